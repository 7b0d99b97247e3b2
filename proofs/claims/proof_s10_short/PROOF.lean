import PyProof.Rows.All
import Wide.All
import OpenK.AllK
import Wide.FinOn
import PyProof.EqAt
import PyProof.EqKinds
import PyProof.TupleCall
import KE.BitLaws
import Open.SpecLaws
import KE.OsHead
import KE.OsGo
import PyProof.StationsW
import PyProof.RulesAs
import PyProof.PassesOwn
import PyProof.ExcClass
import PyProof.InstStoreFacts
import PyProof.InstLoad
import PyProof.ExcArgsOwn
import PyProof.ExcAttrAll.Exception
import PyProof.ExcBaseAll.Exception
import PyProof.ExcInit
import KE.KDictLaws
import KE.KDictList
import KE.KMinBuiltin
import PyProof.Rows.CallKwBuiltin
import PySem.Challenge.RW_moleculeparts_s10_short
set_option Elab.async false
set_option linter.all false
set_option maxRecDepth 100000
set_option maxHeartbeats 4000000
namespace L2
open PySem PySem.Spec PyProof.Rows
abbrev Key:=Sum Int Str
def uz:Key->Value->Bool
 | .inl k,v=>Value.isInt k v
 | .inr x,v=>Value.isStrOf x v
def Ra (w:World):Key->Int
 | .inl k=>hashInt k
 | .inr x=>hashStr w x
theorem d7:∀ {k:Key} {v:Value},uz k v=true->(∃ i t,k=Sum.inl i/\v=Value.int i t)\/(∃ x t,k=Sum.inr x/\v=Value.str x t)
 | .inl i,v,h=>by
   obtain ⟨t,e⟩:=Value.isInt_shape (k:=i) (v:=v) h
   exact .inl ⟨i,t,rfl,e⟩
 | .inr x,v,h=>by
   obtain ⟨t,e⟩:=Value.isStrOf_shape (x:=x) (v:=v) h
   exact .inr ⟨x,t,rfl,e⟩
theorem Fi (i:Int) (t:Tok):uz (.inl i) (.int i t)=true:=by simp [uz,Value.isInt]
theorem Fj (x:Str) (t:Tok):uz (.inr x) (.str x t)=true:=by simp [uz,Value.isStrOf]
theorem MB (a b:Int):decide ((Sum.inl a:Key)=Sum.inl b)=(a==b):=by
 by_cases e:a=b
 . subst e;simp
 . have h:¬ (Sum.inl a:Key)=Sum.inl b:=fun q=>e (Sum.inl.inj q)
   rw [decide_eq_false h]
   exact (beq_eq_false_iff_ne.mpr e).symm
theorem MC (a b:Str):decide ((Sum.inr a:Key)=Sum.inr b)=decide (a=b):=by
 by_cases e:a=b
 . subst e;simp
 . have h:¬ (Sum.inr a:Key)=Sum.inr b:=fun q=>e (Sum.inr.inj q)
   rw [decide_eq_false h,decide_eq_false e]
theorem MD (a:Int) (b:Str):decide ((Sum.inl a:Key)=Sum.inr b)=false:=decide_eq_false (fun q=>nomatch q)
theorem ME (a:Str) (b:Int):decide ((Sum.inr a:Key)=Sum.inl b)=false:=decide_eq_false (fun q=>nomatch q)
def f7 (prog:Program) (w:World):PySem.KeyKind prog w Key where
 is:=uz
 hash:=Ra w
 inj:=fun v a b ha hb=>by
   rcases d7 ha with ⟨i,t,rfl,rfl⟩ | ⟨x,t,rfl,rfl⟩
   . rcases d7 hb with ⟨j,u,rfl,e⟩ | ⟨y,u,rfl,e⟩
     . injection e with e1 _;rw [e1]
     . exact nomatch e
   . rcases d7 hb with ⟨j,u,rfl,e⟩ | ⟨y,u,rfl,e⟩
     . exact nomatch e
     . injection e with e1 _;rw [e1]
 byValue:=fun k v h=>by
   rcases d7 h with ⟨i,t,rfl,rfl⟩ | ⟨x,t,rfl,rfl⟩<;>rfl
 pyHash:=fun hv h=>by
   rcases d7 hv with ⟨i,t,rfl,rfl⟩ | ⟨x,t,rfl,rfl⟩
   . exact wpAny_pyHash_int h
   . exact wpAny_pyHash_str h
 eqBool:=fun hu hv h=>by
   rcases d7 hu with ⟨i,t,rfl,rfl⟩ | ⟨x,t,rfl,rfl⟩
   . rcases d7 hv with ⟨j,u,rfl,rfl⟩ | ⟨y,u,rfl,rfl⟩
     . rw [MB] at h;exact wpAny_eqBool_int h
     . rw [MD] at h;exact SeqAt.EqAt.int_str i t y u _ _ _ _ h
   . rcases d7 hv with ⟨j,u,rfl,rfl⟩ | ⟨y,u,rfl,rfl⟩
     . rw [ME] at h;exact SeqAt.EqAt.str_int x t j u _ _ _ _ h
     . rw [MC] at h;exact wpAny_eqBool_str h
 «strs»:=fun k x t v h=>by
   rcases d7 h with ⟨i,u,rfl,e⟩ | ⟨y,u,rfl,e⟩
   . exact nomatch e
   . injection e with e1 _
     subst e1
     cases v<;>rfl
theorem Bd (prog:Program) (w:World) (i:Int) (t:Tok):(f7 prog w).is (.inl i) (.int i t)=true:=Fi i t
theorem Be (prog:Program) (w:World) (x:Str) (t:Tok):(f7 prog w).is (.inr x) (.str x t)=true:=Fj x t
end L2
namespace L2
open PySem PySem.Spec PyProof.Rows
inductive V where
 | non | bl (b:Bool) | int (i:Int) | str (x:Str) | Bc (b:Array UInt8) | O2 (b:UInt64) | ref (a:Addr) | ty (n:String)
 deriving DecidableEq
def RelV:V->Value->Prop
 | .non,u=>u=Value.none
 | .bl b,u=>u=Value.bool b
 | .int i,u=>∃ t,u=Value.int i t
 | .str x,u=>∃ t,u=Value.str x t
 | .Bc b,u=>∃ t,u=Value.bytes b t
 | .O2 b,u=>∃ t,u=Value.float b t
 | .ref a,u=>u=Value.ref a
 | .ty n,u=>u=Value.type n
abbrev Vals:List V->List Value->Prop:=Paired RelV
theorem Vals.length {xs:List V} {us:List Value} (r:Vals xs us):xs.length=us.length:=Paired.length r
theorem Vals.get:∀ {xs:List V} {us:List Value} {i:Nat} {x:V},Vals xs us->xs[i]?=some x->∃ u,us[i]?=some u/\RelV x u
 | _,_,_,_,.nil,e=>by simp at e
 | _,_,0,_,.cons r _,e=>by simp at e;subst e;exact ⟨_,rfl,r⟩
 | _,_,i+1,x,.cons _ t,e=>by
   obtain ⟨u,h1,h2⟩:=Vals.get (i:=i) (x:=x) t (by simpa using e)
   exact ⟨u,by simpa using h1,h2⟩
theorem Vals.set {x:V} {u:Value} (r:RelV x u):∀ {xs:List V} {us:List Value} (i:Nat),Vals xs us->Vals (xs.set i x) (us.set i u)
 | _,_,_,.nil=>.nil
 | _,_,0,.cons _ t=>.cons r t
 | _,_,i+1,.cons q t=>.cons q (Vals.set r i t)
theorem Vals.append:∀ {xs ys:List V} {us ws:List Value},Vals xs us->Vals ys ws->Vals (xs++ys) (us++ws)
 | _,_,_,_,.nil,s=>s
 | _,_,_,_,.cons r t,s=>.cons r (Vals.append t s)
theorem Vals.take:∀ {xs:List V} {us:List Value} (n:Nat),Vals xs us->Vals (xs.take n) (us.take n)
 | _,_,0,_=>.nil
 | _,_,_+1,.nil=>.nil
 | _,_,n+1,.cons r t=>.cons r (Vals.take n t)
theorem Vals.drop:∀ {xs:List V} {us:List Value} (n:Nat),Vals xs us->Vals (xs.drop n) (us.drop n)
 | _,_,0,r=>r
 | _,_,_+1,.nil=>.nil
 | _,_,n+1,.cons _ t=>Vals.drop n t
def mq:Option V->Option Value->Prop
 | some v,some u=>RelV v u
 | none,none=>True
 | _,_=>False
def KV {κ:Type}:List (κ×V)->List (κ×Value)->Prop:=Paired fun (p:κ×V) (q:κ×Value)=>p.1=q.1/\RelV p.2 q.2
def kV:Key->V
 | .inl i=>.int i
 | .inr x=>.str x
inductive HO where
 | lst (xs:List V)
 | tup (xs:List V)
 | dK (kvs:List (Key×V)) | dT (kvs:List (List Key×V))
 | set (S:Int->Bool) (n:Nat)
 | ins (C dx:Addr) (fs:List (Str×V))
 | own (x:Addr)
 | xd (fs:List (Str×V))
 | met (f x:Addr)
 | Mc (lo hi:Int)
 | jN (o:Obj) (u:HO)
 | Me (ps:Array Value)
 | ext (φ:Heap->Prop)
abbrev Hp:=Addr->Option HO
def upd (H:Hp) (a:Addr) (o:HO):Hp:=fun b=>if b=a then some o else H b
theorem ai {H:Hp} {a:Addr} {o:HO}:upd H a o a=some o:=by unfold upd;rw [if_pos rfl]
theorem ak {H:Hp} {a b:Addr} {o:HO} (h:b ≠ a):upd H a o b=H b:=by unfold upd;rw [if_neg h]
theorem lA {H:Hp} {a:Addr} {o u:HO}:upd (upd H a o) a u=upd H a u:=by
 funext b;unfold upd;split<;>rfl
theorem kg {H:Hp} {a b:Addr} {o u:HO} (h:H a=some o) (h':H b=some u) (d:o ≠ u):a ≠ b:=by
 intro e;subst e;rw [h] at h';exact d (Option.some.inj h')
theorem aq {H:Hp} {a b:Addr} {o:HO} (h:H a=some o) (h':H b=none):a ≠ b:=by
 intro e;subst e;rw [h] at h';cases h'
section
variable (P:Program) (w:World)
def cj (H:Hp) (h:Heap) (a:Addr):HO->Prop
 | .lst xs=>xs.length<=sizeLine/\∃ (its:List Value) (n:Nat),Vals xs its/\h.get? a=some { cls:=.type "list",data:=.seq its.toArray n }
 | .tup xs=>xs.length<=sizeLine/\∃ its:List Value,Vals xs its/\IsTup h a its.toArray
 | .dK kvs=>kvs.length<=sizeLine/\(a==sysModules)=false/\∃ vs,KV kvs vs/\h.DictOf (f7 P w) a vs
 | .dT kvs=>kvs.length<=sizeLine/\(a==sysModules)=false/\∃ xs:List (List Key×Addr×Value),
     Paired (fun (p:List Key×V) (q:List Key×Addr×Value)=>p.1=q.1/\H q.2.1=some (.tup (p.1.map kV))/\RelV p.2 q.2.2) kvs xs /\
     ∃ o es ep,h.get? a=some o/\o.ExactDict/\o.data=.dict es ep/\es.toList=xs.map (entryOfKey (tupleKind (f7 P w)))/\(xs.map (·.1)).Nodup
 | .set S n=>h.SetOf (intKind P w) a S n
 | .ins C dx fs=>H dx=some (.own a)/\fs.length<=1000/\dx ≠ a/\h.get? a=some (PySem.W.instObj C dx) /\
     ∃ mA,h.Ns1 dx mA/\(∀ f,mq (fs.lookup f) (mA f))/\PySem.Within mA (fs.map (·.1))
 | .own _=>∃ o,h.get? a=some o
 | .xd fs=>∃ mA,h.Ns1 a mA/\∀ f,mq (fs.lookup f) (mA f)
 | .Mc lo hi=>∃ t u v,h.get? a=some { cls:=.type "range",data:=.fields #[.int lo t,.int hi u,.int 1 v] }
 | .jN o u=>h.get? a=some o/\cj H h a u
 | .Me ps=>h.get? a=some { cls:=.none,data:=.fields ps }
 | .met f x=>h.get? a=some (PySem.W.methodObj (.ref f) (.ref x))
 | .ext φ=>φ h/\(∃ o,h.get? a=some o)/\∀ h1 h2:Heap,φ h1->(∀ o,h1.get? a=some o->h2.get? a=some o)->φ h2
def nI (H:Hp) (h:Heap):Prop:=∀ a o,H a=some o->cj P w H h a o
end
section
variable {P:Program} {w:World} {H H':Hp} {h h':Heap} {a:Addr} {o:HO}
theorem cj.lt (x:cj P w H h a o):a < h.objs.size:=by
 cases o with
 | lst xs=>obtain ⟨_,_,_,_,e⟩:=x;exact Heap.lt_size e
 | tup xs=>obtain ⟨_,_,_,p⟩:=x;exact p.lt
 | dK kvs=>obtain ⟨_,_,_,_,o,_,_,e,_⟩:=x;exact Heap.lt_size e
 | dT kvs=>obtain ⟨_,_,_,_,o,_,_,e,_⟩:=x;exact Heap.lt_size e
 | set S n=>obtain ⟨o,_,_,_,e,_⟩:=x;exact Heap.lt_size e
 | ins C dx fs=>obtain ⟨_,_,_,e,_⟩:=x;exact Heap.lt_size e
 | own y=>obtain ⟨_,e⟩:=x;exact Heap.lt_size e
 | xd fs=>obtain ⟨_,⟨_,_,_,e,_⟩,_⟩:=x;exact Heap.lt_size e
 | Mc lo hi=>obtain ⟨_,_,_,e⟩:=x;exact Heap.lt_size e
 | jN ob u=>obtain ⟨e,_⟩:=x;exact Heap.lt_size e
 | Me ps=>exact Heap.lt_size (show h.get? a=some _ from x)
 | met f y=>exact Heap.lt_size (show h.get? a=some _ from x)
 | ext φ=>obtain ⟨_,⟨_,e⟩,_⟩:=x;exact Heap.lt_size e
theorem Paired.MF {α β:Type} {F G:α->β->Prop}:∀ {l₁:List α} {l₂:List β},Paired F l₁ l₂->(∀ a b,F a b->G a b)->Paired G l₁ l₂
 | _,_,.nil,_=>.nil
 | _,_,.cons r t,f=>.cons (f _ _ r) (Paired.MF t f)
theorem cj.stay (x:cj P w H h a o) (k:∀ b u,(b=a\/H b=some (.own a))->h.get? b=some u->h'.get? b=some u)
   (ho:∀ b,H b=some (.own a)->H' b=some (.own a)) (ht:∀ b xs,H b=some (.tup xs)->H' b=some (.tup xs)):cj P w H' h' a o:=by
 induction o with
 | lst xs=>obtain ⟨z,its,n,r,e⟩:=x;exact ⟨z,its,n,r,k _ _ (.inl rfl) e⟩
 | tup xs=>obtain ⟨z,its,r,ob,e,c⟩:=x;exact ⟨z,its,r,ob,k _ _ (.inl rfl) e,c⟩
 | dK kvs=>obtain ⟨z,y,vs,r,ob,es,ep,e,c⟩:=x;exact ⟨z,y,vs,r,ob,es,ep,k _ _ (.inl rfl) e,c⟩
 | dT kvs=>
   obtain ⟨z,y,xs,r,ob,es,ep,e,c⟩:=x
   exact ⟨z,y,xs,Paired.MF r fun p q z=>⟨z.1,ht _ _ z.2.1,z.2.2⟩,ob,es,ep,k _ _ (.inl rfl) e,c⟩
 | set S n=>obtain ⟨ob,es,ep,t,e,c⟩:=x;exact ⟨ob,es,ep,t,k _ _ (.inl rfl) e,c⟩
 | ins C dx fs=>
   obtain ⟨d,z,ne,e,mA,⟨od,es,ep,e2,c⟩,r⟩:=x
   exact ⟨ho _ d,z,ne,k _ _ (.inl rfl) e,mA,⟨od,es,ep,k _ _ (.inr d) e2,c⟩,r⟩
 | own y=>obtain ⟨ob,e⟩:=x;exact ⟨ob,k _ _ (.inl rfl) e⟩
 | xd fs=>obtain ⟨mA,⟨od,es,ep,e,c⟩,r⟩:=x;exact ⟨mA,⟨od,es,ep,k _ _ (.inl rfl) e,c⟩,r⟩
 | Mc lo hi=>obtain ⟨t,u,v,e⟩:=x;exact ⟨t,u,v,k _ _ (.inl rfl) e⟩
 | jN ob u ih=>obtain ⟨e,q⟩:=x;exact ⟨k _ _ (.inl rfl) e,ih q⟩
 | Me ps=>
   have e:h.get? a=some { cls:=.none,data:=.fields ps }:=x
   show h'.get? a=some { cls:=.none,data:=.fields ps }
   exact k a _ (.inl rfl) e
 | met f y=>
   have e:h.get? a=some (PySem.W.methodObj (.ref f) (.ref y)):=x
   show h'.get? a=some (PySem.W.methodObj (.ref f) (.ref y))
   exact k a _ (.inl rfl) e
 | ext φ=>obtain ⟨p,⟨o,e⟩,st⟩:=x;exact ⟨st _ _ p fun o q=>k _ _ (.inl rfl) q,⟨o,k _ _ (.inl rfl) e⟩,st⟩
theorem nI.lt (x:nI P w H h) (e:H a=some o):a < h.objs.size:=(x a o e).lt
theorem nI.fresh (x:nI P w H h) (e:h.objs.size<=a):H a=none:=by
 cases q:H a with
 | none=>rfl
 | some u=>exact absurd (Nat.lt_of_lt_of_le (x.lt q) e) (Nat.lt_irrefl _)
theorem nI.kept (x:nI P w H h) (k:∀ b u,h.get? b=some u->h'.get? b=some u):nI P w H h':=fun a o e=>
 (x a o e).stay (fun b u _ q=>k b u q) (fun _ q=>q) fun _ _ q=>q
theorem nI.laid (x:nI P w H h) (k:∀ b u,h.get? b=some u->h'.get? b=some u) (hp:h.objs.size<=a) (new:cj P w (upd H a o) h' a o):nI P w (upd H a o) h':=fun b u e=>by
 have hn:=x.fresh hp
 by_cases hb:b=a
 . subst hb;rw [ai] at e;cases e;exact new
 . rw [ak hb] at e
   exact (x b u e).stay (fun c v _ q=>k c v q) (fun c q=>by rw [ak (aq q hn)];exact q) fun c xs q=>by rw [ak (aq q hn)];exact q
end
def Rd (H:Hp) (a:Addr) (u:HO):Prop:=H a=some u\/∃ o,H a=some (.jN o u)
theorem Rd.ok {P:Program} {w:World} {H:Hp} {h:Heap} {a:Addr} {u:HO} (r:Rd H a u) (x:nI P w H h):cj P w H h a u:=by
 rcases r with r | ⟨o,r⟩
 . exact x a u r
 . obtain ⟨_,q⟩:=x a _ r
   exact q
def Mf:Option HO->Prop
 | some (.lst _)=>True
 | some (.dK _)=>True
 | some (.dT _)=>True
 | some (.set _ _)=>True
 | some (.ins _ _ _)=>True
 | some (.ext _)=>True
 | _=>False
section
variable {P:Program} {w:World} {H:Hp} {h h':Heap} {x e:Addr} {o':HO}
theorem nI.write (ok:nI P w H h) (mu:Mf (H x)) (he:e=x\/H e=some (.own x)) (k:∀ b u,b ≠ e->h.get? b=some u->h'.get? b=some u) (O3:∃ u,h'.get? e=some u)
   (new:cj P w (upd H x o') h' x o'):nI P w (upd H x o') h':=fun b u q=>by
 have OE:∀ c y,H c=some (.own y)->c ≠ x:=fun c y r z=>by subst z;rw [r] at mu;exact mu
 have Rb:∀ c xs,H c=some (.tup xs)->c ≠ x:=fun c xs r z=>by subst z;rw [r] at mu;exact mu
 by_cases hb:b=x
 . subst hb;rw [ai] at q;cases q;exact new
 . rw [ak hb] at q
   by_cases MG:b=e
   . have q':H b=some (.own x):=by
       rcases he with z | z
       . exact absurd (MG.trans z) hb
       . rw [MG];exact z
     rw [q] at q';cases q'
     obtain ⟨v,hv⟩:=O3
     exact ⟨v,by rw [MG];exact hv⟩
   . refine (ok b u q).stay (fun c v hc r=>k c v ?_ r) (fun c r=>by rw [ak (OE c b r)];exact r) fun c xs r=>by rw [ak (Rb c xs r)];exact r
     rcases hc with rfl | hc
     . exact MG
     . rintro rfl
       rcases he with z | z
       . exact OE c b hc z
       . rw [hc] at z;cases z;exact hb rfl
end
structure Un (fs ex:List Addr) (H H':Hp) (h h':Heap):Prop where
 keep:∀ b o,h.get? b=some o->H b=none->b ∉ fs->b ∉ ex->h'.get? b=some o
 slot:∀ b o,h.get? b=some o->H b=none->b ∈ fs->b ∉ ex->∃ sl,h'.get? b=some { o with slots:=sl }
 free:∀ b o,h.get? b=some o->H b=none->b ∉ ex->H' b=none
 there:∀ b o,h.get? b=some o->b ∉ ex->∃ o',h'.get? b=some o'
 tups:∀ b xs,H b=some (.tup xs)->H' b=some (.tup xs)
 qZ:∀ b o u,H b=some (.jN o u)->H' b=some (.jN o u)
 tE:∀ b ps,H b=some (.Me ps)->∃ more,H' b=some (.Me (ps++more))
section
variable {fs fs' ex ex':List Addr} {H H1 H2:Hp} {h h1 h2 h':Heap} {a x e:Addr} {o:HO}
theorem Un.any (u:Un fs ex H H1 h h1) {b:Addr} {ob:Obj} (q:h.get? b=some ob) (n:H b=none) (hx:b ∉ ex):∃ sl,h1.get? b=some { ob with slots:=sl }:=by
 by_cases hb:b ∈ fs
 . exact u.slot b ob q n hb hx
 . exact ⟨ob.slots,u.keep b ob q n hb hx⟩
theorem Un.kept (k:∀ b u,h.get? b=some u->h'.get? b=some u):Un fs ex H H h h':=
 ⟨fun b ob q _ _ _=>k b ob q,fun b ob q _ _ _=>⟨ob.slots,k b ob q⟩,fun _ _ _ n _=>n,fun b ob q _=>⟨ob,k b ob q⟩,fun _ _ q=>q,fun _ _ _ q=>q,fun _ ps q=>⟨#[],by rw [q];simp⟩⟩
theorem Un.refl:Un fs ex H H h h:=Un.kept fun _ _ q=>q
theorem Un.laid (k:∀ b u,h.get? b=some u->h'.get? b=some u) (hp:h.objs.size<=a) (hn:H a=none):Un fs ex H (upd H a o) h h' where
 keep:=fun b u q _ _ _=>k b u q
 slot:=fun b u q _ _ _=>⟨u.slots,k b u q⟩
 free:=fun b u q n _=>by rw [ak (Nat.ne_of_lt (Nat.lt_of_lt_of_le (Heap.lt_size q) hp))];exact n
 there:=fun b u q _=>⟨u,k b u q⟩
 tups:=fun b xs q=>by rw [ak (aq q hn)];exact q
 qZ:=fun b u xs q=>by rw [ak (aq q hn)];exact q
 tE:=fun b ps q=>⟨#[],by rw [ak (aq q hn),q];simp⟩
theorem Un.write (mu:Mf (H x)) (he:e=x\/H e=some (.own x)) (k:∀ b u,b ≠ e->h.get? b=some u->h'.get? b=some u) (O3:∃ u,h'.get? e=some u):Un fs ex H (upd H x o) h h':=by
 have hx:∀ b,H b=none->b ≠ x:=fun b n z=>by subst z;rw [n] at mu;exact mu
 have hb:∀ b,H b=none->b ≠ e:=fun b n z=>by
   subst z
   rcases he with r | r
   . exact hx b n r
   . rw [n] at r;cases r
 have hm:∀ b u,H b=some u->¬ Mf (some u)->b ≠ x:=fun b u q nm z=>by subst z;rw [q] at mu;exact nm mu
 refine ⟨fun b u q n _ _=>k b u (hb b n) q,fun b u q n _ _=>⟨u.slots,k b u (hb b n) q⟩,fun b u q n _=>by rw [ak (hx b n)];exact n,fun b u q _=>?_,
   fun b xs q=>by rw [ak (hm b _ q fun z=>z)];exact q,fun b u xs q=>by rw [ak (hm b _ q fun z=>z)];exact q,fun b ps q=>⟨#[],by rw [ak (hm b _ q fun z=>z),q];simp⟩⟩
 by_cases MG:b=e
 . subst MG;exact O3
 . exact ⟨u,k b u MG q⟩
end
def QD (h:Heap) (H:Hp):List Addr:=(List.range h.objs.size).filter fun a=>(H a).isSome
def z0 (h:Heap) (H:Hp):Heap:=PySem.W.hideAll h (QD h H)
theorem Fl (h:Heap) (H:Hp):(z0 h H).objs.size=h.objs.size:=PySem.W.hideAll_size _ _
theorem Hw {h:Heap} {H:Hp} {b:Addr} {o:Obj} (e:h.get? b=some o) (n:H b=none):(z0 h H).get? b=some o:=
 PySem.W.hideAll_get _ e fun hm=>by
   have q:(H b).isSome=true:=(List.mem_filter.mp hm).2
   rw [n] at q;simp at q
theorem Kg {h:Heap} {H:Hp} {b:Addr} {o:Obj} (e:(z0 h H).get? b=some o):h.get? b=some o/\H b=none:=by
 have e':h.get? b=some o:=PySem.W.of_hideAll (QD h H) e
 refine ⟨e',?_⟩
 cases q:H b with
 | none=>rfl
 | some x=>
   have hm:b ∈ QD h H:=List.mem_filter.mpr ⟨List.mem_range.mpr (Heap.lt_size e'),by simp [q]⟩
   have z:(z0 h H).get? b=none:=PySem.W.hideAll_none (QD h H) hm
   rw [z] at e;cases e
end L2
namespace L2
open PySem PySem.Spec PyProof.Rows
structure Mod (K:PySem.W.Frag) (mg:Str->Option Value) (base:Heap):Prop where
 kin:K.In base
 glob:base.Ns mainGlobals mg
 blt:∃ mb,base.Ns builtinsNs mb/\∀ x:Str,x ≠ "__name__"->mb x=bootBuiltins x
 nolimit:base.NoLimit
structure Cx where
 prog:Program
 w:World
 K:PySem.W.Frag
 mg:Str->Option Value
 base:Heap
 A:Around
 N:List Str
 t9:Shared
 MH:Hp
 env:Env
 outer:List Env
 stack:List Env
 ex:List Addr
 fn:Str->Bool
 calm:Bool
 pn:List (Addr×Obj)
 xe:Value->Shared->Prop
def frs (l:List Env):List Addr:=l.filterMap (·.frame)
abbrev Cx.fs (X:Cx):List Addr:=frs X.outer
def MI (sc:Scope) (x:Str):Prop:=sc.names.lookup x=some .local\/sc.names.lookup x=some .cell\/sc.names.lookup x=some .free
def Loc (sc:Scope) (x:Str):Prop:=sc.names.lookup x=some .local\/sc.names.lookup x=some .cell
def Look (env:Env) (h:Heap) (m:Str->Option Value) (x:Str) (u:Value):Prop:=
 (env.kindOf x=some .local/\m x=some u)\/((env.kindOf x=some .cell\/env.kindOf x=some .free)/\∃ c,env.cells.lookup x=some c/\h.IsCell c (some u))
structure Cx.Ok (X:Cx):Prop where
 mod:Mod X.K X.mg X.base
 kind:X.env.scope.kind=.function
 glob:X.env.globals=mainGlobals
 blt:X.env.builtins=builtinsNs
 above:X.t9.heap.objs.size<=X.env.locals
 inj:∀ x y c,X.env.cells.lookup x=some c->X.env.cells.lookup y=some c->x=y
 has:∀ x,(X.env.kindOf x=some .cell\/X.env.kindOf x=some .free)->∃ c,X.env.cells.lookup x=some c
 Mg:∀ x c,X.fn x=true->X.env.cells.lookup x=some c->X.t9.heap.objs.size<=c
 hd:X.calm=true->X.A.handled=none
 frames:X.A.frames=some X.stack
 Kh:X.stack=X.outer\/(X.stack=X.env::X.outer/\X.env.frame=some X.env.locals)
 MJ:∀ b ∈ X.ex,b ≠ X.env.locals/\∀ x c,X.env.cells.lookup x=some c->c ≠ b
 bs:∀ b o,X.base.get? b=some o->X.t9.heap.get? b=some o/\X.MH b=none
 Fo:X.base.objs.size<=X.t9.heap.objs.size
 Bf:∀ b o,X.base.get? b=some o->b ∉ X.ex
 Bg:∀ b ∈ X.ex,b ∉ X.fs
 qC:X.t9.heap.FunFrames X.base X.outer
 Hy:∀ b ∈ X.fs,X.MH b=none
structure Inv (X:Cx) (pins:List (Addr×Obj)) (σ:List (Option V)) (H:Hp) (s:Shared):Prop where
 ok:X.Ok
 os:s.os=X.t9.os
 bare:AllBare s.gens
 base:Un X.fs X.ex X.MH H X.t9.heap s.heap
 loc:∃ m,s.heap.Ns X.env.locals m/\∀ (i:Nat) (x:Str) (v:V),X.N[i]?=some x->σ[i]?=some (some v)->MI X.env.scope x->∃ u,RelV v u/\Look X.env s.heap m x u
 cell:∀ x c,X.env.cells.lookup x=some c->∃ v,s.heap.IsCell c v
 free:H X.env.locals=none
 gG:∀ x c,X.env.cells.lookup x=some c->H c=none
 pin:∀ p ∈ X.pn++pins,s.heap.get? p.1=some p.2/\H p.1=none/\p.1 ≠ X.env.locals/\p.1 ∉ X.fs/\∀ v,p.2.data ≠ .cell v
 hok:nI X.prog X.w H s.heap
 len:σ.length=X.N.length
section
variable {X:Cx} {pins:List (Addr×Obj)} {σ:List (Option V)} {H H':Hp} {s:Shared} {h':Heap}
theorem Cx.Ok.Rc (ok:X.Ok) {b:Addr} {o:Obj} (e:X.base.get? b=some o):b ∉ X.fs:=fun hb=>by
 have:=(ok.qC.mem hb).1
 rw [e] at this;cases this
theorem Inv.bs (I:Inv X pins σ H s):∀ b o,X.base.get? b=some o->s.heap.get? b=some o/\H b=none:=fun b o e=>
 ⟨I.base.keep b o (I.ok.bs b o e).1 (I.ok.bs b o e).2 (I.ok.Rc e) (I.ok.Bf b o e),I.base.free b o (I.ok.bs b o e).1 (I.ok.bs b o e).2 (I.ok.Bf b o e)⟩
theorem Inv.bk (I:Inv X pins σ H s):∀ b o,X.base.get? b=some o->s.heap.get? b=some o:=fun b o e=>(I.bs b o e).1
theorem Inv.mod (I:Inv X pins σ H s):Mod X.K X.mg X.base:=I.ok.mod
theorem Inv.qN (I:Inv X pins σ H s):X.K.In s.heap:=I.ok.mod.kin.keeps I.bk
theorem Inv.lt (I:Inv X pins σ H s):X.env.locals < s.heap.objs.size:=let ⟨_,hn,_⟩:=I.loc;hn.lt
theorem Inv.sz (I:Inv X pins σ H s):X.t9.heap.objs.size<=s.heap.objs.size:=Nat.le_trans I.ok.above (Nat.le_of_lt I.lt)
theorem Inv.Rf (I:Inv X pins σ H s) {a:Addr} (h:s.heap.objs.size<=a):a ∉ X.fs:=fun hb=>by
 obtain ⟨_,o,ho,_⟩:=I.ok.qC.mem hb
 exact absurd (Nat.lt_of_lt_of_le (Heap.lt_size ho) (Nat.le_trans I.sz h)) (Nat.lt_irrefl _)
theorem Inv.Kc (I:Inv X pins σ H s):∀ x c,X.env.cells.lookup x=some c->c ≠ X.env.locals:=fun x c e z=>by
 obtain ⟨v,o,ho,hd⟩:=I.cell x c e
 obtain ⟨m,⟨o',es,ep,ho',hd',_⟩,_⟩:=I.loc
 rw [z,ho'] at ho;cases ho;rw [hd'] at hd;cases hd
theorem Inv.qC (I:Inv X pins σ H s):s.heap.FunFrames X.base X.outer:=by
 have all:∀ (l:List Env),(∀ b ∈ frs l,b ∈ X.fs)->X.t9.heap.FunFrames X.base l->s.heap.FunFrames X.base l:=by
   intro l
   induction l with
   | nil=>intro _ _;trivial
   | cons env r ih=>
     intro hs hl
     obtain ⟨hk,⟨L,o,hf,hn,ho,hd⟩,hr⟩:=hl
     have hL:L ∈ X.fs:=hs L (by unfold frs;rw [List.filterMap_cons,hf];exact List.mem_cons_self)
     obtain ⟨sl,e⟩:=I.base.slot L o ho (I.ok.Hy L hL) hL fun z=>I.ok.Bg L z hL
     exact ⟨hk,⟨L,_,hf,hn,e,hd⟩,ih (fun b hb=>hs b (by unfold frs;rw [List.filterMap_cons,hf];exact List.mem_cons_of_mem _ hb)) hr⟩
 exact all X.outer (fun _ hb=>hb) I.ok.qC
theorem Inv.stack (I:Inv X pins σ H s):s.heap.FunFrames X.base X.stack:=by
 rcases I.ok.Kh with e | ⟨e,hf⟩
 . rw [e];exact I.qC
 . rw [e]
   obtain ⟨m,hn,_⟩:=I.loc
   refine .cons (by rw [I.ok.kind];decide) hf hn ?_ I.qC
   exact Heap.get?_none_of_le (Nat.le_trans I.ok.Fo I.ok.above)
theorem Inv.De (I:Inv X pins σ H s):∀ b ∈ frs X.stack,b ∈ X.env.locals::X.fs:=fun b hb=>by
 rcases I.ok.Kh with e | ⟨e,hf⟩
 . rw [e] at hb;exact List.mem_cons_of_mem _ hb
 . rw [e] at hb
   unfold frs at hb
   rw [List.filterMap_cons,hf] at hb
   exact hb
theorem Inv.z6 (I:Inv X pins σ H s):∀ b ∈ frs X.stack,H b=none:=fun b hb=>by
 rcases List.mem_cons.mp (I.De b hb) with e | hb
 . rw [e];exact I.free
 . obtain ⟨_,o,ho,_⟩:=I.ok.qC.mem hb
   exact I.base.free b o ho (I.ok.Hy b hb) fun z=>I.ok.Bg b z hb
theorem Inv.step {g':Array GenState} {t':Nat} {d':Drawn} {ch:List Addr} (I:Inv X pins σ H s)
   (hch:∀ b ∈ ch,(b ∈ X.ex\/X.t9.heap.objs.size<=b)/\b ≠ X.env.locals/\(∀ x c,X.env.cells.lookup x=some c->c ≠ b)/\∀ p ∈ X.pn++pins,p.1 ≠ b)
   (keep:∀ b o,b ≠ X.env.locals->b ∉ X.fs->b ∉ ch->s.heap.get? b=some o->H b=none->h'.get? b=some o)
   (slot:∀ b o,b ≠ X.env.locals->b ∈ X.fs->b ∉ ch->s.heap.get? b=some o->H b=none->∃ sl,h'.get? b=some { o with slots:=sl }) (free:∀ b o,b ∉ ch->s.heap.get? b=some o->H b=none->H' b=none)
   (there:∀ b o,b ∉ ch->s.heap.get? b=some o->∃ o',h'.get? b=some o')
   (tups:∀ b xs,H b=some (.tup xs)->H' b=some (.tup xs)) (qZ:∀ b o u,H b=some (.jN o u)->H' b=some (.jN o u)) (tE:∀ b ps,H b=some (.Me ps)->∃ more,H' b=some (.Me (ps++more)))
   (ns:∀ m,s.heap.Ns X.env.locals m->h'.Ns X.env.locals m) (hok:nI X.prog X.w H' h') (hg:AllBare g') :
   Inv X pins σ H' { s with heap:=h',gens:=g',drawn:=d',toks:=t' }:=by
 have Kl:∀ b o,X.t9.heap.get? b=some o->b ≠ X.env.locals:=fun b o e=>Nat.ne_of_lt (Nat.lt_of_lt_of_le (Heap.lt_size e) I.ok.above)
 have Mh:∀ b o,X.t9.heap.get? b=some o->b ∉ X.ex->b ∉ ch:=fun b o e hx hb=>by
   rcases (hch b hb).1 with z | z
   . exact hx z
   . exact absurd (Nat.lt_of_lt_of_le (Heap.lt_size e) z) (Nat.lt_irrefl _)
 have cellK:∀ x c,X.env.cells.lookup x=some c->∀ v,s.heap.IsCell c v->h'.IsCell c v:=fun x c e v ⟨o,ho,hd⟩=>by
   have Mi:c ∉ ch:=fun z=>(hch c z).2.2.1 x c e rfl
   by_cases hc:c ∈ X.fs
   . obtain ⟨sl,q⟩:=slot c o (I.Kc x c e) hc Mi ho (I.gG x c e)
     exact ⟨_,q,hd⟩
   . exact ⟨o,keep c o (I.Kc x c e) hc Mi ho (I.gG x c e),hd⟩
 refine ⟨I.ok,I.os,hg,⟨fun b o e n hb hx=>?_,fun b o e n hb hx=>?_,fun b o e n hx=>?_,fun b o e hx=>?_,fun b xs e=>tups b xs (I.base.tups b xs e),fun b o xs e=>qZ b o xs (I.base.qZ b o xs e),fun b ps e=>?_⟩,?_,fun x c e=>?_,?_,fun x c e=>?_,fun p hp=>?_,hok,I.len⟩
 . exact keep b o (Kl b o e) hb (Mh b o e hx) (I.base.keep b o e n hb hx) (I.base.free b o e n hx)
 . obtain ⟨sl,e1⟩:=I.base.slot b o e n hb hx
   obtain ⟨sl',e2⟩:=slot b _ (Kl b o e) hb (Mh b o e hx) e1 (I.base.free b o e n hx)
   exact ⟨sl',e2⟩
 . obtain ⟨o',e1⟩:=I.base.there b o e hx
   exact free b o' (Mh b o e hx) e1 (I.base.free b o e n hx)
 . obtain ⟨o',e1⟩:=I.base.there b o e hx
   exact there b o' (Mh b o e hx) e1
 . obtain ⟨m1,e1⟩:=I.base.tE b ps e
   obtain ⟨m2,e2⟩:=tE b _ e1
   exact ⟨m1++m2,by rw [e2,Array.append_assoc]⟩
 . obtain ⟨m,hn,hl⟩:=I.loc
   refine ⟨m,ns m hn,fun i x v e1 e2 e3=>?_⟩
   obtain ⟨u,r,l⟩:=hl i x v e1 e2 e3
   refine ⟨u,r,?_⟩
   rcases l with l | ⟨k,c,e,z⟩
   . exact .inl l
   . exact .inr ⟨k,c,e,cellK x c e _ z⟩
 . obtain ⟨v,z⟩:=I.cell x c e
   exact ⟨v,cellK x c e v z⟩
 . obtain ⟨m,⟨o,_,_,ho,_⟩,_⟩:=I.loc
   exact free _ o (fun z=>(hch _ z).2.1 rfl) ho I.free
 . obtain ⟨v,o,ho,hd⟩:=I.cell x c e
   exact free c o (fun z=>(hch c z).2.2.1 x c e rfl) ho (I.gG x c e)
 . obtain ⟨e,n,ne,nf,d⟩:=I.pin p hp
   have Mi:p.1 ∉ ch:=fun z=>(hch p.1 z).2.2.2 p hp rfl
   exact ⟨keep p.1 p.2 ne nf Mi e n,free p.1 p.2 Mi e n,ne,nf,d⟩
theorem Inv.un {t':Nat} (I:Inv X pins σ H s) (u:Un X.fs [] H H' s.heap h') (hok:nI X.prog X.w H' h'):Inv X pins σ H' { s with heap:=h',toks:=t' }:=by
 obtain ⟨m,⟨o,es,ep,ho,r⟩,_⟩:=id I.loc
 obtain ⟨sl,hL⟩:=u.any ho I.free (by simp)
 exact I.step (g':=s.gens) (d':=s.drawn) (ch:=[]) (fun _ z=>nomatch z) (fun b o _ hb _ e n=>u.keep b o e n hb (by simp)) (fun b o _ hb _ e n=>u.slot b o e n hb (by simp)) (fun b o _ e n=>u.free b o e n (by simp)) (fun b o _ e=>u.there b o e (by simp)) u.tups u.qZ u.tE (fun m' hm=>by
   obtain ⟨o',es',ep',ho',r'⟩:=hm
   rw [ho] at ho';cases ho'
   exact ⟨_,es',ep',hL,r'⟩) hok I.bare
theorem Inv.call {g':Array GenState} {t':Nat} {d':Drawn} {ch:List Addr} (I:Inv X pins σ H s) (u:Un (frs X.stack) ch H H' s.heap h') (hok:nI X.prog X.w H' h') (hg:AllBare g')
   (hch:∀ b ∈ ch,(b ∈ X.ex\/X.t9.heap.objs.size<=b)/\b ≠ X.env.locals/\(∀ x c,X.env.cells.lookup x=some c->c ≠ b)/\∀ p ∈ X.pn++pins,p.1 ≠ b) :
   Inv X pins σ H' { s with heap:=h',gens:=g',drawn:=d',toks:=t' }:=by
 obtain ⟨m,⟨o,es,ep,ho,r⟩,_⟩:=id I.loc
 obtain ⟨sl,hL⟩:=u.any ho I.free fun z=>(hch _ z).2.1 rfl
 exact I.step (ch:=ch) hch (fun b o hL hb hc e n=>u.keep b o e n (fun z=>(List.mem_cons.mp (I.De b z)).elim hL hb) hc) (fun b o _ _ hc e n=>u.any e n hc) (fun b o hc e n=>u.free b o e n hc) (fun b o hc e=>u.there b o e hc) u.tups u.qZ u.tE (fun m' hm=>by
   obtain ⟨o',es',ep',ho',r'⟩:=hm
   rw [ho] at ho';cases ho'
   exact ⟨_,es',ep',hL,r'⟩) hok hg
theorem Inv.turned {t':Nat} {it:Addr} (I:Inv X pins σ H s) (k:∀ b o,b ≠ it->s.heap.get? b=some o->h'.get? b=some o) (hn:H it=none) (hL:it ≠ X.env.locals)
   (h1:it ∈ X.ex\/X.t9.heap.objs.size<=it) (h2:∀ x c,X.env.cells.lookup x=some c->c ≠ it) (h3:∀ p ∈ X.pn++pins,p.1 ≠ it):Inv X pins σ H { s with heap:=h',toks:=t' }:=by
 have OG:∀ b u,H b=some u->b ≠ it:=fun b u e z=>by rw [z,hn] at e;cases e
 refine I.step (g':=s.gens) (d':=s.drawn) (ch:=[it]) (fun b hb=>?_) (fun b o _ _ hc e _=>k b o (fun z=>hc (by simp [z])) e) (fun b o _ _ hc e _=>⟨o.slots,k b o (fun z=>hc (by simp [z])) e⟩) (fun _ _ _ _ n=>n)
   (fun b o hc e=>⟨o,k b o (fun z=>hc (by simp [z])) e⟩) (fun _ _ e=>e) (fun _ _ _ e=>e) (fun b ps e=>⟨#[],by rw [e];simp⟩) (fun m hm=>?_) (fun b u e=>?_) I.bare
 . have e:b=it:=by simpa using hb
   subst e
   exact ⟨h1,hL,h2,h3⟩
 . obtain ⟨o,es,ep,ho,r⟩:=hm
   exact ⟨o,es,ep,k _ o (Ne.symm hL) ho,r⟩
 . refine (I.hok b u e).stay (fun c v hc q=>k c v ?_ q) (fun _ q=>q) fun _ _ q=>q
   rcases hc with z | z
   . rw [z];exact OG b u e
   . exact OG c _ z
theorem Inv.tok (I:Inv X pins σ H s) (t:Nat):Inv X pins σ H { s with toks:=t }:=I.un (h':=s.heap) (t':=t) Un.refl I.hok
theorem Inv.kept {t':Nat} (I:Inv X pins σ H s) (k:∀ b u,s.heap.get? b=some u->h'.get? b=some u):Inv X pins σ H { s with heap:=h',toks:=t' }:=I.un (Un.kept k) (I.hok.kept k)
theorem Inv.laid {a:Addr} {o:HO} {t':Nat} (I:Inv X pins σ H s) (k:∀ b u,s.heap.get? b=some u->h'.get? b=some u) (hp:s.heap.objs.size<=a) (new:cj X.prog X.w (upd H a o) h' a o) :
   Inv X pins σ (upd H a o) { s with heap:=h',toks:=t' }:=I.un (Un.laid k hp (I.hok.fresh hp)) (I.hok.laid k hp new)
theorem Inv.write {x e:Addr} {o:HO} {t':Nat} (I:Inv X pins σ H s) (mu:Mf (H x)) (he:e=x\/H e=some (.own x)) (k:∀ b u,b ≠ e->s.heap.get? b=some u->h'.get? b=some u) (O3:∃ u,h'.get? e=some u)
   (new:cj X.prog X.w (upd H x o) h' x o):Inv X pins σ (upd H x o) { s with heap:=h',toks:=t' }:=I.un (Un.write mu he k O3) (I.hok.write mu he k O3 new)
theorem Inv.weak {σ':List (Option V)} (I:Inv X pins σ H s) (hl:σ'.length=σ.length) (w:∀ (i:Nat) v,σ'[i]?=some (some v)->σ[i]?=some (some v)):Inv X pins σ' H s:=
 ⟨I.ok,I.os,I.bare,I.base,let ⟨m,hn,hl'⟩:=I.loc;⟨m,hn,fun i x v e1 e2 e3=>hl' i x v e1 (w i v e2) e3⟩,I.cell,I.free,I.gG,I.pin,I.hok,hl.trans I.len⟩
theorem Inv.Ec {pins':List (Addr×Obj)} (I:Inv X pins σ H s) (h:∀ p ∈ pins',s.heap.get? p.1=some p.2/\H p.1=none/\p.1 ≠ X.env.locals/\p.1 ∉ X.fs/\∀ v,p.2.data ≠ .cell v):Inv X pins' σ H s:=
 ⟨I.ok,I.os,I.bare,I.base,I.loc,I.cell,I.free,I.gG,fun p hp=>(List.mem_append.mp hp).elim (fun z=>I.pin p (List.mem_append_left _ z)) (h p),I.hok,I.len⟩
theorem wc {N:List Str} (hN:N.Nodup) {i j:Nat} {x:Str} (a:N[i]?=some x) (b:N[j]?=some x):i=j:=by
 obtain ⟨h1,e1⟩:=List.getElem?_eq_some_iff.mp a
 obtain ⟨h2,e2⟩:=List.getElem?_eq_some_iff.mp b
 exact (List.getElem_inj hN).mp (e1.trans e2.symm)
theorem tF {M:Model} {A:Around} {E:Value->Shared->Prop} {i:Nat} {x:Str} {v:V} {u:Value} {Q:Unit->Shared->Prop} (I:Inv X pins σ H s) (hN:X.N.Nodup) (hi:X.N[i]?=some x) (hx:Loc X.env.scope x) (r:RelV v u)
   (h:∀ s',Inv X pins (σ.set i (some v)) H s'->(∃ a,Heap.SameBut a s.heap s'.heap/\(a=X.env.locals\/X.env.cells.lookup x=some a))->Q () s') (hf:X.fn x=true\/X.env.scope.names.lookup x=some .local:=by first | exact .inl rfl | exact .inr rfl | assumption):wpAny M A (storeName X.env x u) Q E s:=by
 obtain ⟨m,hn,hl⟩:=id I.loc
 have hcls:(X.env.scope.kind==.class||(X.env.scope.kind==.module&&X.env.locals != X.env.globals))=false:=by rw [I.ok.kind];rfl
 have hiσ:i < σ.length:=by rw [I.len];exact (List.getElem?_eq_some_iff.mp hi).1
 have Kc:=I.Kc
 have tracked:∀ {a:Addr} {h':Heap},(∃ o,s.heap.get? a=some o/\H a=none)->Heap.SameBut a s.heap h'->nI X.prog X.w H h':=fun {a h'} ha hs b ob e=>by
   obtain ⟨_,_,hfree⟩:=ha
   refine (I.hok b ob e).stay (fun c w' hc q=>(hs.2 c ?_).trans q) (fun _ q=>q) fun _ _ q=>q
   rintro rfl
   rcases hc with rfl | hc
   . rw [hfree] at e;cases e
   . rw [hfree] at hc;cases hc
 rcases hx with hk | hk
 . refine wpAny_storeName_local hk hn (fun h' hn' hs=>?_) hcls
   obtain ⟨oL,_,_,UI,_⟩:=id hn
   refine h _ ⟨I.ok,I.os,I.bare,⟨fun b o e n hb hx=>?_,fun b o e n hb hx=>?_,I.base.free,fun b o e hx=>?_,I.base.tups,I.base.qZ,I.base.tE⟩,⟨_,hn',fun j y v' e1 e2 e3=>?_⟩,fun y c e=>?_,I.free,I.gG,fun p hp=>?_,tracked ⟨oL,UI,I.free⟩ hs,by simpa using I.len⟩ ⟨_,hs,.inl rfl⟩
   . exact (hs.2 b (Nat.ne_of_lt (Nat.lt_of_lt_of_le (Heap.lt_size e) I.ok.above))).trans (I.base.keep b o e n hb hx)
   . obtain ⟨sl,e1⟩:=I.base.slot b o e n hb hx
     exact ⟨sl,(hs.2 b (Nat.ne_of_lt (Nat.lt_of_lt_of_le (Heap.lt_size e) I.ok.above))).trans e1⟩
   . obtain ⟨o',e1⟩:=I.base.there b o e hx
     exact ⟨o',(hs.2 b (Nat.ne_of_lt (Nat.lt_of_lt_of_le (Heap.lt_size e) I.ok.above))).trans e1⟩
   . by_cases hj:j=i
     . subst hj
       rw [hi] at e1;cases e1
       rw [List.getElem?_set_self hiσ] at e2
       cases e2
       exact ⟨u,r,.inl ⟨hk,by simp⟩⟩
     . rw [List.getElem?_set_ne (Ne.symm hj)] at e2
       obtain ⟨u',r',q⟩:=hl j y v' e1 e2 e3
       refine ⟨u',r',?_⟩
       rcases q with ⟨k,e⟩ | ⟨k,c,e,z⟩
       . refine .inl ⟨k,?_⟩
         have:y ≠ x:=fun e=>hj (wc hN e1 (e ▸ hi))
         simp [this,e]
       . exact .inr ⟨k,c,e,z.sameBut hs (Kc y c e)⟩
   . obtain ⟨w',z⟩:=I.cell y c e
     exact ⟨w',z.sameBut hs (Kc y c e)⟩
   . obtain ⟨e,n,ne,nf,d⟩:=I.pin p hp
     exact ⟨(hs.2 p.1 ne).trans e,n,ne,nf,d⟩
 . have hfn:X.fn x=true:=by
     rcases hf with z | z
     . exact z
     . rw [z] at hk;cases hk
   obtain ⟨c,hc⟩:=I.ok.has x (.inl hk)
   obtain ⟨w',z⟩:=I.cell x c hc
   refine wpAny_storeName_cell I.ok.kind hk hc z (fun h' hc' hs=>?_)
   obtain ⟨oc,hoc,Rg⟩:=id z
   refine h { s with heap:=h' } ⟨I.ok,I.os,I.bare,⟨fun b o e n hb hx=>?_,fun b o e n hb hx=>?_,I.base.free,fun b o e hx=>?_,I.base.tups,I.base.qZ,I.base.tE⟩,⟨m,hn.sameBut hs (Ne.symm (Kc x c hc)),fun j y v' e1 e2 e3=>?_⟩,fun y c' e=>?_,I.free,I.gG,fun p hp=>?_,tracked ⟨oc,hoc,I.gG x c hc⟩ hs,by simpa using I.len⟩ ⟨c,hs,.inr hc⟩
   . exact (hs.2 b (Nat.ne_of_lt (Nat.lt_of_lt_of_le (Heap.lt_size e) (I.ok.Mg x c hfn hc)))).trans (I.base.keep b o e n hb hx)
   . obtain ⟨sl,e1⟩:=I.base.slot b o e n hb hx
     exact ⟨sl,(hs.2 b (Nat.ne_of_lt (Nat.lt_of_lt_of_le (Heap.lt_size e) (I.ok.Mg x c hfn hc)))).trans e1⟩
   . obtain ⟨o',e1⟩:=I.base.there b o e hx
     exact ⟨o',(hs.2 b (Nat.ne_of_lt (Nat.lt_of_lt_of_le (Heap.lt_size e) (I.ok.Mg x c hfn hc)))).trans e1⟩
   . by_cases hj:j=i
     . subst hj
       rw [hi] at e1;cases e1
       rw [List.getElem?_set_self hiσ] at e2
       cases e2
       exact ⟨u,r,.inr ⟨.inl hk,c,hc,hc'⟩⟩
     . rw [List.getElem?_set_ne (Ne.symm hj)] at e2
       obtain ⟨u',r',q⟩:=hl j y v' e1 e2 e3
       refine ⟨u',r',?_⟩
       rcases q with q | ⟨k,c',e,z'⟩
       . exact .inl q
       . refine .inr ⟨k,c',e,z'.sameBut hs ?_⟩
         rintro rfl
         exact hj (wc hN e1 (I.ok.inj _ _ _ e hc ▸ hi))
   . by_cases hcc:c'=c
     . subst hcc;exact ⟨_,hc'⟩
     . obtain ⟨w2,z2⟩:=I.cell y c' e
       exact ⟨w2,z2.sameBut hs hcc⟩
   . obtain ⟨e,n,ne,nf,d⟩:=I.pin p hp
     refine ⟨(hs.2 p.1 ?_).trans e,n,ne,nf,d⟩
     intro q
     rw [q,hoc] at e
     have q':oc=p.2:=Option.some.inj e
     exact d w' (by rw [<- q'];exact Rg)
theorem wg {M:Model} {A:Around} {E:Value->Shared->Prop} {i:Nat} {x:Str} {v:V} {u:Value} {Q:Unit->Shared->Prop} (I:Inv X pins σ H s) (hN:X.N.Nodup) (hi:X.N[i]?=some x) (hx:Loc X.env.scope x) (r:RelV v u)
   (h:∀ s',Inv X pins (σ.set i (some v)) H s'->Q () s') (hf:X.fn x=true\/X.env.scope.names.lookup x=some .local:=by first | exact .inl rfl | exact .inr rfl | assumption):wpAny M A (storeName X.env x u) Q E s:=
 tF I hN hi hx r (fun s' I' _=>h s' I') hf
theorem Inv.call' {s':Shared} {ch:List Addr} (I:Inv X pins σ H s) (ho:s'.os=s.os) (u:Un (frs X.stack) ch H H' s.heap s'.heap) (hok:nI X.prog X.w H' s'.heap) (hg:AllBare s'.gens)
   (hch:∀ b ∈ ch,(b ∈ X.ex\/X.t9.heap.objs.size<=b)/\b ≠ X.env.locals/\(∀ x c,X.env.cells.lookup x=some c->c ≠ b)/\∀ p ∈ X.pn++pins,p.1 ≠ b):Inv X pins σ H' s':=by
 obtain ⟨h',g',d',t',o'⟩:=s'
 have e:o'=s.os:=ho
 subst e
 exact I.call (g':=g') (t':=t') (d':=d') u hok hg hch
end
abbrev XK:=Value->Option Addr->Hp->Prop
abbrev St:=List (Option V)
abbrev VK:=V->Hp->Prop
abbrev TE:=St->Hp->VK->Prop
abbrev TT:=St->Hp->(Bool->Hp->Prop)->Prop
abbrev TA:=St->Hp->(List V->Hp->Prop)->Prop
structure Ends where
 nx:St->Hp->Prop
 rt:VK
 bk:St->Hp->Prop:=fun _ _=>False
 ct:St->Hp->Prop:=fun _ _=>False
abbrev TS:=Ends->St->Hp->Prop
def EP (X:Cx) (pins:List (Addr×Obj)) (σ:St) (Q:VK) (u:Value) (s':Shared):Prop:=∃ v H',Inv X pins σ H' s'/\RelV v u/\Q v H'
def TP (X:Cx) (pins:List (Addr×Obj)) (σ:St) (Q:Bool->Hp->Prop) (b:Bool) (s':Shared):Prop:=∃ H',Inv X pins σ H' s'/\Q b H'
def AP (X:Cx) (pins:List (Addr×Obj)) (σ:St) (Q:List V->Hp->Prop) (us:List Value) (s':Shared):Prop:=∃ vs H',Inv X pins σ H' s'/\Vals vs us/\Q vs H'
def SP (X:Cx) (pins:List (Addr×Obj)) (D:Ends) (f:Flow) (s':Shared):Prop:=
 match f with
 | .next=>∃ σ' H',Inv X pins σ' H' s'/\D.nx σ' H'
 | .brk=>∃ σ' H',Inv X pins σ' H' s'/\D.bk σ' H'
 | .cont=>∃ σ' H',Inv X pins σ' H' s'/\D.ct σ' H'
 | .ret u=>∃ v σ' H',Inv X pins σ' H' s'/\RelV v u/\D.rt v H'
def PE (X:Cx) (e:Expr) (t:TE):Prop:=
 ∀ (pins:List (Addr×Obj)) (s:Shared) (σ:St) (H:Hp) (Q:VK),Inv X pins σ H s->t σ H Q->wpAny (model X.prog X.w) X.A (eval e X.env) (EP X pins σ Q) X.xe s
def PT (X:Cx) (e:Expr) (t:TT):Prop:=
 ∀ (pins:List (Addr×Obj)) (s:Shared) (σ:St) (H:Hp) (Q:Bool->Hp->Prop),Inv X pins σ H s->t σ H Q->wpAny (model X.prog X.w) X.A (isTrue e X.env (eval e X.env)) (TP X pins σ Q) X.xe s
def PW (X:Cx) (e:Expr) (t:TT):Prop:=
 ∀ (whole:Sem Value) (pins:List (Addr×Obj)) (s:Shared) (σ:St) (H:Hp) (Q:Bool->Hp->Prop),Inv X pins σ H s->t σ H Q->wpAny (model X.prog X.w) X.A (isTrue e X.env whole) (TP X pins σ Q) X.xe s
theorem PW.pt {X:Cx} {e:Expr} {t:TT} (h:PW X e t):PT X e t:=h _
def PA (X:Cx) (es:List Expr) (t:TA):Prop:=
 ∀ (pos:Pos) (pins:List (Addr×Obj)) (s:Shared) (σ:St) (H:Hp) (Q:List V->Hp->Prop),Inv X pins σ H s->t σ H Q->wpAny (model X.prog X.w) X.A (spliced (backTo pos (starEach es X.env))) (AP X pins σ Q) X.xe s
def PS (X:Cx) (st:Stmt) (t:TS):Prop:=
 ∀ (pins:List (Addr×Obj)) (s:Shared) (σ:St) (H:Hp) (D:Ends),Inv X pins σ H s->t D σ H->wpAny (model X.prog X.w) X.A (exec st X.env) (SP X pins D) X.xe s
def Bh (X:Cx) (st:List Stmt) (t:TS):Prop:=
 ∀ (pins:List (Addr×Obj)) (s:Shared) (σ:St) (H:Hp) (D:Ends),Inv X pins σ H s->t D σ H->wpAny (model X.prog X.w) X.A (execs st X.env) (SP X pins D) X.xe s
theorem cU {α:Type} {t:Sem α} {Q Q':α->Shared->Prop} {M:Model} {A:Around} {E:Value->Shared->Prop} {s:Shared} (h:wpAny M A t Q E s) (hQ:∀ a s,Q a s->Q' a s):wpAny M A t Q' E s:=wpAny_mono h hQ fun _ _ x=>x
end L2
namespace L2
open PySem PySem.Spec PyProof.Rows
section
variable {X:Cx}
def OH (i:Nat):TE:=fun σ H Q=>∃ v,σ[i]?=some (some v)/\Q v H
def tC (v:V):TE:=fun _ H Q=>Q v H
theorem Hz {i:Nat} {x:Str} {pos:Pos} (hN:X.N[i]?=some x) (hv:MI X.env.scope x) (hd:(x==("__debug__":Str))=false:=by decide) (hcd:(x==("__classdict__":Str))=false:=by decide):PE X (.Name x pos) (OH i):=by
 intro pins s σ H Q I h
 obtain ⟨v,e,h⟩:=h
 obtain ⟨m,hn,hl⟩:=I.loc
 obtain ⟨u,r,l⟩:=hl i x v hN e hv
 have fin:EP X pins σ Q u s:=⟨v,H,I,r,h⟩
 rcases l with ⟨hk,hm⟩ | ⟨hk,c,hc,hcell⟩
 . exact wpAny_Name (wpAny_loadName_local I.ok.kind hk hn hm fin) hd
 . rcases hk with hk | hk
   . exact wpAny_Name (wpAny_loadName_cell I.ok.kind hk hc hcell fin) hd
   . exact wpAny_Name (wpAny_loadName_free I.ok.kind hk hc hcell fin hcd) hd
theorem aM {i j pos}:PE X (.Constant (.int i) j pos) (tC (.int i)):=fun _ _ _ H _ I h=>wpAny_Constant_int ⟨.int i,H,I.tok _,⟨_,rfl⟩,h⟩
theorem Ef {b j pos}:PE X (.Constant (.bool b) j pos) (tC (.bl b)):=fun _ _ _ H _ I h=>Constant_bool ⟨.bl b,H,I,rfl,h⟩
def Gl (X:Cx) (x:Str):Prop:=X.env.kindOf x=some .globalImplicit
theorem mS {E:Value->Shared->Prop} {pins:List (Addr×Obj)} {s:Shared} {σ:St} {H:Hp} {x:Str} {u:Value} {pos:Pos} {Q:Value->Shared->Prop} (I:Inv X pins σ H s) (hg:Gl X x) (hm:X.mg x=some u) (h:Q u s)
   (hd:(x==("__debug__":Str))=false:=by decide):wpAny (model X.prog X.w) X.A (eval (.Name x pos) X.env) Q E s:=
 Calls.Name_function_global I.ok.kind hg (Calls.loadGlobal_global (by rw [I.ok.glob];exact I.mod.glob.keeps I.bk) hm h) hd
theorem wj {E:Value->Shared->Prop} {pins:List (Addr×Obj)} {s:Shared} {σ:St} {H:Hp} {x:Str} {u:Value} {pos:Pos} {Q:Value->Shared->Prop} (I:Inv X pins σ H s) (hg:Gl X x) (hm:X.mg x=none) (hv:bootBuiltins x=some u) (h:Q u s)
   (hn:x ≠ "__name__":=by decide) (hd:(x==("__debug__":Str))=false:=by decide):wpAny (model X.prog X.w) X.A (eval (.Name x pos) X.env) Q E s:=by
 obtain ⟨mb,h1,h2⟩:=I.mod.blt
 exact Calls.Name_function_global I.ok.kind hg (Calls.loadGlobal_builtin (by rw [I.ok.glob];exact I.mod.glob.keeps I.bk) hm (by rw [I.ok.blt];exact h1.keeps I.bk) ((h2 x hn).trans hv) h) hd
theorem b5 {x:Str} {v:V} {u:Value} {pos:Pos} (hg:Gl X x) (hm:X.mg x=some u) (r:RelV v u) (hd:(x==("__debug__":Str))=false:=by decide):PE X (.Name x pos) (tC v):=
 fun _ _ _ H _ I h=>mS I hg hm ⟨v,H,I,r,h⟩ hd
variable {a b:Expr} {ta tb:TE} {pos:Pos}
def PC (X:Cx) (op:CmpOp) (a b:Expr) (t:TE):Prop:=
 ∀ (pins:List (Addr×Obj)) (s:Shared) (σ:St) (H:Hp) (Q:VK),Inv X pins σ H s->t σ H Q->
   wpAny (model X.prog X.w) X.A (eval a X.env) (fun v s₁=>wpAny (model X.prog X.w) X.A (eval b X.env) (fun u s₂=>wpAny (model X.prog X.w) X.A (compareOp op v u) (EP X pins σ Q) X.xe s₂) X.xe s₁) X.xe s
def tB (t:TE):TT:=fun σ H Q=>t σ H fun x H1=>∃ c,x=.bl c/\Q c H1
theorem MK {op:CmpOp} {t:TE} (h:PC X op a b t) (h1:behindInMarks op b=false:=by first | exact OI _ (by decide) (by decide) | rfl):PT X (.Compare a [op] [b] pos) (tB t):=by
 intro pins s σ H Q I hw
 refine wpAny_isTrue_Compare1 (cU (h pins s σ H _ I hw) fun v s1 h1=>cU h1 fun u s2 h2=>cU h2 fun c s3 ⟨x,H1,I1,r1,q1⟩=>?_) h1
 obtain ⟨d,rfl,q⟩:=q1
 cases r1
 exact wpAny_truthy_bool ⟨H1,I1,q⟩
theorem tG {e:Expr} {t:TE} (h:PE X e t) (he:∀ whole,isTrue e X.env whole=(do let v <- whole;standAt e.pos;holding [v] (truthy v)):=by intro _;rfl):PT X e (tB t):=by
 intro pins s σ H Q I hw
 refine isTrue_plain (cU (h pins s σ H _ I hw) fun v s1 ⟨x,H1,I1,r1,q1⟩=>?_) (he _)
 obtain ⟨d,rfl,q⟩:=q1
 cases r1
 exact wpAny_truthy_bool ⟨H1,I1,q⟩
variable {tA QE:TT} {rest:List Expr}
def Rh (t u:TT):TT:=fun σ H Q=>t σ H fun c H1=>if c=true then u σ H1 Q else Q false H1
def UJ (t u:TT):TT:=fun σ H Q=>t σ H fun c H1=>if c=true then Q true H1 else u σ H1 Q
def Ri (t:TT):TT:=fun σ H Q=>t σ H fun c H1=>Q (!c) H1
theorem vo (ha:PT X a tA):PW X (.BoolOp .And [a] pos) tA:=by
 intro wh pins s σ H Q I h
 refine isTrue_and (cU (ha pins s σ H Q I h) fun c s1 e=>?_)
 cases c with
 | true=>exact isTrue_and_nil e
 | false=>exact e
theorem Df (ha:PT X a tA):PW X (.BoolOp .Or [a] pos) tA:=by
 intro wh pins s σ H Q I h
 refine isTrue_or (cU (ha pins s σ H Q I h) fun c s1 e=>?_)
 cases c with
 | false=>exact isTrue_or_nil e
 | true=>exact e
theorem z7 (ha:PT X a tA) (hb:PW X (.BoolOp .And (b::rest) pos) QE):PW X (.BoolOp .And (a::b::rest) pos) (Rh tA QE):=by
 intro wh pins s σ H Q I h
 refine isTrue_and (cU (ha pins s σ H _ I h) fun c s1 ⟨H1,I1,q1⟩=>?_)
 cases c with
 | true=>exact hb wh pins s1 σ H1 Q I1 q1
 | false=>exact ⟨H1,I1,q1⟩
theorem HA (ha:PT X a tA) (hb:PW X (.BoolOp .Or (b::rest) pos) QE):PW X (.BoolOp .Or (a::b::rest) pos) (UJ tA QE):=by
 intro wh pins s σ H Q I h
 refine isTrue_or (cU (ha pins s σ H _ I h) fun c s1 ⟨H1,I1,q1⟩=>?_)
 cases c with
 | true=>exact ⟨H1,I1,q1⟩
 | false=>exact hb wh pins s1 σ H1 Q I1 q1
theorem Dg (ha:PT X a tA):PT X (.UnaryOp .Not a pos) (Ri tA):=by
 intro pins s σ H Q I h
 exact isTrue_not (ha pins s σ H (fun c H1=>Q (!c) H1) I h)
def OJ (ta tb:TE):TE:=fun σ H Q=>ta σ H fun x H1=>∃ c,x=.bl c/\if c=true then tb σ H1 Q else Q (.bl false) H1
theorem Dh {op} {t:TE} (h:PE X a t):PE X (.BoolOp op [a] pos) t:=fun pins s σ H Q I hw=>BoolOp_one (h pins s σ H Q I hw)
theorem z8 (ha:PE X a ta) (hb:PE X (.BoolOp .And (b::rest) pos) tb):PE X (.BoolOp .And (a::b::rest) pos) (OJ ta tb):=by
 intro pins s σ H Q I h
 refine BoolOp_and (cU (ha pins s σ H _ I h) fun v s1 ⟨x,H1,I1,r1,q1⟩=>?_)
 obtain ⟨c,rfl,q1⟩:=q1
 cases r1
 refine wpAny_truthy_bool ?_
 cases c with
 | true=>exact hb pins s1 σ H1 Q I1 q1
 | false=>exact ⟨.bl false,H1,I1,rfl,q1⟩
end
end L2
namespace L2
open PySem PySem.Spec PyProof.Rows
def bM (K:PySem.W.Frag) (H:Hp) (a:Addr) (xs:List V):Prop:=
 Rd H a (.lst xs) \/
   ∃ (o:Obj) (its:Array Value) (n:Nat),K.lookup a=some o/\o.cls=.type "list"/\o.dict=none/\o.data=.seq its n/\its.size<=sizeLine/\Vals xs its.toList
def mr (K:PySem.W.Frag) (H:Hp) (a:Addr) (xs:List V):Prop:=
 Rd H a (.tup xs) \/
   ∃ (o:Obj) (its:Array Value) (n:Nat),K.lookup a=some o/\o.cls=.type "tuple"/\o.data=.seq its n/\its.size<=sizeLine/\Vals xs its.toList
def Rj:Value->Option V
 | .none=>some .non
 | .bool b=>some (.bl b)
 | .int i _=>some (.int i)
 | .str x _=>some (.str x)
 | .bytes b _=>some (.Bc b)
 | .float b _=>some (.O2 b)
 | .ref a=>some (.ref a)
 | .type n=>some (.ty n)
 | _=>none
theorem RelV.abs {x:V} {u:Value} (r:RelV x u):Rj u=some x:=by
 cases x with
 | non=>cases r;rfl
 | bl _=>cases r;rfl
 | int _=>obtain ⟨t,rfl⟩:=r;rfl
 | str _=>obtain ⟨t,rfl⟩:=r;rfl
 | Bc _=>obtain ⟨t,rfl⟩:=r;rfl
 | O2 _=>obtain ⟨t,rfl⟩:=r;rfl
 | ref _=>cases r;rfl
 | ty _=>cases r;rfl
theorem RelV.inj {x y:V} {u:Value} (r:RelV x u) (q:RelV y u):x=y:=Option.some.inj (r.abs.symm.trans q.abs)
theorem Vals.inj:∀ {xs ys:List V} {us:List Value},Vals xs us->Vals ys us->xs=ys
 | _,_,_,.nil,.nil=>rfl
 | _,_,_,.cons r t,.cons r' t'=>by rw [r.inj r',Vals.inj t t']
section
variable {X:Cx} {pins:List (Addr×Obj)} {σ:St} {H:Hp} {s:Shared} {a:Addr} {xs ys:List V}
theorem bM.of {K:PySem.W.Frag} (h:H a=some (.lst xs)):bM K H a xs:=.inl (.inl h)
theorem mr.of {K:PySem.W.Frag} (h:H a=some (.tup xs)):mr K H a xs:=.inl (.inl h)
theorem Inv.list (I:Inv X pins σ H s) (h:bM X.K H a xs):∃ its:List Value,Vals xs its/\PlainL s.heap a its.toArray/\xs.length<=sizeLine:=by
 rcases h with h | ⟨o,its,n,hk,hc,hd,hs,hz,r⟩
 . obtain ⟨z,its,n,r,e⟩:=h.ok I.hok
   exact ⟨its,r,⟨_,n,e,rfl,rfl,rfl⟩,z⟩
 . refine ⟨its.toList,r,⟨o,n,I.qN a o hk,hc,hd,by simpa using hs⟩,?_⟩
   have e:=r.length
   simp only [Array.length_toList] at e
   omega
theorem Inv.tuple (I:Inv X pins σ H s) (h:mr X.K H a xs):∃ its:List Value,Vals xs its/\IsTup s.heap a its.toArray/\xs.length<=sizeLine:=by
 rcases h with h | ⟨o,its,n,hk,hc,hs,hz,r⟩
 . obtain ⟨z,its,r,p⟩:=h.ok I.hok
   exact ⟨its,r,p,z⟩
 . refine ⟨its.toList,r,⟨o,I.qN a o hk,hc,n,by simpa using hs⟩,?_⟩
   have e:=r.length
   simp only [Array.length_toList] at e
   omega
theorem Inv.Bj (I:Inv X pins σ H s) (h:bM X.K H a xs) (h':bM X.K H a ys):xs=ys:=by
 obtain ⟨its,r,⟨o,n,e,_,_,d⟩,_⟩:=I.list h
 obtain ⟨its',r',⟨o',n',e',_,_,d'⟩,_⟩:=I.list h'
 rw [e] at e';cases e'
 rw [d] at d'
 injection d' with d1 _
 have:its=its':=by simpa using congrArg Array.toList d1
 subst this
 exact r.inj r'
theorem Inv.Fp (I:Inv X pins σ H s) (h:mr X.K H a xs) (h':mr X.K H a ys):xs=ys:=by
 obtain ⟨its,r,⟨o,e,_,n,d⟩,_⟩:=I.tuple h
 obtain ⟨its',r',⟨o',e',_,n',d'⟩,_⟩:=I.tuple h'
 rw [e] at e';cases e'
 rw [d] at d'
 injection d' with d1 _
 have:its=its':=by simpa using congrArg Array.toList d1
 subst this
 exact r.inj r'
end
abbrev Cx.wk (X:Cx) (E:Value->Shared->Prop):Cx:={ X with xe:=E }
abbrev Cx.OL (X:Cx):Cx:=X.wk fun _ _=>False
theorem Cx.Ok.wk {X:Cx} (ok:X.Ok) (E:Value->Shared->Prop):(X.wk E).Ok:=
 ⟨ok.mod,ok.kind,ok.glob,ok.blt,ok.above,ok.inj,ok.has,ok.Mg,ok.hd,ok.frames,ok.Kh,ok.MJ,ok.bs,ok.Fo,ok.Bf,ok.Bg,ok.qC,ok.Hy⟩
theorem Cx.Ok.oH {X:Cx} {E:Value->Shared->Prop} (ok:(X.wk E).Ok):X.Ok:=
 ⟨ok.mod,ok.kind,ok.glob,ok.blt,ok.above,ok.inj,ok.has,ok.Mg,ok.hd,ok.frames,ok.Kh,ok.MJ,ok.bs,ok.Fo,ok.Bf,ok.Bg,ok.qC,ok.Hy⟩
section
variable {X:Cx} {pins:List (Addr×Obj)} {σ:St} {H:Hp} {s:Shared} {E:Value->Shared->Prop}
theorem Inv.wk (I:Inv X pins σ H s) (E:Value->Shared->Prop):Inv (X.wk E) pins σ H s:=⟨I.ok.wk E,I.os,I.bare,I.base,I.loc,I.cell,I.free,I.gG,I.pin,I.hok,I.len⟩
theorem Inv.oH (I:Inv (X.wk E) pins σ H s):Inv X pins σ H s:=⟨I.ok.oH,I.os,I.bare,I.base,I.loc,I.cell,I.free,I.gG,I.pin,I.hok,I.len⟩
theorem SP.oH {D:Ends} {f:Flow} {s':Shared} (h:SP (X.wk E) pins D f s'):SP X pins D f s':=by
 cases f with
 | next=>obtain ⟨σ',H',I,q⟩:=h;exact ⟨σ',H',I.oH,q⟩
 | brk=>obtain ⟨σ',H',I,q⟩:=h;exact ⟨σ',H',I.oH,q⟩
 | cont=>obtain ⟨σ',H',I,q⟩:=h;exact ⟨σ',H',I.oH,q⟩
 | ret u=>obtain ⟨v,σ',H',I,r,q⟩:=h;exact ⟨v,σ',H',I.oH,r,q⟩
theorem Bh.OL {st:List Stmt} {t:TS} (h:Bh X.OL st t):Bh X st t:=fun pins s σ H D I hw=>
 wpAny_mono (h pins s σ H D (I.wk _) hw) (fun _ _ q=>q.oH) fun _ _ z=>False.elim z
end
section
variable {X:Cx} {st:Stmt} {rest:List Stmt} {t u:TS} {e:Expr} {te:TE} {pos:Pos}
def OM:TS:=fun D σ H=>D.nx σ H
def ON (t u:TS):TS:=fun D σ H=>t { D with nx:=u D } σ H
theorem gY:Bh X [] OM:=fun _ _ σ H _ I h=>wpAny_execs_nil ⟨σ,H,I,h⟩
theorem au (h1:PS X st t) (h2:Bh X rest u):Bh X (st::rest) (ON t u):=by
 intro pins s σ H D I h
 refine wpAny_execs_cons (cU (h1 pins s σ H { D with nx:=u D } I h) fun f s1 q=>?_)
 cases f with
 | next=>
   obtain ⟨σ',H',I',q⟩:=q
   exact h2 pins s1 σ' H' D I' q
 | ret v=>exact q
 | brk=>exact q
 | cont=>exact q
theorem aB (h1:PS X st t):Bh X [st] t:=by
 intro pins s σ H D I h
 refine wpAny_execs_cons (cU (h1 pins s σ H D I h) fun f s1 q=>?_)
 cases f with
 | next=>exact wpAny_execs_nil q
 | ret v=>exact q
 | brk=>exact q
 | cont=>exact q
theorem Inv.quiet {pins:List (Addr×Obj)} {σ:St} {H:Hp} {s:Shared} (I:Inv X pins σ H s):interactive X.env=false:=by simp [interactive,I.ok.kind]
def OO (te:TE):TS:=fun D σ H=>te σ H fun _ H1=>D.nx σ H1
theorem bV (he:PE X e te) (hs:swapsWith e none pos.line X.env=pure false:=by rfl):PS X (.Expr e pos) (OO te):=by
 intro pins s σ H D I h
 exact wpAny_Expr_any (cU (he pins s σ H _ I h) fun v s1 ⟨x,H1,I1,r1,q1⟩=>⟨σ,H1,I1,q1⟩) I.quiet hs
def Rk (te:TE):TS:=fun D σ H=>te σ H D.rt
theorem bA (he:PE X e te):PS X (.Return (some e) pos) (Rk te):=by
 intro pins s σ H D I h
 exact wpAny_Return_some (cU (he pins s σ H _ I h) fun v s1 ⟨x,H1,I1,r1,q1⟩=>⟨x,σ,H1,I1,r1,q1⟩)
def Rl (c:TT) (t u:TS):TS:=fun D σ H=>c σ H fun b H1=>if b=true then t D σ H1 else u D σ H1
theorem mw {c:Expr} {a b:List Stmt} {tc:TT} (hc:PT X c tc) (ha:Bh X a t) (hb:Bh X b u):PS X (.If c a b pos) (Rl tc t u):=by
 intro pins s σ H D I h
 refine wpAny_If (cU (hc pins s σ H _ I h) fun d s1 ⟨H1,I1,q1⟩=>?_)
 cases d with
 | true=>exact ha pins s1 σ H1 D I1 q1
 | false=>exact hb pins s1 σ H1 D I1 q1
end
abbrev TG:=V->St->Hp->(St->Hp->Prop)->Prop
abbrev ML:=List V->St->Hp->(St->Hp->Prop)->Prop
def PG (X:Cx) (target:Expr) (t:TG):Prop:=
 ∀ (pins:List (Addr×Obj)) (s:Shared) (σ:St) (H:Hp) (v:V) (u:Value) (Q:St->Hp->Prop),Inv X pins σ H s->RelV v u->t v σ H Q->
   wpAny (model X.prog X.w) X.A (assign target X.env u) (fun _ s'=>∃ σ' H',Inv X pins σ' H' s'/\Q σ' H') X.xe s
def QF (X:Cx) (ts:List Expr) (t:ML):Prop:=
 ∀ (pins:List (Addr×Obj)) (s:Shared) (σ:St) (H:Hp) (vs:List V) (us:List Value) (Q:St->Hp->Prop),Inv X pins σ H s->Vals vs us->t vs σ H Q->
   wpAny (model X.prog X.w) X.A (assignInOrder ((assignEach ts X.env).map (·.2)) us) (fun _ s'=>∃ σ' H',Inv X pins σ' H' s'/\Q σ' H') X.xe s
abbrev HB:=V->V->V->Hp->(Hp->Prop)->Prop
def MN (X:Cx) (t:HB):Prop:=
 ∀ (pins:List (Addr×Obj)) (s:Shared) (σ:St) (H:Hp) (o i v:V) (ov iv u:Value) (Q:Hp->Prop),Inv X pins σ H s->RelV o ov->RelV i iv->RelV v u->t o i v H Q->
   wpAny (model X.prog X.w) X.A (setItem ov iv u) (fun _ s'=>∃ H',Inv X pins σ H' s'/\Q H') X.xe s
abbrev O4:=V->V->Hp->VK->Prop
def QG (X:Cx) (op:Operator) (t:O4):Prop:=
 ∀ (pins:List (Addr×Obj)) (s:Shared) (σ:St) (H:Hp) (x y:V) (v u:Value) (Q:VK),Inv X pins σ H s->RelV x v->RelV y u->t x y H Q->
   wpAny (model X.prog X.w) X.A (inplaceOp op v u) (EP X pins σ Q) X.xe s
section
variable {X:Cx} {pos:Pos}
def Bk (i:Nat):TG:=fun v σ H Q=>Q (σ.set i (some v)) H
theorem bu {i:Nat} {x:Str} (hN:X.N.Nodup) (hi:X.N[i]?=some x) (hx:Loc X.env.scope x) (hf:X.fn x=true\/X.env.scope.names.lookup x=some .local:=by first | exact .inl rfl | exact .inr rfl | assumption):PG X (.Name x pos) (Bk i):=by
 intro pins s σ H v u Q I r h
 exact wpAny_assign_Name (wg I hN hi hx r (fun s' I'=>⟨_,H,I',h⟩) hf)
def Rm:ML:=fun vs σ H Q=>vs=[]/\Q σ H
def OP (t:TG) (u:ML):ML:=fun vs σ H Q=>∃ v r,vs=v::r/\t v σ H fun σ' H'=>u r σ' H' Q
theorem vp:QF X [] Rm:=by
 intro pins s σ H vs us Q I r h
 obtain ⟨e,h⟩:=h
 subst e
 cases r
 exact assignInOrder_nil ⟨σ,H,I,h⟩
theorem j7 {e:Expr} {es:List Expr} {t:TG} {u:ML} (h1:PG X e t) (h2:QF X es u)
   (hs:(assignEach (e::es) X.env).map (·.2)=assign e X.env::(assignEach es X.env).map (·.2):=by rfl):QF X (e::es) (OP t u):=by
 intro pins s σ H vs us Q I r h
 obtain ⟨v,vr,e1,h⟩:=h
 subst e1
 cases r with
 | cons r rr=>
   rw [hs]
   refine assignInOrder_cons (cU (h1 pins s σ H _ _ _ I r h) fun _ s1 ⟨σ1,H1,I1,q1⟩=>?_)
   exact h2 pins s1 σ1 H1 _ _ Q I1 rr q1
def Rn (K:PySem.W.Frag) (n:Nat) (t:ML):TG:=fun v σ H Q=>∃ a xs,v=.ref a/\mr K H a xs/\xs.length=n/\t xs σ H Q
theorem z9 {es:List Expr} {k:Nat} {t:ML} {n:Nat} (hc:X.calm=true) (h:QF X es t)
   (hn:(assignEach es X.env).length=n:=by rfl) (hst:(assignEach es X.env).findIdx? (·.1)=none:=by rfl):PG X (.Tuple es k pos) (Rn X.K n t):=by
 intro pins s σ H v u Q I r hw
 obtain ⟨a,xs,e1,hq,hl,hw⟩:=hw
 subst e1
 cases r
 obtain ⟨its,rv,ht,hz⟩:=I.tuple hq
 refine assign_Tuple_tuple (I.ok.hd hc) ht (by simp [hn,<- hl,rv.length]) hst fun h' hx=>?_
 have I1:Inv X pins σ H { s with heap:=h' }:=I.kept (t':=s.toks) fun b o e=>hx b o (Nat.ne_of_lt (Heap.lt_size e)) e
 exact h pins _ σ H xs _ Q I1 (by simpa using rv) hw
def Ro (to ti:TE) (t:HB):TG:=fun v σ H Q=>to σ H fun o H1=>ti σ H1 fun i H2=>t o i v H2 fun H3=>Q σ H3
theorem MO {o i:Expr} {to ti:TE} {t:HB} (ho:PE X o to) (hi:PE X i ti) (hs:MN X t)
   (ha:∀ v,assign (.Subscript o i pos) X.env v=(do
     let ov <- holding [v] (eval o X.env)
     let iv <- holding [v,ov] (eval i X.env)
     standAt pos
     holding [v,ov,iv] (setItem ov iv v)
     release [v,ov,iv] []):=by intro _;rfl):PG X (.Subscript o i pos) (Ro to ti t):=by
 intro pins s σ H v u Q I r h
 rw [ha]
 refine wpAny_bind (wpAny_holding (cU (ho pins s σ H _ I h) fun ov s1 ⟨x,H1,I1,r1,q1⟩=>?_))
 refine wpAny_bind (wpAny_holding (cU (hi pins s1 σ H1 _ I1 q1) fun iv s2 ⟨y,H2,I2,r2,q2⟩=>?_))
 refine wpAny_bind (wpAny_standAt (wpAny_bind (wpAny_holding (cU (hs pins s2 σ H2 x y v ov iv u _ I2 r1 r2 r q2) fun _ s3 ⟨H3,I3,q3⟩=>?_))))
 exact wpAny_release ⟨σ,H3,I3,q3⟩
def MQ (te:TE) (g:TG):TS:=fun D σ H=>te σ H fun x H1=>g x σ H1 D.nx
theorem MR {tg e:Expr} {te:TE} {g:TG} (he:PE X e te) (hg:PG X tg g) (hs:swapsWithSole [tg] e pos.line X.env=pure false:=by rfl) (hw:swappedStores [tg] e X.env=pure none:=by rfl)
   (h1:(assignEach [tg] X.env).map (·.2)=[assign tg X.env]:=by rfl):PS X (.Assign [tg] e pos) (MQ te g):=by
 intro pins s σ H D I h
 refine wpAny_Assign_stores (cU (he pins s σ H _ I h) fun v s1 ⟨x,H1,I1,r1,q1⟩=>?_) hs hw
 rw [h1]
 exact cU (hg pins s1 σ H1 x v _ I1 r1 q1) fun _ s2 q=>q
theorem aQ {i:Nat} {x:Str} {e:Expr} {te:TE} {pos':Pos} (hN:X.N.Nodup) (hi:X.N[i]?=some x) (hx:Loc X.env.scope x) (he:PE X e te) (hs:swapsWith e (some (.Name x pos')) pos.line X.env=pure false:=by rfl) (hf:X.fn x=true\/X.env.scope.names.lookup x=some .local:=by first | exact .inl rfl | exact .inr rfl | assumption) :
   PS X (.Assign [.Name x pos'] e pos) (MQ te (Bk i)):=by
 intro pins s σ H D I h
 refine wpAny_Assign_Name (cU (he pins s σ H _ I h) fun v s1 ⟨y,H1,I1,r1,q1⟩=>?_) hs
 exact wg I1 hN hi hx r1 (fun s2 I2=>⟨_,H1,I2,q1⟩) hf
def Rp (i:Nat) (te:TE) (ti:O4):TS:=fun D σ H=>∃ x,σ[i]?=some (some x)/\te σ H fun y H1=>ti x y H1 fun z H2=>D.nx (σ.set i (some z)) H2
theorem MS {i:Nat} {x:Str} {e:Expr} {te:TE} {op:Operator} {ti:O4} {pos':Pos} (hN:X.N.Nodup) (hi:X.N[i]?=some x) (hx:Loc X.env.scope x) (he:PE X e te) (ho:QG X op ti) (hf:X.fn x=true\/X.env.scope.names.lookup x=some .local:=by first | exact .inl rfl | exact .inr rfl | assumption) :
   PS X (.AugAssign (.Name x pos') op e pos) (Rp i te ti):=by
 intro pins s σ H D I h
 obtain ⟨v,e1,h⟩:=h
 obtain ⟨m,hn,hl⟩:=I.loc
 have UK:MI X.env.scope x:=by rcases hx with k | k;exact .inl k;exact .inr (.inl k)
 obtain ⟨u,r,l⟩:=hl i x v hi e1 UK
 refine wpAny_AugAssign_Name ?_
 have go:wpAny (model X.prog X.w) X.A (eval e X.env) (fun w s₂=>wpAny (model X.prog X.w) X.A (inplaceOp op u w) (fun r s₃=>wpAny (model X.prog X.w) X.A (storeName X.env x r) (fun _=>SP X pins D .next) X.xe s₃) X.xe s₂) X.xe s:=by
   refine cU (he pins s σ H _ I h) fun w s1 ⟨y,H1,I1,r1,q1⟩=>?_
   refine cU (ho pins s1 σ H1 v y u w _ I1 r r1 q1) fun z s2 ⟨zv,H2,I2,r2,q2⟩=>?_
   exact wg I2 hN hi hx r2 (fun s3 I3=>⟨_,H2,I3,q2⟩) hf
 rcases l with ⟨hk,hm⟩ | ⟨hk,c,hc,hcell⟩
 . exact wpAny_loadName_local I.ok.kind hk hn hm go
 . rcases hk with hk | hk
   . exact wpAny_loadName_cell I.ok.kind hk hc hcell go
   . rcases hx with k | k
     . have:X.env.scope.names.lookup x=some .free:=hk
       rw [k] at this;cases this
     . have:X.env.scope.names.lookup x=some .free:=hk
       rw [k] at this;cases this
def OQ (to ti te:TE) (Km:V->V->Hp->VK->Prop) (QH:O4) (Kn:HB):TS:=fun D σ H=>to σ H fun o H1=>ti σ H1 fun i H2=>Km o i H2 fun x H3=>te σ H3 fun y H4=>QH x y H4 fun z H5=>Kn o i z H5 fun H6=>D.nx σ H6
def OS (X:Cx) (t:V->V->Hp->VK->Prop):Prop:=
 ∀ (pins:List (Addr×Obj)) (s:Shared) (σ:St) (H:Hp) (o i:V) (ov iv:Value) (Q:VK),Inv X pins σ H s->RelV o ov->RelV i iv->t o i H Q->
   wpAny (model X.prog X.w) X.A (getItem ov iv) (EP X pins σ Q) X.xe s
theorem vq {o i e:Expr} {to ti te:TE} {Km:V->V->Hp->VK->Prop} {QH:O4} {Kn:HB} {op:Operator} {tpos:Pos} (ho:PE X o to) (hi:PE X i ti) (hg:OS X Km) (he:PE X e te) (hp:QG X op QH) (hs:MN X Kn)
   (ha:∀ ov iv new,augStore i ov iv new=(do holding [new,ov,iv] (setItem ov iv new);release [new,ov,iv] [];pure .next):=by intros;rfl):PS X (.AugAssign (.Subscript o i tpos) op e pos) (OQ to ti te Km QH Kn):=by
 intro pins s σ H D I h
 refine wpAny_AugAssign_SubscriptAny (cU (ho pins s σ H _ I h) fun ov s1 ⟨x1,H1,I1,r1,q1⟩=>?_) ha
 refine cU (hi pins s1 σ H1 _ I1 q1) fun iv s2 ⟨x2,H2,I2,r2,q2⟩=>?_
 refine cU (hg pins s2 σ H2 x1 x2 ov iv _ I2 r1 r2 q2) fun old s3 ⟨x3,H3,I3,r3,q3⟩=>?_
 refine cU (he pins s3 σ H3 _ I3 q3) fun v s4 ⟨x4,H4,I4,r4,q4⟩=>?_
 refine cU (hp pins s4 σ H4 x3 x4 old v _ I4 r3 r4 q4) fun new s5 ⟨x5,H5,I5,r5,q5⟩=>?_
 exact cU (hs pins s5 σ H5 x1 x2 x5 ov iv new _ I5 r1 r2 r5 q5) fun _ s6 ⟨H6,I6,q6⟩=>⟨σ,H6,I6,q6⟩
def Tj (f:Int->Int->Int):O4:=fun x y H Q=>∃ i j,x=.int i/\y=.int j/\Q (.int (f i j)) H
theorem Di:QG X .Add (Tj fun i j=>i+j):=by
 intro pins s σ H x y v u Q I r1 r2 h
 obtain ⟨i,j,e1,e2,q⟩:=h
 subst e1;subst e2
 obtain ⟨t,rfl⟩:=r1
 obtain ⟨t',rfl⟩:=r2
 exact iadd_int ⟨.int _,H,I.tok _,⟨_,rfl⟩,q⟩
theorem HC:QG X .Sub (Tj fun i j=>i - j):=by
 intro pins s σ H x y v u Q I r1 r2 h
 obtain ⟨i,j,e1,e2,q⟩:=h
 subst e1;subst e2
 obtain ⟨t,rfl⟩:=r1
 obtain ⟨t',rfl⟩:=r2
 exact isub_int ⟨.int _,H,I.tok _,⟨_,rfl⟩,q⟩
def Dj (c:TT) (tb:TS):TS:=fun D σ H=>∃ W:Nat->St->Hp->Prop,(∃ m,W m σ H)/\∀ m σ H,W m σ H->
 c σ H fun b H1=>if b=true then ∃ N:St->Hp->Prop,(∀ σ' H',N σ' H'->∃ m',m' < m/\W m' σ' H')/\tb { D with nx:=N,ct:=N,bk:=D.nx } σ H1 else D.nx σ H1
theorem HD {c:Expr} {body:List Stmt} {tc:TT} {tb:TS} (hp:PassesOwn (model X.prog X.w) X.A X.env X.xe) (hc:PT X c tc) (hb:Bh X body tb):PS X (.While c body [] pos) (Dj tc tb):=by
 intro pins s σ H D I h
 obtain ⟨W,⟨m0,w0⟩,turn⟩:=h
 refine wpAny_While (codeAny_whileLoop (fun n s'=>∃ σ' H',Inv X pins σ' H' s'/\W n σ' H') ?_ m0 ⟨σ,H,I,w0⟩)
 rintro n s1 ⟨σ1,H1,I1,w1⟩
 refine wpAny_passesOwn hp (cU (hc pins s1 σ1 H1 _ I1 (turn n σ1 H1 w1)) fun b s2 ⟨H2,I2,q2⟩=>?_)
 cases b with
 | true=>
   obtain ⟨N,hN,q2⟩:=q2
   rw [if_pos rfl]
   refine wpAny_passesOwn hp (cU (hb pins s2 σ1 H2 _ I2 q2) fun f s3 q3=>?_)
   cases f with
   | next=>
     obtain ⟨σ3,H3,I3,n3⟩:=q3
     obtain ⟨m',hm,w3⟩:=hN σ3 H3 n3
     exact ⟨m',hm,σ3,H3,I3,w3⟩
   | cont=>
     obtain ⟨σ3,H3,I3,n3⟩:=q3
     obtain ⟨m',hm,w3⟩:=hN σ3 H3 n3
     exact ⟨m',hm,σ3,H3,I3,w3⟩
   | brk=>exact q3
   | ret v=>exact q3
 | false=>
   rw [if_neg Bool.false_ne_true]
   exact wpAny_execs_nil ⟨σ1,H2,I2,q2⟩
end
structure It where
 go:Nat->Hp->Prop
 HE:Nat->Hp->V->Hp->Prop
 stop:Nat->Hp->Prop
def wm (X:Cx) (pins:List (Addr×Obj)) (H:Hp) (b:Addr):Prop:=
 H b=none/\b ≠ X.env.locals/\b ∉ X.fs/\(b ∈ X.ex\/X.t9.heap.objs.size<=b)/\(∀ x c,X.env.cells.lookup x=some c->c ≠ b)/\∀ p ∈ X.pn++pins,p.1 ≠ b
theorem Inv.Fq {X:Cx} {pins:List (Addr×Obj)} {σ:St} {H H':Hp} {s:Shared} {b:Addr} (I:Inv X pins σ H s) (hb:s.heap.objs.size<=b) (hn:H' b=none):wm X pins H' b:=by
 refine ⟨hn,Nat.ne_of_gt (Nat.lt_of_lt_of_le I.lt hb),I.Rf hb,.inr (Nat.le_trans I.sz hb),fun x c e z=>?_,fun p hp z=>?_⟩
 . obtain ⟨v,q⟩:=I.cell x c e
   exact absurd (Nat.lt_of_lt_of_le q.lt (by rw [z];exact hb)) (Nat.lt_irrefl _)
 . exact absurd (Nat.lt_of_lt_of_le (Heap.lt_size (I.pin p hp).1) (by rw [z];exact hb)) (Nat.lt_irrefl _)
structure Turn (P:Program) (w:World) (K:PySem.W.Frag) (tg:Expr) (J:It) (fp:List Addr) (it:Addr) (tn:Nat->Heap->Prop):Prop where
 mem:it ∈ fp
 obj:∀ i h,tn i h->∀ b ∈ fp,∃ o,h.get? b=some o/\∀ v,o.data ≠ .cell v
 keep:∀ i h h',tn i h->(∀ b ∈ fp,∀ o,h.get? b=some o->h'.get? b=some o)->tn i h'
 item:∀ (X:Cx),X.prog=P->X.w=w->X.K=K->X.calm=true->∀ (i:Nat) (pins:List (Addr×Obj)) (s:Shared) (σ:St) (H:Hp) (E:Value->Shared->Prop),Inv X pins σ H s->(∀ b ∈ fp,wm X pins H b)->tn i s.heap->J.go i H->
   wpAny (model P w) X.A (pyNext (.ref it)) (fun r s1=>∃ u,r=some u /\
     wpAny (model P w) X.A (letOwnedTupleGo tg (.ref it) u) (fun _ s2=>∃ x H',Inv X pins σ H' s2/\RelV x u/\J.HE i H x H'/\tn (i+1) s2.heap/\∀ b ∈ fp,H' b=none) E s1) E s
 done:∀ (X:Cx),X.prog=P->X.w=w->X.K=K->X.calm=true->∀ (i:Nat) (pins:List (Addr×Obj)) (s:Shared) (σ:St) (H:Hp) (E:Value->Shared->Prop),Inv X pins σ H s->(∀ b ∈ fp,wm X pins H b)->tn i s.heap->J.stop i H->
   wpAny (model P w) X.A (pyNext (.ref it)) (fun r s1=>r=none/\Inv X pins σ H s1) E s
 self:∀ (A:Around) (i:Nat) (s:Shared) (Q:Value->Shared->Prop) (E:Value->Shared->Prop),tn i s.heap->Q (.ref it) s->wpAny (model P w) A (pyIter (.ref it)) Q E s
abbrev TI:=St->Hp->(It->Hp->Prop)->Prop
def Rq (X:Cx) (pins:List (Addr×Obj)) (σ:St) (tg:Expr) (R:It->Hp->Prop) (itv:Value) (s2:Shared):Prop:=
 ∃ (it:Addr) (fp:List Addr) (tn:Nat->Heap->Prop) (J:It) (H':Hp),itv=.ref it/\Inv X pins σ H' s2/\Turn X.prog X.w X.K tg J fp it tn/\tn 0 s2.heap/\(∀ b ∈ fp,wm X pins H' b)/\R J H'
def PI (X:Cx) (tg iter:Expr) (wi:TI):Prop:=
 ∀ (pins:List (Addr×Obj)) (s:Shared) (σ:St) (H:Hp) (R:It->Hp->Prop),Inv X pins σ H s->wi σ H R->
   wpAny (model X.prog X.w) X.A (eval iter X.env) (fun v s1=>wpAny (model X.prog X.w) X.A (pyIter v) (Rq X pins σ tg R) X.xe s1) X.xe s
theorem yI {M:Model} {A:Around} {E:Value->Shared->Prop} {s:Shared} {tg:Expr} {it:Addr} {u:Value} {o:Obj} {n:String} {vs:Array Value} {Q:Unit->Shared->Prop} (ho:s.heap.get? it=some o) (hc:o.cls=.type n) (hd:o.data=.fields vs)
   (hn:["enumerate","zip","dict_itemiterator","dict_reverseitemiterator","odict_iterator","itertools.zip_longest","itertools.pairwise"].contains n=false) (hQ:Q () s):wpAny M A (letOwnedTupleGo tg (.ref it) u) Q E s:=by
 unfold letOwnedTupleGo
 cases tg<;>first
   | exact wpAny_pure hQ
   | (cases u<;>first
       | exact wpAny_pure hQ
       | (refine wpAny_bind (wpAny_load ho ?_)
          rw [hc,hd]
          show wpAny M A (if (["enumerate","zip","dict_itemiterator","dict_reverseitemiterator","odict_iterator","itertools.zip_longest","itertools.pairwise"].contains n&&vs[0]?==some (rawInt _))=true then _ else _) Q E s
          rw [if_neg (by intro h;rw [hn,Bool.false_and] at h;cases h)]
          exact wpAny_pure hQ))
def Mj (K:PySem.W.Frag) (a:Addr):It:=
 ⟨fun i H=>∃ xs x,bM K H a xs/\xs[i]?=some x,fun i H x H'=>H'=H/\∀ xs,bM K H a xs->xs[i]?=some x,fun i H=>∃ xs,bM K H a xs/\xs.length<=i⟩
def OT (K:PySem.W.Frag) (a:Addr):It:=
 ⟨fun i H=>∃ xs x,mr K H a xs/\xs[i]?=some x,fun i H x H'=>H'=H/\∀ xs,mr K H a xs->xs[i]?=some x,fun i H=>∃ xs,mr K H a xs/\xs.length<=i⟩
def Ko (lo:Int) (n:Nat):It:=⟨fun i _=>i < n,fun i H x H'=>H'=H/\x=.int (lo+i),fun i _=>n<=i⟩
theorem Ft {P:Program} {w:World} {K:PySem.W.Frag} {tg:Expr} (a it:Addr):Turn P w K tg (Mj K a) [it] it (fun i h=>h.IsListIter it a i) where
 mem:=by simp
 obj:=fun i h st b hb=>by
   have e:b=it:=by simpa using hb
   subst e
   obtain ⟨o,e,c,d⟩:=st
   exact ⟨o,e,fun v z=>by rw [d] at z;cases z⟩
 keep:=fun i h h' st k=>st.at fun o e=>k it (by simp) o e
 item:=by
   intro X hP hw hK hc i pins s σ H E I hf st hg
   subst hP hw hK
   obtain ⟨xs,x,hq,hx⟩:=hg
   obtain ⟨its,rv,p,hz⟩:=I.list hq
   obtain ⟨u,hu,ru⟩:=rv.get hx
   obtain ⟨f0,f1,f2,f3,f4,f5⟩:=hf it (by simp)
   refine wpAny_pyNext_list_item st p.isList (x:=u) (by simpa using hu) fun h' st' sb=>?_
   have I1:Inv X pins σ H { s with heap:=h' }:=I.turned (t':=s.toks) (fun b o hb e=>(sb.2 b hb).trans e) f0 f1 f3 f4 f5
   obtain ⟨o,e,c,d⟩:=id st'
   exact ⟨u,rfl,yI (s:={ s with heap:=h' }) e c d (by decide) ⟨x,H,I1,ru,⟨rfl,fun ys hy=>by rw [I.Bj hy hq];exact hx⟩,st',fun b hb=>(hf b hb).1⟩⟩
 done:=by
   intro X hP hw hK hc i pins s σ H E I hf st hg
   subst hP hw hK
   obtain ⟨xs,hq,hx⟩:=hg
   obtain ⟨its,rv,p,hz⟩:=I.list hq
   obtain ⟨f0,f1,f2,f3,f4,f5⟩:=hf it (by simp)
   have hl:=rv.length
   exact wpAny_pyNext_list_end (I.ok.hd hc) st p.isList (by simp;omega) fun h' eb=>⟨rfl,I.turned (t':=s.toks) (fun b o hb e=>eb b o hb e) f0 f1 f3 f4 f5⟩
 self:=fun _ _ _ _ _ st h=>wpAny_pyIter_listiter st h
theorem Dk {P:Program} {w:World} {K:PySem.W.Frag} {tg:Expr} (a it:Addr):Turn P w K tg (OT K a) [it] it (fun i h=>h.IsTupleIter it a i) where
 mem:=by simp
 obj:=fun i h st b hb=>by
   have e:b=it:=by simpa using hb
   subst e
   obtain ⟨o,e,c,d⟩:=st
   exact ⟨o,e,fun v z=>by rw [d] at z;cases z⟩
 keep:=fun i h h' st k=>st.at fun o e=>k it (by simp) o e
 item:=by
   intro X hP hw hK hc i pins s σ H E I hf st hg
   subst hP hw hK
   obtain ⟨xs,x,hq,hx⟩:=hg
   obtain ⟨its,rv,p,hz⟩:=I.tuple hq
   obtain ⟨u,hu,ru⟩:=rv.get hx
   obtain ⟨f0,f1,f2,f3,f4,f5⟩:=hf it (by simp)
   refine wpAny_pyNext_tuple_item st (show s.heap.IsTuple a its.toArray from p) (x:=u) (by simpa using hu) fun h' st' sb=>?_
   have I1:Inv X pins σ H { s with heap:=h' }:=I.turned (t':=s.toks) (fun b o hb e=>(sb.2 b hb).trans e) f0 f1 f3 f4 f5
   obtain ⟨o,e,c,d⟩:=id st'
   exact ⟨u,rfl,yI (s:={ s with heap:=h' }) e c d (by decide) ⟨x,H,I1,ru,⟨rfl,fun ys hy=>by rw [I.Fp hy hq];exact hx⟩,st',fun b hb=>(hf b hb).1⟩⟩
 done:=by
   intro X hP hw hK hc i pins s σ H E I hf st hg
   subst hP hw hK
   obtain ⟨xs,hq,hx⟩:=hg
   obtain ⟨its,rv,p,hz⟩:=I.tuple hq
   obtain ⟨f0,f1,f2,f3,f4,f5⟩:=hf it (by simp)
   have hl:=rv.length
   exact wpAny_pyNext_tuple_end (I.ok.hd hc) st (show s.heap.IsTuple a its.toArray from p) (by simp;omega) fun h' eb=>⟨rfl,I.turned (t':=s.toks) (fun b o hb e=>eb b o hb e) f0 f1 f3 f4 f5⟩
 self:=fun _ _ _ _ _ st h=>wpAny_pyIter_tupleiter st h
theorem Dl {P:Program} {w:World} {K:PySem.W.Frag} {tg:Expr} (it:Addr) (lo:Int) (n:Nat):Turn P w K tg (Ko lo n) [it] it (fun i h=>IsRangeIter h it (lo+(i:Nat) * 1) ((n:Int) - (i:Nat)) 1) where
 mem:=by simp
 obj:=fun i h st b hb=>by
   have e:b=it:=by simpa using hb
   subst e
   exact ⟨_,st,fun v z=>by
     have z':Data.fields _=Data.cell v:=z
     cases z'⟩
 keep:=fun i h h' st k=>k it (by simp) _ st
 item:=by
   intro X hP hw hK hc i pins s σ H E I hf st hg
   subst hP hw hK
   obtain ⟨f0,f1,f2,f3,f4,f5⟩:=hf it (by simp)
   have W:=Walks.range (prog:=X.prog) (w:=X.w) (I.ok.hd hc) it lo 1 n
   refine W.item i s _ _ hg st fun v h' tk hv st' kk=>?_
   obtain ⟨t,rfl⟩:=hv
   have I1:Inv X pins σ H { s with heap:=h',toks:=tk }:=I.turned (fun b o hb e=>kk b o (by simpa using hb) e) f0 f1 f3 f4 f5
   refine ⟨_,rfl,yI (s:={ s with heap:=h',toks:=tk }) (n:="range_iterator") st' rfl rfl (by decide) ⟨.int (lo+i),H,I1,⟨t,?_⟩,⟨rfl,rfl⟩,st',fun b hb=>(hf b hb).1⟩⟩
   rw [Int.mul_one]
 done:=by
   intro X hP hw hK hc i pins s σ H E I hf st hg
   subst hP hw hK
   obtain ⟨f0,f1,f2,f3,f4,f5⟩:=hf it (by simp)
   exact wpAny_pyNext_range_end (I.ok.hd hc) st (by have:n<=i:=hg;omega) fun h' eb=>⟨rfl,I.turned (t':=s.toks) (fun b o hb e=>eb b o hb e) f0 f1 f3 f4 f5⟩
 self:=fun _ _ _ _ _ st h=>wpAny_pyIter_rangeiter st h
end L2
namespace L2
open PySem PySem.Spec PyProof.Rows
section
variable {X:Cx} {tg:Expr}
def OU (K:PySem.W.Frag) (tl:TE):TI:=fun σ H R=>tl σ H fun x H1=>∃ a,x=.ref a/\(∃ xs,bM K H1 a xs)/\R (Mj K a) H1
def Rr (K:PySem.W.Frag) (tl:TE):TI:=fun σ H R=>tl σ H fun x H1=>∃ a,x=.ref a/\(∃ xs,mr K H1 a xs)/\R (OT K a) H1
theorem iQ {l:Expr} {tl:TE} (hl:PE X l tl):PI X tg l (OU X.K tl):=by
 intro pins s σ H R I h
 refine cU (hl pins s σ H _ I h) fun v s1 ⟨x,H1,I1,r1,q1⟩=>?_
 obtain ⟨a,e,⟨xs,hq⟩,q⟩:=q1
 subst e
 cases r1
 obtain ⟨its,rv,p,hz⟩:=I1.list hq
 refine wpAny_pyIter_list p.isList ?_
 refine ⟨s1.heap.objs.size,[s1.heap.objs.size],_,_,H1,rfl,I1.kept (t':=s1.toks) fun b o e=>Heap.get?_push_of_some _ e,Ft a _,⟨_,Heap.get?_push_size _ rfl,rfl,rfl⟩,fun b hb=>?_,q⟩
 have e:b=s1.heap.objs.size:=by simpa using hb
 subst e
 exact I1.Fq (Nat.le_refl _) (I1.hok.fresh (Nat.le_refl _))
theorem Dm {l:Expr} {tl:TE} (hl:PE X l tl):PI X tg l (Rr X.K tl):=by
 intro pins s σ H R I h
 refine cU (hl pins s σ H _ I h) fun v s1 ⟨x,H1,I1,r1,q1⟩=>?_
 obtain ⟨a,e,⟨xs,hq⟩,q⟩:=q1
 subst e
 cases r1
 obtain ⟨its,rv,p,hz⟩:=I1.tuple hq
 refine wpAny_pyIter_tuple (show s1.heap.IsTuple a its.toArray from p) ?_
 refine ⟨s1.heap.objs.size,[s1.heap.objs.size],_,_,H1,rfl,I1.kept (t':=s1.toks) fun b o e=>Heap.get?_push_of_some _ e,Dk a _,⟨_,Heap.get?_push_size _ rfl,rfl,rfl⟩,fun b hb=>?_,q⟩
 have e:b=s1.heap.objs.size:=by simpa using hb
 subst e
 exact I1.Fq (Nat.le_refl _) (I1.hok.fresh (Nat.le_refl _))
theorem HF {pins:List (Addr×Obj)} {σ:St} {H:Hp} {s:Shared} {R:It->Hp->Prop} {E:Value->Shared->Prop} {lo hi:Int} {t u v:Tok} {tk:Nat} (I:Inv X pins σ H s) (h1:-(2 ^ 62)<=lo) (h2:lo < 2 ^ 62) (h3:-(2 ^ 62)<=hi) (h4:hi < 2 ^ 62)
   (q:R (Ko lo (hi - lo).toNat) H):wpAny (model X.prog X.w) X.A (pyIter (.ref s.heap.objs.size)) (Rq X pins σ tg R) E { s with heap:=s.heap.push { cls:=.type "range",data:=.fields #[.int lo t,.int hi u,.int 1 v] },toks:=tk }:=by
 refine wpAny_pyIter_range (IsRange.new ..) (small_one h1 h2 h3 h4) ?_
 have I1:Inv X pins σ H { s with heap:=s.heap.push { cls:=.type "range",data:=.fields #[.int lo t,.int hi u,.int 1 v] },toks:=tk }:=I.kept fun b o e=>Heap.get?_push_of_some _ e
 refine ⟨(s.heap.push { cls:=.type "range",data:=.fields #[.int lo t,.int hi u,.int 1 v] }).objs.size,[(s.heap.push { cls:=.type "range",data:=.fields #[.int lo t,.int hi u,.int 1 v] }).objs.size],_,_,H,rfl,
   I1.kept (t':=tk) fun b o e=>Heap.get?_push_of_some _ e,Dl _ lo (hi - lo).toNat,?_,fun b hb=>?_,q⟩
 . have e1:lo+((0:Nat):Int) * 1=lo:=by simp
   have e2:(((hi - lo).toNat:Nat):Int) - ((0:Nat):Int)=Builtin.Range.rangeSize lo hi 1:=by rw [rangeSize_one];split<;>omega
   show IsRangeIter _ _ (lo+((0:Nat):Int) * 1) ((((hi - lo).toNat:Nat):Int) - ((0:Nat):Int)) 1
   rw [e1,e2]
   exact Heap.get?_push_size _ rfl
 . have e:b=(s.heap.push { cls:=.type "range",data:=.fields #[.int lo t,.int hi u,.int 1 v] }).objs.size:=by simpa using hb
   subst e
   exact I1.Fq (Nat.le_refl _) (I1.hok.fresh (Nat.le_refl _))
def OV (ta:TA):TI:=fun σ H R=>ta σ H fun vs H1=>∃ j:Int,vs=[.int j]/\-(2 ^ 62)<=j/\j < 2 ^ 62/\R (Ko 0 j.toNat) H1
theorem k9 {a:Expr} {ta:TA} {p pos:Pos} (hg:Gl X "range") (hm:X.mg "range"=none) (ha:PA X [a] ta) (hs:starEach [a] X.env=[(false,eval a X.env)]:=by rfl):PI X tg (.Call (.Name "range" p) [a] [] pos) (OV ta):=by
 intro pins s σ H R I h
 refine Call_ (wj I hg hm boot_range (PyProof.Rows.callWith_type1 (cU (ha pos pins s σ H _ I h) fun us s1 ⟨vs,H1,I1,r1,q1⟩=>?_) hs rfl))
 obtain ⟨j,e,q1,q2,q⟩:=q1
 subst e
 cases r1 with
 | cons r rr=>
   cases rr
   obtain ⟨t,rfl⟩:=r
   exact call_range_1 (HF I1 (by omega) (by omega) q1 q2 (by simpa using q))
def Rt (wi:TI) (g:TG) (tb:TS):TS:=fun D σ H=>wi σ H fun J H1=>∃ W:Nat->Nat->St->Hp->Prop,(∃ m,W 0 m σ H1)/\∀ i m σ H,W i m σ H->
 (J.stop i H/\D.nx σ H)\/(J.go i H/\∃ N:St->Hp->Prop,(∀ σ' H',N σ' H'->∃ m',m' < m/\W (i+1) m' σ' H')/\∀ x H',J.HE i H x H'->g x σ H' fun σ2 H2=>tb { D with nx:=N,ct:=N,bk:=D.nx } σ2 H2)
def wo (fp:List Addr) (h:Heap):List (Addr×Obj):=fp.filterMap fun b=>(h.get? b).map fun o=>(b,o)
theorem rf {fp:List Addr} {h:Heap} {b:Addr} {o:Obj} (hb:b ∈ fp) (e:h.get? b=some o):(b,o) ∈ wo fp h:=List.mem_filterMap.mpr ⟨b,hb,by rw [e];rfl⟩
theorem Fv {fp:List Addr} {h:Heap} {p:Addr×Obj} (hp:p ∈ wo fp h):p.1 ∈ fp/\h.get? p.1=some p.2:=by
 obtain ⟨b,hb,e⟩:=List.mem_filterMap.mp hp
 cases q:h.get? b with
 | none=>rw [q] at e;cases e
 | some o=>
   rw [q] at e
   have e':(b,o)=p:=Option.some.inj e
   subst e'
   exact ⟨hb,q⟩
theorem Inv.pinned {pins:List (Addr×Obj)} {σ:St} {H:Hp} {s:Shared} {fp:List Addr} (I:Inv X pins σ H s) (hf:∀ b ∈ fp,wm X pins H b) (ho:∀ b ∈ fp,∃ o,s.heap.get? b=some o/\∀ v,o.data ≠ .cell v):Inv X (pins++wo fp s.heap) σ H s:=
 I.Ec fun p hp=>(List.mem_append.mp hp).elim (fun z=>I.pin p (List.mem_append_right _ z)) fun z=>by
   obtain ⟨hb,e⟩:=Fv z
   obtain ⟨f0,f1,f2,_⟩:=hf p.1 hb
   obtain ⟨o,e',d⟩:=ho p.1 hb
   rw [e] at e';cases e'
   exact ⟨e,f0,f1,f2,d⟩
theorem Inv.rK {pins pl:List (Addr×Obj)} {σ:St} {H:Hp} {s:Shared} (I:Inv X (pins++pl) σ H s):Inv X pins σ H s:=I.Ec fun p hp=>I.pin p (List.mem_append_right _ (List.mem_append_left _ hp))
theorem fj {iter:Expr} {body:List Stmt} {wi:TI} {g:TG} {tb:TS} {pos:Pos} (hp:PassesOwn (model X.prog X.w) X.A X.env X.xe) (hc:X.calm=true) (hi:PI X tg iter wi) (hg:PG X tg g) (hb:Bh X body tb)
   (hs:∀ x,foldedSetIterable iter X.env x=pure x:=by intro _;rfl):PS X (.For tg iter body [] pos) (Rt wi g tb):=by
 intro pins s σ H D I h
 refine wpAny_For (cU (hi pins s σ H _ I h) fun v s1 h1=>cU h1 fun itv s2 h2=>?_) hs
 obtain ⟨it,fp,tn,J,H2,e,I2,T,st2,f2,W,⟨m0,w0⟩,turn⟩:=h2
 subst e
 have Dn:∀ {H':Hp},(∀ b ∈ fp,H' b=none)->∀ b ∈ fp,wm X pins H' b:=fun hn b hb=>⟨hn b hb,(f2 b hb).2⟩
 refine codeAny_forLoop_any (fun n s'=>∃ i σ' H',Inv X pins σ' H' s'/\tn i s'.heap/\(∀ b ∈ fp,H' b=none)/\W i n σ' H') ?_ m0 ⟨0,σ,H2,I2,st2,fun b hb=>(f2 b hb).1,w0⟩
 rintro n s3 ⟨i,σ3,H3,I3,st3,Tn,w3⟩
 rcases turn i n σ3 H3 w3 with ⟨stop,qn⟩ | ⟨go,N,hN,step⟩
 . refine wpAny_passesOwn hp (cU (T.done X rfl rfl rfl hc i pins s3 σ3 H3 X.xe I3 (Dn Tn) st3 stop) fun r s4 ⟨hr,I4⟩=>?_)
   subst hr
   exact wpAny_execs_nil ⟨σ3,H3,I4,qn⟩
 . refine wpAny_passesOwn hp (cU (T.item X rfl rfl rfl hc i pins s3 σ3 H3 X.xe I3 (Dn Tn) st3 go) fun r s4 ⟨u,hr,h4⟩=>?_)
   subst hr
   refine wpAny_passesOwn hp (cU h4 fun _ s5 ⟨x,H5,I5,r5,y5,O5,UL⟩=>?_)
   have UM:=I5.pinned (Dn UL) (T.obj _ _ O5)
   refine wpAny_passesOwn hp (cU (hg _ s5 σ3 H5 x u _ UM r5 (step x H5 y5)) fun _ s6 ⟨σ6,H6,I6,q6⟩=>?_)
   refine wpAny_passesOwn hp (cU (hb _ s6 σ6 H6 _ I6 q6) fun f s7 q7=>?_)
   have again:∀ {σ7:St} {H7:Hp},Inv X (pins++wo fp s5.heap) σ7 H7 s7->N σ7 H7->∃ m,m < n/\∃ i σ' H',Inv X pins σ' H' s7/\tn i s7.heap/\(∀ b ∈ fp,H' b=none)/\W i m σ' H':=fun {σ7 H7} I7 n7=>by
     obtain ⟨m',hm,w7⟩:=hN σ7 H7 n7
     refine ⟨m',hm,i+1,σ7,H7,I7.rK,T.keep _ _ _ O5 fun b hb o e=>(I7.pin (b,o) (List.mem_append_right _ (List.mem_append_right _ (rf hb e)))).1,fun b hb=>?_,w7⟩
     obtain ⟨o,e,d⟩:=T.obj _ _ O5 b hb
     exact (I7.pin (b,o) (List.mem_append_right _ (List.mem_append_right _ (rf hb e)))).2.1
   cases f with
   | next=>obtain ⟨σ7,H7,I7,n7⟩:=q7;exact again I7 n7
   | cont=>obtain ⟨σ7,H7,I7,n7⟩:=q7;exact again I7 n7
   | brk=>obtain ⟨σ7,H7,I7,q7⟩:=q7;exact ⟨σ7,H7,I7.rK,q7⟩
   | ret v=>obtain ⟨x7,σ7,H7,I7,r7,q7⟩:=q7;exact ⟨x7,σ7,H7,I7.rK,r7,q7⟩
end
theorem kE {K:PySem.W.Frag} {a:Addr} {xs:List V} {g:TG} {tb:TS} {D:Ends} {σ:St} {H:Hp} (Pv:Nat->St->Hp->Prop) (h0:Pv 0 σ H) (hl:∀ i σ H,i<=xs.length->Pv i σ H->bM K H a xs)
   (hs:∀ i x σ H,xs[i]?=some x->Pv i σ H->g x σ H fun σ2 H2=>tb { D with nx:=Pv (i+1),ct:=Pv (i+1),bk:=D.nx } σ2 H2) (hd:∀ σ H,Pv xs.length σ H->D.nx σ H) :
   ∃ W:Nat->Nat->St->Hp->Prop,(∃ m,W 0 m σ H)/\∀ i m σ H,W i m σ H->
     ((Mj K a).stop i H/\D.nx σ H)\/((Mj K a).go i H/\∃ N:St->Hp->Prop,(∀ σ' H',N σ' H'->∃ m',m' < m/\W (i+1) m' σ' H')/\∀ x H',(Mj K a).HE i H x H'->g x σ H' fun σ2 H2=>tb { D with nx:=N,ct:=N,bk:=D.nx } σ2 H2):=by
 refine ⟨fun i m σ H=>m=xs.length - i/\i<=xs.length/\Pv i σ H,⟨xs.length,by simp,Nat.zero_le _,h0⟩,?_⟩
 rintro i m σ H ⟨rfl,hi,p⟩
 have q:=hl i σ H hi p
 by_cases hlt:i < xs.length
 . refine .inr ⟨⟨xs,xs[i],q,by simp [hlt]⟩,Pv (i+1),fun σ' H' p'=>⟨xs.length - (i+1),by omega,rfl,hlt,p'⟩,fun x H' y=>?_⟩
   obtain ⟨e,y⟩:=y
   subst e
   exact hs i x σ _ (y xs q) p
 . have e:i=xs.length:=by omega
   subst e
   exact .inl ⟨⟨xs,q,Nat.le_refl _⟩,hd σ H p⟩
theorem zA {K:PySem.W.Frag} {a:Addr} {xs:List V} {g:TG} {tb:TS} {D:Ends} {σ:St} {H:Hp} (Pv:Nat->St->Hp->Prop) (h0:Pv 0 σ H) (hl:∀ i σ H,i<=xs.length->Pv i σ H->mr K H a xs)
   (hs:∀ i x σ H,xs[i]?=some x->Pv i σ H->g x σ H fun σ2 H2=>tb { D with nx:=Pv (i+1),ct:=Pv (i+1),bk:=D.nx } σ2 H2) (hd:∀ σ H,Pv xs.length σ H->D.nx σ H) :
   ∃ W:Nat->Nat->St->Hp->Prop,(∃ m,W 0 m σ H)/\∀ i m σ H,W i m σ H->
     ((OT K a).stop i H/\D.nx σ H)\/((OT K a).go i H/\∃ N:St->Hp->Prop,(∀ σ' H',N σ' H'->∃ m',m' < m/\W (i+1) m' σ' H')/\∀ x H',(OT K a).HE i H x H'->g x σ H' fun σ2 H2=>tb { D with nx:=N,ct:=N,bk:=D.nx } σ2 H2):=by
 refine ⟨fun i m σ H=>m=xs.length - i/\i<=xs.length/\Pv i σ H,⟨xs.length,by simp,Nat.zero_le _,h0⟩,?_⟩
 rintro i m σ H ⟨rfl,hi,p⟩
 have q:=hl i σ H hi p
 by_cases hlt:i < xs.length
 . refine .inr ⟨⟨xs,xs[i],q,by simp [hlt]⟩,Pv (i+1),fun σ' H' p'=>⟨xs.length - (i+1),by omega,rfl,hlt,p'⟩,fun x H' y=>?_⟩
   obtain ⟨e,y⟩:=y
   subst e
   exact hs i x σ _ (y xs q) p
 . have e:i=xs.length:=by omega
   subst e
   exact .inl ⟨⟨xs,q,Nat.le_refl _⟩,hd σ H p⟩
theorem qj {lo:Int} {n:Nat} {g:TG} {tb:TS} {D:Ends} {σ:St} {H:Hp} (Pv:Nat->St->Hp->Prop) (h0:Pv 0 σ H)
   (hs:∀ i σ H,i < n->Pv i σ H->g (.int (lo+i)) σ H fun σ2 H2=>tb { D with nx:=Pv (i+1),ct:=Pv (i+1),bk:=D.nx } σ2 H2) (hd:∀ σ H,Pv n σ H->D.nx σ H) :
   ∃ W:Nat->Nat->St->Hp->Prop,(∃ m,W 0 m σ H)/\∀ i m σ H,W i m σ H->
     ((Ko lo n).stop i H/\D.nx σ H)\/((Ko lo n).go i H/\∃ N:St->Hp->Prop,(∀ σ' H',N σ' H'->∃ m',m' < m/\W (i+1) m' σ' H')/\∀ x H',(Ko lo n).HE i H x H'->g x σ H' fun σ2 H2=>tb { D with nx:=N,ct:=N,bk:=D.nx } σ2 H2):=by
 refine ⟨fun i m σ H=>m=n - i/\i<=n/\Pv i σ H,⟨n,by simp,Nat.zero_le _,h0⟩,?_⟩
 rintro i m σ H ⟨rfl,hi,p⟩
 by_cases hlt:i < n
 . refine .inr ⟨hlt,Pv (i+1),fun σ' H' p'=>⟨n - (i+1),by omega,rfl,hlt,p'⟩,fun x H' y=>?_⟩
   obtain ⟨e,y⟩:=y
   subst e y
   exact hs i σ _ hlt p
 . have e:i=n:=by omega
   subst e
   exact .inl ⟨Nat.le_refl _,hd σ H p⟩
theorem HG {c:TT} {tb:TS} {D:Ends} {σ:St} {H:Hp} (Pv:St->Hp->Prop) (μ:St->Hp->Nat) (h0:Pv σ H)
   (hs:∀ σ H,Pv σ H->c σ H fun b H1=>if b=true then tb { D with nx:=fun σ' H'=>Pv σ' H'/\μ σ' H' < μ σ H,ct:=fun σ' H'=>Pv σ' H'/\μ σ' H' < μ σ H,bk:=D.nx } σ H1 else D.nx σ H1)
   (mono:∀ σ H Q Q',(∀ b H1,Q b H1->Q' b H1)->c σ H Q->c σ H Q'):Dj c tb D σ H:=by
 refine ⟨fun m σ H=>m=μ σ H/\Pv σ H,⟨_,rfl,h0⟩,?_⟩
 rintro m σ H ⟨rfl,p⟩
 refine mono σ H _ _ (fun b H1 q=>?_) (hs σ H p)
 cases b with
 | true=>exact ⟨_,fun σ' H' ⟨p',l⟩=>⟨_,l,rfl,p'⟩,q⟩
 | false=>exact q
end L2
namespace L2
open PySem PySem.Spec PyProof.Rows
abbrev R2:=V->V->Hp->VK->Prop
def uH (X:Cx) (f:Value->Value->Sem Value) (r:R2):Prop:=
 ∀ (pins:List (Addr×Obj)) (s:Shared) (σ:St) (H:Hp) (x y:V) (v u:Value) (Q:VK),Inv X pins σ H s->RelV x v->RelV y u->r x y H Q->
   wpAny (model X.prog X.w) X.A (f v u) (EP X pins σ Q) X.xe s
def Ru (X:Cx) (f:Value->Sem Value) (r:V->Hp->VK->Prop):Prop:=
 ∀ (pins:List (Addr×Obj)) (s:Shared) (σ:St) (H:Hp) (x:V) (v:Value) (Q:VK),Inv X pins σ H s->RelV x v->r x H Q->
   wpAny (model X.prog X.w) X.A (f v) (EP X pins σ Q) X.xe s
def yJ (X:Cx) (f:Value) (r:List V->Hp->VK->Prop):Prop:=
 ∀ (pins:List (Addr×Obj)) (s:Shared) (σ:St) (H:Hp) (xs:List V) (us:List Value) (Q:VK),Inv X pins σ H s->Vals xs us->r xs H Q->
   wpAny (model X.prog X.w) X.A (call f us) (EP X pins σ Q) X.xe s
def Rv (X:Cx) (r:V->Hp->(Bool->Hp->Prop)->Prop):Prop:=
 ∀ (pins:List (Addr×Obj)) (s:Shared) (σ:St) (H:Hp) (x:V) (v:Value) (Q:Bool->Hp->Prop),Inv X pins σ H s->RelV x v->r x H Q->
   wpAny (model X.prog X.w) X.A (truthy v) (TP X pins σ Q) X.xe s
def QI (r:R2) (ta tb:TE):TE:=fun σ H Q=>ta σ H fun x H1=>tb σ H1 fun y H2=>r x y H2 Q
def UN (r:V->Hp->VK->Prop) (ta:TE):TE:=fun σ H Q=>ta σ H fun x H1=>r x H1 Q
def rI (C:Int->Int->Prop) (g:Int->Int->V):R2:=fun x y H Q=>∃ i j,x=.int i/\y=.int j/\C i j/\Q (g i j) H
def Kd (g:Int->Int->V):R2:=fun x y H Q=>∃ i j,x=.int i/\y=.int j/\Q (g i j) H
def rU (g:Int->V):V->Hp->VK->Prop:=fun x H Q=>∃ i,x=.int i/\Q (g i) H
section
variable {X:Cx} {a b c:Expr} {ta tb tc:TE} {pos:Pos}
theorem MT (ha:PE X a ta) (hb:PE X b tb) {pins:List (Addr×Obj)} {s:Shared} {σ:St} {H:Hp} {R:V->V->Hp->Prop} (I:Inv X pins σ H s)
   (h:ta σ H fun x H1=>tb σ H1 fun y H2=>R x y H2) {Q:Value->Shared->Prop} {f:Value->Value->Sem Value}
   (hf:∀ v u s2 x y H2,Inv X pins σ H2 s2->RelV x v->RelV y u->R x y H2->wpAny (model X.prog X.w) X.A (f v u) Q X.xe s2) :
   wpAny (model X.prog X.w) X.A (eval a X.env) (fun v s₁=>wpAny (model X.prog X.w) X.A (eval b X.env) (fun u s₂=>wpAny (model X.prog X.w) X.A (f v u) Q X.xe s₂) X.xe s₁) X.xe s:=by
 refine cU (ha pins s σ H _ I h) fun v s1 ⟨x,H1,I1,r1,q1⟩=>?_
 refine cU (hb pins s1 σ H1 _ I1 q1) fun u s2 ⟨y,H2,I2,r2,q2⟩=>?_
 exact hf v u s2 x y H2 I2 r1 r2 q2
theorem fC {op:Operator} {r:R2} (ho:uH X (binaryOp op) r) (ha:PE X a ta) (hb:PE X b tb):PE X (.BinOp a op b pos) (QI r ta tb):=by
 intro pins s σ H Q I h
 exact wpAny_BinOp (MT ha hb I h fun v u s2 x y H2 I2 rx ry q=>ho pins s2 σ H2 x y v u Q I2 rx ry q)
theorem wu {op:UnaryOp} {r:V->Hp->VK->Prop} (ho:Ru X (unaryOp op) r) (ha:PE X a ta):PE X (.UnaryOp op a pos) (UN r ta):=by
 intro pins s σ H Q I h
 exact UnaryOp_ (cU (ha pins s σ H _ I h) fun v s1 ⟨x,H1,I1,r1,q1⟩=>ho pins s1 σ H1 x v Q I1 r1 q1)
theorem Tp {f:Value->Value->Sem Value} {C:Int->Int->Prop} {g:Int->Int->Int}
   (rule:∀ (i j:Int) (t u:Tok) (s:Shared) (Q:Value->Shared->Prop) (E:Value->Shared->Prop),C i j->Q (.int (g i j) s.toks) { s with toks:=s.toks+1 }->wpAny (model X.prog X.w) X.A (f (.int i t) (.int j u)) Q E s) :
   uH X f (rI C fun i j=>.int (g i j)):=by
 intro pins s σ H x y v u Q I rx ry h
 obtain ⟨i,j,rfl,rfl,hc,q⟩:=h
 obtain ⟨t,rfl⟩:=rx
 obtain ⟨t',rfl⟩:=ry
 exact rule i j t t' s _ _ hc ⟨.int (g i j),H,I.tok _,⟨_,rfl⟩,q⟩
theorem Kp {f:Value->Value->Sem Value} {g:Int->Int->Int}
   (rule:∀ (i j:Int) (t u:Tok) (s:Shared) (Q:Value->Shared->Prop) (E:Value->Shared->Prop),Q (.int (g i j) s.toks) { s with toks:=s.toks+1 }->wpAny (model X.prog X.w) X.A (f (.int i t) (.int j u)) Q E s) :
   uH X f (Kd fun i j=>.int (g i j)):=by
 intro pins s σ H x y v u Q I rx ry h
 obtain ⟨i,j,rfl,rfl,q⟩:=h
 obtain ⟨t,rfl⟩:=rx
 obtain ⟨t',rfl⟩:=ry
 exact rule i j t t' s _ _ ⟨.int (g i j),H,I.tok _,⟨_,rfl⟩,q⟩
theorem Kq {f:Value->Value->Sem Value} {g:Int->Int->Bool}
   (rule:∀ (i j:Int) (t u:Tok) (s:Shared) (Q:Value->Shared->Prop) (E:Value->Shared->Prop),Q (.bool (g i j)) s->wpAny (model X.prog X.w) X.A (f (.int i t) (.int j u)) Q E s) :
   uH X f (Kd fun i j=>.bl (g i j)):=by
 intro pins s σ H x y v u Q I rx ry h
 obtain ⟨i,j,rfl,rfl,q⟩:=h
 obtain ⟨t,rfl⟩:=rx
 obtain ⟨t',rfl⟩:=ry
 exact rule i j t t' s _ _ ⟨.bl (g i j),H,I,rfl,q⟩
def Rw (i j:Int):Prop:=0<=j/\j<=1000000/\i.natAbs < 2 ^ 64
def MU (i j:Int):Prop:=(-(2 ^ 64) < i/\i < 2 ^ 64)\/(-(2 ^ 64) < j/\j < 2 ^ 64)
theorem MU.ok {i j:Int} (h:MU i j):IntMulOk i j:=by
 rcases h with ⟨h1,h2⟩ | ⟨h1,h2⟩
 . exact .of_left (intBits_le_64 h1 h2)
 . exact .of_right (intBits_le_64 h1 h2)
theorem tH:uH X (binaryOp .Add) (Kd fun i j=>.int (i+j)):=Kp fun _ _ _ _ _ _ _ q=>add_int q
theorem oJ:uH X (binaryOp .Sub) (Kd fun i j=>.int (i - j)):=Kp fun _ _ _ _ _ _ _ q=>sub_int q
theorem Dq:uH X (binaryOp .Mult) (rI MU fun i j=>.int (i * j)):=Tp fun _ _ _ _ _ _ _ hc q=>mul_int q hc.ok
theorem Dr:uH X (binaryOp .LShift) (rI Rw fun i j=>.int (i * 2 ^ j.toNat)):=Tp fun _ _ _ _ _ _ _ hc q=>lshift_int_small hc.1 hc.2.1 hc.2.2 q
theorem Ml:uH X (binaryOp .BitOr) (Kd fun i j=>.int (Builtin.bitOr i j)):=Kp fun _ _ _ _ _ _ _ q=>or_int q
theorem MV:uH X (binaryOp .BitXor) (Kd fun i j=>.int (Builtin.bitXor i j)):=Kp fun _ _ _ _ _ _ _ q=>xor_int q
theorem UO {f:Value->Sem Value} {g:Int->Int}
   (rule:∀ (i:Int) (t:Tok) (s:Shared) (Q:Value->Shared->Prop) (E:Value->Shared->Prop),Q (.int (g i) s.toks) { s with toks:=s.toks+1 }->wpAny (model X.prog X.w) X.A (f (.int i t)) Q E s) :
   Ru X f (rU fun i=>.int (g i)):=by
 intro pins s σ H x v Q I rx h
 obtain ⟨i,rfl,q⟩:=h
 obtain ⟨t,rfl⟩:=rx
 exact rule i t s _ _ ⟨.int (g i),H,I.tok _,⟨_,rfl⟩,q⟩
theorem rg:Ru X (unaryOp .USub) (rU fun i=>.int (-i)):=UO fun _ _ _ _ _ q=>neg_int q
end
def OW:V->V->Bool
 | .non,.non=>true | .non,.int _=>true | .int _,.non=>true | .non,.bl _=>true | .bl _,.non=>true | .non,.str _=>true | .str _,.non=>true
 | .int _,.int _=>true | .bl _,.bl _=>true | .str _,.str _=>true | .Bc _,.Bc _=>true
 | .int _,.str _=>true | .str _,.int _=>true | .bl _,.str _=>true | .str _,.bl _=>true
 | _,_=>false
def UQ:R2:=fun x y H Q=>OW x y=true/\Q (.bl (decide (x=y))) H
def UR:R2:=fun x y H Q=>OW x y=true/\Q (.bl (!decide (x=y))) H
theorem Eg {i j:Int}:decide (V.int i=V.int j)=(i==j):=by
 rw [Bool.eq_iff_iff]
 simp
theorem HH {i j:Bool}:decide (V.bl i=V.bl j)=(i==j):=by
 rw [Bool.eq_iff_iff]
 simp
theorem Eh {i j:Str}:decide (V.str i=V.str j)=(i==j):=by
 rw [Bool.eq_iff_iff]
 simp
theorem Ei {i j:Array UInt8}:decide (V.Bc i=V.Bc j)=(i.toList==j.toList):=by
 rw [Bool.eq_iff_iff]
 cases i
 cases j
 simp
section
variable {X:Cx} {a b c:Expr} {ta tb tc:TE} {pos:Pos}
theorem bU {pins:List (Addr×Obj)} {σ:St} {H:Hp} {s:Shared} {Q:VK} {k k':Bool} (I:Inv X pins σ H s) (q:Q (.bl k) H) (e:k=k'):EP X pins σ Q (.bool k') s:=by
 subst e
 exact ⟨.bl k,H,I,rfl,q⟩
theorem Ej:uH X (compareOp .Eq) UQ:=by
 intro pins s σ H x y v u Q I rx ry h
 obtain ⟨hs,q⟩:=h
 cases x with
 | non=>
   cases rx
   cases y with
   | non=>cases ry;exact PySem.EqNone.eq_none_none (bU I q (by simp))
   | bl j=>cases ry;exact PySem.EqNone.eq_none_bool (bU I q (by simp))
   | int j=>obtain ⟨t',rfl⟩:=ry;exact PySem.EqNone.eq_none_int (bU I q (by simp))
   | str j=>obtain ⟨t',rfl⟩:=ry;exact PySem.EqNone.eq_none_str (bU I q (by simp))
   | _=>exact absurd (show false=true from hs) Bool.false_ne_true
 | bl i=>
   cases rx
   cases y with
   | non=>cases ry;exact PySem.EqNone.eq_bool_none (bU I q (by simp))
   | bl j=>cases ry;exact eq_bool (bU I q HH)
   | str j=>obtain ⟨t',rfl⟩:=ry;exact PySem.EqMixed.eq_bool_str (bU I q (by simp))
   | _=>exact absurd (show false=true from hs) Bool.false_ne_true
 | int i=>
   obtain ⟨t,rfl⟩:=rx
   cases y with
   | non=>cases ry;exact PySem.EqNone.eq_int_none (bU I q (by simp))
   | int j=>obtain ⟨t',rfl⟩:=ry;exact eq_int (bU I q Eg)
   | str j=>obtain ⟨t',rfl⟩:=ry;exact PySem.EqMixed.eq_int_str (bU I q (by simp))
   | _=>exact absurd (show false=true from hs) Bool.false_ne_true
 | str i=>
   obtain ⟨t,rfl⟩:=rx
   cases y with
   | non=>cases ry;exact PySem.EqNone.eq_str_none (bU I q (by simp))
   | bl j=>cases ry;exact PySem.EqMixed.eq_str_bool (bU I q (by simp))
   | int j=>obtain ⟨t',rfl⟩:=ry;exact PySem.EqMixed.eq_str_int (bU I q (by simp))
   | str j=>obtain ⟨t',rfl⟩:=ry;exact eq_str (bU I q Eh)
   | _=>exact absurd (show false=true from hs) Bool.false_ne_true
 | Bc i=>
   obtain ⟨t,rfl⟩:=rx
   cases y with
   | Bc j=>obtain ⟨t',rfl⟩:=ry;exact PySem.W.eq_bytes (bU I q Ei)
   | _=>exact absurd (show false=true from hs) Bool.false_ne_true
 | _=>cases y<;>exact absurd (show false=true from hs) Bool.false_ne_true
theorem Bl:uH X (compareOp .NotEq) UR:=by
 intro pins s σ H x y v u Q I rx ry h
 obtain ⟨hs,q⟩:=h
 cases x with
 | non=>
   cases rx
   cases y with
   | non=>cases ry;exact PySem.EqNone.ne_none_none (bU I q (by simp))
   | bl j=>cases ry;exact PySem.EqNone.ne_none_bool (bU I q (by simp))
   | int j=>obtain ⟨t',rfl⟩:=ry;exact PySem.EqNone.ne_none_int (bU I q (by simp))
   | str j=>obtain ⟨t',rfl⟩:=ry;exact PySem.EqNone.ne_none_str (bU I q (by simp))
   | _=>exact absurd (show false=true from hs) Bool.false_ne_true
 | bl i=>
   cases rx
   cases y with
   | non=>cases ry;exact PySem.EqNone.ne_bool_none (bU I q (by simp))
   | bl j=>cases ry;exact ne_bool (bU I q (congrArg not HH))
   | str j=>obtain ⟨t',rfl⟩:=ry;exact PySem.EqMixed.ne_bool_str (bU I q (by simp))
   | _=>exact absurd (show false=true from hs) Bool.false_ne_true
 | int i=>
   obtain ⟨t,rfl⟩:=rx
   cases y with
   | non=>cases ry;exact PySem.EqNone.ne_int_none (bU I q (by simp))
   | int j=>obtain ⟨t',rfl⟩:=ry;exact ne_int (bU I q (congrArg not Eg))
   | str j=>obtain ⟨t',rfl⟩:=ry;exact PySem.EqMixed.ne_int_str (bU I q (by simp))
   | _=>exact absurd (show false=true from hs) Bool.false_ne_true
 | str i=>
   obtain ⟨t,rfl⟩:=rx
   cases y with
   | non=>cases ry;exact PySem.EqNone.ne_str_none (bU I q (by simp))
   | bl j=>cases ry;exact PySem.EqMixed.ne_str_bool (bU I q (by simp))
   | int j=>obtain ⟨t',rfl⟩:=ry;exact PySem.EqMixed.ne_str_int (bU I q (by simp))
   | str j=>obtain ⟨t',rfl⟩:=ry;exact ne_str (bU I q (congrArg not Eh))
   | _=>exact absurd (show false=true from hs) Bool.false_ne_true
 | Bc i=>
   obtain ⟨t,rfl⟩:=rx
   cases y with
   | Bc j=>obtain ⟨t',rfl⟩:=ry;exact PySem.W.ne_bytes (bU I q (congrArg not Ei))
   | _=>exact absurd (show false=true from hs) Bool.false_ne_true
 | _=>cases y<;>exact absurd (show false=true from hs) Bool.false_ne_true
theorem HJ:uH X (compareOp .Lt) (Kd fun i j=>.bl (decide (i < j))):=Kq fun _ _ _ _ _ _ _ q=>lt_int q
theorem Ek:uH X (compareOp .LtE) (Kd fun i j=>.bl (decide (i<=j))):=Kq fun _ _ _ _ _ _ _ q=>le_int q
theorem El:uH X (compareOp .Gt) (Kd fun i j=>.bl (decide (j < i))):=Kq fun _ _ _ _ _ _ _ q=>gt_int q
theorem OX:uH X (compareOp .GtE) (Kd fun i j=>.bl (decide (j<=i))):=Kq fun _ _ _ _ _ _ _ q=>ge_int q
theorem fD (b:Expr) {op:CmpOp} (h:op ≠ .In:=by decide) (h2:op ≠ .NotIn:=by decide):behindInMarks op b=false:=by
 have e1:(op==CmpOp.In)=false:=by cases op<;>first | rfl | exact absurd rfl h
 have e2:(op==CmpOp.NotIn)=false:=by cases op<;>first | rfl | exact absurd rfl h2
 cases b<;>simp [behindInMarks,e1,e2]
theorem mT {op:CmpOp} {r:R2} (ho:uH X (compareOp op) r) (ha:PE X a ta) (hb:PE X b tb) (hm:behindInMarks op b=false):PE X (.Compare a [op] [b] pos) (QI r ta tb):=by
 intro pins s σ H Q I h
 exact wpAny_Compare1 (MT ha hb I h fun v u s2 x y H2 I2 rx ry q=>ho pins s2 σ H2 x y v u Q I2 rx ry q) hm
def OY (t:TE):TT:=fun σ H Q=>t σ H fun x H'=>∃ k,x=.bl k/\Q k H'
theorem eL {op:CmpOp} {r:R2} (ho:uH X (compareOp op) r) (ha:PE X a ta) (hb:PE X b tb) (hm:behindInMarks op b=false):PT X (.Compare a [op] [b] pos) (OY (QI r ta tb)):=by
 intro pins s σ H Q I h
 refine wpAny_isTrue_Compare1 (cU (ha pins s σ H _ I h) fun v s1 ⟨x,H1,I1,r1,q1⟩=>cU (hb pins s1 σ H1 _ I1 q1) fun u s2 ⟨y,H2,I2,r2,q2⟩=>
   cU (ho pins s2 σ H2 x y v u _ I2 r1 r2 q2) fun c s3 ⟨z,H3,I3,r3,k,e,q3⟩=>?_) hm
 subst e
 cases r3
 exact wpAny_truthy_bool ⟨H3,I3,q3⟩
def MW (r r':R2) (ta tb tc:TE):TE:=fun σ H Q=>ta σ H fun x H1=>tb σ H1 fun y H2=>r x y H2 fun z H3=>∃ k,z=.bl k /\
 (if k=true then tc σ H3 fun w' H4=>r' y w' H4 Q else Q (.bl false) H3)
theorem HK {op op':CmpOp} {r r':R2} (ho:uH X (compareOp op) r) (ho':uH X (compareOp op') r') (ha:PE X a ta) (hb:PE X b tb) (hc:PE X c tc)
   (hm:lastMarks [op,op'] [b,c]=false:=by with_unfolding_all rfl):PE X (.Compare a [op,op'] [b,c] pos) (MW r r' ta tb tc):=by
 intro pins s σ H Q I h
 refine Compare_chain (cU (ha pins s σ H _ I h) fun v s1 ⟨x,H1,I1,r1,q1⟩=>chain_link (cU (hb pins s1 σ H1 _ I1 q1) fun u s2 ⟨y,H2,I2,r2,q2⟩=>
   cU (ho pins s2 σ H2 x y v u _ I2 r1 r2 q2) fun d s3 ⟨z,H3,I3,r3,k,e,q3⟩=>?_)) hm
 subst e
 cases r3
 refine wpAny_truthy_bool ?_
 cases k with
 | false=>exact ite_ff ⟨.bl false,H3,I3,rfl,q3⟩
 | true=>exact ite_tt (chain_last (cU (hc pins s3 σ H3 _ I3 q3) fun w' s4 ⟨z',H4,I4,r4,q4⟩=>ho' pins s4 σ H4 y z' u w' Q I4 r2 r4 q4))
def OZ (K:PySem.W.Frag) (x:V) (H:Hp) (k:Bool):Prop:=
 match x with
 | .non=>k=false
 | .bl b=>k=b
 | .int i=>k=(i != 0)
 | .str y=>y.length<=sizeLine/\k=((y.length:Int) != 0)
 | .Bc y=>y.size<=sizeLine/\k=((y.size:Int) != 0)
 | .ref p=>(∃ xs,bM K H p xs/\k=!xs.isEmpty)\/(∃ xs,mr K H p xs/\k=!xs.isEmpty)\/∃ kvs,H p=some (.dK kvs)/\k=!kvs.isEmpty
 | _=>False
theorem Ds {κ:Type} {kvs:List (κ×V)} {vs:List (κ×Value)} (r:KV kvs vs):(!vs.isEmpty)=!kvs.isEmpty:=by
 cases r<;>rfl
theorem wz {xs:List V} {its:List Value} (r:Vals xs its):(!its.toArray.isEmpty)=!xs.isEmpty:=by
 cases r<;>simp
theorem tK:(sizeLine:Nat) < 2 ^ 63:=by rw [sizeLine_eq];decide
theorem MX:Rv X (fun x H Q=>∃ k,OZ X.K x H k/\Q k H):=by
 intro pins s σ H x v Q I rx h
 obtain ⟨k,e,q⟩:=h
 have hl:=tK
 have hs:sizeLine=16777216:=sizeLine_eq
 cases x with
 | non=>
   cases rx
   have e':k=false:=e
   subst e'
   exact truthy_none ⟨H,I,q⟩
 | bl b=>
   cases rx
   have e':k=b:=e
   subst e'
   exact wpAny_truthy_bool ⟨H,I,q⟩
 | int i=>
   obtain ⟨t,rfl⟩:=rx
   have e':k=(i != 0):=e
   subst e'
   exact PySem.P.truthy_int ⟨H,I,q⟩
 | str y=>
   obtain ⟨t,rfl⟩:=rx
   obtain ⟨hy,e'⟩:y.length<=sizeLine/\k=((y.length:Int) != 0):=e
   subst e'
   exact PySem.P.truthy_str (by omega) ⟨H,I.tok _,q⟩
 | Bc y=>
   obtain ⟨t,rfl⟩:=rx
   obtain ⟨hy,e'⟩:y.size<=sizeLine/\k=((y.size:Int) != 0):=e
   subst e'
   exact PySem.W.truthy_bytes (by omega) ⟨H,I.tok _,q⟩
 | ref p=>
   cases rx
   have e':(∃ xs,bM X.K H p xs/\k=!xs.isEmpty)\/(∃ xs,mr X.K H p xs/\k=!xs.isEmpty)\/∃ kvs,H p=some (.dK kvs)/\k=!kvs.isEmpty:=e
   rcases e' with ⟨xs,hx,e'⟩ | ⟨xs,hx,e'⟩ | ⟨kvs,hx,e'⟩
   . subst e'
     obtain ⟨its,r,pl,hz⟩:=I.list hx
     have hlen:=r.length
     exact wpAny_truthy_list pl.isList (by simp only [List.size_toArray];omega) ⟨H,I.tok _,by rw [wz r];exact q⟩
   . subst e'
     obtain ⟨its,r,pl,hz⟩:=I.tuple hx
     have hlen:=r.length
     exact truthy_tuple pl (by simp only [List.size_toArray];omega) ⟨H,I.tok _,by rw [wz r];exact q⟩
   . subst e'
     obtain ⟨hz,hS,vs,r,m⟩:kvs.length<=sizeLine/\(p==sysModules)=false/\∃ vs,KV kvs vs/\s.heap.DictOf (f7 X.prog X.w) p vs:=I.hok p _ hx
     have hlen:kvs.length=vs.length:=Paired.length r
     exact wpAny_truthy_dict hS m (by omega) ⟨H,I.tok _,by rw [Ds r];exact q⟩
 | _=>exact (show False from e).elim
theorem HL (ha:PE X a ta) (he:∀ whole,isTrue a X.env whole=(do let v <- whole;standAt a.pos;holding [v] (truthy v))) :
   PT X a (fun σ H Q=>ta σ H fun x H'=>∃ k,OZ X.K x H' k/\Q k H'):=by
 intro pins s σ H Q I h
 exact isTrue_plain (cU (ha pins s σ H _ I h) fun v s1 ⟨x,H1,I1,r1,q1⟩=>MX pins s1 σ H1 x v Q I1 r1 q1) (he _)
theorem vals1 {x:V} {us:List Value} (r:Vals [x] us):∃ u,us=[u]/\RelV x u:=by
 cases r with
 | cons r1 r2=>cases r2;exact ⟨_,rfl,r1⟩
theorem vals2 {x y:V} {us:List Value} (r:Vals [x,y] us):∃ u w',us=[u,w']/\RelV x u/\RelV y w':=by
 cases r with
 | cons r1 r2=>
   cases r2 with
   | cons r3 r4=>cases r4;exact ⟨_,_,rfl,r1,r3⟩
theorem Fw (hc:X.calm=true):yJ X (.builtin "min") (fun xs H Q=>∃ i j,xs=[.int i,.int j]/\Q (.int (if j < i then j else i)) H):=by
 intro pins s σ H xs us Q I r h
 obtain ⟨i,j,rfl,q⟩:=h
 obtain ⟨u,w',rfl,⟨t,rfl⟩,⟨t',rfl⟩⟩:=vals2 r
 refine min_two_ints (I.ok.hd hc) fun h' tk k=>⟨_,H,I.kept k,?_,q⟩
 by_cases hj:j < i
 . rw [if_pos hj,if_pos hj];exact ⟨_,rfl⟩
 . rw [if_neg hj,if_neg hj];exact ⟨_,rfl⟩
end
end L2
namespace L2
open PySem PySem.Spec PyProof.Rows
structure Dt (h:Heap) (x dx C:Addr) (mA:Str->Option Value):Prop where
 obj:h.get? x=some (PySem.W.instObj C dx)
 ns:h.Ns1 dx mA
 ne:dx ≠ x
theorem Fx {h:Heap} {dx:Addr} {mA:Str->Option Value} (n:h.Ns1 dx mA):∃ od,h.get? dx=some od/\∀ name,PySem.W.lookIn name od=some (mA name):=by
 obtain ⟨o,es,ep,ho,hd,hk,_,hm⟩:=n
 refine ⟨o,ho,fun name=>?_⟩
 have e:=hm name
 unfold nsFind findBy at e
 rw [<- Array.find?_toList] at e
 unfold PySem.W.lookIn
 rw [hd]
 dsimp only
 split
 . rename_i y q
   rw [q] at e
   exact congrArg some e
 . rename_i q
   rw [q] at e
   have a:es.toList.any (·.refKey)=false:=by
     rw [List.any_eq_false]
     intro y hy
     obtain ⟨z,t,hkey⟩:=hk y (Array.mem_toList_iff.mp hy)
     simp [DictEntry.refKey,hkey]
   have a':¬ es.toList.any (·.refKey)=true:=by rw [a];exact Bool.false_ne_true
   rw [if_neg a']
   exact congrArg some e
theorem Dt.look {h:Heap} {x dx C:Addr} {mA:Str->Option Value} (I:Dt h x dx C mA):∃ od,PySem.W.InstAt h x (PySem.W.instObj C dx) C (some od)/\∀ name,PySem.W.lookIn name od=some (mA name):=
 let ⟨od,ho,hl⟩:=Fx I.ns
 ⟨od,⟨I.obj,rfl,rfl,ho⟩,hl⟩
section
variable {prog:Program} {w:World} {A:Around} {E:Value->Shared->Prop} {s:Shared} {K:PySem.W.Frag} {x dx C f:Addr} {mA:Str->Option Value} {name:Str} {v:Value}
theorem get_map {expr:Bool} {Q:Value->Shared->Prop} (X:K.In s.heap) (I:Dt s.heap x dx C mA) (hg:PySem.W.plainGet K C name=true) (hh:PySem.W.hasDictIn K C=true)
   (ha:PySem.W.findIn K (.ref C) name=some none) (hv:mA name=some v) (hv':PySem.W.handedIn v=true) (h:Q v { s with toks:=s.toks+1 }) :
   wpAny (model prog w) A (getAttr (.ref x) name expr) Q E s:=by
 obtain ⟨od,J,hl⟩:=I.look
 exact PySem.W.get_value X J (PySem.W.plainGet_of hg).1 (PySem.W.findObj_own hh ha rfl (by rw [hl,hv])) hv' h
theorem HM {pl:Sem Bool} {Q:Value×List Value->Shared->Prop} (X:K.In s.heap) (I:Dt s.heap x dx C mA) (hg:PySem.W.plainGet K C name=true)
   (hf:PySem.W.findIn K (.ref C) name=some (some (.ref f))) (ht:PySem.W.isFn K (.ref f)=true) (hv:mA name=none) (h:Q (.ref f,[.ref x]) s) :
   wpAny (model prog w) A (getMethod (.ref x) name pl) Q E s:=by
 obtain ⟨od,J,hl⟩:=I.look
 exact PySem.W.method_fn X J (PySem.W.plainGet_of hg).1 (PySem.W.plainGet_of hg).2 hf (beq_iff_eq.mp ht) (by show (PySem.W.lookIn name od).map (·.isSome)=some false;rw [hl,hv];rfl) h
theorem Kr {ns:List Str} {Q:Unit->Shared->Prop} (X:K.In s.heap) (I:Dt s.heap x dx C mA)
   (hs:PySem.W.findIn K (.ref C) "__setattr__"=some (some (.builtin "object.__setattr__"))) (hp:PySem.W.plainOver K C=true) (ht:PySem.W.takerIn K C name=some none) (hh:PySem.W.hasDictIn K C=true)
   (hw:PySem.Within mA ns) (hsz:ns.length<=sizeLine)
   (h:∀ h',Dt h' x dx C (fun y=>if y=name then some v else mA y)->Heap.SameBut dx s.heap h'->Q () { s with heap:=h',toks:=s.toks+2 }) :
   wpAny (model prog w) A (setAttr (.ref x) name v) Q E s:=by
 obtain ⟨od,J,hl⟩:=I.look
 refine PySem.W.set_plain X J hs (PySem.W.osa_open (s:={ s with toks:=s.toks+1 }) (r:=none) X J hp ht fun b=>?_)
 obtain ⟨cd,hc,hd'⟩:=PySem.W.any_some hh
 have hx:s.heap.get? x=some ⟨.ref C,some dx,.plain,#[]⟩:=I.obj
 refine wpAny_bind (wpAny_pure (wpAny_bind (wpAny_bind (wpAny_loadPart hx (wpAny_bind (PySem.W.Looks.here (s:={ s with toks:=s.toks+1 }) (PySem.W.looks_clsIn X hc) ?_))))))
 rw [hd']
 refine wpAny_pure (a:=some dx) (wpAny_bind (wpAny_pure (wpAny_bind ?_)))
 refine wpAny_nsSet1 (s:={ s with toks:=s.toks+1 }) I.ns fun h' hn2 hs2=>?_
 obtain ⟨oD,esD,US,UT,UU,UW⟩:=hn2.count (PySem.Within.cons name v hw)
 refine wpAny_bind (wpAny_lookBehind UT (by rw [UU];exact pastItsLine_dict (Nat.le_trans UW (by rw [List.length_cons];omega))) ?_)
 exact wpAny_pure (h _ ⟨(hs2.2 _ (Ne.symm I.ne)).trans I.obj,hn2,I.ne⟩ hs2)
theorem HN {R:Result->Shared->Prop} {vs:List Value} {kw:List (Str×Value)} (X:K.In s.heap) (hm:PySem.W.makesIn K C=true)
   (hi:PySem.W.findIn K (.ref C) "__init__"=some (some (.ref f))) (hf:PySem.W.typeIn K (.ref f)=some (.type "function"))
   (h:codeAny (model prog w) (A.under (.builtin "type.__call__" ⟨.ref C::vs,kw⟩)) (.call (.ref f) ⟨.ref (s.heap.objs.size+1)::vs,kw⟩) (PySem.W.InitBack (s.heap.objs.size+1) R)
     { s with heap:=(s.heap.push PySem.W.emptyDict).push (PySem.W.instObj C s.heap.objs.size) }) :
   codeAny (model prog w) A (.call (.ref C) ⟨vs,kw⟩) R s:=by
 obtain ⟨hh,g,d,t,os⟩:=s
 exact PySem.W.make_core (PySem.W.makes_of X hm) (PySem.W.looks_findIn X hi) (fun self=>PySem.W.bind_fn X self hf) (.inl rfl) h
end
def eu (f:Str) (v:V):List (Str×V)->List (Str×V)
 | []=>[(f,v)]
 | (g,x)::r=>if g=f then (g,v)::r else (g,x)::eu f v r
theorem oK (f g:Str) (v:V):∀ fs:List (Str×V),(eu f v fs).lookup g=if g=f then some v else fs.lookup g
 | []=>by
   show List.lookup g [(f,v)]=_
   by_cases h:g=f
   . have hb:(g==f)=true:=beq_iff_eq.mpr h
     simp only [List.lookup,hb,if_pos h]
   . have hb:(g==f)=false:=beq_eq_false_iff_ne.mpr h
     simp only [List.lookup,hb,if_neg h]
 | (k,x)::r=>by
   have ih:=oK f g v r
   rw [show eu f v ((k,x)::r)=(if k=f then (k,v)::r else (k,x)::eu f v r) from rfl]
   by_cases hk:k=f
   . rw [if_pos hk]
     by_cases h:g=k
     . have hb:(g==k)=true:=beq_iff_eq.mpr h
       simp only [List.lookup,hb,if_pos (h.trans hk)]
     . have hb:(g==k)=false:=beq_eq_false_iff_ne.mpr h
       simp only [List.lookup,hb,if_neg (fun e:g=f=>h (e.trans hk.symm))]
   . rw [if_neg hk]
     by_cases h:g=k
     . have hb:(g==k)=true:=beq_iff_eq.mpr h
       simp only [List.lookup,hb,if_neg (fun e:g=f=>hk (h.symm.trans e))]
     . have hb:(g==k)=false:=beq_eq_false_iff_ne.mpr h
       simp only [List.lookup,hb]
       exact ih
theorem tL (f:Str) (v:V):∀ fs:List (Str×V),f ∈ (eu f v fs).map (·.1)/\∀ g,g ∈ fs.map (·.1)->g ∈ (eu f v fs).map (·.1)
 | []=>⟨by simp [eu],fun g h=>by simp at h⟩
 | (k,x)::r=>by
   obtain ⟨i1,i2⟩:=tL f v r
   rw [show eu f v ((k,x)::r)=(if k=f then (k,v)::r else (k,x)::eu f v r) from rfl]
   by_cases hk:k=f
   . rw [if_pos hk]
     subst hk
     exact ⟨by simp,fun g h=>by simpa using h⟩
   . rw [if_neg hk]
     refine ⟨?_,fun g h=>?_⟩
     . rw [List.map_cons]
       exact List.mem_cons_of_mem _ i1
     . rw [List.map_cons] at h ⊢
       rcases List.mem_cons.mp h with e | e
       . exact List.mem_cons.mpr (.inl e)
       . exact List.mem_cons_of_mem _ (i2 g e)
theorem u0 (f:Str) (v:V):∀ fs:List (Str×V),(eu f v fs).length<=fs.length+1
 | []=>by simp [eu]
 | (k,x)::r=>by
   have ih:=u0 f v r
   rw [show eu f v ((k,x)::r)=(if k=f then (k,v)::r else (k,x)::eu f v r) from rfl]
   by_cases hk:k=f
   . rw [if_pos hk,List.length_cons,List.length_cons];omega
   . rw [if_neg hk,List.length_cons,List.length_cons];omega
theorem mq.some_of {v:V} {o:Option Value} (r:mq (some v) o):∃ u,o=some u/\RelV v u:=by
 cases o with
 | none=>exact (show False from r).elim
 | some u=>exact ⟨u,rfl,r⟩
theorem mq.none_of {o:Option Value} (r:mq none o):o=none:=by
 cases o with
 | none=>rfl
 | some u=>exact (show False from r).elim
theorem yK {v:V} {u:Value} (r:RelV v u):PySem.W.handedIn u=true:=by
 cases v with
 | non=>cases (show u=Value.none from r);rfl
 | bl b=>cases (show u=Value.bool b from r);rfl
 | int i=>obtain ⟨t,e⟩:=(show ∃ t,u=Value.int i t from r);cases e;rfl
 | str x=>obtain ⟨t,e⟩:=(show ∃ t,u=Value.str x t from r);cases e;rfl
 | Bc b=>obtain ⟨t,e⟩:=(show ∃ t,u=Value.bytes b t from r);cases e;rfl
 | O2 b=>obtain ⟨t,e⟩:=(show ∃ t,u=Value.float b t from r);cases e;rfl
 | ref a=>cases (show u=Value.ref a from r);rfl
 | ty n=>cases (show u=Value.type n from r);rfl
section
variable {P:Program} {w:World} {H H':Hp} {h h':Heap} {a C dx:Addr} {fs fs':List (Str×V)}
theorem zB (hok:nI P w H h) (e:H a=some (.ins C dx fs)):∃ mA,Dt h a dx C mA/\(∀ f,mq (fs.lookup f) (mA f))/\PySem.Within mA (fs.map (·.1))/\fs.length<=1000/\H dx=some (.own a):=by
 obtain ⟨d,z,ne,ob,mA,n,r,q⟩:=(show cj P w H h a (.ins C dx fs) from hok a _ e)
 exact ⟨mA,⟨ob,n,ne⟩,r,q,z,d⟩
end
structure yL (K:PySem.W.Frag) (C:Addr):Prop where
 pg:PySem.W.plainGet K C Str.empty=true
 hd:PySem.W.hasDictIn K C=true
 po:PySem.W.plainOver K C=true
 sa:PySem.W.findIn K (.ref C) "__setattr__"=some (some (.builtin "object.__setattr__"))
theorem yL.get {K:PySem.W.Frag} {C:Addr} (c:yL K C) (f:Str):PySem.W.plainGet K C f=true:=c.pg
def bx (K:PySem.W.Frag) (C:Addr) (f:Str):Prop:=PySem.W.findIn K (.ref C) f=some none
theorem bx.Pa {K:PySem.W.Frag} {C:Addr} {f:Str} (n:bx K C f):PySem.W.takerIn K C f=some none:=by
 unfold PySem.W.takerIn
 rw [show PySem.W.findIn K (.ref C) f=some none from n]
 rfl
structure Meth (K:PySem.W.Frag) (C:Addr) (m:Str) (f:Addr):Prop where
 at_:PySem.W.findIn K (.ref C) m=some (some (.ref f))
 fn:PySem.W.isFn K (.ref f)=true
 kp:PySem.W.keepIn K (.ref f)=true
section
variable {X:Cx} {pins:List (Addr×Obj)} {σ:St} {H:Hp} {s:Shared} {a C dx:Addr} {fs:List (Str×V)} {f:Str} {v:V} {A:Around} {E:Value->Shared->Prop}
theorem w6 {b:Bool} {Q:Value->Shared->Prop} (I:Inv X pins σ H s) (e:H a=some (.ins C dx fs)) (c:yL X.K C) (n:bx X.K C f) (l:fs.lookup f=some v)
   (h:∀ u s',Inv X pins σ H s'->RelV v u->Q u s'):wpAny (model X.prog X.w) A (getAttr (.ref a) f b) Q E s:=by
 obtain ⟨mA,O,r,_,_,_⟩:=zB I.hok e
 obtain ⟨u,hu,ru⟩:=mq.some_of (v:=v) (o:=mA f) (by rw [<- l];exact r f)
 exact get_map I.qN O (c.get f) c.hd n hu (yK ru) (h u _ (I.tok _) ru)
theorem w9 {m:Str} {g:Addr} {pl:Sem Bool} {Q:Value×List Value->Shared->Prop} (I:Inv X pins σ H s) (e:H a=some (.ins C dx fs)) (c:yL X.K C) (k:Meth X.K C m g) (l:fs.lookup m=none)
   (h:Q (.ref g,[.ref a]) s):wpAny (model X.prog X.w) A (getMethod (.ref a) m pl) Q E s:=by
 obtain ⟨mA,O,r,_,_,_⟩:=zB I.hok e
 have hn:mA m=none:=mq.none_of (by rw [<- l];exact r m)
 exact HM I.qN O (c.get m) k.at_ k.fn hn h
theorem wA {y:V} {u:Value} {Q:Unit->Shared->Prop} (I:Inv X pins σ H s) (e:H a=some (.ins C dx fs)) (c:yL X.K C) (n:bx X.K C f) (hl:fs.length < 1000) (ry:RelV y u)
   (h:∀ s',Inv X pins σ (upd H a (.ins C dx (eu f y fs))) s'->Q () s'):wpAny (model X.prog X.w) A (setAttr (.ref a) f u) Q E s:=by
 obtain ⟨mA,O,r,wi,_,ho⟩:=zB I.hok e
 have hz:(fs.map (·.1)).length<=sizeLine:=by rw [List.length_map,sizeLine_eq];omega
 refine Kr I.qN O c.sa c.po n.Pa c.hd wi hz fun h' O' sb=>h _ ?_
 have hd:∃ o,h'.get? dx=some o:=let ⟨o,_,_,e',_⟩:=O'.ns;⟨o,e'⟩
 refine I.write (x:=a) (e:=dx) (by rw [e];exact True.intro) (.inr ho) (fun b q hb z=>(sb.2 b hb).trans z) hd ?_
 refine ⟨by rw [ak O.ne];exact ho,?_,O.ne,O'.obj,_,O'.ns,fun g=>?_,fun g hg=>?_⟩
 . have:=u0 f y fs;omega
 . show mq ((eu f y fs).lookup g) (if g=f then some u else mA g)
   rw [oK]
   by_cases q:g=f
   . rw [if_pos q,if_pos q];exact ry
   . rw [if_neg q,if_neg q];exact r g
 . by_cases q:g=f
   . rw [q];exact (tL f y fs).1
   . refine (tL f y fs).2 g (wi g fun z=>hg ?_)
     show (if g=f then some u else mA g)=none
     rw [if_neg q];exact z
theorem Inv.made (I:Inv X pins σ H s):Inv X pins σ (upd (upd H s.heap.objs.size (.own (s.heap.objs.size+1))) (s.heap.objs.size+1) (.ins C s.heap.objs.size []))
   { s with heap:=(s.heap.push PySem.W.emptyDict).push (PySem.W.instObj C s.heap.objs.size) }:=by
 have e1:(s.heap.push PySem.W.emptyDict).get? s.heap.objs.size=some PySem.W.emptyDict:=Heap.get?_push_size s.heap rfl
 have e2:((s.heap.push PySem.W.emptyDict).push (PySem.W.instObj C s.heap.objs.size)).get? (s.heap.objs.size+1)=some (PySem.W.instObj C s.heap.objs.size):=by
   have:=Heap.get?_push_size (s.heap.push PySem.W.emptyDict) (o:=PySem.W.instObj C s.heap.objs.size) rfl
   rwa [Heap.size_push] at this
 have e3:(s.heap.push PySem.W.emptyDict).Ns s.heap.objs.size (fun _=>none):=⟨PySem.W.emptyDict,#[],_,e1,rfl,(fun e he=>absurd he (by simp)),fun _=>rfl⟩
 have I1:=I.laid (a:=s.heap.objs.size) (o:=.own (s.heap.objs.size+1)) (h':=s.heap.push PySem.W.emptyDict) (t':=s.toks) (fun b u q=>Heap.get?_push_of_some _ q) (Nat.le_refl _) ⟨_,e1⟩
 refine I1.laid (a:=s.heap.objs.size+1) (o:=.ins C s.heap.objs.size []) (t':=s.toks) (fun b u q=>Heap.get?_push_of_some _ q) (Nat.le_of_eq (Heap.size_push _ _)) ?_
 have ne:s.heap.objs.size ≠ s.heap.objs.size+1:=Nat.ne_of_lt (Nat.lt_succ_self _)
 refine ⟨by rw [ak ne,ai],Nat.zero_le _,ne,e2,fun _=>none,(Heap.Ns1.of_empty e3).at fun o q=>Heap.get?_push_of_some _ q,fun _=>True.intro,fun y hy=>absurd rfl hy⟩
theorem Em {prog:Program} {w:World} {env:Env} {e:Expr} {f:Str} {pos:Pos} {s:Shared} {Q:Value->Shared->Prop} (hb:attributeBase e f env (eval e env)=eval e env)
   (h:wpAny (model prog w) A (eval e env) (fun o s₁=>wpAny (model prog w) A (getAttr o f true) Q E s₁) E s):wpAny (model prog w) A (eval (.Attribute e f pos) env) Q E s:=
 Attribute_any_ h (by rw [arm_eval_Attribute,hb])
end
def Pb (K:PySem.W.Frag) (ta:TE) (f:Str):TE:=fun σ H Q=>ta σ H fun x H1=>∃ a C dx fs v,x=.ref a/\H1 a=some (.ins C dx fs)/\yL K C/\bx K C f/\fs.lookup f=some v/\Q v H1
def Rx (K:PySem.W.Frag) (ta tv:TE) (f:Str):TS:=fun D σ H=>tv σ H fun y H1=>ta σ H1 fun x H2=>∃ a C dx fs,x=.ref a/\H2 a=some (.ins C dx fs)/\yL K C/\bx K C f/\fs.length < 1000 /\
 D.nx σ (upd H2 a (.ins C dx (eu f y fs)))
def Pc (X:Cx) (op:Operator) (rd:V->V->Hp->VK->Prop):Prop:=
 ∀ (pins:List (Addr×Obj)) (s:Shared) (σ:St) (H:Hp) (x y:V) (u v:Value) (Q:VK),Inv X pins σ H s->RelV x u->RelV y v->rd x y H Q->wpAny (model X.prog X.w) X.A (inplaceOp op u v) (EP X pins σ Q) X.xe s
def Ks (K:PySem.W.Frag) (ta tv:TE) (rd:V->V->Hp->VK->Prop) (f:Str):TS:=fun D σ H=>ta σ H fun x H1=>∃ a C dx fs v,x=.ref a/\H1 a=some (.ins C dx fs)/\yL K C/\bx K C f/\fs.lookup f=some v /\
 tv σ H1 fun y H2=>rd v y H2 fun z H3=>∃ dx' fs',H3 a=some (.ins C dx' fs')/\fs'.length < 1000/\D.nx σ (upd H3 a (.ins C dx' (eu f z fs')))
section
variable {X:Cx} {o e value:Expr} {f:Str} {pos pos' tpos:Pos} {ta tv:TE}
theorem aK (he:PE X e ta) (hb:attributeBase e f X.env (eval e X.env)=eval e X.env):PE X (.Attribute e f pos) (Pb X.K ta f):=by
 intro pins s σ H Q I h
 refine Em hb (cU (he pins s σ H _ I h) fun u s1 ⟨x,H1,I1,rx,a,C,dx,fs,v,ex,ea,c,n,l,q⟩=>?_)
 subst ex
 obtain rfl:u=Value.ref a:=rx
 exact w6 I1 ea c n l fun u' s2 I2 ru=>⟨v,H1,I2,ru,q⟩
theorem e7 (ha:PE X o ta) (hv:PE X value tv) (hs:swapsWith value (some (.Attribute o f pos')) pos.line X.env=pure false):PS X (.Assign [.Attribute o f pos'] value pos) (Rx X.K ta tv f):=by
 intro pins s σ H D I h
 refine plainObj_wpAny_Assign_Attribute (cU (hv pins s σ H _ I h) fun u s1 ⟨y,H1,I1,ry,q⟩=>cU (ha pins s1 σ H1 _ I1 q) fun ov s2 ⟨x,H2,I2,rx,a,C,dx,fs,ex,ea,c,n,l,q2⟩=>?_) hs
 subst ex
 obtain rfl:ov=Value.ref a:=rx
 exact wA I2 ea c n l ry fun s3 I3=>⟨σ,_,I3,q2⟩
theorem Fy {op:Operator} {rd:V->V->Hp->VK->Prop} (ha:PE X o ta) (hv:PE X value tv) (hop:Pc X op rd):PS X (.AugAssign (.Attribute o f tpos) op value pos) (Ks X.K ta tv rd f):=by
 intro pins s σ H D I h
 refine wpAny_AugAssign_AttributeAny (cU (ha pins s σ H _ I h) fun ov s1 ⟨x,H1,I1,rx,a,C,dx,fs,v,ex,ea,c,n,l,q⟩=>?_)
 subst ex
 obtain rfl:ov=Value.ref a:=rx
 refine w6 I1 ea c n l fun u s2 I2 ru=>cU (hv pins s2 σ H1 _ I2 q) fun w3 s3 ⟨y,H2,I3,ry,q3⟩=>cU (hop pins s3 σ H2 v y u w3 _ I3 ru ry q3) fun w4 s4 ⟨z,H3,I4,rz,dx',fs',ea',l',q4⟩=>?_
 exact wA I4 ea' c n l' rz fun s5 I5=>⟨σ,_,I5,q4⟩
def Ry:V->V->Hp->VK->Prop:=fun x y H Q=>∃ i j,x=.int i/\y=.int j/\Q (.int (i+j)) H
theorem MY:Pc X .Add Ry:=by
 rintro pins s σ H x y u v Q I rx ry ⟨i,j,rfl,rfl,q⟩
 obtain ⟨t,rfl⟩:=(show ∃ t,u=Value.int i t from rx)
 obtain ⟨t',rfl⟩:=(show ∃ t',v=Value.int j t' from ry)
 exact PyProof.Rows.iadd_int ⟨.int (i+j),H,I.tok _,⟨_,rfl⟩,q⟩
end
section
variable {X:Cx} {pins:List (Addr×Obj)} {σ:St} {H:Hp} {s:Shared} {A:Around} {E:Value->Shared->Prop} {Q:Value->Shared->Prop} {c:Value} {b:Bool}
end
end L2
namespace L2
open PySem PySem.Spec PyProof.Rows
structure cK (k:Nat) (A:Around):Prop where
 hd:A.handled=none
 dp:A.depth+3 * k+5 < recursionLimit
 un:A.units+16 * k+200 < cLine
theorem cK.mono {j k:Nat} {A:Around} (r:cK k A) (h:j<=k):cK j A:=⟨r.hd,by have:=r.dp;omega,by have:=r.un;omega⟩
theorem cK.deeper {k:Nat} {A:Around} (r:cK (k+1) A) (env:Env):cK k (A.deeper env):=
 ⟨r.hd,by have:=r.dp;show A.depth+1+3 * k+5 < _;omega,by have:=r.un;show A.units+3+16 * k+200 < _;omega⟩
theorem Du {A:Around} {C:Addr} {us:List Value} {kw:List (Str×Value)}:(A.under (.builtin "type.__call__" ⟨.ref C::us,kw⟩)).depth=A.depth+1:=by
 first | rfl | simp [Around.under,Code.weight,Code.isCreation,Code.isGuard,Code.isCaller,Code.frames,Code.isFrame,guardIds]
theorem Dv {A:Around} {C:Addr} {us:List Value} {kw:List (Str×Value)}:(A.under (.builtin "type.__call__" ⟨.ref C::us,kw⟩)).units=A.units+1:=by
 first | rfl | simp [Around.under,Code.cUnits,Code.frames,Code.isFrame]
theorem cK.make {k:Nat} {A:Around} (r:cK (k+1) A) (C:Addr) (us:List Value) (kw:List (Str×Value)):cK k (A.under (.builtin "type.__call__" ⟨.ref C::us,kw⟩)):=
 ⟨r.hd,by have:=r.dp;rw [Du];omega,by have:=r.un;rw [Dv];omega⟩
theorem cK.depth {k:Nat} {A:Around} (r:cK k A):A.depth < recursionLimit:=by have:=r.dp;omega
theorem cK.MZ {k:Nat} {A:Around} (r:cK k A):A.units < cLine:=by have:=r.un;omega
def Na:TA:=fun _ H Q=>Q [] H
def Pd (ta:TE) (tr:TA):TA:=fun σ H Q=>ta σ H fun x H1=>tr σ H1 fun xs H2=>Q (x::xs) H2
section
variable {X:Cx} {e:Expr} {es:List Expr} {te:TE} {t:TA} {pos:Pos}
theorem ay:PA X [] Na:=fun _ _ _ _ H Q I h=>Calls.spliced_nil ⟨[],H,I,.nil,h⟩
theorem af (ha:PE X e te) (hr:PA X es t) (hs:starEach (e::es) X.env=(false,eval e X.env)::starEach es X.env:=by rfl):PA X (e::es) (Pd te t):=by
 intro pos pins s σ H Q I h
 rw [hs]
 show wpAny _ _ (spliced ((false,eval e X.env)::backTo pos (starEach es X.env))) _ _ s
 refine Calls.spliced_cons (cU (ha pins s σ H _ I h) fun u s1 ⟨x,H1,I1,r1,q1⟩=>?_)
 exact cU (hr pos pins s1 σ H1 _ I1 q1) fun us s2 ⟨xs,H2,I2,r2,q2⟩=>⟨x::xs,H2,I2,.cons r1 r2,q2⟩
def Rz (t:TA):TE:=fun σ H Q=>t σ H fun xs H1=>xs.length<=sizeLine/\∀ p,H1 p=none->Q (.ref p) (upd H1 p (.tup xs))
def R7 (t:TA):TE:=fun σ H Q=>t σ H fun xs H1=>xs.length<=sizeLine/\∀ p,H1 p=none->Q (.ref p) (upd H1 p (.lst xs))
theorem oM {x1} (h:PA X es t):PE X (.Tuple es x1 pos) (Rz t):=by
 intro pins s σ H Q I hq
 refine wpAny_Tuple_spliced (cU (h pos pins s σ H _ I hq) fun us s1 ⟨xs,H1,I1,r,z,q⟩=>⟨by rw [<- r.length];exact z,?_⟩)
 have hf:H1 s1.heap.objs.size=none:=I1.hok.fresh (Nat.le_refl _)
 refine ⟨.ref s1.heap.objs.size,upd H1 s1.heap.objs.size (.tup xs),I1.laid (t':=s1.toks) (fun b u e=>Heap.get?_push_of_some _ e) (Nat.le_refl _) ?_,rfl,q _ hf⟩
 exact ⟨z,us,r,⟨_,Heap.get?_push_size _ rfl,rfl,_,rfl⟩⟩
theorem gC (h:PA X es t):PE X (.List es pos) (R7 t):=by
 intro pins s σ H Q I hq
 refine wpAny_List_spliced (cU (h pos pins s σ H _ I hq) fun us s1 ⟨xs,H1,I1,r,z,q⟩=>⟨by rw [<- r.length];exact z,?_⟩)
 have hf:H1 s1.heap.objs.size=none:=I1.hok.fresh (Nat.le_refl _)
 refine ⟨.ref s1.heap.objs.size,upd H1 s1.heap.objs.size (.lst xs),I1.laid (t':=s1.toks) (fun b u e=>Heap.get?_push_of_some _ e) (Nat.le_refl _) ?_,rfl,q _ hf⟩
 exact ⟨z,us,0,r,Heap.get?_push_size _ rfl⟩
end
abbrev Sp:=List V->Hp->VK->XK->Prop
abbrev CW:=List Env->Hp->Shared->XK->Value->Shared->Prop
structure zC (P:Program) (w:World) (K:PySem.W.Frag) (mg:Str->Option Value) (base:Heap) (A:Around) (outer:List Env) (s:Shared) (H:Hp):Prop where
 frames:A.frames=some outer
 mod:Mod K mg base
 bs:∀ b o,base.get? b=some o->s.heap.get? b=some o/\H b=none
 Fo:base.objs.size<=s.heap.objs.size
 qC:s.heap.FunFrames base outer
 Hy:∀ b ∈ frs outer,H b=none
 hok:nI P w H s.heap
 bare:AllBare s.gens
def CE (outer:List Env) (P:Program) (w:World) (H:Hp) (s:Shared) (Q:VK) (u:Value) (s':Shared):Prop:=
 ∃ v H',s'.os=s.os/\AllBare s'.gens/\Un (frs outer) [] H H' s.heap s'.heap/\nI P w H' s'.heap/\RelV v u/\Q v H'
def CR (CX:CW) (outer:List Env) (P:Program) (w:World) (H:Hp) (s:Shared) (Q:VK) (E:XK) (r:Result) (s':Shared):Prop:=
 match r with
 | .ok (.ret u)=>CE outer P w H s Q u s'
 | .ok _=>False
 | .error e=>CX outer H s E e s'
structure bB (P:Program) (w:World) (K:PySem.W.Frag) (mg:Str->Option Value) (base:Heap) (CX:CW) (k:Nat) (f:Addr) (fd:FuncData) (ps:List Str) (sp:Sp):Prop where
 len:∀ vs H Q E,sp vs H Q E->vs.length=ps.length
 run:∀ (A:Around) (outer:List Env) (s:Shared) (H:Hp) (args:Args) (us:List Value) (vs:List V) (Q:VK) (E:XK),cK k A->zC P w K mg base A outer s H->BindsTo s fd args (ps.zip us)->Vals vs us->sp vs H Q E->
   codeAny (model P w) A (.call (.ref f) args) (CR CX outer P w H s Q E) s
theorem bB.mono {P:Program} {w:World} {K:PySem.W.Frag} {mg:Str->Option Value} {base:Heap} {CX:CW} {j k:Nat} {f:Addr} {fd:FuncData} {ps:List Str} {sp:Sp} (F:bB P w K mg base CX j f fd ps sp) (h:j<=k) :
   bB P w K mg base CX k f fd ps sp:=⟨F.len,fun A outer s H args us vs Q E hr=>F.run A outer s H args us vs Q E (hr.mono h)⟩
theorem zC.make {P:Program} {w:World} {K:PySem.W.Frag} {mg:Str->Option Value} {base:Heap} {A:Around} {outer:List Env} {s:Shared} {H:Hp} (e:zC P w K mg base A outer s H) (C:Addr) (us:List Value) (kw:List (Str×Value)) :
   zC P w K mg base (A.under (.builtin "type.__call__" ⟨.ref C::us,kw⟩)) outer s H:=⟨by first | exact e.frames | (simpa [Around.under,Code.envs,Code.isFrame,pushEnvs] using e.frames),e.mod,e.bs,e.Fo,e.qC,e.Hy,e.hok,e.bare⟩
section
variable {X:Cx} {pins:List (Addr×Obj)} {σ:St} {H:Hp} {s s':Shared}
theorem Inv.Ku (I:Inv X pins σ H s):zC X.prog X.w X.K X.mg X.base X.A X.stack s H:=
 ⟨I.ok.frames,I.ok.mod,I.bs,Nat.le_trans I.ok.Fo I.sz,I.stack,I.z6,I.hok,I.bare⟩
theorem Inv.after {Q:VK} {u:Value} (I:Inv X pins σ H s) (h:CE X.stack X.prog X.w H s Q u s'):EP X pins σ Q u s':=by
 obtain ⟨v,H',os,bare,un,hok,r,q⟩:=h
 obtain ⟨hh,g,d,t,os'⟩:=s'
 obtain rfl:os'=s.os:=os
 exact ⟨v,H',I.call (h':=hh) (g':=g) (d':=d) (t':=t) (ch:=[]) un hok bare (fun b z=>absurd z (by simp)),r,q⟩
end
def HP (sp:Sp) (wC:List V) (E:XK) (t:TA):TE:=fun σ H Q=>t σ H fun vs H1=>sp (vs++wC) H1 Q E
def Mm (C:Addr) (m:Str) (sp:Sp) (wC:List V) (E:XK) (ta:TE) (t:TA):TE:=fun σ H Q=>ta σ H fun x H1=>∃ a dx fs,x=.ref a/\H1 a=some (.ins C dx fs)/\fs.lookup m=none /\
 t σ H1 fun vs H2=>sp (x::(vs++wC)) H2 Q E
def Mn (C:Addr) (sp:Sp) (wC:List V) (E:XK) (t:TA):TE:=fun σ H Q=>t σ H fun vs H1=>∀ x dx,H1 x=none->H1 dx=none->dx ≠ x->
 sp (.ref x::(vs++wC)) (upd (upd H1 dx (.own x)) x (.ins C dx [])) (fun v H2=>v=.non/\Q (.ref x) H2) E
def Binds (K:PySem.W.Frag) (fd:FuncData) (ps:List Str) (ds:List Value):Prop:=
 ∀ (s:Shared) (us:List Value),K.In s.heap->(us++ds).length=ps.length->BindsTo s fd ⟨us,[]⟩ (ps.zip (us++ds))
theorem Binds.all {K:PySem.W.Frag} {fd:FuncData} {ps:List Str} (h:∀ us:List Value,us.length=ps.length->bindArgs fd ⟨us,[]⟩=pure (ps.zip us)):Binds K fd ps []:=fun s us _ hl=>by
 rw [List.append_nil] at hl ⊢
 exact .of_eq (h us hl)
def Passes (CX:CW) (X:Cx) (E:XK):Prop:=∀ (pins:List (Addr×Obj)) (σ:St) (H:Hp) (s:Shared) (e:Value) (s':Shared),Inv X pins σ H s->CX X.stack H s E e s'->X.xe e s'
section
variable {X:Cx} {CX:CW} {k:Nat} {f C:Addr} {fd:FuncData} {ps:List Str} {sp:Sp} {wC:List V} {ds:List Value} {E:XK} {x m:Str} {p pos apos:Pos} {e o:Expr} {es:List Expr} {ta:TE} {t:TA}
theorem wD {pins:List (Addr×Obj)} {σ:St} {H:Hp} {s:Shared} {Q:VK} {us:List Value} {vs:List V} (F:bB X.prog X.w X.K X.mg X.base CX k f fd ps sp) (hr:cK k X.A) (hb:Binds X.K fd ps ds) (hd:Vals wC ds) (hx:Passes CX X E)
   (I:Inv X pins σ H s) (r:Vals vs us) (h:sp (vs++wC) H Q E):wpAny (model X.prog X.w) X.A (call (.ref f) us) (EP X pins σ Q) X.xe s:=by
 have r2:Vals (vs++wC) (us++ds):=r.append hd
 have hl:(us++ds).length=ps.length:=by rw [<- r2.length];exact F.len _ _ _ _ h
 refine wpAny_call (codeAny_mono (F.run X.A X.stack s H ⟨us,[]⟩ (us++ds) (vs++wC) Q E hr I.Ku (hb s us I.qN hl) r2 h) fun r s' hq=>?_)
 cases r with
 | error e=>exact hx pins σ H s e s' I hq
 | ok fl=>
   cases fl with
   | ret u=>exact I.after hq
   | next=>exact False.elim hq
   | brk=>exact False.elim hq
   | cont=>exact False.elim hq
theorem bE (F:bB X.prog X.w X.K X.mg X.base CX k f fd ps sp) (hr:cK k X.A) (hg:Gl X x) (hm:X.mg x=some (.ref f)) (hk:PySem.W.keepIn X.K (.ref f)=true) (hb:Binds X.K fd ps ds) (hd:Vals wC ds) (hx:Passes CX X E)
   (ha:PA X (e::es) t) (hdb:(x==("__debug__":Str))=false:=by decide) (he:starEach (e::es) X.env=(false,eval e X.env)::starEach es X.env:=by rfl) (hpl:(backTo pos (starEach es X.env)).any (·.1)=false:=by rfl) :
   PE X (.Call (.Name x p) (e::es) [] pos) (HP sp wC E t):=by
 intro pins s σ H Q I h
 refine wpAny_Call_Name_kw (mS I hg hm ?_ hdb)
 refine PySem.W.callWith_K (h₀:=X.base) I.ok.mod.kin hk (cU (ha pos pins s σ H _ I h) fun us s1 ⟨vs,H1,I1,r,q⟩=>⟨I1.qN,?_⟩) he hpl
 exact wD F hr hb hd hx I1 r q
theorem b8 {pl:Sem Bool} (he:PE X o ta) (c:yL X.K C) (hm:Meth X.K C m f) (F:bB X.prog X.w X.K X.mg X.base CX k f fd ps sp) (hr:cK k X.A) (hb:Binds X.K fd ps ds) (hd:Vals wC ds) (hx:Passes CX X E) (ha:PA X (e::es) t)
   (hst:starEach (e::es) X.env=(false,eval e X.env)::starEach es X.env:=by rfl) (hpl:(backTo pos (starEach es X.env)).any (·.1)=false:=by rfl)
   (ht:eval (.Call (.Attribute o m apos) (e::es) [] pos) X.env=(do
     let ov <- eval o X.env
     standAt apos.atName
     let (f,first) <- holding [ov] (getMethod ov m pl)
     callWith pos f first (backTo pos (starEach (e::es) X.env)) (backToKw pos (keywordEach [] X.env))):=by rfl) :
   PE X (.Call (.Attribute o m apos) (e::es) [] pos) (Mm C m sp wC E ta t):=by
 intro pins s σ H Q I h
 refine PySem.W.methodCall_KW (pl:=pl) (cU (he pins s σ H _ I h) fun u s1 ⟨x,H1,I1,rx,a,dx,fs,ex,ea,l,q⟩=>?_) ht
 subst ex
 obtain rfl:u=Value.ref a:=rx
 refine w9 I1 ea c hm l ?_
 refine PySem.W.callWith_K (first:=[.ref a]) (h₀:=X.base) I.ok.mod.kin hm.kp (cU (ha pos pins s1 σ H1 _ I1 q) fun us s2 ⟨vs,H2,I2,r,q2⟩=>⟨I2.qN,?_⟩) hst hpl
 exact wD (us:=.ref a::us) (vs:=.ref a::vs) F hr hb hd hx I2 (.cons rfl r) q2
theorem HQ {pl:Sem Bool} (he:PE X o ta) (c:yL X.K C) (hm:Meth X.K C m f) (F:bB X.prog X.w X.K X.mg X.base CX k f fd ps sp) (hr:cK k X.A) (hb:Binds X.K fd ps ds) (hd:Vals wC ds) (hx:Passes CX X E)
   (ht:eval (.Call (.Attribute o m apos) [] [] pos) X.env=(do
     let ov <- eval o X.env
     standAt apos.atName
     let (f,first) <- holding [ov] (getMethod ov m pl)
     callWith pos f first (backTo pos (starEach [] X.env)) (backToKw pos (keywordEach [] X.env))):=by rfl) :
   PE X (.Call (.Attribute o m apos) [] [] pos) (Mm C m sp wC E ta Na):=by
 intro pins s σ H Q I h
 refine PySem.W.methodCall_KW (pl:=pl) (cU (he pins s σ H _ I h) fun u s1 ⟨x,H1,I1,rx,a,dx,fs,ex,ea,l,q⟩=>?_) ht
 subst ex
 obtain rfl:u=Value.ref a:=rx
 refine w9 I1 ea c hm l ?_
 exact PySem.W.callWith_K0 (first:=[.ref a]) I1.qN hm.kp (wD (us:=[.ref a]) (vs:=[.ref a]) F hr hb hd hx I1 (.cons rfl .nil) q)
structure Mk (K:PySem.W.Frag) (C f:Addr):Prop where
 makes:PySem.W.makesIn K C=true
 init:PySem.W.findIn K (.ref C) "__init__"=some (some (.ref f))
 fn:PySem.W.isFn K (.ref f)=true
 kp:PySem.W.keepIn K (.ref C)=true
theorem Bm {pins:List (Addr×Obj)} {σ:St} {H:Hp} {s:Shared} {Q:VK} {us:List Value} {vs:List V} (M:Mk X.K C f) (F:bB X.prog X.w X.K X.mg X.base CX k f fd ps sp) (hr:cK (k+1) X.A) (hb:Binds X.K fd ps ds) (hd:Vals wC ds)
   (hx:Passes CX X E) (I:Inv X pins σ H s) (r:Vals vs us)
   (h:∀ x dx,H x=none->H dx=none->dx ≠ x->sp (.ref x::(vs++wC)) (upd (upd H dx (.own x)) x (.ins C dx [])) (fun v H2=>v=.non/\Q (.ref x) H2) E) :
   wpAny (model X.prog X.w) X.A (call (.ref C) us) (EP X pins σ Q) X.xe s:=by
 have hq:=h (s.heap.objs.size+1) s.heap.objs.size (I.hok.fresh (Nat.le_succ _)) (I.hok.fresh (Nat.le_refl _)) (Nat.ne_of_lt (Nat.lt_succ_self _))
 have I2:=Inv.made (C:=C) I
 have r2:Vals (V.ref (s.heap.objs.size+1)::(vs++wC)) (Value.ref (s.heap.objs.size+1)::(us++ds)):=.cons rfl (r.append hd)
 have hl:(Value.ref (s.heap.objs.size+1)::us++ds).length=ps.length:=by
   have e:=r2.length
   rw [F.len _ _ _ _ hq] at e
   exact e.symm
 refine wpAny_call (HN (f:=f) I.qN M.makes M.init (beq_iff_eq.mp M.fn) (codeAny_mono (F.run _ X.stack _ _ ⟨Value.ref (s.heap.objs.size+1)::us,[]⟩ (Value.ref (s.heap.objs.size+1)::(us++ds)) _ _ E (hr.make C us [])
   (I2.Ku.make C us []) (hb _ (Value.ref (s.heap.objs.size+1)::us) I2.qN hl) r2 hq) fun r s' hq'=>?_))
 cases r with
 | error e=>exact hx pins σ _ _ e s' I2 hq'
 | ok fl=>
   cases fl with
   | ret u=>
     obtain ⟨v,H',I3,rv,ev,q3⟩:=I2.after hq'
     subst ev
     exact ⟨rv,⟨V.ref (s.heap.objs.size+1),H',I3,rfl,q3⟩⟩
   | next=>exact False.elim hq'
   | brk=>exact False.elim hq'
   | cont=>exact False.elim hq'
theorem rL (M:Mk X.K C f) (F:bB X.prog X.w X.K X.mg X.base CX k f fd ps sp) (hr:cK (k+1) X.A) (hg:Gl X x) (hm:X.mg x=some (.ref C)) (hb:Binds X.K fd ps ds) (hd:Vals wC ds) (hx:Passes CX X E)
   (ha:PA X (e::es) t) (hdb:(x==("__debug__":Str))=false:=by decide) (he:starEach (e::es) X.env=(false,eval e X.env)::starEach es X.env:=by rfl) (hpl:(backTo pos (starEach es X.env)).any (·.1)=false:=by rfl) :
   PE X (.Call (.Name x p) (e::es) [] pos) (Mn C sp wC E t):=by
 intro pins s σ H Q I h
 refine wpAny_Call_Name_kw (mS I hg hm ?_ hdb)
 refine PySem.W.callWith_K (h₀:=X.base) I.ok.mod.kin M.kp (cU (ha pos pins s σ H _ I h) fun us s1 ⟨vs,H1,I1,r,q⟩=>⟨I1.qN,?_⟩) he hpl
 exact Bm M F hr hb hd hx I1 r q
theorem HR (M:Mk X.K C f) (F:bB X.prog X.w X.K X.mg X.base CX k f fd ps sp) (hr:cK (k+1) X.A) (hg:Gl X x) (hm:X.mg x=some (.ref C)) (hb:Binds X.K fd ps ds) (hd:Vals wC ds) (hx:Passes CX X E)
   (hdb:(x==("__debug__":Str))=false:=by decide):PE X (.Call (.Name x p) [] [] pos) (Mn C sp wC E Na):=by
 intro pins s σ H Q I h
 refine wpAny_Call_Name_kw (mS I hg hm ?_ hdb)
 exact PySem.W.callWith_K0 I.qN M.kp (Bm (us:=[]) M F hr hb hd hx I .nil h)
end
section
variable {X:Cx} {CX:CW} {k:Nat} {f C:Addr} {fd:FuncData} {ps ks:List Str} {sp:Sp} {E:XK} {x m:Str} {p pos apos kpos:Pos} {e o:Expr} {es:List Expr} {kws:List Keyword} {te ta:TE} {t tk:TA} {nm:Option Str}
variable {g:List Value->List Value->List Value} {gV:List V->List V->List V}
end
structure aL (N P:List Str) (sc:Scope):Prop where
 kind:sc.kind=.function
 co:sc.isCoroutine=false
 gen:sc.isGenerator=false
 nd:N.Nodup
 pre:N.take P.length=P
 par:∀ x ∈ P,sc.names.lookup x=some .local\/sc.names.lookup x=some .cell
 Nb:∀ y ∈ sc.names,y.2 ≠ .free
theorem yM {kindOf:Str->Option NameKind} {x:Str}:∀ {binds:List (Str×Value)} {m:Str->Option Value},(∀ v,(x,v) ∉ binds)->bindL kindOf binds m x=m x
 | [],_,_=>rfl
 | (n,v)::r,m,h=>by
   unfold bindL
   rw [yM fun w hw=>h w (List.mem_cons_of_mem _ hw)]
   split
   . have:x ≠ n:=by rintro rfl;exact h v List.mem_cons_self
     simp [this]
   . rfl
theorem yN {kindOf:Str->Option NameKind} {x:Str}:∀ {binds:List (Str×Value)} {m:Str->Option Value},(∀ v,(x,v) ∉ binds)->bindC kindOf binds m x=m x
 | [],_,_=>rfl
 | (n,v)::r,m,h=>by
   unfold bindC
   rw [yN fun w hw=>h w (List.mem_cons_of_mem _ hw)]
   split
   . rfl
   . have:x ≠ n:=by rintro rfl;exact h v List.mem_cons_self
     simp [this]
theorem yO {kindOf:Str->Option NameKind} {x:Str} {v:Value}:∀ {P:List Str} {vs:List Value} {i:Nat} {m:Str->Option Value},P.Nodup->P[i]?=some x->vs[i]?=some v->kindOf x=some .local->
   bindL kindOf (P.zip vs) m x=some v
 | [],_,_,_,_,h,_,_=>by simp at h
 | _::_,[],_,_,_,_,h,_=>by simp at h
 | p::P,w::vs,0,m,nd,h1,h2,hk=>by
   simp at h1 h2;subst h1;subst h2
   show bindL kindOf ((p,w)::P.zip vs) m p=_
   unfold bindL
   rw [yM fun v hv=>(List.nodup_cons.mp nd).1 (List.of_mem_zip hv).1,if_pos hk]
   simp
 | p::P,w::vs,i+1,m,nd,h1,h2,hk=>by
   show bindL kindOf ((p,w)::P.zip vs) m x=_
   unfold bindL
   exact yO (i:=i) (List.nodup_cons.mp nd).2 (by simpa using h1) (by simpa using h2) hk
theorem yP {kindOf:Str->Option NameKind} {x:Str} {v:Value}:∀ {P:List Str} {vs:List Value} {i:Nat} {m:Str->Option Value},P.Nodup->P[i]?=some x->vs[i]?=some v->kindOf x ≠ some .local->
   bindC kindOf (P.zip vs) m x=some v
 | [],_,_,_,_,h,_,_=>by simp at h
 | _::_,[],_,_,_,_,h,_=>by simp at h
 | p::P,w::vs,0,m,nd,h1,h2,hk=>by
   simp at h1 h2;subst h1;subst h2
   show bindC kindOf ((p,w)::P.zip vs) m p=_
   unfold bindC
   rw [yN fun v hv=>(List.nodup_cons.mp nd).1 (List.of_mem_zip hv).1,if_neg hk]
   simp
 | p::P,w::vs,i+1,m,nd,h1,h2,hk=>by
   show bindC kindOf ((p,w)::P.zip vs) m x=_
   unfold bindC
   exact yP (i:=i) (List.nodup_cons.mp nd).2 (by simpa using h1) (by simpa using h2) hk
def start (N:List Str) (vs:List V):St:=vs.map some++List.replicate (N.length - vs.length) none
def mU (CX:CW) (P:Program) (w:World) (K:PySem.W.Frag) (mg:Str->Option Value) (base:Heap) (N:List Str) (qual:Str) (scope:Scope) (f:Addr) (cd:Value) (A:Around) (outer:List Env) (s:Shared) (H:Hp) (E:XK):Cx where
 prog:=P
 w:=w
 K:=K
 mg:=mg
 base:=base
 A:=A.deeper (envOfC qual scope s.heap.objs.size f cd)
 N:=N
 t9:=s
 MH:=H
 env:=envOfC qual scope s.heap.objs.size f cd
 outer:=outer
 stack:=envOfC qual scope s.heap.objs.size f cd::outer
 ex:=[]
 calm:=true
 fn:=fun _=>true
 pn:=[]
 xe:=fun e s'=>wpAny (model P w) (A.deeper (envOfC qual scope s.heap.objs.size f cd)) (leaving (envOfC qual scope s.heap.objs.size f cd) e) (fun _ s''=>CX outer H s E e s'') (fun e' s''=>CX outer H s E e' s'') s'
theorem Bp {sc:Scope} {n:Nat} {x:Str} (h:sc.names.lookup x=some .cell):∃ c,(cellsFrom n sc.names []).lookup x=some c:=by
 have q:=PySem.W.cellsFrom_some sc.names n [] (.inl h)
 exact Option.isSome_iff_exists.mp q
theorem yQ {CX:CW} {P:Program} {w:World} {K:PySem.W.Frag} {mg:Str->Option Value} {base:Heap} {N ps:List Str} {qual:Str} {scope:Scope} {f:Addr} {cd:Value} {A:Around} {outer:List Env} {s s1:Shared} {H:Hp} {E:XK} {us:List Value} {vs:List V}
   (S:aL N ps scope) (hd:A.handled=none) (e0:zC P w K mg base A outer s H) (hl:vs.length=ps.length) (r:Vals vs us)
   (x:InCallC s s.heap.objs.size (bindL (envOfC qual scope s.heap.objs.size f cd).kindOf (ps.zip us) fun _=>none) (cellsFrom (s.heap.objs.size+1) scope.names []) (bindC (envOfC qual scope s.heap.objs.size f cd).kindOf (ps.zip us) fun _=>none) s1) :
   Inv (mU CX P w K mg base N qual scope f cd A outer s H E) [] (start N vs) H s1:=by
 have hpl:ps.length<=N.length:=by have:=congrArg List.length S.pre;rw [List.length_take] at this;omega
 obtain ⟨h1,tk,rfl,hk⟩:=x.done
 have O6:∀ b:Addr,b ∉ (mU CX P w K mg base N qual scope f cd A outer s H E).ex:=fun b z=>absurd (show b ∈ ([]:List Addr) from z) (by simp)
 refine ⟨⟨e0.mod,S.kind,rfl,rfl,Nat.le_refl _,fun y z c h1 h2=>?_,fun y hy=>?_,fun y c _ h=>?_,fun _=>hd,Around.frames_deeper e0.frames,.inr ⟨rfl,rfl⟩,fun b z=>absurd z (O6 b),e0.bs,e0.Fo,fun b _ _=>O6 b,fun b z=>absurd z (O6 b),e0.qC,e0.Hy⟩,
   rfl,e0.bare,Un.kept hk,⟨_,x.toInCall.ns,fun i y v h1 h2 h3=>?_⟩,fun y c h=>⟨_,x.cell y c h⟩,e0.hok.fresh (Nat.le_refl _),fun y c h=>?_,fun p hp=>absurd (show p ∈ ([]:List (Addr×Obj)) from hp) (by simp),e0.hok.kept hk,?_⟩
 . exact name_of_addr x.apart (PySem.mem_of_lookup h1) (PySem.mem_of_lookup h2)
 . have hy:scope.names.lookup y=some .cell\/scope.names.lookup y=some .free:=hy
   rcases hy with hy | hy
   . exact Bp hy
   . exact absurd rfl (S.Nb _ (PySem.mem_of_lookup hy))
 . exact Nat.le_of_lt (x.above y c (PySem.mem_of_lookup h))
 . have hi:i < vs.length:=by
     unfold start at h2
     by_cases hi:i < vs.length
     . exact hi
     . rw [List.getElem?_append_right (by simpa using hi)] at h2
       rw [List.getElem?_replicate] at h2
       split at h2<;>cases h2
   have ha:vs[i]?=some v:=by
     unfold start at h2
     rw [List.getElem?_append_left (by simpa using hi),List.getElem?_map] at h2
     cases e:vs[i]? with
     | none=>rw [e] at h2;cases h2
     | some a=>rw [e] at h2;cases h2;rfl
   obtain ⟨u,hu,rv⟩:=r.get ha
   have hp:ps[i]?=some y:=by
     rw [<- S.pre,List.getElem?_take_of_lt (by omega)];exact h1
   have Tq:ps.Nodup:=by rw [<- S.pre];exact S.nd.sublist (List.take_sublist _ _)
   refine ⟨u,rv,?_⟩
   rcases S.par y (List.mem_of_getElem? hp) with k | k
   . exact .inl ⟨k,yO Tq hp hu k⟩
   . obtain ⟨c,e⟩:=Bp (n:=s.heap.objs.size+1) k
     refine .inr ⟨.inl k,c,e,?_⟩
     have q:=x.cell y c e
     rw [yP Tq hp hu (by show scope.names.lookup y ≠ _;rw [k];decide)] at q
     exact q
 . exact e0.hok.fresh (Nat.le_of_lt (x.above y c (PySem.mem_of_lookup h)))
 . unfold start
   show _=N.length
   rw [List.length_append,List.length_map,List.length_replicate]
   omega
theorem Mp {CX:CW} {P:Program} {w:World} {K:PySem.W.Frag} {mg:Str->Option Value} {base:Heap} {k:Nat} {f:Addr} {name qual:Str} {params:Arguments} {body:List Stmt} {scope:Scope} {dV kV doc pm cdv ct oc:Value} {an od:Option Addr}
   {osl:Array (Option Value)} {N ps:List Str} {sp:Sp} (lk:K.lookup f=some ⟨oc,od,.func (PySem.W.fnOf name qual params body scope dV kV doc pm an cdv ct),osl⟩) (hcd:PySem.W.codeIn K cdv qual=true) (S:aL N ps scope)
   (len:∀ vs H Q E,sp vs H Q E->vs.length=ps.length)
   (hbody:∀ (A:Around) (outer:List Env) (s:Shared) (H:Hp) (vs:List V) (Q:VK) (E:XK),cK k (A.deeper (envOfC qual scope s.heap.objs.size f cdv))->sp vs H Q E->
     ∃ t,Bh (mU CX P w K mg base N qual scope f cdv A outer s H E) body t/\t { nx:=fun _ H'=>Q .non H',rt:=Q } (start N vs) H) :
   bB P w K mg base CX (k+1) f (PySem.W.fnOf name qual params body scope dV kV doc pm an cdv ct) ps sp:=by
 refine ⟨len,fun A outer s H args us vs Q E hr e0 hb r Dy=>?_⟩
 have hl:=len _ _ _ _ Dy
 have KX:K.In s.heap:=e0.mod.kin.keeps fun b o e=>(e0.bs b o e).1
 have lim:s.heap.NoLimit:=e0.mod.nolimit.keeps fun b o e=>(e0.bs b o e).1
 have hkind:∀ y ∈ ps.zip us,scope.names.lookup y.1=some .local\/(scope.names.lookup y.1=some .cell/\((cellsFrom (s.heap.objs.size+1) scope.names []).lookup y.1).isSome=true):=fun ⟨n,v⟩ hy=>by
   rcases S.par n (List.of_mem_zip hy).1 with q | q
   . exact .inl q
   . exact .inr ⟨q,PySem.W.cellsFrom_some _ _ _ (.inl q)⟩
 refine codeAny_call_function hr.depth (KX _ _ lk) rfl S.co S.gen rfl (PySem.W.codeRec_of KX hcd) (hb _ _ _ _ ?_)
 refine wpAny_newFunctionEnv_cells S.kind hkind fun env he s1 x=>?_
 subst he
 refine ⟨lim.keeps x.toInCall.keep,codeAny_func ?_⟩
 obtain ⟨t,ht,hq⟩:=hbody A outer s H vs Q E (hr.deeper _) Dy
 have I:Inv (mU CX P w K mg base N qual scope f cdv A outer s H E) [] (start N vs) H s1:=yQ S hr.hd e0 hl r x
 refine wpAny_mono (ht [] s1 (start N vs) H _ I hq) (fun fl s' hs=>?_) fun e s' hs=>hs
 have fin:∀ {σ':St} {H':Hp} {v:V} {u:Value},Inv (mU CX P w K mg base N qual scope f cdv A outer s H E) [] σ' H' s'->RelV v u->Q v H'->CE outer P w H s Q u s':=
   fun {σ' H' v u} J rv q=>⟨v,H',J.os,J.bare,J.base,J.hok,rv,q⟩
 cases fl with
 | ret u=>
   obtain ⟨v,σ',H',J,rv,q⟩:=hs
   exact fin J rv q
 | next=>
   obtain ⟨σ',H',J,q⟩:=hs
   exact fin (v:=V.non) (u:=Value.none) J rfl q
 | brk=>
   obtain ⟨_,_,_,q⟩:=hs
   exact False.elim q
 | cont=>
   obtain ⟨_,_,_,q⟩:=hs
   exact False.elim q
end L2
namespace L2
open PySem PySem.Spec PyProof.Rows
section
variable {X:Cx} {x:Str} {p pos:Pos} {e:Expr} {es:List Expr} {t:TA} {id T:String} {r:List V->Hp->VK->Prop}
def Tr (r:List V->Hp->VK->Prop) (t:TA):TE:=fun σ H Q=>t σ H fun vs H1=>r vs H1 Q
theorem cA (hc:yJ X (.builtin id) r) (hg:Gl X x) (hm:X.mg x=none) (hv:bootBuiltins x=some (.builtin id)) (ha:PA X (e::es) t) (hn:x ≠ "__name__":=by decide) (hdb:(x==("__debug__":Str))=false:=by decide)
   (he:starEach (e::es) X.env=(false,eval e X.env)::starEach es X.env:=by rfl) (hpl:(backTo pos (starEach es X.env)).any (·.1)=false:=by rfl):PE X (.Call (.Name x p) (e::es) [] pos) (Tr r t):=by
 intro pins s σ H Q I h
 refine wpAny_Call_Name_kw (wj I hg hm hv ?_ hn hdb)
 exact PyProof.Rows.callWith_builtin1 (cU (ha pos pins s σ H _ I h) fun us s1 ⟨vs,H1,I1,r1,q1⟩=>hc pins s1 σ H1 vs us Q I1 r1 q1) he hpl
theorem tM (hc:yJ X (.type T) r) (hg:Gl X x) (hm:X.mg x=none) (hv:bootBuiltins x=some (.type T)) (ha:PA X (e::es) t) (hn:x ≠ "__name__":=by decide) (hdb:(x==("__debug__":Str))=false:=by decide)
   (he:starEach (e::es) X.env=(false,eval e X.env)::starEach es X.env:=by rfl) (hpl:(backTo pos (starEach es X.env)).any (·.1)=false:=by rfl):PE X (.Call (.Name x p) (e::es) [] pos) (Tr r t):=by
 intro pins s σ H Q I h
 refine wpAny_Call_Name_kw (wj I hg hm hv ?_ hn hdb)
 exact PyProof.Rows.callWith_type1 (cU (ha pos pins s σ H _ I h) fun us s1 ⟨vs,H1,I1,r1,q1⟩=>hc pins s1 σ H1 vs us Q I1 r1 q1) he hpl
end
end L2
namespace HT
open PySem PyProof.Rows
theorem HS (A:Around) (s:Shared) (a:Int) (t:Tok) (c:Int) (u:Tok):∃ e,SeqAt.EqAt A s (.int a t) (.int c u) e/\(e=true ↔ a=c):=
 ⟨(a==c),SeqAt.EqAt.int_int a t c u,by simp⟩
section
open PySem.SeqAt
open PySem.AutoSeq1 (wpAny_loadPart')
open PySem.MeetsSeq PySem.MeetsSeq2 PySem.MeetsSeq3
end
section
variable {prog:Program} {w:World} {A:Around} {E:Value->Shared->Prop} {s:Shared}
def Bq (n d:Nat):Option Int->Nat
 | none=>d
 | some v=>if v < 0 then (v+(n:Int)).toNat else min v.toNat n
theorem HU (n d:Nat):Bq n d none=d:=rfl
theorem Kv (n d k:Nat):Bq n d (some (k:Int))=min k n:=by
 show (if (k:Int) < 0 then ((k:Int)+(n:Int)).toNat else min (k:Int).toNat n)=min k n
 rw [if_neg (by omega),Int.toNat_natCast]
end
end HT
namespace L2
open PySem PySem.Spec PyProof.Rows
abbrev TO:=St->Hp->(Option Int->Hp->Prop)->Prop
def PO (X:Cx) (e:Option Expr) (t:TO):Prop:=
 ∀ (pins:List (Addr×Obj)) (s:Shared) (σ:St) (H:Hp) (Q:Option Int->Hp->Prop),Inv X pins σ H s->t σ H Q->
   wpAny (model X.prog X.w) X.A (evalPart e X.env) (fun u s'=>∃ o H',Inv X pins σ H' s'/\IsPart u o/\Q o H') X.xe s
def Kw:TO:=fun _ H Q=>Q none H
def Pe (t:TE):TO:=fun σ H Q=>t σ H fun x H1=>∃ i,x=.int i/\Q (some i) H1
theorem intsAre_of {ns:List Int}:∀ {us:List Value},Vals (ns.map V.int) us->IntsAre us ns:=by
 induction ns with
 | nil=>intro us r;rw [List.map_nil] at r;cases r;exact .nil
 | cons n ns ih=>
   intro us r
   rw [List.map_cons] at r
   cases r with
   | cons r1 r2=>
     obtain ⟨t,e⟩:=r1
     subst e
     exact .cons n t (ih r2)
section
variable {X:Cx} {e:Expr} {te:TE} {lo hi:Option Expr} {tl th:TO} {pos p2:Pos}
theorem Kx:PO X none Kw:=by
 intro pins s σ H Q I h
 rw [evalPart_none]
 exact wpAny_pure ⟨none,H,I,.none,h⟩
theorem Ky (h:PE X e te):PO X (some e) (Pe te):=by
 intro pins s σ H Q I hw
 rw [evalPart_some]
 refine cU (h pins s σ H _ I hw) fun u s1 ⟨x,H1,I1,r1,q1⟩=>?_
 obtain ⟨i,rfl,q⟩:=q1
 obtain ⟨t,rfl⟩:=r1
 exact ⟨some i,H1,I1,.int i t,q⟩
def Tu (X:Cx) (r:V->Option Int->Option Int->Hp->VK->Prop):Prop:=
 ∀ (pins:List (Addr×Obj)) (s:Shared) (σ:St) (H:Hp) (x:V) (v vl vu:Value) (lo hi:Option Int) (sl:Addr) (Q:VK),Inv X pins σ H s->RelV x v->s.heap.IsSliceOf sl vl vu .none->IsPart vl lo->IsPart vu hi->r x lo hi H Q->
   ∃ T id,typeLookup (.type T) "__getitem__"=pure (some (.builtin id))/\s.TypeIs v T/\wpAny (model X.prog X.w) X.A (getItem v (.ref sl)) (EP X pins σ Q) X.xe s
def UX (r:V->Option Int->Option Int->Hp->VK->Prop) (te:TE) (tl th:TO):TE:=fun σ H Q=>te σ H fun x H1=>tl σ H1 fun l H2=>th σ H2 fun u H3=>r x l u H3 Q
theorem HV {r:V->Option Int->Option Int->Hp->VK->Prop} (hr:Tu X r) (he:PE X e te) (hl:PO X lo tl) (hu:PO X hi th):PE X (.Subscript e (.Slice lo hi none p2) pos) (UX r te tl th):=by
 intro pins s σ H Q I h
 refine Subscript_ (cU (he pins s σ H _ I h) fun v s1 ⟨x,H1,I1,r1,q1⟩=>?_)
 refine wpAny_Slice (cU (hl pins s1 σ H1 _ I1 q1) fun vl s2 ⟨l,H2,I2,pl,q2⟩=>cU (hu pins s2 σ H2 _ I2 q2) fun vu s3 ⟨u,H3,I3,pu,q3⟩=>?_)
 rw [evalPart_none]
 refine wpAny_pure ?_
 have I4:Inv X pins σ H3 { s3 with heap:=s3.heap.push { cls:=.type "slice",data:=.fields #[vl,vu,.none] } }:=I3.kept (t':=s3.toks) fun b ob q=>Heap.get?_push_of_some _ q
 obtain ⟨T,id,hT,ht,hg⟩:=hr pins { s3 with heap:=s3.heap.push { cls:=.type "slice",data:=.fields #[vl,vu,.none] } } σ H3 x v vl vu l u s3.heap.objs.size Q I4 r1 (Heap.IsSliceOf.new ..) pl pu q3
 show wpAny (model X.prog X.w) X.A (subscriptTail e (.Slice lo hi none p2) v (.ref s3.heap.objs.size)) (EP X pins σ Q) X.xe { s3 with heap:=s3.heap.push { cls:=.type "slice",data:=.fields #[vl,vu,.none] } }
 exact tail_any (ops:=[.ref s3.heap.objs.size,v]) ht hT hg (by with_unfolding_all rfl)
def Dz (xs:List V) (lo hi:Option Int):List V:=(xs.drop (HT.Bq xs.length 0 lo)).take (HT.Bq xs.length xs.length hi - HT.Bq xs.length 0 lo)
theorem Br (xs:List V) (lo hi:Option Int):(Dz xs lo hi).length<=xs.length:=by
 unfold Dz
 rw [List.length_take,List.length_drop]
 omega
end
end L2
namespace L2
open PySem PySem.Spec PyProof.Rows
def HW (n:Nat) (i:Int):Option Nat:=if 0<=i then (if i < n then some i.toNat else none) else if -(n:Int)<=i then some (i+n).toNat else none
def Hs {α:Type} (xs:List α) (i:Int):Option α:=(HW xs.length i).bind fun j=>xs[j]?
theorem En {n:Nat} {i:Int} {j:Nat} (h:HW n i=some j):seqIndex? i n=some j/\j < n/\-(n:Int)<=i/\i < n:=by
 unfold HW at h
 by_cases h0:0<=i
 . rw [if_pos h0] at h
   by_cases h1:i < n
   . rw [if_pos h1] at h
     have e:i.toNat=j:=Option.some.inj h
     exact ⟨by rw [seqIndex_of h0 h1,e],by omega,by omega,h1⟩
   . rw [if_neg h1] at h;cases h
 . rw [if_neg h0] at h
   by_cases h1:-(n:Int)<=i
   . rw [if_pos h1] at h
     have e:(i+n).toNat=j:=Option.some.inj h
     exact ⟨by rw [seqIndex_neg (by omega) h1,e],by omega,h1,by omega⟩
   . rw [if_neg h1] at h;cases h
theorem Eo {α:Type} {xs:List α} {i:Int} {v:α} (h:Hs xs i=some v):∃ j,seqIndex? i xs.length=some j/\xs[j]?=some v/\j < xs.length/\-(xs.length:Int)<=i/\i < xs.length:=by
 unfold Hs at h
 cases e:HW xs.length i with
 | none=>rw [e] at h;cases h
 | some j=>
   rw [e] at h
   obtain ⟨h1,h2,h3,h4⟩:=En e
   exact ⟨j,h1,h,h2,h3,h4⟩
theorem bK {α:Type} {xs:List α} {j:Nat} {v:α} (h:xs[j]?=some v):Hs xs (j:Int)=some v:=by
 have hj:j < xs.length:=(List.getElem?_eq_some_iff.mp h).1
 have e:HW xs.length (j:Int)=some j:=by
   unfold HW
   rw [if_pos (by omega),if_pos (by omega)];simp
 unfold Hs;rw [e];exact h
theorem HX {α:Type} (xs:List α) (v:α):Hs (xs++[v]) (-1)=some v:=by
 have hl:(xs++[v]).length=xs.length+1:=by simp
 have e:HW (xs++[v]).length (-1)=some xs.length:=by
   unfold HW
   rw [hl,if_neg (by decide),if_pos (by omega)]
   congr 1
   omega
 unfold Hs
 rw [e]
 show (xs++[v])[xs.length]?=some v
 simp
def Kz (b:Expr):Prop:=∀ o i,subscripted b false o i=operate [o,i] (getItem o i)
def R9 (X:Cx) (r:R2):Prop:=
 ∀ (value slice:Expr) (pins:List (Addr×Obj)) (s:Shared) (σ:St) (H:Hp) (x y:V) (v u:Value) (Q:VK),Inv X pins σ H s->RelV x v->RelV y u->r x y H Q->
   subscripted slice false v u=operate [v,u] (getItem v u)->wpAny (model X.prog X.w) X.A (subscriptTail value slice v u) (EP X pins σ Q) X.xe s
def UY (X:Cx) (id:String) (r:V->List V->Hp->VK->Prop):Prop:=
 ∀ (pins:List (Addr×Obj)) (s:Shared) (σ:St) (H:Hp) (x:V) (xs:List V) (v:Value) (us:List Value) (Q:VK),Inv X pins σ H s->RelV x v->Vals xs us->r x xs H Q->
   wpAny (model X.prog X.w) X.A (call (.builtin id) (v::us)) (EP X pins σ Q) X.xe s
section
variable {X:Cx} {a b:Expr} {ta tb:TE} {pos:Pos}
theorem dM {r:R2} (hr:R9 X r) (ha:PE X a ta) (hb:PE X b tb) (hs:Kz b):PE X (.Subscript a b pos) (QI r ta tb):=by
 intro pins s σ H Q I h
 exact Subscript_ (MT ha hb I h fun v u s2 x y H2 I2 rx ry q=>hr a b pins s2 σ H2 x y v u Q I2 rx ry q (hs _ _))
def RC (K:PySem.W.Frag):R2:=fun x y H Q=>∃ p xs i v,x=.ref p/\y=.int i/\bM K H p xs/\Hs xs i=some v/\Q v H
def RD (K:PySem.W.Frag):R2:=fun x y H Q=>∃ p xs i v,x=.ref p/\y=.int i/\mr K H p xs/\Hs xs i=some v/\Q v H
theorem bF:R9 X (RC X.K):=by
 intro value slice pins s σ H x y v u Q I rx ry h hs
 obtain ⟨p,xs,i,z,rfl,rfl,hq,he,q⟩:=h
 cases rx
 obtain ⟨t,rfl⟩:=ry
 obtain ⟨its,r,pl,hz⟩:=I.list hq
 obtain ⟨j,h1,h2,h3,h4,h5⟩:=Eo he
 obtain ⟨w,ew,rw'⟩:=r.get h2
 have hl:=r.length
 have hn:=tK
 have fin:EP X pins σ Q w s:=⟨z,H,I,rw',q⟩
 by_cases h0:0<=i
 . have hj:i.toNat=j:=by
     rw [seqIndex_of h0 h5] at h1
     exact Option.some.inj h1
   exact item_listR pl.isList h0 (by omega) (by rw [hj];simpa using ew) fin hs
 . have hj:(i+(its.toArray.size:Int)).toNat=j:=by
     rw [seqIndex_neg (by omega) h4] at h1
     rw [List.size_toArray,<- hl]
     exact Option.some.inj h1
   exact subscriptTail_builtinR (x:=w) pl.isList.typeIs slot_list_getitem.lookup
     (wpAny_getItem_list_neg (Q:=fun r s'=>r=w/\EP X pins σ Q r s') pl.isList (by omega) (by rw [List.size_toArray]<;>omega) (by omega) (by rw [hj];simpa using ew) ⟨rfl,fin⟩) hs
theorem zD:R9 X (RD X.K):=by
 intro value slice pins s σ H x y v u Q I rx ry h hs
 obtain ⟨p,xs,i,z,rfl,rfl,hq,he,q⟩:=h
 cases rx
 obtain ⟨t,rfl⟩:=ry
 obtain ⟨its,r,pl,hz⟩:=I.tuple hq
 obtain ⟨j,h1,h2,h3,h4,h5⟩:=Eo he
 obtain ⟨w,ew,rw'⟩:=r.get h2
 have hl:=r.length
 have hn:=tK
 have fin:EP X pins σ Q w s:=⟨z,H,I,rw',q⟩
 exact subscriptTail_builtinR (x:=w) pl.typeIs slot_tuple_getitem.lookup
   (getItem_tuple (j:=j) (Q:=fun r s'=>r=w/\EP X pins σ Q r s') pl (by omega) (by omega) (by rw [List.size_toArray,<- hl];exact h1) (by simpa using ew) ⟨rfl,fin⟩) hs
theorem D0 (its:List Value) (n j:Nat) (u:Value):Obj.mapSeq (·.setIfInBounds j u) { cls:=.type "list",data:=.seq its.toArray n }={ cls:=.type "list",data:=.seq (its.set j u).toArray n }:=by
 simp [Obj.mapSeq]
theorem Inv.lst {pins:List (Addr×Obj)} {σ:St} {H:Hp} {s:Shared} {p:Addr} {xs:List V} (I:Inv X pins σ H s) (h:H p=some (.lst xs)) :
   ∃ (its:List Value) (n:Nat),Vals xs its/\s.heap.get? p=some { cls:=.type "list",data:=.seq its.toArray n }/\xs.length<=sizeLine:=by
 obtain ⟨z,its,n,r,e⟩:=I.hok p _ h
 exact ⟨its,n,r,e,z⟩
theorem Inv.Nc {pins:List (Addr×Obj)} {σ:St} {H:Hp} {s:Shared} {p:Addr} {xs ys:List V} {its its':List Value} {n n':Nat} {f:Obj->Obj} (I:Inv X pins σ H s) (h:H p=some (.lst xs))
   (ho:s.heap.get? p=some { cls:=.type "list",data:=.seq its.toArray n }) (hf:f { cls:=.type "list",data:=.seq its.toArray n }={ cls:=.type "list",data:=.seq its'.toArray n' }) (r:Vals ys its') (hz:ys.length<=sizeLine) (t:Nat) :
   Inv X pins σ (upd H p (.lst ys)) { s with heap:=s.heap.update p f,toks:=t }:=by
 have e:(s.heap.update p f).get? p=some { cls:=.type "list",data:=.seq its'.toArray n' }:=by
   rw [Heap.get?_update_self f ho (by rw [hf]<;>rfl),hf]
 refine I.write (x:=p) (e:=p) (by rw [h];trivial) (.inl rfl) (fun b u hb q=>(Heap.get?_update_other _ _ (Ne.symm hb)).trans q) ⟨_,e⟩ ?_
 exact ⟨hz,its',n',r,e⟩
def Pf:V->V->V->Hp->(Hp->Prop)->Prop:=fun o i v H Q=>∃ p xs k j,o=.ref p/\i=.int k/\H p=some (.lst xs)/\HW xs.length k=some j/\Q (upd H p (.lst (xs.set j v)))
theorem set_list:MN X Pf:=by
 intro pins s σ H o i v ov iv u Q I ro ri rv h
 obtain ⟨p,xs,k,j,rfl,rfl,hp,hj,q⟩:=h
 cases ro
 obtain ⟨t,rfl⟩:=ri
 obtain ⟨its,n,r,ho,hz⟩:=I.lst hp
 obtain ⟨h1,h2,h3,h4⟩:=En hj
 have hl:=r.length
 have hn:=tK
 have I':Inv X pins σ (upd H p (.lst (xs.set j v))) { s with heap:=s.heap.update p (Obj.mapSeq (·.setIfInBounds j u)) }:=
   I.Nc hp ho (D0 its n j u) (r.set rv j) (by rw [List.length_set];exact hz) s.toks
 by_cases h0:0<=k
 . have hk:k.toNat=j:=by
     rw [seqIndex_of h0 h4] at h1
     exact Option.some.inj h1
   exact PySem.W.ki_setAt ho h0 (by omega) (by rw [List.size_toArray,<- hl];exact h4) (by rw [hk];exact ⟨_,I',q⟩)
 . have hk:(k+(its.toArray.size:Int)).toNat=j:=by
     rw [seqIndex_neg (by omega) h3] at h1
     rw [List.size_toArray,<- hl]
     exact Option.some.inj h1
   exact PySem.W.ki_setBack ho (by omega) (by rw [List.size_toArray,<- hl];exact h3) (by omega) (by rw [hk];exact ⟨_,I',q⟩)
theorem zE (lo hi:Option Int) (n:Nat):(sliceBounds lo hi none n).1=((HT.Bq n 0 lo:Nat):Int)/\(sliceBounds lo hi none n).2.1=((HT.Bq n n hi:Nat):Int)/\(sliceBounds lo hi none n).2.2=1:=by
 refine ⟨?_,?_,rfl⟩
 . cases lo with
   | none=>simp [sliceBounds,HT.Bq]
   | some i=>
     simp only [sliceBounds,HT.Bq,Option.getD_none,show (1:Int) > 0 by decide,if_true]
     by_cases h:i < 0
     . simp only [h,if_true]<;>omega
     . simp only [h,if_false]<;>omega
 . cases hi with
   | none=>simp [sliceBounds,HT.Bq]
   | some i=>
     simp only [sliceBounds,HT.Bq,Option.getD_none,show (1:Int) > 0 by decide,if_true]
     by_cases h:i < 0
     . simp only [h,if_true]<;>omega
     . simp only [h,if_false]<;>omega
theorem xY (its:List Value) (lo hi:Option Int):slicePick its.toArray lo hi none=((its.drop (HT.Bq its.length 0 lo)).take (HT.Bq its.length its.length hi - HT.Bq its.length 0 lo)).toArray:=by
 obtain ⟨h1,h2,h3⟩:=zE lo hi its.toArray.size
 unfold slicePick
 rw [h1,h2,h3]
 simp only [sliceRange_one,pick_run,List.size_toArray]<;>rfl
def RE (K:PySem.W.Frag):V->Option Int->Option Int->Hp->VK->Prop:=fun x lo hi H Q=>∃ a xs,x=.ref a/\bM K H a xs/\∀ p,H p=none->Q (.ref p) (upd H p (.lst (Dz xs lo hi)))
theorem K1:Tu X (RE X.K):=by
 intro pins s σ H x v vl vu lo hi sl Q I rx hs pl pu h
 obtain ⟨a,xs,rfl,hx,q⟩:=h
 cases rx
 obtain ⟨its,r,ht,hz⟩:=I.list hx
 have hlen:=r.length
 refine ⟨"list",_,slot_list_getitem.lookup,ht.isList.typeIs,?_⟩
 refine wpAny_getItem_list_slice ht.isList hs pl pu .none (by simp) ?_ (by rw [List.size_toArray]<;>omega)
 rw [xY,<- hlen]
 refine ⟨.ref s.heap.objs.size,_,I.laid (t':=s.toks) (o:=.lst (Dz xs lo hi)) (fun b ob q=>Heap.get?_push_of_some _ q) (Nat.le_refl _) ?_,rfl,q _ (I.hok.fresh (Nat.le_refl _))⟩
 exact ⟨Nat.le_trans (Br xs lo hi) hz,_,0,(r.drop (HT.Bq xs.length 0 lo)).take (HT.Bq xs.length xs.length hi - HT.Bq xs.length 0 lo),Heap.get?_push_size _ rfl⟩
def rM:V->Bool
 | .non=>true
 | .bl _=>true
 | .int _=>true
 | .str _=>true
 | _=>false
def K2:V->V->Bool
 | .non,.non=>true
 | .bl a,.bl b=>a==b
 | .bl a,.int b=>(if a then 1 else 0)==b
 | .int a,.bl b=>a==(if b then 1 else 0)
 | .int a,.int b=>a==b
 | .str a,.str b=>a==b
 | _,_=>false
theorem Nd {A:Around} {s:Shared} {y x:V} {u v:Value} (ry:RelV y u) (rx:RelV x v) (fy:rM y=true) (fx:rM x=true):SeqAt.EqAt A s u v (K2 y x):=by
 cases y with
 | non=>
   cases ry
   cases x with
   | non=>cases rx;exact SeqAt.EqAt.same _
   | bl b=>cases rx;exact SeqAt.EqAt.none_bool b
   | int b=>obtain ⟨t,rfl⟩:=rx;exact SeqAt.EqAt.none_int b t
   | str b=>obtain ⟨t,rfl⟩:=rx;exact SeqAt.EqAt.none_str b t
   | _=>exact absurd (show false=true from fx) Bool.false_ne_true
 | bl a=>
   cases ry
   cases x with
   | non=>cases rx;exact SeqAt.EqAt.bool_none a
   | bl b=>cases rx;exact SeqAt.EqAt.bool_bool a b
   | int b=>obtain ⟨t,rfl⟩:=rx;exact SeqAt.EqAt.bool_int a b t
   | str b=>obtain ⟨t,rfl⟩:=rx;exact SeqAt.EqAt.bool_str a b t
   | _=>exact absurd (show false=true from fx) Bool.false_ne_true
 | int a=>
   obtain ⟨t',rfl⟩:=ry
   cases x with
   | non=>cases rx;exact SeqAt.EqAt.int_none a t'
   | bl b=>cases rx;exact SeqAt.EqAt.int_bool a t' b
   | int b=>obtain ⟨t,rfl⟩:=rx;exact SeqAt.EqAt.int_int a t' b t
   | str b=>obtain ⟨t,rfl⟩:=rx;exact SeqAt.EqAt.int_str a t' b t
   | _=>exact absurd (show false=true from fx) Bool.false_ne_true
 | str a=>
   obtain ⟨t',rfl⟩:=ry
   cases x with
   | non=>cases rx;exact SeqAt.EqAt.str_none a t'
   | bl b=>cases rx;exact SeqAt.EqAt.str_bool a t' b
   | int b=>obtain ⟨t,rfl⟩:=rx;exact SeqAt.EqAt.str_int a t' b t
   | str b=>obtain ⟨t,rfl⟩:=rx;exact SeqAt.EqAt.str_str a t' b t
   | _=>exact absurd (show false=true from fx) Bool.false_ne_true
 | _=>exact absurd (show false=true from fy) Bool.false_ne_true
def D3 (x:V) (u:Value):Bool:=match u with
 | .none=>K2 .non x
 | .bool b=>K2 (.bl b) x
 | .int i _=>K2 (.int i) x
 | .str z _=>K2 (.str z) x
 | _=>false
theorem HZ {x y:V} {u:Value} (r:RelV y u) (f:rM y=true):D3 x u=K2 y x:=by
 cases y with
 | non=>cases r;rfl
 | bl b=>cases r;rfl
 | int i=>obtain ⟨t,rfl⟩:=r;rfl
 | str z=>obtain ⟨t,rfl⟩:=r;rfl
 | _=>exact absurd (show false=true from f) Bool.false_ne_true
theorem rN {x:V}:∀ {xs:List V} {us:List Value},Vals xs us->xs.all rM=true->us.any (D3 x)=xs.any fun y=>K2 y x
 | _,_,.nil,_=>rfl
 | y::xs,u::us,.cons r t,f=>by
   rw [List.all_cons,Bool.and_eq_true] at f
   rw [List.any_cons,List.any_cons,HZ r f.1,rN t f.2]
theorem oN {A:Around} {s:Shared} {x:V} {v:Value} (rx:RelV x v) (fx:rM x=true):∀ {xs:List V} {us:List Value},Vals xs us->xs.all rM=true->∀ u ∈ us,SeqAt.EqAt A s u v (D3 x u)
 | _,_,.nil,_=>fun u hu=>by cases hu
 | y::xs,u::us,.cons r t,f=>fun u' hu=>by
   rw [List.all_cons,Bool.and_eq_true] at f
   rcases List.mem_cons.mp hu with rfl | hu
   . rw [HZ r f.1];exact Nd r rx f.1 fx
   . exact oN rx fx t f.2 u' hu
def Ke (x:V) (xs:List V):Bool:=xs.any fun y=>K2 y x
def Tv (K:PySem.W.Frag) (neg:Bool):R2:=fun x y H Q=>∃ p xs,y=.ref p/\(bM K H p xs\/mr K H p xs)/\rM x=true/\xs.all rM=true/\Q (.bl (if neg then !Ke x xs else Ke x xs)) H
theorem tN:uH X (compareOp .In) (Tv X.K false):=by
 intro pins s σ H x y v u Q I rx ry h
 obtain ⟨p,xs,rfl,hq,fx,fs,q⟩:=h
 cases ry
 rcases hq with hq | hq
 . obtain ⟨its,r,pl,hz⟩:=I.list hq
   refine SeqAt.in_listAt (D3 x) pl.isList (fun w hw=>oN rx fx r fs w (by simpa using hw)) ⟨.bl _,H,I,rfl,?_⟩
   rw [show its.toArray.any (D3 x)=its.any (D3 x) by simp,rN r fs]
   exact q
 . obtain ⟨its,r,pl,hz⟩:=I.tuple hq
   refine SeqAt.in_tupleAt (D3 x) pl (fun w hw=>oN rx fx r fs w (by simpa using hw)) ⟨.bl _,H,I,rfl,?_⟩
   rw [show its.toArray.any (D3 x)=its.any (D3 x) by simp,rN r fs]
   exact q
theorem zF:uH X (compareOp .NotIn) (Tv X.K true):=by
 intro pins s σ H x y v u Q I rx ry h
 obtain ⟨p,xs,rfl,hq,fx,fs,q⟩:=h
 cases ry
 rcases hq with hq | hq
 . obtain ⟨its,r,pl,hz⟩:=I.list hq
   refine SeqAt.notIn_listAt (D3 x) pl.isList (fun w hw=>oN rx fx r fs w (by simpa using hw)) ⟨.bl _,H,I,rfl,?_⟩
   rw [show its.toArray.any (D3 x)=its.any (D3 x) by simp,rN r fs]
   exact q
 . obtain ⟨its,r,pl,hz⟩:=I.tuple hq
   refine SeqAt.notIn_tupleAt (D3 x) pl (fun w hw=>oN rx fx r fs w (by simpa using hw)) ⟨.bl _,H,I,rfl,?_⟩
   rw [show its.toArray.any (D3 x)=its.any (D3 x) by simp,rN r fs]
   exact q
theorem aW:yJ X (.builtin "len") (fun xs H Q=>∃ p ys,xs=[.ref p]/\(bM X.K H p ys\/mr X.K H p ys)/\Q (.int ys.length) H):=by
 intro pins s σ H xs us Q I r h
 obtain ⟨p,ys,rfl,hq,q⟩:=h
 obtain ⟨u,rfl,rx⟩:=vals1 r
 cases rx
 have hn:=tK
 rcases hq with hq | hq
 . obtain ⟨its,r',pl,hz⟩:=I.list hq
   have hlen:=r'.length
   exact Calls.call_len_list pl.isList (by simp only [List.size_toArray]<;>omega) ⟨.int ys.length,H,I.tok _,⟨s.toks+1,by rw [List.size_toArray,hlen]⟩,q⟩
 . obtain ⟨its,r',pl,hz⟩:=I.tuple hq
   have hlen:=r'.length
   exact len_tuple pl (by simp only [List.size_toArray]<;>omega) ⟨.int ys.length,H,I.tok _,⟨s.toks+1,by rw [List.size_toArray,hlen]⟩,q⟩
theorem zG:yJ X (.type "list") (fun xs H Q=>∃ p ys,xs=[.ref p]/\(bM X.K H p ys\/mr X.K H p ys)/\∀ l,H l=none->Q (.ref l) (upd H l (.lst ys))):=by
 intro pins s σ H xs us Q I r h
 obtain ⟨p,ys,rfl,hq,q⟩:=h
 obtain ⟨u,rfl,rx⟩:=vals1 r
 cases rx
 have fin:∀ (its:List Value),Vals ys its->ys.length<=sizeLine->∀ (h':Heap) (c':Nat),(∀ b o',s.heap.get? b=some o'->h'.get? b=some o')->
     h'.get? s.heap.objs.size=some { cls:=.type "list",dict:=none,data:=.seq its.toArray c',slots:=#[] }->EP X pins σ Q (.ref s.heap.objs.size) { s with heap:=h' }:=fun its r' hz h' c' kp e=>
   ⟨.ref s.heap.objs.size,_,I.laid (t':=s.toks) kp (Nat.le_refl _) (show cj X.prog X.w _ h' _ (.lst ys) from ⟨hz,its,c',r',e⟩),rfl,q _ (I.hok.fresh (Nat.le_refl _))⟩
 rcases hq with hq | hq
 . obtain ⟨its,r',pl,hz⟩:=I.list hq
   have hlen:=r'.length
   obtain ⟨o,ho,hc,n,hd⟩:=pl.isList
   exact call_list_seq p (.inl rfl) ho hc hd (fun h' c' kp e=>fin its r' hz h' c' kp e) (by simp only [List.size_toArray]<;>omega)
 . obtain ⟨its,r',pl,hz⟩:=I.tuple hq
   have hlen:=r'.length
   obtain ⟨o,ho,hc,n,hd⟩:=pl
   exact call_list_seq p (.inr rfl) ho hc hd (fun h' c' kp e=>fin its r' hz h' c' kp e) (by simp only [List.size_toArray]<;>omega)
theorem qO:yJ X (.type "tuple") (fun xs H Q=>∃ p ys,xs=[.ref p]/\((bM X.K H p ys/\∀ l,H l=none->Q (.ref l) (upd H l (.tup ys)))\/(mr X.K H p ys/\Q (.ref p) H))):=by
 intro pins s σ H xs us Q I r h
 obtain ⟨p,ys,rfl,h⟩:=h
 obtain ⟨u,rfl,rx⟩:=vals1 r
 cases rx
 rcases h with ⟨hq,q⟩ | ⟨hq,q⟩
 . obtain ⟨its,r',pl,hz⟩:=I.list hq
   have hlen:=r'.length
   refine call_tuple_list pl.isList (fun h' kp=>?_) (by simp only [List.size_toArray]<;>omega)
   have I1:Inv X pins σ H { s with heap:=h' }:=I.kept (t':=s.toks) kp
   have I2:Inv X pins σ (upd H h'.objs.size (.tup ys)) { s with heap:=h'.push { cls:=.type "tuple",data:=.seq its.toArray } }:=
     I1.laid (t':=s.toks) (fun b o e=>Heap.get?_push_of_some _ e) (Nat.le_refl _) (show cj X.prog X.w _ _ _ (.tup ys) from ⟨hz,its,r',IsTup.new _ _⟩)
   exact ⟨.ref h'.objs.size,_,I2,rfl,q _ (I1.hok.fresh (Nat.le_refl _))⟩
 . obtain ⟨its,r',pl,hz⟩:=I.tuple hq
   exact call_tuple_same pl ⟨.ref p,H,I,rfl,q⟩
def Tw (K:PySem.W.Frag) (T:String) (x:V) (H:Hp):Prop:=match x with
 | .str _=>T = "str"
 | .int _=>T = "int"
 | .ref p=>(T = "list"/\∃ xs,bM K H p xs)\/(T = "tuple"/\∃ o,K.lookup p=some o/\o.cls=.type "tuple"/\o.dict=none) \/
     (T = "dict"/\((∃ kvs,H p=some (.dK kvs))\/∃ kvs,H p=some (.dT kvs)))\/(T = "set"/\∃ S n,H p=some (.set S n))
 | _=>False
theorem Nf {pins:List (Addr×Obj)} {σ:St} {H:Hp} {s:Shared} {T:String} {x:V} {v:Value} (I:Inv X pins σ H s) (r:RelV x v) (ty:Tw X.K T x H) :
   s.TypeIs v T/\∀ a,v=.ref a->∃ ob,s.heap.get? a=some ob/\ob.dict=none:=by
 cases x with
 | str z=>
   obtain ⟨t,rfl⟩:=r
   cases (show T = "str" from ty)
   exact ⟨typeIs_str s z t,fun _ e=>nomatch e⟩
 | int i=>
   obtain ⟨t,rfl⟩:=r
   cases (show T = "int" from ty)
   exact ⟨typeIs_int s i t,fun _ e=>nomatch e⟩
 | ref p=>
   cases r
   rcases ty with ⟨rfl,xs,hq⟩ | ⟨rfl,o,hk,hc,hd⟩ | ⟨rfl,hk⟩ | ⟨rfl,S,n,hk⟩
   . obtain ⟨its,_,pl,_⟩:=I.list hq
     refine ⟨pl.isList.typeIs,fun a e=>?_⟩
     cases e
     obtain ⟨o,n,e,c,hd,_⟩:=pl
     exact ⟨o,e,hd⟩
   . refine ⟨⟨o,I.qN p o hk,hc⟩,fun a e=>?_⟩
     cases e
     exact ⟨o,I.qN _ o hk,hd⟩
   . have z:∃ o,s.heap.get? p=some o/\o.ExactDict:=by
       rcases hk with ⟨kvs,hk⟩ | ⟨kvs,hk⟩
       . obtain ⟨_,_,_,_,o,_,_,e,ex,_⟩:=I.hok p _ hk
         exact ⟨o,e,ex⟩
       . obtain ⟨_,_,_,_,o,_,_,e,ex,_⟩:=I.hok p _ hk
         exact ⟨o,e,ex⟩
     obtain ⟨o,e,ex⟩:=z
     refine ⟨⟨o,e,ex.1⟩,fun a e2=>?_⟩
     cases e2
     exact ⟨o,e,ex.2.1⟩
   . obtain ⟨o,_,_,_,e,ex,_⟩:=I.hok p _ hk
     refine ⟨⟨o,e,ex.1⟩,fun a e2=>?_⟩
     cases e2
     exact ⟨o,e,ex.2.1⟩
 | _=>exact False.elim ty
def UZ (K:PySem.W.Frag) (T:String) (r:V->List V->Hp->VK->Prop) (to:TE) (t:TA):TE:=fun σ H Q=>to σ H fun x H1=>Tw K T x H1/\t σ H1 fun xs H2=>r x xs H2 Q
variable {o e:Expr} {es:List Expr} {to:TE} {t:TA} {name:Str} {apos cpos:Pos} {T id:String} {r:V->List V->Hp->VK->Prop}
theorem nJ (pa:PlainAttrs T) (slot:Slot T name id) (hty:typeOf (.builtin id)=pure (.type "method_descriptor")) (hm:UY X id r) (ho:PE X o to) (ha:PA X (e::es) t)
   (hbase:attributeBase o name X.env (eval o X.env)=eval o X.env:=by rfl)
   (hfew:((backTo cpos (starEach (e::es) X.env)).all (fun x=>!x.1)&&(backToKw cpos (keywordEach [] X.env)).all (fun x=>x.1.isSome)
    &&decide ((e::es).length+([]:List Keyword).length+(if ([]:List Keyword).isEmpty then 0 else 1) < 30))=true:=by rfl)
   (hline:(apos.endLine==cpos.line)=true:=by rfl) (hs:starEach (e::es) X.env=(false,eval e X.env)::starEach es X.env:=by rfl) (hplain:(backTo cpos (starEach es X.env)).any (·.1)=false:=by rfl) :
   PE X (.Call (.Attribute o name apos) (e::es) [] cpos) (UZ X.K T r to t):=by
 intro pins s σ H Q I h
 refine wpAny_Call_method_late hbase hfew hline rfl (cU (ho pins s σ H _ I h) fun v s1 ⟨x,H1,I1,r1,ty,q1⟩=>?_)
 obtain ⟨h1,h2⟩:=Nf I1 r1 ty
 refine ⟨T,id,pa,slot,hty,h1,h2,?_⟩
 have hA:=ha cpos pins s1 σ H1 _ I1 q1
 rw [hs] at hA ⊢
 refine Calls.callWith_builtin (by show (false||(backTo cpos (starEach es X.env)).any (·.1))=false;rw [hplain]<;>rfl) (Calls.evalArgs_plain ?_)
 exact cU hA fun us s2 ⟨vs,H2,I2,r2,q2⟩=>hm pins s2 σ H2 x vs v us Q I2 r1 r2 q2
end
end L2
namespace L2
open PySem PySem.Spec PyProof.Rows
def Tz (X:Cx) (id:String) (r:V->List V->Hp->VK->Prop):Prop:=
 ∀ (pins:List (Addr×Obj)) (s:Shared) (σ:St) (H:Hp) (x:V) (xs:List V) (v:Value) (us:List Value) (Q:VK),Inv X pins σ H s->RelV x v->Vals xs us->r x xs H Q->
   wpAny (model X.prog X.w) X.A (call (.builtin id) (v::us)) (EP X pins σ Q) X.xe s
theorem Vals.one:∀ {x:V} {us:List Value},Vals [x] us->∃ u,us=[u]/\RelV x u
 | _,_,.cons r .nil=>⟨_,rfl,r⟩
theorem Vals.rep {xs:List V} {us:List Value} (h:Vals xs us):∀ k:Nat,Vals (List.replicate k xs).flatten (List.replicate k us).flatten
 | 0=>.nil
 | k+1=>by
   rw [List.replicate_succ,List.replicate_succ,List.flatten_cons,List.flatten_cons]
   exact Vals.append h (Vals.rep h k)
theorem foldl_rep (its:List Value):∀ (k:Nat) (acc:List Value),
   List.foldl (fun x1 x2=>x1++x2) acc.toArray (List.replicate k its.toArray)=(acc++(List.replicate k its).flatten).toArray
 | 0,acc=>by simp
 | k+1,acc=>by
   have e:acc.toArray++its.toArray=(acc++its).toArray:=by simp
   have e2:(acc++its)++(List.replicate k its).flatten=acc++(List.replicate (k+1) its).flatten:=by
     rw [List.replicate_succ,List.flatten_cons,List.append_assoc]
   rw [<- e2,<- foldl_rep its k (acc++its),<- e,List.replicate_succ,List.foldl_cons]
section
variable {X:Cx} {pins:List (Addr×Obj)} {σ:St} {H:Hp} {s:Shared} {l b:Addr} {xs ys zs:List V}
theorem Inv.Pg {its its':List Value} {n:Nat} {f:Array Value->Array Value} {t':Nat} (I:Inv X pins σ H s) (hH:H l=some (.lst xs))
   (e:s.heap.get? l=some { cls:=.type "list",data:=.seq its.toArray n }) (hf:f its.toArray=its'.toArray) (hv:Vals ys its') (hz:ys.length<=sizeLine) :
   Inv X pins σ (upd H l (.lst ys)) { s with heap:=s.heap.update l (Obj.mapSeq f),toks:=t' }:=by
 have q:=PySem.IsL.update e f
 rw [hf] at q
 refine I.write (x:=l) (e:=l) (by rw [hH];exact trivial) (.inl rfl) (fun b' u hb hu=>(Heap.get?_update_other s.heap (Obj.mapSeq f) (Ne.symm hb)).trans hu) ⟨_,q⟩ ?_
 exact ⟨hz,its',_,hv,q⟩
theorem Inv.Ph {its:List Value} {t':Nat} (I:Inv X pins σ H s) (hv:Vals ys its) (hz:ys.length<=sizeLine) :
   Inv X pins σ (upd H s.heap.objs.size (.lst ys)) { s with heap:=s.heap.push { cls:=.type "list",data:=.seq its.toArray },toks:=t' }:=
 I.laid (fun _ _ q=>Heap.get?_push_of_some _ q) (Nat.le_refl _) ⟨hz,its,0,hv,Heap.get?_push_size _ rfl⟩
theorem Inv.fresh (I:Inv X pins σ H s):H s.heap.objs.size=none:=I.hok.fresh (Nat.le_refl _)
theorem Inv.Fz (I:Inv X pins σ H s) (hH:H l=some (.lst xs)):xs.length<=sizeLine/\∃ (its:List Value) (n:Nat),Vals xs its/\xs.length=its.length/\s.heap.get? l=some { cls:=.type "list",data:=.seq its.toArray n }:=by
 obtain ⟨z,its,n,r,e⟩:=I.hok l _ hH
 exact ⟨z,its,n,r,r.length,e⟩
theorem Bt {n:Nat} (h:n<=sizeLine):Builtin.List.listTooLong n=false:=by
 unfold Builtin.List.listTooLong
 exact decide_eq_false (by omega)
end
section
variable {X:Cx}
def K3:V->List V->Hp->VK->Prop:=fun x vs H Q=>∃ l xs y,x=.ref l/\vs=[y]/\H l=some (.lst xs)/\xs.length < sizeLine/\Q .non (upd H l (.lst (xs++[y])))
theorem fE:Tz X "list.append" K3:=by
 intro pins s σ H x vs v us Q I rx rv h
 obtain ⟨l,xs,y,rfl,rfl,hH,hz,q⟩:=h
 cases rx
 obtain ⟨u,rfl,ru⟩:=rv.one
 obtain ⟨z,its,n,r,hl,e⟩:=I.Fz hH
 refine call_meets F.slot_list_append ⟨_,e,rfl⟩ F.entry_list_append (F.args_list_append_2 _ _) (PySem.list_append l its.toArray n u (by rw [List.size_toArray];omega)) ⟨e,?_⟩
 refine ⟨.non,_,I.Pg (its':=its++[u]) hH e (by simp) (r.append (.cons ru .nil)) ?_,rfl,q⟩
 rw [List.length_append,List.length_singleton]
 omega
def K4:V->List V->Hp->VK->Prop:=fun x vs H Q=>∃ l b xs zs,x=.ref l/\vs=[.ref b]/\H l=some (.lst xs)/\H b=some (.lst zs)/\xs.length+zs.length<=sizeLine/\Q .non (upd H l (.lst (xs++zs)))
theorem F0:Tz X "list.extend" K4:=by
 intro pins s σ H x vs v us Q I rx rv h
 obtain ⟨l,b,xs,zs,rfl,rfl,hH,hB,hz,q⟩:=h
 cases rx
 obtain ⟨u,rfl,ru⟩:=rv.one
 cases ru
 obtain ⟨z,its,n,r,hl,e⟩:=I.Fz hH
 obtain ⟨z2,its2,n2,r2,hl2,e2⟩:=I.Fz hB
 have hsz:its.toArray.size+its2.toArray.size<=sizeLine:=by rw [List.size_toArray,List.size_toArray];omega
 have Ia:¬ (!its.toArray.isEmpty&&Builtin.List.listTooLong (its.toArray.size+its2.toArray.size))=true:=by
   rw [Bt hsz,Bool.and_false]
   exact Bool.false_ne_true
 refine call_meets F.slot_list_extend ⟨_,e,rfl⟩ F.entry_list_extend (F.args_list_extend_2 _ _)
   (AutoSeq1.list_extend_list_list_0 l its.toArray n b its2.toArray n2 Ia (by rw [List.size_toArray];omega) (by omega)) ⟨e,e2,?_⟩
 refine ⟨.non,_,I.Pg (its':=its++its2) hH e (by simp) (r.append r2) ?_,rfl,q⟩
 rw [List.length_append]
 omega
def RG:R2:=fun x y H Q=>∃ l b xs zs,x=.ref l/\y=.ref b/\H l=some (.lst xs)/\H b=some (.lst zs)/\xs.length+zs.length<=sizeLine/\∀ p,H p=none->Q (.ref p) (upd H p (.lst (xs++zs)))
theorem Ib:uH X (binaryOp .Add) RG:=by
 intro pins s σ H x y v u Q I rx ry h
 obtain ⟨l,b,xs,zs,rfl,rfl,hH,hB,hz,q⟩:=h
 cases rx
 cases ry
 obtain ⟨z,its,n,r,hl,e⟩:=I.Fz hH
 obtain ⟨z2,its2,n2,r2,hl2,e2⟩:=I.Fz hB
 refine PySem.P.add_list e e2 ?_ (by rw [List.size_toArray,List.size_toArray];omega)
 have ea:its.toArray++its2.toArray=(its++its2).toArray:=by simp
 rw [ea]
 exact ⟨.ref _,_,I.Ph (t':=s.toks) (r.append r2) (by rw [List.length_append];omega),rfl,q _ I.fresh⟩
def RH:R2:=fun x y H Q=>∃ l k xs,x=.ref l/\y=.int k/\H l=some (.lst xs)/\-(2 ^ 63)<=k/\k < 2 ^ 63/\xs.length * k.toNat<=sizeLine /\
 ∀ p,H p=none->Q (.ref p) (upd H p (.lst (List.replicate k.toNat xs).flatten))
theorem len_rep {α:Type} (xs:List α) (k:Nat):(List.replicate k xs).flatten.length=k * xs.length:=by
 induction k with
 | zero=>simp
 | succ k ih=>rw [List.replicate_succ,List.flatten_cons,List.length_append,ih,Nat.succ_mul,Nat.add_comm]
theorem Ic:uH X (binaryOp .Mult) RH:=by
 intro pins s σ H x y v u Q I rx ry h
 obtain ⟨l,k,xs,rfl,rfl,hH,h1,h2,hz,q⟩:=h
 cases rx
 obtain ⟨t,rfl⟩:=ry
 obtain ⟨z,its,n,r,hl,e⟩:=I.Fz hH
 have hlen:its.toArray.size * k.toNat<=sizeLine:=by rw [List.size_toArray,<- hl];exact hz
 have hcap:¬ its.toArray.size * k.toNat > (2 ^ 63 - 1) / 8:=by
   have:(sizeLine:Nat)<=(2 ^ 63 - 1) / 8:=by decide
   omega
 have hfit:¬ (!Builtin.List.listFitsIndex k)=true:=by
   rw [fitsIndex_both h1 h2]
   exact Bool.false_ne_true
 have Ia:¬ Builtin.List.listTooLong (its.toArray.size * k.toNat)=true:=by
   rw [Bt hlen]
   exact Bool.false_ne_true
 have hnew:List.foldl (fun x1 x2=>x1++x2) #[] (List.replicate (if its.toArray.isEmpty=true then 0 else k.toNat) its.toArray)=(List.replicate k.toNat its).flatten.toArray:=by
   have f0:∀ m:Nat,List.foldl (fun x1 x2=>x1++x2) #[] (List.replicate m its.toArray)=(List.replicate m its).flatten.toArray:=fun m=>by
     have:=foldl_rep its m []
     rw [List.nil_append] at this
     exact this
   rw [f0]
   cases its with
   | nil=>simp
   | cons a r'=>rw [if_neg (by simp)]
 refine wpAny_binaryOp_repeat_ref (T:="list") (U:="int") (by decide) ⟨_,e,rfl⟩ (fun s'=>typeIs_int s' k t) noFill_list_mul F.fills_int_mul F.slot_int_rmul repeat_list F.slot_int_index.lookup
   (call_meets F.slot_int_rmul (typeIs_int s k t) F.entry_int_rmul (F.args_int_rmul_2 _ _) (int___rmul___int_list k t l its.toArray n)
     ⟨e,rfl,⟨_,e,rfl⟩,call_meets F.slot_list_mul ⟨_,e,rfl⟩ F.entry_list_mul (F.args_list_mul_2 _ _) (AutoListH.list___mul___list_int_3 l its.toArray n k t hfit hcap Ia) ⟨e,?_⟩⟩)
 rw [hnew]
 exact ⟨.ref _,_,I.Ph (t':=s.toks) (r.rep k.toNat) (by rw [len_rep,Nat.mul_comm];exact hz),rfl,q _ I.fresh⟩
end
section
variable {prog:Program} {w:World} {A:Around} {E:Value->Shared->Prop} {s:Shared}
end
section
variable {X:Cx}
end
end L2
namespace L2
open PySem PySem.Spec PyProof.Rows
section
variable {prog:Program} {w:World} {A:Around} {E:Value->Shared->Prop} {s:Shared} {l:Addr} {its:List Value} {ns:List Int} {Q:Value->Shared->Prop}
end
section
variable {X:Cx}
end
mutual
inductive Dp (K:PySem.W.Frag) (H:Hp):V->PyData->Prop
 | non:Dp K H .non .none
 | bl (b:Bool):Dp K H (.bl b) (.bool b)
 | int (i:Int):Dp K H (.int i) (.int i)
 | str (x:Str):Dp K H (.str x) (.str x)
 | lst {a:Addr} {xs:List V} {ds:List PyData}:bM K H a xs->yR K H xs ds->Dp K H (.ref a) (.list ds)
 | tup {a:Addr} {xs:List V} {ds:List PyData}:mr K H a xs->yR K H xs ds->Dp K H (.ref a) (.tuple ds)
inductive yR (K:PySem.W.Frag) (H:Hp):List V->List PyData->Prop
 | nil:yR K H [] []
 | cons {v:V} {vs:List V} {d:PyData} {ds:List PyData}:Dp K H v d->yR K H vs ds->yR K H (v::vs) (d::ds)
end
section
variable {X:Cx} {pins:List (Addr×Obj)} {σ:St} {H:Hp} {s:Shared}
mutual
theorem Dp.reads (I:Inv X pins σ H s):∀ (d:PyData) (v:V) (u:Value),Dp X.K H v d->RelV v u->∃ as,Reads s.heap u d as
 | .none,_,_,h,r=>by
   cases h
   cases r
   exact ⟨_,Reads.none⟩
 | .bool b,_,_,h,r=>by
   cases h
   cases r
   exact ⟨_,Reads.bool b⟩
 | .int i,_,_,h,r=>by
   cases h
   obtain ⟨t,rfl⟩:=r
   exact ⟨_,Reads.int i t⟩
 | .str x,_,_,h,r=>by
   cases h
   obtain ⟨t,rfl⟩:=r
   exact ⟨_,Reads.str x t⟩
 | .list ds,_,_,h,r=>by
   cases h with
   | lst hs ha=>
     cases r
     obtain ⟨its,rv,⟨o,n,ho,hc,_,hd⟩,_⟩:=I.list hs
     obtain ⟨as,hr⟩:=Dp.readsAll I ds _ its ha rv
     exact ⟨_,Reads.list ho hc hd hr⟩
 | .tuple ds,_,_,h,r=>by
   cases h with
   | tup hs ha=>
     cases r
     obtain ⟨its,rv,⟨o,ho,hc,n,hd⟩,_⟩:=I.tuple hs
     obtain ⟨as,hr⟩:=Dp.readsAll I ds _ its ha rv
     exact ⟨_,Reads.tuple ho hc hd hr⟩
 | .dict _,_,_,h,_=>by cases h
theorem Dp.readsAll (I:Inv X pins σ H s):∀ (ds:List PyData) (vs:List V) (us:List Value),yR X.K H vs ds->Vals vs us->∃ as,ReadsAll s.heap us ds as
 | [],_,_,h,r=>by
   cases h
   cases r
   exact ⟨_,ReadsAll.nil⟩
 | d::ds,_,_,h,r=>by
   cases h with
   | cons h1 h2=>
     cases r with
     | cons r1 r2=>
       obtain ⟨as,q1⟩:=Dp.reads I d _ _ h1 r1
       obtain ⟨bs,q2⟩:=Dp.readsAll I ds _ _ h2 r2
       exact ⟨_,ReadsAll.cons q1 q2⟩
end
end
section
variable {X:Cx}
end
end L2
namespace L2
open PySem PySem.Spec PyProof.Rows
abbrev Ie (h:Heap) (c:Addr) (v:Option Value):Prop:=h.IsCell c v
def RI (scope sc:Scope):Scope:=
 { scope with names:=scope.names.map fun (n,k)=>if (k==.free&&sc.kind==.function&&sc.names.lookup n==some .cell) then (n,.cell) else (n,k) }
def cM (cells:List (Str×Addr)):List (Str×NameKind)->List (Str×Addr)->List (Str×Addr)
 | [],acc=>acc
 | (n,k)::r,acc=>if k==.free then cM cells r ((n,(cells.lookup n).getD 0)::acc) else cM cells r acc
theorem rO (env:Env) (f:Str×NameKind->List (Str×Addr)->Sem (ForInStep (List (Str×Addr))))
   (hf:∀ n k c,f (n,k) c=if k==.free then (do let a <- cellOf env n;pure (.yield ((n,a)::c))) else pure (.yield c)) :
   ∀ (names:List (Str×NameKind)) (acc:List (Str×Addr)),(∀ y ∈ names,y.2=.free->∃ c,env.cells.lookup y.1=some c)->forIn names acc f=pure (cM env.cells names acc)
 | [],acc,_=>by rw [List.forIn_nil];rfl
 | (n,k)::r,acc,h=>by
   rw [List.forIn_cons,hf]
   have ih:=fun acc=>rO env f hf r acc fun y hy=>h y (List.mem_cons_of_mem _ hy)
   unfold cM
   by_cases hk:(k==NameKind.free)=true
   . rw [if_pos hk,if_pos hk]
     obtain ⟨c,hc⟩:=h (n,k) List.mem_cons_self (by simpa using hk)
     have e:cellOf env n=pure c:=by unfold cellOf;rw [hc]
     rw [e]
     have e2:(env.cells.lookup n).getD 0=c:=by rw [hc];rfl
     rw [e2]
     exact ih _
   . rw [if_neg hk,if_neg hk]
     exact ih _
theorem D4 {scope:Scope} {env:Env} (h:∀ y ∈ scope.names,y.2=.free->∃ c,env.cells.lookup y.1=some c):closureFor scope env=pure (cM env.cells scope.names []):=by
 simp only [closureFor]
 rw [rO env _ (fun n k c=>rfl) scope.names [] h]
 rfl
theorem mem_lookup {α:Type}:∀ {l:List (Str×α)} {n:Str} {c:α},(n,c) ∈ l->∃ c',l.lookup n=some c'
 | (k,v)::r,n,c,h=>by
   rw [List.lookup_cons]
   cases hb:n==k with
   | true=>exact ⟨_,rfl⟩
   | false=>
     rcases List.mem_cons.mp h with e | h
     . cases e;simp at hb
     . exact mem_lookup h
theorem lB {cells:List (Str×Addr)}:∀ {names:List (Str×NameKind)} {acc:List (Str×Addr)} {n:Str} {c:Addr},(n,c) ∈ cM cells names acc->(n,c) ∈ acc\/((n,.free) ∈ names/\c=(cells.lookup n).getD 0)
 | [],_,_,_,h=>.inl h
 | (m,k)::r,acc,n,c,h=>by
   unfold cM at h
   split at h
   . rename_i hk
     have hk:k=.free:=by simpa using hk
     rcases lB h with h | ⟨h1,h2⟩
     . rcases List.mem_cons.mp h with e | h
       . cases e;exact .inr ⟨hk ▸ List.mem_cons_self,rfl⟩
       . exact .inl h
     . exact .inr ⟨List.mem_cons_of_mem _ h1,h2⟩
   . rcases lB h with h | ⟨h1,h2⟩
     . exact .inl h
     . exact .inr ⟨List.mem_cons_of_mem _ h1,h2⟩
theorem oO {cells:List (Str×Addr)}:∀ {names:List (Str×NameKind)} {acc:List (Str×Addr)} {p:Str×Addr},p ∈ acc->p ∈ cM cells names acc
 | [],_,_,h=>h
 | (m,k)::r,acc,p,h=>by
   unfold cM
   split
   . exact oO (List.mem_cons_of_mem _ h)
   . exact oO h
theorem oQ {cells:List (Str×Addr)}:∀ {names:List (Str×NameKind)} {acc:List (Str×Addr)} {n:Str},(n,.free) ∈ names->(n,(cells.lookup n).getD 0) ∈ cM cells names acc
 | (m,k)::r,acc,n,h=>by
   unfold cM
   rcases List.mem_cons.mp h with e | h
   . cases e
     exact oO List.mem_cons_self
   . split
     . exact oQ h
     . exact oQ h
theorem mz:∀ {names:List (Str×NameKind)} {h:Heap} {acc:List (Str×Addr)} {x:Str} {c:Addr},(x,c) ∈ cellsFrom h.objs.size names acc->
   (x,c) ∈ acc\/((x,.cell) ∈ names/\h.objs.size<=c/\Ie (pushCells h names) c none)
 | [],_,_,_,_,h=>.inl h
 | (n,k)::r,h,acc,x,c,hm=>by
   unfold cellsFrom at hm
   unfold pushCells
   split at hm
   . rename_i hk
     rw [if_pos hk]
     have hk:k=.cell:=by simpa using hk
     rw [<- Heap.size_push h { cls:=.type "cell",data:=.cell none }] at hm
     rcases mz hm with hm | ⟨h1,h2,h3⟩
     . rcases List.mem_cons.mp hm with e | hm
       . cases e
         exact .inr ⟨hk ▸ List.mem_cons_self,Nat.le_refl _,_,pushCells_keeps r _ _ _ (Heap.get?_push_size _ rfl),rfl⟩
       . exact .inl hm
     . rw [Heap.size_push] at h2
       exact .inr ⟨List.mem_cons_of_mem _ h1,Nat.le_of_succ_le h2,h3⟩
   . rename_i hk
     rw [if_neg hk]
     rcases mz hm with hm | ⟨h1,h2,h3⟩
     . exact .inl hm
     . exact .inr ⟨List.mem_cons_of_mem _ h1,h2,h3⟩
theorem qm:∀ {names:List (Str×NameKind)} {n:Nat} {acc:List (Str×Addr)} {p:Str×Addr},p ∈ acc->p ∈ cellsFrom n names acc
 | [],_,_,_,h=>h
 | (m,k)::r,n,acc,p,h=>by
   unfold cellsFrom
   split
   . exact qm (List.mem_cons_of_mem _ h)
   . exact qm h
theorem tO:∀ {names:List (Str×NameKind)} {n:Nat} {acc:List (Str×Addr)} {x:Str},(x,.cell) ∈ names->∃ c,(x,c) ∈ cellsFrom n names acc
 | (m,k)::r,n,acc,x,h=>by
   unfold cellsFrom
   rcases List.mem_cons.mp h with e | h
   . cases e
     exact ⟨n,qm List.mem_cons_self⟩
   . split
     . exact tO h
     . exact tO h
theorem tP:∀ {names:List (Str×NameKind)} {h:Heap} {acc:List (Str×Addr)} {x y:Str} {c:Addr},(∀ p ∈ acc,p.2 < h.objs.size)->(∀ x y c,(x,c) ∈ acc->(y,c) ∈ acc->x=y)->
   (x,c) ∈ cellsFrom h.objs.size names acc->(y,c) ∈ cellsFrom h.objs.size names acc->x=y
 | [],_,_,_,_,_,_,hi,h1,h2=>hi _ _ _ h1 h2
 | (n,k)::r,h,acc,x,y,c,hl,hi,h1,h2=>by
   unfold cellsFrom at h1 h2
   split at h1
   . rename_i hk
     rw [if_pos hk] at h2
     rw [<- Heap.size_push h { cls:=.type "cell",data:=.cell none }] at h1 h2
     refine tP (h:=h.push _) (fun p hp=>?_) (fun x y c a b=>?_) h1 h2
     . rw [Heap.size_push]
       rcases List.mem_cons.mp hp with rfl | hp
       . exact Nat.lt_succ_self _
       . exact Nat.lt_succ_of_lt (hl p hp)
     . rcases List.mem_cons.mp a with e | a<;>rcases List.mem_cons.mp b with e' | b
       . cases e;cases e';rfl
       . cases e;exact absurd (hl _ b) (Nat.lt_irrefl _)
       . cases e';exact absurd (hl _ a) (Nat.lt_irrefl _)
       . exact hi _ _ _ a b
   . rename_i hk
     rw [if_neg hk] at h2
     exact tP hl hi h1 h2
theorem Bu {M:Model} {A:Around} {E:Value->Shared->Prop} {s:Shared} {scope:Scope} {globals:Addr} {closure:List (Str×Addr)} {qual:Str} {func:Option Addr} {code:Value} {around:Env} {builtins:Addr} {Q:Env->Shared->Prop}
   (h:Q (newEnv scope s.heap.objs.size globals (cellsFrom (s.heap.objs.size+1) scope.names closure) qual func code (some around) builtins)
     { s with heap:=pushCells (s.heap.push { cls:=.type "dict",data:=.dict #[] }) scope.names }) :
   wpAny M A (newFunctionEnv scope globals closure [] qual func code (some around) builtins) Q E s:=by
 simp only [newFunctionEnv,Option.isSome_some,if_true]
 refine wpAny_bind (wpAny_alloc ?_)
 refine wpAny_bind (wpAny_layCells _ (fun n k c=>rfl) scope.names closure _ _ ?_)
 rw [show ({ s with heap:=s.heap.push { cls:=.type "dict",data:=.dict #[] } }:Shared).heap.objs.size=s.heap.objs.size+1 from Heap.size_push ..]
 rw [List.forIn_nil]
 exact wpAny_bind (wpAny_pure (wpAny_pure h))
theorem oR {sc:Scope}:∀ {names:List (Str×NameKind)} {x:Str} {k:NameKind},
   (names.map fun (n,k)=>if (k==NameKind.free&&sc.kind==.function&&sc.names.lookup n==some .cell) then (n,NameKind.cell) else (n,k)).lookup x=some k->
   ∃ k',names.lookup x=some k'/\(k=k'\/(k'=.free/\k=.cell))
 | [],_,_,h=>by simp at h
 | (n,k₀)::r,x,k,h=>by
   have ih:=@oR sc r x k
   have h':List.lookup x ((if (k₀==NameKind.free&&sc.kind==.function&&sc.names.lookup n==some .cell)=true then (n,NameKind.cell) else (n,k₀))::(r.map _))=some k:=h
   cases hx:x==n with
   | true=>
     simp only [List.lookup_cons,hx]
     by_cases hc:(k₀==NameKind.free&&sc.kind==.function&&sc.names.lookup n==some .cell)=true
     . rw [if_pos hc] at h'
       simp only [List.lookup_cons,hx] at h'
       cases h'
       simp only [Bool.and_eq_true,beq_iff_eq] at hc
       exact ⟨k₀,rfl,.inr ⟨hc.1.1,rfl⟩⟩
     . rw [if_neg hc] at h'
       simp only [List.lookup_cons,hx] at h'
       cases h'
       exact ⟨_,rfl,.inl rfl⟩
   | false=>
     simp only [List.lookup_cons,hx]
     by_cases hc:(k₀==NameKind.free&&sc.kind==.function&&sc.names.lookup n==some .cell)=true
     . rw [if_pos hc] at h'
       simp only [List.lookup_cons,hx] at h'
       exact ih h'
     . rw [if_neg hc] at h'
       simp only [List.lookup_cons,hx] at h'
       exact ih h'
structure Bv (N:List Str) (sc scope:Scope) (own:List (Str×Nat)):Prop where
 kind:scope.kind=.function
 uniq:∀ y ∈ scope.names,scope.names.lookup y.1=some y.2
 ix:∀ p ∈ own,N[p.2]?=some p.1
 free:∀ y ∈ scope.names,y.2=.free->sc.names.lookup y.1=some .cell\/sc.names.lookup y.1=some .free
 own:∀ y ∈ scope.names,y.2=.local\/y.2=.cell->y.1 ∈ own.map (·.1)\/y.1 ∉ N
def wipe (σ:St):List Nat->St
 | []=>σ
 | v::vs=>(wipe σ vs).set v none
theorem oS (σ:St):∀ vs:List Nat,(wipe σ vs).length=σ.length
 | []=>rfl
 | v::vs=>by unfold wipe;rw [List.length_set,oS σ vs]
theorem tQ {σ:St} {i:Nat} {x:V}:∀ {vs:List Nat},(wipe σ vs)[i]?=some (some x)->σ[i]?=some (some x)/\i ∉ vs
 | [],h=>⟨h,by simp⟩
 | v::vs,h=>by
   unfold wipe at h
   by_cases hi:v=i
   . subst hi
     by_cases hv:v < (wipe σ vs).length
     . rw [List.getElem?_set_self hv] at h;cases h
     . rw [List.getElem?_eq_none (by simpa using hv)] at h;cases h
   . rw [List.getElem?_set_ne hi] at h
     obtain ⟨h1,h2⟩:=tQ h
     exact ⟨h1,by simp only [List.mem_cons,not_or];exact ⟨fun e=>hi e.symm,h2⟩⟩
abbrev Cx.zH (X:Cx) (s:Shared) (H:Hp) (scope:Scope) (cenv:Env) (fp:List Addr):Cx:={ X with t9:=s,MH:=H,env:=cenv,outer:=X.stack,ex:=fp,fn:=fun x=>scope.names.lookup x==some .cell,pn:=[],xe:=fun _ _=>False }
section
variable {X:Cx} {pins:List (Addr×Obj)} {σ:St} {H:Hp} {s:Shared}
theorem Bw {scope:Scope} {own:List (Str×Nat)} {fp:List Addr} (I:Inv X pins σ H s) (ok:Bv X.N X.env.scope scope own) (hN:X.N.Nodup) (hfp:∀ b ∈ fp,wm X pins H b/\b < s.heap.objs.size) :
   Inv (X.zH s H scope (compEnvC scope (cellsFrom (s.heap.objs.size+1) scope.names (cM X.env.cells scope.names [])) s.heap.objs.size X.env) fp) [] (wipe σ (own.map (·.2))) H { s with heap:=pushCells (s.heap.push { cls:=.type "dict",data:=.dict #[] }) scope.names }:=by
 have hfree:∀ y ∈ scope.names,y.2=.free->∃ c,X.env.cells.lookup y.1=some c:=fun y hy e=>by
   rcases ok.free y hy e with k | k
   . exact I.ok.has _ (.inl k)
   . exact I.ok.has _ (.inr k)
 generalize Bx:compEnvC scope (cellsFrom (s.heap.objs.size+1) scope.names (cM X.env.cells scope.names [])) s.heap.objs.size X.env=cenv
 have kp:∀ b o,s.heap.get? b=some o->(pushCells (s.heap.push { cls:=.type "dict",data:=.dict #[] }) scope.names).get? b=some o:=fun b o e=>pushCells_keeps _ _ _ _ (Heap.get?_push_of_some _ e)
 have hL:cenv.locals=s.heap.objs.size:=by rw [<- Bx];rfl
 have hcl:cenv.cells=cellsFrom (s.heap.objs.size+1) scope.names (cM X.env.cells scope.names []):=by rw [<- Bx];rfl
 have hsc:cenv.scope=RI scope X.env.scope:=by rw [<- Bx];rfl
 rw [<- Heap.size_push s.heap { cls:=.type "dict",data:=.dict #[] }] at hcl
 have cm:∀ {y c},(y,c) ∈ cM X.env.cells scope.names []->X.env.cells.lookup y=some c/\c < s.heap.objs.size:=fun {y c} hm=>by
   rcases lB hm with hm | ⟨h1,rfl⟩
   . cases hm
   . obtain ⟨c,hc⟩:=hfree _ h1 rfl
     rw [hc]
     obtain ⟨w,z⟩:=I.cell _ _ hc
     exact ⟨rfl,z.lt⟩
 have mem:∀ {y c},cenv.cells.lookup y=some c->(X.env.cells.lookup y=some c/\c < s.heap.objs.size)\/(s.heap.objs.size+1<=c/\Ie (pushCells (s.heap.push { cls:=.type "dict",data:=.dict #[] }) scope.names) c none):=fun {y c} e=>by
   rw [hcl] at e
   rcases mz (PySem.mem_of_lookup e) with hm | ⟨_,h2,h3⟩
   . exact .inl (cm hm)
   . rw [Heap.size_push] at h2;exact .inr ⟨h2,h3⟩
 have look:∀ {y},scope.names.lookup y=some .free->∃ c,cenv.cells.lookup y=some c/\X.env.cells.lookup y=some c:=fun {y} hl=>by
   have hy:(y,NameKind.free) ∈ scope.names:=PySem.mem_of_lookup hl
   obtain ⟨c',e'⟩:=mem_lookup (qm (names:=scope.names) (n:=(s.heap.push { cls:=.type "dict",data:=.dict #[] }).objs.size) (oQ (cells:=X.env.cells) (acc:=[]) hy))
   rw [<- hcl] at e'
   refine ⟨c',e',?_⟩
   rw [hcl] at e'
   rcases mz (PySem.mem_of_lookup e') with hm | ⟨h1,_,_⟩
   . exact (cm hm).1
   . have:=ok.uniq _ h1
     rw [hl] at this;cases this
 have Pj:(X.zH s H scope cenv fp).Ok:=by
   refine ⟨I.ok.mod,by show cenv.scope.kind=_;rw [hsc];exact ok.kind,by show cenv.globals=_;rw [<- Bx];exact I.ok.glob,by show cenv.builtins=_;rw [<- Bx];exact I.ok.blt,by show s.heap.objs.size<=cenv.locals;rw [hL];exact Nat.le_refl _,
     fun y z c e1 e2=>?_,fun y hy=>?_,fun y c z e=>?_,I.ok.hd,I.ok.frames,.inl rfl,fun b hb=>⟨?_,fun y c e z=>?_⟩,I.bs,Nat.le_trans I.ok.Fo I.sz,fun b o e hb=>?_,fun b hb z=>?_,I.stack,I.z6⟩
   . have e1:cenv.cells.lookup y=some c:=e1
     have e2:cenv.cells.lookup z=some c:=e2
     rw [hcl] at e1 e2
     refine tP (fun p hp=>?_) (fun y z c a b=>I.ok.inj y z c (cm a).1 (cm b).1) (PySem.mem_of_lookup e1) (PySem.mem_of_lookup e2)
     rw [Heap.size_push]
     exact Nat.lt_succ_of_lt (cm (y:=p.1) (c:=p.2) hp).2
   . show ∃ c,cenv.cells.lookup y=some c
     have key:∀ k,cenv.kindOf y=some k->(k=.cell\/k=.free)->∃ c,cenv.cells.lookup y=some c:=fun k hk hk'=>by
       unfold Env.kindOf at hk
       rw [hsc] at hk
       obtain ⟨k',e,r⟩:=oR hk
       have:k'=.cell\/k'=.free:=by
         rcases r with rfl | ⟨rfl,_⟩
         . exact hk'
         . exact .inr rfl
       rcases this with rfl | rfl
       . obtain ⟨c,hm⟩:=tO (n:=(s.heap.push { cls:=.type "dict",data:=.dict #[] }).objs.size) (acc:=cM X.env.cells scope.names []) (PySem.mem_of_lookup e)
         obtain ⟨c',e'⟩:=mem_lookup hm
         exact ⟨c',by rw [hcl];exact e'⟩
       . obtain ⟨c,h1,_⟩:=look e
         exact ⟨c,h1⟩
     rcases hy with hy | hy
     . exact key _ hy (.inl rfl)
     . exact key _ hy (.inr rfl)
   . have z:(scope.names.lookup y==some NameKind.cell)=true:=z
     have z:scope.names.lookup y=some .cell:=by simpa using z
     have e:cenv.cells.lookup y=some c:=e
     rw [hcl] at e
     rcases mz (PySem.mem_of_lookup e) with hm | ⟨_,h2,_⟩
     . rcases lB hm with hm | ⟨h1,_⟩
       . cases hm
       . have q:=ok.uniq _ h1
         rw [z] at q;cases q
     . rw [Heap.size_push] at h2
       exact Nat.le_of_succ_le h2
   . show b ≠ cenv.locals
     rw [hL];exact Nat.ne_of_lt (hfp b hb).2
   . have e:cenv.cells.lookup y=some c:=e
     rcases mem e with ⟨h1,_⟩ | ⟨h1,_⟩
     . exact (hfp b hb).1.2.2.2.2.1 y c h1 z
     . have h2:s.heap.objs.size+1<=b:=by rw [<- z];exact h1
       exact absurd (Nat.lt_of_lt_of_le (hfp b hb).2 (Nat.le_of_succ_le h2)) (Nat.lt_irrefl _)
   . rcases (hfp b hb).1.2.2.2.1 with z | z
     . exact I.ok.Bf b o e z
     . exact absurd (Nat.lt_of_lt_of_le (Heap.lt_size e) (Nat.le_trans I.ok.Fo z)) (Nat.lt_irrefl _)
   . rcases List.mem_cons.mp (I.De b z) with z | z
     . exact (hfp b hb).1.2.1 z
     . exact (hfp b hb).1.2.2.1 z
 refine ⟨Pj,rfl,I.bare,Un.kept kp,⟨fun _=>none,?_,fun i y av e1 e2 e3=>?_⟩,fun y c e=>?_,?_,fun y c e=>?_,fun p hp=>?_,I.hok.kept kp,by rw [oS];exact I.len⟩
 . show Heap.Ns _ cenv.locals _
   rw [hL]
   exact Heap.Ns.keeps (Heap.Ns.new ..) fun b o e=>pushCells_keeps _ _ _ _ e
 . obtain ⟨e2,hne⟩:=tQ e2
   have hfr:scope.names.lookup y=some .free/\(cenv.kindOf y=some .cell\/cenv.kindOf y=some .free):=by
     have key:∀ k,cenv.scope.names.lookup y=some k->k=.local\/k=.cell\/k=.free->scope.names.lookup y=some .free/\(cenv.kindOf y=some .cell\/cenv.kindOf y=some .free):=fun k hk hk'=>by
       have hk0:=hk
       rw [hsc] at hk
       obtain ⟨k',e,r⟩:=oR hk
       have no:¬ (k'=.local\/k'=.cell):=fun hh=>by
         rcases ok.own _ (PySem.mem_of_lookup e) hh with e' | e'
         . obtain ⟨p,hp,Va⟩:=List.mem_map.mp e'
           have e3:=ok.ix p hp
           have:p.1=y:=Va
           rw [this] at e3
           exact hne (List.mem_map.mpr ⟨p,hp,wc hN e3 e1⟩)
         . exact e' (List.mem_of_getElem? e1)
       rcases r with rfl | ⟨rfl,rfl⟩
       . rcases hk' with rfl | rfl | rfl
         . exact absurd (.inl rfl) no
         . exact absurd (.inr rfl) no
         . exact ⟨e,.inr hk0⟩
       . exact ⟨e,.inl hk0⟩
     have e3:MI cenv.scope y:=e3
     rcases e3 with e3 | e3 | e3
     . exact key _ e3 (.inl rfl)
     . exact key _ e3 (.inr (.inl rfl))
     . exact key _ e3 (.inr (.inr rfl))
   obtain ⟨m,hn,hl⟩:=I.loc
   have RJ:MI X.env.scope y:=(ok.free _ (PySem.mem_of_lookup hfr.1) rfl).elim (fun k=>.inr (.inl k)) (fun k=>.inr (.inr k))
   obtain ⟨w,r,q⟩:=hl i y av e1 e2 RJ
   refine ⟨w,r,.inr ⟨hfr.2,?_⟩⟩
   obtain ⟨c,h1,h2⟩:=look hfr.1
   rcases q with ⟨k,_⟩ | ⟨_,c',e',z⟩
   . have k:X.env.scope.names.lookup y=some .local:=k
     rcases ok.free _ (PySem.mem_of_lookup hfr.1) rfl with k' | k'<;>rw [show X.env.scope.names.lookup y=_ from k'] at k<;>cases k
   . rw [h2] at e';cases e'
     exact ⟨c,h1,z.keeps kp⟩
 . have e:cenv.cells.lookup y=some c:=e
   rcases mem e with ⟨h1,_⟩ | ⟨_,z⟩
   . obtain ⟨w,z⟩:=I.cell y c h1
     exact ⟨w,z.keeps kp⟩
   . exact ⟨_,z⟩
 . show H cenv.locals=none
   rw [hL];exact I.hok.fresh (Nat.le_refl _)
 . have e:cenv.cells.lookup y=some c:=e
   rcases mem e with ⟨h1,_⟩ | ⟨h1,_⟩
   . exact I.gG y c h1
   . exact I.hok.fresh (Nat.le_of_succ_le h1)
 . exact absurd (show p ∈ ([]:List (Addr×Obj))++[] from hp) (by simp)
theorem Ng {E:Value->Shared->Prop} {D:Addr} {xs:List V} {y:V} {v:Value} {Q:Value->Shared->Prop} (I:Inv X pins σ H s) (hD:H D=some (.lst xs)) (hz:xs.length < sizeLine) (r:RelV y v)
   (h:∀ s',Inv X pins σ (upd H D (.lst (xs++[y]))) s'->Q .none s'):wpAny (model X.prog X.w) X.A (call (.builtin "list.append") [.ref D,v]) Q E s:=by
 obtain ⟨hz',its,n,ri,e⟩:=I.hok D _ hD
 have hl:=ri.length
 refine append_at (hsz:=by rw [List.size_toArray];omega) e fun h' sb ho'=>?_
 refine h { s with heap:=h' } (I.write (t':=s.toks) (by rw [hD];trivial) (.inl rfl) (fun b u hb q=>(sb.2 b hb).trans q) ⟨_,ho'⟩ ⟨by rw [List.length_append];exact hz,its++[v],n+1,ri.append (.cons r .nil),?_⟩)
 rw [ho']
 simp
def Pk (X:Cx) (ifs:List Expr) (t:TT):Prop:=
 ∀ (pins:List (Addr×Obj)) (s:Shared) (σ:St) (H:Hp) (Q:Bool->Hp->Prop),Inv X pins σ H s->t σ H Q->
   wpAny (model X.prog X.w) X.A (forIn ifs true fun c r=>if r=true then do let ok <- isTrue c X.env (eval c X.env);pure (ForInStep.yield ok) else pure (ForInStep.yield r)) (TP X pins σ Q) X.xe s
def RK:TT:=fun _ H Q=>Q true H
theorem Ep:Pk X [] RK:=fun _ _ _ H _ I h=>wpAny_tests_nil ⟨H,I,h⟩
theorem vt {c:Expr} {t:TT} (h:PT X c t):Pk X [c] t:=fun pins s σ H Q I hw=>wpAny_tests_one (h pins s σ H Q I hw)
end
theorem F9 {α:Type} {t:Sem α} {Q Q':α->Shared->Prop} {M:Model} {A:Around} {E:Value->Shared->Prop} {s:Shared} (h:wpAny M A t Q (fun _ _=>False) s) (hQ:∀ a s,Q a s->Q' a s):wpAny M A t Q' E s:=wpAny_mono h hQ fun _ _ z=>False.elim z
theorem zI {prog:Program} {w:World} {A:Around} {R:Result->Shared->Prop} {s:Shared} {elt target iter:Expr} {ifs:List Expr} {scope:Scope} {pos:Pos} {it acc:Value} {env:Env} (I:Nat->Shared->Prop)
   (turn:∀ n s,I n s->wpAny (model prog w) A (pyNext it) (fun r s₁=>match r with
     | none=>R (.ok .next) s₁
     | some v=>wpAny (model prog w) A (letOwnedTupleGo target it v) (fun _ s₁'=>wpAny (model prog w) A (assign target env v) (fun _ s₂=>
         wpAny (model prog w) A (forIn ifs true fun c r=>if r=true then do let ok <- isTrue c env (eval c env);pure (ForInStep.yield ok) else pure (ForInStep.yield r)) (fun ok s₃=>
           if ok=true then wpAny (model prog w) A (eval elt env) (fun x s₄=>
             wpAny (model prog w) A (call (.builtin "list.append") [acc,x]) (fun _ s₅=>∃ m,m < n/\I m s₅) (notedBy (model prog w) A env fun e s'=>R (.error e) s') s₄) (notedBy (model prog w) A env fun e s'=>R (.error e) s') s₃
           else ∃ m,m < n/\I m s₃) (notedBy (model prog w) A env fun e s'=>R (.error e) s') s₂) (notedBy (model prog w) A env fun e s'=>R (.error e) s') s₁') (notedBy (model prog w) A env fun e s'=>R (.error e) s') s₁) (notedBy (model prog w) A env fun e s'=>R (.error e) s') s)
   (n:Nat) (h:I n s) :
   codeAny (model prog w) A (.compLoop (.ListComp elt [⟨target,iter,ifs,0⟩] scope pos) 0 it acc env) R s:=by
 refine codeAny_loop rfl I (fun n s hI=>?_) n h
 show wpAny _ A ((compTurn (.ListComp elt [⟨target,iter,ifs,0⟩] scope pos) 0 it acc env).onRaise (fun x=>do noteFrame x env;theTreesLotGoes x)) _ _ s
 refine wpAny_noted ?_
 rw [compTurn_list]
 refine wpAny_bind (wpAny_standAt (wpAny_bind (wpAny_mono (turn n s hI) (fun r s₁ h₁=>?_) fun _ _ h'=>h')))
 cases r with
 | none=>exact wpAny_pure h₁
 | some v=>
   refine wpAny_bind (wpAny_mono h₁ (fun _ s₁' h₁'=>?_) fun _ _ h'=>h')
   refine wpAny_bind (wpAny_mono h₁' (fun _ s₂ h₂=>wpAny_bind (wpAny_mono h₂ (fun ok s₃ h₃=>?_) fun _ _ h'=>h')) fun _ _ h'=>h')
   cases ok with
   | false=>exact wpAny_pure ⟨rfl,h₃⟩
   | true=>
     exact wpAny_bind (wpAny_bind (wpAny_mono h₃ (fun x s₄ h₄=>wpAny_bind (wpAny_mono h₄ (fun _ s₅ h₅=>wpAny_pure (wpAny_pure ⟨rfl,h₅⟩)) fun _ _ h'=>h')) fun _ _ h'=>h'))
section
variable {X:Cx}
def QJ (wi:TI) (g:TG) (tt:TT) (te:TE) (vs:List Nat):TE:=fun σ H Q=>wi σ H fun J H1=>∀ D,H1 D=none->∃ W:Nat->Nat->Hp->Prop,(∃ m,W 0 m (upd H1 D (.lst [])))/\∀ i m H,W i m H->
 (J.stop i H/\Q (.ref D) H)\/(J.go i H/\∃ Nx:Hp->Prop,(∀ H',Nx H'->∃ m',m' < m/\W (i+1) m' H')/\∀ x H',J.HE i H x H'->g x (wipe σ vs) H' fun σ2 H2=>wipe σ2 vs=wipe σ vs/\tt σ2 H2 fun b H3=>
   if b=true then te σ2 H3 fun y H4=>∃ acc,H4 D=some (.lst acc)/\acc.length < sizeLine/\Nx (upd H4 D (.lst (acc++[y]))) else Nx H3)
theorem Es {pins:List (Addr×Obj)} {s:Shared} {σ:St} {H:Hp} {Q:VK} {elt tg iter:Expr} {ifs:List Expr} {scope:Scope} {own:List (Str×Nat)} {pos pos':Pos} {wi:TI} {g:TG} {tt:TT} {te:TE} {use:Option (Value->Sem Unit)} {Qf:Value->Shared->Prop}
   (hc:X.calm=true) (hN:X.N.Nodup) (I:Inv X pins σ H s) (hi:PI X tg iter wi) (ok:Bv X.N X.env.scope scope own)
   (hg:∀ (s:Shared) (H:Hp) (C:Addr) (cl:List (Str×Addr)) (fp:List Addr),PG (X.zH s H scope (compEnvC scope cl C X.env) fp) tg g) (ht:∀ (s:Shared) (H:Hp) (C:Addr) (cl:List (Str×Addr)) (fp:List Addr),Pk (X.zH s H scope (compEnvC scope cl C X.env) fp) ifs tt)
   (he:∀ (s:Shared) (H:Hp) (C:Addr) (cl:List (Str×Addr)) (fp:List Addr),PE (X.zH s H scope (compEnvC scope cl C X.env) fp) elt te) (hs:∀ x,foldedSetIterable iter X.env x=pure x)
   (h:QJ wi g tt te (own.map (·.2)) σ H Q)
   (hRR:∀ D C s' m H',Inv X pins σ H' s'->Q (.ref D) H'->s'.heap.Ns C m->wm X pins H' C->compPost (model X.prog X.w) X.A X.xe use Qf (.ref D) C (.ok .next) s') :
   wpAny (model X.prog X.w) X.A (comprehension (.ListComp elt [⟨tg,iter,ifs,0⟩] scope pos) scope X.env pos' (newList []) false (eval iter X.env) use) Qf X.xe s:=by
 have hfree:∀ y ∈ scope.names,y.2=.free->∃ c,X.env.cells.lookup y.1=some c:=fun y hy e=>by
   rcases ok.free y hy e with k | k
   . exact I.ok.has _ (.inl k)
   . exact I.ok.has _ (.inr k)
 refine wpAny_comprehension_free (use:=use) rfl hs (D4 hfree) ok.kind (fun y hy e=>by rw [ok.uniq y hy,e])
   (cU (hi pins s σ H _ I h) fun xv s1 hx=>cU hx fun itv s2 h2=>?_)
 obtain ⟨it,fp,tn,J,H2,e,I2,T,st2,f2,q⟩:=h2
 subst e
 refine wpAny_newObj_type (Bu ?_) (by show 0<=sizeLine;decide)
 generalize hD:s2.heap.objs.size=D
 have O7:H2 D=none:=I2.hok.fresh (Nat.le_of_eq hD)
 obtain ⟨W,⟨m0,w0⟩,turn⟩:=q D O7
 generalize T4:({ s2 with heap:=s2.heap.push { cls:=.type "list",data:=.seq ([]:List Value).toArray } }:Shared)=s3
 have I3:Inv X pins σ (upd H2 D (.lst [])) s3:=by
   rw [<- T4]
   refine I2.laid (t':=s2.toks) (fun b o e=>Heap.get?_push_of_some _ e) (Nat.le_of_eq hD) ⟨Nat.zero_le _,[],0,.nil,?_⟩
   rw [<- hD]
   exact Heap.get?_push_size _ rfl
 have h3:s3.heap=s2.heap.push { cls:=.type "list",data:=.seq ([]:List Value).toArray }:=by rw [<- T4]
 have sz:∀ b ∈ fp,b < s2.heap.objs.size:=fun b hb=>by
   obtain ⟨o,e,_⟩:=T.obj _ _ st2 b hb
   exact Heap.lt_size e
 have f3:∀ b ∈ fp,wm X pins (upd H2 D (.lst [])) b/\b < s3.heap.objs.size:=fun b hb=>by
   have hlt:=sz b hb
   refine ⟨⟨?_,(f2 b hb).2⟩,by rw [h3,Heap.size_push];exact Nat.lt_succ_of_lt hlt⟩
   rw [ak (by rw [<- hD];exact Nat.ne_of_lt hlt)]
   exact (f2 b hb).1
 have st3:tn 0 s3.heap:=T.keep _ _ _ st2 fun b _ o e=>by rw [h3];exact Heap.get?_push_of_some _ e
 have I4:=Bw I3 ok hN f3
 have pg:=hg s3 (upd H2 D (.lst [])) s3.heap.objs.size (cellsFrom (s3.heap.objs.size+1) scope.names (cM X.env.cells scope.names [])) fp
 have pt:=ht s3 (upd H2 D (.lst [])) s3.heap.objs.size (cellsFrom (s3.heap.objs.size+1) scope.names (cM X.env.cells scope.names [])) fp
 have pe:=he s3 (upd H2 D (.lst [])) s3.heap.objs.size (cellsFrom (s3.heap.objs.size+1) scope.names (cM X.env.cells scope.names [])) fp
 show codeAny _ _ (.compStart (.ListComp elt [⟨tg,iter,ifs,0⟩] scope pos) 0 (.ref it) (.ref D) (compEnvC scope (cellsFrom (s3.heap.objs.size+1) scope.names (cM X.env.cells scope.names [])) s3.heap.objs.size X.env)) (compPost (model X.prog X.w) X.A X.xe use Qf (.ref D) s3.heap.objs.size) { s3 with heap:=pushCells (s3.heap.push { cls:=.type "dict",data:=.dict #[] }) scope.names }
 have T5:∀ b ∈ fp,(upd H2 D (.lst [])) b=none:=fun b hb=>(f3 b hb).1.1
 generalize hce:compEnvC scope (cellsFrom (s3.heap.objs.size+1) scope.names (cM X.env.cells scope.names [])) s3.heap.objs.size X.env=ce at I4 pg pt pe ⊢
 have cL:ce.locals=s3.heap.objs.size:=by subst hce;rfl
 generalize WL:upd H2 D (.lst [])=H3 at I3 I4 pg pt pe w0 T5 f3
 generalize Vb:({ s3 with heap:=pushCells (s3.heap.push { cls:=.type "dict",data:=.dict #[] }) scope.names }:Shared)=s4 at I4 ⊢
 have T6:tn 0 s4.heap:=T.keep _ _ _ st3 fun b _ o e=>by rw [<- Vb];exact pushCells_keeps _ _ _ _ (Heap.get?_push_of_some _ e)
 have Dn:∀ {σ':St} {H':Hp} {s':Shared},Inv (X.zH s3 H3 scope ce fp) [] σ' H' s'->(∀ b ∈ fp,H' b=none)->∀ b ∈ fp,wm (X.zH s3 H3 scope ce fp) [] H' b:=fun {σ' H' s'} I' hn b hb=>
   ⟨hn b hb,(I'.ok.MJ b hb).1,I'.ok.Bg b hb,.inl hb,fun x c e=>(I'.ok.MJ b hb).2 x c e,fun p hp=>absurd (show p ∈ ([]:List (Addr×Obj))++[] from hp) (by simp)⟩
 have loop:codeAny (model X.prog X.w) X.A (.compLoop (.ListComp elt [⟨tg,iter,ifs,0⟩] scope pos) 0 (.ref it) (.ref D) ce) (compPost (model X.prog X.w) X.A X.xe use Qf (.ref D) s3.heap.objs.size) s4:=by
   refine zI (fun n s'=>∃ i H',Inv (X.zH s3 H3 scope ce fp) [] (wipe σ (own.map (·.2))) H' s'/\tn i s'.heap/\(∀ b ∈ fp,H' b=none)/\W i n H') ?_ m0 ⟨0,H3,I4,T6,T5,w0⟩
   rintro n s5 ⟨i,H5,I5,O5,n5,w5⟩
   rcases turn i n H5 w5 with ⟨stop,qq⟩ | ⟨go,Nx,Vc,step⟩
   . have td:=T.done (X.zH s3 H3 scope ce fp) rfl rfl rfl hc i [] s5 _ H5 (fun _ _=>False) I5 (Dn I5 n5) O5 stop
     refine F9 td fun r s6 ⟨hr,I6⟩=>?_
     subst hr
     have I7:Inv X pins σ H5 s6:=I3.call' (ch:=fp) I6.os I6.base I6.hok I6.bare fun b hb=>⟨(f3 b hb).1.2.2.2.1,(f3 b hb).1.2.1,(f3 b hb).1.2.2.2.2.1,(f3 b hb).1.2.2.2.2.2⟩
     have nC:H5 s3.heap.objs.size=none:=by
       have z:H5 ce.locals=none:=I6.free
       rw [cL] at z
       exact z
     obtain ⟨m,hn,_⟩:=I6.loc
     have hn:s6.heap.Ns ce.locals m:=hn
     rw [cL] at hn
     exact hRR D s3.heap.objs.size s6 m H5 I7 qq hn (I3.Fq (Nat.le_refl _) nC)
   . have ti:=T.item (X.zH s3 H3 scope ce fp) rfl rfl rfl hc i [] s5 _ H5 (fun _ _=>False) I5 (Dn I5 n5) O5 go
     refine F9 ti fun r s6 ⟨u,hr,h6⟩=>?_
     subst hr
     refine F9 h6 fun _ s7 ⟨x,H7,I7,r7,y7,RM,n7⟩=>?_
     have Vd:=I7.pinned (Dn I7 n7) (T.obj _ _ RM)
     refine F9 (pg _ s7 _ H7 x u _ Vd r7 (step x H7 y7)) fun _ s8 ⟨σ8,H8,I8,T7,q8⟩=>?_
     refine F9 (pt _ s8 σ8 H8 _ I8 q8) fun b s9 ⟨H9,I9,q9⟩=>?_
     have fin:∀ {s':Shared} {H':Hp},Inv (X.zH s3 H3 scope ce fp) ([]++wo fp s7.heap) σ8 H' s'->Nx H'->∃ m,m < n/\∃ i H',Inv (X.zH s3 H3 scope ce fp) [] (wipe σ (own.map (·.2))) H' s'/\tn i s'.heap/\(∀ b ∈ fp,H' b=none)/\W i m H':=fun {s' H'} I' nx=>by
       obtain ⟨m',hm,w'⟩:=Vc H' nx
       have pin':∀ b ∈ fp,∀ o,s7.heap.get? b=some o->s'.heap.get? b=some o/\H' b=none:=fun b hb o e=>
         let z:=I'.pin (b,o) (List.mem_append_right _ (List.mem_append_right _ (rf hb e)))
         ⟨z.1,z.2.1⟩
       have hl:(wipe σ (own.map (·.2))).length=σ8.length:=by rw [<- T7,oS]
       refine ⟨m',hm,i+1,H',(I'.rK (pins:=[])).weak hl (fun j v e=>?_),T.keep _ _ _ RM fun b hb o e=>(pin' b hb o e).1,fun b hb=>?_,w'⟩
       . rw [<- T7] at e
         exact (tQ e).1
       . obtain ⟨o,e,_⟩:=T.obj _ _ RM b hb
         exact (pin' b hb o e).2
     cases b with
     | false=>
       simp only [Bool.false_eq_true,if_false] at q9 ⊢
       exact fin I9 q9
     | true=>
       simp only [if_true] at q9 ⊢
       refine F9 (pe _ s9 σ8 H9 _ I9 q9) fun z WM ⟨yv,WN,Ve,Vf,acc,RN,RO,nx⟩=>?_
       exact Ng (X:=X.zH s3 H3 scope ce fp) Ve RN RO Vf fun WO Vg=>fin Vg nx
 exact codeAny_compStart_list loop (T.self X.A 0 _ _ _ T6 loop)
theorem Ig {elt tg iter:Expr} {ifs:List Expr} {scope:Scope} {own:List (Str×Nat)} {pos:Pos} {wi:TI} {g:TG} {tt:TT} {te:TE} (hc:X.calm=true) (hN:X.N.Nodup) (hi:PI X tg iter wi) (ok:Bv X.N X.env.scope scope own)
   (hg:∀ (s:Shared) (H:Hp) (C:Addr) (cl:List (Str×Addr)) (fp:List Addr),PG (X.zH s H scope (compEnvC scope cl C X.env) fp) tg g) (ht:∀ (s:Shared) (H:Hp) (C:Addr) (cl:List (Str×Addr)) (fp:List Addr),Pk (X.zH s H scope (compEnvC scope cl C X.env) fp) ifs tt)
   (he:∀ (s:Shared) (H:Hp) (C:Addr) (cl:List (Str×Addr)) (fp:List Addr),PE (X.zH s H scope (compEnvC scope cl C X.env) fp) elt te) (hs:∀ x,foldedSetIterable iter X.env x=pure x:=by intro _;rfl) :
   PE X (.ListComp elt [⟨tg,iter,ifs,0⟩] scope pos) (QJ wi g tt te (own.map (·.2))):=by
 intro pins s σ H Q I h
 rw [eval_ListComp]
 refine Es hc hN I hi ok hg ht he hs h fun D C s' m H' I' q hn f=>⟨m,hn,fun h'' sb=>?_⟩
 obtain ⟨f0,f1,f2,f3,f4,f5⟩:=f
 exact ⟨.ref D,H',I'.turned (t':=s'.toks) (fun b o hb e=>(sb.2 b hb).trans e) f0 f1 f3 f4 f5,rfl,q⟩
theorem wG {i:Nat} {y:Str} {py:Pos} {elt tg iter:Expr} {ifs:List Expr} {scope:Scope} {own:List (Str×Nat)} {pos spos:Pos} {wi:TI} {g:TG} {tt:TT} {te:TE} (hc:X.calm=true) (hN:X.N.Nodup) (hy:X.N[i]?=some y) (hyl:X.env.scope.names.lookup y=some .local)
   (hsw:swapsWith (.ListComp elt [⟨tg,iter,ifs,0⟩] scope pos) (some (.Name y py)) spos.line X.env=pure true) (hi:PI X tg iter wi) (ok:Bv X.N X.env.scope scope own)
   (hg:∀ (s:Shared) (H:Hp) (C:Addr) (cl:List (Str×Addr)) (fp:List Addr),PG (X.zH s H scope (compEnvC scope cl C X.env) fp) tg g) (ht:∀ (s:Shared) (H:Hp) (C:Addr) (cl:List (Str×Addr)) (fp:List Addr),Pk (X.zH s H scope (compEnvC scope cl C X.env) fp) ifs tt)
   (he:∀ (s:Shared) (H:Hp) (C:Addr) (cl:List (Str×Addr)) (fp:List Addr),PE (X.zH s H scope (compEnvC scope cl C X.env) fp) elt te) (hs:∀ x,foldedSetIterable iter X.env x=pure x:=by intro _;rfl) :
   PS X (.Assign [.Name y py] (.ListComp elt [⟨tg,iter,ifs,0⟩] scope pos) spos) (MQ (QJ wi g tt te (own.map (·.2))) (Bk i)):=by
 intro pins s σ H D I h
 rw [exec_Assign_Name_used _ _ _ _ hsw]
 refine wpAny_bind (wpAny_standAt (wpAny_bind ?_))
 show wpAny _ X.A (do let _ <- comprehension (.ListComp elt [⟨tg,iter,ifs,0⟩] scope pos) scope X.env (firstIterPos [⟨tg,iter,ifs,0⟩] pos) (newList []) false (eval iter X.env) (some (assign (.Name y py) X.env))) _ _ s
 have h:QJ wi g tt te (own.map (·.2)) σ H (fun x H1=>Bk i x σ H1 D.nx):=h
 refine wpAny_bind (cU (Es (Qf:=fun _ s'=>SP X pins D .next s') hc hN I hi ok hg ht he hs h fun L C s' m H' I' q hn f=>?_) fun _ s' hq=>wpAny_pure (wpAny_pure hq))
 show wpAny _ _ (assign (.Name y py) X.env (.ref L)) _ _ _
 refine wpAny_assign_Name (tF (v:=V.ref L) I' hN hy (.inl hyl) rfl (fun s2 I2 ⟨a,sb,ha⟩=>?_) (.inr hyl))
 obtain ⟨f0,f1,f2,f3,f4,f5⟩:=f
 have haC:C ≠ a:=by
   rcases ha with z | z
   . rw [z];exact f1
   . exact fun e=>f4 y a z e.symm
 refine ⟨m,hn.sameBut sb haC,fun h3 Vh=>?_⟩
 exact ⟨_,H',I2.turned (t':=s2.toks) (fun b o hb e=>(Vh.2 b hb).trans e) f0 f1 f3 f4 f5,q⟩
end
theorem By {lo:Int} {n:Nat} {g:TG} {tt:TT} {te:TE} {vs:List Nat} {σ:St} {H1:Hp} {D:Addr} {Qd:Hp->Prop} (Pv:Nat->Hp->Prop) (h0:Pv 0 (upd H1 D (.lst [])))
   (hs:∀ i H,i < n->Pv i H->g (.int (lo+i)) (wipe σ vs) H fun σ2 H2=>wipe σ2 vs=wipe σ vs/\tt σ2 H2 fun b H3=>
     if b=true then te σ2 H3 fun y H4=>∃ acc,H4 D=some (.lst acc)/\acc.length < sizeLine/\Pv (i+1) (upd H4 D (.lst (acc++[y]))) else Pv (i+1) H3) (hd:∀ H,Pv n H->Qd H) :
   ∃ W:Nat->Nat->Hp->Prop,(∃ m,W 0 m (upd H1 D (.lst [])))/\∀ i m H,W i m H->
     ((Ko lo n).stop i H/\Qd H)\/((Ko lo n).go i H/\∃ Nx:Hp->Prop,(∀ H',Nx H'->∃ m',m' < m/\W (i+1) m' H')/\∀ x H',(Ko lo n).HE i H x H'->g x (wipe σ vs) H' fun σ2 H2=>wipe σ2 vs=wipe σ vs/\tt σ2 H2 fun b H3=>
       if b=true then te σ2 H3 fun y H4=>∃ acc,H4 D=some (.lst acc)/\acc.length < sizeLine/\Nx (upd H4 D (.lst (acc++[y]))) else Nx H3):=by
 refine ⟨fun i m H=>m=n - i/\i<=n/\Pv i H,⟨n,by simp,Nat.zero_le _,h0⟩,?_⟩
 rintro i m H ⟨rfl,hi,p⟩
 by_cases hlt:i < n
 . refine .inr ⟨hlt,Pv (i+1),fun H' p'=>⟨n - (i+1),by omega,rfl,hlt,p'⟩,fun x H' y=>?_⟩
   obtain ⟨e,y⟩:=y
   subst e y
   exact hs i _ hlt p
 . have e:i=n:=by omega
   subst e
   exact .inl ⟨Nat.le_refl _,hd H p⟩
theorem vv {K:PySem.W.Frag} {a:Addr} {xs:List V} {g:TG} {tt:TT} {te:TE} {vs:List Nat} {σ:St} {H1:Hp} {D:Addr} {Qd:Hp->Prop} (Pv:Nat->Hp->Prop) (h0:Pv 0 (upd H1 D (.lst []))) (hl:∀ i H,i<=xs.length->Pv i H->bM K H a xs)
   (hs:∀ i x H,xs[i]?=some x->Pv i H->g x (wipe σ vs) H fun σ2 H2=>wipe σ2 vs=wipe σ vs/\tt σ2 H2 fun b H3=>
     if b=true then te σ2 H3 fun y H4=>∃ acc,H4 D=some (.lst acc)/\acc.length < sizeLine/\Pv (i+1) (upd H4 D (.lst (acc++[y]))) else Pv (i+1) H3) (hd:∀ H,Pv xs.length H->Qd H) :
   ∃ W:Nat->Nat->Hp->Prop,(∃ m,W 0 m (upd H1 D (.lst [])))/\∀ i m H,W i m H->
     ((Mj K a).stop i H/\Qd H)\/((Mj K a).go i H/\∃ Nx:Hp->Prop,(∀ H',Nx H'->∃ m',m' < m/\W (i+1) m' H')/\∀ x H',(Mj K a).HE i H x H'->g x (wipe σ vs) H' fun σ2 H2=>wipe σ2 vs=wipe σ vs/\tt σ2 H2 fun b H3=>
       if b=true then te σ2 H3 fun y H4=>∃ acc,H4 D=some (.lst acc)/\acc.length < sizeLine/\Nx (upd H4 D (.lst (acc++[y]))) else Nx H3):=by
 refine ⟨fun i m H=>m=xs.length - i/\i<=xs.length/\Pv i H,⟨xs.length,by simp,Nat.zero_le _,h0⟩,?_⟩
 rintro i m H ⟨rfl,hi,p⟩
 have q:=hl i H hi p
 by_cases hlt:i < xs.length
 . refine .inr ⟨⟨xs,xs[i],q,by simp [hlt]⟩,Pv (i+1),fun H' p'=>⟨xs.length - (i+1),by omega,rfl,hlt,p'⟩,fun x H' y=>?_⟩
   obtain ⟨e,y⟩:=y
   subst e
   exact hs i x _ (y xs q) p
 . have e:i=xs.length:=by omega
   subst e
   exact .inl ⟨⟨xs,q,Nat.le_refl _⟩,hd H p⟩
def Pn (N:List Str) (sc scope:Scope) (own:List (Str×Nat)):Bool:=
 (match scope.kind with | .function=>true | _=>false)&&(scope.names.all fun y=>decide (scope.names.lookup y.1=some y.2))&&(own.all fun p=>decide (N[p.2]?=some p.1)) &&
   (scope.names.all fun y=>match y.2 with
     | .free=>(match sc.names.lookup y.1 with | some .cell=>true | some .free=>true | _=>false)
     | .local=>decide (y.1 ∈ own.map (·.1))||decide (y.1 ∉ N)
     | .cell=>decide (y.1 ∈ own.map (·.1))||decide (y.1 ∉ N)
     | _=>true)
theorem m5 {N:List Str} {sc scope:Scope} {own:List (Str×Nat)} (h:Pn N sc scope own=true):Bv N sc scope own:=by
 unfold Pn at h
 simp only [Bool.and_eq_true,List.all_eq_true,decide_eq_true_eq] at h
 obtain ⟨⟨⟨h1,h2⟩,h3⟩,h4⟩:=h
 refine ⟨?_,h2,h3,fun y hy e=>?_,fun y hy e=>?_⟩
 . split at h1
   . assumption
   . cases h1
 . have q:=h4 y hy
   simp only [e] at q
   split at q<;>first | exact .inl (by assumption) | exact .inr (by assumption) | cases q
 . have q:=h4 y hy
   rcases e with e | e<;>(simp only [e,Bool.or_eq_true,decide_eq_true_eq] at q;exact q)
end L2
namespace L2
open PySem PySem.Spec PyProof.Rows
section
variable {prog:Program} {w:World} {A:Around} {R:Result->Shared->Prop} {s:Shared} {elt t0 i0 t1 i1:Expr} {Vi Vj:List Expr} {scope:Scope} {pos:Pos} {it acc:Value} {env:Env}
end
section
variable {X:Cx}
end
end L2
namespace L2
open PySem PySem.Spec PyProof.Rows
section
variable {κ:Type} [DecidableEq κ]
def j8 (kvs:List (κ×V)) (k:κ):Option V:=(kvs.find? fun kv=>decide (kv.1=k)).map (·.2)
def putK (kvs:List (κ×V)) (k:κ) (v:V):List (κ×V):=
 if (kvs.any fun kv=>decide (kv.1=k))=true then kvs.map (fun kv=>if kv.1=k then (kv.1,v) else kv) else kvs++[(k,v)]
theorem gc {p:κ×V} {r:List (κ×V)} {k:κ} (e:p.1=k):j8 (p::r) k=some p.2:=by simp [j8,List.find?_cons,e]
theorem gH {p:κ×V} {r:List (κ×V)} {k:κ} (e:¬ p.1=k):j8 (p::r) k=j8 r k:=by simp [j8,List.find?_cons,e]
theorem m6 (k:κ):∀ kvs:List (κ×V),(kvs.any fun kv=>decide (kv.1=k))=(j8 kvs k).isSome
 | []=>rfl
 | p::r=>by
   rw [List.any_cons]
   by_cases e:p.1=k
   . simp only [gc e,decide_eq_true e,Bool.true_or,Option.isSome_some]
   . rw [gH e,decide_eq_false e,Bool.false_or];exact m6 k r
theorem B6 (k j:κ) (y:V):∀ kvs:List (κ×V),j8 (kvs.map fun kv=>if kv.1=k then (kv.1,y) else kv) j=(j8 kvs j).map fun x=>if j=k then y else x
 | []=>rfl
 | p::r=>by
   have ih:=B6 k j y r
   rw [List.map_cons]
   by_cases h:p.1=k
   . rw [if_pos h]
     by_cases e:p.1=j
     . rw [gc (p:=(p.1,y)) e,gc e,Option.map_some,if_pos (e.symm.trans h)]
     . rw [gH (p:=(p.1,y)) e,gH e,ih]
   . rw [if_neg h]
     by_cases e:p.1=j
     . rw [gc (p:=p) e,gc e,Option.map_some,if_neg (fun z=>h (e.trans z))]
     . rw [gH (p:=p) e,gH e,ih]
theorem yS (k j:κ) (y:V):∀ kvs:List (κ×V),j8 kvs k=none->j8 (kvs++[(k,y)]) j=if j=k then some y else j8 kvs j
 | [],_=>by
   by_cases e:k=j
   . rw [if_pos e.symm];exact gc (p:=(k,y)) e
   . rw [if_neg (fun z=>e z.symm)];exact gH (p:=(k,y)) e
 | p::r,hn=>by
   rw [List.cons_append]
   have hk:¬ p.1=k:=fun z=>by rw [gc z] at hn;cases hn
   rw [gH hk] at hn
   have ih:=yS k j y r hn
   by_cases e:p.1=j
   . rw [gc e,gc e,if_neg (fun z=>hk (e.trans z))]
   . rw [gH e,gH e,ih]
theorem rP (kvs:List (κ×V)) (k j:κ) (y:V):j8 (putK kvs k y) j=if j=k then some y else j8 kvs j:=by
 unfold putK
 by_cases a:(kvs.any fun kv=>decide (kv.1=k))=true
 . rw [if_pos a,B6]
   rw [m6] at a
   by_cases e:j=k
   . obtain ⟨x,hx⟩:=Option.isSome_iff_exists.mp a
     rw [if_pos e,e,hx,Option.map_some,if_pos rfl]
   . rw [if_neg e]
     cases j8 kvs j with
     | none=>rfl
     | some x=>rw [Option.map_some,if_neg e]
 . rw [if_neg a]
   refine yS k j y kvs ?_
   rw [m6] at a
   cases q:j8 kvs k with
   | none=>rfl
   | some x=>rw [q] at a;exact (a rfl).elim
theorem iL (kvs:List (κ×V)) (k:κ) (v:V):(putK kvs k v).length<=kvs.length+1:=by
 unfold putK
 split
 . rw [List.length_map];omega
 . rw [List.length_append,List.length_cons,List.length_nil];omega
theorem mq.tR {o:Option V} {u:Option Value} (r:mq o u):o.isSome=u.isSome:=by
 cases o with
 | none=>cases u with
   | none=>rfl
   | some _=>exact (show False from r).elim
 | some _=>cases u with
   | none=>exact (show False from r).elim
   | some _=>rfl
theorem KV.val {kvs:List (κ×V)} {vs:List (κ×Value)} (r:KV kvs vs) (k:κ):mq (j8 kvs k) (valueAt vs k):=by
 unfold KV at r
 induction r with
 | nil=>exact True.intro
 | @cons p q ps qs h t ih=>
   obtain ⟨h1,h2⟩:=h
   by_cases e:p.1=k
   . have e':q.1=k:=h1.symm.trans e
     have b:valueAt (q::qs) k=some q.2:=by simp [valueAt,List.find?_cons,e']
     rw [gc e,b];exact h2
   . have e':¬ q.1=k:=fun z=>e (h1.trans z)
     have b:valueAt (q::qs) k=valueAt qs k:=by simp [valueAt,List.find?_cons,e']
     rw [gH e,b];exact ih
theorem KV.any {kvs:List (κ×V)} {vs:List (κ×Value)} (r:KV kvs vs) (k:κ):(kvs.any fun kv=>decide (kv.1=k))=vs.any fun kv=>decide (kv.1=k):=by
 unfold KV at r
 induction r with
 | nil=>rfl
 | cons h t ih=>rw [List.any_cons,List.any_cons,ih,h.1]
theorem KV.repl {kvs:List (κ×V)} {vs:List (κ×Value)} (r:KV kvs vs) (k:κ) {y:V} {u:Value} (ry:RelV y u) :
   KV (kvs.map fun kv=>if kv.1=k then (kv.1,y) else kv) (vs.map fun kv=>if kv.1=k then (kv.1,u) else kv):=by
 unfold KV at r ⊢
 induction r with
 | nil=>exact .nil
 | @cons p q ps qs h t ih=>
   rw [List.map_cons,List.map_cons]
   refine .cons ?_ ih
   obtain ⟨h1,h2⟩:=h
   by_cases e:p.1=k
   . rw [if_pos e,if_pos (h1.symm.trans e)];exact ⟨h1,ry⟩
   . rw [if_neg e,if_neg (fun z=>e (h1.trans z))];exact ⟨h1,h2⟩
theorem KV.put {kvs:List (κ×V)} {vs:List (κ×Value)} (r:KV kvs vs) (k:κ) {y:V} {u:Value} (ry:RelV y u):KV (putK kvs k y) (stored vs k u):=by
 unfold putK stored
 rw [r.any k]
 by_cases e:(vs.any fun kv=>decide (kv.1=k))=true
 . rw [if_pos e,if_pos e];exact r.repl k ry
 . rw [if_neg e,if_neg e];exact Paired.snoc r ⟨rfl,ry⟩
theorem KV.length {kvs:List (κ×V)} {vs:List (κ×Value)} (r:KV kvs vs):kvs.length=vs.length:=Paired.length r
end
theorem Et {P:Program} {w:World} {k:Key} {u:Value} (r:RelV (kV k) u):(f7 P w).is k u=true:=by
 cases k with
 | inl i=>obtain ⟨t,e⟩:=(show ∃ t,u=Value.int i t from r);subst e;exact Bd P w i t
 | inr x=>obtain ⟨t,e⟩:=(show ∃ t,u=Value.str x t from r);subst e;exact Be P w x t
theorem yT {P:Program} {w:World}:∀ {ks:List Key} {us:List Value},Vals (ks.map kV) us->ItemsAre (f7 P w) ks us
 | [],_,r=>by rw [List.map_nil] at r;cases r;exact .nil
 | k::ks,_,r=>by
   rw [List.map_cons] at r
   cases r with
   | cons h t=>exact .cons (Et h) (yT t)
abbrev KT (H:Hp):List (List Key×V)->List (List Key×Addr×Value)->Prop:=Paired fun p q=>p.1=q.1/\H q.2.1=some (.tup (p.1.map kV))/\RelV p.2 q.2.2
theorem KT.val {H:Hp} {kvs:List (List Key×V)} {xs:List (List Key×Addr×Value)} (r:KT H kvs xs) (k:List Key):mq (j8 kvs k) ((atKey xs k).map (·.2)):=by
 induction r with
 | nil=>exact True.intro
 | @cons p q ps qs h t ih=>
   obtain ⟨h1,_,h2⟩:=h
   by_cases e:p.1=k
   . have e':q.1=k:=h1.symm.trans e
     have b:atKey (q::qs) k=some q.2:=by simp [atKey,List.find?_cons,e']
     rw [gc e,b];exact h2
   . have e':¬ q.1=k:=fun z=>e (h1.trans z)
     have b:atKey (q::qs) k=atKey qs k:=by simp [atKey,List.find?_cons,e']
     rw [gH e,b];exact ih
theorem KT.repl {H:Hp} {kvs:List (List Key×V)} {xs:List (List Key×Addr×Value)} (r:KT H kvs xs) (k:List Key) {y:V} {u:Value} (ry:RelV y u) :
   KT H (kvs.map fun kv=>if kv.1=k then (kv.1,y) else kv) (xs.map (putAt k u)):=by
 induction r with
 | nil=>exact .nil
 | @cons p q ps qs h t ih=>
   rw [List.map_cons,List.map_cons]
   refine .cons ?_ ih
   obtain ⟨h1,h2,h3⟩:=h
   unfold putAt
   by_cases e:p.1=k
   . rw [if_pos e,if_pos (h1.symm.trans e)];exact ⟨h1,h2,ry⟩
   . rw [if_neg e,if_neg (fun z=>e (h1.trans z))];exact ⟨h1,h2,h3⟩
theorem KT.put {H:Hp} {kvs:List (List Key×V)} {xs:List (List Key×Addr×Value)} (r:KT H kvs xs) (k:List Key) {b:Addr} {y:V} {u:Value} (hb:H b=some (.tup (k.map kV))) (ry:RelV y u) :
   KT H (putK kvs k y) (storedH xs k b u):=by
 have e:(kvs.any fun kv=>decide (kv.1=k))=(atKey xs k).isSome:=by
   rw [m6,(r.val k).tR,Option.isSome_map]
 unfold putK storedH
 rw [e]
 by_cases q:(atKey xs k).isSome=true
 . rw [if_pos q,if_pos q];exact r.repl k ry
 . rw [if_neg q,if_neg q];exact Paired.snoc r ⟨rfl,hb,ry⟩
theorem KT.keeps {H H':Hp} {kvs:List (List Key×V)} {xs:List (List Key×Addr×Value)} (r:KT H kvs xs) (ht:∀ b ys,H b=some (.tup ys)->H' b=some (.tup ys)):KT H' kvs xs:=
 Paired.MF r fun _ _ z=>⟨z.1,ht _ _ z.2.1,z.2.2⟩
section
variable {P:Program} {w:World} {H:Hp} {h:Heap} {a:Addr}
theorem Mq {u:HO} (ok:nI P w H h) (e:Rd H a u):cj P w H h a u:=e.ok ok
theorem Eu {kvs:List (Key×V)} (ok:nI P w H h) (e:Rd H a (.dK kvs)):kvs.length<=sizeLine/\(a==sysModules)=false/\∃ vs,KV kvs vs/\h.DictOf (f7 P w) a vs:=
 show cj P w H h a (.dK kvs) from Mq ok e
theorem Po {kvs:List (Key×V)} (ok:nI P w H h) (e:H a=some (.dK kvs)):kvs.length<=sizeLine/\(a==sysModules)=false/\∃ vs,KV kvs vs/\h.DictOf (f7 P w) a vs:=Eu ok (.inl e)
theorem wH {ks:List Key} (ok:nI P w H h) (e:H a=some (.tup (ks.map kV))):(tupleKind (f7 P w)).is h ks a:=by
 obtain ⟨_,its,r,o,h1,h2,n,h3⟩:=(show cj P w H h a (.tup (ks.map kV)) from ok a _ e)
 exact ⟨o,its.toArray,n,h1,h2,h3,by simpa using yT r⟩
theorem Ew {kvs:List (List Key×V)} (ok:nI P w H h) (e:Rd H a (.dT kvs)):kvs.length<=sizeLine/\(a==sysModules)=false /\
   ∃ xs,KT H kvs xs/\h.DictOfH (tupleKind (f7 P w)) a xs:=by
 obtain ⟨z,y,xs,r,o,es,ep,h1,h2,h3,h4,h5⟩:=(show cj P w H h a (.dT kvs) from Mq ok e)
 refine ⟨z,y,xs,r,o,es,ep,h1,h2,h3,h4,fun x hx=>?_,h5⟩
 have all:∀ {l:List (List Key×V)} {m:List (List Key×Addr×Value)},KT H l m->∀ x ∈ m,(tupleKind (f7 P w)).is h x.1 x.2.1:=by
   intro l m q
   induction q with
   | nil=>intro x hx;exact nomatch hx
   | @cons p q ps qs hq t ih=>
     intro x hx
     rcases List.mem_cons.mp hx with e | hx
     . subst e
       exact wH ok (by rw [<- hq.1];exact hq.2.1)
     . exact ih x hx
 exact all r x hx
theorem Mr {kvs:List (List Key×V)} (ok:nI P w H h) (e:H a=some (.dT kvs)):kvs.length<=sizeLine/\(a==sysModules)=false /\
   ∃ xs,KT H kvs xs/\h.DictOfH (tupleKind (f7 P w)) a xs:=Ew ok (.inl e)
end
def zJ (H:Hp) (a:Addr) (y:V) (r:Option V):Prop:=
 (∃ kvs k,Rd H a (.dK kvs)/\y=kV k/\r=j8 kvs k)\/∃ kvs k b,Rd H a (.dT kvs)/\y=.ref b/\H b=some (.tup (k.map kV))/\r=j8 kvs k
def B8 (H:Hp) (a:Addr) (y v:V) (H':Hp):Prop:=
 (∃ kvs k,H a=some (.dK kvs)/\y=kV k/\kvs.length < sizeLine/\H'=upd H a (.dK (putK kvs k v))) \/
 ∃ kvs k b,H a=some (.dT kvs)/\y=.ref b/\H b=some (.tup (k.map kV))/\kvs.length < sizeLine/\H'=upd H a (.dT (putK kvs k v))
theorem zJ.t {H:Hp} {a b:Addr} {kvs:List (List Key×V)} {k:List Key} (e:H a=some (.dT kvs)) (eb:H b=some (.tup (k.map kV))):zJ H a (.ref b) (j8 kvs k):=.inr ⟨kvs,k,b,.inl e,rfl,eb,rfl⟩
theorem B8.t {H:Hp} {a b:Addr} {kvs:List (List Key×V)} {k:List Key} {v:V} (e:H a=some (.dT kvs)) (eb:H b=some (.tup (k.map kV))) (hl:kvs.length < sizeLine) :
   B8 H a (.ref b) v (upd H a (.dT (putK kvs k v))):=.inr ⟨kvs,k,b,e,rfl,eb,hl,rfl⟩
section
variable {X:Cx} {pins:List (Addr×Obj)} {σ:St} {H:Hp} {s:Shared} {a:Addr} {y v:V} {u r:Value} {o:Option V} {A:Around} {E:Value->Shared->Prop}
theorem Inv.big (I:Inv X pins σ H s):sysModules < s.heap.objs.size:=by
 have h:mainGlobals < s.heap.objs.size:=(I.mod.glob.keeps I.bk).lt
 exact Nat.lt_trans (by decide) h
theorem FD {Q:Value->Shared->Prop} (hu:A.units+1 < cLine) (I:Inv X pins σ H s) (g:zJ H a y (some v)) (ry:RelV y u) (h:∀ w' s',Inv X pins σ H s'->RelV v w'->Q w' s') :
   wpAny (model X.prog X.w) A (getItem (.ref a) u) Q E s:=by
 rcases g with ⟨kvs,k,e,ey,l⟩ | ⟨kvs,k,b,e,ey,eb,l⟩
 . subst ey
   obtain ⟨z,hd,vs,rel,dd⟩:=Eu I.hok e
   obtain ⟨w',hw,rw'⟩:=mq.some_of (v:=v) (o:=valueAt vs k) (by rw [l];exact rel.val k)
   exact wpAny_getItem_of (Et ry) dd.mapOf hw (h w' _ (I.tok _) rw')
 . subst ey
   cases (show u=Value.ref b from ry)
   obtain ⟨z,hd,xs,rel,dd⟩:=Ew I.hok e
   obtain ⟨w',hw,rw'⟩:=mq.some_of (v:=v) (o:=(atKey xs k).map (·.2)) (by rw [l];exact rel.val k)
   obtain ⟨p,hp,hp2⟩:=Option.map_eq_some_iff.mp hw
   refine wpAny_getItem_heap (tupleKind_room_in1 hu) (wH I.hok eb) dd hp ?_
   rw [hp2]
   exact h w' _ (I.tok _) rw'
theorem RP {Q:Value->Shared->Prop} (hu:A.units+1 < cLine) (I:Inv X pins σ H s) (g:zJ H a y o) (ry:RelV y u) (h:∀ s',Inv X pins σ H s'->Q (.bool o.isSome) s') :
   wpAny (model X.prog X.w) A (compareOp .In u (.ref a)) Q E s:=by
 rcases g with ⟨kvs,k,e,ey,l⟩ | ⟨kvs,k,b,e,ey,eb,l⟩
 . subst ey
   obtain ⟨z,hd,vs,rel,dd⟩:=Eu I.hok e
   refine wpAny_in_of (Et ry) hd dd.mapOf ?_
   rw [<- (rel.val k).tR,<- l]
   exact h _ (I.tok _)
 . subst ey
   cases (show u=Value.ref b from ry)
   obtain ⟨z,hd,xs,rel,dd⟩:=Ew I.hok e
   refine wpAny_in_heap (tupleKind_room_in1 hu) (wH I.hok eb) hd dd ?_
   have q:=(rel.val k).tR
   rw [Option.isSome_map] at q
   rw [<- q,<- l]
   exact h _ (I.tok _)
theorem zK {h':Heap} {t':Nat} {ob:HO} (I:Inv X pins σ H s) (mu:Mf (H a)) (hs:Heap.SameBut a s.heap h') (he:∃ q,h'.get? a=some q) (new:cj X.prog X.w (upd H a ob) h' a ob) :
   Inv X pins σ (upd H a ob) { s with heap:=h',toks:=t' }:=
 I.write (x:=a) (e:=a) mu (.inl rfl) (fun b q hb z=>(hs.2 b hb).trans z) he new
theorem Nh {P:Program} {w:World} {H':Hp} {h':Heap} {kvs:List (Key×V)} {vs:List (Key×Value)} (z:kvs.length<=sizeLine) (hd:(a==sysModules)=false) (rel:KV kvs vs) (dd:h'.DictOf (f7 P w) a vs) :
   cj P w H' h' a (.dK kvs):=⟨z,hd,vs,rel,dd⟩
theorem FE {H':Hp} {Q:Unit->Shared->Prop} (hu:A.units+1 < cLine) (I:Inv X pins σ H s) (g:B8 H a y v H') (ry:RelV y u) (rv:RelV v r) (h:∀ s',Inv X pins σ H' s'->Q () s') :
   wpAny (model X.prog X.w) A (setItem (.ref a) u r) Q E s:=by
 rcases g with ⟨kvs,k,e,ey,l,eH⟩ | ⟨kvs,k,b,e,ey,eb,l,eH⟩
 . subst ey eH
   obtain ⟨z,hd,vs,rel,dd⟩:=Po I.hok e
   have hz:vs.length<=sizeLine:=by rw [<- rel.length];exact z
   have hl:(putK kvs k v).length<=sizeLine:=by have:=iL kvs k v;omega
   refine wpAny_setItem_pairs (hsz:=hz) (Et ry) dd fun h' dd' hs=>h _ ?_
   have he:∃ q,h'.get? a=some q:=let ⟨q,_,_,hq,_⟩:=dd';⟨q,hq⟩
   exact zK I (by rw [e];exact True.intro) hs he (Nh hl hd (rel.put k rv) dd')
 . subst ey eH
   cases (show u=Value.ref b from ry)
   obtain ⟨z,hd,xs,rel,dd⟩:=Mr I.hok e
   have hz:xs.length<=sizeLine:=by rw [<- Paired.length rel];exact z
   have hl:(putK kvs k v).length<=sizeLine:=by have:=iL kvs k v;omega
   refine wpAny_setItem_heap (hsz:=hz) (tupleKind_room_in1 hu) (wH I.hok eb) dd fun h' dd' hs=>h _ ?_
   obtain ⟨q,es,ep,hq,h2,h3,h4,_,h5⟩:=dd'
   refine zK I (by rw [e];exact True.intro) hs ⟨q,hq⟩ ⟨hl,hd,_,(rel.put k eb rv).keeps fun c ys ec=>?_,q,es,ep,hq,h2,h3,h4,h5⟩
   rw [ak (kg ec e (fun z=>nomatch z))]
   exact ec
end
section
variable {X:Cx} {pins:List (Addr×Obj)} {σ:St} {H:Hp} {s:Shared} {a:Addr} {kvs:List (Key×V)} {k:Key} {u:Value} {A:Around} {E:Value->Shared->Prop}
end
def Pp (i:Expr):Prop:=∀ ov iv,subscripted i false ov iv=operate [ov,iv] (getItem ov iv)
theorem K5 {prog:Program} {w:World} {A:Around} {E:Value->Shared->Prop} {s:Shared} {env:Env} {value slice:Expr} {pos:Pos} {T id:String} {Q:Value->Shared->Prop}
   (hl:typeLookup (.type T) "__getitem__"=pure (some (.builtin id))) (hs:Pp slice)
   (h:wpAny (model prog w) A (eval value env) (fun o s₁=>wpAny (model prog w) A (eval slice env) (fun i s₂=>s₂.TypeIs o T/\wpAny (model prog w) A (getItem o i) Q E s₂) E s₁) E s) :
   wpAny (model prog w) A (eval (.Subscript value slice pos) env) Q E s:=by
 refine Subscript_ (wpAny_mono h (fun o s₁ h₁=>wpAny_mono h₁ (fun i s₂ h₂=>?_) fun _ _ x=>x) fun _ _ x=>x)
 obtain ⟨hT,h₂⟩:=h₂
 unfold subscriptTail
 refine wpAny_bind ?_
 rw [getitemInPython_of_ne hT.not_modules]
 refine wpAny_bind (wpAny_specialOf hT hl ?_)
 have fin:wpAny (model prog w) A (subscripted slice false o i) (fun r s₃=>wpAny (model prog w) A (letTemporaryGo value o r >>= fun _=>pure r) Q E s₃) E s₂:=by
   rw [hs o i]
   exact wpAny_operating (wpAny_mono h₂ (fun r s₃ h₃=>wpAny_bind (wpAny_letTemporaryGo (wpAny_pure h₃))) fun _ _ x=>x)
 first
   | exact wpAny_pure (wpAny_bind fin)
   | exact wpAny_bind (wpAny_pure (wpAny_bind fin))
   | exact wpAny_bind fin
theorem B9 {X:Cx} {pins:List (Addr×Obj)} {σ:St} {H:Hp} {s:Shared} {a:Addr} {y:V} {o:Option V} (I:Inv X pins σ H s) (g:zJ H a y o):s.TypeIs (.ref a) "dict":=by
 rcases g with ⟨kvs,k,e,_,_⟩ | ⟨kvs,k,b,e,_,_,_⟩
 . obtain ⟨_,_,vs,_,dd⟩:=Eu I.hok e
   exact dd.typeIs
 . obtain ⟨_,_,xs,_,dd⟩:=Ew I.hok e
   exact dd.typeIs
def Pq (td ty:TE):TE:=fun σ H Q=>td σ H fun x H1=>ty σ H1 fun y H2=>∃ a v,x=.ref a/\zJ H2 a y (some v)/\Q v H2
def RQ (ty td:TE):TE:=fun σ H Q=>ty σ H fun y H1=>td σ H1 fun x H2=>∃ a o,x=.ref a/\zJ H2 a y o/\Q (.bl o.isSome) H2
def Pu (td ty tv:TE):TS:=fun D σ H=>tv σ H fun v H1=>td σ H1 fun x H2=>ty σ H2 fun y H3=>∃ a H4,x=.ref a/\B8 H3 a y v H4/\D.nx σ H4
section
variable {X:Cx} {o i e value:Expr} {pos pos' tpos:Pos} {td ty tv:TE}
theorem K6 (hu:X.A.units+1 < cLine) (ho:PE X o td) (hi:PE X i ty) (hs:Pp i):PE X (.Subscript o i pos) (Pq td ty):=by
 intro pins s σ H Q I h
 refine K5 PySem.F.slot_dict_getitem.lookup hs (cU (ho pins s σ H _ I h) fun u s1 ⟨x,H1,I1,rx,q1⟩=>cU (hi pins s1 σ H1 _ I1 q1) fun iv s2 ⟨y,H2,I2,ry,a,v,ex,g,q2⟩=>?_)
 subst ex
 obtain rfl:u=Value.ref a:=rx
 exact ⟨B9 I2 g,FD hu I2 g ry fun w' s3 I3 rw'=>⟨v,H2,I3,rw',q2⟩⟩
theorem Ni (hu:X.A.units+1 < cLine) (hi:PE X i ty) (ho:PE X o td):PC X .In i o (RQ ty td):=by
 intro pins s σ H Q I h
 refine cU (hi pins s σ H _ I h) fun iv s1 ⟨y,H1,I1,ry,q1⟩=>cU (ho pins s1 σ H1 _ I1 q1) fun u s2 ⟨x,H2,I2,rx,a,ov,ex,g,q2⟩=>?_
 subst ex
 obtain rfl:u=Value.ref a:=rx
 exact RP hu I2 g ry fun s3 I3=>⟨.bl ov.isSome,H2,I3,rfl,q2⟩
theorem vy (hu:X.A.units+1 < cLine) (ho:PE X o td) (hi:PE X i ty) (hv:PE X value tv) (hs:swapsWith value (some (.Subscript o i pos')) pos.line X.env=pure false) :
   PS X (.Assign [.Subscript o i pos'] value pos) (Pu td ty tv):=by
 intro pins s σ H D I h
 refine wpAny_Assign_Subscript (cU (hv pins s σ H _ I h) fun r s1 ⟨v,H1,I1,rv,q1⟩=>cU (ho pins s1 σ H1 _ I1 q1) fun u s2 ⟨x,H2,I2,rx,q2⟩=>cU (hi pins s2 σ H2 _ I2 q2) fun iv s3 ⟨y,H3,I3,ry,a,H4,ex,g,q3⟩=>?_) hs
 subst ex
 obtain rfl:u=Value.ref a:=rx
 exact FE hu I3 g ry rv fun s4 I4=>⟨σ,H4,I4,q3⟩
end
theorem BA {P:Program} {w:World} {H:Hp} (h:Heap) (hb:sysModules < h.objs.size):cj P w H (h.push { cls:=.type "dict",data:=.dict #[] }) h.objs.size (.dT []):=
 ⟨Nat.zero_le _,beq_eq_false_iff_ne.mpr (Ne.symm (Nat.ne_of_lt hb)),[],.nil,_,#[],0,Heap.get?_push_size _ rfl,⟨rfl,rfl,rfl⟩,rfl,rfl,List.nodup_nil⟩
def Nj:TE:=fun _ H Q=>∀ p,H p=none->Q (.ref p) (upd H p (.dT []))
section
variable {X:Cx} {pos:Pos}
theorem wI:PE X (.Dict [] [] pos) Nj:=fun pins s σ H Q I h=>
 wpAny_Dict_empty ⟨.ref s.heap.objs.size,_,I.laid (a:=s.heap.objs.size) (o:=.dT []) (t':=s.toks) (fun _ _ q=>Heap.get?_push_of_some _ q) (Nat.le_refl _) (BA s.heap I.big),rfl,h _ (I.hok.fresh (Nat.le_refl _))⟩
end
def Ih:List (TE×TE)->St->Hp->(List (V×V)->Hp->Prop)->Prop
 | [],_,H,Q=>Q [] H
 | (tk,tv)::r,σ,H,Q=>tk σ H fun x H1=>tv σ H1 fun y H2=>Ih r σ H2 fun ps H3=>Q ((x,y)::ps) H3
abbrev VV:List (V×V)->List (Value×Value)->Prop:=Paired fun p q=>RelV p.1 q.1/\RelV p.2 q.2
def RT (X:Cx) (pos:Pos) (keys:List (Option Expr)) (values:List Expr) (QK:List (TE×TE)):Prop:=
 ∀ (pins:List (Addr×Obj)) (s:Shared) (σ:St) (H:Hp) (Q:List (V×V)->Hp->Prop),Inv X pins σ H s->Ih QK σ H Q->
   wpAny (model X.prog X.w) X.A (evalPairs (pairTrees keys values X.env pos)) (fun vs s'=>∃ ps H',Inv X pins σ H' s'/\VV ps vs/\Q ps H') X.xe s
theorem K7 {X:Cx} {pos:Pos}:RT X pos [] [] []:=fun pins s σ H Q I h=>pairTrees_nil_walk ⟨[],H,I,.nil,h⟩
theorem Ii {X:Cx} {pos:Pos} {k v:Expr} {ks:List (Option Expr)} {vs:List Expr} {tk tv:TE} {QK:List (TE×TE)} (hk:PE X k tk) (hv:PE X v tv) (hr:RT X pos ks vs QK) :
   RT X pos (some k::ks) (v::vs) ((tk,tv)::QK):=fun pins s σ H Q I h=>
 pairTrees_cons_walk (cU (hk pins s σ H _ I h) fun u s1 ⟨x,H1,I1,rx,q1⟩=>cU (hv pins s1 σ H1 _ I1 q1) fun w2 s2 ⟨y,H2,I2,ry,q2⟩=>
   cU (hr pins s2 σ H2 _ I2 q2) fun ws s3 ⟨ps,H3,I3,rel,q3⟩=>⟨(x,y)::ps,H3,I3,.cons ⟨rx,ry⟩ rel,q3⟩)
section
variable {X:Cx} {pins:List (Addr×Obj)} {σ:St} {H:Hp} {s:Shared} {a:Addr} {y d:V} {u r:Value} {o:Option V} {A:Around} {E:Value->Shared->Prop}
end
section
variable {X:Cx} {o e f:Expr} {apos cpos:Pos} {td ty tx:TE}
end
section
variable {X:Cx} {pins:List (Addr×Obj)} {σ:St} {H:Hp} {s:Shared} {a:Addr} {kvs:List (Key×V)} {A:Around} {E:Value->Shared->Prop}
end
section
variable {X:Cx} {pins:List (Addr×Obj)} {σ:St} {H:Hp} {s:Shared} {a:Addr} {y:V} {u:Value} {A:Around} {E:Value->Shared->Prop}
end
end L2
namespace L2
open PySem PySem.Spec PyProof.Rows
section
variable {prog:Program} {w:World} {A:Around} {E:Value->Shared->Prop}
end
section
variable {X:Cx}
end
end L2
namespace L2
open PySem PySem.Spec PyProof.Rows
section
variable {X:Cx} {pins:List (Addr×Obj)} {σ:St} {H:Hp} {s:Shared} {h':Heap}
theorem Inv.FF {t':Nat} {ch:List Addr} {T:Addr} {ob:HO} (I:Inv X pins σ H s) (k:∀ b o,b ∉ ch->s.heap.get? b=some o->h'.get? b=some o) (hf:∀ b ∈ ch,wm X pins H b) (hT:s.heap.objs.size<=T)
   (new:cj X.prog X.w (upd H T ob) h' T ob):Inv X pins σ (upd H T ob) { s with heap:=h',toks:=t' }:=by
 have hn:H T=none:=I.hok.fresh hT
 have OG:∀ b u,H b=some u->b ∉ ch:=fun b u e z=>by
   have q:=(hf b z).1
   rw [q] at e;cases e
 refine I.step (g':=s.gens) (d':=s.drawn) (ch:=ch) (fun b hb=>⟨(hf b hb).2.2.2.1,(hf b hb).2.1,(hf b hb).2.2.2.2.1,(hf b hb).2.2.2.2.2⟩) (fun b o _ _ hc e _=>k b o hc e) (fun b o _ _ hc e _=>⟨o.slots,k b o hc e⟩)
   (fun b o _ e n=>?_) (fun b o hc e=>⟨o,k b o hc e⟩) (fun b xs e=>?_) (fun b o u e=>?_) (fun b ps e=>⟨#[],?_⟩) (fun m hm=>?_) (fun b u e=>?_) I.bare
 . rw [ak (Nat.ne_of_lt (Nat.lt_of_lt_of_le (Heap.lt_size e) hT))];exact n
 . rw [ak (aq e hn)];exact e
 . rw [ak (aq e hn)];exact e
 . rw [ak (aq e hn),e];simp
 . obtain ⟨o,es,ep,ho,r⟩:=hm
   exact ⟨o,es,ep,k _ o (fun z=>(hf _ z).2.1 rfl) ho,r⟩
 . by_cases hb:b=T
   . subst hb
     rw [ai] at e
     cases e
     exact new
   . rw [ak hb] at e
     refine (I.hok b u e).stay (fun c v hc q=>k c v ?_ q) (fun c q=>by rw [ak (aq q hn)];exact q) fun c xs q=>by rw [ak (aq q hn)];exact q
     rcases hc with z | z
     . rw [z];exact OG b u e
     . exact OG c _ z
theorem Inv.lock {d:Addr} {u:HO} (I:Inv X pins σ H s) (h:H d=some u) (mu:Mf (some u)):∃ od,Inv X pins σ (upd H d (.jN od u)) s:=by
 have x:=I.hok d u h
 have ex:∃ od,s.heap.get? d=some od:=by
   cases u with
   | lst xs=>obtain ⟨_,_,_,_,e⟩:=x;exact ⟨_,e⟩
   | dK kvs=>obtain ⟨_,_,_,_,o,_,_,e,_⟩:=x;exact ⟨o,e⟩
   | dT kvs=>obtain ⟨_,_,_,_,o,_,_,e,_⟩:=x;exact ⟨o,e⟩
   | set S n=>obtain ⟨o,_,_,_,e,_⟩:=x;exact ⟨o,e⟩
   | ins C dx fs=>obtain ⟨_,_,_,e,_⟩:=x;exact ⟨_,e⟩
   | ext φ=>obtain ⟨_,⟨_,e⟩,_⟩:=x;exact ⟨_,e⟩
   | _=>exact False.elim mu
 obtain ⟨od,e⟩:=ex
 have new:cj X.prog X.w (upd H d (.jN od u)) s.heap d (.jN od u):=by
   refine ⟨e,x.stay (fun b v _ q=>q) (fun b q=>?_) fun b xs q=>?_⟩
   . rw [ak (fun z=>by rw [z,h] at q;cases q;exact mu)];exact q
   . rw [ak (fun z=>by rw [z,h] at q;cases q;exact mu)];exact q
 exact ⟨od,I.write (x:=d) (e:=d) (t':=s.toks) (h':=s.heap) (by rw [h];exact mu) (.inl rfl) (fun b v _ q=>q) ⟨od,e⟩ new⟩
theorem Inv.Ex {d:Addr} {u:HO} (I:Inv X pins σ H s) (h:H d=some u) (mu:Mf (some u)):∀ o' u',X.MH d ≠ some (.jN o' u'):=fun o' u' e=>by
 have q:=I.base.qZ d o' u' e
 rw [h] at q
 cases q
 exact mu
theorem Inv.unlock {d:Addr} {od:Obj} {u:HO} (I:Inv X pins σ H s) (h:H d=some (.jN od u)) (hn:∀ o' u',X.MH d ≠ some (.jN o' u')):Inv X pins σ (upd H d u) s:=by
 have O8:∀ b o,H b=some o->(∀ o' u',o ≠ .jN o' u')->b ≠ d:=fun b o e hne z=>by
   rw [z,h] at e
   cases e
   exact hne _ _ rfl
 have neN:∀ b,H b=none->b ≠ d:=fun b e z=>by rw [z,h] at e;cases e
 refine ⟨I.ok,I.os,I.bare,⟨I.base.keep,I.base.slot,fun b o e n hx=>?_,I.base.there,fun b xs e=>?_,fun b o x e=>?_,fun b ps e=>?_⟩,I.loc,I.cell,?_,fun x c e=>?_,fun p hp=>?_,fun b o e=>?_,I.len⟩
 . rw [ak (neN b (I.base.free b o e n hx))];exact I.base.free b o e n hx
 . have q:=I.base.tups b xs e
   rw [ak (O8 b _ q (fun _ _ z=>nomatch z))];exact q
 . have q:=I.base.qZ b o x e
   rw [ak (fun z=>by rw [z] at e;exact hn _ _ e)];exact q
 . obtain ⟨m,q⟩:=I.base.tE b ps e
   exact ⟨m,by rw [ak (O8 b _ q (fun _ _ z=>nomatch z))];exact q⟩
 . rw [ak (neN _ I.free)];exact I.free
 . rw [ak (neN c (I.gG x c e))];exact I.gG x c e
 . obtain ⟨e,n,r⟩:=I.pin p hp
   exact ⟨e,by rw [ak (neN _ n)];exact n,r⟩
 . by_cases hb:b=d
   . rw [hb,ai] at e
     cases e
     rw [hb]
     obtain ⟨_,x⟩:=I.hok d _ h
     exact x.stay (fun c v _ q=>q) (fun c q=>by rw [ak (O8 c _ q (fun _ _ z=>nomatch z))];exact q) fun c xs q=>by rw [ak (O8 c _ q (fun _ _ z=>nomatch z))];exact q
   . rw [ak hb] at e
     exact (I.hok b o e).stay (fun c v _ q=>q) (fun c q=>by rw [ak (O8 c _ q (fun _ _ z=>nomatch z))];exact q) fun c xs q=>by rw [ak (O8 c _ q (fun _ _ z=>nomatch z))];exact q
end
def Pw (t:TS):TS:=fun D σ H=>∃ d u,H d=some u/\Mf (some u)/\∀ od,t ⟨fun σ' H'=>H' d=some (.jN od u)/\D.nx σ' (upd H' d u),fun v H'=>H' d=some (.jN od u)/\D.rt v (upd H' d u),fun σ' H'=>H' d=some (.jN od u)/\D.bk σ' (upd H' d u),fun σ' H'=>H' d=some (.jN od u)/\D.ct σ' (upd H' d u)⟩ σ (upd H d (.jN od u))
section
variable {X:Cx}
theorem Ey {st:Stmt} {t:TS} (h:PS X st t):PS X st (Pw t):=by
 intro pins s σ H D I hw
 obtain ⟨d,u,hd,mu,hw⟩:=hw
 obtain ⟨od,I1⟩:=I.lock hd mu
 refine cU (h pins s σ _ _ I1 (hw od)) fun f s1 q=>?_
 cases f with
 | next=>obtain ⟨σ',H',I2,e,q⟩:=q;exact ⟨σ',_,I2.unlock e (I.Ex hd mu),q⟩
 | brk=>obtain ⟨σ',H',I2,e,q⟩:=q;exact ⟨σ',_,I2.unlock e (I.Ex hd mu),q⟩
 | cont=>obtain ⟨σ',H',I2,e,q⟩:=q;exact ⟨σ',_,I2.unlock e (I.Ex hd mu),q⟩
 | ret v=>obtain ⟨x,σ',H',I2,r,e,q⟩:=q;exact ⟨x,σ',_,I2.unlock e (I.Ex hd mu),r,q⟩
theorem D5 {tg:Expr} {pins:List (Addr×Obj)} {σ:St} {H:Hp} {s:Shared} {R:It->Hp->Prop} {J:It} {tn:Nat->Heap->Prop} {tk:Nat} (I:Inv X pins σ H s) (o:Obj)
   (T:Turn X.prog X.w X.K tg J [s.heap.objs.size] s.heap.objs.size tn) (st:tn 0 (s.heap.push o)) (q:R J H):Rq X pins σ tg R (.ref s.heap.objs.size) { s with heap:=s.heap.push o,toks:=tk }:=by
 refine ⟨s.heap.objs.size,[s.heap.objs.size],tn,J,H,rfl,I.kept fun b ob e=>Heap.get?_push_of_some _ e,T,st,fun b hb=>?_,q⟩
 have e:b=s.heap.objs.size:=by simpa using hb
 subst e
 exact I.Fq (Nat.le_refl _) (I.hok.fresh (Nat.le_refl _))
end
def Px (lo c:Int) (n:Nat):It:=⟨fun i _=>i < n,fun i H x H'=>H'=H/\x=.int (lo+(i:Nat) * c),fun i _=>n<=i⟩
theorem BB {P:Program} {w:World} {K:PySem.W.Frag} {tg:Expr} (it:Addr) (lo c:Int) (n:Nat):Turn P w K tg (Px lo c n) [it] it (fun i h=>IsRangeIter h it (lo+(i:Nat) * c) ((n:Int) - (i:Nat)) c) where
 mem:=by simp
 obj:=fun i h st b hb=>by
   have e:b=it:=by simpa using hb
   subst e
   exact ⟨_,st,fun v z=>nomatch z⟩
 keep:=fun i h h' st k=>k it (by simp) _ st
 item:=by
   intro X hP hw hK hc i pins s σ H E I hf st hg
   subst hP hw hK
   obtain ⟨f0,f1,f2,f3,f4,f5⟩:=hf it (by simp)
   have W:=Walks.range (prog:=X.prog) (w:=X.w) (I.ok.hd hc) it lo c n
   refine W.item i s _ _ hg st fun v h' tk hv st' kk=>?_
   obtain ⟨t,rfl⟩:=hv
   have I1:Inv X pins σ H { s with heap:=h',toks:=tk }:=I.turned (fun b o hb e=>kk b o (by simpa using hb) e) f0 f1 f3 f4 f5
   exact ⟨_,rfl,yI (s:={ s with heap:=h',toks:=tk }) (n:="range_iterator") st' rfl rfl (by decide) ⟨.int (lo+(i:Nat) * c),H,I1,⟨t,rfl⟩,⟨rfl,rfl⟩,st',fun b hb=>(hf b hb).1⟩⟩
 done:=by
   intro X hP hw hK hc i pins s σ H E I hf st hg
   subst hP hw hK
   obtain ⟨f0,f1,f2,f3,f4,f5⟩:=hf it (by simp)
   exact wpAny_pyNext_range_end (I.ok.hd hc) st (by have:n<=i:=hg;omega) fun h' eb=>⟨rfl,I.turned (t':=s.toks) (fun b o hb e=>eb b o hb e) f0 f1 f3 f4 f5⟩
 self:=fun A i s Q E st h=>wpAny_pyIter_rangeiter st h
def QL (i j c:Int) (n:Nat):Prop:=c ≠ 0/\c.natAbs < 1073741824/\Builtin.Range.small i j c=true/\Builtin.Range.rangeSize i j c=n
theorem QL.neg {i j:Int} (ha:-(2 ^ 62)<=i) (ha':i < 2 ^ 62) (hb:-(2 ^ 62)<=j) (hb':j < 2 ^ 62):QL i j (-1) (i - j).toNat:=
 ⟨by decide,by decide,PySem.W.small_down ha ha' hb hb',PySem.W.rangeSize_downNat i j⟩
def Py (ta:TA):TI:=fun σ H R=>ta σ H fun vs H1=>∃ (i j c:Int) (n:Nat),vs=[.int i,.int j,.int c]/\QL i j c n/\R (Px i c n) H1
section
variable {X:Cx} {tg:Expr}
theorem FG {a b c:Expr} {ta:TA} {p pos:Pos} (hg:Gl X "range") (hm:X.mg "range"=none) (ha:PA X [a,b,c] ta)
   (hs:starEach [a,b,c] X.env=(false,eval a X.env)::starEach [b,c] X.env:=by rfl) (hpl:(backTo pos (starEach [b,c] X.env)).any (·.1)=false:=by rfl) :
   PI X tg (.Call (.Name "range" p) [a,b,c] [] pos) (Py ta):=by
 intro pins s σ H R I h
 refine Call_ (wj I hg hm boot_range (PyProof.Rows.callWith_type1 (cU (ha pos pins s σ H _ I h) fun us s1 ⟨vs,H1,I1,r1,q1⟩=>?_) hs hpl))
 obtain ⟨i,j,k,n,e,⟨c0,c1,c2,c3⟩,q⟩:=q1
 subst e
 cases r1 with
 | cons r rr=>
   cases rr with
   | cons r' rr=>
     cases rr with
     | cons r'' rr=>
       cases rr
       obtain ⟨t,rfl⟩:=r
       obtain ⟨t',rfl⟩:=r'
       obtain ⟨t'',rfl⟩:=r''
       refine call_range_3 c0 ?_ (.inl (PyProof.noPylong_small c1))
       refine wpAny_pyIter_range (IsRange.new ..) c2 ?_
       have I2:Inv X pins σ H1 { s1 with heap:=s1.heap.push { cls:=.type "range",data:=.fields #[.int i t,.int j t',.int k t''] } }:=I1.kept (t':=s1.toks) fun b o e=>Heap.get?_push_of_some _ e
       refine D5 (tk:=s1.toks) I2 _ (BB _ i k n) ?_ q
       have e1:i+((0:Nat):Int) * k=i:=by simp
       have e2:(n:Int) - ((0:Nat):Int)=Builtin.Range.rangeSize i j k:=by rw [c3];simp
       show IsRangeIter _ _ (i+((0:Nat):Int) * k) ((n:Int) - ((0:Nat):Int)) k
       rw [e1,e2]
       exact Heap.get?_push_size _ rfl
end
theorem D6 {lo c:Int} {n:Nat} {g:TG} {tb:TS} {D:Ends} {σ:St} {H:Hp} (Pv:Nat->St->Hp->Prop) (h0:Pv 0 σ H)
   (hs:∀ i σ H,i < n->Pv i σ H->g (.int (lo+(i:Nat) * c)) σ H fun σ2 H2=>tb { D with nx:=Pv (i+1),ct:=Pv (i+1),bk:=D.nx } σ2 H2) (hd:∀ σ H,Pv n σ H->D.nx σ H) :
   ∃ W:Nat->Nat->St->Hp->Prop,(∃ m,W 0 m σ H)/\∀ i m σ H,W i m σ H->
     ((Px lo c n).stop i H/\D.nx σ H)\/((Px lo c n).go i H/\∃ N:St->Hp->Prop,(∀ σ' H',N σ' H'->∃ m',m' < m/\W (i+1) m' σ' H')/\∀ x H',(Px lo c n).HE i H x H'->g x σ H' fun σ2 H2=>tb { D with nx:=N,ct:=N,bk:=D.nx } σ2 H2):=by
 refine ⟨fun i m σ H=>m=n - i/\i<=n/\Pv i σ H,⟨n,by simp,Nat.zero_le _,h0⟩,?_⟩
 rintro i m σ H ⟨rfl,hi,p⟩
 by_cases hlt:i < n
 . refine .inr ⟨hlt,Pv (i+1),fun σ' H' p'=>⟨n - (i+1),by omega,rfl,hlt,p'⟩,fun x H' y=>?_⟩
   obtain ⟨e,y⟩:=y
   subst e y
   exact hs i σ _ hlt p
 . have e:i=n:=by omega
   subst e
   exact .inl ⟨Nat.le_refl _,hd σ H p⟩
section
variable {X:Cx} {tg:Expr}
end
section
variable {prog:Program} {w:World} {A:Around} {E:Value->Shared->Prop} {s:Shared}
theorem yU {d:Addr} {o:Obj} {es:Array DictEntry} {ep:Nat} {Q:Value->Shared->Prop} (hd:(d==sysModules)=false) (ho:s.heap.get? d=some o) (hc:o.ExactDict) (hdat:o.data=.dict es ep)
   (hQ:Q (.ref s.heap.objs.size) { s with heap:=s.heap.push { cls:=.type "dict_keyiterator",data:=.fields #[.ref d,.int 0 0,.int es.size 0,.int ep 0] } }) :
   wpAny (model prog w) A (pyIter (.ref d)) Q E s:=by
 have hT:s.TypeIs (.ref d) "dict":=⟨o,ho,hc.1⟩
 refine wpAny_pyIter_slot hT F.slot_dict_iter (wpAny_call_entry F.slot_dict_iter hT F.entry_dict_iter ?_ (F.args_dict_iter_1 _))
 unfold Builtin.«dict.__iter__»
 refine wpAny_bind ?_
 unfold Builtin.Dict.dictSlotNone
 refine wpAny_bind (wpAny_notOrdered_dict hT ?_)
 show wpAny _ _ (pure (Value.ref d)) _ _ s
 refine wpAny_pure ?_
 show wpAny _ _ (Builtin.Dict.showsAll d >>= _) _ _ s
 unfold Builtin.Dict.showsAll
 rw [if_neg (by rw [hd];exact Bool.false_ne_true)]
 refine wpAny_bind (wpAny_pure ?_)
 refine wpAny_bind (wpAny_dictEntries ho hdat ?_)
 refine wpAny_bind (wpAny_dictEpoch ho hdat ?_)
 refine wpAny_bind (wpAny_newObj_type (wpAny_pure ⟨_,rfl,"dict_keyiterator",_,⟨_,Heap.get?_push_size _ rfl,rfl⟩,F.slot_dict_keyiterator_next.lookup,?_⟩))
 simpa [rawInt] using hQ
theorem xZ {it d:Addr} {i n ep:Nat} {od:Obj} {es:Array DictEntry} {en:DictEntry} {Q:Option Value->Shared->Prop} (hit:s.heap.IsKeyIter it d i n ep) (hod:s.heap.get? d=some od) (Pz:od.data=.dict es ep)
   (hsz:es.size=n) (hx:es[i]?=some en) (hQ:∀ h',h'.IsKeyIter it d (i+1) n ep->Heap.SameBut it s.heap h'->Q (some en.key) { s with heap:=h' }):wpAny (model prog w) A (pyNext (.ref it)) Q E s:=by
 obtain ⟨o,ho,hc,hd⟩:=id hit
 unfold pyNext
 refine wpAny_bind (wpAny_attempt (wpAny_callSpecial?_slot (name:=Str.ofString "__next__") hit.typeIs F.slot_dict_keyiterator_next
   (wpAny_call_entry F.slot_dict_keyiterator_next hit.typeIs F.entry_dict_keyiterator_next ?_ (F.args_dict_keyiterator_next_1 _))))
 refine wpAny_bind (wpAny_pure ?_)
 refine wpAny_bind ?_
 refine wpAny_bind ?_
 first | refine wpAny_bind (wpAny_typeNameOfWhole_keyiter hit.typeIs (wpAny_pure ?_)) | refine wpAny_bind (wpAny_typeNameOf_keyiter hit.typeIs (wpAny_pure ?_))
 refine wpAny_bind (wpAny_fieldsOf ho hd ?_)
 have hown:Builtin.Dict_items.ownsTuple "dict_keyiterator"=false:=by decide
 simp only [hown,Bool.false_eq_true,if_false]
 show wpAny _ _ (if (Value.ref d==Value.none)=true then _ else _) _ _ s
 rw [if_neg (show ¬ ((Value.ref d==Value.none)=true) from Bool.false_ne_true)]
 refine wpAny_bind (wpAny_pure ?_)
 refine wpAny_bind (wpAny_dictEntries hod Pz ?_)
 rw [if_neg (by rw [hsz];simp)]
 refine wpAny_bind (wpAny_pure ?_)
 refine wpAny_bind (wpAny_dictEpoch hod Pz ?_)
 rw [if_neg (by simp)]
 refine wpAny_pure ?_
 obtain ⟨hlt',hen⟩:=Array.getElem?_eq_some_iff.mp hx
 simp only [show ¬ ((i:Int) < 0) from by omega,if_false,Int.toNat_natCast,Array.getElem?_eq_getElem hlt']
 refine wpAny_bind ?_
 first | refine wpAny_bind (wpAny_typeNameOfWhole_keyiter hit.typeIs (wpAny_pure ?_)) | refine wpAny_bind (wpAny_typeNameOf_keyiter hit.typeIs (wpAny_pure ?_))
 refine wpAny_bind (wpAny_isOneOf_keyiter hit.typeIs ?_)
 show wpAny _ _ (setField (.ref it) 1 (rawInt ((i:Int)+1)) >>= _) _ _ s
 refine wpAny_bind (wpAny_setField ho hd (by simp) ?_)
 have hit':(s.heap.update it (Obj.mapFields (·.setIfInBounds 1 (rawInt ((i:Int)+1))))).IsKeyIter it d (i+1) n ep:=
   ⟨_,Heap.get?_update_self _ ho (Obj.isFreed_of_fields (Obj.data_mapFields hd _)),(Obj.cls_mapFields ..).trans hc,by rw [Obj.data_mapFields hd];simp [rawInt]⟩
 refine wpAny_bind (wpAny_holding ?_)
 refine wpAny_bind (wpAny_isOneOf_keyiter (s:={ s with heap:=s.heap.update it (Obj.mapFields (·.setIfInBounds 1 (rawInt ((i:Int)+1)))) }) hit'.typeIs ?_)
 show wpAny _ _ (pure es[i].key) _ _ _
 rw [hen]
 exact wpAny_pure (wpAny_pure ⟨_,rfl,wpAny_pure (hQ _ hit' (Heap.SameBut.update ..))⟩)
theorem rQ {it d:Addr} {i n ep:Nat} {od:Obj} {es:Array DictEntry} {Q:Option Value->Shared->Prop} (hh:A.handled=none) (hit:s.heap.IsKeyIter it d i n ep) (hod:s.heap.get? d=some od) (Pz:od.data=.dict es ep)
   (hsz:es.size=n) (hge:n<=i) (hQ:∀ h',Heap.ExtBut it s.heap h'->Q none { s with heap:=h' }):wpAny (model prog w) A (pyNext (.ref it)) Q E s:=by
 obtain ⟨o,ho,hc,hd⟩:=id hit
 unfold pyNext
 refine wpAny_bind (wpAny_attempt (wpAny_callSpecial?_slot (name:=Str.ofString "__next__") hit.typeIs F.slot_dict_keyiterator_next
   (wpAny_call_entry F.slot_dict_keyiterator_next hit.typeIs F.entry_dict_keyiterator_next ?_ (F.args_dict_keyiterator_next_1 _))))
 refine wpAny_bind (wpAny_pure ?_)
 refine wpAny_bind ?_
 refine wpAny_bind ?_
 first | refine wpAny_bind (wpAny_typeNameOfWhole_keyiter hit.typeIs (wpAny_pure ?_)) | refine wpAny_bind (wpAny_typeNameOf_keyiter hit.typeIs (wpAny_pure ?_))
 refine wpAny_bind (wpAny_fieldsOf ho hd ?_)
 have hown:Builtin.Dict_items.ownsTuple "dict_keyiterator"=false:=by decide
 simp only [hown,Bool.false_eq_true,if_false]
 show wpAny _ _ (if (Value.ref d==Value.none)=true then _ else _) _ _ s
 rw [if_neg (show ¬ ((Value.ref d==Value.none)=true) from Bool.false_ne_true)]
 refine wpAny_bind (wpAny_pure ?_)
 refine wpAny_bind (wpAny_dictEntries hod Pz ?_)
 rw [if_neg (by rw [hsz];simp)]
 refine wpAny_bind (wpAny_pure ?_)
 refine wpAny_bind (wpAny_dictEpoch hod Pz ?_)
 rw [if_neg (by simp)]
 refine wpAny_pure ?_
 have hge':es.size<=i:=by rw [hsz];exact hge
 simp only [show ¬ ((i:Int) < 0) from by omega,if_false,Int.toNat_natCast,Array.getElem?_eq_none hge']
 refine wpAny_bind ?_
 first | refine wpAny_bind (wpAny_typeNameOfWhole_keyiter hit.typeIs (wpAny_pure ?_)) | refine wpAny_bind (wpAny_typeNameOf_keyiter hit.typeIs (wpAny_pure ?_))
 show wpAny _ _ (setField (.ref it) 0 .none >>= _) _ _ s
 refine wpAny_bind (wpAny_setField ho hd (by simp) ?_)
 show wpAny _ _ (newExc (.type "StopIteration") [] >>= _) _ _ _
 refine wpAny_bind ?_
 simp only [newExc,newTuple]
 refine wpAny_bind (wpAny_newObj_type ?_ (by size_fits))
 refine wpAny_bind (m:=firstArgMember _ _) (wpAny_of_eq (a:=Value.none) (by first | rfl | (simp only [firstArgMember];rfl)) ?_)
 refine wpAny_newObj_type ?_ (by size_fits)
 simp only [raiseNew]
 refine wpAny_bind (wpAny_handled ?_)
 rw [show A.in1.handled=none from hh]
 refine wpAny_bind (wpAny_pure (wpAny_throw ?_))
 refine wpAny_bind (wpAny_isInstance (T:="StopIteration") (b:=true) ⟨_,Heap.get?_push_size _ rfl,rfl⟩ isSubtype_stop ?_)
 exact wpAny_pure (hQ _ (((Heap.SameBut.update ..).extBut.push _).push _))
end
theorem Nk {κ:Type} {kvs:List (κ×V)} {vs:List (κ×Value)} (h:KV kvs vs):∀ {i:Nat} {k:κ} {v:V},kvs[i]?=some (k,v)->∃ u,vs[i]?=some (k,u)/\RelV v u:=by
 unfold KV at h
 induction h with
 | nil=>intro i k v e;simp at e
 | @cons a b l₁ l₂ r t ih=>
   intro i k v e
   cases i with
   | zero=>
     simp only [List.getElem?_cons_zero,Option.some.injEq] at e
     subst e
     refine ⟨b.2,?_,r.2⟩
     simp only [List.getElem?_cons_zero]
     exact congrArg some (Prod.ext r.1.symm rfl)
   | succ j=>
     simp only [List.getElem?_cons_succ] at e ⊢
     exact ih e
theorem D7 {α β:Type} {G:α->β->Prop} {l₁:List α} {l₂:List β} (h:Paired G l₁ l₂):∀ {i:Nat} {a:α},l₁[i]?=some a->∃ b,l₂[i]?=some b/\G a b:=by
 induction h with
 | nil=>intro i a e;simp at e
 | @cons a b l₁ l₂ r t ih=>
   intro i a' e
   cases i with
   | zero=>
     simp only [List.getElem?_cons_zero,Option.some.injEq] at e
     subst e
     exact ⟨b,rfl,r⟩
   | succ j=>
     simp only [List.getElem?_cons_succ] at e ⊢
     exact ih e
theorem Ij {k:Key} {u:Value} (h:uz k u=true):RelV (kV k) u:=by
 rcases d7 h with ⟨i,t,rfl,rfl⟩ | ⟨x,t,rfl,rfl⟩
 . exact ⟨t,rfl⟩
 . exact ⟨t,rfl⟩
section
variable {X:Cx} {pins:List (Addr×Obj)} {σ:St} {H:Hp} {s:Shared} {d:Addr} {o:Obj}
theorem Inv.Nl {kvs:List (Key×V)} (I:Inv X pins σ H s) (h:H d=some (.jN o (.dK kvs))) :
   (d==sysModules)=false/\s.heap.get? d=some o/\o.ExactDict/\∃ (es:Array DictEntry) (ep:Nat) (vs:List (Key×Value)),o.data=.dict es ep/\es.size=kvs.length/\KV kvs vs/\s.heap.DictAt (f7 X.prog X.w) d vs ep:=by
 obtain ⟨hd,z,hs,vs,kv,o',es,ep,ho,hx,hdt,r⟩:=I.hok d _ h
 rw [hd] at ho
 cases ho
 refine ⟨hs,hd,hx,es,ep,vs,hdt,?_,kv,o,es,hd,hx,hdt,r⟩
 have l1:=r.2.1.length
 have l2:kvs.length=vs.length:=Paired.length kv
 rw [Array.length_toList] at l1
 omega
theorem Inv.Nm {kvs:List (List Key×V)} (I:Inv X pins σ H s) (h:H d=some (.jN o (.dT kvs))) :
   (d==sysModules)=false/\s.heap.get? d=some o/\o.ExactDict/\∃ (es:Array DictEntry) (ep:Nat),o.data=.dict es ep/\es.size=kvs.length /\
     ∀ (i:Nat) (k:List Key) (v:V),kvs[i]?=some (k,v)->∃ (en:DictEntry) (q:Addr),es[i]?=some en/\en.key=.ref q/\H q=some (.tup (k.map kV)):=by
 obtain ⟨hd,z,hs,xs,pr,o',es,ep,ho,hx,hdt,he,_⟩:=I.hok d _ h
 rw [hd] at ho
 cases ho
 refine ⟨hs,hd,hx,es,ep,hdt,?_,fun i k v e=>?_⟩
 . have l1:es.size=xs.length:=size_of_entries he
   have l2:kvs.length=xs.length:=Paired.length pr
   omega
 . obtain ⟨b,hb,e1,e2,_⟩:=D7 pr e
   have q:=entry_at he i
   rw [hb] at q
   exact ⟨_,b.2.1,q,rfl,e2⟩
end
def T8 (d:Addr) (o:Obj) (kvs:List (Key×V)):It:=
 ⟨fun i H=>H d=some (.jN o (.dK kvs))/\i < kvs.length,fun i H x H'=>H'=H/\∃ k v,kvs[i]?=some (k,v)/\x=kV k,fun i H=>H d=some (.jN o (.dK kvs))/\kvs.length<=i⟩
def Ik (d:Addr) (o:Obj) (kvs:List (List Key×V)):It:=
 ⟨fun i H=>H d=some (.jN o (.dT kvs))/\i < kvs.length,fun i H x H'=>H'=H/\∃ (k:List Key) (v:V) (q:Addr),kvs[i]?=some (k,v)/\x=.ref q/\H q=some (.tup (k.map kV)),fun i H=>H d=some (.jN o (.dT kvs))/\kvs.length<=i⟩
theorem vz {o:Obj} {es es':Array DictEntry} {ep ep':Nat} (h:o.data=.dict es ep) (h':o.data=.dict es' ep'):es'=es/\ep'=ep:=by
 rw [h] at h'
 cases h'
 exact ⟨rfl,rfl⟩
section
variable {P:Program} {w:World} {K:PySem.W.Frag} {tg:Expr} {d:Addr} {o:Obj} {es:Array DictEntry} {ep:Nat}
theorem FH {kvs:List (Key×V)} (it:Addr) (hod:o.data=.dict es ep):Turn P w K tg (T8 d o kvs) [it] it (fun i h=>h.IsKeyIter it d i kvs.length ep) where
 mem:=by simp
 obj:=fun i h st b hb=>by
   have e:b=it:=by simpa using hb
   subst e
   obtain ⟨oi,e,c,dd⟩:=st
   exact ⟨oi,e,fun v z=>by rw [dd] at z;cases z⟩
 keep:=fun i h h' st k=>st.at fun oi e=>k it (by simp) oi e
 item:=by
   intro X hP hw hK hc i pins s σ H E I hf st hg
   subst hP hw hK
   obtain ⟨hd,hi⟩:=hg
   obtain ⟨f0,f1,f2,f3,f4,f5⟩:=hf it (by simp)
   obtain ⟨hs,hgd,hx,es',ep',vs,hdt,hsz,kv,hm⟩:=I.Nl hd
   obtain ⟨rfl,rfl⟩:=vz hod hdt
   obtain ⟨⟨k,v⟩,hkv⟩:∃ p,kvs[i]?=some p:=⟨kvs[i],List.getElem?_eq_getElem hi⟩
   obtain ⟨u,hu,ru⟩:=Nk kv hkv
   have hl:kvs.length=vs.length:=Paired.length kv
   rw [hl] at st
   refine wpAny_pyNext_dict_item st hm hu fun key h' hkey st' sb=>?_
   have I1:Inv X pins σ H { s with heap:=h' }:=I.turned (t':=s.toks) (fun b ob hb e=>(sb.2 b hb).trans e) f0 f1 f3 f4 f5
   obtain ⟨oi,e,c,dd⟩:=id st'
   refine ⟨key,rfl,yI (s:={ s with heap:=h' }) e c dd (by decide) ⟨kV k,H,I1,Ij (show uz k key=true from hkey),⟨rfl,k,v,hkv,rfl⟩,?_,fun b hb=>(hf b hb).1⟩⟩
   show h'.IsKeyIter it d (i+1) kvs.length _
   rw [hl]
   exact st'
 done:=by
   intro X hP hw hK hc i pins s σ H E I hf st hg
   subst hP hw hK
   obtain ⟨hd,hi⟩:=hg
   obtain ⟨f0,f1,f2,f3,f4,f5⟩:=hf it (by simp)
   obtain ⟨hs,hgd,hx,es',ep',vs,hdt,hsz,kv,hm⟩:=I.Nl hd
   obtain ⟨rfl,rfl⟩:=vz hod hdt
   exact rQ (I.ok.hd hc) st hgd hdt hsz hi fun h' eb=>⟨rfl,I.turned (t':=s.toks) (fun b ob hb e=>eb b ob hb e) f0 f1 f3 f4 f5⟩
 self:=fun A i s Q E st h=>wpAny_pyIter_keyiter st h
theorem D8 {kvs:List (List Key×V)} (it:Addr) (hod:o.data=.dict es ep):Turn P w K tg (Ik d o kvs) [it] it (fun i h=>h.IsKeyIter it d i kvs.length ep) where
 mem:=by simp
 obj:=fun i h st b hb=>by
   have e:b=it:=by simpa using hb
   subst e
   obtain ⟨oi,e,c,dd⟩:=st
   exact ⟨oi,e,fun v z=>by rw [dd] at z;cases z⟩
 keep:=fun i h h' st k=>st.at fun oi e=>k it (by simp) oi e
 item:=by
   intro X hP hw hK hc i pins s σ H E I hf st hg
   subst hP hw hK
   obtain ⟨hd,hi⟩:=hg
   obtain ⟨f0,f1,f2,f3,f4,f5⟩:=hf it (by simp)
   obtain ⟨hs,hgd,hx,es',ep',hdt,hsz,ent⟩:=I.Nm hd
   obtain ⟨rfl,rfl⟩:=vz hod hdt
   obtain ⟨⟨k,v⟩,hkv⟩:∃ p,kvs[i]?=some p:=⟨kvs[i],List.getElem?_eq_getElem hi⟩
   obtain ⟨en,q,hen,hkey,hq⟩:=ent i k v hkv
   refine xZ st hgd hdt hsz hen fun h' st' sb=>?_
   have I1:Inv X pins σ H { s with heap:=h' }:=I.turned (t':=s.toks) (fun b ob hb e=>(sb.2 b hb).trans e) f0 f1 f3 f4 f5
   obtain ⟨oi,e,c,dd⟩:=id st'
   exact ⟨en.key,rfl,yI (s:={ s with heap:=h' }) e c dd (by decide) ⟨.ref q,H,I1,hkey,⟨rfl,k,v,q,hkv,rfl,hq⟩,st',fun b hb=>(hf b hb).1⟩⟩
 done:=by
   intro X hP hw hK hc i pins s σ H E I hf st hg
   subst hP hw hK
   obtain ⟨hd,hi⟩:=hg
   obtain ⟨f0,f1,f2,f3,f4,f5⟩:=hf it (by simp)
   obtain ⟨hs,hgd,hx,es',ep',hdt,hsz,ent⟩:=I.Nm hd
   obtain ⟨rfl,rfl⟩:=vz hod hdt
   exact rQ (I.ok.hd hc) st hgd hdt hsz hi fun h' eb=>⟨rfl,I.turned (t':=s.toks) (fun b ob hb e=>eb b ob hb e) f0 f1 f3 f4 f5⟩
 self:=fun A i s Q E st h=>by
   refine wpAny_pyIter_slot st.typeIs F.slot_dict_keyiterator_iter (wpAny_call_entry F.slot_dict_keyiterator_iter st.typeIs F.entry_dict_keyiterator_iter ?_ (F.args_dict_keyiterator_iter_1 _))
   show wpAny _ _ (ret (.ref it)) _ _ s
   exact wpAny_pure ⟨_,rfl,"dict_keyiterator",_,st.typeIs,F.slot_dict_keyiterator_next.lookup,h⟩
end
def P0 (td:TE):TI:=fun σ H R=>td σ H fun x H1=>∃ d o,x=.ref d/\((∃ kvs,H1 d=some (.jN o (.dK kvs))/\R (T8 d o kvs) H1)\/∃ kvs,H1 d=some (.jN o (.dT kvs))/\R (Ik d o kvs) H1)
section
variable {X:Cx} {tg e:Expr} {td:TE} {apos cpos:Pos}
theorem Ez (he:PE X e td):PI X tg e (P0 td):=by
 intro pins s σ H R I h
 refine cU (he pins s σ H _ I h) fun u s1 ⟨x,H1,I1,rx,d,o,ex,q⟩=>?_
 subst ex
 obtain rfl:u=Value.ref d:=rx
 rcases q with ⟨kvs,hd,q⟩ | ⟨kvs,hd,q⟩
 . obtain ⟨hs,hgd,hx,es,ep,vs,hdt,hsz,kv,hm⟩:=I1.Nl hd
   refine yU hs hgd hx hdt (D5 (tk:=s1.toks) I1 _ (FH _ hdt) ⟨_,Heap.get?_push_size _ rfl,rfl,?_⟩ q)
   rw [hsz]<;>rfl
 . obtain ⟨hs,hgd,hx,es,ep,hdt,hsz,ent⟩:=I1.Nm hd
   refine yU hs hgd hx hdt (D5 (tk:=s1.toks) I1 _ (D8 _ hdt) ⟨_,Heap.get?_push_size _ rfl,rfl,?_⟩ q)
   rw [hsz]<;>rfl
end
def PB (K:PySem.W.Frag) (a:Addr):It:=
 ⟨fun i H=>∃ (xs:List V) (x:V),bM K H a xs/\xs[i]?=some x,fun i H v H'=>∃ T x,v=.ref T/\H T=none/\H'=upd H T (.tup [.int (i:Nat),x])/\∀ xs,bM K H a xs->xs[i]?=some x,fun i H=>∃ xs:List V,bM K H a xs/\xs.length<=i⟩
theorem FI {P:Program} {w:World} {K:PySem.W.Frag} {elts:List Expr} {kk:Nat} {tpos:Pos} (a e it:Addr) :
   Turn P w K (.Tuple elts kk tpos) (PB K a) [e,it] e (fun i h=>(∃ old,IsEnum h e it ((i:Nat):Int) old)/\h.IsListIter it a i/\e ≠ it) where
 mem:=by simp
 obj:=fun i h st b hb=>by
   obtain ⟨⟨old,he⟩,⟨o,ho,hc,hd⟩,_⟩:=st
   have e':b=e\/b=it:=by simpa using hb
   rcases e' with z | z
   . rw [z];exact ⟨_,he,fun v q=>nomatch q⟩
   . rw [z];exact ⟨o,ho,fun v q=>by rw [hd] at q;cases q⟩
 keep:=fun i h h' st k=>let ⟨⟨old,he⟩,hi,hne⟩:=st;⟨⟨old,k e (by simp) _ he⟩,hi.at fun o q=>k it (by simp) o q,hne⟩
 item:=by
   intro X hP hw hK hc i pins s σ H E I hf st hg
   subst hP hw hK
   obtain ⟨⟨old,he⟩,hit,hne⟩:=st
   obtain ⟨xs,x,hq,hx⟩:=hg
   obtain ⟨its,rv,p,hz⟩:=I.list hq
   obtain ⟨u,hu,ru⟩:=rv.get hx
   have hel:e < s.heap.objs.size:=Heap.lt_size he
   have hil:it < s.heap.objs.size:=by obtain ⟨_,q,_⟩:=hit;exact Heap.lt_size q
   refine wpAny_pyNext_enum_item he hit p.isList (x:=u) (by simpa using hu) hne fun h' ho hit' hT hsz hk=>?_
   refine ⟨_,rfl,wpAny_letOwnedTupleGo_enum (s:={ s with heap:=h',toks:=s.toks+1 }) ho fun h'' he' sb=>?_⟩
   have hT2:h''.get? s.heap.objs.size=some { cls:=.type "tuple",data:=.seq #[.int i s.toks,u] }:=(sb.2 _ (Nat.ne_of_gt hel)).trans hT
   have new:cj X.prog X.w (upd H s.heap.objs.size (.tup [.int (i:Nat),x])) h'' s.heap.objs.size (.tup [.int (i:Nat),x]):=
     ⟨by show 2<=sizeLine;decide,[.int i s.toks,u],.cons ⟨_,rfl⟩ (.cons ru .nil),⟨_,hT2,rfl,_,rfl⟩⟩
   have I1:Inv X pins σ (upd H s.heap.objs.size (.tup [.int (i:Nat),x])) { s with heap:=h'',toks:=s.toks+1 }:=
     I.FF (ch:=[e,it]) (fun b ob hb q=>(sb.2 b (fun z=>hb (by simp [z]))).trans (hk b ob (fun z=>hb (by simp [z])) (fun z=>hb (by simp [z])) q)) hf (Nat.le_refl _) new
   refine ⟨.ref s.heap.objs.size,_,I1,rfl,⟨_,x,rfl,I.hok.fresh (Nat.le_refl _),rfl,fun ys hy=>by rw [I.Bj hy hq];exact hx⟩,⟨⟨u,?_⟩,hit'.at fun o q=>(sb.2 it (Ne.symm hne)).trans q,hne⟩,fun b hb=>?_⟩
   . have e1:((i+1:Nat):Int)=(i:Int)+1:=by omega
     rw [e1];exact he'
   . have hb':b < s.heap.objs.size:=by
       have e':b=e\/b=it:=by simpa using hb
       rcases e' with z | z
       . rw [z];exact hel
       . rw [z];exact hil
     rw [ak (Nat.ne_of_lt hb')]
     exact (hf b hb).1
 done:=by
   intro X hP hw hK hc i pins s σ H E I hf st hg
   subst hP hw hK
   obtain ⟨⟨old,he⟩,hit,hne⟩:=st
   obtain ⟨xs,hq,hx⟩:=hg
   obtain ⟨its,rv,p,hz⟩:=I.list hq
   obtain ⟨f0,f1,f2,f3,f4,f5⟩:=hf it (by simp)
   have hl:=rv.length
   exact wpAny_pyNext_enum_end (I.ok.hd hc) he hit p.isList (by simp;omega) fun h' eb=>⟨rfl,I.turned (t':=s.toks) (fun b o hb q=>eb b o hb q) f0 f1 f3 f4 f5⟩
 self:=fun A i s Q E st h=>let ⟨⟨_,he⟩,_⟩:=st;wpAny_pyIter_enum he h
def PD (K:PySem.W.Frag) (ta:TA):TI:=fun σ H R=>ta σ H fun vs H1=>∃ a xs,vs=[.ref a]/\bM K H1 a xs/\R (PB K a) H1
theorem vA {X:Cx} {e:Expr} {ta:TA} {p pos tpos:Pos} {elts:List Expr} {kk:Nat} (hg:Gl X "enumerate") (hm:X.mg "enumerate"=none) (ha:PA X [e] ta) (hs:starEach [e] X.env=[(false,eval e X.env)]:=by rfl) :
   PI X (.Tuple elts kk tpos) (.Call (.Name "enumerate" p) [e] [] pos) (PD X.K ta):=by
 intro pins s σ H R I h
 refine Call_ (wj I hg hm boot_enumerate (PyProof.Rows.callWith_type1 (cU (ha pos pins s σ H _ I h) fun us s1 ⟨vs,H1,I1,r1,q1⟩=>?_) hs rfl))
 obtain ⟨a,xs,ex,hq,q⟩:=q1
 subst ex
 cases r1 with
 | cons r rr=>
   cases rr
   cases r
   obtain ⟨its,rv,p',hz⟩:=I1.list hq
   refine call_enumerate_list p'.isList fun h' he hit hsz hk=>wpAny_pyIter_enum he ?_
   have I2:Inv X pins σ H1 { s1 with heap:=h' }:=I1.kept (t':=s1.toks) hk
   refine ⟨s1.heap.objs.size+1,[s1.heap.objs.size+1,s1.heap.objs.size],_,_,H1,rfl,I2,FI a (s1.heap.objs.size+1) s1.heap.objs.size,⟨⟨.none,he⟩,hit,Nat.succ_ne_self _⟩,fun b hb=>?_,q⟩
   have e':b=s1.heap.objs.size+1\/b=s1.heap.objs.size:=by simpa using hb
   have hle:s1.heap.objs.size<=b:=by
     rcases e' with z | z
     . rw [z];exact Nat.le_add_right _ _
     . rw [z];exact Nat.le_refl _
   exact I1.Fq hle (I1.hok.fresh hle)
end L2
section
namespace RU
open PySem PyProof.Rows
end RU
end
section
namespace TL
open PySem PySem.Builtin PySem.Builtin.Str PySem.StrLaws
end TL
end
namespace L2
open PySem PySem.Spec PyProof.Rows
section
variable {X:Cx} {pins:List (Addr×Obj)} {σ:St} {H:Hp} {s:Shared} {Q:VK}
end
section
variable {X:Cx}
end
section
variable {X:Cx} {o e:Expr} {to te:TE}
end
end L2
namespace L2
open PySem PySem.Spec PyProof.Rows
section
variable {X:Cx}
end
end L2
namespace Vk
open PySem PySem.W PySem.Calls PyProof.Rows
section
variable {prog:Program} {w:World} {A:Around} {E:Value->Shared->Prop} {s:Shared} {K:Frag}
end
end Vk
namespace L2
open PySem PySem.Spec PyProof.Rows
end L2
namespace L2
open PySem PySem.Spec PyProof.Rows
end L2
namespace L2
open PySem PySem.Spec PyProof.Rows
def inClass (s:Stmt) (j:Nat):Stmt:=match s with
 | .ClassDef _ _ _ body _ _ _ _ _ _ _=>body.getD j (.Pass ⟨0,0,0,0⟩)
 | _=>.Pass ⟨0,0,0,0⟩
def qo (s:Stmt):Arguments:=match s with
 | .FunctionDef _ a _ _ _ _ _ _ _ _=>a
 | _=>{ posonlyargs:=[],args:=[],vararg:=none,kwonlyargs:=[],kw_defaults:=[],kwarg:=none,defaults:=[] }
def lC (s:Stmt):List Stmt:=match s with
 | .FunctionDef _ _ b _ _ _ _ _ _ _=>b
 | _=>[]
def aE (s:Stmt):Scope:=match s with
 | .FunctionDef _ _ _ _ _ _ sc _ _ _=>sc
 | _=>{ kind:=.function,names:=[],isGenerator:=false,isCoroutine:=false }
abbrev lS:CW:=fun _ _ _ _ _ _=>False
abbrev E0:XK:=fun _ _ _=>False
theorem cB {X:Cx}:Passes lS X E0:=fun _ _ _ _ _ _ _ h=>h.elim
structure ji (K:PySem.W.Frag) (x qual:Str) (st:Stmt) (f:Addr) (fd:FuncData):Prop where
 ex:∃ (oc:Value) (od:Option Addr) (kV doc pm:Value) (an:Option Addr) (cdv ct:Value) (osl:Array (Option Value)),
   fd=PySem.W.fnOf x qual (qo st) (lC st) (aE st) .none kV doc pm an cdv ct/\K.lookup f=some ⟨oc,od,.func fd,osl⟩/\PySem.W.codeIn K cdv qual=true
 kp:PySem.W.keepIn K (.ref f)=true
section
variable {P:Program} {w:World} {K:PySem.W.Frag} {mg:Str->Option Value} {base:Heap}
theorem ji.ok {x qual:Str} {st:Stmt} {f:Addr} {fd:FuncData} {N ps:List Str} {k:Nat} {sp:Sp} (F:ji K x qual st f fd) (S:aL N ps (aE st)) (len:∀ vs H Q E,sp vs H Q E->vs.length=ps.length)
   (hbody:∀ (cdv:Value) (A:Around) (outer:List Env) (s:Shared) (H:Hp) (vs:List V) (Q:VK) (E:XK),cK k (A.deeper (envOfC qual (aE st) s.heap.objs.size f cdv))->sp vs H Q E->
     ∃ t,Bh (mU lS P w K mg base N qual (aE st) f cdv A outer s H E).OL (lC st) t/\t { nx:=fun _ H'=>Q .non H',rt:=Q } (start N vs) H):bB P w K mg base lS (k+1) f fd ps sp:=by
 obtain ⟨oc,od,kV,doc,pm,an,cdv,ct,osl,rfl,lk,hcd⟩:=F.ex
 refine Mp lk hcd S len fun A outer s H vs Q E hr Dy=>?_
 obtain ⟨t,h,q⟩:=hbody cdv A outer s H vs Q E hr Dy
 exact ⟨t,h.OL,q⟩
theorem ji.binds {x qual:Str} {st:Stmt} {f:Addr} {fd:FuncData} {ps:List Str} (F:ji K x qual st f fd)
   (h:∀ (kV doc pm:Value) (an:Option Addr) (cdv ct:Value) (us:List Value),us.length=ps.length->bindArgs (PySem.W.fnOf x qual (qo st) (lC st) (aE st) .none kV doc pm an cdv ct) ⟨us,[]⟩=pure (ps.zip us)):Binds K fd ps []:=by
 obtain ⟨oc,od,kV,doc,pm,an,cdv,ct,osl,rfl,lk,hcd⟩:=F.ex
 exact .all (h kV doc pm an cdv ct)
theorem Nn {x qual:Str} {st:Stmt} {f:Addr} {oc:Value} {od an:Option Addr} {osl:Array (Option Value)} {kV doc pm cdv ct:Value} (l:K.lookup f=some ⟨oc,od,.func (PySem.W.fnOf x qual (qo st) (lC st) (aE st) .none kV doc pm an cdv ct),osl⟩)
   (c:PySem.W.codeIn K cdv qual=true) (k:PySem.W.keepIn K (.ref f)=true):ji K x qual st f (PySem.W.fnOf x qual (qo st) (lC st) (aE st) .none kV doc pm an cdv ct):=⟨⟨oc,od,kV,doc,pm,an,cdv,ct,osl,rfl,l,c⟩,k⟩
end
section
variable {X:Cx}
theorem pv (i:Nat) {x:Str} {pos:Pos} (hN:X.N[i]?=some x:=by rfl) (hv:MI X.env.scope x:=by first | exact Or.inl rfl | exact Or.inr (Or.inl rfl) | exact Or.inr (Or.inr rfl)) (hd:(x==("__debug__":Str))=false:=by decide)
   (hcd:(x==("__classdict__":Str))=false:=by decide):PE X (.Name x pos) (OH i):=Hz hN hv hd hcd
end
theorem yc {A B:Prop} (h:B):if false=true then A else B:=by
 rw [if_neg Bool.false_ne_true]
 exact h
theorem yd {A B:Prop} (h:A):if true=true then A else B:=by
 rw [if_pos rfl]
 exact h
theorem BC {c A B:Prop} [Decidable c] (h1:c->A) (h2:¬ c->B):if c then A else B:=by
 by_cases h:c
 . rw [if_pos h]
   exact h1 h
 . rw [if_neg h]
   exact h2 h
def aR (H H':Hp):Prop:=∀ b o,H b=some o->H' b=some o
theorem aR.refl (H:Hp):aR H H:=fun _ _ h=>h
theorem aR.trans {H H1 H2:Hp} (a:aR H H1) (b:aR H1 H2):aR H H2:=fun c o h=>b c o (a c o h)
theorem aR.free {H H':Hp} (e:aR H H') {l:Addr} (h:H' l=Option.none):H l=Option.none:=by
 cases q:H l with
 | none=>rfl
 | some o=>
   rw [e l o q] at h
   cases h
section
variable {κ:Type} [DecidableEq κ]
theorem E2:∀ {l:List κ} {k:κ},l.Nodup->¬ k ∈ l->(l++[k]).Nodup
 | [],k,_,_=>by simp
 | a::r,k,h,hk=>by
   obtain ⟨h1,h2⟩:=List.nodup_cons.mp h
   show (a::(r++[k])).Nodup
   refine List.nodup_cons.mpr ⟨fun m=>?_,E2 h2 fun m=>hk (List.mem_cons.mpr (Or.inr m))⟩
   rcases List.mem_append.mp m with q | q
   . exact h1 q
   . exact hk (List.mem_cons.mpr (Or.inl (List.mem_singleton.mp q).symm))
end
theorem at_of {xs:List V} {z:Int} {j:Nat} {v:V} (e:z=(j:Int)) (h:xs[j]?=some v):Hs xs z=some v:=by
 rw [e]
 exact bK h
theorem PF {α:Type} {l:List α} (hN:l.Nodup) {i j:Nat} {x:α} (a:l[i]?=some x) (b:l[j]?=some x):i=j:=by
 obtain ⟨h1,e1⟩:=List.getElem?_eq_some_iff.mp a
 obtain ⟨h2,e2⟩:=List.getElem?_eq_some_iff.mp b
 exact (List.getElem_inj hN).mp (e1.trans e2.symm)
end L2
section
namespace L2
open PySem PySem.Spec PyProof.Rows
open PySem.W (WData Codec OpenSpec Well WellAll ReadsW ReadsAllW)
mutual
inductive Dw (K:PySem.W.Frag) (H:Hp):V->WData->Prop
 | non:Dw K H .non .none
 | bl (b:Bool):Dw K H (.bl b) (.bool b)
 | int (i:Int):Dw K H (.int i) (.int i)
 | str (x:Str):Dw K H (.str x) (.str x)
 | Bc (b:Array UInt8):Dw K H (.Bc b) (.bytes b.toList)
 | lst {a:Addr} {xs:List V} {ds:List WData}:bM K H a xs->nL K H xs ds->Dw K H (.ref a) (.list ds)
 | tup {a:Addr} {xs:List V} {ds:List WData}:mr K H a xs->nL K H xs ds->Dw K H (.ref a) (.tuple ds)
inductive nL (K:PySem.W.Frag) (H:Hp):List V->List WData->Prop
 | nil:nL K H [] []
 | cons {v:V} {vs:List V} {d:WData} {ds:List WData}:Dw K H v d->nL K H vs ds->nL K H (v::vs) (d::ds)
end
theorem E3 {K:PySem.W.Frag} {H:Hp}:∀ ns:List Int,nL K H (ns.map V.int) (ns.map WData.int)
 | []=>.nil
 | n::r=>.cons (.int n) (E3 r)
theorem E4 {K:PySem.W.Frag} {H:Hp}:∀ (ns:List Int) (xs:List V),nL K H xs (ns.map WData.int)->xs=ns.map V.int
 | [],xs,h=>by
   cases h
   rfl
 | n::r,xs,h=>by
   cases h with
   | cons h1 h2=>
     cases h1
     rw [E4 r _ h2]<;>rfl
section
variable {P:Program} {w:World} {K:PySem.W.Frag} {H:Hp} {h:Heap} {R:PySem.W.WRecords} {cl:Str->Option Addr}
theorem Np {a:Addr} {xs:List V} (hok:nI P w H h) (KX:K.In h) (q:bM K H a xs):∃ (its:List Value) (o:Obj) (n:Nat),Vals xs its/\h.get? a=some o/\o.cls=.type "list"/\o.data=.seq its.toArray n:=by
 rcases q with q | ⟨o,its,n,e,hc,_,hd,_,hv⟩
 . obtain ⟨_,its,n,hv,e⟩:=(show cj P w H h a (.lst xs) from q.ok hok)
   exact ⟨its,_,n,hv,e,rfl,rfl⟩
 . exact ⟨its.toList,o,n,hv,KX _ _ e,hc,by simp [hd]⟩
theorem Nq {a:Addr} {xs:List V} (hok:nI P w H h) (KX:K.In h) (q:mr K H a xs):∃ (its:List Value) (o:Obj) (n:Nat),Vals xs its/\h.get? a=some o/\o.cls=.type "tuple"/\o.data=.seq its.toArray n:=by
 rcases q with q | ⟨o,its,n,e,hc,hd,_,hv⟩
 . obtain ⟨_,its,hv,o,e,hc,n,hd⟩:=(show cj P w H h a (.tup xs) from q.ok hok)
   exact ⟨its,o,n,hv,e,hc,hd⟩
 . exact ⟨its.toList,o,n,hv,KX _ _ e,hc,by simp [hd]⟩
mutual
theorem Dw.reads (hok:nI P w H h) (KX:K.In h):∀ (d:WData) (v:V) (u:Value),Dw K H v d->RelV v u->∃ as,ReadsW R cl h u d as
 | .none,_,_,x,r=>by
   cases x
   cases r
   exact ⟨_,ReadsW.none⟩
 | .bool b,_,_,x,r=>by
   cases x
   cases r
   exact ⟨_,ReadsW.bool b⟩
 | .int i,_,_,x,r=>by
   cases x
   obtain ⟨t,rfl⟩:=r
   exact ⟨_,ReadsW.int i t⟩
 | .str s,_,_,x,r=>by
   cases x
   obtain ⟨t,rfl⟩:=r
   exact ⟨_,ReadsW.str s t⟩
 | .bytes b,_,_,x,r=>by
   cases x
   obtain ⟨t,rfl⟩:=r
   exact ⟨_,ReadsW.bytes _ t⟩
 | .list ds,_,_,x,r=>by
   cases x with
   | lst hs ha=>
     cases r
     obtain ⟨its,o,n,rv,ho,hc,hd⟩:=Np hok KX hs
     obtain ⟨as,hr⟩:=Dw.readsAll hok KX ds _ its ha rv
     exact ⟨_,ReadsW.list ho hc hd hr⟩
 | .tuple ds,_,_,x,r=>by
   cases x with
   | tup hs ha=>
     cases r
     obtain ⟨its,o,n,rv,ho,hc,hd⟩:=Nq hok KX hs
     obtain ⟨as,hr⟩:=Dw.readsAll hok KX ds _ its ha rv
     exact ⟨_,ReadsW.tuple ho hc hd hr⟩
 | .float _,_,_,x,_=>by cases x
 | .dict _,_,_,x,_=>by cases x
 | .bytearray _,_,_,x,_=>by cases x
 | .set _,_,_,x,_=>by cases x
 | .frozenset _,_,_,x,_=>by cases x
 | .obj _ _,_,_,x,_=>by cases x
theorem Dw.readsAll (hok:nI P w H h) (KX:K.In h):∀ (ds:List WData) (vs:List V) (us:List Value),nL K H vs ds->Vals vs us->∃ as,ReadsAllW R cl h us ds as
 | [],_,_,x,r=>by
   cases x
   cases r
   exact ⟨_,ReadsAllW.nil⟩
 | d::ds,_,_,x,r=>by
   cases x with
   | cons h1 h2=>
     cases r with
     | cons r1 r2=>
       obtain ⟨as,q1⟩:=Dw.reads hok KX d _ _ h1 r1
       obtain ⟨bs,q2⟩:=Dw.readsAll hok KX ds _ _ h2 r2
       exact ⟨_,ReadsAllW.cons q1 q2⟩
end
end
mutual
def E5:WData->Bool
 | .none=>true
 | .bool _=>true
 | .int _=>true
 | .str _=>true
 | .bytes _=>true
 | .list xs=>uI xs
 | .tuple xs=>uI xs
 | _=>false
def uI:List WData->Bool
 | []=>true
 | x::r=>E5 x&&uI r
end
theorem BD {α:Type} {f:α->WData} (h:∀ a,E5 (f a)=true):∀ l:List α,uI (l.map f)=true
 | []=>rfl
 | x::r=>by
   show (E5 (f x)&&uI (r.map f))=true
   rw [h x,BD h r]<;>rfl
theorem oU:∀ (c:Codec) (a:c.denote),E5 (c.enc a)=true
 | .unit,_=>rfl
 | .bool,_=>rfl
 | .int _ _,_=>rfl
 | .nat _ _,_=>rfl
 | .u8,_=>rfl
 | .bytes _ _,_=>rfl
 | .text _ _ _ _,_=>rfl
 | .list _ _ c,a=>BD (fun x=>oU c x) a
 | .pair c d,a=>by
   show (E5 (c.enc a.1)&&(E5 (d.enc a.2)&&true))=true
   rw [oU c a.1,oU d a.2]<;>rfl
 | .triple c d e,a=>by
   show (E5 (c.enc a.1)&&(E5 (d.enc a.2.1)&&(E5 (e.enc a.2.2)&&true)))=true
   rw [oU c a.1,oU d a.2.1,oU e a.2.2]<;>rfl
 | .option c,none=>rfl
 | .option c,some x=>oU c x
theorem yV:∀ (cs:List Codec) (a:Codec.denoteAll cs),uI (Codec.encAll cs a)=true
 | [],_=>rfl
 | c::cs,a=>by
   show (E5 (c.enc a.1)&&uI (Codec.encAll cs a.2))=true
   rw [oU c a.1,yV cs a.2]<;>rfl
theorem rj:∀ {xs:List WData} {d:WData},d ∈ xs->d.weight<=WData.weightAll xs
 | [],d,h=>absurd h (by simp)
 | x::r,d,h=>by
   show d.weight<=x.weight+1+WData.weightAll r
   rcases List.mem_cons.mp h with e | m
   . rw [e]
     omega
   . have z:=rj m
     omega
def toV:Value->V
 | .none=>.non
 | .bool b=>.bl b
 | .int i _=>.int i
 | .str x _=>.str x
 | .bytes b _=>.Bc b
 | .ref a=>.ref a
 | _=>.non
def FL (A:List Addr):Value->Prop
 | .none=>True
 | .bool _=>True
 | .int _ _=>True
 | .str _ _=>True
 | .bytes _ _=>True
 | .ref a=>a ∈ A
 | _=>False
theorem FL.mono {A B:List Addr} (h:∀ a ∈ A,a ∈ B):∀ {u:Value},FL A u->FL B u:=fun {u} x=>by
 cases u with
 | ref a=>exact h a x
 | none=>trivial
 | bool b=>trivial
 | int i t=>trivial
 | str s t=>trivial
 | bytes b t=>trivial
 | _=>exact False.elim x
theorem Il {A:List Addr} {u:Value} (x:FL A u):RelV (toV u) u:=by
 cases u with
 | ref a=>rfl
 | none=>rfl
 | bool b=>rfl
 | int i t=>exact ⟨t,rfl⟩
 | str s t=>exact ⟨t,rfl⟩
 | bytes b t=>exact ⟨t,rfl⟩
 | _=>exact False.elim x
theorem m7 {A:List Addr}:∀ {vs:List Value},(∀ u ∈ vs,FL A u)->Vals (vs.map toV) vs
 | [],_=>.nil
 | u::r,h=>.cons (Il (h u (List.mem_cons_self ..))) (m7 fun x hx=>h x (List.mem_cons_of_mem _ hx))
def nM (h:Heap) (A:List Addr) (a:Addr):Prop:=∃ vs:List Value,vs.length<=sizeLine/\(∀ u ∈ vs,FL A u) /\
 (h.get? a=some { cls:=.type "list",data:=.seq vs.toArray }\/h.get? a=some { cls:=.type "tuple",data:=.seq vs.toArray })
theorem nM.mono {h:Heap} {A B:List Addr} {a:Addr} (k:∀ a ∈ A,a ∈ B) (x:nM h A a):nM h B a:=by
 obtain ⟨vs,h1,h2,h3⟩:=x
 exact ⟨vs,h1,fun u hu=>(h2 u hu).mono k,h3⟩
theorem lD {P:Params} {h:Heap}:∀ {vs:List Value} {ds:List WData},WellAll P h vs ds->vs.length=ds.length
 | _,_,.nil=>rfl
 | _,_,.cons _ b=>by
   show _+1=_+1
   rw [lD b]
theorem yW {P:Params} {h:Heap} {v:Value} {ds:List WData} (x:Well P h v (.list ds)):∃ (a:Addr) (vs:List Value),v=.ref a/\h.get? a=some { cls:=.type "list",data:=.seq vs.toArray }/\WellAll P h vs ds:=by
 cases x with
 | list ho hall=>exact ⟨_,_,rfl,ho,hall⟩
theorem wJ {P:Params} {h:Heap} {v:Value} {ds:List WData} (x:Well P h v (.tuple ds)):∃ (a:Addr) (vs:List Value),v=.ref a/\h.get? a=some { cls:=.type "tuple",data:=.seq vs.toArray }/\WellAll P h vs ds:=by
 cases x with
 | tuple ho hall=>exact ⟨_,_,rfl,ho,hall⟩
theorem yX {P:Params} {h:Heap} {us:List Value} {d:WData} {ds:List WData} (x:WellAll P h us (d::ds)):∃ (v:Value) (vs:List Value),us=v::vs/\Well P h v d/\WellAll P h vs ds:=by
 cases x with
 | cons a b=>exact ⟨_,_,rfl,a,b⟩
theorem E6 {n:Nat} (h:n<=1048576):n<=sizeLine:=Nat.le_trans h (by decide)
section
variable {P:Params} {h:Heap}
mutual
theorem Im:∀ (d:WData) (v:Value),Well P h v d->E5 d=true->d.weight<=1048576->∃ A:List Addr,FL A v/\∀ a ∈ A,nM h A a
 | .none,_,x,_,_=>by
   cases x
   exact ⟨[],trivial,fun a m=>absurd m (by simp)⟩
 | .bool b,_,x,_,_=>by
   cases x
   exact ⟨[],trivial,fun a m=>absurd m (by simp)⟩
 | .int i,_,x,_,_=>by
   cases x
   exact ⟨[],trivial,fun a m=>absurd m (by simp)⟩
 | .str s,_,x,_,_=>by
   cases x
   exact ⟨[],trivial,fun a m=>absurd m (by simp)⟩
 | .bytes b,_,x,_,_=>by
   cases x
   exact ⟨[],trivial,fun a m=>absurd m (by simp)⟩
 | .list ds,_,x,p,z=>by
   obtain ⟨a,vs,rfl,ho,hall⟩:=yW x
   have z2:WData.weightAll ds<=1048576:=z
   obtain ⟨A,h1,h2⟩:=rR ds _ hall p fun d hd=>Nat.le_trans (rj hd) z2
   have k:∀ b ∈ A,b ∈ a::A:=fun b hb=>List.mem_cons_of_mem _ hb
   refine ⟨a::A,List.mem_cons_self ..,fun b hb=>?_⟩
   rcases List.mem_cons.mp hb with e | m
   . rw [e]
     exact ⟨vs,E6 (by rw [lD hall];exact Nat.le_trans (PySem.W.length_le_weightAllW ds) z2),fun u hu=>(h1 u hu).mono k,.inl ho⟩
   . exact (h2 b m).mono k
 | .tuple ds,_,x,p,z=>by
   obtain ⟨a,vs,rfl,ho,hall⟩:=wJ x
   have z2:WData.weightAll ds<=1048576:=z
   obtain ⟨A,h1,h2⟩:=rR ds _ hall p fun d hd=>Nat.le_trans (rj hd) z2
   have k:∀ b ∈ A,b ∈ a::A:=fun b hb=>List.mem_cons_of_mem _ hb
   refine ⟨a::A,List.mem_cons_self ..,fun b hb=>?_⟩
   rcases List.mem_cons.mp hb with e | m
   . rw [e]
     exact ⟨vs,E6 (by rw [lD hall];exact Nat.le_trans (PySem.W.length_le_weightAllW ds) z2),fun u hu=>(h1 u hu).mono k,.inr ho⟩
   . exact (h2 b m).mono k
 | .float _,_,_,p,_=>Bool.noConfusion (show false=true from p)
 | .dict _,_,_,p,_=>Bool.noConfusion (show false=true from p)
 | .bytearray _,_,_,p,_=>Bool.noConfusion (show false=true from p)
 | .set _,_,_,p,_=>Bool.noConfusion (show false=true from p)
 | .frozenset _,_,_,p,_=>Bool.noConfusion (show false=true from p)
 | .obj _ _,_,_,p,_=>Bool.noConfusion (show false=true from p)
theorem rR:∀ (ds:List WData) (vs:List Value),WellAll P h vs ds->uI ds=true->(∀ d ∈ ds,d.weight<=1048576)->∃ A:List Addr,(∀ u ∈ vs,FL A u)/\∀ a ∈ A,nM h A a
 | [],_,x,_,_=>by
   cases x
   exact ⟨[],fun u m=>absurd m (by simp),fun a m=>absurd m (by simp)⟩
 | d::ds,_,x,p,z=>by
   obtain ⟨v,vs,rfl,x1,x2⟩:=yX x
   have q:E5 d=true/\uI ds=true:=Bool.and_eq_true_iff.mp p
   obtain ⟨A,a1,a2⟩:=Im d v x1 q.1 (z d (List.mem_cons_self ..))
   obtain ⟨B,b1,b2⟩:=rR ds vs x2 q.2 fun e he=>z e (List.mem_cons_of_mem _ he)
   have kA:∀ b ∈ A,b ∈ A++B:=fun b hb=>List.mem_append.mpr (.inl hb)
   have kB:∀ b ∈ B,b ∈ A++B:=fun b hb=>List.mem_append.mpr (.inr hb)
   refine ⟨A++B,fun u hu=>?_,fun b hb=>?_⟩
   . rcases List.mem_cons.mp hu with e | m
     . rw [e]
       exact a1.mono kA
     . exact (b1 u m).mono kB
   . rcases List.mem_append.mp hb with m | m
     . exact (a2 b m).mono kA
     . exact (b2 b m).mono kB
end
end
def K8 (o:Obj):Option HO:=match o.data with
 | .seq vs _=>if (o.cls==Value.type "list")=true then some (.jN o (.lst (vs.toList.map toV))) else some (.jN o (.tup (vs.toList.map toV)))
 | _=>none
def mV (K:PySem.W.Frag) (h:Heap) (A:List Addr):Hp:=fun b=>if b ∈ A then (if (K.lookup b).isNone=true then (h.get? b).bind K8 else none) else none
def yY (H:Hp):Prop:=∀ b,H b=none\/∃ o u,H b=some (.jN o u)
theorem BE (vs:List Value):K8 { cls:=.type "list",data:=.seq vs.toArray }=some (.jN { cls:=.type "list",data:=.seq vs.toArray } (.lst (vs.map toV))):=by
 show (if (Value.type "list"==Value.type "list")=true then some (HO.jN { cls:=.type "list",data:=.seq vs.toArray } (.lst (vs.toArray.toList.map toV))) else some (HO.jN { cls:=.type "list",data:=.seq vs.toArray } (.tup (vs.toArray.toList.map toV))))=_
 rw [if_pos (beq_self_eq_true _)]
theorem BF (vs:List Value):K8 { cls:=.type "tuple",data:=.seq vs.toArray }=some (.jN { cls:=.type "tuple",data:=.seq vs.toArray } (.tup (vs.map toV))):=by
 show (if (Value.type "tuple"==Value.type "list")=true then some (HO.jN { cls:=.type "tuple",data:=.seq vs.toArray } (.lst (vs.toArray.toList.map toV))) else some (HO.jN { cls:=.type "tuple",data:=.seq vs.toArray } (.tup (vs.toArray.toList.map toV))))=_
 rw [if_neg (by decide)]
section
variable {P:Program} {w:World} {K:PySem.W.Frag} {h:Heap} {A:List Addr}
theorem vC {b:Addr} {o:Obj} (hb:b ∈ A) (hk:K.lookup b=none) (e:h.get? b=some o):mV K h A b=K8 o:=by
 unfold mV
 rw [if_pos hb,hk,if_pos (show (none:Option Obj).isNone=true from rfl),e]<;>rfl
theorem K9 {b:Addr} {u:HO} (q:mV K h A b=some u):b ∈ A/\K.lookup b=none:=by
 unfold mV at q
 by_cases hb:b ∈ A
 . rw [if_pos hb] at q
   cases hk:K.lookup b with
   | none=>exact ⟨hb,rfl⟩
   | some o=>
     rw [hk,if_neg (by simp)] at q
     cases q
 . rw [if_neg hb] at q
   cases q
theorem vD (ar:∀ a ∈ A,nM h A a) {b:Addr} {u:HO} (q:mV K h A b=some u):K.lookup b=none/\∃ vs:List Value,vs.length<=sizeLine/\(∀ u ∈ vs,FL A u) /\
   ((h.get? b=some { cls:=.type "list",data:=.seq vs.toArray }/\u=.jN { cls:=.type "list",data:=.seq vs.toArray } (.lst (vs.map toV))) \/
    (h.get? b=some { cls:=.type "tuple",data:=.seq vs.toArray }/\u=.jN { cls:=.type "tuple",data:=.seq vs.toArray } (.tup (vs.map toV)))):=by
 obtain ⟨hb,hk⟩:=K9 q
 obtain ⟨vs,h1,h2,h3⟩:=ar b hb
 refine ⟨hk,vs,h1,h2,?_⟩
 rcases h3 with e | e
 . rw [vC hb hk e,BE] at q
   exact .inl ⟨e,(Option.some.inj q).symm⟩
 . rw [vC hb hk e,BF] at q
   exact .inr ⟨e,(Option.some.inj q).symm⟩
theorem FN (ar:∀ a ∈ A,nM h A a):yY (mV K h A):=fun b=>by
 cases q:mV K h A b with
 | none=>exact .inl rfl
 | some u=>
   obtain ⟨_,vs,_,_,⟨_,e⟩ | ⟨_,e⟩⟩:=vD ar q
   . exact .inr ⟨_,_,by rw [e]⟩
   . exact .inr ⟨_,_,by rw [e]⟩
theorem KA (ar:∀ a ∈ A,nM h A a):nI P w (mV K h A) h:=fun b u q=>by
 obtain ⟨_,vs,h1,h2,⟨e,rfl⟩ | ⟨e,rfl⟩⟩:=vD ar q
 . exact ⟨e,by rw [List.length_map];exact h1,vs,_,m7 h2,e⟩
 . exact ⟨e,by rw [List.length_map];exact h1,vs,m7 h2,_,e,rfl,_,rfl⟩
theorem vE {c c':Value} {vs us:List Value} (e:(some { cls:=c,data:=.seq vs.toArray }:Option Obj)=some { cls:=c',data:=.seq us.toArray }):c=c'/\vs=us:=by
 have e1:=Option.some.inj e
 have e2:c=c':=congrArg Obj.cls e1
 have e3:Data.seq vs.toArray=Data.seq us.toArray:=congrArg Obj.data e1
 injection e3 with e4
 refine ⟨e2,?_⟩
 have e5:=congrArg Array.toList e4
 simpa using e5
theorem RV (KX:K.In h) (ar:∀ a ∈ A,nM h A a) {a:Addr} {vs:List Value} (ha:a ∈ A) (e:h.get? a=some { cls:=.type "list",data:=.seq vs.toArray }):(∀ u ∈ vs,FL A u)/\bM K (mV K h A) a (vs.map toV):=by
 obtain ⟨us,h1,h2,h3⟩:=ar a ha
 have hu:us=vs:=by
   rcases h3 with q | q
   . rw [e] at q
     exact (vE q).2.symm
   . rw [e] at q
     exact absurd (Value.type.inj (vE q).1) (by decide)
 subst hu
 refine ⟨h2,?_⟩
 cases hk:K.lookup a with
 | none=>exact .inl (.inr ⟨_,by rw [vC ha hk e,BE]⟩)
 | some o=>
   have e2:=KX a o hk
   rw [e] at e2
   obtain rfl:=Option.some.inj e2
   exact .inr ⟨_,us.toArray,_,hk,rfl,rfl,rfl,by rw [List.size_toArray];exact h1,by simpa using m7 h2⟩
theorem RW (KX:K.In h) (ar:∀ a ∈ A,nM h A a) {a:Addr} {vs:List Value} (ha:a ∈ A) (e:h.get? a=some { cls:=.type "tuple",data:=.seq vs.toArray }):(∀ u ∈ vs,FL A u)/\mr K (mV K h A) a (vs.map toV):=by
 obtain ⟨us,h1,h2,h3⟩:=ar a ha
 have hu:us=vs:=by
   rcases h3 with q | q
   . rw [e] at q
     exact absurd (Value.type.inj (vE q).1) (by decide)
   . rw [e] at q
     exact (vE q).2.symm
 subst hu
 refine ⟨h2,?_⟩
 cases hk:K.lookup a with
 | none=>exact .inl (.inr ⟨_,by rw [vC ha hk e,BF]⟩)
 | some o=>
   have e2:=KX a o hk
   rw [e] at e2
   obtain rfl:=Option.some.inj e2
   exact .inr ⟨_,us.toArray,_,hk,rfl,rfl,by rw [List.size_toArray];exact h1,by simpa using m7 h2⟩
mutual
theorem Nr {Pm:Params} (KX:K.In h) (ar:∀ a ∈ A,nM h A a):∀ (d:WData) (v:Value),Well Pm h v d->E5 d=true->FL A v->Dw K (mV K h A) (toV v) d
 | .none,_,x,_,_=>by
   cases x
   exact .non
 | .bool b,_,x,_,_=>by
   cases x
   exact .bl b
 | .int i,_,x,_,_=>by
   cases x
   exact .int i
 | .str s,_,x,_,_=>by
   cases x
   exact .str s
 | .bytes b,_,x,_,_=>by
   cases x
   have z:=Dw.Bc (K:=K) (H:=mV K h A) b.toArray
   exact z
 | .list ds,_,x,p,hu=>by
   obtain ⟨a,vs,rfl,ho,hall⟩:=yW x
   obtain ⟨h2,hs⟩:=RV KX ar hu ho
   exact .lst hs (zL KX ar ds _ hall p h2)
 | .tuple ds,_,x,p,hu=>by
   obtain ⟨a,vs,rfl,ho,hall⟩:=wJ x
   obtain ⟨h2,hs⟩:=RW KX ar hu ho
   exact .tup hs (zL KX ar ds _ hall p h2)
 | .float _,_,_,p,_=>Bool.noConfusion (show false=true from p)
 | .dict _,_,_,p,_=>Bool.noConfusion (show false=true from p)
 | .bytearray _,_,_,p,_=>Bool.noConfusion (show false=true from p)
 | .set _,_,_,p,_=>Bool.noConfusion (show false=true from p)
 | .frozenset _,_,_,p,_=>Bool.noConfusion (show false=true from p)
 | .obj _ _,_,_,p,_=>Bool.noConfusion (show false=true from p)
theorem zL {Pm:Params} (KX:K.In h) (ar:∀ a ∈ A,nM h A a):∀ (ds:List WData) (vs:List Value),WellAll Pm h vs ds->uI ds=true->(∀ u ∈ vs,FL A u)->nL K (mV K h A) (vs.map toV) ds
 | [],_,x,_,_=>by
   cases x
   exact .nil
 | d::ds,_,x,p,hu=>by
   obtain ⟨v,vs,rfl,x1,x2⟩:=yX x
   have q:E5 d=true/\uI ds=true:=Bool.and_eq_true_iff.mp p
   exact .cons (Nr KX ar d v x1 q.1 (hu _ (List.mem_cons_self ..))) (zL KX ar ds vs x2 q.2 fun u m=>hu u (List.mem_cons_of_mem _ m))
end
end
theorem FO {P:Program} {w:World} {K:PySem.W.Frag} {mg mb:Str->Option Value} {CX:CW} {k:Nat} {fa:Addr} {fd:FuncData} {ps:List Str} {sp:Sp} {s₁:Shared} {vals:List Value} {ds:List WData} {R:PySem.W.WRecords} {cl:Str->Option Addr} {d0:WData}
   (KX:K.In s₁.heap) (hns:s₁.heap.Ns mainGlobals mg) (hb:s₁.heap.Ns builtinsNs mb) (Vl:∀ x:Str,x ≠ "__name__"->mb x=bootBuiltins x) (hlim:s₁.heap.NoLimit) (hg:s₁.gens=#[])
   (hwl:WellAll w.params s₁.heap vals ds) (hpl:uI ds=true) (Vm:∀ d ∈ ds,d.weight<=1048576) (hr:cK k callerA)
   (F:∀ base:Heap,K.In base->base.Ns mainGlobals mg->bB P w K mg base CX k fa fd ps sp) (hbind:∀ (s:Shared) (us:List Value),us.length=ps.length->BindsTo s fd ⟨us,[]⟩ (ps.zip us)) (hlen:ds.length=ps.length)
   (Dy:∀ (H:Hp) (xs:List V),yY H->nL K H xs ds->sp xs H (fun v H'=>Dw K H' v d0) fun _ _ _=>False)
   (PJ:∀ H e s',CX [] H s₁ (fun _ _ _=>False) e s'->False) :
   codeAny (model P w) callerA (.call (.ref fa) ⟨vals,[]⟩) (fun r s'=>∃ u as,r=.ok (.ret u)/\ReadsW R cl s'.heap u d0 as/\OldK s₁.heap s'.heap/\s'.os=s₁.os/\AllBare s'.gens) s₁:=by
 obtain ⟨A,ho,ar⟩:=rR ds vals hwl hpl Vm
 have hO:yY (mV K s₁.heap A):=FN ar
 have hok:nI P w (mV K s₁.heap A) s₁.heap:=KA ar
 have hS:=zL KX ar ds vals hwl hpl ho
 have hV:=m7 ho
 have hK:∀ b u,mV K s₁.heap A b=some u->K.lookup b=none:=fun b u q=>(vD ar q).1
 have O6:∀ {b:Addr} {o:Obj} {es:Array DictEntry} {ep:Nat},s₁.heap.get? b=some o->o.data=.dict es ep->mV K s₁.heap A b=none:=fun {b o es ep} e d=>by
   cases q:mV K s₁.heap A b with
   | none=>rfl
   | some u=>
     obtain ⟨_,vs,_,_,⟨e2,_⟩ | ⟨e2,_⟩⟩:=vD ar q
     . rw [e2] at e
       cases e
       have d':Data.seq vs.toArray _=Data.dict es ep:=d
       cases d'
     . rw [e2] at e
       cases e
       have d':Data.seq vs.toArray _=Data.dict es ep:=d
       cases d'
 generalize mV K s₁.heap A=H at hO hok hS hK O6
 have E7:∀ {b:Addr} {o:Obj},s₁.heap.get? b=some o->H b=none->(z0 s₁.heap H).get? b=some o:=fun e n=>Hw e n
 have QM:∀ {b:Addr} {m:Str->Option Value},s₁.heap.Ns b m->(z0 s₁.heap H).Ns b m:=fun {b m} ⟨o,es,ep,e,d,r⟩=>⟨o,es,ep,E7 e (O6 e d),d,r⟩
 have nK:∀ b o,K.lookup b=some o->H b=none:=fun b o e=>by
   cases q:H b with
   | none=>rfl
   | some u=>
     rw [hK b u q] at e
     cases e
 have T9:K.In (z0 s₁.heap H):=fun b o e=>E7 (KX b o e) (nK b o e)
 have hM:Mod K mg (z0 s₁.heap H):=⟨T9,QM hns,⟨mb,QM hb,Vl⟩,let ⟨mc,h1,h2⟩:=hlim;⟨mc,QM h1,h2⟩⟩
 have e0:zC P w K mg (z0 s₁.heap H) callerA [] s₁ H:=⟨rfl,hM,fun b o e=>Kg e,Nat.le_of_eq (Fl _ _),trivial,fun b hb=>absurd (show b ∈ ([]:List Addr) from hb) (by simp),hok,.of_eq hg⟩
 have hl:vals.length=ps.length:=by rw [lD hwl];exact hlen
 refine codeAny_mono ((F _ T9 (QM hns)).run callerA [] s₁ H ⟨vals,[]⟩ vals (vals.map toV) _ _ hr e0 (hbind s₁ vals hl) hV (Dy H _ hO hS)) fun r s' x=>?_
 cases r with
 | error e=>exact (PJ H e s' x).elim
 | ok fl=>
   cases fl with
   | next=>exact False.elim x
   | brk=>exact False.elim x
   | cont=>exact False.elim x
   | ret u=>
     obtain ⟨v,H',os,bare,un,hok',r',q⟩:=x
     have kept:∀ b o,s₁.heap.get? b=some o->s'.heap.get? b=some o:=fun b o e=>by
       cases q2:H b with
       | none=>exact un.keep b o e q2 (by intro z;exact absurd (show b ∈ ([]:List Addr) from z) (by simp)) (by simp)
       | some u2=>
         rcases hO b with z | ⟨ob,u3,z⟩
         . rw [q2] at z
           cases z
         . have z2:=un.qZ b ob _ z
           obtain ⟨e1,_⟩:=hok b _ z
           obtain ⟨e2,_⟩:=hok' b _ z2
           rw [e] at e1
           cases e1
           exact e2
     have Vn:K.In s'.heap:=fun b o e=>kept b o (KX b o e)
     obtain ⟨as,hrd⟩:=Dw.reads (R:=R) (cl:=cl) hok' Vn d0 v u q r'
     exact ⟨u,as,rfl,hrd,OldK.of_keep kept,os,bare⟩
theorem wK {ds:List WData} (h:WData.layableAll ds=true):∀ d ∈ ds,d.weight<=1048576:=fun d hd=>
 (PySem.W.layableW_iff.mp (List.all_eq_true.mp h d hd)).2.2
theorem wL:∀ (cs:List Codec) (a:Codec.denoteAll cs),(Codec.encAll cs a).length=cs.length
 | [],_=>rfl
 | c::cs,a=>by
   show (Codec.encAll cs a.2).length+1=cs.length+1
   rw [wL cs a.2]
theorem FP {r:OpenSpec} {k:Nat} {q:Program} {loose:List Str} {XP:(Str->Option Value)->Heap->Prop} {YP:World->Heap->Prop} {d:DefRec} {K:Params->PySem.W.Frag} {CX:World->CW} {ps:List Str} {sp:World->Sp}
   (Io:r.wellSaid=true) (hdf:d.params.defaults=[]) (hlen:r.args.length=ps.length) (hr:cK k callerA)
   (hY:∀ (w:World) (h:Heap),YP w h->(K w.params).In h)
   (F:∀ (w:World) (mg:Str->Option Value) (fa:Addr) (h:Heap),YP w h->(K w.params).In h->h.Ns mainGlobals mg->mg d.name=some (.ref fa)->
     ∃ fd:FuncData,(∀ (s:Shared) (us:List Value),us.length=ps.length->BindsTo s fd ⟨us,[]⟩ (ps.zip us)) /\
       ∀ base:Heap,(K w.params).In base->base.Ns mainGlobals mg->bB r.prog w (K w.params) mg base (CX w) k fa fd ps (sp w))
   (Dy:∀ (w:World) (H:Hp) (xs:List V) (a:Codec.denoteAll r.args),yY H->Codec.withinAll r.args a=true->Codec.app r.args r.asked a=true->nL (K w.params) H xs (Codec.encAll r.args a)->
     sp w xs H (fun v H'=>Dw (K w.params) H' v (r.ret.enc (Codec.app r.args r.f a))) fun _ _ _=>False)
   (PJ:∀ (w:World) (H:Hp) (s:Shared) (e:Value) (s':Shared),CX w [] H s (fun _ _ _=>False) e s'->False) :
   PySem.W.WalkOS q loose XP YP r d [] (fun f vs=>PySem.call f vs):=by
 intro w t9 s₁ mg mb G Y fa o pm cd doc dV kV ho hd hcd hD hmg hg args vals as hpre hlay hrd hwl hlo
 obtain ⟨a,e1,e2⟩:=PySem.W.os_pre_some hpre
 obtain ⟨e3,hwi⟩:=Codec.encAll_of_decAll r.args args a e1
 subst e3
 have KX:=hY w _ Y
 obtain ⟨fd,hb,hF⟩:=F w mg fa _ Y KX G.T.g hmg
 refine PySem.W.enter_call (codeAny_mono (FO (R:=[]) (cl:=classAt t9.heap) (d0:=r.ret.enc (Codec.app r.args r.f a)) KX G.T.g G.T.b G.T.builtins G.T.nolimit hg hwl (yV _ _) (wK hlay) hr hF hb (by rw [wL];exact hlen)
   (fun H xs hO hS=>Dy w H xs a hO hwi e2 hS) fun H e s'=>PJ w H s₁ e s') fun r' s' hq=>?_)
 obtain ⟨u,as',rfl,h1,h2,h3,h4⟩:=hq
 exact ⟨.inl ⟨u,_,as',rfl,fun _=>rfl,h1,(OpenSpec.post_iff Io hwi _ _).mpr rfl,fun z=>Bool.noConfusion (show false=true from z)⟩,h2,h3,h4⟩
theorem D9 {r:OpenSpec} {k:Nat} {q:Program} {loose:List Str} {XP:(Str->Option Value)->Heap->Prop} {YP:World->Heap->Prop} {d:DefRec} {K:Params->PySem.W.Frag} {CX:CW} {ps:List Str} {sp:PySem.W.Frag->Sp}
   (Io:r.wellSaid=true) (hdf:d.params.defaults=[]) (hlen:r.args.length=ps.length) (hr:cK k callerA)
   (hY:∀ (w:World) (h:Heap),YP w h->(K w.params).In h)
   (F:∀ (w:World) (mg:Str->Option Value) (fa:Addr) (h:Heap),YP w h->(K w.params).In h->h.Ns mainGlobals mg->mg d.name=some (.ref fa)->
     ∃ fd:FuncData,(∀ (s:Shared) (us:List Value),us.length=ps.length->BindsTo s fd ⟨us,[]⟩ (ps.zip us)) /\
       ∀ base:Heap,(K w.params).In base->base.Ns mainGlobals mg->bB r.prog w (K w.params) mg base CX k fa fd ps (sp (K w.params)))
   (Dy:∀ (K:PySem.W.Frag) (H:Hp) (xs:List V) (a:Codec.denoteAll r.args),yY H->Codec.withinAll r.args a=true->Codec.app r.args r.asked a=true->nL K H xs (Codec.encAll r.args a)->
     sp K xs H (fun v H'=>Dw K H' v (r.ret.enc (Codec.app r.args r.f a))) fun _ _ _=>False)
   (PJ:∀ (H:Hp) (s:Shared) (e:Value) (s':Shared),CX [] H s (fun _ _ _=>False) e s'->False) :
   PySem.W.WalkOS q loose XP YP r d [] (fun f vs=>PySem.call f vs):=
 FP (K:=K) (CX:=fun _=>CX) (sp:=fun w=>sp (K w.params)) Io hdf hlen hr hY F (fun w H xs a h1 h2 h3 h4=>Dy (K w.params) H xs a h1 h2 h3 h4) fun _ H s e s'=>PJ H s e s'
end L2
end
namespace XL
open PySem
def CY (h:Heap) (e:Addr) (cls:Value) (dx:Option Addr) (t:Option (Addr×Value)):Prop:=
 ∃ oe vs,h.get? e=some oe/\oe.cls=cls/\oe.dict=dx/\oe.data=.fields vs /\
   match t with
   | none=>vs[1]?=some .none
   | some (T,fl)=>vs[1]?=some (.ref T)/\T ≠ e/\∃ oT ts,h.get? T=some oT/\oT.data=.fields ts/\ts[3]?=some fl
def heads (e:Addr) (t:Option (Addr×Value)):List Addr:=match t with
 | none=>[e]
 | some (T,_)=>[e,T]
theorem FQ {e:Addr} {t:Option (Addr×Value)}:e ∈ heads e t:=by cases t<;>simp [heads]
theorem wM (o:Obj) (f:Array Value->Array Value):(o.mapFields f).dict=o.dict:=by
 obtain ⟨c,d,dt,sl⟩:=o
 cases dt<;>rfl
theorem CY.rec {h:Heap} {e:Addr} {cls:Value} {dx:Option Addr} {t:Option (Addr×Value)} (x:CY h e cls dx t):∀ b ∈ heads e t,∃ o ws,h.get? b=some o/\o.data=.fields ws:=by
 obtain ⟨oe,vs,he,_,_,hd,r⟩:=x
 intro b hb
 cases t with
 | none=>rw [show b=e by simpa [heads] using hb];exact ⟨oe,vs,he,hd⟩
 | some p=>
   obtain ⟨_,_,oT,ts,hT,Ht,_⟩:=r
   rcases (show b=e\/b=p.1 by simpa [heads] using hb) with q | q
   . rw [q];exact ⟨oe,vs,he,hd⟩
   . rw [q];exact ⟨oT,ts,hT,Ht⟩
structure E8 (fr ch:List Addr) (h h':Heap):Prop where
 keep:∀ b o,b ∉ fr->b ∉ ch->h.get? b=some o->h'.get? b=some o
 slot:∀ b o,b ∈ fr->h.get? b=some o->∃ sl,h'.get? b=some { o with slots:=sl }
 there:∀ b o,h.get? b=some o->∃ o',h'.get? b=some o'
 size:h.objs.size<=h'.objs.size
theorem E8.refl {fr ch:List Addr} {h:Heap}:E8 fr ch h h:=⟨fun _ _ _ _ e=>e,fun _ o _ e=>⟨o.slots,e⟩,fun _ o e=>⟨o,e⟩,Nat.le_refl _⟩
theorem jq {h:Heap} {a b:Addr} (f:Obj->Obj) (n:b ≠ a):(h.update a f).get? b=h.get? b:=Heap.get?_update_other _ _ fun q=>n q.symm
theorem wN {h:Heap} {a:Addr} {o:Obj} {ws:Array Value} (ho:h.get? a=some o) (hw:o.data=.fields ws) (i:Nat) (v:Value) :
   (h.update a (Obj.mapFields (·.setIfInBounds i v))).get? a=some (o.mapFields (·.setIfInBounds i v)):=Heap.get?_update_self _ ho (Obj.isFreed_of_fields (Obj.data_mapFields hw _))
theorem RX {h:Heap} {e:Addr} {oe ob:Obj} {vs ts:Array Value} {fl:Value} (he:h.get? e=some oe) (hd:oe.data=.fields vs) (n1:1 < vs.size) (hb:ob.data=.fields ts) (h3:ts[3]?=some fl) :
   CY ((h.push ob).update e (Obj.mapFields (·.setIfInBounds 1 (.ref h.objs.size)))) e oe.cls oe.dict (some (h.objs.size,fl)) /\
     (∀ b o,b ≠ e->h.get? b=some o->((h.push ob).update e (Obj.mapFields (·.setIfInBounds 1 (.ref h.objs.size)))).get? b=some o):=by
 have up:∀ b o,h.get? b=some o->(h.push ob).get? b=some o:=fun b o q=>Heap.get?_push_of_some ob q
 have ne:h.objs.size ≠ e:=Nat.ne_of_gt (Heap.lt_size he)
 have nf:ob.isFreed=false:=Obj.isFreed_of_fields hb
 refine ⟨⟨_,_,wN (up e oe he) hd 1 _,Obj.cls_mapFields _ _,wM _ _,Obj.data_mapFields hd _,by simp [n1],ne,ob,ts,?_,hb,h3⟩,fun b o q z=>?_⟩
 . rw [jq _ ne]
   exact Heap.get?_push_size h nf
 . rw [jq _ q]
   exact up b o z
section
variable {M:Model} {A:Around} {E:Value->Shared->Prop} {s:Shared}
theorem entry_at {base:Heap} {env:Env} {outer:List Env} {L e:Addr} {oe:Obj} {vs:Array Value} {head:Value} {more:Bool} {Q:Unit->Shared->Prop}
   (fr:A.frames=some (env::outer)) (ff:s.heap.FunFrames base (env::outer)) (lf:env.frame=some L) (he:s.heap.get? e=some oe) (hd:oe.data=.fields vs) (n1:1 < vs.size)
   (k:∀ h' T,CY h' e oe.cls oe.dict (some (T,rawInt L))->s.heap.objs.size<=T->E8 ((env::outer).filterMap (·.frame)) [e] s.heap h'->Q () { s with heap:=h' }) :
   wpAny M A (do let a <- frameOf env;let pl <- entryPlaceOf L more;let b <- EntryCells.newEntry head a .none (rawInt L) .none pl;setField (.ref e) 1 b) Q E s:=by
 have ef:e ∉ (env::outer).filterMap (·.frame):=fun m=>let ⟨_,o,ho,no⟩:=ff.mem m;no vs (by rw [he] at ho;cases ho;exact hd)
 refine wpAny_bind (wpAny_frameOf_fun fr ff lf fun g sg=>wpAny_bind (wpAny_entryPlaceOf fun pl ip=>?_))
 have ge:g.get? e=some oe:=by rw [sg.2.1 e ef];exact he
 unfold EntryCells.newEntry newFields
 refine wpAny_bind (wpAny_newObj_type ?_ (ip.sizeOk5 _ _ _ _ _))
 refine wpAny_setField (Heap.get?_push_of_some _ ge) hd n1 ?_
 obtain ⟨x,kp⟩:=RX (fl:=rawInt L) (ob:={ cls:=.type "traceback",dict:=none,data:=.fields ([head,.ref L,.none,rawInt L,.none]++(if pl.isEmpty then List.replicate 6 Value.none else pl)).toArray }) ge hd n1 rfl (by simp)
 refine k _ _ x (by rw [sg.1];exact Nat.le_refl _) ⟨fun b o hb hc ho=>kp b o (fun q=>hc (by simp [q])) (by rw [sg.2.1 b hb];exact ho),fun b o hb ho=>?_,fun b o ho=>?_,?_⟩
 . obtain ⟨sl,q⟩:=sg.2.2 b o ho
   exact ⟨sl,kp b _ (fun z=>ef (z ▸ hb)) q⟩
 . by_cases z:b=e
   . obtain ⟨ox,_,q,_⟩:=x
     exact ⟨ox,z ▸ q⟩
   . obtain ⟨sl,q⟩:=sg.2.2 b o ho
     exact ⟨_,kp b _ z q⟩
 . rw [Heap.size_after_update,Heap.size_push,sg.1]
   exact Nat.le_succ _
theorem KC {base:Heap} {env:Env} {outer:List Env} {L e:Addr} {cls:Value} {dx:Option Addr} {t:Option (Addr×Value)} {Q:Unit->Shared->Prop}
   (fr:A.frames=some (env::outer)) (ff:s.heap.FunFrames base (env::outer)) (lf:env.frame=some L) (hx:CY s.heap e cls dx t) (hfl:∀ T fl,t=some (T,fl)->fl=.none\/fl=rawInt L)
   (k:∀ h' T,CY h' e cls dx (some (T,rawInt L))->(T ∈ heads e t\/s.heap.objs.size<=T)->E8 ((env::outer).filterMap (·.frame)) (heads e t) s.heap h'->Q () { s with heap:=h' }) :
   wpAny M A (noteFrame (.ref e) env) Q E s:=by
 have rc:=hx.rec
 obtain ⟨oe,vs,he,rfl,rfl,hd,r⟩:=id hx
 unfold noteFrame
 simp only [lf]
 cases t with
 | none=>
   refine wpAny_bind (wpAny_field he hd r ?_)
   rw [if_neg (by decide)]
   exact entry_at fr ff lf he hd (Array.getElem?_eq_some_iff.mp r).1 fun h' T x1 x2 x3=>k h' T x1 (.inr x2) x3
 | some p=>
   obtain ⟨T,fl⟩:=p
   obtain ⟨h1,QN,oT,ts,hT,Ht,h3⟩:=r
   have l3:=(Array.getElem?_eq_some_iff.mp h3).1
   refine wpAny_bind (wpAny_field he hd h1 ?_)
   rw [if_pos (by simp)]
   refine wpAny_bind (wpAny_field hT Ht h3 ?_)
   rcases hfl T fl rfl with rfl | rfl
   . rw [if_neg (by simp [rawInt])]
     refine wpAny_bind (wpAny_setField hT Ht l3 ?_)
     have off:∀ b o,s.heap.get? b=some o->b ≠ T->(s.heap.update T (Obj.mapFields (·.setIfInBounds 3 Value.none))).get? b=some o:=fun b o q n=>by rw [jq _ n];exact q
     have TF:∀ b o,s.heap.get? b=some o->(∀ ws,o.data ≠ .fields ws)->b ≠ T:=fun b o q n z=>n ts (by rw [z,hT] at q;cases q;exact Ht)
     have fT:T ∉ (env::outer).filterMap (·.frame):=fun m=>let ⟨_,o,ho,no⟩:=ff.mem m;TF T o ho no rfl
     refine entry_at (s:={ s with heap:=s.heap.update T (Obj.mapFields (·.setIfInBounds 3 Value.none)) }) fr (ff.of_keeps fun b o q n=>⟨o,off b o q (TF b o q n),rfl⟩) lf (off e oe he (Ne.symm QN)) hd (Array.getElem?_eq_some_iff.mp h1).1 fun h' T' x1 x2 x3=>?_
     have x2:s.heap.objs.size<=T':=by rw [Heap.size_after_update] at x2;exact x2
     have x4:s.heap.objs.size<=h'.objs.size:=by have:=x3.size;rw [Heap.size_after_update] at this;exact this
     refine k h' T' x1 (.inr x2) ⟨fun b o hb hc ho=>?_,fun b o hb ho=>?_,fun b o ho=>?_,x4⟩
     . have hc:b ≠ e/\b ≠ T:=by simpa [heads] using hc
       exact x3.keep b o hb (by simpa using hc.1) (off b o ho hc.2)
     . exact x3.slot b o hb (off b o ho fun z=>fT (z ▸ hb))
     . by_cases z:b=T
       . rw [z];exact x3.there T _ (wN hT Ht 3 _)
       . exact x3.there b o (off b o ho z)
   . rw [if_pos (by simp)]
     exact wpAny_pure (k s.heap T hx (.inl (by simp [heads])) .refl)
theorem FT {e T:Addr} {cls fl:Value} {dx:Option Addr} {fr:Option Addr} {Q:Unit->Shared->Prop} (hx:CY s.heap e cls dx (some (T,fl)))
   (k:∀ h',CY h' e cls dx (some (T,fr.elim Value.none fun f=>rawInt f))->(∀ b,b ≠ T->h'.get? b=s.heap.get? b)->h'.objs.size=s.heap.objs.size->(∃ o,h'.get? T=some o)->Q () { s with heap:=h' }) :
   wpAny M A (setFlight (.ref e) fr) Q E s:=by
 obtain ⟨oe,vs,he,hc,hx,hd,h1,QN,oT,ts,hT,Ht,h3⟩:=hx
 have l3:=(Array.getElem?_eq_some_iff.mp h3).1
 have me:=wN hT Ht 3 (fr.elim Value.none fun f=>rawInt f)
 unfold setFlight
 refine wpAny_bind (wpAny_field he hd h1 ?_)
 rw [if_pos (by simp)]
 refine wpAny_setField hT Ht l3 (k _ ⟨oe,vs,?_,hc,hx,hd,h1,QN,_,_,me,Obj.data_mapFields Ht _,by simp [l3]⟩ (fun b n=>jq _ n) (Heap.size_after_update ..) ⟨_,me⟩)
 rw [jq _ (Ne.symm QN)]
 exact he
end
end XL
namespace XL
open PySem
section
variable {M:Model} {A:Around} {E:Value->Shared->Prop} {env:Env}
variable {nm q:Str} {C N:Addr} {bs bm:List Value} {hdct:Bool} {sn:List Str} {sub:List Value} {ab:Bool} {col:Option Bool} {dd:Option Addr} {k0 k1 k2 k3 k5:Option Value} {newId:String}
theorem FU {s:Shared} {x:Sem Value} {Q:Flow->Shared->Prop} (Vo:bm.contains (.type "BaseException")=true) (calm:A.handled=none)
   (k:wpAny M A x (fun v s'=>∃ e t dx sl,v=.ref e/\s'.heap.get? C=some (excClassObj nm q C N bs bm hdct sn sub ab col dd k0 k1 k2 k3 k5 newId) /\
     s'.heap.get? e=some ⟨.ref C,dx,.fields #[.ref t,.none,.none,.none,.bool false,.none],sl⟩/\E (.ref e) s') E s):wpAny M A (raiseStmt env (some x) none) Q E s:=by
 have up:(Value.ref C::bm).contains (.type "BaseException")=true:=by simp only [List.contains_cons,Vo,Bool.or_true]
 unfold raiseStmt
 refine wpAny_bind (wpAny_mono k ?_ fun _ _ z=>z)
 rintro v ⟨hp,gs,dr,tk,os⟩ ⟨e,t,dx,sl,rfl,cC,ce,last⟩
 repeat (first | (with_reducible refine wpAny_isSubtype_exc cC ?_;rw [up]) | with_reducible refine wpAny_loadPart_at cC ?_ | with_reducible refine wpAny_loadPart_at ce ?_ | wp_step)
 exact wpAny_raiseNew_none calm last
end
end XL
namespace XL
open PySem
open Builtin Builtin.ObjectAttr
abbrev dz:List Value:=[.type "Exception",.type "BaseException",.type "object"]
section
variable {prog:Program} {w:World} {A:Around} {E:Value->Shared->Prop} {h:Heap} {g:Array GenState} {d:Drawn} {t:Nat} {os:OsState}
variable {nm q:Str} {C N x:Addr} {bs:List Value} {sn:List Str} {sub:List Value} {ab:Bool} {col:Option Bool} {dd:Option Addr} {k0 k1 k2 k3 k5:Option Value} {newId:String}
 {mN mA:Str->Option Value} {name:Str} {v:Value}
theorem KD {tk:Tok} {Q:Fin->Shared->Prop} (cC:h.get? C=some (excClassObj nm q C N bs dz true sn sub ab col dd k0 k1 k2 k3 k5 newId)) (cN:h.Ns N mN) (no:mN name=none)
   (ye:typeLookup (.type "Exception") name=pure none) (I:h.Inst x C mA) (hv:mA name=some v) (k:Q (.done (.ret v)) ⟨h,g,d,t,os⟩) :
   wpAny (model prog w) A (Builtin.«object.__getattribute__» ⟨[.ref x,.str name tk],[]⟩) Q E ⟨h,g,d,t,os⟩:=by
 obtain ⟨o,cx,oC,wO,⟨_,z⟩ | ⟨dx,odx,_,at_⟩⟩:=I
 . exact absurd hv (by simp [z])
 . unfold Builtin.«object.__getattribute__»
   repeat (first | (refine wpAny_typeLookup_exc cC cN PySem.F.excBase_Exception.mroIs ye ?_;rw [no]) | (with_reducible refine wpAny_loadPart_at cx ?_;rw [oC]) | wp_step)
   split
   . exact absurd (by assumption) (wO _)
   . unfold instanceDict
     repeat (first | with_reducible refine wpAny_loadPart_at cC ?_ | (with_reducible refine wpAny_loadPart_at cx ?_;rw [oC]) | wp_step)
     rw [odx]
     repeat (first | (with_reducible refine wpAny_nsGet at_.ns ?_;rw [hv]) | wp_step)
     exact k
theorem Ip {expr:Bool} {Q:Value->Shared->Prop} (cC:h.get? C=some (excClassObj nm q C N bs dz true sn sub ab col dd k0 k1 k2 k3 k5 newId)) (cN:h.Ns N mN)
   (n1:mN "__getattribute__"=none) (n2:mN "__getattr__"=none) (no:mN name=none) (ye:typeLookup (.type "Exception") name=pure none) (I:h.Inst x C mA) (hv:mA name=some v) (hh:handedOut v=pure v)
   (k:Q v ⟨h,g,d,t+1,os⟩):wpAny (model prog w) A (getAttr (.ref x) name expr) Q E ⟨h,g,d,t,os⟩:=by
 obtain ⟨o,cx,oC,_⟩:=id I
 have bd:=PySem.F.attr_Exception.ga.bind (.ref x)
 have e0:(expr&&onTheHeap (Value.builtin "BaseException.__getattribute__"))=false:=by cases expr<;>rfl
 unfold getAttr getAttrBy
 repeat (first | (with_reducible refine wpAny_typeLookup_exc cC cN PySem.F.excBase_Exception.mroIs PySem.F.attr_Exception.ga.lookup ?_;rw [n1]) | (with_reducible refine wpAny_loadPart_at cx ?_;rw [oC]) | wp_step)
 repeat (first | (with_reducible refine wpAny_typeLookup_exc cC cN PySem.F.excBase_Exception.mroIs PySem.F.attrBase_Exception.noGetattr ?_;rw [n2]) | wp_step)
 refine codeAny_call_builtin PySem.F.attr_Exception.ga.plain F.entry_bexc_ga (wpAny_check_ga_own PySem.F.attrBase_Exception cC .base cx oC (KD cC cN no ye I hv ?_))
 show wpAny _ _ (handedOut v) _ _ _
 rw [hh]
 exact wpAny_pure k
theorem BG {tk:Tok} {o:Obj} {Q:Fin->Shared->Prop} (cC:h.get? C=some (excClassObj nm q C N bs dz true sn sub ab col dd k0 k1 k2 k3 k5 newId)) (cN:h.Ns N mN) (no:mN name=none)
   (ye:typeLookup (.type "Exception") name=pure none) (cx:h.get? x=some o) (oC:o.cls=.ref C) (wO:∀ c,o.data ≠ .cls c) (od:o.dict=none)
   (k:∀ h' tk',h'.get? x=some { o with dict:=some h.objs.size }->h'.Ns1 h.objs.size (fun y=>if y=name then some v else none)->(∀ b u,b ≠ x->h.get? b=some u->h'.get? b=some u)->Q (.done (.ret .none)) ⟨h',g,d,tk',os⟩) :
   wpAny (model prog w) A (Builtin.«object.__setattr__» ⟨[.ref x,.str name tk,v],[]⟩) Q E ⟨h,g,d,t,os⟩:=by
 have ok:=PySem.F.store_Exception.passes (.ref x)
 have nx:h.objs.size ≠ x:=Nat.ne_of_gt (Heap.lt_size cx)
 have ou:({ o with dict:=some h.objs.size }:Obj).isFreed=false:=by
   have z:=(Heap.get?_some_iff.mp cx).2
   obtain ⟨c,dc,dt,sl⟩:=o
   cases dt<;>first | rfl | exact z
 unfold Builtin.«object.__setattr__»
 repeat (first | (rw [refuseLoop_ref,ok]) | rw [refuse_eq] | (refine wpAny_typeLookup_exc cC cN PySem.F.store_Exception.mro ye ?_;rw [no]) | with_reducible refine wpAny_mroOf_exc cC ?_ | (with_reducible refine wpAny_loadPart_at cx ?_;rw [oC]) | wp_step)
 rw [od,if_neg (by simp [typeHasDict])]
 split
 . exact absurd (by assumption) (by intro q;cases q)
 . split
   . exact absurd (by assumption) (wO _)
   . refine wpAny_bind (wpAny_alloc' (wpAny_bind (wpAny_update' (Heap.get?_push_of_some _ cx) (wpAny_pure ?_))))
     show wpAny _ _ (storeInDict h.objs.size (.str name tk) name v) _ _ _
     unfold storeInDict newKeyGuard
     have em:((h.push { cls:=.type "dict",data:=.dict #[] }).update x fun o=>{ cls:=o.cls,dict:=some h.objs.size,data:=o.data,slots:=o.slots }).Ns h.objs.size (fun _=>none):=by
       refine ⟨{ cls:=.type "dict",data:=.dict #[] },#[],_,?_,rfl,fun e he=>absurd he (by simp),fun _=>rfl⟩
       rw [jq _ nx]
       exact Heap.get?_push_size h rfl
     refine wpAny_bind (wpAny_pure (wpAny_bind (wpAny_nsSet1 (Heap.Ns1.of_empty em) fun h' n' sb=>?_)))
     obtain ⟨oD,esD,US,aD,dD,cD⟩:=n'.count (Within.cons name v Within.nil)
     refine wpAny_bind (wpAny_lookBehind aD (by rw [dD];exact pastItsLine_dict (Nat.le_trans cD (by rw [sizeLine_eq];simp))) ?_)
     wp_walk
     refine k h' _ ?_ n' fun b u n z=>?_
     . rw [sb.2 x (Ne.symm nx)]
       exact Heap.get?_update_self _ (Heap.get?_push_of_some _ cx) ou
     . rw [sb.2 b (Nat.ne_of_lt (Heap.lt_size z)),jq _ n]
       exact Heap.get?_push_of_some _ z
theorem DA {tk:Tok} {o:Obj} {sa owner:String} {R:Result->Shared->Prop} (SF:StoreFacts "Exception" dz sa owner) (cC:h.get? C=some (excClassObj nm q C N bs dz true sn sub ab col dd k0 k1 k2 k3 k5 newId)) (cN:h.Ns N mN) (no:mN name=none)
   (ye:typeLookup (.type "Exception") name=pure none) (cx:h.get? x=some o) (oC:o.cls=.ref C) (wO:∀ c,o.data ≠ .cls c) (od:o.dict=none)
   (k:∀ h' tk',h'.get? x=some { o with dict:=some h.objs.size }->h'.Ns1 h.objs.size (fun y=>if y=name then some v else none)->(∀ b u,b ≠ x->h.get? b=some u->h'.get? b=some u)->R (.ok (.ret .none)) ⟨h',g,d,tk',os⟩) :
   codeAny (model prog w) A (.call (.builtin sa) ⟨[.ref x,.str name tk,v],[]⟩) R ⟨h,g,d,t,os⟩:=by
 refine codeAny_call_builtin SF.slot.plain SF.entry (wpAny_check_sa SF cC cx oC ?_)
 exact BG cC cN no ye cx oC wO od k
theorem DB {o:Obj} {sa owner:String} {Q:Unit->Shared->Prop} (SF:StoreFacts "Exception" dz sa owner) (cC:h.get? C=some (excClassObj nm q C N bs dz true sn sub ab col dd k0 k1 k2 k3 k5 newId)) (cN:h.Ns N mN) (ns:mN "__setattr__"=none) (no:mN name=none)
   (ye:typeLookup (.type "Exception") name=pure none) (cx:h.get? x=some o) (oC:o.cls=.ref C) (wO:∀ c,o.data ≠ .cls c) (od:o.dict=none)
   (k:∀ h' tk',h'.get? x=some { o with dict:=some h.objs.size }->h'.Ns1 h.objs.size (fun y=>if y=name then some v else none)->(∀ b u,b ≠ x->h.get? b=some u->h'.get? b=some u)->Q () ⟨h',g,d,tk',os⟩) :
   wpAny (model prog w) A (setAttr (.ref x) name v) Q E ⟨h,g,d,t,os⟩:=by
 have bd:=SF.slot.bind (.ref x)
 unfold setAttr callSpecial? specialOf
 repeat (any_goals (first | (with_reducible refine wpAny_typeLookup_exc cC cN SF.mro SF.slot.lookup ?_;rw [ns]) | (with_reducible refine wpAny_loadPart_at cx ?_;rw [oC]) | assumption | wp_step))
 refine DA SF cC cN no ye cx oC wO od fun h' tk' x1 x2 x3=>?_
 have z:=k h' tk' x1 x2 x3
 repeat (any_goals (first | assumption | wp_step))
end
end XL
namespace L2
open PySem PySem.Spec PyProof.Rows XL
def qD (P:Program) (w:World):CW:=fun outer H s E e s'=>
 ∃ (a T:Addr) (C dx:Addr) (H':Hp),e=.ref a/\s'.os=s.os/\AllBare s'.gens/\Un (frs outer) [] H H' s.heap s'.heap/\nI P w H' s'.heap /\
   CY s'.heap a (.ref C) (some dx) (some (T,.none))/\(∀ b ∈ [a,T],H' b=none/\s.heap.get? b=none)/\E (.ref C) (some dx) H'
structure Own (X:Cx):Prop where
 Kh:X.stack=X.env::X.outer
 fr:X.env.frame=some X.env.locals
def FW (X:Cx) (pins:List (Addr×Obj)) (H:Hp) (l:List Addr):Prop:=∀ b ∈ l,H b=none/\X.t9.heap.get? b=none/\∀ p ∈ X.pn++pins,p.1 ≠ b
section
variable {X:Cx} {pins:List (Addr×Obj)} {σ:St} {H H':Hp} {s:Shared} {h':Heap} {a:Addr} {cls:Value} {dx:Option Addr} {E:Value->Shared->Prop} {Q:Unit->Shared->Prop}
theorem Inv.Ms {g':Array GenState} {t':Nat} {d':Drawn} {ch:List Addr} (I:Inv X pins σ H s)
   (hch:∀ b ∈ ch,X.t9.heap.get? b=none/\b ≠ X.env.locals/\(∀ x c,X.env.cells.lookup x=some c->c ≠ b)/\∀ p ∈ X.pn++pins,p.1 ≠ b)
   (keep:∀ b o,b ≠ X.env.locals->b ∉ X.fs->b ∉ ch->s.heap.get? b=some o->H b=none->h'.get? b=some o)
   (slot:∀ b o,b ≠ X.env.locals->b ∈ X.fs->b ∉ ch->s.heap.get? b=some o->H b=none->∃ sl,h'.get? b=some { o with slots:=sl })
   (there:∀ b o,b ∉ ch->s.heap.get? b=some o->∃ o',h'.get? b=some o')
   (ns:∀ m,s.heap.Ns X.env.locals m->h'.Ns X.env.locals m) (hok:nI X.prog X.w H h') (hg:AllBare g') :
   Inv X pins σ H { s with heap:=h',gens:=g',drawn:=d',toks:=t' }:=by
 have Kl:∀ b o,X.t9.heap.get? b=some o->b ≠ X.env.locals:=fun b o e=>Nat.ne_of_lt (Nat.lt_of_lt_of_le (Heap.lt_size e) I.ok.above)
 have Mh:∀ b o,X.t9.heap.get? b=some o->b ∉ ch:=fun b o e hb=>by rw [(hch b hb).1] at e;cases e
 have cellK:∀ x c,X.env.cells.lookup x=some c->∀ v,s.heap.IsCell c v->h'.IsCell c v:=fun x c e v ⟨o,ho,hd⟩=>by
   have Mi:c ∉ ch:=fun z=>(hch c z).2.2.1 x c e rfl
   by_cases hc:c ∈ X.fs
   . obtain ⟨sl,q⟩:=slot c o (I.Kc x c e) hc Mi ho (I.gG x c e)
     exact ⟨_,q,hd⟩
   . exact ⟨o,keep c o (I.Kc x c e) hc Mi ho (I.gG x c e),hd⟩
 refine ⟨I.ok,I.os,hg,⟨fun b o e n hb hx=>?_,fun b o e n hb hx=>?_,I.base.free,fun b o e hx=>?_,I.base.tups,I.base.qZ,I.base.tE⟩,?_,fun x c e=>?_,I.free,I.gG,fun p hp=>?_,hok,I.len⟩
 . exact keep b o (Kl b o e) hb (Mh b o e) (I.base.keep b o e n hb hx) (I.base.free b o e n hx)
 . obtain ⟨sl,e1⟩:=I.base.slot b o e n hb hx
   obtain ⟨sl',e2⟩:=slot b _ (Kl b o e) hb (Mh b o e) e1 (I.base.free b o e n hx)
   exact ⟨sl',e2⟩
 . obtain ⟨o',e1⟩:=I.base.there b o e hx
   exact there b o' (Mh b o e) e1
 . obtain ⟨m,hn,hl⟩:=I.loc
   refine ⟨m,ns m hn,fun i x v e1 e2 e3=>?_⟩
   obtain ⟨u,r,l⟩:=hl i x v e1 e2 e3
   refine ⟨u,r,?_⟩
   rcases l with l | ⟨k,c,e,z⟩
   . exact .inl l
   . exact .inr ⟨k,c,e,cellK x c e _ z⟩
 . obtain ⟨v,z⟩:=I.cell x c e
   exact ⟨v,cellK x c e v z⟩
 . obtain ⟨e,n,ne,nf,d⟩:=I.pin p hp
   exact ⟨keep p.1 p.2 ne nf (fun z=>(hch p.1 z).2.2.2 p hp rfl) e n,n,ne,nf,d⟩
theorem Inv.apart (I:Inv X pins σ H s) {b:Addr} {o:Obj} {ws:Array Value} (ho:s.heap.get? b=some o) (hd:o.data=.fields ws):b ≠ X.env.locals/\∀ x c,X.env.cells.lookup x=some c->c ≠ b:=by
 refine ⟨fun q=>?_,fun x c e q=>?_⟩
 . obtain ⟨m,⟨ol,es,ep,hl,hdl,_⟩,_⟩:=I.loc
   rw [q,hl] at ho
   cases ho
   rw [hdl] at hd
   cases hd
 . obtain ⟨v,oc,hc,hdc⟩:=I.cell x c e
   rw [q,ho] at hc
   cases hc
   rw [hd] at hdc
   cases hdc
theorem BH {h h':Heap} {L:Addr} {m:Str->Option Value} (k:∀ o,h.get? L=some o->∃ sl,h'.get? L=some { o with slots:=sl }) (n:h.Ns L m):h'.Ns L m:=by
 obtain ⟨o,es,ep,ho,hd,r⟩:=n
 obtain ⟨sl,q⟩:=k o ho
 exact ⟨_,es,ep,q,hd,r⟩
theorem Inv.Nt (I:Inv X pins σ H s) {b:Addr} (h:s.heap.get? b=none) (hx:X.ex=[]):X.t9.heap.get? b=none/\∀ p ∈ X.pn++pins,p.1 ≠ b:=by
 refine ⟨?_,fun p hp q=>?_⟩
 . cases q:X.t9.heap.get? b with
   | none=>rfl
   | some o=>
     obtain ⟨o',e⟩:=I.base.there b o q (by rw [hx];simp)
     rw [h] at e
     cases e
 . have e:=(I.pin p hp).1
   rw [q,h] at e
   cases e
theorem Inv.noted (I:Inv X pins σ H s) (W:Own X) (FY:X.ex=[]) {t:Option (Addr×Value)} (hx:CY s.heap a cls dx t) (hfl:∀ T fl,t=some (T,fl)->fl=.none\/fl=rawInt X.env.locals) (hH:FW X pins H (heads a t))
   (k:∀ h' T,Inv X pins σ H { s with heap:=h' }->CY h' a cls dx (some (T,rawInt X.env.locals))->FW X pins H [a,T]->Q () { s with heap:=h' }) :
   wpAny (model X.prog X.w) X.A (noteFrame (.ref a) X.env) Q E s:=by
 have hst:=I.stack
 have hfr:=I.ok.frames
 have hfree:=I.z6
 rw [W.Kh] at hst hfr hfree
 refine KC hfr hst W.fr hx hfl fun h' T x1 x2 x3=>?_
 have hL:X.env.locals ∈ (X.env::X.outer).filterMap (·.frame):=by rw [List.filterMap_cons,W.fr];exact List.mem_cons_self
 have hfs:∀ b,b ∈ (X.env::X.outer).filterMap (·.frame) ↔ b=X.env.locals\/b ∈ X.fs:=fun b=>by rw [List.filterMap_cons,W.fr];exact List.mem_cons
 have tr:∀ b u,H b=some u->b ∉ (X.env::X.outer).filterMap (·.frame)/\b ∉ heads a t:=fun b u e=>⟨fun m=>(by rw [hfree b m] at e;cases e),fun m=>(by rw [(hH b m).1] at e;cases e)⟩
 have hok:nI X.prog X.w H h':=fun b u e=>(I.hok b u e).stay (fun c v hc q=>by
   have z:∃ w,H c=some w:=by
     rcases hc with hc | hc
     . exact ⟨u,hc ▸ e⟩
     . exact ⟨_,hc⟩
   obtain ⟨w',z⟩:=z
   exact x3.keep c v (tr c w' z).1 (tr c w' z).2 q) (fun _ q=>q) fun _ _ q=>q
 have I':Inv X pins σ H { s with heap:=h' }:=by
   refine I.Ms (g':=s.gens) (t':=s.toks) (d':=s.drawn) (ch:=heads a t) (fun b hb=>?_) (fun b o n1 n2 n3 e _=>?_) (fun b o n1 n2 _ e _=>?_) (fun b o _ e=>x3.there b o e)
     (fun m hm=>BH (fun o q=>x3.slot _ o hL q) hm) hok I.bare
   . obtain ⟨o,ws,ho,hd⟩:=hx.rec b hb
     obtain ⟨z1,z2⟩:=I.apart ho hd
     exact ⟨(hH b hb).2.1,z1,z2,(hH b hb).2.2⟩
   . exact x3.keep b o (fun m=>by rcases (hfs b).mp m with q | q;exact n1 q;exact n2 q) n3 e
   . exact x3.slot b o ((hfs b).mpr (.inr n2)) e
 refine k h' T I' x1 fun b hb=>?_
 rcases (show b=a\/b=T by simpa using hb) with q | q
 . rw [q];exact hH a FQ
 . rw [q]
   rcases x2 with m | m
   . exact hH T m
   . have z:=Heap.get?_none_of_le m
     obtain ⟨z1,z2⟩:=I.Nt z FY
     exact ⟨I.hok.fresh m,z1,z2⟩
theorem Inv.flown (I:Inv X pins σ H s) {T:Addr} {fl:Value} {fr:Option Addr} (hx:CY s.heap a cls dx (some (T,fl))) (hN:FW X pins H [a,T])
   (k:∀ h',Inv X pins σ H { s with heap:=h' }->CY h' a cls dx (some (T,fr.elim Value.none fun f=>rawInt f))->Q () { s with heap:=h' }) :
   wpAny (model X.prog X.w) X.A (setFlight (.ref a) fr) Q E s:=by
 obtain ⟨oT,ts,Vp,Ht⟩:=hx.rec T (by simp [heads])
 obtain ⟨nT,zT,pT⟩:=hN T (by simp)
 refine FT hx fun h' x1 x2 x3 x4=>k h' ?_ x1
 have ap:=I.apart Vp Ht
 have kp:∀ b o,b ≠ T->s.heap.get? b=some o->h'.get? b=some o:=fun b o n e=>by rw [x2 b n];exact e
 have tr:∀ b u,H b=some u->b ≠ T:=fun b u e q=>by rw [q,nT] at e;cases e
 refine I.Ms (g':=s.gens) (t':=s.toks) (d':=s.drawn) (ch:=[T]) (fun b hb=>?_) (fun b o _ _ n e _=>kp b o (fun q=>n (by simp [q])) e) (fun b o _ _ n e _=>⟨o.slots,kp b o (fun q=>n (by simp [q])) e⟩)
   (fun b o n e=>⟨o,kp b o (fun q=>n (by simp [q])) e⟩) (fun m hm=>BH (fun o q=>⟨o.slots,kp _ o (Ne.symm ap.1) q⟩) hm) (fun b u e=>?_) I.bare
 . rw [show b=T by simpa using hb]
   exact ⟨zT,ap.1,ap.2,pT⟩
 . refine (I.hok b u e).stay (fun c v hc q=>kp c v ?_ q) (fun _ q=>q) fun _ _ q=>q
   rcases hc with hc | hc
   . exact tr c u (hc ▸ e)
   . exact tr c _ hc
theorem Inv.back {P:Program} {w:World} {EX:XK} {e:Value} {s':Shared} (I:Inv X pins σ H s) (FY:X.ex=[]) (h:qD X.prog X.w X.stack H s EX e s') :
   ∃ a T C dx H',e=.ref a/\Inv X pins σ H' s'/\CY s'.heap a (.ref C) (some dx) (some (T,.none))/\FW X pins H' [a,T]/\EX (.ref C) (some dx) H':=by
 obtain ⟨a,T,C,dx,H',rfl,ho,hb,un,hok,x,hH,hE⟩:=h
 obtain ⟨hh,g,d,tk,os⟩:=s'
 obtain rfl:os=s.os:=ho
 refine ⟨a,T,C,dx,H',rfl,I.call (h':=hh) (g':=g) (d':=d) (t':=tk) (ch:=[]) un hok hb (fun b z=>absurd z (by simp)),x,fun b hb=>?_,hE⟩
 obtain ⟨z1,z2⟩:=I.Nt (hH b hb).2 FY
 exact ⟨(hH b hb).1,z1,z2⟩
end
section
variable {P:Program} {w:World} {K:PySem.W.Frag} {mg:Str->Option Value} {base:Heap} {N:List Str} {qual:Str} {scope:Scope} {f:Addr} {cd:Value} {A:Around} {outer:List Env} {s0:Shared} {H0:Hp} {E:XK}
theorem Nu:Own (mU (qD P w) P w K mg base N qual scope f cd A outer s0 H0 E):=⟨rfl,rfl⟩
theorem Iq {pins:List (Addr×Obj)} {σ:St} {H:Hp} {s:Shared} {a C dx:Addr} {t:Option (Addr×Value)} (I:Inv (mU (qD P w) P w K mg base N qual scope f cd A outer s0 H0 E) pins σ H s) (hx:CY s.heap a (.ref C) (some dx) t)
   (hfl:∀ T fl,t=some (T,fl)->fl=.none) (hH:FW (mU (qD P w) P w K mg base N qual scope f cd A outer s0 H0 E) pins H (heads a t)) (hE:E (.ref C) (some dx) H) :
   (mU (qD P w) P w K mg base N qual scope f cd A outer s0 H0 E).xe (.ref a) s:=by
 show wpAny _ _ (leaving _ _) _ _ s
 unfold leaving
 refine wpAny_bind (I.noted Nu rfl hx (fun T fl e=>.inl (hfl T fl e)) hH fun h1 T I1 x1 nw=>?_)
 refine I1.flown (fr:=none) x1 nw fun h2 I2 x2=>?_
 exact ⟨a,T,C,dx,H,rfl,I2.os,I2.bare,I2.base,I2.hok,x2,fun b hb=>⟨(nw b hb).1,(nw b hb).2.1⟩,hE⟩
theorem fz:Passes (qD P w) (mU (qD P w) P w K mg base N qual scope f cd A outer s0 H0 E) E:=by
 intro pins σ H s e s' I h
 obtain ⟨a,T,C,dx,H',rfl,I',x,nw,hE⟩:=I.back (P:=P) (w:=w) rfl h
 exact Iq I' x (fun T fl e=>by cases e;rfl) nw hE
theorem FZ:PassesOwn (model P w) (mU (qD P w) P w K mg base N qual scope f cd A outer s0 H0 E).A (mU (qD P w) P w K mg base N qual scope f cd A outer s0 H0 E).env (mU (qD P w) P w K mg base N qual scope f cd A outer s0 H0 E).xe:=PassesOwn.leaving
theorem ji.Hu {x qual:Str} {st:Stmt} {f:Addr} {fd:FuncData} {N ps:List Str} {k:Nat} {sp:Sp} (F:ji K x qual st f fd) (S:aL N ps (aE st)) (len:∀ vs H Q E,sp vs H Q E->vs.length=ps.length)
   (hbody:∀ (cdv:Value) (A:Around) (outer:List Env) (s:Shared) (H:Hp) (vs:List V) (Q:VK) (E:XK),cK k (A.deeper (envOfC qual (aE st) s.heap.objs.size f cdv))->sp vs H Q E->
     ∃ t,Bh (mU (qD P w) P w K mg base N qual (aE st) f cdv A outer s H E) (lC st) t/\t { nx:=fun _ H'=>Q .non H',rt:=Q } (start N vs) H):bB P w K mg base (qD P w) (k+1) f fd ps sp:=by
 obtain ⟨oc,od,kV,doc,pm,an,cdv,ct,osl,rfl,lk,hcd⟩:=F.ex
 exact Mp lk hcd S len fun A outer s H vs Q E hr Dy=>hbody cdv A outer s H vs Q E hr Dy
end
end L2
namespace L2
open PySem PySem.Spec PyProof.Rows XL
theorem cj.there {P:Program} {w:World} {H:Hp} {h:Heap} {a:Addr} {o:HO} (x:cj P w H h a o):∃ ob,h.get? a=some ob:=by
 cases o with
 | lst xs=>obtain ⟨_,_,_,_,e⟩:=x;exact ⟨_,e⟩
 | tup xs=>obtain ⟨_,_,_,_,e,_⟩:=x;exact ⟨_,e⟩
 | dK kvs=>obtain ⟨_,_,_,_,o,_,_,e,_⟩:=x;exact ⟨_,e⟩
 | dT kvs=>obtain ⟨_,_,_,_,o,_,_,e,_⟩:=x;exact ⟨_,e⟩
 | set S n=>obtain ⟨o,_,_,_,e,_⟩:=x;exact ⟨_,e⟩
 | ins C dx fs=>obtain ⟨_,_,_,e,_⟩:=x;exact ⟨_,e⟩
 | own y=>exact x
 | xd fs=>obtain ⟨_,⟨_,_,_,e,_⟩,_⟩:=x;exact ⟨_,e⟩
 | Mc lo hi=>obtain ⟨_,_,_,e⟩:=x;exact ⟨_,e⟩
 | jN ob u=>obtain ⟨e,_⟩:=x;exact ⟨_,e⟩
 | Me ps=>exact ⟨_,(show h.get? a=some _ from x)⟩
 | met f y=>exact ⟨_,(show h.get? a=some _ from x)⟩
 | ext φ=>obtain ⟨_,e,_⟩:=x;exact e
structure Ga (K:PySem.W.Frag) (C fI:Addr) (names:List Str):Prop where
 ex:∃ (nm q:Str) (N:Addr) (bs:List Value) (sn:List Str) (sub:List Value) (ab:Bool) (col:Option Bool) (dd:Option Addr) (k0 k1 k2 k3 k5:Option Value),
   K.lookup C=some (excClassObj nm q C N bs dz true sn sub ab col dd k0 k1 k2 k3 k5 "Exception.__new__")/\PySem.W.nsOkIn K N=true/\PySem.W.nsIn K N "__init__"=some (some (.ref fI))/\∀ x ∈ names,PySem.W.nsIn K N x=some none
 fn:PySem.W.isFn K (.ref fI)=true
 kp:PySem.W.keepIn K (.ref C)=true
 sa:PySem.W.findIn K (.ref C) "__setattr__"=some (some (.builtin "object.__setattr__"))
 ga:("__getattribute__":Str) ∈ names
 gh:("__getattr__":Str) ∈ names
 ss:("__setattr__":Str) ∈ names
theorem DC {K:PySem.W.Frag} {h:Heap} {N:Addr} {m:Str->Option Value} {x:Str} {v:Value} (X:K.In h) (G:h.Ns N m) (e:PySem.W.nsIn K N x=some (some v)):m x=some v:=by
 obtain ⟨o,es,ep,ho,hd,_,hf⟩:=G
 cases hk:K.lookup N with
 | none=>simp [PySem.W.nsIn,hk] at e
 | some ob=>
   have z:=X _ _ hk
   rw [ho] at z
   cases z
   obtain ⟨c,dd,dt,sl⟩:=o
   have hd:dt=.dict es ep:=hd
   subst hd
   simp only [PySem.W.nsIn,hk] at e
   cases hq:es.toList.find? (·.key.isStr x) with
   | none=>rw [hq] at e;split at e<;>simp_all
   | some en=>
     rw [hq] at e
     have e:en.val=v:=by simpa using e
     rw [<- hf]
     unfold nsFind findBy
     rw [<- Array.find?_toList,hq]
     exact congrArg some e
theorem Ga.at {K:PySem.W.Frag} {C fI:Addr} {names:List Str} (c:Ga K C fI names) {h:Heap} (X:K.In h) :
   ∃ (nm q:Str) (N:Addr) (bs:List Value) (sn:List Str) (sub:List Value) (ab:Bool) (col:Option Bool) (dd:Option Addr) (k0 k1 k2 k3 k5:Option Value) (mN:Str->Option Value),
     h.get? C=some (excClassObj nm q C N bs dz true sn sub ab col dd k0 k1 k2 k3 k5 "Exception.__new__")/\h.Ns N mN/\mN "__init__"=some (.ref fI)/\∀ x ∈ names,mN x=none:=by
 obtain ⟨nm,q,N,bs,sn,sub,ab,col,dd,k0,k1,k2,k3,k5,l,ok,hi,hn⟩:=c.ex
 have G:h.Ns N (h.nsMap N):=.of_isNs (PySem.W.isNs_of_in X ok)
 exact ⟨nm,q,N,bs,sn,sub,ab,col,dd,k0,k1,k2,k3,k5,_,X _ _ l,G,DC X G hi,fun x hx=>PySem.W.ns_none_of X G (hn x hx)⟩
theorem Ga.init {K:PySem.W.Frag} {C fI:Addr} {names:List Str} (c:Ga K C fI names) {h:Heap} (X:K.In h):∃ o,h.get? fI=some o/\o.cls=.type "function":=by
 have f:=c.fn
 unfold PySem.W.isFn PySem.W.typeIn at f
 dsimp only at f
 cases hk:K.lookup fI with
 | none=>rw [hk] at f;simp at f
 | some o=>
   rw [hk] at f
   exact ⟨o,X _ _ hk,by simpa using f⟩
def XO (a C:Addr) (d:Option Addr):HO:=.ext fun h=>∃ t,h.get? a=some ⟨.ref C,d,.fields #[.ref t,.none,.none,.none,.bool false,.none],#[]⟩
def XR (a C dx:Addr):HO:=.ext fun h=>∃ oe,h.get? a=some oe/\oe.cls=.ref C/\oe.dict=some dx/\∀ c,oe.data ≠ .cls c
section
variable {P:Program} {w:World} {H:Hp} {h:Heap} {a C dx:Addr} {d:Option Addr}
theorem XO.ok {t:Addr} (e:h.get? a=some ⟨.ref C,d,.fields #[.ref t,.none,.none,.none,.bool false,.none],#[]⟩):cj P w H h a (XO a C d):=
 ⟨⟨t,e⟩,⟨_,e⟩,fun h1 h2 ⟨t,q⟩ k=>⟨t,k _ q⟩⟩
theorem XR.ok {oe:Obj} (e:h.get? a=some oe) (h1:oe.cls=.ref C) (h2:oe.dict=some dx) (h3:∀ c,oe.data ≠ .cls c):cj P w H h a (XR a C dx):=
 ⟨⟨oe,e,h1,h2,h3⟩,⟨_,e⟩,fun g1 g2 ⟨o,q,r⟩ k=>⟨o,k _ q,r⟩⟩
end
def drop (H:Hp) (a:Addr):Hp:=fun b=>if b=a then none else H b
theorem vF {H:Hp} {a b:Addr} (h:b ≠ a):drop H a b=H b:=if_neg h
theorem tS {H:Hp} {a:Addr}:drop H a a=none:=if_pos rfl
section
variable {X:Cx} {pins:List (Addr×Obj)} {σ:St} {H:Hp} {s:Shared} {a C dx fI:Addr} {names:List Str} {E:Value->Shared->Prop} {Q:Unit->Shared->Prop} {A:Around}
theorem Inv.dropped {φ:Heap->Prop} (I:Inv X pins σ H s) (e:H a=some (.ext φ)):Inv X pins σ (drop H a) s:=by
 have sub:∀ b u,drop H a b=some u->H b=some u/\b ≠ a:=fun b u q=>by
   by_cases z:b=a
   . rw [z,tS] at q;cases q
   . rw [vF z] at q;exact ⟨q,z⟩
 have no:∀ b,H b=none->drop H a b=none:=fun b q=>by
   by_cases z:b=a
   . rw [z,tS]
   . rw [vF z];exact q
 have kp:∀ b u,H b=some u->(∀ φ,u ≠ .ext φ)->drop H a b=some u:=fun b u q n=>by
   rw [vF (fun z=>by rw [z,e] at q;cases q;exact n φ rfl)];exact q
 refine ⟨I.ok,I.os,I.bare,⟨I.base.keep,I.base.slot,fun b o q n hx=>no b (I.base.free b o q n hx),I.base.there,fun b xs q=>kp b _ (I.base.tups b xs q) (fun _ z=>by cases z),fun b o u q=>kp b _ (I.base.qZ b o u q) (fun _ z=>by cases z),
   fun b ps q=>?_⟩,I.loc,I.cell,no _ I.free,fun x c q=>no c (I.gG x c q),fun p hp=>?_,fun b u q=>?_,I.len⟩
 . obtain ⟨more,z⟩:=I.base.tE b ps q
   exact ⟨more,kp b _ z (fun _ z=>by cases z)⟩
 . obtain ⟨z1,z2,z3⟩:=I.pin p hp
   exact ⟨z1,no _ z2,z3⟩
 . obtain ⟨q1,q2⟩:=sub b u q
   exact (I.hok b u q1).stay (fun _ _ _ z=>z) (fun c z=>kp c _ z (fun _ z=>by cases z)) fun c xs z=>kp c _ z (fun _ z=>by cases z)
theorem Inv.tracked {φ:Heap->Prop} (I:Inv X pins σ H s) (n:H a=none) (nw:X.t9.heap.get? a=none) (nl:a ≠ X.env.locals) (nc:∀ x c,X.env.cells.lookup x=some c->c ≠ a) (np:∀ p ∈ X.pn++pins,p.1 ≠ a)
   (ok:cj X.prog X.w (upd H a (.ext φ)) s.heap a (.ext φ)):Inv X pins σ (upd H a (.ext φ)) s:=by
 have kp:∀ b u,H b=some u->upd H a (.ext φ) b=some u:=fun b u q=>by rw [ak (aq q n)];exact q
 have no:∀ b,H b=none->b ≠ a->upd H a (.ext φ) b=none:=fun b q z=>by rw [ak z];exact q
 refine ⟨I.ok,I.os,I.bare,⟨I.base.keep,I.base.slot,fun b o q m hx=>no b (I.base.free b o q m hx) (fun z=>by rw [z,nw] at q;cases q),I.base.there,fun b xs q=>kp b _ (I.base.tups b xs q),fun b o u q=>kp b _ (I.base.qZ b o u q),
   fun b ps q=>?_⟩,I.loc,I.cell,no _ I.free (Ne.symm nl),fun x c q=>no c (I.gG x c q) (nc x c q),fun p hp=>?_,fun b u q=>?_,I.len⟩
 . obtain ⟨more,z⟩:=I.base.tE b ps q
   exact ⟨more,kp b _ z⟩
 . obtain ⟨z1,z2,z3⟩:=I.pin p hp
   exact ⟨z1,no _ z2 (np p hp),z3⟩
 . by_cases z:b=a
   . subst z;rw [ai] at q;cases q;exact ok
   . rw [ak z] at q
     exact (I.hok b u q).stay (fun _ _ _ z=>z) (fun c z=>kp c _ z) fun c xs z=>kp c _ z
theorem BI {fs:List (Str×V)} {mA:Str->Option Value} (r:∀ f,mq (fs.lookup f) (mA f)):PySem.Within mA (fs.map (·.1)):=fun f hf=>by
 cases q:fs.lookup f with
 | none=>
   have z:=r f
   rw [q] at z
   exact absurd (mq.none_of z) hf
 | some v=>exact List.mem_map.mpr ⟨(f,v),PySem.mem_of_lookup q,rfl⟩
theorem Nv {f:Str} {y:V} {u:Value} (I:Inv X pins σ H s) (c:Ga X.K C fI names) (e:H a=some (XO a C none)) (hf:f ∈ names) (ye:typeLookup (.type "Exception") f=pure none) (ry:RelV y u)
   (k:∀ dx s',H dx=none->Inv X pins σ (upd (upd H dx (.xd [(f,y)])) a (XO a C (some dx))) s'->Q () s'):wpAny (model X.prog X.w) A (setAttr (.ref a) f u) Q E s:=by
 obtain ⟨⟨t,ea⟩,_,_⟩:=(show cj X.prog X.w H s.heap a (XO a C none) from I.hok a _ e)
 obtain ⟨nm,q,N,bs,sn,sub,ab,col,dd,k0,k1,k2,k3,k5,mN,cC,cN,_,hn⟩:=c.at I.qN
 obtain ⟨hh,g,d,tk,os⟩:=s
 have ea:hh.get? a=some ⟨.ref C,none,.fields #[.ref t,.none,.none,.none,.bool false,.none],#[]⟩:=ea
 refine DB PySem.F.store_Exception cC cN (hn _ c.ss) (hn f hf) ye ea rfl (fun _ z=>by cases z) rfl fun h' tk' x1 x2 x3=>?_
 have nd:H hh.objs.size=none:=I.hok.fresh (Nat.le_refl _)
 have na:hh.objs.size ≠ a:=Nat.ne_of_gt (Heap.lt_size ea)
 refine k hh.objs.size _ nd (I.un (h':=h') (t':=tk') ⟨fun b o z n _ _=>x3 b o (fun w=>by rw [w,e] at n;cases n) z,fun b o z n _ _=>⟨o.slots,x3 b o (fun w=>by rw [w,e] at n;cases n) z⟩,fun b o z n _=>?_,fun b o z _=>?_,fun b xs z=>?_,fun b o v z=>?_,fun b ps z=>?_⟩ ?_)
 . rw [ak (fun w=>by rw [w,e] at n;cases n),ak (Nat.ne_of_lt (Heap.lt_size z))];exact n
 . by_cases w:b=a
   . rw [w];exact ⟨_,x1⟩
   . exact ⟨o,x3 b o w z⟩
 . rw [ak (fun w=>by rw [w,e] at z;cases z),ak (aq z nd)];exact z
 . rw [ak (fun w=>by rw [w,e] at z;cases z),ak (aq z nd)];exact z
 . exact ⟨#[],by rw [ak (fun w=>by rw [w,e] at z;cases z),ak (aq z nd),z];simp⟩
 . intro b v z
   by_cases wa:b=a
   . subst wa;rw [ai] at z;cases z;exact XO.ok x1
   . rw [ak wa] at z
     by_cases wd:b=hh.objs.size
     . subst wd
       rw [ai] at z
       cases z
       refine ⟨_,x2,fun g=>?_⟩
       by_cases w:g=f
       . subst w;simp [mq];exact ry
       . rw [if_neg w]
         have:([(f,y)]:List (Str×V)).lookup g=none:=by
           rw [List.lookup_cons]
           have:(g==f)=false:=by simpa using w
           rw [this];rfl
         rw [this];trivial
     . rw [ak wd] at z
       refine (I.hok b v z).stay (fun c' v' hc q'=>x3 c' v' (fun w=>?_) q') (fun c' q'=>?_) fun c' xs q'=>?_
       . rcases hc with hc | hc
         . exact wa (hc ▸ w)
         . rw [w,e] at hc;cases hc
       . rw [ak (fun w=>by rw [w,e] at q';cases q'),ak (aq q' nd)];exact q'
       . rw [ak (fun w=>by rw [w,e] at q';cases q'),ak (aq q' nd)];exact q'
theorem Ny {f:Str} {y:V} {u:Value} {fs:List (Str×V)} (I:Inv X pins σ H s) (c:Ga X.K C fI names) (e:H a=some (XO a C (some dx))) (ed:H dx=some (.xd fs)) (hl:fs.length < 1000) (hf:f ∈ names) (ye:typeLookup (.type "Exception") f=pure none) (ry:RelV y u)
   (k:∀ s',Inv X pins σ (upd H dx (.xd (eu f y fs))) s'->Q () s'):wpAny (model X.prog X.w) A (setAttr (.ref a) f u) Q E s:=by
 obtain ⟨⟨t,ea⟩,_,_⟩:=(show cj X.prog X.w H s.heap a (XO a C (some dx)) from I.hok a _ e)
 obtain ⟨mA,n1,rl⟩:=(show cj X.prog X.w H s.heap dx (.xd fs) from I.hok dx _ ed)
 obtain ⟨nm,q,N,bs,sn,sub,ab,col,dd,k0,k1,k2,k3,k5,mN,cC,cN,_,hn⟩:=c.at I.qN
 have da:dx ≠ a:=fun w=>by rw [w,e] at ed;cases ed
 have aC:a ≠ C:=fun w=>by rw [w,cC] at ea;cases ea
 obtain ⟨hh,g,d,tk,os⟩:=s
 refine store_attr PySem.F.store_Exception cC cN (hn _ c.ss) (hn f hf) ye aC ⟨_,ea,rfl,(fun _ z=>by cases z),.inr ⟨dx,rfl,da,n1⟩⟩ (fun h' tk' x1 x2 x3=>?_) (BI rl) (by rw [List.length_map,sizeLine_eq];omega)
 obtain ⟨o1,y1,y2,y3,y4,y5⟩:=x3 _ ea
 have y6:=y5 dx rfl
 have eo:o1=⟨.ref C,some dx,.fields #[.ref t,.none,.none,.none,.bool false,.none],#[]⟩:=by
   obtain ⟨c1,d1,t1,s1⟩:=o1
   dsimp only at y2 y3 y4 y6
   rw [y2,y3,y4,y6]
 subst eo
 have n2:h'.Ns1 dx (fun y'=>if y'=f then some u else mA y'):=by
   obtain ⟨o2,z1,z2,z3,z4⟩:=x1
   rw [y1] at z1
   cases z1
   rcases z4 with ⟨z,_⟩ | ⟨d2,z,_,z5⟩
   . cases z
   . cases z;exact z5
 have kp:∀ b o,b ≠ dx->hh.get? b=some o->h'.get? b=some o:=fun b o nd z=>by
   by_cases w:b=a
   . rw [w] at z ⊢
     rw [ea] at z;cases z;exact y1
   . exact x2 b o w (fun o0 d0 q1 q2=>by rw [ea] at q1;cases q1;cases q2;exact nd) z
 have Vq:∃ o,h'.get? dx=some o:=let ⟨o,_,_,z,_⟩:=n2;⟨o,z⟩
 refine k _ (I.un (h':=h') (t':=tk') ⟨fun b o z n _ _=>kp b o (fun w=>by rw [w,ed] at n;cases n) z,fun b o z n _ _=>⟨o.slots,kp b o (fun w=>by rw [w,ed] at n;cases n) z⟩,fun b o z n _=>?_,fun b o z _=>?_,fun b xs z=>?_,fun b o v z=>?_,fun b ps z=>?_⟩ ?_)
 . rw [ak (fun w=>by rw [w,ed] at n;cases n)];exact n
 . by_cases w:b=dx
   . rw [w];exact Vq
   . exact ⟨o,kp b o w z⟩
 . rw [ak (fun w=>by rw [w,ed] at z;cases z)];exact z
 . rw [ak (fun w=>by rw [w,ed] at z;cases z)];exact z
 . exact ⟨#[],by rw [ak (fun w=>by rw [w,ed] at z;cases z),z];simp⟩
 . intro b v z
   by_cases wd:b=dx
   . subst wd
     rw [ai] at z
     cases z
     refine ⟨_,n2,fun g=>?_⟩
     rw [oK]
     by_cases w:g=f
     . rw [if_pos w,if_pos w];exact ry
     . rw [if_neg w,if_neg w];exact rl g
   . rw [ak wd] at z
     refine (I.hok b v z).stay (fun c' v' hc q'=>kp c' v' (fun w=>?_) q') (fun c' q'=>?_) fun c' xs q'=>?_
     . rcases hc with hc | hc
       . exact wd (hc ▸ w)
       . rw [w,ed] at hc;cases hc
     . rw [ak (fun w=>by rw [w,ed] at q';cases q')];exact q'
     . rw [ak (fun w=>by rw [w,ed] at q';cases q')];exact q'
theorem PK {f:Str} {v:V} {b:Bool} {fs:List (Str×V)} {Q:Value->Shared->Prop} (I:Inv X pins σ H s) (c:Ga X.K C fI names) (e:H a=some (XR a C dx)) (ed:H dx=some (.xd fs)) (l:fs.lookup f=some v) (hf:f ∈ names) (ye:typeLookup (.type "Exception") f=pure none)
   (k:∀ u s',Inv X pins σ H s'->RelV v u->Q u s'):wpAny (model X.prog X.w) A (getAttr (.ref a) f b) Q E s:=by
 obtain ⟨⟨oe,ea,e1,e2,e3⟩,_,_⟩:=(show cj X.prog X.w H s.heap a (XR a C dx) from I.hok a _ e)
 obtain ⟨mA,n1,rl⟩:=(show cj X.prog X.w H s.heap dx (.xd fs) from I.hok dx _ ed)
 obtain ⟨nm,q,N,bs,sn,sub,ab,col,dd,k0,k1,k2,k3,k5,mN,cC,cN,_,hn⟩:=c.at I.qN
 have da:dx ≠ a:=fun w=>by rw [w,e] at ed;cases ed
 obtain ⟨u,hu,ru⟩:=mq.some_of (v:=v) (o:=mA f) (by rw [<- l];exact rl f)
 obtain ⟨hh,g,d,tk,os⟩:=s
 exact Ip cC cN (hn _ c.ga) (hn _ c.gh) (hn f hf) ye ⟨oe,ea,e1,e3,.inr ⟨dx,e2,da,n1⟩⟩ hu (PySem.W.handedOut_of (yK ru)) (k u _ (I.tok _) ru)
end
section
variable {X:Cx} {C fI:Addr} {names:List Str} {o e value:Expr} {es:List Expr} {f:Str} {pos pos' np cpos:Pos} {ta tv:TE}
def Vr (C:Addr) (ta tv:TE) (f:Str):TS:=fun D σ H=>tv σ H fun y H1=>ta σ H1 fun x H2=>∃ a,x=.ref a/\H2 a=some (XO a C none)/\∀ dx,H2 dx=none->D.nx σ (upd (upd H2 dx (.xd [(f,y)])) a (XO a C (some dx)))
def Vs (C:Addr) (ta tv:TE) (f:Str):TS:=fun D σ H=>tv σ H fun y H1=>ta σ H1 fun x H2=>∃ a dx fs,x=.ref a/\H2 a=some (XO a C (some dx))/\H2 dx=some (.xd fs)/\fs.length < 1000/\D.nx σ (upd H2 dx (.xd (eu f y fs)))
theorem PL (c:Ga X.K C fI names) (ha:PE X o ta) (hv:PE X value tv) (hf:f ∈ names) (ye:typeLookup (.type "Exception") f=pure none) (hs:swapsWith value (some (.Attribute o f pos')) pos.line X.env=pure false) :
   PS X (.Assign [.Attribute o f pos'] value pos) (Vr C ta tv f):=by
 intro pins s σ H D I h
 refine plainObj_wpAny_Assign_Attribute (cU (hv pins s σ H _ I h) fun u s1 ⟨y,H1,I1,ry,q⟩=>cU (ha pins s1 σ H1 _ I1 q) fun ov s2 ⟨x,H2,I2,rx,a,ex,e1,q2⟩=>?_) hs
 subst ex
 obtain rfl:ov=Value.ref a:=rx
 exact Nv I2 c e1 hf ye ry fun dx s3 nd I3=>⟨σ,_,I3,q2 dx nd⟩
theorem Mt (c:Ga X.K C fI names) (ha:PE X o ta) (hv:PE X value tv) (hf:f ∈ names) (ye:typeLookup (.type "Exception") f=pure none) (hs:swapsWith value (some (.Attribute o f pos')) pos.line X.env=pure false) :
   PS X (.Assign [.Attribute o f pos'] value pos) (Vs C ta tv f):=by
 intro pins s σ H D I h
 refine plainObj_wpAny_Assign_Attribute (cU (hv pins s σ H _ I h) fun u s1 ⟨y,H1,I1,ry,q⟩=>cU (ha pins s1 σ H1 _ I1 q) fun ov s2 ⟨x,H2,I2,rx,a,dx,fs,ex,e1,e2,l,q2⟩=>?_) hs
 subst ex
 obtain rfl:ov=Value.ref a:=rx
 exact Ny I2 c e1 e2 l hf ye ry fun s3 I3=>⟨σ,_,I3,q2⟩
def Vt (C:Addr) (ta:TE) (f:Str):TE:=fun σ H Q=>ta σ H fun x H1=>∃ a dx fs v,x=.ref a/\H1 a=some (XR a C dx)/\H1 dx=some (.xd fs)/\fs.lookup f=some v/\Q v H1
theorem Ir (c:Ga X.K C fI names) (he:PE X e ta) (hf:f ∈ names) (ye:typeLookup (.type "Exception") f=pure none) (hb:attributeBase e f X.env (eval e X.env)=eval e X.env):PE X (.Attribute e f pos) (Vt C ta f):=by
 intro pins s σ H Q I h
 refine Em hb (cU (he pins s σ H _ I h) fun u s1 ⟨x,H1,I1,rx,a,dx,fs,v,ex,e1,e2,l,q⟩=>?_)
 subst ex
 obtain rfl:u=Value.ref a:=rx
 exact PK I1 c e1 e2 l hf ye fun u' s2 I2 ru=>⟨v,H1,I2,ru,q⟩
def Nz (C:Addr) (sp:Sp) (E:XK) (t:TA):TS:=fun _ σ H=>t σ H fun vs H1=>vs.length<=sizeLine/\∀ a,H1 a=none->
 sp (.ref a::vs) (upd H1 a (XO a C none)) (fun v H2=>v=.non/\∃ dx,H2 a=some (XO a C (some dx))/\E (.ref C) (some dx) (drop H2 a)) E0
def Raises (X:Cx) (E:XK):Prop:=∀ (pins:List (Addr×Obj)) (σ:St) (H:Hp) (s:Shared) (a C dx:Addr),Inv X pins σ H s->CY s.heap a (.ref C) (some dx) none->FW X pins H [a]->E (.ref C) (some dx) H->X.xe (.ref a) s
theorem Iu {k:Nat} {fd:FuncData} {ps:List Str} {sp:Sp} {x:Str} {t:TA} {E:XK} (FY:X.ex=[]) (c:Ga X.K C fI names) (F:bB X.prog X.w X.K X.mg X.base lS k fI fd ps sp) (hr:cK (k+1) X.A) (hg:Gl X x) (hm:X.mg x=some (.ref C))
   (hb:Binds X.K fd ps []) (hR:Raises X E) (ha:PA X (e::es) t) (hdb:(x==("__debug__":Str))=false:=by decide) (he:starEach (e::es) X.env=(false,eval e X.env)::starEach es X.env:=by rfl) (hpl:(backTo cpos (starEach es X.env)).any (·.1)=false:=by rfl) :
   PS X (.Raise (some (.Call (.Name x np) (e::es) [] cpos)) none pos) (Nz C sp E t):=by
 intro pins s σ H D I h
 rw [arm_exec_Raise]
 obtain ⟨nm,q,N,bs,sn,sub,ab,col,dd,k0,k1,k2,k3,k5,mN,cC,_,_,_⟩:=c.at I.qN
 refine wpAny_bind (wpAny_standAt (FU (C:=C) (nm:=nm) (q:=q) (N:=N) (bs:=bs) (bm:=dz) (hdct:=true) (sn:=sn) (sub:=sub) (ab:=ab) (col:=col) (dd:=dd) (k0:=k0) (k1:=k1) (k2:=k2) (k3:=k3) (k5:=k5) (newId:="Exception.__new__") (by decide) hr.hd ?_))
 refine wpAny_bind (cU (Q:=fun v s1=>∃ e t dx sl,v=.ref e/\s1.heap.get? C=some (excClassObj nm q C N bs dz true sn sub ab col dd k0 k1 k2 k3 k5 "Exception.__new__")/\s1.heap.get? e=some ⟨.ref C,dx,.fields #[.ref t,.none,.none,.none,.bool false,.none],sl⟩/\X.xe (.ref e) s1) ?_ fun v s1 z=>wpAny_bind (wpAny_standAt (wpAny_pure z)))
 refine wpAny_Call_Name_kw (mS I hg hm ?_ hdb)
 refine PySem.W.callWith_K (h₀:=X.base) I.ok.mod.kin c.kp (cU (ha cpos pins s σ H _ I h) fun us s1 ⟨vs,H1,I1,r,hz,q1⟩=>⟨I1.qN,?_⟩) he hpl
 obtain ⟨nm',q',N',bs',sn',sub',ab',col',dd',k0',k1',k2',k3',k5',mN,Vu,cN,ci,hn⟩:=c.at I1.qN
 have same:∀ s':Shared,X.K.In s'.heap->s'.heap.get? C=some (excClassObj nm q C N bs dz true sn sub ab col dd k0 k1 k2 k3 k5 "Exception.__new__"):=fun s' z=>by
   obtain ⟨_,_,_,_,_,_,_,_,_,_,_,_,_,_,l,_⟩:=c.ex
   have z1:=I.qN _ _ l
   rw [cC] at z1
   rw [Option.some.inj z1]
   exact z _ _ l
 obtain ⟨oI,fi,fc⟩:=c.init I1.qN
 obtain ⟨hh,g,d,tk,os⟩:=s1
 show wpAny _ _ (call (.ref C) us) _ _ _
 refine wpAny_call_exc_init PySem.F.excBase_Exception Vu cN ci fi fc (fun h' ea made=>?_) (by rw [<- r.length];exact hz)
 obtain ⟨t0,t1,t2,t3⟩:=made.there
 have nH:H1 ea=none:=by
   cases z:H1 ea with
   | none=>rfl
   | some u=>
     obtain ⟨o,w⟩:=(I1.hok ea u z).there
     have w':hh.get? ea=some o:=w
     rw [made.new] at w'
     cases w'
 obtain ⟨nw,np⟩:=I1.Nt (b:=ea) made.new FY
 have e3:ea ≠ X.env.locals:=fun z=>by
   obtain ⟨m,⟨o,_,_,ho,_⟩,_⟩:=I1.loc
   have ho':hh.get? X.env.locals=some o:=ho
   rw [<- z,made.new] at ho'
   cases ho'
 have e4:∀ x c,X.env.cells.lookup x=some c->c ≠ ea:=fun x c hc z=>by
   obtain ⟨v,o,ho,_⟩:=I1.cell x c hc
   have ho':hh.get? c=some o:=ho
   rw [z,made.new] at ho'
   cases ho'
 have I2:Inv X pins σ H1 ⟨h',g,d,tk,os⟩:=I1.kept (h':=h') (t':=tk) made.keeps
 have I3:Inv X pins σ (upd H1 ea (XO ea C none)) ⟨h',g,d,tk,os⟩:=I2.tracked nH nw e3 e4 np (XO.ok t1)
 have hq:=q1 ea nH
 have r2:Vals (V.ref ea::vs) (Value.ref ea::us):=.cons rfl r
 have hl:(Value.ref ea::us++[]).length=ps.length:=by
   rw [List.append_nil,<- r2.length]
   exact F.len _ _ _ _ hq
 have hbn:=hb _ (Value.ref ea::us) I3.qN hl
 rw [List.append_nil] at hbn
 refine wpAny_call (codeAny_mono (F.run _ X.stack _ _ ⟨Value.ref ea::us,[]⟩ (Value.ref ea::us) _ _ E0 (hr.make C us []) (I3.Ku.make C us []) hbn r2 hq) fun r s' hq'=>?_)
 cases r with
 | error e=>exact False.elim hq'
 | ok fl=>
   cases fl with
   | next=>exact False.elim hq'
   | brk=>exact False.elim hq'
   | cont=>exact False.elim hq'
   | ret u=>
     obtain ⟨v,H',I4,rv,ev,dx,ex,hE⟩:=I3.after hq'
     subst ev
     obtain ⟨⟨tt,ea'⟩,_,_⟩:=(show cj X.prog X.w H' s'.heap ea (XO ea C (some dx)) from I4.hok ea _ ex)
     have I5:=I4.dropped ex
     refine ⟨rv,ea,tt,some dx,#[],rfl,same s' I4.qN,ea',?_⟩
     exact hR pins σ _ s' ea C dx I5 ⟨_,_,ea',rfl,rfl,rfl,rfl⟩ (fun b hb=>by rw [show b=ea by simpa using hb];exact ⟨tS,nw,np⟩) hE
end
section
variable {P:Program} {w:World} {K:PySem.W.Frag} {mg:Str->Option Value} {base:Heap} {N:List Str} {qual:Str} {scope:Scope} {f:Addr} {cd:Value} {A:Around} {outer:List Env} {s0:Shared} {H0:Hp} {E:XK}
theorem KG:Raises (mU (qD P w) P w K mg base N qual scope f cd A outer s0 H0 E) E:=fun pins σ H s a C dx I x nw hE=>Iq I x (fun _ _ z=>by cases z) nw hE
end
end L2
namespace HT
open PySem PyProof.Rows
def lexLe:List Int->List Int->Bool
 | [],_=>true
 | _::_,[]=>false
 | x::xs,y::ys=>if x=y then lexLe xs ys else decide (x<=y)
theorem mW (x y:Int) (xs ys:List Int):lexLe (x::xs) (y::ys)=if x=y then lexLe xs ys else decide (x<=y):=rfl
theorem yZ (ys:List Int):lexLe [] ys=true:=by cases ys<;>rfl
theorem wQ (x:Int) (xs:List Int):lexLe (x::xs) []=false:=rfl
theorem Iv (A:Around) (s:Shared) (a:Int) (t:Tok) (c:Int) (u:Tok) (prog:Program) (w:World) (E:Value->Shared->Prop) (Q:Value->Shared->Prop) (h:Q (.bool (decide (a<=c))) s) :
   wpAny (model prog w) A (richCompare .LtE (.int a t) (.int c u)) Q E s:=
 (PyProof.Rows.le_int h:wpAny (model prog w) A (compareOp .LtE (.int a t) (.int c u)) Q E s)
section
open PySem.SeqAt
open PySem.AutoSeq1 (wpAny_loadPart')
open PySem.MeetsSeq PySem.MeetsSeq2 PySem.MeetsSeq3
theorem yf (l b:Addr) (items items2:Array Value) (n n2:Nat) (dd dd2:Option Addr) (sl sl2:Array (Option Value)) (ns ms:List Int) (hi:IntsAre items.toList ns) (hj:IntsAre items2.toList ms) :
   Meets (Builtin.«tuple.__le__» ⟨[.ref l,.ref b],[]⟩)
     (fun _ R s=>s.heap.get? l=some { cls:=.type "tuple",dict:=dd,data:=.seq items n,slots:=sl }/\s.heap.get? b=some { cls:=.type "tuple",dict:=dd2,data:=.seq items2 n2,slots:=sl2 } /\
       R (.ok (.ret (.bool (lexLe ns ms)))) s):=
 .of_wp fun prog w A R s h=>by
   obtain ⟨hp,g,d,tk,os⟩:=s;obtain ⟨hl,hb,h⟩:=h
   have f2:=AutoSeq1.sub_tuple_tuple
   have z1:items.size=ns.length:=by rw [<- hi.length];simp
   have z2:items2.size=ms.length:=by rw [<- hj.length];simp
   wp_walk using wpAny_loadPart' hl,wpAny_loadPart' hb,wpAny_forIn_list _ (fun rest b s'=>b.1=none/\s'=⟨hp,g,d,tk,os⟩/\∃ (vs ws:List Value) (ns' ms':List Int),rest=vs.zip ws /\
     IntsAre vs ns'/\IntsAre ws ms'/\ns'.length+items2.size=ms'.length+items.size/\R (.ok (.ret (.bool (lexLe ns' ms')))) ⟨hp,g,d,tk,os⟩) _
   case turn=>
     rintro ⟨y,x⟩ rest b s' ⟨hb',rfl,vs,ws,ns',ms',hz,RY,hwi,hlen,hR⟩
     cases RY with
     | nil=>rw [List.zip_nil_left] at hz;cases hz
     | cons a t RZ=>
       cases hwi with
       | nil=>rw [List.zip_nil_right] at hz;cases hz
       | cons c u hwi'=>
         rw [List.zip_cons_cons] at hz
         injection hz with hyx hrest
         injection hyx with hy hx
         subst hy hx
         rw [mW] at hR
         simp only [List.length_cons] at hlen
         obtain ⟨e,he,hiff⟩:=HS A.in1 ⟨hp,g,d,tk,os⟩ a t c u
         refine wpAny_bind (he prog w _ _ ?_)
         cases e with
         | true=>
           rw [if_pos (hiff.mp rfl)] at hR
           wp_walk
           exact ⟨rfl,rfl,_,_,_,_,hrest,RZ,hwi',by omega,hR⟩
         | false=>
           rw [if_neg (fun q=>absurd (hiff.mpr q) Bool.false_ne_true)] at hR
           have Vv:=Iv A.in1 ⟨hp,g,d,tk,os⟩ a t c u prog w
           wp_walk using Vv
           exact ⟨_,rfl,by simpa using hR⟩
   case fin=>
     rintro ⟨b1,b2⟩ s' ⟨hb',rfl,vs,ws,ns',ms',hz,RY,hwi,hlen,hR⟩
     simp only at hb'
     subst hb'
     have hv:lexLe ns' ms'=decide (items.size<=items2.size):=by
       cases RY with
       | nil=>
         have:ms'.length=ms'.length:=rfl
         simp only [List.length_nil] at hlen
         rw [yZ]
         exact (decide_eq_true (by omega)).symm
       | cons a t hv=>
         cases hwi with
         | nil=>
           simp only [List.length_nil,List.length_cons] at hlen
           rw [wQ]
           exact (decide_eq_false (by omega)).symm
         | cons c u hw=>
           rw [List.zip_cons_cons] at hz
           cases hz
     rw [hv] at hR
     wp_walk
     exact ⟨_,rfl,by simpa [Builtin.Tuple.tupleCompareSizes] using hR⟩
   case h=>
     exact ⟨rfl,rfl,items.toList,items2.toList,ns,ms,rfl,hi,hj,by omega,h⟩
end
section
variable {prog:Program} {w:World} {A:Around} {E:Value->Shared->Prop} {s:Shared}
theorem DE {l b:Addr} {items items2:Array Value} {ns ms:List Int} {Q:Value->Shared->Prop} (hl:IsTup s.heap l items) (hb:IsTup s.heap b items2) (hi:IntsAre items.toList ns) (hj:IntsAre items2.toList ms)
   (hu:A.units < cLine) (h:Q (.bool (lexLe ns ms)) s):wpAny (model prog w) A (compareOp .LtE (.ref l) (.ref b)) Q E s:=by
 obtain ⟨⟨cls,dd,data,sl⟩,ho,hc,n,hd⟩:=id hl
 obtain ⟨⟨Vw,dd2,data2,sl2⟩,ho2,hc2,n2,hd2⟩:=id hb
 simp only at hc hd hc2 hd2
 subst hc hd hc2 hd2
 exact richCompare_meets_room (op:=.LtE) ⟨_,ho,rfl⟩ ⟨_,ho2,rfl⟩ PySem.F.slot_tuple_le PySem.F.entry_tuple_le (PySem.F.args_tuple_le_2 _ _) (yf l b items items2 n n2 dd dd2 sl sl2 ns ms hi hj)
   ⟨ho,ho2,show Value.bool (lexLe ns ms) ≠ Value.notImplemented/\Q (.bool (lexLe ns ms)) s from ⟨(fun x=>nomatch x),h⟩⟩ hu
end
end HT
namespace L2
open PySem PySem.Spec PyProof.Rows XL
section
variable {X:Cx}
def Sa (K:PySem.W.Frag):R2:=fun x y H Q=>∃ a b ns ms,x=.ref a/\y=.ref b/\mr K H a (ns.map V.int)/\mr K H b (ms.map V.int)/\Q (.bl (HT.lexLe ns ms)) H
theorem N1 (hu:X.A.units < cLine):uH X (compareOp .LtE) (Sa X.K):=by
 intro pins s σ H x y v u Q I rx ry h
 obtain ⟨a,b,ns,ms,rfl,rfl,ha,hb,q⟩:=h
 cases rx
 cases ry
 obtain ⟨its,r1,p1,_⟩:=I.tuple ha
 obtain ⟨its2,r2,p2,_⟩:=I.tuple hb
 have i1:IntsAre its.toArray.toList ns:=intsAre_of r1
 have i2:IntsAre its2.toArray.toList ms:=intsAre_of r2
 exact HT.DE p1 p2 i1 i2 hu ⟨.bl (HT.lexLe ns ms),H,I,rfl,q⟩
def N2 (i:Nat) (f:Addr) (sp:Sp) (E:XK) (t:TA):TE:=fun σ H Q=>σ[i]?=some (some (.ref f))/\t σ H fun vs H1=>sp vs H1 Q E
theorem BJ {CX:CW} {k i:Nat} {f:Addr} {fd:FuncData} {ps:List Str} {sp:Sp} {E:XK} {x:Str} {p pos:Pos} {e:Expr} {es:List Expr} {t:TA} (F:bB X.prog X.w X.K X.mg X.base CX k f fd ps sp) (hr:cK k X.A)
   (hk:PySem.W.keepIn X.K (.ref f)=true) (hb:Binds X.K fd ps []) (hx:Passes CX X E) (ha:PA X (e::es) t) (hN:X.N[i]?=some x:=by rfl)
   (hv:MI X.env.scope x:=by first | exact Or.inl rfl | exact Or.inr (Or.inl rfl) | exact Or.inr (Or.inr rfl)) (hdb:(x==("__debug__":Str))=false:=by decide) (hcd:(x==("__classdict__":Str))=false:=by decide)
   (he:starEach (e::es) X.env=(false,eval e X.env)::starEach es X.env:=by rfl) (hpl:(backTo pos (starEach es X.env)).any (·.1)=false:=by rfl) :
   PE X (.Call (.Name x p) (e::es) [] pos) (N2 i f sp E t):=by
 intro pins s σ H Q I h
 obtain ⟨h1,h⟩:=h
 refine wpAny_Call_Name_kw (cU (Hz (X:=X) (i:=i) (x:=x) (pos:=p) hN hv hdb hcd pins s σ H (fun v H1=>v=.ref f/\H1=H) I ⟨_,h1,rfl,rfl⟩) fun u s1 ⟨v,H1,I1,rv,ev,eH⟩=>?_)
 subst ev eH
 obtain rfl:u=Value.ref f:=rv
 refine PySem.W.callWith_K (h₀:=X.base) I.ok.mod.kin hk (cU (ha pos pins s1 σ H1 _ I1 h) fun us s2 ⟨vs,H2,I2,r,q⟩=>⟨I2.qN,?_⟩) he hpl
 exact wD F hr hb .nil hx I2 r (by rw [List.append_nil];exact q)
end
structure u4 (k:Nat) (A:Around):Prop where
 dp:A.depth+3 * k+5 < recursionLimit
 un:A.units+16 * k+200 < cLine
theorem u4.deeper {k:Nat} {A:Around} (r:u4 (k+1) A) (env:Env):u4 k (A.deeper env):=
 ⟨by have:=r.dp;show A.depth+1+3 * k+5 < _;omega,by have:=r.un;show A.units+3+16 * k+200 < _;omega⟩
theorem u4.depth {k:Nat} {A:Around} (r:u4 k A):A.depth < recursionLimit:=by have:=r.dp;omega
structure Iw (P:Program) (w:World) (K:PySem.W.Frag) (mg:Str->Option Value) (base:Heap) (k:Nat) (f:Addr) (fd:FuncData) (ps:List Str) (sp:Sp):Prop where
 len:∀ vs H Q E,sp vs H Q E->vs.length=ps.length
 run:∀ (A:Around) (outer:List Env) (s:Shared) (H:Hp) (args:Args) (us:List Value) (vs:List V) (Q:VK) (E:XK),u4 k A->zC P w K mg base A outer s H->BindsTo s fd args (ps.zip us)->Vals vs us->sp vs H Q E->
   codeAny (model P w) A (.call (.ref f) args) (CR lS outer P w H s Q E) s
abbrev Cx.PM (X:Cx):Cx:={ X with calm:=false }
theorem DF {P:Program} {w:World} {K:PySem.W.Frag} {mg:Str->Option Value} {base:Heap} {N ps:List Str} {qual:Str} {scope:Scope} {f:Addr} {cd:Value} {A:Around} {outer:List Env} {s s1:Shared} {H:Hp} {E:XK} {us:List Value} {vs:List V}
   (S:aL N ps scope) (e0:zC P w K mg base A outer s H) (hl:vs.length=ps.length) (r:Vals vs us)
   (x:InCallC s s.heap.objs.size (bindL (envOfC qual scope s.heap.objs.size f cd).kindOf (ps.zip us) fun _=>none) (cellsFrom (s.heap.objs.size+1) scope.names []) (bindC (envOfC qual scope s.heap.objs.size f cd).kindOf (ps.zip us) fun _=>none) s1) :
   Inv (mU lS P w K mg base N qual scope f cd A outer s H E).PM [] (start N vs) H s1:=by
 have I:Inv (mU lS P w K mg base N qual scope f cd { A with handled:=none } outer s H E) [] (start N vs) H s1:=yQ S rfl ⟨e0.frames,e0.mod,e0.bs,e0.Fo,e0.qC,e0.Hy,e0.hok,e0.bare⟩ hl r x
 exact ⟨⟨I.ok.mod,I.ok.kind,I.ok.glob,I.ok.blt,I.ok.above,I.ok.inj,I.ok.has,I.ok.Mg,(fun z=>Bool.noConfusion z),I.ok.frames,I.ok.Kh,I.ok.MJ,I.ok.bs,I.ok.Fo,I.ok.Bf,I.ok.Bg,I.ok.qC,I.ok.Hy⟩,I.os,I.bare,I.base,I.loc,I.cell,I.free,I.gG,I.pin,I.hok,I.len⟩
theorem N3 {P:Program} {w:World} {K:PySem.W.Frag} {mg:Str->Option Value} {base:Heap} {k:Nat} {f:Addr} {name qual:Str} {params:Arguments} {body:List Stmt} {scope:Scope} {dV kV doc pm cdv ct oc:Value} {an od:Option Addr}
   {osl:Array (Option Value)} {N ps:List Str} {sp:Sp} (lk:K.lookup f=some ⟨oc,od,.func (PySem.W.fnOf name qual params body scope dV kV doc pm an cdv ct),osl⟩) (hcd:PySem.W.codeIn K cdv qual=true) (S:aL N ps scope)
   (len:∀ vs H Q E,sp vs H Q E->vs.length=ps.length)
   (hbody:∀ (A:Around) (outer:List Env) (s:Shared) (H:Hp) (vs:List V) (Q:VK) (E:XK),u4 k (A.deeper (envOfC qual scope s.heap.objs.size f cdv))->sp vs H Q E->
     ∃ t,Bh (mU lS P w K mg base N qual scope f cdv A outer s H E).PM.OL body t/\t { nx:=fun _ H'=>Q .non H',rt:=Q } (start N vs) H) :
   Iw P w K mg base (k+1) f (PySem.W.fnOf name qual params body scope dV kV doc pm an cdv ct) ps sp:=by
 refine ⟨len,fun A outer s H args us vs Q E hr e0 hb r Dy=>?_⟩
 have hl:=len _ _ _ _ Dy
 have KX:K.In s.heap:=e0.mod.kin.keeps fun b o e=>(e0.bs b o e).1
 have lim:s.heap.NoLimit:=e0.mod.nolimit.keeps fun b o e=>(e0.bs b o e).1
 have hkind:∀ y ∈ ps.zip us,scope.names.lookup y.1=some .local\/(scope.names.lookup y.1=some .cell/\((cellsFrom (s.heap.objs.size+1) scope.names []).lookup y.1).isSome=true):=fun ⟨n,v⟩ hy=>by
   rcases S.par n (List.of_mem_zip hy).1 with q | q
   . exact .inl q
   . exact .inr ⟨q,PySem.W.cellsFrom_some _ _ _ (.inl q)⟩
 refine codeAny_call_function hr.depth (KX _ _ lk) rfl S.co S.gen rfl (PySem.W.codeRec_of KX hcd) (hb _ _ _ _ ?_)
 refine wpAny_newFunctionEnv_cells S.kind hkind fun env he s1 x=>?_
 subst he
 refine ⟨lim.keeps x.toInCall.keep,codeAny_func ?_⟩
 obtain ⟨t,ht,hq⟩:=hbody A outer s H vs Q E (hr.deeper _) Dy
 have I:=DF (E:=E) S e0 hl r x
 refine wpAny_mono (ht [] s1 (start N vs) H _ (I.wk _) hq) (fun fl s' hs=>?_) fun e s' hs=>False.elim hs
 cases fl with
 | ret u=>
   obtain ⟨v,σ',H',J,rv,q⟩:=hs
   exact ⟨v,H',J.os,J.bare,J.base,J.hok,rv,q⟩
 | next=>
   obtain ⟨σ',H',J,q⟩:=hs
   exact ⟨.non,H',J.os,J.bare,J.base,J.hok,rfl,q⟩
 | brk=>
   obtain ⟨_,_,_,q⟩:=hs
   exact False.elim q
 | cont=>
   obtain ⟨_,_,_,q⟩:=hs
   exact False.elim q
section
variable {X:Cx}
theorem Iz {k:Nat} {f:Addr} {fd:FuncData} {ps:List Str} {sp:Sp} {x:Str} {p pos:Pos} {e:Expr} {es:List Expr} {t:TA} (F:Iw X.prog X.w X.K X.mg X.base k f fd ps sp) (hr:u4 k X.A) (hg:Gl X x) (hm:X.mg x=some (.ref f))
   (hk:PySem.W.keepIn X.K (.ref f)=true) (hb:Binds X.K fd ps []) (ha:PA X (e::es) t) (hdb:(x==("__debug__":Str))=false:=by decide)
   (he:starEach (e::es) X.env=(false,eval e X.env)::starEach es X.env:=by rfl) (hpl:(backTo pos (starEach es X.env)).any (·.1)=false:=by rfl):PE X (.Call (.Name x p) (e::es) [] pos) (HP sp [] E0 t):=by
 intro pins s σ H Q I h
 refine wpAny_Call_Name_kw (mS I hg hm ?_ hdb)
 refine PySem.W.callWith_K (h₀:=X.base) I.ok.mod.kin hk (cU (ha pos pins s σ H _ I h) fun us s1 ⟨vs,H1,I1,r,q⟩=>⟨I1.qN,?_⟩) he hpl
 have q:sp (vs++[]) H1 Q E0:=q
 rw [List.append_nil] at q
 have hl:(us++[]).length=ps.length:=by rw [List.append_nil,<- r.length];exact F.len _ _ _ _ q
 have hbn:=hb s1 us I1.qN hl
 rw [List.append_nil] at hbn
 refine wpAny_call (codeAny_mono (F.run X.A X.stack s1 H1 ⟨us,[]⟩ us vs Q E0 hr I1.Ku hbn r q) fun r s' hq=>?_)
 cases r with
 | error e=>exact False.elim hq
 | ok fl=>
   cases fl with
   | ret u=>exact I1.after hq
   | next=>exact False.elim hq
   | brk=>exact False.elim hq
   | cont=>exact False.elim hq
end
abbrev Cx.hand (X:Cx) (ea:Addr):Cx:={ X with A:=X.A.mark (some (.ref ea)),calm:=false,xe:=fun _ _=>False }
section
variable {X:Cx} {pins:List (Addr×Obj)} {σ:St} {H:Hp} {s:Shared}
theorem Inv.hand (I:Inv X pins σ H s) (ea:Addr):Inv (X.hand ea) pins σ H s:=
 ⟨⟨I.ok.mod,I.ok.kind,I.ok.glob,I.ok.blt,I.ok.above,I.ok.inj,I.ok.has,I.ok.Mg,(fun z=>Bool.noConfusion z),I.ok.frames,I.ok.Kh,I.ok.MJ,I.ok.bs,I.ok.Fo,I.ok.Bf,I.ok.Bg,I.ok.qC,I.ok.Hy⟩,I.os,I.bare,I.base,I.loc,I.cell,I.free,I.gG,I.pin,I.hok,I.len⟩
theorem Inv.I0 {ea:Addr} {h':Heap} {t':Nat} {m':Str->Option Value} (ok:X.Ok) (WQ:X.ex=[]) (I:Inv (X.hand ea) pins σ H s) (n:h'.Ns X.env.locals m') (sb:Heap.SameBut X.env.locals s.heap h') :
   Inv X pins (List.replicate X.N.length none) H { s with heap:=h',toks:=t' }:=by
 have kp:∀ b o,b ≠ X.env.locals->s.heap.get? b=some o->h'.get? b=some o:=fun b o n q=>by rw [sb.2 b n];exact q
 have Kl:∀ b o,X.t9.heap.get? b=some o->b ≠ X.env.locals:=fun b o e=>Nat.ne_of_lt (Nat.lt_of_lt_of_le (Heap.lt_size e) ok.above)
 have fr:H X.env.locals=none:=I.free
 refine ⟨ok,I.os,I.bare,⟨fun b o e n hb hx=>kp b o (Kl b o e) (I.base.keep b o e n hb hx),fun b o e n hb hx=>?_,I.base.free,fun b o e hx=>?_,I.base.tups,I.base.qZ,I.base.tE⟩,⟨m',n,fun i x v _ e2 _=>?_⟩,fun x c e=>?_,I.free,I.gG,fun p hp=>?_,fun b u e=>?_,by simp⟩
 . obtain ⟨sl,q⟩:=I.base.slot b o e n hb hx
   exact ⟨sl,kp b _ (Kl b o e) q⟩
 . obtain ⟨o',q⟩:=I.base.there b o e hx
   exact ⟨o',kp b o' (Kl b o e) q⟩
 . rw [List.getElem?_replicate] at e2
   split at e2<;>cases e2
 . obtain ⟨v,o,ho,hd⟩:=I.cell x c e
   exact ⟨v,o,kp c o (I.Kc x c e) ho,hd⟩
 . obtain ⟨z1,z2,z3,z4⟩:=I.pin p hp
   exact ⟨kp _ _ z3 z1,z2,z3,z4⟩
 . refine (I.hok b u e).stay (fun c v hc q=>kp c v (fun z=>?_) q) (fun _ q=>q) fun _ _ q=>q
   rcases hc with hc | hc
   . rw [z] at hc;rw [<- hc,fr] at e;cases e
   . rw [z,fr] at hc;cases hc
end
abbrev Cx.Gb (X:Cx) (pn:List (Addr×Obj)) (Z:Value->Shared->Prop):Cx:={ X with pn:=pn,xe:=Z }
def KH (X:Cx) (pn:List (Addr×Obj)) (Z:Value->Shared->Prop) (E:XK):Prop:=Passes (qD X.prog X.w) (X.Gb pn Z) E
section
variable {X:Cx} {pins Mu:List (Addr×Obj)} {σ:St} {H:Hp} {s:Shared} {Z:Value->Shared->Prop}
theorem Inv.Gb (I:Inv X pins σ H s):Inv (X.Gb (X.pn++pins) Z) [] σ H s:=
 ⟨⟨I.ok.mod,I.ok.kind,I.ok.glob,I.ok.blt,I.ok.above,I.ok.inj,I.ok.has,I.ok.Mg,I.ok.hd,I.ok.frames,I.ok.Kh,I.ok.MJ,I.ok.bs,I.ok.Fo,I.ok.Bf,I.ok.Bg,I.ok.qC,I.ok.Hy⟩,I.os,I.bare,I.base,I.loc,I.cell,I.free,I.gG,
   fun p hp=>I.pin p (by simpa using hp),I.hok,I.len⟩
theorem Inv.BK (ok:X.Ok) (I:Inv (X.Gb (X.pn++pins) Z) Mu σ H s):Inv X pins σ H s:=
 ⟨ok,I.os,I.bare,I.base,I.loc,I.cell,I.free,I.gG,fun p hp=>I.pin p (List.mem_append_left _ hp),I.hok,I.len⟩
end
section
variable {X:Cx} {C fI:Addr} {names:List Str} {xc n:Str} {np hpos pos:Pos} {body suite:List Stmt} {b0:Stmt} {tb th:TS} {E:XK} {i:Nat} {Qr:VK}
def Sb (tb:TS) (Qr:VK):TS:=fun D σ H=>(∀ v H',Qr v H'->D.rt v H')/\tb D σ H
theorem N4 (W:Own X) (FY:X.ex=[]) (hN:X.N.Nodup) (c:Ga X.K C fI names) (hg:Gl X xc) (hm:X.mg xc=some (.ref C)) (hi:X.N[i]?=some n) (hl:X.env.kindOf n=some .local) (QO:X.env.scope.names.lookup n=some .local)
   (hb:∀ pn Z,KH X pn Z E->Bh (X.Gb pn Z) body tb) (hs:∀ ea,Bh (X.hand ea) (b0::suite) th)
   (hE:∀ C' dx H,E C' (some dx) H->C'=.ref C/\∀ a,H a=none->th { nx:=fun _ _=>False,rt:=Qr } ((List.replicate X.N.length none).set i (some (.ref a))) (upd H a (XR a C dx))) (hdb:(xc==("__debug__":Str))=false:=by decide) :
   PS X (.Try body [.ExceptHandler (some (.Name xc np)) (some n) (b0::suite) hpos] [] [] pos) (Sb tb Qr):=by
 intro pins s σ H D I h
 obtain ⟨hQ,h⟩:=h
 have O9:=I.ok
 have hcls:(X.env.scope.kind==.class||(X.env.scope.kind==.module&&X.env.locals != X.env.globals))=false:=by rw [I.ok.kind];rfl
 refine wpAny_Try_except (wpAny_mono (hb (X.pn++pins) (fun e s1=>wpAny (model X.prog X.w) X.A (noteFrame e X.env) (fun _ s2=>wpAny (model X.prog X.w) X.A (setFlight e none) (fun _ s3=>
   wpAny (model X.prog X.w) X.A (handleBy e X.env [.ExceptHandler (some (.Name xc np)) (some n) (b0::suite) hpos]) (SP X pins D) X.xe s3) X.xe s2) X.xe s1) ?_ [] s σ H D I.Gb h) (fun f s1 q=>?_) fun e s1 q=>q)
 rotate_left
 . cases f with
   | next=>obtain ⟨σ',H',I',q⟩:=q;exact wpAny_execs_nil ⟨σ',H',I'.BK O9,q⟩
   | ret u=>obtain ⟨v,σ',H',I',r,q⟩:=q;exact ⟨v,σ',H',I'.BK O9,r,q⟩
   | brk=>obtain ⟨σ',H',I',q⟩:=q;exact ⟨σ',H',I'.BK O9,q⟩
   | cont=>obtain ⟨σ',H',I',q⟩:=q;exact ⟨σ',H',I'.BK O9,q⟩
 intro Mu σ1 H1 s1 e s2 I1 hx
 have Vx:Inv X pins σ1 H1 s1:=I1.BK O9
 obtain ⟨a,T,C',dx,H',rfl,I2,x2,nw,Vy⟩:=Vx.back (P:=X.prog) (w:=X.w) FY hx
 obtain ⟨eC,hsuite⟩:=hE _ _ _ Vy
 cases eC
 show wpAny _ _ (noteFrame (.ref a) X.env) _ _ s2
 refine I2.noted W FY x2 (fun T fl e=>by cases e;exact .inl rfl) nw fun h3 T3 I3 x3 Sd=>?_
 refine I3.flown (fr:=none) x3 Sd fun h4 I4 x4=>?_
 have J4:=I4.hand a
 obtain ⟨nm,q,N,bs,sn,sub,ab,col,dd,k0,k1,k2,k3,k5,mN,cC,_,_,_⟩:=c.at I4.qN
 obtain ⟨oe,vs,ce,e1,e2,e3,_⟩:=id x4
 refine wpAny_handleBy_cons (codeAny_handlers_test (mS (X:=X.hand a) J4 hg hm ?_ hdb)) (by intro q;cases q)
 refine wpAny_excMatches_sub_self cC ce e1 (by decide) ?_
 refine codeAny_handlers_suite_as ?_
 refine Inv.flown (X:=X.hand a) (fr:=none) J4 x4 Sd fun h5 J5 x5=>?_
 obtain ⟨Vz,WR,TH,d1,d2,d3,_⟩:=id x5
 obtain ⟨nl,nc⟩:=J5.apart TH d3
 obtain ⟨nH,nz,np'⟩:=Sd a (by simp)
 refine tF (X:=X.hand a) J5 hN hi (.inl QO) (v:=.ref a) rfl (fun s6 J6 ⟨ad,sb,hor⟩=>?_) (.inr QO)
 have V0:a ≠ ad:=fun z=>by
   rcases hor with w | w
   . exact nl (z.trans w)
   . exact nc _ _ w z.symm
 have V1:s6.heap.get? a=some Vz:=by rw [sb.2 a V0];exact TH
 have TJ:i < X.N.length:=(List.getElem?_eq_some_iff.mp hi).1
 have V2:Inv (X.hand a) pins ((List.replicate X.N.length none).set i (some (.ref a))) H' s6:=J6.weak (by
   have:=J5.len
   simp only [List.length_set,List.length_replicate]
   exact this.symm) fun j v ej=>by
     by_cases z:j=i
     . subst z
       rw [List.getElem?_set_self (by simpa using TJ)] at ej
       have V3:σ1.length=X.N.length:=J5.len
       rw [List.getElem?_set_self (by rw [V3];exact TJ)]
       exact ej
     . rw [List.getElem?_set_ne (Ne.symm z),List.getElem?_replicate] at ej
       split at ej<;>cases ej
 have J7:=V2.tracked (a:=a) nH nz nl nc np' (XR.ok (dx:=dx) V1 d1 d2 fun cc z=>by rw [d3] at z;cases z)
 refine wpAny_mono (hs a pins s6 _ _ _ J7 (hsuite a nH)) (fun f s7 q=>?_) fun _ _ z=>z.elim
 cases f with
 | ret u=>
   obtain ⟨v,σ7,H7,J8,rv,qv⟩:=q
   obtain ⟨m,hn,_⟩:=J8.loc
   refine wpAny_nameGoes (env:=X.env) hl hn hcls fun h9 m9 n9 V4=>?_
   exact ⟨v,_,H7,J8.I0 O9 FY n9 V4,rv,hQ _ _ qv⟩
 | next=>obtain ⟨_,_,_,q⟩:=q;exact q.elim
 | brk=>obtain ⟨_,_,_,q⟩:=q;exact q.elim
 | cont=>obtain ⟨_,_,_,q⟩:=q;exact q.elim
end
end L2
namespace L2
open PySem PySem.Spec PyProof.Rows XL
structure Mv (K:PySem.W.Frag) (C:Addr) (m:Str) (f:Addr):Prop where
 sp:PySem.W.specialIn K (.ref C) "__getattribute__"=some (some (.builtin "type.__getattribute__"))
 rd:PySem.W.readsIn K C (.type "type")=true
 fc:PySem.W.findCls K (.ref C) (.type "type") m=some (.val (.ref f))
 kp:PySem.W.keepIn K (.ref f)=true
section
variable {X:Cx} {CX:CW} {k:Nat} {C f:Addr} {fd:FuncData} {ps:List Str} {sp:Sp} {E:XK} {x m:Str} {p apos pos:Pos} {e:Expr} {es:List Expr} {t:TA}
theorem IA {pl:Sem Bool} (hg:Gl X x) (hm:X.mg x=some (.ref C)) (c:Mv X.K C m f) (F:bB X.prog X.w X.K X.mg X.base CX k f fd ps sp) (hr:cK k X.A) (hb:Binds X.K fd ps []) (hx:Passes CX X E) (ha:PA X (e::es) t)
   (hdb:(x==("__debug__":Str))=false:=by decide) (hst:starEach (e::es) X.env=(false,eval e X.env)::starEach es X.env:=by rfl) (hpl:(backTo pos (starEach es X.env)).any (·.1)=false:=by rfl)
   (ht:eval (.Call (.Attribute (.Name x p) m apos) (e::es) [] pos) X.env=(do
     let ov <- eval (.Name x p) X.env
     standAt apos.atName
     let (f,first) <- holding [ov] (getMethod ov m pl)
     callWith pos f first (backTo pos (starEach (e::es) X.env)) (backToKw pos (keywordEach [] X.env))):=by rfl) :
   PE X (.Call (.Attribute (.Name x p) m apos) (e::es) [] pos) (HP sp [] E t):=by
 intro pins s σ H Q I h
 refine PySem.W.methodCall_KW (pl:=pl) (cU (b5 (X:=X) (x:=x) (v:=.ref C) (pos:=p) hg hm rfl hdb pins s σ H (fun v H1=>v=.ref C/\H1=H) I ⟨rfl,rfl⟩) fun u s1 ⟨v,H1,I1,rv,ev,eH⟩=>?_) ht
 subst ev eH
 obtain rfl:u=Value.ref C:=rv
 refine PySem.W.method_cls I1.qN c.sp (PySem.W.cls_value I1.qN c.rd c.fc rfl ?_)
 have I2:=I1.tok (s1.toks+1)
 refine PySem.W.callWith_K (first:=[]) (h₀:=X.base) I.ok.mod.kin c.kp (cU (ha pos pins _ σ H1 _ I2 h) fun us s2 ⟨vs,H2,I3,r,q⟩=>⟨I3.qN,?_⟩) hst hpl
 exact wD F hr hb .nil hx I3 r q
end
end L2
namespace JM
open Fk
theorem aS {α β:Type} (y:α) (f:α->Except Fault β):andThen (.ok y) f=f y:=rfl
theorem aU {α β γ:Type} (x:Except Fault α) (f:α->Except Fault β) (g:β->Except Fault γ):andThen (andThen x f) g=andThen x fun y=>andThen (f y) g:=by
 cases x<;>rfl
theorem gA {α β:Type} {x x':Except Fault α} {f f':α->Except Fault β} (h:x=x') (hf:∀ y,x=.ok y->f y=f' y):andThen x f=andThen x' f':=by
 subst h
 cases x with
 | error e=>rfl
 | ok y=>exact hf y rfl
theorem BL {k:Nat} {g g':Nat->Bool} (h:∀ v,g v=g' v) (b:Bytes) (p:Nat):numIn k g b p=numIn k g' b p:=by
 have e:g=g':=funext h
 rw [e]
theorem aX {k:Nat} {g:Nat->Bool} {b:Bytes} {p:Nat} {y:Nat×Bytes×Nat} (h:numIn k g b p=.ok y):k<=b.length/\g y.1=true/\y.1=num (b.take k)/\y.2.1=b.drop k/\y.2.2=p+k:=by
 unfold numIn at h
 split at h
 . cases h
 . rename_i h1
   split at h
   . rename_i h2
     cases h
     exact ⟨by omega,h2,rfl,rfl,rfl⟩
   . cases h
def many {α:Type} (one:Bytes->Nat->Except Fault (α×Bytes×Nat)):Nat->Bytes->Nat->Except Fault (List α×Bytes×Nat)
 | 0,b,p=>.ok ([],b,p)
 | k+1,b,p=>andThen (one b p) fun x=>andThen (many one k x.2.1 x.2.2) fun l=>.ok (x.1::l.1,l.2.1,l.2.2)
def iH:Bytes->Bytes->Nat->Except Fault (Bytes×Nat)
 | [],b,p=>.ok (b,p)
 | c::m,b,p=>andThen (numIn 1 (fun _=>true) b p) fun x=>andThen (need (decide (x.1=c.toNat)) 1 p) fun _=>iH m x.2.1 x.2.2
theorem zM (c:UInt8):num [c]=c.toNat:=by
 simp [num]
theorem BN:∀ (m b:Bytes) (p:Nat),iH m b p=match (List.range m.length).find? fun i=>b[i]? != m[i]? with
   | some i=>.error ⟨if i < b.length then 1 else 5,p+min i b.length⟩
   | none=>.ok (b.drop m.length,p+m.length)
 | [],b,p=>by simp [iH]
 | c::m,[],p=>by
   have e:(List.range (c::m).length).find? (fun i=>([]:Bytes)[i]? != (c::m)[i]?)=some 0:=by
     rw [List.length_cons,List.range_succ_eq_map,List.find?_cons]
     have q:(([]:Bytes)[0]? != (c::m)[0]?)=true:=by simp
     rw [q]
   rw [e]
   simp [iH,numIn,andThen]
 | c::m,x::b,p=>by
   have ih:=BN m b (p+1)
   rw [List.length_cons,List.range_succ_eq_map,List.find?_cons,List.find?_map]
   have e1:numIn 1 (fun _=>true) (x::b) p=.ok (x.toNat,b,p+1):=by
     simp [numIn,zM]
   unfold iH
   rw [e1,aS]
   show andThen (need (decide (x.toNat=c.toNat)) 1 p) (fun _=>iH m b (p+1))=_
   by_cases hx:x=c
   . subst hx
     have e2:((x::b)[0]? != (x::m)[0]?)=false:=by simp
     rw [e2]
     have e3:(fun i=>(x::b)[i]? != (x::m)[i]?) ∘ Nat.succ=fun i=>b[i]? != m[i]?:=by
       funext i
       simp
     rw [e3]
     have e4:need (decide (x.toNat=x.toNat)) 1 p=.ok ():=by simp [need]
     rw [e4,aS,ih]
     cases (List.range m.length).find? fun i=>b[i]? != m[i]? with
     | none=>simp;omega
     | some i=>
       simp only [Option.map_some]
       by_cases hi:i < b.length
       . have:i.succ < (x::b).length:=by simp;omega
         simp [hi]
         omega
       . have:¬ i.succ < (x::b).length:=by simp;omega
         simp [hi]
         omega
   . have e2:((x::b)[0]? != (c::m)[0]?)=true:=by simp [hx]
     rw [e2]
     have e4:need (decide (x.toNat=c.toNat)) 1 p=.error ⟨1,p⟩:=by
       have:¬ x.toNat=c.toNat:=fun q=>hx (UInt8.toNat_inj.mp q)
       simp [need,this]
     rw [e4]
     simp [andThen]
theorem KI (m b:Bytes):mark m b=iH m b 0:=by
 rw [BN]
 unfold mark
 cases (List.range m.length).find? fun i=>b[i]? != m[i]?<;>simp
theorem wR:∀ {l m:List Nat},l.Pairwise (· < ·)->m.Pairwise (· < ·)->(∀ x,x ∈ l ↔ x ∈ m)->l=m
 | [],[],_,_,_=>rfl
 | [],y::m,_,_,h=>by have:=(h y).mpr (by simp);simp at this
 | x::l,[],_,_,h=>by have:=(h x).mp (by simp);simp at this
 | x::l,y::m,hl,hm,h=>by
   obtain ⟨hx,hl'⟩:=List.pairwise_cons.mp hl
   obtain ⟨hy,hm'⟩:=List.pairwise_cons.mp hm
   have e:x=y:=by
     rcases List.mem_cons.mp ((h x).mp (by simp)) with q | q
     . exact q
     . rcases List.mem_cons.mp ((h y).mpr (by simp)) with r | r
       . exact r.symm
       . have a:=hx y r
         have b:=hy x q
         omega
   subst e
   have ih:l=m:=wR hl' hm' fun z=>by
     constructor
     . intro hz
       rcases List.mem_cons.mp ((h z).mp (List.mem_cons.mpr (.inr hz))) with q | q
       . subst q;have:=hx z hz;omega
       . exact q
     . intro hz
       rcases List.mem_cons.mp ((h z).mpr (List.mem_cons.mpr (.inr hz))) with q | q
       . subst q;have:=hy z hz;omega
       . exact q
   rw [ih]
theorem BO (n:Nat):(List.range n).Pairwise (· < ·):=List.pairwise_lt_range
theorem zN {n:Nat} (p:Nat->Bool):((List.range n).filter p).Pairwise (· < ·):=(BO n).filter p
def oV (n:Nat) (l:List (Nat×Nat)):Prop:=(∀ x ∈ l,x.1 < x.2/\x.2 < n)/\l.Pairwise fun x y=>x.1 < y.1\/(x.1=y.1/\x.2 < y.2)
def oW (v:Nat) (x:Nat×Nat):Option Nat:=if x.1=v then some x.2 else if x.2=v then some x.1 else none
def f6 (l:List (Nat×Nat)) (v:Nat):List Nat:=l.filterMap (oW v)
theorem DG {n:Nat} {l:List (Nat×Nat)} (h:oV n l) (v:Nat):(f6 l v).Pairwise (· < ·):=by
 obtain ⟨h1,h2⟩:=h
 unfold f6
 rw [List.pairwise_filterMap]
 have h3:l.Pairwise fun x y=>(x.1 < x.2/\y.1 < y.2)/\(x.1 < y.1\/(x.1=y.1/\x.2 < y.2)):=by
   refine List.Pairwise.imp_of_mem ?_ h2
   intro a b ha hb hab
   exact ⟨⟨(h1 a ha).1,(h1 b hb).1⟩,hab⟩
 refine h3.imp ?_
 rintro ⟨xa,xb⟩ ⟨ya,yb⟩ ⟨⟨p1,p2⟩,p3⟩ u hu w hw
 unfold oW at hu hw
 simp only at p1 p2 p3 hu hw
 have cu:(xa=v/\xb=u)\/(xa ≠ v/\xb=v/\xa=u):=by
   by_cases q:xa=v
   . rw [if_pos q] at hu;exact .inl ⟨q,Option.some.inj hu⟩
   . rw [if_neg q] at hu
     by_cases q2:xb=v
     . rw [if_pos q2] at hu;exact .inr ⟨q,q2,Option.some.inj hu⟩
     . rw [if_neg q2] at hu;cases hu
 have cw:(ya=v/\yb=w)\/(ya ≠ v/\yb=v/\ya=w):=by
   by_cases q:ya=v
   . rw [if_pos q] at hw;exact .inl ⟨q,Option.some.inj hw⟩
   . rw [if_neg q] at hw
     by_cases q2:yb=v
     . rw [if_pos q2] at hw;exact .inr ⟨q,q2,Option.some.inj hw⟩
     . rw [if_neg q2] at hw;cases hw
 omega
theorem BP {l:List (Nat×Nat)} {v w:Nat}:w ∈ f6 l v ↔ ∃ x ∈ l,(x.1=v/\x.2=w)\/(x.1 ≠ v/\x.2=v/\x.1=w):=by
 unfold f6
 rw [List.mem_filterMap]
 constructor
 . rintro ⟨x,hx,e⟩
   refine ⟨x,hx,?_⟩
   unfold oW at e
   split at e
   . rename_i q;exact .inl ⟨q,Option.some.inj e⟩
   . rename_i q
     split at e
     . rename_i q2;exact .inr ⟨q,q2,Option.some.inj e⟩
     . cases e
 . rintro ⟨x,hx,e⟩
   refine ⟨x,hx,?_⟩
   unfold oW
   rcases e with ⟨q1,q2⟩ | ⟨q1,q2,q3⟩
   . rw [if_pos q1,q2]
   . rw [if_neg q1,if_pos q2,q3]
theorem BQ {n:Nat} {l:List (Nat×Nat)} (h:oV n l) (v:Nat) (j:Nat->Bool) (hj:∀ w,j w=l.any fun x=>(x.1==v&&x.2==w)||(x.1==w&&x.2==v)):(List.range n).filter j=f6 l v:=by
 refine wR (zN j) (DG h v) fun w=>?_
 rw [List.mem_filter,BP,hj,List.mem_range,List.any_eq_true]
 constructor
 . rintro ⟨_,x,hx,e⟩
   refine ⟨x,hx,?_⟩
   have:=h.1 x hx
   simp only [Bool.or_eq_true,Bool.and_eq_true,beq_iff_eq] at e
   omega
 . rintro ⟨x,hx,e⟩
   have:=h.1 x hx
   refine ⟨by omega,x,hx,?_⟩
   simp only [Bool.or_eq_true,Bool.and_eq_true,beq_iff_eq]
   omega
end JM
namespace JM
open Fk
def jO (n:Nat) (had:Option (Nat×Nat)) (b:Bytes) (p:Nat):Except Fault ((Nat×Nat)×Bytes×Nat):=
   andThen (numIn 1 (fun v=>decide (v < n)) b p) fun x=>
   andThen (numIn 1 (fun v=>decide (x.1 < v)&&decide (v < n)) x.2.1 x.2.2) fun y=>
   andThen (need (match had with
     | some (u,w)=>decide (u < x.1)||(u==x.1&&decide (w < y.1))
     | none=>true) 3 p) fun _=>
   .ok ((x.1,y.1),y.2.1,y.2.2)
def gf {α:Type} (n:Nat) (one:Nat×Nat->Bytes->Nat->Except Fault (α×Bytes×Nat)):Nat->Option (Nat×Nat)->Bytes->Nat->Except Fault (List α×Bytes×Nat)
 | 0,_,b,p=>.ok ([],b,p)
 | k+1,had,b,p=>
   andThen (jO n had b p) fun q=>andThen (one q.1 q.2.1 q.2.2) fun x=>andThen (gf n one k (some q.1) x.2.1 x.2.2) fun l=>.ok (x.1::l.1,l.2.1,l.2.2)
def kF (b:Bytes) (p:Nat):Except Fault (Atom×Bytes×Nat):=
   andThen (numIn 1 (fun v=>decide (1<=v)&&decide (v<=ELEMENTS)) b p) fun e=>
   andThen (numIn 2 (fun v=>decide (v<=ISOTOPE)) e.2.1 e.2.2) fun i=>
   andThen (numIn 1 (fun v=>decide (v<=8)) i.2.1 i.2.2) fun c=>
   andThen (numIn 1 (fun v=>decide (v<=7)) c.2.1 c.2.2) fun h=>
   andThen (numIn 1 (fun v=>decide (v<=2)) h.2.1 h.2.2) fun s=>
   .ok (⟨e.1,i.1,(c.1:Int) - 4,h.1,s.1⟩,s.2.1,s.2.2)
theorem wU:∀ (k:Nat) (b:Bytes) (p:Nat),atomsIn k b p=many kF k b p
 | 0,b,p=>rfl
 | k+1,b,p=>by
   unfold atomsIn many kF
   simp only [aU,aS,wU k]
   rfl
def j9 (q:Nat×Nat) (b:Bytes) (p:Nat):Except Fault (Bond×Bytes×Nat):=
   andThen (numIn 1 (fun v=>decide (1<=v)&&decide (v<=3)) b p) fun o=>
   andThen (numIn 1 (fun v=>decide (v<=2)) o.2.1 o.2.2) fun s=>
   .ok (⟨q.1,q.2,o.1,s.1⟩,s.2.1,s.2.2)
theorem wV (n:Nat):∀ (k:Nat) (had:Option (Nat×Nat)) (b:Bytes) (p:Nat),bondsIn n k had b p=gf n j9 k had b p
 | 0,had,b,p=>rfl
 | k+1,had,b,p=>by
   unfold bondsIn gf j9 jO
   simp only [aU,aS,wV n k]
   rfl
theorem lE {α:Type} {one:Bytes->Nat->Except Fault (α×Bytes×Nat)}:∀ {k:Nat} {b:Bytes} {p:Nat} {y:List α×Bytes×Nat},many one k b p=.ok y->y.1.length=k
 | 0,b,p,y,h=>by cases h;rfl
 | k+1,b,p,y,h=>by
   unfold many at h
   cases h1:one b p with
   | error e=>rw [h1] at h;cases h
   | ok x=>
     rw [h1,aS] at h
     cases h2:many one k x.2.1 x.2.2 with
     | error e=>rw [h2] at h;cases h
     | ok l=>
       rw [h2,aS] at h
       cases h
       simp [lE h2]
theorem mX {α:Type} {n:Nat} {one:Nat×Nat->Bytes->Nat->Except Fault (α×Bytes×Nat)}:∀ {k:Nat} {had:Option (Nat×Nat)} {b:Bytes} {p:Nat} {y:List α×Bytes×Nat},gf n one k had b p=.ok y->y.1.length=k
 | 0,_,b,p,y,h=>by cases h;rfl
 | k+1,had,b,p,y,h=>by
   unfold gf at h
   cases h0:jO n had b p with
   | error e=>rw [h0] at h;cases h
   | ok q=>
     rw [h0,aS] at h
     cases h1:one q.1 q.2.1 q.2.2 with
     | error e=>rw [h1] at h;cases h
     | ok x=>
       rw [h1,aS] at h
       cases h2:gf n one k (some q.1) x.2.1 x.2.2 with
       | error e=>rw [h2] at h;cases h
       | ok l=>
         rw [h2,aS] at h
         cases h
         simp [mX h2]
theorem Gd {n:Nat} {had:Option (Nat×Nat)} {b:Bytes} {p:Nat} {q:(Nat×Nat)×Bytes×Nat} (h:jO n had b p=.ok q) :
   q.1.1 < q.1.2/\q.1.2 < n/\∀ u,had=some u->u.1 < q.1.1\/(u.1=q.1.1/\u.2 < q.1.2):=by
 unfold jO at h
 cases h1:numIn 1 (fun v=>decide (v < n)) b p with
 | error e=>rw [h1] at h;cases h
 | ok x=>
   rw [h1,aS] at h
   cases h2:numIn 1 (fun v=>decide (x.1 < v)&&decide (v < n)) x.2.1 x.2.2 with
   | error e=>rw [h2] at h;cases h
   | ok y=>
     rw [h2,aS] at h
     have g2:=(aX h2).2.1
     simp only [Bool.and_eq_true,decide_eq_true_eq] at g2
     cases had with
     | none=>
       cases h
       exact ⟨g2.1,g2.2,fun u hu=>by cases hu⟩
     | some uw=>
       obtain ⟨u,w⟩:=uw
       have h:andThen (need (decide (u < x.1)||(u==x.1&&decide (w < y.1))) 3 p) (fun _=>Except.ok ((x.1,y.1),y.2.1,y.2.2))=Except.ok q:=h
       cases hc:(decide (u < x.1)||(u==x.1&&decide (w < y.1))) with
       | false=>
         rw [hc] at h
         cases h
       | true=>
         rw [hc] at h
         cases h
         refine ⟨g2.1,g2.2,fun u' hu=>?_⟩
         cases hu
         simp only [Bool.or_eq_true,Bool.and_eq_true,beq_iff_eq,decide_eq_true_eq] at hc
         exact hc
theorem oX {α:Type} {n:Nat} {one:Nat×Nat->Bytes->Nat->Except Fault (α×Bytes×Nat)} {ends:α->Nat×Nat} (ho:∀ q b p x,one q b p=.ok x->ends x.1=q) :
   ∀ {k:Nat} {had:Option (Nat×Nat)} {b:Bytes} {p:Nat} {y:List α×Bytes×Nat},gf n one k had b p=.ok y->
     oV n (y.1.map ends)/\∀ u,had=some u->∀ x ∈ y.1.map ends,u.1 < x.1\/(u.1=x.1/\u.2 < x.2)
 | 0,_,b,p,y,h=>by
   cases h
   exact ⟨⟨by simp,by simp⟩,by simp⟩
 | k+1,had,b,p,y,h=>by
   unfold gf at h
   cases h0:jO n had b p with
   | error e=>rw [h0] at h;cases h
   | ok q=>
     rw [h0,aS] at h
     obtain ⟨g1,g2,g3⟩:=Gd h0
     cases h1:one q.1 q.2.1 q.2.2 with
     | error e=>rw [h1] at h;cases h
     | ok x=>
       rw [h1,aS] at h
       have ex:=ho _ _ _ _ h1
       cases h2:gf n one k (some q.1) x.2.1 x.2.2 with
       | error e=>rw [h2] at h;cases h
       | ok l=>
         rw [h2,aS] at h
         cases h
         obtain ⟨⟨i1,i2⟩,i3⟩:=oX ho h2
         have i3:=i3 _ rfl
         simp only [List.map_cons,ex]
         refine ⟨⟨fun z hz=>?_,List.pairwise_cons.mpr ⟨fun z hz=>i3 z hz,i2⟩⟩,fun u hu z hz=>?_⟩
         . rcases List.mem_cons.mp hz with r | r
           . subst r;exact ⟨g1,g2⟩
           . exact i1 z r
         . have g:=g3 u hu
           rcases List.mem_cons.mp hz with r | r
           . subst r;exact g
           . have:=i3 z r
             omega
end JM
namespace MP
open PySem PySem.Spec PyProof.Rows L2
def top (i:Nat):Stmt:=PySem.Challenge.pw_moleculeparts_s10_short.main.body.getD i (.Pass ⟨0,0,0,0⟩)
abbrev mY:Stmt:=inClass (top 2) 0
abbrev jP:Stmt:=inClass (top 2) 1
abbrev jr:Stmt:=inClass (top 17) 0
abbrev lT:Stmt:=inClass (top 18) 0
abbrev kG:Stmt:=inClass (top 18) 1
abbrev gI:Stmt:=inClass (top 18) 2
abbrev gD:Stmt:=inClass (top 18) 3
abbrev kh:Stmt:=inClass (top 18) 4
abbrev iI:Stmt:=inClass (top 18) 5
abbrev i6:Stmt:=inClass (top 18) 6
abbrev iJ:Stmt:=inClass (top 18) 7
abbrev i7:Stmt:=inClass (top 18) 8
abbrev iR:Stmt:=inClass (top 18) 9
abbrev mZ:Stmt:=inClass (top 22) 0
abbrev jQ:Stmt:=inClass (top 22) 1
abbrev jR:Stmt:=inClass (top 22) 2
abbrev iS:Stmt:=inClass (top 22) 3
abbrev oY:Stmt:=inClass (top 44) 0
abbrev oZ:Stmt:=inClass (top 45) 0
abbrev jS:Stmt:=inClass (top 46) 0
abbrev jj:Stmt:=inClass (top 46) 1
abbrev iw:Stmt:=inClass (top 46) 2
abbrev E9:Stmt:=top 0
abbrev jt:Stmt:=top 3
abbrev ng:Stmt:=top 19
abbrev lU:Stmt:=top 23
abbrev iT:Stmt:=top 24
abbrev kH:Stmt:=top 25
abbrev tT:Stmt:=top 26
abbrev j3:Stmt:=top 27
abbrev ph:Stmt:=top 32
abbrev nh:Stmt:=top 33
abbrev gZ:Stmt:=top 34
abbrev iG:Stmt:=top 35
abbrev ni:Stmt:=top 36
abbrev kJ:Stmt:=top 37
abbrev nj:Stmt:=top 38
abbrev iU:Stmt:=top 47
abbrev jT:Stmt:=top 48
abbrev pq:Stmt:=top 49
abbrev p5:Stmt:=top 50
abbrev jU:Stmt:=top 51
abbrev jV:Stmt:=top 52
abbrev ju:Stmt:=top 53
abbrev zO:Stmt:=top 59
abbrev kK:Stmt:=top 60
abbrev nt:Stmt:=top 61
abbrev jW:Stmt:=top 62
set_option genInjectivity false in
set_option genSizeOf false in
structure Ad where
 b9:Addr
 aF:Addr
 aA:Addr
 b6:Addr
 bW:Addr
 bX:Addr
 aG:Addr
 bL:Addr
 fR:FuncData
 bz:Addr
 e9:FuncData
 bN:Addr
 fF:FuncData
 d8:Addr
 iA:FuncData
 cO:Addr
 gJ:FuncData
 br:Addr
 cP:FuncData
 aZ:Addr
 cE:FuncData
 bG:Addr
 f9:FuncData
 bC:Addr
 dN:FuncData
 bg:Addr
 bZ:FuncData
 bD:Addr
 dO:FuncData
 bh:Addr
 cg:FuncData
 bH:Addr
 eN:FuncData
 eO:Addr
 iV:FuncData
 ck:Addr
 gg:FuncData
 cz:Addr
 gi:FuncData
 bI:Addr
 eS:FuncData
 fO:Addr
 jA:FuncData
 fP:Addr
 jB:FuncData
 c5:Addr
 gj:FuncData
 b7:Addr
 dY:FuncData
 aV:Addr
 c7:FuncData
 qp:Addr
 vG:FuncData
 cG:Addr
 fG:FuncData
 eT:Addr
 ia:FuncData
 fm:Addr
 iB:FuncData
 bY:Addr
 eU:FuncData
 dP:Addr
 gK:FuncData
 jv:Addr
 m8:FuncData
 d9:Addr
 iC:FuncData
 gM:Addr
 jC:FuncData
 fS:Addr
 iW:FuncData
 bO:Addr
 fH:FuncData
 c6:Addr
 gm:FuncData
 fU:Addr
 iX:FuncData
 dQ:Addr
 gO:FuncData
 fV:Addr
 iY:FuncData
 cQ:Addr
 gP:FuncData
 cW:Addr
 gn:FuncData
 eV:Addr
 jD:FuncData
 eW:Addr
 jE:FuncData
 cX:Addr
 gp:FuncData
 cY:Addr
 gq:FuncData
 cH:Addr
 fJ:FuncData
 f_short:Addr
 qt:FuncData
 dR:Addr
 gQ:FuncData
 fW:Addr
 iZ:FuncData
 cZ:Addr
 gr:FuncData
 gu:Addr
 p6:Addr
abbrev bq (K:PySem.W.Frag) (n q:Str) (s:Stmt) (f:Addr):Prop:=∃ oc kV dc pm cd ct od an sl,K.lookup f=some ⟨oc,od,.func (PySem.W.fnOf n q (qo s) (lC s) (aE s) .none kV dc pm an cd ct),sl⟩/\PySem.W.codeIn K cd q=true/\PySem.W.keepIn K (.ref f)=true
theorem bq.mk {K:PySem.W.Frag} {n q:Str} {s:Stmt} {f:Addr} {oc kV dc pm cd ct:Value} {od an:Option Addr} {sl:Array (Option Value)} (a:K.lookup f=some ⟨oc,od,.func (PySem.W.fnOf n q (qo s) (lC s) (aE s) .none kV dc pm an cd ct),sl⟩) (b:PySem.W.codeIn K cd q=true) (c:PySem.W.keepIn K (.ref f)=true):bq K n q s f:=⟨_,_,_,_,_,_,_,_,_,a,b,c⟩
theorem bq.fn {K:PySem.W.Frag} {n q:Str} {s:Stmt} {f:Addr} (h:bq K n q s f):∃ d,ji K n q s f d:=let ⟨_,_,_,_,_,_,_,_,_,a,b,c⟩:=h;⟨_,Nn a b c⟩
theorem bq.kp {K:PySem.W.Frag} {n q:Str} {s:Stmt} {f:Addr} (h:bq K n q s f):PySem.W.keepIn K (.ref f)=true:=let ⟨_,_,_,_,_,_,_,_,_,_,_,c⟩:=h;c
structure Txt (K:PySem.W.Frag) (mg:Str->Option Value) (t:Ad):Prop where
 ja:ji K "__init__" "Graph.__init__" mY t.bL t.fR
 nu:Binds K t.fR ["self","atoms","bonds"] []
 gv:ji K "besides" "Graph.besides" jP t.bz t.e9
 nN:Binds K t.e9 ["self","end","other"] []
 fK:ji K "__init__" "FormFault.__init__" jr t.bN t.fF
 mC:Binds K t.fF ["self","which","rule","place"] []
 iD:ji K "__init__" "Reader.__init__" lT t.d8 t.iA
 qP:Binds K t.iA ["self","form","which"] []
 gR:ji K "fault" "Reader.fault" kG t.cO t.gJ
 cR:Binds K t.gJ ["self","rule","place"] []
 cS:ji K "take_number" "Reader.take_number" gI t.br t.cP
 gS:Binds K t.cP ["self","size"] []
 cF:ji K "take_between" "Reader.take_between" gD t.aZ t.cE
 aN:Binds K t.cE ["self","size","least","greatest"] []
 fB:ji K "take_range" "Reader.take_range" kh t.bG t.f9
 qE:Binds K t.f9 ["self","size","most"] []
 dS:ji K "take_mark" "Reader.take_mark" iI t.bC t.dN
 kL:Binds K t.dN ["self","mark"] []
 dj:ji K "take_atoms" "Reader.take_atoms" i6 t.bg t.bZ
 ki:Binds K t.bZ ["self","n","take_atom"] []
 dU:ji K "take_pair" "Reader.take_pair" iJ t.bD t.dO
 kM:Binds K t.dO ["self","n","before"] []
 dw:ji K "take_bonds" "Reader.take_bonds" i7 t.bh t.cg
 kj:Binds K t.cg ["self","n","m","take_bond"] []
 eX:ji K "take_end" "Reader.take_end" iR t.bH t.eN
 lF:Binds K t.eN ["self"] []
 jb:ji K "__init__" "Basis.__init__" mZ t.eO t.iV
 rS:Binds K t.iV ["self"] []
 gw:ji K "left_of" "Basis.left_of" jQ t.ck t.gg
 jX:Binds K t.gg ["self","bonds"] []
 gx:ji K "has_sum" "Basis.has_sum" jR t.cz t.gi
 nO:Binds K t.gi ["self","bonds"] []
 eY:ji K "take_ring" "Basis.take_ring" iS t.bI t.eS
 lG:Binds K t.eS ["self","bonds","length"] []
 jF:ji K "__init__" "Atom.__init__" oY t.fO t.jA
 u5:Binds K t.jA ["self","element","isotope","charge","hydrogens","hand"] []
 jG:ji K "__init__" "Bond.__init__" oZ t.fP t.jB
 u6:Binds K t.jB ["self","pair","order","side"] []
 gz:ji K "__init__" "Molecule.__init__" jS t.c5 t.gj
 nP:Binds K t.gj ["self","atoms","bonds"] []
 dZ:ji K "row_around" "Molecule.row_around" jj t.b7 t.dY
 o8:Binds K t.dY ["self","atom"] []
 c8:ji K "orders_between" "Molecule.orders_between" iw t.aV t.c7
 l0:Binds K t.c7 ["self","atom","other"] []
 vH:ji K "_wall" "_wall" E9 t.qp t.vG
 KJ:Binds K t.vG ["k"] []
 dG:ji K "neighbour_rows" "neighbour_rows" jt t.cG t.fG
 mD:Binds K t.fG ["n","bonds"] []
 ic:ji K "take_graph" "take_graph" ng t.eT t.ia
 rT:Binds K t.ia ["reader","mark","take_atom","take_bond"] []
 gB:ji K "short_rings" "short_rings" lU t.fm t.iB
 qQ:Binds K t.iB ["molecule"] []
 cV:ji K "rings_by_length" "rings_by_length" iT t.bY t.eU
 lH:Binds K t.eU ["molecule"] []
 fL:ji K "longer_paths" "longer_paths" kH t.dP t.gK
 p7:Binds K t.gK ["molecule","paths"] []
 kC:ji K "is_ring" "is_ring" tT t.jv t.m8
 zc:Binds K t.m8 ["molecule","path"] []
 fq:ji K "bonds_along" "bonds_along" j3 t.d9 t.iC
 lV:Binds K t.iC ["molecule","ring"] []
 gT:ji K "order_bit" "order_bit" ph t.gM t.jC
 p8:Binds K t.jC ["order"] []
 ie:ji K "order_sums" "order_sums" nh t.fS t.iW
 rV:Binds K t.iW ["n","bonds"] []
 dH:ji K "redrawn_orders" "redrawn_orders" gZ t.bO t.fH
 mE:Binds K t.fH ["sums","bonds"] []
 eB:ji K "states_behind" "states_behind" iG t.c6 t.gm
 nQ:Binds K t.gm ["states","bonds","k"] []
 fX:ji K "less_order" "less_order" ni t.fU t.iX
 nv:Binds K t.iX ["state","bond","order"] []
 dW:ji K "bonds_behind" "bonds_behind" kJ t.dQ t.gO
 kN:Binds K t.gO ["bonds","k","atom"] []
 fY:ji K "can_be_met" "can_be_met" nj t.fV t.iY
 ny:Binds K t.iY ["left","bonds"] []
 fM:ji K "pair_numbers" "pair_numbers" iU t.cQ t.gP
 p9:Binds K t.gP ["bonds"] []
 eE:ji K "read_molecule" "read_molecule" jT t.cW t.gn
 nR:Binds K t.gn ["form","which"] []
 iM:ji K "take_atom" "take_atom" pq t.eV t.jD
 u7:Binds K t.jD ["reader"] []
 iN:ji K "take_bond" "take_bond" p5 t.eW t.jE
 u9:Binds K t.jE ["reader","pair"] []
 eF:ji K "may_have_hand" "may_have_hand" jU t.cX t.gp
 nS:Binds K t.gp ["molecule","k"] []
 eG:ji K "may_have_side" "may_have_side" jV t.cY t.gq
 nU:Binds K t.gq ["molecule","k"] []
 cI:ji K "end_takes_side" "end_takes_side" ju t.cH t.fJ
 jw:Binds K t.fJ ["molecule","end","other"] []
 qu:ji K "short" "short" zO t.f_short t.qt
 KL:Binds K t.qt ["k","molecule"] []
 fN:ji K "fault_answer" "fault_answer" kK t.dR t.gQ
 pA:Binds K t.gQ ["fault"] []
 ig:ji K "row_answer" "row_answer" nt t.fW t.iZ
 rW:Binds K t.iZ ["row"] []
 eK:ji K "answer_of_one" "answer_of_one" jW t.cZ t.gr
 nV:Binds K t.gr ["k","rows"] []
 KN:mg "_wall"=some (.ref t.qp)
 mF:mg "neighbour_rows"=some (.ref t.cG)
 rX:mg "take_graph"=some (.ref t.eT)
 qR:mg "short_rings"=some (.ref t.fm)
 lI:mg "rings_by_length"=some (.ref t.bY)
 pB:mg "longer_paths"=some (.ref t.dP)
 zd:mg "is_ring"=some (.ref t.jv)
 lW:mg "bonds_along"=some (.ref t.d9)
 pC:mg "order_bit"=some (.ref t.gM)
 rY:mg "order_sums"=some (.ref t.fS)
 mG:mg "redrawn_orders"=some (.ref t.bO)
 nX:mg "states_behind"=some (.ref t.c6)
 n6:mg "less_order"=some (.ref t.fU)
 kO:mg "bonds_behind"=some (.ref t.dQ)
 n8:mg "can_be_met"=some (.ref t.fV)
 pF:mg "pair_numbers"=some (.ref t.cQ)
 nY:mg "read_molecule"=some (.ref t.cW)
 uA:mg "take_atom"=some (.ref t.eV)
 uB:mg "take_bond"=some (.ref t.eW)
 nZ:mg "may_have_hand"=some (.ref t.cX)
 oh:mg "may_have_side"=some (.ref t.cY)
 jx:mg "end_takes_side"=some (.ref t.cH)
 EA:mg "short"=some (.ref t.f_short)
 pG:mg "fault_answer"=some (.ref t.dR)
 rZ:mg "row_answer"=some (.ref t.fW)
 oj:mg "answer_of_one"=some (.ref t.cZ)
 zP:mg "Graph"=some (.ref t.b9)
 vJ:yL K t.b9
 EB:Mk K t.b9 t.bL
 uJ:Meth K t.b9 "besides" t.bz
 iE:bx K t.b9 "atoms"
 iF:bx K t.b9 "bonds"
 fZ:bx K t.b9 "neighbours"
 pH:mg "FormFault"=some (.ref t.aF)
 eZ:Ga K t.aF t.bN ["__getattribute__","__getattr__","__setattr__","which","rule","place"]
 BR:mg "Reader"=some (.ref t.aA)
 aH:yL K t.aA
 BS:Mk K t.aA t.d8
 cT:Meth K t.aA "fault" t.cO
 gU:Meth K t.aA "take_number" t.br
 aO:Meth K t.aA "take_between" t.aZ
 qF:Meth K t.aA "take_range" t.bG
 kP:Meth K t.aA "take_mark" t.bC
 ko:Meth K t.aA "take_atoms" t.bg
 kQ:Meth K t.aA "take_pair" t.bD
 kr:Meth K t.aA "take_bonds" t.bh
 lJ:Meth K t.aA "take_end" t.bH
 dB:bx K t.aA "form"
 gW:bx K t.aA "which"
 aY:bx K t.aA "place"
 bP:bx K t.aA "hand_places"
 bQ:bx K t.aA "side_places"
 EC:mg "Basis"=some (.ref t.b6)
 j4:yL K t.b6
 ED:Mk K t.b6 t.eO
 jY:Meth K t.b6 "left_of" t.ck
 om:Meth K t.b6 "has_sum" t.cz
 lK:Meth K t.b6 "take_ring" t.bI
 ir:bx K t.b6 "kept"
 g7:bx K t.b6 "lengths"
 IB:mg "Atom"=some (.ref t.bW)
 nA:yL K t.bW
 IC:Mk K t.bW t.fO
 jc:bx K t.bW "element"
 jd:bx K t.bW "isotope"
 j5:bx K t.bW "charge"
 dI:bx K t.bW "hydrogens"
 jH:bx K t.bW "hand"
 ID:mg "Bond"=some (.ref t.bX)
 i8:yL K t.bX
 IE:Mk K t.bX t.fP
 je:bx K t.bX "a"
 jf:bx K t.bX "b"
 iu:bx K t.bX "order"
 jI:bx K t.bX "side"
 wW:mg "Molecule"=some (.ref t.aG)
 bw:yL K t.aG
 wX:Mk K t.aG t.c5
 o9:Meth K t.aG "row_around" t.b7
 l6:Meth K t.aG "orders_between" t.aV
 kR:Meth K t.aG "besides" t.bz
 bR:bx K t.aG "atoms"
 dJ:bx K t.aG "bonds"
 bc:bx K t.aG "neighbours"
 g8:bx K t.aG "sums"
 fh:bx K t.aG "orders"
 bS:bx K t.aG "bond_numbers"
 se:Mv K t.b9 "__init__" t.bL
 sf:∃ tk,mg "WRONG_MARK"=some (.int (1) tk)
 oq:∃ tk,mg "OUT_OF_BOUNDS"=some (.int (2) tk)
 sj:∃ tk,mg "NOT_BEHIND"=some (.int (3) tk)
 mH:∃ tk,mg "HAND_MISPLACED"=some (.int (4) tk)
 sr:∃ tk,mg "ENDS_EARLY"=some (.int (5) tk)
 mJ:∃ tk,mg "SIDE_MISPLACED"=some (.int (6) tk)
 uC:∃ tk,mg "LEFT_OVER"=some (.int (7) tk)
 su:∃ tk,mg "MOST_ATOMS"=some (.int (128) tk)
 sy:∃ tk,mg "MOST_BONDS"=some (.int (192) tk)
 pI:∃ tk,mg "MOST_ELEMENT"=some (.int (118) tk)
 qS:∃ tk,mg "MOST_CHARGE"=some (.int (8) tk)
 mK:∃ tk,mg "MOST_HYDROGENS"=some (.int (7) tk)
 pJ:∃ tk,mg "LEAST_LENGTH"=some (.int (3) tk)
 lX:∃ tk,mg "LEAST_ORDER"=some (.int (1) tk)
 jy:∃ tk,mg "GREATEST_ORDER"=some (.int (3) tk)
 pK:∃ tk,mg "MOST_ISOTOPE"=some (.int (500) tk)
 uD:∃ tk,mg "MOST_HAND"=some (.int (2) tk)
 uE:∃ tk,mg "MOST_SIDE"=some (.int (2) tk)
 wY:∃ tk,mg "ANSWERED"=some (.int (0) tk)
 ze:∃ tk,mg "NO_MORE"=some (.int (-2) tk)
 qT:∃ tk,mg "FAULTY_FORM"=some (.int (-5) tk)
 sA:∃ tk,mg "FIRST_FORM"=some (.int (0) tk)
 wZ:mg "ORDERS"=some (.ref t.gu)
 pL:∀ H,mr K H t.gu [.int 1,.int 2,.int 3]
 IF:mg "MARK"=some (.ref t.p6)
 IG:∀ H,mr K H t.p6 [.int 70,.int 75,.int 77,.int 49]
 jJ:mg "enumerate"=none
 jk:mg "len"=none
 II:mg "list"=none
 Mw:mg "min"=none
 lM:mg "range"=none
 zQ:mg "tuple"=none
theorem qG {α:Type} {P:List α->Prop} (h:∀ a0,P [a0]) (us:List α) (hl:us.length=1):P us:=match us,hl with | [a0],_=>h a0
theorem oA {α:Type} {P:List α->Prop} (h:∀ a0 a1,P [a0,a1]) (us:List α) (hl:us.length=2):P us:=match us,hl with | [a0,a1],_=>h a0 a1
theorem sC {α:Type} {P:List α->Prop} (h:∀ a0 a1 a2,P [a0,a1,a2]) (us:List α) (hl:us.length=3):P us:=match us,hl with | [a0,a1,a2],_=>h a0 a1 a2
theorem IJ {α:Type} {P:List α->Prop} (h:∀ a0 a1 a2 a3,P [a0,a1,a2,a3]) (us:List α) (hl:us.length=4):P us:=match us,hl with | [a0,a1,a2,a3],_=>h a0 a1 a2 a3
theorem Se {α:Type} {P:List α->Prop} (h:∀ a0 a1 a2 a3 a4 a5,P [a0,a1,a2,a3,a4,a5]) (us:List α) (hl:us.length=6):P us:=match us,hl with | [a0,a1,a2,a3,a4,a5],_=>h a0 a1 a2 a3 a4 a5
open PySem.W in
set_option maxHeartbeats 4000000 in
theorem N5 {K:PySem.W.Frag} {h:Heap} {mg:Str->Option Value} (X:K.In h) (G:h.Ns mainGlobals mg)
   {b9 aF aA b6 bW bX aG bL bz bN d8 cO br aZ bG bC bg bD bh bH eO ck cz bI fO fP c5 b7 aV qp cG eT fm bY dP jv d9 gM fS bO c6 fU dQ fV cQ cW eV eW cX cY cH f_short dR fW cZ gu p6:Addr}
   {zR BU:Str} {dF:Addr} {zS yg:List Value} {zU:List Str} {zV:Bool} {yh:Option Bool} {zW zX:Option Addr} {zY zZ Aa Ab Ac:Option Value} {Ae:Value} {qU:Array DictEntry} {Af:Nat} {yi:Array (Option Value)}
   {yj:Tok}
   {tU:Tok}
   {yk:Tok}
   {sE:Tok}
   {ym:Tok}
   {sF:Tok}
   {Ag:Tok}
   {yo:Tok}
   {yp:Tok}
   {uK:Tok}
   {xf:Tok}
   {sG:Tok}
   {uL:Tok}
   {xg:Tok}
   {sH:Tok}
   {uM:Tok}
   {Ah:Tok}
   {Ai:Tok}
   {BV:Tok}
   {DH:Tok}
   {xh:Tok}
   {yq:Tok}
   {Ge:Option Addr} {Gf:Nat} {DI:Array (Option Value)} {Gg Gh Gi:Tok}
   {KO:Option Addr} {KP:Nat} {IK:Array (Option Value)} {KQ KR KS KU:Tok}
   (KW:nsIn K mainGlobals "Graph"=some (some (.ref b9)))
   (IL:plainGet K b9 Str.empty=true)
   (IM:hasDictIn K b9=true)
   (IP:plainOver K b9=true)
   (IQ:findIn K (.ref b9) "__setattr__"=some (some (.builtin "object.__setattr__")))
   (Aj:findIn K (.ref b9) "__init__"=some (some (.ref bL)))
   (Ak:isFn K (.ref bL)=true)
   (uN:findIn K (.ref b9) "besides"=some (some (.ref bz)))
   (ow:isFn K (.ref bz)=true)
   (IU:makesIn K b9=true)
   (IV:keepIn K (.ref b9)=true)
   (iE:findIn K (.ref b9) "atoms"=some none)
   (iF:findIn K (.ref b9) "bonds"=some none)
   (fZ:findIn K (.ref b9) "neighbours"=some none)
   (BW:nsIn K mainGlobals "FormFault"=some (some (.ref aF)))
   (BX:K.lookup aF=some (excClassObj zR BU aF dF zS XL.dz true zU yg zV yh zW zY zZ Aa Ab Ac "Exception.__new__"))
   (Al:K.lookup dF=some ⟨Ae,zX,.dict qU Af,yi⟩)
   (Am:nsIn K dF "__init__"=some (some (.ref bN)))
   (An:isFn K (.ref bN)=true)
   (Ao:keepIn K (.ref aF)=true)
   (Aq:findIn K (.ref aF) "__setattr__"=some (some (.builtin "object.__setattr__")))
   (l7:nsIn K dF "__getattribute__"=some none)
   (pM:nsIn K dF "__getattr__"=some none)
   (pN:nsIn K dF "__setattr__"=some none)
   (rm:nsIn K dF "which"=some none)
   (sI:nsIn K dF "rule"=some none)
   (rq:nsIn K dF "place"=some none)
   (IW:nsIn K mainGlobals "Reader"=some (some (.ref aA)))
   (Gj:plainGet K aA Str.empty=true)
   (Gk:hasDictIn K aA=true)
   (Gm:plainOver K aA=true)
   (Gn:findIn K (.ref aA) "__setattr__"=some (some (.builtin "object.__setattr__")))
   (yr:findIn K (.ref aA) "__init__"=some (some (.ref d8)))
   (yt:isFn K (.ref d8)=true)
   (xm:findIn K (.ref aA) "fault"=some (some (.ref cO)))
   (xq:isFn K (.ref cO)=true)
   (pO:findIn K (.ref aA) "take_number"=some (some (.ref br)))
   (pP:isFn K (.ref br)=true)
   (oB:findIn K (.ref aA) "take_between"=some (some (.ref aZ)))
   (oE:isFn K (.ref aZ)=true)
   (qH:findIn K (.ref aA) "take_range"=some (some (.ref bG)))
   (qI:isFn K (.ref bG)=true)
   (r6:findIn K (.ref aA) "take_mark"=some (some (.ref bC)))
   (r8:isFn K (.ref bC)=true)
   (qJ:findIn K (.ref aA) "take_atoms"=some (some (.ref bg)))
   (qK:isFn K (.ref bg)=true)
   (r9:findIn K (.ref aA) "take_pair"=some (some (.ref bD)))
   (rA:isFn K (.ref bD)=true)
   (qL:findIn K (.ref aA) "take_bonds"=some (some (.ref bh)))
   (qM:isFn K (.ref bh)=true)
   (sJ:findIn K (.ref aA) "take_end"=some (some (.ref bH)))
   (sL:isFn K (.ref bH)=true)
   (Gp:makesIn K aA=true)
   (Gq:keepIn K (.ref aA)=true)
   (dB:findIn K (.ref aA) "form"=some none)
   (gW:findIn K (.ref aA) "which"=some none)
   (aY:findIn K (.ref aA) "place"=some none)
   (bP:findIn K (.ref aA) "hand_places"=some none)
   (bQ:findIn K (.ref aA) "side_places"=some none)
   (KY:nsIn K mainGlobals "Basis"=some (some (.ref b6)))
   (IX:plainGet K b6 Str.empty=true)
   (IY:hasDictIn K b6=true)
   (IZ:plainOver K b6=true)
   (Ja:findIn K (.ref b6) "__setattr__"=some (some (.builtin "object.__setattr__")))
   (As:findIn K (.ref b6) "__init__"=some (some (.ref eO)))
   (Au:isFn K (.ref eO)=true)
   (uO:findIn K (.ref b6) "left_of"=some (some (.ref ck)))
   (uP:isFn K (.ref ck)=true)
   (uQ:findIn K (.ref b6) "has_sum"=some (some (.ref cz)))
   (uR:isFn K (.ref cz)=true)
   (sM:findIn K (.ref b6) "take_ring"=some (some (.ref bI)))
   (sN:isFn K (.ref bI)=true)
   (Jb:makesIn K b6=true)
   (Jc:keepIn K (.ref b6)=true)
   (ir:findIn K (.ref b6) "kept"=some none)
   (g7:findIn K (.ref b6) "lengths"=some none)
   (N6:nsIn K mainGlobals "Atom"=some (some (.ref bW)))
   (KZ:plainGet K bW Str.empty=true)
   (La:hasDictIn K bW=true)
   (Lb:plainOver K bW=true)
   (Lc:findIn K (.ref bW) "__setattr__"=some (some (.builtin "object.__setattr__")))
   (BZ:findIn K (.ref bW) "__init__"=some (some (.ref fO)))
   (Ca:isFn K (.ref fO)=true)
   (Ld:makesIn K bW=true)
   (Le:keepIn K (.ref bW)=true)
   (jc:findIn K (.ref bW) "element"=some none)
   (jd:findIn K (.ref bW) "isotope"=some none)
   (j5:findIn K (.ref bW) "charge"=some none)
   (dI:findIn K (.ref bW) "hydrogens"=some none)
   (jH:findIn K (.ref bW) "hand"=some none)
   (N7:nsIn K mainGlobals "Bond"=some (some (.ref bX)))
   (Lf:plainGet K bX Str.empty=true)
   (Lg:hasDictIn K bX=true)
   (Lh:plainOver K bX=true)
   (Li:findIn K (.ref bX) "__setattr__"=some (some (.builtin "object.__setattr__")))
   (Cb:findIn K (.ref bX) "__init__"=some (some (.ref fP)))
   (Cc:isFn K (.ref fP)=true)
   (Lj:makesIn K bX=true)
   (Lk:keepIn K (.ref bX)=true)
   (je:findIn K (.ref bX) "a"=some none)
   (jf:findIn K (.ref bX) "b"=some none)
   (iu:findIn K (.ref bX) "order"=some none)
   (jI:findIn K (.ref bX) "side"=some none)
   (DJ:nsIn K mainGlobals "Molecule"=some (some (.ref aG)))
   (Cd:plainGet K aG Str.empty=true)
   (Ce:hasDictIn K aG=true)
   (Cf:plainOver K aG=true)
   (Cg:findIn K (.ref aG) "__setattr__"=some (some (.builtin "object.__setattr__")))
   (uS:findIn K (.ref aG) "__init__"=some (some (.ref c5)))
   (uT:isFn K (.ref c5)=true)
   (oF:findIn K (.ref aG) "row_around"=some (some (.ref b7)))
   (oG:isFn K (.ref b7)=true)
   (l8:findIn K (.ref aG) "orders_between"=some (some (.ref aV)))
   (l9:isFn K (.ref aV)=true)
   (Ci:makesIn K aG=true)
   (Cj:keepIn K (.ref aG)=true)
   (rB:findIn K (.ref aG) "besides"=some (some (.ref bz)))
   (bR:findIn K (.ref aG) "atoms"=some none)
   (dJ:findIn K (.ref aG) "bonds"=some none)
   (bc:findIn K (.ref aG) "neighbours"=some none)
   (g8:findIn K (.ref aG) "sums"=some none)
   (fh:findIn K (.ref aG) "orders"=some none)
   (bS:findIn K (.ref aG) "bond_numbers"=some none)
   (yu:specialIn K (.ref b9) "__getattribute__"=some (some (.builtin "type.__getattribute__")))
   (yw:readsIn K b9 (.type "type")=true)
   (yx:findCls K (.ref b9) (.type "type") "__init__"=some (.val (.ref bL)))
   (Ll:nsIn K mainGlobals "_wall"=some (some (.ref qp)))
   (tV:nsIn K mainGlobals "neighbour_rows"=some (some (.ref cG)))
   (Av:nsIn K mainGlobals "take_graph"=some (some (.ref eT)))
   (yy:nsIn K mainGlobals "short_rings"=some (some (.ref fm)))
   (sO:nsIn K mainGlobals "rings_by_length"=some (some (.ref bY)))
   (xr:nsIn K mainGlobals "longer_paths"=some (some (.ref dP)))
   (Gr:nsIn K mainGlobals "is_ring"=some (some (.ref jv)))
   (yz:nsIn K mainGlobals "bonds_along"=some (some (.ref d9)))
   (Ck:nsIn K mainGlobals "order_bit"=some (some (.ref gM)))
   (Aw:nsIn K mainGlobals "order_sums"=some (some (.ref fS)))
   (tW:nsIn K mainGlobals "redrawn_orders"=some (some (.ref bO)))
   (uU:nsIn K mainGlobals "states_behind"=some (some (.ref c6)))
   (Ax:nsIn K mainGlobals "less_order"=some (some (.ref fU)))
   (xu:nsIn K mainGlobals "bonds_behind"=some (some (.ref dQ)))
   (Ay:nsIn K mainGlobals "can_be_met"=some (some (.ref fV)))
   (xw:nsIn K mainGlobals "pair_numbers"=some (some (.ref cQ)))
   (uV:nsIn K mainGlobals "read_molecule"=some (some (.ref cW)))
   (Cm:nsIn K mainGlobals "take_atom"=some (some (.ref eV)))
   (Cn:nsIn K mainGlobals "take_bond"=some (some (.ref eW)))
   (uW:nsIn K mainGlobals "may_have_hand"=some (some (.ref cX)))
   (uX:nsIn K mainGlobals "may_have_side"=some (some (.ref cY)))
   (tX:nsIn K mainGlobals "end_takes_side"=some (some (.ref cH)))
   (Lm:nsIn K mainGlobals "short"=some (some (.ref f_short)))
   (xx:nsIn K mainGlobals "fault_answer"=some (some (.ref dR)))
   (Az:nsIn K mainGlobals "row_answer"=some (some (.ref fW)))
   (uY:nsIn K mainGlobals "answer_of_one"=some (some (.ref cZ)))
   (sP:bq K "__init__" "Graph.__init__" mY bL)
   (jZ:bq K "besides" "Graph.besides" jP bz)
   (tY:bq K "__init__" "FormFault.__init__" jr bN)
   (y9:bq K "__init__" "Reader.__init__" lT d8)
   (pQ:bq K "fault" "Reader.fault" kG cO)
   (jK:bq K "take_number" "Reader.take_number" gI br)
   (jl:bq K "take_between" "Reader.take_between" gD aZ)
   (ku:bq K "take_range" "Reader.take_range" kh bG)
   (kT:bq K "take_mark" "Reader.take_mark" iI bC)
   (k6:bq K "take_atoms" "Reader.take_atoms" i6 bg)
   (kU:bq K "take_pair" "Reader.take_pair" iJ bD)
   (k7:bq K "take_bonds" "Reader.take_bonds" i7 bh)
   (lN:bq K "take_end" "Reader.take_end" iR bH)
   (A0:bq K "__init__" "Basis.__init__" mZ eO)
   (oz:bq K "left_of" "Basis.left_of" jQ ck)
   (o4:bq K "has_sum" "Basis.has_sum" jR cz)
   (lO:bq K "take_ring" "Basis.take_ring" iS bI)
   (Co:bq K "__init__" "Atom.__init__" oY fO)
   (Cp:bq K "__init__" "Bond.__init__" oZ fP)
   (uZ:bq K "__init__" "Molecule.__init__" jS c5)
   (jm:bq K "row_around" "Molecule.row_around" jj b7)
   (iy:bq K "orders_between" "Molecule.orders_between" iw aV)
   (Ln:bq K "_wall" "_wall" E9 qp)
   (tZ:bq K "neighbour_rows" "neighbour_rows" jt cG)
   (A1:bq K "take_graph" "take_graph" ng eT)
   (yC:bq K "short_rings" "short_rings" lU fm)
   (sQ:bq K "rings_by_length" "rings_by_length" iT bY)
   (xy:bq K "longer_paths" "longer_paths" kH dP)
   (Gs:bq K "is_ring" "is_ring" tT jv)
   (yD:bq K "bonds_along" "bonds_along" j3 d9)
   (Cq:bq K "order_bit" "order_bit" ph gM)
   (A2:bq K "order_sums" "order_sums" nh fS)
   (ua:bq K "redrawn_orders" "redrawn_orders" gZ bO)
   (vc:bq K "states_behind" "states_behind" iG c6)
   (A3:bq K "less_order" "less_order" ni fU)
   (x6:bq K "bonds_behind" "bonds_behind" kJ dQ)
   (A4:bq K "can_be_met" "can_be_met" nj fV)
   (x8:bq K "pair_numbers" "pair_numbers" iU cQ)
   (vd:bq K "read_molecule" "read_molecule" jT cW)
   (Cr:bq K "take_atom" "take_atom" pq eV)
   (Cs:bq K "take_bond" "take_bond" p5 eW)
   (ve:bq K "may_have_hand" "may_have_hand" jU cX)
   (vf:bq K "may_have_side" "may_have_side" jV cY)
   (uc:bq K "end_takes_side" "end_takes_side" ju cH)
   (Lo:bq K "short" "short" zO f_short)
   (x9:bq K "fault_answer" "fault_answer" kK dR)
   (A5:bq K "row_answer" "row_answer" nt fW)
   (vg:bq K "answer_of_one" "answer_of_one" jW cZ)
   (A6:nsIn K mainGlobals "WRONG_MARK"=some (some (.int (1) yj)))
   (vh:nsIn K mainGlobals "OUT_OF_BOUNDS"=some (some (.int (2) tU)))
   (A7:nsIn K mainGlobals "NOT_BEHIND"=some (some (.int (3) yk)))
   (ud:nsIn K mainGlobals "HAND_MISPLACED"=some (some (.int (4) sE)))
   (A8:nsIn K mainGlobals "ENDS_EARLY"=some (some (.int (5) ym)))
   (ue:nsIn K mainGlobals "SIDE_MISPLACED"=some (some (.int (6) sF)))
   (Ct:nsIn K mainGlobals "LEFT_OVER"=some (some (.int (7) Ag)))
   (A9:nsIn K mainGlobals "MOST_ATOMS"=some (some (.int (128) yo)))
   (AA:nsIn K mainGlobals "MOST_BONDS"=some (some (.int (192) yp)))
   (xA:nsIn K mainGlobals "MOST_ELEMENT"=some (some (.int (118) uK)))
   (yE:nsIn K mainGlobals "MOST_CHARGE"=some (some (.int (8) xf)))
   (uf:nsIn K mainGlobals "MOST_HYDROGENS"=some (some (.int (7) sG)))
   (xB:nsIn K mainGlobals "LEAST_LENGTH"=some (some (.int (3) uL)))
   (yF:nsIn K mainGlobals "LEAST_ORDER"=some (some (.int (1) xg)))
   (ug:nsIn K mainGlobals "GREATEST_ORDER"=some (some (.int (3) sH)))
   (xC:nsIn K mainGlobals "MOST_ISOTOPE"=some (some (.int (500) uM)))
   (Cu:nsIn K mainGlobals "MOST_HAND"=some (some (.int (2) Ah)))
   (Cv:nsIn K mainGlobals "MOST_SIDE"=some (some (.int (2) Ai)))
   (DK:nsIn K mainGlobals "ANSWERED"=some (some (.int (0) BV)))
   (Gu:nsIn K mainGlobals "NO_MORE"=some (some (.int (-2) DH)))
   (yG:nsIn K mainGlobals "FAULTY_FORM"=some (some (.int (-5) xh)))
   (AB:nsIn K mainGlobals "FIRST_FORM"=some (some (.int (0) yq)))
   (Jd:nsIn K mainGlobals "ORDERS"=some (some (.ref gu)))
   (Je:K.lookup gu=some ⟨.type "tuple",Ge,.seq #[.int 1 Gg,.int 2 Gh,.int 3 Gi] Gf,DI⟩)
   (N8:nsIn K mainGlobals "MARK"=some (some (.ref p6)))
   (N9:K.lookup p6=some ⟨.type "tuple",KO,.seq #[.int 70 KQ,.int 75 KR,.int 77 KS,.int 49 KU] KP,IK⟩)
   (Cw:nsIn K mainGlobals "enumerate"=some none)
   (PN:nsIn K mainGlobals "len"=some none)
   (NB:nsIn K mainGlobals "list"=some none)
   (PR:nsIn K mainGlobals "min"=some none)
   (Lp:nsIn K mainGlobals "range"=some none)
   (Lq:nsIn K mainGlobals "tuple"=some none)
   (nB:(qU.all fun e=>match e.key with | .str _ _=>true | _=>false)=true)
  :∃ t:Ad,t.f_short=f_short/\Txt K mg t:=by
 have xD:nsOkIn K dF=true:=by unfold nsOkIn;rw [Al];exact nB
 obtain ⟨fR,ja⟩:=sP.fn
 obtain ⟨e9,gv⟩:=jZ.fn
 obtain ⟨fF,fK⟩:=tY.fn
 obtain ⟨iA,iD⟩:=y9.fn
 obtain ⟨gJ,gR⟩:=pQ.fn
 obtain ⟨cP,cS⟩:=jK.fn
 obtain ⟨cE,cF⟩:=jl.fn
 obtain ⟨f9,fB⟩:=ku.fn
 obtain ⟨dN,dS⟩:=kT.fn
 obtain ⟨bZ,dj⟩:=k6.fn
 obtain ⟨dO,dU⟩:=kU.fn
 obtain ⟨cg,dw⟩:=k7.fn
 obtain ⟨eN,eX⟩:=lN.fn
 obtain ⟨iV,jb⟩:=A0.fn
 obtain ⟨gg,gw⟩:=oz.fn
 obtain ⟨gi,gx⟩:=o4.fn
 obtain ⟨eS,eY⟩:=lO.fn
 obtain ⟨jA,jF⟩:=Co.fn
 obtain ⟨jB,jG⟩:=Cp.fn
 obtain ⟨gj,gz⟩:=uZ.fn
 obtain ⟨dY,dZ⟩:=jm.fn
 obtain ⟨c7,c8⟩:=iy.fn
 obtain ⟨vG,vH⟩:=Ln.fn
 obtain ⟨fG,dG⟩:=tZ.fn
 obtain ⟨ia,ic⟩:=A1.fn
 obtain ⟨iB,gB⟩:=yC.fn
 obtain ⟨eU,cV⟩:=sQ.fn
 obtain ⟨gK,fL⟩:=xy.fn
 obtain ⟨m8,kC⟩:=Gs.fn
 obtain ⟨iC,fq⟩:=yD.fn
 obtain ⟨jC,gT⟩:=Cq.fn
 obtain ⟨iW,ie⟩:=A2.fn
 obtain ⟨fH,dH⟩:=ua.fn
 obtain ⟨gm,eB⟩:=vc.fn
 obtain ⟨iX,fX⟩:=A3.fn
 obtain ⟨gO,dW⟩:=x6.fn
 obtain ⟨iY,fY⟩:=A4.fn
 obtain ⟨gP,fM⟩:=x8.fn
 obtain ⟨gn,eE⟩:=vd.fn
 obtain ⟨jD,iM⟩:=Cr.fn
 obtain ⟨jE,iN⟩:=Cs.fn
 obtain ⟨gp,eF⟩:=ve.fn
 obtain ⟨gq,eG⟩:=vf.fn
 obtain ⟨fJ,cI⟩:=uc.fn
 obtain ⟨qt,qu⟩:=Lo.fn
 obtain ⟨gQ,fN⟩:=x9.fn
 obtain ⟨iZ,ig⟩:=A5.fn
 obtain ⟨gr,eK⟩:=vg.fn
 refine ⟨⟨b9,aF,aA,b6,bW,bX,aG,bL,fR,bz,e9,bN,fF,d8,iA,cO,gJ,br,cP,aZ,cE,bG,f9,bC,dN,bg,bZ,bD,dO,bh,cg,bH,eN,eO,iV,ck,gg,cz,gi,bI,eS,fO,jA,fP,jB,c5,gj,b7,dY,aV,c7,qp,vG,cG,fG,eT,ia,fm,iB,bY,eU,dP,gK,jv,m8,d9,iC,gM,jC,fS,iW,bO,fH,c6,gm,fU,iX,dQ,gO,fV,iY,cQ,gP,cW,gn,eV,jD,eW,jE,cX,gp,cY,gq,cH,fJ,f_short,qt,dR,gQ,fW,iZ,cZ,gr,gu,p6⟩,rfl,?_⟩
 exact {
   ja:=ja,
   nu:=ja.binds (ps:=["self","atoms","bonds"]) fun _ _ _ _ _ _=>sC fun _ _ _=>rfl,
   gv:=gv,
   nN:=gv.binds (ps:=["self","end","other"]) fun _ _ _ _ _ _=>sC fun _ _ _=>rfl,
   fK:=fK,
   mC:=fK.binds (ps:=["self","which","rule","place"]) fun _ _ _ _ _ _=>IJ fun _ _ _ _=>rfl,
   iD:=iD,
   qP:=iD.binds (ps:=["self","form","which"]) fun _ _ _ _ _ _=>sC fun _ _ _=>rfl,
   gR:=gR,
   cR:=gR.binds (ps:=["self","rule","place"]) fun _ _ _ _ _ _=>sC fun _ _ _=>rfl,
   cS:=cS,
   gS:=cS.binds (ps:=["self","size"]) fun _ _ _ _ _ _=>oA fun _ _=>rfl,
   cF:=cF,
   aN:=cF.binds (ps:=["self","size","least","greatest"]) fun _ _ _ _ _ _=>IJ fun _ _ _ _=>rfl,
   fB:=fB,
   qE:=fB.binds (ps:=["self","size","most"]) fun _ _ _ _ _ _=>sC fun _ _ _=>rfl,
   dS:=dS,
   kL:=dS.binds (ps:=["self","mark"]) fun _ _ _ _ _ _=>oA fun _ _=>rfl,
   dj:=dj,
   ki:=dj.binds (ps:=["self","n","take_atom"]) fun _ _ _ _ _ _=>sC fun _ _ _=>rfl,
   dU:=dU,
   kM:=dU.binds (ps:=["self","n","before"]) fun _ _ _ _ _ _=>sC fun _ _ _=>rfl,
   dw:=dw,
   kj:=dw.binds (ps:=["self","n","m","take_bond"]) fun _ _ _ _ _ _=>IJ fun _ _ _ _=>rfl,
   eX:=eX,
   lF:=eX.binds (ps:=["self"]) fun _ _ _ _ _ _=>qG fun _=>rfl,
   jb:=jb,
   rS:=jb.binds (ps:=["self"]) fun _ _ _ _ _ _=>qG fun _=>rfl,
   gw:=gw,
   jX:=gw.binds (ps:=["self","bonds"]) fun _ _ _ _ _ _=>oA fun _ _=>rfl,
   gx:=gx,
   nO:=gx.binds (ps:=["self","bonds"]) fun _ _ _ _ _ _=>oA fun _ _=>rfl,
   eY:=eY,
   lG:=eY.binds (ps:=["self","bonds","length"]) fun _ _ _ _ _ _=>sC fun _ _ _=>rfl,
   jF:=jF,
   u5:=jF.binds (ps:=["self","element","isotope","charge","hydrogens","hand"]) fun _ _ _ _ _ _=>Se fun _ _ _ _ _ _=>rfl,
   jG:=jG,
   u6:=jG.binds (ps:=["self","pair","order","side"]) fun _ _ _ _ _ _=>IJ fun _ _ _ _=>rfl,
   gz:=gz,
   nP:=gz.binds (ps:=["self","atoms","bonds"]) fun _ _ _ _ _ _=>sC fun _ _ _=>rfl,
   dZ:=dZ,
   o8:=dZ.binds (ps:=["self","atom"]) fun _ _ _ _ _ _=>oA fun _ _=>rfl,
   c8:=c8,
   l0:=c8.binds (ps:=["self","atom","other"]) fun _ _ _ _ _ _=>sC fun _ _ _=>rfl,
   vH:=vH,
   KJ:=vH.binds (ps:=["k"]) fun _ _ _ _ _ _=>qG fun _=>rfl,
   KN:=mg_of X G Ll,
   dG:=dG,
   mD:=dG.binds (ps:=["n","bonds"]) fun _ _ _ _ _ _=>oA fun _ _=>rfl,
   mF:=mg_of X G tV,
   ic:=ic,
   rT:=ic.binds (ps:=["reader","mark","take_atom","take_bond"]) fun _ _ _ _ _ _=>IJ fun _ _ _ _=>rfl,
   rX:=mg_of X G Av,
   gB:=gB,
   qQ:=gB.binds (ps:=["molecule"]) fun _ _ _ _ _ _=>qG fun _=>rfl,
   qR:=mg_of X G yy,
   cV:=cV,
   lH:=cV.binds (ps:=["molecule"]) fun _ _ _ _ _ _=>qG fun _=>rfl,
   lI:=mg_of X G sO,
   fL:=fL,
   p7:=fL.binds (ps:=["molecule","paths"]) fun _ _ _ _ _ _=>oA fun _ _=>rfl,
   pB:=mg_of X G xr,
   kC:=kC,
   zc:=kC.binds (ps:=["molecule","path"]) fun _ _ _ _ _ _=>oA fun _ _=>rfl,
   zd:=mg_of X G Gr,
   fq:=fq,
   lV:=fq.binds (ps:=["molecule","ring"]) fun _ _ _ _ _ _=>oA fun _ _=>rfl,
   lW:=mg_of X G yz,
   gT:=gT,
   p8:=gT.binds (ps:=["order"]) fun _ _ _ _ _ _=>qG fun _=>rfl,
   pC:=mg_of X G Ck,
   ie:=ie,
   rV:=ie.binds (ps:=["n","bonds"]) fun _ _ _ _ _ _=>oA fun _ _=>rfl,
   rY:=mg_of X G Aw,
   dH:=dH,
   mE:=dH.binds (ps:=["sums","bonds"]) fun _ _ _ _ _ _=>oA fun _ _=>rfl,
   mG:=mg_of X G tW,
   eB:=eB,
   nQ:=eB.binds (ps:=["states","bonds","k"]) fun _ _ _ _ _ _=>sC fun _ _ _=>rfl,
   nX:=mg_of X G uU,
   fX:=fX,
   nv:=fX.binds (ps:=["state","bond","order"]) fun _ _ _ _ _ _=>sC fun _ _ _=>rfl,
   n6:=mg_of X G Ax,
   dW:=dW,
   kN:=dW.binds (ps:=["bonds","k","atom"]) fun _ _ _ _ _ _=>sC fun _ _ _=>rfl,
   kO:=mg_of X G xu,
   fY:=fY,
   ny:=fY.binds (ps:=["left","bonds"]) fun _ _ _ _ _ _=>oA fun _ _=>rfl,
   n8:=mg_of X G Ay,
   fM:=fM,
   p9:=fM.binds (ps:=["bonds"]) fun _ _ _ _ _ _=>qG fun _=>rfl,
   pF:=mg_of X G xw,
   eE:=eE,
   nR:=eE.binds (ps:=["form","which"]) fun _ _ _ _ _ _=>oA fun _ _=>rfl,
   nY:=mg_of X G uV,
   iM:=iM,
   u7:=iM.binds (ps:=["reader"]) fun _ _ _ _ _ _=>qG fun _=>rfl,
   uA:=mg_of X G Cm,
   iN:=iN,
   u9:=iN.binds (ps:=["reader","pair"]) fun _ _ _ _ _ _=>oA fun _ _=>rfl,
   uB:=mg_of X G Cn,
   eF:=eF,
   nS:=eF.binds (ps:=["molecule","k"]) fun _ _ _ _ _ _=>oA fun _ _=>rfl,
   nZ:=mg_of X G uW,
   eG:=eG,
   nU:=eG.binds (ps:=["molecule","k"]) fun _ _ _ _ _ _=>oA fun _ _=>rfl,
   oh:=mg_of X G uX,
   cI:=cI,
   jw:=cI.binds (ps:=["molecule","end","other"]) fun _ _ _ _ _ _=>sC fun _ _ _=>rfl,
   jx:=mg_of X G tX,
   qu:=qu,
   KL:=qu.binds (ps:=["k","molecule"]) fun _ _ _ _ _ _=>oA fun _ _=>rfl,
   EA:=mg_of X G Lm,
   fN:=fN,
   pA:=fN.binds (ps:=["fault"]) fun _ _ _ _ _ _=>qG fun _=>rfl,
   pG:=mg_of X G xx,
   ig:=ig,
   rW:=ig.binds (ps:=["row"]) fun _ _ _ _ _ _=>qG fun _=>rfl,
   rZ:=mg_of X G Az,
   eK:=eK,
   nV:=eK.binds (ps:=["k","rows"]) fun _ _ _ _ _ _=>oA fun _ _=>rfl,
   oj:=mg_of X G uY,
   zP:=mg_of X G KW,
   vJ:=⟨IL,IM,IP,IQ⟩,
   EB:=⟨IU,Aj,Ak,IV⟩,
   uJ:=⟨uN,ow,jZ.kp⟩,
   iE:=iE,
   iF:=iF,
   fZ:=fZ,
   pH:=mg_of X G BW,
   eZ:=⟨⟨_,_,_,_,_,_,_,_,_,_,_,_,_,_,BX,xD,Am,fun x hx=>by simp only [List.mem_cons,List.mem_nil_iff,or_false] at hx;rcases hx with rfl | rfl | rfl | rfl | rfl | rfl<;>first | exact l7 | exact pM | exact pN | exact rm | exact sI | exact rq⟩,An,Ao,Aq,by simp,by simp,by simp⟩,
   BR:=mg_of X G IW,
   aH:=⟨Gj,Gk,Gm,Gn⟩,
   BS:=⟨Gp,yr,yt,Gq⟩,
   cT:=⟨xm,xq,pQ.kp⟩,
   gU:=⟨pO,pP,jK.kp⟩,
   aO:=⟨oB,oE,jl.kp⟩,
   qF:=⟨qH,qI,ku.kp⟩,
   kP:=⟨r6,r8,kT.kp⟩,
   ko:=⟨qJ,qK,k6.kp⟩,
   kQ:=⟨r9,rA,kU.kp⟩,
   kr:=⟨qL,qM,k7.kp⟩,
   lJ:=⟨sJ,sL,lN.kp⟩,
   dB:=dB,
   gW:=gW,
   aY:=aY,
   bP:=bP,
   bQ:=bQ,
   EC:=mg_of X G KY,
   j4:=⟨IX,IY,IZ,Ja⟩,
   ED:=⟨Jb,As,Au,Jc⟩,
   jY:=⟨uO,uP,oz.kp⟩,
   om:=⟨uQ,uR,o4.kp⟩,
   lK:=⟨sM,sN,lO.kp⟩,
   ir:=ir,
   g7:=g7,
   IB:=mg_of X G N6,
   nA:=⟨KZ,La,Lb,Lc⟩,
   IC:=⟨Ld,BZ,Ca,Le⟩,
   jc:=jc,
   jd:=jd,
   j5:=j5,
   dI:=dI,
   jH:=jH,
   ID:=mg_of X G N7,
   i8:=⟨Lf,Lg,Lh,Li⟩,
   IE:=⟨Lj,Cb,Cc,Lk⟩,
   je:=je,
   jf:=jf,
   iu:=iu,
   jI:=jI,
   wW:=mg_of X G DJ,
   bw:=⟨Cd,Ce,Cf,Cg⟩,
   wX:=⟨Ci,uS,uT,Cj⟩,
   o9:=⟨oF,oG,jm.kp⟩,
   l6:=⟨l8,l9,iy.kp⟩,
   kR:=⟨rB,ow,jZ.kp⟩,
   bR:=bR,
   dJ:=dJ,
   bc:=bc,
   g8:=g8,
   fh:=fh,
   bS:=bS,
   se:=⟨yu,yw,yx,sP.kp⟩,
   sf:=⟨_,mg_of X G A6⟩,
   oq:=⟨_,mg_of X G vh⟩,
   sj:=⟨_,mg_of X G A7⟩,
   mH:=⟨_,mg_of X G ud⟩,
   sr:=⟨_,mg_of X G A8⟩,
   mJ:=⟨_,mg_of X G ue⟩,
   uC:=⟨_,mg_of X G Ct⟩,
   su:=⟨_,mg_of X G A9⟩,
   sy:=⟨_,mg_of X G AA⟩,
   pI:=⟨_,mg_of X G xA⟩,
   qS:=⟨_,mg_of X G yE⟩,
   mK:=⟨_,mg_of X G uf⟩,
   pJ:=⟨_,mg_of X G xB⟩,
   lX:=⟨_,mg_of X G yF⟩,
   jy:=⟨_,mg_of X G ug⟩,
   pK:=⟨_,mg_of X G xC⟩,
   uD:=⟨_,mg_of X G Cu⟩,
   uE:=⟨_,mg_of X G Cv⟩,
   wY:=⟨_,mg_of X G DK⟩,
   ze:=⟨_,mg_of X G Gu⟩,
   qT:=⟨_,mg_of X G yG⟩,
   sA:=⟨_,mg_of X G AB⟩,
   wZ:=mg_of X G Jd,
   pL:=fun H=>.inr ⟨_,_,_,Je,rfl,rfl,(by show 3<=sizeLine;decide),.cons ⟨_,rfl⟩ (.cons ⟨_,rfl⟩ (.cons ⟨_,rfl⟩ (.nil)))⟩,
   IF:=mg_of X G N8,
   IG:=fun H=>.inr ⟨_,_,_,N9,rfl,rfl,(by show 4<=sizeLine;decide),.cons ⟨_,rfl⟩ (.cons ⟨_,rfl⟩ (.cons ⟨_,rfl⟩ (.cons ⟨_,rfl⟩ (.nil))))⟩,
   jJ:=ns_none_of X G Cw,
   jk:=ns_none_of X G PN,
   II:=ns_none_of X G NB,
   Mw:=ns_none_of X G PR,
   lM:=ns_none_of X G Lp,
   zQ:=ns_none_of X G Lq }
open XL (dz)
open Fk (Fault Bytes numIn need andThen)
def qw (H:Hp) (dx:Addr) (w r p:Int):Prop:=H dx=some (.xd [("which",.int w),("rule",.int r),("place",.int p)])
def lP {α:Type} (C:Addr) (w:Int) (x:Except Fault α) (k:α->Prop) (E:XK):Prop:=match x with
 | .ok y=>k y
 | .error f=>∀ H dx,qw H dx w f.rule f.place->E (.ref C) (some dx) H
theorem lP.andThen {α β:Type} {C:Addr} {w:Int} {x:Except Fault α} {f:α->Except Fault β} {k:β->Prop} {E:XK}:lP C w (Fk.andThen x f) k E ↔ lP C w x (fun y=>lP C w (f y) k E) E:=by cases x<;>exact Iff.rfl
theorem lP.mono {α:Type} {C:Addr} {w:Int} {x:Except Fault α} {k k':α->Prop} {E:XK} (h:lP C w x k E) (f:∀ y,x=.ok y->k y->k' y):lP C w x k' E:=by
 cases x with
 | ok y=>exact f y rfl h
 | error e=>exact h
def vB (B:Bytes):List V:=B.map fun c=>V.int (c.toNat:Int)
def qV (K:PySem.W.Frag) (H:Hp) (a:Addr) (B:Bytes):Prop:=(∃ o,H a=some (.jN o (.lst (vB B))))\/∀ H',bM K H' a (vB B)
theorem qV.sq {K:PySem.W.Frag} {H:Hp} {a:Addr} {B:Bytes} (h:qV K H a B):bM K H a (vB B):=by
 rcases h with ⟨o,h⟩ | h
 . exact .inl (.inr ⟨o,h⟩)
 . exact h H
def i9 (S:List Addr) (H H':Hp):Prop:=∀ b o,H b=some o->b ∉ S->H' b=some o
theorem i9.refl {S:List Addr} {H:Hp}:i9 S H H:=fun _ _ h _=>h
theorem i9.trans {S:List Addr} {H H1 H2:Hp} (a:i9 S H H1) (b:i9 S H1 H2):i9 S H H2:=fun c o h n=>b c o (a c o h n) n
theorem i9.mono {S S':List Addr} {H H1:Hp} (a:i9 S H H1) (h:∀ b ∈ S,b ∈ S'):i9 S' H H1:=fun c o q n=>a c o q fun z=>n (h c z)
theorem i9.PU {K:PySem.W.Frag} {S:List Addr} {H H':Hp} {a:Addr} {B:Bytes} (e:i9 S H H') (h:qV K H a B) (n:∀ o xs,H a=some (.jN o xs)->a ∉ S):qV K H' a B:=by
 rcases h with ⟨o,h⟩ | h
 . exact .inl ⟨o,e a _ h (n _ _ h)⟩
 . exact .inr h
structure AD where
 a:Addr
 w:Int
 B:Bytes
 b:Bytes
 p:Nat
 hp:Addr
 hps:List Int
 sp:Addr
 Jf:List Int
def Sf (x:AD):List (Str×V):=[("form",.ref x.a),("which",.int x.w),("place",.int x.p),("hand_places",.ref x.hp),("side_places",.ref x.sp)]
structure dX (K:PySem.W.Frag) (C:Addr) (H:Hp) (r:Addr) (x:AD):Prop where
 obj:∃ dx,H r=some (.ins C dx (Sf x))
 form:qV K H x.a x.B
 hpl:H x.hp=some (.lst (x.hps.map V.int))
 CZ:H x.sp=some (.lst (x.Jf.map V.int))
 ne:x.hp ≠ x.sp
 rest:x.b=x.B.drop x.p
 le:x.p<=x.B.length
 small:x.B.length<=6000
theorem Jg {H:Hp} {a b:Addr} {o:Obj} {u v:HO} (h:H a=some (.jN o u)) (h':H b=some v) (n:∀ o u,v ≠ .jN o u):a ≠ b:=fun e=>by rw [e,h'] at h;exact n _ _ (Option.some.inj h)
theorem dX.stay {K:PySem.W.Frag} {C:Addr} {H H':Hp} {r:Addr} {x:AD} {S:List Addr} (R:dX K C H r x) (f:i9 S H H') (n1:r ∉ S) (n2:x.hp ∉ S) (n3:x.sp ∉ S) (n4:∀ b ∈ S,∀ o u,H b ≠ some (.jN o u)):dX K C H' r x:=by
 obtain ⟨dx,e⟩:=R.obj
 exact ⟨⟨dx,f r _ e n1⟩,f.PU R.form fun o xs h hm=>n4 _ hm o xs h,f _ _ R.hpl n2,f _ _ R.CZ n3,R.ne,R.rest,R.le,R.small⟩
theorem dX.place {K:PySem.W.Frag} {C:Addr} {H H':Hp} {r dx:Addr} {x:AD} {b:Bytes} {p:Nat} (R:dX K C H r x) (f:i9 [r] H H') (e:H' r=some (.ins C dx (Sf { x with b:=b,p:=p }))) (hb:b=x.B.drop p) (hp:p<=x.B.length) :
   dX K C H' r { x with b:=b,p:=p }:=by
 obtain ⟨d0,e0⟩:=R.obj
 exact ⟨⟨dx,e⟩,f.PU R.form (fun o xs h hm=>by
   rw [show x.a=r by simpa using hm,e0] at h;cases h),f _ _ R.hpl (by simp;exact kg R.hpl e0 (by intro z;cases z)),f _ _ R.CZ (by simp;exact kg R.CZ e0 (by intro z;cases z)),R.ne,hb,hp,R.small⟩
def Lr (C:Addr):Sp:=fun vs H Q _=>∃ (a:Addr) (w r p:Int),vs=[.ref a,.int w,.int r,.int p]/\H a=some (XO a C none)/\∀ (H':Hp) (dx:Addr),dx ≠ a->H' a=some (XO a C (some dx))->qw H' dx w r p->Q .non H'
def Ls (CR CF:Addr):Sp:=fun vs H _ E=>∃ (r:Addr) (w ru pl:Int) (dx:Addr) (fs:List (Str×V)),vs=[.ref r,.int ru,.int pl]/\H r=some (.ins CR dx fs)/\fs.lookup ("which":Str)=some (V.int w)/\∀ H' dx,qw H' dx w ru pl->E (.ref CF) (some dx) H'
def PV (K:PySem.W.Frag) (CR CF:Addr):Sp:=fun vs H Q E=>∃ (r:Addr) (k:Nat) (x:AD),vs=[.ref r,.int (k:Int)]/\dX K CR H r x/\(k=1\/k=2) /\
 lP CF x.w (numIn k (fun _=>true) x.b x.p) (fun y=>∀ H',dX K CR H' r { x with b:=y.2.1,p:=y.2.2 }->i9 [r] H H'->Q (.int (y.1:Int)) H') E
def Gv (K:PySem.W.Frag) (CR CF:Addr):Sp:=fun vs H Q E=>∃ (r:Addr) (k:Nat) (lo hi:Int) (x:AD),vs=[.ref r,.int (k:Int),.int lo,.int hi]/\dX K CR H r x/\(k=1\/k=2) /\
 lP CF x.w (numIn k (fun v=>decide (lo<=(v:Int))&&decide ((v:Int)<=hi)) x.b x.p) (fun y=>∀ H',dX K CR H' r { x with b:=y.2.1,p:=y.2.2 }->i9 [r] H H'->Q (.int (y.1:Int)) H') E
section
variable {P:Program} {w:World} {K:PySem.W.Frag} {mg:Str->Option Value} {base:Heap} {t:Ad}
theorem zf:typeLookup (.type "Exception") "which"=pure none:=by rw [typeLookup_type,builtinLookup_eq_fast];kernel_rfl
theorem Cy:typeLookup (.type "Exception") "rule"=pure none:=by rw [typeLookup_type,builtinLookup_eq_fast];kernel_rfl
theorem zg:typeLookup (.type "Exception") "place"=pure none:=by rw [typeLookup_type,builtinLookup_eq_fast];kernel_rfl
theorem Jh:aL ["self","which","rule","place"] ["self","which","rule","place"] (aE jr):=⟨rfl,rfl,rfl,by decide +kernel,rfl,by decide +kernel,by decide +kernel⟩
theorem Ji (T:Txt K mg t):bB P w K mg base lS 1 t.bN t.fF ["self","which","rule","place"] (Lr t.aF):=by
 refine T.fK.ok Jh (fun vs H Q E h=>?_) (fun cdv A outer s H vs Q E hr h=>?_)
 . obtain ⟨a,w,r,p,rfl,_⟩:=h
   rfl
 . obtain ⟨a,w,r,p,rfl,ha,k⟩:=h
   refine ⟨_,au (PL T.eZ (pv 0) (pv 1) (by simp) zf rfl) (au (Mt T.eZ (pv 0) (pv 2) (by simp) Cy rfl) (aB (Mt T.eZ (pv 0) (pv 3) (by simp) zg rfl))),?_⟩
   refine ⟨_,rfl,_,rfl,a,rfl,ha,fun dx hd=>?_⟩
   have da:dx ≠ a:=fun z=>by rw [z,ha] at hd;cases hd
   have e1:upd (upd H dx (.xd [("which",V.int w)])) a (XO a t.aF (some dx)) dx=some (.xd [("which",V.int w)]):=by rw [ak da,ai]
   refine ⟨_,rfl,_,rfl,a,dx,_,rfl,ai,e1,(by show 1 < 1000;decide),?_⟩
   refine ⟨_,rfl,_,rfl,a,dx,_,rfl,?_,ai,(by show 2 < 1000;decide),?_⟩
   . rw [ak (Ne.symm da)];exact ai
   . refine k _ dx da ?_ ai
     rw [ak (Ne.symm da),ak (Ne.symm da)];exact ai
theorem Jj:aL ["self","rule","place"] ["self","rule","place"] (aE kG):=⟨rfl,rfl,rfl,by decide +kernel,rfl,by decide +kernel,by decide +kernel⟩
theorem mL (T:Txt K mg t):bB P w K mg base (qD P w) 3 t.cO t.gJ ["self","rule","place"] (Ls t.aA t.aF):=by
 have GI:=@Ji P w K mg base t T
 refine T.gR.Hu Jj (fun vs H Q E h=>?_) (fun cdv A outer s H vs Q E hr h=>?_)
 . obtain ⟨r,w,ru,pl,dx,fs,rfl,_⟩:=h
   rfl
 . obtain ⟨r,w,ru,pl,dx,fs,rfl,hr0,hw,k⟩:=h
   refine ⟨_,aB (Iu rfl T.eZ GI hr rfl T.pH T.mC KG (af (aK (pv 0) rfl) (af (pv 1) (af (pv 2) ay)))),?_⟩
   refine ⟨_,rfl,r,t.aA,dx,fs,_,rfl,hr0,T.aH,T.gW,hw,_,rfl,_,rfl,(by show 3<=sizeLine;decide),fun a ha=>?_⟩
   refine ⟨a,w,ru,pl,rfl,ai,fun H' dx' da h1 h2=>⟨rfl,dx',h1,k _ _ ?_⟩⟩
   show drop H' a dx'=_
   rw [vF da]
   exact h2
def Lu (K:PySem.W.Frag) (C:Addr):Sp:=fun vs H Q _=>∃ (r dx a:Addr) (w:Int) (B:Bytes),vs=[.ref r,.ref a,.int w]/\H r=some (.ins C dx [])/\qV K H a B/\B.length<=6000 /\
 ∀ (H':Hp) (hp sp:Addr),H hp=none->H sp=none->dX K C H' r ⟨a,w,B,B,0,hp,[],sp,[]⟩->i9 [r] H H'->Q .non H'
theorem Jk:aL ["self","form","which"] ["self","form","which"] (aE lT):=⟨rfl,rfl,rfl,by decide +kernel,rfl,by decide +kernel,by decide +kernel⟩
theorem Jl (T:Txt K mg t):bB P w K mg base lS 1 t.d8 t.iA ["self","form","which"] (Lu K t.aA):=by
 refine T.iD.ok Jk (fun vs H Q E h=>?_) (fun cdv A outer s H vs Q E hr h=>?_)
 . obtain ⟨r,dx,a,w,B,rfl,_⟩:=h
   rfl
 . obtain ⟨r,dx,a,w,B,rfl,h0,hf,hB,k⟩:=h
   refine ⟨_,au (e7 (pv 0) (pv 1) rfl) (au (e7 (pv 0) (pv 2) rfl) (au (e7 (pv 0) aM rfl) (au (e7 (pv 0) (gC ay) rfl) (aB (e7 (pv 0) (gC ay) rfl))))),?_⟩
   refine ⟨_,rfl,_,rfl,r,_,dx,_,rfl,h0,T.aH,T.dB,(by show 0 < 1000;decide),?_⟩
   refine ⟨_,rfl,_,rfl,r,_,dx,_,rfl,ai,T.aH,T.gW,(by show 1 < 1000;decide),?_⟩
   rw [lA]
   refine ⟨_,rfl,r,_,dx,_,rfl,ai,T.aH,T.aY,(by show 2 < 1000;decide),?_⟩
   rw [lA]
   refine ⟨Nat.zero_le _,fun l1 n1=>?_⟩
   have r1:r ≠ l1:=fun z=>by rw [<- z,ai] at n1;cases n1
   have n1':H l1=none:=by rw [ak (Ne.symm r1)] at n1;exact n1
   refine ⟨_,rfl,r,_,dx,_,rfl,(by rw [ak r1];exact ai),T.aH,T.bP,(by show 3 < 1000;decide),?_⟩
   refine ⟨Nat.zero_le _,fun l2 n2=>?_⟩
   have r2:r ≠ l2:=fun z=>by rw [<- z,ai] at n2;cases n2
   have PX:=n2
   rw [ak (Ne.symm r2)] at PX
   have Sg:l1 ≠ l2:=fun z=>by rw [<- z,ai] at PX;cases PX
   have n2':H l2=none:=by rw [ak (Ne.symm Sg),ak (Ne.symm r2)] at PX;exact PX
   refine ⟨_,rfl,r,_,dx,_,rfl,(by rw [ak r2];exact ai),T.aH,T.bQ,(by show 4 < 1000;decide),?_⟩
   have F:i9 [r] H (upd (upd (upd (upd (upd H r (.ins t.aA dx (eu "place" (.int 0) (eu "which" (.int w) (eu "form" (.ref a) []))))) l1 (.lst [])) r (.ins t.aA dx (eu "hand_places" (.ref l1) (eu "place" (.int 0) (eu "which" (.int w) (eu "form" (.ref a) [])))))) l2 (.lst []))
     r (.ins t.aA dx (eu "side_places" (.ref l2) (eu "hand_places" (.ref l1) (eu "place" (.int 0) (eu "which" (.int w) (eu "form" (.ref a) []))))))):=fun b o e n=>by
     have nb:b ≠ r:=by simpa using n
     rw [ak nb,ak (aq e n2'),ak nb,ak (aq e n1'),ak nb]
     exact e
   refine k _ l1 l2 n1' n2' ⟨⟨dx,ai⟩,F.PU hf (fun o xs h hm=>?_),?_,?_,Sg,rfl,Nat.zero_le _,hB⟩ F
   . rw [show a=r by simpa using hm,h0] at h;cases h
   . rw [ak (Ne.symm r1),ak Sg,ak (Ne.symm r1)];exact ai
   . rw [ak (Ne.symm r2)];exact ai
theorem AE:aL ["self","size","number","k"] ["self","size"] (aE gI):=⟨rfl,rfl,rfl,by decide +kernel,rfl,by decide +kernel,by decide +kernel⟩
theorem Jm {b:Bytes} {k:Nat} {c:UInt8} (hk:k < 2) (hc:b[k]?=some c):(Fk.num (b.take (k+1)):Int)=(Fk.num (b.take k):Int)+(c.toNat:Int) * 2 ^ (8 * (k:Int)).toNat:=by
 match k,b,hk,hc with
 | 0,x::b,_,hc=>
   cases hc
   simp [Fk.num]
 | 1,x::y::b,_,hc=>
   cases hc
   simp [Fk.num]
   omega
 | 0,[],_,hc=>cases hc
 | 1,[],_,hc=>cases hc
 | 1,[x],_,hc=>cases hc
theorem Jo (T:Txt K mg t):bB P w K mg base (qD P w) 4 t.br t.cP ["self","size"] (PV K t.aA t.aF):=by
 have GF:=@mL P w K mg base t T
 obtain ⟨TM,g5⟩:=T.sr
 refine T.cS.Hu AE (fun vs H Q E h=>?_) (fun cdv A outer s H vs Q E hr h=>?_)
 . obtain ⟨r,k,x,rfl,_⟩:=h
   rfl
 . obtain ⟨r,k,x,rfl,R,hk,bJ⟩:=h
   obtain ⟨dx,e0⟩:=R.obj
   refine ⟨_,au (mw (eL El (fC tH (aK (pv 0) rfl) (pv 1)) (cA aW (by rfl) T.jk PySem.boot_len (af (aK (pv 0) rfl) ay)) (fD _))
       (aB (bV (b8 (pv 0) T.aH T.cT GF hr T.cR .nil fz (af (b5 rfl g5 (v:=.int 5) ⟨_,rfl⟩) (af (cA aW (by rfl) T.jk PySem.boot_len (af (aK (pv 0) rfl) ay)) ay))))) gY)
     (au (aQ (i:=2) AE.nd rfl (Or.inl rfl) aM)
     (au (fj FZ rfl (k9 rfl T.lM (af (pv 1) ay)) (bu (i:=3) AE.nd rfl (Or.inl rfl))
       (aB (MS (i:=2) AE.nd rfl (Or.inl rfl) (fC Dr (dM bF (aK (pv 0) rfl) (fC tH (aK (pv 0) rfl) (pv 3)) (fun _ _=>rfl)) (fC Dq aM (pv 3))) Di)))
     (au (Fy (pv 0) (pv 1) MY) (aB (bA (pv 2)))))),?_⟩
   have hf:=R.form.sq
   have QR:(vB x.B).length=x.B.length:=by simp [vB]
   refine ⟨_,rfl,r,_,dx,_,_,rfl,e0,T.aH,T.aY,rfl,_,rfl,_,_,rfl,rfl,?_⟩
   refine ⟨_,rfl,r,_,dx,_,_,rfl,e0,T.aH,T.dB,rfl,x.a,_,rfl,.inl hf,_,_,rfl,rfl,_,rfl,?_⟩
   rw [QR]
   have hlen:x.b.length=x.B.length - x.p:=by rw [R.rest,List.length_drop]
   have hle:=R.le
   refine BC (fun h=>?_) (fun h=>?_)
   . have h':(x.B.length:Int) < (x.p:Int)+(k:Int):=of_decide_eq_true h
     have e1:numIn k (fun _=>true) x.b x.p=.error ⟨5,x.p+x.b.length⟩:=if_pos (by omega)
     rw [e1] at bJ
     refine ⟨_,rfl,r,dx,_,rfl,e0,rfl,?_⟩
     refine ⟨_,rfl,r,_,dx,_,_,rfl,e0,T.aH,T.dB,rfl,x.a,_,rfl,.inl hf,?_⟩
     refine ⟨r,x.w,5,((vB x.B).length:Int),dx,_,rfl,e0,rfl,fun H' d' hF=>bJ H' d' ?_⟩
     rw [QR] at hF
     have e2:x.p+x.b.length=x.B.length:=by omega
     show qw H' d' x.w 5 ((x.p+x.b.length:Nat):Int)
     rw [e2]
     exact hF
   . have h':¬ (x.B.length:Int) < (x.p:Int)+(k:Int):=fun z=>h (decide_eq_true z)
     have e1:numIn k (fun _=>true) x.b x.p=.ok (Fk.num (x.b.take k),x.b.drop k,x.p+k):=by
       unfold numIn
       rw [if_neg (by omega),if_pos rfl]
     rw [e1] at bJ
     refine ⟨_,rfl,(k:Int),rfl,by omega,by omega,?_⟩
     rw [Int.toNat_natCast]
     refine qj (n:=k) (fun i σ H'=>∃ v,H'=H/\σ=[some (.ref r),some (.int (k:Int)),some (.int (Fk.num (x.b.take i):Int)),v]) ⟨none,rfl,rfl⟩ ?_ ?_
     . rintro i σ H' hi ⟨v,rfl,rfl⟩
       obtain ⟨c,hc⟩:∃ c,x.b[i]?=some c:=⟨_,List.getElem?_eq_getElem (by omega)⟩
       have V5:x.B[x.p+i]?=some c:=by
         rw [R.rest,List.getElem?_drop] at hc
         exact hc
       have V6:(vB x.B)[x.p+i]?=some (V.int (c.toNat:Int)):=by
         unfold vB
         rw [List.getElem?_map,V5]
         rfl
       refine ⟨_,rfl,?_⟩
       refine ⟨_,rfl,r,_,dx,_,_,rfl,e0,T.aH,T.dB,rfl,_,rfl,r,_,dx,_,_,rfl,e0,T.aH,T.aY,rfl,_,rfl,_,_,rfl,rfl,x.a,_,_,_,rfl,rfl,hf,at_of (j:=x.p+i) (by simp) V6,?_⟩
       refine ⟨_,rfl,_,_,rfl,rfl,.inl ⟨by decide,by decide⟩,_,_,rfl,rfl,⟨by omega,by omega,?_⟩,?_⟩
       . have:=c.toNat_lt
         have e:((c.toNat:Int)).natAbs=c.toNat:=Int.natAbs_natCast _
         rw [e]
         omega
       . refine ⟨_,_,rfl,rfl,some (.int (0+(i:Int))),rfl,?_⟩
         have e8:(8 * (0+(i:Int))).toNat=(8 * (i:Int)).toNat:=by rw [Int.zero_add]
         rw [Jm (by omega) hc,<- e8]
         rfl
     . rintro σ H' ⟨v,rfl,rfl⟩
       refine ⟨_,rfl,r,_,dx,_,_,rfl,e0,T.aH,T.aY,rfl,_,rfl,_,_,rfl,rfl,dx,_,e0,(by show 5 < 1000;decide),?_⟩
       refine ⟨_,rfl,?_⟩
       have F:i9 [r] H' (upd H' r (.ins t.aA dx (eu "place" (V.int ((x.p:Int)+(k:Int))) (Sf x)))):=fun b o e n=>by rw [ak (by simpa using n)];exact e
       exact bJ _ (R.place F (dx:=dx) ai (by rw [R.rest,List.drop_drop]) (by show x.p+k<=_;omega)) F
theorem rC:aL ["self","size","least","greatest","start","number"] ["self","size","least","greatest"] (aE gD):=⟨rfl,rfl,rfl,by decide +kernel,rfl,by decide +kernel,by decide +kernel⟩
theorem nE (T:Txt K mg t):bB P w K mg base (qD P w) 5 t.aZ t.cE ["self","size","least","greatest"] (Gv K t.aA t.aF):=by
 have GF:=@mL P w K mg base t T
 have GN:=@Jo P w K mg base t T
 obtain ⟨PY,g2⟩:=T.oq
 refine T.cF.Hu rC (fun vs H Q E h=>?_) (fun cdv A outer s H vs Q E hr h=>?_)
 . obtain ⟨r,k,lo,hi,x,rfl,_⟩:=h
   rfl
 . obtain ⟨r,k,lo,hi,x,rfl,R,hk,bJ⟩:=h
   obtain ⟨dx,e0⟩:=R.obj
   have Gw:cK 3 _:=hr.mono (by decide)
   refine ⟨_,au (aQ (i:=4) rC.nd rfl (Or.inl rfl) (aK (pv 0) rfl))
     (au (aQ (i:=5) rC.nd rfl (Or.inl rfl) (b8 (pv 0) T.aH T.gU GN hr T.gS .nil fz (af (pv 1) ay)))
     (au (mw (HA (eL HJ (pv 5) (pv 2) (fD _)) (Df (eL El (pv 5) (pv 3) (fD _)))).pt
       (aB (bV (b8 (pv 0) T.aH T.cT GF Gw T.cR .nil fz (af (b5 rfl g2 (v:=.int 2) ⟨_,rfl⟩) (af (pv 4) ay))))) gY)
     (aB (bA (pv 5))))),?_⟩
   refine ⟨_,rfl,r,_,dx,_,_,rfl,e0,T.aH,T.aY,rfl,?_⟩
   refine ⟨_,rfl,r,dx,_,rfl,e0,rfl,_,rfl,?_⟩
   refine ⟨r,k,x,rfl,R,hk,?_⟩
   have split:numIn k (fun v=>decide (lo<=(v:Int))&&decide ((v:Int)<=hi)) x.b x.p=Fk.andThen (numIn k (fun _=>true) x.b x.p) fun y=>Fk.andThen (need (decide (lo<=(y.1:Int))&&decide ((y.1:Int)<=hi)) 2 x.p) fun _=>.ok y:=by
     unfold numIn
     split
     . rfl
     . rw [if_pos rfl]
       show _=Fk.andThen (need _ 2 x.p) _
       unfold need
       split<;>rfl
   rw [split,lP.andThen] at bJ
   refine bJ.mono fun y hy bJ H1 R1 F1=>?_
   obtain ⟨d1,e1⟩:=R1.obj
   have hw:x.w=x.w:=rfl
   refine ⟨_,rfl,_,rfl,_,_,rfl,rfl,_,rfl,?_⟩
   by_cases h1:(y.1:Int) < lo
   . have bad:need (decide (lo<=(y.1:Int))&&decide ((y.1:Int)<=hi)) 2 x.p=.error ⟨2,x.p⟩:=by simp [need];omega
     rw [bad] at bJ
     rw [decide_eq_true h1]
     refine ⟨_,rfl,r,d1,_,rfl,e1,rfl,_,rfl,?_⟩
     exact ⟨r,x.w,2,(x.p:Int),d1,_,rfl,e1,rfl,fun H' d' hF=>bJ H' d' hF⟩
   . rw [decide_eq_false h1]
     refine ⟨_,rfl,_,rfl,_,_,rfl,rfl,_,rfl,?_⟩
     by_cases h2:hi < (y.1:Int)
     . have bad:need (decide (lo<=(y.1:Int))&&decide ((y.1:Int)<=hi)) 2 x.p=.error ⟨2,x.p⟩:=by simp [need];omega
       rw [bad] at bJ
       rw [decide_eq_true h2]
       refine ⟨_,rfl,r,d1,_,rfl,e1,rfl,_,rfl,?_⟩
       exact ⟨r,x.w,2,(x.p:Int),d1,_,rfl,e1,rfl,fun H' d' hF=>bJ H' d' hF⟩
     . have good:need (decide (lo<=(y.1:Int))&&decide ((y.1:Int)<=hi)) 2 x.p=.ok ():=by simp [need];omega
       rw [good] at bJ
       rw [decide_eq_false h2]
       exact ⟨_,rfl,bJ H1 R1 F1⟩
end
open Fk (Fault Bytes numIn need andThen PAtom PBond)
theorem lP.good {C:Addr} {w:Int} {k:Nat} {g g':Nat->Bool} {b:Bytes} {p:Nat} {kk:Nat×Bytes×Nat->Prop} {E:XK} (h:∀ v,g v=g' v) (a:lP C w (numIn k g' b p) kk E):lP C w (numIn k g b p) kk E:=by
 rw [JM.BL h];exact a
theorem lP.andThen' {α β:Type} {C:Addr} {w:Int} {x:Except Fault α} {f:α->Except Fault β} {k:β->Prop} {E:XK} (h:lP C w (Fk.andThen x f) k E):lP C w x (fun y=>lP C w (f y) k E) E:=lP.andThen.mp h
section
variable {P:Program} {w:World} {K:PySem.W.Frag} {mg:Str->Option Value} {base:Heap} {t:Ad}
def NC (K:PySem.W.Frag) (CR CF:Addr):Sp:=fun vs H Q E=>∃ (r m:Addr) (M:Bytes) (x:AD),vs=[.ref r,.ref m]/\dX K CR H r x/\(∀ H,mr K H m (vB M)) /\
 lP CF x.w (JM.iH M x.b x.p) (fun y=>∀ H',dX K CR H' r { x with b:=y.1,p:=y.2 }->i9 [r] H H'->Q .non H') E
theorem EE:aL ["self","mark","byte"] ["self","mark"] (aE iI):=⟨rfl,rfl,rfl,by decide +kernel,rfl,by decide +kernel,by decide +kernel⟩
theorem Lw (T:Txt K mg t):bB P w K mg base (qD P w) 6 t.bC t.dN ["self","mark"] (NC K t.aA t.aF):=by
 have GF:=@mL P w K mg base t T
 have GN:=@Jo P w K mg base t T
 obtain ⟨OA,g1⟩:=T.sf
 refine T.dS.Hu EE (fun vs H Q E h=>?_) (fun cdv A outer s H vs Q E hr h=>?_)
 . obtain ⟨r,m,M,x,rfl,_⟩:=h
   rfl
 . obtain ⟨r,m,M,x,rfl,R,hM,bJ⟩:=h
   have Gw:cK 3 _:=hr.mono (by decide)
   have Sh:cK 4 _:=hr.mono (by decide)
   refine ⟨_,aB (fj FZ rfl (Dm (pv 1)) (bu (i:=2) EE.nd rfl (Or.inl rfl))
     (aB (mw (eL Bl (b8 (pv 0) T.aH T.gU GN Sh T.gS .nil fz (af aM ay)) (pv 2) (fD _))
       (aB (bV (b8 (pv 0) T.aH T.cT GF Gw T.cR .nil fz (af (b5 rfl g1 (v:=.int 1) ⟨_,rfl⟩) (af (fC oJ (aK (pv 0) rfl) aM) ay))))) gY))),?_⟩
   refine ⟨_,rfl,m,rfl,⟨_,hM H⟩,zA (K:=K) (a:=m) (xs:=vB M) (fun i σ H'=>∃ (b:Bytes) (p:Nat) (v:Option V),σ=[some (.ref r),some (.ref m),v]/\dX K t.aA H' r { x with b:=b,p:=p }/\i9 [r] H H' /\
     lP t.aF x.w (JM.iH (M.drop i) b p) (fun y=>∀ H',dX K t.aA H' r { x with b:=y.1,p:=y.2 }->i9 [r] H H'->Q .non H') E) ⟨x.b,x.p,none,rfl,R,i9.refl,bJ⟩ (fun i σ H' _ _=>hM H') ?_ ?_⟩
   . rintro i y σ H' hi ⟨b,p,v,rfl,R1,F1,bJ⟩
     obtain ⟨c,hc,rfl⟩:∃ c,M[i]?=some c/\y=V.int (c.toNat:Int):=by
       unfold vB at hi
       rw [List.getElem?_map] at hi
       cases e:M[i]? with
       | none=>rw [e] at hi;cases hi
       | some c=>rw [e] at hi;exact ⟨c,rfl,(Option.some.inj hi).symm⟩
     have hd:M.drop i=c::M.drop (i+1):=by
       obtain ⟨hl,hg⟩:=List.getElem?_eq_some_iff.mp hc
       rw [List.drop_eq_getElem_cons hl,hg]
     rw [hd] at bJ
     obtain ⟨dx,e0⟩:=R1.obj
     refine ⟨_,rfl,r,dx,_,rfl,e0,rfl,?_⟩
     refine ⟨r,1,_,rfl,R1,.inl rfl,bJ.andThen'.mono fun z hz bJ H2 R2 F2=>?_⟩
     refine ⟨_,rfl,rfl,_,rfl,?_⟩
     obtain ⟨d2,e2⟩:=R2.obj
     obtain ⟨_,_,_,z1,z2⟩:=JM.aX hz
     refine BC (fun h=>?_) (fun h=>?_)
     . have ne:¬ z.1=c.toNat:=fun q=>by rw [q] at h;simp at h
       have bad:need (decide (z.1=c.toNat)) 1 p=.error ⟨1,p⟩:=by simp [need,ne]
       rw [bad] at bJ
       refine ⟨_,rfl,r,d2,_,rfl,e2,rfl,_,rfl,r,_,d2,_,_,rfl,e2,T.aH,T.aY,rfl,_,_,rfl,rfl,?_⟩
       refine ⟨r,x.w,1,((z.2.2:Nat):Int) - 1,d2,_,rfl,e2,rfl,fun H' d' hF=>bJ H' d' ?_⟩
       have e3:((z.2.2:Nat):Int) - 1=(p:Int):=by omega
       rw [e3] at hF
       exact hF
     . have eq:z.1=c.toNat:=by
         by_cases q:z.1=c.toNat
         . exact q
         . exact absurd (by simp;omega) h
       have good:need (decide (z.1=c.toNat)) 1 p=.ok ():=by simp [need,eq]
       rw [good] at bJ
       exact ⟨_,_,_,rfl,R2,F1.trans F2,bJ⟩
   . rintro σ H' ⟨b,p,v,rfl,R1,F1,bJ⟩
     rw [show (vB M).length=M.length by simp [vB],List.drop_length] at bJ
     exact bJ H' R1 F1
end
theorem i9.fresh {r:Addr} {H H1:Hp} {p:Addr} (F:i9 [r] H H1) {o:HO} (e:H1 r=some o) (hp:H1 p=none):H p=none:=by
 cases q:H p with
 | none=>rfl
 | some u=>
   by_cases z:p=r
   . rw [z,e] at hp;cases hp
   . rw [F p u q (by simpa using z)] at hp;cases hp
theorem i9.laid {S:List Addr} {H:Hp} {p:Addr} {o:HO} (hp:H p=none):i9 S H (upd H p o):=fun b u e n=>by rw [ak (aq e hp)];exact e
theorem dX.laid {K:PySem.W.Frag} {C:Addr} {H:Hp} {r p:Addr} {x:AD} {o:HO} (R:dX K C H r x) (hp:H p=none):dX K C (upd H p o) r x:=by
 obtain ⟨dx,e⟩:=R.obj
 exact R.stay (S:=[]) (i9.laid hp) (by simp) (by simp) (by simp) (by simp)
theorem dX.wrote {K:PySem.W.Frag} {C:Addr} {H:Hp} {r p:Addr} {x:AD} {o u:HO} (R:dX K C H r x) (hp:H p=some u) (n1:p ≠ r) (n2:p ≠ x.hp) (n3:p ≠ x.sp) (n4:∀ o v,u ≠ .jN o v):dX K C (upd H p o) r x:=
 R.stay (S:=[p]) (fun b o e n=>by rw [ak (by simpa using n)];exact e) (by simpa using Ne.symm n1) (by simpa using Ne.symm n2) (by simpa using Ne.symm n3) (fun b hb o v z=>by
   rw [show b=p by simpa using hb,hp] at z;exact n4 _ _ (Option.some.inj z))
section
variable {P:Program} {w:World} {K:PySem.W.Frag} {mg:Str->Option Value} {base:Heap} {t:Ad}
def vN (l:List Nat):List V:=l.map fun (n:Nat)=>V.int (n:Int)
end
abbrev lZ (α:Type):=(Addr->Prop)->Hp->V->α->Prop
structure qW {α:Type} (Rep:lZ α):Prop where
 stay:∀ {D:Addr->Prop} {H H':Hp} {v:V} {z:α},Rep D H v z->(∀ b o,D b->H b=some o->H' b=some o)->Rep D H' v z
 mono:∀ {D D':Addr->Prop} {H:Hp} {v:V} {z:α},Rep D H v z->(∀ b,D b->D' b)->Rep D' H v z
structure bT {α:Type} (Rep:lZ α) (D:Addr->Prop) (H:Hp) (vs:List V) (zs:List α):Prop where
 len:vs.length=zs.length
 at_:∀ (i:Nat) (v:V) (z:α),vs[i]?=some v->zs[i]?=some z->Rep D H v z
theorem bT.nil {α:Type} {Rep:lZ α} {D:Addr->Prop} {H:Hp}:bT Rep D H [] []:=⟨rfl,fun i v z h _=>by simp at h⟩
theorem bT.snoc {α:Type} {Rep:lZ α} {D:Addr->Prop} {H:Hp} {vs:List V} {zs:List α} {v:V} {z:α} (R:bT Rep D H vs zs) (r:Rep D H v z):bT Rep D H (vs++[v]) (zs++[z]):=by
 refine ⟨by simp [R.len],fun i v' z' h1 h2=>?_⟩
 rcases Nat.lt_trichotomy i vs.length with h | h | h
 . rw [List.getElem?_append_left h] at h1
   rw [List.getElem?_append_left (R.len ▸ h)] at h2
   exact R.at_ i v' z' h1 h2
 . subst h
   rw [List.getElem?_append_right (Nat.le_refl _),Nat.sub_self] at h1
   rw [R.len,List.getElem?_append_right (Nat.le_refl _),Nat.sub_self] at h2
   cases h1;cases h2;exact r
 . have:(vs++[v])[i]?=none:=List.getElem?_eq_none (by simp;omega)
   rw [this] at h1;cases h1
theorem bT.stay {α:Type} {Rep:lZ α} (ok:qW Rep) {D:Addr->Prop} {H H':Hp} {vs:List V} {zs:List α} (R:bT Rep D H vs zs) (k:∀ b o,D b->H b=some o->H' b=some o):bT Rep D H' vs zs:=
 ⟨R.len,fun i v z h1 h2=>ok.stay (R.at_ i v z h1 h2) k⟩
theorem bT.mono {α:Type} {Rep:lZ α} (ok:qW Rep) {D D':Addr->Prop} {H:Hp} {vs:List V} {zs:List α} (R:bT Rep D H vs zs) (k:∀ b,D b->D' b):bT Rep D' H vs zs:=
 ⟨R.len,fun i v z h1 h2=>ok.mono (R.at_ i v z h1 h2) k⟩
def vP (x:Nat×Nat):List V:=[.int (x.1:Int),.int (x.2:Int)]
def Jp {α:Type} (K:PySem.W.Frag) (CR CF:Addr) (one:Bytes->Nat->Except Fault (α×Bytes×Nat)) (Rep:lZ α):Sp:=fun vs H Q E=>∃ (r:Addr) (x:AD),vs=[.ref r]/\dX K CR H r x /\
 lP CF x.w (one x.b x.p) (fun y=>∀ H' v,dX K CR H' r { x with b:=y.2.1,p:=y.2.2 }->i9 [r] H H'->Rep (fun b=>H b=none) H' v y.1->Q v H') E
def DL {α:Type} (K:PySem.W.Frag) (CR CF:Addr) (one:Nat×Nat->Bytes->Nat->Except Fault (α×Bytes×Nat)) (Rep:lZ α):Sp:=fun vs H Q E=>∃ (r p:Addr) (q:Nat×Nat) (x:AD),vs=[.ref r,.ref p]/\dX K CR H r x/\H p=some (.tup (vP q)) /\
 lP CF x.w (one q x.b x.p) (fun y=>∀ H' v,dX K CR H' r { x with b:=y.2.1,p:=y.2.2 }->i9 [r] H H'->Rep (fun b=>H b=none) H' v y.1->Q v H') E
section
variable {P:Program} {w:World} {K:PySem.W.Frag} {mg:Str->Option Value} {base:Heap} {t:Ad}
theorem i9.made {H H1:Hp} {o dx C:Addr} {S:List Addr} (nx:H o=none) (nd:H dx=none) (k:i9 [o] (upd (upd H dx (.own o)) o (.ins C dx [])) H1):i9 S H H1:=fun b u e n=>
 k b u (by rw [ak (aq e nx),ak (aq e nd)];exact e) (by simpa using aq e nx)
def PZ (K:PySem.W.Frag) (CR CF:Addr):Sp:=fun vs H Q E=>∃ (r:Addr) (x:AD),vs=[.ref r]/\dX K CR H r x/\lP CF x.w (need x.b.isEmpty 7 x.p) (fun _=>Q .non H) E
theorem ND:aL ["self"] ["self"] (aE iR):=⟨rfl,rfl,rfl,by decide +kernel,rfl,by decide +kernel,by decide +kernel⟩
theorem NF (T:Txt K mg t):bB P w K mg base (qD P w) 4 t.bH t.eN ["self"] (PZ K t.aA t.aF):=by
 have GF:=@mL P w K mg base t T
 obtain ⟨TM,g5⟩:=T.uC
 refine T.eX.Hu ND (fun vs H Q E h=>?_) (fun cdv A outer s H vs Q E hr h=>?_)
 . obtain ⟨r,x,rfl,_⟩:=h
   rfl
 . obtain ⟨r,x,rfl,R,bJ⟩:=h
   obtain ⟨dx,e0⟩:=R.obj
   refine ⟨_,aB (mw (eL HJ (aK (pv 0) rfl) (cA aW (by rfl) T.jk PySem.boot_len (af (aK (pv 0) rfl) ay)) (fD _))
       (aB (bV (b8 (pv 0) T.aH T.cT GF hr T.cR .nil fz (af (b5 rfl g5 (v:=.int 7) ⟨_,rfl⟩) (af (aK (pv 0) rfl) ay))))) gY),?_⟩
   have hf:=R.form.sq
   have QR:(vB x.B).length=x.B.length:=by simp [vB]
   have hlen:x.b.length=x.B.length - x.p:=by rw [R.rest,List.length_drop]
   have hle:=R.le
   refine ⟨_,rfl,r,_,dx,_,_,rfl,e0,T.aH,T.aY,rfl,?_⟩
   refine ⟨_,rfl,r,_,dx,_,_,rfl,e0,T.aH,T.dB,rfl,x.a,_,rfl,.inl hf,_,_,rfl,rfl,_,rfl,?_⟩
   rw [QR]
   refine BC (fun h=>?_) (fun h=>?_)
   . have h':(x.p:Int) < (x.B.length:Int):=of_decide_eq_true h
     have bad:need x.b.isEmpty 7 x.p=.error ⟨7,x.p⟩:=by
       cases hb:x.b with
       | nil=>rw [hb] at hlen;simp at hlen;omega
       | cons c b=>rfl
     rw [bad] at bJ
     refine ⟨_,rfl,r,dx,_,rfl,e0,rfl,_,rfl,r,_,dx,_,_,rfl,e0,T.aH,T.aY,rfl,?_⟩
     exact ⟨r,x.w,7,(x.p:Int),dx,_,rfl,e0,rfl,fun H' d' hF=>bJ H' d' hF⟩
   . have h':¬ (x.p:Int) < (x.B.length:Int):=fun z=>h (decide_eq_true z)
     have good:need x.b.isEmpty 7 x.p=.ok ():=by
       cases hb:x.b with
       | nil=>rfl
       | cons c b=>rw [hb] at hlen;simp at hlen;omega
     rw [good] at bJ
     exact bJ
def NG:Option (Nat×Nat)->List V
 | none=>[.int (-1),.int (-1)]
 | some q=>vP q
def EF (had:Option (Nat×Nat)) (a b:Nat):Bool:=match had with
 | some (u,w)=>decide (u < a)||(u==a&&decide (w < b))
 | none=>true
theorem NH (had:Option (Nat×Nat)) (a b:Nat):∃ ms:List Int,NG had=ms.map V.int/\HT.lexLe [(a:Int),(b:Int)] ms=!EF had a b:=by
 cases had with
 | none=>
   refine ⟨[-1,-1],rfl,?_⟩
   rw [HT.mW,if_neg (by omega),decide_eq_false (by omega)]
   rfl
 | some uw=>
   obtain ⟨u,w⟩:=uw
   refine ⟨[(u:Int),(w:Int)],rfl,?_⟩
   show _=!(decide (u < a)||(u==a&&decide (w < b)))
   rw [HT.mW]
   by_cases h1:(a:Int)=(u:Int)
   . rw [if_pos h1,HT.mW]
     have h1':u=a:=by omega
     by_cases h2:(b:Int)=(w:Int)
     . rw [if_pos h2,HT.yZ]
       have:w=b:=by omega
       simp [h1',this]
     . rw [if_neg h2]
       have e1:decide (u < a)=false:=decide_eq_false (by omega)
       have e2:(u==a)=true:=by simp [h1']
       rw [e1,e2,Bool.false_or,Bool.true_and]
       by_cases h3:w < b
       . rw [decide_eq_true h3,decide_eq_false (by omega)];rfl
       . rw [decide_eq_false h3,decide_eq_true (by omega)];rfl
   . rw [if_neg h1]
     have e2:(u==a)=false:=by simp;omega
     rw [e2,Bool.false_and,Bool.or_false]
     by_cases h3:u < a
     . rw [decide_eq_true h3,decide_eq_false (by omega)];rfl
     . rw [decide_eq_false h3,decide_eq_true (by omega)];rfl
def NI (K:PySem.W.Frag) (CR CF:Addr):Sp:=fun vs H Q E=>∃ (r p:Addr) (n:Nat) (had:Option (Nat×Nat)) (x:AD),vs=[.ref r,.int (n:Int),.ref p]/\dX K CR H r x/\H p=some (.tup (NG had)) /\
 lP CF x.w (JM.jO n had x.b x.p) (fun y=>∀ H' q,dX K CR H' r { x with b:=y.2.1,p:=y.2.2 }->i9 [r] H H'->H q=none->H' q=some (.tup (vP y.1))->Q (.ref q) H') E
theorem vK:aL ["self","n","before","start","a","b"] ["self","n","before"] (aE iJ):=⟨rfl,rfl,rfl,by decide +kernel,rfl,by decide +kernel,by decide +kernel⟩
theorem Lx (T:Txt K mg t):bB P w K mg base (qD P w) 6 t.bD t.dO ["self","n","before"] (NI K t.aA t.aF):=by
 have GF:=@mL P w K mg base t T
 have GB:=@nE P w K mg base t T
 obtain ⟨TQ,g3⟩:=T.sj
 refine T.dU.Hu vK (fun vs H Q E h=>?_) (fun cdv A outer s H vs Q E hr h=>?_)
 . obtain ⟨r,p,n,had,x,rfl,_⟩:=h
   rfl
 . obtain ⟨r,p,n,had,x,rfl,R,hp,bJ⟩:=h
   obtain ⟨d0,e0⟩:=R.obj
   have Gw:cK 3 _:=hr.mono (by decide)
   have pr:p ≠ r:=kg hp e0 (by intro z;cases z)
   refine ⟨_,au (aQ (i:=3) vK.nd rfl (Or.inl rfl) (aK (pv 0) rfl))
     (au (aQ (i:=4) vK.nd rfl (Or.inl rfl) (b8 (pv 0) T.aH T.aO GB hr T.aN .nil fz (af aM (af aM (af (fC oJ (pv 1) aM) ay)))))
     (au (aQ (i:=5) vK.nd rfl (Or.inl rfl) (b8 (pv 0) T.aH T.aO GB hr T.aN .nil fz (af aM (af (fC tH (pv 4) aM) (af (fC oJ (pv 1) aM) ay)))))
     (au (mw (eL (N1 hr.MZ) (oM (af (pv 4) (af (pv 5) ay))) (pv 2) (fD _))
       (aB (bV (b8 (pv 0) T.aH T.cT GF Gw T.cR .nil fz (af (b5 rfl g3 (v:=.int 3) ⟨_,rfl⟩) (af (pv 3) ay))))) gY)
     (aB (bA (oM (af (pv 4) (af (pv 5) ay)))))))),?_⟩
   refine ⟨_,rfl,r,_,d0,_,_,rfl,e0,T.aH,T.aY,rfl,?_⟩
   refine ⟨_,rfl,r,d0,_,rfl,e0,rfl,_,rfl,_,_,rfl,rfl,?_⟩
   refine ⟨r,1,0,(n:Int) - 1,_,rfl,R,.inl rfl,lP.good (g':=fun v=>decide (v < n)) (fun v=>by rw [Bool.eq_iff_iff];simp only [Bool.and_eq_true,decide_eq_true_eq];omega) (bJ.andThen'.mono fun y1 hy1 bJ H1 R1 F1=>?_)⟩
   obtain ⟨d1,e1⟩:=R1.obj
   refine ⟨_,rfl,r,d1,_,rfl,e1,rfl,_,rfl,_,_,rfl,rfl,_,rfl,_,_,rfl,rfl,?_⟩
   refine ⟨r,1,(y1.1:Int)+1,(n:Int) - 1,_,rfl,R1,.inl rfl,lP.good (g':=fun v=>decide (y1.1 < v)&&decide (v < n)) (fun v=>by rw [Bool.eq_iff_iff];simp only [Bool.and_eq_true,decide_eq_true_eq];omega) (bJ.andThen'.mono fun y2 Qa bJ H2 R2 F2=>?_)⟩
   obtain ⟨d2,e2⟩:=R2.obj
   have F:=F1.trans F2
   have hp2:=F p _ hp (by simpa using pr)
   refine ⟨_,rfl,_,rfl,(by show 2<=sizeLine;decide),fun q1 n1=>?_⟩
   obtain ⟨ms,hms,hle⟩:=NH had y1.1 y2.1
   refine ⟨_,rfl,q1,p,[(y1.1:Int),(y2.1:Int)],ms,rfl,rfl,mr.of ai,mr.of (by rw [ak (aq hp2 n1),<- hms];exact hp2),_,rfl,?_⟩
   rw [hle]
   have R3:=R2.laid (o:=.tup [.int (y1.1:Int),.int (y2.1:Int)]) n1
   obtain ⟨d3,e3⟩:=R3.obj
   have F3:i9 [r] H (upd H2 q1 (.tup [.int (y1.1:Int),.int (y2.1:Int)])):=F.trans (i9.laid n1)
   have bJ:lP t.aF x.w (need (EF had y1.1 y2.1) 3 x.p) _ E:=bJ.andThen'
   refine BC (fun h=>?_) (fun h=>?_)
   . have hc:EF had y1.1 y2.1=false:=by simpa using h
     rw [hc] at bJ
     refine ⟨_,rfl,r,d3,_,rfl,e3,rfl,_,rfl,?_⟩
     exact ⟨r,x.w,3,(x.p:Int),d3,_,rfl,e3,rfl,fun H' d' hF=>bJ H' d' hF⟩
   . have hc:EF had y1.1 y2.1=true:=by simpa using h
     rw [hc] at bJ
     refine ⟨_,rfl,_,rfl,(by show 2<=sizeLine;decide),fun q2 n2=>?_⟩
     exact bJ _ q2 (R3.laid n2) (F3.trans (i9.laid n2)) (F3.fresh e3 n2) ai
end
theorem dX.hand {K:PySem.W.Frag} {C:Addr} {H:Hp} {r:Addr} {x:AD} {z:Int} (R:dX K C H r x):dX K C (upd H x.hp (.lst (x.hps.map V.int++[.int z]))) r { x with hps:=x.hps++[z] }:=by
 obtain ⟨dx,e⟩:=R.obj
 have n1:r ≠ x.hp:=kg e R.hpl (by intro q;cases q)
 refine ⟨⟨dx,by rw [ak n1];exact e⟩,?_,by rw [ai];simp,by rw [ak (Ne.symm R.ne)];exact R.CZ,R.ne,R.rest,R.le,R.small⟩
 rcases R.form with ⟨o,h⟩ | h
 . exact .inl ⟨o,by rw [ak (Jg h R.hpl (fun _ _ q=>by cases q))];exact h⟩
 . exact .inr h
theorem dX.side {K:PySem.W.Frag} {C:Addr} {H:Hp} {r:Addr} {x:AD} {z:Int} (R:dX K C H r x):dX K C (upd H x.sp (.lst (x.Jf.map V.int++[.int z]))) r { x with Jf:=x.Jf++[z] }:=by
 obtain ⟨dx,e⟩:=R.obj
 have n1:r ≠ x.sp:=kg e R.CZ (by intro q;cases q)
 refine ⟨⟨dx,by rw [ak n1];exact e⟩,?_,by rw [ak R.ne];exact R.hpl,by rw [ai];simp,R.ne,R.rest,R.le,R.small⟩
 rcases R.form with ⟨o,h⟩ | h
 . exact .inl ⟨o,by rw [ak (Jg h R.CZ (fun _ _ q=>by cases q))];exact h⟩
 . exact .inr h
theorem Gx {α:Type} {one:Bytes->Nat->Except Fault (α×Bytes×Nat)} (k:Nat) (b:Bytes) (p:Nat) (pre:List α):Fk.andThen (JM.many one (k+1) b p) (fun l=>.ok (pre++l.1,l.2.1,l.2.2)) =
   Fk.andThen (one b p) fun x=>Fk.andThen (JM.many one k x.2.1 x.2.2) fun l=>.ok ((pre++[x.1])++l.1,l.2.1,l.2.2):=by
 rw [show JM.many one (k+1) b p=Fk.andThen (one b p) (fun x=>Fk.andThen (JM.many one k x.2.1 x.2.2) fun l=>.ok (x.1::l.1,l.2.1,l.2.2)) from rfl,JM.aU]
 congr 1
 funext x
 rw [JM.aU]
 congr 1
 funext l
 show Except.ok (pre++(x.1::l.1),l.2.1,l.2.2)=_
 rw [List.append_assoc]
 rfl
theorem DM {α:Type} {n:Nat} {one:Nat×Nat->Bytes->Nat->Except Fault (α×Bytes×Nat)} (k:Nat) (had:Option (Nat×Nat)) (b:Bytes) (p:Nat) (pre:List α):Fk.andThen (JM.gf n one (k+1) had b p) (fun l=>.ok (pre++l.1,l.2.1,l.2.2)) =
   Fk.andThen (JM.jO n had b p) fun q=>Fk.andThen (one q.1 q.2.1 q.2.2) fun x=>Fk.andThen (JM.gf n one k (some q.1) x.2.1 x.2.2) fun l=>.ok ((pre++[x.1])++l.1,l.2.1,l.2.2):=by
 rw [show JM.gf n one (k+1) had b p=Fk.andThen (JM.jO n had b p) (fun q=>Fk.andThen (one q.1 q.2.1 q.2.2) fun x=>Fk.andThen (JM.gf n one k (some q.1) x.2.1 x.2.2) fun l=>.ok (x.1::l.1,l.2.1,l.2.2)) from rfl,JM.aU]
 congr 1
 funext q
 rw [JM.aU]
 congr 1
 funext x
 rw [JM.aU]
 congr 1
 funext l
 show Except.ok (pre++(x.1::l.1),l.2.1,l.2.2)=_
 rw [List.append_assoc]
 rfl
theorem Cz {α:Type} (x:Except Fault (List α×Bytes×Nat)):(Fk.andThen x fun l=>Except.ok ([]++l.1,l.2.1,l.2.2))=x:=by cases x<;>rfl
section
variable {P:Program} {w:World} {K:PySem.W.Frag} {mg:Str->Option Value} {base:Heap} {t:Ad} {α:Type}
def EG (K:PySem.W.Frag) (CR CF f:Addr) (one:Bytes->Nat->Except Fault (α×Bytes×Nat)) (Rep:lZ α) (pl:α->Nat):Sp:=fun vs H Q E=>∃ (r:Addr) (n:Nat) (x:AD),vs=[.ref r,.int (n:Int),.ref f]/\dX K CR H r x/\n<=1000/\x.hps=[] /\
 lP CF x.w (JM.many one n x.b x.p) (fun y=>∀ H' la us,dX K CR H' r { x with b:=y.2.1,p:=y.2.2,hps:=y.1.map fun z=>(pl z:Int) }->i9 [r,x.hp] H H'->H la=none->H' la=some (.lst us)->
   bT Rep (fun b=>H b=none/\b ≠ la) H' us y.1->Q (.ref la) H') E
theorem xE:aL ["self","n","take_atom","atoms","k"] ["self","n","take_atom"] (aE i6):=⟨rfl,rfl,rfl,by decide +kernel,rfl,by decide +kernel,by decide +kernel⟩
theorem Jq (T:Txt K mg t) {kc:Nat} {f:Addr} {fd:FuncData} {one:Bytes->Nat->Except Fault (α×Bytes×Nat)} {Rep:lZ α} {pl:α->Nat} (ok:qW Rep) (hpl:∀ b p y,one b p=.ok y->(pl y.1:Int)=(y.2.2:Int) - 1)
   (G:bB P w K mg base (qD P w) kc f fd ["reader"] (Jp K t.aA t.aF one Rep)) (kp:PySem.W.keepIn K (.ref f)=true) (hb:Binds K fd ["reader"] []) :
   bB P w K mg base (qD P w) (kc+1) t.bg t.bZ ["self","n","take_atom"] (EG K t.aA t.aF f one Rep pl):=by
 refine T.dj.Hu xE (fun vs H Q E h=>?_) (fun cdv A outer s H vs Q E hr h=>?_)
 . obtain ⟨r,n,x,rfl,_⟩:=h
   rfl
 . obtain ⟨r,n,x,rfl,R,hn,FY,bJ⟩:=h
   refine ⟨_,au (aQ (i:=3) xE.nd rfl (Or.inl rfl) (gC ay))
     (au (fj FZ rfl (k9 rfl T.lM (af (pv 1) ay)) (bu (i:=4) xE.nd rfl (Or.inl rfl))
       (au (bV (nJ PySem.F.plainAttrs_list PySem.F.slot_list_append PySem.F.type_list_append fE (pv 3) (af (BJ (i:=2) G hr kp hb fz (af (pv 0) ay)) ay)))
       (aB (bV (nJ PySem.F.plainAttrs_list PySem.F.slot_list_append PySem.F.type_list_append fE (aK (pv 0) rfl) (af (fC oJ (aK (pv 0) rfl) aM) ay))))))
     (aB (bA (pv 3)))),?_⟩
   refine ⟨Nat.zero_le _,fun l hl=>?_⟩
   have R0:=R.laid (o:=.lst []) hl
   have rl:r ≠ l:=fun z=>by obtain ⟨d,e⟩:=R.obj;rw [<- z,e] at hl;cases hl
   have hpl':x.hp ≠ l:=aq R.hpl hl
   have Ly:x.sp ≠ l:=aq R.CZ hl
   refine ⟨_,rfl,(n:Int),rfl,by omega,by omega,?_⟩
   rw [Int.toNat_natCast]
   refine qj (n:=n) (fun i σ H'=>∃ (b:Bytes) (p:Nat) (v:Option V) (us:List V) (pre:List α),i<=n/\us.length=i/\σ=[some (.ref r),some (.int (n:Int)),some (.ref f),some (.ref l),v] /\
       dX K t.aA H' r { x with b:=b,p:=p,hps:=pre.map fun z=>(pl z:Int) }/\i9 [r,x.hp] H H'/\H' l=some (.lst us)/\bT Rep (fun b=>H b=none/\b ≠ l) H' us pre /\
       lP t.aF x.w (Fk.andThen (JM.many one (n - i) b p) fun l=>.ok (pre++l.1,l.2.1,l.2.2)) (fun y=>∀ H' la us,dX K t.aA H' r { x with b:=y.2.1,p:=y.2.2,hps:=y.1.map fun z=>(pl z:Int) }->i9 [r,x.hp] H H'->H la=none->H' la=some (.lst us)->
         bT Rep (fun b=>H b=none/\b ≠ la) H' us y.1->Q (.ref la) H') E)
     ⟨x.b,x.p,none,[],[],Nat.zero_le _,rfl,rfl,?_,i9.laid hl,ai,bT.nil,?_⟩ ?_ ?_
   . have:=R0
     rw [show x={ x with b:=x.b,p:=x.p,hps:=[] } by rw [<- FY]] at this
     exact this
   . rw [Nat.sub_zero,Cz];exact bJ
   . rintro i σ H' hi ⟨b,p,v,us,pre,hin,NJ,rfl,R2,F2,hl2,RS,bJ⟩
     obtain ⟨d2,e2⟩:=R2.obj
     rw [show n - i=(n - (i+1))+1 by omega,Gx] at bJ
     refine ⟨_,rfl,.inl ⟨rfl,_,bM.of hl2⟩,rfl,_,rfl,?_⟩
     refine ⟨r,_,rfl,R2,bJ.andThen'.mono fun y hy bJ H3 u R3 F3 rep=>?_⟩
     have hl3:H3 l=some (.lst us):=F3 l _ hl2 (by simpa using Ne.symm rl)
     obtain ⟨d3,e3⟩:=R3.obj
     refine ⟨l,us,u,rfl,rfl,hl3,(by rw [NJ,sizeLine_eq];omega),?_⟩
     have R4:=R3.wrote (o:=.lst (us++[u])) hl3 (Ne.symm rl) (Ne.symm hpl') (Ne.symm Ly) (fun _ _ z=>by cases z)
     obtain ⟨d4,e4⟩:=R4.obj
     refine ⟨_,rfl,r,_,d4,_,_,rfl,e4,T.aH,T.bP,rfl,.inl ⟨rfl,_,bM.of R4.hpl⟩,?_⟩
     refine ⟨_,rfl,r,_,d4,_,_,rfl,e4,T.aH,T.aY,rfl,_,_,rfl,rfl,?_⟩
     refine ⟨x.hp,_,_,rfl,rfl,R4.hpl,?_,?_⟩
     . have:=RS.len
       simp only [List.length_map]
       rw [sizeLine_eq]
       omega
     . have Si:=hpl _ _ _ hy
       have R5:=R4.hand (z:=((y.2.2:Nat):Int) - 1)
       refine ⟨y.2.1,y.2.2,some (.int (0+(i:Int))),us++[u],pre++[y.1],by omega,by simp [NJ],rfl,?_,?_,?_,?_,bJ⟩
       . rw [List.map_append,List.map_cons,List.map_nil,Si]
         exact R5
       . intro b' o e n'
         have n'':b' ≠ r/\b' ≠ x.hp:=by simpa using n'
         rw [ak n''.2,ak (aq e hl)]
         exact F3 b' o (F2 b' o e n') (by simpa using n''.1)
       . rw [ak (Ne.symm hpl'),ai]
       . have old:∀ b' o,(H b'=none/\b' ≠ l)->H' b'=some o->b' ≠ r/\b' ≠ x.hp/\b' ≠ l:=fun b' o d _=>by
           refine ⟨fun q=>?_,fun q=>?_,d.2⟩
           . obtain ⟨d',e'⟩:=R.obj;rw [q,e'] at d;cases d.1
           . have:=R.hpl;rw [<- q,d.1] at this;cases this
         refine (RS.stay ok fun b' o d h=>?_).snoc (ok.stay (ok.mono rep fun b' d=>?_) fun b' o d h=>?_)
         . obtain ⟨q1,q2,q3⟩:=old b' o d h
           rw [ak q2,ak q3]
           exact F3 b' o h (by simpa using q1)
         . refine ⟨?_,fun q=>by rw [q,hl2] at d;cases d⟩
           cases q:H b' with
           | none=>rfl
           | some o=>
             by_cases z1:b'=r
             . rw [z1,e2] at d;cases d
             . by_cases z2:b'=x.hp
               . have:=R2.hpl;rw [<- show b'=x.hp from z2,d] at this;cases this
               . rw [F2 b' o q (by simp [z1,z2])] at d;cases d
         . have q2:b' ≠ x.hp:=fun q=>by have:=R.hpl;rw [<- q,d.1] at this;cases this
           rw [ak q2,ak d.2]
           exact h
   . rintro σ H' ⟨b,p,v,us,pre,_,NJ,rfl,R2,F2,hl2,RS,bJ⟩
     rw [Nat.sub_self] at bJ
     have bJ:∀ H' la us,_:=bJ
     refine ⟨_,rfl,?_⟩
     have a2:=bJ H' l us (by rw [List.append_nil];exact R2) F2 hl hl2
     rw [List.append_nil] at a2
     exact a2 RS
def EH (K:PySem.W.Frag) (CR CF f:Addr) (one:Nat×Nat->Bytes->Nat->Except Fault (α×Bytes×Nat)) (Rep:lZ α) (pl:α->Nat):Sp:=fun vs H Q E=>∃ (r:Addr) (n m:Nat) (x:AD),vs=[.ref r,.int (n:Int),.int (m:Int),.ref f]/\dX K CR H r x/\m<=1000/\x.Jf=[] /\
 lP CF x.w (JM.gf n one m none x.b x.p) (fun y=>∀ H' la us,dX K CR H' r { x with b:=y.2.1,p:=y.2.2,Jf:=y.1.map fun z=>(pl z:Int) }->i9 [r,x.sp] H H'->H la=none->H' la=some (.lst us)->
   bT Rep (fun b=>H b=none/\b ≠ la) H' us y.1->Q (.ref la) H') E
theorem pR:aL ["self","n","m","take_bond","bonds","before","k"] ["self","n","m","take_bond"] (aE i7):=⟨rfl,rfl,rfl,by decide +kernel,rfl,by decide +kernel,by decide +kernel⟩
theorem Jr (T:Txt K mg t) {kc:Nat} (h6:6<=kc) {f:Addr} {fd:FuncData} {one:Nat×Nat->Bytes->Nat->Except Fault (α×Bytes×Nat)} {Rep:lZ α} {pl:α->Nat} (ok:qW Rep) (hpl:∀ q b p y,one q b p=.ok y->(pl y.1:Int)=(y.2.2:Int) - 1)
   (G:bB P w K mg base (qD P w) kc f fd ["reader","pair"] (DL K t.aA t.aF one Rep)) (kp:PySem.W.keepIn K (.ref f)=true) (hb:Binds K fd ["reader","pair"] []) :
   bB P w K mg base (qD P w) (kc+1) t.bh t.cg ["self","n","m","take_bond"] (EH K t.aA t.aF f one Rep pl):=by
 have GP:=@Lx P w K mg base t T
 refine T.dw.Hu pR (fun vs H Q E h=>?_) (fun cdv A outer s H vs Q E hr h=>?_)
 . obtain ⟨r,n,m,x,rfl,_⟩:=h
   rfl
 . obtain ⟨r,n,m,x,rfl,R,hn,FY,bJ⟩:=h
   have Sj:cK 6 _:=hr.mono h6
   refine ⟨_,au (aQ (i:=4) pR.nd rfl (Or.inl rfl) (gC ay))
     (au (aQ (i:=5) pR.nd rfl (Or.inl rfl) (oM (af (wu rg aM) (af (wu rg aM) ay))))
     (au (fj FZ rfl (k9 rfl T.lM (af (pv 2) ay)) (bu (i:=6) pR.nd rfl (Or.inl rfl))
       (au (aQ (i:=5) pR.nd rfl (Or.inl rfl) (b8 (pv 0) T.aH T.kQ GP Sj T.kM .nil fz (af (pv 1) (af (pv 5) ay))))
       (au (bV (nJ PySem.F.plainAttrs_list PySem.F.slot_list_append PySem.F.type_list_append fE (pv 4) (af (BJ (i:=3) G hr kp hb fz (af (pv 0) (af (pv 5) ay))) ay)))
       (aB (bV (nJ PySem.F.plainAttrs_list PySem.F.slot_list_append PySem.F.type_list_append fE (aK (pv 0) rfl) (af (fC oJ (aK (pv 0) rfl) aM) ay)))))))
     (aB (bA (pv 4))))),?_⟩
   refine ⟨Nat.zero_le _,fun l hl=>?_⟩
   have R0:=R.laid (o:=.lst []) hl
   have rl:r ≠ l:=fun z=>by obtain ⟨d,e⟩:=R.obj;rw [<- z,e] at hl;cases hl
   have hpl':x.hp ≠ l:=aq R.hpl hl
   have Ly:x.sp ≠ l:=aq R.CZ hl
   refine ⟨1,rfl,1,rfl,(by show 2<=sizeLine;decide),fun q0 Sk=>?_⟩
   have R1:=R0.laid (o:=.tup [.int (-1),.int (-1)]) Sk
   have lq:l ≠ q0:=aq ai Sk
   refine ⟨_,rfl,(m:Int),rfl,by omega,by omega,?_⟩
   rw [Int.toNat_natCast]
   refine qj (n:=m) (fun i σ H'=>∃ (had:Option (Nat×Nat)) (qa:Addr) (b:Bytes) (p:Nat) (v:Option V) (us:List V) (pre:List α),i<=m/\us.length=i/\σ=[some (.ref r),some (.int (n:Int)),some (.int (m:Int)),some (.ref f),some (.ref l),some (.ref qa),v] /\
       dX K t.aA H' r { x with b:=b,p:=p,Jf:=pre.map fun z=>(pl z:Int) }/\i9 [r,x.sp] H H'/\H' l=some (.lst us)/\H' qa=some (.tup (NG had))/\bT Rep (fun b=>H b=none/\b ≠ l) H' us pre /\
       lP t.aF x.w (Fk.andThen (JM.gf n one (m - i) had b p) fun l=>.ok (pre++l.1,l.2.1,l.2.2)) (fun y=>∀ H' la us,dX K t.aA H' r { x with b:=y.2.1,p:=y.2.2,Jf:=y.1.map fun z=>(pl z:Int) }->i9 [r,x.sp] H H'->H la=none->H' la=some (.lst us)->
         bT Rep (fun b=>H b=none/\b ≠ la) H' us y.1->Q (.ref la) H') E)
     ⟨none,q0,x.b,x.p,none,[],[],Nat.zero_le _,rfl,rfl,?_,(i9.laid hl).trans (i9.laid Sk),by rw [ak lq,ai],ai,bT.nil,?_⟩ ?_ ?_
   . have:=R1
     rw [show x={ x with b:=x.b,p:=x.p,Jf:=[] } by rw [<- FY]] at this
     exact this
   . rw [Nat.sub_zero,Cz];exact bJ
   . rintro i σ H' hi ⟨had,qa,b,p,v,us,pre,hin,NJ,rfl,R2,F2,hl2,TR,RS,bJ⟩
     obtain ⟨d2,e2⟩:=R2.obj
     rw [show m - i=(m - (i+1))+1 by omega,DM] at bJ
     refine ⟨_,rfl,r,d2,_,rfl,e2,rfl,_,rfl,_,rfl,?_⟩
     refine ⟨r,qa,n,had,_,rfl,R2,TR,bJ.andThen'.mono fun q hq bJ H3 qb R3 F3 nq Mx=>?_⟩
     have hl3:H3 l=some (.lst us):=F3 l _ hl2 (by simpa using Ne.symm rl)
     obtain ⟨d3,e3⟩:=R3.obj
     refine ⟨_,rfl,.inl ⟨rfl,_,bM.of hl3⟩,rfl,_,rfl,_,rfl,?_⟩
     refine ⟨r,qb,q.1,_,rfl,R3,Mx,bJ.andThen'.mono fun y hy bJ H4 u R4 F4 rep=>?_⟩
     have Sl:H4 l=some (.lst us):=F4 l _ hl3 (by simpa using Ne.symm rl)
     have VA:qb ≠ r:=kg Mx e3 (by intro z;cases z)
     have NK:=F4 qb _ Mx (by simpa using VA)
     have VB:qb ≠ l:=kg NK Sl (by intro z;cases z)
     refine ⟨l,us,u,rfl,rfl,Sl,(by rw [NJ,sizeLine_eq];omega),?_⟩
     have R5:=R4.wrote (o:=.lst (us++[u])) Sl (Ne.symm rl) (Ne.symm hpl') (Ne.symm Ly) (fun _ _ z=>by cases z)
     obtain ⟨d5,e5⟩:=R5.obj
     refine ⟨_,rfl,r,_,d5,_,_,rfl,e5,T.aH,T.bQ,rfl,.inl ⟨rfl,_,bM.of R5.CZ⟩,?_⟩
     refine ⟨_,rfl,r,_,d5,_,_,rfl,e5,T.aH,T.aY,rfl,_,_,rfl,rfl,?_⟩
     refine ⟨x.sp,_,_,rfl,rfl,R5.CZ,?_,?_⟩
     . have:=RS.len
       simp only [List.length_map]
       rw [sizeLine_eq]
       omega
     . have Si:=hpl _ _ _ _ hy
       have R6:=R5.side (z:=((y.2.2:Nat):Int) - 1)
       have VC:qb ≠ x.sp:=fun z=>by have h9:=R4.CZ;rw [<- show qb=x.sp from z,NK] at h9;cases h9
       have TU:i9 [r] H' H4:=F3.trans F4
       refine ⟨some q.1,qb,y.2.1,y.2.2,some (.int (0+(i:Int))),us++[u],pre++[y.1],by omega,by simp [NJ],rfl,?_,?_,?_,?_,?_,bJ⟩
       . rw [List.map_append,List.map_cons,List.map_nil,Si]
         exact R6
       . intro b' o e n'
         have n'':b' ≠ r/\b' ≠ x.sp:=by simpa using n'
         rw [ak n''.2,ak (aq e hl)]
         exact TU b' o (F2 b' o e n') (by simpa using n''.1)
       . rw [ak (Ne.symm Ly),ai]
       . rw [ak VC,ak VB];exact NK
       . have old:∀ b' o,(H b'=none/\b' ≠ l)->H' b'=some o->b' ≠ r/\b' ≠ x.sp/\b' ≠ l:=fun b' o d _=>by
           refine ⟨fun q=>?_,fun q=>?_,d.2⟩
           . obtain ⟨d',e'⟩:=R.obj;rw [q,e'] at d;cases d.1
           . have:=R.CZ;rw [<- q,d.1] at this;cases this
         refine (RS.stay ok fun b' o d h=>?_).snoc (ok.stay (ok.mono rep fun b' d=>?_) fun b' o d h=>?_)
         . obtain ⟨q1,q2,q3⟩:=old b' o d h
           rw [ak q2,ak q3]
           exact TU b' o h (by simpa using q1)
         . refine ⟨?_,fun q=>by rw [q,hl3] at d;cases d⟩
           have d':H' b'=none:=F3.fresh e3 d
           cases q:H b' with
           | none=>rfl
           | some o=>
             by_cases z1:b'=r
             . rw [z1,e2] at d';cases d'
             . by_cases z2:b'=x.sp
               . have:=R2.CZ;rw [<- show b'=x.sp from z2,d'] at this;cases this
               . rw [F2 b' o q (by simp [z1,z2])] at d';cases d'
         . have q2:b' ≠ x.sp:=fun q=>by have:=R.CZ;rw [<- q,d.1] at this;cases this
           rw [ak q2,ak d.2]
           exact h
   . rintro σ H' ⟨had,qa,b,p,v,us,pre,_,NJ,rfl,R2,F2,hl2,TR,RS,bJ⟩
     rw [Nat.sub_self] at bJ
     have bJ:∀ H' la us,_:=bJ
     refine ⟨_,rfl,?_⟩
     have a2:=bJ H' l us (by rw [List.append_nil];exact R2) F2 hl hl2
     rw [List.append_nil] at a2
     exact a2 RS
end
def mh (K:PySem.W.Frag) (H:Hp) (v:V) (q:Nat×Nat):Prop:=∃ o C dx fs,v=.ref o/\H o=some (.ins C dx fs)/\yL K C/\bx K C "a"/\bx K C "b"/\fs.lookup ("a":Str)=some (V.int (q.1:Int))/\fs.lookup ("b":Str)=some (V.int (q.2:Int))
structure gE (H:Hp) (lr:Addr) (rs:List Addr) (n:Nat) (row:Nat->List Nat):Prop where
 lst:H lr=some (.lst (rs.map V.ref))
 len:rs.length=n
 nd:rs.Nodup
 out:lr ∉ rs
 at_:∀ v a,rs[v]?=some a->H a=some (.lst (vN (row v)))
theorem Gy (l:List (Nat×Nat)) (q:Nat×Nat) (v:Nat):JM.f6 (l++[q]) v=JM.f6 l v++(if q.1=v then [q.2] else if q.2=v then [q.1] else []):=by
 unfold JM.f6
 rw [List.filterMap_append]
 congr 1
 unfold JM.oW
 by_cases h1:q.1=v
 . simp [h1]
 . by_cases h2:q.2=v<;>simp [h1,h2]
theorem take_snoc {α:Type}:∀ {l:List α} {i:Nat} {x:α},l[i]?=some x->l.take (i+1)=l.take i++[x]
 | [],i,x,h=>by simp at h
 | a::l,0,x,h=>by
   have e:a=x:=Option.some.inj h
   subst e
   rfl
 | a::l,i+1,x,h=>by
   have ih:=take_snoc (l:=l) (i:=i) (x:=x) h
   show a::l.take (i+1)=a::l.take i++[x]
   rw [ih]
   rfl
theorem xF (l:List (Nat×Nat)) (v:Nat):(JM.f6 l v).length<=l.length:=List.length_filterMap_le _ _
section
variable {P:Program} {w:World} {K:PySem.W.Frag} {mg:Str->Option Value} {base:Heap} {t:Ad}
def NL (K:PySem.W.Frag):Sp:=fun vs H Q _=>∃ (n:Nat) (lb:Addr) (us:List V) (l:List (Nat×Nat)),vs=[.int (n:Int),.ref lb]/\n<=1000/\l.length<=1000/\H lb=some (.lst us)/\us.length=l.length/\(∀ (i:Nat) v q,us[i]?=some v->l[i]?=some q->mh K H v q) /\
 (∀ q ∈ l,q.1 < q.2/\q.2 < n)/\∀ H' lr rs,aR H H'->H lr=none->(∀ a ∈ rs,H a=none)->gE H' lr rs n (JM.f6 l)->Q (.ref lr) H'
theorem vL:aL ["n","bonds","rows","bond","k"] ["n","bonds"] (aE jt):=⟨rfl,rfl,rfl,by decide +kernel,rfl,by decide +kernel,by decide +kernel⟩
theorem gE.push {H:Hp} {lr:Addr} {rs:List Addr} {n v:Nat} {a:Addr} {row:Nat->List Nat} {u:Nat} (R:gE H lr rs n row) (ha:rs[v]?=some a) :
   gE (upd H a (.lst (vN (row v)++[.int (u:Int)]))) lr rs n (fun x=>if x=v then row x++[u] else row x):=by
 have z:lr ≠ a:=fun q=>R.out (q ▸ List.mem_of_getElem? ha)
 refine ⟨by rw [ak z];exact R.lst,R.len,R.nd,R.out,fun x b hb=>?_⟩
 by_cases hx:x=v
 . subst hx
   rw [ha] at hb
   cases hb
   rw [ai,if_pos rfl]
   simp [vN]
 . have:b ≠ a:=fun q=>hx (PF R.nd hb (q ▸ ha))
   rw [ak this,if_neg hx]
   exact R.at_ x b hb
theorem gE.eq {H:Hp} {lr:Addr} {rs:List Addr} {n:Nat} {row row':Nat->List Nat} (R:gE H lr rs n row) (h:∀ v,v < n->row v=row' v):gE H lr rs n row':=
 ⟨R.lst,R.len,R.nd,R.out,fun v a ha=>by
   have:=R.at_ v a ha
   rw [h v (by rw [<- R.len];exact (List.getElem?_eq_some_iff.mp ha).1)] at this
   exact this⟩
theorem Lz (T:Txt K mg t):bB P w K mg base lS 1 t.cG t.fG ["n","bonds"] (NL K):=by
 refine T.dG.ok vL (fun vs H Q E h=>?_) (fun cdv A outer s H vs Q E hr h=>?_)
 . obtain ⟨n,lb,us,l,rfl,_⟩:=h
   rfl
 . obtain ⟨n,lb,us,l,rfl,hn,hl,hlb,hlen,C0,hbd,k⟩:=h
   refine ⟨_,au (wG (i:=2) rfl vL.nd rfl rfl rfl (k9 rfl T.lM (af (pv 0) ay)) (m5 (own:=[("k",4)]) rfl) (fun _ _ _ _ _=>bu (i:=4) vL.nd rfl (Or.inl rfl)) (fun _ _ _ _ _=>Ep) (fun _ _ _ _ _=>gC ay))
     (au (fj PassesOwn.never rfl (iQ (pv 1)) (bu (i:=3) vL.nd rfl (Or.inl rfl))
       (au (bV (nJ PySem.F.plainAttrs_list PySem.F.slot_list_append PySem.F.type_list_append fE (dM bF (pv 2) (aK (pv 3) rfl) (fun _ _=>rfl)) (af (aK (pv 3) rfl) ay)))
       (aB (bV (nJ PySem.F.plainAttrs_list PySem.F.slot_list_append PySem.F.type_list_append fE (dM bF (pv 2) (aK (pv 3) rfl) (fun _ _=>rfl)) (af (aK (pv 3) rfl) ay))))))
     (aB (bA (pv 2)))),?_⟩
   refine ⟨_,rfl,(n:Int),rfl,by omega,by omega,?_⟩
   rw [Int.toNat_natCast]
   intro D hD
   refine By (n:=n) (fun i H'=>∃ rs:List Addr,rs.length=i/\rs.Nodup/\D ∉ rs/\(∀ a ∈ rs,H a=none)/\aR H H'/\H' D=some (.lst (rs.map V.ref))/\∀ a ∈ rs,H' a=some (.lst []))
     ⟨[],rfl,List.nodup_nil,by simp,by simp,fun b o e=>by rw [ak (aq e hD)];exact e,ai,by simp⟩ ?_ ?_
   . rintro i H' hi ⟨rs,hrs,nd,O7,hn0,sm,hD',hem⟩
     refine ⟨rfl,Nat.zero_le _,fun a ha=>⟨rs.map V.ref,?_,?_,rs++[a],?_,?_,?_,?_,?_,?_,?_⟩⟩
     . rw [ak (aq hD' ha)];exact hD'
     . simp only [List.length_map,hrs];rw [sizeLine_eq];omega
     . simp [hrs]
     . exact E2 nd fun m=>by rw [hem a m] at ha;cases ha
     . simp only [List.mem_append,List.mem_singleton,not_or]
       exact ⟨O7,aq hD' ha⟩
     . intro b hb
       rcases List.mem_append.mp hb with m | m
       . exact hn0 b m
       . rw [List.mem_singleton.mp m];exact sm.free ha
     . intro b o e
       rw [ak (aq e hD),ak (aq (sm b o e) ha)]
       exact sm b o e
     . rw [ai];simp
     . intro b hb
       rcases List.mem_append.mp hb with m | m
       . have nb:b ≠ a:=fun q=>by rw [<- q,hem b m] at ha;cases ha
         have nD:b ≠ D:=fun q=>O7 (q ▸ m)
         rw [ak nD,ak nb]
         exact hem b m
       . have e:=List.mem_singleton.mp m
         have nD:a ≠ D:=fun q=>by rw [q,hD'] at ha;cases ha
         rw [e,ak nD,ai]
   . rintro H1 ⟨rs,hrs,nd,O7,hn0,sm,hD',hem⟩
     have R0:gE H1 D rs n (JM.f6 (l.take 0)):=⟨hD',hrs,nd,O7,fun v a ha=>hem a (List.mem_of_getElem? ha)⟩
     refine ⟨_,rfl,lb,rfl,⟨_,bM.of (sm _ _ hlb)⟩,kE (K:=K) (a:=lb) (xs:=us) (fun i σ H'=>∃ v:Option V,σ=[some (.int (n:Int)),some (.ref lb),some (.ref D),v,none]/\aR H H'/\gE H' D rs n (JM.f6 (l.take i)))
       ⟨none,rfl,sm,R0⟩ (fun i σ H' _ ⟨_,_,s5,_⟩=>bM.of (s5 _ _ hlb)) ?_ ?_⟩
     . rintro i y σ H' hi ⟨v,rfl,s5,R⟩
       have hil:i < l.length:=by rw [<- hlen];exact (List.getElem?_eq_some_iff.mp hi).1
       obtain ⟨q,hq⟩:∃ q,l[i]?=some q:=⟨_,List.getElem?_eq_getElem hil⟩
       obtain ⟨o,C,dx,fs,rfl,ho,cl,na,nb,la,lb'⟩:=C0 i y q hi hq
       obtain ⟨hq1,hq2⟩:=hbd q (List.mem_of_getElem? hq)
       obtain ⟨ra,Dc⟩:∃ ra,rs[q.1]?=some ra:=⟨_,List.getElem?_eq_getElem (by omega)⟩
       obtain ⟨rb,hrb⟩:∃ rb,rs[q.2]?=some rb:=⟨_,List.getElem?_eq_getElem (by omega)⟩
       have ho':=s5 _ _ ho
       have e1:(rs.map V.ref)[q.1]?=some (V.ref ra):=by rw [List.getElem?_map,Dc];rfl
       have e2:(rs.map V.ref)[q.2]?=some (V.ref rb):=by rw [List.getElem?_map,hrb];rfl
       have hA:=R.at_ _ _ Dc
       have oa:o ≠ ra:=kg ho' hA (by intro z;cases z)
       have R1:=R.push (u:=q.2) Dc
       have Sm:(vN (JM.f6 (l.take i) q.1)).length < sizeLine:=by
         have:=xF (l.take i) q.1
         simp only [vN,List.length_map,List.length_take] at this ⊢
         rw [sizeLine_eq]
         omega
       refine ⟨_,rfl,_,rfl,o,C,dx,fs,_,rfl,ho',cl,na,la,D,_,_,_,rfl,rfl,bM.of R.lst,bK e1,.inl ⟨rfl,_,bM.of hA⟩,?_⟩
       refine ⟨_,rfl,o,C,dx,fs,_,rfl,ho',cl,nb,lb',ra,_,_,rfl,rfl,hA,Sm,?_⟩
       have hB:=R1.at_ _ _ hrb
       have ho2:upd H' ra (.lst (vN (JM.f6 (l.take i) q.1)++[.int (q.2:Int)])) o=some (.ins C dx fs):=by rw [ak oa];exact ho'
       have Sn:(vN (if q.2=q.1 then JM.f6 (l.take i) q.2++[q.2] else JM.f6 (l.take i) q.2)).length < sizeLine:=by
         rw [if_neg (by omega)]
         have:=xF (l.take i) q.2
         simp only [vN,List.length_map,List.length_take] at this ⊢
         rw [sizeLine_eq]
         omega
       have R2:=R1.push (u:=q.1) hrb
       refine ⟨_,rfl,_,rfl,o,C,dx,fs,_,rfl,ho2,cl,nb,lb',D,_,_,_,rfl,rfl,bM.of R1.lst,bK e2,.inl ⟨rfl,_,bM.of hB⟩,?_⟩
       refine ⟨_,rfl,o,C,dx,fs,_,rfl,ho2,cl,na,la,rb,_,_,rfl,rfl,hB,Sn,?_⟩
       refine ⟨_,rfl,fun b u e=>?_,R2.eq fun v hv=>?_⟩
       . have za:b ≠ ra:=fun z=>by rw [z,hn0 ra (List.mem_of_getElem? Dc)] at e;cases e
         have zb:b ≠ rb:=fun z=>by rw [z,hn0 rb (List.mem_of_getElem? hrb)] at e;cases e
         rw [ak zb,ak za]
         exact s5 b u e
       . rw [take_snoc hq,Gy]
         by_cases z1:q.1=v
         . subst z1
           rw [if_neg (by omega),if_pos rfl,if_pos rfl]
         . by_cases z2:q.2=v
           . subst z2
             rw [if_pos rfl,if_neg (Ne.symm z1),if_neg z1,if_pos rfl]
           . rw [if_neg (Ne.symm z2),if_neg (Ne.symm z1),if_neg z1,if_neg z2,List.append_nil]
     . rintro σ H' ⟨v,rfl,s5,R⟩
       rw [hlen,List.take_length] at R
       exact ⟨_,rfl,k H' D rs s5 hD hn0 R⟩
end
def QS (la lb lr:Addr):List (Str×V):=[("atoms",.ref la),("bonds",.ref lb),("neighbours",.ref lr)]
structure Qc (C:Addr) (H:Hp) (g la lb lr:Addr) (as us:List V) (rs:List Addr) (l:List (Nat×Nat)):Prop where
 obj:∃ dx,H g=some (.ins C dx (QS la lb lr))
 atoms:H la=some (.lst as)
 bonds:H lb=some (.lst us)
 rows:gE H lr rs as.length (JM.f6 l)
theorem gE.stay {H H':Hp} {lr:Addr} {rs:List Addr} {n:Nat} {row:Nat->List Nat} (R:gE H lr rs n row) (f:∀ b o,H b=some o->(b=lr\/b ∈ rs)->H' b=some o):gE H' lr rs n row:=
 ⟨f _ _ R.lst (.inl rfl),R.len,R.nd,R.out,fun v a ha=>f _ _ (R.at_ v a ha) (.inr (List.mem_of_getElem? ha))⟩
theorem aR.PU {S:List Addr} {H H':Hp} (s:aR H H'):i9 S H H':=fun b o e _=>s b o e
section
variable {P:Program} {w:World} {K:PySem.W.Frag} {mg:Str->Option Value} {base:Heap} {t:Ad}
def AF (K:PySem.W.Frag) (C:Addr):Sp:=fun vs H Q _=>∃ (o dx la lb:Addr) (as us:List V) (l:List (Nat×Nat)),vs=[.ref o,.ref la,.ref lb]/\H o=some (.ins C dx [])/\H la=some (.lst as)/\H lb=some (.lst us)/\as.length<=1000/\l.length<=1000/\us.length=l.length /\
 (∀ (i:Nat) v q,us[i]?=some v->l[i]?=some q->mh K H v q/\v ≠ .ref o)/\(∀ q ∈ l,q.1 < q.2/\q.2 < as.length)/\∀ H' lr rs,Qc C H' o la lb lr as us rs l->i9 [o] H H'->Q .non H'
theorem Js:aL ["self","atoms","bonds"] ["self","atoms","bonds"] (aE mY):=⟨rfl,rfl,rfl,by decide +kernel,rfl,by decide +kernel,by decide +kernel⟩
theorem C1 (T:Txt K mg t) {C:Addr} (cl:yL K C) (n1:bx K C "atoms") (n2:bx K C "bonds") (n3:bx K C "neighbours"):bB P w K mg base lS 2 t.bL t.fR ["self","atoms","bonds"] (AF K C):=by
 have GR:=@Lz P w K mg base t T
 refine T.ja.ok Js (fun vs H Q E h=>?_) (fun cdv A outer s H vs Q E hr h=>?_)
 . obtain ⟨o,dx,la,lb,as,us,l,rfl,_⟩:=h
   rfl
 . obtain ⟨o,dx,la,lb,as,us,l,rfl,h0,ha,hb,hn,hl,hlen,C0,hbd,k⟩:=h
   refine ⟨_,au (e7 (pv 0) (pv 1) rfl) (au (e7 (pv 0) (pv 2) rfl) (aB (e7 (pv 0) (bE GR hr rfl T.mF T.dG.kp T.mD .nil cB (af (cA aW (by rfl) T.jk PySem.boot_len (af (pv 1) ay)) (af (pv 2) ay))) rfl))),?_⟩
   have ao:la ≠ o:=kg ha h0 (by intro z;cases z)
   have bo:lb ≠ o:=kg hb h0 (by intro z;cases z)
   refine ⟨_,rfl,_,rfl,o,C,dx,_,rfl,h0,cl,n1,(by show 0 < 1000;decide),?_⟩
   refine ⟨_,rfl,_,rfl,o,C,dx,_,rfl,ai,cl,n2,(by show 1 < 1000;decide),?_⟩
   rw [lA]
   have keep:∀ b u,H b=some u->b ≠ o->upd H o (.ins C dx (eu "bonds" (.ref lb) (eu "atoms" (.ref la) []))) b=some u:=fun b u e n=>by rw [ak n];exact e
   refine ⟨_,rfl,la,_,rfl,.inl (bM.of (keep _ _ ha ao)),_,rfl,?_⟩
   refine ⟨as.length,lb,us,l,rfl,hn,hl,keep _ _ hb bo,hlen,fun i v q h1 h2=>?_,hbd,fun H1 lr rs sm TV VD R=>?_⟩
   . obtain ⟨⟨o',C',dx',fs,rfl,e1,e2⟩,ne⟩:=C0 i v q h1 h2
     exact ⟨o',C',dx',fs,rfl,keep _ _ e1 (fun z=>ne (by rw [z])),e2⟩
   . have e1:=sm o _ ai
     refine ⟨_,rfl,o,C,dx,_,rfl,e1,cl,n3,(by show 2 < 1000;decide),?_⟩
     have F:i9 [o] H (upd H1 o (.ins C dx (eu "neighbours" (.ref lr) (eu "bonds" (.ref lb) (eu "atoms" (.ref la) []))))):=fun b u e n=>by
       have nb:b ≠ o:=by simpa using n
       rw [ak nb]
       exact sm b u (keep b u e nb)
     refine k _ lr rs ⟨⟨dx,ai⟩,F _ _ ha (by simpa using ao),F _ _ hb (by simpa using bo),R.stay fun b u e hb'=>?_⟩ F
     have nb:b ≠ o:=by
       rcases hb' with z | z
       . intro q;rw [<- z,q,ai] at TV;cases TV
       . intro q;have:=VD b z;rw [q,ai] at this;cases this
     rw [ak nb]
     exact e
def sR {α β:Type} (M:Bytes) (C3:Bytes->Nat->Except Fault (α×Bytes×Nat)) (AG:Nat×Nat->Bytes->Nat->Except Fault (β×Bytes×Nat)) (b:Bytes) (p:Nat):Except Fault (List α×List β):=
 Fk.andThen (JM.iH M b p) fun m=>
 Fk.andThen (numIn 1 (fun v=>decide (v<=Fk.ATOMS)) m.1 m.2) fun n=>
 Fk.andThen (numIn 1 (fun v=>decide (v<=Fk.BONDS)) n.2.1 n.2.2) fun k=>
 Fk.andThen (JM.many C3 n.1 k.2.1 k.2.2) fun x=>
 Fk.andThen (JM.gf n.1 AG k.1 none x.2.1 x.2.2) fun y=>
 Fk.andThen (need y.2.1.isEmpty 7 y.2.2) fun _=>.ok (x.1,y.1)
def EI {α β:Type} (K:PySem.W.Frag) (CR CF CG f1 f2:Addr) (C3:Bytes->Nat->Except Fault (α×Bytes×Nat)) (AG:Nat×Nat->Bytes->Nat->Except Fault (β×Bytes×Nat)) (RA:lZ α) (RB:lZ β) (Qe:α->Nat) (Qg:β->Nat) (ends:β->Nat×Nat):Sp:=
 fun vs H Q E=>∃ (r m:Addr) (M:Bytes) (x:AD),vs=[.ref r,.ref m,.ref f1,.ref f2]/\dX K CR H r x/\x.hps=[]/\x.Jf=[]/\(∀ H,mr K H m (vB M)) /\
   lP CF x.w (sR M C3 AG x.b x.p) (fun y=>∀ H' g la lb lr as us rs b p,dX K CR H' r { x with b:=b,p:=p,hps:=y.1.map fun z=>(Qe z:Int),Jf:=y.2.map fun z=>(Qg z:Int) }->i9 [r,x.hp,x.sp] H H'->
     Qc CG H' g la lb lr as us rs (y.2.map ends)->bT RA (fun b=>H b=none) H' as y.1->bT RB (fun b=>H b=none) H' us y.2->JM.oV as.length (y.2.map ends)->Q (.ref g) H') E
theorem pS:aL ["reader","mark","take_atom","take_bond","n","m","atoms","bonds"] ["reader","mark","take_atom","take_bond"] (aE ng):=⟨rfl,rfl,rfl,by decide +kernel,rfl,by decide +kernel,by decide +kernel⟩
theorem Jt (T:Txt K mg t) {α β:Type} {f1 f2:Addr} {TX TY:FuncData} {C3:Bytes->Nat->Except Fault (α×Bytes×Nat)} {AG:Nat×Nat->Bytes->Nat->Except Fault (β×Bytes×Nat)} {RA:lZ α} {RB:lZ β} {Qe:α->Nat} {Qg:β->Nat} {ends:β->Nat×Nat}
   (Qh:qW RA) (Pj:qW RB) (So:∀ b p y,C3 b p=.ok y->(Qe y.1:Int)=(y.2.2:Int) - 1) (Sq:∀ q b p y,AG q b p=.ok y->(Qg y.1:Int)=(y.2.2:Int) - 1) (C0:∀ q b p x,AG q b p=.ok x->ends x.1=q)
   (hE:∀ {D:Addr->Prop} {H:Hp} {v:V} {z:β},RB D H v z->∃ o,v=.ref o/\D o/\mh K H v (ends z))
   (G1:bB P w K mg base (qD P w) 7 f1 TX ["reader"] (Jp K t.aA t.aF C3 RA)) (VE:PySem.W.keepIn K (.ref f1)=true) (hb1:Binds K TX ["reader"] [])
   (G2:bB P w K mg base (qD P w) 7 f2 TY ["reader","pair"] (DL K t.aA t.aF AG RB)) (VF:PySem.W.keepIn K (.ref f2)=true) (hb2:Binds K TY ["reader","pair"] []) :
   bB P w K mg base (qD P w) 9 t.eT t.ia ["reader","mark","take_atom","take_bond"] (EI K t.aA t.aF t.b9 f1 f2 C3 AG RA RB Qe Qg ends):=by
 have GM:=@Lw P w K mg base t T
 have GB:=@nE P w K mg base t T
 have GA:bB P w K mg base (qD P w) 8 t.bg t.bZ ["self","n","take_atom"] (EG K t.aA t.aF f1 C3 RA Qe):=Jq T Qh So G1 VE hb1
 have GO:bB P w K mg base (qD P w) 8 t.bh t.cg ["self","n","m","take_bond"] (EH K t.aA t.aF f2 AG RB Qg):=Jr T (by decide) Pj Sq G2 VF hb2
 have GE:=@NF P w K mg base t T
 have GI:bB P w K mg base lS 2 t.bL t.fR ["self","atoms","bonds"] (AF K t.b9):=C1 T T.vJ T.iE T.iF T.fZ
 obtain ⟨OA,g1⟩:=T.su
 obtain ⟨PY,g2⟩:=T.sy
 refine T.ic.Hu pS (fun vs H Q E h=>?_) (fun cdv A outer s H vs Q E hr h=>?_)
 . obtain ⟨r,m,M,x,rfl,_⟩:=h
   rfl
 . obtain ⟨r,m,M,x,rfl,R,QT,Hv,hM,bJ⟩:=h
   have Sj:cK 6 _:=hr.mono (by decide)
   have Kf:cK 5 _:=hr.mono (by decide)
   have Sh:cK 4 _:=hr.mono (by decide)
   have Gw:cK 3 _:=hr.mono (by decide)
   refine ⟨_,au (bV (b8 (pv 0) T.aH T.kP GM Sj T.kL .nil fz (af (pv 1) ay)))
     (au (aQ (i:=4) pS.nd rfl (Or.inl rfl) (b8 (pv 0) T.aH T.aO GB Kf T.aN .nil fz (af aM (af aM (af (b5 rfl g1 (v:=.int 128) ⟨_,rfl⟩) ay)))))
     (au (aQ (i:=5) pS.nd rfl (Or.inl rfl) (b8 (pv 0) T.aH T.aO GB Kf T.aN .nil fz (af aM (af aM (af (b5 rfl g2 (v:=.int 192) ⟨_,rfl⟩) ay)))))
     (au (aQ (i:=6) pS.nd rfl (Or.inl rfl) (b8 (pv 0) T.aH T.ko GA hr T.ki .nil fz (af (pv 4) (af (pv 2) ay))))
     (au (aQ (i:=7) pS.nd rfl (Or.inl rfl) (b8 (pv 0) T.aH T.kr GO hr T.kj .nil fz (af (pv 4) (af (pv 5) (af (pv 3) ay)))))
     (au (bV (HQ (pv 0) T.aH T.lJ GE Sh T.lF .nil fz))
     (aB (bA (rL T.EB GI Gw rfl T.zP T.nu .nil cB (af (pv 6) (af (pv 7) ay)))))))))),?_⟩
   obtain ⟨d0,e0⟩:=R.obj
   refine ⟨_,rfl,r,d0,_,rfl,e0,rfl,_,rfl,?_⟩
   refine ⟨r,m,M,x,rfl,R,hM,bJ.andThen'.mono fun y1 hy1 bJ H1 R1 F1=>?_⟩
   obtain ⟨d1,e1⟩:=R1.obj
   refine ⟨_,rfl,r,d1,_,rfl,e1,rfl,?_⟩
   refine ⟨r,1,0,128,_,rfl,R1,.inl rfl,lP.good (g':=fun v=>decide (v<=Fk.ATOMS)) (fun v=>by rw [Bool.eq_iff_iff];simp only [Bool.and_eq_true,decide_eq_true_eq];unfold Fk.ATOMS;omega) (bJ.andThen'.mono fun n hn bJ H2 R2 F2=>?_)⟩
   obtain ⟨d2,e2⟩:=R2.obj
   have Qi:n.1<=128:=of_decide_eq_true (JM.aX hn).2.1
   refine ⟨_,rfl,r,d2,_,rfl,e2,rfl,?_⟩
   refine ⟨r,1,0,192,_,rfl,R2,.inl rfl,lP.good (g':=fun v=>decide (v<=Fk.BONDS)) (fun v=>by rw [Bool.eq_iff_iff];simp only [Bool.and_eq_true,decide_eq_true_eq];unfold Fk.BONDS;omega) (bJ.andThen'.mono fun mm VG bJ H3 R3 F3=>?_)⟩
   obtain ⟨d3,e3⟩:=R3.obj
   have VH:mm.1<=192:=of_decide_eq_true (JM.aX VG).2.1
   refine ⟨_,rfl,r,d3,_,rfl,e3,rfl,_,rfl,_,rfl,?_⟩
   refine ⟨r,n.1,_,rfl,R3,by omega,QT,bJ.andThen'.mono fun y4 TZ bJ H4 la as R4 F4 VI hla Ua=>?_⟩
   obtain ⟨d4,e4⟩:=R4.obj
   refine ⟨_,rfl,r,d4,_,rfl,e4,rfl,_,rfl,_,rfl,_,rfl,?_⟩
   refine ⟨r,n.1,mm.1,_,rfl,R4,by omega,Hv,bJ.andThen'.mono fun y5 Ss bJ H5 lb us R5 F5 VJ hlb VL=>?_⟩
   obtain ⟨d5,e5⟩:=R5.obj
   refine ⟨_,rfl,r,d5,_,rfl,e5,rfl,?_⟩
   refine ⟨r,_,rfl,R5,bJ.andThen'.mono fun y6 WV bJ=>?_⟩
   have Ub:i9 [r] H H3:=(F1.trans F2).trans F3
   have VM:i9 [r,x.hp,x.sp] H H4:=(Ub.mono (by simp)).trans (F4.mono (by simp))
   have VN:i9 [r,x.hp,x.sp] H H5:=VM.trans (F5.mono (by simp))
   have NN:∀ b,H3 b=none->H b=none:=fun b h=>Ub.fresh e3 h
   have Qj:∀ b,H4 b=none->H b=none:=fun b h=>by
     refine NN b ?_
     cases q:H3 b with
     | none=>rfl
     | some o=>
       by_cases z1:b=r
       . rw [z1,e4] at h;cases h
       . by_cases z2:b=x.hp
         . have:=R4.hpl;rw [<- show b=x.hp from z2,h] at this;cases this
         . rw [F4 b o q (by simp [z1];exact z2)] at h;cases h
   have Qk:∀ b,H b=none->b ≠ r/\b ≠ x.hp/\b ≠ x.sp:=fun b h=>by
     refine ⟨fun q=>?_,fun q=>?_,fun q=>?_⟩
     . rw [q,e0] at h;cases h
     . have:=R.hpl;rw [<- q,h] at this;cases this
     . have:=R.CZ;rw [<- q,h] at this;cases this
   have Su:=NN la VI
   have VO:=Qj lb VJ
   have Sv:H5 la=some (.lst as):=F5 la _ hla (by have:=Qk la Su;simp [this.1];exact this.2.2)
   have VP:bT RA (fun b=>H b=none/\b ≠ la) H5 as y4.1:=(Ua.mono Qh (fun b d=>⟨NN b d.1,d.2⟩)).stay Qh fun b o d h=>F5 b o h (by have:=Qk b d.1;simp [this.1];exact this.2.2)
   have Sw:bT RB (fun b=>H4 b=none/\b ≠ lb) H5 us y5.1:=VL
   have rise:=(JM.oX (ends:=ends) C0 Ss).1
   have Gz:as.length=n.1:=Ua.len.trans (JM.lE TZ)
   refine ⟨_,rfl,_,rfl,fun o dx no nd ne=>?_⟩
   have Ju:∀ b u,H5 b=some u->upd (upd H5 dx (.own o)) o (.ins t.b9 dx []) b=some u:=fun b u e=>by rw [ak (aq e no),ak (aq e nd)];exact e
   refine ⟨o,dx,la,lb,as,us,y5.1.map ends,rfl,ai,Ju _ _ Sv,Ju _ _ hlb,by omega,?_,by rw [List.length_map];exact Sw.len,fun i v q h1 h2=>?_,fun q hq=>?_,fun H7 lr rs GR F7=>⟨rfl,?_⟩⟩
   . rw [List.length_map,JM.mX Ss];omega
   . rw [List.getElem?_map] at h2
     cases hz:y5.1[i]? with
     | none=>rw [hz] at h2;cases h2
     | some z=>
       rw [hz] at h2
       cases h2
       obtain ⟨o',rfl,_,o2,C2,VQ,VR,e2',e3',rest⟩:=hE (Sw.at_ i v z h1 hz)
       cases e2'
       exact ⟨⟨o',C2,VQ,VR,rfl,Ju _ _ e3',rest⟩,fun z=>by cases z;rw [no] at e3';cases e3'⟩
   . have:=rise.1 q hq
     rw [Gz]
     exact this
   . have F8:i9 [] H5 H7:=i9.made no nd F7
     have VT:=R5.stay F8 (by simp) (by simp) (by simp) (by simp)
     refine bJ H7 o la lb lr as us rs _ _ VT (VN.trans (F8.mono (by simp))) GR ((VP.mono Qh fun b d=>d.1).stay Qh fun b u _ h=>F8 b u h (by simp)) ((Sw.mono Pj fun b d=>Qj b d.1).stay Pj fun b u _ h=>F8 b u h (by simp)) ?_
     rw [Gz]
     exact rise
end
theorem sS {K:PySem.W.Frag} {a:Addr} {xs:List V} {g:TG} {tb:TS} {D:Ends} {σ:L2.St} {H:Hp} (Pv:Nat->L2.St->Hp->Prop) (h0:Pv 0 σ H) (hl:∀ i σ H,i<=xs.length->Pv i σ H->bM K H a xs)
   (hs:∀ i x σ H T,xs[i]?=some x->Pv i σ H->H T=none->g (.ref T) σ (upd H T (.tup [.int (i:Nat),x])) fun σ2 H2=>tb { D with nx:=Pv (i+1),ct:=Pv (i+1),bk:=D.nx } σ2 H2) (hd:∀ σ H,Pv xs.length σ H->D.nx σ H) :
   ∃ W:Nat->Nat->L2.St->Hp->Prop,(∃ m,W 0 m σ H)/\∀ i m σ H,W i m σ H->
     ((PB K a).stop i H/\D.nx σ H)\/((PB K a).go i H/\∃ N:L2.St->Hp->Prop,(∀ σ' H',N σ' H'->∃ m',m' < m/\W (i+1) m' σ' H')/\∀ x H',(PB K a).HE i H x H'->g x σ H' fun σ2 H2=>tb { D with nx:=N,ct:=N,bk:=D.nx } σ2 H2):=by
 refine ⟨fun i m σ H=>m=xs.length - i/\i<=xs.length/\Pv i σ H,⟨xs.length,by simp,Nat.zero_le _,h0⟩,?_⟩
 rintro i m σ H ⟨rfl,hi,p⟩
 have q:=hl i σ H hi p
 by_cases hlt:i < xs.length
 . refine .inr ⟨⟨xs,xs[i],q,by simp [hlt]⟩,Pv (i+1),fun σ' H' p'=>⟨xs.length - (i+1),by omega,rfl,hlt,p'⟩,fun x H' y=>?_⟩
   obtain ⟨T,x',rfl,hT,rfl,y⟩:=y
   exact hs i x' σ H T (y xs q) p hT
 . have e:i=xs.length:=by omega
   subst e
   exact .inl ⟨⟨xs,q,Nat.le_refl _⟩,hd σ H p⟩
theorem Jv (h:Nat) (x y:Nat):Ke (.int (h:Int)) [.int (x:Int),.int (y:Int)]=(h==x||h==y):=by
 rw [Bool.eq_iff_iff]
 simp [Ke,K2]
 omega
theorem Ql {n:Nat} (h:n<=1000):n < sizeLine:=by rw [sizeLine_eq];omega
section
variable {P:Program} {w:World} {K:PySem.W.Frag} {mg:Str->Option Value} {base:Heap} {t:Ad}
theorem aJ {H:Hp} {p:Addr} {o:HO} (hp:H p=none):aR H (upd H p o):=fun b u e=>by rw [ak (aq e hp)];exact e
def zh (K:PySem.W.Frag) (C:Addr):Sp:=fun vs H Q _=>∃ (g dx lr:Addr) (fs:List (Str×V)) (rs:List Addr) (n e o:Nat) (row:Nat->List Nat),vs=[.ref g,.int (e:Int),.int (o:Int)]/\H g=some (.ins C dx fs)/\fs.lookup ("neighbours":Str)=some (V.ref lr)/\gE H lr rs n row/\e < n/\(row e).length<=1000 /\
 ∀ H' l,aR H H'->H l=none->H' l=some (.lst (vN ((row e).filter fun x=>x != o)))->Q (.ref l) H'
theorem rD:aL ["self","end","other","atom"] ["self","end","other"] (aE jP):=⟨rfl,rfl,rfl,by decide +kernel,rfl,by decide +kernel,by decide +kernel⟩
theorem DN (T:Txt K mg t) {C:Addr} (cl:yL K C) (n3:bx K C "neighbours"):bB P w K mg base lS 1 t.bz t.e9 ["self","end","other"] (zh K C):=by
 refine T.gv.ok rD (fun vs H Q E h=>?_) (fun cdv A outer s H vs Q E hr h=>?_)
 . obtain ⟨g,dx,lr,fs,rs,n,e,o,row,rfl,_⟩:=h
   rfl
 . obtain ⟨g,dx,lr,fs,rs,n,e,o,row,rfl,hg,hl,R,he,hlen,k⟩:=h
   obtain ⟨ra,Dc⟩:∃ ra,rs[e]?=some ra:=⟨_,List.getElem?_eq_getElem (by rw [R.len];exact he)⟩
   have hA:=R.at_ _ _ Dc
   have e1:(rs.map V.ref)[e]?=some (V.ref ra):=by rw [List.getElem?_map,Dc];rfl
   refine ⟨_,aB (bA (Ig rfl rD.nd (iQ (dM bF (aK (pv 0) rfl) (pv 1) (fun _ _=>rfl))) (m5 (own:=[("atom",3)]) rfl) (fun _ _ _ _ _=>bu (i:=3) rD.nd rfl (Or.inl rfl)) (fun _ _ _ _ _=>vt (eL Bl (pv 3) (pv 2) (fD _))) (fun _ _ _ _ _=>pv 3))),?_⟩
   refine ⟨_,rfl,g,C,dx,fs,_,rfl,hg,cl,n3,hl,_,rfl,lr,_,_,_,rfl,rfl,bM.of R.lst,bK e1,ra,rfl,⟨_,bM.of hA⟩,?_⟩
   intro D hD
   refine vv (K:=K) (a:=ra) (xs:=vN (row e)) (fun i H'=>aR H H'/\H' D=some (.lst (vN (((row e).take i).filter fun x=>x != o)))) ⟨aJ hD,ai⟩ (fun i H' _ h=>bM.of (h.1 _ _ hA)) ?_ ?_
   . rintro i x H' hx ⟨sm,hD'⟩
     obtain ⟨c,hc,rfl⟩:∃ c,(row e)[i]?=some c/\x=V.int (c:Int):=by
       unfold vN at hx
       rw [List.getElem?_map] at hx
       cases q:(row e)[i]? with
       | none=>rw [q] at hx;cases hx
       | some c=>rw [q] at hx;exact ⟨c,rfl,(Option.some.inj hx).symm⟩
     refine ⟨rfl,_,rfl,_,rfl,rfl,_,rfl,?_⟩
     refine BC (fun h=>?_) (fun h=>?_)
     . have ne:(c != o)=true:=by simp at h ⊢;omega
       refine ⟨_,rfl,_,hD',?_,fun b u e'=>?_,?_⟩
       . have:(((row e).take i).filter fun x=>x != o).length<=(row e).length:=Nat.le_trans (List.length_filter_le _ _) (by rw [List.length_take];omega)
         simp only [vN,List.length_map]
         exact Ql (by omega)
       . rw [ak (aq e' hD)];exact sm b u e'
       . rw [ai,take_snoc hc,List.filter_append,List.filter_cons,if_pos ne]
         simp [vN]
     . have ne:¬ (c != o)=true:=by simp at h ⊢;omega
       refine ⟨sm,?_⟩
       rw [take_snoc hc,List.filter_append,List.filter_cons,if_neg ne]
       simpa using hD'
   . rintro H' ⟨sm,hD'⟩
     rw [show (vN (row e)).length=(row e).length by simp [vN],List.take_length] at hD'
     exact k H' D sm hD hD'
theorem mh.same {H H':Hp} {v:V} {q:Nat×Nat} (e:mh K H v q) (f:aR H H'):mh K H' v q:=let ⟨o,C,dx,fs,a,b,c⟩:=e;⟨o,C,dx,fs,a,f _ _ b,c⟩
end
end MP
namespace JM
open Fk
def o6 (b:Bytes) (p:Nat):Except Fault ((Atom×Nat)×Bytes×Nat):=andThen (kF b p) fun y=>.ok ((y.1,y.2.2 - 1),y.2.1,y.2.2)
def kW (q:Nat×Nat) (b:Bytes) (p:Nat):Except Fault ((Bond×Nat)×Bytes×Nat):=andThen (j9 q b p) fun y=>.ok ((y.1,y.2.2 - 1),y.2.1,y.2.2)
theorem aI {α β:Type} {x:Except Fault α} {f:α->Except Fault β} {r:β} (h:andThen x f=.ok r):∃ a,x=.ok a/\f a=.ok r:=by
 cases x with
 | error e=>cases h
 | ok a=>exact ⟨a,rfl,h⟩
def My {α:Type} (y:List (α×Nat)×Bytes×Nat):List α×Bytes×Nat:=(y.1.map fun z=>z.1,y.2.1,y.2.2)
theorem C4 {α:Type} {one:Bytes->Nat->Except Fault (α×Bytes×Nat)}:∀ (k:Nat) (b:Bytes) (p:Nat),
   many one k b p=andThen (many (fun b p=>andThen (one b p) fun y=>.ok ((y.1,y.2.2 - 1),y.2.1,y.2.2)) k b p) fun y=>.ok (My y)
 | 0,b,p=>rfl
 | k+1,b,p=>by
   unfold many
   simp only [aU,aS]
   cases one b p with
   | error e=>rfl
   | ok x=>
     simp only [aS]
     rw [C4 k]
     simp only [aU,aS]
     rfl
theorem zj {α:Type} {n:Nat} {one:Nat×Nat->Bytes->Nat->Except Fault (α×Bytes×Nat)}:∀ (k:Nat) (had:Option (Nat×Nat)) (b:Bytes) (p:Nat),
   gf n one k had b p=andThen (gf n (fun q b p=>andThen (one q b p) fun y=>.ok ((y.1,y.2.2 - 1),y.2.1,y.2.2)) k had b p) fun y=>.ok (My y)
 | 0,had,b,p=>rfl
 | k+1,had,b,p=>by
   unfold gf
   simp only [aU,aS]
   cases jO n had b p with
   | error e=>rfl
   | ok q=>
     simp only [aS]
     cases one q.1 q.2.1 q.2.2 with
     | error e=>rfl
     | ok x=>
       simp only [aS]
       rw [zj k]
       simp only [aU,aS]
       rfl
theorem pU {b:Bytes} {p:Nat} {y:Atom×Bytes×Nat} (h:kF b p=.ok y):y.2.2=p+6:=by
 unfold kF at h
 obtain ⟨a1,h1,h⟩:=aI h
 obtain ⟨a2,h2,h⟩:=aI h
 obtain ⟨a3,h3,h⟩:=aI h
 obtain ⟨a4,h4,h⟩:=aI h
 obtain ⟨a5,h5,h⟩:=aI h
 cases h
 have:=(aX h1).2.2.2.2
 have:=(aX h2).2.2.2.2
 have:=(aX h3).2.2.2.2
 have:=(aX h4).2.2.2.2
 have:=(aX h5).2.2.2.2
 simp only
 omega
theorem pV {q:Nat×Nat} {b:Bytes} {p:Nat} {y:Bond×Bytes×Nat} (h:j9 q b p=.ok y):y.2.2=p+2:=by
 unfold j9 at h
 obtain ⟨a1,h1,h⟩:=aI h
 obtain ⟨a2,h2,h⟩:=aI h
 cases h
 have:=(aX h1).2.2.2.2
 have:=(aX h2).2.2.2.2
 simp only
 omega
theorem AH {n:Nat} {had:Option (Nat×Nat)} {b:Bytes} {p:Nat} {y:(Nat×Nat)×Bytes×Nat} (h:jO n had b p=.ok y):y.2.2=p+2:=by
 unfold jO at h
 obtain ⟨a1,h1,h⟩:=aI h
 obtain ⟨a2,h2,h⟩:=aI h
 obtain ⟨a3,h3,h⟩:=aI h
 cases h
 have:=(aX h1).2.2.2.2
 have:=(aX h2).2.2.2.2
 simp only
 omega
theorem sU:∀ {k:Nat} {b:Bytes} {p:Nat} {y:List (Atom×Nat)×Bytes×Nat},many o6 k b p=.ok y->(∀ i z,y.1[i]?=some z->z.2=p+6 * i+5)/\y.2.2=p+6 * k
 | 0,b,p,y,h=>by
   cases h
   exact ⟨fun i z h=>by simp at h,rfl⟩
 | k+1,b,p,y,h=>by
   unfold many at h
   obtain ⟨x,h1,h⟩:=aI h
   obtain ⟨l,h2,h⟩:=aI h
   cases h
   unfold o6 at h1
   obtain ⟨w,h3,h1⟩:=aI h1
   cases h1
   have e1:=pU h3
   obtain ⟨i1,i2⟩:=sU h2
   simp only at i1 i2 ⊢
   refine ⟨fun i z hz=>?_,by omega⟩
   cases i with
   | zero=>
     cases hz
     simp only
     omega
   | succ i=>
     have:=i1 i z (by simpa using hz)
     omega
theorem sV {n:Nat}:∀ {k:Nat} {had:Option (Nat×Nat)} {b:Bytes} {p:Nat} {y:List (Bond×Nat)×Bytes×Nat},gf n kW k had b p=.ok y->(∀ i z,y.1[i]?=some z->z.2=p+4 * i+3)
 | 0,had,b,p,y,h=>by
   cases h
   exact fun i z h=>by simp at h
 | k+1,had,b,p,y,h=>by
   unfold gf at h
   obtain ⟨q,h0,h⟩:=aI h
   obtain ⟨x,h1,h⟩:=aI h
   obtain ⟨l,h2,h⟩:=aI h
   cases h
   unfold kW at h1
   obtain ⟨w,h3,h1⟩:=aI h1
   cases h1
   have e0:=AH h0
   have e1:=pV h3
   have i1:=sV h2
   simp only at i1 ⊢
   intro i z hz
   cases i with
   | zero=>
     cases hz
     simp only
     omega
   | succ i=>
     have:=i1 i z (by simpa using hz)
     omega
theorem sW:∀ {m b:Bytes} {p:Nat} {y:Bytes×Nat},iH m b p=.ok y->y.2=p+m.length
 | [],b,p,y,h=>by cases h;rfl
 | c::m,b,p,y,h=>by
   unfold iH at h
   obtain ⟨x,h1,h⟩:=aI h
   obtain ⟨u,h2,h⟩:=aI h
   have e:=sW h
   have:=(aX h1).2.2.2.2
   simp only [List.length_cons]
   omega
abbrev aP:=List (Atom×Nat)×List (Bond×Nat)
def az (y:aP):Mol:=⟨y.1.map fun z=>z.1,y.2.map fun z=>z.1⟩
def vj (M:Mol) (z:(Atom×Nat)×Nat):Bool:=z.1.1.hand != 0&&!M.handed z.2
def vm (M:Mol) (z:(Bond×Nat)×Nat):Bool:=z.1.1.side != 0&&!M.sided z.2
def zk (M:Mol) (l:List ((Bond×Nat)×Nat)):Except Fault Mol:=match l.find? (vm M) with
 | some z=>.error ⟨6,z.1.2⟩
 | none=>.ok M
def xG (M:Mol) (l:List ((Atom×Nat)×Nat)) (m:List ((Bond×Nat)×Nat)):Except Fault Mol:=match l.find? (vj M) with
 | some z=>.error ⟨4,z.1.2⟩
 | none=>zk M m
theorem DP (M:Mol) (z:(Atom×Nat)×Nat) (l:List ((Atom×Nat)×Nat)) (m:List ((Bond×Nat)×Nat)):xG M (z::l) m=if vj M z=true then .error ⟨4,z.1.2⟩ else xG M l m:=by
 unfold xG
 rw [List.find?_cons]
 cases vj M z<;>rfl
theorem DQ (M:Mol) (z:(Bond×Nat)×Nat) (l:List ((Bond×Nat)×Nat)):zk M (z::l)=if vm M z=true then .error ⟨6,z.1.2⟩ else zk M l:=by
 unfold zk
 rw [List.find?_cons]
 cases vm M z<;>rfl
theorem xH {α:Type} (l:List α) (f:Nat->Bool) (g:α×Nat->Bool) (h:∀ i x,l[i]?=some x->f i=g (x,i)):(List.range l.length).find? f=(l.zipIdx.find? g).map (·.2):=by
 have e:List.range l.length=l.zipIdx.map (·.2):=by
   rw [List.zipIdx_map_snd,List.range'_eq_map_range]
   simp
 rw [e,List.find?_map]
 congr 1
 have:∀ m:List (α×Nat),(∀ z ∈ m,l[z.2]?=some z.1)->m.find? (f ∘ fun z=>z.2)=m.find? g:=by
   intro m
   induction m with
   | nil=>intro _;rfl
   | cons z m ih=>
     intro hm
     rw [List.find?_cons,List.find?_cons,ih fun w hw=>hm w (by simp [hw])]
     have:(f ∘ fun z:α×Nat=>z.2) z=g z:=h z.2 z.1 (hm z (by simp))
     rw [this]
 exact this _ fun z hz=>by
   have:=List.mem_zipIdx hz
   simp at this
   rw [List.getElem?_eq_getElem (by omega)]
   exact congrArg some this.2.symm
theorem C5 (b:Bytes):judgeMol b =
   andThen (iH MOLMARK b 0) fun m=>
   andThen (numIn 1 (fun v=>decide (v<=ATOMS)) m.1 m.2) fun n=>
   andThen (numIn 1 (fun v=>decide (v<=BONDS)) n.2.1 n.2.2) fun k=>
   andThen (many o6 n.1 k.2.1 k.2.2) fun x=>
   andThen (gf n.1 kW k.1 none x.2.1 x.2.2) fun y=>
   andThen (need y.2.1.isEmpty 7 y.2.2) fun _=>xG (az (x.1,y.1)) x.1.zipIdx y.1.zipIdx:=by
 unfold judgeMol
 simp only [KI,wU,wV]
 refine gA rfl fun m hm=>gA rfl fun n hn=>gA rfl fun k hk=>?_
 rw [C4,aU]
 refine gA rfl fun x hx=>?_
 rw [aS,zj,aU]
 show andThen (gf n.1 kW k.1 none x.2.1 x.2.2) _=_
 refine gA rfl fun y hy=>?_
 rw [aS]
 refine gA rfl fun _ _=>?_
 have pl:k.2.2=6:=by
   have h1:=sW hm
   have h2:=(aX hn).2.2.2.2
   have h3:=(aX hk).2.2.2.2
   have:MOLMARK.length=4:=rfl
   omega
 obtain ⟨pa,pe⟩:=sU hx
 have pb:=sV hy
 have hlen:=lE hx
 show (match (List.range (az (x.1,y.1)).n).find? fun v=>((az (x.1,y.1)).atom v).hand != 0&&!(az (x.1,y.1)).handed v with
   | some v=>Except.error (⟨4,6+6 * v+5⟩:Fault)
   | none=>match (List.range (az (x.1,y.1)).bonds.length).find? fun j=>((az (x.1,y.1)).bonds[j]?.map Bond.side).getD 0 != 0&&!(az (x.1,y.1)).sided j with
     | some j=>.error ⟨6,6+6 * (az (x.1,y.1)).n+4 * j+3⟩
     | none=>.ok (az (x.1,y.1)))=_
 have en:(az (x.1,y.1)).n=x.1.length:=by simp [az,Mol.n]
 have eb:(az (x.1,y.1)).bonds.length=y.1.length:=by simp [az]
 rw [en,eb,xH x.1 _ (vj (az (x.1,y.1))) fun i z hz=>by
   have e:(az (x.1,y.1)).atom i=z.1:=by simp [Mol.atom,az,List.getD,hz]
   unfold vj
   rw [e],xH y.1 _ (vm (az (x.1,y.1))) fun i z hz=>by
   have e:(az (x.1,y.1)).bonds[i]?=some z.1:=by simp [az,hz]
   unfold vm
   rw [e]
   rfl]
 unfold xG zk
 cases h1:x.1.zipIdx.find? (vj (az (x.1,y.1))) with
 | some z=>
   have hm:=List.mem_zipIdx (List.mem_of_find?_eq_some h1)
   simp at hm
   have:=pa z.2 z.1 (by rw [List.getElem?_eq_getElem (by omega)];exact congrArg some hm.2.symm)
   simp only [Option.map_some]
   rw [this,pl]
 | none=>
   simp only [Option.map_none]
   cases h2:y.1.zipIdx.find? (vm (az (x.1,y.1))) with
   | some z=>
     have hm:=List.mem_zipIdx (List.mem_of_find?_eq_some h2)
     simp at hm
     have:=pb z.2 z.1 (by rw [List.getElem?_eq_getElem (by omega)];exact congrArg some hm.2.symm)
     simp only [Option.map_some]
     rw [this,pe,pl,hlen]
   | none=>rfl
def aT (z:Bond×Nat):Nat×Nat:=(z.1.a,z.1.b)
theorem xJ (q:Nat×Nat) (b:Bytes) (p:Nat) (x:(Bond×Nat)×Bytes×Nat) (h:kW q b p=.ok x):aT x.1=q:=by
 unfold kW at h
 obtain ⟨w,h3,h⟩:=aI h
 cases h
 unfold j9 at h3
 obtain ⟨a1,h1,h3⟩:=aI h3
 obtain ⟨a2,h2,h3⟩:=aI h3
 cases h3
 rfl
theorem AI {M:Mol} (h:oV M.n (M.bonds.map fun x=>(x.a,x.b))) (v:Nat):M.beside v=f6 (M.bonds.map fun x=>(x.a,x.b)) v:=by
 unfold Mol.beside
 refine BQ h v _ fun w=>?_
 rw [List.any_map]
 unfold Mol.joined Mol.bond
 rw [Bool.eq_iff_iff,List.find?_isSome,List.any_eq_true]
 rfl
end JM
namespace JM
open Fk
abbrev nF:=List ((Nat×Nat)×Nat)
def ee (q:Nat×Nat) (v:Nat):Bool:=q.1==v||q.2==v
def jg (z:nF) (v:Nat):Nat:=(z.map fun x=>if ee x.1 v=true then x.2 else 0).sum
theorem C6 (v:Nat):jg [] v=0:=rfl
theorem kD (x:(Nat×Nat)×Nat) (z:nF) (v:Nat):jg (x::z) v=(if ee x.1 v=true then x.2 else 0)+jg z v:=by simp [jg]
theorem uF (y z:nF) (v:Nat):jg (y++z) v=jg y v+jg z v:=by simp [jg]
def mi (bs:List (Nat×Nat)) (v:Nat):Nat:=(bs.filter fun q=>ee q v).length
theorem C7 (q:Nat×Nat) (bs:List (Nat×Nat)) (v:Nat):mi (q::bs) v=(if ee q v=true then 1 else 0)+mi bs v:=by
 unfold mi
 rw [List.filter_cons]
 cases ee q v<;>simp
 omega
def Jw (z:nF):Prop:=∀ x ∈ z,1<=x.2/\x.2<=3
theorem lQ:∀ {z:nF},Jw z->∀ v,mi (z.map fun x=>x.1) v<=jg z v/\jg z v<=3 * mi (z.map fun x=>x.1) v
 | [],_,v=>by simp [mi,jg]
 | x::z,h,v=>by
   have ih:=lQ (z:=z) (fun y hy=>h y (by simp [hy])) v
   have hx:=h x (by simp)
   rw [List.map_cons,C7,kD]
   cases ee x.1 v with
   | true=>simp only [if_true];omega
   | false=>simp only [Bool.false_eq_true,if_false];omega
def less (s:List Int) (q:Nat×Nat) (o:Nat):List Int:=(s.modify q.1 (· - (o:Int))).modify q.2 (· - (o:Int))
theorem C8 (s:List Int) (q:Nat×Nat) (o:Nat):(less s q o).length=s.length:=by simp [less]
theorem less_get {s:List Int} {q:Nat×Nat} (hq:q.1 < q.2) (o v:Nat):(less s q o)[v]?=(s[v]?).map fun x=>if ee q v=true then x - (o:Int) else x:=by
 unfold less ee
 rw [List.getElem?_modify,List.getElem?_modify]
 by_cases h1:q.1=v
 . have h2:¬ q.2=v:=by omega
   cases s[v]?<;>simp [h1,h2]
 . by_cases h2:q.2=v
   . cases s[v]?<;>simp [h1,h2]
   . cases s[v]?<;>simp [h1,h2]
def run (s:List Int) (z:nF):List Int:=z.foldl (fun s x=>less s x.1 x.2) s
theorem kX (s:List Int) (y z:nF):run s (y++z)=run (run s y) z:=by simp [run]
theorem L0 (s:List Int) (z:nF):(run s z).length=s.length:=by
 induction z generalizing s with
 | nil=>rfl
 | cons x z ih=>exact (ih _).trans (C8 _ _ _)
theorem run_get:∀ {z:nF} {s:List Int} (_:∀ x ∈ z,x.1.1 < x.1.2) (v:Nat),(run s z)[v]?=(s[v]?).map fun x=>x - (jg z v:Int)
 | [],s,_,v=>by
   show s[v]?=_
   cases s[v]?<;>simp [jg]
 | x::z,s,h,v=>by
   have ih:=run_get (z:=z) (s:=less s x.1 x.2) (fun y hy=>h y (by simp [hy])) v
   show (run (less s x.1 x.2) z)[v]?=_
   rw [ih,less_get (h x (by simp)),kD]
   cases s[v]? with
   | none=>rfl
   | some u=>
     cases ee x.1 v with
     | true=>simp;omega
     | false=>simp
structure Valid (n:Nat) (S:List Int) (bs:List (Nat×Nat)) (z:nF):Prop where
 of:z.map (fun x=>x.1)=bs
 all:Jw z
 sum:∀ v,v < n->S[v]?=some (jg z v:Int)
def met (left:Int) (k:Nat):Bool:=decide ((k:Int)<=left)&&decide (left<=3 * (k:Int))
def AJ (S:List Int) (bs:List (Nat×Nat)):Nat->List Int->Prop
 | 0,s=>s=S
 | k+1,s'=>∃ s q o,AJ S bs k s/\bs[k]?=some q/\(1<=o/\o<=3)/\s'=less s q o/\met (s'.getD q.1 0) (mi (bs.drop (k+1)) q.1)=true/\met (s'.getD q.2 0) (mi (bs.drop (k+1)) q.2)=true
def DR (S:List Int) (bs:List (Nat×Nat)):Nat->List Int->Prop
 | 0,s=>AJ S bs bs.length s
 | j+1,s=>AJ S bs (bs.length - (j+1)) s/\∃ q o,bs[bs.length - (j+1)]?=some q/\(1<=o/\o<=3)/\DR S bs j (less s q o)
def Found (S:List Int) (bs:List (Nat×Nat)) (k o:Nat):Prop:=∃ s q,AJ S bs k s/\bs[k]?=some q/\DR S bs (bs.length - (k+1)) (less s q o)
section
variable {n:Nat} {S:List Int} {bs:List (Nat×Nat)}
theorem AJ.way:∀ {k:Nat} {s:List Int},AJ S bs k s->∃ z:nF,z.map (fun x=>x.1)=bs.take k/\Jw z/\s=run S z
 | 0,s,h=>⟨[],by simp,fun x hx=>by simp at hx,h⟩
 | k+1,s',⟨s,q,o,hL,hq,ho,hs,_⟩=>by
   obtain ⟨z,h1,h2,h3⟩:=hL.way
   refine ⟨z++[(q,o)],?_,?_,?_⟩
   . rw [List.map_append,h1,List.take_add_one,hq]
     rfl
   . intro x hx
     rcases List.mem_append.mp hx with hx | hx
     . exact h2 x hx
     . rw [List.mem_singleton.mp hx];exact ho
   . rw [kX,<- h3,hs]
     rfl
theorem AJ.len {k:Nat} {s:List Int} (h:AJ S bs k s):s.length=S.length:=by
 obtain ⟨z,_,_,rfl⟩:=h.way
 exact L0 _ _
theorem nG {α:Type} {l:List α} {k:Nat} {x:α} (h:l[k]?=some x):l.drop k=x::l.drop (k+1):=by
 obtain ⟨hl,hg⟩:=List.getElem?_eq_some_iff.mp h
 rw [List.drop_eq_getElem_cons hl,hg]
theorem AJ.zero (hr:∀ q ∈ bs,q.1 < q.2) (hS:∀ v x,S[v]?=some x->mi bs v=0->x=0):∀ {k:Nat} {s:List Int},AJ S bs k s->∀ v x,s[v]?=some x->mi (bs.drop k) v=0->x=0
 | 0,s,h,v,x,hx,hb=>by
   rw [show s=S from h] at hx
   exact hS v x hx (by simpa using hb)
 | k+1,s',⟨s,q,o,hL,hq,ho,hs,m1,m2⟩,v,x,hx,hb=>by
   have hlt:q.1 < q.2:=hr q (List.mem_of_getElem? hq)
   by_cases t1:q.1=v
   . have e:s'.getD q.1 0=x:=by rw [List.getD,t1,hx];rfl
     rw [e,t1,hb] at m1
     unfold met at m1
     simp only [Bool.and_eq_true,decide_eq_true_eq] at m1
     omega
   . by_cases t2:q.2=v
     . have e:s'.getD q.2 0=x:=by rw [List.getD,t2,hx];rfl
       rw [e,t2,hb] at m2
       unfold met at m2
       simp only [Bool.and_eq_true,decide_eq_true_eq] at m2
       omega
     . have ht:ee q v=false:=by simp [ee,t1,t2]
       rw [hs,less_get hlt,ht] at hx
       cases hy:s[v]? with
       | none=>rw [hy] at hx;cases hx
       | some y=>
         rw [hy] at hx
         have e:y=x:=by simpa using hx
         subst e
         refine AJ.zero hr hS hL v y hy ?_
         rw [nG hq,C7,ht,hb]
         rfl
theorem DR.way:∀ {j:Nat} {s:List Int},j<=bs.length->DR S bs j s->∃ z:nF,z.map (fun x=>x.1)=bs.drop (bs.length - j)/\Jw z/\AJ S bs bs.length (run s z)
 | 0,s,_,h=>⟨[],by simp,fun x hx=>by simp at hx,h⟩
 | j+1,s,hj,⟨_,q,o,hq,ho,hW⟩=>by
   obtain ⟨z,h1,h2,h3⟩:=hW.way (by omega)
   refine ⟨(q,o)::z,?_,?_,h3⟩
   . rw [List.map_cons,h1,nG hq,show bs.length - (j+1)+1=bs.length - j by omega]
   . intro x hx
     rcases List.mem_cons.mp hx with hx | hx
     . rw [hx];exact ho
     . exact h2 x hx
theorem C9 (hr:∀ q ∈ bs,q.1 < q.2) (hn:S.length=n) (hS:∀ v x,S[v]?=some x->mi bs v=0->x=0) {k o:Nat} (ho:1<=o/\o<=3) (h:Found S bs k o):∃ z,Valid n S bs z/\(z[k]?).map (fun x=>x.2)=some o:=by
 obtain ⟨s,q,hL,hq,hW⟩:=h
 have hk:k < bs.length:=(List.getElem?_eq_some_iff.mp hq).1
 obtain ⟨y,y1,y2,y3⟩:=hL.way
 obtain ⟨z,z1,z2,z3⟩:=hW.way (by omega)
 have yl:y.length=k:=by
   have:=congrArg List.length y1
   simp at this
   omega
 have e:(y++(q,o)::z).map (fun x=>x.1)=bs:=by
   rw [List.map_append,List.map_cons,y1,z1,show bs.length - (bs.length - (k+1))=k+1 by omega]
   show bs.take k++q::bs.drop (k+1)=bs
   rw [<- nG hq,List.take_append_drop]
 have er:run S (y++(q,o)::z)=run (less s q o) z:=by
   rw [kX,<- y3]
   rfl
 have hlt:∀ x ∈ y++(q,o)::z,x.1.1 < x.1.2:=fun x hx=>hr x.1 (by rw [<- e];exact List.mem_map_of_mem hx)
 refine ⟨y++(q,o)::z,⟨e,?_,fun v hv=>?_⟩,?_⟩
 . intro x hx
   rcases List.mem_append.mp hx with hx | hx
   . exact y2 x hx
   . rcases List.mem_cons.mp hx with hx | hx
     . rw [hx];exact ho
     . exact z2 x hx
 . have g:=run_get (s:=S) hlt v
   have Uc:S[v]?=some S[v]:=List.getElem?_eq_getElem (by omega)
   rw [er,Uc] at g
   have h0:S[v] - (jg (y++(q,o)::z) v:Int)=0:=z3.zero hr hS v _ g (by simp [mi])
   rw [Uc]
   congr 1
   omega
 . rw [List.getElem?_append_right (by omega),yl,Nat.sub_self]
   rfl
theorem Valid.at {z:nF} (h:Valid n S bs z) {k:Nat} {x:(Nat×Nat)×Nat} (hz:z[k]?=some x):bs[k]?=some x.1:=by
 have:=congrArg (fun l=>l[k]?) h.of
 simp only [List.getElem?_map,hz] at this
 exact this.symm
theorem qx (hr:∀ q ∈ bs,q.1 < q.2/\q.2 < n) (hn:S.length=n) {z:nF} (h:Valid n S bs z):∀ k,k<=bs.length->AJ S bs k (run S (z.take k))
 | 0,_=>rfl
 | k+1,hk=>by
   have ih:=qx hr hn h k (by omega)
   have zl:z.length=bs.length:=by rw [<- h.of];simp
   have hz:z[k]?=some z[k]:=List.getElem?_eq_getElem (by omega)
   have hq:bs[k]?=some z[k].1:=h.at hz
   have hlt:=hr _ (List.mem_of_getElem? hq)
   have e:run S (z.take (k+1))=less (run S (z.take k)) z[k].1 z[k].2:=by
     rw [List.take_add_one,hz,kX]
     rfl
   have a3:=h.all z[k] (List.getElem_mem _)
   have hm:∀ v,v < n->met ((run S (z.take (k+1))).getD v 0) (mi (bs.drop (k+1)) v)=true:=fun v hv=>by
     have g:=run_get (s:=S) (z:=z.take (k+1)) (fun x hx=>(hr x.1 (by rw [<- h.of];exact List.mem_map_of_mem (List.mem_of_mem_take hx))).1) v
     rw [h.sum v hv] at g
     have c:jg z v=jg (z.take (k+1)) v+jg (z.drop (k+1)) v:=by rw [<- uF,List.take_append_drop]
     have b:=lQ (z:=z.drop (k+1)) (fun x hx=>h.all x (List.mem_of_mem_drop hx)) v
     rw [List.map_drop,h.of] at b
     have e:(run S (z.take (k+1))).getD v 0=(jg z v:Int) - (jg (z.take (k+1)) v:Int):=by
       rw [List.getD,g];rfl
     rw [e]
     unfold met
     simp only [Bool.and_eq_true,decide_eq_true_eq]
     omega
   exact ⟨_,z[k].1,z[k].2,ih,hq,a3,e,hm _ (by omega),hm _ (by omega)⟩
theorem zm (hr:∀ q ∈ bs,q.1 < q.2/\q.2 < n) (hn:S.length=n) {z:nF} (h:Valid n S bs z):∀ j,j<=bs.length->DR S bs j (run S (z.take (bs.length - j)))
 | 0,_=>by
   have:=qx hr hn h bs.length (Nat.le_refl _)
   exact this
 | j+1,hj=>by
   have ih:=zm hr hn h j (by omega)
   have zl:z.length=bs.length:=by rw [<- h.of];simp
   have hz:z[bs.length - (j+1)]?=some z[bs.length - (j+1)]:=List.getElem?_eq_getElem (by omega)
   have hq:bs[bs.length - (j+1)]?=some z[bs.length - (j+1)].1:=h.at hz
   refine ⟨qx hr hn h _ (by omega),_,z[bs.length - (j+1)].2,hq,h.all _ (List.getElem_mem _),?_⟩
   have e:run S (z.take (bs.length - j))=less (run S (z.take (bs.length - (j+1)))) z[bs.length - (j+1)].1 z[bs.length - (j+1)].2:=by
     rw [show bs.length - j=bs.length - (j+1)+1 by omega,List.take_add_one,hz,kX]
     rfl
   rw [<- e]
   exact ih
theorem CA (hr:∀ q ∈ bs,q.1 < q.2/\q.2 < n) (hn:S.length=n) {z:nF} (h:Valid n S bs z) {k o:Nat} (hk:(z[k]?).map (fun x=>x.2)=some o):Found S bs k o:=by
 have zl:z.length=bs.length:=by rw [<- h.of];simp
 cases hz:z[k]? with
 | none=>rw [hz] at hk;cases hk
 | some x=>
   rw [hz] at hk
   have ho:x.2=o:=by simpa using hk
   have hlt:k < z.length:=(List.getElem?_eq_some_iff.mp hz).1
   refine ⟨run S (z.take k),x.1,qx hr hn h k (by omega),by rw [<- h.of,List.getElem?_map,hz];rfl,?_⟩
   have w:=zm hr hn h (bs.length - (k+1)) (by omega)
   rw [show bs.length - (bs.length - (k+1))=k+1 by omega,List.take_add_one,hz,kX] at w
   rw [<- ho]
   exact w
end
end JM
namespace JM
open Fk
theorem zo (l:List Nat) (v n i:Nat):(addTo l v n)[i]?=(l[i]?).map fun x=>if i=v then x+n else x:=by
 unfold addTo
 rw [List.getElem?_map,List.getElem?_zipIdx]
 cases l[i]?<;>simp
theorem zp (l:List Nat) (v n:Nat):(addTo l v n).length=l.length:=by simp [addTo]
def pW (x:Bond):Nat×Nat:=(x.a,x.b)
theorem CB {part:List Nat} {x:Bond} (hx:x.a < x.b) (o v:Nat) (hv:v < part.length):(addTo (addTo part x.a o) x.b o).getD v 0=part.getD v 0+(if ee (pW x) v=true then o else 0):=by
 have e:part[v]?=some part[v]:=List.getElem?_eq_getElem hv
 rw [List.getD,List.getD,zo,zo,e]
 unfold ee pW
 by_cases h1:x.a=v
 . have h2:¬ v=x.b:=by omega
   simp [h1,h2]
 . by_cases h2:x.b=v
   . have h3:¬ v=x.a:=by omega
     simp [h2,h3]
   . have h3:¬ v=x.a:=by omega
     have h4:¬ v=x.b:=by omega
     simp [h1,h2,h3,h4]
theorem vM {α β:Type}:∀ (l:List α) (r:List β),l.length=r.length->(l.zip r).map (fun x=>x.1)=l
 | [],[],_=>rfl
 | [],_::_,h=>by simp at h
 | _::_,[],h=>by simp at h
 | a::l,b::r,h=>by simp [vM l r (by simpa using h)]
theorem sX {α β:Type}:∀ (l:List α) (r:List β),l.length=r.length->(l.zip r).map (fun x=>x.2)=r
 | [],[],_=>rfl
 | [],_::_,h=>by simp at h
 | _::_,[],h=>by simp at h
 | a::l,b::r,h=>by simp [sX l r (by simpa using h)]
theorem AK {l:List (Nat×Nat)} {r:List Nat} (h:∀ o ∈ r,1<=o/\o<=3):Jw (l.zip r):=fun x hx=>h x.2 (List.of_mem_zip hx).2
theorem NP (l:List Bond) (v:Nat):mi (l.map pW) v=(l.filter fun x=>x.at_ v).length:=by
 unfold mi
 rw [List.filter_map,List.length_map]
 rfl
theorem mj (want:List Nat):∀ (l:List Bond) (part:List Nat),part.length=want.length->(∀ x ∈ l,x.a < x.b/\x.b < want.length)->∀ r,r ∈ ordersFor want l part ↔
   (r.length=l.length/\(∀ o ∈ r,1<=o/\o<=3)/\∀ v,v < want.length->want.getD v 0=part.getD v 0+jg ((l.map pW).zip r) v)
 | [],part,hp,_,r=>by
   unfold ordersFor
   by_cases h:part=want
   . subst h
     simp [jg]
     rintro rfl
     simp
   . have:(part==want)=false:=by simpa using h
     rw [this]
     simp only [Bool.false_eq_true,if_false,List.not_mem_nil,false_iff]
     rintro ⟨h1,_,h3⟩
     have hr:r=[]:=List.eq_nil_of_length_eq_zero (by simpa using h1)
     subst hr
     refine h (List.ext_getElem? fun v=>?_)
     by_cases hv:v < want.length
     . have:=h3 v hv
       simp only [List.map_nil,List.zip_nil_left,C6] at this
       rw [List.getElem?_eq_getElem hv,List.getElem?_eq_getElem (by omega)]
       rw [List.getD,List.getD,List.getElem?_eq_getElem hv,List.getElem?_eq_getElem (show v < part.length by omega)] at this
       simp only [Option.getD_some] at this
       rw [show part[v]=want[v] by omega]
     . rw [List.getElem?_eq_none (by omega),List.getElem?_eq_none (by omega)]
 | x::l,part,hp,hx,r=>by
   have hxa:=hx x (by simp)
   have hl:∀ y ∈ l,y.a < y.b/\y.b < want.length:=fun y hy=>hx y (by simp [hy])
   unfold ordersFor
   rw [List.mem_flatMap]
   have Qm:∀ o,(addTo (addTo part x.a o) x.b o).length=want.length:=fun o=>by rw [zp,zp,hp]
   constructor
   . rintro ⟨o,ho,hr⟩
     have ho':1<=o/\o<=3:=by
       simp at ho
       omega
     simp only at hr
     split at hr
     . obtain ⟨r',hr',rfl⟩:=List.mem_map.mp hr
       obtain ⟨h1,h2,h3⟩:=(mj want l _ (Qm o) hl r').mp hr'
       refine ⟨by simp [h1],fun y hy=>?_,fun v hv=>?_⟩
       . rcases List.mem_cons.mp hy with hy | hy
         . rw [hy];exact ho'
         . exact h2 y hy
       . have:=h3 v hv
         rw [CB hxa.1 o v (by omega)] at this
         rw [List.map_cons,List.zip_cons_cons,kD]
         dsimp only
         omega
     . simp at hr
   . rintro ⟨h1,h2,h3⟩
     cases r with
     | nil=>simp at h1
     | cons o r'=>
       have ho:=h2 o (by simp)
       have h3':∀ v,v < want.length->want.getD v 0=(addTo (addTo part x.a o) x.b o).getD v 0+jg ((l.map pW).zip r') v:=fun v hv=>by
         have:=h3 v hv
         rw [List.map_cons,List.zip_cons_cons,kD] at this
         rw [CB hxa.1 o v (by omega)]
         dsimp only at this
         omega
       have hlen:r'.length=l.length:=by simpa using h1
       have a3:∀ y ∈ r',1<=y/\y<=3:=fun y hy=>h2 y (by simp [hy])
       have can:∀ v,v < want.length->canStill (addTo (addTo part x.a o) x.b o) want l v=true:=fun v hv=>by
         have b:=lQ (z:=(l.map pW).zip r') (AK a3) v
         rw [vM _ _ (by simp [hlen]),NP] at b
         have:=h3' v hv
         unfold canStill
         simp only [Bool.and_eq_true,decide_eq_true_eq]
         omega
       refine ⟨o,by simp;omega,?_⟩
       simp only
       rw [can x.a (by omega),can x.b hxa.2]
       simp only [Bool.and_self,if_true]
       exact List.mem_map.mpr ⟨r',(mj want l _ (Qm o) hl r').mpr ⟨hlen,a3,h3'⟩,rfl⟩
theorem CC:∀ (l:List Nat) (a:Nat),l.foldl (· + ·) a=a+l.sum
 | [],a=>by simp
 | x::l,a=>by rw [List.foldl_cons,CC l,List.sum_cons];omega
theorem EJ:∀ (l:List Bond) (v:Nat),((l.filter fun x=>x.at_ v).map Bond.order).sum=jg ((l.map pW).zip (l.map Bond.order)) v
 | [],v=>rfl
 | x::l,v=>by
   have ih:=EJ l v
   rw [List.map_cons,List.map_cons,List.zip_cons_cons,kD,<- ih,List.filter_cons]
   show _=(if x.at_ v=true then x.order else 0)+_
   cases x.at_ v<;>simp
section
variable {M:Mol}
def cJ (M:Mol):List (Nat×Nat):=M.bonds.map pW
def gF (M:Mol):List Int:=M.sums.map fun (n:Nat)=>(n:Int)
theorem CD (v:Nat):M.sum v=jg ((cJ M).zip M.orders) v:=by
 unfold Mol.sum
 rw [CC,Nat.zero_add]
 exact EJ _ _
theorem jh {v:Nat} (hv:v < M.n):M.sums[v]?=some (M.sum v):=by
 unfold Mol.sums
 rw [List.getElem?_map,List.getElem?_range hv]
 rfl
theorem sY:M.sums.length=M.n:=by simp [Mol.sums]
theorem qy:(gF M).length=M.n:=by simp [gF,sY]
theorem uh {v:Nat} (hv:v < M.n):(gF M)[v]?=some (M.sum v:Int):=by
 unfold gF
 rw [List.getElem?_map,jh hv]
 rfl
structure kY (M:Mol):Prop where
 ends:∀ q ∈ cJ M,q.1 < q.2/\q.2 < M.n
 L1:∀ x ∈ M.bonds,1<=x.order/\x.order<=3
theorem kY.own (g:kY M):Valid M.n (gF M) (cJ M) ((cJ M).zip M.orders):=by
 refine ⟨vM _ _ (by simp [cJ,Mol.orders]),AK fun o ho=>?_,fun v hv=>by rw [uh hv,CD]⟩
 obtain ⟨x,hx,rfl⟩:=List.mem_map.mp ho
 exact g.L1 x hx
theorem kY.zero (g:kY M):∀ v x,(gF M)[v]?=some x->mi (cJ M) v=0->x=0:=fun v x hx hb=>by
 have hv:v < M.n:=by rw [<- qy];exact (List.getElem?_eq_some_iff.mp hx).1
 rw [g.own.sum v hv] at hx
 have b:=lQ g.own.all v
 rw [g.own.of,hb] at b
 have:=Option.some.inj hx
 omega
def xK (M:Mol):List (List Nat):=M.redrawings.map Mol.orders
theorem pX {r:List Nat} (h:r.length=M.bonds.length):(M.ordered r).orders=r:=by
 unfold Mol.ordered Mol.orders
 simp only [List.map_map]
 show (M.bonds.zip r).map (fun x=>x.2)=r
 exact sX _ _ h.symm
theorem kY.rows (g:kY M) (r:List Nat):r ∈ xK M ↔ r.length=M.bonds.length/\Valid M.n (gF M) (cJ M) ((cJ M).zip r):=by
 have e:∀ r',r' ∈ ordersFor M.sums M.bonds (M.sums.map fun _=>0) ↔ (r'.length=M.bonds.length/\(∀ o ∈ r',1<=o/\o<=3)/\∀ v,v < M.sums.length->M.sums.getD v 0=(M.sums.map fun _=>0).getD v 0+jg ((M.bonds.map pW).zip r') v):=
   mj _ _ _ (by simp) fun x hx=>by rw [sY];exact g.ends (pW x) (List.mem_map_of_mem hx)
 have z:∀ v,(M.sums.map fun _=>0).getD v 0=0:=fun v=>by
   rw [List.getD,List.getElem?_map]
   cases M.sums[v]?<;>rfl
 constructor
 . intro h
   obtain ⟨N,hN,rfl⟩:=List.mem_map.mp h
   obtain ⟨r',hr',rfl⟩:=List.mem_map.mp hN
   obtain ⟨h1,h2,h3⟩:=(e r').mp hr'
   rw [pX h1]
   refine ⟨h1,vM _ _ (by simp [cJ,h1]),AK h2,fun v hv=>?_⟩
   have:=h3 v (by rw [sY];exact hv)
   rw [z,List.getD,jh hv] at this
   rw [uh hv]
   simp only [Option.getD_some] at this
   rw [this]
   simp [cJ]
 . rintro ⟨h1,h2⟩
   refine List.mem_map.mpr ⟨M.ordered r,List.mem_map.mpr ⟨r,(e r).mpr ⟨h1,fun o ho=>?_,fun v hv=>?_⟩,rfl⟩,pX h1⟩
   . have e2:=sX (cJ M) r (by simp [cJ,h1])
     rw [<- e2] at ho
     obtain ⟨x,hx,rfl⟩:=List.mem_map.mp ho
     exact h2.all x hx
   . rw [sY] at hv
     have:=h2.sum v hv
     rw [uh hv] at this
     rw [z,List.getD,jh hv]
     have:=Option.some.inj this
     simp only [Option.getD_some]
     show M.sum v=0+jg ((cJ M).zip r) v
     omega
theorem kY.found (g:kY M) {k o:Nat} (hk:k < M.bonds.length) (ho:1<=o/\o<=3):Found (gF M) (cJ M) k o ↔ ∃ r ∈ xK M,r[k]?=some o:=by
 constructor
 . intro h
   obtain ⟨z,hz,hk'⟩:=C9 (fun q hq=>(g.ends q hq).1) qy g.zero ho h
   have zl:z.length=M.bonds.length:=by
     have:=congrArg List.length hz.of
     simpa [cJ] using this
   have ez:(cJ M).zip (z.map fun x=>x.2)=z:=by
     rw [<- hz.of,List.zip_map']
     simp
   refine ⟨z.map fun x=>x.2,(g.rows _).mpr ⟨by simp [zl],by rw [ez];exact hz⟩,?_⟩
   rw [List.getElem?_map]
   exact hk'
 . rintro ⟨r,hr,hk'⟩
   obtain ⟨h1,h2⟩:=(g.rows r).mp hr
   refine CA g.ends qy h2 ?_
   have e2:=sX (cJ M) r (by simp [cJ,h1])
   rw [<- List.getElem?_map,e2]
   exact hk'
noncomputable def iz (P:Nat->Prop):Nat:=by
 classical exact (if P 1 then 1 else 0)+(if P 2 then 2 else 0)+(if P 3 then 4 else 0)
theorem G0 (P:Nat->Prop):iz P=2 ↔ ¬ P 1/\P 2/\¬ P 3:=by
 unfold iz
 by_cases h1:P 1<;>by_cases h2:P 2<;>by_cases h3:P 3<;>simp [h1,h2,h3]
theorem kY.fixed (g:kY M) {k:Nat} (hk:k < M.bonds.length):(M.fixedAt k==2)=decide (iz (Found (gF M) (cJ M) k)=2):=by
 have hx:M.bonds[k]?=some M.bonds[k]:=List.getElem?_eq_getElem hk
 have own:M.orders ∈ xK M:=(g.rows _).mpr ⟨by simp [Mol.orders],g.own⟩
 have ok:M.orders[k]?=some M.bonds[k].order:=by unfold Mol.orders;rw [List.getElem?_map,hx];rfl
 have e:M.fixedAt k=if ((xK M).all fun r=>r[k]?==some M.bonds[k].order)=true then M.bonds[k].order else 0:=by
   unfold Mol.fixedAt Mol.fixed
   simp only
   rw [List.getD,List.getElem?_map,List.getElem?_zipIdx,hx]
   simp only [Option.map_some,Option.getD_some,Nat.zero_add]
   rfl
 rw [Bool.eq_iff_iff,beq_iff_eq,decide_eq_true_eq,G0,g.found hk (by omega),g.found hk (by omega),g.found hk (by omega),e]
 have b3:=g.L1 _ (List.getElem_mem hk)
 constructor
 . intro h
   split at h
   . rename_i ha
     rw [List.all_eq_true] at ha
     have ha':∀ r ∈ xK M,r[k]?=some 2:=fun r hr=>by
       have:=ha r hr
       rw [h] at this
       simpa using this
     have no:∀ o,o ≠ 2->¬ ∃ r,r ∈ xK M/\r[k]?=some o:=fun o ho ⟨r,hr,q⟩=>by
       rw [ha' r hr] at q
       exact ho (Option.some.inj q).symm
     exact ⟨no 1 (by decide),⟨_,own,by rw [ok,h]⟩,no 3 (by decide)⟩
   . omega
 . rintro ⟨n1,_,n3⟩
   have all2:∀ r ∈ xK M,r[k]?=some 2:=fun r hr=>by
     obtain ⟨h1,h2⟩:=(g.rows r).mp hr
     have hrk:r[k]?=some r[k]:=List.getElem?_eq_getElem (by omega)
     have:1<=r[k]/\r[k]<=3:=by
       have e2:=sX (cJ M) r (by simp [cJ,h1])
       have hm:r[k] ∈ ((cJ M).zip r).map fun x=>x.2:=e2.symm ▸ List.getElem_mem (by omega)
       obtain ⟨x,hx',q⟩:=List.mem_map.mp hm
       rw [<- q]
       exact h2.all x hx'
     have c1:r[k] ≠ 1:=fun q=>n1 ⟨r,hr,by rw [hrk,q]⟩
     have c3:r[k] ≠ 3:=fun q=>n3 ⟨r,hr,by rw [hrk,q]⟩
     rw [hrk,show r[k]=2 by omega]
   have o2:M.bonds[k].order=2:=by
     have:=all2 _ own
     rw [ok] at this
     exact Option.some.inj this
   rw [if_pos,o2]
   rw [List.all_eq_true]
   intro r hr
   rw [all2 r hr,o2]
   rfl
end
end JM
namespace MP
open PySem PySem.Spec PyProof.Rows L2
open XL (dz)
open Fk (Fault Bytes numIn need andThen Atom Bond Mol)
def Qn (a:Atom):List (Str×V):=[("element",.int (a.element:Int)),("isotope",.int (a.isotope:Int)),("charge",.int (a.charge+4)),("hydrogens",.int (a.hydrogens:Int)),("hand",.int (a.hand:Int))]
def Qo (x:Bond):List (Str×V):=[("a",.int (x.a:Int)),("b",.int (x.b:Int)),("order",.int (x.order:Int)),("side",.int (x.side:Int))]
def k8 (C:Addr):lZ (Atom×Nat):=fun D H v z=>∃ o dx,v=.ref o/\D o/\H o=some (.ins C dx (Qn z.1))
theorem k8.ok (C:Addr):qW (k8 C):=⟨fun ⟨o,dx,e,d,h⟩ k=>⟨o,dx,e,d,k _ _ d h⟩,fun ⟨o,dx,e,d,h⟩ k=>⟨o,dx,e,k _ d,h⟩⟩
def jn (C:Addr):lZ (Bond×Nat):=fun D H v z=>∃ o dx,v=.ref o/\D o/\H o=some (.ins C dx (Qo z.1))
theorem jn.ok (C:Addr):qW (jn C):=⟨fun ⟨o,dx,e,d,h⟩ k=>⟨o,dx,e,d,k _ _ d h⟩,fun ⟨o,dx,e,d,h⟩ k=>⟨o,dx,e,k _ d,h⟩⟩
section
variable {P:Program} {w:World} {K:PySem.W.Frag} {mg:Str->Option Value} {base:Heap} {t:Ad}
def Jx (C:Addr):Sp:=fun vs H Q _=>∃ (o dx:Addr) (a:Atom),vs=[.ref o,.int (a.element:Int),.int (a.isotope:Int),.int (a.charge+4),.int (a.hydrogens:Int),.int (a.hand:Int)]/\H o=some (.ins C dx []) /\
 ∀ H',H' o=some (.ins C dx (Qn a))->i9 [o] H H'->Q .non H'
theorem G3:aL ["self","element","isotope","charge","hydrogens","hand"] ["self","element","isotope","charge","hydrogens","hand"] (aE oY):=⟨rfl,rfl,rfl,by decide +kernel,rfl,by decide +kernel,by decide +kernel⟩
theorem G4 (T:Txt K mg t):bB P w K mg base lS 1 t.fO t.jA ["self","element","isotope","charge","hydrogens","hand"] (Jx t.bW):=by
 refine T.jF.ok G3 (fun vs H Q E h=>?_) (fun cdv A outer s H vs Q E hr h=>?_)
 . obtain ⟨o,dx,a,rfl,_⟩:=h
   rfl
 . obtain ⟨o,dx,a,rfl,h0,k⟩:=h
   refine ⟨_,au (e7 (pv 0) (pv 1) rfl) (au (e7 (pv 0) (pv 2) rfl) (au (e7 (pv 0) (pv 3) rfl) (au (e7 (pv 0) (pv 4) rfl) (aB (e7 (pv 0) (pv 5) rfl))))),?_⟩
   refine ⟨_,rfl,_,rfl,o,_,dx,_,rfl,h0,T.nA,T.jc,(by show 0 < 1000;decide),?_⟩
   refine ⟨_,rfl,_,rfl,o,_,dx,_,rfl,ai,T.nA,T.jd,(by show 1 < 1000;decide),?_⟩
   refine ⟨_,rfl,_,rfl,o,_,dx,_,rfl,ai,T.nA,T.j5,(by show 2 < 1000;decide),?_⟩
   refine ⟨_,rfl,_,rfl,o,_,dx,_,rfl,ai,T.nA,T.dI,(by show 3 < 1000;decide),?_⟩
   refine ⟨_,rfl,_,rfl,o,_,dx,_,rfl,ai,T.nA,T.jH,(by show 4 < 1000;decide),?_⟩
   refine k _ ai fun b u e n=>?_
   have nb:b ≠ o:=by simpa using n
   simp only [lA]
   rw [ak nb]
   exact e
def Jy (C:Addr):Sp:=fun vs H Q _=>∃ (o dx p:Addr) (x:Bond),vs=[.ref o,.ref p,.int (x.order:Int),.int (x.side:Int)]/\H o=some (.ins C dx []) /\
 H p=some (.tup [.int (x.a:Int),.int (x.b:Int)])/\∀ H',H' o=some (.ins C dx (Qo x))->i9 [o] H H'->Q .non H'
theorem G5:aL ["self","pair","order","side"] ["self","pair","order","side"] (aE oZ):=⟨rfl,rfl,rfl,by decide +kernel,rfl,by decide +kernel,by decide +kernel⟩
theorem G6 (T:Txt K mg t):bB P w K mg base lS 1 t.fP t.jB ["self","pair","order","side"] (Jy t.bX):=by
 refine T.jG.ok G5 (fun vs H Q E h=>?_) (fun cdv A outer s H vs Q E hr h=>?_)
 . obtain ⟨o,dx,p,x,rfl,_⟩:=h
   rfl
 . obtain ⟨o,dx,p,z,rfl,h0,hp,k⟩:=h
   refine ⟨_,au (e7 (pv 0) (dM zD (pv 1) aM (fun _ _=>rfl)) rfl) (au (e7 (pv 0) (dM zD (pv 1) aM (fun _ _=>rfl)) rfl) (au (e7 (pv 0) (pv 2) rfl) (aB (e7 (pv 0) (pv 3) rfl)))),?_⟩
   have po:p ≠ o:=kg hp h0 (by intro z;cases z)
   refine ⟨_,rfl,p,_,_,_,rfl,rfl,mr.of hp,rfl,_,rfl,o,_,dx,_,rfl,h0,T.i8,T.je,(by show 0 < 1000;decide),?_⟩
   refine ⟨_,rfl,p,_,_,_,rfl,rfl,mr.of (by rw [ak po];exact hp),rfl,_,rfl,o,_,dx,_,rfl,ai,T.i8,T.jf,(by show 1 < 1000;decide),?_⟩
   refine ⟨_,rfl,_,rfl,o,_,dx,_,rfl,ai,T.i8,T.iu,(by show 2 < 1000;decide),?_⟩
   refine ⟨_,rfl,_,rfl,o,_,dx,_,rfl,ai,T.i8,T.jI,(by show 3 < 1000;decide),?_⟩
   refine k _ ai fun b u e n=>?_
   have nb:b ≠ o:=by simpa using n
   simp only [lA]
   rw [ak nb]
   exact e
theorem um:aL ["reader","element","isotope","charge","hydrogens","hand"] ["reader"] (aE pq):=⟨rfl,rfl,rfl,by decide +kernel,rfl,by decide +kernel,by decide +kernel⟩
theorem NQ (T:Txt K mg t):bB P w K mg base (qD P w) 6 t.eV t.jD ["reader"] (Jp K t.aA t.aF JM.o6 (k8 t.bW)):=by
 have GB:=@nE P w K mg base t T
 have GI:=@G4 P w K mg base t T
 obtain ⟨OA,g1⟩:=T.pI
 obtain ⟨PY,g2⟩:=T.pK
 obtain ⟨TQ,g3⟩:=T.qS
 obtain ⟨VU,g4⟩:=T.mK
 obtain ⟨TM,g5⟩:=T.uD
 refine T.iM.Hu um (fun vs H Q E h=>?_) (fun cdv A outer s H vs Q E hr h=>?_)
 . obtain ⟨r,x,rfl,_⟩:=h
   rfl
 . obtain ⟨r,x,rfl,R,bJ⟩:=h
   have hr2:cK 2 _:=hr.mono (by decide)
   have Kf:cK 5 _:=hr.mono (by decide)
   refine ⟨_,au (aQ (i:=1) um.nd rfl (Or.inl rfl) (b8 (pv 0) T.aH T.aO GB Kf T.aN .nil fz (af aM (af aM (af (b5 rfl g1 (v:=.int 118) ⟨_,rfl⟩) ay)))))
     (au (aQ (i:=2) um.nd rfl (Or.inl rfl) (b8 (pv 0) T.aH T.aO GB Kf T.aN .nil fz (af aM (af aM (af (b5 rfl g2 (v:=.int 500) ⟨_,rfl⟩) ay)))))
     (au (aQ (i:=3) um.nd rfl (Or.inl rfl) (b8 (pv 0) T.aH T.aO GB Kf T.aN .nil fz (af aM (af aM (af (b5 rfl g3 (v:=.int 8) ⟨_,rfl⟩) ay)))))
     (au (aQ (i:=4) um.nd rfl (Or.inl rfl) (b8 (pv 0) T.aH T.aO GB Kf T.aN .nil fz (af aM (af aM (af (b5 rfl g4 (v:=.int 7) ⟨_,rfl⟩) ay)))))
     (au (aQ (i:=5) um.nd rfl (Or.inl rfl) (b8 (pv 0) T.aH T.aO GB Kf T.aN .nil fz (af aM (af aM (af (b5 rfl g5 (v:=.int 2) ⟨_,rfl⟩) ay)))))
     (aB (bA (rL T.IC GI hr2 rfl T.IB T.u5 .nil cB (af (pv 1) (af (pv 2) (af (pv 3) (af (pv 4) (af (pv 5) ay)))))))))))),?_⟩
   unfold JM.o6 JM.kF at bJ
   simp only [JM.aU] at bJ
   obtain ⟨d0,e0⟩:=R.obj
   refine ⟨_,rfl,r,d0,_,rfl,e0,rfl,?_⟩
   refine ⟨r,1,1,118,_,rfl,R,.inl rfl,lP.good (g':=fun v=>decide (1<=v)&&decide (v<=Fk.ELEMENTS)) (fun v=>by rw [Bool.eq_iff_iff];simp only [Bool.and_eq_true,decide_eq_true_eq];unfold Fk.ELEMENTS;omega) (bJ.andThen'.mono fun y1 hy1 bJ H1 R1 F1=>?_)⟩
   obtain ⟨d1,e1⟩:=R1.obj
   refine ⟨_,rfl,r,d1,_,rfl,e1,rfl,?_⟩
   refine ⟨r,2,0,500,_,rfl,R1,.inr rfl,lP.good (g':=fun v=>decide (v<=Fk.ISOTOPE)) (fun v=>by rw [Bool.eq_iff_iff];simp only [Bool.and_eq_true,decide_eq_true_eq];unfold Fk.ISOTOPE;omega) (bJ.andThen'.mono fun y2 Qa bJ H2 R2 F2=>?_)⟩
   obtain ⟨d2,e2⟩:=R2.obj
   refine ⟨_,rfl,r,d2,_,rfl,e2,rfl,?_⟩
   refine ⟨r,1,0,8,_,rfl,R2,.inl rfl,lP.good (g':=fun v=>decide (v<=8)) (fun v=>by rw [Bool.eq_iff_iff];simp only [Bool.and_eq_true,decide_eq_true_eq];omega) (bJ.andThen'.mono fun y3 WW bJ H3 R3 F3=>?_)⟩
   obtain ⟨d3,e3⟩:=R3.obj
   refine ⟨_,rfl,r,d3,_,rfl,e3,rfl,?_⟩
   refine ⟨r,1,0,7,_,rfl,R3,.inl rfl,lP.good (g':=fun v=>decide (v<=7)) (fun v=>by rw [Bool.eq_iff_iff];simp only [Bool.and_eq_true,decide_eq_true_eq];omega) (bJ.andThen'.mono fun y4 TZ bJ H4 R4 F4=>?_)⟩
   obtain ⟨d4,e4⟩:=R4.obj
   refine ⟨_,rfl,r,d4,_,rfl,e4,rfl,?_⟩
   refine ⟨r,1,0,2,_,rfl,R4,.inl rfl,lP.good (g':=fun v=>decide (v<=2)) (fun v=>by rw [Bool.eq_iff_iff];simp only [Bool.and_eq_true,decide_eq_true_eq];omega) (bJ.andThen'.mono fun y5 Ss bJ H5 R5 F5=>?_)⟩
   obtain ⟨d5,e5⟩:=R5.obj
   have F:i9 [r] H H5:=(((F1.trans F2).trans F3).trans F4).trans F5
   refine ⟨_,rfl,_,rfl,_,rfl,_,rfl,_,rfl,fun o dx no nd ne=>?_⟩
   refine ⟨o,dx,⟨y1.1,y2.1,(y3.1:Int) - 4,y4.1,y5.1⟩,?_,ai,fun H6 h6 F6=>⟨rfl,?_⟩⟩
   . simp
   . have F7:i9 [] H5 H6:=i9.made no nd F6
     exact bJ H6 (.ref o) (R5.stay F7 (by simp) (by simp) (by simp) (by simp)) (F.trans (F7.mono (by simp))) ⟨o,dx,rfl,F.fresh e5 no,h6⟩
theorem DS:aL ["reader","pair","order","side"] ["reader","pair"] (aE p5):=⟨rfl,rfl,rfl,by decide +kernel,rfl,by decide +kernel,by decide +kernel⟩
theorem NR (T:Txt K mg t):bB P w K mg base (qD P w) 6 t.eW t.jE ["reader","pair"] (DL K t.aA t.aF JM.kW (jn t.bX)):=by
 have GB:=@nE P w K mg base t T
 have GI:=@G6 P w K mg base t T
 obtain ⟨OA,g1⟩:=T.lX
 obtain ⟨PY,g2⟩:=T.jy
 obtain ⟨TQ,g3⟩:=T.uE
 refine T.iN.Hu DS (fun vs H Q E h=>?_) (fun cdv A outer s H vs Q E hr h=>?_)
 . obtain ⟨r,p,q,x,rfl,_⟩:=h
   rfl
 . obtain ⟨r,p,q,x,rfl,R,hp,bJ⟩:=h
   have hr2:cK 2 _:=hr.mono (by decide)
   refine ⟨_,au (aQ (i:=2) DS.nd rfl (Or.inl rfl) (b8 (pv 0) T.aH T.aO GB hr T.aN .nil fz (af aM (af (b5 rfl g1 (v:=.int 1) ⟨_,rfl⟩) (af (b5 rfl g2 (v:=.int 3) ⟨_,rfl⟩) ay)))))
     (au (aQ (i:=3) DS.nd rfl (Or.inl rfl) (b8 (pv 0) T.aH T.aO GB hr T.aN .nil fz (af aM (af aM (af (b5 rfl g3 (v:=.int 2) ⟨_,rfl⟩) ay)))))
     (aB (bA (rL T.IE GI hr2 rfl T.ID T.u6 .nil cB (af (pv 1) (af (pv 2) (af (pv 3) ay))))))),?_⟩
   unfold JM.kW JM.j9 at bJ
   simp only [JM.aU] at bJ
   obtain ⟨d0,e0⟩:=R.obj
   have pr:p ≠ r:=kg hp e0 (by intro z;cases z)
   refine ⟨_,rfl,r,d0,_,rfl,e0,rfl,?_⟩
   refine ⟨r,1,1,3,_,rfl,R,.inl rfl,lP.good (g':=fun v=>decide (1<=v)&&decide (v<=3)) (fun v=>by rw [Bool.eq_iff_iff];simp only [Bool.and_eq_true,decide_eq_true_eq];omega) (bJ.andThen'.mono fun y1 hy1 bJ H1 R1 F1=>?_)⟩
   obtain ⟨d1,e1⟩:=R1.obj
   refine ⟨_,rfl,r,d1,_,rfl,e1,rfl,?_⟩
   refine ⟨r,1,0,2,_,rfl,R1,.inl rfl,lP.good (g':=fun v=>decide (v<=2)) (fun v=>by rw [Bool.eq_iff_iff];simp only [Bool.and_eq_true,decide_eq_true_eq];omega) (bJ.andThen'.mono fun y2 Qa bJ H2 R2 F2=>?_)⟩
   obtain ⟨d2,e2⟩:=R2.obj
   have F:i9 [r] H H2:=F1.trans F2
   have hp2:=F p _ hp (by simpa using pr)
   refine ⟨_,rfl,_,rfl,_,rfl,fun o dx no nd ne=>?_⟩
   refine ⟨o,dx,p,⟨q.1,q.2,y1.1,y2.1⟩,rfl,ai,?_,fun H5 h5 F5=>⟨rfl,?_⟩⟩
   . rw [ak (aq hp2 no),ak (aq hp2 nd)];exact hp2
   . have F6:i9 [] H2 H5:=i9.made no nd F5
     exact bJ H5 (.ref o) (R2.stay F6 (by simp) (by simp) (by simp) (by simp)) (F.trans (F6.mono (by simp))) ⟨o,dx,rfl,F.fresh e2 no,h5⟩
end
end MP
namespace L2
open PySem PySem.Spec PyProof.Rows XL
def Mz (p:Addr) (Q:VK) (ps:List (V×V)) (H2:Hp):Prop:=H2 p=some (.dT [])/\∃ (k:List Key) (b:Addr) (y:V),ps=[(.ref b,y)]/\H2 b=some (.tup (k.map kV))/\Q (.ref p) (upd H2 p (.dT [(k,y)]))
def NS (tk tv:TE):TE:=fun σ H Q=>∀ p,H p=none->tk σ (upd H p (.dT [])) fun x H1=>tv σ H1 fun y H2=>Mz p Q [(x,y)] H2
theorem Jz {X:Cx} {pos:Pos} {e v:Expr} {tk tv:TE} (hu:X.A.units+1 < cLine) (hk:PE X e tk) (hv:PE X v tv):PE X (.Dict [some e] [v] pos) (NS tk tv):=by
 intro pins s σ H Q I q
 have hn:=I.hok.fresh (Nat.le_refl s.heap.objs.size)
 have I1:=I.laid (a:=s.heap.objs.size) (o:=.dT []) (h':=s.heap.push { cls:=.type "dict",data:=.dict #[] }) (t':=s.toks) (fun _ _ q=>Heap.get?_push_of_some _ q) (Nat.le_refl _) (BA s.heap I.big)
 have pp:=Ii (pos:=pos) hk hv K7
 refine wpAny_Dict_any rfl rfl (by simp) (by simp) (cU (pp pins _ σ _ (Mz s.heap.objs.size Q) I1 (q _ hn)) fun ws s2 ⟨ps,H2,I2,rel,e2,k,b,y,ep,eb,q2⟩=>?_)
 subst ep
 cases rel with
 | @cons p' w' as bs h t=>
   cases t
   obtain ⟨w1,w2⟩:=w'
   obtain ⟨h1,h2⟩:=h
   cases (show w1=Value.ref b from h1)
   obtain ⟨z,hd,xs,rl,dd⟩:=Mr I2.hok e2
   cases rl
   unfold storeAll
   rw [List.forIn_cons]
   refine wpAny_bind (wpAny_bind (wpAny_dictSet_heap (hsz:=Nat.zero_le _) (knd:=tupleKind (f7 X.prog X.w)) ?_ (wH I2.hok eb) dd fun h' dd' hs=>wpAny_pure ?_))
   . exact (by show X.A.units < cLine;omega)
   . show wpAny _ _ (forIn [] PUnit.unit _) _ _ _
     rw [List.forIn_nil]
     refine wpAny_pure ⟨.ref s.heap.objs.size,_,?_,rfl,q2⟩
     obtain ⟨q,es,ep,hq,g2,g3,g4,_,g5⟩:=dd'
     refine zK I2 (by rw [e2];exact True.intro) hs ⟨q,hq⟩ ⟨by show 1<=sizeLine;decide,hd,[(k,b,w2)],.cons ⟨rfl,?_,h2⟩ .nil,q,es,ep,hq,g2,g3,g4,g5⟩
     rw [ak (kg eb e2 (fun z=>nomatch z))]
     exact eb
end L2
namespace L2
open PySem PySem.Spec PyProof.Rows
section
variable {X:Cx}
def Qp (K:PySem.W.Frag):V->V->Hp->VK->Prop:=fun o i H Q=>∃ (p:Addr) (xs:List V) (j:Nat) (v:V),o=.ref p/\i=.int (j:Int)/\bM K H p xs/\xs[j]?=some v/\Q v H
theorem sZ:OS X (Qp X.K):=by
 intro pins s σ H o i ov iv Q I ro ri h
 obtain ⟨p,xs,j,z,rfl,rfl,hq,he,q⟩:=h
 cases ro
 obtain ⟨t,rfl⟩:=ri
 obtain ⟨its,r,pl,hz⟩:=I.list hq
 obtain ⟨w,ew,rw'⟩:=r.get he
 have hl:=r.length
 have hn:=tK
 have hj:j < xs.length:=(List.getElem?_eq_some_iff.mp he).1
 exact wpAny_getItem_list pl.isList (by omega) (by omega) (by simpa using ew) ⟨z,H,I,rw',q⟩
theorem EK {K0:PySem.W.Frag} {e:Expr} {f:Str} {pos:Pos} {ta:TE} (hK:X.K=K0) (he:PE X e ta) (hb:attributeBase e f X.env (eval e X.env)=eval e X.env):PE X (.Attribute e f pos) (Pb K0 ta f):=by
 rw [<- hK]
 exact aK he hb
theorem tu {n j:Nat} (h:j < n):HW n (j:Int)=some j:=by
 unfold HW
 rw [if_pos (by omega),if_pos (by omega)]
 simp
end
end L2
namespace MP
open PySem PySem.Spec PyProof.Rows L2
open XL (dz)
open Fk (Fault Bytes numIn need andThen Atom Bond Mol)
def vI (l:List Int):List V:=l.map V.int
section
variable {P:Program} {w:World} {K:PySem.W.Frag} {mg:Str->Option Value} {base:Heap} {t:Ad}
def Qq:Sp:=fun vs H Q _=>∃ o:Nat,vs=[.int (o:Int)]/\1<=o/\o<=3/\Q (.int ((2 ^ (o - 1):Nat):Int)) H
theorem NT:aL ["order"] ["order"] (aE ph):=⟨rfl,rfl,rfl,by decide +kernel,rfl,by decide +kernel,by decide +kernel⟩
theorem J0 (T:Txt K mg t):bB P w K mg base lS 1 t.gM t.jC ["order"] Qq:=by
 refine T.gT.ok NT (fun vs H Q E h=>?_) (fun cdv A outer s H vs Q E hr h=>?_)
 . obtain ⟨o,rfl,_⟩:=h
   rfl
 . obtain ⟨o,rfl,h1,h3,k⟩:=h
   refine ⟨_,aB (bA (fC Dr aM (fC oJ (pv 0) aM))),?_⟩
   refine ⟨_,rfl,_,_,rfl,rfl,_,_,rfl,rfl,⟨by omega,by omega,by decide⟩,?_⟩
   have e:(1:Int) * 2 ^ ((o:Int) - 1).toNat=((2 ^ (o - 1):Nat):Int):=by
     rw [show ((o:Int) - 1).toNat=o - 1 by omega]
     simp
   show Q (.int (1 * 2 ^ ((o:Int) - 1).toNat)) H
   rw [e]
   exact k
def Qs:Sp:=fun vs H Q _=>∃ (l:Int) (k:Nat),vs=[.int l,.int (k:Int)]/\k < 1000/\Q (.bl (JM.met l k)) H
theorem NU:aL ["left","bonds"] ["left","bonds"] (aE nj):=⟨rfl,rfl,rfl,by decide +kernel,rfl,by decide +kernel,by decide +kernel⟩
theorem NV (T:Txt K mg t):bB P w K mg base lS 1 t.fV t.iY ["left","bonds"] Qs:=by
 obtain ⟨OA,g1⟩:=T.lX
 obtain ⟨PY,g2⟩:=T.jy
 refine T.fY.ok NU (fun vs H Q E h=>?_) (fun cdv A outer s H vs Q E hr h=>?_)
 . obtain ⟨o,k,rfl,_⟩:=h
   rfl
 . obtain ⟨l,n,rfl,hn,k⟩:=h
   refine ⟨_,aB (bA (HK Ek Ek (fC Dq (b5 rfl g1 (v:=.int 1) ⟨_,rfl⟩) (pv 1)) (pv 0) (fC Dq (b5 rfl g2 (v:=.int 3) ⟨_,rfl⟩) (pv 1)))),?_⟩
   refine ⟨_,rfl,_,_,rfl,rfl,.inl ⟨by decide,by decide⟩,_,rfl,_,_,rfl,rfl,_,rfl,?_⟩
   have e:JM.met l n=(decide (1 * (n:Int)<=l)&&decide (l<=3 * (n:Int))):=by
     unfold JM.met
     rw [Int.one_mul]
   rw [e] at k
   refine BC (fun h=>?_) (fun h=>?_)
   . refine ⟨_,rfl,_,_,rfl,rfl,.inl ⟨by decide,by decide⟩,_,_,rfl,rfl,?_⟩
     rw [h,Bool.true_and] at k
     exact k
   . rw [Bool.not_eq_true] at h
     rw [h,Bool.false_and] at k
     exact k
def j6 (K:PySem.W.Frag) (H:Hp) (lb:Addr) (us:List V) (l:List (Nat×Nat)):Prop:=H lb=some (.lst us)/\us.length=l.length/\∀ (i:Nat) v q,us[i]?=some v->l[i]?=some q->mh K H v q
theorem j6.same {H H':Hp} {lb:Addr} {us:List V} {l:List (Nat×Nat)} (b:j6 K H lb us l) (f:aR H H'):j6 K H' lb us l:=
 ⟨f _ _ b.1,b.2.1,fun i v q h1 h2=>(b.2.2 i v q h1 h2).same f⟩
def J1 (K:PySem.W.Frag):Sp:=fun vs H Q _=>∃ (lb:Addr) (k v:Nat) (us:List V) (l:List (Nat×Nat)),vs=[.ref lb,.int (k:Int),.int (v:Int)]/\j6 K H lb us l/\k < l.length/\l.length<=1000 /\
 ∀ H',aR H H'->Q (.int (JM.mi (l.drop (k+1)) v:Int)) H'
theorem uo:aL ["bonds","k","atom","bond"] ["bonds","k","atom"] (aE kJ):=⟨rfl,rfl,rfl,by decide +kernel,rfl,by decide +kernel,by decide +kernel⟩
theorem J2 {xs:List V} {k:Nat} (h:k<=xs.length):Dz xs (some (k:Int)) none=xs.drop k:=by
 unfold Dz
 rw [HT.Kv,HT.HU,Nat.min_eq_left h]
 exact List.take_of_length_le (by rw [List.length_drop];omega)
theorem CH (l:List (Nat×Nat)) (q:Nat×Nat) (v:Nat):JM.mi (l++[q]) v=JM.mi l v+(if JM.ee q v=true then 1 else 0):=by
 unfold JM.mi
 rw [List.filter_append,List.length_append]
 congr 1
 cases h:JM.ee q v<;>simp [h]
theorem G7 (T:Txt K mg t):bB P w K mg base lS 1 t.dQ t.gO ["bonds","k","atom"] (J1 K):=by
 refine T.dW.ok uo (fun vs H Q E h=>?_) (fun cdv A outer s H vs Q E hr h=>?_)
 . obtain ⟨lb,k,v,us,l,rfl,_⟩:=h
   rfl
 . obtain ⟨lb,n,v,us,l,rfl,B,hn,hl,k⟩:=h
   refine ⟨_,aB (bA (cA aW (by rfl) T.jk PySem.boot_len (af (Ig rfl uo.nd (iQ (HV K1 (pv 0) (Ky (fC tH (pv 1) aM)) Kx)) (m5 (own:=[("bond",3)]) rfl) (fun _ _ _ _ _=>bu (i:=3) uo.nd rfl (Or.inl rfl))
     (fun _ _ _ _ _=>vt (PW.pt (HA (eL Ej (pv 2) (EK (K0:=K) rfl (pv 3) rfl) (fD _)) (Df (eL Ej (pv 2) (EK (K0:=K) rfl (pv 3) rfl) (fD _)))))) (fun _ _ _ _ _=>pv 3)) ay))),?_⟩
   refine ⟨_,rfl,_,rfl,_,_,rfl,rfl,_,rfl,lb,us,rfl,bM.of B.1,fun p hp=>?_⟩
   have e:Dz us (some ((n:Int)+1)) none=us.drop (n+1):=by
     rw [show (n:Int)+1=((n+1:Nat):Int) by omega]
     exact J2 (by rw [B.2.1];omega)
   rw [e]
   have sp:aR H (upd H p (.lst (us.drop (n+1)))):=aJ hp
   refine ⟨p,rfl,⟨_,bM.of ai⟩,fun D hD=>?_⟩
   have sD:aR H (upd (upd H p (.lst (us.drop (n+1)))) D (.lst [])):=sp.trans (aJ hD)
   have pD:p ≠ D:=fun z=>by rw [<- z,ai] at hD;cases hD
   refine vv (K:=K) (a:=p) (xs:=us.drop (n+1)) (fun i H'=>aR H H'/\H' p=some (.lst (us.drop (n+1)))/\∃ acc,H' D=some (.lst acc)/\acc.length=JM.mi ((l.drop (n+1)).take i) v) ⟨sD,by rw [ak pD];exact ai,[],ai,rfl⟩ (fun i H' _ h=>bM.of h.2.1) ?_ ?_
   . rintro i x H' hx ⟨sm,hp',acc,hD',hacc⟩
     have hil:i < l.length - (n+1):=by
       have:=(List.getElem?_eq_some_iff.mp hx).1
       rw [List.length_drop,B.2.1] at this
       exact this
     obtain ⟨q,hq⟩:∃ q,(l.drop (n+1))[i]?=some q:=⟨_,List.getElem?_eq_getElem (by rw [List.length_drop];exact hil)⟩
     have en:mh K H' x q:=((B.2.2 (n+1+i) x q (by rw [<- hx,List.getElem?_drop]) (by rw [<- hq,List.getElem?_drop]))).same sm
     obtain ⟨o,C,dx,fs,rfl,e1,cl,na,nb,ea,eb⟩:=en
     have tk:=MP.take_snoc hq
     have ac:acc.length < sizeLine:=by
       have:acc.length<=l.length:=by
         rw [hacc]
         refine Nat.le_trans (List.length_filter_le _ _) ?_
         rw [List.length_take,List.length_drop]
         omega
       rw [sizeLine_eq];omega
     have pd':D ≠ p:=Ne.symm pD
     have Qt:∀ ys,aR H (upd H' D (.lst ys)):=fun ys b u e=>by
       have:b ≠ D:=fun z=>by
         have h1:=sp b u e
         rw [z,hD] at h1;cases h1
       rw [ak this];exact sm b u e
     have go:JM.ee q v=true->∀ y,∃ acc,H' D=some (.lst acc)/\acc.length < sizeLine/\(aR H (upd H' D (.lst (acc++[y])))/\upd H' D (.lst (acc++[y])) p=some (.lst (us.drop (n+1)))/\∃ acc',upd H' D (.lst (acc++[y])) D=some (.lst acc')/\acc'.length=JM.mi ((l.drop (n+1)).take (i+1)) v):=fun ht y=>
       ⟨acc,hD',ac,Qt _,by rw [ak pD];exact hp',_,ai,by rw [tk,CH,ht,<- hacc];simp⟩
     have no:JM.ee q v=false->(aR H H'/\H' p=some (.lst (us.drop (n+1)))/\∃ acc',H' D=some (.lst acc')/\acc'.length=JM.mi ((l.drop (n+1)).take (i+1)) v):=fun ht=>
       ⟨sm,hp',acc,hD',by rw [tk,CH,ht,<- hacc];simp⟩
     refine ⟨rfl,_,rfl,_,rfl,o,C,dx,fs,_,rfl,e1,cl,na,ea,rfl,_,rfl,?_⟩
     by_cases h1:q.1=v
     . have ht:JM.ee q v=true:=by simp [JM.ee,h1]
       rw [decide_eq_true (by rw [h1])]
       exact ⟨_,rfl,go ht _⟩
     . rw [decide_eq_false (fun z=>h1 (by injection z with z;omega))]
       refine ⟨_,rfl,_,rfl,o,C,dx,fs,_,rfl,e1,cl,nb,eb,rfl,_,rfl,?_⟩
       by_cases h2:q.2=v
       . have ht:JM.ee q v=true:=by simp [JM.ee,h2]
         rw [decide_eq_true (by rw [h2])]
         exact ⟨_,rfl,go ht _⟩
       . have ht:JM.ee q v=false:=by simp [JM.ee,h1,h2]
         rw [decide_eq_false (fun z=>h2 (by injection z with z;omega))]
         exact no ht
   . rintro H' ⟨sm,hp',acc,hD',hacc⟩
     rw [List.length_drop,B.2.1,<- List.length_drop,List.take_length] at hacc
     refine ⟨D,acc,rfl,.inl (bM.of hD'),?_⟩
     rw [hacc]
     exact k H' sm
def NW (K:PySem.W.Frag):Sp:=fun vs H Q _=>∃ (st:Addr) (v:V) (o n:Nat) (s:List Int) (q:Nat×Nat),vs=[.ref st,v,.int (o:Int)]/\H st=some (.tup (vI s))/\mh K H v q/\q.1 < q.2/\q.2 < s.length/\s.length<=1000 /\
 ∀ H' p,aR H H'->H p=none->H' p=some (.tup (vI (JM.less s q o)))->Q (.ref p) H'
theorem EL:aL ["state","bond","order","left"] ["state","bond","order"] (aE ni):=⟨rfl,rfl,rfl,by decide +kernel,rfl,by decide +kernel,by decide +kernel⟩
theorem xM {l:List Int} {i:Nat} {x:Int} (f:Int->Int) (h:l[i]?=some x):l.set i (f x)=l.modify i f:=by
 refine List.ext_getElem? fun j=>?_
 rw [List.getElem?_modify,List.getElem?_set]
 by_cases e:i=j
 . subst e
   obtain ⟨hl,rfl⟩:=List.getElem?_eq_some_iff.mp h
   simp [hl]
 . simp [e]
theorem xN (l:List Int) (i:Nat) (x:Int):(vI l).set i (.int x)=vI (l.set i x):=by
 unfold vI
 rw [List.map_set]
theorem pY {l:List Int} {i:Nat} {x:Int} (h:l[i]?=some x):(vI l)[i]?=some (.int x):=by
 unfold vI
 rw [List.getElem?_map,h]
 rfl
theorem EM (T:Txt K mg t):bB P w K mg base lS 1 t.fU t.iX ["state","bond","order"] (NW K):=by
 refine T.fX.ok EL (fun vs H Q E h=>?_) (fun cdv A outer s H vs Q E hr h=>?_)
 . obtain ⟨st,v,o,n,s,q,rfl,_⟩:=h
   rfl
 . obtain ⟨st,v,o,n,NX,q,rfl,hst,en,h12,VW,hn,k⟩:=h
   refine ⟨_,au (aQ (i:=3) EL.nd rfl (Or.inl rfl) (tM zG (by rfl) T.II PyProof.Rows.boot_list (af (pv 0) ay)))
     (au (vq (pv 3) (aK (pv 1) rfl) sZ (pv 2) HC set_list)
     (au (vq (pv 3) (aK (pv 1) rfl) sZ (pv 2) HC set_list)
     (aB (bA (tM qO (by rfl) T.zQ PyProof.Rows.boot_tuple (af (pv 3) ay)))))),?_⟩
   obtain ⟨b,C,dx,fs,rfl,e1,cl,na,nb,ea,eb⟩:=en
   refine ⟨_,rfl,st,_,rfl,.inr (mr.of hst),fun l hl=>?_⟩
   have s1:aR H (upd H l (.lst (vI NX))):=aJ hl
   obtain ⟨x1,QT⟩:∃ x,NX[q.1]?=some x:=⟨_,List.getElem?_eq_getElem (by omega)⟩
   have hlen:(vI NX).length=NX.length:=by simp [vI]
   refine ⟨_,rfl,_,rfl,b,C,dx,fs,_,rfl,s1 _ _ e1,cl,na,ea,l,_,q.1,_,rfl,rfl,bM.of ai,pY QT,_,rfl,_,_,rfl,rfl,l,_,(q.1:Int),q.1,rfl,rfl,ai,tu (by rw [hlen];omega),?_⟩
   rw [xN,lA,xM (f:=fun x=>x - (o:Int)) QT]
   obtain ⟨x2,Hv⟩:∃ x,(NX.modify q.1 fun x=>x - (o:Int))[q.2]?=some x:=⟨_,List.getElem?_eq_getElem (by simp;omega)⟩
   have s2:aR H (upd H l (.lst (vI (NX.modify q.1 fun x=>x - (o:Int))))):=aJ hl
   refine ⟨_,rfl,_,rfl,b,C,dx,fs,_,rfl,s2 _ _ e1,cl,nb,eb,l,_,q.2,_,rfl,rfl,bM.of ai,pY Hv,_,rfl,_,_,rfl,rfl,l,_,(q.2:Int),q.2,rfl,rfl,ai,tu (by simp [vI];omega),?_⟩
   rw [xN,lA,xM (f:=fun x=>x - (o:Int)) Hv]
   refine ⟨_,rfl,l,_,rfl,.inl ⟨bM.of ai,fun p hp=>?_⟩⟩
   have s3:aR H (upd H l (.lst (vI (JM.less NX q o)))):=aJ hl
   exact k _ p (s3.trans (aJ hp)) (s3.free hp) ai
def ways (ys:List (Bond×Nat)):JM.nF:=ys.map fun z=>(JM.aT z,z.1.order)
def kZ (n:Nat) (z:JM.nF):List Int:=(List.range n).map fun v=>(JM.jg z v:Int)
def NY (K:PySem.W.Frag) (C:Addr):Sp:=fun vs H Q _=>∃ (n:Nat) (lb:Addr) (us:List V) (ys:List (Bond×Nat)) (D:Addr->Prop),vs=[.int (n:Int),.ref lb]/\n<=1000/\H lb=some (.lst us)/\bT (jn C) D H us ys /\
 (∀ q ∈ ys.map JM.aT,q.1 < q.2/\q.2 < n)/\∀ H' l,aR H H'->H l=none->H' l=some (.lst (vI (kZ n (ways ys))))->Q (.ref l) H'
theorem AL:aL ["n","bonds","sums","bond"] ["n","bonds"] (aE nh):=⟨rfl,rfl,rfl,by decide +kernel,rfl,by decide +kernel,by decide +kernel⟩
theorem jh {n:Nat} {f:Nat->Int} {v:Nat} (h:v < n):((List.range n).map f)[v]?=some (f v):=by
 rw [List.getElem?_map,List.getElem?_range h]
 rfl
theorem tw {n:Nat} {f:Nat->Int} {v:Nat} {x:Int}:((List.range n).map f).set v x=(List.range n).map fun u=>if u=v then x else f u:=by
 refine List.ext_getElem? fun j=>?_
 rw [List.getElem?_set]
 by_cases hj:j < n
 . rw [jh hj]
   by_cases e:v=j
   . subst e
     simp [hj]
   . have e':¬ j=v:=fun z=>e z.symm
     simp [e,e',jh hj]
 . have e1:((List.range n).map fun u=>if u=v then x else f u)[j]?=none:=List.getElem?_eq_none (by simp;omega)
   rw [e1]
   by_cases e:v=j
   . subst e;simp [hj]
   . rw [if_neg e]
     exact List.getElem?_eq_none (by simp;omega)
theorem zeros (n:Nat):(List.replicate n [V.int 0]).flatten=vI (kZ n []):=by
 unfold vI kZ
 rw [List.map_map]
 refine List.ext_getElem? fun j=>?_
 have e:(List.replicate n [V.int 0]).flatten=List.replicate n (V.int 0):=by
   induction n with
   | zero=>rfl
   | succ n ih=>rw [List.replicate_succ,List.flatten_cons,ih];rfl
 rw [e,List.getElem?_replicate]
 by_cases hj:j < n
 . rw [if_pos hj,List.getElem?_map,List.getElem?_range hj]
   rfl
 . rw [if_neg hj]
   exact (List.getElem?_eq_none (by simp;omega)).symm
theorem L3 (T:Txt K mg t):bB P w K mg base lS 1 t.fS t.iW ["n","bonds"] (NY K t.bX):=by
 refine T.ie.ok AL (fun vs H Q E h=>?_) (fun cdv A outer s H vs Q E hr h=>?_)
 . obtain ⟨n,lb,us,ys,D,rfl,_⟩:=h
   rfl
 . obtain ⟨n,lb,us,ys,D,rfl,hn,hlb,R,hq,k⟩:=h
   refine ⟨_,au (aQ (i:=2) AL.nd rfl (Or.inl rfl) (fC Ic (gC (af aM ay)) (pv 0)))
     (au (fj PassesOwn.never rfl (iQ (pv 1)) (bu (i:=3) AL.nd rfl (Or.inl rfl))
       (au (vq (pv 2) (aK (pv 3) rfl) sZ (aK (pv 3) rfl) Di set_list)
       (aB (vq (pv 2) (aK (pv 3) rfl) sZ (aK (pv 3) rfl) Di set_list))))
     (aB (bA (pv 2)))),?_⟩
   refine ⟨by show 1<=sizeLine;decide,fun p0 hp0=>⟨_,rfl,p0,_,_,rfl,rfl,ai,by omega,by omega,by rw [sizeLine_eq];simp;omega,fun l hl=>?_⟩⟩
   rw [Int.toNat_natCast,zeros]
   have s0:aR H (upd H p0 (.lst [V.int 0])):=aJ hp0
   have s1:aR H (upd (upd H p0 (.lst [V.int 0])) l (.lst (vI (kZ n [])))):=s0.trans (aJ hl)
   have Ud:H l=none:=s0.free hl
   refine ⟨_,rfl,lb,rfl,⟨_,bM.of (s1 _ _ hlb)⟩,?_⟩
   refine kE (K:=K) (a:=lb) (xs:=us) (fun i σ H'=>∃ vb,σ=[some (.int (n:Int)),some (.ref lb),some (.ref l),vb]/\aR H H'/\H' l=some (.lst (vI (kZ n ((ways ys).take i))))) ⟨none,rfl,s1,ai⟩ (fun i σ H' _ ⟨_,_,sm,_⟩=>bM.of (sm _ _ hlb)) ?_ ?_
   . rintro i x σ H' hx ⟨vb,rfl,sm,hl'⟩
     have hi:i < us.length:=(List.getElem?_eq_some_iff.mp hx).1
     obtain ⟨z,hz⟩:∃ z,ys[i]?=some z:=⟨_,List.getElem?_eq_getElem (by rw [<- R.len];exact hi)⟩
     obtain ⟨o,dx,rfl,_,rep⟩:=R.at_ i x z hx hz
     have Qu:=hq (JM.aT z) (List.mem_map_of_mem (List.mem_of_getElem? hz))
     have ez:(ways ys)[i]?=some (JM.aT z,z.1.order):=by unfold ways;rw [List.getElem?_map,hz];rfl
     have ol:o ≠ l:=fun q=>by
       have:=sm _ _ rep
       rw [q,hl'] at this;cases this
     have ln:∀ w:JM.nF,(vI (kZ n w)).length=n:=fun w=>by simp [vI,kZ]
     refine ⟨_,rfl,_,rfl,o,_,dx,_,_,rfl,sm _ _ rep,T.i8,T.je,rfl,l,_,z.1.a,_,rfl,rfl,bM.of hl',pY (jh (by have:z.1.a < z.1.b/\z.1.b < n:=Qu;omega)),?_⟩
     refine ⟨_,rfl,o,_,dx,_,_,rfl,sm _ _ rep,T.i8,T.iu,rfl,_,_,rfl,rfl,l,_,(z.1.a:Int),z.1.a,rfl,rfl,hl',tu (by rw [ln];have:z.1.a < z.1.b/\z.1.b < n:=Qu;omega),?_⟩
     have keep:∀ u,aR H (upd H' l u):=fun u b v e=>by
       rw [ak (aq e Ud)];exact sm b v e
     rw [xN]
     unfold kZ
     rw [tw]
     refine ⟨_,rfl,_,rfl,o,_,dx,_,_,rfl,keep _ _ _ rep,T.i8,T.jf,rfl,l,_,z.1.b,_,rfl,rfl,bM.of ai,pY (jh Qu.2),?_⟩
     refine ⟨_,rfl,o,_,dx,_,_,rfl,keep _ _ _ rep,T.i8,T.iu,rfl,_,_,rfl,rfl,l,_,(z.1.b:Int),z.1.b,rfl,rfl,ai,tu (by simp [vI];exact Qu.2),?_⟩
     rw [xN,tw,lA]
     refine ⟨_,rfl,keep _,?_⟩
     rw [ai,take_snoc ez]
     congr 3
     refine List.map_congr_left fun u hu=>?_
     rw [JM.uF,JM.kD,JM.C6]
     have hlt:z.1.a < z.1.b:=Qu.1
     by_cases h1:u=z.1.a
     . have h2:¬ u=z.1.b:=by omega
       have ht:JM.ee (JM.aT z) u=true:=by simp [JM.ee,JM.aT,h1]
       rw [if_neg h2,if_pos h1,if_pos ht,h1]
       simp
     . by_cases h2:u=z.1.b
       . have ht:JM.ee (JM.aT z) u=true:=by simp [JM.ee,JM.aT,h2]
         have h3:¬ z.1.b=z.1.a:=by omega
         rw [if_pos h2,if_pos ht,if_neg h3,h2]
         simp
       . have ht:¬ JM.ee (JM.aT z) u=true:=by
           simp [JM.ee,JM.aT]
           omega
         rw [if_neg h2,if_neg h1,if_neg ht]
         simp
   . rintro σ H' ⟨vb,rfl,sm,hl'⟩
     have e:(ways ys).take us.length=ways ys:=List.take_of_length_le (by unfold ways;rw [List.length_map,R.len];exact Nat.le_refl _)
     rw [e] at hl'
     exact ⟨_,rfl,k H' l sm Ud hl'⟩
end
def kI (s:List Int):List Key:=s.map Sum.inl
theorem AM (s:List Int):(kI s).map kV=vI s:=by
 unfold kI vI
 rw [List.map_map]
 rfl
theorem pZ {s u:List Int} (h:kI s=kI u):s=u:=List.map_inj_right (fun a b e=>by injection e) |>.mp h
structure vn (kvs:List (List Key×V)) (Pr:List Int->Prop):Prop where
 of:∀ kv ∈ kvs,∃ s,kv.1=kI s/\Pr s
 all:∀ s,Pr s->(j8 kvs (kI s)).isSome=true
theorem qc {kvs:List (List Key×V)} {k:List Key} (h:(j8 kvs k).isSome=true):∃ kv ∈ kvs,kv.1=k:=by
 rw [<- m6,List.any_eq_true] at h
 obtain ⟨kv,h1,h2⟩:=h
 exact ⟨kv,h1,of_decide_eq_true h2⟩
theorem J3 {kvs:List (List Key×V)} {kv:List Key×V} (h:kv ∈ kvs):(j8 kvs kv.1).isSome=true:=by
 rw [<- m6,List.any_eq_true]
 exact ⟨kv,h,decide_eq_true rfl⟩
theorem vn.iff {kvs:List (List Key×V)} {Pr:List Int->Prop} (d:vn kvs Pr) (s:List Int):(j8 kvs (kI s)).isSome=true ↔ Pr s:=
 ⟨fun h=>by
   obtain ⟨kv,h1,h2⟩:=qc h
   obtain ⟨u,e,p⟩:=d.of kv h1
   rw [e] at h2
   rw [<- pZ h2]
   exact p,d.all s⟩
theorem vn.nil:vn [] fun _=>False:=⟨fun kv h=>by simp at h,fun _ h=>h.elim⟩
theorem vn.put {kvs:List (List Key×V)} {Pr:List Int->Prop} (d:vn kvs Pr) (s:List Int) (v:V):vn (putK kvs (kI s) v) fun u=>Pr u\/u=s:=by
 refine ⟨fun kv h=>?_,fun u hu=>?_⟩
 . have:=J3 h
   rw [rP] at this
   by_cases e:kv.1=kI s
   . exact ⟨s,e,.inr rfl⟩
   . rw [if_neg e] at this
     obtain ⟨kv',h1,h2⟩:=qc this
     obtain ⟨u,e',p⟩:=d.of kv' h1
     exact ⟨u,h2 ▸ e',.inl p⟩
 . rw [rP]
   by_cases e:kI u=kI s
   . rw [if_pos e];rfl
   . rw [if_neg e]
     rcases hu with hu | hu
     . exact d.all u hu
     . exact absurd (by rw [hu]) e
theorem vn.eq {kvs:List (List Key×V)} {Pr Ue:List Int->Prop} (d:vn kvs Pr) (h:∀ s,Pr s ↔ Ue s):vn kvs Ue:=
 ⟨fun kv hk=>let ⟨s,e,p⟩:=d.of kv hk;⟨s,e,(h s).mp p⟩,fun s p=>d.all s ((h s).mpr p)⟩
theorem zq {d:Addr} {o:Obj} {kvs:List (List Key×V)} {g:TG} {tb:TS} {D:Ends} {σ:L2.St} {H:Hp} (Pv:Nat->L2.St->Hp->Prop) (h0:Pv 0 σ H) (hl:∀ i σ H,Pv i σ H->H d=some (.jN o (.dT kvs)))
   (hs:∀ i k v b σ H,kvs[i]?=some (k,v)->Pv i σ H->H b=some (.tup (k.map kV))->g (.ref b) σ H fun σ2 H2=>tb { D with nx:=Pv (i+1),ct:=Pv (i+1),bk:=D.nx } σ2 H2) (hd:∀ σ H,Pv kvs.length σ H->D.nx σ H) :
   ∃ W:Nat->Nat->L2.St->Hp->Prop,(∃ m,W 0 m σ H)/\∀ i m σ H,W i m σ H->
     ((Ik d o kvs).stop i H/\D.nx σ H)\/((Ik d o kvs).go i H/\∃ N:L2.St->Hp->Prop,(∀ σ' H',N σ' H'->∃ m',m' < m/\W (i+1) m' σ' H')/\∀ x H',(Ik d o kvs).HE i H x H'->g x σ H' fun σ2 H2=>tb { D with nx:=N,ct:=N,bk:=D.nx } σ2 H2):=by
 refine ⟨fun i m σ H=>m=kvs.length - i/\i<=kvs.length/\Pv i σ H,⟨kvs.length,by simp,Nat.zero_le _,h0⟩,?_⟩
 rintro i m σ H ⟨rfl,hi,p⟩
 have q:=hl i σ H p
 by_cases hlt:i < kvs.length
 . refine .inr ⟨⟨q,hlt⟩,Pv (i+1),fun σ' H' p'=>⟨kvs.length - (i+1),by omega,rfl,hlt,p'⟩,fun x H' y=>?_⟩
   obtain ⟨rfl,k,v,b,e,rfl,hb⟩:=y
   exact hs i k v b σ _ e p hb
 . have e:i=kvs.length:=by omega
   subst e
   exact .inl ⟨⟨q,Nat.le_refl _⟩,hd σ H p⟩
section
variable {P:Program} {w:World} {K:PySem.W.Frag} {mg:Str->Option Value} {base:Heap} {t:Ad}
def OB (q:Nat×Nat) (b1 b2:Nat) (s:List Int) (o:Nat) (s':List Int):Prop:=s'=JM.less s q o/\JM.met (s'.getD q.1 0) b1=true/\JM.met (s'.getD q.2 0) b2=true
def J9 (K:PySem.W.Frag):Sp:=fun vs H Q _=>∃ (d lb:Addr) (k n:Nat) (kvs:List (List Key×V)) (Pr:List Int->Prop) (us:List V) (l:List (Nat×Nat)) (q:Nat×Nat),vs=[.ref d,.ref lb,.int (k:Int)]/\H d=some (.dT kvs)/\vn kvs Pr/\(∀ s,Pr s->s.length=n) /\
 j6 K H lb us l/\l[k]?=some q/\l.length<=1000/\n<=1000/\q.1 < q.2/\q.2 < n/\3 * kvs.length<=10000000 /\
 ∀ H' d' kvs',aR H H'->H d'=none->H' d'=some (.dT kvs')->vn kvs' (fun s'=>∃ s o,Pr s/\(1<=o/\o<=3)/\OB q (JM.mi (l.drop (k+1)) q.1) (JM.mi (l.drop (k+1)) q.2) s o s')->kvs'.length<=3 * kvs.length->Q (.ref d') H'
theorem iO:aL ["states","bonds","k","bond","at_a","at_b","found","state","order","left"] ["states","bonds","k"] (aE iG):=⟨rfl,rfl,rfl,by decide +kernel,rfl,by decide +kernel,by decide +kernel⟩
theorem G8 (T:Txt K mg t):bB P w K mg base lS 2 t.c6 t.gm ["states","bonds","k"] (J9 K):=by
 have GB:=@G7 P w K mg base t T
 have GL:=@EM P w K mg base t T
 have GM:=@NV P w K mg base t T
 refine T.eB.ok iO (fun vs H Q E h=>?_) (fun cdv A outer s H vs Q E hr h=>?_)
 . obtain ⟨d,lb,k,n,kvs,Pr,us,l,q,rfl,_⟩:=h
   rfl
 . obtain ⟨d,lb,n0,n,kvs,Pr,us,l,q,rfl,hd,SD,VX,B,hq,hl,hn,h12,VW,hsz,k⟩:=h
   have hu:=hr.un
   have hu':(A.deeper (envOfC "states_behind" (aE iG) s.heap.objs.size t.c6 cdv)).units+1 < cLine:=by omega
   refine ⟨_,au (aQ (i:=3) iO.nd rfl (Or.inl rfl) (dM bF (pv 1) (pv 2) (fun _ _=>rfl)))
     (au (aQ (i:=4) iO.nd rfl (Or.inl rfl) (bE GB hr rfl T.kO T.dW.kp T.kN .nil cB (af (pv 1) (af (pv 2) (af (aK (pv 3) rfl) ay)))))
     (au (aQ (i:=5) iO.nd rfl (Or.inl rfl) (bE GB hr rfl T.kO T.dW.kp T.kN .nil cB (af (pv 1) (af (pv 2) (af (aK (pv 3) rfl) ay)))))
     (au (aQ (i:=6) iO.nd rfl (Or.inl rfl) wI)
     (au (Ey (fj PassesOwn.never rfl (Ez (pv 0)) (bu (i:=7) iO.nd rfl (Or.inl rfl))
       (aB (fj PassesOwn.never rfl (Dm (b5 rfl T.wZ (v:=.ref t.gu) rfl)) (bu (i:=8) iO.nd rfl (Or.inl rfl))
         (au (aQ (i:=9) iO.nd rfl (Or.inl rfl) (bE GL hr rfl T.n6 T.fX.kp T.nv .nil cB (af (pv 7) (af (pv 3) (af (pv 8) ay)))))
         (aB (mw (PW.pt (z7 (tG (bE GM hr rfl T.n8 T.fY.kp T.ny .nil cB (af (dM zD (pv 9) (aK (pv 3) rfl) (fun _ _=>rfl)) (af (pv 4) ay))))
             (vo (tG (bE GM hr rfl T.n8 T.fY.kp T.ny .nil cB (af (dM zD (pv 9) (aK (pv 3) rfl) (fun _ _=>rfl)) (af (pv 5) ay)))))))
           (aB (vy hu' (pv 6) (pv 9) Ef rfl)) gY)))))))
     (aB (bA (pv 6))))))),?_⟩
   have hk:n0 < l.length:=(List.getElem?_eq_some_iff.mp hq).1
   obtain ⟨bv,hbv⟩:∃ v,us[n0]?=some v:=⟨_,List.getElem?_eq_getElem (by rw [B.2.1];exact hk)⟩
   have en:=B.2.2 n0 bv q hbv hq
   obtain ⟨o,C,dx,fs,rfl,e1,cl,na,nb,ea,eb⟩:=id en
   refine ⟨_,rfl,_,rfl,lb,us,_,_,rfl,rfl,bM.of B.1,bK hbv,?_⟩
   refine ⟨_,rfl,_,rfl,_,rfl,o,C,dx,fs,_,rfl,e1,cl,na,ea,?_⟩
   refine ⟨lb,n0,q.1,us,l,rfl,B,hk,hl,fun H1 s1=>?_⟩
   refine ⟨_,rfl,_,rfl,_,rfl,o,C,dx,fs,_,rfl,s1 _ _ e1,cl,nb,eb,?_⟩
   refine ⟨lb,n0,q.2,us,l,rfl,B.same s1,hk,hl,fun H2 s2=>?_⟩
   intro fd hfd
   have s12:aR H H2:=s1.trans s2
   have s3:aR H (upd H2 fd (.dT [])):=s12.trans (aJ hfd)
   have JA:H fd=none:=s12.free hfd
   have Sx:fd ≠ d:=fun z=>by rw [z,hd] at JA;cases JA
   have bd:∀ v,JM.mi (l.drop (n0+1)) v < 1000:=fun v=>by
     have:=List.length_filter_le (fun q=>JM.ee q v) (l.drop (n0+1))
     rw [List.length_drop] at this
     unfold JM.mi
     omega
   refine ⟨d,_,s3 _ _ hd,True.intro,fun od=>?_⟩
   refine ⟨_,rfl,d,od,rfl,.inr ⟨kvs,ai,?_⟩⟩
   let NZ:Nat->List Int->Prop:=fun i s'=>∃ i' kv s o,i' < i/\kvs[i']?=some kv/\kv.1=kI s/\(1<=o/\o<=3)/\OB q (JM.mi (l.drop (n0+1)) q.1) (JM.mi (l.drop (n0+1)) q.2) s o s'
   refine zq (d:=d) (o:=od) (kvs:=kvs) (fun i σ H'=>∃ v7 v8 v9 kv,σ=[some (.ref d),some (.ref lb),some (.int (n0:Int)),some (.ref o),some (.int (JM.mi (l.drop (n0+1)) q.1:Int)),some (.int (JM.mi (l.drop (n0+1)) q.2:Int)),some (.ref fd),v7,v8,v9] /\
     (∀ b u,H b=some u->b ≠ d->H' b=some u)/\H' d=some (.jN od (.dT kvs))/\H' fd=some (.dT kv)/\vn kv (NZ i)/\kv.length<=3 * i)
     ⟨none,none,none,[],rfl,fun b u e n=>by rw [ak n];exact s3 b u e,ai,by rw [ak Sx];exact ai,vn.nil.eq fun s=>⟨fun h=>h.elim,fun ⟨i',_,_,_,h,_⟩=>by omega⟩,Nat.zero_le _⟩ (fun i σ H' ⟨_,_,_,_,_,_,h,_⟩=>h) ?_ ?_
   . rintro i ky v b σ HY JB ⟨v7,v8,v9,kv,rfl,kp,VY,Ug,SY,lY⟩ hb
     have hi:i < kvs.length:=(List.getElem?_eq_some_iff.mp JB).1
     obtain ⟨si,ek,hsi⟩:=SD.of (ky,v) (List.mem_of_getElem? JB)
     simp only at ek
     subst ek
     rw [AM] at hb
     have sl:si.length=n:=VX si hsi
     refine ⟨t.gu,rfl,⟨_,T.pL HY⟩,?_⟩
     refine zA (K:=K) (a:=t.gu) (xs:=[.int 1,.int 2,.int 3]) (fun j σ H'=>∃ v8 v9 kv,σ=[some (.ref d),some (.ref lb),some (.int (n0:Int)),some (.ref o),some (.int (JM.mi (l.drop (n0+1)) q.1:Int)),some (.int (JM.mi (l.drop (n0+1)) q.2:Int)),some (.ref fd),some (.ref b),v8,v9] /\
       (∀ b u,HY b=some u->b ≠ fd->H' b=some u)/\H' fd=some (.dT kv)/\vn kv (fun s'=>NZ i s'\/∃ o,(1<=o/\o<=j)/\OB q (JM.mi (l.drop (n0+1)) q.1) (JM.mi (l.drop (n0+1)) q.2) si o s')/\kv.length<=3 * i+j)
       ⟨v8,v9,kv,rfl,fun b u e _=>e,Ug,SY.eq fun s=>⟨.inl,fun h=>by rcases h with h | ⟨o,h,_⟩;exact h;omega⟩,by omega⟩ (fun j σ H' _ _=>T.pL H') ?_ ?_
     . rintro j x σ H' hx ⟨v8,v9,kv,rfl,kq,hf',S',l'⟩
       have hj:j < 3:=by simpa using (List.getElem?_eq_some_iff.mp hx).1
       obtain rfl:x=.int ((j+1:Nat):Int):=by
         have:j=0\/j=1\/j=2:=by omega
         rcases this with r | r | r<;>subst r<;>simp at hx<;>rw [<- hx]<;>rfl
       have bf:b ≠ fd:=fun z=>by rw [z,Ug] at hb;cases hb
       have oo:∀ u,H o=some u->H' o=some u:=fun u e=>kq _ _ (kp _ _ e (fun z=>by rw [z,hd] at e1;cases e1)) (fun z=>by rw [z,JA] at e1;cases e1)
       refine ⟨_,rfl,_,rfl,_,rfl,?_⟩
       refine ⟨b,.ref o,j+1,n,si,q,rfl,kq _ _ hb bf,⟨o,C,dx,fs,rfl,oo _ e1,cl,na,nb,ea,eb⟩,h12,by omega,by omega,fun H5 p s5 np hp=>?_⟩
       have ll:(JM.less si q (j+1)).length=n:=(JM.C8 _ _ _).trans sl
       obtain ⟨y1,hy1⟩:∃ y,(JM.less si q (j+1))[q.1]?=some y:=⟨_,List.getElem?_eq_getElem (by omega)⟩
       obtain ⟨y2,Qa⟩:∃ y,(JM.less si q (j+1))[q.2]?=some y:=⟨_,List.getElem?_eq_getElem (by omega)⟩
       have d1:(JM.less si q (j+1)).getD q.1 0=y1:=by rw [List.getD,hy1];rfl
       have d2:(JM.less si q (j+1)).getD q.2 0=y2:=by rw [List.getD,Qa];rfl
       have o5:=s5 _ _ (oo _ e1)
       have JC:=s5 _ _ hf'
       have M0:∀ b u,HY b=some u->b ≠ fd->H5 b=some u:=fun b u e n=>s5 _ _ (kq b u e n)
       have no:¬ OB q (JM.mi (l.drop (n0+1)) q.1) (JM.mi (l.drop (n0+1)) q.2) si (j+1) (JM.less si q (j+1))->vn kv (fun s'=>NZ i s'\/∃ o,(1<=o/\o<=j+1)/\OB q (JM.mi (l.drop (n0+1)) q.1) (JM.mi (l.drop (n0+1)) q.2) si o s'):=fun hno=>S'.eq fun s'=>by
         constructor
         . rintro (h | ⟨o,h,r⟩)
           . exact .inl h
           . exact .inr ⟨o,⟨h.1,by omega⟩,r⟩
         . rintro (h | ⟨o,h,r⟩)
           . exact .inl h
           . by_cases e:o=j+1
             . subst e
               exact absurd (r.1 ▸ r) hno
             . exact .inr ⟨o,⟨h.1,by omega⟩,r⟩
       refine ⟨_,rfl,_,rfl,o,C,dx,fs,_,rfl,o5,cl,na,ea,p,_,_,_,rfl,rfl,mr.of hp,bK (pY hy1),_,rfl,?_⟩
       refine ⟨y1,_,rfl,bd _,⟨_,rfl,?_⟩⟩
       cases m1:JM.met y1 (JM.mi (l.drop (n0+1)) q.1) with
       | false=>exact ⟨_,_,kv,rfl,M0,JC,no (fun r=>by have z:=r.2.1;rw [d1,m1] at z;cases z),by omega⟩
       | true=>
         refine ⟨_,rfl,_,rfl,o,C,dx,fs,_,rfl,o5,cl,nb,eb,p,_,_,_,rfl,rfl,mr.of hp,bK (pY Qa),_,rfl,?_⟩
         refine ⟨y2,_,rfl,bd _,⟨_,rfl,?_⟩⟩
         cases m2:JM.met y2 (JM.mi (l.drop (n0+1)) q.2) with
         | false=>exact ⟨_,_,kv,rfl,M0,JC,no (fun r=>by have z:=r.2.2;rw [d2,m2] at z;cases z),by omega⟩
         | true=>
           have r:OB q (JM.mi (l.drop (n0+1)) q.1) (JM.mi (l.drop (n0+1)) q.2) si (j+1) (JM.less si q (j+1)):=⟨rfl,by rw [d1];exact m1,by rw [d2];exact m2⟩
           refine ⟨_,rfl,_,rfl,fd,_,rfl,B8.t (k:=kI (JM.less si q (j+1))) JC (by rw [AM];exact hp) (by rw [sizeLine_eq];omega),?_⟩
           refine ⟨_,_,_,rfl,fun b u e n=>by rw [ak n];exact M0 b u e n,ai,(S'.put _ _).eq fun s'=>?_,?_⟩
           . constructor
             . rintro ((h | ⟨o,h,r'⟩) | h)
               . exact .inl h
               . exact .inr ⟨o,⟨h.1,by omega⟩,r'⟩
               . subst h;exact .inr ⟨j+1,⟨by omega,by omega⟩,r⟩
             . rintro (h | ⟨o,h,r'⟩)
               . exact .inl (.inl h)
               . by_cases e:o=j+1
                 . subst e;exact .inr r'.1
                 . exact .inl (.inr ⟨o,⟨h.1,by omega⟩,r'⟩)
           . have:=iL kv (kI (JM.less si q (j+1))) (V.bl true)
             omega
     . rintro σ H' ⟨v8,v9,kv,rfl,kq,hf',S',l'⟩
       refine ⟨_,_,_,kv,rfl,fun b' u e n=>kq b' u (kp b' u e n) (fun z=>by rw [z,JA] at e;cases e),kq _ _ VY (Ne.symm Sx),hf',S'.eq fun s'=>?_,?_⟩
       . constructor
         . rintro (⟨i',kv',s,o,h1,h2,h3,h4,h5⟩ | ⟨o,h,r⟩)
           . exact ⟨i',kv',s,o,by omega,h2,h3,h4,h5⟩
           . exact ⟨i,_,si,o,by omega,JB,rfl,⟨h.1,h.2⟩,r⟩
         . rintro ⟨i',kv',s,o,h1,h2,h3,h4,h5⟩
           by_cases e:i'=i
           . subst e
             rw [JB] at h2
             cases h2
             have:=pZ h3
             subst this
             exact .inr ⟨o,h4,h5⟩
           . exact .inl ⟨i',kv',s,o,by omega,h2,h3,h4,h5⟩
       . have:([V.int 1,V.int 2,V.int 3]:List V).length=3:=rfl
         omega
   . rintro σ H' ⟨v7,v8,v9,kv,rfl,kp,hd',hf',S',l'⟩
     refine ⟨hd',_,rfl,k _ fd kv (fun b u e=>?_) JA (by rw [ak Sx];exact hf') (S'.eq fun s'=>?_) l'⟩
     . by_cases z:b=d
       . subst z
         rw [hd] at e
         cases e
         exact ai
       . rw [ak z]
         exact kp b u e z
     . constructor
       . rintro ⟨i',kv',s,o,h1,h2,h3,h4,h5⟩
         obtain ⟨s2',e,p⟩:=SD.of kv' (List.mem_of_getElem? h2)
         have:s=s2':=pZ (h3.symm.trans e)
         subst this
         exact ⟨s,o,p,h4,h5⟩
       . rintro ⟨s,o,p,h4,h5⟩
         obtain ⟨kv',h1,h2⟩:=qc (SD.all s p)
         obtain ⟨i',h3⟩:=List.getElem?_of_mem h1
         exact ⟨i',kv',s,o,(List.getElem?_eq_some_iff.mp h3).1,h3,h2,h4,h5⟩
end
theorem JD (P:Nat->Prop) {o:Nat} (h1:1<=o) (h3:o<=3):Builtin.bitOr (JM.iz P:Int) ((2 ^ (o - 1):Nat):Int)=(JM.iz (fun x=>P x\/x=o):Int):=by
 have:o=1\/o=2\/o=3:=by omega
 unfold JM.iz
 by_cases p1:P 1<;>by_cases p2:P 2<;>by_cases p3:P 3<;>rcases this with r | r | r<;>subst r<;>simp [p1,p2,p3]<;>decide
theorem qd {P P':Nat->Prop} (h:∀ o,1<=o->o<=3->(P o ↔ P' o)):JM.iz P=JM.iz P':=by
 have h1:=h 1 (by decide) (by decide)
 have h2:=h 2 (by decide) (by decide)
 have h3:=h 3 (by decide) (by decide)
 have e1:=propext h1
 have e2:=propext h2
 have e3:=propext h3
 unfold JM.iz
 rw [e1,e2,e3]
theorem DT {P:Nat->Prop} (h:∀ o,¬ P o):JM.iz P=0:=by
 unfold JM.iz
 simp [h]
section
variable {P:Program} {w:World} {K:PySem.W.Frag} {mg:Str->Option Value} {base:Heap} {t:Ad}
noncomputable def vO (S:List Int) (bs:List (Nat×Nat)):List Int:=(List.range bs.length).map fun k=>(JM.iz (JM.Found S bs k):Int)
def G9 (K:PySem.W.Frag):Sp:=fun vs H Q _=>∃ (ls lb:Addr) (n:Nat) (S:List Int) (us:List V) (bs:List (Nat×Nat)),vs=[.ref ls,.ref lb]/\H ls=some (.lst (vI S))/\S.length=n/\n<=1000/\j6 K H lb us bs/\bs.length<=12 /\
 (∀ q ∈ bs,q.1 < q.2/\q.2 < n)/\∀ H' l,aR H H'->H l=none->H' l=some (.lst (vI (vO S bs)))->Q (.ref l) H'
theorem fu:aL ["sums","bonds","levels","k","found","ending_well","ahead","state","order"] ["sums","bonds"] (aE gZ):=⟨rfl,rfl,rfl,by decide +kernel,rfl,by decide +kernel,by decide +kernel⟩
theorem DU (T:Txt K mg t):bB P w K mg base lS 3 t.bO t.fH ["sums","bonds"] (G9 K):=by
 have GS:=@G8 P w K mg base t T
 have GL:=@EM P w K mg base t T
 have GB:=@J0 P w K mg base t T
 refine T.dH.ok fu (fun vs H Q E h=>?_) (fun cdv A outer s H vs Q E hr h=>?_)
 . obtain ⟨ls,lb,n,S,us,bs,rfl,_⟩:=h
   rfl
 . obtain ⟨ls,lb,n,S,us,bs,rfl,hls,hS,hn,B,hm,Uh,k⟩:=h
   have hu:=hr.un
   have hu':(A.deeper (envOfC "redrawn_orders" (aE gZ) s.heap.objs.size t.bO cdv)).units+1 < cLine:=by omega
   have hr1:cK 1 _:=hr.mono (by decide)
   refine ⟨_,au (aQ (i:=2) fu.nd rfl (Or.inl rfl) (gC (af (Jz hu' (tM qO (by rfl) T.zQ PyProof.Rows.boot_tuple (af (pv 0) ay)) Ef) ay)))
     (au (fj PassesOwn.never rfl (k9 rfl T.lM (af (cA aW (by rfl) T.jk PySem.boot_len (af (pv 1) ay)) ay)) (bu (i:=3) fu.nd rfl (Or.inl rfl))
       (aB (bV (nJ PySem.F.plainAttrs_list PySem.F.slot_list_append PySem.F.type_list_append fE (pv 2) (af (bE GS hr rfl T.nX T.eB.kp T.nQ .nil cB (af (dM bF (pv 2) (pv 3) (fun _ _=>rfl)) (af (pv 1) (af (pv 3) ay)))) ay)))))
     (au (aQ (i:=4) fu.nd rfl (Or.inl rfl) (fC Ic (gC (af aM ay)) (cA aW (by rfl) T.jk PySem.boot_len (af (pv 1) ay))))
     (au (aQ (i:=5) fu.nd rfl (Or.inl rfl) (dM bF (pv 2) (cA aW (by rfl) T.jk PySem.boot_len (af (pv 1) ay)) (fun _ _=>rfl)))
     (au (fj PassesOwn.never rfl (FG rfl T.lM (af (fC oJ (cA aW (by rfl) T.jk PySem.boot_len (af (pv 1) ay)) aM) (af (wu rg aM) (af (wu rg aM) ay)))) (bu (i:=3) fu.nd rfl (Or.inl rfl))
       (au (aQ (i:=6) fu.nd rfl (Or.inl rfl) wI)
       (au (Ey (fj PassesOwn.never rfl (Ez (dM bF (pv 2) (pv 3) (fun _ _=>rfl))) (bu (i:=7) fu.nd rfl (Or.inl rfl))
         (aB (fj PassesOwn.never rfl (Dm (b5 rfl T.wZ (v:=.ref t.gu) rfl)) (bu (i:=8) fu.nd rfl (Or.inl rfl))
           (aB (mw (MK (Ni hu' (bE GL hr1 rfl T.n6 T.fX.kp T.nv .nil cB (af (pv 7) (af (dM bF (pv 1) (pv 3) (fun _ _=>rfl)) (af (pv 8) ay)))) (pv 5)))
             (au (MR (fC Ml (dM bF (pv 4) (pv 3) (fun _ _=>rfl)) (bE GB hr1 rfl T.pC T.gT.kp T.p8 .nil cB (af (pv 8) ay))) (MO (pv 4) (pv 3) set_list))
             (aB (vy hu' (pv 6) (pv 7) Ef rfl))) gY))))))
       (aB (aQ (i:=5) fu.nd rfl (Or.inl rfl) (pv 6))))))
     (aB (bA (pv 4))))))),?_⟩
   intro d0 hd0
   have sa:aR H (upd H d0 (.dT [])):=aJ hd0
   refine ⟨_,rfl,ls,_,rfl,.inl ⟨bM.of (sa _ _ hls),fun pt Sy=>?_⟩⟩
   have sb:aR H (upd (upd H d0 (.dT [])) pt (.tup (vI S))):=sa.trans (aJ Sy)
   have Sz:d0 ≠ pt:=fun z=>by rw [<- z,ai] at Sy;cases Sy
   refine ⟨by rw [ak Sz];exact ai,kI S,pt,_,rfl,by rw [ai,AM],?_⟩
   have sc:aR H (upd (upd (upd H d0 (.dT [])) pt (.tup (vI S))) d0 (.dT [(kI S,V.bl true)])):=fun b u e=>by rw [ak (aq e hd0)];exact sb b u e
   refine ⟨by show 1<=sizeLine;decide,fun ll QU=>?_⟩
   have sd:aR H (upd (upd (upd (upd H d0 (.dT [])) pt (.tup (vI S))) d0 (.dT [(kI S,V.bl true)])) ll (.lst [.ref d0])):=sc.trans (aJ QU)
   have S0:H ll=none:=sc.free QU
   have Lv:∀ {H1 H2:Hp} {ds:List Addr},(∀ (j:Nat) d,ds[j]?=some d->∃ kvs,H1 d=some (.dT kvs)/\vn kvs (JM.AJ S bs j)/\kvs.length<=3 ^ j)->(∀ b kvs,H1 b=some (.dT kvs)->H2 b=some (.dT kvs))->∀ (j:Nat) d,ds[j]?=some d->∃ kvs,H2 d=some (.dT kvs)/\vn kvs (JM.AJ S bs j)/\kvs.length<=3 ^ j:=
     fun L f j d hd=>let ⟨kvs,a,b⟩:=L j d hd;⟨kvs,f _ _ a,b⟩
   have Qv:us.length=bs.length:=B.2.1
   refine ⟨_,rfl,lb,us,rfl,.inl (bM.of (sd _ _ B.1)),(us.length:Int),rfl,by omega,by omega,?_⟩
   rw [Int.toNat_natCast]
   refine qj (n:=us.length) (fun i σ H'=>∃ vk ds,σ=[some (.ref ls),some (.ref lb),some (.ref ll),vk,none,none,none,none,none]/\aR H H'/\H' ll=some (.lst (ds.map V.ref))/\ds.length=i+1 /\
     ∀ (j:Nat) d,ds[j]?=some d->∃ kvs,H' d=some (.dT kvs)/\vn kvs (JM.AJ S bs j)/\kvs.length<=3 ^ j) ⟨none,[d0],rfl,sd,ai,rfl,fun j d hd=>?_⟩ ?_ ?_
   . cases j with
     | succ j=>simp at hd
     | zero=>
       obtain rfl:d0=d:=by simpa using hd
       have dl:d0 ≠ ll:=fun z=>by rw [<- z,ai] at QU;cases QU
       refine ⟨[(kI S,V.bl true)],by rw [ak dl];exact ai,⟨fun kv hk=>⟨S,by rw [List.mem_singleton.mp hk],rfl⟩,fun s hs=>?_⟩,Nat.le_refl _⟩
       rw [show s=S from hs,gc rfl]
       rfl
   . rintro i σ H' hi ⟨vk,ds,rfl,sm,hl',hds,L⟩
     obtain ⟨di,hdi⟩:∃ d,ds[i]?=some d:=⟨_,List.getElem?_eq_getElem (by omega)⟩
     obtain ⟨kvs,hk,SD,VZ⟩:=L i di hdi
     have hi':i < bs.length:=by omega
     obtain ⟨q,hq⟩:∃ q,bs[i]?=some q:=⟨_,List.getElem?_eq_getElem hi'⟩
     have Mx:=Uh q (List.mem_of_getElem? hq)
     have p3:3 ^ i<=3 ^ 11:=Nat.pow_le_pow_right (by decide) (by omega)
     have e1:(ds.map V.ref)[i]?=some (V.ref di):=by rw [List.getElem?_map,hdi];rfl
     rw [Int.zero_add]
     have WX:(3:Nat) ^ 11=177147:=by decide
     have pk:3 * kvs.length<=10000000:=by omega
     refine ⟨_,rfl,.inl ⟨rfl,_,bM.of hl'⟩,_,rfl,_,rfl,ll,_,_,_,rfl,rfl,bM.of hl',bK e1,_,rfl,_,rfl,?_⟩
     refine ⟨di,lb,i,n,kvs,JM.AJ S bs i,us,bs,q,rfl,hk,SD,fun s hs=>hs.len.trans hS,B.same sm,hq,by omega,hn,Mx.1,Mx.2,pk,fun H2 d' kvs' s2 nd' hd' Wa hl2=>?_⟩
     have hl2':=s2 _ _ hl'
     refine ⟨ll,_,_,rfl,rfl,hl2',by rw [sizeLine_eq,List.length_map];omega,?_⟩
     have dl:∀ b kvs,H2 b=some (.dT kvs)->b ≠ ll:=fun b kvs e z=>by rw [z,hl2'] at e;cases e
     refine ⟨_,ds++[d'],rfl,fun b u e=>by rw [ak (aq e S0)];exact s2 _ _ (sm b u e),by rw [ai];simp,by simp [hds],fun j d hd=>?_⟩
     rcases Nat.lt_or_ge j ds.length with hj | hj
     . rw [List.getElem?_append_left hj] at hd
       obtain ⟨Wb,a,b,c⟩:=L j d hd
       exact ⟨Wb,by rw [ak (dl _ _ (s2 _ _ a))];exact s2 _ _ a,b,c⟩
     . have ej:j=ds.length:=by
         have:=(List.getElem?_eq_some_iff.mp hd).1
         simp at this
         omega
       subst ej
       rw [List.getElem?_append_right (Nat.le_refl _),Nat.sub_self] at hd
       obtain rfl:d'=d:=by simpa using hd
       refine ⟨kvs',by rw [ak (dl _ _ hd')];exact hd',?_,?_⟩
       . rw [hds]
         refine Wa.eq fun s'=>?_
         constructor
         . rintro ⟨s,o,h1,h2,h3,h4,h5⟩
           exact ⟨s,q,o,h1,hq,h2,h3,h4,h5⟩
         . rintro ⟨s,q',o,h1,h6,h2,h3,h4,h5⟩
           rw [hq] at h6
           cases h6
           exact ⟨s,o,h1,h2,h3,h4,h5⟩
       . rw [hds,Nat.pow_succ]
         omega
   . rintro σ H1 ⟨vk,ds,rfl,sm,hl1,hds,L⟩
     refine ⟨by show 1<=sizeLine;decide,fun p0 hp0=>?_⟩
     have s1:aR H1 (upd H1 p0 (.lst [V.int 0])):=aJ hp0
     refine ⟨_,rfl,lb,us,rfl,.inl (bM.of (s1 _ _ (sm _ _ B.1))),p0,_,_,rfl,rfl,ai,by omega,by omega,by rw [sizeLine_eq];simp;omega,fun lf Oa=>?_⟩
     rw [Int.toNat_natCast,zeros]
     have s2:aR H1 (upd (upd H1 p0 (.lst [V.int 0])) lf (.lst (vI (kZ us.length [])))):=s1.trans (aJ Oa)
     have Qw:H1 lf=none:=s1.free Oa
     have L4:H lf=none:=sm.free Qw
     obtain ⟨dm,Ui⟩:∃ d,ds[us.length]?=some d:=⟨_,List.getElem?_eq_getElem (by omega)⟩
     have em:(ds.map V.ref)[us.length]?=some (V.ref dm):=by rw [List.getElem?_map,Ui];rfl
     refine ⟨_,rfl,_,rfl,lb,us,rfl,.inl (bM.of (s2 _ _ (sm _ _ B.1))),ll,_,_,_,rfl,rfl,bM.of (s2 _ _ hl1),bK em,?_⟩
     obtain ⟨Uj,hkm,Wc,_⟩:=L us.length dm Ui
     refine ⟨_,rfl,lb,us,rfl,.inl (bM.of (s2 _ _ (sm _ _ B.1))),_,_,rfl,rfl,_,rfl,_,rfl,_,_,_,_,rfl,QL.neg (by omega) (by omega) (by omega) (by omega),?_⟩
     rw [show ((us.length:Int) - 1 - -1).toNat=us.length by omega]
     let fl:Nat->Nat->Int:=fun i k=>if us.length - i<=k then (JM.iz (JM.Found S bs k):Int) else 0
     refine D6 (n:=us.length) (fun i σ H'=>∃ vk v6 v7 v8 ew M3,σ=[some (.ref ls),some (.ref lb),some (.ref ll),vk,some (.ref lf),some (.ref ew),v6,v7,v8]/\aR H H'/\H' ll=some (.lst (ds.map V.ref)) /\
       (∀ (j:Nat) d,ds[j]?=some d->∃ kvs,H' d=some (.dT kvs)/\vn kvs (JM.AJ S bs j)/\kvs.length<=3 ^ j)/\H' lf=some (.lst (vI ((List.range us.length).map (fl i))))/\H' ew=some (.dT M3)/\vn M3 (JM.DR S bs i))
       ⟨_,none,none,none,dm,Uj,rfl,sm.trans s2,s2 _ _ hl1,Lv L (fun b kvs e=>s2 _ _ e),?_,s2 _ _ hkm,?_⟩ ?_ ?_
     . rw [ai]
       congr 3
       refine List.map_congr_left fun u hu=>?_
       have:u < us.length:=List.mem_range.mp hu
       show (JM.jg [] u:Int)=if us.length - 0<=u then _ else _
       rw [if_neg (by omega)]
       rfl
     . show vn Uj (JM.AJ S bs bs.length)
       rw [<- Qv]
       exact Wc
     . rintro i σ H' hi ⟨vk,v6,v7,v8,ew,M3,rfl,sm',hl',L',hf',he',SE⟩
       rw [show (us.length:Int) - 1+(i:Nat) * -1=((us.length - 1 - i:Nat):Int) by omega]
       have hk:us.length - 1 - i < us.length:=by omega
       have hkb:us.length - 1 - i < bs.length:=by omega
       obtain ⟨d,hd⟩:∃ d,ds[us.length - 1 - i]?=some d:=⟨_,List.getElem?_eq_getElem (by omega)⟩
       have ed:(ds.map V.ref)[us.length - 1 - i]?=some (V.ref d):=by rw [List.getElem?_map,hd];rfl
       obtain ⟨kvs,hkv,SD,VZ⟩:=L' _ d hd
       have p3:3 ^ (us.length - 1 - i)<=3 ^ 12:=Nat.pow_le_pow_right (by decide) (by omega)
       have WY:(3:Nat) ^ 12=531441:=by decide
       obtain ⟨q,hq⟩:∃ q,bs[us.length - 1 - i]?=some q:=⟨_,List.getElem?_eq_getElem hkb⟩
       have Mx:=Uh q (List.mem_of_getElem? hq)
       obtain ⟨bv,hbv⟩:∃ v,us[us.length - 1 - i]?=some v:=⟨_,List.getElem?_eq_getElem hk⟩
       have ek:bs.length - (i+1)=us.length - 1 - i:=by omega
       have Uk:bs.length - (us.length - 1 - i+1)=i:=by omega
       intro ah Ob
       have sh:aR H' (upd H' ah (.dT [])):=aJ Ob
       have L5:∀ {b u},H' b=some u->(∀ kvs,u ≠ .dT kvs)->b ≠ d:=fun {b u} e n z=>by rw [z,hkv] at e;cases e;exact n _ rfl
       have S3:ah ≠ d:=fun z=>by rw [z,hkv] at Ob;cases Ob
       have S5:ah ≠ lf:=fun z=>by rw [z,hf'] at Ob;cases Ob
       have S6:lf ≠ d:=L5 hf' (fun _ z=>by cases z)
       have We:ll ≠ d:=L5 hl' (fun _ z=>by cases z)
       have Wf:ll ≠ lf:=fun z=>by rw [z,Qw] at hl1;cases hl1
       have Wg:lb ≠ lf:=aq B.1 L4
       have Wh:lb ≠ d:=L5 (sm' _ _ B.1) (fun _ z=>by cases z)
       have Wi:ew ≠ lf:=fun z=>by rw [z,hf'] at he';cases he'
       refine ⟨d,_,sh _ _ hkv,True.intro,fun od=>?_⟩
       refine ⟨_,rfl,_,rfl,ll,_,_,_,rfl,rfl,bM.of (by rw [ak We];exact sh _ _ hl'),bK ed,d,od,rfl,.inr ⟨kvs,ai,?_⟩⟩
       let FA:Nat->Nat->Prop:=fun a o=>∃ a' kv s,a' < a/\kvs[a']?=some kv/\kv.1=kI s/\JM.DR S bs i (JM.less s q o)
       let SA:Nat->List Int->Prop:=fun a s=>∃ a' kv,a' < a/\kvs[a']?=some kv/\kv.1=kI s/\∃ o,(1<=o/\o<=3)/\JM.DR S bs i (JM.less s q o)
       refine zq (d:=d) (o:=od) (kvs:=kvs) (fun a σ H3=>∃ v7 v8 Dd,σ=[some (.ref ls),some (.ref lb),some (.ref ll),some (.int ((us.length - 1 - i:Nat):Int)),some (.ref lf),some (.ref ew),some (.ref ah),v7,v8] /\
         (∀ b u,H' b=some u->b ≠ d->b ≠ lf->H3 b=some u)/\H3 d=some (.jN od (.dT kvs))/\H3 lf=some (.lst (vI (((List.range us.length).map (fl i)).set (us.length - 1 - i) (JM.iz (FA a):Int))))/\H3 ah=some (.dT Dd)/\vn Dd (SA a)/\Dd.length<=3 * a)
         ⟨v7,v8,[],rfl,fun b u e n _=>by rw [ak n];exact sh _ _ e,ai,?_,by rw [ak S3];exact ai,vn.nil.eq fun s=>⟨fun h=>h.elim,fun ⟨a',_,h,_⟩=>by omega⟩,Nat.zero_le _⟩ (fun a σ H3 ⟨_,_,_,_,_,h,_⟩=>h) ?_ ?_
       . rw [ak S6,ak (Ne.symm S5),hf',DT (P:=FA 0) (fun o ⟨a',_,_,h,_⟩=>by omega),tw]
         congr 3
         refine List.map_congr_left fun u hu=>?_
         by_cases e:u=us.length - 1 - i
         . rw [if_pos e]
           show (if us.length - i<=u then _ else _)=_
           rw [if_neg (by omega)]
           rfl
         . rw [if_neg e]
       . rintro a ky v b σ H3 JB ⟨v7,v8,Dd,rfl,kp,L6,L7,Oc,S7,Wj⟩ hb
         have hal:a < kvs.length:=(List.getElem?_eq_some_iff.mp JB).1
         obtain ⟨si,Ul,hsi⟩:=SD.of (ky,v) (List.mem_of_getElem? JB)
         simp only at Ul
         subst Ul
         rw [AM] at hb
         have sl:si.length=n:=hsi.len.trans hS
         have Um:b ≠ ah:=fun z=>by rw [z,Oc] at hb;cases hb
         have S8:b ≠ lf:=fun z=>by rw [z,L7] at hb;cases hb
         have Uo:d ≠ ah:=Ne.symm S3
         have Up:d ≠ lf:=Ne.symm S6
         refine ⟨t.gu,rfl,⟨_,T.pL H3⟩,?_⟩
         let FJ:Nat->Nat->Prop:=fun j o=>FA a o\/((1<=o/\o<=j)/\JM.DR S bs i (JM.less si q o))
         let SJ:Nat->List Int->Prop:=fun j s=>SA a s\/(s=si/\∃ o,(1<=o/\o<=j)/\JM.DR S bs i (JM.less si q o))
         refine zA (K:=K) (a:=t.gu) (xs:=[.int 1,.int 2,.int 3]) (fun j σ H4=>∃ v8 Dd,σ=[some (.ref ls),some (.ref lb),some (.ref ll),some (.int ((us.length - 1 - i:Nat):Int)),some (.ref lf),some (.ref ew),some (.ref ah),some (.ref b),v8] /\
           (∀ b u,H3 b=some u->b ≠ ah->b ≠ lf->H4 b=some u)/\H4 lf=some (.lst (vI (((List.range us.length).map (fl i)).set (us.length - 1 - i) (JM.iz (FJ j):Int))))/\H4 ah=some (.dT Dd)/\vn Dd (SJ j)/\Dd.length<=3 * a+j)
           ⟨v8,Dd,rfl,fun b u e _ _=>e,?_,Oc,S7.eq fun s=>⟨.inl,fun h=>by rcases h with h | ⟨_,o,h,_⟩;exact h;omega⟩,by omega⟩ (fun j σ H' _ _=>T.pL H') ?_ ?_
         . rw [L7,qd (P:=FA a) (P':=FJ 0) fun o h1 _=>⟨.inl,fun h=>by rcases h with h | ⟨h,_⟩;exact h;omega⟩]
         . rintro j x σ H4 hx ⟨v8,Dd,rfl,kq,QV,S9,S4,l4⟩
           have hj:j < 3:=by simpa using (List.getElem?_eq_some_iff.mp hx).1
           obtain rfl:x=.int ((j+1:Nat):Int):=by
             have:j=0\/j=1\/j=2:=by omega
             rcases this with r | r | r<;>subst r<;>simp at hx<;>rw [<- hx]<;>rfl
           have k4:∀ b u,H' b=some u->b ≠ d->b ≠ lf->H4 b=some u:=fun b u e n1 n2=>kq _ _ (kp b u e n1 n2) (aq e Ob) n2
           have B4:H4 lb=some (.lst us):=k4 _ _ (sm' _ _ B.1) Wh Wg
           have en:=B.2.2 _ bv q hbv hq
           have Wl:mh K H4 bv q:=by
             obtain ⟨o,C,dx,fs,e0,e1,rest⟩:=en
             exact ⟨o,C,dx,fs,e0,k4 _ _ (sm' _ _ e1) (L5 (sm' _ _ e1) (fun _ z=>by cases z)) (aq e1 L4),rest⟩
           refine ⟨_,rfl,_,rfl,_,rfl,lb,us,_,_,rfl,rfl,bM.of B4,bK hbv,_,rfl,?_⟩
           refine ⟨b,bv,j+1,n,si,q,rfl,kq _ _ hb Um S8,Wl,Mx.1,by omega,by omega,fun H5 p s5 np hp=>?_⟩
           have JC:=s5 _ _ QV
           have Uq:=s5 _ _ S9
           have M0:∀ b u,H3 b=some u->b ≠ ah->b ≠ lf->H5 b=some u:=fun b u e n1 n2=>s5 _ _ (kq b u e n1 n2)
           have Wm:Rd H5 ew (.dT M3):=by
             by_cases z:ew=d
             . have:M3=kvs:=by rw [z,hkv] at he';cases he';rfl
               rw [z,this]
               exact .inr ⟨od,M0 _ _ L6 Uo Up⟩
             . exact .inl (s5 _ _ (k4 _ _ he' z Wi))
           refine ⟨_,rfl,ew,_,rfl,.inr ⟨M3,kI (JM.less si q (j+1)),p,Wm,rfl,by rw [AM];exact hp,rfl⟩,_,rfl,?_⟩
           have Qx:=SE.iff (JM.less si q (j+1))
           have Ur:∀ (W:Prop),(W ↔ JM.DR S bs i (JM.less si q (j+1)))->∀ o,FJ (j+1) o ↔ (FJ j o\/(W/\o=j+1)):=fun W hW o=>by
             constructor
             . rintro (h | ⟨h,w⟩)
               . exact .inl (.inl h)
               . by_cases e:o=j+1
                 . subst e;exact .inr ⟨hW.mpr w,rfl⟩
                 . exact .inl (.inr ⟨⟨h.1,by omega⟩,w⟩)
             . rintro ((h | ⟨h,w⟩) | ⟨w,rfl⟩)
               . exact .inl h
               . exact .inr ⟨⟨h.1,by omega⟩,w⟩
               . exact .inr ⟨⟨by omega,by omega⟩,hW.mp w⟩
           have Us:∀ (W:Prop),(W ↔ JM.DR S bs i (JM.less si q (j+1)))->∀ s,SJ (j+1) s ↔ (SJ j s\/(W/\s=si)):=fun W hW s=>by
             constructor
             . rintro (h | ⟨h,o,h2,w⟩)
               . exact .inl (.inl h)
               . by_cases e:o=j+1
                 . subst e;exact .inr ⟨hW.mpr w,h⟩
                 . exact .inl (.inr ⟨h,o,⟨h2.1,by omega⟩,w⟩)
             . rintro ((h | ⟨h,o,h2,w⟩) | ⟨w,rfl⟩)
               . exact .inl h
               . exact .inr ⟨h,o,⟨h2.1,by omega⟩,w⟩
               . exact .inr ⟨rfl,j+1,⟨by omega,by omega⟩,hW.mp w⟩
           cases hin:(j8 M3 (kI (JM.less si q (j+1)))).isSome with
           | false=>
             have nW:¬ JM.DR S bs i (JM.less si q (j+1)):=fun w=>by rw [Qx.mpr w] at hin;cases hin
             have wF:False ↔ JM.DR S bs i (JM.less si q (j+1)):=⟨False.elim,nW⟩
             refine ⟨_,Dd,rfl,M0,?_,Uq,S4.eq fun s=>?_,by omega⟩
             . rw [JC,qd (P:=FJ j) (P':=FJ (j+1)) fun o _ _=>by rw [Ur False wF o];simp]
             . rw [Us False wF s];simp
           | true=>
             have hW:=Qx.mp hin
             have wT:True ↔ JM.DR S bs i (JM.less si q (j+1)):=⟨fun _=>hW,fun _=>trivial⟩
             have gk:(vI (((List.range us.length).map (fl i)).set (us.length - 1 - i) (JM.iz (FJ j):Int)))[us.length - 1 - i]?=some (.int (JM.iz (FJ j):Int)):=pY (by rw [List.getElem?_set_self (by simp;exact hk)])
             refine ⟨_,rfl,_,rfl,lf,_,_,_,rfl,rfl,bM.of JC,bK gk,_,rfl,?_⟩
             refine ⟨j+1,rfl,by omega,by omega,_,_,rfl,rfl,?_⟩
             refine ⟨_,rfl,_,rfl,lf,_,_,us.length - 1 - i,rfl,rfl,JC,tu (by simp [vI];omega),?_⟩
             rw [xN,JD _ (by omega) (by omega),List.set_set]
             refine ⟨_,rfl,_,rfl,ah,_,rfl,B8.t (k:=kI si) (by rw [ak S5];exact Uq) (by rw [ak S8,AM];exact M0 _ _ hb Um S8) (by rw [sizeLine_eq];omega),?_⟩
             refine ⟨_,_,rfl,fun b u e n1 n2=>by rw [ak n1,ak n2];exact M0 b u e n1 n2,?_,ai,(S4.put _ _).eq fun s=>?_,?_⟩
             . rw [ak (Ne.symm S5),ai,qd (P:=fun x=>FJ j x\/x=j+1) (P':=FJ (j+1)) fun o _ _=>by rw [Ur True wT o];simp]
             . rw [Us True wT s];simp
             . have:=iL Dd (kI si) (V.bl true)
               omega
         . rintro σ H4 ⟨v8,Dd,rfl,kq,QV,S9,S4,l4⟩
           have l3:([V.int 1,V.int 2,V.int 3]:List V).length=3:=rfl
           rw [l3] at QV S4 l4
           refine ⟨_,_,Dd,rfl,fun b' u e n1 n2=>kq _ _ (kp b' u e n1 n2) (aq e Ob) n2,kq _ _ L6 Uo Up,?_,S9,S4.eq fun s=>?_,by omega⟩
           . rw [QV,qd (P:=FJ 3) (P':=FA (a+1)) fun o h1 h3=>?_]
             constructor
             . rintro (⟨a',kv,s,g1,g2,g3,g4⟩ | ⟨_,w⟩)
               . exact ⟨a',kv,s,by omega,g2,g3,g4⟩
               . exact ⟨a,_,si,by omega,JB,rfl,w⟩
             . rintro ⟨a',kv,s,g1,g2,g3,g4⟩
               by_cases e:a'=a
               . subst e
                 rw [JB] at g2
                 cases g2
                 have:=pZ g3
                 subst this
                 exact .inr ⟨⟨h1,h3⟩,g4⟩
               . exact .inl ⟨a',kv,s,by omega,g2,g3,g4⟩
           . constructor
             . rintro (⟨a',kv,g1,g2,g3,g4⟩ | ⟨rfl,o,h,w⟩)
               . exact ⟨a',kv,by omega,g2,g3,g4⟩
               . exact ⟨a,_,by omega,JB,rfl,o,h,w⟩
             . rintro ⟨a',kv,g1,g2,g3,o,h,w⟩
               by_cases e:a'=a
               . subst e
                 rw [JB] at g2
                 cases g2
                 have:=pZ g3
                 subst this
                 exact .inr ⟨rfl,o,h,w⟩
               . exact .inl ⟨a',kv,by omega,g2,g3,o,h,w⟩
       . rintro σ H3 ⟨v7,v8,Dd,rfl,kp,L6,L7,Oc,S7,Wj⟩
         refine ⟨L6,_,rfl,?_⟩
         have keep:∀ b u,H' b=some u->b ≠ lf->upd H3 d (.dT kvs) b=some u:=fun b u e n=>by
           by_cases z:b=d
           . subst z
             rw [hkv] at e
             cases e
             exact ai
           . rw [ak z]
             exact kp b u e z n
         refine ⟨_,_,_,_,ah,Dd,rfl,fun b u e=>keep b u (sm' b u e) (aq e L4),keep _ _ hl' Wf,Lv L' (fun b kvs e=>keep _ _ e (fun z=>by rw [z,hf'] at e;cases e)),?_,by rw [ak S3];exact Oc,S7.eq fun s=>?_⟩
         . rw [ak S6,L7,tw]
           congr 3
           refine List.map_congr_left fun u hu=>?_
           show _=if us.length - (i+1)<=u then _ else _
           by_cases e:u=us.length - 1 - i
           . rw [if_pos e,if_pos (by omega),e]
             congr 1
             refine qd fun o _ _=>?_
             constructor
             . rintro ⟨a',kv,s,_,h1,h2,h3⟩
               obtain ⟨s',e1,p⟩:=SD.of kv (List.mem_of_getElem? h1)
               have:=pZ (h2.symm.trans e1)
               subst this
               exact ⟨s,q,p,hq,by rw [Uk];exact h3⟩
             . rintro ⟨s,q',p,h1,h2⟩
               rw [hq] at h1
               cases h1
               rw [Uk] at h2
               obtain ⟨kv,g1,g2⟩:=qc (SD.all s p)
               obtain ⟨a',g3⟩:=List.getElem?_of_mem g1
               exact ⟨a',kv,s,(List.getElem?_eq_some_iff.mp g3).1,g3,g2,h2⟩
           . rw [if_neg e]
             show (if us.length - i<=u then _ else _)=_
             by_cases e2:us.length - i<=u
             . rw [if_pos e2,if_pos (by omega)]
             . rw [if_neg e2,if_neg (by omega)]
         . constructor
           . rintro ⟨a',kv,_,h1,h2,o,h3,h4⟩
             obtain ⟨s',e1,p⟩:=SD.of kv (List.mem_of_getElem? h1)
             have:=pZ (h2.symm.trans e1)
             subst this
             exact ⟨by rw [ek];exact p,q,o,by rw [ek];exact hq,h3,h4⟩
           . rintro ⟨p,q',o,h1,h3,h4⟩
             rw [ek] at p h1
             rw [hq] at h1
             cases h1
             obtain ⟨kv,g1,g2⟩:=qc (SD.all s p)
             obtain ⟨a',g3⟩:=List.getElem?_of_mem g1
             exact ⟨a',kv,(List.getElem?_eq_some_iff.mp g3).1,g3,g2,o,h3,h4⟩
     . rintro σ H' ⟨vk,v6,v7,v8,ew,M3,rfl,sm',hl',L',hf',he',SE⟩
       refine ⟨_,rfl,k H' lf sm' L4 ?_⟩
       rw [hf']
       congr 3
       unfold vO
       rw [Qv]
       refine List.map_congr_left fun u hu=>?_
       show (if us.length - bs.length<=u then _ else _)=_
       rw [if_pos (by omega)]
end
def gb (v w:Nat) (q:Nat×Nat):Bool:=(q.1==v&&q.2==w)||(q.1==w&&q.2==v)
def GC (kvs:List (List Key×V)) (l:List (Nat×Nat)):Prop:=∀ v w:Nat,j8 kvs (kI [(v:Int),(w:Int)])=(l.findIdx? (gb v w)).map fun k=>V.int (k:Int)
theorem JE {a b c d:Nat} (h:kI [(a:Int),(b:Int)]=kI [(c:Int),(d:Int)]):a=c/\b=d:=by
 have:=pZ h
 simp at this
 omega
theorem GC.snoc {kvs:List (List Key×V)} {l:List (Nat×Nat)} {q:Nat×Nat} (d:GC kvs l) (hn:∀ p ∈ l,p ≠ q) (hl:∀ p ∈ l,p.1 < p.2) (hq:q.1 < q.2) :
   GC (putK (putK kvs (kI [(q.1:Int),(q.2:Int)]) (V.int (l.length:Int))) (kI [(q.2:Int),(q.1:Int)]) (V.int (l.length:Int))) (l++[q]):=by
 intro v w
 rw [rP,rP,List.findIdx?_append]
 have old:gb v w q=true->l.findIdx? (gb v w)=none:=fun h=>by
   rw [List.findIdx?_eq_none_iff]
   intro p hp
   have h1:=hl p hp
   have h2:=hn p hp
   unfold gb at h ⊢
   simp only [Bool.or_eq_true,Bool.and_eq_true,beq_iff_eq] at h
   rw [Bool.eq_false_iff]
   intro hc
   simp only [Bool.or_eq_true,Bool.and_eq_true,beq_iff_eq] at hc
   refine h2 (Prod.ext ?_ ?_)<;>omega
 by_cases h1:kI [(v:Int),(w:Int)]=kI [(q.2:Int),(q.1:Int)]
 . obtain ⟨rfl,rfl⟩:=JE h1
   have hj:gb q.2 q.1 q=true:=by simp [gb]
   rw [if_pos rfl,old hj]
   simp [List.findIdx?_cons,hj]
 . rw [if_neg h1]
   by_cases h2:kI [(v:Int),(w:Int)]=kI [(q.1:Int),(q.2:Int)]
   . obtain ⟨rfl,rfl⟩:=JE h2
     have hj:gb q.1 q.2 q=true:=by simp [gb]
     rw [if_pos rfl,old hj]
     simp [List.findIdx?_cons,hj]
   . rw [if_neg h2,d v w]
     have hj:gb v w q=false:=by
       rw [Bool.eq_false_iff]
       intro h
       unfold gb at h
       simp only [Bool.or_eq_true,Bool.and_eq_true,beq_iff_eq] at h
       rcases h with ⟨rfl,rfl⟩ | ⟨rfl,rfl⟩
       . exact h2 rfl
       . exact h1 rfl
     cases l.findIdx? (gb v w)<;>simp [List.findIdx?_cons,hj]
section
variable {P:Program} {w:World} {K:PySem.W.Frag} {mg:Str->Option Value} {base:Heap} {t:Ad}
def L8 (K:PySem.W.Frag):Sp:=fun vs H Q _=>∃ (lb:Addr) (us:List V) (l:List (Nat×Nat)) (n:Nat),vs=[.ref lb]/\j6 K H lb us l/\l.length<=1000/\JM.oV n l /\
 ∀ H' d kvs,aR H H'->H d=none->H' d=some (.dT kvs)->GC kvs l->Q (.ref d) H'
theorem t6:aL ["bonds","numbers","k","bond"] ["bonds"] (aE iU):=⟨rfl,rfl,rfl,by decide +kernel,rfl,by decide +kernel,by decide +kernel⟩
theorem JF (T:Txt K mg t):bB P w K mg base lS 1 t.cQ t.gP ["bonds"] (L8 K):=by
 refine T.fM.ok t6 (fun vs H Q E h=>?_) (fun cdv A outer s H vs Q E hr h=>?_)
 . obtain ⟨lb,us,l,n,rfl,_⟩:=h
   rfl
 . obtain ⟨lb,us,l,n,rfl,B,hl,JG,k⟩:=h
   have hu:=hr.un
   have hu':(A.deeper (envOfC "pair_numbers" (aE iU) s.heap.objs.size t.cQ cdv)).units+1 < cLine:=by omega
   refine ⟨_,au (aQ (i:=1) t6.nd rfl (Or.inl rfl) wI)
     (au (fj PassesOwn.never rfl (vA rfl T.jJ (af (pv 0) ay)) (z9 rfl (j7 (bu (i:=2) t6.nd rfl (Or.inl rfl)) (j7 (bu (i:=3) t6.nd rfl (Or.inl rfl)) vp)))
       (au (vy hu' (pv 1) (oM (af (aK (pv 3) rfl) (af (aK (pv 3) rfl) ay))) (pv 2) rfl)
       (aB (vy hu' (pv 1) (oM (af (aK (pv 3) rfl) (af (aK (pv 3) rfl) ay))) (pv 2) rfl))))
     (aB (bA (pv 1)))),?_⟩
   intro d hd
   have s1:aR H (upd H d (.dT [])):=aJ hd
   refine ⟨_,rfl,lb,us,rfl,bM.of (s1 _ _ B.1),?_⟩
   refine sS (K:=K) (a:=lb) (xs:=us) (fun i σ H'=>∃ v2 v3 kvs,σ=[some (.ref lb),some (.ref d),v2,v3]/\aR H H'/\H' d=some (.dT kvs)/\GC kvs (l.take i)/\kvs.length<=2 * i) ⟨none,none,[],rfl,s1,ai,fun v w=>rfl,Nat.zero_le _⟩ (fun i σ H' _ ⟨_,_,_,_,sm,_⟩=>bM.of (sm _ _ B.1)) ?_ ?_
   . rintro i x σ H' Tt hx ⟨v2,v3,kvs,rfl,sm,hd',N,hlen⟩ hT
     have hi:i < us.length:=(List.getElem?_eq_some_iff.mp hx).1
     have hil:i < l.length:=by rw [<- B.2.1];exact hi
     obtain ⟨q,hq⟩:∃ q,l[i]?=some q:=⟨_,List.getElem?_eq_getElem hil⟩
     obtain ⟨o,C,dx,fs,rfl,e1,cl,na,nb,ea,eb⟩:=B.2.2 i x q hx hq
     have sT:aR H (upd H' Tt (.tup [.int (i:Int),.ref o])):=sm.trans (aJ hT)
     have dT':d ≠ Tt:=fun z=>by rw [<- z,hd'] at hT;cases hT
     refine ⟨Tt,_,rfl,mr.of ai,rfl,_,_,rfl,_,_,rfl,rfl,?_⟩
     refine ⟨_,rfl,_,rfl,_,rfl,o,C,dx,fs,_,rfl,sT _ _ e1,cl,na,ea,_,rfl,o,C,dx,fs,_,rfl,sT _ _ e1,cl,nb,eb,(by show 2<=sizeLine;decide),fun p1 hp1=>?_⟩
     have hd1:upd (upd H' Tt (.tup [.int (i:Int),.ref o])) p1 (.tup [.int (q.1:Int),.int (q.2:Int)]) d=some (.dT kvs):=by
       have:upd H' Tt (.tup [.int (i:Int),.ref o]) d=some (.dT kvs):=by rw [ak dT'];exact hd'
       rw [ak (aq this hp1)];exact this
     have Wn:aR H (upd (upd H' Tt (.tup [.int (i:Int),.ref o])) p1 (.tup [.int (q.1:Int),.int (q.2:Int)])):=sT.trans (aJ hp1)
     refine ⟨d,_,rfl,B8.t (k:=kI [(q.1:Int),(q.2:Int)]) hd1 (by rw [AM];exact ai) (by rw [sizeLine_eq];omega),?_⟩
     have SG:aR H (upd (upd (upd H' Tt (.tup [.int (i:Int),.ref o])) p1 (.tup [.int (q.1:Int),.int (q.2:Int)])) d (.dT (putK kvs (kI [(q.1:Int),(q.2:Int)]) (.int (i:Int))))):=fun b u e=>by rw [ak (aq e hd)];exact Wn b u e
     refine ⟨_,rfl,_,rfl,_,rfl,o,C,dx,fs,_,rfl,SG _ _ e1,cl,nb,eb,_,rfl,o,C,dx,fs,_,rfl,SG _ _ e1,cl,na,ea,(by show 2<=sizeLine;decide),fun p2 hp2=>?_⟩
     have l1:=iL kvs (kI [(q.1:Int),(q.2:Int)]) (V.int (i:Int))
     have d2:d ≠ p2:=fun z=>by rw [<- z,ai] at hp2;cases hp2
     refine ⟨d,_,rfl,B8.t (k:=kI [(q.2:Int),(q.1:Int)]) (by rw [ak d2];exact ai) (by rw [AM];exact ai) (by rw [sizeLine_eq];omega),?_⟩
     have l2:=iL (putK kvs (kI [(q.1:Int),(q.2:Int)]) (V.int (i:Int))) (kI [(q.2:Int),(q.1:Int)]) (V.int (i:Int))
     refine ⟨_,_,_,rfl,fun b u e=>by rw [ak (aq e hd)];exact (SG.trans (aJ hp2)) b u e,ai,?_,by omega⟩
     rw [take_snoc hq]
     have tl:(l.take i).length=i:=by rw [List.length_take];omega
     have:=N.snoc (q:=q) (fun p hp e=>?_) (fun p hp=>(JG.1 p (List.mem_of_mem_take hp)).1) (JG.1 q (List.mem_of_getElem? hq)).1
     . rw [tl] at this
       exact this
     . obtain ⟨j,hj⟩:=List.getElem?_of_mem hp
       have hji:j < i:=by
         have:=(List.getElem?_eq_some_iff.mp hj).1
         rw [tl] at this;exact this
       rw [List.getElem?_take_of_lt hji] at hj
       have pw:=List.pairwise_iff_getElem.mp JG.2 j i (by omega) hil hji
       rw [List.getElem?_eq_getElem (by omega)] at hj hq
       have e1:=Option.some.inj hj
       have e2:=Option.some.inj hq
       rw [e1,e2,e] at pw
       omega
   . rintro σ H' ⟨v2,v3,kvs,rfl,sm,hd',N,hlen⟩
     rw [B.2.1,List.take_length] at N
     exact ⟨_,rfl,k H' d kvs sm hd hd' N⟩
end
open JM (aP az gF cJ)
def Wo (la lb lr ls lo ln:Addr):List (Str×V):=[("atoms",.ref la),("bonds",.ref lb),("neighbours",.ref lr),("sums",.ref ls),("orders",.ref lo),("bond_numbers",.ref ln)]
structure qX where
 la:Addr
 lb:Addr
 lr:Addr
 ls:Addr
 lo:Addr
 ln:Addr
 as:List V
 us:List V
 rs:List Addr
 kvs:List (List Key×V)
structure lg (t:Ad) (D:Addr->Prop) (H:Hp) (g:Addr) (z:qX) (y:aP):Prop where
 obj:∃ dx,H g=some (.ins t.aG dx (Wo z.la z.lb z.lr z.ls z.lo z.ln))
 atoms:H z.la=some (.lst z.as)
 bonds:H z.lb=some (.lst z.us)
 rows:gE H z.lr z.rs z.as.length (JM.f6 (y.2.map JM.aT))
 sums:H z.ls=some (.lst (vI (gF (az y))))
 orders:H z.lo=some (.lst (vI (vO (gF (az y)) (cJ (az y)))))
 nums:H z.ln=some (.dT z.kvs)
 num:GC z.kvs (y.2.map JM.aT)
 ra:bT (k8 t.bW) D H z.as y.1
 rb:bT (jn t.bX) D H z.us y.2
theorem qe (y:aP):cJ (az y)=y.2.map JM.aT:=by
 unfold cJ az JM.aT JM.pW
 simp
theorem o7 (y:aP):(az y).n=y.1.length:=by simp [az,Mol.n]
theorem JH (y:aP):ways y.2=(cJ (az y)).zip (az y).orders:=by
 rw [qe]
 unfold ways Mol.orders az
 simp only [List.map_map]
 rw [List.zip_map']
 rfl
theorem JI (y:aP) {n:Nat} (hn:y.1.length=n):kZ n (ways y.2)=gF (az y):=by
 unfold kZ gF Mol.sums
 rw [o7,hn,List.map_map]
 refine List.map_congr_left fun v _=>?_
 show _=(((az y).sum v:Nat):Int)
 rw [JM.CD,JH]
section
variable {P:Program} {w:World} {K:PySem.W.Frag} {mg:Str->Option Value} {base:Heap} {t:Ad}
theorem gE.same' {H H':Hp} {lr:Addr} {rs:List Addr} {n:Nat} {row:Nat->List Nat} (R:gE H lr rs n row) (f:aR H H'):gE H' lr rs n row:=R.stay fun b o e _=>f b o e
theorem lg.same {D:Addr->Prop} {H H':Hp} {g:Addr} {z:qX} {y:aP} (M:lg t D H g z y) (f:aR H H'):lg t D H' g z y:=
 ⟨let ⟨dx,e⟩:=M.obj;⟨dx,f _ _ e⟩,f _ _ M.atoms,f _ _ M.bonds,M.rows.same' f,f _ _ M.sums,f _ _ M.orders,f _ _ M.nums,M.num,M.ra.stay (k8.ok _) fun b o _ e=>f b o e,M.rb.stay (jn.ok _) fun b o _ e=>f b o e⟩
theorem CI (T:Txt K mg t) {D:Addr->Prop} {H:Hp} {lb:Addr} {us:List V} {ys:List (Bond×Nat)} (hb:H lb=some (.lst us)) (R:bT (jn t.bX) D H us ys):j6 K H lb us (ys.map JM.aT):=
 ⟨hb,by rw [List.length_map];exact R.len,fun i v q h1 h2=>by
   rw [List.getElem?_map] at h2
   cases hz:ys[i]? with
   | none=>rw [hz] at h2;cases h2
   | some z=>
     rw [hz] at h2
     cases h2
     obtain ⟨o,dx,rfl,_,e⟩:=R.at_ i v z h1 hz
     exact ⟨o,_,dx,_,rfl,e,T.i8,T.je,T.jf,rfl,rfl⟩⟩
theorem bT.Wq {C C':Addr} {D:Addr->Prop} {H:Hp} {us:List V} {ys:List (Bond×Nat)} {o dx:Addr} (R:bT (jn C) D H us ys) (h:H o=some (.ins C' dx [])):bT (jn C) (fun b=>D b/\b ≠ o) H us ys:=
 ⟨R.len,fun i v z h1 h2=>by
   obtain ⟨b,d,e,hd,hb⟩:=R.at_ i v z h1 h2
   exact ⟨b,d,e,⟨hd,fun q=>by rw [q,h] at hb;cases hb⟩,hb⟩⟩
theorem bT.Wr {C C':Addr} {D:Addr->Prop} {H:Hp} {us:List V} {ys:List (Atom×Nat)} {o dx:Addr} (R:bT (k8 C) D H us ys) (h:H o=some (.ins C' dx [])):bT (k8 C) (fun b=>D b/\b ≠ o) H us ys:=
 ⟨R.len,fun i v z h1 h2=>by
   obtain ⟨b,d,e,hd,hb⟩:=R.at_ i v z h1 h2
   exact ⟨b,d,e,⟨hd,fun q=>by rw [q,h] at hb;cases hb⟩,hb⟩⟩
def GD (t:Ad):Sp:=fun vs H Q _=>∃ (o dx la lb:Addr) (as us:List V) (y:aP) (D:Addr->Prop),vs=[.ref o,.ref la,.ref lb]/\H o=some (.ins t.aG dx [])/\H la=some (.lst as)/\H lb=some (.lst us) /\
 bT (k8 t.bW) D H as y.1/\bT (jn t.bX) D H us y.2/\as.length<=1000/\y.2.length<=12/\JM.oV as.length (y.2.map JM.aT) /\
 ∀ H' z,z.la=la->z.lb=lb->z.as=as->z.us=us->lg t D H' o z y->i9 [o] H H'->Q .non H'
theorem JJ:aL ["self","atoms","bonds"] ["self","atoms","bonds"] (aE jS):=⟨rfl,rfl,rfl,by decide +kernel,rfl,by decide +kernel,by decide +kernel⟩
theorem JK (T:Txt K mg t):bB P w K mg base lS 4 t.c5 t.gj ["self","atoms","bonds"] (GD t):=by
 have GI:bB P w K mg base lS 2 t.bL t.fR ["self","atoms","bonds"] (AF K t.aG):=C1 T T.bw T.bR T.dJ T.bc
 have GS:=@L3 P w K mg base t T
 have GR:=@DU P w K mg base t T
 have GP:=@JF P w K mg base t T
 refine T.gz.ok JJ (fun vs H Q E h=>?_) (fun cdv A outer s H vs Q E hr h=>?_)
 . obtain ⟨o,dx,la,lb,as,us,y,D,rfl,_⟩:=h
   rfl
 . obtain ⟨o,dx,la,lb,as,us,y,D,rfl,h0,ha,hb,RA,RB,hn,hm,rise,k⟩:=h
   have hr2:cK 2 _:=hr.mono (by decide)
   have hr1:cK 1 _:=hr.mono (by decide)
   refine ⟨_,au (bV (IA rfl T.zP T.se GI hr2 T.nu cB (af (pv 0) (af (pv 1) (af (pv 2) ay)))))
     (au (e7 (pv 0) (bE GS hr1 rfl T.rY T.ie.kp T.rV .nil cB (af (cA aW (by rfl) T.jk PySem.boot_len (af (pv 1) ay)) (af (pv 2) ay))) rfl)
     (au (e7 (pv 0) (bE GR hr rfl T.mG T.dH.kp T.mE .nil cB (af (aK (pv 0) rfl) (af (pv 2) ay))) rfl)
     (aB (e7 (pv 0) (bE GP hr1 rfl T.pF T.fM.kp T.p9 .nil cB (af (pv 2) ay)) rfl)))),?_⟩
   have Ws:=RA.Wr h0
   have Ut:=RB.Wq h0
   have B0:=CI T hb RB
   have ao:la ≠ o:=kg ha h0 (by intro z;cases z)
   have bo:lb ≠ o:=kg hb h0 (by intro z;cases z)
   refine ⟨_,rfl,_,rfl,_,rfl,?_⟩
   refine ⟨o,dx,la,lb,as,us,y.2.map JM.aT,rfl,h0,ha,hb,hn,by rw [List.length_map];omega,B0.2.1,fun i v q h1 h2=>⟨B0.2.2 i v q h1 h2,fun z=>?_⟩,rise.1,fun H1 lr rs G F1=>?_⟩
   . obtain ⟨o',C',dx',fs',e,e',_,_,_,e4,_⟩:=B0.2.2 i v q h1 h2
     rw [z] at e
     cases e
     rw [h0] at e'
     cases e'
     cases e4
   obtain ⟨d1,e1⟩:=G.obj
   have Wt:bT (k8 t.bW) (fun b=>D b/\b ≠ o) H1 as y.1:=Ws.stay (k8.ok _) fun b u hd h=>F1 b u h (by simpa using hd.2)
   have SH:bT (jn t.bX) (fun b=>D b/\b ≠ o) H1 us y.2:=Ut.stay (jn.ok _) fun b u hd h=>F1 b u h (by simpa using hd.2)
   have Gz:y.1.length=as.length:=RA.len.symm
   refine ⟨_,rfl,la,as,rfl,.inl (bM.of G.atoms),_,rfl,?_⟩
   refine ⟨as.length,lb,us,y.2,_,rfl,hn,G.bonds,SH,rise.1,fun H2 ls s2 Uu hls=>?_⟩
   rw [JI y Gz] at hls
   have e2:=s2 _ _ e1
   refine ⟨_,rfl,o,_,d1,_,rfl,e2,T.bw,T.g8,(by show 3 < 1000;decide),?_⟩
   have WZ:∀ {Hx:Hp} {b:Addr} {u:HO} {C' d':Addr} {f':List (Str×V)},Hx b=some u->Hx o=some (.ins C' d' f')->(∀ x,u ≠ .ins C' d' x)->b ≠ o:=fun {Hx b u C' d' f'} h1 h2 n z=>by
     rw [z,h2] at h1
     exact n _ (Option.some.inj h1).symm
   have SI:ls ≠ o:=fun z=>by rw [z,e1] at Uu;cases Uu
   have st:∀ {Hx:Hp} (b:Addr) (u v:HO),b ≠ o->Hx b=some u->upd Hx o v b=some u:=fun {Hx} b u v n e=>by rw [ak n];exact e
   have LA:∀ (i:Nat) v q,us[i]?=some v->(y.2.map JM.aT)[i]?=some q->∃ b,v=.ref b/\b ≠ o:=fun i v q h1 h2=>by
     rw [List.getElem?_map] at h2
     cases hz:y.2[i]? with
     | none=>rw [hz] at h2;cases h2
     | some z=>
       obtain ⟨b,d,e,hd,_⟩:=Ut.at_ i v z h1 hz
       exact ⟨b,e,hd.2⟩
   have B1:=CI T G.bonds SH
   have Bo:∀ {Hx:Hp} (v:HO),j6 K Hx lb us (y.2.map JM.aT)->j6 K (upd Hx o v) lb us (y.2.map JM.aT):=fun {Hx} v b=>⟨st _ _ _ bo b.1,b.2.1,fun i x q h1 h2=>by
     obtain ⟨b',e,n⟩:=LA i x q h1 h2
     obtain ⟨o',C',dx',fs',e0,e',rest⟩:=b.2.2 i x q h1 h2
     rw [e] at e0
     cases e0
     exact ⟨b',C',dx',fs',e,st _ _ _ n e',rest⟩⟩
   have B3:=Bo (.ins t.aG d1 (eu "sums" (.ref ls) (QS la lb lr))) (B1.same s2)
   refine ⟨_,rfl,o,_,d1,_,_,rfl,ai,T.bw,T.g8,rfl,_,rfl,?_⟩
   refine ⟨ls,lb,as.length,gF (az y),us,y.2.map JM.aT,rfl,st _ _ _ SI hls,by rw [JM.qy,o7,Gz],hn,B3,by rw [List.length_map];exact hm,rise.1,fun H4 lo s4 nlo hlo=>?_⟩
   have e4:=s4 _ _ ai
   have Uv:lo ≠ o:=fun z=>by rw [z,ai] at nlo;cases nlo
   refine ⟨_,rfl,o,_,d1,_,rfl,e4,T.bw,T.fh,(by show 4 < 1000;decide),?_⟩
   have B5:=Bo (.ins t.aG d1 (eu "orders" (.ref lo) (eu "sums" (.ref ls) (QS la lb lr)))) (B3.same s4)
   refine ⟨_,rfl,?_⟩
   refine ⟨lb,us,y.2.map JM.aT,as.length,rfl,B5,by rw [List.length_map];omega,rise,fun H6 ln kvs s6 Uw QO N=>?_⟩
   have e6:=s6 _ _ ai
   have Wu:ln ≠ o:=fun z=>by rw [z,ai] at Uw;cases Uw
   refine ⟨_,rfl,o,_,d1,_,rfl,e6,T.bw,T.bS,(by show 5 < 1000;decide),?_⟩
   have Ux:∀ b u,b ≠ o->H2 b=some u->H6 b=some u:=fun b u n e=>s6 _ _ (st _ _ _ n (s4 _ _ (st _ _ _ n e)))
   have Wv:∀ b u,b ≠ o->H1 b=some u->H6 b=some u:=fun b u n e=>Ux b u n (s2 _ _ e)
   have Fin:∀ b u,b ≠ o->H1 b=some u->upd H6 o (.ins t.aG d1 (eu "bond_numbers" (.ref ln) (eu "orders" (.ref lo) (eu "sums" (.ref ls) (QS la lb lr))))) b=some u:=fun b u n e=>st _ _ _ n (Wv b u n e)
   refine k _ ⟨la,lb,lr,ls,lo,ln,as,us,rs,kvs⟩ rfl rfl rfl rfl ⟨⟨d1,ai⟩,Fin _ _ ao G.atoms,Fin _ _ bo G.bonds,G.rows.stay fun b u e hb'=>?_,st _ _ _ SI (Ux _ _ SI hls),?_,st _ _ _ Wu QO,N,?_,?_⟩ ?_
   . refine Fin b u (fun z=>?_) e
     rw [z,e1] at e
     cases e
     rcases hb' with r | r
     . have:=G.rows.lst
       rw [<- r,z,e1] at this;cases this
     . obtain ⟨j,hj⟩:=List.getElem?_of_mem r
       have:=G.rows.at_ j b hj
       rw [z,e1] at this;cases this
   . refine st _ _ _ Uv (s6 _ _ (st _ _ _ Uv ?_))
     rw [qe]
     exact hlo
   . exact (Wt.stay (k8.ok _) fun b u hd h=>Fin b u hd.2 h).mono (k8.ok _) fun b hd=>hd.1
   . exact (SH.stay (jn.ok _) fun b u hd h=>Fin b u hd.2 h).mono (jn.ok _) fun b hd=>hd.1
   . intro b u e n
     have nb:b ≠ o:=by simpa using n
     exact Fin b u nb (F1 b u e n)
end
structure g9 (y:aP):Prop where
 rise:JM.oV y.1.length (y.2.map JM.aT)
 few:y.2.length<=12
 small:y.1.length<=128
 L1:∀ z ∈ y.2,(1<=z.1.order/\z.1.order<=3)/\z.1.side<=2
 Xa:∀ z ∈ y.1,z.1.element<=118/\z.1.isotope<=500/\(-4<=z.1.charge/\z.1.charge<=4)/\z.1.hydrogens<=7/\z.1.hand<=2
theorem g9.good {y:aP} (g:g9 y):JM.kY (az y):=by
 refine ⟨?_,fun x hx=>?_⟩
 . rw [qe,o7];exact g.rise.1
 . obtain ⟨z,hz,rfl⟩:=List.mem_map.mp (show x ∈ y.2.map fun z=>z.1 from hx)
   exact (g.L1 z hz).1
theorem g9.beside {y:aP} (g:g9 y) (v:Nat):(az y).beside v=JM.f6 (y.2.map JM.aT) v:=by
 have e:(az y).bonds.map (fun x=>(x.a,x.b))=y.2.map JM.aT:=qe y
 have:=JM.AI (M:=az y) (by rw [e,o7];exact g.rise) v
 rw [this,e]
theorem CJ {y:aP} {v:Nat} {z:Atom×Nat} (h:y.1[v]?=some z):(az y).atom v=z.1:=by simp [Mol.atom,az,List.getD,h]
theorem g9.SK {y:aP} (g:g9 y) (v:Nat):(JM.f6 (y.2.map JM.aT) v).length<=1000:=by
 have:=xF (y.2.map JM.aT) v
 rw [List.length_map] at this
 have:=g.few
 omega
section
variable {P:Program} {w:World} {K:PySem.W.Frag} {mg:Str->Option Value} {base:Heap} {t:Ad}
def Od (t:Ad):Sp:=fun vs H Q _=>∃ (g:Addr) (k:Nat) (z:qX) (y:aP) (D:Addr->Prop),vs=[.ref g,.int (k:Int)]/\lg t D H g z y/\g9 y/\k < y.1.length/\∀ H',aR H H'->Q (.bl ((az y).handed k)) H'
theorem AO:aL ["molecule","k","neighbours","hydrogens"] ["molecule","k"] (aE jU):=⟨rfl,rfl,rfl,by decide +kernel,rfl,by decide +kernel,by decide +kernel⟩
theorem LB (T:Txt K mg t):bB P w K mg base lS 1 t.cX t.gp ["molecule","k"] (Od t):=by
 refine T.eF.ok AO (fun vs H Q E h=>?_) (fun cdv A outer s H vs Q E hr h=>?_)
 . obtain ⟨g,k,z,y,D,rfl,_⟩:=h
   rfl
 . obtain ⟨g,n,z,y,D,rfl,M,gy,hn,k⟩:=h
   refine ⟨_,au (aQ (i:=2) AO.nd rfl (Or.inl rfl) (cA aW (by rfl) T.jk PySem.boot_len (af (dM bF (aK (pv 0) rfl) (pv 1) (fun _ _=>rfl)) ay)))
     (au (aQ (i:=3) AO.nd rfl (Or.inl rfl) (aK (dM bF (aK (pv 0) rfl) (pv 1) (fun _ _=>rfl)) rfl))
     (aB (bA (z8 (mT tN (pv 2) (oM (af aM (af aM ay))) rfl) (Dh (mT Ek (fC tH (pv 2) (pv 3)) aM (fD _))))))),?_⟩
   obtain ⟨dg,eg⟩:=M.obj
   obtain ⟨ra,Dc⟩:∃ ra,z.rs[n]?=some ra:=⟨_,List.getElem?_eq_getElem (by rw [M.rows.len,M.ra.len];exact hn)⟩
   have hA:=M.rows.at_ _ _ Dc
   have e1:(z.rs.map V.ref)[n]?=some (V.ref ra):=by rw [List.getElem?_map,Dc];rfl
   obtain ⟨a,ha⟩:∃ a,y.1[n]?=some a:=⟨_,List.getElem?_eq_getElem hn⟩
   obtain ⟨va,Qy⟩:∃ v,z.as[n]?=some v:=⟨_,List.getElem?_eq_getElem (by rw [M.ra.len];exact hn)⟩
   obtain ⟨o,dx,rfl,_,rep⟩:=M.ra.at_ n va a Qy ha
   refine ⟨_,rfl,g,_,dg,_,_,rfl,eg,T.bw,T.bc,rfl,_,rfl,z.lr,_,_,_,rfl,rfl,bM.of M.rows.lst,bK e1,ra,_,rfl,.inl (bM.of hA),?_⟩
   refine ⟨_,rfl,g,_,dg,_,_,rfl,eg,T.bw,T.bR,rfl,_,rfl,z.la,_,_,_,rfl,rfl,bM.of M.atoms,bK Qy,o,_,dx,_,_,rfl,rep,T.nA,T.dI,rfl,?_⟩
   refine ⟨_,rfl,(by show 2<=sizeLine;decide),fun p hp=>⟨p,_,rfl,.inr (mr.of ai),rfl,rfl,_,rfl,?_⟩⟩
   have qG:∀ l:List Nat,(vN l).length=l.length:=fun l=>by simp [vN]
   have e2:Ke (.int ((vN (JM.f6 (y.2.map JM.aT) n)).length:Int)) [.int 3,.int 4]=((JM.f6 (y.2.map JM.aT) n).length==3||(JM.f6 (y.2.map JM.aT) n).length==4):=by rw [qG];exact Jv _ 3 4
   have s3:aR H (upd H p (.tup [.int 3,.int 4])):=aJ hp
   have kk:=k _ s3
   have hd:(az y).handed n=(decide (3<=(JM.f6 (y.2.map JM.aT) n).length)&&(decide (a.1.hydrogens<=1)&&decide ((JM.f6 (y.2.map JM.aT) n).length+a.1.hydrogens<=4))):=by
     unfold Mol.handed
     rw [gy.beside,CJ ha]
   rw [if_neg Bool.false_ne_true,e2]
   refine BC (fun h=>?_) (fun h=>?_)
   . refine ⟨_,rfl,_,rfl,_,_,rfl,rfl,_,_,rfl,rfl,?_⟩
     simp only [Bool.or_eq_true,beq_iff_eq] at h
     have e3:decide (((vN (JM.f6 (y.2.map JM.aT) n)).length:Int)+(a.1.hydrogens:Int)<=4)=(az y).handed n:=by
       rw [hd,qG,Bool.eq_iff_iff]
       simp only [Bool.and_eq_true,decide_eq_true_eq]
       omega
     rw [<- e3] at kk
     exact kk
   . rw [Bool.not_eq_true] at h
     have e3:(az y).handed n=false:=by
       rw [hd,Bool.eq_false_iff]
       intro hc
       simp only [Bool.and_eq_true,decide_eq_true_eq] at hc
       have:¬ (((JM.f6 (y.2.map JM.aT) n).length==3||(JM.f6 (y.2.map JM.aT) n).length==4)=true):=by rw [h];decide
       simp only [Bool.or_eq_true,beq_iff_eq] at this
       omega
     rw [e3] at kk
     exact kk
def Oe (t:Ad):Sp:=fun vs H Q _=>∃ (g:Addr) (e o:Nat) (z:qX) (y:aP) (D:Addr->Prop),vs=[.ref g,.int (e:Int),.int (o:Int)]/\lg t D H g z y/\g9 y/\e < y.1.length/\∀ H',aR H H'->Q (.bl ((az y).endMay e o)) H'
theorem EN:aL ["molecule","end","other","others"] ["molecule","end","other"] (aE ju):=⟨rfl,rfl,rfl,by decide +kernel,rfl,by decide +kernel,by decide +kernel⟩
theorem LC (T:Txt K mg t):bB P w K mg base lS 2 t.cH t.fJ ["molecule","end","other"] (Oe t):=by
 have GB:bB P w K mg base lS 1 t.bz t.e9 ["self","end","other"] (zh K t.aG):=DN T T.bw T.bc
 refine T.cI.ok EN (fun vs H Q E h=>?_) (fun cdv A outer s H vs Q E hr h=>?_)
 . obtain ⟨g,e,o,z,y,D,rfl,_⟩:=h
   rfl
 . obtain ⟨g,n,o,z,y,D,rfl,M,gy,hn,k⟩:=h
   refine ⟨_,au (aQ (i:=3) EN.nd rfl (Or.inl rfl) (cA aW (by rfl) T.jk PySem.boot_len (af (b8 (pv 0) T.bw T.kR GB hr T.nN .nil cB (af (pv 1) (af (pv 2) ay))) ay)))
     (aB (bA (z8 (mT tN (pv 3) (oM (af aM (af aM ay))) rfl) (Dh (mT Ek (fC tH (pv 3) (aK (dM bF (aK (pv 0) rfl) (pv 1) (fun _ _=>rfl)) rfl)) aM (fD _)))))),?_⟩
   obtain ⟨dg,eg⟩:=M.obj
   obtain ⟨a,ha⟩:∃ a,y.1[n]?=some a:=⟨_,List.getElem?_eq_getElem hn⟩
   obtain ⟨va,Qy⟩:∃ v,z.as[n]?=some v:=⟨_,List.getElem?_eq_getElem (by rw [M.ra.len];exact hn)⟩
   obtain ⟨b,dx,rfl,_,rep⟩:=M.ra.at_ n va a Qy ha
   refine ⟨_,rfl,g,dg,_,rfl,eg,rfl,_,rfl,_,rfl,?_⟩
   refine ⟨g,dg,z.lr,_,z.rs,z.as.length,n,o,_,rfl,eg,rfl,M.rows,by rw [M.ra.len];exact hn,gy.SK _,fun H1 l1 s1 Xb hl1=>?_⟩
   refine ⟨l1,_,rfl,.inl (bM.of hl1),?_⟩
   refine ⟨_,rfl,(by show 2<=sizeLine;decide),fun p hp=>⟨p,_,rfl,.inr (mr.of ai),rfl,rfl,_,rfl,?_⟩⟩
   have s3:aR H (upd H1 p (.tup [.int 1,.int 2])):=s1.trans (aJ hp)
   have kk:=k _ s3
   have qG:∀ l:List Nat,(vN l).length=l.length:=fun l=>by simp [vN]
   have e2:Ke (.int ((vN ((JM.f6 (y.2.map JM.aT) n).filter fun x=>x != o)).length:Int)) [.int 1,.int 2]=(((JM.f6 (y.2.map JM.aT) n).filter fun x=>x != o).length==1||((JM.f6 (y.2.map JM.aT) n).filter fun x=>x != o).length==2):=by rw [qG];exact Jv _ 1 2
   have hd:(az y).endMay n o=(decide (1<=((JM.f6 (y.2.map JM.aT) n).filter fun x=>x != o).length)&&decide (((JM.f6 (y.2.map JM.aT) n).filter fun x=>x != o).length+a.1.hydrogens<=2)):=by
     unfold Mol.endMay Mol.besides
     rw [gy.beside,CJ ha]
   rw [if_neg Bool.false_ne_true,e2]
   refine BC (fun h=>?_) (fun h=>?_)
   . refine ⟨_,rfl,_,rfl,g,_,dg,_,_,rfl,s3 _ _ eg,T.bw,T.bR,rfl,_,rfl,z.la,_,_,_,rfl,rfl,bM.of (s3 _ _ M.atoms),bK Qy,b,_,dx,_,_,rfl,s3 _ _ rep,T.nA,T.dI,rfl,_,_,rfl,rfl,_,_,rfl,rfl,?_⟩
     simp only [Bool.or_eq_true,beq_iff_eq] at h
     have e3:decide (((vN ((JM.f6 (y.2.map JM.aT) n).filter fun x=>x != o)).length:Int)+(a.1.hydrogens:Int)<=2)=(az y).endMay n o:=by
       rw [hd,qG,Bool.eq_iff_iff]
       simp only [Bool.and_eq_true,decide_eq_true_eq]
       omega
     rw [<- e3] at kk
     exact kk
   . rw [Bool.not_eq_true] at h
     have e3:(az y).endMay n o=false:=by
       rw [hd,Bool.eq_false_iff]
       intro hc
       simp only [Bool.and_eq_true,decide_eq_true_eq] at hc
       have:¬ ((((JM.f6 (y.2.map JM.aT) n).filter fun x=>x != o).length==1||((JM.f6 (y.2.map JM.aT) n).filter fun x=>x != o).length==2)=true):=by rw [h];decide
       simp only [Bool.or_eq_true,beq_iff_eq] at this
       omega
     rw [e3] at kk
     exact kk
def Of (t:Ad):Sp:=fun vs H Q _=>∃ (g:Addr) (k:Nat) (z:qX) (y:aP) (D:Addr->Prop),vs=[.ref g,.int (k:Int)]/\lg t D H g z y/\g9 y/\k < y.2.length/\∀ H',aR H H'->Q (.bl ((az y).sided k)) H'
theorem AQ:aL ["molecule","k","bond","fixed_double"] ["molecule","k"] (aE jV):=⟨rfl,rfl,rfl,by decide +kernel,rfl,by decide +kernel,by decide +kernel⟩
theorem LD (T:Txt K mg t):bB P w K mg base lS 3 t.cY t.gq ["molecule","k"] (Of t):=by
 have GE:=@LC P w K mg base t T
 have GB:=@J0 P w K mg base t T
 refine T.eG.ok AQ (fun vs H Q E h=>?_) (fun cdv A outer s H vs Q E hr h=>?_)
 . obtain ⟨g,k,z,y,D,rfl,_⟩:=h
   rfl
 . obtain ⟨g,n,z,y,D,rfl,M,gy,hn,k⟩:=h
   have hr1:cK 1 _:=hr.mono (by decide)
   refine ⟨_,au (aQ (i:=2) AQ.nd rfl (Or.inl rfl) (dM bF (aK (pv 0) rfl) (pv 1) (fun _ _=>rfl)))
     (au (aQ (i:=3) AQ.nd rfl (Or.inl rfl) (mT Ej (dM bF (aK (pv 0) rfl) (pv 1) (fun _ _=>rfl)) (bE GB hr1 rfl T.pC T.gT.kp T.p8 .nil cB (af aM ay)) (fD _)))
     (aB (bA (z8 (pv 3) (z8 (bE GE hr rfl T.jx T.cI.kp T.jw .nil cB (af (pv 0) (af (aK (pv 2) rfl) (af (aK (pv 2) rfl) ay))))
       (Dh (bE GE hr rfl T.jx T.cI.kp T.jw .nil cB (af (pv 0) (af (aK (pv 2) rfl) (af (aK (pv 2) rfl) ay)))))))))),?_⟩
   obtain ⟨dg,eg⟩:=M.obj
   obtain ⟨x,hx⟩:∃ x,y.2[n]?=some x:=⟨_,List.getElem?_eq_getElem hn⟩
   obtain ⟨vb,Uy⟩:∃ v,z.us[n]?=some v:=⟨_,List.getElem?_eq_getElem (by rw [M.rb.len];exact hn)⟩
   obtain ⟨b,dx,rfl,_,rep⟩:=M.rb.at_ n vb x Uy hx
   have hq:x.1.a < x.1.b/\x.1.b < y.1.length:=gy.rise.1 (JM.aT x) (List.mem_map_of_mem (List.mem_of_getElem? hx))
   have hfo:(vI (vO (gF (az y)) (cJ (az y))))[n]?=some (.int (JM.iz (JM.Found (gF (az y)) (cJ (az y)) n):Int)):=pY (jh (by rw [qe,List.length_map];exact hn))
   refine ⟨_,rfl,g,_,dg,_,_,rfl,eg,T.bw,T.dJ,rfl,_,rfl,z.lb,_,_,_,rfl,rfl,bM.of M.bonds,bK Uy,?_⟩
   refine ⟨_,rfl,g,_,dg,_,_,rfl,eg,T.bw,T.fh,rfl,_,rfl,z.lo,_,_,_,rfl,rfl,bM.of M.orders,bK hfo,?_⟩
   refine ⟨2,rfl,by decide,by decide,rfl,?_⟩
   have hb:(az y).bonds[n]?=some x.1:=by simp [az,hx]
   have hnb:n < (az y).bonds.length:=(List.getElem?_eq_some_iff.mp hb).1
   have fx:=gy.good.fixed hnb
   have sd:(az y).sided n=(decide (JM.iz (JM.Found (gF (az y)) (cJ (az y)) n)=2)&&((az y).endMay x.1.a x.1.b&&(az y).endMay x.1.b x.1.a)):=by
     unfold Mol.sided
     rw [hb]
     simp only
     rw [fx]
   have de:decide (V.int (JM.iz (JM.Found (gF (az y)) (cJ (az y)) n):Int)=V.int ((2 ^ (2 - 1):Nat):Int))=decide (JM.iz (JM.Found (gF (az y)) (cJ (az y)) n)=2):=by
     rw [Bool.eq_iff_iff]
     simp only [decide_eq_true_eq]
     constructor
     . intro h
       injection h with h
       have:((2 ^ (2 - 1):Nat):Int)=2:=rfl
       omega
     . intro h
       rw [h]
   rw [de]
   rw [sd] at k
   refine ⟨_,rfl,_,rfl,?_⟩
   cases h1:decide (JM.iz (JM.Found (gF (az y)) (cJ (az y)) n)=2) with
   | false=>
     have kk:=k H (aR.refl _)
     rw [h1,Bool.false_and] at kk
     exact kk
   | true=>
     rw [h1,Bool.true_and] at k
     refine ⟨_,rfl,_,rfl,b,_,dx,_,_,rfl,rep,T.i8,T.je,rfl,_,rfl,b,_,dx,_,_,rfl,rep,T.i8,T.jf,rfl,?_⟩
     refine ⟨g,x.1.a,x.1.b,z,y,D,rfl,M,gy,by omega,fun H1 s1=>⟨_,rfl,?_⟩⟩
     cases h2:(az y).endMay x.1.a x.1.b with
     | false=>
       have kk:=k H1 s1
       rw [h2,Bool.false_and] at kk
       exact kk
     | true=>
       rw [h2,Bool.true_and] at k
       refine ⟨_,rfl,_,rfl,b,_,dx,_,_,rfl,s1 _ _ rep,T.i8,T.jf,rfl,_,rfl,b,_,dx,_,_,rfl,s1 _ _ rep,T.i8,T.je,rfl,?_⟩
       exact ⟨g,x.1.b,x.1.a,z,y,D,rfl,M.same s1,gy,hq.2,fun H2 s2=>k H2 (s1.trans s2)⟩
end
theorem AR (b:Bytes):Fk.judgeMol b=Fk.andThen (sR Fk.MOLMARK JM.o6 JM.kW b 0) fun y=>JM.xG (az y) y.1.zipIdx y.2.zipIdx:=by
 rw [JM.C5]
 unfold sR
 simp only [JM.aU,JM.aS]
theorem CK {α:Type} {l:List α} {i:Nat} {x:α} (h:l[i]?=some x):l.zipIdx.drop i=(x,i)::l.zipIdx.drop (i+1):=by
 obtain ⟨hl,hg⟩:=List.getElem?_eq_some_iff.mp h
 rw [List.drop_eq_getElem_cons (by simpa using hl)]
 simp [hg]
theorem uG:∀ {m b:Bytes} {p:Nat} {y:Bytes×Nat},JM.iH m b p=.ok y->y.1=b.drop m.length
 | [],b,p,y,h=>by cases h;rfl
 | c::m,b,p,y,h=>by
   unfold JM.iH at h
   obtain ⟨x,h1,h⟩:=JM.aI h
   obtain ⟨u,h2,h⟩:=JM.aI h
   have e:=uG h
   have:=(JM.aX h1).2.2.2.1
   rw [e,this,List.drop_drop,List.length_cons,Nat.add_comm]
theorem Og {B:Bytes} {k:Nat} (h:1<=(B.drop k).length):Fk.num ((B.drop k).take 1)=(B.getD k 0).toNat:=by
 have hk:k < B.length:=by rw [List.length_drop] at h;omega
 rw [List.drop_eq_getElem_cons hk]
 show Fk.num [B[k]]=_
 rw [JM.zM,List.getD,List.getElem?_eq_getElem hk]
 rfl
theorem CL {α:Type} {one:Bytes->Nat->Except Fault (α×Bytes×Nat)} {Pr:α->Prop} (ho:∀ b p x,one b p=.ok x->Pr x.1):∀ {k:Nat} {b:Bytes} {p:Nat} {y:List α×Bytes×Nat},JM.many one k b p=.ok y->∀ z ∈ y.1,Pr z
 | 0,b,p,y,h=>by cases h;simp
 | k+1,b,p,y,h=>by
   unfold JM.many at h
   obtain ⟨x,h1,h⟩:=JM.aI h
   obtain ⟨l,h2,h⟩:=JM.aI h
   cases h
   intro z hz
   rcases List.mem_cons.mp hz with r | r
   . rw [r];exact ho _ _ _ h1
   . exact CL ho h2 z r
theorem zu {α:Type} {n:Nat} {one:Nat×Nat->Bytes->Nat->Except Fault (α×Bytes×Nat)} {Pr:α->Prop} (ho:∀ q b p x,one q b p=.ok x->Pr x.1):∀ {k:Nat} {had:Option (Nat×Nat)} {b:Bytes} {p:Nat} {y:List α×Bytes×Nat},JM.gf n one k had b p=.ok y->∀ z ∈ y.1,Pr z
 | 0,_,b,p,y,h=>by cases h;simp
 | k+1,had,b,p,y,h=>by
   unfold JM.gf at h
   obtain ⟨q,h0,h⟩:=JM.aI h
   obtain ⟨x,h1,h⟩:=JM.aI h
   obtain ⟨l,h2,h⟩:=JM.aI h
   cases h
   intro z hz
   rcases List.mem_cons.mp hz with r | r
   . rw [r];exact ho _ _ _ _ h1
   . exact zu ho h2 z r
theorem AU (b:Bytes) (p:Nat) (x:(Atom×Nat)×Bytes×Nat) (h:JM.o6 b p=.ok x):x.1.1.element<=118/\x.1.1.isotope<=500/\(-4<=x.1.1.charge/\x.1.1.charge<=4)/\x.1.1.hydrogens<=7/\x.1.1.hand<=2:=by
 unfold JM.o6 JM.kF at h
 obtain ⟨w,h0,hw⟩:=JM.aI h
 cases hw
 obtain ⟨a1,h1,h0⟩:=JM.aI h0
 obtain ⟨a2,h2,h0⟩:=JM.aI h0
 obtain ⟨a3,h3,h0⟩:=JM.aI h0
 obtain ⟨a4,h4,h0⟩:=JM.aI h0
 obtain ⟨a5,h5,h0⟩:=JM.aI h0
 cases h0
 have g1:=(JM.aX h1).2.1
 have g2:=(JM.aX h2).2.1
 have g3:=(JM.aX h3).2.1
 have g4:=(JM.aX h4).2.1
 have g5:=(JM.aX h5).2.1
 simp only [Bool.and_eq_true,decide_eq_true_eq] at g1 g2 g3 g4 g5
 unfold Fk.ELEMENTS at g1
 unfold Fk.ISOTOPE at g2
 simp only
 omega
theorem AV (q:Nat×Nat) (b:Bytes) (p:Nat) (x:(Bond×Nat)×Bytes×Nat) (h:JM.kW q b p=.ok x):(1<=x.1.1.order/\x.1.1.order<=3)/\x.1.1.side<=2:=by
 unfold JM.kW JM.j9 at h
 obtain ⟨w,h0,hw⟩:=JM.aI h
 cases hw
 obtain ⟨a1,h1,h0⟩:=JM.aI h0
 obtain ⟨a2,h2,h0⟩:=JM.aI h0
 cases h0
 have g1:=(JM.aX h1).2.1
 have g2:=(JM.aX h2).2.1
 simp only [Bool.and_eq_true,decide_eq_true_eq] at g1 g2
 simp only
 omega
theorem CM {B:Bytes} {y:aP} (hy:sR Fk.MOLMARK JM.o6 JM.kW B 0=.ok y) (few:(B.getD 5 0).toNat<=12):g9 y:=by
 unfold sR at hy
 obtain ⟨m,hm,hy⟩:=JM.aI hy
 obtain ⟨n,hn,hy⟩:=JM.aI hy
 obtain ⟨k,hk,hy⟩:=JM.aI hy
 obtain ⟨x,hx,hy⟩:=JM.aI hy
 obtain ⟨z,hz,hy⟩:=JM.aI hy
 obtain ⟨_,_,hy⟩:=JM.aI hy
 cases hy
 have e1:=uG hm
 have e2:=(JM.aX hn).2.2.2.1
 have e3:=(JM.aX hk).2.2.1
 have e4:=(JM.aX hk).1
 have Qi:=of_decide_eq_true (JM.aX hn).2.1
 unfold Fk.ATOMS at Qi
 have lx:=JM.lE hx
 have lz:=JM.mX hz
 have e5:n.2.1=B.drop 5:=by rw [e2,e1,List.drop_drop];rfl
 rw [e5] at e3 e4
 rw [Og e4] at e3
 refine ⟨?_,by simp only;omega,by simp only;omega,zu AV hz,CL AU hx⟩
 have:=(JM.oX (ends:=JM.aT) JM.xJ hz).1
 simp only
 rw [lx]
 exact this
theorem SM (b:Bytes) (p:Nat) (y:(Atom×Nat)×Bytes×Nat) (h:JM.o6 b p=.ok y):((y.1.2:Nat):Int)=(y.2.2:Int) - 1:=by
 unfold JM.o6 at h
 obtain ⟨w,h1,h⟩:=JM.aI h
 cases h
 have:=JM.pU h1
 simp only
 omega
theorem SN (q:Nat×Nat) (b:Bytes) (p:Nat) (y:(Bond×Nat)×Bytes×Nat) (h:JM.kW q b p=.ok y):((y.1.2:Nat):Int)=(y.2.2:Int) - 1:=by
 unfold JM.kW at h
 obtain ⟨w,h1,h⟩:=JM.aI h
 cases h
 have:=JM.pV h1
 simp only
 omega
section
variable {P:Program} {w:World} {K:PySem.W.Frag} {mg:Str->Option Value} {base:Heap} {t:Ad}
theorem dX.same {K:PySem.W.Frag} {C:Addr} {H H':Hp} {r:Addr} {x:AD} (R:dX K C H r x) (f:aR H H'):dX K C H' r x:=R.stay (S:=[]) (aR.PU f) (by simp) (by simp) (by simp) (by simp)
def LF (K:PySem.W.Frag) (t:Ad):Sp:=fun vs H Q E=>∃ (a:Addr) (w:Int) (B:Bytes),vs=[.ref a,.int w]/\qV K H a B/\B.length<=6000/\(B.getD 5 0).toNat<=12 /\
 lP t.aF w (Fk.judgeMol B) (fun M=>∀ H' g z y,lg t (fun b=>H b=none) H' g z y->g9 y->M=az y->aR H H'->Q (.ref g) H') E
theorem jL:aL ["form","which","reader","graph","molecule","k","atom","bond"] ["form","which"] (aE jT):=⟨rfl,rfl,rfl,by decide +kernel,rfl,by decide +kernel,by decide +kernel⟩
theorem JL (T:Txt K mg t):bB P w K mg base (qD P w) 10 t.cW t.gn ["form","which"] (LF K t):=by
 have GI:=@Jl P w K mg base t T
 have GF:=@mL P w K mg base t T
 have GH:=@LB P w K mg base t T
 have GS:=@LD P w K mg base t T
 have GM:=@JK P w K mg base t T
 have GG:bB P w K mg base (qD P w) 9 t.eT t.ia ["reader","mark","take_atom","take_bond"] (EI K t.aA t.aF t.b9 t.eV t.eW JM.o6 JM.kW (k8 t.bW) (jn t.bX) (fun z=>z.2) (fun z=>z.2) JM.aT):=
   Jt T (k8.ok _) (jn.ok _) SM SN JM.xJ (fun ⟨o,dx,e,d,h⟩=>⟨o,e,d,o,_,dx,_,e,h,T.i8,T.je,T.jf,rfl,rfl⟩) ((NQ T).mono (by decide)) T.iM.kp T.u7 ((NR T).mono (by decide)) T.iN.kp T.u9
 obtain ⟨VU,g4⟩:=T.mH
 obtain ⟨Xc,g6⟩:=T.mJ
 refine T.eE.Hu jL (fun vs H Q E h=>?_) (fun cdv A outer s H vs Q E hr h=>?_)
 . obtain ⟨a,w,B,rfl,_⟩:=h
   rfl
 . obtain ⟨a,w,B,rfl,hB,hlen,few,bJ⟩:=h
   have hr1:cK 1 _:=hr.mono (by decide)
   have hr2:cK 2 _:=hr.mono (by decide)
   have Gw:cK 3 _:=hr.mono (by decide)
   have Kf:cK 5 _:=hr.mono (by decide)
   refine ⟨_,au (aQ (i:=2) jL.nd rfl (Or.inl rfl) (rL T.BS GI hr2 rfl T.BR T.qP .nil cB (af (pv 0) (af (pv 1) ay))))
     (au (aQ (i:=3) jL.nd rfl (Or.inl rfl) (bE GG hr rfl T.rX T.ic.kp T.rT .nil fz (af (pv 2) (af (b5 rfl T.IF (v:=.ref t.p6) rfl) (af (b5 rfl T.uA (v:=.ref t.eV) rfl) (af (b5 rfl T.uB (v:=.ref t.eW) rfl) ay))))))
     (au (aQ (i:=4) jL.nd rfl (Or.inl rfl) (rL T.wX GM Kf rfl T.wW T.nP .nil cB (af (aK (pv 3) rfl) (af (aK (pv 3) rfl) ay))))
     (au (fj FZ rfl (vA rfl T.jJ (af (aK (pv 4) rfl) ay)) (z9 rfl (j7 (bu (i:=5) jL.nd rfl (Or.inl rfl)) (j7 (bu (i:=6) jL.nd rfl (Or.inl rfl)) vp)))
       (aB (mw (PW.pt (z7 (eL Bl (aK (pv 6) rfl) aM (fD _)) (vo (Dg (tG (bE GH hr1 rfl T.nZ T.eF.kp T.nS .nil cB (af (pv 4) (af (pv 5) ay))))))))
         (aB (bV (b8 (pv 2) T.aH T.cT GF Gw T.cR .nil fz (af (b5 rfl g4 (v:=.int 4) ⟨_,rfl⟩) (af (dM bF (aK (pv 2) rfl) (pv 5) (fun _ _=>rfl)) ay))))) gY)))
     (au (fj FZ rfl (vA rfl T.jJ (af (aK (pv 4) rfl) ay)) (z9 rfl (j7 (bu (i:=5) jL.nd rfl (Or.inl rfl)) (j7 (bu (i:=7) jL.nd rfl (Or.inl rfl)) vp)))
       (aB (mw (PW.pt (z7 (eL Bl (aK (pv 7) rfl) aM (fD _)) (vo (Dg (tG (bE GS Gw rfl T.oh T.eG.kp T.nU .nil cB (af (pv 4) (af (pv 5) ay))))))))
         (aB (bV (b8 (pv 2) T.aH T.cT GF Gw T.cR .nil fz (af (b5 rfl g6 (v:=.int 6) ⟨_,rfl⟩) (af (dM bF (aK (pv 2) rfl) (pv 5) (fun _ _=>rfl)) ay))))) gY)))
     (aB (bA (pv 4))))))),?_⟩
   refine ⟨_,rfl,_,rfl,fun r dx nr nd ne=>?_⟩
   have M4:∀ b u,H b=some u->upd (upd H dx (.own r)) r (.ins t.aA dx []) b=some u:=fun b u e=>by rw [ak (aq e nr),ak (aq e nd)];exact e
   have hB':qV K (upd (upd H dx (.own r)) r (.ins t.aA dx [])) a B:=by
     rcases hB with ⟨o,h⟩ | h
     . exact .inl ⟨o,M4 _ _ h⟩
     . exact .inr h
   refine ⟨r,dx,a,w,B,rfl,ai,hB',hlen,fun H1 hp sp Ww Wx R1 F1=>⟨rfl,?_⟩⟩
   have S1:aR H H1:=fun b u e=>(i9.made (S:=[]) nr nd F1) b u e (by simp)
   have old:∀ b,upd (upd H dx (.own r)) r (.ins t.aA dx []) b=none->H b=none:=fun b h=>by
     cases q:H b with
     | none=>rfl
     | some u=>rw [M4 b u q] at h;cases h
   rw [AR] at bJ
   refine ⟨_,rfl,?_⟩
   refine ⟨r,t.p6,Fk.MOLMARK,_,rfl,R1,rfl,rfl,T.IG,bJ.andThen'.mono fun y hy bJ H2 g la lb lr as us rs b p R2 F2 G2 Uz Wy rise=>?_⟩
   have S2:aR H H2:=fun c u e=>F2 c u (S1 c u e) (by
     have h1:c ≠ r:=aq e nr
     have h2:c ≠ hp:=aq e (old hp Ww)
     have h3:c ≠ sp:=aq e (old sp Wx)
     simp [h1]
     exact ⟨h2,h3⟩)
   have gy:g9 y:=CM hy few
   have nn:∀ b,H1 b=none->H b=none:=fun b d=>by
     cases q:H b with
     | none=>rfl
     | some u=>rw [S1 b u q] at d;cases d
   have Gz:y.1.length=as.length:=Uz.len.symm
   obtain ⟨dg,eg⟩:=G2.obj
   refine ⟨_,rfl,g,_,dg,_,_,rfl,eg,T.vJ,T.iE,rfl,_,rfl,g,_,dg,_,_,rfl,eg,T.vJ,T.iF,rfl,fun o d3 no U0 ne3=>?_⟩
   have EO:∀ b u,H2 b=some u->upd (upd H2 d3 (.own o)) o (.ins t.aG d3 []) b=some u:=fun b u e=>by rw [ak (aq e no),ak (aq e U0)];exact e
   refine ⟨o,d3,la,lb,as,us,y,fun b=>H b=none,rfl,ai,EO _ _ G2.atoms,EO _ _ G2.bonds,(Uz.mono (k8.ok _) nn).stay (k8.ok _) (fun b u _ h=>EO b u h),(Wy.mono (jn.ok _) nn).stay (jn.ok _) (fun b u _ h=>EO b u h),by have:=gy.small;omega,gy.few,rise,fun H4 z hz1 hz2 Wz W0 M F4=>⟨rfl,?_⟩⟩
   subst hz1 hz2 Wz W0
   have U1:aR H2 H4:=fun b u e=>(i9.made (S:=[]) no U0 F4) b u e (by simp)
   have R4:=R2.same U1
   have S4:aR H H4:=S2.trans U1
   obtain ⟨dm,em⟩:=M.obj
   have Qz:z.as.length=y.1.length:=M.ra.len
   refine ⟨_,rfl,o,_,dm,_,_,rfl,em,T.bw,T.bR,rfl,z.la,z.as,rfl,bM.of M.atoms,?_⟩
   refine sS (K:=K) (a:=z.la) (xs:=z.as) (fun i σ H'=>∃ vk va,σ=[some (.ref a),some (.int w),some (.ref r),some (.ref g),some (.ref o),vk,va,none]/\aR H4 H' /\
     lP t.aF w (JM.xG (az y) (y.1.zipIdx.drop i) y.2.zipIdx) (fun Mo=>∀ H' g z y,lg t (fun b=>H b=none) H' g z y->g9 y->Mo=az y->aR H H'->Q (.ref g) H') E)
     ⟨none,none,rfl,aR.refl _,bJ⟩ (fun i σ H' _ ⟨_,_,_,sm,_⟩=>bM.of (sm _ _ M.atoms)) ?_ ?_
   . rintro i x σ H' Tt hx ⟨vk,va,rfl,sm,bJ⟩ hT
     have hi:i < z.as.length:=(List.getElem?_eq_some_iff.mp hx).1
     obtain ⟨c,hc⟩:∃ c,y.1[i]?=some c:=⟨_,List.getElem?_eq_getElem (by omega)⟩
     obtain ⟨q,dq,rfl,_,rep⟩:=M.ra.at_ i x c hx hc
     rw [CK hc,JM.DP] at bJ
     have sm':aR H4 (upd H' Tt (.tup [.int (i:Int),.ref q])):=sm.trans (aJ hT)
     refine ⟨Tt,_,rfl,mr.of ai,rfl,_,_,rfl,_,_,rfl,rfl,?_⟩
     refine ⟨_,rfl,q,_,dq,_,_,rfl,sm' _ _ rep,T.nA,T.jH,rfl,rfl,_,rfl,?_⟩
     have de:(!decide (V.int (c.1.hand:Int)=V.int 0))=(c.1.hand != 0):=by
       rw [Bool.eq_iff_iff]
       simp
     rw [de]
     cases h1:(c.1.hand != 0) with
     | false=>
       have nb:¬ JM.vj (az y) (c,i)=true:=by simp [JM.vj,h1]
       rw [if_neg nb] at bJ
       exact ⟨_,_,rfl,sm',bJ⟩
     | true=>
       refine ⟨_,rfl,_,rfl,?_⟩
       refine ⟨o,i,z,y,_,rfl,M.same sm',gy,by omega,fun H5 s5=>⟨_,rfl,?_⟩⟩
       have Q0:aR H4 H5:=sm'.trans s5
       cases h2:(az y).handed i with
       | true=>
         have nb:¬ JM.vj (az y) (c,i)=true:=by simp [JM.vj,h1,h2]
         rw [if_neg nb] at bJ
         exact ⟨_,_,rfl,Q0,bJ⟩
       | false=>
         have nb:JM.vj (az y) (c,i)=true:=by simp [JM.vj,h1,h2]
         rw [if_pos nb] at bJ
         have R5:=R4.same Q0
         obtain ⟨d5,e5⟩:=R5.obj
         have e6:((y.1.map fun z=>((z.2:Nat):Int)).map V.int)[i]?=some (V.int (c.2:Int)):=by simp [hc]
         refine ⟨_,rfl,r,d5,_,rfl,e5,rfl,_,rfl,r,_,d5,_,_,rfl,e5,T.aH,T.bP,rfl,_,rfl,hp,_,_,_,rfl,rfl,bM.of R5.hpl,bK e6,?_⟩
         exact ⟨r,w,4,(c.2:Int),d5,_,rfl,e5,rfl,fun H' d' hF=>bJ H' d' hF⟩
   . rintro σ H' ⟨vk,va,rfl,sm,bJ⟩
     rw [Qz,show y.1.zipIdx.drop y.1.length=[] from List.drop_eq_nil_of_le (by simp)] at bJ
     have M5:=M.same sm
     obtain ⟨W2,W3⟩:=M5.obj
     refine ⟨_,rfl,o,_,W2,_,_,rfl,W3,T.bw,T.dJ,rfl,z.lb,z.us,rfl,bM.of M5.bonds,?_⟩
     refine sS (K:=K) (a:=z.lb) (xs:=z.us) (fun i σ H'=>∃ vk vb,σ=[some (.ref a),some (.int w),some (.ref r),some (.ref g),some (.ref o),vk,va,vb]/\aR H4 H' /\
       lP t.aF w (JM.zk (az y) (y.2.zipIdx.drop i)) (fun Mo=>∀ H' g z y,lg t (fun b=>H b=none) H' g z y->g9 y->Mo=az y->aR H H'->Q (.ref g) H') E)
       ⟨vk,none,rfl,sm,bJ⟩ (fun i σ H' _ ⟨_,_,_,sm,_⟩=>bM.of (sm _ _ M.bonds)) ?_ ?_
     . rintro i x σ H' Tt hx ⟨vk,vb,rfl,sm,bJ⟩ hT
       have hi:i < z.us.length:=(List.getElem?_eq_some_iff.mp hx).1
       have hi2:i < y.2.length:=by rw [<- M.rb.len];exact hi
       obtain ⟨c,hc⟩:∃ c,y.2[i]?=some c:=⟨_,List.getElem?_eq_getElem hi2⟩
       obtain ⟨q,dq,rfl,_,rep⟩:=M.rb.at_ i x c hx hc
       rw [CK hc,JM.DQ] at bJ
       have sm':aR H4 (upd H' Tt (.tup [.int (i:Int),.ref q])):=sm.trans (aJ hT)
       refine ⟨Tt,_,rfl,mr.of ai,rfl,_,_,rfl,_,_,rfl,rfl,?_⟩
       refine ⟨_,rfl,q,_,dq,_,_,rfl,sm' _ _ rep,T.i8,T.jI,rfl,rfl,_,rfl,?_⟩
       have de:(!decide (V.int (c.1.side:Int)=V.int 0))=(c.1.side != 0):=by
         rw [Bool.eq_iff_iff]
         simp
       rw [de]
       cases h1:(c.1.side != 0) with
       | false=>
         have nb:¬ JM.vm (az y) (c,i)=true:=by simp [JM.vm,h1]
         rw [if_neg nb] at bJ
         exact ⟨_,_,rfl,sm',bJ⟩
       | true=>
         refine ⟨_,rfl,_,rfl,?_⟩
         refine ⟨o,i,z,y,_,rfl,M.same sm',gy,hi2,fun H5 s5=>⟨_,rfl,?_⟩⟩
         have Q0:aR H4 H5:=sm'.trans s5
         cases h2:(az y).sided i with
         | true=>
           have nb:¬ JM.vm (az y) (c,i)=true:=by simp [JM.vm,h1,h2]
           rw [if_neg nb] at bJ
           exact ⟨_,_,rfl,Q0,bJ⟩
         | false=>
           have nb:JM.vm (az y) (c,i)=true:=by simp [JM.vm,h1,h2]
           rw [if_pos nb] at bJ
           have R5:=R4.same Q0
           obtain ⟨d5,e5⟩:=R5.obj
           have e6:((y.2.map fun z=>((z.2:Nat):Int)).map V.int)[i]?=some (V.int (c.2:Int)):=by simp [hc]
           refine ⟨_,rfl,r,d5,_,rfl,e5,rfl,_,rfl,r,_,d5,_,_,rfl,e5,T.aH,T.bQ,rfl,_,rfl,sp,_,_,_,rfl,rfl,bM.of R5.CZ,bK e6,?_⟩
           exact ⟨r,w,6,(c.2:Int),d5,_,rfl,e5,rfl,fun H' d' hF=>bJ H' d' hF⟩
     . rintro σ H' ⟨vk,vb,rfl,sm,bJ⟩
       rw [M.rb.len,show y.2.zipIdx.drop y.2.length=[] from List.drop_eq_nil_of_le (by simp)] at bJ
       exact ⟨_,rfl,bJ H' o z y (M.same sm) gy rfl (S4.trans sm)⟩
end
open Fk (Fault Bytes numIn need andThen Atom Bond Mol PAtom PBond Part)
section
variable {P:Program} {w:World} {K:PySem.W.Frag} {mg:Str->Option Value} {base:Heap} {t:Ad}
end
section
variable {P:Program} {w:World} {K:PySem.W.Frag} {mg:Str->Option Value} {base:Heap} {t:Ad}
end
open Fk (Fault Bytes numIn need andThen PAtom PBond Part)
section
variable {P:Program} {w:World} {K:PySem.W.Frag} {mg:Str->Option Value} {base:Heap} {t:Ad}
def SQ (CF:Addr):Sp:=fun vs H Q _=>∃ (a dx:Addr) (w r p:Int),vs=[.ref a]/\H a=some (XR a CF dx)/\qw H dx w r p/\∀ H' l,H' l=some (.lst ([-5,w,r,p].map V.int))->Q (.ref l) H'
theorem Q3:aL ["fault"] ["fault"] (aE kK):=⟨rfl,rfl,rfl,by decide +kernel,rfl,by decide +kernel,by decide +kernel⟩
theorem Q4 (T:Txt K mg t):Iw P w K mg base 1 t.dR t.gQ ["fault"] (SQ t.aF):=by
 obtain ⟨tk,g⟩:=T.qT
 obtain ⟨oc,od,kV,doc,pm,an,cdv,ct,osl,e,lk,hcd⟩:=T.fN.ex
 rw [e] at lk
 rw [e]
 refine N3 lk hcd Q3 (fun vs H Q E h=>?_) (fun A outer s H vs Q E hr h=>?_)
 . obtain ⟨a,dx,w,r,p,rfl,_⟩:=h
   rfl
 . obtain ⟨a,dx,w,r,p,rfl,ha,hf,k⟩:=h
   refine ⟨_,aB (bA (gC (af (b5 rfl g (v:=.int (-5)) ⟨_,rfl⟩) (af (Ir T.eZ (pv 0) (by simp) zf rfl) (af (Ir T.eZ (pv 0) (by simp) Cy rfl) (af (Ir T.eZ (pv 0) (by simp) zg rfl) ay)))))),?_⟩
   exact ⟨_,rfl,a,dx,_,_,rfl,ha,hf,rfl,_,rfl,a,dx,_,_,rfl,ha,hf,rfl,_,rfl,a,dx,_,_,rfl,ha,hf,rfl,(by show 4<=sizeLine;decide),fun l hl=>k _ l ai⟩
end
section
variable {P:Program} {w:World} {K:PySem.W.Frag} {mg:Str->Option Value} {base:Heap} {t:Ad}
def Q5:Sp:=fun vs H Q _=>∃ (l:Addr) (r:List Int),vs=[.ref l]/\H l=some (.lst (vI r))/\r.length<=10000000/\∀ H' p,H' p=some (.lst (vI (0::(r.length:Int)::r)))->Q (.ref p) H'
theorem Oh:aL ["row"] ["row"] (aE nt):=⟨rfl,rfl,rfl,by decide +kernel,rfl,by decide +kernel,by decide +kernel⟩
theorem Oi (T:Txt K mg t):bB P w K mg base lS 1 t.fW t.iZ ["row"] Q5:=by
 obtain ⟨tk,g⟩:=T.wY
 refine T.ig.ok Oh (fun vs H Q E h=>?_) (fun cdv A outer s H vs Q E hr h=>?_)
 . obtain ⟨l,r,rfl,_⟩:=h
   rfl
 . obtain ⟨l,r,rfl,hl,hr0,k⟩:=h
   refine ⟨_,aB (bA (fC Ib (gC (af (b5 rfl g (v:=.int 0) ⟨_,rfl⟩) (af (cA aW (by rfl) T.jk PySem.boot_len (af (pv 0) ay)) ay))) (pv 0))),?_⟩
   have ln:(vI r).length=r.length:=by simp [vI]
   refine ⟨_,rfl,l,_,rfl,.inl (bM.of hl),(by show 2<=sizeLine;decide),fun p1 hp1=>?_⟩
   have s1:=aJ (o:=.lst [V.int 0,V.int ((vI r).length:Int)]) hp1
   refine ⟨_,rfl,p1,l,_,_,rfl,rfl,ai,s1 _ _ hl,by rw [sizeLine_eq];simp [ln];omega,fun p2 hp2=>k _ p2 ?_⟩
   rw [ai,ln]
   rfl
end
theorem Oj {K:PySem.W.Frag} {H:Hp} {a:Addr} {B:Bytes} (hO:yY H) (hs:bM K H a (vB B)):qV K H a B:=by
 rcases hs with hs | hs
 . rcases hs with h | ⟨o,h⟩
   . rcases hO a with z | ⟨o,u,z⟩<;>(rw [z] at h;cases h)
   . exact .inl ⟨o,h⟩
 . exact .inr fun H'=>.inr hs
def bytesOf (l:List Int):Bytes:=l.map fun (z:Int)=>UInt8.ofNat z.toNat
theorem CN (l:List Int):(bytesOf l).length=l.length:=by simp [bytesOf]
theorem M6:∀ l:List Int,(∀ z ∈ l,0<=z/\z<=255)->l.map V.int=vB (bytesOf l)
 | [],_=>rfl
 | z::r,h=>by
   have hz:=h z (by simp)
   have ih:=M6 r fun y hy=>h y (by simp [hy])
   have e:((UInt8.ofNat z.toNat).toNat:Int)=z:=by
     rw [UInt8.toNat_ofNat',Nat.mod_eq_of_lt (by omega)]
     omega
   unfold vB bytesOf at ih ⊢
   simp only [List.map_cons,e,ih]
theorem DV (l:List Int) (h:∀ z ∈ l,0<=z/\z<=255):PartNeutral.bytes l=some (bytesOf l):=by
 have hb:NeutralIO.bytes l=true:=by
   unfold NeutralIO.bytes
   rw [List.all_eq_true]
   intro z hz
   have:=h z hz
   simp [this]
 unfold PartNeutral.bytes
 rw [if_pos hb]
 rfl
theorem DW {l:List Nat} {i:Nat} {x:V} (h:(vN l)[i]?=some x):∃ v,l[i]?=some v/\x=.int (v:Int):=by
 have ev:(vN l)[i]?=(l[i]?).map (fun (v:Nat)=>V.int (v:Int)):=by simp [vN]
 rw [ev] at h
 cases q:l[i]? with
 | none=>rw [q] at h;cases h
 | some v=>rw [q] at h;exact ⟨v,rfl,(Option.some.inj h).symm⟩
section
variable {P:Program} {w:World} {K:PySem.W.Frag} {mg:Str->Option Value} {base:Heap} {t:Ad}
end
end MP
namespace JM
open Fk
def tD (l:List Nat) (v w:Nat):Prop:=∃ p s,l=p++v::w::s
theorem jM {x:Nat} {l:List Nat} {v w:Nat}:tD (x::l) v w ↔ (x=v/\l.head?=some w)\/tD l v w:=by
 constructor
 . rintro ⟨p,s,e⟩
   cases p with
   | nil=>
     rw [List.nil_append,List.cons.injEq] at e
     obtain ⟨e1,e2⟩:=e
     exact .inl ⟨e1,by rw [e2];rfl⟩
   | cons y p=>
     rw [List.cons_append,List.cons.injEq] at e
     exact .inr ⟨p,s,e.2⟩
 . rintro (⟨rfl,h⟩ | ⟨p,s,rfl⟩)
   . cases l with
     | nil=>cases h
     | cons y l=>
       cases h
       exact ⟨[],l,rfl⟩
   . exact ⟨x::p,s,rfl⟩
theorem vQ {v w:Nat}:¬ tD [] v w:=by
 rintro ⟨p,s,e⟩
 cases p<;>cases e
theorem ER {l:List Nat} {v w:Nat}:tD l.reverse v w ↔ tD l w v:=by
 constructor
 . rintro ⟨p,s,e⟩
   refine ⟨s.reverse,p.reverse,?_⟩
   have:=congrArg List.reverse e
   simpa using this
 . rintro ⟨p,s,rfl⟩
   exact ⟨s.reverse,p.reverse,by simp⟩
theorem xO {l:List Nat} {x v w:Nat}:tD (l++[x]) v w ↔ tD l v w\/(l.getLast?=some v/\x=w):=by
 rw [<- ER,List.reverse_append,List.reverse_singleton,List.singleton_append,jM,ER,List.head?_reverse]
 constructor
 . rintro (⟨a,b⟩ | h)
   . exact .inr ⟨b,a⟩
   . exact .inl h
 . rintro (h | ⟨a,b⟩)
   . exact .inr h
   . exact .inl ⟨b,a⟩
def closed (r:List Nat):List Nat:=r++r.take 1
theorem CO (x:Nat) (l:List Nat):closed (x::l)=x::(l++[x]):=by simp [closed]
def Ed (r:List Nat) (v w:Nat):Prop:=tD (closed r) v w\/tD (closed r) w v
theorem ES:∀ (t:List Nat) (x z v w:Nat),(v,w) ∈ (x::t).zip (t++[z]) ↔ tD (x::(t++[z])) v w
 | [],x,z,v,w=>by
   rw [jM]
   simp [tD,jM]
   constructor
   . rintro ⟨a,b⟩;exact .inl ⟨a.symm,b.symm⟩
   . rintro (⟨a,b⟩ | ⟨p,s,e⟩)
     . exact ⟨a.symm,b.symm⟩
     . cases p with
       | nil=>cases e
       | cons y p=>cases p<;>cases e
 | y::t,x,z,v,w=>by
   rw [jM,List.cons_append,List.zip_cons_cons,List.mem_cons,ES t y z v w]
   simp
   constructor
   . rintro (⟨a,b⟩ | h)
     . exact .inl ⟨a.symm,b.symm⟩
     . exact .inr h
   . rintro (⟨a,b⟩ | h)
     . exact .inl ⟨a.symm,b.symm⟩
     . exact .inr h
theorem rE (r:List Nat) (v w:Nat):nextIn r v w=true ↔ Ed r v w:=by
 have key:∀ a b,(a,b) ∈ r.zip (r.drop 1++r.take 1) ↔ tD (closed r) a b:=fun a b=>by
   cases r with
   | nil=>
     constructor
     . intro h;simp at h
     . intro h;exact absurd h vQ
   | cons x t=>
     rw [CO]
     exact ES t x x a b
 unfold nextIn Ed
 rw [List.any_eq_true]
 constructor
 . rintro ⟨⟨a,b⟩,hm,h⟩
   simp only [Bool.or_eq_true,Bool.and_eq_true,beq_iff_eq] at h
   rcases h with ⟨rfl,rfl⟩ | ⟨rfl,rfl⟩
   . exact .inl ((key _ _).mp hm)
   . exact .inr ((key _ _).mp hm)
 . rintro (h | h)
   . exact ⟨(v,w),(key _ _).mpr h,by simp⟩
   . exact ⟨(w,v),(key _ _).mpr h,by simp⟩
structure W4 (J:Nat->Nat->Prop) (r:List Nat):Prop where
 nd:r.Nodup
 three:3<=r.length
 SS:∀ v w,tD (closed r) v w->J v w
theorem xP (l:List Nat) (z:Nat):(l++[z]).getLastD 0=z:=by
 rw [List.getLastD_eq_getLast?,List.getLast?_concat]
 rfl
structure Canon (J:Nat->Nat->Prop) (r:List Nat):Prop where
 QW:W4 J r
 least:∃ m t,r=m::t/\∀ x ∈ t,m < x
 turn:r.getD 1 0 < r.getLastD 0
end JM
namespace JM
open Fk
variable {M:Mol}
theorem rF (v w:Nat):M.joined v w=true ↔ ∃ x ∈ M.bonds,x.joins v w=true:=by
 unfold Mol.joined Mol.bond
 rw [List.find?_isSome]
theorem mO (g:kY M) {v w:Nat} (h:M.joined v w=true):v < M.n/\w < M.n/\v ≠ w:=by
 obtain ⟨x,h1,h2⟩:=(rF v w).mp h
 have e:=g.ends (x.a,x.b) (List.mem_map.mpr ⟨x,h1,rfl⟩)
 unfold Bond.joins at h2
 simp only [Bool.or_eq_true,Bool.and_eq_true,beq_iff_eq] at h2
 simp only at e
 omega
theorem iK (v w:Nat):w ∈ M.beside v ↔ w < M.n/\M.joined v w=true:=by
 unfold Mol.beside
 rw [List.mem_filter,List.mem_range]
abbrev Jn (M:Mol):Nat->Nat->Prop:=fun v w=>M.joined v w=true
def closes (M:Mol) (r:List Nat):Bool:=decide (3<=r.length)&&(M.joined (r.getLastD 0) (r.headD 0)&&decide (r.getD 1 0 < r.getLastD 0))
theorem vR (r:List Nat):M.ringsFrom 0 r=if closes M r=true then [r] else []:=rfl
theorem vS (k:Nat) (r:List Nat):M.ringsFrom (k+1) r=(if closes M r=true then [r] else [])++(M.beside (r.getLastD 0)).flatMap fun w=>if w<=r.headD 0\/r.contains w=true then [] else M.ringsFrom k (r++[w]):=rfl
theorem M7 (g:kY M):∀ (k:Nat) (p s:List Nat),p ≠ []->s.length<=k->(∀ w ∈ s,p.headD 0 < w)->(p++s).Nodup->(∀ v w,tD (p++s) v w->Jn M v w)->closes M (p++s)=true->p++s ∈ M.ringsFrom k p
 | 0,p,[],_,_,_,_,_,c=>by
   rw [List.append_nil] at c ⊢
   rw [vR,if_pos c]
   simp
 | 0,p,_::_,_,h,_,_,_,_=>by simp at h
 | k+1,p,[],_,_,_,_,_,c=>by
   rw [List.append_nil] at c ⊢
   rw [vS,if_pos c]
   simp
 | k+1,p,w::s,hp,hl,hb,nd,aj,c=>by
   rw [vS]
   refine List.mem_append_right _ (List.mem_flatMap.mpr ⟨w,?_,?_⟩)
   . have lw:tD (p++w::s) (p.getLastD 0) w:=by
       refine ⟨p.dropLast,s,?_⟩
       have e:p.dropLast++[p.getLastD 0]=p:=by
         rw [List.getLastD_eq_getLast?,List.getLast?_eq_some_getLast hp]
         exact List.dropLast_concat_getLast hp
       calc p++w::s=(p.dropLast++[p.getLastD 0])++w::s:=by rw [e]
         _=_:=by simp
     have j:=aj _ _ lw
     exact (iK _ _).mpr ⟨(mO g j).2.1,j⟩
   . have SV:¬ (w<=p.headD 0\/p.contains w=true):=by
       rintro (h | h)
       . have:=hb w (by simp);omega
       . rw [List.contains_iff_mem] at h
         rw [List.nodup_append] at nd
         exact nd.2.2 w h w (by simp) rfl
     rw [if_neg SV]
     have e:p++w::s=p++[w]++s:=by simp
     rw [e] at nd aj c ⊢
     have hd:(p++[w]).headD 0=p.headD 0:=by
       cases p with
       | nil=>exact absurd rfl hp
       | cons y p=>rfl
     exact M7 g k (p++[w]) s (by simp) (by simpa using hl) (fun x hx=>by rw [hd];exact hb x (by simp [hx])) nd aj c
theorem JN:∀ (k:Nat) (p r:List Nat),p ≠ []->p.Nodup->(∀ v w,tD p v w->Jn M v w)->r ∈ M.ringsFrom k p->∃ s,r=p++s/\(∀ w ∈ s,p.headD 0 < w)/\r.Nodup/\(∀ v w,tD r v w->Jn M v w)/\closes M r=true
 | 0,p,r,_,nd,aj,h=>by
   rw [vR] at h
   split at h
   . simp at h
     subst h
     exact ⟨[],by simp,by simp,nd,aj,by assumption⟩
   . simp at h
 | k+1,p,r,hp,nd,aj,h=>by
   rw [vS] at h
   rcases List.mem_append.mp h with h | h
   . split at h
     . simp at h
       subst h
       exact ⟨[],by simp,by simp,nd,aj,by assumption⟩
     . simp at h
   . obtain ⟨w,hw,h⟩:=List.mem_flatMap.mp h
     split at h
     . simp at h
     . rename_i c
       have c1:p.headD 0 < w:=by
         have:¬ w<=p.headD 0:=fun q=>c (.inl q)
         omega
       have c2:w ∉ p:=fun q=>c (.inr (List.contains_iff_mem.mpr q))
       have nd':(p++[w]).Nodup:=by
         rw [List.nodup_append]
         exact ⟨nd,by simp,fun a ha b hb=>by
           simp at hb
           subst hb
           exact fun q=>c2 (q ▸ ha)⟩
       have W5:∀ v u,tD (p++[w]) v u->Jn M v u:=fun v u a=>by
         rcases xO.mp a with a | ⟨a',rfl⟩
         . exact aj v u a
         . have e:p.getLastD 0=v:=by rw [List.getLastD_eq_getLast?,a'];rfl
           rw [e] at hw
           exact ((iK _ _).mp hw).2
       obtain ⟨s,e,h1,h2,h3,h4⟩:=JN k (p++[w]) r (by simp) nd' W5 h
       have hd:(p++[w]).headD 0=p.headD 0:=by
         cases p with
         | nil=>exact absurd rfl hp
         | cons y p=>rfl
       refine ⟨w::s,by rw [e];simp,fun x hx=>?_,h2,h3,h4⟩
       rcases List.mem_cons.mp hx with rfl | hx
       . exact c1
       . have:=h1 x hx
         rw [hd] at this
         exact this
theorem iP:∀ (n:Nat) (l:List Nat),l.Nodup->(∀ x ∈ l,x < n)->l.length<=n
 | 0,[],_,_=>by simp
 | 0,x::l,_,h=>absurd (h x (by simp)) (by omega)
 | n+1,l,nd,h=>by
   have ih:=iP n (l.erase n) (nd.erase n) (fun x hx=>by
     have:=(nd.mem_erase_iff).mp hx
     have:=h x this.2
     omega)
   by_cases c:n ∈ l
   . have:=List.length_erase_of_mem c
     omega
   . rw [List.erase_of_not_mem c] at ih
     omega
theorem rG (r:List Nat):closes M r=true ↔ 3<=r.length/\M.joined (r.getLastD 0) (r.headD 0)=true/\r.getD 1 0 < r.getLastD 0:=by
 unfold closes
 simp [Bool.and_eq_true]
theorem gX {r:List Nat} (hr:r ≠ []) (v w:Nat):tD (closed r) v w ↔ tD r v w\/(r.getLastD 0=v/\r.headD 0=w):=by
 cases r with
 | nil=>exact absurd rfl hr
 | cons x t=>
   have:closed (x::t)=(x::t)++[x]:=by simp [closed]
   rw [this,xO,List.getLastD_eq_getLast?,List.getLast?_eq_some_getLast hr]
   simp
theorem qz (g:kY M) (r:List Nat):r ∈ M.ringRows ↔ Canon (Jn M) r:=by
 have e:r ∈ M.ringRows ↔ r.length<=M.n/\∃ v < M.n,r ∈ M.ringsFrom M.n [v]:=by
   unfold Mol.ringRows
   simp only [List.mem_flatMap,List.mem_filter,List.mem_range,beq_iff_eq]
   constructor
   . rintro ⟨k,hk,⟨v,hv,h⟩,rfl⟩
     exact ⟨by omega,v,hv,h⟩
   . rintro ⟨hk,v,hv,h⟩
     exact ⟨r.length,by omega,⟨v,hv,h⟩,rfl⟩
 rw [e]
 constructor
 . rintro ⟨_,v,hv,h⟩
   have na:∀ a b,¬ tD [v] a b:=fun a b q=>by
     rcases jM.mp q with ⟨_,q⟩ | q
     . cases q
     . exact vQ q
   obtain ⟨s,rfl,h1,h2,h3,h4⟩:=JN M.n [v] r (by simp) (by simp) (fun a b q=>absurd q (na a b)) h
   obtain ⟨c1,c2,c3⟩:=(rG _).mp h4
   refine ⟨⟨h2,c1,fun a b q=>?_⟩,⟨v,s,rfl,h1⟩,c3⟩
   rcases (gX (by simp) a b).mp q with q | ⟨rfl,rfl⟩
   . exact h3 a b q
   . exact c2
 . rintro ⟨⟨nd,l3,aj⟩,⟨m,t,rfl,lt⟩,tn⟩
   have W6:∀ v w,tD (m::t) v w->Jn M v w:=fun v w q=>aj v w ((gX (by simp) v w).mpr (.inl q))
   have cl:M.joined ((m::t).getLastD 0) ((m::t).headD 0)=true:=aj _ _ ((gX (by simp) _ _).mpr (.inr ⟨rfl,rfl⟩))
   have U5:∀ x ∈ m::t,x < M.n:=by
     intro x hx
     obtain ⟨p,s,e⟩:=List.append_of_mem hx
     have:∃ w,tD (closed (m::t)) x w:=by
       cases s with
       | nil=>exact ⟨m,(gX (by simp) _ _).mpr (.inr ⟨by rw [e,xP],rfl⟩)⟩
       | cons w s=>exact ⟨w,(gX (by simp) _ _).mpr (.inl ⟨p,s,e⟩)⟩
     obtain ⟨w,hw⟩:=this
     exact (mO g (aj _ _ hw)).1
   have ln:=iP M.n (m::t) nd U5
   refine ⟨ln,m,U5 m (by simp),?_⟩
   have:=M7 g M.n [m] t (by simp) (by simp at ln;omega) lt nd W6 ((rG _).mpr ⟨l3,cl,tn⟩)
   exact this
end JM
namespace JM
open Fk
variable {M:Mol}
theorem xQ {α:Type} (f:α->Bool):∀ (l:List α) (j acc:Nat),acc < 2 ^ j->∀ i,(((l.zipIdx j).map fun x=>if f x.1=true then 2 ^ x.2 else 0).foldl (fun (a b:Nat)=>a+b) acc).testBit i=if i < j then acc.testBit i else ((l[i - j]?).map f).getD false
 | [],j,acc,h,i=>by
   show acc.testBit i=_
   split
   . rfl
   . rename_i c
     exact Nat.testBit_lt_two_pow (Nat.lt_of_lt_of_le h (Nat.pow_le_pow_right (by decide) (by omega)))
 | x::l,j,acc,h,i=>by
   rw [List.zipIdx_cons,List.map_cons,List.foldl_cons]
   simp only
   have p2:2 ^ (j+1)=2 ^ j+2 ^ j:=by rw [Nat.pow_succ];omega
   have hb:acc+(if f x=true then 2 ^ j else 0) < 2 ^ (j+1):=by
     split<;>omega
   rw [xQ f l (j+1) _ hb i]
   have bit:(acc+(if f x=true then 2 ^ j else 0)).testBit i=if i < j then acc.testBit i else if i=j then f x else (acc+(if f x=true then 2 ^ j else 0)).testBit i:=by
     cases hf:f x with
     | false=>
       simp only [Bool.false_eq_true,if_false,Nat.add_zero]
       split
       . rfl
       . split
         . rename_i c e
           rw [e]
           exact Nat.testBit_lt_two_pow h
         . rfl
     | true=>
       simp only [if_true]
       have e:acc+2 ^ j=2 ^ j * 1 ||| acc:=by
         rw [<- Nat.two_pow_add_eq_or_of_lt h 1]
         omega
       split
       . rename_i c
         rw [e,Nat.mul_one,Nat.testBit_or,Nat.testBit_two_pow]
         have:decide (j=i)=false:=decide_eq_false (by omega)
         simp [this]
       . split
         . rename_i c e'
           rw [e,e',Nat.mul_one,Nat.testBit_or,Nat.testBit_two_pow]
           simp
         . rfl
   by_cases c1:i < j
   . rw [if_pos (by omega),if_pos c1,bit,if_pos c1]
   . by_cases c2:i=j
     . rw [if_pos (show i < j+1 by omega),if_neg c1,bit,if_neg c1,if_pos c2,c2]
       simp
     . rw [if_neg (by omega),if_neg c1]
       rw [show i - j=(i - (j+1))+1 by omega]
       simp
theorem rH (M:Mol) (r:List Nat) {k:Nat} {x:Bond} (h:M.bonds[k]?=some x):(M.bitsOf r).testBit k=nextIn r x.a x.b:=by
 unfold Mol.bitsOf
 have:=xQ (fun x:Bond=>nextIn r x.a x.b) M.bonds 0 0 (by decide) k
 rw [if_neg (by omega),Nat.sub_zero,h] at this
 exact this
theorem CP {k:Nat} {x:Bond} (h:M.bonds[k]?=some x):M.joined x.a x.b=true:=(rF _ _).mpr ⟨x,List.mem_of_getElem? h,by simp [Bond.joins]⟩
theorem LG (g:kY M) {r:List Nat} {v:Nat} (hr:r ∈ M.ringRows) (hv:v ∈ r):∃ (k:Nat) (x:Bond),M.bonds[k]?=some x/\(x.a=v\/x.b=v)/\(M.bitsOf r).testBit k=true:=by
 have cn:=(qz g r).mp hr
 obtain ⟨p,s,e⟩:=List.append_of_mem hv
 have hne:r ≠ []:=fun q=>by rw [q] at hv;simp at hv
 obtain ⟨w,hw⟩:∃ w,tD (closed r) v w:=by
   cases s with
   | nil=>exact ⟨r.headD 0,(gX hne _ _).mpr (.inr ⟨by rw [e,xP],rfl⟩)⟩
   | cons w s=>exact ⟨w,(gX hne _ _).mpr (.inl ⟨p,s,e⟩)⟩
 obtain ⟨x,hx,hj⟩:=(rF v w).mp (cn.QW.SS v w hw)
 obtain ⟨k,hk⟩:=List.getElem?_of_mem hx
 unfold Bond.joins at hj
 simp only [Bool.or_eq_true,Bool.and_eq_true,beq_iff_eq] at hj
 refine ⟨k,x,hk,by omega,?_⟩
 rw [rH M r hk,rE]
 rcases hj with ⟨rfl,rfl⟩ | ⟨rfl,rfl⟩
 . exact .inl hw
 . exact .inr hw
end JM
namespace L2
open PySem
section
variable {Pr:Program} {Wd:World} {Kt:Type} [DecidableEq Kt] {hk:HeapKind Pr Wd Kt} {Ar:Around} {Er:Value->Shared->Prop} {st:Shared}
end
end L2
namespace L2
open PySem PySem.Spec PyProof.Rows
section
variable {X:Cx} {o e f:Expr} {apos cpos:Pos} {td ty tx:TE}
end
end L2
namespace L2
open PySem
section
variable {Pr:Program} {Wd:World} {Ar:Around} {Er:Value->Shared->Prop} {st:Shared}
end
end L2
namespace L2
open PySem PySem.Spec PyProof.Rows PySem.W
section
variable {Pr:Program} {Wd:World} {Ar:Around}
end
section
variable {X:Cx} {e:Expr} {td:TE} {p apos cpos pos:Pos}
end
end L2
namespace L2
open PySem PySem.Spec PyProof.Rows PySem.W
section
variable {Pr:Program} {Wd:World} {Ar:Around} {Rs:Result->Shared->Prop} {It Bs:Addr} {fp wr:List Addr} {n:Nat} {Pv:Nat->Value->Prop} {St:Nat->Heap->Prop} {kw:List (Str×Value)} {bt:Nat->Nat->Bool}
end
section
variable {Pr:Program} {Wd:World} {Ar:Around} {Er:Value->Shared->Prop} {st:Shared}
end
section
variable {X:Cx} {p pos kp:Pos} {e d:Expr} {te td:TE}
end
end L2
namespace MP
open PySem PySem.Spec PyProof.Rows L2
open XL (dz)
open Fk (Fault Bytes numIn need andThen Atom Bond Mol PAtom PBond Part)
open JM (aP az gF cJ)
theorem vU (l:List Nat) (v:Nat):vN (l++[v])=vN l++[.int (v:Int)]:=by simp [vN]
section
variable {P:Program} {w:World} {K:PySem.W.Frag} {mg:Str->Option Value} {base:Heap} {t:Ad}
theorem AW {y:aP} (gy:g9 y) {v u:Nat}:u ∈ JM.f6 (y.2.map JM.aT) v ↔ u < (az y).n/\(az y).joined v u=true:=by
 rw [<- gy.beside,JM.iK]
theorem LH {y:aP} {k:Nat} {c:Bond×Nat} (h:y.2[k]?=some c):(az y).bonds[k]?=some c.1:=by
 show (y.2.map fun z=>z.1)[k]?=_
 rw [List.getElem?_map,h]
 rfl
end
theorem ET (l:List Nat):(vN l).all rM=true:=by
 unfold vN
 rw [List.all_map,List.all_eq_true]
 intro x _
 rfl
theorem JO (e:Nat) (l:List Nat):Ke (.int (e:Int)) (vN l)=l.contains e:=by
 unfold Ke vN
 rw [List.any_map,Bool.eq_iff_iff,List.any_eq_true,List.contains_iff_mem]
 constructor
 . rintro ⟨x,hx,h⟩
   have:(x:Int)=(e:Int):=beq_iff_eq.mp h
   have:x=e:=by omega
   exact this ▸ hx
 . intro h
   exact ⟨e,h,by show ((e:Int)==(e:Int))=true;simp⟩
theorem M8 {l:List Nat} {i v:Nat} (h:l[i]?=some v):(vN l)[i]?=some (.int (v:Int)):=by
 unfold vN
 rw [List.getElem?_map,h]
 rfl
theorem qf (l:List Nat):(vN l).length=l.length:=by simp [vN]
def mP:lZ (List Nat):=fun D H v f=>∃ a,v=.ref a/\D a/\H a=some (.lst (vN f))
theorem mP.ok:qW mP:=⟨fun ⟨a,e,d,h⟩ k=>⟨a,e,d,k _ _ d h⟩,fun ⟨a,e,d,h⟩ k=>⟨a,e,k _ d,h⟩⟩
def Ol (l:List Nat):List Int:=l.map fun (n:Nat)=>(n:Int)
theorem Om (l:List Nat):vN l=vI (Ol l):=by simp [vN,vI,Ol]
def xR (y:aP) (v u:Nat):Nat:=((y.2.map JM.aT).findIdx? (gb v u)).getD 0
theorem lu {v u:Nat} {q:Nat×Nat}:gb v u q=true ↔ (q.1=v/\q.2=u)\/(q.1=u/\q.2=v):=by
 unfold gb
 simp
theorem EU {y:aP} (gy:g9 y) {v u k:Nat} {c:Bond×Nat} (hc:y.2[k]?=some c) (hj:gb v u (JM.aT c)=true):(y.2.map JM.aT).findIdx? (gb v u)=some k:=by
 have hk:k < y.2.length:=(List.getElem?_eq_some_iff.mp hc).1
 have ek:y.2[k]=c:=(List.getElem?_eq_some_iff.mp hc).2
 rw [List.findIdx?_eq_some_iff_getElem]
 refine ⟨by simp [hk],by simp only [List.getElem_map,ek];exact hj,fun j hjk hj2=>?_⟩
 have pw:=List.pairwise_iff_getElem.mp gy.rise.2 j k (by simp;omega) (by simp [hk]) hjk
 have b1:=gy.rise.1 _ (List.getElem_mem (l:=y.2.map JM.aT) (n:=j) (by simp;omega))
 have b2:=gy.rise.1 _ (List.getElem_mem (l:=y.2.map JM.aT) (n:=k) (by simp [hk]))
 simp only [List.getElem_map,ek] at pw b1 b2 hj2
 rw [lu] at hj hj2
 omega
theorem AX {y:aP} (gy:g9 y) {v u k:Nat} {c:Bond×Nat} (hc:y.2[k]?=some c) (hj:gb v u (JM.aT c)=true):xR y v u=k:=by
 unfold xR
 rw [EU gy hc hj]
 rfl
theorem EV {y:aP} (gy:g9 y) {v u:Nat} (h:u ∈ JM.f6 (y.2.map JM.aT) v):∃ c,y.2[xR y v u]?=some c/\(c.1.a=v\/c.1.b=v)/\(y.2.map JM.aT).findIdx? (gb v u)=some (xR y v u):=by
 obtain ⟨q,hq,hj⟩:=JM.BP.mp h
 obtain ⟨c,hc,rfl⟩:=List.mem_map.mp hq
 obtain ⟨k,hk⟩:=List.getElem?_of_mem hc
 have hj':gb v u (JM.aT c)=true:=lu.mpr (by omega)
 have e:=EU gy hk hj'
 have eb:=AX gy hk hj'
 rw [eb]
 refine ⟨c,hk,?_,e⟩
 unfold JM.aT at hj
 simp at hj
 omega
section
variable {P:Program} {w:World} {K:PySem.W.Frag} {mg:Str->Option Value} {base:Heap} {t:Ad}
end
def rJ (k:Nat) (fs:List (List Nat)):List Int:=match fs[k]? with
 | some f=>0::(f.length:Int)::Ol f
 | none=>[-2]
theorem JP (l:List (List Nat)) (k:Nat):PartNeutral.told (FkP.nth l k)=rJ k l:=by
 unfold FkP.nth rJ
 cases l[k]? with
 | none=>rfl
 | some f=>
   show 0::PartNeutral.rowN (PartNeutral.ints f)=_
   unfold PartNeutral.rowN PartNeutral.ints Ol
   rw [List.length_map]
theorem JQ {k:Int} (h:0<=k):PartNeutral.nat k=some k.toNat:=by
 unfold PartNeutral.nat
 rw [if_neg (by omega)]
section
variable {P:Program} {w:World} {K:PySem.W.Frag} {mg:Str->Option Value} {base:Heap} {t:Ad}
def Oo (t:Ad):Sp:=fun vs H Q _=>∃ (k:Nat) (l:Addr) (rs:List V) (fs:List (List Nat)) (D:Addr->Prop),vs=[.int (k:Int),.ref l]/\H l=some (.lst rs)/\bT mP D H rs fs/\(∀ f ∈ fs,f.length<=1000)/\∀ H' p,H' p=some (.lst (vI (rJ k fs)))->Q (.ref p) H'
theorem LI:aL ["k","rows"] ["k","rows"] (aE jW):=⟨rfl,rfl,rfl,by decide +kernel,rfl,by decide +kernel,by decide +kernel⟩
theorem LJ (T:Txt K mg t):bB P w K mg base lS 2 t.cZ t.gr ["k","rows"] (Oo t):=by
 have GW:=@Oi P w K mg base t T
 obtain ⟨PY,g2⟩:=T.ze
 refine T.eK.ok LI (fun vs H Q E h=>?_) (fun cdv A outer s H vs Q E hr h=>?_)
 . obtain ⟨k,l,rs,fs,D,rfl,_⟩:=h
   rfl
 . obtain ⟨n,l,rs,fs,D,rfl,hl,R,short,k⟩:=h
   refine ⟨_,au (mw (eL OX (pv 0) (cA aW (by rfl) T.jk PySem.boot_len (af (pv 1) ay)) (fD _)) (aB (bA (gC (af (b5 rfl g2 (v:=.int (-2)) ⟨_,rfl⟩) ay)))) gY)
     (aB (bA (bE GW hr rfl T.rZ T.ig.kp T.rW .nil cB (af (dM bF (pv 1) (pv 0) (fun _ _=>rfl)) ay)))),?_⟩
   have rl:=R.len
   refine ⟨_,rfl,_,rfl,l,_,rfl,.inl (bM.of hl),_,_,rfl,rfl,_,rfl,?_⟩
   unfold rJ at k
   cases hf:fs[n]? with
   | none=>
     rw [hf] at k
     have:fs.length<=n:=List.getElem?_eq_none_iff.mp hf
     have d:decide ((rs.length:Int)<=(n:Int))=true:=decide_eq_true (by omega)
     rw [d]
     exact yd ⟨(by show 1<=sizeLine;decide),fun p hp=>k _ p ai⟩
   | some f=>
     rw [hf] at k
     have hlt:n < fs.length:=(List.getElem?_eq_some_iff.mp hf).1
     have d:decide ((rs.length:Int)<=(n:Int))=false:=decide_eq_false (by omega)
     rw [d]
     refine yc ?_
     obtain ⟨v,hv⟩:∃ v,rs[n]?=some v:=⟨_,List.getElem?_eq_getElem (by omega)⟩
     obtain ⟨a,rfl,_,ha⟩:=R.at_ n v f hv hf
     refine ⟨_,rfl,_,rfl,l,_,_,_,rfl,rfl,bM.of hl,bK hv,?_⟩
     have fl:=short f (List.mem_of_getElem? hf)
     refine ⟨a,Ol f,rfl,by rw [ha,Om],by unfold Ol;rw [List.length_map];omega,fun H' p hp=>k H' p ?_⟩
     rw [hp]
     unfold Ol
     simp
end
end MP
namespace JM
open Fk
variable {M:Mol}
def ext (M:Mol) (p:List Nat):List (List Nat):=((M.beside (p.getLastD 0)).filter fun w=>decide (p.headD 0 < w)&&!p.contains w).map fun w=>p++[w]
def xS (M:Mol):Nat->List (List Nat)->List (List Nat)
 | 0,L=>L
 | d+1,L=>xS M d (L.flatMap (ext M))
def xT (M:Mol) (k:Nat):List (List Nat):=xS M k ((List.range M.n).map fun v=>[v])
theorem qA (M:Mol):∀ (d:Nat) (L:List (List Nat)),xS M d L=L.flatMap fun p=>xS M d [p]
 | 0,L=>by
   show L=L.flatMap fun p=>[p]
   simp
 | d+1,L=>by
   show xS M d (L.flatMap (ext M))=L.flatMap fun p=>xS M d ([p].flatMap (ext M))
   rw [qA M d,List.flatMap_assoc]
   congr 1
   funext p
   rw [List.flatMap_singleton,<- qA M d]
theorem zw (M:Mol):∀ (d:Nat) (L:List (List Nat)),xS M (d+1) L=(xS M d L).flatMap (ext M)
 | 0,L=>rfl
 | d+1,L=>zw M d (L.flatMap (ext M))
theorem t7 (M:Mol) (k:Nat):xT M (k+1)=(xT M k).flatMap (ext M):=zw M k _
theorem AY {p q:List Nat} (h:q ∈ ext M p):q.length=p.length+1:=by
 obtain ⟨w,_,rfl⟩:=List.mem_map.mp h
 simp
theorem DX (k:Nat) (p:List Nat):M.ringsFrom (k+1) p=(if closes M p=true then [p] else [])++(ext M p).flatMap (M.ringsFrom k):=by
 rw [vS]
 congr 1
 unfold ext
 induction M.beside (p.getLastD 0) with
 | nil=>rfl
 | cons w l ih=>
   rw [List.flatMap_cons,ih,List.filter_cons]
   by_cases c:w<=p.headD 0\/p.contains w=true
   . rw [if_pos c,if_neg]
     . rfl
     . rw [Bool.and_eq_true,decide_eq_true_eq,Bool.not_eq_true']
       rintro ⟨a,b⟩
       rcases c with c | c
       . omega
       . rw [b] at c;cases c
   . rw [if_neg c,if_pos,List.map_cons,List.flatMap_cons]
     rw [not_or] at c
     rw [Bool.and_eq_true,decide_eq_true_eq,Bool.not_eq_true']
     exact ⟨by omega,by simpa using c.2⟩
theorem AZ:∀ (k:Nat) (p r:List Nat),r ∈ M.ringsFrom k p->p.length<=r.length
 | 0,p,r,h=>by
   rw [vR] at h
   split at h
   . rw [List.mem_singleton.mp h];exact Nat.le_refl _
   . cases h
 | k+1,p,r,h=>by
   rw [DX] at h
   rcases List.mem_append.mp h with h | h
   . split at h
     . rw [List.mem_singleton.mp h];exact Nat.le_refl _
     . cases h
   . obtain ⟨q,hq,hr⟩:=List.mem_flatMap.mp h
     have:=AZ k q r hr
     have:=AY hq
     omega
theorem fQ {α β:Type} (f:α->List β) (c:β->Bool):∀ l:List α,(l.flatMap f).filter c=l.flatMap fun x=>(f x).filter c
 | []=>rfl
 | x::l=>by rw [List.flatMap_cons,List.filter_append,fQ f c l,List.flatMap_cons]
theorem mQ:∀ (k d:Nat) (p:List Nat),d<=k->(M.ringsFrom k p).filter (fun r=>r.length==p.length+d)=(xS M d [p]).filter (closes M)
 | k,0,p,_=>by
   have one:∀ b:Bool,(if b=true then [p] else []).filter (fun r=>r.length==p.length+0)=if b=true then [p] else []:=fun b=>by cases b<;>simp
   have two:[p].filter (closes M)=if closes M p=true then [p] else []:=by rw [List.filter_cons];rfl
   show _=[p].filter (closes M)
   cases k with
   | zero=>rw [vR,one,two]
   | succ k=>
     rw [DX,List.filter_append,one,two,fQ]
     have z:((ext M p).flatMap fun q=>(M.ringsFrom k q).filter fun r=>r.length==p.length+0)=[]:=by
       rw [List.flatMap_eq_nil_iff]
       intro q hq
       rw [List.filter_eq_nil_iff]
       intro r hr
       have:=AZ k q r hr
       have:=AY hq
       simp
       omega
     rw [z,List.append_nil]
 | 0,d+1,p,h=>by omega
 | k+1,d+1,p,h=>by
   have one:∀ b:Bool,(if b=true then [p] else []).filter (fun r=>r.length==p.length+(d+1))=[]:=fun b=>by cases b<;>simp
   rw [DX,List.filter_append,one,List.nil_append,fQ]
   show _=(xS M d ([p].flatMap (ext M))).filter (closes M)
   rw [List.flatMap_singleton,qA,fQ]
   have:∀ q ∈ ext M p,(M.ringsFrom k q).filter (fun r=>r.length==p.length+(d+1))=(xS M d [q]).filter (closes M):=fun q hq=>by
     rw [<- mQ k d q (by omega),AY hq]
     congr 1
     funext r
     rw [Nat.add_assoc,Nat.add_comm 1 d]
   exact jz this
where
 jz {α β:Type} {f g:α->List β}:∀ {l:List α},(∀ x ∈ l,f x=g x)->l.flatMap f=l.flatMap g
   | [],_=>rfl
   | x::l,h=>by rw [List.flatMap_cons,List.flatMap_cons,h x (by simp),jz fun y hy=>h y (by simp [hy])]
theorem GJ (M:Mol):M.ringRows=(List.range M.n).flatMap fun k=>(xT M k).filter (closes M):=by
 show (List.range (M.n+1)).flatMap (fun k=>((List.range M.n).flatMap fun v=>M.ringsFrom M.n [v]).filter fun r=>r.length==k)=_
 rw [List.range_succ_eq_map,List.flatMap_cons,List.flatMap_map]
 have z:(((List.range M.n).flatMap fun v=>M.ringsFrom M.n [v]).filter fun r=>r.length==0)=[]:=by
   rw [List.filter_eq_nil_iff]
   intro r hr
   obtain ⟨v,_,hr⟩:=List.mem_flatMap.mp hr
   have:=AZ _ _ _ hr
   simp at this ⊢
   intro e
   rw [e] at this
   simp at this
 rw [z,List.nil_append]
 refine mQ.jz fun k hk=>?_
 rw [List.mem_range] at hk
 rw [fQ]
 unfold xT
 rw [qA,fQ,List.flatMap_map]
 refine mQ.jz fun v _=>?_
 rw [<- mQ M.n k [v] (by omega)]
 congr 1
 funext r
 rw [Nat.succ_eq_add_one,Nat.add_comm]
 rfl
structure M9 (M:Mol) (k:Nat) (p:List Nat):Prop where
 len:p.length=k+1
 nd:p.Nodup
 lt:∀ v ∈ p,v < M.n
 ad:∀ v w,tD p v w->M.joined v w=true
theorem M9.ne {k:Nat} {p:List Nat} (h:M9 M k p):p ≠ []:=fun e=>by have:=h.len;rw [e] at this;simp at this
theorem uq {p:List Nat} (h:p ≠ []):p.getLast?=some (p.getLastD 0):=by
 rw [List.getLastD_eq_getLast?]
 cases e:p.getLast? with
 | none=>exact absurd (List.getLast?_eq_none_iff.mp e) h
 | some x=>rfl
theorem LK {p q:List Nat}:q ∈ ext M p ↔ ∃ w,(w < M.n/\M.joined (p.getLastD 0) w=true)/\(p.headD 0 < w/\w ∉ p)/\q=p++[w]:=by
 unfold ext
 rw [List.mem_map]
 constructor
 . rintro ⟨w,hw,rfl⟩
   obtain ⟨h1,h2⟩:=List.mem_filter.mp hw
   rw [Bool.and_eq_true,decide_eq_true_eq,Bool.not_eq_true'] at h2
   exact ⟨w,(iK _ _).mp h1,⟨h2.1,fun c=>by rw [List.contains_iff_mem.mpr c] at h2;cases h2.2⟩,rfl⟩
 . rintro ⟨w,h1,h2,rfl⟩
   refine ⟨w,List.mem_filter.mpr ⟨(iK _ _).mpr h1,?_⟩,rfl⟩
   rw [Bool.and_eq_true,decide_eq_true_eq,Bool.not_eq_true']
   exact ⟨h2.1,by rw [<- Bool.not_eq_true,List.contains_iff_mem];exact h2.2⟩
theorem t8 (M:Mol):∀ (k:Nat) (p:List Nat),p ∈ xT M k->M9 M k p
 | 0,p,h=>by
   obtain ⟨v,hv,rfl⟩:=List.mem_map.mp (show p ∈ (List.range M.n).map fun v=>[v] from h)
   exact ⟨rfl,by simp,fun w hw=>by rw [List.mem_singleton.mp hw];exact List.mem_range.mp hv,fun a b ab=>by
     rcases jM.mp ab with ⟨_,q⟩ | q
     . cases q
     . exact absurd q vQ⟩
 | k+1,q,h=>by
   rw [t7] at h
   obtain ⟨p,hp,hq⟩:=List.mem_flatMap.mp h
   have ih:=t8 M k p hp
   obtain ⟨w,⟨lt,jo⟩,⟨_,SV⟩,rfl⟩:=LK.mp hq
   refine ⟨by simp [ih.len],?_,fun v hv=>?_,fun a b ab=>?_⟩
   . rw [List.nodup_append]
     exact ⟨ih.nd,by simp,fun a ha b hb=>by
       simp at hb
       subst hb
       exact fun e=>SV (e ▸ ha)⟩
   . rcases List.mem_append.mp hv with hv | hv
     . exact ih.lt v hv
     . rw [List.mem_singleton.mp hv];exact lt
   . rcases xO.mp ab with ab | ⟨e,rfl⟩
     . exact ih.ad a b ab
     . rw [uq ih.ne] at e
       cases e
       exact jo
theorem EW {k:Nat} {p:List Nat} (h:M9 M k p):k+1<=M.n:=by
 have:=iP M.n p h.nd h.lt
 rw [h.len] at this
 exact this
theorem CQ (M:Mol) {k:Nat} (h:xT M k=[]):∀ j,k<=j->xT M j=[]
 | 0,hj=>by rw [show k=0 by omega] at h;exact h
 | j+1,hj=>by
   rcases Nat.lt_or_ge k (j+1) with c | c
   . rw [t7,CQ M h j (by omega)]
     rfl
   . rw [show k=j+1 by omega] at h;exact h
theorem zx (M:Mol) (v:Nat):(M.beside v).Nodup:=List.nodup_range.sublist (List.filter_sublist)
theorem EY {k:Nat} {p:List Nat} (h:M9 M k p):(ext M p).length<=M.n - (k+1):=by
 unfold ext
 rw [List.length_map]
 have:=iP M.n (((M.beside (p.getLastD 0)).filter fun w=>decide (p.headD 0 < w)&&!p.contains w)++p) (by
   rw [List.nodup_append]
   refine ⟨(zx M _).sublist List.filter_sublist,h.nd,fun a ha b hb e=>?_⟩
   have:=(List.mem_filter.mp ha).2
   rw [Bool.and_eq_true,Bool.not_eq_true',e,List.contains_iff_mem.mpr hb] at this
   cases this.2) (fun x hx=>by
   rcases List.mem_append.mp hx with hx | hx
   . exact ((iK _ _).mp (List.mem_filter.mp hx).1).1
   . exact h.lt x hx)
 rw [List.length_append,h.len] at this
 omega
def most:Nat->Nat
 | 0=>9
 | k+1=>most k * (9 - (k+1))
theorem Ba (k:Nat):most k<=362880:=by
 by_cases c:k < 9
 . have:∀ k < 9,most k<=362880:=by decide
   exact this k c
 . have z:∀ j,most (9+j)=0:=fun j=>by
     induction j with
     | zero=>rfl
     | succ j ih=>
       show most (9+j) * _=0
       rw [ih,Nat.zero_mul]
   have:=z (k - 9)
   rw [show 9+(k - 9)=k by omega] at this
   rw [this]
   exact Nat.zero_le _
theorem qg {α β:Type} {f:α->List β} {n:Nat}:∀ {l:List α},(∀ x ∈ l,(f x).length<=n)->(l.flatMap f).length<=l.length * n
 | [],_=>by simp
 | x::l,h=>by
   have h1:=h x (by simp)
   have h2:=qg fun y hy=>h y (List.mem_cons_of_mem _ hy)
   rw [List.flatMap_cons,List.length_append,List.length_cons,Nat.succ_mul]
   omega
theorem vV (n9:M.n<=9):∀ k,(xT M k).length<=most k
 | 0=>by
   show ((List.range M.n).map fun v=>[v]).length<=9
   simp
   exact n9
 | k+1=>by
   rw [t7]
   have:=qg (n:=9 - (k+1)) (l:=xT M k) (f:=ext M) fun p hp=>by
     have:=EY (t8 M k p hp)
     omega
   exact Nat.le_trans this (Nat.mul_le_mul_right _ (vV n9 k))
theorem LL {b:Nat} (h:b ≠ 0):b.testBit (Nat.log2 b)=true:=Nat.testBit_log2 h
theorem GK {b j:Nat} (h:Nat.log2 b < j):b.testBit j=false:=Nat.testBit_lt_two_pow (Nat.lt_of_lt_of_le Nat.lt_log2_self (Nat.pow_le_pow_right (by decide) h))
theorem ur:∀ (i x y:Nat),x.testBit i=false->y.testBit i=true->(∀ j,i < j->x.testBit j=y.testBit j)->x < y
 | 0,x,y,hx,hy,h=>by
   have e:x / 2=y / 2:=Nat.eq_of_testBit_eq fun j=>by
     rw [<- Nat.testBit_succ,<- Nat.testBit_succ]
     exact h _ (Nat.succ_pos _)
   rw [Nat.testBit_zero,decide_eq_false_iff_not] at hx
   rw [Nat.testBit_zero,decide_eq_true_eq] at hy
   omega
 | i+1,x,y,hx,hy,h=>by
   rw [Nat.testBit_succ] at hx hy
   have:=ur i (x / 2) (y / 2) hx hy fun j hj=>by
     rw [<- Nat.testBit_succ,<- Nat.testBit_succ]
     exact h _ (Nat.succ_lt_succ hj)
   omega
theorem GQ {b:Nat} (hb:b ≠ 0) (y:Nat):(if y ^^^ b < y then y ^^^ b else y)=if y.testBit (Nat.log2 b)=true then Nat.xor y b else y:=by
 have up:∀ j,Nat.log2 b < j->(y ^^^ b).testBit j=y.testBit j:=fun j hj=>by rw [Nat.testBit_xor,GK hj,Bool.xor_false]
 have at_:(y ^^^ b).testBit (Nat.log2 b)=!y.testBit (Nat.log2 b):=by rw [Nat.testBit_xor,LL hb,Bool.xor_true]
 cases h:y.testBit (Nat.log2 b) with
 | true=>
   rw [h] at at_
   rw [if_pos (ur _ _ _ at_ h up),if_pos rfl]
   rfl
 | false=>
   rw [h] at at_
   have:=ur _ _ _ h at_ fun j hj=>(up j hj).symm
   rw [if_neg (by omega),if_neg Bool.false_ne_true]
theorem zy:∀ l:List Nat,lessBits l 0=0
 | []=>rfl
 | b::l=>by
   show lessBits l (if (0:Nat).testBit (Nat.log2 b)=true then Nat.xor 0 b else 0)=0
   rw [Nat.zero_testBit,if_neg Bool.false_ne_true]
   exact zy l
theorem CS (s t:List Nat) (x:Nat):lessBits (s++t) x=lessBits t (lessBits s x):=List.foldl_append
def span (s:List Nat) (l:List Nat):List Nat:=l.foldl (fun (s:List Nat) (x:Nat)=>if lessBits s x=0 then s else s++[lessBits s x]) s
theorem CT (s l k:List Nat):span s (l++k)=span (span s l) k:=List.foldl_append
theorem mR (s:List Nat) (x:Nat) (l:List Nat):span s (x::l)=span (if lessBits s x=0 then s else s++[lessBits s x]) l:=rfl
theorem lR (s:List Nat):∀ (l t:List Nat),span (s++t) (l.filter fun x=>lessBits s x != 0)=span (s++t) l
 | [],t=>rfl
 | x::l,t=>by
   rw [List.filter_cons]
   by_cases c:lessBits s x=0
   . rw [if_neg (by simp [c]),lR s l t,mR,if_pos (by rw [CS,c,zy])]
   . rw [if_pos (by simp [c]),mR,mR]
     split
     . exact lR s l t
     . rw [List.append_assoc]
       exact lR s l _
theorem xU:∀ (l s:List Nat),(∀ b ∈ s,b ≠ 0)->∀ b ∈ span s l,b ≠ 0
 | [],s,h=>h
 | x::l,s,h=>by
   rw [mR]
   refine xU l _ ?_
   split
   . exact h
   . rename_i c
     intro b hb
     rcases List.mem_append.mp hb with hb | hb
     . exact h b hb
     . rw [List.mem_singleton.mp hb];exact c
end JM
namespace MP
open PySem PySem.Spec PyProof.Rows L2
open XL (dz)
open Fk (Fault Bytes numIn need andThen Atom Bond Mol PAtom PBond Part)
open JM (aP az gF cJ)
theorem vW {p:List Nat} (h:p ≠ []):Hs (vN p) (-1)=some (.int (p.getLastD 0:Int)):=by
 have e:p=p.dropLast++[p.getLastD 0]:=by
   have:=List.dropLast_concat_getLast h
   rw [List.getLastD_eq_getLast?,List.getLast?_eq_some_getLast h]
   exact this.symm
 rw [e]
 rw [vU,HX,<- e]
theorem EZ {p:List Nat} (h:p ≠ []):Hs (vN p) 0=some (.int (p.headD 0:Int)):=by
 cases p with
 | nil=>exact absurd rfl h
 | cons x t=>exact bK (j:=0) rfl
theorem LM {p:List Nat} (nd:p.Nodup) (h:3<=p.length):p.getD 1 0 ≠ p.getLastD 0:=by
 match p,h with
 | x::y::z::t,_=>
   intro e
   rw [List.nodup_cons,List.nodup_cons] at nd
   have:(x::y::z::t).getLastD 0 ∈ z::t:=by
     show (z::t).getLastD 0 ∈ z::t
     rw [List.getLastD_eq_getLast?,List.getLast?_eq_some_getLast (by simp)]
     exact List.getLast_mem _
   rw [<- e] at this
   exact nd.2.1 this
section
variable {P:Program} {w:World} {K:PySem.W.Frag} {mg:Str->Option Value} {base:Heap} {t:Ad}
def JR (t:Ad):Sp:=fun vs H Q _=>∃ (g a:Addr) (k:Nat) (p:List Nat) (z:qX) (y:aP) (D:Addr->Prop),vs=[.ref g,.ref a]/\lg t D H g z y/\g9 y/\H a=some (.lst (vN p))/\JM.M9 (az y) k p/\Q (.bl (JM.closes (az y) p)) H
theorem GU:aL ["molecule","path"] ["molecule","path"] (aE tT):=⟨rfl,rfl,rfl,by decide +kernel,rfl,by decide +kernel,by decide +kernel⟩
theorem GV (T:Txt K mg t):bB P w K mg base lS 1 t.jv t.m8 ["molecule","path"] (JR t):=by
 obtain ⟨OA,g1⟩:=T.pJ
 refine T.kC.ok GU (fun vs H Q E h=>?_) (fun cdv A outer s H vs Q E hr h=>?_)
 . obtain ⟨g,a,k,p,z,y,D,rfl,_⟩:=h
   rfl
 . obtain ⟨g,a,n,p,z,y,D,rfl,M,gy,ha,pt,k⟩:=h
   refine ⟨_,au (mw (PW.pt (HA (eL HJ (cA aW (by rfl) T.jk PySem.boot_len (af (pv 1) ay)) (b5 rfl g1 (v:=.int 3) ⟨_,rfl⟩) (fD _)) (Df (eL El (dM bF (pv 1) aM (fun _ _=>rfl)) (dM bF (pv 1) (wu rg aM) (fun _ _=>rfl)) (fD _)))))
       (aB (bA Ef)) gY)
     (aB (bA (mT tN (dM bF (pv 1) aM (fun _ _=>rfl)) (dM bF (aK (pv 0) rfl) (dM bF (pv 1) (wu rg aM) (fun _ _=>rfl)) (fun _ _=>rfl)) rfl))),?_⟩
   obtain ⟨dg,eg⟩:=M.obj
   have ne:=pt.ne
   have lp:(vN p).length=p.length:=qf p
   refine ⟨_,rfl,a,_,rfl,.inl (bM.of ha),_,_,rfl,rfl,_,rfl,?_⟩
   have cl:=JM.rG (M:=az y) p
   by_cases c:p.length < 3
   . have d:decide (((vN p).length:Int) < 3)=true:=decide_eq_true (by omega)
     rw [d]
     have e:JM.closes (az y) p=false:=by rw [<- Bool.not_eq_true,cl];omega
     rw [e] at k
     exact yd (yd k)
   . have d:decide (((vN p).length:Int) < 3)=false:=decide_eq_false (by omega)
     rw [d]
     refine yc ?_
     have h1:p[1]?=some (p.getD 1 0):=by rw [List.getD,List.getElem?_eq_getElem (by omega)];rfl
     refine ⟨_,rfl,a,_,_,_,rfl,rfl,bM.of ha,bK (j:=1) (M8 h1),_,rfl,_,rfl,a,_,_,_,rfl,rfl,bM.of ha,vW ne,_,_,rfl,rfl,_,rfl,?_⟩
     have tn:=LM pt.nd (by omega)
     by_cases c2:p.getLastD 0 < p.getD 1 0
     . rw [show decide ((p.getLastD 0:Int) < (p.getD 1 0:Int))=true from decide_eq_true (by omega)]
       have e:JM.closes (az y) p=false:=by rw [<- Bool.not_eq_true,cl];omega
       rw [e] at k
       exact yd k
     . rw [show decide ((p.getLastD 0:Int) < (p.getD 1 0:Int))=false from decide_eq_false (by omega)]
       refine yc ?_
       have lv:p.getLastD 0 < y.1.length:=by
         have:=pt.lt (p.getLastD 0) (List.mem_of_getLast? (JM.uq ne))
         rw [o7] at this
         exact this
       have hv:p.headD 0 < (az y).n:=pt.lt _ (by cases p with | nil=>exact absurd rfl ne | cons x t=>exact List.mem_cons_self)
       obtain ⟨ra,Dc⟩:∃ ra,z.rs[p.getLastD 0]?=some ra:=⟨_,List.getElem?_eq_getElem (by rw [M.rows.len,M.ra.len];exact lv)⟩
       have hA:=M.rows.at_ _ _ Dc
       have e1:(z.rs.map V.ref)[p.getLastD 0]?=some (V.ref ra):=by rw [List.getElem?_map,Dc];rfl
       refine ⟨_,rfl,a,_,_,_,rfl,rfl,bM.of ha,EZ ne,_,rfl,g,_,dg,_,_,rfl,eg,T.bw,T.bc,rfl,_,rfl,_,rfl,a,_,_,_,rfl,rfl,bM.of ha,vW ne,z.lr,_,_,_,rfl,rfl,bM.of M.rows.lst,bK e1,ra,_,rfl,.inl (bM.of hA),rfl,ET _,?_⟩
       show Q (.bl (Ke (.int (p.headD 0:Int)) (vN (JM.f6 (y.2.map JM.aT) (p.getLastD 0))))) H
       rw [JO]
       have e:JM.closes (az y) p=(JM.f6 (y.2.map JM.aT) (p.getLastD 0)).contains (p.headD 0):=by
         rw [Bool.eq_iff_iff,cl,List.contains_iff_mem,AW gy]
         constructor
         . exact fun q=>⟨hv,q.2.1⟩
         . exact fun q=>⟨by omega,q.2,by omega⟩
       rw [<- e]
       exact k
def qh (y:aP) (p:List Nat) (j:Nat):List (List Nat):=((((az y).beside (p.getLastD 0)).take j).filter fun w=>decide (p.headD 0 < w)&&!p.contains w).map fun w=>p++[w]
theorem GX (y:aP) (p:List Nat):qh y p ((az y).beside (p.getLastD 0)).length=JM.ext (az y) p:=by
 unfold qh JM.ext
 rw [List.take_length]
theorem DY {y:aP} {p:List Nat} {j u:Nat} (h:((az y).beside (p.getLastD 0))[j]?=some u):qh y p (j+1)=qh y p j++if (decide (p.headD 0 < u)&&!p.contains u)=true then [p++[u]] else []:=by
 unfold qh
 rw [take_snoc h,List.filter_append,List.map_append,List.filter_cons,List.filter_nil]
 split<;>simp
def JS (t:Ad):Sp:=fun vs H Q _=>∃ (g l:Addr) (k:Nat) (rs:List V) (z:qX) (y:aP) (D D1:Addr->Prop),vs=[.ref g,.ref l]/\lg t D H g z y/\g9 y/\y.1.length<=9/\H l=some (.lst rs)/\bT mP D1 H rs (JM.xT (az y) k) /\
 ∀ H' l' rs',aR H H'->H l'=none->H' l'=some (.lst rs')->bT mP (fun b=>H b=none) H' rs' (JM.xT (az y) (k+1))->Q (.ref l') H'
theorem qB:aL ["molecule","paths","longer","path","atom"] ["molecule","paths"] (aE kH):=⟨rfl,rfl,rfl,by decide +kernel,rfl,by decide +kernel,by decide +kernel⟩
theorem GY (T:Txt K mg t):bB P w K mg base lS 1 t.dP t.gK ["molecule","paths"] (JS t):=by
 refine T.fL.ok qB (fun vs H Q E h=>?_) (fun cdv A outer s H vs Q E hr h=>?_)
 . obtain ⟨g,l,k,rs,z,y,D,D1,rfl,_⟩:=h
   rfl
 . obtain ⟨g,lp,n,rs,z,y,D,D1,rfl,M,gy,n9,Oq,R1,k⟩:=h
   refine ⟨_,au (aQ (i:=2) qB.nd rfl (Or.inl rfl) (gC ay))
     (au (fj PassesOwn.never rfl (iQ (pv 1)) (bu (i:=3) qB.nd rfl (Or.inl rfl))
       (aB (fj PassesOwn.never rfl (iQ (dM bF (aK (pv 0) rfl) (dM bF (pv 3) (wu rg aM) (fun _ _=>rfl)) (fun _ _=>rfl))) (bu (i:=4) qB.nd rfl (Or.inl rfl))
         (aB (mw (PW.pt (z7 (eL El (pv 4) (dM bF (pv 3) aM (fun _ _=>rfl)) (fD _)) (vo (eL zF (pv 4) (pv 3) rfl))))
           (aB (bV (nJ PySem.F.plainAttrs_list PySem.F.slot_list_append PySem.F.type_list_append fE (pv 2) (af (fC Ib (pv 3) (gC (af (pv 4) ay))) ay)))) gY)))))
     (aB (bA (pv 2)))),?_⟩
   obtain ⟨dg,eg⟩:=M.obj
   have Bb:=mP.ok
   have U6:=R1.len
   refine ⟨Nat.zero_le _,fun l hl=>?_⟩
   have s0:aR H (upd H l (.lst [])):=aJ hl
   refine ⟨_,rfl,lp,rfl,⟨_,bM.of (s0 _ _ Oq)⟩,?_⟩
   have nn:(az y).n<=9:=by rw [o7];exact n9
   have f1:=JM.vV nn n
   have f2:=JM.Ba n
   obtain ⟨ps,hps⟩:∃ ps,ps=JM.xT (az y) n:=⟨_,rfl⟩
   rw [<- hps] at R1 U6 f1
   have U7:∀ p ∈ ps,JM.M9 (az y) n p:=fun p hp=>JM.t8 _ _ _ (hps ▸ hp)
   have SW:∀ i,((ps.take i).flatMap (JM.ext (az y))).length<=362880 * 9:=fun i=>by
     have a:=JM.qg (n:=9) (l:=ps.take i) (f:=JM.ext (az y)) fun p hp=>by
       have:=JM.EY (U7 p (List.mem_of_mem_take hp))
       omega
     have b:(ps.take i).length<=ps.length:=List.length_take_le' i ps
     omega
   refine kE (K:=K) (a:=lp) (xs:=rs) (fun i σ H'=>∃ v3 v4 rs',σ=[some (.ref g),some (.ref lp),some (.ref l),v3,v4]/\aR H H'/\H' l=some (.lst rs')/\bT mP (fun b=>H b=none/\b ≠ l) H' rs' ((ps.take i).flatMap (JM.ext (az y)))) ⟨none,none,[],rfl,s0,ai,bT.nil⟩ (fun i σ H' _ ⟨_,_,_,_,sm,_⟩=>bM.of (sm _ _ Oq)) ?_ ?_
   . rintro i x σ H1 hx ⟨v3,v4,SX,rfl,s1,hl1,R2⟩
     have hi:i < rs.length:=(List.getElem?_eq_some_iff.mp hx).1
     obtain ⟨p,hp⟩:∃ p,ps[i]?=some p:=⟨_,List.getElem?_eq_getElem (by omega)⟩
     have pt:=U7 p (List.mem_of_getElem? hp)
     have ne:=pt.ne
     obtain ⟨pa,rfl,_,hpa⟩:=R1.at_ i x p hx hp
     have lv:p.getLastD 0 < y.1.length:=by
       have:=pt.lt (p.getLastD 0) (List.mem_of_getLast? (JM.uq ne))
       rw [o7] at this
       exact this
     obtain ⟨ra,Dc⟩:∃ ra,z.rs[p.getLastD 0]?=some ra:=⟨_,List.getElem?_eq_getElem (by rw [M.rows.len,M.ra.len];exact lv)⟩
     have hA:=M.rows.at_ _ _ Dc
     have e1:(z.rs.map V.ref)[p.getLastD 0]?=some (V.ref ra):=by rw [List.getElem?_map,Dc];rfl
     rw [<- gy.beside] at hA
     obtain ⟨nb,hnb⟩:∃ nb,nb=(az y).beside (p.getLastD 0):=⟨_,rfl⟩
     rw [<- hnb] at hA
     refine ⟨_,rfl,g,_,dg,_,_,rfl,s1 _ _ eg,T.bw,T.bc,rfl,_,rfl,_,rfl,pa,_,_,_,rfl,rfl,bM.of (s1 _ _ hpa),vW ne,z.lr,_,_,_,rfl,rfl,bM.of (s1 _ _ M.rows.lst),bK e1,ra,rfl,⟨_,bM.of (s1 _ _ hA)⟩,?_⟩
     have xl:∀ j,(qh y p j).length<=9:=fun j=>by
       have a:(qh y p j).length<=nb.length:=by
         unfold qh
         rw [List.length_map,<- hnb]
         exact Nat.le_trans (List.length_filter_le _ _) (List.length_take_le' j nb)
       have b:nb.length<=(az y).n:=JM.iP _ _ (hnb ▸ JM.zx _ _) fun x hx=>((JM.iK _ _).mp (hnb ▸ hx)).1
       omega
     have fi:=SW i
     refine kE (K:=K) (a:=ra) (xs:=vN nb) (fun j σ H'=>∃ v4 rs',σ=[some (.ref g),some (.ref lp),some (.ref l),some (.ref pa),v4]/\aR H H'/\H' l=some (.lst rs')/\bT mP (fun b=>H b=none/\b ≠ l) H' rs' ((ps.take i).flatMap (JM.ext (az y))++qh y p j)) ⟨v4,SX,rfl,s1,hl1,by simpa [qh] using R2⟩ (fun i σ H' _ ⟨_,_,_,sm,_⟩=>bM.of (sm _ _ hA)) ?_ ?_
     . rintro j x σ H2 Hv ⟨v4,yH,rfl,s2,hl2,R3⟩
       obtain ⟨u,hu,rfl⟩:=DW Hv
       have xs:=DY (y:=y) (p:=p) (hnb ▸ hu)
       have xj:=xl j
       have QX:=R3.len
       rw [List.length_append] at QX
       have stay:(decide (p.headD 0 < u)&&!p.contains u)=false->∃ v4 rs',[some (V.ref g),some (.ref lp),some (.ref l),some (.ref pa),some (.int (u:Int))]=[some (.ref g),some (.ref lp),some (.ref l),some (.ref pa),v4]/\aR H H2/\H2 l=some (.lst rs')/\bT mP (fun b=>H b=none/\b ≠ l) H2 rs' ((ps.take i).flatMap (JM.ext (az y))++qh y p (j+1)):=fun h=>by
         rw [xs,h]
         exact ⟨_,yH,rfl,s2,hl2,by simpa using R3⟩
       refine ⟨_,rfl,_,rfl,pa,_,_,_,rfl,rfl,bM.of (s2 _ _ hpa),EZ ne,_,_,rfl,rfl,_,rfl,?_⟩
       by_cases c1:p.headD 0 < u
       . rw [show decide ((p.headD 0:Int) < (u:Int))=true from decide_eq_true (by omega)]
         refine yd ?_
         refine ⟨_,rfl,_,rfl,pa,_,rfl,.inl (bM.of (s2 _ _ hpa)),rfl,ET _,_,rfl,?_⟩
         show if (!Ke (.int (u:Int)) (vN p))=true then _ else _
         rw [JO]
         cases c2:p.contains u with
         | true=>exact yc (stay (by rw [c2,Bool.not_true,Bool.and_false]))
         | false=>
           refine yd ?_
           refine ⟨_,rfl,.inl ⟨rfl,_,bM.of hl2⟩,_,rfl,_,rfl,(by show 1<=sizeLine;decide),fun p1 hp1=>?_⟩
           have s4:=aJ (o:=.lst [V.int (u:Int)]) hp1
           have fl:=pt.len
           have f3:=JM.EW pt
           refine ⟨pa,p1,_,_,rfl,rfl,s4 _ _ (s2 _ _ hpa),ai,by rw [qf,sizeLine_eq];simp;omega,fun p2 hp2=>?_⟩
           have s5:=aJ (o:=.lst (vN p++[V.int (u:Int)])) hp2
           have Tc:aR H2 _:=s4.trans s5
           refine ⟨l,yH,_,rfl,rfl,Tc _ _ hl2,by rw [QX,sizeLine_eq];omega,?_⟩
           refine ⟨_,yH++[.ref p2],rfl,fun b o e=>by rw [ak (aq e hl)];exact Tc _ _ (s2 b o e),ai,?_⟩
           have n2:H2 p2=none:=s4.free hp2
           rw [xs,show (decide (p.headD 0 < u)&&!p.contains u)=true by rw [decide_eq_true c1,c2];rfl,if_pos rfl,<- List.append_assoc]
           refine ((R3.stay Bb fun b o _ h=>Tc _ _ h).snoc ⟨p2,rfl,⟨s2.free n2,fun z=>by rw [z,hl2] at n2;cases n2⟩,?_⟩).stay Bb fun b o d h=>?_
           . rw [vU]
             exact ai
           . rw [ak d.2]
             exact h
       . rw [show decide ((p.headD 0:Int) < (u:Int))=false from decide_eq_false (by omega)]
         exact yc (yc (stay (by rw [decide_eq_false c1];rfl)))
     . rintro σ H2 ⟨v4,yH,rfl,s2,hl2,R3⟩
       rw [qf,hnb,GX] at R3
       refine ⟨_,v4,yH,rfl,s2,hl2,?_⟩
       rw [take_snoc hp,List.flatMap_append]
       simpa using R3
   . rintro σ H1 ⟨v3,v4,SX,rfl,s1,hl1,R2⟩
     rw [U6,List.take_length,hps,<- JM.t7] at R2
     exact ⟨_,rfl,k H1 l SX s1 hl hl1 (R2.mono Bb fun b h=>h.1)⟩
end
def GZ:lZ (List (List Nat)):=fun D H v fs=>∃ a rs,v=.ref a/\D a/\H a=some (.lst rs)/\bT mP D H rs fs
theorem GZ.ok:qW GZ:=⟨fun ⟨a,rs,e,d,h,R⟩ k=>⟨a,rs,e,d,k _ _ d h,R.stay mP.ok k⟩,fun ⟨a,rs,e,d,h,R⟩ k=>⟨a,rs,e,k _ d,h,R.mono mP.ok k⟩⟩
def c9 (y:aP) (k:Nat):List (List Nat):=(JM.xT (az y) k).filter (JM.closes (az y))
section
variable {P:Program} {w:World} {K:PySem.W.Frag} {mg:Str->Option Value} {base:Heap} {t:Ad}
def LN (t:Ad):Sp:=fun vs H Q _=>∃ (g:Addr) (z:qX) (y:aP) (D:Addr->Prop),vs=[.ref g]/\lg t D H g z y/\g9 y/\y.1.length<=9 /\
 ∀ H' l us m,aR H H'->H l=none->H' l=some (.lst us)->bT GZ (fun b=>H b=none) H' us ((List.range m).map (c9 y))->JM.xT (az y) m=[]->m<=y.1.length->Q (.ref l) H'
theorem ly:aL ["molecule","lists","paths","atom","path"] ["molecule"] (aE iT):=⟨rfl,rfl,rfl,by decide +kernel,rfl,by decide +kernel,by decide +kernel⟩
theorem JT (T:Txt K mg t):bB P w K mg base lS 2 t.bY t.eU ["molecule"] (LN t):=by
 have GI:=@GV P w K mg base t T
 have GL:=@GY P w K mg base t T
 refine T.cV.ok ly (fun vs H Q E h=>?_) (fun cdv A outer s H vs Q E hr h=>?_)
 . obtain ⟨g,z,y,D,rfl,_⟩:=h
   rfl
 . obtain ⟨g,z,y,D,rfl,M,gy,n9,k⟩:=h
   refine ⟨_,au (aQ (i:=1) ly.nd rfl (Or.inl rfl) (gC ay))
     (au (wG (i:=2) rfl ly.nd rfl rfl rfl (k9 rfl T.lM (af (cA aW (by rfl) T.jk PySem.boot_len (af (aK (pv 0) rfl) ay)) ay)) (m5 (own:=[("atom",3)]) rfl) (fun _ _ _ _ _=>bu (i:=3) ly.nd rfl (Or.inl rfl)) (fun _ _ _ _ _=>Ep) (fun _ _ _ _ _=>gC (af (pv 3) ay)))
     (au (HD PassesOwn.never (HL (pv 2) (fun _=>rfl))
       (au (bV (nJ PySem.F.plainAttrs_list PySem.F.slot_list_append PySem.F.type_list_append fE (pv 1) (af (Ig rfl ly.nd (iQ (pv 2)) (m5 (own:=[("path",4)]) rfl) (fun _ _ _ _ _=>bu (i:=4) ly.nd rfl (Or.inl rfl)) (fun _ _ _ _ _=>vt (tG (bE GI hr rfl T.zd T.kC.kp T.zc .nil cB (af (pv 0) (af (pv 4) ay))))) (fun _ _ _ _ _=>pv 4)) ay)))
       (aB (aQ (i:=2) ly.nd rfl (Or.inl rfl) (bE GL hr rfl T.pB T.fL.kp T.p7 .nil cB (af (pv 0) (af (pv 2) ay)))))))
     (aB (bA (pv 1))))),?_⟩
   obtain ⟨dg,eg⟩:=M.obj
   have al:z.as.length=y.1.length:=M.ra.len
   have Bb:=mP.ok
   have Td:=GZ.ok
   have nn:(az y).n=y.1.length:=o7 y
   refine ⟨Nat.zero_le _,fun l hl=>?_⟩
   have s1:aR H (upd H l (.lst [])):=aJ hl
   refine ⟨_,rfl,g,_,dg,_,_,rfl,s1 _ _ eg,T.bw,T.bR,rfl,z.la,z.as,rfl,.inl (bM.of (s1 _ _ M.atoms)),_,rfl,by omega,by omega,fun lp Oq=>?_⟩
   have Te:lp ≠ l:=fun q=>by rw [q,ai] at Oq;cases Oq
   refine By (n:=z.as.length) (fun i H'=>aR H H'/\H' l=some (.lst [])/\∃ rs,H' lp=some (.lst rs)/\bT mP (fun b=>H b=none/\b ≠ l/\b ≠ lp) H' rs ((List.range i).map fun v=>[v])) ⟨s1.trans (aJ Oq),by rw [ak (fun q=>Te q.symm),ai],[],ai,bT.nil⟩ ?_ ?_
   . rintro i H1 hi ⟨s2,hl1,rs,hp1,R⟩
     rw [Int.zero_add]
     have rl:=R.len
     rw [List.length_map,List.length_range] at rl
     refine ⟨rfl,_,rfl,(by show 1<=sizeLine;decide),fun pa hpa=>?_⟩
     have s3:=aJ (o:=.lst [V.int (i:Int)]) hpa
     refine ⟨rs,s3 _ _ hp1,by rw [sizeLine_eq];omega,fun b o e=>by rw [ak (aq e (s1.free Oq))];exact s3 _ _ (s2 b o e),by rw [ak (fun q=>Te q.symm)];exact s3 _ _ hl1,rs++[.ref pa],ai,?_⟩
     rw [List.range_succ,List.map_append]
     refine ((R.stay Bb fun b o _ h=>s3 _ _ h).snoc ⟨pa,rfl,⟨s2.free hpa,(fun q=>by rw [q,hl1] at hpa;cases hpa),(fun q=>by rw [q,hp1] at hpa;cases hpa)⟩,ai⟩).stay Bb fun b o d h=>?_
     rw [ak d.2.2]
     exact h
   . rintro H1 ⟨s2,hl1,W9,hp1,R0⟩
     rw [al,<- nn] at R0
     dsimp only [Bk,ON]
     show Dj _ _ _ _ _
     refine HG (fun σ H'=>∃ m us rs lp,σ=[some (.ref g),some (.ref l),some (.ref lp),none,none]/\aR H H'/\H' l=some (.lst us)/\bT GZ (fun b=>H b=none/\b ≠ l) H' us ((List.range m).map (c9 y))/\H' lp=some (.lst rs)/\bT mP (fun b=>H b=none/\b ≠ l) H' rs (JM.xT (az y) m)/\m<=y.1.length/\lp ≠ l)
       (fun σ H'=>match H' l with | some (.lst us)=>y.1.length - us.length | _=>0) ?_ ?_ ?_
     . exact ⟨0,[],W9,lp,rfl,s2,hl1,bT.nil,hp1,R0.mono Bb fun b h=>⟨h.1,h.2.1⟩,Nat.zero_le _,Te⟩
     rotate_left
     . exact fun σ H Q Q' h ⟨x,e,k,tv,q⟩=>⟨x,e,k,tv,h _ _ q⟩
     rintro σ H2 ⟨m,us,rs,lp,rfl,s3,hl2,RL,hp2,RR,hm,pl⟩
     have rl:=RR.len
     have ul:=RL.len
     rw [List.length_map,List.length_range] at ul
     refine ⟨_,rfl,_,.inl ⟨_,bM.of hp2,rfl⟩,?_⟩
     by_cases c:rs=[]
     . rw [show (!rs.isEmpty)=false by rw [c];rfl]
       refine yc ?_
       have:JM.xT (az y) m=[]:=by rw [c] at rl;exact List.length_eq_zero_iff.mp rl.symm
       exact ⟨_,rfl,k H2 l us m s3 hl hl2 (RL.mono Td fun b h=>h.1) this hm⟩
     . rw [show (!rs.isEmpty)=true by cases rs with | nil=>exact absurd rfl c | cons _ _=>rfl]
       refine yd ?_
       have nb:∀ p ∈ JM.xT (az y) m,JM.M9 (az y) m p:=fun p hp=>JM.t8 _ _ _ hp
       have lt:m < y.1.length:=by
         obtain ⟨p,hp⟩:=List.exists_mem_of_ne_nil _ fun q:JM.xT (az y) m=[]=>c (by rw [q] at rl;exact List.length_eq_zero_iff.mp rl)
         have:=JM.EW (nb p hp)
         omega
       have f1:=JM.vV (by rw [nn];exact n9) m
       have f2:=JM.Ba m
       refine ⟨_,rfl,.inl ⟨rfl,_,bM.of hl2⟩,_,rfl,lp,rfl,⟨_,bM.of hp2⟩,fun ld OC=>?_⟩
       have dl:ld ≠ l:=fun q=>by rw [q,hl2] at OC;cases OC
       refine vv (K:=K) (a:=lp) (xs:=rs) (fun i H'=>aR H2 H'/\∃ rs',H' ld=some (.lst rs')/\rs'.length<=i/\bT mP (fun b=>H b=none/\b ≠ l/\b ≠ ld) H' rs' (((JM.xT (az y) m).take i).filter (JM.closes (az y)))) ⟨aJ OC,[],ai,Nat.zero_le _,bT.nil⟩ (fun i H' _ ⟨sm,_⟩=>bM.of (sm _ _ hp2)) ?_ ?_
       . rintro i x H3 hx ⟨s4,rs',L6,rl',R3⟩
         have hi:i < rs.length:=(List.getElem?_eq_some_iff.mp hx).1
         obtain ⟨p,hp⟩:∃ p,(JM.xT (az y) m)[i]?=some p:=⟨_,List.getElem?_eq_getElem (by omega)⟩
         obtain ⟨pa,rfl,dp,Ot⟩:=RR.at_ i x p hx hp
         have hpa:=s4 _ _ Ot
         refine ⟨rfl,_,rfl,_,rfl,?_⟩
         refine ⟨g,pa,m,p,z,y,D,rfl,M.same (s3.trans s4),gy,hpa,nb p (List.mem_of_getElem? hp),_,rfl,?_⟩
         rw [take_snoc hp,List.filter_append]
         cases hc:JM.closes (az y) p with
         | false=>
           refine yc ⟨s4,rs',L6,by omega,?_⟩
           rw [List.filter_cons_of_neg (by rw [hc];exact Bool.false_ne_true),List.filter_nil,List.append_nil]
           exact R3
         | true=>
           refine yd ⟨_,rfl,rs',L6,by rw [sizeLine_eq];omega,fun b o e=>by rw [ak (aq e OC)];exact s4 b o e,rs'++[.ref pa],ai,by simp;omega,?_⟩
           rw [List.filter_cons_of_pos hc,List.filter_nil]
           refine (R3.snoc ⟨pa,rfl,⟨dp.1,dp.2,fun q=>by rw [q,OC] at Ot;cases Ot⟩,hpa⟩).stay Bb fun b o d h=>?_
           rw [ak d.2.2]
           exact h
       . rintro H3 ⟨s4,rs',L6,rl',R3⟩
         rw [List.take_of_length_le (by omega)] at R3
         refine ⟨l,us,_,rfl,rfl,s4 _ _ hl2,by rw [sizeLine_eq];omega,?_⟩
         have st:∀ b o,b ≠ l->H3 b=some o->upd H3 l (.lst (us++[.ref ld])) b=some o:=fun b o n e=>by rw [ak n];exact e
         have s6:aR H (upd H3 l (.lst (us++[.ref ld]))):=fun b o e=>st b o (aq e hl) (s4 _ _ (s3 b o e))
         refine ⟨_,rfl,_,rfl,g,lp,m,rs,z,y,D,_,rfl,M.same s6,gy,n9,st _ _ pl (s4 _ _ hp2),RR.stay Bb fun b o d h=>st b o d.2 (s4 _ _ h),fun H5 l5 WA s7 n5 h5 R5=>?_⟩
         refine ⟨⟨m+1,us++[.ref ld],WA,l5,rfl,s6.trans s7,s7 _ _ ai,?_,h5,R5.mono Bb fun b h=>⟨s6.free h,fun q=>by rw [q,ai] at h;cases h⟩,lt,fun q=>by rw [q,ai] at n5;cases n5⟩,?_⟩
         . rw [List.range_succ,List.map_append]
           refine (RL.stay Td fun b o d h=>s7 _ _ (st b o d.2 (s4 _ _ h))).snoc ⟨ld,rs',rfl,⟨s3.free OC,dl⟩,s7 _ _ (st _ _ dl L6),?_⟩
           exact (R3.mono Bb fun b h=>⟨h.1,h.2.1⟩).stay Bb fun b o d h=>s7 _ _ (st b o d.2 h)
         . rw [hl2,s7 _ _ ai]
           simp
           omega
end
theorem Ou:∀ (a b:Nat),(a ||| b)=(a ^^^ b)+(a &&& b):=by
 intro a
 induction a using Nat.strongRecOn with
 | ind a ih=>
   intro b
   by_cases z:a=0
   . subst z;simp
   . have h:=ih (a / 2) (by omega) (b / 2)
     rw [<- Nat.or_div_two,<- Nat.xor_div_two,<- Nat.and_div_two] at h
     have o:=@Nat.or_mod_two_eq_one a b
     have n:=@Nat.and_mod_two_eq_one a b
     have x:=@Nat.xor_mod_two_eq_one a b
     omega
theorem JU (a b:Nat):Builtin.bitOr (a:Int) (b:Int)=((a ||| b:Nat):Int):=by
 have n1:decide (0<=Builtin.bitNot (a:Int))=false:=decide_eq_false (by unfold Builtin.bitNot;omega)
 have n2:decide (0<=Builtin.bitNot (b:Int))=false:=decide_eq_false (by unfold Builtin.bitNot;omega)
 have e:∀ x:Int,Builtin.bitNot (Builtin.bitNot x)=x:=fun x=>by unfold Builtin.bitNot;omega
 unfold Builtin.bitOr Builtin.bitAnd
 rw [n1,n2]
 simp only [e,Int.toNat_natCast]
theorem LO (a b:Nat):Builtin.bitXor (a:Int) (b:Int)=((a ^^^ b:Nat):Int):=by
 unfold Builtin.bitXor
 rw [JU]
 have:Builtin.bitAnd (a:Int) (b:Int)=((a &&& b:Nat):Int):=by
   unfold Builtin.bitAnd
   rw [decide_eq_true (Int.natCast_nonneg a),decide_eq_true (Int.natCast_nonneg b)]
   simp only [Int.toNat_natCast]
 rw [this,Ou]
 omega
theorem Fb {α:Type} (f:α->Nat) (i:Nat):∀ (l:List α) (a:Nat),(l.foldl (fun b p=>b ||| 2 ^ f p) a).testBit i=(a.testBit i||l.any fun p=>f p==i)
 | [],a=>by simp
 | p::l,a=>by
   rw [List.foldl_cons,Fb f i l,Nat.testBit_or,Nat.testBit_two_pow,List.any_cons,Bool.or_assoc]
   rfl
def prs (r:List Nat):List (Nat×Nat):=(r.getLastD 0::r).zip r
theorem Fc:∀ (t:List Nat) (x v w:Nat),(v,w) ∈ (x::t).zip t ↔ JM.tD (x::t) v w
 | [],x,v,w=>by
   simp [JM.jM,JM.vQ]
 | y::t,x,v,w=>by
   rw [List.zip_cons_cons,List.mem_cons,Fc t y v w,JM.jM (x:=x) (l:=y::t)]
   simp only [Prod.mk.injEq,List.head?_cons,Option.some.injEq]
   constructor
   . rintro (⟨a,b⟩ | h)
     . exact .inl ⟨a.symm,b.symm⟩
     . exact .inr h
   . rintro (⟨a,b⟩ | h)
     . exact .inl ⟨a.symm,b.symm⟩
     . exact .inr h
theorem vX {r:List Nat} (hr:r ≠ []) (v w:Nat):(v,w) ∈ prs r ↔ JM.tD (JM.closed r) v w:=by
 rw [JM.gX hr]
 cases r with
 | nil=>exact absurd rfl hr
 | cons x t=>
   unfold prs
   rw [List.zip_cons_cons,List.mem_cons,Fc]
   simp only [Prod.mk.injEq,List.headD_cons]
   constructor
   . rintro (⟨a,b⟩ | h)
     . exact .inr ⟨a.symm,b.symm⟩
     . exact .inl h
   . rintro (h | ⟨a,b⟩)
     . exact .inr h
     . exact .inl ⟨a.symm,b.symm⟩
theorem LP (r:List Nat):(prs r).length=r.length:=by
 unfold prs
 rw [List.length_zip,List.length_cons]
 omega
def prev (r:List Nat) (i:Nat):Nat:=(r.getLastD 0::r).getD i 0
theorem LQ {r:List Nat} {i u:Nat} (h:r[i]?=some u):(prs r)[i]?=some (prev r i,u):=by
 have hi:i < r.length:=(List.getElem?_eq_some_iff.mp h).1
 unfold prs prev
 rw [List.getElem?_zip_eq_some]
 refine ⟨?_,h⟩
 rw [List.getD,List.getElem?_eq_getElem (by rw [List.length_cons];omega)]
 rfl
theorem LR {r:List Nat} {i:Nat} (h:i < r.length):Hs (vN r) ((i:Int) - 1)=some (.int (prev r i:Int)):=by
 have ne:r ≠ []:=fun e=>by rw [e] at h;simp at h
 cases i with
 | zero=>exact vW ne
 | succ j=>
   have e:((j+1:Nat):Int) - 1=(j:Int):=by omega
   rw [e]
   refine bK (M8 ?_)
   unfold prev
   rw [List.getD_cons_succ,List.getD,List.getElem?_eq_getElem (by omega)]
   rfl
def Hf (y:aP) (l:List (Nat×Nat)):Nat:=l.foldl (fun b p=>b ||| 2 ^ xR y p.1 p.2) 0
theorem JV {y:aP} (gy:g9 y) {r:List Nat} (hr:r ∈ (az y).ringRows):Hf y (prs r)=(az y).bitsOf r:=by
 have cy:=((JM.qz gy.good r).mp hr).QW
 have ne:r ≠ []:=fun e=>by have:=cy.three;rw [e] at this;simp at this
 have WB:∀ {v w:Nat},JM.tD (JM.closed r) v w->w ∈ JM.f6 (y.2.map JM.aT) v:=fun h=>by
   have j:=cy.SS _ _ h
   exact (AW gy).mpr ⟨(JM.mO gy.good j).2.1,j⟩
 refine Nat.eq_of_testBit_eq fun i=>?_
 unfold Hf
 rw [Fb,Nat.zero_testBit,Bool.false_or,Bool.eq_iff_iff,List.any_eq_true]
 constructor
 . rintro ⟨⟨v,w⟩,hp,e⟩
   have ad:=(vX ne v w).mp hp
   obtain ⟨c,hc,hv,hf⟩:=EV gy (WB ad)
   rw [<- beq_iff_eq.mp e]
   simp only
   rw [JM.rH (az y) r (LH hc),JM.rE]
   have hj:=(List.findIdx?_eq_some_iff_getElem.mp hf)
   obtain ⟨h1,h2,_⟩:=hj
   have ec:(y.2.map JM.aT)[xR y v w]=JM.aT c:=by
     rw [List.getElem_map]
     rw [(List.getElem?_eq_some_iff.mp hc).2]
   rw [ec,lu] at h2
   unfold JM.aT at h2
   simp at h2
   rcases h2 with ⟨a,b⟩ | ⟨a,b⟩
   . rw [a,b];exact .inl ad
   . rw [a,b];exact .inr ad
 . intro h
   cases hx:(az y).bonds[i]? with
   | none=>
     unfold Fk.Mol.bitsOf at h
     rw [JM.xQ (fun x:Bond=>Fk.nextIn r x.a x.b) (az y).bonds 0 0 (by decide) i,if_neg (by omega),Nat.sub_zero,hx] at h
     cases h
   | some x=>
     rw [JM.rH (az y) r hx,JM.rE] at h
     have h':(y.2.map fun z=>z.1)[i]?=some x:=hx
     rw [List.getElem?_map] at h'
     cases hc:y.2[i]? with
     | none=>rw [hc] at h';cases h'
     | some c=>
       rw [hc] at h'
       cases h'
       rcases h with h | h
       . exact ⟨(c.1.a,c.1.b),(vX ne _ _).mpr h,beq_iff_eq.mpr (AX gy hc (lu.mpr (.inl ⟨rfl,rfl⟩)))⟩
       . exact ⟨(c.1.b,c.1.a),(vX ne _ _).mpr h,beq_iff_eq.mpr (AX gy hc (lu.mpr (.inr ⟨rfl,rfl⟩)))⟩
section
variable {P:Program} {w:World} {K:PySem.W.Frag} {mg:Str->Option Value} {base:Heap} {t:Ad}
def LS (t:Ad):Sp:=fun vs H Q _=>∃ (g a:Addr) (r:List Nat) (z:qX) (y:aP) (D:Addr->Prop),vs=[.ref g,.ref a]/\lg t D H g z y/\g9 y/\H a=some (.lst (vN r))/\r ∈ (az y).ringRows/\∀ H',aR H H'->Q (.int ((az y).bitsOf r:Int)) H'
theorem qi:aL ["molecule","ring","bonds","k","atom"] ["molecule","ring"] (aE j3):=⟨rfl,rfl,rfl,by decide +kernel,rfl,by decide +kernel,by decide +kernel⟩
theorem JW (T:Txt K mg t):bB P w K mg base lS 1 t.d9 t.iC ["molecule","ring"] (LS t):=by
 refine T.fq.ok qi (fun vs H Q E h=>?_) (fun cdv A outer s H vs Q E hr h=>?_)
 . obtain ⟨g,a,r,z,y,D,rfl,_⟩:=h
   rfl
 . obtain ⟨g,a,r,z,y,D,rfl,M,gy,ha,MA,k⟩:=h
   have hu:=hr.un
   have hu':(A.deeper (envOfC "bonds_along" (aE j3) s.heap.objs.size t.d9 cdv)).units+1 < cLine:=by omega
   refine ⟨_,au (aQ (i:=2) qi.nd rfl (Or.inl rfl) aM)
     (au (fj PassesOwn.never rfl (vA rfl T.jJ (af (pv 1) ay)) (z9 rfl (j7 (bu (i:=3) qi.nd rfl (Or.inl rfl)) (j7 (bu (i:=4) qi.nd rfl (Or.inl rfl)) vp)))
       (aB (aQ (i:=2) qi.nd rfl (Or.inl rfl) (fC Ml (pv 2) (fC Dr aM (K6 hu' (aK (pv 0) rfl) (oM (af (dM bF (pv 1) (fC oJ (pv 3) aM) (fun _ _=>rfl)) (af (pv 4) ay))) (fun _ _=>rfl)))))))
     (aB (bA (pv 2)))),?_⟩
   obtain ⟨dg,eg⟩:=M.obj
   have cy:=((JM.qz gy.good r).mp MA).QW
   have ne:r ≠ []:=fun e=>by have:=cy.three;rw [e] at this;simp at this
   refine ⟨_,rfl,a,_,rfl,bM.of ha,?_⟩
   refine sS (K:=K) (a:=a) (xs:=vN r) (fun i σ H'=>∃ v3 v4,σ=[some (.ref g),some (.ref a),some (.int (Hf y ((prs r).take i):Int)),v3,v4]/\aR H H') ⟨none,none,rfl,aR.refl _⟩ (fun i σ H' _ ⟨_,_,_,sm⟩=>bM.of (sm _ _ ha)) ?_ ?_
   . rintro i x σ H1 Tt hx ⟨v3,v4,rfl,s1⟩ hT
     obtain ⟨u,U8,rfl⟩:=DW hx
     have hi:i < r.length:=(List.getElem?_eq_some_iff.mp U8).1
     have s2:aR H (upd H1 Tt (.tup [.int (i:Int),.int (u:Int)])):=s1.trans (aJ hT)
     have pg:=LQ U8
     have ad:=(vX ne _ _).mp (List.mem_of_getElem? pg)
     have jo:=cy.SS _ _ ad
     obtain ⟨c,hc,_,hf⟩:=EV gy ((AW gy).mpr ⟨(JM.mO gy.good jo).2.1,jo⟩)
     have bl:xR y (prev r i) u < y.2.length:=(List.getElem?_eq_some_iff.mp hc).1
     have fw:=gy.few
     refine ⟨Tt,_,rfl,mr.of ai,rfl,_,_,rfl,_,_,rfl,rfl,?_⟩
     refine ⟨_,rfl,_,rfl,g,_,dg,_,_,rfl,s2 _ _ eg,T.bw,T.bS,rfl,_,rfl,_,rfl,_,_,rfl,rfl,a,_,_,_,rfl,rfl,bM.of (s2 _ _ ha),LR hi,_,rfl,(by show 2<=sizeLine;decide),fun p1 hp1=>?_⟩
     have s3:aR H (upd (upd H1 Tt (.tup [.int (i:Int),.int (u:Int)])) p1 (.tup [.int (prev r i:Int),.int (u:Int)])):=s2.trans (aJ hp1)
     have WC:zJ (upd (upd H1 Tt (.tup [.int (i:Int),.int (u:Int)])) p1 (.tup [.int (prev r i:Int),.int (u:Int)])) z.ln (.ref p1) (some (.int (xR y (prev r i) u:Int))):=by
       have:=zJ.t (k:=kI [(prev r i:Int),(u:Int)]) (s3 _ _ M.nums) (by rw [AM];exact ai)
       rw [M.num,hf] at this
       exact this
     refine ⟨z.ln,_,rfl,WC,_,_,rfl,rfl,⟨by omega,by omega,by decide⟩,_,_,rfl,rfl,?_⟩
     have ev:V.int (Builtin.bitOr (Hf y ((prs r).take i):Int) (1 * 2 ^ ((xR y (prev r i) u:Int)).toNat))=V.int (Hf y ((prs r).take (i+1)):Int):=by
       rw [take_snoc pg]
       unfold Hf
       rw [List.foldl_append,List.foldl_cons,List.foldl_nil]
       have e:(1:Int) * 2 ^ ((xR y (prev r i) u:Int)).toNat=((2 ^ xR y (prev r i) u:Nat):Int):=by
         rw [Int.toNat_natCast,Int.one_mul]
         simp
       rw [e,JU]
     exact ⟨some (.int (i:Int)),some (.int (u:Int)),congrArg (fun v:V=>([some (V.ref g),some (V.ref a),some v,some (V.int (i:Int)),some (V.int (u:Int))]:L2.St)) ev,s3⟩
   . rintro σ H1 ⟨v3,v4,rfl,s1⟩
     rw [show (prs r).take (vN r).length=prs r from List.take_of_length_le (by rw [LP,qf];exact Nat.le_refl _),JV gy MA]
     exact ⟨_,rfl,k _ s1⟩
structure qY (t:Ad) (H:Hp) (q lk ll:Addr) (ks ls:List Nat):Prop where
 obj:∃ dx,H q=some (.ins t.b6 dx [("kept",.ref lk),("lengths",.ref ll)])
 kept:H lk=some (.lst (vN ks))
 lens:H ll=some (.lst (vN ls))
 ne:lk ≠ ll
theorem qY.same {H H':Hp} {q lk ll:Addr} {ks ls:List Nat} (B:qY t H q lk ll ks ls) (s:aR H H'):qY t H' q lk ll ks ls:=⟨let ⟨dx,e⟩:=B.obj;⟨dx,s _ _ e⟩,s _ _ B.kept,s _ _ B.lens,B.ne⟩
def Ov (t:Ad):Sp:=fun vs H Q _=>∃ (q dx:Addr) (H0:Hp),vs=[.ref q]/\H q=some (.ins t.b6 dx [])/\aR H0 H/\H0 q=none/\∀ H' lk ll,aR H0 H'->H0 lk=none->H0 ll=none->qY t H' q lk ll [] []->Q .non H'
theorem LU:aL ["self"] ["self"] (aE mZ):=⟨rfl,rfl,rfl,by decide +kernel,rfl,by decide +kernel,by decide +kernel⟩
theorem DZ (T:Txt K mg t):bB P w K mg base lS 1 t.eO t.iV ["self"] (Ov t):=by
 refine T.jb.ok LU (fun vs H Q E h=>?_) (fun cdv A outer s H vs Q E hr h=>?_)
 . obtain ⟨q,dx,H0,rfl,_⟩:=h
   rfl
 . obtain ⟨q,dx,H0,rfl,hq,s0,nq,k⟩:=h
   refine ⟨_,au (e7 (pv 0) (gC ay) rfl) (aB (e7 (pv 0) (gC ay) rfl)),?_⟩
   refine ⟨Nat.zero_le _,fun lk hk=>?_⟩
   have nk:lk ≠ q:=fun z=>by rw [z,hq] at hk;cases hk
   have hq1:upd H lk (.lst []) q=some (.ins t.b6 dx []):=by rw [ak (fun z=>nk z.symm)];exact hq
   refine ⟨_,rfl,q,_,dx,_,rfl,hq1,T.j4,T.ir,(by show 0 < 1000;decide),?_⟩
   refine ⟨Nat.zero_le _,fun ll hl=>?_⟩
   have nl:ll ≠ q:=fun z=>by rw [z,ai] at hl;cases hl
   have U9:upd (upd H lk (.lst [])) q (.ins t.b6 dx (eu "kept" (.ref lk) [])) lk=some (.lst []):=by rw [ak nk,ai]
   have UA:lk ≠ ll:=aq U9 hl
   refine ⟨_,rfl,q,_,dx,_,rfl,(by rw [ak (fun z=>nl z.symm)];exact ai),T.j4,T.g7,(by show 1 < 1000;decide),?_⟩
   have f1:H0 lk=none:=s0.free hk
   have sk:∀ b o,H0 b=some o->upd (upd H lk (.lst [])) q (.ins t.b6 dx (eu "kept" (.ref lk) [])) b=some o:=fun b o e=>by rw [ak (aq e nq),ak (aq e f1)];exact s0 b o e
   have f2:H0 ll=none:=aR.free sk hl
   refine k _ lk ll (fun b o e=>?_) f1 f2 ⟨⟨dx,ai⟩,?_,?_,UA⟩
   . rw [ak (aq e nq),ak (aq e f2)]
     exact sk b o e
   . rw [ak nk,ak UA]
     exact U9
   . rw [ak nl,ai]
     rfl
def Ow (t:Ad):Sp:=fun vs H Q _=>∃ (q lk ll:Addr) (ks ls:List Nat) (x:Nat),vs=[.ref q,.int (x:Int)]/\qY t H q lk ll ks ls/\(∀ b ∈ ks,b ≠ 0)/\Q (.int (Fk.lessBits ks x:Int)) H
theorem vY:aL ["self","bonds","left","row"] ["self","bonds"] (aE jQ):=⟨rfl,rfl,rfl,by decide +kernel,rfl,by decide +kernel,by decide +kernel⟩
theorem Fd (T:Txt K mg t):bB P w K mg base lS 1 t.ck t.gg ["self","bonds"] (Ow t):=by
 refine T.gw.ok vY (fun vs H Q E h=>?_) (fun cdv A outer s H vs Q E hr h=>?_)
 . obtain ⟨q,lk,ll,ks,ls,x,rfl,_⟩:=h
   rfl
 . obtain ⟨q,lk,ll,ks,ls,x,rfl,B,nz,k⟩:=h
   refine ⟨_,au (aQ (i:=2) vY.nd rfl (Or.inl rfl) (pv 1))
     (au (fj PassesOwn.never rfl (iQ (aK (pv 0) rfl)) (bu (i:=3) vY.nd rfl (Or.inl rfl))
       (aB (aQ (i:=2) vY.nd rfl (Or.inl rfl) (cA (Fw rfl) (by rfl) T.Mw rfl (af (pv 2) (af (fC MV (pv 2) (pv 3)) ay))))))
     (aB (bA (pv 2)))),?_⟩
   obtain ⟨dq,eq⟩:=B.obj
   refine ⟨_,rfl,_,rfl,q,_,dq,_,_,rfl,eq,T.j4,T.ir,rfl,lk,rfl,⟨_,bM.of B.kept⟩,?_⟩
   refine kE (K:=K) (a:=lk) (xs:=vN ks) (fun i σ H'=>∃ v3,H'=H/\σ=[some (.ref q),some (.int (x:Int)),some (.int (Fk.lessBits (ks.take i) x:Int)),v3]) ⟨none,rfl,rfl⟩ (fun i σ H' _ ⟨_,e,_⟩=>by rw [e];exact bM.of B.kept) ?_ ?_
   . rintro i v σ H' hx ⟨v3,rfl,rfl⟩
     obtain ⟨b,hb,rfl⟩:=DW hx
     refine ⟨_,rfl,_,rfl,_,rfl,_,_,rfl,rfl,_,_,rfl,?_⟩
     have ev:V.int (if Builtin.bitXor (Fk.lessBits (ks.take i) x:Int) (b:Int) < (Fk.lessBits (ks.take i) x:Int) then Builtin.bitXor (Fk.lessBits (ks.take i) x:Int) (b:Int) else (Fk.lessBits (ks.take i) x:Int))=V.int (Fk.lessBits (ks.take (i+1)) x:Int):=by
       rw [take_snoc hb,JM.CS]
       show _=V.int ((if (Fk.lessBits (ks.take i) x).testBit (Nat.log2 b)=true then Nat.xor (Fk.lessBits (ks.take i) x) b else Fk.lessBits (ks.take i) x:Nat):Int)
       rw [<- JM.GQ (nz b (List.mem_of_getElem? hb)),LO]
       congr 1
       split<;>split<;>omega
     exact ⟨some (.int (b:Int)),rfl,congrArg (fun v:V=>([some (V.ref q),some (V.int (x:Int)),some v,some (V.int (b:Int))]:L2.St)) ev⟩
   . rintro σ H' ⟨v3,rfl,rfl⟩
     rw [qf,List.take_length]
     exact ⟨_,rfl,k⟩
def Ox (t:Ad):Sp:=fun vs H Q _=>∃ (q lk ll:Addr) (ks ls:List Nat) (x n:Nat),vs=[.ref q,.int (x:Int),.int (n:Int)]/\qY t H q lk ll ks ls/\(∀ b ∈ ks,b ≠ 0)/\ks.length < 10000000/\ls.length < 10000000 /\
 ∀ H',(∀ b o,b ≠ lk->b ≠ ll->H b=some o->H' b=some o)->qY t H' q lk ll (if Fk.lessBits ks x=0 then ks else ks++[Fk.lessBits ks x]) (if Fk.lessBits ks x=0 then ls else ls++[n])->Q .non H'
theorem Fe:aL ["self","bonds","length","left"] ["self","bonds","length"] (aE iS):=⟨rfl,rfl,rfl,by decide +kernel,rfl,by decide +kernel,by decide +kernel⟩
theorem LV (T:Txt K mg t):bB P w K mg base lS 2 t.bI t.eS ["self","bonds","length"] (Ox t):=by
 have GL:=@Fd P w K mg base t T
 refine T.eY.ok Fe (fun vs H Q E h=>?_) (fun cdv A outer s H vs Q E hr h=>?_)
 . obtain ⟨q,lk,ll,ks,ls,x,n,rfl,_⟩:=h
   rfl
 . obtain ⟨q,lk,ll,ks,ls,x,n,rfl,B,nz,l1,l2,k⟩:=h
   refine ⟨_,au (aQ (i:=3) Fe.nd rfl (Or.inl rfl) (b8 (pv 0) T.j4 T.jY GL hr T.jX .nil cB (af (pv 1) ay)))
     (aB (mw (eL Bl (pv 3) aM (fD _))
       (au (bV (nJ PySem.F.plainAttrs_list PySem.F.slot_list_append PySem.F.type_list_append fE (aK (pv 0) rfl) (af (pv 3) ay)))
       (aB (bV (nJ PySem.F.plainAttrs_list PySem.F.slot_list_append PySem.F.type_list_append fE (aK (pv 0) rfl) (af (pv 2) ay))))) gY)),?_⟩
   obtain ⟨dq,eq⟩:=B.obj
   refine ⟨_,rfl,q,dq,_,rfl,eq,rfl,_,rfl,?_⟩
   refine ⟨q,lk,ll,ks,ls,x,rfl,B,nz,_,rfl,rfl,_,rfl,?_⟩
   by_cases c:Fk.lessBits ks x=0
   . rw [c,if_pos rfl,if_pos rfl] at k
     have e:(!decide (V.int ((Fk.lessBits ks x:Nat):Int)=V.int 0))=false:=by rw [c];rfl
     rw [e]
     exact yc (k H (fun b o _ _ e=>e) B)
   . rw [if_neg c,if_neg c] at k
     have e:(!decide (V.int ((Fk.lessBits ks x:Nat):Int)=V.int 0))=true:=by
       have:¬ V.int ((Fk.lessBits ks x:Nat):Int)=V.int 0:=fun z=>c (by have:=V.int.inj z;omega)
       simp [this]
     rw [e]
     refine yd ?_
     have qk:q ≠ lk:=fun z=>by have:=B.kept;rw [<- z,eq] at this;cases this
     have ql:q ≠ ll:=fun z=>by have:=B.lens;rw [<- z,eq] at this;cases this
     refine ⟨_,rfl,q,_,dq,_,_,rfl,eq,T.j4,T.ir,rfl,.inl ⟨rfl,_,bM.of B.kept⟩,_,rfl,lk,_,_,rfl,rfl,B.kept,by rw [qf,sizeLine_eq];omega,?_⟩
     have eq2:upd H lk (.lst (vN ks++[.int (Fk.lessBits ks x:Int)])) q=some (.ins t.b6 dq [("kept",.ref lk),("lengths",.ref ll)]):=by rw [ak qk];exact eq
     have UB:upd H lk (.lst (vN ks++[.int (Fk.lessBits ks x:Int)])) ll=some (.lst (vN ls)):=by rw [ak (fun z=>B.ne z.symm)];exact B.lens
     refine ⟨_,rfl,q,_,dq,_,_,rfl,eq2,T.j4,T.g7,rfl,.inl ⟨rfl,_,bM.of UB⟩,_,rfl,ll,_,_,rfl,rfl,UB,by rw [qf,sizeLine_eq];omega,?_⟩
     refine k _ (fun b o b1 b2 e=>by rw [ak b2,ak b1];exact e) ⟨⟨dq,by rw [ak ql];exact eq2⟩,?_,?_,B.ne⟩
     . rw [ak B.ne,ai,vU]
     . rw [ai,vU]
end
def uu (B:Bytes) (f:Mol->List Int):List Int:=match Fk.judgeMol B with
 | .error e=>[-5,0,(e.rule:Int),(e.place:Int)]
 | .ok M=>f M
theorem JX (B:Bytes) (f:Mol->FkP.Answer):PartNeutral.told (FkP.judged 0 (Fk.judgeMol B) f)=uu B fun M=>PartNeutral.told (f M):=by
 unfold FkP.judged uu
 cases Fk.judgeMol B<;>rfl
theorem Tf {c:PartNeutral.Call} {x:FkP.Call} (e:PartNeutral.callOf c=some x):PartNeutral.f c=PartNeutral.told (FkP.answer x):=by
 unfold PartNeutral.f
 rw [e]
theorem Hg {c:PartNeutral.Call} {x:FkP.Call} (e:PartNeutral.callOf c=some x) (h:PartNeutral.asked [c]=true):PartNeutral.moderate x=true:=by
 unfold PartNeutral.asked at h
 simp only [Bool.and_eq_true,List.all_cons] at h
 have q:=h.2.2.1.1
 unfold PartNeutral.fits at q
 rw [e] at q
 simpa using q
theorem Oz {B:Bytes} (h:PartNeutral.few B=true):(B.getD 4 0).toNat<=9/\(B.getD 5 0).toNat<=12:=by
 unfold PartNeutral.few at h
 simpa using h
theorem uv {f:Nat->List (List Nat)} {m:Nat} (h:∀ j,m<=j->f j=[]):∀ d,(List.range (m+d)).flatMap f=(List.range m).flatMap f
 | 0=>rfl
 | d+1=>by
   rw [<- Nat.add_assoc,List.range_succ,List.flatMap_append,uv h d,List.flatMap_singleton,h (m+d) (by omega),List.append_nil]
theorem CU {y:aP} {m:Nat} (h:JM.xT (az y) m=[]) (hm:m<=y.1.length):(az y).ringRows=((List.range m).map (c9 y)).flatten:=by
 rw [JM.GJ,<- List.flatMap_def]
 have e:=uv (f:=c9 y) (m:=m) (fun j hj=>by unfold c9;rw [JM.CQ _ h j hj];rfl) ((az y).n - m)
 have:m+((az y).n - m)=(az y).n:=by rw [o7];omega
 rw [this] at e
 exact e
theorem ux {y:aP} {k:Nat} {r:List Nat} (h:r ∈ c9 y k):r.length=k+1:=(JM.t8 _ _ _ (List.mem_filter.mp h).1).len
theorem uy {y:aP} (n9:y.1.length<=9) (k:Nat):(c9 y k).length<=362880:=by
 have a:=List.length_filter_le (JM.closes (az y)) (JM.xT (az y) k)
 have b:=JM.vV (M:=az y) (by rw [o7];exact n9) k
 have c:=JM.Ba k
 unfold c9
 omega
theorem LW {y:aP} (n9:y.1.length<=9) {m:Nat} (hm:m<=y.1.length):((List.range m).map (c9 y)).flatten.length<=3265920:=by
 rw [<- List.flatMap_def]
 have:=JM.qg (n:=362880) (l:=List.range m) (f:=c9 y) fun k _=>uy n9 k
 rw [List.length_range] at this
 omega
theorem span_len:∀ (l s:List Nat),(JM.span s l).length<=s.length+l.length
 | [],s=>by show s.length<=_;simp
 | x::l,s=>by
   rw [JM.mR,List.length_cons]
   split
   . have:=span_len l s
     omega
   . have:=span_len l (s++[Fk.lessBits s x])
     rw [List.length_append,List.length_singleton] at this
     omega
abbrev bits (y:aP) (r:List Nat):Nat:=(az y).bitsOf r
def pre (y:aP) (k:Nat):List (List Nat):=(List.range k).flatMap (c9 y)
def vZ (y:aP) (k:Nat):List Nat:=JM.span [] ((pre y k).map (bits y))
def xX (y:aP) (k:Nat):List (List Nat):=(c9 y k).filter fun r=>Fk.lessBits (vZ y k) (bits y r) != 0
theorem JY (y:aP) (k:Nat):JM.span (vZ y k) ((xX y k).map (bits y))=vZ y (k+1):=by
 unfold xX
 have e:((c9 y k).filter fun r=>Fk.lessBits (vZ y k) (bits y r) != 0).map (bits y)=((c9 y k).map (bits y)).filter fun x=>Fk.lessBits (vZ y k) x != 0:=by
   rw [List.filter_map]
   rfl
 have:=JM.lR (vZ y k) ((c9 y k).map (bits y)) []
 rw [List.append_nil] at this
 rw [e,this]
 unfold vZ pre
 rw [List.range_succ,List.flatMap_append,List.flatMap_singleton,List.map_append,JM.CT]
theorem Ea (y:aP) {k m:Nat} (h:k<=m):((List.range m).flatMap (c9 y)).filter (fun q=>decide (q.length < k+1))=pre y k:=by
 rw [JM.fQ]
 have e:=uv (f:=fun j=>(c9 y j).filter fun q=>decide (q.length < k+1)) (m:=k) (fun j hj=>by
   rw [List.filter_eq_nil_iff]
   intro r hr
   rw [ux hr,decide_eq_true_eq]
   omega) (m - k)
 rw [show k+(m - k)=m by omega] at e
 rw [e]
 unfold pre
 refine JM.mQ.jz fun j hj=>?_
 rw [List.filter_eq_self]
 intro r hr
 rw [List.mem_range] at hj
 rw [ux hr,decide_eq_true_eq]
 omega
theorem Hh {y:aP} {m:Nat} (h:JM.xT (az y) m=[]) (hm:m<=y.1.length):(az y).shorts=(List.range m).flatMap (xX y):=by
 unfold Fk.Mol.shorts
 simp only
 have e:(az y).ringRows=(List.range m).flatMap (c9 y):=by rw [CU h hm,List.flatMap_def]
 rw [e,JM.fQ]
 refine JM.mQ.jz fun k hk=>?_
 unfold xX
 refine List.filter_congr fun r hr=>?_
 rw [ux hr,Ea y (by have:=List.mem_range.mp hk;omega)]
 rfl
theorem bT.app {α:Type} {Rep:lZ α} {D:Addr->Prop} {H:Hp} {vs us:List V} {zs ys:List α} (R:bT Rep D H vs zs) (S:bT Rep D H us ys):bT Rep D H (vs++us) (zs++ys):=by
 refine ⟨by rw [List.length_append,List.length_append,R.len,S.len],fun i v z h1 h2=>?_⟩
 rcases Nat.lt_or_ge i vs.length with h | h
 . rw [List.getElem?_append_left h] at h1
   rw [List.getElem?_append_left (R.len ▸ h)] at h2
   exact R.at_ i v z h1 h2
 . rw [List.getElem?_append_right h] at h1
   rw [List.getElem?_append_right (R.len ▸ h),<- R.len] at h2
   exact S.at_ _ v z h1 h2
theorem LX {y:aP} (n9:y.1.length<=9) {k:Nat} (h:k<=y.1.length):(pre y k).length<=3265920:=by
 unfold pre
 rw [List.flatMap_def]
 exact LW n9 h
theorem LY {y:aP} (n9:y.1.length<=9) {k:Nat} (h:k<=y.1.length):(vZ y k).length<=3265920:=by
 have:=span_len ((pre y k).map (bits y)) []
 rw [List.length_map,List.length_nil,Nat.zero_add] at this
 exact Nat.le_trans this (LX n9 h)
theorem Ff {y:aP} (n9:y.1.length<=9) (k:Nat):(xX y k).length<=362880:=Nat.le_trans (List.length_filter_le _ _) (uy n9 k)
theorem LZ {y:aP} (n9:y.1.length<=9) {k:Nat} (h:k<=y.1.length):((List.range k).flatMap (xX y)).length<=3265920:=by
 have:=JM.qg (n:=362880) (l:=List.range k) (f:=xX y) fun j _=>Ff n9 j
 rw [List.length_range] at this
 omega
theorem Fg (y:aP) (k:Nat) (l:List Nat):∀ b ∈ JM.span (vZ y k) l,b ≠ 0:=JM.xU _ _ (JM.xU _ _ (by simp))
section
variable {P:Program} {w:World} {K:PySem.W.Frag} {mg:Str->Option Value} {base:Heap} {t:Ad}
def Q7 (t:Ad):Sp:=fun vs H Q _=>∃ (q lk ll:Addr) (ks ls:List Nat) (x:Nat),vs=[.ref q,.int (x:Int)]/\qY t H q lk ll ks ls/\(∀ b ∈ ks,b ≠ 0)/\Q (.bl (Fk.lessBits ks x==0)) H
theorem O0:aL ["self","bonds"] ["self","bonds"] (aE jR):=⟨rfl,rfl,rfl,by decide +kernel,rfl,by decide +kernel,by decide +kernel⟩
theorem O1 (T:Txt K mg t):bB P w K mg base lS 2 t.cz t.gi ["self","bonds"] (Q7 t):=by
 have GL:=@Fd P w K mg base t T
 refine T.gx.ok O0 (fun vs H Q E h=>?_) (fun cdv A outer s H vs Q E hr h=>?_)
 . obtain ⟨q,lk,ll,ks,ls,x,rfl,_⟩:=h
   rfl
 . obtain ⟨q,lk,ll,ks,ls,x,rfl,B,nz,k⟩:=h
   refine ⟨_,aB (bA (mT Ej (b8 (pv 0) T.j4 T.jY GL hr T.jX .nil cB (af (pv 1) ay)) aM (fD _))),?_⟩
   obtain ⟨dq,eq⟩:=B.obj
   refine ⟨_,rfl,q,dq,_,rfl,eq,rfl,_,rfl,q,lk,ll,ks,ls,x,rfl,B,nz,rfl,?_⟩
   have e:decide (V.int (Fk.lessBits ks x:Int)=V.int 0)=(Fk.lessBits ks x==0):=by
     rw [Bool.eq_iff_iff,decide_eq_true_eq,beq_iff_eq]
     constructor
     . intro h
       have:=V.int.inj h
       omega
     . intro h
       rw [h]
       rfl
   rw [<- e] at k
   exact k
def JZ (t:Ad):Sp:=fun vs H Q _=>∃ (g:Addr) (z:qX) (y:aP) (D:Addr->Prop),vs=[.ref g]/\lg t D H g z y/\g9 y/\y.1.length<=9/\∀ H' l rs D',H' l=some (.lst rs)->bT mP D' H' rs (az y).shorts->Q (.ref l) H'
theorem j0:aL ["molecule","basis","found","rings","short","ring"] ["molecule"] (aE lU):=⟨rfl,rfl,rfl,by decide +kernel,rfl,by decide +kernel,by decide +kernel⟩
theorem Hi (T:Txt K mg t):bB P w K mg base lS 3 t.fm t.iB ["molecule"] (JZ t):=by
 have GI:=@DZ P w K mg base t T
 have GB:=@JT P w K mg base t T
 have GA:=@JW P w K mg base t T
 have GT:=@LV P w K mg base t T
 have GH:=@O1 P w K mg base t T
 refine T.gB.ok j0 (fun vs H Q E h=>?_) (fun cdv A outer s H vs Q E hr h=>?_)
 . obtain ⟨g,z,y,D,rfl,_⟩:=h
   rfl
 . obtain ⟨g,z,y,D,rfl,M,gy,n9,k⟩:=h
   have hr1:cK 1 _:=hr.mono (by decide)
   refine ⟨_,au (aQ (i:=1) j0.nd rfl (Or.inr rfl) (HR T.ED GI hr rfl T.EC T.rS .nil cB))
     (au (aQ (i:=2) j0.nd rfl (Or.inl rfl) (gC ay))
     (au (fj PassesOwn.never rfl (iQ (bE GB hr rfl T.lI T.cV.kp T.lH .nil cB (af (pv 0) ay))) (bu (i:=3) j0.nd rfl (Or.inl rfl))
       (au (wG (i:=4) rfl j0.nd rfl rfl rfl (iQ (pv 3)) (m5 (own:=[("ring",5)]) rfl) (fun _ _ _ _ _=>bu (i:=5) j0.nd rfl (Or.inl rfl)) (fun _ _ _ _ _=>vt (Dg (tG (b8 (pv 1) T.j4 T.om GH hr T.nO .nil cB (af (bE GA hr1 rfl T.lW T.fq.kp T.lV .nil cB (af (pv 0) (af (pv 5) ay))) ay))))) (fun _ _ _ _ _=>pv 5))
       (au (fj PassesOwn.never rfl (iQ (pv 4)) (bu (i:=5) j0.nd rfl (Or.inl rfl))
         (aB (bV (b8 (pv 1) T.j4 T.lK GT hr T.lG .nil cB (af (bE GA hr1 rfl T.lW T.fq.kp T.lV .nil cB (af (pv 0) (af (pv 5) ay))) (af (cA aW (by rfl) T.jk PySem.boot_len (af (pv 5) ay)) ay))))))
       (aB (bV (nJ PySem.F.plainAttrs_list PySem.F.slot_list_extend PySem.F.type_list_extend F0 (pv 2) (af (pv 4) ay)))))))
     (aB (bA (pv 2))))),?_⟩
   have Bb:=mP.ok
   have Td:=GZ.ok
   intro q dq nq WD ne
   have WE:aR H (upd (upd H dq (.own q)) q (.ins t.b6 dq [])):=fun b u e=>by rw [ak (aq e nq),ak (aq e WD)];exact e
   refine ⟨q,dq,H,rfl,ai,WE,nq,fun H0 lk ll s0 fk fl B0=>⟨rfl,?_⟩⟩
   refine ⟨Nat.zero_le _,fun lf Oa=>?_⟩
   have s1:aR H0 (upd H0 lf (.lst [])):=aJ Oa
   obtain ⟨H1,UC⟩:∃ H1,H1=upd H0 lf (.lst []):=⟨_,rfl⟩
   rw [<- UC] at s1 ⊢
   have hf1:H1 lf=some (.lst []):=by rw [UC];exact ai
   have B1:=B0.same s1
   refine ⟨_,rfl,g,z,y,D,rfl,M.same (s0.trans s1),gy,n9,fun H2 l us m s2 nl hl2 RL hm0 hm=>⟨l,rfl,⟨_,bM.of hl2⟩,?_⟩⟩
   have Q8:=RL.len
   rw [List.length_map,List.length_range] at Q8
   have nk:∀ b,H1 b=none->b ≠ lk/\b ≠ ll/\b ≠ lf:=fun b h=>⟨(fun e=>by rw [e,B1.kept] at h;cases h),(fun e=>by rw [e,B1.lens] at h;cases h),(fun e=>by rw [e,hf1] at h;cases h)⟩
   have QY:lf ≠ lk/\lf ≠ ll:=⟨fun e=>(aq B0.kept Oa) e.symm,fun e=>(aq B0.lens Oa) e.symm⟩
   have WG:H lf=none:=s0.free Oa
   refine kE (K:=K) (a:=l) (xs:=us) (fun i σ H'=>∃ v3 v4 v5 ls rs',σ=[some (.ref g),some (.ref q),some (.ref lf),v3,v4,v5]/\aR H H'/\(∀ b o,H1 b=none->H2 b=some o->H' b=some o)/\qY t H' q lk ll (vZ y i) ls/\ls.length=(vZ y i).length/\H' lf=some (.lst rs')/\bT mP (fun b=>H1 b=none) H' rs' ((List.range i).flatMap (xX y)))
     ⟨none,none,none,[],[],rfl,(s0.trans s1).trans s2,fun b o _ e=>e,B1.same s2,rfl,s2 _ _ hf1,bT.nil⟩ (fun i σ H' _ ⟨_,_,_,_,_,_,_,kp,_⟩=>bM.of (kp _ _ nl hl2)) ?_ ?_
   . rintro i x σ H3 hx ⟨v3,v4,v5,ls,rs',rfl,s3,kp,B3,UD,L7,RF⟩
     have hi:i < us.length:=(List.getElem?_eq_some_iff.mp hx).1
     obtain ⟨a,rs,rfl,da,ha,RR⟩:=RL.at_ i x (c9 y i) hx (by rw [List.getElem?_map,List.getElem?_range (by omega)];rfl)
     have WH:=RR.len
     have hm':i<=y.1.length:=by omega
     have sub:∀ r ∈ c9 y i,r ∈ (az y).ringRows:=fun r hr=>by
       rw [CU hm0 hm]
       exact List.mem_flatten.mpr ⟨_,List.mem_map.mpr ⟨i,List.mem_range.mpr (by omega),rfl⟩,hr⟩
     have k0:=Fg y i []
     have b1:=LY n9 hm'
     have b2:=uy n9 i
     have Oc:=kp _ _ da ha
     refine ⟨_,rfl,a,rfl,⟨_,bM.of Oc⟩,fun sh hsh=>?_⟩
     have Ma:sh ≠ lk/\sh ≠ ll/\sh ≠ lf:=⟨fun e=>(aq B3.kept hsh) e.symm,fun e=>(aq B3.lens hsh) e.symm,fun e=>(aq L7 hsh) e.symm⟩
     refine vv (K:=K) (a:=a) (xs:=rs) (fun j H'=>aR H3 H'/\∃ yH,H' sh=some (.lst yH)/\yH.length<=j/\bT mP (fun b=>H1 b=none/\b ≠ sh) H' yH (((c9 y i).take j).filter fun r=>Fk.lessBits (vZ y i) (bits y r) != 0)) ⟨aJ hsh,[],ai,Nat.zero_le _,bT.nil⟩ (fun j H' _ ⟨sm,_⟩=>bM.of (sm _ _ Oc)) ?_ ?_
     . rintro j x H4 Hv ⟨s4,yH,h2,QX,R2⟩
       have hj:j < rs.length:=(List.getElem?_eq_some_iff.mp Hv).1
       obtain ⟨r,hr⟩:∃ r,(c9 y i)[j]?=some r:=⟨_,List.getElem?_eq_getElem (by omega)⟩
       obtain ⟨pa,rfl,Q9,hpa⟩:=RR.at_ j x r Hv hr
       have QA:=kp _ _ Q9 hpa
       have QB:=s4 _ _ QA
       have B4:=B3.same s4
       obtain ⟨dx,eb⟩:=B4.obj
       refine ⟨rfl,_,rfl,q,dx,_,rfl,eb,rfl,_,rfl,_,rfl,?_⟩
       refine ⟨g,pa,r,z,y,D,rfl,M.same (s3.trans s4),gy,QB,sub r (List.mem_of_getElem? hr),fun H5 s5=>?_⟩
       refine ⟨q,lk,ll,_,_,bits y r,rfl,B4.same s5,k0,_,rfl,?_⟩
       rw [take_snoc hr,List.filter_append]
       cases hc:Fk.lessBits (vZ y i) (bits y r) != 0 with
       | false=>
         have hc':(Fk.lessBits (vZ y i) (bits y r)==0)=true:=by simpa using hc
         rw [hc']
         refine yc ⟨s4.trans s5,yH,s5 _ _ h2,by omega,?_⟩
         rw [List.filter_cons_of_neg (by rw [hc];exact Bool.false_ne_true),List.filter_nil,List.append_nil]
         exact R2.stay Bb fun b o _ h=>s5 _ _ h
       | true=>
         have hc':(Fk.lessBits (vZ y i) (bits y r)==0)=false:=by simpa using hc
         rw [hc']
         refine yd ⟨_,rfl,yH,s5 _ _ h2,by rw [sizeLine_eq];omega,fun b o e=>by rw [ak (aq e hsh)];exact s5 _ _ (s4 b o e),yH++[.ref pa],ai,by simp;omega,?_⟩
         rw [List.filter_cons_of_pos (p:=fun r=>Fk.lessBits (vZ y i) (bits y r) != 0) hc,List.filter_nil]
         refine ((R2.stay Bb fun b o _ h=>s5 _ _ h).snoc ⟨pa,rfl,⟨Q9,aq QA hsh⟩,s5 _ _ QB⟩).stay Bb fun b o d h=>?_
         rw [ak d.2]
         exact h
     . rintro H4 ⟨s4,yH,h2,QX,R2⟩
       rw [List.take_of_length_le (by omega)] at R2
       have Tg:=R2.len
       refine ⟨_,rfl,sh,rfl,⟨_,bM.of h2⟩,?_⟩
       have b3:=Ff n9 i
       refine kE (K:=K) (a:=sh) (xs:=yH) (fun j σ H'=>∃ v5 ls',σ=[some (.ref g),some (.ref q),some (.ref lf),some (.ref a),some (.ref sh),v5]/\aR H H'/\(∀ b o,b ≠ lk->b ≠ ll->H4 b=some o->H' b=some o)/\qY t H' q lk ll (JM.span (vZ y i) (((xX y i).take j).map (bits y))) ls'/\ls'.length=(JM.span (vZ y i) (((xX y i).take j).map (bits y))).length)
         ⟨v5,ls,rfl,s3.trans s4,fun b o _ _ e=>e,B3.same s4,UD⟩ (fun j σ H' _ ⟨_,_,_,_,kp,_⟩=>bM.of (kp _ _ Ma.1 Ma.2.1 h2)) ?_ ?_
       . rintro j x σ H5 Hv ⟨v5,UE,rfl,s5,OD,B5,QZ⟩
         have hj:j < yH.length:=(List.getElem?_eq_some_iff.mp Hv).1
         obtain ⟨r,hr⟩:∃ r,(xX y i)[j]?=some r:=⟨_,List.getElem?_eq_getElem (by show j < (xX y i).length;exact Tg ▸ hj)⟩
         obtain ⟨pa,rfl,Q9,hpa⟩:=R2.at_ j x r Hv hr
         have QC:=OD _ _ (nk _ Q9.1).1 (nk _ Q9.1).2.1 hpa
         obtain ⟨dx,eb⟩:=B5.obj
         refine ⟨_,rfl,q,dx,_,rfl,eb,rfl,_,rfl,_,rfl,?_⟩
         refine ⟨g,pa,r,z,y,D,rfl,M.same s5,gy,QC,sub r (List.mem_filter.mp (List.mem_of_getElem? hr)).1,fun H6 s6=>?_⟩
         refine ⟨_,rfl,pa,_,rfl,.inl (bM.of (s6 _ _ QC)),?_⟩
         have lb:=span_len (((xX y i).take j).map (bits y)) (vZ y i)
         rw [List.length_map] at lb
         have tj:((xX y i).take j).length<=(xX y i).length:=List.length_take_le' j _
         refine ⟨q,lk,ll,_,_,bits y r,r.length,by rw [qf];rfl,B5.same s6,Fg y i _,by omega,by omega,fun H7 fr B7=>?_⟩
         have es:JM.span (vZ y i) (((xX y i).take (j+1)).map (bits y))=if Fk.lessBits (JM.span (vZ y i) (((xX y i).take j).map (bits y))) (bits y r)=0 then JM.span (vZ y i) (((xX y i).take j).map (bits y)) else JM.span (vZ y i) (((xX y i).take j).map (bits y))++[Fk.lessBits (JM.span (vZ y i) (((xX y i).take j).map (bits y))) (bits y r)]:=by
           rw [take_snoc hr,List.map_append,JM.CT]
           rfl
         rw [<- es] at B7
         refine ⟨_,_,rfl,fun b o e=>fr b o (aq e fk) (aq e fl) (s6 _ _ (s5 b o e)),fun b o n1 n2 e=>fr b o n1 n2 (s6 _ _ (OD b o n1 n2 e)),B7,?_⟩
         rw [es]
         split<;>simp [QZ]
       . rintro σ H5 ⟨v5,UE,rfl,s5,OD,B5,QZ⟩
         rw [List.take_of_length_le (by show (xX y i).length<=yH.length;exact Nat.le_of_eq Tg.symm),JY] at B5 QZ
         have JC:=OD _ _ QY.1 QY.2 (s4 _ _ L7)
         have WI:=OD _ _ Ma.1 Ma.2.1 h2
         have rfl':=RF.len
         have b4:=LZ n9 hm'
         refine ⟨_,rfl,.inl ⟨rfl,_,bM.of JC⟩,_,rfl,lf,sh,_,_,rfl,rfl,JC,WI,?_,?_⟩
         . have:yH.length=(xX y i).length:=Tg
           rw [sizeLine_eq]
           omega
         have st:∀ b o,b ≠ lf->H5 b=some o->upd H5 lf (.lst (rs'++yH)) b=some o:=fun b o n e=>by rw [ak n];exact e
         have kp':∀ b o,H1 b=none->H4 b=some o->upd H5 lf (.lst (rs'++yH)) b=some o:=fun b o n e=>st b o (nk b n).2.2 (OD _ _ (nk b n).1 (nk b n).2.1 e)
         refine ⟨_,_,_,UE,rs'++yH,rfl,fun b o e=>st b o (aq e WG) (s5 b o e),fun b o n e=>kp' b o n (s4 _ _ (kp b o n e)),?_,QZ,ai,?_⟩
         . exact ⟨let ⟨dx,e⟩:=B5.obj;⟨dx,st _ _ (fun z=>by rw [z,JC] at e;cases e) e⟩,st _ _ (fun z=>QY.1 z.symm) B5.kept,st _ _ (fun z=>QY.2 z.symm) B5.lens,B5.ne⟩
         . rw [List.range_succ,List.flatMap_append,List.flatMap_singleton]
           exact (RF.stay Bb fun b o d h=>kp' b o d (s4 _ _ h)).app ((R2.mono Bb fun b h=>h.1).stay Bb fun b o d h=>kp' b o d h)
   . rintro σ H3 ⟨v3,v4,v5,ls,rs',rfl,s3,kp,B3,UD,L7,RF⟩
     rw [Q8,<- Hh hm0 hm] at RF
     exact ⟨_,rfl,k H3 lf rs' _ L7 RF⟩
end
end MP
namespace JM
open Fk
variable {M:Mol}
end JM
namespace JM
open Fk
theorem Hj {m b:Bytes} {y:Bytes×Nat} (h:mark m b=.ok y):y=(b.drop m.length,m.length):=by
 unfold mark at h
 cases q:(List.range m.length).find? fun i=>b[i]? != m[i]? with
 | some i=>rw [q] at h;cases h
 | none=>rw [q] at h;cases h;rfl
theorem Hl {g:Nat->Bool} {b:Bytes} {p:Nat} {k:Nat} {y:Nat×Bytes×Nat} (h:numIn 1 g (b.drop k) p=.ok y):y.1=(b.getD k 0).toNat:=by
 obtain ⟨h1,_,h3,_⟩:=aX h
 rw [h3]
 have hl:k < b.length:=by
   rw [List.length_drop] at h1
   omega
 rw [List.drop_eq_getElem_cons hl,List.take_succ_cons,List.take_zero,zM,List.getD,List.getElem?_eq_getElem hl]
 rfl
structure Th (b:Bytes) (M:Mol):Prop where
 n:M.n=(b.getD 4 0).toNat
 handed:∀ v,v < M.n->(M.atom v).hand ≠ 0->M.handed v=true
 sided:∀ j x,M.bonds[j]?=some x->x.side ≠ 0->M.sided j=true
theorem zz:∀ {k:Nat} {b:Bytes} {p:Nat} {y:List Atom×Bytes×Nat},atomsIn k b p=.ok y->y.1.length=k
 | 0,b,p,y,h=>by
   cases h
   rfl
 | k+1,b,p,y,h=>by
   unfold atomsIn at h
   obtain ⟨c,_,h⟩:=aI h
   obtain ⟨e,_,h⟩:=aI h
   obtain ⟨i,_,h⟩:=aI h
   obtain ⟨q,_,h⟩:=aI h
   obtain ⟨hy,_,h⟩:=aI h
   obtain ⟨l,hl,h⟩:=aI h
   cases h
   simp [zz hl]
theorem Eb {b:Bytes} {M:Mol} (h:judgeMol b=.ok M):Th b M:=by
 unfold judgeMol at h
 obtain ⟨m,hm,h1⟩:=aI h
 obtain ⟨n,hn,h2⟩:=aI h1
 obtain ⟨k,hk,h3⟩:=aI h2
 obtain ⟨x,hx,h4⟩:=aI h3
 obtain ⟨y,hy,h5⟩:=aI h4
 obtain ⟨_,_,h6⟩:=aI h5
 clear h h1 h2 h3 h4 h5
 have h:=h6
 clear h6
 rw [Hj hm] at hn
 have n4:=Hl hn
 have xo:=zz hx
 simp only at h
 split at h
 . cases h
 . rename_i f1
   split at h
   . cases h
   . rename_i f2
     cases h
     rw [List.find?_eq_none] at f1 f2
     refine ⟨?_,fun v hv ho=>?_,fun j z hz ho=>?_⟩
     . show x.1.length=_
       rw [xo,n4]
       rfl
     . have:=f1 v (List.mem_range.mpr hv)
       have e:((⟨x.1,y.1⟩:Mol).atom v).hand != 0:=bne_iff_ne.mpr ho
       simp only [e,Bool.true_and,Bool.not_eq_true',Bool.not_eq_false] at this
       exact this
     . have hz':y.1[j]?=some z:=hz
       have:=f2 j (List.mem_range.mpr (List.getElem?_eq_some_iff.mp hz').1)
       have e:(((⟨x.1,y.1⟩:Mol).bonds[j]?.map Bond.side).getD 0 != 0)=true:=by
         rw [hz]
         exact bne_iff_ne.mpr ho
       rw [e] at this
       simp only [Bool.true_and,Bool.not_eq_true',Bool.not_eq_false] at this
       exact this
end JM
namespace MP
open PySem PySem.Spec PyProof.Rows L2
open XL (dz)
open Fk (Fault Bytes numIn need andThen Atom Bond Mol PAtom PBond Part)
open JM (aP az gF cJ)
theorem Mb {B:Bytes} {M:Mol} {y:aP} (hj:Fk.judgeMol B=.ok M) (e:M=az y) (h:(B.getD 4 0).toNat<=9):y.1.length<=9:=by
 have:=(JM.Eb hj).n
 rw [e,o7] at this
 omega
theorem Ho {y:aP} (g:g9 y) (n9:y.1.length<=9):∀ f ∈ (az y).shorts,f.length<=1000:=fun f hf=>by
 have hm:f ∈ (az y).ringRows:=(List.mem_filter.mp hf).1
 have c:=(JM.qz g.good f).mp hm
 have:=JM.iP (az y).n f c.QW.nd fun x hx=>by
   obtain ⟨k,z,hk,hz,_⟩:=JM.LG g.good hm hx
   have:=JM.mO g.good (JM.CP hk)
   omega
 rw [o7] at this
 omega
def CV (K:PySem.W.Frag):Sp:=fun vs H Q _=>∃ (n:Nat) (a:Addr) (B:Bytes),vs=[.int (n:Int),.ref a]/\qV K H a B/\B.length<=6000/\(B.getD 4 0).toNat<=9/\(B.getD 5 0).toNat<=12/\∀ H' l,H' l=some (.lst (vI (uu B fun M=>rJ n M.shorts)))->Q (.ref l) H'
section
variable {P:Program} {w:World} {K:PySem.W.Frag} {mg:Str->Option Value} {base:Heap} {t:Ad}
theorem xV:aL ["k","molecule","given","fault"] ["k","molecule"] (aE zO):=⟨rfl,rfl,rfl,by decide +kernel,rfl,by decide +kernel,by decide +kernel⟩
theorem Ka (T:Txt K mg t):bB P w K mg base lS 11 t.f_short t.qt ["k","molecule"] (CV K):=by
 have GR:=@JL P w K mg base t T
 have GA:=@Q4 P w K mg base t T
 have GB:=@Hi P w K mg base t T
 have GO:=@LJ P w K mg base t T
 obtain ⟨OA,g1⟩:=T.sA
 refine T.qu.ok xV (fun vs H Q E h=>?_) (fun cdv A outer s H vs Q E hr h=>?_)
 . obtain ⟨n,a,B,rfl,_⟩:=h
   rfl
 . obtain ⟨n,a,B,rfl,hB,hlen,nine,few,k⟩:=h
   have hr1:cK 1 _:=hr.mono (by decide)
   have hr2:cK 2 _:=hr.mono (by decide)
   have Gw:cK 3 _:=hr.mono (by decide)
   let E1:XK:=fun cls d H'=>cls=.ref t.aF/\∃ (dx:Addr) (r p:Int),d=some dx/\qw H' dx 0 r p/\∀ H'' l,H'' l=some (.lst ([-5,0,r,p].map V.int))->Q (.ref l) H''
   refine ⟨_,au (N4 (E:=E1) (Qr:=Q) (i:=3) ⟨rfl,rfl⟩ rfl xV.nd T.eZ rfl T.pH rfl rfl rfl
       (fun pn Z c=>aB (aQ (i:=2) xV.nd rfl (Or.inl rfl) (bE GR hr rfl T.nY T.eE.kp T.nR .nil c (af (pv 1) (af (b5 rfl g1 (v:=.int 0) ⟨_,rfl⟩) ay)))))
       (fun ea=>aB (bA (Iz GA ⟨hr1.dp,hr1.un⟩ rfl T.pG T.fN.kp T.pA (af (pv 3) ay)))) ?_)
     (aB (bA (bE GO hr2 rfl T.oj T.eK.kp T.nV .nil cB (af (pv 0) (af (bE GB Gw rfl T.qR T.gB.kp T.qQ .nil cB (af (pv 2) ay)) ay))))),?_⟩
   . rintro C' dx H1 ⟨rfl,dx',r,p,e,hf,k'⟩
     cases e
     refine ⟨rfl,fun ea WJ=>?_⟩
     refine ⟨_,rfl,ea,dx,0,r,p,rfl,ai,?_,k'⟩
     show upd H1 ea _ dx=_
     rw [ak (aq hf WJ)]
     exact hf
   . refine ⟨fun v H' q=>q,?_⟩
     refine ⟨_,rfl,a,0,B,rfl,hB,hlen,few,?_⟩
     unfold uu at k
     cases hj:Fk.judgeMol B with
     | error f=>
       rw [hj] at k
       exact fun H' dx hf=>⟨rfl,dx,_,_,rfl,hf,k⟩
     | ok Mo=>
       rw [hj] at k
       intro H' g z y M gy e sm
       simp only at k
       have n9:=Mb hj e nine
       rw [e] at k
       refine ⟨_,rfl,_,rfl,g,z,y,_,rfl,M,gy,n9,fun H2 l rs D' hl R=>?_⟩
       exact ⟨n,l,rs,_,D',rfl,hl,R,Ho gy n9,k⟩
end
theorem xW {k:Int} {l:List Int} (h0:0<=k) (h:∀ z ∈ l,0<=z/\z<=255):PartNeutral.callOf [[10,k],l]=some (.short k.toNat (bytesOf l)):=by
 show (PartNeutral.nat k).bind (fun n=>(PartNeutral.bytes l).bind (fun b=>some (FkP.Call.short n b)))=_
 rw [DV l h,JQ h0]
 rfl
theorem Hq (k:Int) (l:List Int) (h0:0<=k) (h:∀ z ∈ l,0<=z/\z<=255):PyYqfkba.short k l=uu (bytesOf l) fun M=>rJ k.toNat M.shorts:=by
 unfold PyYqfkba.short
 rw [Tf (xW h0 h)]
 refine (JX _ _).trans ?_
 congr 1
 funext M
 exact JP _ _
theorem Hr (k:Int) (l:List Int) (h0:0<=k) (h:∀ z ∈ l,0<=z/\z<=255) (ha:PyYqfkba.short_asked k l=true):((bytesOf l).getD 4 0).toNat<=9/\((bytesOf l).getD 5 0).toNat<=12:=Oz (Hg (xW h0 h) ha)
end MP
structure PySem.W.Fast:Prop where
 (tw1022249732752258653 tw6846037954208615413 tw1908270190699340252 tw5572872501438848747 tw9674090189262991369 tw14149913760360988384 tw5236680969437515613 tw10259559202051975277 tw7075281494435969359 tw10571928200263614209 tw4902407022777079296 tw4450843603842638073 tw11769608102104735447 tw9926594861911187889 tw7893325521439325457 tw8520570548777435330 tw15672903175299170505 tw11237839220012792698 tw15429504028782023001 tw5063558316161021406 tw6934699939949901328 tw14389581961883268184 tw14275127508392666038 tw7707426501052744964 tw2927169259805027824 tw4233301111630160528 tw4162254801501072976 tw16998078586895846525 tw14360885491030018167 tw12482346616643412472 tw4622237390273488701 tw7358501167182543330 tw16479051054723144435 tw6291525531074790663 tw12523509549509822188 tw17271360377579532199 tw8138398144763776307 tw4797963300866790839 tw6493199562607826086 tw476586035072314246 tw12237455524242012790 tw13201625572170349051 tw17119570575043161937 tw10315946602687672111 tw5239713261494421669 tw502363359642115098 tw3137465495286502195 tw16825918805609936313 tw16597979150999049648 tw14931004237454433943 tw11101854724448707794 tw7913295502015839170 tw11012352564427686995 tw3302049752386174627 tw14402755539735076998 tw8317347297274337440 tw5037846166078665626 tw4685751934963179715 tw5705358150720820823 tw5642479209792292959 tw1535525133297395874 tw12690039400600209535:True)
open PySem PySem.W PyProof.Rows
set_option maxRecDepth 100000 in
set_option maxHeartbeats 0 in
theorem PySem.Challenge.cw_moleculeparts_s10_short_holds : PySem.Challenge.rw_moleculeparts_s10_short.Holds := by
 w_on;k_headS;(case hw=>exact ⟨[.int 0,.list []],by decide +kernel,by decide +kernel⟩)
 k_fillS
 refine L2.D9 (r:=PySem.Challenge.rw_moleculeparts_s10_short) (k:=11) (CX:=L2.lS) (ps:=["k","molecule"]) (sp:=MP.CV) (by decide +kernel) rfl rfl ⟨rfl,by decide,by decide⟩ (fun w h Y=>PySem.W.kIn_of Y) ?F ?S (fun _ _ _ _ z=>z)
 case F=>
   intro w mg fa h Y KX G hmg
   suffices TT:∃ (f:Addr) (t:MP.Ad),t.f_short=f/\MP.Txt _ mg t by
     obtain ⟨f,t,e,T⟩:=TT
     have e2:=hmg.symm.trans T.EA
     cases e2
     refine ⟨t.qt,fun s us hu=>?_,fun base _ _=>MP.Ka T⟩
     obtain ⟨oc,od,kV,doc,pm,an,cdv,ct,osl,ed,lk,hcd⟩:=T.qu.ex
     rw [ed]
     exact match us,hu with | [_,_],_=>.of_eq rfl
   refine' ⟨_,?TT⟩
   rotate_left
   refine' MP.N5 KX G ?_ ?_ ?_ ?_ ?_ ?_ ?_ ?_ ?_ ?_ ?_ ?_ ?_ ?_ ?_ ?_ ?_ ?_ ?_ ?_ ?_ ?_ ?_ ?_ ?_ ?_ ?_ ?_ ?_ ?_ ?_ ?_ ?_ ?_ ?_ ?_ ?_ ?_ ?_ ?_ ?_ ?_ ?_ ?_ ?_ ?_ ?_ ?_ ?_ ?_ ?_ ?_ ?_ ?_ ?_ ?_ ?_ ?_ ?_ ?_ ?_ ?_ ?_ ?_ ?_ ?_ ?_ ?_ ?_ ?_ ?_ ?_ ?_ ?_ ?_ ?_ ?_ ?_ ?_ ?_ ?_ ?_ ?_ ?_ ?_ ?_ ?_ ?_ ?_ ?_ ?_ ?_ ?_ ?_ ?_ ?_ ?_ ?_ ?_ ?_ ?_ ?_ ?_ ?_ ?_ ?_ ?_ ?_ ?_ ?_ ?_ ?_ ?_ ?_ ?_ ?_ ?_ ?_ ?_ ?_ ?_ ?_ ?_ ?_ ?_ ?_ ?_ ?_ ?_ ?_ ?_ ?_ ?_ ?_ ?_ ?_ ?_ ?_ ?_ ?_ ?_ ?_ ?_ ?_ ?_ ?_ ?_ ?_ ?_ ?_ ?_ ?_ ?_ ?_ ?_ ?_ ?_ ?_ ?_ ?_ ?_ ?_ ?_ ?_ ?_ ?_ ?_ ?_ ?_ ?_ ?_ ?_ ?_ ?_ ?_ ?_ ?_ ?_ ?_ ?_ ?_ ?_ ?_ ?_ ?_ ?_ ?_ ?_ ?_ ?_ ?_ ?_ ?_ ?_ ?_ ?_ ?_ ?_ ?_ ?_ ?_ ?_ ?_ ?_ ?_ ?_ ?_ ?_ ?_ ?_ ?_ ?_ ?_ ?_ ?_ ?_ ?_ ?_ ?_ ?_ ?_ ?_ ?_ ?_ ?_ ?_ ?_ ?_ ?_ ?_ ?_ ?_ ?nB
   all_goals first | k_is | (apply MP.bq.mk<;>k_is) | skip
   (case nB=>(rw [<- Array.all_toList];rfl))
 case S=>
   intro K H xs a hO hwi Ti hx
   cases hx with
   | cons h1 h2=>
     cases h2 with
     | cons h3 h4=>
       cases h4
       cases h1 with
       | int i=>
         cases h3 with
         | lst hs ha=>
           have e:=L2.E4 a.2.1 _ ha
           subst e
           have q:(Codec.inInt 0 4294967295 a.1&&((Codec.inLen 0 6000 a.2.1&&a.2.1.all (Codec.inInt 0 255))&&true))=true:=hwi
           rw [Bool.and_eq_true,Bool.and_eq_true,Bool.and_eq_true,List.all_eq_true] at q
           have hk:0<=a.1:=(Codec.inInt_iff.mp q.1).1
           have Mc:∀ z ∈ a.2.1,0<=z/\z<=255:=fun z hz=>Codec.inInt_iff.mp (q.2.1.2 z hz)
           have hlen:=(Codec.inNat_iff.mp q.2.1.1).2
           rw [MP.M6 a.2.1 Mc] at hs
           have few:=MP.Hr a.1 a.2.1 hk Mc Ti
           refine ⟨a.1.toNat,_,MP.bytesOf a.2.1,by rw [Int.toNat_of_nonneg hk],MP.Oj hO hs,by rw [MP.CN];exact hlen,few.1,few.2,fun H' p hp=>?_⟩
           have due:Codec.app PySem.Challenge.rw_moleculeparts_s10_short.args PySem.Challenge.rw_moleculeparts_s10_short.f a=MP.uu (MP.bytesOf a.2.1) fun M=>MP.rJ a.1.toNat M.shorts:=MP.Hq a.1 a.2.1 hk Mc
           rw [due]
           exact .lst (L2.bM.of hp) (L2.E3 _)
#print axioms PySem.Challenge.cw_moleculeparts_s10_short_holds
