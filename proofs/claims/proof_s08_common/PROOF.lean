import PyProof.Rows.All
import Wide.All
import OpenK.AllK
import Wide.FinOn
import PyProof.EqAt
import PyProof.EqKinds
import PyProof.TupleCall
import KE.BitLaws
import Open.SpecLaws
import KE.OsHead
import KE.OsGo
import PyProof.StationsW
import PyProof.RulesAs
import PyProof.PassesOwn
import PyProof.ExcClass
import PyProof.InstStoreFacts
import PyProof.InstLoad
import PyProof.ExcArgsOwn
import PyProof.ExcAttrAll.Exception
import PyProof.ExcBaseAll.Exception
import PyProof.ExcInit
import KE.KDictLaws
import KE.KDictList
import KE.KMinBuiltin
import PyProof.Rows.CallKwBuiltin
import PySem.Challenge.RW_moleculeparts_s08_common
set_option Elab.async false
set_option linter.all false
set_option maxRecDepth 100000
set_option maxHeartbeats 4000000
abbrev Zqq:=PySem.W.Frag
namespace L2
open PySem PySem.Spec PyProof.Rows
abbrev Key:=Sum Int Str
def sQ:Key->Value->Bool
 | .inl k,v=>Value.isInt k v
 | .inr x,v=>Value.isStrOf x v
def TH (w:World):Key->Int
 | .inl k=>hashInt k
 | .inr x=>hashStr w x
theorem dw:∀ {k:Key} {v:Value},sQ k v=true->(∃ i t,k=Sum.inl i/\v=Value.int i t)\/(∃ x t,k=Sum.inr x/\v=Value.str x t)
 | .inl i,v,h=>by
  obtain ⟨t,e⟩:=Value.isInt_shape (k:=i) (v:=v) h
  exact .inl ⟨i,t,rfl,e⟩
 | .inr x,v,h=>by
  obtain ⟨t,e⟩:=Value.isStrOf_shape (x:=x) (v:=v) h
  exact .inr ⟨x,t,rfl,e⟩
theorem Gy (i:Int) (t:Tok):sQ (.inl i) (.int i t)=true:=by simp [sQ,Value.isInt]
theorem Gz (x:Str) (t:Tok):sQ (.inr x) (.str x t)=true:=by simp [sQ,Value.isStrOf]
theorem NX (a b:Int):decide ((Sum.inl a:Key)=Sum.inl b)=(a==b):=by
 by_cases e:a=b
 . subst e;simp
 . have h:¬ (Sum.inl a:Key)=Sum.inl b:=fun q=>e (Sum.inl.inj q)
   rw [decide_eq_false h];exact (beq_eq_false_iff_ne.mpr e).symm
theorem NY (a b:Str):decide ((Sum.inr a:Key)=Sum.inr b)=decide (a=b):=by
 by_cases e:a=b
 . subst e;simp
 . have h:¬ (Sum.inr a:Key)=Sum.inr b:=fun q=>e (Sum.inr.inj q)
   rw [decide_eq_false h,decide_eq_false e]
theorem NZ (a:Int) (b:Str):decide ((Sum.inl a:Key)=Sum.inr b)=false:=decide_eq_false (fun q=>nomatch q)
theorem Oa (a:Str) (b:Int):decide ((Sum.inr a:Key)=Sum.inl b)=false:=decide_eq_false (fun q=>nomatch q)
def dI (prog:Program) (w:World):PySem.KeyKind prog w Key where
 is:=sQ
 hash:=TH w
 inj:=fun v a b ha hb=>by
   rcases dw ha with ⟨i,t,rfl,rfl⟩ | ⟨x,t,rfl,rfl⟩
   . rcases dw hb with ⟨j,u,rfl,e⟩ | ⟨y,u,rfl,e⟩
     . injection e with e1 _;rw [e1]
     . exact nomatch e
   . rcases dw hb with ⟨j,u,rfl,e⟩ | ⟨y,u,rfl,e⟩
     . exact nomatch e
     . injection e with e1 _;rw [e1]
 byValue:=fun k v h=>by
   rcases dw h with ⟨i,t,rfl,rfl⟩ | ⟨x,t,rfl,rfl⟩<;>rfl
 pyHash:=fun hv h=>by
   rcases dw hv with ⟨i,t,rfl,rfl⟩ | ⟨x,t,rfl,rfl⟩
   . exact wpAny_pyHash_int h
   . exact wpAny_pyHash_str h
 eqBool:=fun hu hv h=>by
   rcases dw hu with ⟨i,t,rfl,rfl⟩ | ⟨x,t,rfl,rfl⟩
   . rcases dw hv with ⟨j,u,rfl,rfl⟩ | ⟨y,u,rfl,rfl⟩
     . rw [NX] at h;exact wpAny_eqBool_int h
     . rw [NZ] at h;exact SeqAt.EqAt.int_str i t y u _ _ _ _ h
   . rcases dw hv with ⟨j,u,rfl,rfl⟩ | ⟨y,u,rfl,rfl⟩
     . rw [Oa] at h;exact SeqAt.EqAt.str_int x t j u _ _ _ _ h
     . rw [NY] at h;exact wpAny_eqBool_str h
 «strs»:=fun k x t v h=>by
   rcases dw h with ⟨i,u,rfl,e⟩ | ⟨y,u,rfl,e⟩
   . exact nomatch e
   . injection e with e1 _
     subst e1
     cases v<;>rfl
theorem Cd (prog:Program) (w:World) (i:Int) (t:Tok):(dI prog w).is (.inl i) (.int i t)=true:=Gy i t
theorem Ce (prog:Program) (w:World) (x:Str) (t:Tok):(dI prog w).is (.inr x) (.str x t)=true:=Gz x t
end L2
namespace L2
open PySem PySem.Spec PyProof.Rows
inductive V where
 | non | bl (b:Bool) | int (i:Int) | str (x:Str) | Cb (b:Array UInt8) | Nr (b:UInt64) | ref (a:Addr) | ty (n:String)
 deriving DecidableEq
def RelV:V->Value->Prop
 | .non,u=>u=Value.none
 | .bl b,u=>u=Value.bool b
 | .int i,u=>∃ t,u=Value.int i t
 | .str x,u=>∃ t,u=Value.str x t
 | .Cb b,u=>∃ t,u=Value.bytes b t
 | .Nr b,u=>∃ t,u=Value.float b t
 | .ref a,u=>u=Value.ref a
 | .ty n,u=>u=Value.type n
abbrev Vals:List V->List Value->Prop:=Paired RelV
theorem Vals.length {xs:List V} {us:List Value} (r:Vals xs us):xs.length=us.length:=Paired.length r
theorem Vals.get:∀ {xs:List V} {us:List Value} {i:Nat} {x:V},Vals xs us->xs[i]?=some x->∃ u,us[i]?=some u/\RelV x u
 | _,_,_,_,.nil,e=>by simp at e
 | _,_,0,_,.cons r _,e=>by simp at e;subst e;exact ⟨_,rfl,r⟩
 | _,_,i+1,x,.cons _ t,e=>by
  obtain ⟨u,h1,h2⟩:=Vals.get (i:=i) (x:=x) t (by simpa using e)
  exact ⟨u,by simpa using h1,h2⟩
theorem Vals.set {x:V} {u:Value} (r:RelV x u):∀ {xs:List V} {us:List Value} (i:Nat),Vals xs us->Vals (xs.set i x) (us.set i u)
 | _,_,_,.nil=>.nil
 | _,_,0,.cons _ t=>.cons r t
 | _,_,i+1,.cons q t=>.cons q (Vals.set r i t)
theorem Vals.append:∀ {xs ys:List V} {us ws:List Value},Vals xs us->Vals ys ws->Vals (xs++ys) (us++ws)
 | _,_,_,_,.nil,s=>s
 | _,_,_,_,.cons r t,s=>.cons r (Vals.append t s)
theorem Vals.take:∀ {xs:List V} {us:List Value} (n:Nat),Vals xs us->Vals (xs.take n) (us.take n)
 | _,_,0,_=>.nil
 | _,_,_+1,.nil=>.nil
 | _,_,n+1,.cons r t=>.cons r (Vals.take n t)
theorem Vals.drop:∀ {xs:List V} {us:List Value} (n:Nat),Vals xs us->Vals (xs.drop n) (us.drop n)
 | _,_,0,r=>r
 | _,_,_+1,.nil=>.nil
 | _,_,n+1,.cons _ t=>Vals.drop n t
def lX:Option V->Option Value->Prop
 | some v,some u=>RelV v u
 | none,none=>True
 | _,_=>False
def KV {κ:Type}:List (κ×V)->List (κ×Value)->Prop:=Paired fun (p:κ×V) (q:κ×Value)=>p.1=q.1/\RelV p.2 q.2
def kV:Key->V
 | .inl i=>.int i
 | .inr x=>.str x
inductive HO where
 | lst (xs:List V)
 | tup (xs:List V)
 | dK (kvs:List (Key×V)) | dT (kvs:List (List Key×V))
 | set (S:Int->Bool) (n:Nat)
 | ins (C dx:Addr) (fs:List (Str×V))
 | own (x:Addr)
 | xd (fs:List (Str×V))
 | met (f x:Addr)
 | Nt (lo hi:Int)
 | jB (o:Obj) (u:HO)
 | Nu (ps:Array Value)
 | ext (φ:Heap->Prop)
abbrev Hp:=Addr->Option HO
def upd (H:Hp) (a:Addr) (o:HO):Hp:=fun b=>if b=a then some o else H b
theorem ai {H:Hp} {a:Addr} {o:HO}:upd H a o a=some o:=by unfold upd;rw [if_pos rfl]
theorem ak {H:Hp} {a b:Addr} {o:HO} (h:b ≠ a):upd H a o b=H b:=by unfold upd;rw [if_neg h]
theorem kY {H:Hp} {a:Addr} {o u:HO}:upd (upd H a o) a u=upd H a u:=by
 funext b;unfold upd;split<;>rfl
theorem kM {H:Hp} {a b:Addr} {o u:HO} (h:H a=some o) (h':H b=some u) (d:o ≠ u):a ≠ b:=by
 intro e;subst e;rw [h] at h';exact d (Option.some.inj h')
theorem au {H:Hp} {a b:Addr} {o:HO} (h:H a=some o) (h':H b=none):a ≠ b:=by
 intro e;subst e;rw [h] at h';cases h'
section
variable (P:Program) (w:World)
def bZ (H:Hp) (h:Heap) (a:Addr):HO->Prop
 | .lst xs=>xs.length<=sizeLine/\∃ (its:List Value) (n:Nat),Vals xs its/\h.get? a=some { cls:=.type "list",data:=.seq its.toArray n }
 | .tup xs=>xs.length<=sizeLine/\∃ its:List Value,Vals xs its/\IsTup h a its.toArray
 | .dK kvs=>kvs.length<=sizeLine/\(a==sysModules)=false/\∃ vs,KV kvs vs/\h.DictOf (dI P w) a vs
 | .dT kvs=>kvs.length<=sizeLine/\(a==sysModules)=false/\∃ xs:List (List Key×Addr×Value),
     Paired (fun (p:List Key×V) (q:List Key×Addr×Value)=>p.1=q.1/\H q.2.1=some (.tup (p.1.map kV))/\RelV p.2 q.2.2) kvs xs /\
     ∃ o es ep,h.get? a=some o/\o.ExactDict/\o.data=.dict es ep/\es.toList=xs.map (entryOfKey (tupleKind (dI P w)))/\(xs.map (·.1)).Nodup
 | .set S n=>h.SetOf (intKind P w) a S n
 | .ins C dx fs=>H dx=some (.own a)/\fs.length<=1000/\dx ≠ a/\h.get? a=some (PySem.W.instObj C dx) /\
     ∃ mA,h.Ns1 dx mA/\(∀ f,lX (fs.lookup f) (mA f))/\PySem.Within mA (fs.map (·.1))
 | .own _=>∃ o,h.get? a=some o
 | .xd fs=>∃ mA,h.Ns1 a mA/\∀ f,lX (fs.lookup f) (mA f)
 | .Nt lo hi=>∃ t u v,h.get? a=some { cls:=.type "range",data:=.fields #[.int lo t,.int hi u,.int 1 v] }
 | .jB o u=>h.get? a=some o/\bZ H h a u
 | .Nu ps=>h.get? a=some { cls:=.none,data:=.fields ps }
 | .met f x=>h.get? a=some (PySem.W.methodObj (.ref f) (.ref x))
 | .ext φ=>φ h/\(∃ o,h.get? a=some o)/\∀ h1 h2:Heap,φ h1->(∀ o,h1.get? a=some o->h2.get? a=some o)->φ h2
def oB (H:Hp) (h:Heap):Prop:=∀ a o,H a=some o->bZ P w H h a o
end
section
variable {P:Program} {w:World} {H H':Hp} {h h':Heap} {a:Addr} {o:HO}
theorem bZ.lt (x:bZ P w H h a o):a < h.objs.size:=by
 cases o with
 | lst xs=>obtain ⟨_,_,_,_,e⟩:=x;exact Heap.lt_size e
 | tup xs=>obtain ⟨_,_,_,p⟩:=x;exact p.lt
 | dK kvs=>obtain ⟨_,_,_,_,o,_,_,e,_⟩:=x;exact Heap.lt_size e
 | dT kvs=>obtain ⟨_,_,_,_,o,_,_,e,_⟩:=x;exact Heap.lt_size e
 | set S n=>obtain ⟨o,_,_,_,e,_⟩:=x;exact Heap.lt_size e
 | ins C dx fs=>obtain ⟨_,_,_,e,_⟩:=x;exact Heap.lt_size e
 | own y=>obtain ⟨_,e⟩:=x;exact Heap.lt_size e
 | xd fs=>obtain ⟨_,⟨_,_,_,e,_⟩,_⟩:=x;exact Heap.lt_size e
 | Nt lo hi=>obtain ⟨_,_,_,e⟩:=x;exact Heap.lt_size e
 | jB ob u=>obtain ⟨e,_⟩:=x;exact Heap.lt_size e
 | Nu ps=>exact Heap.lt_size (show h.get? a=some _ from x)
 | met f y=>exact Heap.lt_size (show h.get? a=some _ from x)
 | ext φ=>obtain ⟨_,⟨_,e⟩,_⟩:=x;exact Heap.lt_size e
theorem Paired.Ob {α β:Type} {F G:α->β->Prop}:∀ {l₁:List α} {l₂:List β},Paired F l₁ l₂->(∀ a b,F a b->G a b)->Paired G l₁ l₂
 | _,_,.nil,_=>.nil
 | _,_,.cons r t,f=>.cons (f _ _ r) (Paired.Ob t f)
theorem bZ.stay (x:bZ P w H h a o) (k:∀ b u,(b=a\/H b=some (.own a))->h.get? b=some u->h'.get? b=some u)
  (ho:∀ b,H b=some (.own a)->H' b=some (.own a)) (ht:∀ b xs,H b=some (.tup xs)->H' b=some (.tup xs)):bZ P w H' h' a o:=by
 induction o with
 | lst xs=>obtain ⟨z,its,n,r,e⟩:=x;exact ⟨z,its,n,r,k _ _ (.inl rfl) e⟩
 | tup xs=>obtain ⟨z,its,r,ob,e,c⟩:=x;exact ⟨z,its,r,ob,k _ _ (.inl rfl) e,c⟩
 | dK kvs=>obtain ⟨z,y,vs,r,ob,es,ep,e,c⟩:=x;exact ⟨z,y,vs,r,ob,es,ep,k _ _ (.inl rfl) e,c⟩
 | dT kvs=>
  obtain ⟨z,y,xs,r,ob,es,ep,e,c⟩:=x;exact ⟨z,y,xs,Paired.Ob r fun p q z=>⟨z.1,ht _ _ z.2.1,z.2.2⟩,ob,es,ep,k _ _ (.inl rfl) e,c⟩
 | set S n=>obtain ⟨ob,es,ep,t,e,c⟩:=x;exact ⟨ob,es,ep,t,k _ _ (.inl rfl) e,c⟩
 | ins C dx fs=>
  obtain ⟨d,z,ne,e,mA,⟨od,es,ep,e2,c⟩,r⟩:=x;exact ⟨ho _ d,z,ne,k _ _ (.inl rfl) e,mA,⟨od,es,ep,k _ _ (.inr d) e2,c⟩,r⟩
 | own y=>obtain ⟨ob,e⟩:=x;exact ⟨ob,k _ _ (.inl rfl) e⟩
 | xd fs=>obtain ⟨mA,⟨od,es,ep,e,c⟩,r⟩:=x;exact ⟨mA,⟨od,es,ep,k _ _ (.inl rfl) e,c⟩,r⟩
 | Nt lo hi=>obtain ⟨t,u,v,e⟩:=x;exact ⟨t,u,v,k _ _ (.inl rfl) e⟩
 | jB ob u ih=>obtain ⟨e,q⟩:=x;exact ⟨k _ _ (.inl rfl) e,ih q⟩
 | Nu ps=>
  have e:h.get? a=some { cls:=.none,data:=.fields ps }:=x;show h'.get? a=some { cls:=.none,data:=.fields ps };exact k a _ (.inl rfl) e
 | met f y=>
  have e:h.get? a=some (PySem.W.methodObj (.ref f) (.ref y)):=x;show h'.get? a=some (PySem.W.methodObj (.ref f) (.ref y));exact k a _ (.inl rfl) e
 | ext φ=>obtain ⟨p,⟨o,e⟩,st⟩:=x;exact ⟨st _ _ p fun o q=>k _ _ (.inl rfl) q,⟨o,k _ _ (.inl rfl) e⟩,st⟩
theorem oB.lt (x:oB P w H h) (e:H a=some o):a < h.objs.size:=(x a o e).lt
theorem oB.fresh (x:oB P w H h) (e:h.objs.size<=a):H a=none:=by
 cases q:H a with
 | none=>rfl
 | some u=>exact absurd (Nat.lt_of_lt_of_le (x.lt q) e) (Nat.lt_irrefl _)
theorem oB.kept (x:oB P w H h) (k:∀ b u,h.get? b=some u->h'.get? b=some u):oB P w H h':=fun a o e=>
 (x a o e).stay (fun b u _ q=>k b u q) (fun _ q=>q) fun _ _ q=>q
theorem oB.laid (x:oB P w H h) (k:∀ b u,h.get? b=some u->h'.get? b=some u) (hp:h.objs.size<=a) (new:bZ P w (upd H a o) h' a o):oB P w (upd H a o) h':=fun b u e=>by
 have hn:=x.fresh hp
 by_cases hb:b=a
 . subst hb;rw [ai] at e;cases e;exact new
 . rw [ak hb] at e
   exact (x b u e).stay (fun c v _ q=>k c v q) (fun c q=>by rw [ak (au q hn)];exact q) fun c xs q=>by rw [ak (au q hn)];exact q
end
def Rd (H:Hp) (a:Addr) (u:HO):Prop:=H a=some u\/∃ o,H a=some (.jB o u)
theorem Rd.ok {P:Program} {w:World} {H:Hp} {h:Heap} {a:Addr} {u:HO} (r:Rd H a u) (x:oB P w H h):bZ P w H h a u:=by
 rcases r with r | ⟨o,r⟩
 . exact x a u r
 . obtain ⟨_,q⟩:=x a _ r
   exact q
def Nv:Option HO->Prop
 | some (.lst _)=>True
 | some (.dK _)=>True
 | some (.dT _)=>True
 | some (.set _ _)=>True
 | some (.ins _ _ _)=>True
 | some (.ext _)=>True
 | _=>False
section
variable {P:Program} {w:World} {H:Hp} {h h':Heap} {x e:Addr} {o':HO}
theorem oB.write (ok:oB P w H h) (mu:Nv (H x)) (he:e=x\/H e=some (.own x)) (k:∀ b u,b ≠ e->h.get? b=some u->h'.get? b=some u) (Qq:∃ u,h'.get? e=some u)
   (new:bZ P w (upd H x o') h' x o'):oB P w (upd H x o') h':=fun b u q=>by
 have Q6:∀ c y,H c=some (.own y)->c ≠ x:=fun c y r z=>by subst z;rw [r] at mu;exact mu
 have TJ:∀ c xs,H c=some (.tup xs)->c ≠ x:=fun c xs r z=>by subst z;rw [r] at mu;exact mu
 by_cases hb:b=x
 . subst hb;rw [ai] at q;cases q;exact new
 . rw [ak hb] at q
   by_cases Oc:b=e
   . have q':H b=some (.own x):=by
       rcases he with z | z
       . exact absurd (Oc.trans z) hb
       . rw [Oc];exact z
     rw [q] at q';cases q';obtain ⟨v,hv⟩:=Qq;exact ⟨v,by rw [Oc];exact hv⟩
   . refine (ok b u q).stay (fun c v hc r=>k c v ?_ r) (fun c r=>by rw [ak (Q6 c b r)];exact r) fun c xs r=>by rw [ak (TJ c xs r)];exact r
     rcases hc with rfl | hc
     . exact Oc
     . rintro rfl
       rcases he with z | z
       . exact Q6 c b hc z
       . rw [hc] at z;cases z;exact hb rfl
end
structure Un (fs ex:List Addr) (H H':Hp) (h h':Heap):Prop where
 keep:∀ b o,h.get? b=some o->H b=none->b ∉ fs->b ∉ ex->h'.get? b=some o
 slot:∀ b o,h.get? b=some o->H b=none->b ∈ fs->b ∉ ex->∃ sl,h'.get? b=some { o with slots:=sl }
 free:∀ b o,h.get? b=some o->H b=none->b ∉ ex->H' b=none
 there:∀ b o,h.get? b=some o->b ∉ ex->∃ o',h'.get? b=some o'
 tups:∀ b xs,H b=some (.tup xs)->H' b=some (.tup xs)
 rX:∀ b o u,H b=some (.jB o u)->H' b=some (.jB o u)
 uB:∀ b ps,H b=some (.Nu ps)->∃ more,H' b=some (.Nu (ps++more))
section
variable {fs fs' ex ex':List Addr} {H H1 H2:Hp} {h h1 h2 h':Heap} {a x e:Addr} {o:HO}
theorem Un.any (u:Un fs ex H H1 h h1) {b:Addr} {ob:Obj} (q:h.get? b=some ob) (n:H b=none) (hx:b ∉ ex):∃ sl,h1.get? b=some { ob with slots:=sl }:=by
 by_cases hb:b ∈ fs
 . exact u.slot b ob q n hb hx
 . exact ⟨ob.slots,u.keep b ob q n hb hx⟩
theorem Un.kept (k:∀ b u,h.get? b=some u->h'.get? b=some u):Un fs ex H H h h':=
 ⟨fun b ob q _ _ _=>k b ob q,fun b ob q _ _ _=>⟨ob.slots,k b ob q⟩,fun _ _ _ n _=>n,fun b ob q _=>⟨ob,k b ob q⟩,fun _ _ q=>q,fun _ _ _ q=>q,fun _ ps q=>⟨#[],by rw [q];simp⟩⟩
theorem Un.refl:Un fs ex H H h h:=Un.kept fun _ _ q=>q
theorem Un.laid (k:∀ b u,h.get? b=some u->h'.get? b=some u) (hp:h.objs.size<=a) (hn:H a=none):Un fs ex H (upd H a o) h h' where
 keep:=fun b u q _ _ _=>k b u q
 slot:=fun b u q _ _ _=>⟨u.slots,k b u q⟩
 free:=fun b u q n _=>by rw [ak (Nat.ne_of_lt (Nat.lt_of_lt_of_le (Heap.lt_size q) hp))];exact n
 there:=fun b u q _=>⟨u,k b u q⟩
 tups:=fun b xs q=>by rw [ak (au q hn)];exact q
 rX:=fun b u xs q=>by rw [ak (au q hn)];exact q
 uB:=fun b ps q=>⟨#[],by rw [ak (au q hn),q];simp⟩
theorem Un.write (mu:Nv (H x)) (he:e=x\/H e=some (.own x)) (k:∀ b u,b ≠ e->h.get? b=some u->h'.get? b=some u) (Qq:∃ u,h'.get? e=some u):Un fs ex H (upd H x o) h h':=by
 have hx:∀ b,H b=none->b ≠ x:=fun b n z=>by subst z;rw [n] at mu;exact mu
 have hb:∀ b,H b=none->b ≠ e:=fun b n z=>by
   subst z;rcases he with r | r
   . exact hx b n r
   . rw [n] at r;cases r
 have hm:∀ b u,H b=some u->¬ Nv (some u)->b ≠ x:=fun b u q nm z=>by subst z;rw [q] at mu;exact nm mu
 refine ⟨fun b u q n _ _=>k b u (hb b n) q,fun b u q n _ _=>⟨u.slots,k b u (hb b n) q⟩,fun b u q n _=>by rw [ak (hx b n)];exact n,fun b u q _=>?_,
   fun b xs q=>by rw [ak (hm b _ q fun z=>z)];exact q,fun b u xs q=>by rw [ak (hm b _ q fun z=>z)];exact q,fun b ps q=>⟨#[],by rw [ak (hm b _ q fun z=>z),q];simp⟩⟩
 by_cases Oc:b=e
 . subst Oc;exact Qq
 . exact ⟨u,k b u Oc q⟩
end
def SK (h:Heap) (H:Hp):List Addr:=(List.range h.objs.size).filter fun a=>(H a).isSome
def Av (h:Heap) (H:Hp):Heap:=PySem.W.hideAll h (SK h H)
theorem G0 (h:Heap) (H:Hp):(Av h H).objs.size=h.objs.size:=PySem.W.hideAll_size _ _
theorem ID {h:Heap} {H:Hp} {b:Addr} {o:Obj} (e:h.get? b=some o) (n:H b=none):(Av h H).get? b=some o:=
 PySem.W.hideAll_get _ e fun hm=>by
  have q:(H b).isSome=true:=(List.mem_filter.mp hm).2
  rw [n] at q;simp at q
theorem Lw {h:Heap} {H:Hp} {b:Addr} {o:Obj} (e:(Av h H).get? b=some o):h.get? b=some o/\H b=none:=by
 have e':h.get? b=some o:=PySem.W.of_hideAll (SK h H) e;refine ⟨e',?_⟩;cases q:H b with
 | none=>rfl
 | some x=>
  have hm:b ∈ SK h H:=List.mem_filter.mpr ⟨List.mem_range.mpr (Heap.lt_size e'),by simp [q]⟩;have z:(Av h H).get? b=none:=PySem.W.hideAll_none (SK h H) hm;rw [z] at e;cases e
end L2
namespace L2
open PySem PySem.Spec PyProof.Rows
structure Mod (K:Zqq) (mg:Str->Option Value) (base:Heap):Prop where
 kin:K.In base
 glob:base.Ns mainGlobals mg
 blt:∃ mb,base.Ns builtinsNs mb/\∀ x:Str,x ≠ "__name__"->mb x=bootBuiltins x
 nolimit:base.NoLimit
structure Cx where
 prog:Program
 w:World
 K:Zqq
 mg:Str->Option Value
 base:Heap
 A:Around
 N:List Str
 u9:Shared
 Od:Hp
 env:Env
 outer:List Env
 stack:List Env
 ex:List Addr
 fn:Str->Bool
 calm:Bool
 pn:List (Addr×Obj)
 xe:Value->Shared->Prop
def frs (l:List Env):List Addr:=l.filterMap (·.frame)
abbrev Cx.fs (X:Cx):List Addr:=frs X.outer
def Oe (sc:Scope) (x:Str):Prop:=sc.names.lookup x=some .local\/sc.names.lookup x=some .cell\/sc.names.lookup x=some .free
def Loc (sc:Scope) (x:Str):Prop:=sc.names.lookup x=some .local\/sc.names.lookup x=some .cell
def Look (env:Env) (h:Heap) (m:Str->Option Value) (x:Str) (u:Value):Prop:=
 (env.kindOf x=some .local/\m x=some u)\/((env.kindOf x=some .cell\/env.kindOf x=some .free)/\∃ c,env.cells.lookup x=some c/\h.IsCell c (some u))
structure Cx.Ok (X:Cx):Prop where
 mod:Mod X.K X.mg X.base
 kind:X.env.scope.kind=.function
 glob:X.env.globals=mainGlobals
 blt:X.env.builtins=builtinsNs
 above:X.u9.heap.objs.size<=X.env.locals
 inj:∀ x y c,X.env.cells.lookup x=some c->X.env.cells.lookup y=some c->x=y
 has:∀ x,(X.env.kindOf x=some .cell\/X.env.kindOf x=some .free)->∃ c,X.env.cells.lookup x=some c
 Ny:∀ x c,X.fn x=true->X.env.cells.lookup x=some c->X.u9.heap.objs.size<=c
 hd:X.calm=true->X.A.handled=none
 frames:X.A.frames=some X.stack
 Ly:X.stack=X.outer\/(X.stack=X.env::X.outer/\X.env.frame=some X.env.locals)
 Of:∀ b ∈ X.ex,b ≠ X.env.locals/\∀ x c,X.env.cells.lookup x=some c->c ≠ b
 bs:∀ b o,X.base.get? b=some o->X.u9.heap.get? b=some o/\X.Od b=none
 G3:X.base.objs.size<=X.u9.heap.objs.size
 Cf:∀ b o,X.base.get? b=some o->b ∉ X.ex
 Cg:∀ b ∈ X.ex,b ∉ X.fs
 r9:X.u9.heap.FunFrames X.base X.outer
 IE:∀ b ∈ X.fs,X.Od b=none
structure Inv (X:Cx) (pins:List (Addr×Obj)) (σ:List (Option V)) (H:Hp) (s:Shared):Prop where
 ok:X.Ok
 os:s.os=X.u9.os
 bare:AllBare s.gens
 base:Un X.fs X.ex X.Od H X.u9.heap s.heap
 loc:∃ m,s.heap.Ns X.env.locals m/\∀ (i:Nat) (x:Str) (v:V),X.N[i]?=some x->σ[i]?=some (some v)->Oe X.env.scope x->∃ u,RelV v u/\Look X.env s.heap m x u
 cell:∀ x c,X.env.cells.lookup x=some c->∃ v,s.heap.IsCell c v
 free:H X.env.locals=none
 gY:∀ x c,X.env.cells.lookup x=some c->H c=none
 pin:∀ p ∈ X.pn++pins,s.heap.get? p.1=some p.2/\H p.1=none/\p.1 ≠ X.env.locals/\p.1 ∉ X.fs/\∀ v,p.2.data ≠ .cell v
 hok:oB X.prog X.w H s.heap
 len:σ.length=X.N.length
section
variable {X:Cx} {pins:List (Addr×Obj)} {σ:List (Option V)} {H H':Hp} {s:Shared} {h':Heap}
theorem Cx.Ok.TM (ok:X.Ok) {b:Addr} {o:Obj} (e:X.base.get? b=some o):b ∉ X.fs:=fun hb=>by
 have:=(ok.r9.mem hb).1
 rw [e] at this;cases this
theorem Inv.bs (I:Inv X pins σ H s):∀ b o,X.base.get? b=some o->s.heap.get? b=some o/\H b=none:=fun b o e=>
 ⟨I.base.keep b o (I.ok.bs b o e).1 (I.ok.bs b o e).2 (I.ok.TM e) (I.ok.Cf b o e),I.base.free b o (I.ok.bs b o e).1 (I.ok.bs b o e).2 (I.ok.Cf b o e)⟩
theorem Inv.bk (I:Inv X pins σ H s):∀ b o,X.base.get? b=some o->s.heap.get? b=some o:=fun b o e=>(I.bs b o e).1
theorem Inv.mod (I:Inv X pins σ H s):Mod X.K X.mg X.base:=I.ok.mod
theorem Inv.rY (I:Inv X pins σ H s):X.K.In s.heap:=I.ok.mod.kin.keeps I.bk
theorem Inv.lt (I:Inv X pins σ H s):X.env.locals < s.heap.objs.size:=let ⟨_,hn,_⟩:=I.loc;hn.lt
theorem Inv.sz (I:Inv X pins σ H s):X.u9.heap.objs.size<=s.heap.objs.size:=Nat.le_trans I.ok.above (Nat.le_of_lt I.lt)
theorem Inv.TN (I:Inv X pins σ H s) {a:Addr} (h:s.heap.objs.size<=a):a ∉ X.fs:=fun hb=>by
 obtain ⟨_,o,ho,_⟩:=I.ok.r9.mem hb
 exact absurd (Nat.lt_of_lt_of_le (Heap.lt_size ho) (Nat.le_trans I.sz h)) (Nat.lt_irrefl _)
theorem Inv.Lu (I:Inv X pins σ H s):∀ x c,X.env.cells.lookup x=some c->c ≠ X.env.locals:=fun x c e z=>by
 obtain ⟨v,o,ho,hd⟩:=I.cell x c e
 obtain ⟨m,⟨o',es,ep,ho',hd',_⟩,_⟩:=I.loc
 rw [z,ho'] at ho;cases ho;rw [hd'] at hd;cases hd
theorem Inv.r9 (I:Inv X pins σ H s):s.heap.FunFrames X.base X.outer:=by
 have all:∀ (l:List Env),(∀ b ∈ frs l,b ∈ X.fs)->X.u9.heap.FunFrames X.base l->s.heap.FunFrames X.base l:=by
  intro l;induction l with
  | nil=>intro _ _;trivial
  | cons env r ih=>
   intro hs hl;obtain ⟨hk,⟨L,o,hf,hn,ho,hd⟩,hr⟩:=hl;have hL:L ∈ X.fs:=hs L (by unfold frs;rw [List.filterMap_cons,hf];exact List.mem_cons_self);obtain ⟨sl,e⟩:=I.base.slot L o ho (I.ok.IE L hL) hL fun z=>I.ok.Cg L z hL;exact ⟨hk,⟨L,_,hf,hn,e,hd⟩,ih (fun b hb=>hs b (by unfold frs;rw [List.filterMap_cons,hf];exact List.mem_cons_of_mem _ hb)) hr⟩
 exact all X.outer (fun _ hb=>hb) I.ok.r9
theorem Inv.stack (I:Inv X pins σ H s):s.heap.FunFrames X.base X.stack:=by
 rcases I.ok.Ly with e | ⟨e,hf⟩
 . rw [e];exact I.r9
 . rw [e]
   obtain ⟨m,hn,_⟩:=I.loc;refine .cons (by rw [I.ok.kind];decide) hf hn ?_ I.r9;exact Heap.get?_none_of_le (Nat.le_trans I.ok.G3 I.ok.above)
theorem Inv.Eh (I:Inv X pins σ H s):∀ b ∈ frs X.stack,b ∈ X.env.locals::X.fs:=fun b hb=>by
 rcases I.ok.Ly with e | ⟨e,hf⟩
 . rw [e] at hb;exact List.mem_cons_of_mem _ hb
 . rw [e] at hb
   unfold frs at hb
   rw [List.filterMap_cons,hf] at hb
   exact hb
theorem Inv.Aw (I:Inv X pins σ H s):∀ b ∈ frs X.stack,H b=none:=fun b hb=>by
 rcases List.mem_cons.mp (I.Eh b hb) with e | hb
 . rw [e];exact I.free
 . obtain ⟨_,o,ho,_⟩:=I.ok.r9.mem hb
   exact I.base.free b o ho (I.ok.IE b hb) fun z=>I.ok.Cg b z hb
theorem Inv.step {g':Array GenState} {t':Nat} {d':Drawn} {ch:List Addr} (I:Inv X pins σ H s)
   (hch:∀ b ∈ ch,(b ∈ X.ex\/X.u9.heap.objs.size<=b)/\b ≠ X.env.locals/\(∀ x c,X.env.cells.lookup x=some c->c ≠ b)/\∀ p ∈ X.pn++pins,p.1 ≠ b)
   (keep:∀ b o,b ≠ X.env.locals->b ∉ X.fs->b ∉ ch->s.heap.get? b=some o->H b=none->h'.get? b=some o)
   (slot:∀ b o,b ≠ X.env.locals->b ∈ X.fs->b ∉ ch->s.heap.get? b=some o->H b=none->∃ sl,h'.get? b=some { o with slots:=sl }) (free:∀ b o,b ∉ ch->s.heap.get? b=some o->H b=none->H' b=none)
   (there:∀ b o,b ∉ ch->s.heap.get? b=some o->∃ o',h'.get? b=some o')
   (tups:∀ b xs,H b=some (.tup xs)->H' b=some (.tup xs)) (rX:∀ b o u,H b=some (.jB o u)->H' b=some (.jB o u)) (uB:∀ b ps,H b=some (.Nu ps)->∃ more,H' b=some (.Nu (ps++more)))
   (ns:∀ m,s.heap.Ns X.env.locals m->h'.Ns X.env.locals m) (hok:oB X.prog X.w H' h') (hg:AllBare g') :
   Inv X pins σ H' { s with heap:=h',gens:=g',drawn:=d',toks:=t' }:=by
 have Lz:∀ b o,X.u9.heap.get? b=some o->b ≠ X.env.locals:=fun b o e=>Nat.ne_of_lt (Nat.lt_of_lt_of_le (Heap.lt_size e) I.ok.above);have Nz:∀ b o,X.u9.heap.get? b=some o->b ∉ X.ex->b ∉ ch:=fun b o e hx hb=>by
   rcases (hch b hb).1 with z | z
   . exact hx z
   . exact absurd (Nat.lt_of_lt_of_le (Heap.lt_size e) z) (Nat.lt_irrefl _)
 have cellK:∀ x c,X.env.cells.lookup x=some c->∀ v,s.heap.IsCell c v->h'.IsCell c v:=fun x c e v ⟨o,ho,hd⟩=>by
   have N1:c ∉ ch:=fun z=>(hch c z).2.2.1 x c e rfl;by_cases hc:c ∈ X.fs
   . obtain ⟨sl,q⟩:=slot c o (I.Lu x c e) hc N1 ho (I.gY x c e)
     exact ⟨_,q,hd⟩
   . exact ⟨o,keep c o (I.Lu x c e) hc N1 ho (I.gY x c e),hd⟩
 refine ⟨I.ok,I.os,hg,⟨fun b o e n hb hx=>?_,fun b o e n hb hx=>?_,fun b o e n hx=>?_,fun b o e hx=>?_,fun b xs e=>tups b xs (I.base.tups b xs e),fun b o xs e=>rX b o xs (I.base.rX b o xs e),fun b ps e=>?_⟩,?_,fun x c e=>?_,?_,fun x c e=>?_,fun p hp=>?_,hok,I.len⟩
 . exact keep b o (Lz b o e) hb (Nz b o e hx) (I.base.keep b o e n hb hx) (I.base.free b o e n hx)
 . obtain ⟨sl,e1⟩:=I.base.slot b o e n hb hx
   obtain ⟨sl',e2⟩:=slot b _ (Lz b o e) hb (Nz b o e hx) e1 (I.base.free b o e n hx);exact ⟨sl',e2⟩
 . obtain ⟨o',e1⟩:=I.base.there b o e hx
   exact free b o' (Nz b o e hx) e1 (I.base.free b o e n hx)
 . obtain ⟨o',e1⟩:=I.base.there b o e hx
   exact there b o' (Nz b o e hx) e1
 . obtain ⟨m1,e1⟩:=I.base.uB b ps e
   obtain ⟨m2,e2⟩:=uB b _ e1;exact ⟨m1++m2,by rw [e2,Array.append_assoc]⟩
 . obtain ⟨m,hn,hl⟩:=I.loc
   refine ⟨m,ns m hn,fun i x v e1 e2 e3=>?_⟩;obtain ⟨u,r,l⟩:=hl i x v e1 e2 e3;refine ⟨u,r,?_⟩;rcases l with l | ⟨k,c,e,z⟩
   . exact .inl l
   . exact .inr ⟨k,c,e,cellK x c e _ z⟩
 . obtain ⟨v,z⟩:=I.cell x c e
   exact ⟨v,cellK x c e v z⟩
 . obtain ⟨m,⟨o,_,_,ho,_⟩,_⟩:=I.loc
   exact free _ o (fun z=>(hch _ z).2.1 rfl) ho I.free
 . obtain ⟨v,o,ho,hd⟩:=I.cell x c e
   exact free c o (fun z=>(hch c z).2.2.1 x c e rfl) ho (I.gY x c e)
 . obtain ⟨e,n,ne,nf,d⟩:=I.pin p hp
   have N1:p.1 ∉ ch:=fun z=>(hch p.1 z).2.2.2 p hp rfl;exact ⟨keep p.1 p.2 ne nf N1 e n,free p.1 p.2 N1 e n,ne,nf,d⟩
theorem Inv.un {t':Nat} (I:Inv X pins σ H s) (u:Un X.fs [] H H' s.heap h') (hok:oB X.prog X.w H' h'):Inv X pins σ H' { s with heap:=h',toks:=t' }:=by
 obtain ⟨m,⟨o,es,ep,ho,r⟩,_⟩:=id I.loc;obtain ⟨sl,hL⟩:=u.any ho I.free (by simp);exact I.step (g':=s.gens) (d':=s.drawn) (ch:=[]) (fun _ z=>nomatch z) (fun b o _ hb _ e n=>u.keep b o e n hb (by simp)) (fun b o _ hb _ e n=>u.slot b o e n hb (by simp)) (fun b o _ e n=>u.free b o e n (by simp)) (fun b o _ e=>u.there b o e (by simp)) u.tups u.rX u.uB (fun m' hm=>by
  obtain ⟨o',es',ep',ho',r'⟩:=hm;rw [ho] at ho';cases ho';exact ⟨_,es',ep',hL,r'⟩) hok I.bare
theorem Inv.call {g':Array GenState} {t':Nat} {d':Drawn} {ch:List Addr} (I:Inv X pins σ H s) (u:Un (frs X.stack) ch H H' s.heap h') (hok:oB X.prog X.w H' h') (hg:AllBare g')
  (hch:∀ b ∈ ch,(b ∈ X.ex\/X.u9.heap.objs.size<=b)/\b ≠ X.env.locals/\(∀ x c,X.env.cells.lookup x=some c->c ≠ b)/\∀ p ∈ X.pn++pins,p.1 ≠ b) :
  Inv X pins σ H' { s with heap:=h',gens:=g',drawn:=d',toks:=t' }:=by
 obtain ⟨m,⟨o,es,ep,ho,r⟩,_⟩:=id I.loc;obtain ⟨sl,hL⟩:=u.any ho I.free fun z=>(hch _ z).2.1 rfl;exact I.step (ch:=ch) hch (fun b o hL hb hc e n=>u.keep b o e n (fun z=>(List.mem_cons.mp (I.Eh b z)).elim hL hb) hc) (fun b o _ _ hc e n=>u.any e n hc) (fun b o hc e n=>u.free b o e n hc) (fun b o hc e=>u.there b o e hc) u.tups u.rX u.uB (fun m' hm=>by
  obtain ⟨o',es',ep',ho',r'⟩:=hm;rw [ho] at ho';cases ho';exact ⟨_,es',ep',hL,r'⟩) hok hg
theorem Inv.turned {t':Nat} {it:Addr} (I:Inv X pins σ H s) (k:∀ b o,b ≠ it->s.heap.get? b=some o->h'.get? b=some o) (hn:H it=none) (hL:it ≠ X.env.locals)
   (h1:it ∈ X.ex\/X.u9.heap.objs.size<=it) (h2:∀ x c,X.env.cells.lookup x=some c->c ≠ it) (h3:∀ p ∈ X.pn++pins,p.1 ≠ it):Inv X pins σ H { s with heap:=h',toks:=t' }:=by
 have Q7:∀ b u,H b=some u->b ≠ it:=fun b u e z=>by rw [z,hn] at e;cases e
 refine I.step (g':=s.gens) (d':=s.drawn) (ch:=[it]) (fun b hb=>?_) (fun b o _ _ hc e _=>k b o (fun z=>hc (by simp [z])) e) (fun b o _ _ hc e _=>⟨o.slots,k b o (fun z=>hc (by simp [z])) e⟩) (fun _ _ _ _ n=>n)
   (fun b o hc e=>⟨o,k b o (fun z=>hc (by simp [z])) e⟩) (fun _ _ e=>e) (fun _ _ _ e=>e) (fun b ps e=>⟨#[],by rw [e];simp⟩) (fun m hm=>?_) (fun b u e=>?_) I.bare
 . have e:b=it:=by simpa using hb
   subst e;exact ⟨h1,hL,h2,h3⟩
 . obtain ⟨o,es,ep,ho,r⟩:=hm
   exact ⟨o,es,ep,k _ o (Ne.symm hL) ho,r⟩
 . refine (I.hok b u e).stay (fun c v hc q=>k c v ?_ q) (fun _ q=>q) fun _ _ q=>q
   rcases hc with z | z
   . rw [z];exact Q7 b u e
   . exact Q7 c _ z
theorem Inv.tok (I:Inv X pins σ H s) (t:Nat):Inv X pins σ H { s with toks:=t }:=I.un (h':=s.heap) (t':=t) Un.refl I.hok
theorem Inv.kept {t':Nat} (I:Inv X pins σ H s) (k:∀ b u,s.heap.get? b=some u->h'.get? b=some u):Inv X pins σ H { s with heap:=h',toks:=t' }:=I.un (Un.kept k) (I.hok.kept k)
theorem Inv.laid {a:Addr} {o:HO} {t':Nat} (I:Inv X pins σ H s) (k:∀ b u,s.heap.get? b=some u->h'.get? b=some u) (hp:s.heap.objs.size<=a) (new:bZ X.prog X.w (upd H a o) h' a o) :
   Inv X pins σ (upd H a o) { s with heap:=h',toks:=t' }:=I.un (Un.laid k hp (I.hok.fresh hp)) (I.hok.laid k hp new)
theorem Inv.write {x e:Addr} {o:HO} {t':Nat} (I:Inv X pins σ H s) (mu:Nv (H x)) (he:e=x\/H e=some (.own x)) (k:∀ b u,b ≠ e->s.heap.get? b=some u->h'.get? b=some u) (Qq:∃ u,h'.get? e=some u)
   (new:bZ X.prog X.w (upd H x o) h' x o):Inv X pins σ (upd H x o) { s with heap:=h',toks:=t' }:=I.un (Un.write mu he k Qq) (I.hok.write mu he k Qq new)
theorem Inv.weak {σ':List (Option V)} (I:Inv X pins σ H s) (hl:σ'.length=σ.length) (w:∀ (i:Nat) v,σ'[i]?=some (some v)->σ[i]?=some (some v)):Inv X pins σ' H s:=
 ⟨I.ok,I.os,I.bare,I.base,let ⟨m,hn,hl'⟩:=I.loc;⟨m,hn,fun i x v e1 e2 e3=>hl' i x v e1 (w i v e2) e3⟩,I.cell,I.free,I.gY,I.pin,I.hok,hl.trans I.len⟩
theorem Inv.Fi {pins':List (Addr×Obj)} (I:Inv X pins σ H s) (h:∀ p ∈ pins',s.heap.get? p.1=some p.2/\H p.1=none/\p.1 ≠ X.env.locals/\p.1 ∉ X.fs/\∀ v,p.2.data ≠ .cell v):Inv X pins' σ H s:=
 ⟨I.ok,I.os,I.bare,I.base,I.loc,I.cell,I.free,I.gY,fun p hp=>(List.mem_append.mp hp).elim (fun z=>I.pin p (List.mem_append_left _ z)) (h p),I.hok,I.len⟩
theorem xA {N:List Str} (hN:N.Nodup) {i j:Nat} {x:Str} (a:N[i]?=some x) (b:N[j]?=some x):i=j:=by
 obtain ⟨h1,e1⟩:=List.getElem?_eq_some_iff.mp a;obtain ⟨h2,e2⟩:=List.getElem?_eq_some_iff.mp b;exact (List.getElem_inj hN).mp (e1.trans e2.symm)
theorem uC {M:Model} {A:Around} {E:Value->Shared->Prop} {i:Nat} {x:Str} {v:V} {u:Value} {Q:Unit->Shared->Prop} (I:Inv X pins σ H s) (hN:X.N.Nodup) (hi:X.N[i]?=some x) (hx:Loc X.env.scope x) (r:RelV v u)
   (h:∀ s',Inv X pins (σ.set i (some v)) H s'->(∃ a,Heap.SameBut a s.heap s'.heap/\(a=X.env.locals\/X.env.cells.lookup x=some a))->Q () s') (hf:X.fn x=true\/X.env.scope.names.lookup x=some .local:=by first | exact .inl rfl | exact .inr rfl | assumption):wpAny M A (storeName X.env x u) Q E s:=by
 obtain ⟨m,hn,hl⟩:=id I.loc;have hcls:(X.env.scope.kind==.class||(X.env.scope.kind==.module&&X.env.locals != X.env.globals))=false:=by rw [I.ok.kind];rfl
 have hiσ:i < σ.length:=by rw [I.len];exact (List.getElem?_eq_some_iff.mp hi).1
 have Lu:=I.Lu;have tracked:∀ {a:Addr} {h':Heap},(∃ o,s.heap.get? a=some o/\H a=none)->Heap.SameBut a s.heap h'->oB X.prog X.w H h':=fun {a h'} ha hs b ob e=>by
   obtain ⟨_,_,hfree⟩:=ha;refine (I.hok b ob e).stay (fun c w' hc q=>(hs.2 c ?_).trans q) (fun _ q=>q) fun _ _ q=>q;rintro rfl;rcases hc with rfl | hc
   . rw [hfree] at e;cases e
   . rw [hfree] at hc;cases hc
 rcases hx with hk | hk
 . refine wpAny_storeName_local hk hn (fun h' hn' hs=>?_) hcls
   obtain ⟨oL,_,_,SM,_⟩:=id hn;refine h _ ⟨I.ok,I.os,I.bare,⟨fun b o e n hb hx=>?_,fun b o e n hb hx=>?_,I.base.free,fun b o e hx=>?_,I.base.tups,I.base.rX,I.base.uB⟩,⟨_,hn',fun j y v' e1 e2 e3=>?_⟩,fun y c e=>?_,I.free,I.gY,fun p hp=>?_,tracked ⟨oL,SM,I.free⟩ hs,by simpa using I.len⟩ ⟨_,hs,.inl rfl⟩
   . exact (hs.2 b (Nat.ne_of_lt (Nat.lt_of_lt_of_le (Heap.lt_size e) I.ok.above))).trans (I.base.keep b o e n hb hx)
   . obtain ⟨sl,e1⟩:=I.base.slot b o e n hb hx
     exact ⟨sl,(hs.2 b (Nat.ne_of_lt (Nat.lt_of_lt_of_le (Heap.lt_size e) I.ok.above))).trans e1⟩
   . obtain ⟨o',e1⟩:=I.base.there b o e hx
     exact ⟨o',(hs.2 b (Nat.ne_of_lt (Nat.lt_of_lt_of_le (Heap.lt_size e) I.ok.above))).trans e1⟩
   . by_cases hj:j=i
     . subst hj
       rw [hi] at e1;cases e1;rw [List.getElem?_set_self hiσ] at e2;cases e2;exact ⟨u,r,.inl ⟨hk,by simp⟩⟩
     . rw [List.getElem?_set_ne (Ne.symm hj)] at e2
       obtain ⟨u',r',q⟩:=hl j y v' e1 e2 e3;refine ⟨u',r',?_⟩;rcases q with ⟨k,e⟩ | ⟨k,c,e,z⟩
       . refine .inl ⟨k,?_⟩
         have:y ≠ x:=fun e=>hj (xA hN e1 (e ▸ hi));simp [this,e]
       . exact .inr ⟨k,c,e,z.sameBut hs (Lu y c e)⟩
   . obtain ⟨w',z⟩:=I.cell y c e
     exact ⟨w',z.sameBut hs (Lu y c e)⟩
   . obtain ⟨e,n,ne,nf,d⟩:=I.pin p hp
     exact ⟨(hs.2 p.1 ne).trans e,n,ne,nf,d⟩
 . have hfn:X.fn x=true:=by
     rcases hf with z | z
     . exact z
     . rw [z] at hk;cases hk
   obtain ⟨c,hc⟩:=I.ok.has x (.inl hk);obtain ⟨w',z⟩:=I.cell x c hc;refine wpAny_storeName_cell I.ok.kind hk hc z (fun h' hc' hs=>?_);obtain ⟨oc,hoc,TQ⟩:=id z;refine h { s with heap:=h' } ⟨I.ok,I.os,I.bare,⟨fun b o e n hb hx=>?_,fun b o e n hb hx=>?_,I.base.free,fun b o e hx=>?_,I.base.tups,I.base.rX,I.base.uB⟩,⟨m,hn.sameBut hs (Ne.symm (Lu x c hc)),fun j y v' e1 e2 e3=>?_⟩,fun y c' e=>?_,I.free,I.gY,fun p hp=>?_,tracked ⟨oc,hoc,I.gY x c hc⟩ hs,by simpa using I.len⟩ ⟨c,hs,.inr hc⟩
   . exact (hs.2 b (Nat.ne_of_lt (Nat.lt_of_lt_of_le (Heap.lt_size e) (I.ok.Ny x c hfn hc)))).trans (I.base.keep b o e n hb hx)
   . obtain ⟨sl,e1⟩:=I.base.slot b o e n hb hx
     exact ⟨sl,(hs.2 b (Nat.ne_of_lt (Nat.lt_of_lt_of_le (Heap.lt_size e) (I.ok.Ny x c hfn hc)))).trans e1⟩
   . obtain ⟨o',e1⟩:=I.base.there b o e hx
     exact ⟨o',(hs.2 b (Nat.ne_of_lt (Nat.lt_of_lt_of_le (Heap.lt_size e) (I.ok.Ny x c hfn hc)))).trans e1⟩
   . by_cases hj:j=i
     . subst hj
       rw [hi] at e1;cases e1;rw [List.getElem?_set_self hiσ] at e2;cases e2;exact ⟨u,r,.inr ⟨.inl hk,c,hc,hc'⟩⟩
     . rw [List.getElem?_set_ne (Ne.symm hj)] at e2
       obtain ⟨u',r',q⟩:=hl j y v' e1 e2 e3;refine ⟨u',r',?_⟩;rcases q with q | ⟨k,c',e,z'⟩
       . exact .inl q
       . refine .inr ⟨k,c',e,z'.sameBut hs ?_⟩
         rintro rfl;exact hj (xA hN e1 (I.ok.inj _ _ _ e hc ▸ hi))
   . by_cases hcc:c'=c
     . subst hcc;exact ⟨_,hc'⟩
     . obtain ⟨w2,z2⟩:=I.cell y c' e
       exact ⟨w2,z2.sameBut hs hcc⟩
   . obtain ⟨e,n,ne,nf,d⟩:=I.pin p hp
     refine ⟨(hs.2 p.1 ?_).trans e,n,ne,nf,d⟩;intro q;rw [q,hoc] at e;have q':oc=p.2:=Option.some.inj e;exact d w' (by rw [<- q'];exact TQ)
theorem xB {M:Model} {A:Around} {E:Value->Shared->Prop} {i:Nat} {x:Str} {v:V} {u:Value} {Q:Unit->Shared->Prop} (I:Inv X pins σ H s) (hN:X.N.Nodup) (hi:X.N[i]?=some x) (hx:Loc X.env.scope x) (r:RelV v u)
  (h:∀ s',Inv X pins (σ.set i (some v)) H s'->Q () s') (hf:X.fn x=true\/X.env.scope.names.lookup x=some .local:=by first | exact .inl rfl | exact .inr rfl | assumption):wpAny M A (storeName X.env x u) Q E s:=
 uC I hN hi hx r (fun s' I' _=>h s' I') hf
theorem Inv.call' {s':Shared} {ch:List Addr} (I:Inv X pins σ H s) (ho:s'.os=s.os) (u:Un (frs X.stack) ch H H' s.heap s'.heap) (hok:oB X.prog X.w H' s'.heap) (hg:AllBare s'.gens)
  (hch:∀ b ∈ ch,(b ∈ X.ex\/X.u9.heap.objs.size<=b)/\b ≠ X.env.locals/\(∀ x c,X.env.cells.lookup x=some c->c ≠ b)/\∀ p ∈ X.pn++pins,p.1 ≠ b):Inv X pins σ H' s':=by
 obtain ⟨h',g',d',t',o'⟩:=s';have e:o'=s.os:=ho;subst e;exact I.call (g':=g') (t':=t') (d':=d') u hok hg hch
end
abbrev XK:=Value->Option Addr->Hp->Prop
abbrev St:=List (Option V)
abbrev VK:=V->Hp->Prop
abbrev TE:=St->Hp->VK->Prop
abbrev TT:=St->Hp->(Bool->Hp->Prop)->Prop
abbrev TA:=St->Hp->(List V->Hp->Prop)->Prop
structure Ends where
 nx:St->Hp->Prop
 rt:VK
 bk:St->Hp->Prop:=fun _ _=>False
 ct:St->Hp->Prop:=fun _ _=>False
abbrev TS:=Ends->St->Hp->Prop
def EP (X:Cx) (pins:List (Addr×Obj)) (σ:St) (Q:VK) (u:Value) (s':Shared):Prop:=∃ v H',Inv X pins σ H' s'/\RelV v u/\Q v H'
def TP (X:Cx) (pins:List (Addr×Obj)) (σ:St) (Q:Bool->Hp->Prop) (b:Bool) (s':Shared):Prop:=∃ H',Inv X pins σ H' s'/\Q b H'
def AP (X:Cx) (pins:List (Addr×Obj)) (σ:St) (Q:List V->Hp->Prop) (us:List Value) (s':Shared):Prop:=∃ vs H',Inv X pins σ H' s'/\Vals vs us/\Q vs H'
def SP (X:Cx) (pins:List (Addr×Obj)) (D:Ends) (f:Flow) (s':Shared):Prop:=
 match f with
 | .next=>∃ σ' H',Inv X pins σ' H' s'/\D.nx σ' H'
 | .brk=>∃ σ' H',Inv X pins σ' H' s'/\D.bk σ' H'
 | .cont=>∃ σ' H',Inv X pins σ' H' s'/\D.ct σ' H'
 | .ret u=>∃ v σ' H',Inv X pins σ' H' s'/\RelV v u/\D.rt v H'
def PE (X:Cx) (e:Expr) (t:TE):Prop:=
 ∀ (pins:List (Addr×Obj)) (s:Shared) (σ:St) (H:Hp) (Q:VK),Inv X pins σ H s->t σ H Q->wpAny (model X.prog X.w) X.A (eval e X.env) (EP X pins σ Q) X.xe s
def PT (X:Cx) (e:Expr) (t:TT):Prop:=
 ∀ (pins:List (Addr×Obj)) (s:Shared) (σ:St) (H:Hp) (Q:Bool->Hp->Prop),Inv X pins σ H s->t σ H Q->wpAny (model X.prog X.w) X.A (isTrue e X.env (eval e X.env)) (TP X pins σ Q) X.xe s
def PW (X:Cx) (e:Expr) (t:TT):Prop:=
 ∀ (whole:Sem Value) (pins:List (Addr×Obj)) (s:Shared) (σ:St) (H:Hp) (Q:Bool->Hp->Prop),Inv X pins σ H s->t σ H Q->wpAny (model X.prog X.w) X.A (isTrue e X.env whole) (TP X pins σ Q) X.xe s
theorem PW.pt {X:Cx} {e:Expr} {t:TT} (h:PW X e t):PT X e t:=h _
def PA (X:Cx) (es:List Expr) (t:TA):Prop:=
 ∀ (pos:Pos) (pins:List (Addr×Obj)) (s:Shared) (σ:St) (H:Hp) (Q:List V->Hp->Prop),Inv X pins σ H s->t σ H Q->wpAny (model X.prog X.w) X.A (spliced (backTo pos (starEach es X.env))) (AP X pins σ Q) X.xe s
def PS (X:Cx) (st:Stmt) (t:TS):Prop:=
 ∀ (pins:List (Addr×Obj)) (s:Shared) (σ:St) (H:Hp) (D:Ends),Inv X pins σ H s->t D σ H->wpAny (model X.prog X.w) X.A (exec st X.env) (SP X pins D) X.xe s
def Ax (X:Cx) (st:List Stmt) (t:TS):Prop:=
 ∀ (pins:List (Addr×Obj)) (s:Shared) (σ:St) (H:Hp) (D:Ends),Inv X pins σ H s->t D σ H->wpAny (model X.prog X.w) X.A (execs st X.env) (SP X pins D) X.xe s
theorem cT {α:Type} {t:Sem α} {Q Q':α->Shared->Prop} {M:Model} {A:Around} {E:Value->Shared->Prop} {s:Shared} (h:wpAny M A t Q E s) (hQ:∀ a s,Q a s->Q' a s):wpAny M A t Q' E s:=wpAny_mono h hQ fun _ _ x=>x
end L2
namespace L2
open PySem PySem.Spec PyProof.Rows
section
variable {X:Cx}
def Q8 (i:Nat):TE:=fun σ H Q=>∃ v,σ[i]?=some (some v)/\Q v H
def tC (v:V):TE:=fun _ H Q=>Q v H
theorem IF {i:Nat} {x:Str} {pos:Pos} (hN:X.N[i]?=some x) (hv:Oe X.env.scope x) (hd:(x==("__debug__":Str))=false:=by decide) (hcd:(x==("__classdict__":Str))=false:=by decide):PE X (.Name x pos) (Q8 i):=by
 intro pins s σ H Q I h;obtain ⟨v,e,h⟩:=h;obtain ⟨m,hn,hl⟩:=I.loc;obtain ⟨u,r,l⟩:=hl i x v hN e hv;have fin:EP X pins σ Q u s:=⟨v,H,I,r,h⟩;rcases l with ⟨hk,hm⟩ | ⟨hk,c,hc,hcell⟩
 . exact wpAny_Name (wpAny_loadName_local I.ok.kind hk hn hm fin) hd
 . rcases hk with hk | hk
   . exact wpAny_Name (wpAny_loadName_cell I.ok.kind hk hc hcell fin) hd
   . exact wpAny_Name (wpAny_loadName_free I.ok.kind hk hc hcell fin hcd) hd
theorem aT {i j pos}:PE X (.Constant (.int i) j pos) (tC (.int i)):=fun _ _ _ H _ I h=>wpAny_Constant_int ⟨.int i,H,I.tok _,⟨_,rfl⟩,h⟩
theorem xC {b j pos}:PE X (.Constant (.bool b) j pos) (tC (.bl b)):=fun _ _ _ H _ I h=>Constant_bool ⟨.bl b,H,I,rfl,h⟩
theorem Og {j pos}:PE X (.Constant .none j pos) (tC .non):=fun _ _ _ H _ I h=>Constant_none ⟨.non,H,I,rfl,h⟩
def Gl (X:Cx) (x:Str):Prop:=X.env.kindOf x=some .globalImplicit
theorem qR {E:Value->Shared->Prop} {pins:List (Addr×Obj)} {s:Shared} {σ:St} {H:Hp} {x:Str} {u:Value} {pos:Pos} {Q:Value->Shared->Prop} (I:Inv X pins σ H s) (hg:Gl X x) (hm:X.mg x=some u) (h:Q u s)
  (hd:(x==("__debug__":Str))=false:=by decide):wpAny (model X.prog X.w) X.A (eval (.Name x pos) X.env) Q E s:=
 Calls.Name_function_global I.ok.kind hg (Calls.loadGlobal_global (by rw [I.ok.glob];exact I.mod.glob.keeps I.bk) hm h) hd
theorem rZ {E:Value->Shared->Prop} {pins:List (Addr×Obj)} {s:Shared} {σ:St} {H:Hp} {x:Str} {u:Value} {pos:Pos} {Q:Value->Shared->Prop} (I:Inv X pins σ H s) (hg:Gl X x) (hm:X.mg x=none) (hv:bootBuiltins x=some u) (h:Q u s)
  (hn:x ≠ "__name__":=by decide) (hd:(x==("__debug__":Str))=false:=by decide):wpAny (model X.prog X.w) X.A (eval (.Name x pos) X.env) Q E s:=by
 obtain ⟨mb,h1,h2⟩:=I.mod.blt;exact Calls.Name_function_global I.ok.kind hg (Calls.loadGlobal_builtin (by rw [I.ok.glob];exact I.mod.glob.keeps I.bk) hm (by rw [I.ok.blt];exact h1.keeps I.bk) ((h2 x hn).trans hv) h) hd
theorem b9 {x:Str} {v:V} {u:Value} {pos:Pos} (hg:Gl X x) (hm:X.mg x=some u) (r:RelV v u) (hd:(x==("__debug__":Str))=false:=by decide):PE X (.Name x pos) (tC v):=
 fun _ _ _ H _ I h=>qR I hg hm ⟨v,H,I,r,h⟩ hd
variable {a b:Expr} {ta tb:TE} {pos:Pos}
def PC (X:Cx) (op:CmpOp) (a b:Expr) (t:TE):Prop:=
 ∀ (pins:List (Addr×Obj)) (s:Shared) (σ:St) (H:Hp) (Q:VK),Inv X pins σ H s->t σ H Q->
   wpAny (model X.prog X.w) X.A (eval a X.env) (fun v s₁=>wpAny (model X.prog X.w) X.A (eval b X.env) (fun u s₂=>wpAny (model X.prog X.w) X.A (compareOp op v u) (EP X pins σ Q) X.xe s₂) X.xe s₁) X.xe s
def tB (t:TE):TT:=fun σ H Q=>t σ H fun x H1=>∃ c,x=.bl c/\Q c H1
theorem IG {op:CmpOp} {t:TE} (h:PC X op a b t) (h1:behindInMarks op b=false:=by first | exact Q9 _ (by decide) (by decide) | rfl):PT X (.Compare a [op] [b] pos) (tB t):=by
 intro pins s σ H Q I hw;refine wpAny_isTrue_Compare1 (cT (h pins s σ H _ I hw) fun v s1 h1=>cT h1 fun u s2 h2=>cT h2 fun c s3 ⟨x,H1,I1,r1,q1⟩=>?_) h1;obtain ⟨d,rfl,q⟩:=q1;cases r1;exact wpAny_truthy_bool ⟨H1,I1,q⟩
theorem uD {e:Expr} {t:TE} (h:PE X e t) (he:∀ whole,isTrue e X.env whole=(do let v <- whole;standAt e.pos;holding [v] (truthy v)):=by intro _;rfl):PT X e (tB t):=by
 intro pins s σ H Q I hw;refine isTrue_plain (cT (h pins s σ H _ I hw) fun v s1 ⟨x,H1,I1,r1,q1⟩=>?_) (he _);obtain ⟨d,rfl,q⟩:=q1;cases r1;exact wpAny_truthy_bool ⟨H1,I1,q⟩
variable {tA SN:TT} {rest:List Expr}
def TR (t u:TT):TT:=fun σ H Q=>t σ H fun c H1=>if c=true then u σ H1 Q else Q false H1
def WS (t u:TT):TT:=fun σ H Q=>t σ H fun c H1=>if c=true then Q true H1 else u σ H1 Q
def TU (t:TT):TT:=fun σ H Q=>t σ H fun c H1=>Q (!c) H1
theorem wQ (ha:PT X a tA):PW X (.BoolOp .And [a] pos) tA:=by
 intro wh pins s σ H Q I h;refine isTrue_and (cT (ha pins s σ H Q I h) fun c s1 e=>?_);cases c with
 | true=>exact isTrue_and_nil e
 | false=>exact e
theorem II (ha:PT X a tA):PW X (.BoolOp .Or [a] pos) tA:=by
 intro wh pins s σ H Q I h;refine isTrue_or (cT (ha pins s σ H Q I h) fun c s1 e=>?_);cases c with
 | false=>exact isTrue_or_nil e
 | true=>exact e
theorem Ay (ha:PT X a tA) (hb:PW X (.BoolOp .And (b::rest) pos) SN):PW X (.BoolOp .And (a::b::rest) pos) (TR tA SN):=by
 intro wh pins s σ H Q I h;refine isTrue_and (cT (ha pins s σ H _ I h) fun c s1 ⟨H1,I1,q1⟩=>?_);cases c with
 | true=>exact hb wh pins s1 σ H1 Q I1 q1
 | false=>exact ⟨H1,I1,q1⟩
theorem N2 (ha:PT X a tA) (hb:PW X (.BoolOp .Or (b::rest) pos) SN):PW X (.BoolOp .Or (a::b::rest) pos) (WS tA SN):=by
 intro wh pins s σ H Q I h;refine isTrue_or (cT (ha pins s σ H _ I h) fun c s1 ⟨H1,I1,q1⟩=>?_);cases c with
 | true=>exact ⟨H1,I1,q1⟩
 | false=>exact hb wh pins s1 σ H1 Q I1 q1
theorem IJ (ha:PT X a tA):PT X (.UnaryOp .Not a pos) (TU tA):=by
 intro pins s σ H Q I h;exact isTrue_not (ha pins s σ H (fun c H1=>Q (!c) H1) I h)
def QA (ta tb:TE):TE:=fun σ H Q=>ta σ H fun x H1=>∃ c,x=.bl c/\if c=true then tb σ H1 Q else Q (.bl false) H1
theorem Az {op} {t:TE} (h:PE X a t):PE X (.BoolOp op [a] pos) t:=fun pins s σ H Q I hw=>BoolOp_one (h pins s σ H Q I hw)
theorem uE (ha:PE X a ta) (hb:PE X (.BoolOp .And (b::rest) pos) tb):PE X (.BoolOp .And (a::b::rest) pos) (QA ta tb):=by
 intro pins s σ H Q I h;refine BoolOp_and (cT (ha pins s σ H _ I h) fun v s1 ⟨x,H1,I1,r1,q1⟩=>?_);obtain ⟨c,rfl,q1⟩:=q1;cases r1;refine wpAny_truthy_bool ?_;cases c with
 | true=>exact hb pins s1 σ H1 Q I1 q1
 | false=>exact ⟨.bl false,H1,I1,rfl,q1⟩
def WT (t:TT) (ta tb:TE):TE:=fun σ H Q=>t σ H fun c H1=>if c=true then ta σ H1 Q else tb σ H1 Q
theorem IK {c:Expr} (hc:PT X c tA) (ha:PE X a ta) (hb:PE X b tb):PE X (.IfExp c a b pos) (WT tA ta tb):=by
 intro pins s σ H Q I h;refine wpAny_IfExp (cT (hc pins s σ H _ I h) fun d s1 ⟨H1,I1,q1⟩=>?_);cases d with
 | true=>exact ha pins s1 σ H1 Q I1 q1
 | false=>exact hb pins s1 σ H1 Q I1 q1
end
end L2
namespace L2
open PySem PySem.Spec PyProof.Rows
def c8 (K:Zqq) (H:Hp) (a:Addr) (xs:List V):Prop:=
 Rd H a (.lst xs) \/
   ∃ (o:Obj) (its:Array Value) (n:Nat),K.lookup a=some o/\o.cls=.type "list"/\o.dict=none/\o.data=.seq its n/\its.size<=sizeLine/\Vals xs its.toList
def j0 (K:Zqq) (H:Hp) (a:Addr) (xs:List V):Prop:=
 Rd H a (.tup xs) \/
   ∃ (o:Obj) (its:Array Value) (n:Nat),K.lookup a=some o/\o.cls=.type "tuple"/\o.data=.seq its n/\its.size<=sizeLine/\Vals xs its.toList
def TV:Value->Option V
 | .none=>some .non
 | .bool b=>some (.bl b)
 | .int i _=>some (.int i)
 | .str x _=>some (.str x)
 | .bytes b _=>some (.Cb b)
 | .float b _=>some (.Nr b)
 | .ref a=>some (.ref a)
 | .type n=>some (.ty n)
 | _=>none
theorem RelV.abs {x:V} {u:Value} (r:RelV x u):TV u=some x:=by
 cases x with
 | non=>cases r;rfl
 | bl _=>cases r;rfl
 | int _=>obtain ⟨t,rfl⟩:=r;rfl
 | str _=>obtain ⟨t,rfl⟩:=r;rfl
 | Cb _=>obtain ⟨t,rfl⟩:=r;rfl
 | Nr _=>obtain ⟨t,rfl⟩:=r;rfl
 | ref _=>cases r;rfl
 | ty _=>cases r;rfl
theorem RelV.inj {x y:V} {u:Value} (r:RelV x u) (q:RelV y u):x=y:=Option.some.inj (r.abs.symm.trans q.abs)
theorem Vals.inj:∀ {xs ys:List V} {us:List Value},Vals xs us->Vals ys us->xs=ys
 | _,_,_,.nil,.nil=>rfl
 | _,_,_,.cons r t,.cons r' t'=>by rw [r.inj r',Vals.inj t t']
section
variable {X:Cx} {pins:List (Addr×Obj)} {σ:St} {H:Hp} {s:Shared} {a:Addr} {xs ys:List V}
theorem c8.of {K:Zqq} (h:H a=some (.lst xs)):c8 K H a xs:=.inl (.inl h)
theorem j0.of {K:Zqq} (h:H a=some (.tup xs)):j0 K H a xs:=.inl (.inl h)
theorem Inv.list (I:Inv X pins σ H s) (h:c8 X.K H a xs):∃ its:List Value,Vals xs its/\PlainL s.heap a its.toArray/\xs.length<=sizeLine:=by
 rcases h with h | ⟨o,its,n,hk,hc,hd,hs,hz,r⟩
 . obtain ⟨z,its,n,r,e⟩:=h.ok I.hok
   exact ⟨its,r,⟨_,n,e,rfl,rfl,rfl⟩,z⟩
 . refine ⟨its.toList,r,⟨o,n,I.rY a o hk,hc,hd,by simpa using hs⟩,?_⟩
   have e:=r.length;simp only [Array.length_toList] at e;omega
theorem Inv.tuple (I:Inv X pins σ H s) (h:j0 X.K H a xs):∃ its:List Value,Vals xs its/\IsTup s.heap a its.toArray/\xs.length<=sizeLine:=by
 rcases h with h | ⟨o,its,n,hk,hc,hs,hz,r⟩
 . obtain ⟨z,its,r,p⟩:=h.ok I.hok
   exact ⟨its,r,p,z⟩
 . refine ⟨its.toList,r,⟨o,I.rY a o hk,hc,n,by simpa using hs⟩,?_⟩
   have e:=r.length;simp only [Array.length_toList] at e;omega
theorem Inv.Ci (I:Inv X pins σ H s) (h:c8 X.K H a xs) (h':c8 X.K H a ys):xs=ys:=by
 obtain ⟨its,r,⟨o,n,e,_,_,d⟩,_⟩:=I.list h;obtain ⟨its',r',⟨o',n',e',_,_,d'⟩,_⟩:=I.list h';rw [e] at e';cases e';rw [d] at d';injection d' with d1 _;have:its=its':=by simpa using congrArg Array.toList d1
 subst this;exact r.inj r'
theorem Inv.G4 (I:Inv X pins σ H s) (h:j0 X.K H a xs) (h':j0 X.K H a ys):xs=ys:=by
 obtain ⟨its,r,⟨o,e,_,n,d⟩,_⟩:=I.tuple h;obtain ⟨its',r',⟨o',e',_,n',d'⟩,_⟩:=I.tuple h';rw [e] at e';cases e';rw [d] at d';injection d' with d1 _;have:its=its':=by simpa using congrArg Array.toList d1
 subst this;exact r.inj r'
end
abbrev Cx.xD (X:Cx) (E:Value->Shared->Prop):Cx:={ X with xe:=E }
abbrev Cx.Qs (X:Cx):Cx:=X.xD fun _ _=>False
theorem Cx.Ok.xD {X:Cx} (ok:X.Ok) (E:Value->Shared->Prop):(X.xD E).Ok:=
 ⟨ok.mod,ok.kind,ok.glob,ok.blt,ok.above,ok.inj,ok.has,ok.Ny,ok.hd,ok.frames,ok.Ly,ok.Of,ok.bs,ok.G3,ok.Cf,ok.Cg,ok.r9,ok.IE⟩
theorem Cx.Ok.pH {X:Cx} {E:Value->Shared->Prop} (ok:(X.xD E).Ok):X.Ok:=
 ⟨ok.mod,ok.kind,ok.glob,ok.blt,ok.above,ok.inj,ok.has,ok.Ny,ok.hd,ok.frames,ok.Ly,ok.Of,ok.bs,ok.G3,ok.Cf,ok.Cg,ok.r9,ok.IE⟩
section
variable {X:Cx} {pins:List (Addr×Obj)} {σ:St} {H:Hp} {s:Shared} {E:Value->Shared->Prop}
theorem Inv.xD (I:Inv X pins σ H s) (E:Value->Shared->Prop):Inv (X.xD E) pins σ H s:=⟨I.ok.xD E,I.os,I.bare,I.base,I.loc,I.cell,I.free,I.gY,I.pin,I.hok,I.len⟩
theorem Inv.pH (I:Inv (X.xD E) pins σ H s):Inv X pins σ H s:=⟨I.ok.pH,I.os,I.bare,I.base,I.loc,I.cell,I.free,I.gY,I.pin,I.hok,I.len⟩
theorem SP.pH {D:Ends} {f:Flow} {s':Shared} (h:SP (X.xD E) pins D f s'):SP X pins D f s':=by
 cases f with
 | next=>obtain ⟨σ',H',I,q⟩:=h;exact ⟨σ',H',I.pH,q⟩
 | brk=>obtain ⟨σ',H',I,q⟩:=h;exact ⟨σ',H',I.pH,q⟩
 | cont=>obtain ⟨σ',H',I,q⟩:=h;exact ⟨σ',H',I.pH,q⟩
 | ret u=>obtain ⟨v,σ',H',I,r,q⟩:=h;exact ⟨v,σ',H',I.pH,r,q⟩
theorem Ax.Qs {st:List Stmt} {t:TS} (h:Ax X.Qs st t):Ax X st t:=fun pins s σ H D I hw=>
 wpAny_mono (h pins s σ H D (I.xD _) hw) (fun _ _ q=>q.pH) fun _ _ z=>False.elim z
end
section
variable {X:Cx} {st:Stmt} {rest:List Stmt} {t u:TS} {e:Expr} {te:TE} {pos:Pos}
def QB:TS:=fun D σ H=>D.nx σ H
def Oh (t u:TS):TS:=fun D σ H=>t { D with nx:=u D } σ H
theorem gq:Ax X [] QB:=fun _ _ σ H _ I h=>wpAny_execs_nil ⟨σ,H,I,h⟩
theorem aq (h1:PS X st t) (h2:Ax X rest u):Ax X (st::rest) (Oh t u):=by
 intro pins s σ H D I h;refine wpAny_execs_cons (cT (h1 pins s σ H { D with nx:=u D } I h) fun f s1 q=>?_)
 cases f with
 | next=>
  obtain ⟨σ',H',I',q⟩:=q;exact h2 pins s1 σ' H' D I' q
 | ret v=>exact q
 | brk=>exact q
 | cont=>exact q
theorem aE (h1:PS X st t):Ax X [st] t:=by
 intro pins s σ H D I h;refine wpAny_execs_cons (cT (h1 pins s σ H D I h) fun f s1 q=>?_);cases f with
 | next=>exact wpAny_execs_nil q
 | ret v=>exact q
 | brk=>exact q
 | cont=>exact q
theorem Inv.quiet {pins:List (Addr×Obj)} {σ:St} {H:Hp} {s:Shared} (I:Inv X pins σ H s):interactive X.env=false:=by simp [interactive,I.ok.kind]
def QC (te:TE):TS:=fun D σ H=>te σ H fun _ H1=>D.nx σ H1
theorem dJ (he:PE X e te) (hs:swapsWith e none pos.line X.env=pure false:=by rfl):PS X (.Expr e pos) (QC te):=by
 intro pins s σ H D I h;exact wpAny_Expr_any (cT (he pins s σ H _ I h) fun v s1 ⟨x,H1,I1,r1,q1⟩=>⟨σ,H1,I1,q1⟩) I.quiet hs
def TX (te:TE):TS:=fun D σ H=>te σ H D.rt
theorem bC (he:PE X e te):PS X (.Return (some e) pos) (TX te):=by
 intro pins s σ H D I h;exact wpAny_Return_some (cT (he pins s σ H _ I h) fun v s1 ⟨x,H1,I1,r1,q1⟩=>⟨x,σ,H1,I1,r1,q1⟩)
def TY (c:TT) (t u:TS):TS:=fun D σ H=>c σ H fun b H1=>if b=true then t D σ H1 else u D σ H1
theorem l8 {c:Expr} {a b:List Stmt} {tc:TT} (hc:PT X c tc) (ha:Ax X a t) (hb:Ax X b u):PS X (.If c a b pos) (TY tc t u):=by
 intro pins s σ H D I h;refine wpAny_If (cT (hc pins s σ H _ I h) fun d s1 ⟨H1,I1,q1⟩=>?_);cases d with
 | true=>exact ha pins s1 σ H1 D I1 q1
 | false=>exact hb pins s1 σ H1 D I1 q1
end
abbrev TG:=V->St->Hp->(St->Hp->Prop)->Prop
abbrev Oi:=List V->St->Hp->(St->Hp->Prop)->Prop
def PG (X:Cx) (target:Expr) (t:TG):Prop:=
 ∀ (pins:List (Addr×Obj)) (s:Shared) (σ:St) (H:Hp) (v:V) (u:Value) (Q:St->Hp->Prop),Inv X pins σ H s->RelV v u->t v σ H Q->
   wpAny (model X.prog X.w) X.A (assign target X.env u) (fun _ s'=>∃ σ' H',Inv X pins σ' H' s'/\Q σ' H') X.xe s
def SQ (X:Cx) (ts:List Expr) (t:Oi):Prop:=
 ∀ (pins:List (Addr×Obj)) (s:Shared) (σ:St) (H:Hp) (vs:List V) (us:List Value) (Q:St->Hp->Prop),Inv X pins σ H s->Vals vs us->t vs σ H Q->
   wpAny (model X.prog X.w) X.A (assignInOrder ((assignEach ts X.env).map (·.2)) us) (fun _ s'=>∃ σ' H',Inv X pins σ' H' s'/\Q σ' H') X.xe s
abbrev IL:=V->V->V->Hp->(Hp->Prop)->Prop
def Oj (X:Cx) (t:IL):Prop:=
 ∀ (pins:List (Addr×Obj)) (s:Shared) (σ:St) (H:Hp) (o i v:V) (ov iv u:Value) (Q:Hp->Prop),Inv X pins σ H s->RelV o ov->RelV i iv->RelV v u->t o i v H Q->
   wpAny (model X.prog X.w) X.A (setItem ov iv u) (fun _ s'=>∃ H',Inv X pins σ H' s'/\Q H') X.xe s
abbrev Qt:=V->V->Hp->VK->Prop
def SR (X:Cx) (op:Operator) (t:Qt):Prop:=
 ∀ (pins:List (Addr×Obj)) (s:Shared) (σ:St) (H:Hp) (x y:V) (v u:Value) (Q:VK),Inv X pins σ H s->RelV x v->RelV y u->t x y H Q->
   wpAny (model X.prog X.w) X.A (inplaceOp op v u) (EP X pins σ Q) X.xe s
section
variable {X:Cx} {pos:Pos}
def zB (i:Nat):TG:=fun v σ H Q=>Q (σ.set i (some v)) H
theorem bx {i:Nat} {x:Str} (hN:X.N.Nodup) (hi:X.N[i]?=some x) (hx:Loc X.env.scope x) (hf:X.fn x=true\/X.env.scope.names.lookup x=some .local:=by first | exact .inl rfl | exact .inr rfl | assumption):PG X (.Name x pos) (zB i):=by
 intro pins s σ H v u Q I r h;exact wpAny_assign_Name (xB I hN hi hx r (fun s' I'=>⟨_,H,I',h⟩) hf)
def TZ:Oi:=fun vs σ H Q=>vs=[]/\Q σ H
def QD (t:TG) (u:Oi):Oi:=fun vs σ H Q=>∃ v r,vs=v::r/\t v σ H fun σ' H'=>u r σ' H' Q
theorem A0:SQ X [] TZ:=by
 intro pins s σ H vs us Q I r h;obtain ⟨e,h⟩:=h;subst e;cases r;exact assignInOrder_nil ⟨σ,H,I,h⟩
theorem mW {e:Expr} {es:List Expr} {t:TG} {u:Oi} (h1:PG X e t) (h2:SQ X es u)
  (hs:(assignEach (e::es) X.env).map (·.2)=assign e X.env::(assignEach es X.env).map (·.2):=by rfl):SQ X (e::es) (QD t u):=by
 intro pins s σ H vs us Q I r h;obtain ⟨v,vr,e1,h⟩:=h;subst e1;cases r with
 | cons r rr=>
  rw [hs];refine assignInOrder_cons (cT (h1 pins s σ H _ _ _ I r h) fun _ s1 ⟨σ1,H1,I1,q1⟩=>?_);exact h2 pins s1 σ1 H1 _ _ Q I1 rr q1
def Ua (K:Zqq) (n:Nat) (t:Oi):TG:=fun v σ H Q=>∃ a xs,v=.ref a/\j0 K H a xs/\xs.length=n/\t xs σ H Q
theorem Ei {es:List Expr} {k:Nat} {t:Oi} {n:Nat} (hc:X.calm=true) (h:SQ X es t)
  (hn:(assignEach es X.env).length=n:=by rfl) (hst:(assignEach es X.env).findIdx? (·.1)=none:=by rfl):PG X (.Tuple es k pos) (Ua X.K n t):=by
 intro pins s σ H v u Q I r hw;obtain ⟨a,xs,e1,hq,hl,hw⟩:=hw;subst e1;cases r;obtain ⟨its,rv,ht,hz⟩:=I.tuple hq;refine assign_Tuple_tuple (I.ok.hd hc) ht (by simp [hn,<- hl,rv.length]) hst fun h' hx=>?_;have I1:Inv X pins σ H { s with heap:=h' }:=I.kept (t':=s.toks) fun b o e=>hx b o (Nat.ne_of_lt (Heap.lt_size e)) e
 exact h pins _ σ H xs _ Q I1 (by simpa using rv) hw
def Ub (to ti:TE) (t:IL):TG:=fun v σ H Q=>to σ H fun o H1=>ti σ H1 fun i H2=>t o i v H2 fun H3=>Q σ H3
theorem IM {o i:Expr} {to ti:TE} {t:IL} (ho:PE X o to) (hi:PE X i ti) (hs:Oj X t)
   (ha:∀ v,assign (.Subscript o i pos) X.env v=(do
     let ov <- holding [v] (eval o X.env)
     let iv <- holding [v,ov] (eval i X.env)
     standAt pos
     holding [v,ov,iv] (setItem ov iv v)
     release [v,ov,iv] []):=by intro _;rfl):PG X (.Subscript o i pos) (Ub to ti t):=by
 intro pins s σ H v u Q I r h;rw [ha];refine wpAny_bind (wpAny_holding (cT (ho pins s σ H _ I h) fun ov s1 ⟨x,H1,I1,r1,q1⟩=>?_));refine wpAny_bind (wpAny_holding (cT (hi pins s1 σ H1 _ I1 q1) fun iv s2 ⟨y,H2,I2,r2,q2⟩=>?_));refine wpAny_bind (wpAny_standAt (wpAny_bind (wpAny_holding (cT (hs pins s2 σ H2 x y v ov iv u _ I2 r1 r2 r q2) fun _ s3 ⟨H3,I3,q3⟩=>?_))));exact wpAny_release ⟨σ,H3,I3,q3⟩
def L0 (te:TE) (g:TG):TS:=fun D σ H=>te σ H fun x H1=>g x σ H1 D.nx
theorem IP {tg e:Expr} {te:TE} {g:TG} (he:PE X e te) (hg:PG X tg g) (hs:swapsWithSole [tg] e pos.line X.env=pure false:=by rfl) (hw:swappedStores [tg] e X.env=pure none:=by rfl)
  (h1:(assignEach [tg] X.env).map (·.2)=[assign tg X.env]:=by rfl):PS X (.Assign [tg] e pos) (L0 te g):=by
 intro pins s σ H D I h;refine wpAny_Assign_stores (cT (he pins s σ H _ I h) fun v s1 ⟨x,H1,I1,r1,q1⟩=>?_) hs hw;rw [h1];exact cT (hg pins s1 σ H1 x v _ I1 r1 q1) fun _ s2 q=>q
theorem aQ {i:Nat} {x:Str} {e:Expr} {te:TE} {pos':Pos} (hN:X.N.Nodup) (hi:X.N[i]?=some x) (hx:Loc X.env.scope x) (he:PE X e te) (hs:swapsWith e (some (.Name x pos')) pos.line X.env=pure false:=by rfl) (hf:X.fn x=true\/X.env.scope.names.lookup x=some .local:=by first | exact .inl rfl | exact .inr rfl | assumption) :
  PS X (.Assign [.Name x pos'] e pos) (L0 te (zB i)):=by
 intro pins s σ H D I h;refine wpAny_Assign_Name (cT (he pins s σ H _ I h) fun v s1 ⟨y,H1,I1,r1,q1⟩=>?_) hs;exact xB I1 hN hi hx r1 (fun s2 I2=>⟨_,H1,I2,q1⟩) hf
def Uc (i:Nat) (te:TE) (ti:Qt):TS:=fun D σ H=>∃ x,σ[i]?=some (some x)/\te σ H fun y H1=>ti x y H1 fun z H2=>D.nx (σ.set i (some z)) H2
theorem Ol {i:Nat} {x:Str} {e:Expr} {te:TE} {op:Operator} {ti:Qt} {pos':Pos} (hN:X.N.Nodup) (hi:X.N[i]?=some x) (hx:Loc X.env.scope x) (he:PE X e te) (ho:SR X op ti) (hf:X.fn x=true\/X.env.scope.names.lookup x=some .local:=by first | exact .inl rfl | exact .inr rfl | assumption) :
   PS X (.AugAssign (.Name x pos') op e pos) (Uc i te ti):=by
 intro pins s σ H D I h;obtain ⟨v,e1,h⟩:=h;obtain ⟨m,hn,hl⟩:=I.loc;have WU:Oe X.env.scope x:=by rcases hx with k | k;exact .inl k;exact .inr (.inl k)
 obtain ⟨u,r,l⟩:=hl i x v hi e1 WU;refine wpAny_AugAssign_Name ?_;have go:wpAny (model X.prog X.w) X.A (eval e X.env) (fun w s₂=>wpAny (model X.prog X.w) X.A (inplaceOp op u w) (fun r s₃=>wpAny (model X.prog X.w) X.A (storeName X.env x r) (fun _=>SP X pins D .next) X.xe s₃) X.xe s₂) X.xe s:=by
   refine cT (he pins s σ H _ I h) fun w s1 ⟨y,H1,I1,r1,q1⟩=>?_;refine cT (ho pins s1 σ H1 v y u w _ I1 r r1 q1) fun z s2 ⟨zv,H2,I2,r2,q2⟩=>?_;exact xB I2 hN hi hx r2 (fun s3 I3=>⟨_,H2,I3,q2⟩) hf
 rcases l with ⟨hk,hm⟩ | ⟨hk,c,hc,hcell⟩
 . exact wpAny_loadName_local I.ok.kind hk hn hm go
 . rcases hk with hk | hk
   . exact wpAny_loadName_cell I.ok.kind hk hc hcell go
   . rcases hx with k | k
     . have:X.env.scope.names.lookup x=some .free:=hk
       rw [k] at this;cases this
     . have:X.env.scope.names.lookup x=some .free:=hk
       rw [k] at this;cases this
def QE (to ti te:TE) (L1:V->V->Hp->VK->Prop) (SS:Qt) (L3:IL):TS:=fun D σ H=>to σ H fun o H1=>ti σ H1 fun i H2=>L1 o i H2 fun x H3=>te σ H3 fun y H4=>SS x y H4 fun z H5=>L3 o i z H5 fun H6=>D.nx σ H6
def QF (X:Cx) (t:V->V->Hp->VK->Prop):Prop:=
 ∀ (pins:List (Addr×Obj)) (s:Shared) (σ:St) (H:Hp) (o i:V) (ov iv:Value) (Q:VK),Inv X pins σ H s->RelV o ov->RelV i iv->t o i H Q->
   wpAny (model X.prog X.w) X.A (getItem ov iv) (EP X pins σ Q) X.xe s
theorem wR {o i e:Expr} {to ti te:TE} {L1:V->V->Hp->VK->Prop} {SS:Qt} {L3:IL} {op:Operator} {tpos:Pos} (ho:PE X o to) (hi:PE X i ti) (hg:QF X L1) (he:PE X e te) (hp:SR X op SS) (hs:Oj X L3)
  (ha:∀ ov iv new,augStore i ov iv new=(do holding [new,ov,iv] (setItem ov iv new);release [new,ov,iv] [];pure .next):=by intros;rfl):PS X (.AugAssign (.Subscript o i tpos) op e pos) (QE to ti te L1 SS L3):=by
 intro pins s σ H D I h;refine wpAny_AugAssign_SubscriptAny (cT (ho pins s σ H _ I h) fun ov s1 ⟨x1,H1,I1,r1,q1⟩=>?_) ha;refine cT (hi pins s1 σ H1 _ I1 q1) fun iv s2 ⟨x2,H2,I2,r2,q2⟩=>?_;refine cT (hg pins s2 σ H2 x1 x2 ov iv _ I2 r1 r2 q2) fun old s3 ⟨x3,H3,I3,r3,q3⟩=>?_;refine cT (he pins s3 σ H3 _ I3 q3) fun v s4 ⟨x4,H4,I4,r4,q4⟩=>?_;refine cT (hp pins s4 σ H4 x3 x4 old v _ I4 r3 r4 q4) fun new s5 ⟨x5,H5,I5,r5,q5⟩=>?_;exact cT (hs pins s5 σ H5 x1 x2 x5 ov iv new _ I5 r1 r2 r5 q5) fun _ s6 ⟨H6,I6,q6⟩=>⟨σ,H6,I6,q6⟩
def V3 (f:Int->Int->Int):Qt:=fun x y H Q=>∃ i j,x=.int i/\y=.int j/\Q (.int (f i j)) H
theorem Ej:SR X .Add (V3 fun i j=>i+j):=by
 intro pins s σ H x y v u Q I r1 r2 h;obtain ⟨i,j,e1,e2,q⟩:=h;subst e1;subst e2;obtain ⟨t,rfl⟩:=r1;obtain ⟨t',rfl⟩:=r2;exact iadd_int ⟨.int _,H,I.tok _,⟨_,rfl⟩,q⟩
theorem IQ:SR X .Sub (V3 fun i j=>i - j):=by
 intro pins s σ H x y v u Q I r1 r2 h;obtain ⟨i,j,e1,e2,q⟩:=h;subst e1;subst e2;obtain ⟨t,rfl⟩:=r1;obtain ⟨t',rfl⟩:=r2;exact isub_int ⟨.int _,H,I.tok _,⟨_,rfl⟩,q⟩
def IU (c:TT) (tb:TS):TS:=fun D σ H=>∃ W:Nat->St->Hp->Prop,(∃ m,W m σ H)/\∀ m σ H,W m σ H->
 c σ H fun b H1=>if b=true then ∃ N:St->Hp->Prop,(∀ σ' H',N σ' H'->∃ m',m' < m/\W m' σ' H')/\tb { D with nx:=N,ct:=N,bk:=D.nx } σ H1 else D.nx σ H1
theorem IV {c:Expr} {body:List Stmt} {tc:TT} {tb:TS} (hp:PassesOwn (model X.prog X.w) X.A X.env X.xe) (hc:PT X c tc) (hb:Ax X body tb):PS X (.While c body [] pos) (IU tc tb):=by
 intro pins s σ H D I h;obtain ⟨W,⟨m0,w0⟩,turn⟩:=h;refine wpAny_While (codeAny_whileLoop (fun n s'=>∃ σ' H',Inv X pins σ' H' s'/\W n σ' H') ?_ m0 ⟨σ,H,I,w0⟩);rintro n s1 ⟨σ1,H1,I1,w1⟩;refine wpAny_passesOwn hp (cT (hc pins s1 σ1 H1 _ I1 (turn n σ1 H1 w1)) fun b s2 ⟨H2,I2,q2⟩=>?_);cases b with
 | true=>
  obtain ⟨N,hN,q2⟩:=q2;rw [if_pos rfl];refine wpAny_passesOwn hp (cT (hb pins s2 σ1 H2 _ I2 q2) fun f s3 q3=>?_);cases f with
  | next=>
   obtain ⟨σ3,H3,I3,n3⟩:=q3;obtain ⟨m',hm,w3⟩:=hN σ3 H3 n3;exact ⟨m',hm,σ3,H3,I3,w3⟩
  | cont=>
   obtain ⟨σ3,H3,I3,n3⟩:=q3;obtain ⟨m',hm,w3⟩:=hN σ3 H3 n3;exact ⟨m',hm,σ3,H3,I3,w3⟩
  | brk=>exact q3
  | ret v=>exact q3
 | false=>
  rw [if_neg Bool.false_ne_true];exact wpAny_execs_nil ⟨σ1,H2,I2,q2⟩
end
structure It where
 go:Nat->Hp->Prop
 IW:Nat->Hp->V->Hp->Prop
 stop:Nat->Hp->Prop
def xE (X:Cx) (pins:List (Addr×Obj)) (H:Hp) (b:Addr):Prop:=
 H b=none/\b ≠ X.env.locals/\b ∉ X.fs/\(b ∈ X.ex\/X.u9.heap.objs.size<=b)/\(∀ x c,X.env.cells.lookup x=some c->c ≠ b)/\∀ p ∈ X.pn++pins,p.1 ≠ b
theorem Inv.G5 {X:Cx} {pins:List (Addr×Obj)} {σ:St} {H H':Hp} {s:Shared} {b:Addr} (I:Inv X pins σ H s) (hb:s.heap.objs.size<=b) (hn:H' b=none):xE X pins H' b:=by
 refine ⟨hn,Nat.ne_of_gt (Nat.lt_of_lt_of_le I.lt hb),I.TN hb,.inr (Nat.le_trans I.sz hb),fun x c e z=>?_,fun p hp z=>?_⟩
 . obtain ⟨v,q⟩:=I.cell x c e
   exact absurd (Nat.lt_of_lt_of_le q.lt (by rw [z];exact hb)) (Nat.lt_irrefl _)
 . exact absurd (Nat.lt_of_lt_of_le (Heap.lt_size (I.pin p hp).1) (by rw [z];exact hb)) (Nat.lt_irrefl _)
structure Turn (P:Program) (w:World) (K:Zqq) (tg:Expr) (J:It) (fp:List Addr) (it:Addr) (tn:Nat->Heap->Prop):Prop where
 mem:it ∈ fp
 obj:∀ i h,tn i h->∀ b ∈ fp,∃ o,h.get? b=some o/\∀ v,o.data ≠ .cell v
 keep:∀ i h h',tn i h->(∀ b ∈ fp,∀ o,h.get? b=some o->h'.get? b=some o)->tn i h'
 item:∀ (X:Cx),X.prog=P->X.w=w->X.K=K->X.calm=true->∀ (i:Nat) (pins:List (Addr×Obj)) (s:Shared) (σ:St) (H:Hp) (E:Value->Shared->Prop),Inv X pins σ H s->(∀ b ∈ fp,xE X pins H b)->tn i s.heap->J.go i H->
   wpAny (model P w) X.A (pyNext (.ref it)) (fun r s1=>∃ u,r=some u /\
     wpAny (model P w) X.A (letOwnedTupleGo tg (.ref it) u) (fun _ s2=>∃ x H',Inv X pins σ H' s2/\RelV x u/\J.IW i H x H'/\tn (i+1) s2.heap/\∀ b ∈ fp,H' b=none) E s1) E s
 done:∀ (X:Cx),X.prog=P->X.w=w->X.K=K->X.calm=true->∀ (i:Nat) (pins:List (Addr×Obj)) (s:Shared) (σ:St) (H:Hp) (E:Value->Shared->Prop),Inv X pins σ H s->(∀ b ∈ fp,xE X pins H b)->tn i s.heap->J.stop i H->
   wpAny (model P w) X.A (pyNext (.ref it)) (fun r s1=>r=none/\Inv X pins σ H s1) E s
 self:∀ (A:Around) (i:Nat) (s:Shared) (Q:Value->Shared->Prop) (E:Value->Shared->Prop),tn i s.heap->Q (.ref it) s->wpAny (model P w) A (pyIter (.ref it)) Q E s
abbrev TI:=St->Hp->(It->Hp->Prop)->Prop
def Ud (X:Cx) (pins:List (Addr×Obj)) (σ:St) (tg:Expr) (R:It->Hp->Prop) (itv:Value) (s2:Shared):Prop:=
 ∃ (it:Addr) (fp:List Addr) (tn:Nat->Heap->Prop) (J:It) (H':Hp),itv=.ref it/\Inv X pins σ H' s2/\Turn X.prog X.w X.K tg J fp it tn/\tn 0 s2.heap/\(∀ b ∈ fp,xE X pins H' b)/\R J H'
def PI (X:Cx) (tg iter:Expr) (wi:TI):Prop:=
 ∀ (pins:List (Addr×Obj)) (s:Shared) (σ:St) (H:Hp) (R:It->Hp->Prop),Inv X pins σ H s->wi σ H R->
   wpAny (model X.prog X.w) X.A (eval iter X.env) (fun v s1=>wpAny (model X.prog X.w) X.A (pyIter v) (Ud X pins σ tg R) X.xe s1) X.xe s
theorem zC {M:Model} {A:Around} {E:Value->Shared->Prop} {s:Shared} {tg:Expr} {it:Addr} {u:Value} {o:Obj} {n:String} {vs:Array Value} {Q:Unit->Shared->Prop} (ho:s.heap.get? it=some o) (hc:o.cls=.type n) (hd:o.data=.fields vs)
   (hn:["enumerate","zip","dict_itemiterator","dict_reverseitemiterator","odict_iterator","itertools.zip_longest","itertools.pairwise"].contains n=false) (hQ:Q () s):wpAny M A (letOwnedTupleGo tg (.ref it) u) Q E s:=by
 unfold letOwnedTupleGo;cases tg<;>first
   | exact wpAny_pure hQ
   | (cases u<;>first
       | exact wpAny_pure hQ
       | (refine wpAny_bind (wpAny_load ho ?_)
          rw [hc,hd]
          show wpAny M A (if (["enumerate","zip","dict_itemiterator","dict_reverseitemiterator","odict_iterator","itertools.zip_longest","itertools.pairwise"].contains n&&vs[0]?==some (rawInt _))=true then _ else _) Q E s
          rw [if_neg (by intro h;rw [hn,Bool.false_and] at h;cases h)]
          exact wpAny_pure hQ))
def N3 (K:Zqq) (a:Addr):It:=
 ⟨fun i H=>∃ xs x,c8 K H a xs/\xs[i]?=some x,fun i H x H'=>H'=H/\∀ xs,c8 K H a xs->xs[i]?=some x,fun i H=>∃ xs,c8 K H a xs/\xs.length<=i⟩
def QG (K:Zqq) (a:Addr):It:=
 ⟨fun i H=>∃ xs x,j0 K H a xs/\xs[i]?=some x,fun i H x H'=>H'=H/\∀ xs,j0 K H a xs->xs[i]?=some x,fun i H=>∃ xs,j0 K H a xs/\xs.length<=i⟩
def L4 (lo:Int) (n:Nat):It:=⟨fun i _=>i < n,fun i H x H'=>H'=H/\x=.int (lo+i),fun i _=>n<=i⟩
theorem G6 {P:Program} {w:World} {K:Zqq} {tg:Expr} (a it:Addr):Turn P w K tg (N3 K a) [it] it (fun i h=>h.IsListIter it a i) where
 mem:=by simp
 obj:=fun i h st b hb=>by
  have e:b=it:=by simpa using hb
  subst e
  obtain ⟨o,e,c,d⟩:=st
  exact ⟨o,e,fun v z=>by rw [d] at z;cases z⟩
 keep:=fun i h h' st k=>st.at fun o e=>k it (by simp) o e
 item:=by
  intro X hP hw hK hc i pins s σ H E I hf st hg;subst hP hw hK;obtain ⟨xs,x,hq,hx⟩:=hg;obtain ⟨its,rv,p,hz⟩:=I.list hq;obtain ⟨u,hu,ru⟩:=rv.get hx;obtain ⟨f0,f1,f2,f3,f4,f5⟩:=hf it (by simp);refine wpAny_pyNext_list_item st p.isList (x:=u) (by simpa using hu) fun h' st' sb=>?_;have I1:Inv X pins σ H { s with heap:=h' }:=I.turned (t':=s.toks) (fun b o hb e=>(sb.2 b hb).trans e) f0 f1 f3 f4 f5
  obtain ⟨o,e,c,d⟩:=id st';exact ⟨u,rfl,zC (s:={ s with heap:=h' }) e c d (by decide) ⟨x,H,I1,ru,⟨rfl,fun ys hy=>by rw [I.Ci hy hq];exact hx⟩,st',fun b hb=>(hf b hb).1⟩⟩
 done:=by
  intro X hP hw hK hc i pins s σ H E I hf st hg;subst hP hw hK;obtain ⟨xs,hq,hx⟩:=hg;obtain ⟨its,rv,p,hz⟩:=I.list hq;obtain ⟨f0,f1,f2,f3,f4,f5⟩:=hf it (by simp);have hl:=rv.length;exact wpAny_pyNext_list_end (I.ok.hd hc) st p.isList (by simp;omega) fun h' eb=>⟨rfl,I.turned (t':=s.toks) (fun b o hb e=>eb b o hb e) f0 f1 f3 f4 f5⟩
 self:=fun _ _ _ _ _ st h=>wpAny_pyIter_listiter st h
theorem Ek {P:Program} {w:World} {K:Zqq} {tg:Expr} (a it:Addr):Turn P w K tg (QG K a) [it] it (fun i h=>h.IsTupleIter it a i) where
 mem:=by simp
 obj:=fun i h st b hb=>by
  have e:b=it:=by simpa using hb
  subst e
  obtain ⟨o,e,c,d⟩:=st
  exact ⟨o,e,fun v z=>by rw [d] at z;cases z⟩
 keep:=fun i h h' st k=>st.at fun o e=>k it (by simp) o e
 item:=by
  intro X hP hw hK hc i pins s σ H E I hf st hg;subst hP hw hK;obtain ⟨xs,x,hq,hx⟩:=hg;obtain ⟨its,rv,p,hz⟩:=I.tuple hq;obtain ⟨u,hu,ru⟩:=rv.get hx;obtain ⟨f0,f1,f2,f3,f4,f5⟩:=hf it (by simp);refine wpAny_pyNext_tuple_item st (show s.heap.IsTuple a its.toArray from p) (x:=u) (by simpa using hu) fun h' st' sb=>?_;have I1:Inv X pins σ H { s with heap:=h' }:=I.turned (t':=s.toks) (fun b o hb e=>(sb.2 b hb).trans e) f0 f1 f3 f4 f5
  obtain ⟨o,e,c,d⟩:=id st';exact ⟨u,rfl,zC (s:={ s with heap:=h' }) e c d (by decide) ⟨x,H,I1,ru,⟨rfl,fun ys hy=>by rw [I.G4 hy hq];exact hx⟩,st',fun b hb=>(hf b hb).1⟩⟩
 done:=by
  intro X hP hw hK hc i pins s σ H E I hf st hg;subst hP hw hK;obtain ⟨xs,hq,hx⟩:=hg;obtain ⟨its,rv,p,hz⟩:=I.tuple hq;obtain ⟨f0,f1,f2,f3,f4,f5⟩:=hf it (by simp);have hl:=rv.length;exact wpAny_pyNext_tuple_end (I.ok.hd hc) st (show s.heap.IsTuple a its.toArray from p) (by simp;omega) fun h' eb=>⟨rfl,I.turned (t':=s.toks) (fun b o hb e=>eb b o hb e) f0 f1 f3 f4 f5⟩
 self:=fun _ _ _ _ _ st h=>wpAny_pyIter_tupleiter st h
theorem El {P:Program} {w:World} {K:Zqq} {tg:Expr} (it:Addr) (lo:Int) (n:Nat):Turn P w K tg (L4 lo n) [it] it (fun i h=>IsRangeIter h it (lo+(i:Nat) * 1) ((n:Int) - (i:Nat)) 1) where
 mem:=by simp
 obj:=fun i h st b hb=>by
  have e:b=it:=by simpa using hb
  subst e
  exact ⟨_,st,fun v z=>by
   have z':Data.fields _=Data.cell v:=z
   cases z'⟩
 keep:=fun i h h' st k=>k it (by simp) _ st
 item:=by
  intro X hP hw hK hc i pins s σ H E I hf st hg;subst hP hw hK;obtain ⟨f0,f1,f2,f3,f4,f5⟩:=hf it (by simp);have W:=Walks.range (prog:=X.prog) (w:=X.w) (I.ok.hd hc) it lo 1 n;refine W.item i s _ _ hg st fun v h' tk hv st' kk=>?_;obtain ⟨t,rfl⟩:=hv;have I1:Inv X pins σ H { s with heap:=h',toks:=tk }:=I.turned (fun b o hb e=>kk b o (by simpa using hb) e) f0 f1 f3 f4 f5
  refine ⟨_,rfl,zC (s:={ s with heap:=h',toks:=tk }) (n:="range_iterator") st' rfl rfl (by decide) ⟨.int (lo+i),H,I1,⟨t,?_⟩,⟨rfl,rfl⟩,st',fun b hb=>(hf b hb).1⟩⟩
  rw [Int.mul_one]
 done:=by
  intro X hP hw hK hc i pins s σ H E I hf st hg;subst hP hw hK;obtain ⟨f0,f1,f2,f3,f4,f5⟩:=hf it (by simp);exact wpAny_pyNext_range_end (I.ok.hd hc) st (by have:n<=i:=hg;omega) fun h' eb=>⟨rfl,I.turned (t':=s.toks) (fun b o hb e=>eb b o hb e) f0 f1 f3 f4 f5⟩
 self:=fun _ _ _ _ _ st h=>wpAny_pyIter_rangeiter st h
end L2
namespace L2
open PySem PySem.Spec PyProof.Rows
section
variable {X:Cx} {tg:Expr}
def QH (K:Zqq) (tl:TE):TI:=fun σ H R=>tl σ H fun x H1=>∃ a,x=.ref a/\(∃ xs,c8 K H1 a xs)/\R (N3 K a) H1
def Ue (K:Zqq) (tl:TE):TI:=fun σ H R=>tl σ H fun x H1=>∃ a,x=.ref a/\(∃ xs,j0 K H1 a xs)/\R (QG K a) H1
theorem kZ {l:Expr} {tl:TE} (hl:PE X l tl):PI X tg l (QH X.K tl):=by
 intro pins s σ H R I h;refine cT (hl pins s σ H _ I h) fun v s1 ⟨x,H1,I1,r1,q1⟩=>?_;obtain ⟨a,e,⟨xs,hq⟩,q⟩:=q1;subst e;cases r1;obtain ⟨its,rv,p,hz⟩:=I1.list hq;refine wpAny_pyIter_list p.isList ?_;refine ⟨s1.heap.objs.size,[s1.heap.objs.size],_,_,H1,rfl,I1.kept (t':=s1.toks) fun b o e=>Heap.get?_push_of_some _ e,G6 a _,⟨_,Heap.get?_push_size _ rfl,rfl,rfl⟩,fun b hb=>?_,q⟩;have e:b=s1.heap.objs.size:=by simpa using hb
 subst e;exact I1.G5 (Nat.le_refl _) (I1.hok.fresh (Nat.le_refl _))
theorem uF {l:Expr} {tl:TE} (hl:PE X l tl):PI X tg l (Ue X.K tl):=by
 intro pins s σ H R I h;refine cT (hl pins s σ H _ I h) fun v s1 ⟨x,H1,I1,r1,q1⟩=>?_;obtain ⟨a,e,⟨xs,hq⟩,q⟩:=q1;subst e;cases r1;obtain ⟨its,rv,p,hz⟩:=I1.tuple hq;refine wpAny_pyIter_tuple (show s1.heap.IsTuple a its.toArray from p) ?_;refine ⟨s1.heap.objs.size,[s1.heap.objs.size],_,_,H1,rfl,I1.kept (t':=s1.toks) fun b o e=>Heap.get?_push_of_some _ e,Ek a _,⟨_,Heap.get?_push_size _ rfl,rfl,rfl⟩,fun b hb=>?_,q⟩;have e:b=s1.heap.objs.size:=by simpa using hb
 subst e;exact I1.G5 (Nat.le_refl _) (I1.hok.fresh (Nat.le_refl _))
theorem IX {pins:List (Addr×Obj)} {σ:St} {H:Hp} {s:Shared} {R:It->Hp->Prop} {E:Value->Shared->Prop} {lo hi:Int} {t u v:Tok} {tk:Nat} (I:Inv X pins σ H s) (h1:-(2 ^ 62)<=lo) (h2:lo < 2 ^ 62) (h3:-(2 ^ 62)<=hi) (h4:hi < 2 ^ 62)
   (q:R (L4 lo (hi - lo).toNat) H):wpAny (model X.prog X.w) X.A (pyIter (.ref s.heap.objs.size)) (Ud X pins σ tg R) E { s with heap:=s.heap.push { cls:=.type "range",data:=.fields #[.int lo t,.int hi u,.int 1 v] },toks:=tk }:=by
 refine wpAny_pyIter_range (IsRange.new ..) (small_one h1 h2 h3 h4) ?_;have I1:Inv X pins σ H { s with heap:=s.heap.push { cls:=.type "range",data:=.fields #[.int lo t,.int hi u,.int 1 v] },toks:=tk }:=I.kept fun b o e=>Heap.get?_push_of_some _ e
 refine ⟨(s.heap.push { cls:=.type "range",data:=.fields #[.int lo t,.int hi u,.int 1 v] }).objs.size,[(s.heap.push { cls:=.type "range",data:=.fields #[.int lo t,.int hi u,.int 1 v] }).objs.size],_,_,H,rfl,
   I1.kept (t':=tk) fun b o e=>Heap.get?_push_of_some _ e,El _ lo (hi - lo).toNat,?_,fun b hb=>?_,q⟩
 . have e1:lo+((0:Nat):Int) * 1=lo:=by simp
   have e2:(((hi - lo).toNat:Nat):Int) - ((0:Nat):Int)=Builtin.Range.rangeSize lo hi 1:=by rw [rangeSize_one];split<;>omega
   show IsRangeIter _ _ (lo+((0:Nat):Int) * 1) ((((hi - lo).toNat:Nat):Int) - ((0:Nat):Int)) 1;rw [e1,e2];exact Heap.get?_push_size _ rfl
 . have e:b=(s.heap.push { cls:=.type "range",data:=.fields #[.int lo t,.int hi u,.int 1 v] }).objs.size:=by simpa using hb
   subst e;exact I1.G5 (Nat.le_refl _) (I1.hok.fresh (Nat.le_refl _))
def QI (ta:TA):TI:=fun σ H R=>ta σ H fun vs H1=>∃ j:Int,vs=[.int j]/\-(2 ^ 62)<=j/\j < 2 ^ 62/\R (L4 0 j.toNat) H1
theorem ly {a:Expr} {ta:TA} {p pos:Pos} (hg:Gl X "range") (hm:X.mg "range"=none) (ha:PA X [a] ta) (hs:starEach [a] X.env=[(false,eval a X.env)]:=by rfl):PI X tg (.Call (.Name "range" p) [a] [] pos) (QI ta):=by
 intro pins s σ H R I h;refine Call_ (rZ I hg hm boot_range (PyProof.Rows.callWith_type1 (cT (ha pos pins s σ H _ I h) fun us s1 ⟨vs,H1,I1,r1,q1⟩=>?_) hs rfl));obtain ⟨j,e,q1,q2,q⟩:=q1;subst e;cases r1 with
 | cons r rr=>
  cases rr;obtain ⟨t,rfl⟩:=r;exact call_range_1 (IX I1 (by omega) (by omega) q1 q2 (by simpa using q))
def Ug (wi:TI) (g:TG) (tb:TS):TS:=fun D σ H=>wi σ H fun J H1=>∃ W:Nat->Nat->St->Hp->Prop,(∃ m,W 0 m σ H1)/\∀ i m σ H,W i m σ H->
 (J.stop i H/\D.nx σ H)\/(J.go i H/\∃ N:St->Hp->Prop,(∀ σ' H',N σ' H'->∃ m',m' < m/\W (i+1) m' σ' H')/\∀ x H',J.IW i H x H'->g x σ H' fun σ2 H2=>tb { D with nx:=N,ct:=N,bk:=D.nx } σ2 H2)
def xF (fp:List Addr) (h:Heap):List (Addr×Obj):=fp.filterMap fun b=>(h.get? b).map fun o=>(b,o)
theorem se {fp:List Addr} {h:Heap} {b:Addr} {o:Obj} (hb:b ∈ fp) (e:h.get? b=some o):(b,o) ∈ xF fp h:=List.mem_filterMap.mpr ⟨b,hb,by rw [e];rfl⟩
theorem G7 {fp:List Addr} {h:Heap} {p:Addr×Obj} (hp:p ∈ xF fp h):p.1 ∈ fp/\h.get? p.1=some p.2:=by
 obtain ⟨b,hb,e⟩:=List.mem_filterMap.mp hp;cases q:h.get? b with
 | none=>rw [q] at e;cases e
 | some o=>
  rw [q] at e;have e':(b,o)=p:=Option.some.inj e;subst e';exact ⟨hb,q⟩
theorem Inv.pinned {pins:List (Addr×Obj)} {σ:St} {H:Hp} {s:Shared} {fp:List Addr} (I:Inv X pins σ H s) (hf:∀ b ∈ fp,xE X pins H b) (ho:∀ b ∈ fp,∃ o,s.heap.get? b=some o/\∀ v,o.data ≠ .cell v):Inv X (pins++xF fp s.heap) σ H s:=
 I.Fi fun p hp=>(List.mem_append.mp hp).elim (fun z=>I.pin p (List.mem_append_right _ z)) fun z=>by
  obtain ⟨hb,e⟩:=G7 z
  obtain ⟨f0,f1,f2,_⟩:=hf p.1 hb
  obtain ⟨o,e',d⟩:=ho p.1 hb
  rw [e] at e';cases e'
  exact ⟨e,f0,f1,f2,d⟩
theorem Inv.sR {pins pl:List (Addr×Obj)} {σ:St} {H:Hp} {s:Shared} (I:Inv X (pins++pl) σ H s):Inv X pins σ H s:=I.Fi fun p hp=>I.pin p (List.mem_append_right _ (List.mem_append_left _ hp))
theorem dN {iter:Expr} {body:List Stmt} {wi:TI} {g:TG} {tb:TS} {pos:Pos} (hp:PassesOwn (model X.prog X.w) X.A X.env X.xe) (hc:X.calm=true) (hi:PI X tg iter wi) (hg:PG X tg g) (hb:Ax X body tb)
   (hs:∀ x,foldedSetIterable iter X.env x=pure x:=by intro _;rfl):PS X (.For tg iter body [] pos) (Ug wi g tb):=by
 intro pins s σ H D I h;refine wpAny_For (cT (hi pins s σ H _ I h) fun v s1 h1=>cT h1 fun itv s2 h2=>?_) hs;obtain ⟨it,fp,tn,J,H2,e,I2,T,st2,f2,W,⟨m0,w0⟩,turn⟩:=h2;subst e;have Em:∀ {H':Hp},(∀ b ∈ fp,H' b=none)->∀ b ∈ fp,xE X pins H' b:=fun hn b hb=>⟨hn b hb,(f2 b hb).2⟩;refine codeAny_forLoop_any (fun n s'=>∃ i σ' H',Inv X pins σ' H' s'/\tn i s'.heap/\(∀ b ∈ fp,H' b=none)/\W i n σ' H') ?_ m0 ⟨0,σ,H2,I2,st2,fun b hb=>(f2 b hb).1,w0⟩;rintro n s3 ⟨i,σ3,H3,I3,st3,V4,w3⟩;rcases turn i n σ3 H3 w3 with ⟨stop,qn⟩ | ⟨go,N,hN,step⟩
 . refine wpAny_passesOwn hp (cT (T.done X rfl rfl rfl hc i pins s3 σ3 H3 X.xe I3 (Em V4) st3 stop) fun r s4 ⟨hr,I4⟩=>?_)
   subst hr;exact wpAny_execs_nil ⟨σ3,H3,I4,qn⟩
 . refine wpAny_passesOwn hp (cT (T.item X rfl rfl rfl hc i pins s3 σ3 H3 X.xe I3 (Em V4) st3 go) fun r s4 ⟨u,hr,h4⟩=>?_)
   subst hr;refine wpAny_passesOwn hp (cT h4 fun _ s5 ⟨x,H5,I5,r5,y5,Qu,WV⟩=>?_);have WW:=I5.pinned (Em WV) (T.obj _ _ Qu);refine wpAny_passesOwn hp (cT (hg _ s5 σ3 H5 x u _ WW r5 (step x H5 y5)) fun _ s6 ⟨σ6,H6,I6,q6⟩=>?_);refine wpAny_passesOwn hp (cT (hb _ s6 σ6 H6 _ I6 q6) fun f s7 q7=>?_);have again:∀ {σ7:St} {H7:Hp},Inv X (pins++xF fp s5.heap) σ7 H7 s7->N σ7 H7->∃ m,m < n/\∃ i σ' H',Inv X pins σ' H' s7/\tn i s7.heap/\(∀ b ∈ fp,H' b=none)/\W i m σ' H':=fun {σ7 H7} I7 n7=>by
     obtain ⟨m',hm,w7⟩:=hN σ7 H7 n7;refine ⟨m',hm,i+1,σ7,H7,I7.sR,T.keep _ _ _ Qu fun b hb o e=>(I7.pin (b,o) (List.mem_append_right _ (List.mem_append_right _ (se hb e)))).1,fun b hb=>?_,w7⟩;obtain ⟨o,e,d⟩:=T.obj _ _ Qu b hb;exact (I7.pin (b,o) (List.mem_append_right _ (List.mem_append_right _ (se hb e)))).2.1
   cases f with
   | next=>obtain ⟨σ7,H7,I7,n7⟩:=q7;exact again I7 n7
   | cont=>obtain ⟨σ7,H7,I7,n7⟩:=q7;exact again I7 n7
   | brk=>obtain ⟨σ7,H7,I7,q7⟩:=q7;exact ⟨σ7,H7,I7.sR,q7⟩
   | ret v=>obtain ⟨x7,σ7,H7,I7,r7,q7⟩:=q7;exact ⟨x7,σ7,H7,I7.sR,r7,q7⟩
end
theorem l9 {K:Zqq} {a:Addr} {xs:List V} {g:TG} {tb:TS} {D:Ends} {σ:St} {H:Hp} (Pv:Nat->St->Hp->Prop) (h0:Pv 0 σ H) (hl:∀ i σ H,i<=xs.length->Pv i σ H->c8 K H a xs)
   (hs:∀ i x σ H,xs[i]?=some x->Pv i σ H->g x σ H fun σ2 H2=>tb { D with nx:=Pv (i+1),ct:=Pv (i+1),bk:=D.nx } σ2 H2) (hd:∀ σ H,Pv xs.length σ H->D.nx σ H) :
   ∃ W:Nat->Nat->St->Hp->Prop,(∃ m,W 0 m σ H)/\∀ i m σ H,W i m σ H->
     ((N3 K a).stop i H/\D.nx σ H)\/((N3 K a).go i H/\∃ N:St->Hp->Prop,(∀ σ' H',N σ' H'->∃ m',m' < m/\W (i+1) m' σ' H')/\∀ x H',(N3 K a).IW i H x H'->g x σ H' fun σ2 H2=>tb { D with nx:=N,ct:=N,bk:=D.nx } σ2 H2):=by
 refine ⟨fun i m σ H=>m=xs.length - i/\i<=xs.length/\Pv i σ H,⟨xs.length,by simp,Nat.zero_le _,h0⟩,?_⟩;rintro i m σ H ⟨rfl,hi,p⟩;have q:=hl i σ H hi p;by_cases hlt:i < xs.length
 . refine .inr ⟨⟨xs,xs[i],q,by simp [hlt]⟩,Pv (i+1),fun σ' H' p'=>⟨xs.length - (i+1),by omega,rfl,hlt,p'⟩,fun x H' y=>?_⟩
   obtain ⟨e,y⟩:=y;subst e;exact hs i x σ _ (y xs q) p
 . have e:i=xs.length:=by omega
   subst e;exact .inl ⟨⟨xs,q,Nat.le_refl _⟩,hd σ H p⟩
theorem qS {K:Zqq} {a:Addr} {xs:List V} {g:TG} {tb:TS} {D:Ends} {σ:St} {H:Hp} (Pv:Nat->St->Hp->Prop) (h0:Pv 0 σ H) (hl:∀ i σ H,i<=xs.length->Pv i σ H->j0 K H a xs)
   (hs:∀ i x σ H,xs[i]?=some x->Pv i σ H->g x σ H fun σ2 H2=>tb { D with nx:=Pv (i+1),ct:=Pv (i+1),bk:=D.nx } σ2 H2) (hd:∀ σ H,Pv xs.length σ H->D.nx σ H) :
   ∃ W:Nat->Nat->St->Hp->Prop,(∃ m,W 0 m σ H)/\∀ i m σ H,W i m σ H->
     ((QG K a).stop i H/\D.nx σ H)\/((QG K a).go i H/\∃ N:St->Hp->Prop,(∀ σ' H',N σ' H'->∃ m',m' < m/\W (i+1) m' σ' H')/\∀ x H',(QG K a).IW i H x H'->g x σ H' fun σ2 H2=>tb { D with nx:=N,ct:=N,bk:=D.nx } σ2 H2):=by
 refine ⟨fun i m σ H=>m=xs.length - i/\i<=xs.length/\Pv i σ H,⟨xs.length,by simp,Nat.zero_le _,h0⟩,?_⟩;rintro i m σ H ⟨rfl,hi,p⟩;have q:=hl i σ H hi p;by_cases hlt:i < xs.length
 . refine .inr ⟨⟨xs,xs[i],q,by simp [hlt]⟩,Pv (i+1),fun σ' H' p'=>⟨xs.length - (i+1),by omega,rfl,hlt,p'⟩,fun x H' y=>?_⟩
   obtain ⟨e,y⟩:=y;subst e;exact hs i x σ _ (y xs q) p
 . have e:i=xs.length:=by omega
   subst e;exact .inl ⟨⟨xs,q,Nat.le_refl _⟩,hd σ H p⟩
theorem qT {lo:Int} {n:Nat} {g:TG} {tb:TS} {D:Ends} {σ:St} {H:Hp} (Pv:Nat->St->Hp->Prop) (h0:Pv 0 σ H)
   (hs:∀ i σ H,i < n->Pv i σ H->g (.int (lo+i)) σ H fun σ2 H2=>tb { D with nx:=Pv (i+1),ct:=Pv (i+1),bk:=D.nx } σ2 H2) (hd:∀ σ H,Pv n σ H->D.nx σ H) :
   ∃ W:Nat->Nat->St->Hp->Prop,(∃ m,W 0 m σ H)/\∀ i m σ H,W i m σ H->
     ((L4 lo n).stop i H/\D.nx σ H)\/((L4 lo n).go i H/\∃ N:St->Hp->Prop,(∀ σ' H',N σ' H'->∃ m',m' < m/\W (i+1) m' σ' H')/\∀ x H',(L4 lo n).IW i H x H'->g x σ H' fun σ2 H2=>tb { D with nx:=N,ct:=N,bk:=D.nx } σ2 H2):=by
 refine ⟨fun i m σ H=>m=n - i/\i<=n/\Pv i σ H,⟨n,by simp,Nat.zero_le _,h0⟩,?_⟩;rintro i m σ H ⟨rfl,hi,p⟩;by_cases hlt:i < n
 . refine .inr ⟨hlt,Pv (i+1),fun σ' H' p'=>⟨n - (i+1),by omega,rfl,hlt,p'⟩,fun x H' y=>?_⟩
   obtain ⟨e,y⟩:=y;subst e y;exact hs i σ _ hlt p
 . have e:i=n:=by omega
   subst e;exact .inl ⟨Nat.le_refl _,hd σ H p⟩
end L2
namespace L2
open PySem PySem.Spec PyProof.Rows
abbrev R2:=V->V->Hp->VK->Prop
def vq (X:Cx) (f:Value->Value->Sem Value) (r:R2):Prop:=
 ∀ (pins:List (Addr×Obj)) (s:Shared) (σ:St) (H:Hp) (x y:V) (v u:Value) (Q:VK),Inv X pins σ H s->RelV x v->RelV y u->r x y H Q->
   wpAny (model X.prog X.w) X.A (f v u) (EP X pins σ Q) X.xe s
def Uh (X:Cx) (f:Value->Sem Value) (r:V->Hp->VK->Prop):Prop:=
 ∀ (pins:List (Addr×Obj)) (s:Shared) (σ:St) (H:Hp) (x:V) (v:Value) (Q:VK),Inv X pins σ H s->RelV x v->r x H Q->
   wpAny (model X.prog X.w) X.A (f v) (EP X pins σ Q) X.xe s
def vt (X:Cx) (f:Value) (r:List V->Hp->VK->Prop):Prop:=
 ∀ (pins:List (Addr×Obj)) (s:Shared) (σ:St) (H:Hp) (xs:List V) (us:List Value) (Q:VK),Inv X pins σ H s->Vals xs us->r xs H Q->
   wpAny (model X.prog X.w) X.A (call f us) (EP X pins σ Q) X.xe s
def Ui (X:Cx) (r:V->Hp->(Bool->Hp->Prop)->Prop):Prop:=
 ∀ (pins:List (Addr×Obj)) (s:Shared) (σ:St) (H:Hp) (x:V) (v:Value) (Q:Bool->Hp->Prop),Inv X pins σ H s->RelV x v->r x H Q->
   wpAny (model X.prog X.w) X.A (truthy v) (TP X pins σ Q) X.xe s
def SV (r:R2) (ta tb:TE):TE:=fun σ H Q=>ta σ H fun x H1=>tb σ H1 fun y H2=>r x y H2 Q
def WX (r:V->Hp->VK->Prop) (ta:TE):TE:=fun σ H Q=>ta σ H fun x H1=>r x H1 Q
def rI (C:Int->Int->Prop) (g:Int->Int->V):R2:=fun x y H Q=>∃ i j,x=.int i/\y=.int j/\C i j/\Q (g i j) H
def N4 (g:Int->Int->V):R2:=fun x y H Q=>∃ i j,x=.int i/\y=.int j/\Q (g i j) H
def rU (g:Int->V):V->Hp->VK->Prop:=fun x H Q=>∃ i,x=.int i/\Q (g i) H
section
variable {X:Cx} {a b c:Expr} {ta tb tc:TE} {pos:Pos}
theorem Om (ha:PE X a ta) (hb:PE X b tb) {pins:List (Addr×Obj)} {s:Shared} {σ:St} {H:Hp} {R:V->V->Hp->Prop} (I:Inv X pins σ H s)
  (h:ta σ H fun x H1=>tb σ H1 fun y H2=>R x y H2) {Q:Value->Shared->Prop} {f:Value->Value->Sem Value}
  (hf:∀ v u s2 x y H2,Inv X pins σ H2 s2->RelV x v->RelV y u->R x y H2->wpAny (model X.prog X.w) X.A (f v u) Q X.xe s2) :
  wpAny (model X.prog X.w) X.A (eval a X.env) (fun v s₁=>wpAny (model X.prog X.w) X.A (eval b X.env) (fun u s₂=>wpAny (model X.prog X.w) X.A (f v u) Q X.xe s₂) X.xe s₁) X.xe s:=by
 refine cT (ha pins s σ H _ I h) fun v s1 ⟨x,H1,I1,r1,q1⟩=>?_;refine cT (hb pins s1 σ H1 _ I1 q1) fun u s2 ⟨y,H2,I2,r2,q2⟩=>?_;exact hf v u s2 x y H2 I2 r1 r2 q2
theorem gX {op:Operator} {r:R2} (ho:vq X (binaryOp op) r) (ha:PE X a ta) (hb:PE X b tb):PE X (.BinOp a op b pos) (SV r ta tb):=by
 intro pins s σ H Q I h;exact wpAny_BinOp (Om ha hb I h fun v u s2 x y H2 I2 rx ry q=>ho pins s2 σ H2 x y v u Q I2 rx ry q)
theorem Fj {op:UnaryOp} {r:V->Hp->VK->Prop} (ho:Uh X (unaryOp op) r) (ha:PE X a ta):PE X (.UnaryOp op a pos) (WX r ta):=by
 intro pins s σ H Q I h;exact UnaryOp_ (cT (ha pins s σ H _ I h) fun v s1 ⟨x,H1,I1,r1,q1⟩=>ho pins s1 σ H1 x v Q I1 r1 q1)
theorem V5 {f:Value->Value->Sem Value} {C:Int->Int->Prop} {g:Int->Int->Int}
  (rule:∀ (i j:Int) (t u:Tok) (s:Shared) (Q:Value->Shared->Prop) (E:Value->Shared->Prop),C i j->Q (.int (g i j) s.toks) { s with toks:=s.toks+1 }->wpAny (model X.prog X.w) X.A (f (.int i t) (.int j u)) Q E s) :
  vq X f (rI C fun i j=>.int (g i j)):=by
 intro pins s σ H x y v u Q I rx ry h;obtain ⟨i,j,rfl,rfl,hc,q⟩:=h;obtain ⟨t,rfl⟩:=rx;obtain ⟨t',rfl⟩:=ry;exact rule i j t t' s _ _ hc ⟨.int (g i j),H,I.tok _,⟨_,rfl⟩,q⟩
theorem Oo {f:Value->Value->Sem Value} {g:Int->Int->Int}
  (rule:∀ (i j:Int) (t u:Tok) (s:Shared) (Q:Value->Shared->Prop) (E:Value->Shared->Prop),Q (.int (g i j) s.toks) { s with toks:=s.toks+1 }->wpAny (model X.prog X.w) X.A (f (.int i t) (.int j u)) Q E s) :
  vq X f (N4 fun i j=>.int (g i j)):=by
 intro pins s σ H x y v u Q I rx ry h;obtain ⟨i,j,rfl,rfl,q⟩:=h;obtain ⟨t,rfl⟩:=rx;obtain ⟨t',rfl⟩:=ry;exact rule i j t t' s _ _ ⟨.int (g i j),H,I.tok _,⟨_,rfl⟩,q⟩
theorem Oq {f:Value->Value->Sem Value} {g:Int->Int->Bool}
  (rule:∀ (i j:Int) (t u:Tok) (s:Shared) (Q:Value->Shared->Prop) (E:Value->Shared->Prop),Q (.bool (g i j)) s->wpAny (model X.prog X.w) X.A (f (.int i t) (.int j u)) Q E s) :
  vq X f (N4 fun i j=>.bl (g i j)):=by
 intro pins s σ H x y v u Q I rx ry h;obtain ⟨i,j,rfl,rfl,q⟩:=h;obtain ⟨t,rfl⟩:=rx;obtain ⟨t',rfl⟩:=ry;exact rule i j t t' s _ _ ⟨.bl (g i j),H,I,rfl,q⟩
def Uj (i j:Int):Prop:=0<=j/\j<=1000000/\i.natAbs < 2 ^ 64
def Ot (i j:Int):Prop:=(-(2 ^ 64) < i/\i < 2 ^ 64)\/(-(2 ^ 64) < j/\j < 2 ^ 64)
theorem Ot.ok {i j:Int} (h:Ot i j):IntMulOk i j:=by
 rcases h with ⟨h1,h2⟩ | ⟨h1,h2⟩
 . exact .of_left (intBits_le_64 h1 h2)
 . exact .of_right (intBits_le_64 h1 h2)
theorem uG:vq X (binaryOp .Add) (N4 fun i j=>.int (i+j)):=Oo fun _ _ _ _ _ _ _ q=>add_int q
theorem sf:vq X (binaryOp .Sub) (N4 fun i j=>.int (i - j)):=Oo fun _ _ _ _ _ _ _ q=>sub_int q
theorem En:vq X (binaryOp .Mult) (rI Ot fun i j=>.int (i * j)):=V5 fun _ _ _ _ _ _ _ hc q=>mul_int q hc.ok
theorem IY:vq X (binaryOp .LShift) (rI Uj fun i j=>.int (i * 2 ^ j.toNat)):=V5 fun _ _ _ _ _ _ _ hc q=>lshift_int_small hc.1 hc.2.1 hc.2.2 q
theorem QJ:vq X (binaryOp .BitOr) (N4 fun i j=>.int (Builtin.bitOr i j)):=Oo fun _ _ _ _ _ _ _ q=>or_int q
theorem WY {f:Value->Sem Value} {g:Int->Int}
  (rule:∀ (i:Int) (t:Tok) (s:Shared) (Q:Value->Shared->Prop) (E:Value->Shared->Prop),Q (.int (g i) s.toks) { s with toks:=s.toks+1 }->wpAny (model X.prog X.w) X.A (f (.int i t)) Q E s) :
  Uh X f (rU fun i=>.int (g i)):=by
 intro pins s σ H x v Q I rx h;obtain ⟨i,rfl,q⟩:=h;obtain ⟨t,rfl⟩:=rx;exact rule i t s _ _ ⟨.int (g i),H,I.tok _,⟨_,rfl⟩,q⟩
theorem A1:Uh X (unaryOp .USub) (rU fun i=>.int (-i)):=WY fun _ _ _ _ _ q=>neg_int q
end
def QK:V->V->Bool
 | .non,.non=>true | .non,.int _=>true | .int _,.non=>true | .non,.bl _=>true | .bl _,.non=>true | .non,.str _=>true | .str _,.non=>true
 | .int _,.int _=>true | .bl _,.bl _=>true | .str _,.str _=>true | .Cb _,.Cb _=>true
 | .int _,.str _=>true | .str _,.int _=>true | .bl _,.str _=>true | .str _,.bl _=>true
 | _,_=>false
def WZ:R2:=fun x y H Q=>QK x y=true/\Q (.bl (decide (x=y))) H
def Xa:R2:=fun x y H Q=>QK x y=true/\Q (.bl (!decide (x=y))) H
theorem Fl {i j:Int}:decide (V.int i=V.int j)=(i==j):=by
 rw [Bool.eq_iff_iff];simp
theorem IZ {i j:Bool}:decide (V.bl i=V.bl j)=(i==j):=by
 rw [Bool.eq_iff_iff];simp
theorem Fo {i j:Str}:decide (V.str i=V.str j)=(i==j):=by
 rw [Bool.eq_iff_iff];simp
theorem Fp {i j:Array UInt8}:decide (V.Cb i=V.Cb j)=(i.toList==j.toList):=by
 rw [Bool.eq_iff_iff];cases i;cases j;simp
section
variable {X:Cx} {a b c:Expr} {ta tb tc:TE} {pos:Pos}
theorem bV {pins:List (Addr×Obj)} {σ:St} {H:Hp} {s:Shared} {Q:VK} {k k':Bool} (I:Inv X pins σ H s) (q:Q (.bl k) H) (e:k=k'):EP X pins σ Q (.bool k') s:=by
 subst e;exact ⟨.bl k,H,I,rfl,q⟩
theorem xG:vq X (compareOp .Eq) WZ:=by
 intro pins s σ H x y v u Q I rx ry h;obtain ⟨hs,q⟩:=h;cases x with
 | non=>
  cases rx;cases y with
  | non=>cases ry;exact PySem.EqNone.eq_none_none (bV I q (by simp))
  | bl j=>cases ry;exact PySem.EqNone.eq_none_bool (bV I q (by simp))
  | int j=>obtain ⟨t',rfl⟩:=ry;exact PySem.EqNone.eq_none_int (bV I q (by simp))
  | str j=>obtain ⟨t',rfl⟩:=ry;exact PySem.EqNone.eq_none_str (bV I q (by simp))
  | _=>exact absurd (show false=true from hs) Bool.false_ne_true
 | bl i=>
  cases rx;cases y with
  | non=>cases ry;exact PySem.EqNone.eq_bool_none (bV I q (by simp))
  | bl j=>cases ry;exact eq_bool (bV I q IZ)
  | str j=>obtain ⟨t',rfl⟩:=ry;exact PySem.EqMixed.eq_bool_str (bV I q (by simp))
  | _=>exact absurd (show false=true from hs) Bool.false_ne_true
 | int i=>
  obtain ⟨t,rfl⟩:=rx;cases y with
  | non=>cases ry;exact PySem.EqNone.eq_int_none (bV I q (by simp))
  | int j=>obtain ⟨t',rfl⟩:=ry;exact eq_int (bV I q Fl)
  | str j=>obtain ⟨t',rfl⟩:=ry;exact PySem.EqMixed.eq_int_str (bV I q (by simp))
  | _=>exact absurd (show false=true from hs) Bool.false_ne_true
 | str i=>
  obtain ⟨t,rfl⟩:=rx;cases y with
  | non=>cases ry;exact PySem.EqNone.eq_str_none (bV I q (by simp))
  | bl j=>cases ry;exact PySem.EqMixed.eq_str_bool (bV I q (by simp))
  | int j=>obtain ⟨t',rfl⟩:=ry;exact PySem.EqMixed.eq_str_int (bV I q (by simp))
  | str j=>obtain ⟨t',rfl⟩:=ry;exact eq_str (bV I q Fo)
  | _=>exact absurd (show false=true from hs) Bool.false_ne_true
 | Cb i=>
  obtain ⟨t,rfl⟩:=rx;cases y with
  | Cb j=>obtain ⟨t',rfl⟩:=ry;exact PySem.W.eq_bytes (bV I q Fp)
  | _=>exact absurd (show false=true from hs) Bool.false_ne_true
 | _=>cases y<;>exact absurd (show false=true from hs) Bool.false_ne_true
theorem Cj:vq X (compareOp .NotEq) Xa:=by
 intro pins s σ H x y v u Q I rx ry h;obtain ⟨hs,q⟩:=h;cases x with
 | non=>
  cases rx;cases y with
  | non=>cases ry;exact PySem.EqNone.ne_none_none (bV I q (by simp))
  | bl j=>cases ry;exact PySem.EqNone.ne_none_bool (bV I q (by simp))
  | int j=>obtain ⟨t',rfl⟩:=ry;exact PySem.EqNone.ne_none_int (bV I q (by simp))
  | str j=>obtain ⟨t',rfl⟩:=ry;exact PySem.EqNone.ne_none_str (bV I q (by simp))
  | _=>exact absurd (show false=true from hs) Bool.false_ne_true
 | bl i=>
  cases rx;cases y with
  | non=>cases ry;exact PySem.EqNone.ne_bool_none (bV I q (by simp))
  | bl j=>cases ry;exact ne_bool (bV I q (congrArg not IZ))
  | str j=>obtain ⟨t',rfl⟩:=ry;exact PySem.EqMixed.ne_bool_str (bV I q (by simp))
  | _=>exact absurd (show false=true from hs) Bool.false_ne_true
 | int i=>
  obtain ⟨t,rfl⟩:=rx;cases y with
  | non=>cases ry;exact PySem.EqNone.ne_int_none (bV I q (by simp))
  | int j=>obtain ⟨t',rfl⟩:=ry;exact ne_int (bV I q (congrArg not Fl))
  | str j=>obtain ⟨t',rfl⟩:=ry;exact PySem.EqMixed.ne_int_str (bV I q (by simp))
  | _=>exact absurd (show false=true from hs) Bool.false_ne_true
 | str i=>
  obtain ⟨t,rfl⟩:=rx;cases y with
  | non=>cases ry;exact PySem.EqNone.ne_str_none (bV I q (by simp))
  | bl j=>cases ry;exact PySem.EqMixed.ne_str_bool (bV I q (by simp))
  | int j=>obtain ⟨t',rfl⟩:=ry;exact PySem.EqMixed.ne_str_int (bV I q (by simp))
  | str j=>obtain ⟨t',rfl⟩:=ry;exact ne_str (bV I q (congrArg not Fo))
  | _=>exact absurd (show false=true from hs) Bool.false_ne_true
 | Cb i=>
  obtain ⟨t,rfl⟩:=rx;cases y with
  | Cb j=>obtain ⟨t',rfl⟩:=ry;exact PySem.W.ne_bytes (bV I q (congrArg not Fp))
  | _=>exact absurd (show false=true from hs) Bool.false_ne_true
 | _=>cases y<;>exact absurd (show false=true from hs) Bool.false_ne_true
theorem N5:vq X (compareOp .Lt) (N4 fun i j=>.bl (decide (i < j))):=Oq fun _ _ _ _ _ _ _ q=>lt_int q
theorem Fq:vq X (compareOp .LtE) (N4 fun i j=>.bl (decide (i<=j))):=Oq fun _ _ _ _ _ _ _ q=>le_int q
theorem N6:vq X (compareOp .Gt) (N4 fun i j=>.bl (decide (j < i))):=Oq fun _ _ _ _ _ _ _ q=>gt_int q
theorem Ou:vq X (compareOp .Is) (fun x y H Q=>y=.non/\Q (.bl (decide (x=.non))) H):=by
 intro pins s σ H x y v u Q I rx ry h;obtain ⟨rfl,q⟩:=h;cases ry;refine is_none_gen (bV I q ?_);cases x<;>first
   | (cases rx;rfl)
   | (obtain ⟨t,rfl⟩:=rx;rfl)
theorem gr (b:Expr) {op:CmpOp} (h:op ≠ .In:=by decide) (h2:op ≠ .NotIn:=by decide):behindInMarks op b=false:=by
 have e1:(op==CmpOp.In)=false:=by cases op<;>first | rfl | exact absurd rfl h
 have e2:(op==CmpOp.NotIn)=false:=by cases op<;>first | rfl | exact absurd rfl h2
 cases b<;>simp [behindInMarks,e1,e2]
theorem mj {op:CmpOp} {r:R2} (ho:vq X (compareOp op) r) (ha:PE X a ta) (hb:PE X b tb) (hm:behindInMarks op b=false):PE X (.Compare a [op] [b] pos) (SV r ta tb):=by
 intro pins s σ H Q I h;exact wpAny_Compare1 (Om ha hb I h fun v u s2 x y H2 I2 rx ry q=>ho pins s2 σ H2 x y v u Q I2 rx ry q) hm
def QL (t:TE):TT:=fun σ H Q=>t σ H fun x H'=>∃ k,x=.bl k/\Q k H'
theorem fM {op:CmpOp} {r:R2} (ho:vq X (compareOp op) r) (ha:PE X a ta) (hb:PE X b tb) (hm:behindInMarks op b=false):PT X (.Compare a [op] [b] pos) (QL (SV r ta tb)):=by
 intro pins s σ H Q I h;refine wpAny_isTrue_Compare1 (cT (ha pins s σ H _ I h) fun v s1 ⟨x,H1,I1,r1,q1⟩=>cT (hb pins s1 σ H1 _ I1 q1) fun u s2 ⟨y,H2,I2,r2,q2⟩=>
  cT (ho pins s2 σ H2 x y v u _ I2 r1 r2 q2) fun c s3 ⟨z,H3,I3,r3,k,e,q3⟩=>?_) hm
 subst e;cases r3;exact wpAny_truthy_bool ⟨H3,I3,q3⟩
def Ov (r r':R2) (ta tb tc:TE):TE:=fun σ H Q=>ta σ H fun x H1=>tb σ H1 fun y H2=>r x y H2 fun z H3=>∃ k,z=.bl k /\
 (if k=true then tc σ H3 fun w' H4=>r' y w' H4 Q else Q (.bl false) H3)
theorem Ja {op op':CmpOp} {r r':R2} (ho:vq X (compareOp op) r) (ho':vq X (compareOp op') r') (ha:PE X a ta) (hb:PE X b tb) (hc:PE X c tc)
  (hm:lastMarks [op,op'] [b,c]=false:=by with_unfolding_all rfl):PE X (.Compare a [op,op'] [b,c] pos) (Ov r r' ta tb tc):=by
 intro pins s σ H Q I h;refine Compare_chain (cT (ha pins s σ H _ I h) fun v s1 ⟨x,H1,I1,r1,q1⟩=>chain_link (cT (hb pins s1 σ H1 _ I1 q1) fun u s2 ⟨y,H2,I2,r2,q2⟩=>
  cT (ho pins s2 σ H2 x y v u _ I2 r1 r2 q2) fun d s3 ⟨z,H3,I3,r3,k,e,q3⟩=>?_)) hm
 subst e;cases r3;refine wpAny_truthy_bool ?_;cases k with
 | false=>exact ite_ff ⟨.bl false,H3,I3,rfl,q3⟩
 | true=>exact ite_tt (chain_last (cT (hc pins s3 σ H3 _ I3 q3) fun w' s4 ⟨z',H4,I4,r4,q4⟩=>ho' pins s4 σ H4 y z' u w' Q I4 r2 r4 q4))
def QM (K:Zqq) (x:V) (H:Hp) (k:Bool):Prop:=
 match x with
 | .non=>k=false
 | .bl b=>k=b
 | .int i=>k=(i != 0)
 | .str y=>y.length<=sizeLine/\k=((y.length:Int) != 0)
 | .Cb y=>y.size<=sizeLine/\k=((y.size:Int) != 0)
 | .ref p=>(∃ xs,c8 K H p xs/\k=!xs.isEmpty)\/(∃ xs,j0 K H p xs/\k=!xs.isEmpty)\/∃ kvs,H p=some (.dK kvs)/\k=!kvs.isEmpty
 | _=>False
theorem Eo {κ:Type} {kvs:List (κ×V)} {vs:List (κ×Value)} (r:KV kvs vs):(!vs.isEmpty)=!kvs.isEmpty:=by
 cases r<;>rfl
theorem xH {xs:List V} {its:List Value} (r:Vals xs its):(!its.toArray.isEmpty)=!xs.isEmpty:=by
 cases r<;>simp
theorem uH:(sizeLine:Nat) < 2 ^ 63:=by rw [sizeLine_eq];decide
theorem Ow:Ui X (fun x H Q=>∃ k,QM X.K x H k/\Q k H):=by
 intro pins s σ H x v Q I rx h;obtain ⟨k,e,q⟩:=h;have hl:=uH;have hs:sizeLine=16777216:=sizeLine_eq;cases x with
 | non=>
   cases rx;have e':k=false:=e;subst e';exact truthy_none ⟨H,I,q⟩
 | bl b=>
   cases rx;have e':k=b:=e;subst e';exact wpAny_truthy_bool ⟨H,I,q⟩
 | int i=>
   obtain ⟨t,rfl⟩:=rx;have e':k=(i != 0):=e;subst e';exact PySem.P.truthy_int ⟨H,I,q⟩
 | str y=>
   obtain ⟨t,rfl⟩:=rx;obtain ⟨hy,e'⟩:y.length<=sizeLine/\k=((y.length:Int) != 0):=e;subst e';exact PySem.P.truthy_str (by omega) ⟨H,I.tok _,q⟩
 | Cb y=>
   obtain ⟨t,rfl⟩:=rx;obtain ⟨hy,e'⟩:y.size<=sizeLine/\k=((y.size:Int) != 0):=e;subst e';exact PySem.W.truthy_bytes (by omega) ⟨H,I.tok _,q⟩
 | ref p=>
   cases rx;have e':(∃ xs,c8 X.K H p xs/\k=!xs.isEmpty)\/(∃ xs,j0 X.K H p xs/\k=!xs.isEmpty)\/∃ kvs,H p=some (.dK kvs)/\k=!kvs.isEmpty:=e;rcases e' with ⟨xs,hx,e'⟩ | ⟨xs,hx,e'⟩ | ⟨kvs,hx,e'⟩
   . subst e'
     obtain ⟨its,r,pl,hz⟩:=I.list hx;have hlen:=r.length;exact wpAny_truthy_list pl.isList (by simp only [List.size_toArray];omega) ⟨H,I.tok _,by rw [xH r];exact q⟩
   . subst e'
     obtain ⟨its,r,pl,hz⟩:=I.tuple hx;have hlen:=r.length;exact truthy_tuple pl (by simp only [List.size_toArray];omega) ⟨H,I.tok _,by rw [xH r];exact q⟩
   . subst e'
     obtain ⟨hz,hS,vs,r,m⟩:kvs.length<=sizeLine/\(p==sysModules)=false/\∃ vs,KV kvs vs/\s.heap.DictOf (dI X.prog X.w) p vs:=I.hok p _ hx;have hlen:kvs.length=vs.length:=Paired.length r;exact wpAny_truthy_dict hS m (by omega) ⟨H,I.tok _,by rw [Eo r];exact q⟩
 | _=>exact (show False from e).elim
theorem Jb (ha:PE X a ta) (he:∀ whole,isTrue a X.env whole=(do let v <- whole;standAt a.pos;holding [v] (truthy v))) :
  PT X a (fun σ H Q=>ta σ H fun x H'=>∃ k,QM X.K x H' k/\Q k H'):=by
 intro pins s σ H Q I h;exact isTrue_plain (cT (ha pins s σ H _ I h) fun v s1 ⟨x,H1,I1,r1,q1⟩=>Ow pins s1 σ H1 x v Q I1 r1 q1) (he _)
theorem vals1 {x:V} {us:List Value} (r:Vals [x] us):∃ u,us=[u]/\RelV x u:=by
 cases r with
 | cons r1 r2=>cases r2;exact ⟨_,rfl,r1⟩
end
end L2
namespace L2
open PySem PySem.Spec PyProof.Rows
structure Ep (h:Heap) (x dx C:Addr) (mA:Str->Option Value):Prop where
 obj:h.get? x=some (PySem.W.instObj C dx)
 ns:h.Ns1 dx mA
 ne:dx ≠ x
theorem G8 {h:Heap} {dx:Addr} {mA:Str->Option Value} (n:h.Ns1 dx mA):∃ od,h.get? dx=some od/\∀ name,PySem.W.lookIn name od=some (mA name):=by
 obtain ⟨o,es,ep,ho,hd,hk,_,hm⟩:=n;refine ⟨o,ho,fun name=>?_⟩;have e:=hm name;unfold nsFind findBy at e;rw [<- Array.find?_toList] at e;unfold PySem.W.lookIn;rw [hd];dsimp only;split
 . rename_i y q
   rw [q] at e;exact congrArg some e
 . rename_i q
   rw [q] at e;have a:es.toList.any (·.refKey)=false:=by
     rw [List.any_eq_false];intro y hy;obtain ⟨z,t,hkey⟩:=hk y (Array.mem_toList_iff.mp hy);simp [DictEntry.refKey,hkey]
   have a':¬ es.toList.any (·.refKey)=true:=by rw [a];exact Bool.false_ne_true
   rw [if_neg a'];exact congrArg some e
theorem Ep.look {h:Heap} {x dx C:Addr} {mA:Str->Option Value} (I:Ep h x dx C mA):∃ od,PySem.W.InstAt h x (PySem.W.instObj C dx) C (some od)/\∀ name,PySem.W.lookIn name od=some (mA name):=
 let ⟨od,ho,hl⟩:=G8 I.ns
 ⟨od,⟨I.obj,rfl,rfl,ho⟩,hl⟩
section
variable {prog:Program} {w:World} {A:Around} {E:Value->Shared->Prop} {s:Shared} {K:Zqq} {x dx C f:Addr} {mA:Str->Option Value} {name:Str} {v:Value}
theorem get_map {expr:Bool} {Q:Value->Shared->Prop} (X:K.In s.heap) (I:Ep s.heap x dx C mA) (hg:PySem.W.plainGet K C name=true) (hh:PySem.W.hasDictIn K C=true)
  (ha:PySem.W.findIn K (.ref C) name=some none) (hv:mA name=some v) (hv':PySem.W.handedIn v=true) (h:Q v { s with toks:=s.toks+1 }) :
  wpAny (model prog w) A (getAttr (.ref x) name expr) Q E s:=by
 obtain ⟨od,J,hl⟩:=I.look;exact PySem.W.get_value X J (PySem.W.plainGet_of hg).1 (PySem.W.findObj_own hh ha rfl (by rw [hl,hv])) hv' h
theorem Jc {pl:Sem Bool} {Q:Value×List Value->Shared->Prop} (X:K.In s.heap) (I:Ep s.heap x dx C mA) (hg:PySem.W.plainGet K C name=true)
  (hf:PySem.W.findIn K (.ref C) name=some (some (.ref f))) (ht:PySem.W.isFn K (.ref f)=true) (hv:mA name=none) (h:Q (.ref f,[.ref x]) s) :
  wpAny (model prog w) A (getMethod (.ref x) name pl) Q E s:=by
 obtain ⟨od,J,hl⟩:=I.look;exact PySem.W.method_fn X J (PySem.W.plainGet_of hg).1 (PySem.W.plainGet_of hg).2 hf (beq_iff_eq.mp ht) (by show (PySem.W.lookIn name od).map (·.isSome)=some false;rw [hl,hv];rfl) h
theorem L5 {ns:List Str} {Q:Unit->Shared->Prop} (X:K.In s.heap) (I:Ep s.heap x dx C mA)
  (hs:PySem.W.findIn K (.ref C) "__setattr__"=some (some (.builtin "object.__setattr__"))) (hp:PySem.W.plainOver K C=true) (ht:PySem.W.takerIn K C name=some none) (hh:PySem.W.hasDictIn K C=true)
  (hw:PySem.Within mA ns) (hsz:ns.length<=sizeLine)
  (h:∀ h',Ep h' x dx C (fun y=>if y=name then some v else mA y)->Heap.SameBut dx s.heap h'->Q () { s with heap:=h',toks:=s.toks+2 }) :
  wpAny (model prog w) A (setAttr (.ref x) name v) Q E s:=by
 obtain ⟨od,J,hl⟩:=I.look;refine PySem.W.set_plain X J hs (PySem.W.osa_open (s:={ s with toks:=s.toks+1 }) (r:=none) X J hp ht fun b=>?_)
 obtain ⟨cd,hc,hd'⟩:=PySem.W.any_some hh;have hx:s.heap.get? x=some ⟨.ref C,some dx,.plain,#[]⟩:=I.obj;refine wpAny_bind (wpAny_pure (wpAny_bind (wpAny_bind (wpAny_loadPart hx (wpAny_bind (PySem.W.Looks.here (s:={ s with toks:=s.toks+1 }) (PySem.W.looks_clsIn X hc) ?_))))));rw [hd'];refine wpAny_pure (a:=some dx) (wpAny_bind (wpAny_pure (wpAny_bind ?_)));refine wpAny_nsSet1 (s:={ s with toks:=s.toks+1 }) I.ns fun h' hn2 hs2=>?_
 obtain ⟨oD,esD,Xb,Xc,Xd,Xe⟩:=hn2.count (PySem.Within.cons name v hw);refine wpAny_bind (wpAny_lookBehind Xc (by rw [Xd];exact pastItsLine_dict (Nat.le_trans Xe (by rw [List.length_cons];omega))) ?_);exact wpAny_pure (h _ ⟨(hs2.2 _ (Ne.symm I.ne)).trans I.obj,hn2,I.ne⟩ hs2)
theorem Jd {R:Result->Shared->Prop} {vs:List Value} {kw:List (Str×Value)} (X:K.In s.heap) (hm:PySem.W.makesIn K C=true)
   (hi:PySem.W.findIn K (.ref C) "__init__"=some (some (.ref f))) (hf:PySem.W.typeIn K (.ref f)=some (.type "function"))
   (h:codeAny (model prog w) (A.under (.builtin "type.__call__" ⟨.ref C::vs,kw⟩)) (.call (.ref f) ⟨.ref (s.heap.objs.size+1)::vs,kw⟩) (PySem.W.InitBack (s.heap.objs.size+1) R)
     { s with heap:=(s.heap.push PySem.W.emptyDict).push (PySem.W.instObj C s.heap.objs.size) }) :
   codeAny (model prog w) A (.call (.ref C) ⟨vs,kw⟩) R s:=by
 obtain ⟨hh,g,d,t,os⟩:=s;exact PySem.W.make_core (PySem.W.makes_of X hm) (PySem.W.looks_findIn X hi) (fun self=>PySem.W.bind_fn X self hf) (.inl rfl) h
end
def fH (f:Str) (v:V):List (Str×V)->List (Str×V)
 | []=>[(f,v)]
 | (g,x)::r=>if g=f then (g,v)::r else (g,x)::fH f v r
theorem pI (f g:Str) (v:V):∀ fs:List (Str×V),(fH f v fs).lookup g=if g=f then some v else fs.lookup g
 | []=>by
   show List.lookup g [(f,v)]=_
   by_cases h:g=f
   . have hb:(g==f)=true:=beq_iff_eq.mpr h
     simp only [List.lookup,hb,if_pos h]
   . have hb:(g==f)=false:=beq_eq_false_iff_ne.mpr h
     simp only [List.lookup,hb,if_neg h]
 | (k,x)::r=>by
   have ih:=pI f g v r
   rw [show fH f v ((k,x)::r)=(if k=f then (k,v)::r else (k,x)::fH f v r) from rfl]
   by_cases hk:k=f
   . rw [if_pos hk]
     by_cases h:g=k
     . have hb:(g==k)=true:=beq_iff_eq.mpr h
       simp only [List.lookup,hb,if_pos (h.trans hk)]
     . have hb:(g==k)=false:=beq_eq_false_iff_ne.mpr h
       simp only [List.lookup,hb,if_neg (fun e:g=f=>h (e.trans hk.symm))]
   . rw [if_neg hk]
     by_cases h:g=k
     . have hb:(g==k)=true:=beq_iff_eq.mpr h
       simp only [List.lookup,hb,if_neg (fun e:g=f=>hk (h.symm.trans e))]
     . have hb:(g==k)=false:=beq_eq_false_iff_ne.mpr h
       simp only [List.lookup,hb]
       exact ih
theorem uI (f:Str) (v:V):∀ fs:List (Str×V),f ∈ (fH f v fs).map (·.1)/\∀ g,g ∈ fs.map (·.1)->g ∈ (fH f v fs).map (·.1)
 | []=>⟨by simp [fH],fun g h=>by simp at h⟩
 | (k,x)::r=>by
   obtain ⟨i1,i2⟩:=uI f v r
   rw [show fH f v ((k,x)::r)=(if k=f then (k,v)::r else (k,x)::fH f v r) from rfl]
   by_cases hk:k=f
   . rw [if_pos hk]
     subst hk
     exact ⟨by simp,fun g h=>by simpa using h⟩
   . rw [if_neg hk]
     refine ⟨?_,fun g h=>?_⟩
     . rw [List.map_cons]
       exact List.mem_cons_of_mem _ i1
     . rw [List.map_cons] at h ⊢
       rcases List.mem_cons.mp h with e | e
       . exact List.mem_cons.mpr (.inl e)
       . exact List.mem_cons_of_mem _ (i2 g e)
theorem vy (f:Str) (v:V):∀ fs:List (Str×V),(fH f v fs).length<=fs.length+1
 | []=>by simp [fH]
 | (k,x)::r=>by
   have ih:=vy f v r
   rw [show fH f v ((k,x)::r)=(if k=f then (k,v)::r else (k,x)::fH f v r) from rfl]
   by_cases hk:k=f
   . rw [if_pos hk,List.length_cons,List.length_cons];omega
   . rw [if_neg hk,List.length_cons,List.length_cons];omega
theorem lX.some_of {v:V} {o:Option Value} (r:lX (some v) o):∃ u,o=some u/\RelV v u:=by
 cases o with
 | none=>exact (show False from r).elim
 | some u=>exact ⟨u,rfl,r⟩
theorem lX.none_of {o:Option Value} (r:lX none o):o=none:=by
 cases o with
 | none=>rfl
 | some u=>exact (show False from r).elim
theorem zD {v:V} {u:Value} (r:RelV v u):PySem.W.handedIn u=true:=by
 cases v with
 | non=>cases (show u=Value.none from r);rfl
 | bl b=>cases (show u=Value.bool b from r);rfl
 | int i=>obtain ⟨t,e⟩:=(show ∃ t,u=Value.int i t from r);cases e;rfl
 | str x=>obtain ⟨t,e⟩:=(show ∃ t,u=Value.str x t from r);cases e;rfl
 | Cb b=>obtain ⟨t,e⟩:=(show ∃ t,u=Value.bytes b t from r);cases e;rfl
 | Nr b=>obtain ⟨t,e⟩:=(show ∃ t,u=Value.float b t from r);cases e;rfl
 | ref a=>cases (show u=Value.ref a from r);rfl
 | ty n=>cases (show u=Value.type n from r);rfl
section
variable {P:Program} {w:World} {H H':Hp} {h h':Heap} {a C dx:Addr} {fs fs':List (Str×V)}
theorem A2 (hok:oB P w H h) (e:H a=some (.ins C dx fs)):∃ mA,Ep h a dx C mA/\(∀ f,lX (fs.lookup f) (mA f))/\PySem.Within mA (fs.map (·.1))/\fs.length<=1000/\H dx=some (.own a):=by
 obtain ⟨d,z,ne,ob,mA,n,r,q⟩:=(show bZ P w H h a (.ins C dx fs) from hok a _ e);exact ⟨mA,⟨ob,n,ne⟩,r,q,z,d⟩
end
structure yV (K:Zqq) (C:Addr):Prop where
 pg:PySem.W.plainGet K C Str.empty=true
 hd:PySem.W.hasDictIn K C=true
 po:PySem.W.plainOver K C=true
 sa:PySem.W.findIn K (.ref C) "__setattr__"=some (some (.builtin "object.__setattr__"))
theorem yV.get {K:Zqq} {C:Addr} (c:yV K C) (f:Str):PySem.W.plainGet K C f=true:=c.pg
def b7 (K:Zqq) (C:Addr) (f:Str):Prop:=PySem.W.findIn K (.ref C) f=some none
theorem b7.QN {K:Zqq} {C:Addr} {f:Str} (n:b7 K C f):PySem.W.takerIn K C f=some none:=by
 unfold PySem.W.takerIn;rw [show PySem.W.findIn K (.ref C) f=some none from n];rfl
structure wU (K:Zqq) (C:Addr) (f:Str) (v:V) (u:Value):Prop where
 at_:PySem.W.findIn K (.ref C) f=some (some u)
 rel:RelV v u
 get:PySem.W.specialIn K u "__get__"=some none
 cp:PySem.W.copiedNames.contains f=false
structure Meth (K:Zqq) (C:Addr) (m:Str) (f:Addr):Prop where
 at_:PySem.W.findIn K (.ref C) m=some (some (.ref f))
 fn:PySem.W.isFn K (.ref f)=true
 kp:PySem.W.keepIn K (.ref f)=true
section
variable {X:Cx} {pins:List (Addr×Obj)} {σ:St} {H:Hp} {s:Shared} {a C dx:Addr} {fs:List (Str×V)} {f:Str} {v:V} {A:Around} {E:Value->Shared->Prop}
theorem xJ {b:Bool} {Q:Value->Shared->Prop} (I:Inv X pins σ H s) (e:H a=some (.ins C dx fs)) (c:yV X.K C) (n:b7 X.K C f) (l:fs.lookup f=some v)
  (h:∀ u s',Inv X pins σ H s'->RelV v u->Q u s'):wpAny (model X.prog X.w) A (getAttr (.ref a) f b) Q E s:=by
 obtain ⟨mA,O,r,_,_,_⟩:=A2 I.hok e;obtain ⟨u,hu,ru⟩:=lX.some_of (v:=v) (o:=mA f) (by rw [<- l];exact r f);exact get_map I.rY O (c.get f) c.hd n hu (zD ru) (h u _ (I.tok _) ru)
theorem xK {m:Str} {g:Addr} {pl:Sem Bool} {Q:Value×List Value->Shared->Prop} (I:Inv X pins σ H s) (e:H a=some (.ins C dx fs)) (c:yV X.K C) (k:Meth X.K C m g) (l:fs.lookup m=none)
  (h:Q (.ref g,[.ref a]) s):wpAny (model X.prog X.w) A (getMethod (.ref a) m pl) Q E s:=by
 obtain ⟨mA,O,r,_,_,_⟩:=A2 I.hok e;have hn:mA m=none:=lX.none_of (by rw [<- l];exact r m);exact Jc I.rY O (c.get m) k.at_ k.fn hn h
theorem xM {y:V} {u:Value} {Q:Unit->Shared->Prop} (I:Inv X pins σ H s) (e:H a=some (.ins C dx fs)) (c:yV X.K C) (n:b7 X.K C f) (hl:fs.length < 1000) (ry:RelV y u)
   (h:∀ s',Inv X pins σ (upd H a (.ins C dx (fH f y fs))) s'->Q () s'):wpAny (model X.prog X.w) A (setAttr (.ref a) f u) Q E s:=by
 obtain ⟨mA,O,r,wi,_,ho⟩:=A2 I.hok e;have hz:(fs.map (·.1)).length<=sizeLine:=by rw [List.length_map,sizeLine_eq];omega
 refine L5 I.rY O c.sa c.po n.QN c.hd wi hz fun h' O' sb=>h _ ?_;have hd:∃ o,h'.get? dx=some o:=let ⟨o,_,_,e',_⟩:=O'.ns;⟨o,e'⟩;refine I.write (x:=a) (e:=dx) (by rw [e];exact True.intro) (.inr ho) (fun b q hb z=>(sb.2 b hb).trans z) hd ?_;refine ⟨by rw [ak O.ne];exact ho,?_,O.ne,O'.obj,_,O'.ns,fun g=>?_,fun g hg=>?_⟩
 . have:=vy f y fs;omega
 . show lX ((fH f y fs).lookup g) (if g=f then some u else mA g)
   rw [pI];by_cases q:g=f
   . rw [if_pos q,if_pos q];exact ry
   . rw [if_neg q,if_neg q];exact r g
 . by_cases q:g=f
   . rw [q];exact (uI f y fs).1
   . refine (uI f y fs).2 g (wi g fun z=>hg ?_)
     show (if g=f then some u else mA g)=none;rw [if_neg q];exact z
theorem Inv.made (I:Inv X pins σ H s):Inv X pins σ (upd (upd H s.heap.objs.size (.own (s.heap.objs.size+1))) (s.heap.objs.size+1) (.ins C s.heap.objs.size []))
  { s with heap:=(s.heap.push PySem.W.emptyDict).push (PySem.W.instObj C s.heap.objs.size) }:=by
 have e1:(s.heap.push PySem.W.emptyDict).get? s.heap.objs.size=some PySem.W.emptyDict:=Heap.get?_push_size s.heap rfl;have e2:((s.heap.push PySem.W.emptyDict).push (PySem.W.instObj C s.heap.objs.size)).get? (s.heap.objs.size+1)=some (PySem.W.instObj C s.heap.objs.size):=by
  have:=Heap.get?_push_size (s.heap.push PySem.W.emptyDict) (o:=PySem.W.instObj C s.heap.objs.size) rfl
  rwa [Heap.size_push] at this
 have e3:(s.heap.push PySem.W.emptyDict).Ns s.heap.objs.size (fun _=>none):=⟨PySem.W.emptyDict,#[],_,e1,rfl,(fun e he=>absurd he (by simp)),fun _=>rfl⟩;have I1:=I.laid (a:=s.heap.objs.size) (o:=.own (s.heap.objs.size+1)) (h':=s.heap.push PySem.W.emptyDict) (t':=s.toks) (fun b u q=>Heap.get?_push_of_some _ q) (Nat.le_refl _) ⟨_,e1⟩;refine I1.laid (a:=s.heap.objs.size+1) (o:=.ins C s.heap.objs.size []) (t':=s.toks) (fun b u q=>Heap.get?_push_of_some _ q) (Nat.le_of_eq (Heap.size_push _ _)) ?_;have ne:s.heap.objs.size ≠ s.heap.objs.size+1:=Nat.ne_of_lt (Nat.lt_succ_self _);refine ⟨by rw [ak ne,ai],Nat.zero_le _,ne,e2,fun _=>none,(Heap.Ns1.of_empty e3).at fun o q=>Heap.get?_push_of_some _ q,fun _=>True.intro,fun y hy=>absurd rfl hy⟩
theorem Ft {prog:Program} {w:World} {env:Env} {e:Expr} {f:Str} {pos:Pos} {s:Shared} {Q:Value->Shared->Prop} (hb:attributeBase e f env (eval e env)=eval e env)
  (h:wpAny (model prog w) A (eval e env) (fun o s₁=>wpAny (model prog w) A (getAttr o f true) Q E s₁) E s):wpAny (model prog w) A (eval (.Attribute e f pos) env) Q E s:=
 Attribute_any_ h (by rw [arm_eval_Attribute,hb])
end
def QO (K:Zqq) (ta:TE) (f:Str):TE:=fun σ H Q=>ta σ H fun x H1=>∃ a C dx fs v,x=.ref a/\H1 a=some (.ins C dx fs)/\yV K C/\b7 K C f/\fs.lookup f=some v/\Q v H1
def Uk (K:Zqq) (ta tv:TE) (f:Str):TS:=fun D σ H=>tv σ H fun y H1=>ta σ H1 fun x H2=>∃ a C dx fs,x=.ref a/\H2 a=some (.ins C dx fs)/\yV K C/\b7 K C f/\fs.length < 1000 /\
 D.nx σ (upd H2 a (.ins C dx (fH f y fs)))
def QR (X:Cx) (op:Operator) (rd:V->V->Hp->VK->Prop):Prop:=
 ∀ (pins:List (Addr×Obj)) (s:Shared) (σ:St) (H:Hp) (x y:V) (u v:Value) (Q:VK),Inv X pins σ H s->RelV x u->RelV y v->rd x y H Q->wpAny (model X.prog X.w) X.A (inplaceOp op u v) (EP X pins σ Q) X.xe s
def L6 (K:Zqq) (ta tv:TE) (rd:V->V->Hp->VK->Prop) (f:Str):TS:=fun D σ H=>ta σ H fun x H1=>∃ a C dx fs v,x=.ref a/\H1 a=some (.ins C dx fs)/\yV K C/\b7 K C f/\fs.lookup f=some v /\
 tv σ H1 fun y H2=>rd v y H2 fun z H3=>∃ dx' fs',H3 a=some (.ins C dx' fs')/\fs'.length < 1000/\D.nx σ (upd H3 a (.ins C dx' (fH f z fs')))
section
variable {X:Cx} {o e value:Expr} {f:Str} {pos pos' tpos:Pos} {ta tv:TE}
theorem aL (he:PE X e ta) (hb:attributeBase e f X.env (eval e X.env)=eval e X.env):PE X (.Attribute e f pos) (QO X.K ta f):=by
 intro pins s σ H Q I h;refine Ft hb (cT (he pins s σ H _ I h) fun u s1 ⟨x,H1,I1,rx,a,C,dx,fs,v,ex,ea,c,n,l,q⟩=>?_);subst ex;obtain rfl:u=Value.ref a:=rx;exact xJ I1 ea c n l fun u' s2 I2 ru=>⟨v,H1,I2,ru,q⟩
theorem fP (ha:PE X o ta) (hv:PE X value tv) (hs:swapsWith value (some (.Attribute o f pos')) pos.line X.env=pure false):PS X (.Assign [.Attribute o f pos'] value pos) (Uk X.K ta tv f):=by
 intro pins s σ H D I h;refine plainObj_wpAny_Assign_Attribute (cT (hv pins s σ H _ I h) fun u s1 ⟨y,H1,I1,ry,q⟩=>cT (ha pins s1 σ H1 _ I1 q) fun ov s2 ⟨x,H2,I2,rx,a,C,dx,fs,ex,ea,c,n,l,q2⟩=>?_) hs;subst ex;obtain rfl:ov=Value.ref a:=rx;exact xM I2 ea c n l ry fun s3 I3=>⟨σ,_,I3,q2⟩
theorem G9 {op:Operator} {rd:V->V->Hp->VK->Prop} (ha:PE X o ta) (hv:PE X value tv) (hop:QR X op rd):PS X (.AugAssign (.Attribute o f tpos) op value pos) (L6 X.K ta tv rd f):=by
 intro pins s σ H D I h;refine wpAny_AugAssign_AttributeAny (cT (ha pins s σ H _ I h) fun ov s1 ⟨x,H1,I1,rx,a,C,dx,fs,v,ex,ea,c,n,l,q⟩=>?_);subst ex;obtain rfl:ov=Value.ref a:=rx;refine xJ I1 ea c n l fun u s2 I2 ru=>cT (hv pins s2 σ H1 _ I2 q) fun w3 s3 ⟨y,H2,I3,ry,q3⟩=>cT (hop pins s3 σ H2 v y u w3 _ I3 ru ry q3) fun w4 s4 ⟨z,H3,I4,rz,dx',fs',ea',l',q4⟩=>?_;exact xM I4 ea' c n l' rz fun s5 I5=>⟨σ,_,I5,q4⟩
def Ul:V->V->Hp->VK->Prop:=fun x y H Q=>∃ i j,x=.int i/\y=.int j/\Q (.int (i+j)) H
theorem Ox:QR X .Add Ul:=by
 rintro pins s σ H x y u v Q I rx ry ⟨i,j,rfl,rfl,q⟩;obtain ⟨t,rfl⟩:=(show ∃ t,u=Value.int i t from rx);obtain ⟨t',rfl⟩:=(show ∃ t',v=Value.int j t' from ry);exact PyProof.Rows.iadd_int ⟨.int (i+j),H,I.tok _,⟨_,rfl⟩,q⟩
end
section
variable {X:Cx} {pins:List (Addr×Obj)} {σ:St} {H:Hp} {s:Shared} {A:Around} {E:Value->Shared->Prop} {Q:Value->Shared->Prop} {c:Value} {b:Bool}
end
end L2
namespace L2
open PySem PySem.Spec PyProof.Rows
structure cU (k:Nat) (A:Around):Prop where
 hd:A.handled=none
 dp:A.depth+3 * k+5 < recursionLimit
 un:A.units+16 * k+200 < cLine
theorem cU.mono {j k:Nat} {A:Around} (r:cU k A) (h:j<=k):cU j A:=⟨r.hd,by have:=r.dp;omega,by have:=r.un;omega⟩
theorem cU.deeper {k:Nat} {A:Around} (r:cU (k+1) A) (env:Env):cU k (A.deeper env):=
 ⟨r.hd,by have:=r.dp;show A.depth+1+3 * k+5 < _;omega,by have:=r.un;show A.units+3+16 * k+200 < _;omega⟩
theorem Es {A:Around} {C:Addr} {us:List Value} {kw:List (Str×Value)}:(A.under (.builtin "type.__call__" ⟨.ref C::us,kw⟩)).depth=A.depth+1:=by
 first | rfl | simp [Around.under,Code.weight,Code.isCreation,Code.isGuard,Code.isCaller,Code.frames,Code.isFrame,guardIds]
theorem Et {A:Around} {C:Addr} {us:List Value} {kw:List (Str×Value)}:(A.under (.builtin "type.__call__" ⟨.ref C::us,kw⟩)).units=A.units+1:=by
 first | rfl | simp [Around.under,Code.cUnits,Code.frames,Code.isFrame]
theorem cU.make {k:Nat} {A:Around} (r:cU (k+1) A) (C:Addr) (us:List Value) (kw:List (Str×Value)):cU k (A.under (.builtin "type.__call__" ⟨.ref C::us,kw⟩)):=
 ⟨r.hd,by have:=r.dp;rw [Es];omega,by have:=r.un;rw [Et];omega⟩
theorem cU.depth {k:Nat} {A:Around} (r:cU k A):A.depth < recursionLimit:=by have:=r.dp;omega
theorem cU.Oz {k:Nat} {A:Around} (r:cU k A):A.units < cLine:=by have:=r.un;omega
def O0:TA:=fun _ H Q=>Q [] H
def QS (ta:TE) (tr:TA):TA:=fun σ H Q=>ta σ H fun x H1=>tr σ H1 fun xs H2=>Q (x::xs) H2
section
variable {X:Cx} {e:Expr} {es:List Expr} {te:TE} {t:TA} {pos:Pos}
theorem ay:PA X [] O0:=fun _ _ _ _ H Q I h=>Calls.spliced_nil ⟨[],H,I,.nil,h⟩
theorem af (ha:PE X e te) (hr:PA X es t) (hs:starEach (e::es) X.env=(false,eval e X.env)::starEach es X.env:=by rfl):PA X (e::es) (QS te t):=by
 intro pos pins s σ H Q I h;rw [hs];show wpAny _ _ (spliced ((false,eval e X.env)::backTo pos (starEach es X.env))) _ _ s;refine Calls.spliced_cons (cT (ha pins s σ H _ I h) fun u s1 ⟨x,H1,I1,r1,q1⟩=>?_);exact cT (hr pos pins s1 σ H1 _ I1 q1) fun us s2 ⟨xs,H2,I2,r2,q2⟩=>⟨x::xs,H2,I2,.cons r1 r2,q2⟩
def QT (t:TA):TE:=fun σ H Q=>t σ H fun xs H1=>xs.length<=sizeLine/\∀ p,H1 p=none->Q (.ref p) (upd H1 p (.tup xs))
def Um (t:TA):TE:=fun σ H Q=>t σ H fun xs H1=>xs.length<=sizeLine/\∀ p,H1 p=none->Q (.ref p) (upd H1 p (.lst xs))
theorem mJ {x1} (h:PA X es t):PE X (.Tuple es x1 pos) (QT t):=by
 intro pins s σ H Q I hq;refine wpAny_Tuple_spliced (cT (h pos pins s σ H _ I hq) fun us s1 ⟨xs,H1,I1,r,z,q⟩=>⟨by rw [<- r.length];exact z,?_⟩);have hf:H1 s1.heap.objs.size=none:=I1.hok.fresh (Nat.le_refl _);refine ⟨.ref s1.heap.objs.size,upd H1 s1.heap.objs.size (.tup xs),I1.laid (t':=s1.toks) (fun b u e=>Heap.get?_push_of_some _ e) (Nat.le_refl _) ?_,rfl,q _ hf⟩;exact ⟨z,us,r,⟨_,Heap.get?_push_size _ rfl,rfl,_,rfl⟩⟩
theorem iK (h:PA X es t):PE X (.List es pos) (Um t):=by
 intro pins s σ H Q I hq;refine wpAny_List_spliced (cT (h pos pins s σ H _ I hq) fun us s1 ⟨xs,H1,I1,r,z,q⟩=>⟨by rw [<- r.length];exact z,?_⟩);have hf:H1 s1.heap.objs.size=none:=I1.hok.fresh (Nat.le_refl _);refine ⟨.ref s1.heap.objs.size,upd H1 s1.heap.objs.size (.lst xs),I1.laid (t':=s1.toks) (fun b u e=>Heap.get?_push_of_some _ e) (Nat.le_refl _) ?_,rfl,q _ hf⟩;exact ⟨z,us,0,r,Heap.get?_push_size _ rfl⟩
end
abbrev Sp:=List V->Hp->VK->XK->Prop
abbrev Ec:=List Env->Hp->Shared->XK->Value->Shared->Prop
structure A3 (P:Program) (w:World) (K:Zqq) (mg:Str->Option Value) (base:Heap) (A:Around) (outer:List Env) (s:Shared) (H:Hp):Prop where
 frames:A.frames=some outer
 mod:Mod K mg base
 bs:∀ b o,base.get? b=some o->s.heap.get? b=some o/\H b=none
 G3:base.objs.size<=s.heap.objs.size
 r9:s.heap.FunFrames base outer
 IE:∀ b ∈ frs outer,H b=none
 hok:oB P w H s.heap
 bare:AllBare s.gens
def CE (outer:List Env) (P:Program) (w:World) (H:Hp) (s:Shared) (Q:VK) (u:Value) (s':Shared):Prop:=
 ∃ v H',s'.os=s.os/\AllBare s'.gens/\Un (frs outer) [] H H' s.heap s'.heap/\oB P w H' s'.heap/\RelV v u/\Q v H'
def CR (CX:Ec) (outer:List Env) (P:Program) (w:World) (H:Hp) (s:Shared) (Q:VK) (E:XK) (r:Result) (s':Shared):Prop:=
 match r with
 | .ok (.ret u)=>CE outer P w H s Q u s'
 | .ok _=>False
 | .error e=>CX outer H s E e s'
structure bI (P:Program) (w:World) (K:Zqq) (mg:Str->Option Value) (base:Heap) (CX:Ec) (k:Nat) (f:Addr) (fd:FuncData) (ps:List Str) (sp:Sp):Prop where
 len:∀ vs H Q E,sp vs H Q E->vs.length=ps.length
 run:∀ (A:Around) (outer:List Env) (s:Shared) (H:Hp) (args:Args) (us:List Value) (vs:List V) (Q:VK) (E:XK),cU k A->A3 P w K mg base A outer s H->BindsTo s fd args (ps.zip us)->Vals vs us->sp vs H Q E->
   codeAny (model P w) A (.call (.ref f) args) (CR CX outer P w H s Q E) s
theorem bI.mono {P:Program} {w:World} {K:Zqq} {mg:Str->Option Value} {base:Heap} {CX:Ec} {j k:Nat} {f:Addr} {fd:FuncData} {ps:List Str} {sp:Sp} (F:bI P w K mg base CX j f fd ps sp) (h:j<=k) :
   bI P w K mg base CX k f fd ps sp:=⟨F.len,fun A outer s H args us vs Q E hr=>F.run A outer s H args us vs Q E (hr.mono h)⟩
theorem A3.make {P:Program} {w:World} {K:Zqq} {mg:Str->Option Value} {base:Heap} {A:Around} {outer:List Env} {s:Shared} {H:Hp} (e:A3 P w K mg base A outer s H) (C:Addr) (us:List Value) (kw:List (Str×Value)) :
   A3 P w K mg base (A.under (.builtin "type.__call__" ⟨.ref C::us,kw⟩)) outer s H:=⟨by first | exact e.frames | (simpa [Around.under,Code.envs,Code.isFrame,pushEnvs] using e.frames),e.mod,e.bs,e.G3,e.r9,e.IE,e.hok,e.bare⟩
section
variable {X:Cx} {pins:List (Addr×Obj)} {σ:St} {H:Hp} {s s':Shared}
theorem Inv.L7 (I:Inv X pins σ H s):A3 X.prog X.w X.K X.mg X.base X.A X.stack s H:=
 ⟨I.ok.frames,I.ok.mod,I.bs,Nat.le_trans I.ok.G3 I.sz,I.stack,I.Aw,I.hok,I.bare⟩
theorem Inv.after {Q:VK} {u:Value} (I:Inv X pins σ H s) (h:CE X.stack X.prog X.w H s Q u s'):EP X pins σ Q u s':=by
 obtain ⟨v,H',os,bare,un,hok,r,q⟩:=h;obtain ⟨hh,g,d,t,os'⟩:=s';obtain rfl:os'=s.os:=os;exact ⟨v,H',I.call (h':=hh) (g':=g) (d':=d) (t':=t) (ch:=[]) un hok bare (fun b z=>absurd z (by simp)),r,q⟩
end
def Je (sp:Sp) (yW:List V) (E:XK) (t:TA):TE:=fun σ H Q=>t σ H fun vs H1=>sp (vs++yW) H1 Q E
def N7 (C:Addr) (m:Str) (sp:Sp) (yW:List V) (E:XK) (ta:TE) (t:TA):TE:=fun σ H Q=>ta σ H fun x H1=>∃ a dx fs,x=.ref a/\H1 a=some (.ins C dx fs)/\fs.lookup m=none /\
 t σ H1 fun vs H2=>sp (x::(vs++yW)) H2 Q E
def QU (C:Addr) (sp:Sp) (yW:List V) (E:XK) (t:TA):TE:=fun σ H Q=>t σ H fun vs H1=>∀ x dx,H1 x=none->H1 dx=none->dx ≠ x->
 sp (.ref x::(vs++yW)) (upd (upd H1 dx (.own x)) x (.ins C dx [])) (fun v H2=>v=.non/\Q (.ref x) H2) E
def Binds (K:Zqq) (fd:FuncData) (ps:List Str) (ds:List Value):Prop:=
 ∀ (s:Shared) (us:List Value),K.In s.heap->(us++ds).length=ps.length->BindsTo s fd ⟨us,[]⟩ (ps.zip (us++ds))
theorem Binds.all {K:Zqq} {fd:FuncData} {ps:List Str} (h:∀ us:List Value,us.length=ps.length->bindArgs fd ⟨us,[]⟩=pure (ps.zip us)):Binds K fd ps []:=fun s us _ hl=>by
 rw [List.append_nil] at hl ⊢
 exact .of_eq (h us hl)
def Passes (CX:Ec) (X:Cx) (E:XK):Prop:=∀ (pins:List (Addr×Obj)) (σ:St) (H:Hp) (s:Shared) (e:Value) (s':Shared),Inv X pins σ H s->CX X.stack H s E e s'->X.xe e s'
section
variable {X:Cx} {CX:Ec} {k:Nat} {f C:Addr} {fd:FuncData} {ps:List Str} {sp:Sp} {yW:List V} {ds:List Value} {E:XK} {x m:Str} {p pos apos:Pos} {e o:Expr} {es:List Expr} {ta:TE} {t:TA}
theorem xO {pins:List (Addr×Obj)} {σ:St} {H:Hp} {s:Shared} {Q:VK} {us:List Value} {vs:List V} (F:bI X.prog X.w X.K X.mg X.base CX k f fd ps sp) (hr:cU k X.A) (hb:Binds X.K fd ps ds) (hd:Vals yW ds) (hx:Passes CX X E)
  (I:Inv X pins σ H s) (r:Vals vs us) (h:sp (vs++yW) H Q E):wpAny (model X.prog X.w) X.A (call (.ref f) us) (EP X pins σ Q) X.xe s:=by
 have r2:Vals (vs++yW) (us++ds):=r.append hd;have hl:(us++ds).length=ps.length:=by rw [<- r2.length];exact F.len _ _ _ _ h
 refine wpAny_call (codeAny_mono (F.run X.A X.stack s H ⟨us,[]⟩ (us++ds) (vs++yW) Q E hr I.L7 (hb s us I.rY hl) r2 h) fun r s' hq=>?_);cases r with
 | error e=>exact hx pins σ H s e s' I hq
 | ok fl=>
  cases fl with
  | ret u=>exact I.after hq
  | next=>exact False.elim hq
  | brk=>exact False.elim hq
  | cont=>exact False.elim hq
theorem bB (F:bI X.prog X.w X.K X.mg X.base CX k f fd ps sp) (hr:cU k X.A) (hg:Gl X x) (hm:X.mg x=some (.ref f)) (hk:PySem.W.keepIn X.K (.ref f)=true) (hb:Binds X.K fd ps ds) (hd:Vals yW ds) (hx:Passes CX X E)
  (ha:PA X (e::es) t) (hdb:(x==("__debug__":Str))=false:=by decide) (he:starEach (e::es) X.env=(false,eval e X.env)::starEach es X.env:=by rfl) (hpl:(backTo pos (starEach es X.env)).any (·.1)=false:=by rfl) :
  PE X (.Call (.Name x p) (e::es) [] pos) (Je sp yW E t):=by
 intro pins s σ H Q I h;refine wpAny_Call_Name_kw (qR I hg hm ?_ hdb);refine PySem.W.callWith_K (h₀:=X.base) I.ok.mod.kin hk (cT (ha pos pins s σ H _ I h) fun us s1 ⟨vs,H1,I1,r,q⟩=>⟨I1.rY,?_⟩) he hpl;exact xO F hr hb hd hx I1 r q
theorem bM {pl:Sem Bool} (he:PE X o ta) (c:yV X.K C) (hm:Meth X.K C m f) (F:bI X.prog X.w X.K X.mg X.base CX k f fd ps sp) (hr:cU k X.A) (hb:Binds X.K fd ps ds) (hd:Vals yW ds) (hx:Passes CX X E) (ha:PA X (e::es) t)
   (hst:starEach (e::es) X.env=(false,eval e X.env)::starEach es X.env:=by rfl) (hpl:(backTo pos (starEach es X.env)).any (·.1)=false:=by rfl)
   (ht:eval (.Call (.Attribute o m apos) (e::es) [] pos) X.env=(do
     let ov <- eval o X.env
     standAt apos.atName
     let (f,first) <- holding [ov] (getMethod ov m pl)
     callWith pos f first (backTo pos (starEach (e::es) X.env)) (backToKw pos (keywordEach [] X.env))):=by rfl) :
   PE X (.Call (.Attribute o m apos) (e::es) [] pos) (N7 C m sp yW E ta t):=by
 intro pins s σ H Q I h;refine PySem.W.methodCall_KW (pl:=pl) (cT (he pins s σ H _ I h) fun u s1 ⟨x,H1,I1,rx,a,dx,fs,ex,ea,l,q⟩=>?_) ht;subst ex;obtain rfl:u=Value.ref a:=rx;refine xK I1 ea c hm l ?_;refine PySem.W.callWith_K (first:=[.ref a]) (h₀:=X.base) I.ok.mod.kin hm.kp (cT (ha pos pins s1 σ H1 _ I1 q) fun us s2 ⟨vs,H2,I2,r,q2⟩=>⟨I2.rY,?_⟩) hst hpl;exact xO (us:=.ref a::us) (vs:=.ref a::vs) F hr hb hd hx I2 (.cons rfl r) q2
theorem Jf {pl:Sem Bool} (he:PE X o ta) (c:yV X.K C) (hm:Meth X.K C m f) (F:bI X.prog X.w X.K X.mg X.base CX k f fd ps sp) (hr:cU k X.A) (hb:Binds X.K fd ps ds) (hd:Vals yW ds) (hx:Passes CX X E)
   (ht:eval (.Call (.Attribute o m apos) [] [] pos) X.env=(do
     let ov <- eval o X.env
     standAt apos.atName
     let (f,first) <- holding [ov] (getMethod ov m pl)
     callWith pos f first (backTo pos (starEach [] X.env)) (backToKw pos (keywordEach [] X.env))):=by rfl) :
   PE X (.Call (.Attribute o m apos) [] [] pos) (N7 C m sp yW E ta O0):=by
 intro pins s σ H Q I h;refine PySem.W.methodCall_KW (pl:=pl) (cT (he pins s σ H _ I h) fun u s1 ⟨x,H1,I1,rx,a,dx,fs,ex,ea,l,q⟩=>?_) ht;subst ex;obtain rfl:u=Value.ref a:=rx;refine xK I1 ea c hm l ?_;exact PySem.W.callWith_K0 (first:=[.ref a]) I1.rY hm.kp (xO (us:=[.ref a]) (vs:=[.ref a]) F hr hb hd hx I1 (.cons rfl .nil) q)
structure Mk (K:Zqq) (C f:Addr):Prop where
 makes:PySem.W.makesIn K C=true
 init:PySem.W.findIn K (.ref C) "__init__"=some (some (.ref f))
 fn:PySem.W.isFn K (.ref f)=true
 kp:PySem.W.keepIn K (.ref C)=true
theorem Jg {pins:List (Addr×Obj)} {σ:St} {H:Hp} {s:Shared} {Q:VK} {us:List Value} {vs:List V} (M:Mk X.K C f) (F:bI X.prog X.w X.K X.mg X.base CX k f fd ps sp) (hr:cU (k+1) X.A) (hb:Binds X.K fd ps ds) (hd:Vals yW ds)
   (hx:Passes CX X E) (I:Inv X pins σ H s) (r:Vals vs us)
   (h:∀ x dx,H x=none->H dx=none->dx ≠ x->sp (.ref x::(vs++yW)) (upd (upd H dx (.own x)) x (.ins C dx [])) (fun v H2=>v=.non/\Q (.ref x) H2) E) :
   wpAny (model X.prog X.w) X.A (call (.ref C) us) (EP X pins σ Q) X.xe s:=by
 have hq:=h (s.heap.objs.size+1) s.heap.objs.size (I.hok.fresh (Nat.le_succ _)) (I.hok.fresh (Nat.le_refl _)) (Nat.ne_of_lt (Nat.lt_succ_self _));have I2:=Inv.made (C:=C) I;have r2:Vals (V.ref (s.heap.objs.size+1)::(vs++yW)) (Value.ref (s.heap.objs.size+1)::(us++ds)):=.cons rfl (r.append hd);have hl:(Value.ref (s.heap.objs.size+1)::us++ds).length=ps.length:=by
   have e:=r2.length;rw [F.len _ _ _ _ hq] at e;exact e.symm
 refine wpAny_call (Jd (f:=f) I.rY M.makes M.init (beq_iff_eq.mp M.fn) (codeAny_mono (F.run _ X.stack _ _ ⟨Value.ref (s.heap.objs.size+1)::us,[]⟩ (Value.ref (s.heap.objs.size+1)::(us++ds)) _ _ E (hr.make C us [])
   (I2.L7.make C us []) (hb _ (Value.ref (s.heap.objs.size+1)::us) I2.rY hl) r2 hq) fun r s' hq'=>?_))
 cases r with
 | error e=>exact hx pins σ _ _ e s' I2 hq'
 | ok fl=>
   cases fl with
   | ret u=>
     obtain ⟨v,H',I3,rv,ev,q3⟩:=I2.after hq';subst ev;exact ⟨rv,⟨V.ref (s.heap.objs.size+1),H',I3,rfl,q3⟩⟩
   | next=>exact False.elim hq'
   | brk=>exact False.elim hq'
   | cont=>exact False.elim hq'
theorem sS (M:Mk X.K C f) (F:bI X.prog X.w X.K X.mg X.base CX k f fd ps sp) (hr:cU (k+1) X.A) (hg:Gl X x) (hm:X.mg x=some (.ref C)) (hb:Binds X.K fd ps ds) (hd:Vals yW ds) (hx:Passes CX X E)
  (ha:PA X (e::es) t) (hdb:(x==("__debug__":Str))=false:=by decide) (he:starEach (e::es) X.env=(false,eval e X.env)::starEach es X.env:=by rfl) (hpl:(backTo pos (starEach es X.env)).any (·.1)=false:=by rfl) :
  PE X (.Call (.Name x p) (e::es) [] pos) (QU C sp yW E t):=by
 intro pins s σ H Q I h;refine wpAny_Call_Name_kw (qR I hg hm ?_ hdb);refine PySem.W.callWith_K (h₀:=X.base) I.ok.mod.kin M.kp (cT (ha pos pins s σ H _ I h) fun us s1 ⟨vs,H1,I1,r,q⟩=>⟨I1.rY,?_⟩) he hpl;exact Jg M F hr hb hd hx I1 r q
end
section
variable {X:Cx} {CX:Ec} {k:Nat} {f C:Addr} {fd:FuncData} {ps ks:List Str} {sp:Sp} {E:XK} {x m:Str} {p pos apos kpos:Pos} {e o:Expr} {es:List Expr} {kws:List Keyword} {te ta:TE} {t tk:TA} {nm:Option Str}
variable {g:List Value->List Value->List Value} {gV:List V->List V->List V}
end
structure aM (N P:List Str) (sc:Scope):Prop where
 kind:sc.kind=.function
 co:sc.isCoroutine=false
 gen:sc.isGenerator=false
 nd:N.Nodup
 pre:N.take P.length=P
 par:∀ x ∈ P,sc.names.lookup x=some .local\/sc.names.lookup x=some .cell
 O1:∀ y ∈ sc.names,y.2 ≠ .free
theorem zE {kindOf:Str->Option NameKind} {x:Str}:∀ {binds:List (Str×Value)} {m:Str->Option Value},(∀ v,(x,v) ∉ binds)->bindL kindOf binds m x=m x
 | [],_,_=>rfl
 | (n,v)::r,m,h=>by
   unfold bindL
   rw [zE fun w hw=>h w (List.mem_cons_of_mem _ hw)]
   split
   . have:x ≠ n:=by rintro rfl;exact h v List.mem_cons_self
     simp [this]
   . rfl
theorem zF {kindOf:Str->Option NameKind} {x:Str}:∀ {binds:List (Str×Value)} {m:Str->Option Value},(∀ v,(x,v) ∉ binds)->bindC kindOf binds m x=m x
 | [],_,_=>rfl
 | (n,v)::r,m,h=>by
   unfold bindC
   rw [zF fun w hw=>h w (List.mem_cons_of_mem _ hw)]
   split
   . rfl
   . have:x ≠ n:=by rintro rfl;exact h v List.mem_cons_self
     simp [this]
theorem zG {kindOf:Str->Option NameKind} {x:Str} {v:Value}:∀ {P:List Str} {vs:List Value} {i:Nat} {m:Str->Option Value},P.Nodup->P[i]?=some x->vs[i]?=some v->kindOf x=some .local->
  bindL kindOf (P.zip vs) m x=some v
 | [],_,_,_,_,h,_,_=>by simp at h
 | _::_,[],_,_,_,_,h,_=>by simp at h
 | p::P,w::vs,0,m,nd,h1,h2,hk=>by
  simp at h1 h2;subst h1;subst h2
  show bindL kindOf ((p,w)::P.zip vs) m p=_
  unfold bindL
  rw [zE fun v hv=>(List.nodup_cons.mp nd).1 (List.of_mem_zip hv).1,if_pos hk]
  simp
 | p::P,w::vs,i+1,m,nd,h1,h2,hk=>by
  show bindL kindOf ((p,w)::P.zip vs) m x=_
  unfold bindL
  exact zG (i:=i) (List.nodup_cons.mp nd).2 (by simpa using h1) (by simpa using h2) hk
theorem zH {kindOf:Str->Option NameKind} {x:Str} {v:Value}:∀ {P:List Str} {vs:List Value} {i:Nat} {m:Str->Option Value},P.Nodup->P[i]?=some x->vs[i]?=some v->kindOf x ≠ some .local->
  bindC kindOf (P.zip vs) m x=some v
 | [],_,_,_,_,h,_,_=>by simp at h
 | _::_,[],_,_,_,_,h,_=>by simp at h
 | p::P,w::vs,0,m,nd,h1,h2,hk=>by
  simp at h1 h2;subst h1;subst h2
  show bindC kindOf ((p,w)::P.zip vs) m p=_
  unfold bindC
  rw [zF fun v hv=>(List.nodup_cons.mp nd).1 (List.of_mem_zip hv).1,if_neg hk]
  simp
 | p::P,w::vs,i+1,m,nd,h1,h2,hk=>by
  show bindC kindOf ((p,w)::P.zip vs) m x=_
  unfold bindC
  exact zH (i:=i) (List.nodup_cons.mp nd).2 (by simpa using h1) (by simpa using h2) hk
def start (N:List Str) (vs:List V):St:=vs.map some++List.replicate (N.length - vs.length) none
def mX (CX:Ec) (P:Program) (w:World) (K:Zqq) (mg:Str->Option Value) (base:Heap) (N:List Str) (qual:Str) (scope:Scope) (f:Addr) (cd:Value) (A:Around) (outer:List Env) (s:Shared) (H:Hp) (E:XK):Cx where
 prog:=P
 w:=w
 K:=K
 mg:=mg
 base:=base
 A:=A.deeper (envOfC qual scope s.heap.objs.size f cd)
 N:=N
 u9:=s
 Od:=H
 env:=envOfC qual scope s.heap.objs.size f cd
 outer:=outer
 stack:=envOfC qual scope s.heap.objs.size f cd::outer
 ex:=[]
 calm:=true
 fn:=fun _=>true
 pn:=[]
 xe:=fun e s'=>wpAny (model P w) (A.deeper (envOfC qual scope s.heap.objs.size f cd)) (leaving (envOfC qual scope s.heap.objs.size f cd) e) (fun _ s''=>CX outer H s E e s'') (fun e' s''=>CX outer H s E e' s'') s'
theorem Ck {sc:Scope} {n:Nat} {x:Str} (h:sc.names.lookup x=some .cell):∃ c,(cellsFrom n sc.names []).lookup x=some c:=by
 have q:=PySem.W.cellsFrom_some sc.names n [] (.inl h);exact Option.isSome_iff_exists.mp q
theorem zI {CX:Ec} {P:Program} {w:World} {K:Zqq} {mg:Str->Option Value} {base:Heap} {N ps:List Str} {qual:Str} {scope:Scope} {f:Addr} {cd:Value} {A:Around} {outer:List Env} {s s1:Shared} {H:Hp} {E:XK} {us:List Value} {vs:List V}
   (S:aM N ps scope) (hd:A.handled=none) (e0:A3 P w K mg base A outer s H) (hl:vs.length=ps.length) (r:Vals vs us)
   (x:InCallC s s.heap.objs.size (bindL (envOfC qual scope s.heap.objs.size f cd).kindOf (ps.zip us) fun _=>none) (cellsFrom (s.heap.objs.size+1) scope.names []) (bindC (envOfC qual scope s.heap.objs.size f cd).kindOf (ps.zip us) fun _=>none) s1) :
   Inv (mX CX P w K mg base N qual scope f cd A outer s H E) [] (start N vs) H s1:=by
 have hpl:ps.length<=N.length:=by have:=congrArg List.length S.pre;rw [List.length_take] at this;omega
 obtain ⟨h1,tk,rfl,hk⟩:=x.done;have Qw:∀ b:Addr,b ∉ (mX CX P w K mg base N qual scope f cd A outer s H E).ex:=fun b z=>absurd (show b ∈ ([]:List Addr) from z) (by simp);refine ⟨⟨e0.mod,S.kind,rfl,rfl,Nat.le_refl _,fun y z c h1 h2=>?_,fun y hy=>?_,fun y c _ h=>?_,fun _=>hd,Around.frames_deeper e0.frames,.inr ⟨rfl,rfl⟩,fun b z=>absurd z (Qw b),e0.bs,e0.G3,fun b _ _=>Qw b,fun b z=>absurd z (Qw b),e0.r9,e0.IE⟩,
   rfl,e0.bare,Un.kept hk,⟨_,x.toInCall.ns,fun i y v h1 h2 h3=>?_⟩,fun y c h=>⟨_,x.cell y c h⟩,e0.hok.fresh (Nat.le_refl _),fun y c h=>?_,fun p hp=>absurd (show p ∈ ([]:List (Addr×Obj)) from hp) (by simp),e0.hok.kept hk,?_⟩
 . exact name_of_addr x.apart (PySem.mem_of_lookup h1) (PySem.mem_of_lookup h2)
 . have hy:scope.names.lookup y=some .cell\/scope.names.lookup y=some .free:=hy
   rcases hy with hy | hy
   . exact Ck hy
   . exact absurd rfl (S.O1 _ (PySem.mem_of_lookup hy))
 . exact Nat.le_of_lt (x.above y c (PySem.mem_of_lookup h))
 . have hi:i < vs.length:=by
     unfold start at h2;by_cases hi:i < vs.length
     . exact hi
     . rw [List.getElem?_append_right (by simpa using hi)] at h2
       rw [List.getElem?_replicate] at h2;split at h2<;>cases h2
   have ha:vs[i]?=some v:=by
     unfold start at h2;rw [List.getElem?_append_left (by simpa using hi),List.getElem?_map] at h2;cases e:vs[i]? with
     | none=>rw [e] at h2;cases h2
     | some a=>rw [e] at h2;cases h2;rfl
   obtain ⟨u,hu,rv⟩:=r.get ha;have hp:ps[i]?=some y:=by
     rw [<- S.pre,List.getElem?_take_of_lt (by omega)];exact h1
   have V6:ps.Nodup:=by rw [<- S.pre];exact S.nd.sublist (List.take_sublist _ _)
   refine ⟨u,rv,?_⟩;rcases S.par y (List.mem_of_getElem? hp) with k | k
   . exact .inl ⟨k,zG V6 hp hu k⟩
   . obtain ⟨c,e⟩:=Ck (n:=s.heap.objs.size+1) k
     refine .inr ⟨.inl k,c,e,?_⟩;have q:=x.cell y c e;rw [zH V6 hp hu (by show scope.names.lookup y ≠ _;rw [k];decide)] at q;exact q
 . exact e0.hok.fresh (Nat.le_of_lt (x.above y c (PySem.mem_of_lookup h)))
 . unfold start
   show _=N.length;rw [List.length_append,List.length_map,List.length_replicate];omega
theorem N8 {CX:Ec} {P:Program} {w:World} {K:Zqq} {mg:Str->Option Value} {base:Heap} {k:Nat} {f:Addr} {name qual:Str} {params:Arguments} {body:List Stmt} {scope:Scope} {dV kV doc pm cdv ct oc:Value} {an od:Option Addr}
   {osl:Array (Option Value)} {N ps:List Str} {sp:Sp} (lk:K.lookup f=some ⟨oc,od,.func (PySem.W.fnOf name qual params body scope dV kV doc pm an cdv ct),osl⟩) (hcd:PySem.W.codeIn K cdv qual=true) (S:aM N ps scope)
   (len:∀ vs H Q E,sp vs H Q E->vs.length=ps.length)
   (hbody:∀ (A:Around) (outer:List Env) (s:Shared) (H:Hp) (vs:List V) (Q:VK) (E:XK),cU k (A.deeper (envOfC qual scope s.heap.objs.size f cdv))->sp vs H Q E->
     ∃ t,Ax (mX CX P w K mg base N qual scope f cdv A outer s H E) body t/\t { nx:=fun _ H'=>Q .non H',rt:=Q } (start N vs) H) :
   bI P w K mg base CX (k+1) f (PySem.W.fnOf name qual params body scope dV kV doc pm an cdv ct) ps sp:=by
 refine ⟨len,fun A outer s H args us vs Q E hr e0 hb r Eu=>?_⟩;have hl:=len _ _ _ _ Eu;have KX:K.In s.heap:=e0.mod.kin.keeps fun b o e=>(e0.bs b o e).1;have lim:s.heap.NoLimit:=e0.mod.nolimit.keeps fun b o e=>(e0.bs b o e).1;have hkind:∀ y ∈ ps.zip us,scope.names.lookup y.1=some .local\/(scope.names.lookup y.1=some .cell/\((cellsFrom (s.heap.objs.size+1) scope.names []).lookup y.1).isSome=true):=fun ⟨n,v⟩ hy=>by
   rcases S.par n (List.of_mem_zip hy).1 with q | q
   . exact .inl q
   . exact .inr ⟨q,PySem.W.cellsFrom_some _ _ _ (.inl q)⟩
 refine codeAny_call_function hr.depth (KX _ _ lk) rfl S.co S.gen rfl (PySem.W.codeRec_of KX hcd) (hb _ _ _ _ ?_);refine wpAny_newFunctionEnv_cells S.kind hkind fun env he s1 x=>?_;subst he;refine ⟨lim.keeps x.toInCall.keep,codeAny_func ?_⟩;obtain ⟨t,ht,hq⟩:=hbody A outer s H vs Q E (hr.deeper _) Eu;have I:Inv (mX CX P w K mg base N qual scope f cdv A outer s H E) [] (start N vs) H s1:=zI S hr.hd e0 hl r x;refine wpAny_mono (ht [] s1 (start N vs) H _ I hq) (fun fl s' hs=>?_) fun e s' hs=>hs;have fin:∀ {σ':St} {H':Hp} {v:V} {u:Value},Inv (mX CX P w K mg base N qual scope f cdv A outer s H E) [] σ' H' s'->RelV v u->Q v H'->CE outer P w H s Q u s':=
   fun {σ' H' v u} J rv q=>⟨v,H',J.os,J.bare,J.base,J.hok,rv,q⟩
 cases fl with
 | ret u=>
   obtain ⟨v,σ',H',J,rv,q⟩:=hs;exact fin J rv q
 | next=>
   obtain ⟨σ',H',J,q⟩:=hs;exact fin (v:=V.non) (u:=Value.none) J rfl q
 | brk=>
   obtain ⟨_,_,_,q⟩:=hs;exact False.elim q
 | cont=>
   obtain ⟨_,_,_,q⟩:=hs;exact False.elim q
end L2
namespace L2
open PySem PySem.Spec PyProof.Rows
section
variable {X:Cx} {x:Str} {p pos:Pos} {e:Expr} {es:List Expr} {t:TA} {id T:String} {r:List V->Hp->VK->Prop}
def V7 (r:List V->Hp->VK->Prop) (t:TA):TE:=fun σ H Q=>t σ H fun vs H1=>r vs H1 Q
theorem c9 (hc:vt X (.builtin id) r) (hg:Gl X x) (hm:X.mg x=none) (hv:bootBuiltins x=some (.builtin id)) (ha:PA X (e::es) t) (hn:x ≠ "__name__":=by decide) (hdb:(x==("__debug__":Str))=false:=by decide)
  (he:starEach (e::es) X.env=(false,eval e X.env)::starEach es X.env:=by rfl) (hpl:(backTo pos (starEach es X.env)).any (·.1)=false:=by rfl):PE X (.Call (.Name x p) (e::es) [] pos) (V7 r t):=by
 intro pins s σ H Q I h;refine wpAny_Call_Name_kw (rZ I hg hm hv ?_ hn hdb);exact PyProof.Rows.callWith_builtin1 (cT (ha pos pins s σ H _ I h) fun us s1 ⟨vs,H1,I1,r1,q1⟩=>hc pins s1 σ H1 vs us Q I1 r1 q1) he hpl
theorem l0 (hc:vt X (.type T) r) (hg:Gl X x) (hm:X.mg x=none) (hv:bootBuiltins x=some (.type T)) (ha:PA X (e::es) t) (hn:x ≠ "__name__":=by decide) (hdb:(x==("__debug__":Str))=false:=by decide)
  (he:starEach (e::es) X.env=(false,eval e X.env)::starEach es X.env:=by rfl) (hpl:(backTo pos (starEach es X.env)).any (·.1)=false:=by rfl):PE X (.Call (.Name x p) (e::es) [] pos) (V7 r t):=by
 intro pins s σ H Q I h;refine wpAny_Call_Name_kw (rZ I hg hm hv ?_ hn hdb);exact PyProof.Rows.callWith_type1 (cT (ha pos pins s σ H _ I h) fun us s1 ⟨vs,H1,I1,r1,q1⟩=>hc pins s1 σ H1 vs us Q I1 r1 q1) he hpl
end
end L2
namespace HT
open PySem PyProof.Rows
def lexLt:List Int->List Int->Bool
 | [],[]=>false
 | [],_::_=>true
 | _::_,[]=>false
 | x::xs,y::ys=>if x=y then lexLt xs ys else decide (x < y)
theorem jC (x y:Int) (xs ys:List Int):lexLt (x::xs) (y::ys)=if x=y then lexLt xs ys else decide (x < y):=rfl
theorem yX:lexLt [] []=false:=rfl
theorem xP (y:Int) (ys:List Int):lexLt [] (y::ys)=true:=rfl
theorem xQ (x:Int) (xs:List Int):lexLt (x::xs) []=false:=rfl
theorem Cm (A:Around) (s:Shared) (a:Int) (t:Tok) (c:Int) (u:Tok):∃ e,SeqAt.EqAt A s (.int a t) (.int c u) e/\(e=true ↔ a=c):=
 ⟨(a==c),SeqAt.EqAt.int_int a t c u,by simp⟩
theorem Jh (A:Around) (s:Shared) (a:Int) (t:Tok) (c:Int) (u:Tok) (prog:Program) (w:World) (E:Value->Shared->Prop) (Q:Value->Shared->Prop) (h:Q (.bool (decide (a < c))) s) :
  wpAny (model prog w) A (richCompare .Lt (.int a t) (.int c u)) Q E s:=
 (PyProof.Rows.lt_int h:wpAny (model prog w) A (compareOp .Lt (.int a t) (.int c u)) Q E s)
section
open PySem.SeqAt
open PySem.AutoSeq1 (wpAny_loadPart')
open PySem.MeetsSeq PySem.MeetsSeq2 PySem.MeetsSeq3
end
section
variable {prog:Program} {w:World} {A:Around} {E:Value->Shared->Prop} {s:Shared}
theorem L8 {t b:Addr} {vs ws:List Value} {Q:Value->Shared->Prop} (ht:IsTup s.heap t vs.toArray) (hb:IsTup s.heap b ws.toArray) (hv:vs ≠ [])
   (h1:ws=[]->Q (.ref t) s) (h2:ws ≠ []->Q (.ref s.heap.objs.size) { s with heap:=s.heap.push { cls:=.type "tuple",data:=.seq (vs++ws).toArray } })
   (hsz:vs.length+ws.length<=sizeLine):wpAny (model prog w) A (binaryOp .Add (.ref t) (.ref b)) Q E s:=by
 obtain ⟨⟨cls,dd,data,sl⟩,ho,hc,n,hd⟩:=id ht;obtain ⟨⟨O2,dd2,data2,sl2⟩,ho2,hc2,n2,hd2⟩:=id hb;simp only at hc hd hc2 hd2;subst hc hd hc2 hd2;have e:vs.toArray++ws.toArray=(vs++ws).toArray:=by simp
 by_cases hw:ws=[]
 . exact concat_meets ⟨_,ho,rfl⟩ ⟨_,ho2,rfl⟩ noFill_tuple_add seq_tuple_add PySem.F.slot_tuple_add PySem.F.entry_tuple_add (PySem.F.args_tuple_add_2 _ _)
     (tuple_addW1 t b vs.toArray ws.toArray n n2 dd dd2 sl sl2 (by simpa using hv) (by simp [hw])) ⟨ho,ho2,h1 hw⟩
 . refine concat_meets ⟨_,ho,rfl⟩ ⟨_,ho2,rfl⟩ noFill_tuple_add seq_tuple_add PySem.F.slot_tuple_add PySem.F.entry_tuple_add (PySem.F.args_tuple_add_2 _ _)
     (tuple_addW2 t b vs.toArray ws.toArray n n2 dd dd2 sl sl2 (by simpa using hv) (by simpa using hw) (by rw [List.size_toArray,List.size_toArray];exact hsz)) ⟨ho,ho2,?_⟩
   rw [e];exact h2 hw
def Cn (n d:Nat):Option Int->Nat
 | none=>d
 | some v=>if v < 0 then (v+(n:Int)).toNat else min v.toNat n
theorem Ji (n d:Nat):Cn n d none=d:=rfl
theorem LA (n d k:Nat):Cn n d (some (k:Int))=min k n:=by
 show (if (k:Int) < 0 then ((k:Int)+(n:Int)).toNat else min (k:Int).toNat n)=min k n;rw [if_neg (by omega),Int.toNat_natCast]
end
end HT
namespace L2
open PySem PySem.Spec PyProof.Rows
abbrev TO:=St->Hp->(Option Int->Hp->Prop)->Prop
def PO (X:Cx) (e:Option Expr) (t:TO):Prop:=
 ∀ (pins:List (Addr×Obj)) (s:Shared) (σ:St) (H:Hp) (Q:Option Int->Hp->Prop),Inv X pins σ H s->t σ H Q->
   wpAny (model X.prog X.w) X.A (evalPart e X.env) (fun u s'=>∃ o H',Inv X pins σ H' s'/\IsPart u o/\Q o H') X.xe s
def LB:TO:=fun _ H Q=>Q none H
def QV (t:TE):TO:=fun σ H Q=>t σ H fun x H1=>∃ i,x=.int i/\Q (some i) H1
theorem intsAre_of {ns:List Int}:∀ {us:List Value},Vals (ns.map V.int) us->IntsAre us ns:=by
 induction ns with
 | nil=>intro us r;rw [List.map_nil] at r;cases r;exact .nil
 | cons n ns ih=>
  intro us r;rw [List.map_cons] at r;cases r with
  | cons r1 r2=>
   obtain ⟨t,e⟩:=r1;subst e;exact .cons n t (ih r2)
section
variable {X:Cx} {e:Expr} {te:TE} {lo hi:Option Expr} {tl th:TO} {pos p2:Pos}
theorem LC:PO X none LB:=by
 intro pins s σ H Q I h;rw [evalPart_none];exact wpAny_pure ⟨none,H,I,.none,h⟩
theorem LD (h:PE X e te):PO X (some e) (QV te):=by
 intro pins s σ H Q I hw;rw [evalPart_some];refine cT (h pins s σ H _ I hw) fun u s1 ⟨x,H1,I1,r1,q1⟩=>?_;obtain ⟨i,rfl,q⟩:=q1;obtain ⟨t,rfl⟩:=r1;exact ⟨some i,H1,I1,.int i t,q⟩
def V8 (X:Cx) (r:V->Option Int->Option Int->Hp->VK->Prop):Prop:=
 ∀ (pins:List (Addr×Obj)) (s:Shared) (σ:St) (H:Hp) (x:V) (v vl vu:Value) (lo hi:Option Int) (sl:Addr) (Q:VK),Inv X pins σ H s->RelV x v->s.heap.IsSliceOf sl vl vu .none->IsPart vl lo->IsPart vu hi->r x lo hi H Q->
   ∃ T id,typeLookup (.type T) "__getitem__"=pure (some (.builtin id))/\s.TypeIs v T/\wpAny (model X.prog X.w) X.A (getItem v (.ref sl)) (EP X pins σ Q) X.xe s
def Xf (r:V->Option Int->Option Int->Hp->VK->Prop) (te:TE) (tl th:TO):TE:=fun σ H Q=>te σ H fun x H1=>tl σ H1 fun l H2=>th σ H2 fun u H3=>r x l u H3 Q
theorem Jj {r:V->Option Int->Option Int->Hp->VK->Prop} (hr:V8 X r) (he:PE X e te) (hl:PO X lo tl) (hu:PO X hi th):PE X (.Subscript e (.Slice lo hi none p2) pos) (Xf r te tl th):=by
 intro pins s σ H Q I h;refine Subscript_ (cT (he pins s σ H _ I h) fun v s1 ⟨x,H1,I1,r1,q1⟩=>?_);refine wpAny_Slice (cT (hl pins s1 σ H1 _ I1 q1) fun vl s2 ⟨l,H2,I2,pl,q2⟩=>cT (hu pins s2 σ H2 _ I2 q2) fun vu s3 ⟨u,H3,I3,pu,q3⟩=>?_);rw [evalPart_none];refine wpAny_pure ?_;have I4:Inv X pins σ H3 { s3 with heap:=s3.heap.push { cls:=.type "slice",data:=.fields #[vl,vu,.none] } }:=I3.kept (t':=s3.toks) fun b ob q=>Heap.get?_push_of_some _ q
 obtain ⟨T,id,hT,ht,hg⟩:=hr pins { s3 with heap:=s3.heap.push { cls:=.type "slice",data:=.fields #[vl,vu,.none] } } σ H3 x v vl vu l u s3.heap.objs.size Q I4 r1 (Heap.IsSliceOf.new ..) pl pu q3;show wpAny (model X.prog X.w) X.A (subscriptTail e (.Slice lo hi none p2) v (.ref s3.heap.objs.size)) (EP X pins σ Q) X.xe { s3 with heap:=s3.heap.push { cls:=.type "slice",data:=.fields #[vl,vu,.none] } };exact tail_any (ops:=[.ref s3.heap.objs.size,v]) ht hT hg (by with_unfolding_all rfl)
def Ew (xs:List V) (lo hi:Option Int):List V:=(xs.drop (HT.Cn xs.length 0 lo)).take (HT.Cn xs.length xs.length hi - HT.Cn xs.length 0 lo)
theorem Co (xs:List V) (lo hi:Option Int):(Ew xs lo hi).length<=xs.length:=by
 unfold Ew;rw [List.length_take,List.length_drop];omega
def QW (K:Zqq):R2:=fun x y H Q=>∃ a b xs ys,x=.ref a/\y=.ref b/\j0 K H a xs/\j0 K H b ys/\xs ≠ []/\xs.length+ys.length<=sizeLine /\
 (ys=[]->Q (.ref a) H)/\(ys ≠ []->∀ p,H p=none->Q (.ref p) (upd H p (.tup (xs++ys))))
theorem Vals.wV {xs:List V} {us:List Value} (r:Vals xs us):us=[] ↔ xs=[]:=by
 cases r with
 | nil=>simp
 | cons _ _=>simp
theorem LF:vq X (binaryOp .Add) (QW X.K):=by
 intro pins s σ H x y v u Q I rx ry h;obtain ⟨a,b,xs,ys,rfl,rfl,ha,hb,hx,hz,q1,q2⟩:=h;cases rx;cases ry;obtain ⟨its,r1,p1,_⟩:=I.tuple ha;obtain ⟨its2,r2,p2,_⟩:=I.tuple hb;refine HT.L8 p1 p2 (fun z=>hx (r1.wV.mp z)) (fun z=>⟨.ref a,H,I,rfl,q1 (r2.wV.mp z)⟩) (fun z=>?_) (by rw [<- r1.length,<- r2.length];exact hz);refine ⟨.ref s.heap.objs.size,_,I.laid (t':=s.toks) (o:=.tup (xs++ys)) (fun b ob q=>Heap.get?_push_of_some _ q) (Nat.le_refl _) ?_,rfl,q2 (fun w=>z (r2.wV.mpr w)) _ (I.hok.fresh (Nat.le_refl _))⟩;exact ⟨by rw [List.length_append];exact hz,_,r1.append r2,IsTup.new _ _⟩
end
end L2
namespace L2
open PySem PySem.Spec PyProof.Rows
def LG (n:Nat) (i:Int):Option Nat:=if 0<=i then (if i < n then some i.toNat else none) else if -(n:Int)<=i then some (i+n).toNat else none
def Jk {α:Type} (xs:List α) (i:Int):Option α:=(LG xs.length i).bind fun j=>xs[j]?
theorem Fv {n:Nat} {i:Int} {j:Nat} (h:LG n i=some j):seqIndex? i n=some j/\j < n/\-(n:Int)<=i/\i < n:=by
 unfold LG at h;by_cases h0:0<=i
 . rw [if_pos h0] at h
   by_cases h1:i < n
   . rw [if_pos h1] at h
     have e:i.toNat=j:=Option.some.inj h;exact ⟨by rw [seqIndex_of h0 h1,e],by omega,by omega,h1⟩
   . rw [if_neg h1] at h;cases h
 . rw [if_neg h0] at h
   by_cases h1:-(n:Int)<=i
   . rw [if_pos h1] at h
     have e:(i+n).toNat=j:=Option.some.inj h;exact ⟨by rw [seqIndex_neg (by omega) h1,e],by omega,h1,by omega⟩
   . rw [if_neg h1] at h;cases h
theorem Fw {α:Type} {xs:List α} {i:Int} {v:α} (h:Jk xs i=some v):∃ j,seqIndex? i xs.length=some j/\xs[j]?=some v/\j < xs.length/\-(xs.length:Int)<=i/\i < xs.length:=by
 unfold Jk at h;cases e:LG xs.length i with
 | none=>rw [e] at h;cases h
 | some j=>
  rw [e] at h;obtain ⟨h1,h2,h3,h4⟩:=Fv e;exact ⟨j,h1,h,h2,h3,h4⟩
theorem bT {α:Type} {xs:List α} {j:Nat} {v:α} (h:xs[j]?=some v):Jk xs (j:Int)=some v:=by
 have hj:j < xs.length:=(List.getElem?_eq_some_iff.mp h).1;have e:LG xs.length (j:Int)=some j:=by
  unfold LG;rw [if_pos (by omega),if_pos (by omega)];simp
 unfold Jk;rw [e];exact h
def LH (b:Expr):Prop:=∀ o i,subscripted b false o i=operate [o,i] (getItem o i)
def SW (X:Cx) (r:R2):Prop:=
 ∀ (value slice:Expr) (pins:List (Addr×Obj)) (s:Shared) (σ:St) (H:Hp) (x y:V) (v u:Value) (Q:VK),Inv X pins σ H s->RelV x v->RelV y u->r x y H Q->
   subscripted slice false v u=operate [v,u] (getItem v u)->wpAny (model X.prog X.w) X.A (subscriptTail value slice v u) (EP X pins σ Q) X.xe s
def Xg (X:Cx) (id:String) (r:V->List V->Hp->VK->Prop):Prop:=
 ∀ (pins:List (Addr×Obj)) (s:Shared) (σ:St) (H:Hp) (x:V) (xs:List V) (v:Value) (us:List Value) (Q:VK),Inv X pins σ H s->RelV x v->Vals xs us->r x xs H Q->
   wpAny (model X.prog X.w) X.A (call (.builtin id) (v::us)) (EP X pins σ Q) X.xe s
section
variable {X:Cx} {a b:Expr} {ta tb:TE} {pos:Pos}
theorem fQ {r:R2} (hr:SW X r) (ha:PE X a ta) (hb:PE X b tb) (hs:LH b):PE X (.Subscript a b pos) (SV r ta tb):=by
 intro pins s σ H Q I h;exact Subscript_ (Om ha hb I h fun v u s2 x y H2 I2 rx ry q=>hr a b pins s2 σ H2 x y v u Q I2 rx ry q (hs _ _))
def QX (K:Zqq):R2:=fun x y H Q=>∃ p xs i v,x=.ref p/\y=.int i/\c8 K H p xs/\Jk xs i=some v/\Q v H
def Up (K:Zqq):R2:=fun x y H Q=>∃ p xs i v,x=.ref p/\y=.int i/\j0 K H p xs/\Jk xs i=some v/\Q v H
theorem cJ:SW X (QX X.K):=by
 intro value slice pins s σ H x y v u Q I rx ry h hs;obtain ⟨p,xs,i,z,rfl,rfl,hq,he,q⟩:=h;cases rx;obtain ⟨t,rfl⟩:=ry;obtain ⟨its,r,pl,hz⟩:=I.list hq;obtain ⟨j,h1,h2,h3,h4,h5⟩:=Fw he;obtain ⟨w,ew,rw'⟩:=r.get h2;have hl:=r.length;have hn:=uH;have fin:EP X pins σ Q w s:=⟨z,H,I,rw',q⟩;by_cases h0:0<=i
 . have hj:i.toNat=j:=by
     rw [seqIndex_of h0 h5] at h1;exact Option.some.inj h1
   exact item_listR pl.isList h0 (by omega) (by rw [hj];simpa using ew) fin hs
 . have hj:(i+(its.toArray.size:Int)).toNat=j:=by
     rw [seqIndex_neg (by omega) h4] at h1;rw [List.size_toArray,<- hl];exact Option.some.inj h1
   exact subscriptTail_builtinR (x:=w) pl.isList.typeIs slot_list_getitem.lookup
     (wpAny_getItem_list_neg (Q:=fun r s'=>r=w/\EP X pins σ Q r s') pl.isList (by omega) (by rw [List.size_toArray]<;>omega) (by omega) (by rw [hj];simpa using ew) ⟨rfl,fin⟩) hs
theorem A4:SW X (Up X.K):=by
 intro value slice pins s σ H x y v u Q I rx ry h hs;obtain ⟨p,xs,i,z,rfl,rfl,hq,he,q⟩:=h;cases rx;obtain ⟨t,rfl⟩:=ry;obtain ⟨its,r,pl,hz⟩:=I.tuple hq;obtain ⟨j,h1,h2,h3,h4,h5⟩:=Fw he;obtain ⟨w,ew,rw'⟩:=r.get h2;have hl:=r.length;have hn:=uH;have fin:EP X pins σ Q w s:=⟨z,H,I,rw',q⟩;exact subscriptTail_builtinR (x:=w) pl.typeIs slot_tuple_getitem.lookup
   (getItem_tuple (j:=j) (Q:=fun r s'=>r=w/\EP X pins σ Q r s') pl (by omega) (by omega) (by rw [List.size_toArray,<- hl];exact h1) (by simpa using ew) ⟨rfl,fin⟩) hs
theorem Ey (its:List Value) (n j:Nat) (u:Value):Obj.mapSeq (·.setIfInBounds j u) { cls:=.type "list",data:=.seq its.toArray n }={ cls:=.type "list",data:=.seq (its.set j u).toArray n }:=by
 simp [Obj.mapSeq]
theorem Inv.lst {pins:List (Addr×Obj)} {σ:St} {H:Hp} {s:Shared} {p:Addr} {xs:List V} (I:Inv X pins σ H s) (h:H p=some (.lst xs)) :
  ∃ (its:List Value) (n:Nat),Vals xs its/\s.heap.get? p=some { cls:=.type "list",data:=.seq its.toArray n }/\xs.length<=sizeLine:=by
 obtain ⟨z,its,n,r,e⟩:=I.hok p _ h;exact ⟨its,n,r,e,z⟩
theorem Inv.O3 {pins:List (Addr×Obj)} {σ:St} {H:Hp} {s:Shared} {p:Addr} {xs ys:List V} {its its':List Value} {n n':Nat} {f:Obj->Obj} (I:Inv X pins σ H s) (h:H p=some (.lst xs))
  (ho:s.heap.get? p=some { cls:=.type "list",data:=.seq its.toArray n }) (hf:f { cls:=.type "list",data:=.seq its.toArray n }={ cls:=.type "list",data:=.seq its'.toArray n' }) (r:Vals ys its') (hz:ys.length<=sizeLine) (t:Nat) :
  Inv X pins σ (upd H p (.lst ys)) { s with heap:=s.heap.update p f,toks:=t }:=by
 have e:(s.heap.update p f).get? p=some { cls:=.type "list",data:=.seq its'.toArray n' }:=by
  rw [Heap.get?_update_self f ho (by rw [hf]<;>rfl),hf]
 refine I.write (x:=p) (e:=p) (by rw [h];trivial) (.inl rfl) (fun b u hb q=>(Heap.get?_update_other _ _ (Ne.symm hb)).trans q) ⟨_,e⟩ ?_;exact ⟨hz,its',n',r,e⟩
def QY:V->V->V->Hp->(Hp->Prop)->Prop:=fun o i v H Q=>∃ p xs k j,o=.ref p/\i=.int k/\H p=some (.lst xs)/\LG xs.length k=some j/\Q (upd H p (.lst (xs.set j v)))
theorem set_list:Oj X QY:=by
 intro pins s σ H o i v ov iv u Q I ro ri rv h;obtain ⟨p,xs,k,j,rfl,rfl,hp,hj,q⟩:=h;cases ro;obtain ⟨t,rfl⟩:=ri;obtain ⟨its,n,r,ho,hz⟩:=I.lst hp;obtain ⟨h1,h2,h3,h4⟩:=Fv hj;have hl:=r.length;have hn:=uH;have I':Inv X pins σ (upd H p (.lst (xs.set j v))) { s with heap:=s.heap.update p (Obj.mapSeq (·.setIfInBounds j u)) }:=
   I.O3 hp ho (Ey its n j u) (r.set rv j) (by rw [List.length_set];exact hz) s.toks
 by_cases h0:0<=k
 . have hk:k.toNat=j:=by
     rw [seqIndex_of h0 h4] at h1;exact Option.some.inj h1
   exact PySem.W.ki_setAt ho h0 (by omega) (by rw [List.size_toArray,<- hl];exact h4) (by rw [hk];exact ⟨_,I',q⟩)
 . have hk:(k+(its.toArray.size:Int)).toNat=j:=by
     rw [seqIndex_neg (by omega) h3] at h1;rw [List.size_toArray,<- hl];exact Option.some.inj h1
   exact PySem.W.ki_setBack ho (by omega) (by rw [List.size_toArray,<- hl];exact h3) (by omega) (by rw [hk];exact ⟨_,I',q⟩)
theorem A5 (lo hi:Option Int) (n:Nat):(sliceBounds lo hi none n).1=((HT.Cn n 0 lo:Nat):Int)/\(sliceBounds lo hi none n).2.1=((HT.Cn n n hi:Nat):Int)/\(sliceBounds lo hi none n).2.2=1:=by
 refine ⟨?_,?_,rfl⟩
 . cases lo with
   | none=>simp [sliceBounds,HT.Cn]
   | some i=>
     simp only [sliceBounds,HT.Cn,Option.getD_none,show (1:Int) > 0 by decide,if_true];by_cases h:i < 0
     . simp only [h,if_true]<;>omega
     . simp only [h,if_false]<;>omega
 . cases hi with
   | none=>simp [sliceBounds,HT.Cn]
   | some i=>
     simp only [sliceBounds,HT.Cn,Option.getD_none,show (1:Int) > 0 by decide,if_true];by_cases h:i < 0
     . simp only [h,if_true]<;>omega
     . simp only [h,if_false]<;>omega
theorem yY (its:List Value) (lo hi:Option Int):slicePick its.toArray lo hi none=((its.drop (HT.Cn its.length 0 lo)).take (HT.Cn its.length its.length hi - HT.Cn its.length 0 lo)).toArray:=by
 obtain ⟨h1,h2,h3⟩:=A5 lo hi its.toArray.size;unfold slicePick;rw [h1,h2,h3];simp only [sliceRange_one,pick_run,List.size_toArray]<;>rfl
def Uq (K:Zqq):V->Option Int->Option Int->Hp->VK->Prop:=fun x lo hi H Q=>∃ a xs,x=.ref a/\c8 K H a xs/\∀ p,H p=none->Q (.ref p) (upd H p (.lst (Ew xs lo hi)))
theorem LI:V8 X (Uq X.K):=by
 intro pins s σ H x v vl vu lo hi sl Q I rx hs pl pu h;obtain ⟨a,xs,rfl,hx,q⟩:=h;cases rx;obtain ⟨its,r,ht,hz⟩:=I.list hx;have hlen:=r.length;refine ⟨"list",_,slot_list_getitem.lookup,ht.isList.typeIs,?_⟩;refine wpAny_getItem_list_slice ht.isList hs pl pu .none (by simp) ?_ (by rw [List.size_toArray]<;>omega);rw [yY,<- hlen];refine ⟨.ref s.heap.objs.size,_,I.laid (t':=s.toks) (o:=.lst (Ew xs lo hi)) (fun b ob q=>Heap.get?_push_of_some _ q) (Nat.le_refl _) ?_,rfl,q _ (I.hok.fresh (Nat.le_refl _))⟩;exact ⟨Nat.le_trans (Co xs lo hi) hz,_,0,(r.drop (HT.Cn xs.length 0 lo)).take (HT.Cn xs.length xs.length hi - HT.Cn xs.length 0 lo),Heap.get?_push_size _ rfl⟩
def rO:V->Bool
 | .non=>true
 | .bl _=>true
 | .int _=>true
 | .str _=>true
 | _=>false
def LJ:V->V->Bool
 | .non,.non=>true
 | .bl a,.bl b=>a==b
 | .bl a,.int b=>(if a then 1 else 0)==b
 | .int a,.bl b=>a==(if b then 1 else 0)
 | .int a,.int b=>a==b
 | .str a,.str b=>a==b
 | _,_=>false
theorem O4 {A:Around} {s:Shared} {y x:V} {u v:Value} (ry:RelV y u) (rx:RelV x v) (fy:rO y=true) (fx:rO x=true):SeqAt.EqAt A s u v (LJ y x):=by
 cases y with
 | non=>
  cases ry;cases x with
  | non=>cases rx;exact SeqAt.EqAt.same _
  | bl b=>cases rx;exact SeqAt.EqAt.none_bool b
  | int b=>obtain ⟨t,rfl⟩:=rx;exact SeqAt.EqAt.none_int b t
  | str b=>obtain ⟨t,rfl⟩:=rx;exact SeqAt.EqAt.none_str b t
  | _=>exact absurd (show false=true from fx) Bool.false_ne_true
 | bl a=>
  cases ry;cases x with
  | non=>cases rx;exact SeqAt.EqAt.bool_none a
  | bl b=>cases rx;exact SeqAt.EqAt.bool_bool a b
  | int b=>obtain ⟨t,rfl⟩:=rx;exact SeqAt.EqAt.bool_int a b t
  | str b=>obtain ⟨t,rfl⟩:=rx;exact SeqAt.EqAt.bool_str a b t
  | _=>exact absurd (show false=true from fx) Bool.false_ne_true
 | int a=>
  obtain ⟨t',rfl⟩:=ry;cases x with
  | non=>cases rx;exact SeqAt.EqAt.int_none a t'
  | bl b=>cases rx;exact SeqAt.EqAt.int_bool a t' b
  | int b=>obtain ⟨t,rfl⟩:=rx;exact SeqAt.EqAt.int_int a t' b t
  | str b=>obtain ⟨t,rfl⟩:=rx;exact SeqAt.EqAt.int_str a t' b t
  | _=>exact absurd (show false=true from fx) Bool.false_ne_true
 | str a=>
  obtain ⟨t',rfl⟩:=ry;cases x with
  | non=>cases rx;exact SeqAt.EqAt.str_none a t'
  | bl b=>cases rx;exact SeqAt.EqAt.str_bool a t' b
  | int b=>obtain ⟨t,rfl⟩:=rx;exact SeqAt.EqAt.str_int a t' b t
  | str b=>obtain ⟨t,rfl⟩:=rx;exact SeqAt.EqAt.str_str a t' b t
  | _=>exact absurd (show false=true from fx) Bool.false_ne_true
 | _=>exact absurd (show false=true from fy) Bool.false_ne_true
def Ez (x:V) (u:Value):Bool:=match u with
 | .none=>LJ .non x
 | .bool b=>LJ (.bl b) x
 | .int i _=>LJ (.int i) x
 | .str z _=>LJ (.str z) x
 | _=>false
theorem Jl {x y:V} {u:Value} (r:RelV y u) (f:rO y=true):Ez x u=LJ y x:=by
 cases y with
 | non=>cases r;rfl
 | bl b=>cases r;rfl
 | int i=>obtain ⟨t,rfl⟩:=r;rfl
 | str z=>obtain ⟨t,rfl⟩:=r;rfl
 | _=>exact absurd (show false=true from f) Bool.false_ne_true
theorem sU {x:V}:∀ {xs:List V} {us:List Value},Vals xs us->xs.all rO=true->us.any (Ez x)=xs.any fun y=>LJ y x
 | _,_,.nil,_=>rfl
 | y::xs,u::us,.cons r t,f=>by
  rw [List.all_cons,Bool.and_eq_true] at f
  rw [List.any_cons,List.any_cons,Jl r f.1,sU t f.2]
theorem pJ {A:Around} {s:Shared} {x:V} {v:Value} (rx:RelV x v) (fx:rO x=true):∀ {xs:List V} {us:List Value},Vals xs us->xs.all rO=true->∀ u ∈ us,SeqAt.EqAt A s u v (Ez x u)
 | _,_,.nil,_=>fun u hu=>by cases hu
 | y::xs,u::us,.cons r t,f=>fun u' hu=>by
   rw [List.all_cons,Bool.and_eq_true] at f
   rcases List.mem_cons.mp hu with rfl | hu
   . rw [Jl r f.1];exact O4 r rx f.1 fx
   . exact pJ rx fx t f.2 u' hu
def Iz (x:V) (xs:List V):Bool:=xs.any fun y=>LJ y x
def V9 (K:Zqq) (neg:Bool):R2:=fun x y H Q=>∃ p xs,y=.ref p/\(c8 K H p xs\/j0 K H p xs)/\rO x=true/\xs.all rO=true/\Q (.bl (if neg then !Iz x xs else Iz x xs)) H
theorem zJ:vq X (compareOp .In) (V9 X.K false):=by
 intro pins s σ H x y v u Q I rx ry h;obtain ⟨p,xs,rfl,hq,fx,fs,q⟩:=h;cases ry;rcases hq with hq | hq
 . obtain ⟨its,r,pl,hz⟩:=I.list hq
   refine SeqAt.in_listAt (Ez x) pl.isList (fun w hw=>pJ rx fx r fs w (by simpa using hw)) ⟨.bl _,H,I,rfl,?_⟩;rw [show its.toArray.any (Ez x)=its.any (Ez x) by simp,sU r fs];exact q
 . obtain ⟨its,r,pl,hz⟩:=I.tuple hq
   refine SeqAt.in_tupleAt (Ez x) pl (fun w hw=>pJ rx fx r fs w (by simpa using hw)) ⟨.bl _,H,I,rfl,?_⟩;rw [show its.toArray.any (Ez x)=its.any (Ez x) by simp,sU r fs];exact q
theorem sV:vq X (compareOp .NotIn) (V9 X.K true):=by
 intro pins s σ H x y v u Q I rx ry h;obtain ⟨p,xs,rfl,hq,fx,fs,q⟩:=h;cases ry;rcases hq with hq | hq
 . obtain ⟨its,r,pl,hz⟩:=I.list hq
   refine SeqAt.notIn_listAt (Ez x) pl.isList (fun w hw=>pJ rx fx r fs w (by simpa using hw)) ⟨.bl _,H,I,rfl,?_⟩;rw [show its.toArray.any (Ez x)=its.any (Ez x) by simp,sU r fs];exact q
 . obtain ⟨its,r,pl,hz⟩:=I.tuple hq
   refine SeqAt.notIn_tupleAt (Ez x) pl (fun w hw=>pJ rx fx r fs w (by simpa using hw)) ⟨.bl _,H,I,rfl,?_⟩;rw [show its.toArray.any (Ez x)=its.any (Ez x) by simp,sU r fs];exact q
theorem aY:vt X (.builtin "len") (fun xs H Q=>∃ p ys,xs=[.ref p]/\(c8 X.K H p ys\/j0 X.K H p ys)/\Q (.int ys.length) H):=by
 intro pins s σ H xs us Q I r h;obtain ⟨p,ys,rfl,hq,q⟩:=h;obtain ⟨u,rfl,rx⟩:=vals1 r;cases rx;have hn:=uH;rcases hq with hq | hq
 . obtain ⟨its,r',pl,hz⟩:=I.list hq
   have hlen:=r'.length;exact Calls.call_len_list pl.isList (by simp only [List.size_toArray]<;>omega) ⟨.int ys.length,H,I.tok _,⟨s.toks+1,by rw [List.size_toArray,hlen]⟩,q⟩
 . obtain ⟨its,r',pl,hz⟩:=I.tuple hq
   have hlen:=r'.length;exact len_tuple pl (by simp only [List.size_toArray]<;>omega) ⟨.int ys.length,H,I.tok _,⟨s.toks+1,by rw [List.size_toArray,hlen]⟩,q⟩
theorem sW:vt X (.type "list") (fun xs H Q=>∃ p ys,xs=[.ref p]/\(c8 X.K H p ys\/j0 X.K H p ys)/\∀ l,H l=none->Q (.ref l) (upd H l (.lst ys))):=by
 intro pins s σ H xs us Q I r h;obtain ⟨p,ys,rfl,hq,q⟩:=h;obtain ⟨u,rfl,rx⟩:=vals1 r;cases rx;have fin:∀ (its:List Value),Vals ys its->ys.length<=sizeLine->∀ (h':Heap) (c':Nat),(∀ b o',s.heap.get? b=some o'->h'.get? b=some o')->
     h'.get? s.heap.objs.size=some { cls:=.type "list",dict:=none,data:=.seq its.toArray c',slots:=#[] }->EP X pins σ Q (.ref s.heap.objs.size) { s with heap:=h' }:=fun its r' hz h' c' kp e=>
   ⟨.ref s.heap.objs.size,_,I.laid (t':=s.toks) kp (Nat.le_refl _) (show bZ X.prog X.w _ h' _ (.lst ys) from ⟨hz,its,c',r',e⟩),rfl,q _ (I.hok.fresh (Nat.le_refl _))⟩
 rcases hq with hq | hq
 . obtain ⟨its,r',pl,hz⟩:=I.list hq
   have hlen:=r'.length;obtain ⟨o,ho,hc,n,hd⟩:=pl.isList;exact call_list_seq p (.inl rfl) ho hc hd (fun h' c' kp e=>fin its r' hz h' c' kp e) (by simp only [List.size_toArray]<;>omega)
 . obtain ⟨its,r',pl,hz⟩:=I.tuple hq
   have hlen:=r'.length;obtain ⟨o,ho,hc,n,hd⟩:=pl;exact call_list_seq p (.inr rfl) ho hc hd (fun h' c' kp e=>fin its r' hz h' c' kp e) (by simp only [List.size_toArray]<;>omega)
theorem mK:vt X (.type "tuple") (fun xs H Q=>∃ p ys,xs=[.ref p]/\((c8 X.K H p ys/\∀ l,H l=none->Q (.ref l) (upd H l (.tup ys)))\/(j0 X.K H p ys/\Q (.ref p) H))):=by
 intro pins s σ H xs us Q I r h;obtain ⟨p,ys,rfl,h⟩:=h;obtain ⟨u,rfl,rx⟩:=vals1 r;cases rx;rcases h with ⟨hq,q⟩ | ⟨hq,q⟩
 . obtain ⟨its,r',pl,hz⟩:=I.list hq
   have hlen:=r'.length;refine call_tuple_list pl.isList (fun h' kp=>?_) (by simp only [List.size_toArray]<;>omega);have I1:Inv X pins σ H { s with heap:=h' }:=I.kept (t':=s.toks) kp;have I2:Inv X pins σ (upd H h'.objs.size (.tup ys)) { s with heap:=h'.push { cls:=.type "tuple",data:=.seq its.toArray } }:=
     I1.laid (t':=s.toks) (fun b o e=>Heap.get?_push_of_some _ e) (Nat.le_refl _) (show bZ X.prog X.w _ _ _ (.tup ys) from ⟨hz,its,r',IsTup.new _ _⟩)
   exact ⟨.ref h'.objs.size,_,I2,rfl,q _ (I1.hok.fresh (Nat.le_refl _))⟩
 . obtain ⟨its,r',pl,hz⟩:=I.tuple hq
   exact call_tuple_same pl ⟨.ref p,H,I,rfl,q⟩
def VA (K:Zqq) (T:String) (x:V) (H:Hp):Prop:=match x with
 | .str _=>T = "str"
 | .int _=>T = "int"
 | .ref p=>(T = "list"/\∃ xs,c8 K H p xs)\/(T = "tuple"/\∃ o,K.lookup p=some o/\o.cls=.type "tuple"/\o.dict=none) \/
     (T = "dict"/\((∃ kvs,H p=some (.dK kvs))\/∃ kvs,H p=some (.dT kvs)))\/(T = "set"/\∃ S n,H p=some (.set S n))
 | _=>False
theorem O5 {pins:List (Addr×Obj)} {σ:St} {H:Hp} {s:Shared} {T:String} {x:V} {v:Value} (I:Inv X pins σ H s) (r:RelV x v) (ty:VA X.K T x H) :
   s.TypeIs v T/\∀ a,v=.ref a->∃ ob,s.heap.get? a=some ob/\ob.dict=none:=by
 cases x with
 | str z=>
   obtain ⟨t,rfl⟩:=r;cases (show T = "str" from ty);exact ⟨typeIs_str s z t,fun _ e=>nomatch e⟩
 | int i=>
   obtain ⟨t,rfl⟩:=r;cases (show T = "int" from ty);exact ⟨typeIs_int s i t,fun _ e=>nomatch e⟩
 | ref p=>
   cases r;rcases ty with ⟨rfl,xs,hq⟩ | ⟨rfl,o,hk,hc,hd⟩ | ⟨rfl,hk⟩ | ⟨rfl,S,n,hk⟩
   . obtain ⟨its,_,pl,_⟩:=I.list hq
     refine ⟨pl.isList.typeIs,fun a e=>?_⟩;cases e;obtain ⟨o,n,e,c,hd,_⟩:=pl;exact ⟨o,e,hd⟩
   . refine ⟨⟨o,I.rY p o hk,hc⟩,fun a e=>?_⟩
     cases e;exact ⟨o,I.rY _ o hk,hd⟩
   . have z:∃ o,s.heap.get? p=some o/\o.ExactDict:=by
       rcases hk with ⟨kvs,hk⟩ | ⟨kvs,hk⟩
       . obtain ⟨_,_,_,_,o,_,_,e,ex,_⟩:=I.hok p _ hk
         exact ⟨o,e,ex⟩
       . obtain ⟨_,_,_,_,o,_,_,e,ex,_⟩:=I.hok p _ hk
         exact ⟨o,e,ex⟩
     obtain ⟨o,e,ex⟩:=z;refine ⟨⟨o,e,ex.1⟩,fun a e2=>?_⟩;cases e2;exact ⟨o,e,ex.2.1⟩
   . obtain ⟨o,_,_,_,e,ex,_⟩:=I.hok p _ hk
     refine ⟨⟨o,e,ex.1⟩,fun a e2=>?_⟩;cases e2;exact ⟨o,e,ex.2.1⟩
 | _=>exact False.elim ty
def Xh (K:Zqq) (T:String) (r:V->List V->Hp->VK->Prop) (to:TE) (t:TA):TE:=fun σ H Q=>to σ H fun x H1=>VA K T x H1/\t σ H1 fun xs H2=>r x xs H2 Q
variable {o e:Expr} {es:List Expr} {to:TE} {t:TA} {name:Str} {apos cpos:Pos} {T id:String} {r:V->List V->Hp->VK->Prop}
theorem rP (pa:PlainAttrs T) (slot:Slot T name id) (hty:typeOf (.builtin id)=pure (.type "method_descriptor")) (hm:Xg X id r) (ho:PE X o to) (ha:PA X (e::es) t)
   (hbase:attributeBase o name X.env (eval o X.env)=eval o X.env:=by rfl)
   (hfew:((backTo cpos (starEach (e::es) X.env)).all (fun x=>!x.1)&&(backToKw cpos (keywordEach [] X.env)).all (fun x=>x.1.isSome)
    &&decide ((e::es).length+([]:List Keyword).length+(if ([]:List Keyword).isEmpty then 0 else 1) < 30))=true:=by rfl)
   (hline:(apos.endLine==cpos.line)=true:=by rfl) (hs:starEach (e::es) X.env=(false,eval e X.env)::starEach es X.env:=by rfl) (hplain:(backTo cpos (starEach es X.env)).any (·.1)=false:=by rfl) :
   PE X (.Call (.Attribute o name apos) (e::es) [] cpos) (Xh X.K T r to t):=by
 intro pins s σ H Q I h;refine wpAny_Call_method_late hbase hfew hline rfl (cT (ho pins s σ H _ I h) fun v s1 ⟨x,H1,I1,r1,ty,q1⟩=>?_);obtain ⟨h1,h2⟩:=O5 I1 r1 ty;refine ⟨T,id,pa,slot,hty,h1,h2,?_⟩;have hA:=ha cpos pins s1 σ H1 _ I1 q1;rw [hs] at hA ⊢;refine Calls.callWith_builtin (by show (false||(backTo cpos (starEach es X.env)).any (·.1))=false;rw [hplain]<;>rfl) (Calls.evalArgs_plain ?_);exact cT hA fun us s2 ⟨vs,H2,I2,r2,q2⟩=>hm pins s2 σ H2 x vs v us Q I2 r1 r2 q2
end
end L2
namespace L2
open PySem PySem.Spec PyProof.Rows
def VC (X:Cx) (id:String) (r:V->List V->Hp->VK->Prop):Prop:=
 ∀ (pins:List (Addr×Obj)) (s:Shared) (σ:St) (H:Hp) (x:V) (xs:List V) (v:Value) (us:List Value) (Q:VK),Inv X pins σ H s->RelV x v->Vals xs us->r x xs H Q->
   wpAny (model X.prog X.w) X.A (call (.builtin id) (v::us)) (EP X pins σ Q) X.xe s
theorem Vals.one:∀ {x:V} {us:List Value},Vals [x] us->∃ u,us=[u]/\RelV x u
 | _,_,.cons r .nil=>⟨_,rfl,r⟩
theorem Vals.rep {xs:List V} {us:List Value} (h:Vals xs us):∀ k:Nat,Vals (List.replicate k xs).flatten (List.replicate k us).flatten
 | 0=>.nil
 | k+1=>by
  rw [List.replicate_succ,List.replicate_succ,List.flatten_cons,List.flatten_cons]
  exact Vals.append h (Vals.rep h k)
theorem foldl_rep (its:List Value):∀ (k:Nat) (acc:List Value),
  List.foldl (fun x1 x2=>x1++x2) acc.toArray (List.replicate k its.toArray)=(acc++(List.replicate k its).flatten).toArray
 | 0,acc=>by simp
 | k+1,acc=>by
  have e:acc.toArray++its.toArray=(acc++its).toArray:=by simp
  have e2:(acc++its)++(List.replicate k its).flatten=acc++(List.replicate (k+1) its).flatten:=by
   rw [List.replicate_succ,List.flatten_cons,List.append_assoc]
  rw [<- e2,<- foldl_rep its k (acc++its),<- e,List.replicate_succ,List.foldl_cons]
section
variable {X:Cx} {pins:List (Addr×Obj)} {σ:St} {H:Hp} {s:Shared} {l b:Addr} {xs ys zs:List V}
theorem Inv.QZ {its its':List Value} {n:Nat} {f:Array Value->Array Value} {t':Nat} (I:Inv X pins σ H s) (hH:H l=some (.lst xs))
  (e:s.heap.get? l=some { cls:=.type "list",data:=.seq its.toArray n }) (hf:f its.toArray=its'.toArray) (hv:Vals ys its') (hz:ys.length<=sizeLine) :
  Inv X pins σ (upd H l (.lst ys)) { s with heap:=s.heap.update l (Obj.mapSeq f),toks:=t' }:=by
 have q:=PySem.IsL.update e f;rw [hf] at q;refine I.write (x:=l) (e:=l) (by rw [hH];exact trivial) (.inl rfl) (fun b' u hb hu=>(Heap.get?_update_other s.heap (Obj.mapSeq f) (Ne.symm hb)).trans hu) ⟨_,q⟩ ?_;exact ⟨hz,its',_,hv,q⟩
theorem Inv.Ra {its:List Value} {t':Nat} (I:Inv X pins σ H s) (hv:Vals ys its) (hz:ys.length<=sizeLine) :
  Inv X pins σ (upd H s.heap.objs.size (.lst ys)) { s with heap:=s.heap.push { cls:=.type "list",data:=.seq its.toArray },toks:=t' }:=
 I.laid (fun _ _ q=>Heap.get?_push_of_some _ q) (Nat.le_refl _) ⟨hz,its,0,hv,Heap.get?_push_size _ rfl⟩
theorem Inv.fresh (I:Inv X pins σ H s):H s.heap.objs.size=none:=I.hok.fresh (Nat.le_refl _)
theorem Inv.GC (I:Inv X pins σ H s) (hH:H l=some (.lst xs)):xs.length<=sizeLine/\∃ (its:List Value) (n:Nat),Vals xs its/\xs.length=its.length/\s.heap.get? l=some { cls:=.type "list",data:=.seq its.toArray n }:=by
 obtain ⟨z,its,n,r,e⟩:=I.hok l _ hH;exact ⟨z,its,n,r,r.length,e⟩
theorem Cp {n:Nat} (h:n<=sizeLine):Builtin.List.listTooLong n=false:=by
 unfold Builtin.List.listTooLong;exact decide_eq_false (by omega)
end
section
variable {X:Cx}
def LK:V->List V->Hp->VK->Prop:=fun x vs H Q=>∃ l xs y,x=.ref l/\vs=[y]/\H l=some (.lst xs)/\xs.length < sizeLine/\Q .non (upd H l (.lst (xs++[y])))
theorem iB:VC X "list.append" LK:=by
 intro pins s σ H x vs v us Q I rx rv h;obtain ⟨l,xs,y,rfl,rfl,hH,hz,q⟩:=h;cases rx;obtain ⟨u,rfl,ru⟩:=rv.one;obtain ⟨z,its,n,r,hl,e⟩:=I.GC hH;refine call_meets F.slot_list_append ⟨_,e,rfl⟩ F.entry_list_append (F.args_list_append_2 _ _) (PySem.list_append l its.toArray n u (by rw [List.size_toArray];omega)) ⟨e,?_⟩;refine ⟨.non,_,I.QZ (its':=its++[u]) hH e (by simp) (r.append (.cons ru .nil)) ?_,rfl,q⟩;rw [List.length_append,List.length_singleton];omega
def LL:V->List V->Hp->VK->Prop:=fun x vs H Q=>∃ l b xs zs,x=.ref l/\vs=[.ref b]/\H l=some (.lst xs)/\H b=some (.lst zs)/\xs.length+zs.length<=sizeLine/\Q .non (upd H l (.lst (xs++zs)))
theorem GD:VC X "list.extend" LL:=by
 intro pins s σ H x vs v us Q I rx rv h;obtain ⟨l,b,xs,zs,rfl,rfl,hH,hB,hz,q⟩:=h;cases rx;obtain ⟨u,rfl,ru⟩:=rv.one;cases ru;obtain ⟨z,its,n,r,hl,e⟩:=I.GC hH;obtain ⟨z2,its2,n2,r2,hl2,e2⟩:=I.GC hB;have hsz:its.toArray.size+its2.toArray.size<=sizeLine:=by rw [List.size_toArray,List.size_toArray];omega
 have Jm:¬ (!its.toArray.isEmpty&&Builtin.List.listTooLong (its.toArray.size+its2.toArray.size))=true:=by
   rw [Cp hsz,Bool.and_false];exact Bool.false_ne_true
 refine call_meets F.slot_list_extend ⟨_,e,rfl⟩ F.entry_list_extend (F.args_list_extend_2 _ _)
   (AutoSeq1.list_extend_list_list_0 l its.toArray n b its2.toArray n2 Jm (by rw [List.size_toArray];omega) (by omega)) ⟨e,e2,?_⟩
 refine ⟨.non,_,I.QZ (its':=its++its2) hH e (by simp) (r.append r2) ?_,rfl,q⟩;rw [List.length_append];omega
def Ur:R2:=fun x y H Q=>∃ l b xs zs,x=.ref l/\y=.ref b/\H l=some (.lst xs)/\H b=some (.lst zs)/\xs.length+zs.length<=sizeLine/\∀ p,H p=none->Q (.ref p) (upd H p (.lst (xs++zs)))
theorem O6:vq X (binaryOp .Add) Ur:=by
 intro pins s σ H x y v u Q I rx ry h;obtain ⟨l,b,xs,zs,rfl,rfl,hH,hB,hz,q⟩:=h;cases rx;cases ry;obtain ⟨z,its,n,r,hl,e⟩:=I.GC hH;obtain ⟨z2,its2,n2,r2,hl2,e2⟩:=I.GC hB;refine PySem.P.add_list e e2 ?_ (by rw [List.size_toArray,List.size_toArray];omega);have ea:its.toArray++its2.toArray=(its++its2).toArray:=by simp
 rw [ea];exact ⟨.ref _,_,I.Ra (t':=s.toks) (r.append r2) (by rw [List.length_append];omega),rfl,q _ I.fresh⟩
def Us:R2:=fun x y H Q=>∃ l k xs,x=.ref l/\y=.int k/\H l=some (.lst xs)/\-(2 ^ 63)<=k/\k < 2 ^ 63/\xs.length * k.toNat<=sizeLine /\
 ∀ p,H p=none->Q (.ref p) (upd H p (.lst (List.replicate k.toNat xs).flatten))
theorem len_rep {α:Type} (xs:List α) (k:Nat):(List.replicate k xs).flatten.length=k * xs.length:=by
 induction k with
 | zero=>simp
 | succ k ih=>rw [List.replicate_succ,List.flatten_cons,List.length_append,ih,Nat.succ_mul,Nat.add_comm]
theorem E2:vq X (binaryOp .Mult) Us:=by
 intro pins s σ H x y v u Q I rx ry h;obtain ⟨l,k,xs,rfl,rfl,hH,h1,h2,hz,q⟩:=h;cases rx;obtain ⟨t,rfl⟩:=ry;obtain ⟨z,its,n,r,hl,e⟩:=I.GC hH;have hlen:its.toArray.size * k.toNat<=sizeLine:=by rw [List.size_toArray,<- hl];exact hz
 have hcap:¬ its.toArray.size * k.toNat > (2 ^ 63 - 1) / 8:=by
   have:(sizeLine:Nat)<=(2 ^ 63 - 1) / 8:=by decide
   omega
 have hfit:¬ (!Builtin.List.listFitsIndex k)=true:=by
   rw [fitsIndex_both h1 h2];exact Bool.false_ne_true
 have Jm:¬ Builtin.List.listTooLong (its.toArray.size * k.toNat)=true:=by
   rw [Cp hlen];exact Bool.false_ne_true
 have hnew:List.foldl (fun x1 x2=>x1++x2) #[] (List.replicate (if its.toArray.isEmpty=true then 0 else k.toNat) its.toArray)=(List.replicate k.toNat its).flatten.toArray:=by
   have f0:∀ m:Nat,List.foldl (fun x1 x2=>x1++x2) #[] (List.replicate m its.toArray)=(List.replicate m its).flatten.toArray:=fun m=>by
     have:=foldl_rep its m [];rw [List.nil_append] at this;exact this
   rw [f0];cases its with
   | nil=>simp
   | cons a r'=>rw [if_neg (by simp)]
 refine wpAny_binaryOp_repeat_ref (T:="list") (U:="int") (by decide) ⟨_,e,rfl⟩ (fun s'=>typeIs_int s' k t) noFill_list_mul F.fills_int_mul F.slot_int_rmul repeat_list F.slot_int_index.lookup
   (call_meets F.slot_int_rmul (typeIs_int s k t) F.entry_int_rmul (F.args_int_rmul_2 _ _) (int___rmul___int_list k t l its.toArray n)
     ⟨e,rfl,⟨_,e,rfl⟩,call_meets F.slot_list_mul ⟨_,e,rfl⟩ F.entry_list_mul (F.args_list_mul_2 _ _) (AutoListH.list___mul___list_int_3 l its.toArray n k t hfit hcap Jm) ⟨e,?_⟩⟩)
 rw [hnew];exact ⟨.ref _,_,I.Ra (t':=s.toks) (r.rep k.toNat) (by rw [len_rep,Nat.mul_comm];exact hz),rfl,q _ I.fresh⟩
end
section
variable {prog:Program} {w:World} {A:Around} {E:Value->Shared->Prop} {s:Shared}
end
section
variable {X:Cx}
end
end L2
namespace L2
open PySem PySem.Spec PyProof.Rows
theorem Vals.ints:∀ {ns:List Int} {us:List Value},Vals (ns.map V.int) us->IntsAre us ns
 | [],us,h=>by
  rw [List.map_nil] at h
  cases h
  exact IntsAre.nil
 | n::ns,us,h=>by
  rw [List.map_cons] at h
  cases h with
  | cons r t=>
   obtain ⟨k,rfl⟩:=r
   exact IntsAre.cons n k (Vals.ints t)
theorem sX:∀ {us:List Value} {ns:List Int},IntsAre us ns->Vals (ns.map V.int) us
 | _,_,.nil=>by rw [List.map_nil];exact Paired.nil
 | _,_,.cons n t h=>by rw [List.map_cons];exact Paired.cons (show RelV (V.int n) (Value.int n t) from ⟨t,rfl⟩) (sX h)
theorem Vals.O7 {a:Addr} {us:List Value} (r:Vals [V.ref a] us):us=[Value.ref a]:=by
 cases r with
 | cons r t=>
  cases t;cases r;rfl
section
variable {prog:Program} {w:World} {A:Around} {E:Value->Shared->Prop} {s:Shared} {l:Addr} {its:List Value} {ns:List Int} {Q:Value->Shared->Prop}
end
section
variable {X:Cx}
theorem LM {n:Nat} (h:n < 64):n<=sizeLine:=by rw [sizeLine_eq];omega
end
mutual
inductive Dp (K:Zqq) (H:Hp):V->PyData->Prop
 | non:Dp K H .non .none
 | bl (b:Bool):Dp K H (.bl b) (.bool b)
 | int (i:Int):Dp K H (.int i) (.int i)
 | str (x:Str):Dp K H (.str x) (.str x)
 | lst {a:Addr} {xs:List V} {ds:List PyData}:c8 K H a xs->zK K H xs ds->Dp K H (.ref a) (.list ds)
 | tup {a:Addr} {xs:List V} {ds:List PyData}:j0 K H a xs->zK K H xs ds->Dp K H (.ref a) (.tuple ds)
inductive zK (K:Zqq) (H:Hp):List V->List PyData->Prop
 | nil:zK K H [] []
 | cons {v:V} {vs:List V} {d:PyData} {ds:List PyData}:Dp K H v d->zK K H vs ds->zK K H (v::vs) (d::ds)
end
section
variable {X:Cx} {pins:List (Addr×Obj)} {σ:St} {H:Hp} {s:Shared}
mutual
theorem Dp.reads (I:Inv X pins σ H s):∀ (d:PyData) (v:V) (u:Value),Dp X.K H v d->RelV v u->∃ as,Reads s.heap u d as
 | .none,_,_,h,r=>by
  cases h
  cases r
  exact ⟨_,Reads.none⟩
 | .bool b,_,_,h,r=>by
  cases h
  cases r
  exact ⟨_,Reads.bool b⟩
 | .int i,_,_,h,r=>by
  cases h
  obtain ⟨t,rfl⟩:=r
  exact ⟨_,Reads.int i t⟩
 | .str x,_,_,h,r=>by
  cases h
  obtain ⟨t,rfl⟩:=r
  exact ⟨_,Reads.str x t⟩
 | .list ds,_,_,h,r=>by
  cases h with
  | lst hs ha=>
   cases r
   obtain ⟨its,rv,⟨o,n,ho,hc,_,hd⟩,_⟩:=I.list hs
   obtain ⟨as,hr⟩:=Dp.readsAll I ds _ its ha rv
   exact ⟨_,Reads.list ho hc hd hr⟩
 | .tuple ds,_,_,h,r=>by
  cases h with
  | tup hs ha=>
   cases r
   obtain ⟨its,rv,⟨o,ho,hc,n,hd⟩,_⟩:=I.tuple hs
   obtain ⟨as,hr⟩:=Dp.readsAll I ds _ its ha rv
   exact ⟨_,Reads.tuple ho hc hd hr⟩
 | .dict _,_,_,h,_=>by cases h
theorem Dp.readsAll (I:Inv X pins σ H s):∀ (ds:List PyData) (vs:List V) (us:List Value),zK X.K H vs ds->Vals vs us->∃ as,ReadsAll s.heap us ds as
 | [],_,_,h,r=>by
  cases h
  cases r
  exact ⟨_,ReadsAll.nil⟩
 | d::ds,_,_,h,r=>by
  cases h with
  | cons h1 h2=>
   cases r with
   | cons r1 r2=>
    obtain ⟨as,q1⟩:=Dp.reads I d _ _ h1 r1
    obtain ⟨bs,q2⟩:=Dp.readsAll I ds _ _ h2 r2
    exact ⟨_,ReadsAll.cons q1 q2⟩
end
end
section
variable {X:Cx}
end
end L2
namespace L2
open PySem PySem.Spec PyProof.Rows
abbrev Jo (h:Heap) (c:Addr) (v:Option Value):Prop:=h.IsCell c v
def Ut (scope sc:Scope):Scope:=
 { scope with names:=scope.names.map fun (n,k)=>if (k==.free&&sc.kind==.function&&sc.names.lookup n==some .cell) then (n,.cell) else (n,k) }
def dj (cells:List (Str×Addr)):List (Str×NameKind)->List (Str×Addr)->List (Str×Addr)
 | [],acc=>acc
 | (n,k)::r,acc=>if k==.free then dj cells r ((n,(cells.lookup n).getD 0)::acc) else dj cells r acc
theorem sY (env:Env) (f:Str×NameKind->List (Str×Addr)->Sem (ForInStep (List (Str×Addr))))
   (hf:∀ n k c,f (n,k) c=if k==.free then (do let a <- cellOf env n;pure (.yield ((n,a)::c))) else pure (.yield c)) :
   ∀ (names:List (Str×NameKind)) (acc:List (Str×Addr)),(∀ y ∈ names,y.2=.free->∃ c,env.cells.lookup y.1=some c)->forIn names acc f=pure (dj env.cells names acc)
 | [],acc,_=>by rw [List.forIn_nil];rfl
 | (n,k)::r,acc,h=>by
   rw [List.forIn_cons,hf]
   have ih:=fun acc=>sY env f hf r acc fun y hy=>h y (List.mem_cons_of_mem _ hy)
   unfold dj
   by_cases hk:(k==NameKind.free)=true
   . rw [if_pos hk,if_pos hk]
     obtain ⟨c,hc⟩:=h (n,k) List.mem_cons_self (by simpa using hk)
     have e:cellOf env n=pure c:=by unfold cellOf;rw [hc]
     rw [e]
     have e2:(env.cells.lookup n).getD 0=c:=by rw [hc];rfl
     rw [e2]
     exact ih _
   . rw [if_neg hk,if_neg hk]
     exact ih _
theorem E3 {scope:Scope} {env:Env} (h:∀ y ∈ scope.names,y.2=.free->∃ c,env.cells.lookup y.1=some c):closureFor scope env=pure (dj env.cells scope.names []):=by
 simp only [closureFor];rw [sY env _ (fun n k c=>rfl) scope.names [] h];rfl
theorem mem_lookup {α:Type}:∀ {l:List (Str×α)} {n:Str} {c:α},(n,c) ∈ l->∃ c',l.lookup n=some c'
 | (k,v)::r,n,c,h=>by
   rw [List.lookup_cons]
   cases hb:n==k with
   | true=>exact ⟨_,rfl⟩
   | false=>
     rcases List.mem_cons.mp h with e | h
     . cases e;simp at hb
     . exact mem_lookup h
theorem mq {cells:List (Str×Addr)}:∀ {names:List (Str×NameKind)} {acc:List (Str×Addr)} {n:Str} {c:Addr},(n,c) ∈ dj cells names acc->(n,c) ∈ acc\/((n,.free) ∈ names/\c=(cells.lookup n).getD 0)
 | [],_,_,_,h=>.inl h
 | (m,k)::r,acc,n,c,h=>by
   unfold dj at h
   split at h
   . rename_i hk
     have hk:k=.free:=by simpa using hk
     rcases mq h with h | ⟨h1,h2⟩
     . rcases List.mem_cons.mp h with e | h
       . cases e;exact .inr ⟨hk ▸ List.mem_cons_self,rfl⟩
       . exact .inl h
     . exact .inr ⟨List.mem_cons_of_mem _ h1,h2⟩
   . rcases mq h with h | ⟨h1,h2⟩
     . exact .inl h
     . exact .inr ⟨List.mem_cons_of_mem _ h1,h2⟩
theorem pK {cells:List (Str×Addr)}:∀ {names:List (Str×NameKind)} {acc:List (Str×Addr)} {p:Str×Addr},p ∈ acc->p ∈ dj cells names acc
 | [],_,_,h=>h
 | (m,k)::r,acc,p,h=>by
   unfold dj
   split
   . exact pK (List.mem_cons_of_mem _ h)
   . exact pK h
theorem pL {cells:List (Str×Addr)}:∀ {names:List (Str×NameKind)} {acc:List (Str×Addr)} {n:Str},(n,.free) ∈ names->(n,(cells.lookup n).getD 0) ∈ dj cells names acc
 | (m,k)::r,acc,n,h=>by
   unfold dj
   rcases List.mem_cons.mp h with e | h
   . cases e
     exact pK List.mem_cons_self
   . split
     . exact pL h
     . exact pL h
theorem mY:∀ {names:List (Str×NameKind)} {h:Heap} {acc:List (Str×Addr)} {x:Str} {c:Addr},(x,c) ∈ cellsFrom h.objs.size names acc->
   (x,c) ∈ acc\/((x,.cell) ∈ names/\h.objs.size<=c/\Jo (pushCells h names) c none)
 | [],_,_,_,_,h=>.inl h
 | (n,k)::r,h,acc,x,c,hm=>by
   unfold cellsFrom at hm
   unfold pushCells
   split at hm
   . rename_i hk
     rw [if_pos hk]
     have hk:k=.cell:=by simpa using hk
     rw [<- Heap.size_push h { cls:=.type "cell",data:=.cell none }] at hm
     rcases mY hm with hm | ⟨h1,h2,h3⟩
     . rcases List.mem_cons.mp hm with e | hm
       . cases e
         exact .inr ⟨hk ▸ List.mem_cons_self,Nat.le_refl _,_,pushCells_keeps r _ _ _ (Heap.get?_push_size _ rfl),rfl⟩
       . exact .inl hm
     . rw [Heap.size_push] at h2
       exact .inr ⟨List.mem_cons_of_mem _ h1,Nat.le_of_succ_le h2,h3⟩
   . rename_i hk
     rw [if_neg hk]
     rcases mY hm with hm | ⟨h1,h2,h3⟩
     . exact .inl hm
     . exact .inr ⟨List.mem_cons_of_mem _ h1,h2,h3⟩
theorem qU:∀ {names:List (Str×NameKind)} {n:Nat} {acc:List (Str×Addr)} {p:Str×Addr},p ∈ acc->p ∈ cellsFrom n names acc
 | [],_,_,_,h=>h
 | (m,k)::r,n,acc,p,h=>by
   unfold cellsFrom
   split
   . exact qU (List.mem_cons_of_mem _ h)
   . exact qU h
theorem uJ:∀ {names:List (Str×NameKind)} {n:Nat} {acc:List (Str×Addr)} {x:Str},(x,.cell) ∈ names->∃ c,(x,c) ∈ cellsFrom n names acc
 | (m,k)::r,n,acc,x,h=>by
   unfold cellsFrom
   rcases List.mem_cons.mp h with e | h
   . cases e
     exact ⟨n,qU List.mem_cons_self⟩
   . split
     . exact uJ h
     . exact uJ h
theorem uK:∀ {names:List (Str×NameKind)} {h:Heap} {acc:List (Str×Addr)} {x y:Str} {c:Addr},(∀ p ∈ acc,p.2 < h.objs.size)->(∀ x y c,(x,c) ∈ acc->(y,c) ∈ acc->x=y)->
   (x,c) ∈ cellsFrom h.objs.size names acc->(y,c) ∈ cellsFrom h.objs.size names acc->x=y
 | [],_,_,_,_,_,_,hi,h1,h2=>hi _ _ _ h1 h2
 | (n,k)::r,h,acc,x,y,c,hl,hi,h1,h2=>by
   unfold cellsFrom at h1 h2
   split at h1
   . rename_i hk
     rw [if_pos hk] at h2
     rw [<- Heap.size_push h { cls:=.type "cell",data:=.cell none }] at h1 h2
     refine uK (h:=h.push _) (fun p hp=>?_) (fun x y c a b=>?_) h1 h2
     . rw [Heap.size_push]
       rcases List.mem_cons.mp hp with rfl | hp
       . exact Nat.lt_succ_self _
       . exact Nat.lt_succ_of_lt (hl p hp)
     . rcases List.mem_cons.mp a with e | a<;>rcases List.mem_cons.mp b with e' | b
       . cases e;cases e';rfl
       . cases e;exact absurd (hl _ b) (Nat.lt_irrefl _)
       . cases e';exact absurd (hl _ a) (Nat.lt_irrefl _)
       . exact hi _ _ _ a b
   . rename_i hk
     rw [if_neg hk] at h2
     exact uK hl hi h1 h2
theorem Cq {M:Model} {A:Around} {E:Value->Shared->Prop} {s:Shared} {scope:Scope} {globals:Addr} {closure:List (Str×Addr)} {qual:Str} {func:Option Addr} {code:Value} {around:Env} {builtins:Addr} {Q:Env->Shared->Prop}
   (h:Q (newEnv scope s.heap.objs.size globals (cellsFrom (s.heap.objs.size+1) scope.names closure) qual func code (some around) builtins)
     { s with heap:=pushCells (s.heap.push { cls:=.type "dict",data:=.dict #[] }) scope.names }) :
   wpAny M A (newFunctionEnv scope globals closure [] qual func code (some around) builtins) Q E s:=by
 simp only [newFunctionEnv,Option.isSome_some,if_true];refine wpAny_bind (wpAny_alloc ?_);refine wpAny_bind (wpAny_layCells _ (fun n k c=>rfl) scope.names closure _ _ ?_);rw [show ({ s with heap:=s.heap.push { cls:=.type "dict",data:=.dict #[] } }:Shared).heap.objs.size=s.heap.objs.size+1 from Heap.size_push ..];rw [List.forIn_nil];exact wpAny_bind (wpAny_pure (wpAny_pure h))
theorem pM {sc:Scope}:∀ {names:List (Str×NameKind)} {x:Str} {k:NameKind},
   (names.map fun (n,k)=>if (k==NameKind.free&&sc.kind==.function&&sc.names.lookup n==some .cell) then (n,NameKind.cell) else (n,k)).lookup x=some k->
   ∃ k',names.lookup x=some k'/\(k=k'\/(k'=.free/\k=.cell))
 | [],_,_,h=>by simp at h
 | (n,k₀)::r,x,k,h=>by
   have ih:=@pM sc r x k
   have h':List.lookup x ((if (k₀==NameKind.free&&sc.kind==.function&&sc.names.lookup n==some .cell)=true then (n,NameKind.cell) else (n,k₀))::(r.map _))=some k:=h
   cases hx:x==n with
   | true=>
     simp only [List.lookup_cons,hx]
     by_cases hc:(k₀==NameKind.free&&sc.kind==.function&&sc.names.lookup n==some .cell)=true
     . rw [if_pos hc] at h'
       simp only [List.lookup_cons,hx] at h'
       cases h'
       simp only [Bool.and_eq_true,beq_iff_eq] at hc
       exact ⟨k₀,rfl,.inr ⟨hc.1.1,rfl⟩⟩
     . rw [if_neg hc] at h'
       simp only [List.lookup_cons,hx] at h'
       cases h'
       exact ⟨_,rfl,.inl rfl⟩
   | false=>
     simp only [List.lookup_cons,hx]
     by_cases hc:(k₀==NameKind.free&&sc.kind==.function&&sc.names.lookup n==some .cell)=true
     . rw [if_pos hc] at h'
       simp only [List.lookup_cons,hx] at h'
       exact ih h'
     . rw [if_neg hc] at h'
       simp only [List.lookup_cons,hx] at h'
       exact ih h'
structure Cr (N:List Str) (sc scope:Scope) (own:List (Str×Nat)):Prop where
 kind:scope.kind=.function
 uniq:∀ y ∈ scope.names,scope.names.lookup y.1=some y.2
 ix:∀ p ∈ own,N[p.2]?=some p.1
 free:∀ y ∈ scope.names,y.2=.free->sc.names.lookup y.1=some .cell\/sc.names.lookup y.1=some .free
 own:∀ y ∈ scope.names,y.2=.local\/y.2=.cell->y.1 ∈ own.map (·.1)\/y.1 ∉ N
def wipe (σ:St):List Nat->St
 | []=>σ
 | v::vs=>(wipe σ vs).set v none
theorem pN (σ:St):∀ vs:List Nat,(wipe σ vs).length=σ.length
 | []=>rfl
 | v::vs=>by unfold wipe;rw [List.length_set,pN σ vs]
theorem uL {σ:St} {i:Nat} {x:V}:∀ {vs:List Nat},(wipe σ vs)[i]?=some (some x)->σ[i]?=some (some x)/\i ∉ vs
 | [],h=>⟨h,by simp⟩
 | v::vs,h=>by
   unfold wipe at h
   by_cases hi:v=i
   . subst hi
     by_cases hv:v < (wipe σ vs).length
     . rw [List.getElem?_set_self hv] at h;cases h
     . rw [List.getElem?_eq_none (by simpa using hv)] at h;cases h
   . rw [List.getElem?_set_ne hi] at h
     obtain ⟨h1,h2⟩:=uL h
     exact ⟨h1,by simp only [List.mem_cons,not_or];exact ⟨fun e=>hi e.symm,h2⟩⟩
abbrev Cx.A6 (X:Cx) (s:Shared) (H:Hp) (scope:Scope) (cenv:Env) (fp:List Addr):Cx:={ X with u9:=s,Od:=H,env:=cenv,outer:=X.stack,ex:=fp,fn:=fun x=>scope.names.lookup x==some .cell,pn:=[],xe:=fun _ _=>False }
section
variable {X:Cx} {pins:List (Addr×Obj)} {σ:St} {H:Hp} {s:Shared}
theorem Cs {scope:Scope} {own:List (Str×Nat)} {fp:List Addr} (I:Inv X pins σ H s) (ok:Cr X.N X.env.scope scope own) (hN:X.N.Nodup) (hfp:∀ b ∈ fp,xE X pins H b/\b < s.heap.objs.size) :
   Inv (X.A6 s H scope (compEnvC scope (cellsFrom (s.heap.objs.size+1) scope.names (dj X.env.cells scope.names [])) s.heap.objs.size X.env) fp) [] (wipe σ (own.map (·.2))) H { s with heap:=pushCells (s.heap.push { cls:=.type "dict",data:=.dict #[] }) scope.names }:=by
 have hfree:∀ y ∈ scope.names,y.2=.free->∃ c,X.env.cells.lookup y.1=some c:=fun y hy e=>by
   rcases ok.free y hy e with k | k
   . exact I.ok.has _ (.inl k)
   . exact I.ok.has _ (.inr k)
 generalize Ct:compEnvC scope (cellsFrom (s.heap.objs.size+1) scope.names (dj X.env.cells scope.names [])) s.heap.objs.size X.env=cenv;have kp:∀ b o,s.heap.get? b=some o->(pushCells (s.heap.push { cls:=.type "dict",data:=.dict #[] }) scope.names).get? b=some o:=fun b o e=>pushCells_keeps _ _ _ _ (Heap.get?_push_of_some _ e);have hL:cenv.locals=s.heap.objs.size:=by rw [<- Ct];rfl
 have hcl:cenv.cells=cellsFrom (s.heap.objs.size+1) scope.names (dj X.env.cells scope.names []):=by rw [<- Ct];rfl
 have hsc:cenv.scope=Ut scope X.env.scope:=by rw [<- Ct];rfl
 rw [<- Heap.size_push s.heap { cls:=.type "dict",data:=.dict #[] }] at hcl;have cm:∀ {y c},(y,c) ∈ dj X.env.cells scope.names []->X.env.cells.lookup y=some c/\c < s.heap.objs.size:=fun {y c} hm=>by
   rcases mq hm with hm | ⟨h1,rfl⟩
   . cases hm
   . obtain ⟨c,hc⟩:=hfree _ h1 rfl
     rw [hc];obtain ⟨w,z⟩:=I.cell _ _ hc;exact ⟨rfl,z.lt⟩
 have mem:∀ {y c},cenv.cells.lookup y=some c->(X.env.cells.lookup y=some c/\c < s.heap.objs.size)\/(s.heap.objs.size+1<=c/\Jo (pushCells (s.heap.push { cls:=.type "dict",data:=.dict #[] }) scope.names) c none):=fun {y c} e=>by
   rw [hcl] at e;rcases mY (PySem.mem_of_lookup e) with hm | ⟨_,h2,h3⟩
   . exact .inl (cm hm)
   . rw [Heap.size_push] at h2;exact .inr ⟨h2,h3⟩
 have look:∀ {y},scope.names.lookup y=some .free->∃ c,cenv.cells.lookup y=some c/\X.env.cells.lookup y=some c:=fun {y} hl=>by
   have hy:(y,NameKind.free) ∈ scope.names:=PySem.mem_of_lookup hl;obtain ⟨c',e'⟩:=mem_lookup (qU (names:=scope.names) (n:=(s.heap.push { cls:=.type "dict",data:=.dict #[] }).objs.size) (pL (cells:=X.env.cells) (acc:=[]) hy));rw [<- hcl] at e';refine ⟨c',e',?_⟩;rw [hcl] at e';rcases mY (PySem.mem_of_lookup e') with hm | ⟨h1,_,_⟩
   . exact (cm hm).1
   . have:=ok.uniq _ h1
     rw [hl] at this;cases this
 have Rb:(X.A6 s H scope cenv fp).Ok:=by
   refine ⟨I.ok.mod,by show cenv.scope.kind=_;rw [hsc];exact ok.kind,by show cenv.globals=_;rw [<- Ct];exact I.ok.glob,by show cenv.builtins=_;rw [<- Ct];exact I.ok.blt,by show s.heap.objs.size<=cenv.locals;rw [hL];exact Nat.le_refl _,
     fun y z c e1 e2=>?_,fun y hy=>?_,fun y c z e=>?_,I.ok.hd,I.ok.frames,.inl rfl,fun b hb=>⟨?_,fun y c e z=>?_⟩,I.bs,Nat.le_trans I.ok.G3 I.sz,fun b o e hb=>?_,fun b hb z=>?_,I.stack,I.Aw⟩
   . have e1:cenv.cells.lookup y=some c:=e1
     have e2:cenv.cells.lookup z=some c:=e2;rw [hcl] at e1 e2;refine uK (fun p hp=>?_) (fun y z c a b=>I.ok.inj y z c (cm a).1 (cm b).1) (PySem.mem_of_lookup e1) (PySem.mem_of_lookup e2);rw [Heap.size_push];exact Nat.lt_succ_of_lt (cm (y:=p.1) (c:=p.2) hp).2
   . show ∃ c,cenv.cells.lookup y=some c
     have key:∀ k,cenv.kindOf y=some k->(k=.cell\/k=.free)->∃ c,cenv.cells.lookup y=some c:=fun k hk hk'=>by
       unfold Env.kindOf at hk;rw [hsc] at hk;obtain ⟨k',e,r⟩:=pM hk;have:k'=.cell\/k'=.free:=by
         rcases r with rfl | ⟨rfl,_⟩
         . exact hk'
         . exact .inr rfl
       rcases this with rfl | rfl
       . obtain ⟨c,hm⟩:=uJ (n:=(s.heap.push { cls:=.type "dict",data:=.dict #[] }).objs.size) (acc:=dj X.env.cells scope.names []) (PySem.mem_of_lookup e)
         obtain ⟨c',e'⟩:=mem_lookup hm;exact ⟨c',by rw [hcl];exact e'⟩
       . obtain ⟨c,h1,_⟩:=look e
         exact ⟨c,h1⟩
     rcases hy with hy | hy
     . exact key _ hy (.inl rfl)
     . exact key _ hy (.inr rfl)
   . have z:(scope.names.lookup y==some NameKind.cell)=true:=z
     have z:scope.names.lookup y=some .cell:=by simpa using z
     have e:cenv.cells.lookup y=some c:=e;rw [hcl] at e;rcases mY (PySem.mem_of_lookup e) with hm | ⟨_,h2,_⟩
     . rcases mq hm with hm | ⟨h1,_⟩
       . cases hm
       . have q:=ok.uniq _ h1
         rw [z] at q;cases q
     . rw [Heap.size_push] at h2
       exact Nat.le_of_succ_le h2
   . show b ≠ cenv.locals
     rw [hL];exact Nat.ne_of_lt (hfp b hb).2
   . have e:cenv.cells.lookup y=some c:=e
     rcases mem e with ⟨h1,_⟩ | ⟨h1,_⟩
     . exact (hfp b hb).1.2.2.2.2.1 y c h1 z
     . have h2:s.heap.objs.size+1<=b:=by rw [<- z];exact h1
       exact absurd (Nat.lt_of_lt_of_le (hfp b hb).2 (Nat.le_of_succ_le h2)) (Nat.lt_irrefl _)
   . rcases (hfp b hb).1.2.2.2.1 with z | z
     . exact I.ok.Cf b o e z
     . exact absurd (Nat.lt_of_lt_of_le (Heap.lt_size e) (Nat.le_trans I.ok.G3 z)) (Nat.lt_irrefl _)
   . rcases List.mem_cons.mp (I.Eh b z) with z | z
     . exact (hfp b hb).1.2.1 z
     . exact (hfp b hb).1.2.2.1 z
 refine ⟨Rb,rfl,I.bare,Un.kept kp,⟨fun _=>none,?_,fun i y av e1 e2 e3=>?_⟩,fun y c e=>?_,?_,fun y c e=>?_,fun p hp=>?_,I.hok.kept kp,by rw [pN];exact I.len⟩
 . show Heap.Ns _ cenv.locals _
   rw [hL];exact Heap.Ns.keeps (Heap.Ns.new ..) fun b o e=>pushCells_keeps _ _ _ _ e
 . obtain ⟨e2,hne⟩:=uL e2
   have hfr:scope.names.lookup y=some .free/\(cenv.kindOf y=some .cell\/cenv.kindOf y=some .free):=by
     have key:∀ k,cenv.scope.names.lookup y=some k->k=.local\/k=.cell\/k=.free->scope.names.lookup y=some .free/\(cenv.kindOf y=some .cell\/cenv.kindOf y=some .free):=fun k hk hk'=>by
       have hk0:=hk;rw [hsc] at hk;obtain ⟨k',e,r⟩:=pM hk;have no:¬ (k'=.local\/k'=.cell):=fun hh=>by
         rcases ok.own _ (PySem.mem_of_lookup e) hh with e' | e'
         . obtain ⟨p,hp,Xi⟩:=List.mem_map.mp e'
           have e3:=ok.ix p hp;have:p.1=y:=Xi;rw [this] at e3;exact hne (List.mem_map.mpr ⟨p,hp,xA hN e3 e1⟩)
         . exact e' (List.mem_of_getElem? e1)
       rcases r with rfl | ⟨rfl,rfl⟩
       . rcases hk' with rfl | rfl | rfl
         . exact absurd (.inl rfl) no
         . exact absurd (.inr rfl) no
         . exact ⟨e,.inr hk0⟩
       . exact ⟨e,.inl hk0⟩
     have e3:Oe cenv.scope y:=e3;rcases e3 with e3 | e3 | e3
     . exact key _ e3 (.inl rfl)
     . exact key _ e3 (.inr (.inl rfl))
     . exact key _ e3 (.inr (.inr rfl))
   obtain ⟨m,hn,hl⟩:=I.loc;have Uu:Oe X.env.scope y:=(ok.free _ (PySem.mem_of_lookup hfr.1) rfl).elim (fun k=>.inr (.inl k)) (fun k=>.inr (.inr k));obtain ⟨w,r,q⟩:=hl i y av e1 e2 Uu;refine ⟨w,r,.inr ⟨hfr.2,?_⟩⟩;obtain ⟨c,h1,h2⟩:=look hfr.1;rcases q with ⟨k,_⟩ | ⟨_,c',e',z⟩
   . have k:X.env.scope.names.lookup y=some .local:=k
     rcases ok.free _ (PySem.mem_of_lookup hfr.1) rfl with k' | k'<;>rw [show X.env.scope.names.lookup y=_ from k'] at k<;>cases k
   . rw [h2] at e';cases e'
     exact ⟨c,h1,z.keeps kp⟩
 . have e:cenv.cells.lookup y=some c:=e
   rcases mem e with ⟨h1,_⟩ | ⟨_,z⟩
   . obtain ⟨w,z⟩:=I.cell y c h1
     exact ⟨w,z.keeps kp⟩
   . exact ⟨_,z⟩
 . show H cenv.locals=none
   rw [hL];exact I.hok.fresh (Nat.le_refl _)
 . have e:cenv.cells.lookup y=some c:=e
   rcases mem e with ⟨h1,_⟩ | ⟨h1,_⟩
   . exact I.gY y c h1
   . exact I.hok.fresh (Nat.le_of_succ_le h1)
 . exact absurd (show p ∈ ([]:List (Addr×Obj))++[] from hp) (by simp)
theorem O8 {E:Value->Shared->Prop} {D:Addr} {xs:List V} {y:V} {v:Value} {Q:Value->Shared->Prop} (I:Inv X pins σ H s) (hD:H D=some (.lst xs)) (hz:xs.length < sizeLine) (r:RelV y v)
  (h:∀ s',Inv X pins σ (upd H D (.lst (xs++[y]))) s'->Q .none s'):wpAny (model X.prog X.w) X.A (call (.builtin "list.append") [.ref D,v]) Q E s:=by
 obtain ⟨hz',its,n,ri,e⟩:=I.hok D _ hD;have hl:=ri.length;refine append_at (hsz:=by rw [List.size_toArray];omega) e fun h' sb ho'=>?_;refine h { s with heap:=h' } (I.write (t':=s.toks) (by rw [hD];trivial) (.inl rfl) (fun b u hb q=>(sb.2 b hb).trans q) ⟨_,ho'⟩ ⟨by rw [List.length_append];exact hz,its++[v],n+1,ri.append (.cons r .nil),?_⟩)
 rw [ho'];simp
def Rc (X:Cx) (ifs:List Expr) (t:TT):Prop:=
 ∀ (pins:List (Addr×Obj)) (s:Shared) (σ:St) (H:Hp) (Q:Bool->Hp->Prop),Inv X pins σ H s->t σ H Q->
   wpAny (model X.prog X.w) X.A (forIn ifs true fun c r=>if r=true then do let ok <- isTrue c X.env (eval c X.env);pure (ForInStep.yield ok) else pure (ForInStep.yield r)) (TP X pins σ Q) X.xe s
def Uv:TT:=fun _ H Q=>Q true H
theorem LN:Rc X [] Uv:=fun _ _ _ H _ I h=>wpAny_tests_nil ⟨H,I,h⟩
theorem A7 {c:Expr} {t:TT} (h:PT X c t):Rc X [c] t:=fun pins s σ H Q I hw=>wpAny_tests_one (h pins s σ H Q I hw)
end
theorem GK {α:Type} {t:Sem α} {Q Q':α->Shared->Prop} {M:Model} {A:Around} {E:Value->Shared->Prop} {s:Shared} (h:wpAny M A t Q (fun _ _=>False) s) (hQ:∀ a s,Q a s->Q' a s):wpAny M A t Q' E s:=wpAny_mono h hQ fun _ _ z=>False.elim z
theorem A8 {prog:Program} {w:World} {A:Around} {R:Result->Shared->Prop} {s:Shared} {elt target iter:Expr} {ifs:List Expr} {scope:Scope} {pos:Pos} {it acc:Value} {env:Env} (I:Nat->Shared->Prop)
   (turn:∀ n s,I n s->wpAny (model prog w) A (pyNext it) (fun r s₁=>match r with
     | none=>R (.ok .next) s₁
     | some v=>wpAny (model prog w) A (letOwnedTupleGo target it v) (fun _ s₁'=>wpAny (model prog w) A (assign target env v) (fun _ s₂=>
         wpAny (model prog w) A (forIn ifs true fun c r=>if r=true then do let ok <- isTrue c env (eval c env);pure (ForInStep.yield ok) else pure (ForInStep.yield r)) (fun ok s₃=>
           if ok=true then wpAny (model prog w) A (eval elt env) (fun x s₄=>
             wpAny (model prog w) A (call (.builtin "list.append") [acc,x]) (fun _ s₅=>∃ m,m < n/\I m s₅) (notedBy (model prog w) A env fun e s'=>R (.error e) s') s₄) (notedBy (model prog w) A env fun e s'=>R (.error e) s') s₃
           else ∃ m,m < n/\I m s₃) (notedBy (model prog w) A env fun e s'=>R (.error e) s') s₂) (notedBy (model prog w) A env fun e s'=>R (.error e) s') s₁') (notedBy (model prog w) A env fun e s'=>R (.error e) s') s₁) (notedBy (model prog w) A env fun e s'=>R (.error e) s') s)
   (n:Nat) (h:I n s) :
   codeAny (model prog w) A (.compLoop (.ListComp elt [⟨target,iter,ifs,0⟩] scope pos) 0 it acc env) R s:=by
 refine codeAny_loop rfl I (fun n s hI=>?_) n h;show wpAny _ A ((compTurn (.ListComp elt [⟨target,iter,ifs,0⟩] scope pos) 0 it acc env).onRaise (fun x=>do noteFrame x env;theTreesLotGoes x)) _ _ s;refine wpAny_noted ?_;rw [compTurn_list];refine wpAny_bind (wpAny_standAt (wpAny_bind (wpAny_mono (turn n s hI) (fun r s₁ h₁=>?_) fun _ _ h'=>h')));cases r with
 | none=>exact wpAny_pure h₁
 | some v=>
   refine wpAny_bind (wpAny_mono h₁ (fun _ s₁' h₁'=>?_) fun _ _ h'=>h');refine wpAny_bind (wpAny_mono h₁' (fun _ s₂ h₂=>wpAny_bind (wpAny_mono h₂ (fun ok s₃ h₃=>?_) fun _ _ h'=>h')) fun _ _ h'=>h');cases ok with
   | false=>exact wpAny_pure ⟨rfl,h₃⟩
   | true=>
     exact wpAny_bind (wpAny_bind (wpAny_mono h₃ (fun x s₄ h₄=>wpAny_bind (wpAny_mono h₄ (fun _ s₅ h₅=>wpAny_pure (wpAny_pure ⟨rfl,h₅⟩)) fun _ _ h'=>h')) fun _ _ h'=>h'))
section
variable {X:Cx}
def SX (wi:TI) (g:TG) (tt:TT) (te:TE) (vs:List Nat):TE:=fun σ H Q=>wi σ H fun J H1=>∀ D,H1 D=none->∃ W:Nat->Nat->Hp->Prop,(∃ m,W 0 m (upd H1 D (.lst [])))/\∀ i m H,W i m H->
 (J.stop i H/\Q (.ref D) H)\/(J.go i H/\∃ Nx:Hp->Prop,(∀ H',Nx H'->∃ m',m' < m/\W (i+1) m' H')/\∀ x H',J.IW i H x H'->g x (wipe σ vs) H' fun σ2 H2=>wipe σ2 vs=wipe σ vs/\tt σ2 H2 fun b H3=>
  if b=true then te σ2 H3 fun y H4=>∃ acc,H4 D=some (.lst acc)/\acc.length < sizeLine/\Nx (upd H4 D (.lst (acc++[y]))) else Nx H3)
theorem Fx {pins:List (Addr×Obj)} {s:Shared} {σ:St} {H:Hp} {Q:VK} {elt tg iter:Expr} {ifs:List Expr} {scope:Scope} {own:List (Str×Nat)} {pos pos':Pos} {wi:TI} {g:TG} {tt:TT} {te:TE} {use:Option (Value->Sem Unit)} {Qf:Value->Shared->Prop}
   (hc:X.calm=true) (hN:X.N.Nodup) (I:Inv X pins σ H s) (hi:PI X tg iter wi) (ok:Cr X.N X.env.scope scope own)
   (hg:∀ (s:Shared) (H:Hp) (C:Addr) (cl:List (Str×Addr)) (fp:List Addr),PG (X.A6 s H scope (compEnvC scope cl C X.env) fp) tg g) (ht:∀ (s:Shared) (H:Hp) (C:Addr) (cl:List (Str×Addr)) (fp:List Addr),Rc (X.A6 s H scope (compEnvC scope cl C X.env) fp) ifs tt)
   (he:∀ (s:Shared) (H:Hp) (C:Addr) (cl:List (Str×Addr)) (fp:List Addr),PE (X.A6 s H scope (compEnvC scope cl C X.env) fp) elt te) (hs:∀ x,foldedSetIterable iter X.env x=pure x)
   (h:SX wi g tt te (own.map (·.2)) σ H Q)
   (hRR:∀ D C s' m H',Inv X pins σ H' s'->Q (.ref D) H'->s'.heap.Ns C m->xE X pins H' C->compPost (model X.prog X.w) X.A X.xe use Qf (.ref D) C (.ok .next) s') :
   wpAny (model X.prog X.w) X.A (comprehension (.ListComp elt [⟨tg,iter,ifs,0⟩] scope pos) scope X.env pos' (newList []) false (eval iter X.env) use) Qf X.xe s:=by
 have hfree:∀ y ∈ scope.names,y.2=.free->∃ c,X.env.cells.lookup y.1=some c:=fun y hy e=>by
   rcases ok.free y hy e with k | k
   . exact I.ok.has _ (.inl k)
   . exact I.ok.has _ (.inr k)
 refine wpAny_comprehension_free (use:=use) rfl hs (E3 hfree) ok.kind (fun y hy e=>by rw [ok.uniq y hy,e])
   (cT (hi pins s σ H _ I h) fun xv s1 hx=>cT hx fun itv s2 h2=>?_)
 obtain ⟨it,fp,tn,J,H2,e,I2,T,st2,f2,q⟩:=h2;subst e;refine wpAny_newObj_type (Cq ?_) (by show 0<=sizeLine;decide);generalize hD:s2.heap.objs.size=D;have Qx:H2 D=none:=I2.hok.fresh (Nat.le_of_eq hD);obtain ⟨W,⟨m0,w0⟩,turn⟩:=q D Qx;generalize VD:({ s2 with heap:=s2.heap.push { cls:=.type "list",data:=.seq ([]:List Value).toArray } }:Shared)=s3;have I3:Inv X pins σ (upd H2 D (.lst [])) s3:=by
   rw [<- VD];refine I2.laid (t':=s2.toks) (fun b o e=>Heap.get?_push_of_some _ e) (Nat.le_of_eq hD) ⟨Nat.zero_le _,[],0,.nil,?_⟩;rw [<- hD];exact Heap.get?_push_size _ rfl
 have h3:s3.heap=s2.heap.push { cls:=.type "list",data:=.seq ([]:List Value).toArray }:=by rw [<- VD]
 have sz:∀ b ∈ fp,b < s2.heap.objs.size:=fun b hb=>by
   obtain ⟨o,e,_⟩:=T.obj _ _ st2 b hb;exact Heap.lt_size e
 have f3:∀ b ∈ fp,xE X pins (upd H2 D (.lst [])) b/\b < s3.heap.objs.size:=fun b hb=>by
   have hlt:=sz b hb;refine ⟨⟨?_,(f2 b hb).2⟩,by rw [h3,Heap.size_push];exact Nat.lt_succ_of_lt hlt⟩;rw [ak (by rw [<- hD];exact Nat.ne_of_lt hlt)];exact (f2 b hb).1
 have st3:tn 0 s3.heap:=T.keep _ _ _ st2 fun b _ o e=>by rw [h3];exact Heap.get?_push_of_some _ e
 have I4:=Cs I3 ok hN f3;have pg:=hg s3 (upd H2 D (.lst [])) s3.heap.objs.size (cellsFrom (s3.heap.objs.size+1) scope.names (dj X.env.cells scope.names [])) fp;have pt:=ht s3 (upd H2 D (.lst [])) s3.heap.objs.size (cellsFrom (s3.heap.objs.size+1) scope.names (dj X.env.cells scope.names [])) fp;have pe:=he s3 (upd H2 D (.lst [])) s3.heap.objs.size (cellsFrom (s3.heap.objs.size+1) scope.names (dj X.env.cells scope.names [])) fp;show codeAny _ _ (.compStart (.ListComp elt [⟨tg,iter,ifs,0⟩] scope pos) 0 (.ref it) (.ref D) (compEnvC scope (cellsFrom (s3.heap.objs.size+1) scope.names (dj X.env.cells scope.names [])) s3.heap.objs.size X.env)) (compPost (model X.prog X.w) X.A X.xe use Qf (.ref D) s3.heap.objs.size) { s3 with heap:=pushCells (s3.heap.push { cls:=.type "dict",data:=.dict #[] }) scope.names };have VE:∀ b ∈ fp,(upd H2 D (.lst [])) b=none:=fun b hb=>(f3 b hb).1.1
 generalize hce:compEnvC scope (cellsFrom (s3.heap.objs.size+1) scope.names (dj X.env.cells scope.names [])) s3.heap.objs.size X.env=ce at I4 pg pt pe ⊢;have cL:ce.locals=s3.heap.objs.size:=by subst hce;rfl
 generalize Zm:upd H2 D (.lst [])=H3 at I3 I4 pg pt pe w0 VE f3;generalize Xj:({ s3 with heap:=pushCells (s3.heap.push { cls:=.type "dict",data:=.dict #[] }) scope.names }:Shared)=s4 at I4 ⊢;have VF:tn 0 s4.heap:=T.keep _ _ _ st3 fun b _ o e=>by rw [<- Xj];exact pushCells_keeps _ _ _ _ (Heap.get?_push_of_some _ e)
 have Em:∀ {σ':St} {H':Hp} {s':Shared},Inv (X.A6 s3 H3 scope ce fp) [] σ' H' s'->(∀ b ∈ fp,H' b=none)->∀ b ∈ fp,xE (X.A6 s3 H3 scope ce fp) [] H' b:=fun {σ' H' s'} I' hn b hb=>
   ⟨hn b hb,(I'.ok.Of b hb).1,I'.ok.Cg b hb,.inl hb,fun x c e=>(I'.ok.Of b hb).2 x c e,fun p hp=>absurd (show p ∈ ([]:List (Addr×Obj))++[] from hp) (by simp)⟩
 have loop:codeAny (model X.prog X.w) X.A (.compLoop (.ListComp elt [⟨tg,iter,ifs,0⟩] scope pos) 0 (.ref it) (.ref D) ce) (compPost (model X.prog X.w) X.A X.xe use Qf (.ref D) s3.heap.objs.size) s4:=by
   refine A8 (fun n s'=>∃ i H',Inv (X.A6 s3 H3 scope ce fp) [] (wipe σ (own.map (·.2))) H' s'/\tn i s'.heap/\(∀ b ∈ fp,H' b=none)/\W i n H') ?_ m0 ⟨0,H3,I4,VF,VE,w0⟩;rintro n s5 ⟨i,H5,I5,Qu,n5,w5⟩;rcases turn i n H5 w5 with ⟨stop,qq⟩ | ⟨go,Nx,Xk,step⟩
   . have td:=T.done (X.A6 s3 H3 scope ce fp) rfl rfl rfl hc i [] s5 _ H5 (fun _ _=>False) I5 (Em I5 n5) Qu stop
     refine GK td fun r s6 ⟨hr,I6⟩=>?_;subst hr;have I7:Inv X pins σ H5 s6:=I3.call' (ch:=fp) I6.os I6.base I6.hok I6.bare fun b hb=>⟨(f3 b hb).1.2.2.2.1,(f3 b hb).1.2.1,(f3 b hb).1.2.2.2.2.1,(f3 b hb).1.2.2.2.2.2⟩;have nC:H5 s3.heap.objs.size=none:=by
       have z:H5 ce.locals=none:=I6.free;rw [cL] at z;exact z
     obtain ⟨m,hn,_⟩:=I6.loc;have hn:s6.heap.Ns ce.locals m:=hn;rw [cL] at hn;exact hRR D s3.heap.objs.size s6 m H5 I7 qq hn (I3.G5 (Nat.le_refl _) nC)
   . have ti:=T.item (X.A6 s3 H3 scope ce fp) rfl rfl rfl hc i [] s5 _ H5 (fun _ _=>False) I5 (Em I5 n5) Qu go
     refine GK ti fun r s6 ⟨u,hr,h6⟩=>?_;subst hr;refine GK h6 fun _ s7 ⟨x,H7,I7,r7,y7,Uw,n7⟩=>?_;have Xl:=I7.pinned (Em I7 n7) (T.obj _ _ Uw);refine GK (pg _ s7 _ H7 x u _ Xl r7 (step x H7 y7)) fun _ s8 ⟨σ8,H8,I8,VG,q8⟩=>?_;refine GK (pt _ s8 σ8 H8 _ I8 q8) fun b s9 ⟨H9,I9,q9⟩=>?_;have fin:∀ {s':Shared} {H':Hp},Inv (X.A6 s3 H3 scope ce fp) ([]++xF fp s7.heap) σ8 H' s'->Nx H'->∃ m,m < n/\∃ i H',Inv (X.A6 s3 H3 scope ce fp) [] (wipe σ (own.map (·.2))) H' s'/\tn i s'.heap/\(∀ b ∈ fp,H' b=none)/\W i m H':=fun {s' H'} I' nx=>by
       obtain ⟨m',hm,w'⟩:=Xk H' nx;have pin':∀ b ∈ fp,∀ o,s7.heap.get? b=some o->s'.heap.get? b=some o/\H' b=none:=fun b hb o e=>
         let z:=I'.pin (b,o) (List.mem_append_right _ (List.mem_append_right _ (se hb e)))
         ⟨z.1,z.2.1⟩
       have hl:(wipe σ (own.map (·.2))).length=σ8.length:=by rw [<- VG,pN]
       refine ⟨m',hm,i+1,H',(I'.sR (pins:=[])).weak hl (fun j v e=>?_),T.keep _ _ _ Uw fun b hb o e=>(pin' b hb o e).1,fun b hb=>?_,w'⟩
       . rw [<- VG] at e
         exact (uL e).1
       . obtain ⟨o,e,_⟩:=T.obj _ _ Uw b hb
         exact (pin' b hb o e).2
     cases b with
     | false=>
       simp only [Bool.false_eq_true,if_false] at q9 ⊢;exact fin I9 q9
     | true=>
       simp only [if_true] at q9 ⊢;refine GK (pe _ s9 σ8 H9 _ I9 q9) fun z Zn ⟨yv,Zo,Xm,Xn,acc,Ux,Uy,nx⟩=>?_;exact O8 (X:=X.A6 s3 H3 scope ce fp) Xm Ux Uy Xn fun Zp Xo=>fin Xo nx
 exact codeAny_compStart_list loop (T.self X.A 0 _ _ _ VF loop)
theorem N9 {elt tg iter:Expr} {ifs:List Expr} {scope:Scope} {own:List (Str×Nat)} {pos:Pos} {wi:TI} {g:TG} {tt:TT} {te:TE} (hc:X.calm=true) (hN:X.N.Nodup) (hi:PI X tg iter wi) (ok:Cr X.N X.env.scope scope own)
  (hg:∀ (s:Shared) (H:Hp) (C:Addr) (cl:List (Str×Addr)) (fp:List Addr),PG (X.A6 s H scope (compEnvC scope cl C X.env) fp) tg g) (ht:∀ (s:Shared) (H:Hp) (C:Addr) (cl:List (Str×Addr)) (fp:List Addr),Rc (X.A6 s H scope (compEnvC scope cl C X.env) fp) ifs tt)
  (he:∀ (s:Shared) (H:Hp) (C:Addr) (cl:List (Str×Addr)) (fp:List Addr),PE (X.A6 s H scope (compEnvC scope cl C X.env) fp) elt te) (hs:∀ x,foldedSetIterable iter X.env x=pure x:=by intro _;rfl) :
  PE X (.ListComp elt [⟨tg,iter,ifs,0⟩] scope pos) (SX wi g tt te (own.map (·.2))):=by
 intro pins s σ H Q I h;rw [eval_ListComp];refine Fx hc hN I hi ok hg ht he hs h fun D C s' m H' I' q hn f=>⟨m,hn,fun h'' sb=>?_⟩;obtain ⟨f0,f1,f2,f3,f4,f5⟩:=f;exact ⟨.ref D,H',I'.turned (t':=s'.toks) (fun b o hb e=>(sb.2 b hb).trans e) f0 f1 f3 f4 f5,rfl,q⟩
theorem Cu {i:Nat} {y:Str} {py:Pos} {elt tg iter:Expr} {ifs:List Expr} {scope:Scope} {own:List (Str×Nat)} {pos spos:Pos} {wi:TI} {g:TG} {tt:TT} {te:TE} (hc:X.calm=true) (hN:X.N.Nodup) (hy:X.N[i]?=some y) (hyl:X.env.scope.names.lookup y=some .local)
   (hsw:swapsWith (.ListComp elt [⟨tg,iter,ifs,0⟩] scope pos) (some (.Name y py)) spos.line X.env=pure true) (hi:PI X tg iter wi) (ok:Cr X.N X.env.scope scope own)
   (hg:∀ (s:Shared) (H:Hp) (C:Addr) (cl:List (Str×Addr)) (fp:List Addr),PG (X.A6 s H scope (compEnvC scope cl C X.env) fp) tg g) (ht:∀ (s:Shared) (H:Hp) (C:Addr) (cl:List (Str×Addr)) (fp:List Addr),Rc (X.A6 s H scope (compEnvC scope cl C X.env) fp) ifs tt)
   (he:∀ (s:Shared) (H:Hp) (C:Addr) (cl:List (Str×Addr)) (fp:List Addr),PE (X.A6 s H scope (compEnvC scope cl C X.env) fp) elt te) (hs:∀ x,foldedSetIterable iter X.env x=pure x:=by intro _;rfl) :
   PS X (.Assign [.Name y py] (.ListComp elt [⟨tg,iter,ifs,0⟩] scope pos) spos) (L0 (SX wi g tt te (own.map (·.2))) (zB i)):=by
 intro pins s σ H D I h;rw [exec_Assign_Name_used _ _ _ _ hsw];refine wpAny_bind (wpAny_standAt (wpAny_bind ?_));show wpAny _ X.A (do let _ <- comprehension (.ListComp elt [⟨tg,iter,ifs,0⟩] scope pos) scope X.env (firstIterPos [⟨tg,iter,ifs,0⟩] pos) (newList []) false (eval iter X.env) (some (assign (.Name y py) X.env))) _ _ s;have h:SX wi g tt te (own.map (·.2)) σ H (fun x H1=>zB i x σ H1 D.nx):=h;refine wpAny_bind (cT (Fx (Qf:=fun _ s'=>SP X pins D .next s') hc hN I hi ok hg ht he hs h fun L C s' m H' I' q hn f=>?_) fun _ s' hq=>wpAny_pure (wpAny_pure hq));show wpAny _ _ (assign (.Name y py) X.env (.ref L)) _ _ _;refine wpAny_assign_Name (uC (v:=V.ref L) I' hN hy (.inl hyl) rfl (fun s2 I2 ⟨a,sb,ha⟩=>?_) (.inr hyl));obtain ⟨f0,f1,f2,f3,f4,f5⟩:=f;have haC:C ≠ a:=by
   rcases ha with z | z
   . rw [z];exact f1
   . exact fun e=>f4 y a z e.symm
 refine ⟨m,hn.sameBut sb haC,fun h3 Xp=>?_⟩;exact ⟨_,H',I2.turned (t':=s2.toks) (fun b o hb e=>(Xp.2 b hb).trans e) f0 f1 f3 f4 f5,q⟩
end
theorem Cv {lo:Int} {n:Nat} {g:TG} {tt:TT} {te:TE} {vs:List Nat} {σ:St} {H1:Hp} {D:Addr} {Qd:Hp->Prop} (Pv:Nat->Hp->Prop) (h0:Pv 0 (upd H1 D (.lst [])))
   (hs:∀ i H,i < n->Pv i H->g (.int (lo+i)) (wipe σ vs) H fun σ2 H2=>wipe σ2 vs=wipe σ vs/\tt σ2 H2 fun b H3=>
     if b=true then te σ2 H3 fun y H4=>∃ acc,H4 D=some (.lst acc)/\acc.length < sizeLine/\Pv (i+1) (upd H4 D (.lst (acc++[y]))) else Pv (i+1) H3) (hd:∀ H,Pv n H->Qd H) :
   ∃ W:Nat->Nat->Hp->Prop,(∃ m,W 0 m (upd H1 D (.lst [])))/\∀ i m H,W i m H->
     ((L4 lo n).stop i H/\Qd H)\/((L4 lo n).go i H/\∃ Nx:Hp->Prop,(∀ H',Nx H'->∃ m',m' < m/\W (i+1) m' H')/\∀ x H',(L4 lo n).IW i H x H'->g x (wipe σ vs) H' fun σ2 H2=>wipe σ2 vs=wipe σ vs/\tt σ2 H2 fun b H3=>
       if b=true then te σ2 H3 fun y H4=>∃ acc,H4 D=some (.lst acc)/\acc.length < sizeLine/\Nx (upd H4 D (.lst (acc++[y]))) else Nx H3):=by
 refine ⟨fun i m H=>m=n - i/\i<=n/\Pv i H,⟨n,by simp,Nat.zero_le _,h0⟩,?_⟩;rintro i m H ⟨rfl,hi,p⟩;by_cases hlt:i < n
 . refine .inr ⟨hlt,Pv (i+1),fun H' p'=>⟨n - (i+1),by omega,rfl,hlt,p'⟩,fun x H' y=>?_⟩
   obtain ⟨e,y⟩:=y;subst e y;exact hs i _ hlt p
 . have e:i=n:=by omega
   subst e;exact .inl ⟨Nat.le_refl _,hd H p⟩
theorem Fy {K:Zqq} {a:Addr} {xs:List V} {g:TG} {tt:TT} {te:TE} {vs:List Nat} {σ:St} {H1:Hp} {D:Addr} {Qd:Hp->Prop} (Pv:Nat->Hp->Prop) (h0:Pv 0 (upd H1 D (.lst []))) (hl:∀ i H,i<=xs.length->Pv i H->c8 K H a xs)
   (hs:∀ i x H,xs[i]?=some x->Pv i H->g x (wipe σ vs) H fun σ2 H2=>wipe σ2 vs=wipe σ vs/\tt σ2 H2 fun b H3=>
     if b=true then te σ2 H3 fun y H4=>∃ acc,H4 D=some (.lst acc)/\acc.length < sizeLine/\Pv (i+1) (upd H4 D (.lst (acc++[y]))) else Pv (i+1) H3) (hd:∀ H,Pv xs.length H->Qd H) :
   ∃ W:Nat->Nat->Hp->Prop,(∃ m,W 0 m (upd H1 D (.lst [])))/\∀ i m H,W i m H->
     ((N3 K a).stop i H/\Qd H)\/((N3 K a).go i H/\∃ Nx:Hp->Prop,(∀ H',Nx H'->∃ m',m' < m/\W (i+1) m' H')/\∀ x H',(N3 K a).IW i H x H'->g x (wipe σ vs) H' fun σ2 H2=>wipe σ2 vs=wipe σ vs/\tt σ2 H2 fun b H3=>
       if b=true then te σ2 H3 fun y H4=>∃ acc,H4 D=some (.lst acc)/\acc.length < sizeLine/\Nx (upd H4 D (.lst (acc++[y]))) else Nx H3):=by
 refine ⟨fun i m H=>m=xs.length - i/\i<=xs.length/\Pv i H,⟨xs.length,by simp,Nat.zero_le _,h0⟩,?_⟩;rintro i m H ⟨rfl,hi,p⟩;have q:=hl i H hi p;by_cases hlt:i < xs.length
 . refine .inr ⟨⟨xs,xs[i],q,by simp [hlt]⟩,Pv (i+1),fun H' p'=>⟨xs.length - (i+1),by omega,rfl,hlt,p'⟩,fun x H' y=>?_⟩
   obtain ⟨e,y⟩:=y;subst e;exact hs i x _ (y xs q) p
 . have e:i=xs.length:=by omega
   subst e;exact .inl ⟨⟨xs,q,Nat.le_refl _⟩,hd H p⟩
def Rf (N:List Str) (sc scope:Scope) (own:List (Str×Nat)):Bool:=
 (match scope.kind with | .function=>true | _=>false)&&(scope.names.all fun y=>decide (scope.names.lookup y.1=some y.2))&&(own.all fun p=>decide (N[p.2]?=some p.1)) &&
   (scope.names.all fun y=>match y.2 with
     | .free=>(match sc.names.lookup y.1 with | some .cell=>true | some .free=>true | _=>false)
     | .local=>decide (y.1 ∈ own.map (·.1))||decide (y.1 ∉ N)
     | .cell=>decide (y.1 ∈ own.map (·.1))||decide (y.1 ∉ N)
     | _=>true)
theorem sZ {N:List Str} {sc scope:Scope} {own:List (Str×Nat)} (h:Rf N sc scope own=true):Cr N sc scope own:=by
 unfold Rf at h;simp only [Bool.and_eq_true,List.all_eq_true,decide_eq_true_eq] at h;obtain ⟨⟨⟨h1,h2⟩,h3⟩,h4⟩:=h;refine ⟨?_,h2,h3,fun y hy e=>?_,fun y hy e=>?_⟩
 . split at h1
   . assumption
   . cases h1
 . have q:=h4 y hy
   simp only [e] at q;split at q<;>first | exact .inl (by assumption) | exact .inr (by assumption) | cases q
 . have q:=h4 y hy
   rcases e with e | e<;>(simp only [e,Bool.or_eq_true,decide_eq_true_eq] at q;exact q)
end L2
namespace L2
open PySem PySem.Spec PyProof.Rows
section
variable {prog:Program} {w:World} {A:Around} {R:Result->Shared->Prop} {s:Shared} {elt t0 i0 t1 i1:Expr} {Xq Xr:List Expr} {scope:Scope} {pos:Pos} {it acc:Value} {env:Env}
end
section
variable {X:Cx}
end
end L2
namespace L2
open PySem PySem.Spec PyProof.Rows
section
variable {κ:Type} [DecidableEq κ]
def iL (kvs:List (κ×V)) (k:κ):Option V:=(kvs.find? fun kv=>decide (kv.1=k)).map (·.2)
def putK (kvs:List (κ×V)) (k:κ) (v:V):List (κ×V):=
 if (kvs.any fun kv=>decide (kv.1=k))=true then kvs.map (fun kv=>if kv.1=k then (kv.1,v) else kv) else kvs++[(k,v)]
theorem fR {p:κ×V} {r:List (κ×V)} {k:κ} (e:p.1=k):iL (p::r) k=some p.2:=by simp [iL,List.find?_cons,e]
theorem gB {p:κ×V} {r:List (κ×V)} {k:κ} (e:¬ p.1=k):iL (p::r) k=iL r k:=by simp [iL,List.find?_cons,e]
theorem jQ (k:κ):∀ kvs:List (κ×V),(kvs.any fun kv=>decide (kv.1=k))=(iL kvs k).isSome
 | []=>rfl
 | p::r=>by
   rw [List.any_cons]
   by_cases e:p.1=k
   . simp only [fR e,decide_eq_true e,Bool.true_or,Option.isSome_some]
   . rw [gB e,decide_eq_false e,Bool.false_or];exact jQ k r
theorem Cw (k j:κ) (y:V):∀ kvs:List (κ×V),iL (kvs.map fun kv=>if kv.1=k then (kv.1,y) else kv) j=(iL kvs j).map fun x=>if j=k then y else x
 | []=>rfl
 | p::r=>by
   have ih:=Cw k j y r
   rw [List.map_cons]
   by_cases h:p.1=k
   . rw [if_pos h]
     by_cases e:p.1=j
     . rw [fR (p:=(p.1,y)) e,fR e,Option.map_some,if_pos (e.symm.trans h)]
     . rw [gB (p:=(p.1,y)) e,gB e,ih]
   . rw [if_neg h]
     by_cases e:p.1=j
     . rw [fR (p:=p) e,fR e,Option.map_some,if_neg (fun z=>h (e.trans z))]
     . rw [gB (p:=p) e,gB e,ih]
theorem zL (k j:κ) (y:V):∀ kvs:List (κ×V),iL kvs k=none->iL (kvs++[(k,y)]) j=if j=k then some y else iL kvs j
 | [],_=>by
   by_cases e:k=j
   . rw [if_pos e.symm];exact fR (p:=(k,y)) e
   . rw [if_neg (fun z=>e z.symm)];exact gB (p:=(k,y)) e
 | p::r,hn=>by
   rw [List.cons_append]
   have hk:¬ p.1=k:=fun z=>by rw [fR z] at hn;cases hn
   rw [gB hk] at hn
   have ih:=zL k j y r hn
   by_cases e:p.1=j
   . rw [fR e,fR e,if_neg (fun z=>hk (e.trans z))]
   . rw [gB e,gB e,ih]
theorem tu (kvs:List (κ×V)) (k j:κ) (y:V):iL (putK kvs k y) j=if j=k then some y else iL kvs j:=by
 unfold putK;by_cases a:(kvs.any fun kv=>decide (kv.1=k))=true
 . rw [if_pos a,Cw]
   rw [jQ] at a;by_cases e:j=k
   . obtain ⟨x,hx⟩:=Option.isSome_iff_exists.mp a
     rw [if_pos e,e,hx,Option.map_some,if_pos rfl]
   . rw [if_neg e]
     cases iL kvs j with
     | none=>rfl
     | some x=>rw [Option.map_some,if_neg e]
 . rw [if_neg a]
   refine zL k j y kvs ?_;rw [jQ] at a;cases q:iL kvs k with
   | none=>rfl
   | some x=>rw [q] at a;exact (a rfl).elim
theorem gi (kvs:List (κ×V)) (k:κ) (v:V):(putK kvs k v).length<=kvs.length+1:=by
 unfold putK;split
 . rw [List.length_map];omega
 . rw [List.length_append,List.length_cons,List.length_nil];omega
theorem Cy {kvs:List (κ×V)} {k:κ} (v:V) (h:iL kvs k=none):putK kvs k v=kvs++[(k,v)]:=by
 unfold putK;rw [jQ,h];exact if_neg (by decide)
theorem lX.mZ {o:Option V} {u:Option Value} (r:lX o u):o.isSome=u.isSome:=by
 cases o with
 | none=>cases u with
   | none=>rfl
   | some _=>exact (show False from r).elim
 | some _=>cases u with
   | none=>exact (show False from r).elim
   | some _=>rfl
theorem lX.getD {o:Option V} {u:Option Value} {d:V} {d':Value} (r:lX o u) (rd:RelV d d'):RelV (o.getD d) (u.getD d'):=by
 cases o with
 | none=>cases u with
   | none=>exact rd
   | some _=>exact (show False from r).elim
 | some _=>cases u with
   | none=>exact (show False from r).elim
   | some _=>exact r
theorem KV.val {kvs:List (κ×V)} {vs:List (κ×Value)} (r:KV kvs vs) (k:κ):lX (iL kvs k) (valueAt vs k):=by
 unfold KV at r;induction r with
 | nil=>exact True.intro
 | @cons p q ps qs h t ih=>
   obtain ⟨h1,h2⟩:=h;by_cases e:p.1=k
   . have e':q.1=k:=h1.symm.trans e
     have b:valueAt (q::qs) k=some q.2:=by simp [valueAt,List.find?_cons,e']
     rw [fR e,b];exact h2
   . have e':¬ q.1=k:=fun z=>e (h1.trans z)
     have b:valueAt (q::qs) k=valueAt qs k:=by simp [valueAt,List.find?_cons,e']
     rw [gB e,b];exact ih
theorem KV.any {kvs:List (κ×V)} {vs:List (κ×Value)} (r:KV kvs vs) (k:κ):(kvs.any fun kv=>decide (kv.1=k))=vs.any fun kv=>decide (kv.1=k):=by
 unfold KV at r;induction r with
 | nil=>rfl
 | cons h t ih=>rw [List.any_cons,List.any_cons,ih,h.1]
theorem KV.repl {kvs:List (κ×V)} {vs:List (κ×Value)} (r:KV kvs vs) (k:κ) {y:V} {u:Value} (ry:RelV y u) :
   KV (kvs.map fun kv=>if kv.1=k then (kv.1,y) else kv) (vs.map fun kv=>if kv.1=k then (kv.1,u) else kv):=by
 unfold KV at r ⊢;induction r with
 | nil=>exact .nil
 | @cons p q ps qs h t ih=>
   rw [List.map_cons,List.map_cons];refine .cons ?_ ih;obtain ⟨h1,h2⟩:=h;by_cases e:p.1=k
   . rw [if_pos e,if_pos (h1.symm.trans e)];exact ⟨h1,ry⟩
   . rw [if_neg e,if_neg (fun z=>e (h1.trans z))];exact ⟨h1,h2⟩
theorem KV.put {kvs:List (κ×V)} {vs:List (κ×Value)} (r:KV kvs vs) (k:κ) {y:V} {u:Value} (ry:RelV y u):KV (putK kvs k y) (stored vs k u):=by
 unfold putK stored;rw [r.any k];by_cases e:(vs.any fun kv=>decide (kv.1=k))=true
 . rw [if_pos e,if_pos e];exact r.repl k ry
 . rw [if_neg e,if_neg e];exact Paired.snoc r ⟨rfl,ry⟩
theorem KV.length {kvs:List (κ×V)} {vs:List (κ×Value)} (r:KV kvs vs):kvs.length=vs.length:=Paired.length r
end
theorem zM {P:Program} {w:World} {k:Key} {u:Value} (r:RelV (kV k) u):(dI P w).is k u=true:=by
 cases k with
 | inl i=>obtain ⟨t,e⟩:=(show ∃ t,u=Value.int i t from r);subst e;exact Cd P w i t
 | inr x=>obtain ⟨t,e⟩:=(show ∃ t,u=Value.str x t from r);subst e;exact Ce P w x t
theorem zN {P:Program} {w:World}:∀ {ks:List Key} {us:List Value},Vals (ks.map kV) us->ItemsAre (dI P w) ks us
 | [],_,r=>by rw [List.map_nil] at r;cases r;exact .nil
 | k::ks,_,r=>by
  rw [List.map_cons] at r
  cases r with
  | cons h t=>exact .cons (zM h) (zN t)
abbrev KT (H:Hp):List (List Key×V)->List (List Key×Addr×Value)->Prop:=Paired fun p q=>p.1=q.1/\H q.2.1=some (.tup (p.1.map kV))/\RelV p.2 q.2.2
theorem KT.val {H:Hp} {kvs:List (List Key×V)} {xs:List (List Key×Addr×Value)} (r:KT H kvs xs) (k:List Key):lX (iL kvs k) ((atKey xs k).map (·.2)):=by
 induction r with
 | nil=>exact True.intro
 | @cons p q ps qs h t ih=>
   obtain ⟨h1,_,h2⟩:=h;by_cases e:p.1=k
   . have e':q.1=k:=h1.symm.trans e
     have b:atKey (q::qs) k=some q.2:=by simp [atKey,List.find?_cons,e']
     rw [fR e,b];exact h2
   . have e':¬ q.1=k:=fun z=>e (h1.trans z)
     have b:atKey (q::qs) k=atKey qs k:=by simp [atKey,List.find?_cons,e']
     rw [gB e,b];exact ih
theorem KT.repl {H:Hp} {kvs:List (List Key×V)} {xs:List (List Key×Addr×Value)} (r:KT H kvs xs) (k:List Key) {y:V} {u:Value} (ry:RelV y u) :
   KT H (kvs.map fun kv=>if kv.1=k then (kv.1,y) else kv) (xs.map (putAt k u)):=by
 induction r with
 | nil=>exact .nil
 | @cons p q ps qs h t ih=>
   rw [List.map_cons,List.map_cons];refine .cons ?_ ih;obtain ⟨h1,h2,h3⟩:=h;unfold putAt;by_cases e:p.1=k
   . rw [if_pos e,if_pos (h1.symm.trans e)];exact ⟨h1,h2,ry⟩
   . rw [if_neg e,if_neg (fun z=>e (h1.trans z))];exact ⟨h1,h2,h3⟩
theorem KT.put {H:Hp} {kvs:List (List Key×V)} {xs:List (List Key×Addr×Value)} (r:KT H kvs xs) (k:List Key) {b:Addr} {y:V} {u:Value} (hb:H b=some (.tup (k.map kV))) (ry:RelV y u) :
   KT H (putK kvs k y) (storedH xs k b u):=by
 have e:(kvs.any fun kv=>decide (kv.1=k))=(atKey xs k).isSome:=by
   rw [jQ,(r.val k).mZ,Option.isSome_map]
 unfold putK storedH;rw [e];by_cases q:(atKey xs k).isSome=true
 . rw [if_pos q,if_pos q];exact r.repl k ry
 . rw [if_neg q,if_neg q];exact Paired.snoc r ⟨rfl,hb,ry⟩
theorem KT.keeps {H H':Hp} {kvs:List (List Key×V)} {xs:List (List Key×Addr×Value)} (r:KT H kvs xs) (ht:∀ b ys,H b=some (.tup ys)->H' b=some (.tup ys)):KT H' kvs xs:=
 Paired.Ob r fun _ _ z=>⟨z.1,ht _ _ z.2.1,z.2.2⟩
section
variable {P:Program} {w:World} {H:Hp} {h:Heap} {a:Addr}
theorem NB {u:HO} (ok:oB P w H h) (e:Rd H a u):bZ P w H h a u:=e.ok ok
theorem xR {kvs:List (Key×V)} (ok:oB P w H h) (e:Rd H a (.dK kvs)):kvs.length<=sizeLine/\(a==sysModules)=false/\∃ vs,KV kvs vs/\h.DictOf (dI P w) a vs:=
 show bZ P w H h a (.dK kvs) from NB ok e
theorem NC {kvs:List (Key×V)} (ok:oB P w H h) (e:H a=some (.dK kvs)):kvs.length<=sizeLine/\(a==sysModules)=false/\∃ vs,KV kvs vs/\h.DictOf (dI P w) a vs:=xR ok (.inl e)
theorem sj {ks:List Key} (ok:oB P w H h) (e:H a=some (.tup (ks.map kV))):(tupleKind (dI P w)).is h ks a:=by
 obtain ⟨_,its,r,o,h1,h2,n,h3⟩:=(show bZ P w H h a (.tup (ks.map kV)) from ok a _ e);exact ⟨o,its.toArray,n,h1,h2,h3,by simpa using zN r⟩
theorem xS {kvs:List (List Key×V)} (ok:oB P w H h) (e:Rd H a (.dT kvs)):kvs.length<=sizeLine/\(a==sysModules)=false /\
   ∃ xs,KT H kvs xs/\h.DictOfH (tupleKind (dI P w)) a xs:=by
 obtain ⟨z,y,xs,r,o,es,ep,h1,h2,h3,h4,h5⟩:=(show bZ P w H h a (.dT kvs) from NB ok e);refine ⟨z,y,xs,r,o,es,ep,h1,h2,h3,h4,fun x hx=>?_,h5⟩;have all:∀ {l:List (List Key×V)} {m:List (List Key×Addr×Value)},KT H l m->∀ x ∈ m,(tupleKind (dI P w)).is h x.1 x.2.1:=by
   intro l m q;induction q with
   | nil=>intro x hx;exact nomatch hx
   | @cons p q ps qs hq t ih=>
     intro x hx;rcases List.mem_cons.mp hx with e | hx
     . subst e
       exact sj ok (by rw [<- hq.1];exact hq.2.1)
     . exact ih x hx
 exact all r x hx
theorem Jp {kvs:List (List Key×V)} (ok:oB P w H h) (e:H a=some (.dT kvs)):kvs.length<=sizeLine/\(a==sysModules)=false /\
   ∃ xs,KT H kvs xs/\h.DictOfH (tupleKind (dI P w)) a xs:=xS ok (.inl e)
end
def rA (H:Hp) (a:Addr) (y:V) (r:Option V):Prop:=
 (∃ kvs k,Rd H a (.dK kvs)/\y=kV k/\r=iL kvs k)\/∃ kvs k b,Rd H a (.dT kvs)/\y=.ref b/\H b=some (.tup (k.map kV))/\r=iL kvs k
def uM (H:Hp) (a:Addr) (y v:V) (H':Hp):Prop:=
 (∃ kvs k,H a=some (.dK kvs)/\y=kV k/\kvs.length < sizeLine/\H'=upd H a (.dK (putK kvs k v))) \/
 ∃ kvs k b,H a=some (.dT kvs)/\y=.ref b/\H b=some (.tup (k.map kV))/\kvs.length < sizeLine/\H'=upd H a (.dT (putK kvs k v))
theorem rA.t {H:Hp} {a b:Addr} {kvs:List (List Key×V)} {k:List Key} (e:H a=some (.dT kvs)) (eb:H b=some (.tup (k.map kV))):rA H a (.ref b) (iL kvs k):=.inr ⟨kvs,k,b,.inl e,rfl,eb,rfl⟩
theorem uM.k {H:Hp} {a:Addr} {kvs:List (Key×V)} {k:Key} {v:V} (e:H a=some (.dK kvs)) (hl:kvs.length < sizeLine):uM H a (kV k) v (upd H a (.dK (putK kvs k v))):=.inl ⟨kvs,k,e,rfl,hl,rfl⟩
theorem uM.t {H:Hp} {a b:Addr} {kvs:List (List Key×V)} {k:List Key} {v:V} (e:H a=some (.dT kvs)) (eb:H b=some (.tup (k.map kV))) (hl:kvs.length < sizeLine) :
   uM H a (.ref b) v (upd H a (.dT (putK kvs k v))):=.inr ⟨kvs,k,b,e,rfl,eb,hl,rfl⟩
section
variable {X:Cx} {pins:List (Addr×Obj)} {σ:St} {H:Hp} {s:Shared} {a:Addr} {y v:V} {u r:Value} {o:Option V} {A:Around} {E:Value->Shared->Prop}
theorem Inv.big (I:Inv X pins σ H s):sysModules < s.heap.objs.size:=by
 have h:mainGlobals < s.heap.objs.size:=(I.mod.glob.keeps I.bk).lt;exact Nat.lt_trans (by decide) h
theorem GQ {Q:Value->Shared->Prop} (hu:A.units+1 < cLine) (I:Inv X pins σ H s) (g:rA H a y (some v)) (ry:RelV y u) (h:∀ w' s',Inv X pins σ H s'->RelV v w'->Q w' s') :
   wpAny (model X.prog X.w) A (getItem (.ref a) u) Q E s:=by
 rcases g with ⟨kvs,k,e,ey,l⟩ | ⟨kvs,k,b,e,ey,eb,l⟩
 . subst ey
   obtain ⟨z,hd,vs,rel,dd⟩:=xR I.hok e;obtain ⟨w',hw,rw'⟩:=lX.some_of (v:=v) (o:=valueAt vs k) (by rw [l];exact rel.val k);exact wpAny_getItem_of (zM ry) dd.mapOf hw (h w' _ (I.tok _) rw')
 . subst ey
   cases (show u=Value.ref b from ry);obtain ⟨z,hd,xs,rel,dd⟩:=xS I.hok e;obtain ⟨w',hw,rw'⟩:=lX.some_of (v:=v) (o:=(atKey xs k).map (·.2)) (by rw [l];exact rel.val k);obtain ⟨p,hp,hp2⟩:=Option.map_eq_some_iff.mp hw;refine wpAny_getItem_heap (tupleKind_room_in1 hu) (sj I.hok eb) dd hp ?_;rw [hp2];exact h w' _ (I.tok _) rw'
theorem Uz {Q:Value->Shared->Prop} (hu:A.units+1 < cLine) (I:Inv X pins σ H s) (g:rA H a y o) (ry:RelV y u) (h:∀ s',Inv X pins σ H s'->Q (.bool o.isSome) s') :
   wpAny (model X.prog X.w) A (compareOp .In u (.ref a)) Q E s:=by
 rcases g with ⟨kvs,k,e,ey,l⟩ | ⟨kvs,k,b,e,ey,eb,l⟩
 . subst ey
   obtain ⟨z,hd,vs,rel,dd⟩:=xR I.hok e;refine wpAny_in_of (zM ry) hd dd.mapOf ?_;rw [<- (rel.val k).mZ,<- l];exact h _ (I.tok _)
 . subst ey
   cases (show u=Value.ref b from ry);obtain ⟨z,hd,xs,rel,dd⟩:=xS I.hok e;refine wpAny_in_heap (tupleKind_room_in1 hu) (sj I.hok eb) hd dd ?_;have q:=(rel.val k).mZ;rw [Option.isSome_map] at q;rw [<- q,<- l];exact h _ (I.tok _)
theorem LO {Q:Value->Shared->Prop} (hu:A.units+1 < cLine) (I:Inv X pins σ H s) (g:rA H a y o) (ry:RelV y u) (h:∀ s',Inv X pins σ H s'->Q (.bool (!o.isSome)) s') :
   wpAny (model X.prog X.w) A (compareOp .NotIn u (.ref a)) Q E s:=by
 rcases g with ⟨kvs,k,e,ey,l⟩ | ⟨kvs,k,b,e,ey,eb,l⟩
 . subst ey
   obtain ⟨z,hd,vs,rel,dd⟩:=xR I.hok e;refine wpAny_notIn_of (zM ry) hd dd.mapOf ?_;rw [<- (rel.val k).mZ,<- l];exact h _ (I.tok _)
 . subst ey
   cases (show u=Value.ref b from ry);obtain ⟨z,hd,xs,rel,dd⟩:=xS I.hok e;refine wpAny_notIn_heap (tupleKind_room_in1 hu) (sj I.hok eb) hd dd ?_;have q:=(rel.val k).mZ;rw [Option.isSome_map] at q;rw [<- q,<- l];exact h _ (I.tok _)
theorem A9 {h':Heap} {t':Nat} {ob:HO} (I:Inv X pins σ H s) (mu:Nv (H a)) (hs:Heap.SameBut a s.heap h') (he:∃ q,h'.get? a=some q) (new:bZ X.prog X.w (upd H a ob) h' a ob) :
  Inv X pins σ (upd H a ob) { s with heap:=h',toks:=t' }:=
 I.write (x:=a) (e:=a) mu (.inl rfl) (fun b q hb z=>(hs.2 b hb).trans z) he new
theorem O9 {P:Program} {w:World} {H':Hp} {h':Heap} {kvs:List (Key×V)} {vs:List (Key×Value)} (z:kvs.length<=sizeLine) (hd:(a==sysModules)=false) (rel:KV kvs vs) (dd:h'.DictOf (dI P w) a vs) :
   bZ P w H' h' a (.dK kvs):=⟨z,hd,vs,rel,dd⟩
theorem GU {H':Hp} {Q:Unit->Shared->Prop} (hu:A.units+1 < cLine) (I:Inv X pins σ H s) (g:uM H a y v H') (ry:RelV y u) (rv:RelV v r) (h:∀ s',Inv X pins σ H' s'->Q () s') :
   wpAny (model X.prog X.w) A (setItem (.ref a) u r) Q E s:=by
 rcases g with ⟨kvs,k,e,ey,l,eH⟩ | ⟨kvs,k,b,e,ey,eb,l,eH⟩
 . subst ey eH
   obtain ⟨z,hd,vs,rel,dd⟩:=NC I.hok e;have hz:vs.length<=sizeLine:=by rw [<- rel.length];exact z
   have hl:(putK kvs k v).length<=sizeLine:=by have:=gi kvs k v;omega
   refine wpAny_setItem_pairs (hsz:=hz) (zM ry) dd fun h' dd' hs=>h _ ?_;have he:∃ q,h'.get? a=some q:=let ⟨q,_,_,hq,_⟩:=dd';⟨q,hq⟩;exact A9 I (by rw [e];exact True.intro) hs he (O9 hl hd (rel.put k rv) dd')
 . subst ey eH
   cases (show u=Value.ref b from ry);obtain ⟨z,hd,xs,rel,dd⟩:=Jp I.hok e;have hz:xs.length<=sizeLine:=by rw [<- Paired.length rel];exact z
   have hl:(putK kvs k v).length<=sizeLine:=by have:=gi kvs k v;omega
   refine wpAny_setItem_heap (hsz:=hz) (tupleKind_room_in1 hu) (sj I.hok eb) dd fun h' dd' hs=>h _ ?_;obtain ⟨q,es,ep,hq,h2,h3,h4,_,h5⟩:=dd';refine A9 I (by rw [e];exact True.intro) hs ⟨q,hq⟩ ⟨hl,hd,_,(rel.put k eb rv).keeps fun c ys ec=>?_,q,es,ep,hq,h2,h3,h4,h5⟩;rw [ak (kM ec e (fun z=>nomatch z))];exact ec
end
section
variable {X:Cx} {pins:List (Addr×Obj)} {σ:St} {H:Hp} {s:Shared} {a:Addr} {kvs:List (Key×V)} {k:Key} {u:Value} {A:Around} {E:Value->Shared->Prop}
end
def Rg (i:Expr):Prop:=∀ ov iv,subscripted i false ov iv=operate [ov,iv] (getItem ov iv)
theorem LP {prog:Program} {w:World} {A:Around} {E:Value->Shared->Prop} {s:Shared} {env:Env} {value slice:Expr} {pos:Pos} {T id:String} {Q:Value->Shared->Prop}
   (hl:typeLookup (.type T) "__getitem__"=pure (some (.builtin id))) (hs:Rg slice)
   (h:wpAny (model prog w) A (eval value env) (fun o s₁=>wpAny (model prog w) A (eval slice env) (fun i s₂=>s₂.TypeIs o T/\wpAny (model prog w) A (getItem o i) Q E s₂) E s₁) E s) :
   wpAny (model prog w) A (eval (.Subscript value slice pos) env) Q E s:=by
 refine Subscript_ (wpAny_mono h (fun o s₁ h₁=>wpAny_mono h₁ (fun i s₂ h₂=>?_) fun _ _ x=>x) fun _ _ x=>x);obtain ⟨hT,h₂⟩:=h₂;unfold subscriptTail;refine wpAny_bind ?_;rw [getitemInPython_of_ne hT.not_modules];refine wpAny_bind (wpAny_specialOf hT hl ?_);have fin:wpAny (model prog w) A (subscripted slice false o i) (fun r s₃=>wpAny (model prog w) A (letTemporaryGo value o r >>= fun _=>pure r) Q E s₃) E s₂:=by
   rw [hs o i];exact wpAny_operating (wpAny_mono h₂ (fun r s₃ h₃=>wpAny_bind (wpAny_letTemporaryGo (wpAny_pure h₃))) fun _ _ x=>x)
 first
   | exact wpAny_pure (wpAny_bind fin)
   | exact wpAny_bind (wpAny_pure (wpAny_bind fin))
   | exact wpAny_bind fin
theorem Cz {X:Cx} {pins:List (Addr×Obj)} {σ:St} {H:Hp} {s:Shared} {a:Addr} {y:V} {o:Option V} (I:Inv X pins σ H s) (g:rA H a y o):s.TypeIs (.ref a) "dict":=by
 rcases g with ⟨kvs,k,e,_,_⟩ | ⟨kvs,k,b,e,_,_,_⟩
 . obtain ⟨_,_,vs,_,dd⟩:=xR I.hok e
   exact dd.typeIs
 . obtain ⟨_,_,xs,_,dd⟩:=xS I.hok e
   exact dd.typeIs
def Rh (td ty:TE):TE:=fun σ H Q=>td σ H fun x H1=>ty σ H1 fun y H2=>∃ a v,x=.ref a/\rA H2 a y (some v)/\Q v H2
def U0 (ty td:TE):TE:=fun σ H Q=>ty σ H fun y H1=>td σ H1 fun x H2=>∃ a o,x=.ref a/\rA H2 a y o/\Q (.bl o.isSome) H2
def LQ (ty td:TE):TE:=fun σ H Q=>ty σ H fun y H1=>td σ H1 fun x H2=>∃ a o,x=.ref a/\rA H2 a y o/\Q (.bl (!o.isSome)) H2
def Ri (td ty tv:TE):TS:=fun D σ H=>tv σ H fun v H1=>td σ H1 fun x H2=>ty σ H2 fun y H3=>∃ a H4,x=.ref a/\uM H3 a y v H4/\D.nx σ H4
section
variable {X:Cx} {o i e value:Expr} {pos pos' tpos:Pos} {td ty tv:TE}
theorem Fz (hu:X.A.units+1 < cLine) (ho:PE X o td) (hi:PE X i ty) (hs:Rg i):PE X (.Subscript o i pos) (Rh td ty):=by
 intro pins s σ H Q I h;refine LP PySem.F.slot_dict_getitem.lookup hs (cT (ho pins s σ H _ I h) fun u s1 ⟨x,H1,I1,rx,q1⟩=>cT (hi pins s1 σ H1 _ I1 q1) fun iv s2 ⟨y,H2,I2,ry,a,v,ex,g,q2⟩=>?_);subst ex;obtain rfl:u=Value.ref a:=rx;exact ⟨Cz I2 g,GQ hu I2 g ry fun w' s3 I3 rw'=>⟨v,H2,I3,rw',q2⟩⟩
theorem OA (hu:X.A.units+1 < cLine) (hi:PE X i ty) (ho:PE X o td):PC X .In i o (U0 ty td):=by
 intro pins s σ H Q I h;refine cT (hi pins s σ H _ I h) fun iv s1 ⟨y,H1,I1,ry,q1⟩=>cT (ho pins s1 σ H1 _ I1 q1) fun u s2 ⟨x,H2,I2,rx,a,ov,ex,g,q2⟩=>?_;subst ex;obtain rfl:u=Value.ref a:=rx;exact Uz hu I2 g ry fun s3 I3=>⟨.bl ov.isSome,H2,I3,rfl,q2⟩
theorem GV (hu:X.A.units+1 < cLine) (hi:PE X i ty) (ho:PE X o td):PC X .NotIn i o (LQ ty td):=by
 intro pins s σ H Q I h;refine cT (hi pins s σ H _ I h) fun iv s1 ⟨y,H1,I1,ry,q1⟩=>cT (ho pins s1 σ H1 _ I1 q1) fun u s2 ⟨x,H2,I2,rx,a,ov,ex,g,q2⟩=>?_;subst ex;obtain rfl:u=Value.ref a:=rx;exact LO hu I2 g ry fun s3 I3=>⟨.bl (!ov.isSome),H2,I3,rfl,q2⟩
theorem nM (hu:X.A.units+1 < cLine) (ho:PE X o td) (hi:PE X i ty) (hv:PE X value tv) (hs:swapsWith value (some (.Subscript o i pos')) pos.line X.env=pure false) :
  PS X (.Assign [.Subscript o i pos'] value pos) (Ri td ty tv):=by
 intro pins s σ H D I h;refine wpAny_Assign_Subscript (cT (hv pins s σ H _ I h) fun r s1 ⟨v,H1,I1,rv,q1⟩=>cT (ho pins s1 σ H1 _ I1 q1) fun u s2 ⟨x,H2,I2,rx,q2⟩=>cT (hi pins s2 σ H2 _ I2 q2) fun iv s3 ⟨y,H3,I3,ry,a,H4,ex,g,q3⟩=>?_) hs;subst ex;obtain rfl:u=Value.ref a:=rx;exact GU hu I3 g ry rv fun s4 I4=>⟨σ,H4,I4,q3⟩
end
theorem Jq {P:Program} {w:World} {H:Hp} (h:Heap) (hb:sysModules < h.objs.size):bZ P w H (h.push { cls:=.type "dict",data:=.dict #[] }) h.objs.size (.dK []):=
 ⟨Nat.zero_le _,beq_eq_false_iff_ne.mpr (Ne.symm (Nat.ne_of_lt hb)),[],.nil,Heap.DictOf.new h⟩
theorem C0 {P:Program} {w:World} {H:Hp} (h:Heap) (hb:sysModules < h.objs.size):bZ P w H (h.push { cls:=.type "dict",data:=.dict #[] }) h.objs.size (.dT []):=
 ⟨Nat.zero_le _,beq_eq_false_iff_ne.mpr (Ne.symm (Nat.ne_of_lt hb)),[],.nil,_,#[],0,Heap.get?_push_size _ rfl,⟨rfl,rfl,rfl⟩,rfl,rfl,List.nodup_nil⟩
def OB:TE:=fun _ H Q=>∀ p,H p=none->Q (.ref p) (upd H p (.dK []))
def OC:TE:=fun _ H Q=>∀ p,H p=none->Q (.ref p) (upd H p (.dT []))
section
variable {X:Cx} {pos:Pos}
theorem Jr:PE X (.Dict [] [] pos) OB:=fun pins s σ H Q I h=>
 wpAny_Dict_empty ⟨.ref s.heap.objs.size,_,I.laid (a:=s.heap.objs.size) (o:=.dK []) (t':=s.toks) (fun _ _ q=>Heap.get?_push_of_some _ q) (Nat.le_refl _) (Jq s.heap I.big),rfl,h _ (I.hok.fresh (Nat.le_refl _))⟩
theorem pO:PE X (.Dict [] [] pos) OC:=fun pins s σ H Q I h=>
 wpAny_Dict_empty ⟨.ref s.heap.objs.size,_,I.laid (a:=s.heap.objs.size) (o:=.dT []) (t':=s.toks) (fun _ _ q=>Heap.get?_push_of_some _ q) (Nat.le_refl _) (C0 s.heap I.big),rfl,h _ (I.hok.fresh (Nat.le_refl _))⟩
end
def Js:List (TE×TE)->St->Hp->(List (V×V)->Hp->Prop)->Prop
 | [],_,H,Q=>Q [] H
 | (tk,tv)::r,σ,H,Q=>tk σ H fun x H1=>tv σ H1 fun y H2=>Js r σ H2 fun ps H3=>Q ((x,y)::ps) H3
abbrev VV:List (V×V)->List (Value×Value)->Prop:=Paired fun p q=>RelV p.1 q.1/\RelV p.2 q.2
def U1 (X:Cx) (pos:Pos) (keys:List (Option Expr)) (values:List Expr) (Tc:List (TE×TE)):Prop:=
 ∀ (pins:List (Addr×Obj)) (s:Shared) (σ:St) (H:Hp) (Q:List (V×V)->Hp->Prop),Inv X pins σ H s->Js Tc σ H Q->
   wpAny (model X.prog X.w) X.A (evalPairs (pairTrees keys values X.env pos)) (fun vs s'=>∃ ps H',Inv X pins σ H' s'/\VV ps vs/\Q ps H') X.xe s
theorem LR {X:Cx} {pos:Pos}:U1 X pos [] [] []:=fun pins s σ H Q I h=>pairTrees_nil_walk ⟨[],H,I,.nil,h⟩
theorem Jt {X:Cx} {pos:Pos} {k v:Expr} {ks:List (Option Expr)} {vs:List Expr} {tk tv:TE} {Tc:List (TE×TE)} (hk:PE X k tk) (hv:PE X v tv) (hr:U1 X pos ks vs Tc) :
  U1 X pos (some k::ks) (v::vs) ((tk,tv)::Tc):=fun pins s σ H Q I h=>
 pairTrees_cons_walk (cT (hk pins s σ H _ I h) fun u s1 ⟨x,H1,I1,rx,q1⟩=>cT (hv pins s1 σ H1 _ I1 q1) fun w2 s2 ⟨y,H2,I2,ry,q2⟩=>
  cT (hr pins s2 σ H2 _ I2 q2) fun ws s3 ⟨ps,H3,I3,rel,q3⟩=>⟨(x,y)::ps,H3,I3,.cons ⟨rx,ry⟩ rel,q3⟩)
structure M1 (X:Cx) (o:Expr) (m:Str) (apos:Pos) (e:Expr) (cpos:Pos):Prop where
 base:attributeBase o m X.env (eval o X.env)=eval o X.env
 few:((backTo cpos (starEach [e] X.env)).all (fun x=>!x.1)&&(backToKw cpos (keywordEach [] X.env)).all (fun x=>x.1.isSome)
  &&decide (([e]:List Expr).length+([]:List Keyword).length+(if ([]:List Keyword).isEmpty then 0 else 1) < 30))=true
 line:(apos.endLine==cpos.line)=true
 trees:backTo cpos (starEach [e] X.env)=[(false,eval e X.env)]
structure M2 (X:Cx) (o:Expr) (m:Str) (apos:Pos) (e f:Expr) (cpos:Pos):Prop where
 base:attributeBase o m X.env (eval o X.env)=eval o X.env
 few:((backTo cpos (starEach [e,f] X.env)).all (fun x=>!x.1)&&(backToKw cpos (keywordEach [] X.env)).all (fun x=>x.1.isSome)
  &&decide (([e,f]:List Expr).length+([]:List Keyword).length+(if ([]:List Keyword).isEmpty then 0 else 1) < 30))=true
 line:(apos.endLine==cpos.line)=true
 trees:backTo cpos (starEach [e,f] X.env)=[(false,eval e X.env),(false,eval f X.env)]
def VH (H:Hp) (a:Addr):Prop:=(∃ kvs,Rd H a (.dK kvs))\/∃ kvs,Rd H a (.dT kvs)
theorem OD {X:Cx} {pins:List (Addr×Obj)} {σ:St} {H:Hp} {s:Shared} {a:Addr} (I:Inv X pins σ H s) (d:VH H a) :
   s.TypeIs (.ref a) "dict"/\(∀ b,Value.ref a=.ref b->∃ ob,s.heap.get? b=some ob/\ob.dict=none)/\(a==sysModules)=false:=by
 rcases d with ⟨kvs,e⟩ | ⟨kvs,e⟩
 . obtain ⟨_,hd,vs,_,dd⟩:=xR I.hok e
   refine ⟨dd.typeIs,fun b q=>?_,hd⟩;cases q;obtain ⟨ob,_,_,h1,h2,_⟩:=dd;exact ⟨ob,h1,h2.2.1⟩
 . obtain ⟨_,hd,xs,_,dd⟩:=xS I.hok e
   refine ⟨dd.typeIs,fun b q=>?_,hd⟩;cases q;obtain ⟨ob,_,_,h1,h2,_⟩:=dd;exact ⟨ob,h1,h2.2.1⟩
section
variable {X:Cx} {pins:List (Addr×Obj)} {σ:St} {H:Hp} {s:Shared} {a:Addr} {y d:V} {u r:Value} {o:Option V} {A:Around} {E:Value->Shared->Prop}
theorem OE {Q:Value->Shared->Prop} (hu:A.units+1 < cLine) (I:Inv X pins σ H s) (g:rA H a y o) (ry:RelV y u) (h:∀ w' s',Inv X pins σ H s'->RelV (o.getD .non) w'->Q w' s') :
   wpAny (model X.prog X.w) A (call (.builtin "dict.get") [.ref a,u]) Q E s:=by
 rcases g with ⟨kvs,k,e,ey,l⟩ | ⟨kvs,k,b,e,ey,eb,l⟩
 . subst ey
   obtain ⟨z,hd,vs,rel,dd⟩:=xR I.hok e;refine call_meetsIn PySem.F.slot_dict_get dd.typeIs PySem.F.entry_dict_get (PySem.F.args_dict_get_2 _ _) (meets_dict_get (dI X.prog X.w) a (zM ry) hd) ⟨_,dd.mapOf,h _ _ (I.tok _) ?_⟩;rw [l];exact (rel.val k).getD rfl
 . subst ey
   cases (show u=Value.ref b from ry);obtain ⟨z,hd,xs,rel,dd⟩:=xS I.hok e;refine call_meetsIn PySem.F.slot_dict_get dd.typeIs PySem.F.entry_dict_get (PySem.F.args_dict_get_2 _ _) (meetsH_dict_get (tupleKind (dI X.prog X.w)) a b hd) ⟨tupleKind_room_in1 hu,k,xs,sj I.hok eb,dd,h _ _ (I.tok _) ?_⟩;rw [l];exact (rel.val k).getD rfl
end
def OG (td ty:TE):TE:=fun σ H Q=>td σ H fun x H1=>∃ a,x=.ref a/\VH H1 a/\ty σ H1 fun y H2=>∃ o,rA H2 a y o/\Q (o.getD .non) H2
section
variable {X:Cx} {o e f:Expr} {apos cpos:Pos} {td ty tx:TE}
theorem Ju (hu:X.A.units+1 < cLine) (ho:PE X o td) (he:PE X e ty) (m:M1 X o "get" apos e cpos):PE X (.Call (.Attribute o "get" apos) [e] [] cpos) (OG td ty):=by
 intro pins s σ H Q I h;refine wpAny_Call_method m.base m.few m.line PySem.F.plainAttrs_dict PySem.F.slot_dict_get PySem.F.type_dict_get (cT (ho pins s σ H _ I h) fun u s1 ⟨x,H1,I1,rx,a,ex,d,q1⟩=>?_);subst ex;obtain rfl:u=Value.ref a:=rx;obtain ⟨t1,t2,_⟩:=OD I1 d;refine ⟨t1,t2,?_⟩;rw [m.trees];refine Calls.callWith_builtin rfl (Calls.evalArgs_plain (Calls.spliced_cons (cT (he pins s1 σ H1 _ I1 q1) fun iv s2 ⟨y,H2,I2,ry,ov,g,q2⟩=>Calls.spliced_nil ?_)));exact OE hu I2 g ry fun w' s3 I3 rw'=>⟨_,H2,I3,rw',q2⟩
end
section
variable {X:Cx} {pins:List (Addr×Obj)} {σ:St} {H:Hp} {s:Shared} {a:Addr} {kvs:List (Key×V)} {A:Around} {E:Value->Shared->Prop}
end
section
variable {X:Cx} {pins:List (Addr×Obj)} {σ:St} {H:Hp} {s:Shared} {a:Addr} {y:V} {u:Value} {A:Around} {E:Value->Shared->Prop}
end
end L2
namespace L2
open PySem PySem.Spec PyProof.Rows
section
variable {prog:Program} {w:World} {A:Around} {E:Value->Shared->Prop}
end
section
variable {X:Cx}
end
end L2
namespace L2
open PySem PySem.Spec PyProof.Rows
section
variable {X:Cx} {pins:List (Addr×Obj)} {σ:St} {H:Hp} {s:Shared} {h':Heap}
theorem Inv.GX {t':Nat} {ch:List Addr} {T:Addr} {ob:HO} (I:Inv X pins σ H s) (k:∀ b o,b ∉ ch->s.heap.get? b=some o->h'.get? b=some o) (hf:∀ b ∈ ch,xE X pins H b) (hT:s.heap.objs.size<=T)
   (new:bZ X.prog X.w (upd H T ob) h' T ob):Inv X pins σ (upd H T ob) { s with heap:=h',toks:=t' }:=by
 have hn:H T=none:=I.hok.fresh hT;have Q7:∀ b u,H b=some u->b ∉ ch:=fun b u e z=>by
   have q:=(hf b z).1;rw [q] at e;cases e
 refine I.step (g':=s.gens) (d':=s.drawn) (ch:=ch) (fun b hb=>⟨(hf b hb).2.2.2.1,(hf b hb).2.1,(hf b hb).2.2.2.2.1,(hf b hb).2.2.2.2.2⟩) (fun b o _ _ hc e _=>k b o hc e) (fun b o _ _ hc e _=>⟨o.slots,k b o hc e⟩)
   (fun b o _ e n=>?_) (fun b o hc e=>⟨o,k b o hc e⟩) (fun b xs e=>?_) (fun b o u e=>?_) (fun b ps e=>⟨#[],?_⟩) (fun m hm=>?_) (fun b u e=>?_) I.bare
 . rw [ak (Nat.ne_of_lt (Nat.lt_of_lt_of_le (Heap.lt_size e) hT))];exact n
 . rw [ak (au e hn)];exact e
 . rw [ak (au e hn)];exact e
 . rw [ak (au e hn),e];simp
 . obtain ⟨o,es,ep,ho,r⟩:=hm
   exact ⟨o,es,ep,k _ o (fun z=>(hf _ z).2.1 rfl) ho,r⟩
 . by_cases hb:b=T
   . subst hb
     rw [ai] at e;cases e;exact new
   . rw [ak hb] at e
     refine (I.hok b u e).stay (fun c v hc q=>k c v ?_ q) (fun c q=>by rw [ak (au q hn)];exact q) fun c xs q=>by rw [ak (au q hn)];exact q
     rcases hc with z | z
     . rw [z];exact Q7 b u e
     . exact Q7 c _ z
theorem Inv.lock {d:Addr} {u:HO} (I:Inv X pins σ H s) (h:H d=some u) (mu:Nv (some u)):∃ od,Inv X pins σ (upd H d (.jB od u)) s:=by
 have x:=I.hok d u h;have ex:∃ od,s.heap.get? d=some od:=by
   cases u with
   | lst xs=>obtain ⟨_,_,_,_,e⟩:=x;exact ⟨_,e⟩
   | dK kvs=>obtain ⟨_,_,_,_,o,_,_,e,_⟩:=x;exact ⟨o,e⟩
   | dT kvs=>obtain ⟨_,_,_,_,o,_,_,e,_⟩:=x;exact ⟨o,e⟩
   | set S n=>obtain ⟨o,_,_,_,e,_⟩:=x;exact ⟨o,e⟩
   | ins C dx fs=>obtain ⟨_,_,_,e,_⟩:=x;exact ⟨_,e⟩
   | ext φ=>obtain ⟨_,⟨_,e⟩,_⟩:=x;exact ⟨_,e⟩
   | _=>exact False.elim mu
 obtain ⟨od,e⟩:=ex;have new:bZ X.prog X.w (upd H d (.jB od u)) s.heap d (.jB od u):=by
   refine ⟨e,x.stay (fun b v _ q=>q) (fun b q=>?_) fun b xs q=>?_⟩
   . rw [ak (fun z=>by rw [z,h] at q;cases q;exact mu)];exact q
   . rw [ak (fun z=>by rw [z,h] at q;cases q;exact mu)];exact q
 exact ⟨od,I.write (x:=d) (e:=d) (t':=s.toks) (h':=s.heap) (by rw [h];exact mu) (.inl rfl) (fun b v _ q=>q) ⟨od,e⟩ new⟩
theorem Inv.F0 {d:Addr} {u:HO} (I:Inv X pins σ H s) (h:H d=some u) (mu:Nv (some u)):∀ o' u',X.Od d ≠ some (.jB o' u'):=fun o' u' e=>by
 have q:=I.base.rX d o' u' e
 rw [h] at q
 cases q
 exact mu
theorem Inv.unlock {d:Addr} {od:Obj} {u:HO} (I:Inv X pins σ H s) (h:H d=some (.jB od u)) (hn:∀ o' u',X.Od d ≠ some (.jB o' u')):Inv X pins σ (upd H d u) s:=by
 have Qy:∀ b o,H b=some o->(∀ o' u',o ≠ .jB o' u')->b ≠ d:=fun b o e hne z=>by
   rw [z,h] at e;cases e;exact hne _ _ rfl
 have neN:∀ b,H b=none->b ≠ d:=fun b e z=>by rw [z,h] at e;cases e
 refine ⟨I.ok,I.os,I.bare,⟨I.base.keep,I.base.slot,fun b o e n hx=>?_,I.base.there,fun b xs e=>?_,fun b o x e=>?_,fun b ps e=>?_⟩,I.loc,I.cell,?_,fun x c e=>?_,fun p hp=>?_,fun b o e=>?_,I.len⟩
 . rw [ak (neN b (I.base.free b o e n hx))];exact I.base.free b o e n hx
 . have q:=I.base.tups b xs e
   rw [ak (Qy b _ q (fun _ _ z=>nomatch z))];exact q
 . have q:=I.base.rX b o x e
   rw [ak (fun z=>by rw [z] at e;exact hn _ _ e)];exact q
 . obtain ⟨m,q⟩:=I.base.uB b ps e
   exact ⟨m,by rw [ak (Qy b _ q (fun _ _ z=>nomatch z))];exact q⟩
 . rw [ak (neN _ I.free)];exact I.free
 . rw [ak (neN c (I.gY x c e))];exact I.gY x c e
 . obtain ⟨e,n,r⟩:=I.pin p hp
   exact ⟨e,by rw [ak (neN _ n)];exact n,r⟩
 . by_cases hb:b=d
   . rw [hb,ai] at e
     cases e;rw [hb];obtain ⟨_,x⟩:=I.hok d _ h;exact x.stay (fun c v _ q=>q) (fun c q=>by rw [ak (Qy c _ q (fun _ _ z=>nomatch z))];exact q) fun c xs q=>by rw [ak (Qy c _ q (fun _ _ z=>nomatch z))];exact q
   . rw [ak hb] at e
     exact (I.hok b o e).stay (fun c v _ q=>q) (fun c q=>by rw [ak (Qy c _ q (fun _ _ z=>nomatch z))];exact q) fun c xs q=>by rw [ak (Qy c _ q (fun _ _ z=>nomatch z))];exact q
end
def Rj (t:TS):TS:=fun D σ H=>∃ d u,H d=some u/\Nv (some u)/\∀ od,t ⟨fun σ' H'=>H' d=some (.jB od u)/\D.nx σ' (upd H' d u),fun v H'=>H' d=some (.jB od u)/\D.rt v (upd H' d u),fun σ' H'=>H' d=some (.jB od u)/\D.bk σ' (upd H' d u),fun σ' H'=>H' d=some (.jB od u)/\D.ct σ' (upd H' d u)⟩ σ (upd H d (.jB od u))
section
variable {X:Cx}
theorem wW {st:Stmt} {t:TS} (h:PS X st t):PS X st (Rj t):=by
 intro pins s σ H D I hw;obtain ⟨d,u,hd,mu,hw⟩:=hw;obtain ⟨od,I1⟩:=I.lock hd mu;refine cT (h pins s σ _ _ I1 (hw od)) fun f s1 q=>?_;cases f with
 | next=>obtain ⟨σ',H',I2,e,q⟩:=q;exact ⟨σ',_,I2.unlock e (I.F0 hd mu),q⟩
 | brk=>obtain ⟨σ',H',I2,e,q⟩:=q;exact ⟨σ',_,I2.unlock e (I.F0 hd mu),q⟩
 | cont=>obtain ⟨σ',H',I2,e,q⟩:=q;exact ⟨σ',_,I2.unlock e (I.F0 hd mu),q⟩
 | ret v=>obtain ⟨x,σ',H',I2,r,e,q⟩:=q;exact ⟨x,σ',_,I2.unlock e (I.F0 hd mu),r,q⟩
theorem E4 {tg:Expr} {pins:List (Addr×Obj)} {σ:St} {H:Hp} {s:Shared} {R:It->Hp->Prop} {J:It} {tn:Nat->Heap->Prop} {tk:Nat} (I:Inv X pins σ H s) (o:Obj)
  (T:Turn X.prog X.w X.K tg J [s.heap.objs.size] s.heap.objs.size tn) (st:tn 0 (s.heap.push o)) (q:R J H):Ud X pins σ tg R (.ref s.heap.objs.size) { s with heap:=s.heap.push o,toks:=tk }:=by
 refine ⟨s.heap.objs.size,[s.heap.objs.size],tn,J,H,rfl,I.kept fun b ob e=>Heap.get?_push_of_some _ e,T,st,fun b hb=>?_,q⟩;have e:b=s.heap.objs.size:=by simpa using hb
 subst e;exact I.G5 (Nat.le_refl _) (I.hok.fresh (Nat.le_refl _))
end
def Rk (lo c:Int) (n:Nat):It:=⟨fun i _=>i < n,fun i H x H'=>H'=H/\x=.int (lo+(i:Nat) * c),fun i _=>n<=i⟩
theorem C1 {P:Program} {w:World} {K:Zqq} {tg:Expr} (it:Addr) (lo c:Int) (n:Nat):Turn P w K tg (Rk lo c n) [it] it (fun i h=>IsRangeIter h it (lo+(i:Nat) * c) ((n:Int) - (i:Nat)) c) where
 mem:=by simp
 obj:=fun i h st b hb=>by
  have e:b=it:=by simpa using hb
  subst e
  exact ⟨_,st,fun v z=>nomatch z⟩
 keep:=fun i h h' st k=>k it (by simp) _ st
 item:=by
  intro X hP hw hK hc i pins s σ H E I hf st hg;subst hP hw hK;obtain ⟨f0,f1,f2,f3,f4,f5⟩:=hf it (by simp);have W:=Walks.range (prog:=X.prog) (w:=X.w) (I.ok.hd hc) it lo c n;refine W.item i s _ _ hg st fun v h' tk hv st' kk=>?_;obtain ⟨t,rfl⟩:=hv;have I1:Inv X pins σ H { s with heap:=h',toks:=tk }:=I.turned (fun b o hb e=>kk b o (by simpa using hb) e) f0 f1 f3 f4 f5
  exact ⟨_,rfl,zC (s:={ s with heap:=h',toks:=tk }) (n:="range_iterator") st' rfl rfl (by decide) ⟨.int (lo+(i:Nat) * c),H,I1,⟨t,rfl⟩,⟨rfl,rfl⟩,st',fun b hb=>(hf b hb).1⟩⟩
 done:=by
  intro X hP hw hK hc i pins s σ H E I hf st hg;subst hP hw hK;obtain ⟨f0,f1,f2,f3,f4,f5⟩:=hf it (by simp);exact wpAny_pyNext_range_end (I.ok.hd hc) st (by have:n<=i:=hg;omega) fun h' eb=>⟨rfl,I.turned (t':=s.toks) (fun b o hb e=>eb b o hb e) f0 f1 f3 f4 f5⟩
 self:=fun A i s Q E st h=>wpAny_pyIter_rangeiter st h
def Td (i j c:Int) (n:Nat):Prop:=c ≠ 0/\c.natAbs < 1073741824/\Builtin.Range.small i j c=true/\Builtin.Range.rangeSize i j c=n
theorem Td.neg {i j:Int} (ha:-(2 ^ 62)<=i) (ha':i < 2 ^ 62) (hb:-(2 ^ 62)<=j) (hb':j < 2 ^ 62):Td i j (-1) (i - j).toNat:=
 ⟨by decide,by decide,PySem.W.small_down ha ha' hb hb',PySem.W.rangeSize_downNat i j⟩
def Rl (ta:TA):TI:=fun σ H R=>ta σ H fun vs H1=>∃ (i j c:Int) (n:Nat),vs=[.int i,.int j,.int c]/\Td i j c n/\R (Rk i c n) H1
section
variable {X:Cx} {tg:Expr}
theorem GY {a b c:Expr} {ta:TA} {p pos:Pos} (hg:Gl X "range") (hm:X.mg "range"=none) (ha:PA X [a,b,c] ta)
  (hs:starEach [a,b,c] X.env=(false,eval a X.env)::starEach [b,c] X.env:=by rfl) (hpl:(backTo pos (starEach [b,c] X.env)).any (·.1)=false:=by rfl) :
  PI X tg (.Call (.Name "range" p) [a,b,c] [] pos) (Rl ta):=by
 intro pins s σ H R I h;refine Call_ (rZ I hg hm boot_range (PyProof.Rows.callWith_type1 (cT (ha pos pins s σ H _ I h) fun us s1 ⟨vs,H1,I1,r1,q1⟩=>?_) hs hpl));obtain ⟨i,j,k,n,e,⟨c0,c1,c2,c3⟩,q⟩:=q1;subst e;cases r1 with
 | cons r rr=>
  cases rr with
  | cons r' rr=>
   cases rr with
   | cons r'' rr=>
    cases rr;obtain ⟨t,rfl⟩:=r;obtain ⟨t',rfl⟩:=r';obtain ⟨t'',rfl⟩:=r'';refine call_range_3 c0 ?_ (.inl (PyProof.noPylong_small c1));refine wpAny_pyIter_range (IsRange.new ..) c2 ?_;have I2:Inv X pins σ H1 { s1 with heap:=s1.heap.push { cls:=.type "range",data:=.fields #[.int i t,.int j t',.int k t''] } }:=I1.kept (t':=s1.toks) fun b o e=>Heap.get?_push_of_some _ e
    refine E4 (tk:=s1.toks) I2 _ (C1 _ i k n) ?_ q;have e1:i+((0:Nat):Int) * k=i:=by simp
    have e2:(n:Int) - ((0:Nat):Int)=Builtin.Range.rangeSize i j k:=by rw [c3];simp
    show IsRangeIter _ _ (i+((0:Nat):Int) * k) ((n:Int) - ((0:Nat):Int)) k;rw [e1,e2];exact Heap.get?_push_size _ rfl
end
theorem E5 {lo c:Int} {n:Nat} {g:TG} {tb:TS} {D:Ends} {σ:St} {H:Hp} (Pv:Nat->St->Hp->Prop) (h0:Pv 0 σ H)
   (hs:∀ i σ H,i < n->Pv i σ H->g (.int (lo+(i:Nat) * c)) σ H fun σ2 H2=>tb { D with nx:=Pv (i+1),ct:=Pv (i+1),bk:=D.nx } σ2 H2) (hd:∀ σ H,Pv n σ H->D.nx σ H) :
   ∃ W:Nat->Nat->St->Hp->Prop,(∃ m,W 0 m σ H)/\∀ i m σ H,W i m σ H->
     ((Rk lo c n).stop i H/\D.nx σ H)\/((Rk lo c n).go i H/\∃ N:St->Hp->Prop,(∀ σ' H',N σ' H'->∃ m',m' < m/\W (i+1) m' σ' H')/\∀ x H',(Rk lo c n).IW i H x H'->g x σ H' fun σ2 H2=>tb { D with nx:=N,ct:=N,bk:=D.nx } σ2 H2):=by
 refine ⟨fun i m σ H=>m=n - i/\i<=n/\Pv i σ H,⟨n,by simp,Nat.zero_le _,h0⟩,?_⟩;rintro i m σ H ⟨rfl,hi,p⟩;by_cases hlt:i < n
 . refine .inr ⟨hlt,Pv (i+1),fun σ' H' p'=>⟨n - (i+1),by omega,rfl,hlt,p'⟩,fun x H' y=>?_⟩
   obtain ⟨e,y⟩:=y;subst e y;exact hs i σ _ hlt p
 . have e:i=n:=by omega
   subst e;exact .inl ⟨Nat.le_refl _,hd σ H p⟩
section
variable {X:Cx} {tg:Expr}
end
section
variable {prog:Program} {w:World} {A:Around} {E:Value->Shared->Prop} {s:Shared}
theorem zO {d:Addr} {o:Obj} {es:Array DictEntry} {ep:Nat} {Q:Value->Shared->Prop} (hd:(d==sysModules)=false) (ho:s.heap.get? d=some o) (hc:o.ExactDict) (hdat:o.data=.dict es ep)
  (hQ:Q (.ref s.heap.objs.size) { s with heap:=s.heap.push { cls:=.type "dict_keyiterator",data:=.fields #[.ref d,.int 0 0,.int es.size 0,.int ep 0] } }) :
  wpAny (model prog w) A (pyIter (.ref d)) Q E s:=by
 have hT:s.TypeIs (.ref d) "dict":=⟨o,ho,hc.1⟩;refine wpAny_pyIter_slot hT F.slot_dict_iter (wpAny_call_entry F.slot_dict_iter hT F.entry_dict_iter ?_ (F.args_dict_iter_1 _));unfold Builtin.«dict.__iter__»;refine wpAny_bind ?_;unfold Builtin.Dict.dictSlotNone;refine wpAny_bind (wpAny_notOrdered_dict hT ?_);show wpAny _ _ (pure (Value.ref d)) _ _ s;refine wpAny_pure ?_;show wpAny _ _ (Builtin.Dict.showsAll d >>= _) _ _ s;unfold Builtin.Dict.showsAll;rw [if_neg (by rw [hd];exact Bool.false_ne_true)];refine wpAny_bind (wpAny_pure ?_);refine wpAny_bind (wpAny_dictEntries ho hdat ?_);refine wpAny_bind (wpAny_dictEpoch ho hdat ?_);refine wpAny_bind (wpAny_newObj_type (wpAny_pure ⟨_,rfl,"dict_keyiterator",_,⟨_,Heap.get?_push_size _ rfl,rfl⟩,F.slot_dict_keyiterator_next.lookup,?_⟩));simpa [rawInt] using hQ
theorem yZ {it d:Addr} {i n ep:Nat} {od:Obj} {es:Array DictEntry} {en:DictEntry} {Q:Option Value->Shared->Prop} (hit:s.heap.IsKeyIter it d i n ep) (hod:s.heap.get? d=some od) (Rm:od.data=.dict es ep)
   (hsz:es.size=n) (hx:es[i]?=some en) (hQ:∀ h',h'.IsKeyIter it d (i+1) n ep->Heap.SameBut it s.heap h'->Q (some en.key) { s with heap:=h' }):wpAny (model prog w) A (pyNext (.ref it)) Q E s:=by
 obtain ⟨o,ho,hc,hd⟩:=id hit;unfold pyNext;refine wpAny_bind (wpAny_attempt (wpAny_callSpecial?_slot (name:=Str.ofString "__next__") hit.typeIs F.slot_dict_keyiterator_next
   (wpAny_call_entry F.slot_dict_keyiterator_next hit.typeIs F.entry_dict_keyiterator_next ?_ (F.args_dict_keyiterator_next_1 _))))
 refine wpAny_bind (wpAny_pure ?_);refine wpAny_bind ?_;refine wpAny_bind ?_
 first | refine wpAny_bind (wpAny_typeNameOfWhole_keyiter hit.typeIs (wpAny_pure ?_)) | refine wpAny_bind (wpAny_typeNameOf_keyiter hit.typeIs (wpAny_pure ?_))
 refine wpAny_bind (wpAny_fieldsOf ho hd ?_);have hown:Builtin.Dict_items.ownsTuple "dict_keyiterator"=false:=by decide
 simp only [hown,Bool.false_eq_true,if_false];show wpAny _ _ (if (Value.ref d==Value.none)=true then _ else _) _ _ s;rw [if_neg (show ¬ ((Value.ref d==Value.none)=true) from Bool.false_ne_true)];refine wpAny_bind (wpAny_pure ?_);refine wpAny_bind (wpAny_dictEntries hod Rm ?_);rw [if_neg (by rw [hsz];simp)];refine wpAny_bind (wpAny_pure ?_);refine wpAny_bind (wpAny_dictEpoch hod Rm ?_);rw [if_neg (by simp)];refine wpAny_pure ?_;obtain ⟨hlt',hen⟩:=Array.getElem?_eq_some_iff.mp hx;simp only [show ¬ ((i:Int) < 0) from by omega,if_false,Int.toNat_natCast,Array.getElem?_eq_getElem hlt'];refine wpAny_bind ?_
 first | refine wpAny_bind (wpAny_typeNameOfWhole_keyiter hit.typeIs (wpAny_pure ?_)) | refine wpAny_bind (wpAny_typeNameOf_keyiter hit.typeIs (wpAny_pure ?_))
 refine wpAny_bind (wpAny_isOneOf_keyiter hit.typeIs ?_);show wpAny _ _ (setField (.ref it) 1 (rawInt ((i:Int)+1)) >>= _) _ _ s;refine wpAny_bind (wpAny_setField ho hd (by simp) ?_);have hit':(s.heap.update it (Obj.mapFields (·.setIfInBounds 1 (rawInt ((i:Int)+1))))).IsKeyIter it d (i+1) n ep:=
   ⟨_,Heap.get?_update_self _ ho (Obj.isFreed_of_fields (Obj.data_mapFields hd _)),(Obj.cls_mapFields ..).trans hc,by rw [Obj.data_mapFields hd];simp [rawInt]⟩
 refine wpAny_bind (wpAny_holding ?_);refine wpAny_bind (wpAny_isOneOf_keyiter (s:={ s with heap:=s.heap.update it (Obj.mapFields (·.setIfInBounds 1 (rawInt ((i:Int)+1)))) }) hit'.typeIs ?_);show wpAny _ _ (pure es[i].key) _ _ _;rw [hen];exact wpAny_pure (wpAny_pure ⟨_,rfl,wpAny_pure (hQ _ hit' (Heap.SameBut.update ..))⟩)
theorem t8 {it d:Addr} {i n ep:Nat} {od:Obj} {es:Array DictEntry} {Q:Option Value->Shared->Prop} (hh:A.handled=none) (hit:s.heap.IsKeyIter it d i n ep) (hod:s.heap.get? d=some od) (Rm:od.data=.dict es ep)
   (hsz:es.size=n) (hge:n<=i) (hQ:∀ h',Heap.ExtBut it s.heap h'->Q none { s with heap:=h' }):wpAny (model prog w) A (pyNext (.ref it)) Q E s:=by
 obtain ⟨o,ho,hc,hd⟩:=id hit;unfold pyNext;refine wpAny_bind (wpAny_attempt (wpAny_callSpecial?_slot (name:=Str.ofString "__next__") hit.typeIs F.slot_dict_keyiterator_next
   (wpAny_call_entry F.slot_dict_keyiterator_next hit.typeIs F.entry_dict_keyiterator_next ?_ (F.args_dict_keyiterator_next_1 _))))
 refine wpAny_bind (wpAny_pure ?_);refine wpAny_bind ?_;refine wpAny_bind ?_
 first | refine wpAny_bind (wpAny_typeNameOfWhole_keyiter hit.typeIs (wpAny_pure ?_)) | refine wpAny_bind (wpAny_typeNameOf_keyiter hit.typeIs (wpAny_pure ?_))
 refine wpAny_bind (wpAny_fieldsOf ho hd ?_);have hown:Builtin.Dict_items.ownsTuple "dict_keyiterator"=false:=by decide
 simp only [hown,Bool.false_eq_true,if_false];show wpAny _ _ (if (Value.ref d==Value.none)=true then _ else _) _ _ s;rw [if_neg (show ¬ ((Value.ref d==Value.none)=true) from Bool.false_ne_true)];refine wpAny_bind (wpAny_pure ?_);refine wpAny_bind (wpAny_dictEntries hod Rm ?_);rw [if_neg (by rw [hsz];simp)];refine wpAny_bind (wpAny_pure ?_);refine wpAny_bind (wpAny_dictEpoch hod Rm ?_);rw [if_neg (by simp)];refine wpAny_pure ?_;have hge':es.size<=i:=by rw [hsz];exact hge
 simp only [show ¬ ((i:Int) < 0) from by omega,if_false,Int.toNat_natCast,Array.getElem?_eq_none hge'];refine wpAny_bind ?_
 first | refine wpAny_bind (wpAny_typeNameOfWhole_keyiter hit.typeIs (wpAny_pure ?_)) | refine wpAny_bind (wpAny_typeNameOf_keyiter hit.typeIs (wpAny_pure ?_))
 show wpAny _ _ (setField (.ref it) 0 .none >>= _) _ _ s;refine wpAny_bind (wpAny_setField ho hd (by simp) ?_);show wpAny _ _ (newExc (.type "StopIteration") [] >>= _) _ _ _;refine wpAny_bind ?_;simp only [newExc,newTuple];refine wpAny_bind (wpAny_newObj_type ?_ (by size_fits));refine wpAny_bind (m:=firstArgMember _ _) (wpAny_of_eq (a:=Value.none) (by first | rfl | (simp only [firstArgMember];rfl)) ?_);refine wpAny_newObj_type ?_ (by size_fits);simp only [raiseNew];refine wpAny_bind (wpAny_handled ?_);rw [show A.in1.handled=none from hh];refine wpAny_bind (wpAny_pure (wpAny_throw ?_));refine wpAny_bind (wpAny_isInstance (T:="StopIteration") (b:=true) ⟨_,Heap.get?_push_size _ rfl,rfl⟩ isSubtype_stop ?_);exact wpAny_pure (hQ _ (((Heap.SameBut.update ..).extBut.push _).push _))
end
theorem OH {κ:Type} {kvs:List (κ×V)} {vs:List (κ×Value)} (h:KV kvs vs):∀ {i:Nat} {k:κ} {v:V},kvs[i]?=some (k,v)->∃ u,vs[i]?=some (k,u)/\RelV v u:=by
 unfold KV at h;induction h with
 | nil=>intro i k v e;simp at e
 | @cons a b l₁ l₂ r t ih=>
  intro i k v e;cases i with
  | zero=>
   simp only [List.getElem?_cons_zero,Option.some.injEq] at e;subst e;refine ⟨b.2,?_,r.2⟩;simp only [List.getElem?_cons_zero];exact congrArg some (Prod.ext r.1.symm rfl)
  | succ j=>
   simp only [List.getElem?_cons_succ] at e ⊢;exact ih e
theorem E6 {α β:Type} {G:α->β->Prop} {l₁:List α} {l₂:List β} (h:Paired G l₁ l₂):∀ {i:Nat} {a:α},l₁[i]?=some a->∃ b,l₂[i]?=some b/\G a b:=by
 induction h with
 | nil=>intro i a e;simp at e
 | @cons a b l₁ l₂ r t ih=>
  intro i a' e;cases i with
  | zero=>
   simp only [List.getElem?_cons_zero,Option.some.injEq] at e;subst e;exact ⟨b,rfl,r⟩
  | succ j=>
   simp only [List.getElem?_cons_succ] at e ⊢;exact ih e
theorem Jv {k:Key} {u:Value} (h:sQ k u=true):RelV (kV k) u:=by
 rcases dw h with ⟨i,t,rfl,rfl⟩ | ⟨x,t,rfl,rfl⟩
 . exact ⟨t,rfl⟩
 . exact ⟨t,rfl⟩
section
variable {X:Cx} {pins:List (Addr×Obj)} {σ:St} {H:Hp} {s:Shared} {d:Addr} {o:Obj}
theorem Inv.OI {kvs:List (Key×V)} (I:Inv X pins σ H s) (h:H d=some (.jB o (.dK kvs))) :
  (d==sysModules)=false/\s.heap.get? d=some o/\o.ExactDict/\∃ (es:Array DictEntry) (ep:Nat) (vs:List (Key×Value)),o.data=.dict es ep/\es.size=kvs.length/\KV kvs vs/\s.heap.DictAt (dI X.prog X.w) d vs ep:=by
 obtain ⟨hd,z,hs,vs,kv,o',es,ep,ho,hx,hdt,r⟩:=I.hok d _ h;rw [hd] at ho;cases ho;refine ⟨hs,hd,hx,es,ep,vs,hdt,?_,kv,o,es,hd,hx,hdt,r⟩;have l1:=r.2.1.length;have l2:kvs.length=vs.length:=Paired.length kv;rw [Array.length_toList] at l1;omega
theorem Inv.OJ {kvs:List (List Key×V)} (I:Inv X pins σ H s) (h:H d=some (.jB o (.dT kvs))) :
   (d==sysModules)=false/\s.heap.get? d=some o/\o.ExactDict/\∃ (es:Array DictEntry) (ep:Nat),o.data=.dict es ep/\es.size=kvs.length /\
     ∀ (i:Nat) (k:List Key) (v:V),kvs[i]?=some (k,v)->∃ (en:DictEntry) (q:Addr),es[i]?=some en/\en.key=.ref q/\H q=some (.tup (k.map kV)):=by
 obtain ⟨hd,z,hs,xs,pr,o',es,ep,ho,hx,hdt,he,_⟩:=I.hok d _ h;rw [hd] at ho;cases ho;refine ⟨hs,hd,hx,es,ep,hdt,?_,fun i k v e=>?_⟩
 . have l1:es.size=xs.length:=size_of_entries he
   have l2:kvs.length=xs.length:=Paired.length pr;omega
 . obtain ⟨b,hb,e1,e2,_⟩:=E6 pr e
   have q:=entry_at he i;rw [hb] at q;exact ⟨_,b.2.1,q,rfl,e2⟩
end
def VI (d:Addr) (o:Obj) (kvs:List (Key×V)):It:=
 ⟨fun i H=>H d=some (.jB o (.dK kvs))/\i < kvs.length,fun i H x H'=>H'=H/\∃ k v,kvs[i]?=some (k,v)/\x=kV k,fun i H=>H d=some (.jB o (.dK kvs))/\kvs.length<=i⟩
def Jw (d:Addr) (o:Obj) (kvs:List (List Key×V)):It:=
 ⟨fun i H=>H d=some (.jB o (.dT kvs))/\i < kvs.length,fun i H x H'=>H'=H/\∃ (k:List Key) (v:V) (q:Addr),kvs[i]?=some (k,v)/\x=.ref q/\H q=some (.tup (k.map kV)),fun i H=>H d=some (.jB o (.dT kvs))/\kvs.length<=i⟩
theorem wX {o:Obj} {es es':Array DictEntry} {ep ep':Nat} (h:o.data=.dict es ep) (h':o.data=.dict es' ep'):es'=es/\ep'=ep:=by
 rw [h] at h';cases h';exact ⟨rfl,rfl⟩
section
variable {P:Program} {w:World} {K:Zqq} {tg:Expr} {d:Addr} {o:Obj} {es:Array DictEntry} {ep:Nat}
theorem GZ {kvs:List (Key×V)} (it:Addr) (hod:o.data=.dict es ep):Turn P w K tg (VI d o kvs) [it] it (fun i h=>h.IsKeyIter it d i kvs.length ep) where
 mem:=by simp
 obj:=fun i h st b hb=>by
  have e:b=it:=by simpa using hb
  subst e
  obtain ⟨oi,e,c,dd⟩:=st
  exact ⟨oi,e,fun v z=>by rw [dd] at z;cases z⟩
 keep:=fun i h h' st k=>st.at fun oi e=>k it (by simp) oi e
 item:=by
  intro X hP hw hK hc i pins s σ H E I hf st hg;subst hP hw hK;obtain ⟨hd,hi⟩:=hg;obtain ⟨f0,f1,f2,f3,f4,f5⟩:=hf it (by simp);obtain ⟨hs,hgd,hx,es',ep',vs,hdt,hsz,kv,hm⟩:=I.OI hd;obtain ⟨rfl,rfl⟩:=wX hod hdt;obtain ⟨⟨k,v⟩,hkv⟩:∃ p,kvs[i]?=some p:=⟨kvs[i],List.getElem?_eq_getElem hi⟩;obtain ⟨u,hu,ru⟩:=OH kv hkv;have hl:kvs.length=vs.length:=Paired.length kv;rw [hl] at st;refine wpAny_pyNext_dict_item st hm hu fun key h' hkey st' sb=>?_;have I1:Inv X pins σ H { s with heap:=h' }:=I.turned (t':=s.toks) (fun b ob hb e=>(sb.2 b hb).trans e) f0 f1 f3 f4 f5
  obtain ⟨oi,e,c,dd⟩:=id st';refine ⟨key,rfl,zC (s:={ s with heap:=h' }) e c dd (by decide) ⟨kV k,H,I1,Jv (show sQ k key=true from hkey),⟨rfl,k,v,hkv,rfl⟩,?_,fun b hb=>(hf b hb).1⟩⟩
  show h'.IsKeyIter it d (i+1) kvs.length _;rw [hl];exact st'
 done:=by
  intro X hP hw hK hc i pins s σ H E I hf st hg;subst hP hw hK;obtain ⟨hd,hi⟩:=hg;obtain ⟨f0,f1,f2,f3,f4,f5⟩:=hf it (by simp);obtain ⟨hs,hgd,hx,es',ep',vs,hdt,hsz,kv,hm⟩:=I.OI hd;obtain ⟨rfl,rfl⟩:=wX hod hdt;exact t8 (I.ok.hd hc) st hgd hdt hsz hi fun h' eb=>⟨rfl,I.turned (t':=s.toks) (fun b ob hb e=>eb b ob hb e) f0 f1 f3 f4 f5⟩
 self:=fun A i s Q E st h=>wpAny_pyIter_keyiter st h
theorem E7 {kvs:List (List Key×V)} (it:Addr) (hod:o.data=.dict es ep):Turn P w K tg (Jw d o kvs) [it] it (fun i h=>h.IsKeyIter it d i kvs.length ep) where
 mem:=by simp
 obj:=fun i h st b hb=>by
  have e:b=it:=by simpa using hb
  subst e
  obtain ⟨oi,e,c,dd⟩:=st
  exact ⟨oi,e,fun v z=>by rw [dd] at z;cases z⟩
 keep:=fun i h h' st k=>st.at fun oi e=>k it (by simp) oi e
 item:=by
  intro X hP hw hK hc i pins s σ H E I hf st hg;subst hP hw hK;obtain ⟨hd,hi⟩:=hg;obtain ⟨f0,f1,f2,f3,f4,f5⟩:=hf it (by simp);obtain ⟨hs,hgd,hx,es',ep',hdt,hsz,ent⟩:=I.OJ hd;obtain ⟨rfl,rfl⟩:=wX hod hdt;obtain ⟨⟨k,v⟩,hkv⟩:∃ p,kvs[i]?=some p:=⟨kvs[i],List.getElem?_eq_getElem hi⟩;obtain ⟨en,q,hen,hkey,hq⟩:=ent i k v hkv;refine yZ st hgd hdt hsz hen fun h' st' sb=>?_;have I1:Inv X pins σ H { s with heap:=h' }:=I.turned (t':=s.toks) (fun b ob hb e=>(sb.2 b hb).trans e) f0 f1 f3 f4 f5
  obtain ⟨oi,e,c,dd⟩:=id st';exact ⟨en.key,rfl,zC (s:={ s with heap:=h' }) e c dd (by decide) ⟨.ref q,H,I1,hkey,⟨rfl,k,v,q,hkv,rfl,hq⟩,st',fun b hb=>(hf b hb).1⟩⟩
 done:=by
  intro X hP hw hK hc i pins s σ H E I hf st hg;subst hP hw hK;obtain ⟨hd,hi⟩:=hg;obtain ⟨f0,f1,f2,f3,f4,f5⟩:=hf it (by simp);obtain ⟨hs,hgd,hx,es',ep',hdt,hsz,ent⟩:=I.OJ hd;obtain ⟨rfl,rfl⟩:=wX hod hdt;exact t8 (I.ok.hd hc) st hgd hdt hsz hi fun h' eb=>⟨rfl,I.turned (t':=s.toks) (fun b ob hb e=>eb b ob hb e) f0 f1 f3 f4 f5⟩
 self:=fun A i s Q E st h=>by
  refine wpAny_pyIter_slot st.typeIs F.slot_dict_keyiterator_iter (wpAny_call_entry F.slot_dict_keyiterator_iter st.typeIs F.entry_dict_keyiterator_iter ?_ (F.args_dict_keyiterator_iter_1 _));show wpAny _ _ (ret (.ref it)) _ _ s;exact wpAny_pure ⟨_,rfl,"dict_keyiterator",_,st.typeIs,F.slot_dict_keyiterator_next.lookup,h⟩
end
def Rn (td:TE):TI:=fun σ H R=>td σ H fun x H1=>∃ d o,x=.ref d/\((∃ kvs,H1 d=some (.jB o (.dK kvs))/\R (VI d o kvs) H1)\/∃ kvs,H1 d=some (.jB o (.dT kvs))/\R (Jw d o kvs) H1)
section
variable {X:Cx} {tg e:Expr} {td:TE} {apos cpos:Pos}
theorem wY (he:PE X e td):PI X tg e (Rn td):=by
 intro pins s σ H R I h;refine cT (he pins s σ H _ I h) fun u s1 ⟨x,H1,I1,rx,d,o,ex,q⟩=>?_;subst ex;obtain rfl:u=Value.ref d:=rx;rcases q with ⟨kvs,hd,q⟩ | ⟨kvs,hd,q⟩
 . obtain ⟨hs,hgd,hx,es,ep,vs,hdt,hsz,kv,hm⟩:=I1.OI hd
   refine zO hs hgd hx hdt (E4 (tk:=s1.toks) I1 _ (GZ _ hdt) ⟨_,Heap.get?_push_size _ rfl,rfl,?_⟩ q);rw [hsz]<;>rfl
 . obtain ⟨hs,hgd,hx,es,ep,hdt,hsz,ent⟩:=I1.OJ hd
   refine zO hs hgd hx hdt (E4 (tk:=s1.toks) I1 _ (E7 _ hdt) ⟨_,Heap.get?_push_size _ rfl,rfl,?_⟩ q);rw [hsz]<;>rfl
end
def Ro (K:Zqq) (a:Addr):It:=
 ⟨fun i H=>∃ (xs:List V) (x:V),c8 K H a xs/\xs[i]?=some x,fun i H v H'=>∃ T x,v=.ref T/\H T=none/\H'=upd H T (.tup [.int (i:Nat),x])/\∀ xs,c8 K H a xs->xs[i]?=some x,fun i H=>∃ xs:List V,c8 K H a xs/\xs.length<=i⟩
theorem Hf {P:Program} {w:World} {K:Zqq} {elts:List Expr} {kk:Nat} {tpos:Pos} (a e it:Addr) :
   Turn P w K (.Tuple elts kk tpos) (Ro K a) [e,it] e (fun i h=>(∃ old,IsEnum h e it ((i:Nat):Int) old)/\h.IsListIter it a i/\e ≠ it) where
 mem:=by simp
 obj:=fun i h st b hb=>by
   obtain ⟨⟨old,he⟩,⟨o,ho,hc,hd⟩,_⟩:=st
   have e':b=e\/b=it:=by simpa using hb
   rcases e' with z | z
   . rw [z];exact ⟨_,he,fun v q=>nomatch q⟩
   . rw [z];exact ⟨o,ho,fun v q=>by rw [hd] at q;cases q⟩
 keep:=fun i h h' st k=>let ⟨⟨old,he⟩,hi,hne⟩:=st;⟨⟨old,k e (by simp) _ he⟩,hi.at fun o q=>k it (by simp) o q,hne⟩
 item:=by
   intro X hP hw hK hc i pins s σ H E I hf st hg;subst hP hw hK;obtain ⟨⟨old,he⟩,hit,hne⟩:=st;obtain ⟨xs,x,hq,hx⟩:=hg;obtain ⟨its,rv,p,hz⟩:=I.list hq;obtain ⟨u,hu,ru⟩:=rv.get hx;have hel:e < s.heap.objs.size:=Heap.lt_size he;have hil:it < s.heap.objs.size:=by obtain ⟨_,q,_⟩:=hit;exact Heap.lt_size q
   refine wpAny_pyNext_enum_item he hit p.isList (x:=u) (by simpa using hu) hne fun h' ho hit' hT hsz hk=>?_;refine ⟨_,rfl,wpAny_letOwnedTupleGo_enum (s:={ s with heap:=h',toks:=s.toks+1 }) ho fun h'' he' sb=>?_⟩
   have hT2:h''.get? s.heap.objs.size=some { cls:=.type "tuple",data:=.seq #[.int i s.toks,u] }:=(sb.2 _ (Nat.ne_of_gt hel)).trans hT;have new:bZ X.prog X.w (upd H s.heap.objs.size (.tup [.int (i:Nat),x])) h'' s.heap.objs.size (.tup [.int (i:Nat),x]):=
     ⟨by show 2<=sizeLine;decide,[.int i s.toks,u],.cons ⟨_,rfl⟩ (.cons ru .nil),⟨_,hT2,rfl,_,rfl⟩⟩
   have I1:Inv X pins σ (upd H s.heap.objs.size (.tup [.int (i:Nat),x])) { s with heap:=h'',toks:=s.toks+1 }:=
     I.GX (ch:=[e,it]) (fun b ob hb q=>(sb.2 b (fun z=>hb (by simp [z]))).trans (hk b ob (fun z=>hb (by simp [z])) (fun z=>hb (by simp [z])) q)) hf (Nat.le_refl _) new
   refine ⟨.ref s.heap.objs.size,_,I1,rfl,⟨_,x,rfl,I.hok.fresh (Nat.le_refl _),rfl,fun ys hy=>by rw [I.Ci hy hq];exact hx⟩,⟨⟨u,?_⟩,hit'.at fun o q=>(sb.2 it (Ne.symm hne)).trans q,hne⟩,fun b hb=>?_⟩
   . have e1:((i+1:Nat):Int)=(i:Int)+1:=by omega
     rw [e1];exact he'
   . have hb':b < s.heap.objs.size:=by
       have e':b=e\/b=it:=by simpa using hb
       rcases e' with z | z
       . rw [z];exact hel
       . rw [z];exact hil
     rw [ak (Nat.ne_of_lt hb')];exact (hf b hb).1
 done:=by
   intro X hP hw hK hc i pins s σ H E I hf st hg;subst hP hw hK;obtain ⟨⟨old,he⟩,hit,hne⟩:=st;obtain ⟨xs,hq,hx⟩:=hg;obtain ⟨its,rv,p,hz⟩:=I.list hq;obtain ⟨f0,f1,f2,f3,f4,f5⟩:=hf it (by simp);have hl:=rv.length;exact wpAny_pyNext_enum_end (I.ok.hd hc) he hit p.isList (by simp;omega) fun h' eb=>⟨rfl,I.turned (t':=s.toks) (fun b o hb q=>eb b o hb q) f0 f1 f3 f4 f5⟩
 self:=fun A i s Q E st h=>let ⟨⟨_,he⟩,_⟩:=st;wpAny_pyIter_enum he h
def Rp (K:Zqq) (ta:TA):TI:=fun σ H R=>ta σ H fun vs H1=>∃ a xs,vs=[.ref a]/\c8 K H1 a xs/\R (Ro K a) H1
theorem AA {X:Cx} {e:Expr} {ta:TA} {p pos tpos:Pos} {elts:List Expr} {kk:Nat} (hg:Gl X "enumerate") (hm:X.mg "enumerate"=none) (ha:PA X [e] ta) (hs:starEach [e] X.env=[(false,eval e X.env)]:=by rfl) :
   PI X (.Tuple elts kk tpos) (.Call (.Name "enumerate" p) [e] [] pos) (Rp X.K ta):=by
 intro pins s σ H R I h;refine Call_ (rZ I hg hm boot_enumerate (PyProof.Rows.callWith_type1 (cT (ha pos pins s σ H _ I h) fun us s1 ⟨vs,H1,I1,r1,q1⟩=>?_) hs rfl));obtain ⟨a,xs,ex,hq,q⟩:=q1;subst ex;cases r1 with
 | cons r rr=>
   cases rr;cases r;obtain ⟨its,rv,p',hz⟩:=I1.list hq;refine call_enumerate_list p'.isList fun h' he hit hsz hk=>wpAny_pyIter_enum he ?_;have I2:Inv X pins σ H1 { s1 with heap:=h' }:=I1.kept (t':=s1.toks) hk;refine ⟨s1.heap.objs.size+1,[s1.heap.objs.size+1,s1.heap.objs.size],_,_,H1,rfl,I2,Hf a (s1.heap.objs.size+1) s1.heap.objs.size,⟨⟨.none,he⟩,hit,Nat.succ_ne_self _⟩,fun b hb=>?_,q⟩
   have e':b=s1.heap.objs.size+1\/b=s1.heap.objs.size:=by simpa using hb
   have hle:s1.heap.objs.size<=b:=by
     rcases e' with z | z
     . rw [z];exact Nat.le_add_right _ _
     . rw [z];exact Nat.le_refl _
   exact I1.G5 hle (I1.hok.fresh hle)
end L2
section
namespace U3
open PySem PyProof.Rows
end U3
end
section
namespace TL
open PySem PySem.Builtin PySem.Builtin.Str PySem.StrLaws
end TL
end
namespace L2
open PySem PySem.Spec PyProof.Rows
section
variable {X:Cx} {pins:List (Addr×Obj)} {σ:St} {H:Hp} {s:Shared} {Q:VK}
end
section
variable {X:Cx}
end
section
variable {X:Cx} {o e:Expr} {to te:TE}
end
end L2
namespace L2
open PySem PySem.Spec PyProof.Rows
section
variable {X:Cx}
end
end L2
namespace Xs
open PySem PySem.W PySem.Calls PyProof.Rows
section
variable {prog:Program} {w:World} {A:Around} {E:Value->Shared->Prop} {s:Shared} {K:Frag}
end
end Xs
namespace L2
open PySem PySem.Spec PyProof.Rows
end L2
namespace L2
open PySem PySem.Spec PyProof.Rows
end L2
namespace L2
open PySem PySem.Spec PyProof.Rows
def inClass (s:Stmt) (j:Nat):Stmt:=match s with
 | .ClassDef _ _ _ body _ _ _ _ _ _ _=>body.getD j (.Pass ⟨0,0,0,0⟩)
 | _=>.Pass ⟨0,0,0,0⟩
def qV (s:Stmt):Arguments:=match s with
 | .FunctionDef _ a _ _ _ _ _ _ _ _=>a
 | _=>{ posonlyargs:=[],args:=[],vararg:=none,kwonlyargs:=[],kw_defaults:=[],kwarg:=none,defaults:=[] }
def lg (s:Stmt):List Stmt:=match s with
 | .FunctionDef _ _ b _ _ _ _ _ _ _=>b
 | _=>[]
def aF (s:Stmt):Scope:=match s with
 | .FunctionDef _ _ _ _ _ _ sc _ _ _=>sc
 | _=>{ kind:=.function,names:=[],isGenerator:=false,isCoroutine:=false }
abbrev mr:Ec:=fun _ _ _ _ _ _=>False
abbrev E0:XK:=fun _ _ _=>False
theorem cZ {X:Cx}:Passes mr X E0:=fun _ _ _ _ _ _ _ h=>h.elim
structure jD (K:Zqq) (x qual:Str) (st:Stmt) (f:Addr) (fd:FuncData):Prop where
 ex:∃ (oc:Value) (od:Option Addr) (kV doc pm:Value) (an:Option Addr) (cdv ct:Value) (osl:Array (Option Value)),
   fd=PySem.W.fnOf x qual (qV st) (lg st) (aF st) .none kV doc pm an cdv ct/\K.lookup f=some ⟨oc,od,.func fd,osl⟩/\PySem.W.codeIn K cdv qual=true
 kp:PySem.W.keepIn K (.ref f)=true
section
variable {P:Program} {w:World} {K:Zqq} {mg:Str->Option Value} {base:Heap}
theorem jD.ok {x qual:Str} {st:Stmt} {f:Addr} {fd:FuncData} {N ps:List Str} {k:Nat} {sp:Sp} (F:jD K x qual st f fd) (S:aM N ps (aF st)) (len:∀ vs H Q E,sp vs H Q E->vs.length=ps.length)
   (hbody:∀ (cdv:Value) (A:Around) (outer:List Env) (s:Shared) (H:Hp) (vs:List V) (Q:VK) (E:XK),cU k (A.deeper (envOfC qual (aF st) s.heap.objs.size f cdv))->sp vs H Q E->
     ∃ t,Ax (mX mr P w K mg base N qual (aF st) f cdv A outer s H E).Qs (lg st) t/\t { nx:=fun _ H'=>Q .non H',rt:=Q } (start N vs) H):bI P w K mg base mr (k+1) f fd ps sp:=by
 obtain ⟨oc,od,kV,doc,pm,an,cdv,ct,osl,rfl,lk,hcd⟩:=F.ex;refine N8 lk hcd S len fun A outer s H vs Q E hr Eu=>?_;obtain ⟨t,h,q⟩:=hbody cdv A outer s H vs Q E hr Eu;exact ⟨t,h.Qs,q⟩
theorem jD.binds {x qual:Str} {st:Stmt} {f:Addr} {fd:FuncData} {ps:List Str} (F:jD K x qual st f fd)
  (h:∀ (kV doc pm:Value) (an:Option Addr) (cdv ct:Value) (us:List Value),us.length=ps.length->bindArgs (PySem.W.fnOf x qual (qV st) (lg st) (aF st) .none kV doc pm an cdv ct) ⟨us,[]⟩=pure (ps.zip us)):Binds K fd ps []:=by
 obtain ⟨oc,od,kV,doc,pm,an,cdv,ct,osl,rfl,lk,hcd⟩:=F.ex;exact .all (h kV doc pm an cdv ct)
theorem OL {x qual:Str} {st:Stmt} {f:Addr} {oc:Value} {od an:Option Addr} {osl:Array (Option Value)} {kV doc pm cdv ct:Value} (l:K.lookup f=some ⟨oc,od,.func (PySem.W.fnOf x qual (qV st) (lg st) (aF st) .none kV doc pm an cdv ct),osl⟩)
   (c:PySem.W.codeIn K cdv qual=true) (k:PySem.W.keepIn K (.ref f)=true):jD K x qual st f (PySem.W.fnOf x qual (qV st) (lg st) (aF st) .none kV doc pm an cdv ct):=⟨⟨oc,od,kV,doc,pm,an,cdv,ct,osl,rfl,l,c⟩,k⟩
end
section
variable {X:Cx}
theorem pv (i:Nat) {x:Str} {pos:Pos} (hN:X.N[i]?=some x:=by rfl) (hv:Oe X.env.scope x:=by first | exact Or.inl rfl | exact Or.inr (Or.inl rfl) | exact Or.inr (Or.inr rfl)) (hd:(x==("__debug__":Str))=false:=by decide)
   (hcd:(x==("__classdict__":Str))=false:=by decide):PE X (.Name x pos) (Q8 i):=IF hN hv hd hcd
end
theorem vY {A B:Prop} (h:B):if false=true then A else B:=by
 rw [if_neg Bool.false_ne_true];exact h
theorem xT {A B:Prop} (h:A):if true=true then A else B:=by
 rw [if_pos rfl];exact h
theorem C3 {c A B:Prop} [Decidable c] (h1:c->A) (h2:¬ c->B):if c then A else B:=by
 by_cases h:c
 . rw [if_pos h]
   exact h1 h
 . rw [if_neg h]
   exact h2 h
def aR (H H':Hp):Prop:=∀ b o,H b=some o->H' b=some o
theorem aR.refl (H:Hp):aR H H:=fun _ _ h=>h
theorem aR.trans {H H1 H2:Hp} (a:aR H H1) (b:aR H1 H2):aR H H2:=fun c o h=>b c o (a c o h)
theorem aR.free {H H':Hp} (e:aR H H') {l:Addr} (h:H' l=Option.none):H l=Option.none:=by
 cases q:H l with
 | none=>rfl
 | some o=>
  rw [e l o q] at h;cases h
section
variable {κ:Type} [DecidableEq κ]
theorem LS {kvs:List (κ×V)} {k:κ} {v:V} (h:iL kvs k=some v):k ∈ kvs.map (·.1):=by
 have q:(kvs.any fun kv=>decide (kv.1=k))=true:=by
  rw [jQ,h]
  all_goals rfl
 obtain ⟨p,hp,e⟩:=List.any_eq_true.mp q;exact List.mem_map.mpr ⟨p,hp,of_decide_eq_true e⟩
theorem t9:∀ {l:List κ} {k:κ},l.Nodup->¬ k ∈ l->(l++[k]).Nodup
 | [],k,_,_=>by simp
 | a::r,k,h,hk=>by
   obtain ⟨h1,h2⟩:=List.nodup_cons.mp h
   show (a::(r++[k])).Nodup
   refine List.nodup_cons.mpr ⟨fun m=>?_,t9 h2 fun m=>hk (List.mem_cons.mpr (Or.inr m))⟩
   rcases List.mem_append.mp m with q | q
   . exact h1 q
   . exact hk (List.mem_cons.mpr (Or.inl (List.mem_singleton.mp q).symm))
end
theorem at_of {xs:List V} {z:Int} {j:Nat} {v:V} (e:z=(j:Int)) (h:xs[j]?=some v):Jk xs z=some v:=by
 rw [e];exact bT h
theorem Rq {α:Type} {l:List α} (hN:l.Nodup) {i j:Nat} {x:α} (a:l[i]?=some x) (b:l[j]?=some x):i=j:=by
 obtain ⟨h1,e1⟩:=List.getElem?_eq_some_iff.mp a;obtain ⟨h2,e2⟩:=List.getElem?_eq_some_iff.mp b;exact (List.getElem_inj hN).mp (e1.trans e2.symm)
end L2
section
namespace L2
open PySem PySem.Spec PyProof.Rows
open PySem.W (WData Codec OpenSpec Well WellAll ReadsW ReadsAllW)
mutual
inductive Dw (K:Zqq) (H:Hp):V->WData->Prop
 | non:Dw K H .non .none
 | bl (b:Bool):Dw K H (.bl b) (.bool b)
 | int (i:Int):Dw K H (.int i) (.int i)
 | str (x:Str):Dw K H (.str x) (.str x)
 | Cb (b:Array UInt8):Dw K H (.Cb b) (.bytes b.toList)
 | lst {a:Addr} {xs:List V} {ds:List WData}:c8 K H a xs->oE K H xs ds->Dw K H (.ref a) (.list ds)
 | tup {a:Addr} {xs:List V} {ds:List WData}:j0 K H a xs->oE K H xs ds->Dw K H (.ref a) (.tuple ds)
inductive oE (K:Zqq) (H:Hp):List V->List WData->Prop
 | nil:oE K H [] []
 | cons {v:V} {vs:List V} {d:WData} {ds:List WData}:Dw K H v d->oE K H vs ds->oE K H (v::vs) (d::ds)
end
theorem F9 {K:Zqq} {H:Hp}:∀ ns:List Int,oE K H (ns.map V.int) (ns.map WData.int)
 | []=>.nil
 | n::r=>.cons (.int n) (F9 r)
theorem AB {K:Zqq} {H:Hp}:∀ (ns:List Int) (xs:List V),oE K H xs (ns.map WData.int)->xs=ns.map V.int
 | [],xs,h=>by
  cases h
  rfl
 | n::r,xs,h=>by
  cases h with
  | cons h1 h2=>
   cases h1
   rw [AB r _ h2]<;>rfl
section
variable {P:Program} {w:World} {K:Zqq} {H:Hp} {h:Heap} {R:PySem.W.WRecords} {cl:Str->Option Addr}
theorem OM {a:Addr} {xs:List V} (hok:oB P w H h) (KX:K.In h) (q:c8 K H a xs):∃ (its:List Value) (o:Obj) (n:Nat),Vals xs its/\h.get? a=some o/\o.cls=.type "list"/\o.data=.seq its.toArray n:=by
 rcases q with q | ⟨o,its,n,e,hc,_,hd,_,hv⟩
 . obtain ⟨_,its,n,hv,e⟩:=(show bZ P w H h a (.lst xs) from q.ok hok)
   exact ⟨its,_,n,hv,e,rfl,rfl⟩
 . exact ⟨its.toList,o,n,hv,KX _ _ e,hc,by simp [hd]⟩
theorem ON {a:Addr} {xs:List V} (hok:oB P w H h) (KX:K.In h) (q:j0 K H a xs):∃ (its:List Value) (o:Obj) (n:Nat),Vals xs its/\h.get? a=some o/\o.cls=.type "tuple"/\o.data=.seq its.toArray n:=by
 rcases q with q | ⟨o,its,n,e,hc,hd,_,hv⟩
 . obtain ⟨_,its,hv,o,e,hc,n,hd⟩:=(show bZ P w H h a (.tup xs) from q.ok hok)
   exact ⟨its,o,n,hv,e,hc,hd⟩
 . exact ⟨its.toList,o,n,hv,KX _ _ e,hc,by simp [hd]⟩
mutual
theorem Dw.reads (hok:oB P w H h) (KX:K.In h):∀ (d:WData) (v:V) (u:Value),Dw K H v d->RelV v u->∃ as,ReadsW R cl h u d as
 | .none,_,_,x,r=>by
  cases x
  cases r
  exact ⟨_,ReadsW.none⟩
 | .bool b,_,_,x,r=>by
  cases x
  cases r
  exact ⟨_,ReadsW.bool b⟩
 | .int i,_,_,x,r=>by
  cases x
  obtain ⟨t,rfl⟩:=r
  exact ⟨_,ReadsW.int i t⟩
 | .str s,_,_,x,r=>by
  cases x
  obtain ⟨t,rfl⟩:=r
  exact ⟨_,ReadsW.str s t⟩
 | .bytes b,_,_,x,r=>by
  cases x
  obtain ⟨t,rfl⟩:=r
  exact ⟨_,ReadsW.bytes _ t⟩
 | .list ds,_,_,x,r=>by
  cases x with
  | lst hs ha=>
   cases r
   obtain ⟨its,o,n,rv,ho,hc,hd⟩:=OM hok KX hs
   obtain ⟨as,hr⟩:=Dw.readsAll hok KX ds _ its ha rv
   exact ⟨_,ReadsW.list ho hc hd hr⟩
 | .tuple ds,_,_,x,r=>by
  cases x with
  | tup hs ha=>
   cases r
   obtain ⟨its,o,n,rv,ho,hc,hd⟩:=ON hok KX hs
   obtain ⟨as,hr⟩:=Dw.readsAll hok KX ds _ its ha rv
   exact ⟨_,ReadsW.tuple ho hc hd hr⟩
 | .float _,_,_,x,_=>by cases x
 | .dict _,_,_,x,_=>by cases x
 | .bytearray _,_,_,x,_=>by cases x
 | .set _,_,_,x,_=>by cases x
 | .frozenset _,_,_,x,_=>by cases x
 | .obj _ _,_,_,x,_=>by cases x
theorem Dw.readsAll (hok:oB P w H h) (KX:K.In h):∀ (ds:List WData) (vs:List V) (us:List Value),oE K H vs ds->Vals vs us->∃ as,ReadsAllW R cl h us ds as
 | [],_,_,x,r=>by
  cases x
  cases r
  exact ⟨_,ReadsAllW.nil⟩
 | d::ds,_,_,x,r=>by
  cases x with
  | cons h1 h2=>
   cases r with
   | cons r1 r2=>
    obtain ⟨as,q1⟩:=Dw.reads hok KX d _ _ h1 r1
    obtain ⟨bs,q2⟩:=Dw.readsAll hok KX ds _ _ h2 r2
    exact ⟨_,ReadsAllW.cons q1 q2⟩
end
end
mutual
def FD:WData->Bool
 | .none=>true
 | .bool _=>true
 | .int _=>true
 | .str _=>true
 | .bytes _=>true
 | .list xs=>vZ xs
 | .tuple xs=>vZ xs
 | _=>false
def vZ:List WData->Bool
 | []=>true
 | x::r=>FD x&&vZ r
end
theorem C4 {α:Type} {f:α->WData} (h:∀ a,FD (f a)=true):∀ l:List α,vZ (l.map f)=true
 | []=>rfl
 | x::r=>by
  show (FD (f x)&&vZ (r.map f))=true
  rw [h x,C4 h r]<;>rfl
theorem pP:∀ (c:Codec) (a:c.denote),FD (c.enc a)=true
 | .unit,_=>rfl
 | .bool,_=>rfl
 | .int _ _,_=>rfl
 | .nat _ _,_=>rfl
 | .u8,_=>rfl
 | .bytes _ _,_=>rfl
 | .text _ _ _ _,_=>rfl
 | .list _ _ c,a=>C4 (fun x=>pP c x) a
 | .pair c d,a=>by
  show (FD (c.enc a.1)&&(FD (d.enc a.2)&&true))=true
  rw [pP c a.1,pP d a.2]<;>rfl
 | .triple c d e,a=>by
  show (FD (c.enc a.1)&&(FD (d.enc a.2.1)&&(FD (e.enc a.2.2)&&true)))=true
  rw [pP c a.1,pP d a.2.1,pP e a.2.2]<;>rfl
 | .option c,none=>rfl
 | .option c,some x=>pP c x
theorem zP:∀ (cs:List Codec) (a:Codec.denoteAll cs),vZ (Codec.encAll cs a)=true
 | [],_=>rfl
 | c::cs,a=>by
  show (FD (c.enc a.1)&&vZ (Codec.encAll cs a.2))=true
  rw [pP c a.1,zP cs a.2]<;>rfl
theorem sr:∀ {xs:List WData} {d:WData},d ∈ xs->d.weight<=WData.weightAll xs
 | [],d,h=>absurd h (by simp)
 | x::r,d,h=>by
   show d.weight<=x.weight+1+WData.weightAll r
   rcases List.mem_cons.mp h with e | m
   . rw [e]
     omega
   . have z:=sr m
     omega
def toV:Value->V
 | .none=>.non
 | .bool b=>.bl b
 | .int i _=>.int i
 | .str x _=>.str x
 | .bytes b _=>.Cb b
 | .ref a=>.ref a
 | _=>.non
def Hg (A:List Addr):Value->Prop
 | .none=>True
 | .bool _=>True
 | .int _ _=>True
 | .str _ _=>True
 | .bytes _ _=>True
 | .ref a=>a ∈ A
 | _=>False
theorem Hg.mono {A B:List Addr} (h:∀ a ∈ A,a ∈ B):∀ {u:Value},Hg A u->Hg B u:=fun {u} x=>by
 cases u with
 | ref a=>exact h a x
 | none=>trivial
 | bool b=>trivial
 | int i t=>trivial
 | str s t=>trivial
 | bytes b t=>trivial
 | _=>exact False.elim x
theorem Jx {A:List Addr} {u:Value} (x:Hg A u):RelV (toV u) u:=by
 cases u with
 | ref a=>rfl
 | none=>rfl
 | bool b=>rfl
 | int i t=>exact ⟨t,rfl⟩
 | str s t=>exact ⟨t,rfl⟩
 | bytes b t=>exact ⟨t,rfl⟩
 | _=>exact False.elim x
theorem ng {A:List Addr}:∀ {vs:List Value},(∀ u ∈ vs,Hg A u)->Vals (vs.map toV) vs
 | [],_=>.nil
 | u::r,h=>.cons (Jx (h u (List.mem_cons_self ..))) (ng fun x hx=>h x (List.mem_cons_of_mem _ hx))
def oF (h:Heap) (A:List Addr) (a:Addr):Prop:=∃ vs:List Value,vs.length<=sizeLine/\(∀ u ∈ vs,Hg A u) /\
 (h.get? a=some { cls:=.type "list",data:=.seq vs.toArray }\/h.get? a=some { cls:=.type "tuple",data:=.seq vs.toArray })
theorem oF.mono {h:Heap} {A B:List Addr} {a:Addr} (k:∀ a ∈ A,a ∈ B) (x:oF h A a):oF h B a:=by
 obtain ⟨vs,h1,h2,h3⟩:=x;exact ⟨vs,h1,fun u hu=>(h2 u hu).mono k,h3⟩
theorem mz {P:Params} {h:Heap}:∀ {vs:List Value} {ds:List WData},WellAll P h vs ds->vs.length=ds.length
 | _,_,.nil=>rfl
 | _,_,.cons _ b=>by
  show _+1=_+1
  rw [mz b]
theorem zQ {P:Params} {h:Heap} {v:Value} {ds:List WData} (x:Well P h v (.list ds)):∃ (a:Addr) (vs:List Value),v=.ref a/\h.get? a=some { cls:=.type "list",data:=.seq vs.toArray }/\WellAll P h vs ds:=by
 cases x with
 | list ho hall=>exact ⟨_,_,rfl,ho,hall⟩
theorem xU {P:Params} {h:Heap} {v:Value} {ds:List WData} (x:Well P h v (.tuple ds)):∃ (a:Addr) (vs:List Value),v=.ref a/\h.get? a=some { cls:=.type "tuple",data:=.seq vs.toArray }/\WellAll P h vs ds:=by
 cases x with
 | tuple ho hall=>exact ⟨_,_,rfl,ho,hall⟩
theorem zR {P:Params} {h:Heap} {us:List Value} {d:WData} {ds:List WData} (x:WellAll P h us (d::ds)):∃ (v:Value) (vs:List Value),us=v::vs/\Well P h v d/\WellAll P h vs ds:=by
 cases x with
 | cons a b=>exact ⟨_,_,rfl,a,b⟩
theorem FE {n:Nat} (h:n<=1048576):n<=sizeLine:=Nat.le_trans h (by decide)
section
variable {P:Params} {h:Heap}
mutual
theorem Jy:∀ (d:WData) (v:Value),Well P h v d->FD d=true->d.weight<=1048576->∃ A:List Addr,Hg A v/\∀ a ∈ A,oF h A a
 | .none,_,x,_,_=>by
   cases x
   exact ⟨[],trivial,fun a m=>absurd m (by simp)⟩
 | .bool b,_,x,_,_=>by
   cases x
   exact ⟨[],trivial,fun a m=>absurd m (by simp)⟩
 | .int i,_,x,_,_=>by
   cases x
   exact ⟨[],trivial,fun a m=>absurd m (by simp)⟩
 | .str s,_,x,_,_=>by
   cases x
   exact ⟨[],trivial,fun a m=>absurd m (by simp)⟩
 | .bytes b,_,x,_,_=>by
   cases x
   exact ⟨[],trivial,fun a m=>absurd m (by simp)⟩
 | .list ds,_,x,p,z=>by
   obtain ⟨a,vs,rfl,ho,hall⟩:=zQ x
   have z2:WData.weightAll ds<=1048576:=z
   obtain ⟨A,h1,h2⟩:=tD ds _ hall p fun d hd=>Nat.le_trans (sr hd) z2
   have k:∀ b ∈ A,b ∈ a::A:=fun b hb=>List.mem_cons_of_mem _ hb
   refine ⟨a::A,List.mem_cons_self ..,fun b hb=>?_⟩
   rcases List.mem_cons.mp hb with e | m
   . rw [e]
     exact ⟨vs,FE (by rw [mz hall];exact Nat.le_trans (PySem.W.length_le_weightAllW ds) z2),fun u hu=>(h1 u hu).mono k,.inl ho⟩
   . exact (h2 b m).mono k
 | .tuple ds,_,x,p,z=>by
   obtain ⟨a,vs,rfl,ho,hall⟩:=xU x
   have z2:WData.weightAll ds<=1048576:=z
   obtain ⟨A,h1,h2⟩:=tD ds _ hall p fun d hd=>Nat.le_trans (sr hd) z2
   have k:∀ b ∈ A,b ∈ a::A:=fun b hb=>List.mem_cons_of_mem _ hb
   refine ⟨a::A,List.mem_cons_self ..,fun b hb=>?_⟩
   rcases List.mem_cons.mp hb with e | m
   . rw [e]
     exact ⟨vs,FE (by rw [mz hall];exact Nat.le_trans (PySem.W.length_le_weightAllW ds) z2),fun u hu=>(h1 u hu).mono k,.inr ho⟩
   . exact (h2 b m).mono k
 | .float _,_,_,p,_=>Bool.noConfusion (show false=true from p)
 | .dict _,_,_,p,_=>Bool.noConfusion (show false=true from p)
 | .bytearray _,_,_,p,_=>Bool.noConfusion (show false=true from p)
 | .set _,_,_,p,_=>Bool.noConfusion (show false=true from p)
 | .frozenset _,_,_,p,_=>Bool.noConfusion (show false=true from p)
 | .obj _ _,_,_,p,_=>Bool.noConfusion (show false=true from p)
theorem tD:∀ (ds:List WData) (vs:List Value),WellAll P h vs ds->vZ ds=true->(∀ d ∈ ds,d.weight<=1048576)->∃ A:List Addr,(∀ u ∈ vs,Hg A u)/\∀ a ∈ A,oF h A a
 | [],_,x,_,_=>by
   cases x
   exact ⟨[],fun u m=>absurd m (by simp),fun a m=>absurd m (by simp)⟩
 | d::ds,_,x,p,z=>by
   obtain ⟨v,vs,rfl,x1,x2⟩:=zR x
   have q:FD d=true/\vZ ds=true:=Bool.and_eq_true_iff.mp p
   obtain ⟨A,a1,a2⟩:=Jy d v x1 q.1 (z d (List.mem_cons_self ..))
   obtain ⟨B,b1,b2⟩:=tD ds vs x2 q.2 fun e he=>z e (List.mem_cons_of_mem _ he)
   have kA:∀ b ∈ A,b ∈ A++B:=fun b hb=>List.mem_append.mpr (.inl hb)
   have kB:∀ b ∈ B,b ∈ A++B:=fun b hb=>List.mem_append.mpr (.inr hb)
   refine ⟨A++B,fun u hu=>?_,fun b hb=>?_⟩
   . rcases List.mem_cons.mp hu with e | m
     . rw [e]
       exact a1.mono kA
     . exact (b1 u m).mono kB
   . rcases List.mem_append.mp hb with m | m
     . exact (a2 b m).mono kA
     . exact (b2 b m).mono kB
end
end
def LU (o:Obj):Option HO:=match o.data with
 | .seq vs _=>if (o.cls==Value.type "list")=true then some (.jB o (.lst (vs.toList.map toV))) else some (.jB o (.tup (vs.toList.map toV)))
 | _=>none
def nN (K:Zqq) (h:Heap) (A:List Addr):Hp:=fun b=>if b ∈ A then (if (K.lookup b).isNone=true then (h.get? b).bind LU else none) else none
def zS (H:Hp):Prop:=∀ b,H b=none\/∃ o u,H b=some (.jB o u)
theorem C5 (vs:List Value):LU { cls:=.type "list",data:=.seq vs.toArray }=some (.jB { cls:=.type "list",data:=.seq vs.toArray } (.lst (vs.map toV))):=by
 show (if (Value.type "list"==Value.type "list")=true then some (HO.jB { cls:=.type "list",data:=.seq vs.toArray } (.lst (vs.toArray.toList.map toV))) else some (HO.jB { cls:=.type "list",data:=.seq vs.toArray } (.tup (vs.toArray.toList.map toV))))=_;rw [if_pos (beq_self_eq_true _)]
theorem C6 (vs:List Value):LU { cls:=.type "tuple",data:=.seq vs.toArray }=some (.jB { cls:=.type "tuple",data:=.seq vs.toArray } (.tup (vs.map toV))):=by
 show (if (Value.type "tuple"==Value.type "list")=true then some (HO.jB { cls:=.type "tuple",data:=.seq vs.toArray } (.lst (vs.toArray.toList.map toV))) else some (HO.jB { cls:=.type "tuple",data:=.seq vs.toArray } (.tup (vs.toArray.toList.map toV))))=_;rw [if_neg (by decide)]
section
variable {P:Program} {w:World} {K:Zqq} {h:Heap} {A:List Addr}
theorem wZ {b:Addr} {o:Obj} (hb:b ∈ A) (hk:K.lookup b=none) (e:h.get? b=some o):nN K h A b=LU o:=by
 unfold nN;rw [if_pos hb,hk,if_pos (show (none:Option Obj).isNone=true from rfl),e]<;>rfl
theorem LV {b:Addr} {u:HO} (q:nN K h A b=some u):b ∈ A/\K.lookup b=none:=by
 unfold nN at q;by_cases hb:b ∈ A
 . rw [if_pos hb] at q
   cases hk:K.lookup b with
   | none=>exact ⟨hb,rfl⟩
   | some o=>
     rw [hk,if_neg (by simp)] at q;cases q
 . rw [if_neg hb] at q
   cases q
theorem xf (ar:∀ a ∈ A,oF h A a) {b:Addr} {u:HO} (q:nN K h A b=some u):K.lookup b=none/\∃ vs:List Value,vs.length<=sizeLine/\(∀ u ∈ vs,Hg A u) /\
   ((h.get? b=some { cls:=.type "list",data:=.seq vs.toArray }/\u=.jB { cls:=.type "list",data:=.seq vs.toArray } (.lst (vs.map toV))) \/
    (h.get? b=some { cls:=.type "tuple",data:=.seq vs.toArray }/\u=.jB { cls:=.type "tuple",data:=.seq vs.toArray } (.tup (vs.map toV)))):=by
 obtain ⟨hb,hk⟩:=LV q;obtain ⟨vs,h1,h2,h3⟩:=ar b hb;refine ⟨hk,vs,h1,h2,?_⟩;rcases h3 with e | e
 . rw [wZ hb hk e,C5] at q
   exact .inl ⟨e,(Option.some.inj q).symm⟩
 . rw [wZ hb hk e,C6] at q
   exact .inr ⟨e,(Option.some.inj q).symm⟩
theorem Hh (ar:∀ a ∈ A,oF h A a):zS (nN K h A):=fun b=>by
 cases q:nN K h A b with
 | none=>exact .inl rfl
 | some u=>
   obtain ⟨_,vs,_,_,⟨_,e⟩ | ⟨_,e⟩⟩:=xf ar q
   . exact .inr ⟨_,_,by rw [e]⟩
   . exact .inr ⟨_,_,by rw [e]⟩
theorem LW (ar:∀ a ∈ A,oF h A a):oB P w (nN K h A) h:=fun b u q=>by
 obtain ⟨_,vs,h1,h2,⟨e,rfl⟩ | ⟨e,rfl⟩⟩:=xf ar q
 . exact ⟨e,by rw [List.length_map];exact h1,vs,_,ng h2,e⟩
 . exact ⟨e,by rw [List.length_map];exact h1,vs,ng h2,_,e,rfl,_,rfl⟩
theorem xg {c c':Value} {vs us:List Value} (e:(some { cls:=c,data:=.seq vs.toArray }:Option Obj)=some { cls:=c',data:=.seq us.toArray }):c=c'/\vs=us:=by
 have e1:=Option.some.inj e;have e2:c=c':=congrArg Obj.cls e1;have e3:Data.seq vs.toArray=Data.seq us.toArray:=congrArg Obj.data e1;injection e3 with e4;refine ⟨e2,?_⟩;have e5:=congrArg Array.toList e4;simpa using e5
theorem U4 (KX:K.In h) (ar:∀ a ∈ A,oF h A a) {a:Addr} {vs:List Value} (ha:a ∈ A) (e:h.get? a=some { cls:=.type "list",data:=.seq vs.toArray }):(∀ u ∈ vs,Hg A u)/\c8 K (nN K h A) a (vs.map toV):=by
 obtain ⟨us,h1,h2,h3⟩:=ar a ha;have hu:us=vs:=by
   rcases h3 with q | q
   . rw [e] at q
     exact (xg q).2.symm
   . rw [e] at q
     exact absurd (Value.type.inj (xg q).1) (by decide)
 subst hu;refine ⟨h2,?_⟩;cases hk:K.lookup a with
 | none=>exact .inl (.inr ⟨_,by rw [wZ ha hk e,C5]⟩)
 | some o=>
   have e2:=KX a o hk;rw [e] at e2;obtain rfl:=Option.some.inj e2;exact .inr ⟨_,us.toArray,_,hk,rfl,rfl,rfl,by rw [List.size_toArray];exact h1,by simpa using ng h2⟩
theorem U5 (KX:K.In h) (ar:∀ a ∈ A,oF h A a) {a:Addr} {vs:List Value} (ha:a ∈ A) (e:h.get? a=some { cls:=.type "tuple",data:=.seq vs.toArray }):(∀ u ∈ vs,Hg A u)/\j0 K (nN K h A) a (vs.map toV):=by
 obtain ⟨us,h1,h2,h3⟩:=ar a ha;have hu:us=vs:=by
   rcases h3 with q | q
   . rw [e] at q
     exact absurd (Value.type.inj (xg q).1) (by decide)
   . rw [e] at q
     exact (xg q).2.symm
 subst hu;refine ⟨h2,?_⟩;cases hk:K.lookup a with
 | none=>exact .inl (.inr ⟨_,by rw [wZ ha hk e,C6]⟩)
 | some o=>
   have e2:=KX a o hk;rw [e] at e2;obtain rfl:=Option.some.inj e2;exact .inr ⟨_,us.toArray,_,hk,rfl,rfl,by rw [List.size_toArray];exact h1,by simpa using ng h2⟩
mutual
theorem OO {Pm:Params} (KX:K.In h) (ar:∀ a ∈ A,oF h A a):∀ (d:WData) (v:Value),Well Pm h v d->FD d=true->Hg A v->Dw K (nN K h A) (toV v) d
 | .none,_,x,_,_=>by
  cases x
  exact .non
 | .bool b,_,x,_,_=>by
  cases x
  exact .bl b
 | .int i,_,x,_,_=>by
  cases x
  exact .int i
 | .str s,_,x,_,_=>by
  cases x
  exact .str s
 | .bytes b,_,x,_,_=>by
  cases x
  have z:=Dw.Cb (K:=K) (H:=nN K h A) b.toArray
  exact z
 | .list ds,_,x,p,hu=>by
  obtain ⟨a,vs,rfl,ho,hall⟩:=zQ x
  obtain ⟨h2,hs⟩:=U4 KX ar hu ho
  exact .lst hs (AD KX ar ds _ hall p h2)
 | .tuple ds,_,x,p,hu=>by
  obtain ⟨a,vs,rfl,ho,hall⟩:=xU x
  obtain ⟨h2,hs⟩:=U5 KX ar hu ho
  exact .tup hs (AD KX ar ds _ hall p h2)
 | .float _,_,_,p,_=>Bool.noConfusion (show false=true from p)
 | .dict _,_,_,p,_=>Bool.noConfusion (show false=true from p)
 | .bytearray _,_,_,p,_=>Bool.noConfusion (show false=true from p)
 | .set _,_,_,p,_=>Bool.noConfusion (show false=true from p)
 | .frozenset _,_,_,p,_=>Bool.noConfusion (show false=true from p)
 | .obj _ _,_,_,p,_=>Bool.noConfusion (show false=true from p)
theorem AD {Pm:Params} (KX:K.In h) (ar:∀ a ∈ A,oF h A a):∀ (ds:List WData) (vs:List Value),WellAll Pm h vs ds->vZ ds=true->(∀ u ∈ vs,Hg A u)->oE K (nN K h A) (vs.map toV) ds
 | [],_,x,_,_=>by
  cases x
  exact .nil
 | d::ds,_,x,p,hu=>by
  obtain ⟨v,vs,rfl,x1,x2⟩:=zR x
  have q:FD d=true/\vZ ds=true:=Bool.and_eq_true_iff.mp p
  exact .cons (OO KX ar d v x1 q.1 (hu _ (List.mem_cons_self ..))) (AD KX ar ds vs x2 q.2 fun u m=>hu u (List.mem_cons_of_mem _ m))
end
end
theorem Hi {P:Program} {w:World} {K:Zqq} {mg mb:Str->Option Value} {CX:Ec} {k:Nat} {fa:Addr} {fd:FuncData} {ps:List Str} {sp:Sp} {s₁:Shared} {vals:List Value} {ds:List WData} {R:PySem.W.WRecords} {cl:Str->Option Addr} {d0:WData}
   (KX:K.In s₁.heap) (hns:s₁.heap.Ns mainGlobals mg) (hb:s₁.heap.Ns builtinsNs mb) (Xu:∀ x:Str,x ≠ "__name__"->mb x=bootBuiltins x) (hlim:s₁.heap.NoLimit) (hg:s₁.gens=#[])
   (hwl:WellAll w.params s₁.heap vals ds) (hpl:vZ ds=true) (Xv:∀ d ∈ ds,d.weight<=1048576) (hr:cU k callerA)
   (F:∀ base:Heap,K.In base->base.Ns mainGlobals mg->bI P w K mg base CX k fa fd ps sp) (hbind:∀ (s:Shared) (us:List Value),us.length=ps.length->BindsTo s fd ⟨us,[]⟩ (ps.zip us)) (hlen:ds.length=ps.length)
   (Eu:∀ (H:Hp) (xs:List V),zS H->oE K H xs ds->sp xs H (fun v H'=>Dw K H' v d0) fun _ _ _=>False)
   (Rr:∀ H e s',CX [] H s₁ (fun _ _ _=>False) e s'->False) :
   codeAny (model P w) callerA (.call (.ref fa) ⟨vals,[]⟩) (fun r s'=>∃ u as,r=.ok (.ret u)/\ReadsW R cl s'.heap u d0 as/\OldK s₁.heap s'.heap/\s'.os=s₁.os/\AllBare s'.gens) s₁:=by
 obtain ⟨A,ho,ar⟩:=tD ds vals hwl hpl Xv;have hO:zS (nN K s₁.heap A):=Hh ar;have hok:oB P w (nN K s₁.heap A) s₁.heap:=LW ar;have hS:=AD KX ar ds vals hwl hpl ho;have hV:=ng ho;have hK:∀ b u,nN K s₁.heap A b=some u->K.lookup b=none:=fun b u q=>(xf ar q).1;have Qw:∀ {b:Addr} {o:Obj} {es:Array DictEntry} {ep:Nat},s₁.heap.get? b=some o->o.data=.dict es ep->nN K s₁.heap A b=none:=fun {b o es ep} e d=>by
   cases q:nN K s₁.heap A b with
   | none=>rfl
   | some u=>
     obtain ⟨_,vs,_,_,⟨e2,_⟩ | ⟨e2,_⟩⟩:=xf ar q
     . rw [e2] at e
       cases e;have d':Data.seq vs.toArray _=Data.dict es ep:=d;cases d'
     . rw [e2] at e
       cases e;have d':Data.seq vs.toArray _=Data.dict es ep:=d;cases d'
 generalize nN K s₁.heap A=H at hO hok hS hK Qw;have FF:∀ {b:Addr} {o:Obj},s₁.heap.get? b=some o->H b=none->(Av s₁.heap H).get? b=some o:=fun e n=>ID e n;have Te:∀ {b:Addr} {m:Str->Option Value},s₁.heap.Ns b m->(Av s₁.heap H).Ns b m:=fun {b m} ⟨o,es,ep,e,d,r⟩=>⟨o,es,ep,FF e (Qw e d),d,r⟩;have nK:∀ b o,K.lookup b=some o->H b=none:=fun b o e=>by
   cases q:H b with
   | none=>rfl
   | some u=>
     rw [hK b u q] at e;cases e
 have VJ:K.In (Av s₁.heap H):=fun b o e=>FF (KX b o e) (nK b o e);have hM:Mod K mg (Av s₁.heap H):=⟨VJ,Te hns,⟨mb,Te hb,Xu⟩,let ⟨mc,h1,h2⟩:=hlim;⟨mc,Te h1,h2⟩⟩;have e0:A3 P w K mg (Av s₁.heap H) callerA [] s₁ H:=⟨rfl,hM,fun b o e=>Lw e,Nat.le_of_eq (G0 _ _),trivial,fun b hb=>absurd (show b ∈ ([]:List Addr) from hb) (by simp),hok,.of_eq hg⟩;have hl:vals.length=ps.length:=by rw [mz hwl];exact hlen
 refine codeAny_mono ((F _ VJ (Te hns)).run callerA [] s₁ H ⟨vals,[]⟩ vals (vals.map toV) _ _ hr e0 (hbind s₁ vals hl) hV (Eu H _ hO hS)) fun r s' x=>?_;cases r with
 | error e=>exact (Rr H e s' x).elim
 | ok fl=>
   cases fl with
   | next=>exact False.elim x
   | brk=>exact False.elim x
   | cont=>exact False.elim x
   | ret u=>
     obtain ⟨v,H',os,bare,un,hok',r',q⟩:=x;have kept:∀ b o,s₁.heap.get? b=some o->s'.heap.get? b=some o:=fun b o e=>by
       cases q2:H b with
       | none=>exact un.keep b o e q2 (by intro z;exact absurd (show b ∈ ([]:List Addr) from z) (by simp)) (by simp)
       | some u2=>
         rcases hO b with z | ⟨ob,u3,z⟩
         . rw [q2] at z
           cases z
         . have z2:=un.rX b ob _ z
           obtain ⟨e1,_⟩:=hok b _ z;obtain ⟨e2,_⟩:=hok' b _ z2;rw [e] at e1;cases e1;exact e2
     have Xw:K.In s'.heap:=fun b o e=>kept b o (KX b o e);obtain ⟨as,hrd⟩:=Dw.reads (R:=R) (cl:=cl) hok' Xw d0 v u q r';exact ⟨u,as,rfl,hrd,OldK.of_keep kept,os,bare⟩
theorem xV {ds:List WData} (h:WData.layableAll ds=true):∀ d ∈ ds,d.weight<=1048576:=fun d hd=>
 (PySem.W.layableW_iff.mp (List.all_eq_true.mp h d hd)).2.2
theorem xW:∀ (cs:List Codec) (a:Codec.denoteAll cs),(Codec.encAll cs a).length=cs.length
 | [],_=>rfl
 | c::cs,a=>by
  show (Codec.encAll cs a.2).length+1=cs.length+1
  rw [xW cs a.2]
theorem Hj {r:OpenSpec} {k:Nat} {q:Program} {loose:List Str} {XP:(Str->Option Value)->Heap->Prop} {YP:World->Heap->Prop} {d:DefRec} {K:Params->Zqq} {CX:World->Ec} {ps:List Str} {sp:World->Sp}
   (Jz:r.wellSaid=true) (hdf:d.params.defaults=[]) (hlen:r.args.length=ps.length) (hr:cU k callerA)
   (hY:∀ (w:World) (h:Heap),YP w h->(K w.params).In h)
   (F:∀ (w:World) (mg:Str->Option Value) (fa:Addr) (h:Heap),YP w h->(K w.params).In h->h.Ns mainGlobals mg->mg d.name=some (.ref fa)->
     ∃ fd:FuncData,(∀ (s:Shared) (us:List Value),us.length=ps.length->BindsTo s fd ⟨us,[]⟩ (ps.zip us)) /\
       ∀ base:Heap,(K w.params).In base->base.Ns mainGlobals mg->bI r.prog w (K w.params) mg base (CX w) k fa fd ps (sp w))
   (Eu:∀ (w:World) (H:Hp) (xs:List V) (a:Codec.denoteAll r.args),zS H->Codec.withinAll r.args a=true->Codec.app r.args r.asked a=true->oE (K w.params) H xs (Codec.encAll r.args a)->
     sp w xs H (fun v H'=>Dw (K w.params) H' v (r.ret.enc (Codec.app r.args r.f a))) fun _ _ _=>False)
   (Rr:∀ (w:World) (H:Hp) (s:Shared) (e:Value) (s':Shared),CX w [] H s (fun _ _ _=>False) e s'->False) :
   PySem.W.WalkOS q loose XP YP r d [] (fun f vs=>PySem.call f vs):=by
 intro w u9 s₁ mg mb G Y fa o pm cd doc dV kV ho hd hcd hD hmg hg args vals as hpre hlay hrd hwl hlo;obtain ⟨a,e1,e2⟩:=PySem.W.os_pre_some hpre;obtain ⟨e3,hwi⟩:=Codec.encAll_of_decAll r.args args a e1;subst e3;have KX:=hY w _ Y;obtain ⟨fd,hb,hF⟩:=F w mg fa _ Y KX G.T.g hmg;refine PySem.W.enter_call (codeAny_mono (Hi (R:=[]) (cl:=classAt u9.heap) (d0:=r.ret.enc (Codec.app r.args r.f a)) KX G.T.g G.T.b G.T.builtins G.T.nolimit hg hwl (zP _ _) (xV hlay) hr hF hb (by rw [xW];exact hlen)
   (fun H xs hO hS=>Eu w H xs a hO hwi e2 hS) fun H e s'=>Rr w H s₁ e s') fun r' s' hq=>?_)
 obtain ⟨u,as',rfl,h1,h2,h3,h4⟩:=hq;exact ⟨.inl ⟨u,_,as',rfl,fun _=>rfl,h1,(OpenSpec.post_iff Jz hwi _ _).mpr rfl,fun z=>Bool.noConfusion (show false=true from z)⟩,h2,h3,h4⟩
theorem E8 {r:OpenSpec} {k:Nat} {q:Program} {loose:List Str} {XP:(Str->Option Value)->Heap->Prop} {YP:World->Heap->Prop} {d:DefRec} {K:Params->Zqq} {CX:Ec} {ps:List Str} {sp:Zqq->Sp}
   (Jz:r.wellSaid=true) (hdf:d.params.defaults=[]) (hlen:r.args.length=ps.length) (hr:cU k callerA)
   (hY:∀ (w:World) (h:Heap),YP w h->(K w.params).In h)
   (F:∀ (w:World) (mg:Str->Option Value) (fa:Addr) (h:Heap),YP w h->(K w.params).In h->h.Ns mainGlobals mg->mg d.name=some (.ref fa)->
     ∃ fd:FuncData,(∀ (s:Shared) (us:List Value),us.length=ps.length->BindsTo s fd ⟨us,[]⟩ (ps.zip us)) /\
       ∀ base:Heap,(K w.params).In base->base.Ns mainGlobals mg->bI r.prog w (K w.params) mg base CX k fa fd ps (sp (K w.params)))
   (Eu:∀ (K:Zqq) (H:Hp) (xs:List V) (a:Codec.denoteAll r.args),zS H->Codec.withinAll r.args a=true->Codec.app r.args r.asked a=true->oE K H xs (Codec.encAll r.args a)->
     sp K xs H (fun v H'=>Dw K H' v (r.ret.enc (Codec.app r.args r.f a))) fun _ _ _=>False)
   (Rr:∀ (H:Hp) (s:Shared) (e:Value) (s':Shared),CX [] H s (fun _ _ _=>False) e s'->False) :
   PySem.W.WalkOS q loose XP YP r d [] (fun f vs=>PySem.call f vs):=
 Hj (K:=K) (CX:=fun _=>CX) (sp:=fun w=>sp (K w.params)) Jz hdf hlen hr hY F (fun w H xs a h1 h2 h3 h4=>Eu (K w.params) H xs a h1 h2 h3 h4) fun _ H s e s'=>Rr H s e s'
end L2
end
namespace XL
open PySem
def Ed (h:Heap) (e:Addr) (cls:Value) (dx:Option Addr) (t:Option (Addr×Value)):Prop:=
 ∃ oe vs,h.get? e=some oe/\oe.cls=cls/\oe.dict=dx/\oe.data=.fields vs /\
   match t with
   | none=>vs[1]?=some .none
   | some (T,fl)=>vs[1]?=some (.ref T)/\T ≠ e/\∃ oT ts,h.get? T=some oT/\oT.data=.fields ts/\ts[3]?=some fl
def heads (e:Addr) (t:Option (Addr×Value)):List Addr:=match t with
 | none=>[e]
 | some (T,_)=>[e,T]
theorem Hl {e:Addr} {t:Option (Addr×Value)}:e ∈ heads e t:=by cases t<;>simp [heads]
theorem xX (o:Obj) (f:Array Value->Array Value):(o.mapFields f).dict=o.dict:=by
 obtain ⟨c,d,dt,sl⟩:=o;cases dt<;>rfl
theorem Ed.rec {h:Heap} {e:Addr} {cls:Value} {dx:Option Addr} {t:Option (Addr×Value)} (x:Ed h e cls dx t):∀ b ∈ heads e t,∃ o ws,h.get? b=some o/\o.data=.fields ws:=by
 obtain ⟨oe,vs,he,_,_,hd,r⟩:=x;intro b hb;cases t with
 | none=>rw [show b=e by simpa [heads] using hb];exact ⟨oe,vs,he,hd⟩
 | some p=>
   obtain ⟨_,_,oT,ts,hT,I0,_⟩:=r;rcases (show b=e\/b=p.1 by simpa [heads] using hb) with q | q
   . rw [q];exact ⟨oe,vs,he,hd⟩
   . rw [q];exact ⟨oT,ts,hT,I0⟩
structure FG (fr ch:List Addr) (h h':Heap):Prop where
 keep:∀ b o,b ∉ fr->b ∉ ch->h.get? b=some o->h'.get? b=some o
 slot:∀ b o,b ∈ fr->h.get? b=some o->∃ sl,h'.get? b=some { o with slots:=sl }
 there:∀ b o,h.get? b=some o->∃ o',h'.get? b=some o'
 size:h.objs.size<=h'.objs.size
theorem FG.refl {fr ch:List Addr} {h:Heap}:FG fr ch h h:=⟨fun _ _ _ _ e=>e,fun _ o _ e=>⟨o.slots,e⟩,fun _ o e=>⟨o,e⟩,Nat.le_refl _⟩
theorem jE {h:Heap} {a b:Addr} (f:Obj->Obj) (n:b ≠ a):(h.update a f).get? b=h.get? b:=Heap.get?_update_other _ _ fun q=>n q.symm
theorem xY {h:Heap} {a:Addr} {o:Obj} {ws:Array Value} (ho:h.get? a=some o) (hw:o.data=.fields ws) (i:Nat) (v:Value) :
   (h.update a (Obj.mapFields (·.setIfInBounds i v))).get? a=some (o.mapFields (·.setIfInBounds i v)):=Heap.get?_update_self _ ho (Obj.isFreed_of_fields (Obj.data_mapFields hw _))
theorem J0 {h:Heap} {e:Addr} {oe ob:Obj} {vs ts:Array Value} {fl:Value} (he:h.get? e=some oe) (hd:oe.data=.fields vs) (n1:1 < vs.size) (hb:ob.data=.fields ts) (h3:ts[3]?=some fl) :
   Ed ((h.push ob).update e (Obj.mapFields (·.setIfInBounds 1 (.ref h.objs.size)))) e oe.cls oe.dict (some (h.objs.size,fl)) /\
     (∀ b o,b ≠ e->h.get? b=some o->((h.push ob).update e (Obj.mapFields (·.setIfInBounds 1 (.ref h.objs.size)))).get? b=some o):=by
 have up:∀ b o,h.get? b=some o->(h.push ob).get? b=some o:=fun b o q=>Heap.get?_push_of_some ob q;have ne:h.objs.size ≠ e:=Nat.ne_of_gt (Heap.lt_size he);have nf:ob.isFreed=false:=Obj.isFreed_of_fields hb;refine ⟨⟨_,_,xY (up e oe he) hd 1 _,Obj.cls_mapFields _ _,xX _ _,Obj.data_mapFields hd _,by simp [n1],ne,ob,ts,?_,hb,h3⟩,fun b o q z=>?_⟩
 . rw [jE _ ne]
   exact Heap.get?_push_size h nf
 . rw [jE _ q]
   exact up b o z
section
variable {M:Model} {A:Around} {E:Value->Shared->Prop} {s:Shared}
theorem entry_at {base:Heap} {env:Env} {outer:List Env} {L e:Addr} {oe:Obj} {vs:Array Value} {head:Value} {more:Bool} {Q:Unit->Shared->Prop}
   (fr:A.frames=some (env::outer)) (ff:s.heap.FunFrames base (env::outer)) (lf:env.frame=some L) (he:s.heap.get? e=some oe) (hd:oe.data=.fields vs) (n1:1 < vs.size)
   (k:∀ h' T,Ed h' e oe.cls oe.dict (some (T,rawInt L))->s.heap.objs.size<=T->FG ((env::outer).filterMap (·.frame)) [e] s.heap h'->Q () { s with heap:=h' }) :
   wpAny M A (do let a <- frameOf env;let pl <- entryPlaceOf L more;let b <- EntryCells.newEntry head a .none (rawInt L) .none pl;setField (.ref e) 1 b) Q E s:=by
 have ef:e ∉ (env::outer).filterMap (·.frame):=fun m=>let ⟨_,o,ho,no⟩:=ff.mem m;no vs (by rw [he] at ho;cases ho;exact hd);refine wpAny_bind (wpAny_frameOf_fun fr ff lf fun g sg=>wpAny_bind (wpAny_entryPlaceOf fun pl ip=>?_));have ge:g.get? e=some oe:=by rw [sg.2.1 e ef];exact he
 unfold EntryCells.newEntry newFields;refine wpAny_bind (wpAny_newObj_type ?_ (ip.sizeOk5 _ _ _ _ _));refine wpAny_setField (Heap.get?_push_of_some _ ge) hd n1 ?_;obtain ⟨x,kp⟩:=J0 (fl:=rawInt L) (ob:={ cls:=.type "traceback",dict:=none,data:=.fields ([head,.ref L,.none,rawInt L,.none]++(if pl.isEmpty then List.replicate 6 Value.none else pl)).toArray }) ge hd n1 rfl (by simp);refine k _ _ x (by rw [sg.1];exact Nat.le_refl _) ⟨fun b o hb hc ho=>kp b o (fun q=>hc (by simp [q])) (by rw [sg.2.1 b hb];exact ho),fun b o hb ho=>?_,fun b o ho=>?_,?_⟩
 . obtain ⟨sl,q⟩:=sg.2.2 b o ho
   exact ⟨sl,kp b _ (fun z=>ef (z ▸ hb)) q⟩
 . by_cases z:b=e
   . obtain ⟨ox,_,q,_⟩:=x
     exact ⟨ox,z ▸ q⟩
   . obtain ⟨sl,q⟩:=sg.2.2 b o ho
     exact ⟨_,kp b _ z q⟩
 . rw [Heap.size_after_update,Heap.size_push,sg.1]
   exact Nat.le_succ _
theorem LX {base:Heap} {env:Env} {outer:List Env} {L e:Addr} {cls:Value} {dx:Option Addr} {t:Option (Addr×Value)} {Q:Unit->Shared->Prop}
   (fr:A.frames=some (env::outer)) (ff:s.heap.FunFrames base (env::outer)) (lf:env.frame=some L) (hx:Ed s.heap e cls dx t) (hfl:∀ T fl,t=some (T,fl)->fl=.none\/fl=rawInt L)
   (k:∀ h' T,Ed h' e cls dx (some (T,rawInt L))->(T ∈ heads e t\/s.heap.objs.size<=T)->FG ((env::outer).filterMap (·.frame)) (heads e t) s.heap h'->Q () { s with heap:=h' }) :
   wpAny M A (noteFrame (.ref e) env) Q E s:=by
 have rc:=hx.rec;obtain ⟨oe,vs,he,rfl,rfl,hd,r⟩:=id hx;unfold noteFrame;simp only [lf];cases t with
 | none=>
   refine wpAny_bind (wpAny_field he hd r ?_);rw [if_neg (by decide)];exact entry_at fr ff lf he hd (Array.getElem?_eq_some_iff.mp r).1 fun h' T x1 x2 x3=>k h' T x1 (.inr x2) x3
 | some p=>
   obtain ⟨T,fl⟩:=p;obtain ⟨h1,Tf,oT,ts,hT,I0,h3⟩:=r;have l3:=(Array.getElem?_eq_some_iff.mp h3).1;refine wpAny_bind (wpAny_field he hd h1 ?_);rw [if_pos (by simp)];refine wpAny_bind (wpAny_field hT I0 h3 ?_);rcases hfl T fl rfl with rfl | rfl
   . rw [if_neg (by simp [rawInt])]
     refine wpAny_bind (wpAny_setField hT I0 l3 ?_);have off:∀ b o,s.heap.get? b=some o->b ≠ T->(s.heap.update T (Obj.mapFields (·.setIfInBounds 3 Value.none))).get? b=some o:=fun b o q n=>by rw [jE _ n];exact q
     have VL:∀ b o,s.heap.get? b=some o->(∀ ws,o.data ≠ .fields ws)->b ≠ T:=fun b o q n z=>n ts (by rw [z,hT] at q;cases q;exact I0);have fT:T ∉ (env::outer).filterMap (·.frame):=fun m=>let ⟨_,o,ho,no⟩:=ff.mem m;VL T o ho no rfl;refine entry_at (s:={ s with heap:=s.heap.update T (Obj.mapFields (·.setIfInBounds 3 Value.none)) }) fr (ff.of_keeps fun b o q n=>⟨o,off b o q (VL b o q n),rfl⟩) lf (off e oe he (Ne.symm Tf)) hd (Array.getElem?_eq_some_iff.mp h1).1 fun h' T' x1 x2 x3=>?_
     have x2:s.heap.objs.size<=T':=by rw [Heap.size_after_update] at x2;exact x2
     have x4:s.heap.objs.size<=h'.objs.size:=by have:=x3.size;rw [Heap.size_after_update] at this;exact this
     refine k h' T' x1 (.inr x2) ⟨fun b o hb hc ho=>?_,fun b o hb ho=>?_,fun b o ho=>?_,x4⟩
     . have hc:b ≠ e/\b ≠ T:=by simpa [heads] using hc
       exact x3.keep b o hb (by simpa using hc.1) (off b o ho hc.2)
     . exact x3.slot b o hb (off b o ho fun z=>fT (z ▸ hb))
     . by_cases z:b=T
       . rw [z];exact x3.there T _ (xY hT I0 3 _)
       . exact x3.there b o (off b o ho z)
   . rw [if_pos (by simp)]
     exact wpAny_pure (k s.heap T hx (.inl (by simp [heads])) .refl)
theorem Ho {e T:Addr} {cls fl:Value} {dx:Option Addr} {fr:Option Addr} {Q:Unit->Shared->Prop} (hx:Ed s.heap e cls dx (some (T,fl)))
  (k:∀ h',Ed h' e cls dx (some (T,fr.elim Value.none fun f=>rawInt f))->(∀ b,b ≠ T->h'.get? b=s.heap.get? b)->h'.objs.size=s.heap.objs.size->(∃ o,h'.get? T=some o)->Q () { s with heap:=h' }) :
  wpAny M A (setFlight (.ref e) fr) Q E s:=by
 obtain ⟨oe,vs,he,hc,hx,hd,h1,Tf,oT,ts,hT,I0,h3⟩:=hx;have l3:=(Array.getElem?_eq_some_iff.mp h3).1;have me:=xY hT I0 3 (fr.elim Value.none fun f=>rawInt f);unfold setFlight;refine wpAny_bind (wpAny_field he hd h1 ?_);rw [if_pos (by simp)];refine wpAny_setField hT I0 l3 (k _ ⟨oe,vs,?_,hc,hx,hd,h1,Tf,_,_,me,Obj.data_mapFields I0 _,by simp [l3]⟩ (fun b n=>jE _ n) (Heap.size_after_update ..) ⟨_,me⟩);rw [jE _ (Ne.symm Tf)];exact he
end
end XL
namespace XL
open PySem
section
variable {M:Model} {A:Around} {E:Value->Shared->Prop} {env:Env}
variable {nm q:Str} {C N:Addr} {bs bm:List Value} {hdct:Bool} {sn:List Str} {sub:List Value} {ab:Bool} {col:Option Bool} {dd:Option Addr} {k0 k1 k2 k3 k5:Option Value} {newId:String}
theorem Hq {s:Shared} {x:Sem Value} {Q:Flow->Shared->Prop} (Xx:bm.contains (.type "BaseException")=true) (calm:A.handled=none)
   (k:wpAny M A x (fun v s'=>∃ e t dx sl,v=.ref e/\s'.heap.get? C=some (excClassObj nm q C N bs bm hdct sn sub ab col dd k0 k1 k2 k3 k5 newId) /\
     s'.heap.get? e=some ⟨.ref C,dx,.fields #[.ref t,.none,.none,.none,.bool false,.none],sl⟩/\E (.ref e) s') E s):wpAny M A (raiseStmt env (some x) none) Q E s:=by
 have up:(Value.ref C::bm).contains (.type "BaseException")=true:=by simp only [List.contains_cons,Xx,Bool.or_true]
 unfold raiseStmt;refine wpAny_bind (wpAny_mono k ?_ fun _ _ z=>z);rintro v ⟨hp,gs,dr,tk,os⟩ ⟨e,t,dx,sl,rfl,cC,ce,last⟩
 repeat (first | (with_reducible refine wpAny_isSubtype_exc cC ?_;rw [up]) | with_reducible refine wpAny_loadPart_at cC ?_ | with_reducible refine wpAny_loadPart_at ce ?_ | wp_step)
 exact wpAny_raiseNew_none calm last
end
end XL
namespace XL
open PySem
open Builtin Builtin.ObjectAttr
abbrev cK:List Value:=[.type "Exception",.type "BaseException",.type "object"]
section
variable {prog:Program} {w:World} {A:Around} {E:Value->Shared->Prop} {h:Heap} {g:Array GenState} {d:Drawn} {t:Nat} {os:OsState}
variable {nm q:Str} {C N x:Addr} {bs:List Value} {sn:List Str} {sub:List Value} {ab:Bool} {col:Option Bool} {dd:Option Addr} {k0 k1 k2 k3 k5:Option Value} {newId:String}
 {mN mA:Str->Option Value} {name:Str} {v:Value}
theorem LY {tk:Tok} {Q:Fin->Shared->Prop} (cC:h.get? C=some (excClassObj nm q C N bs cK true sn sub ab col dd k0 k1 k2 k3 k5 newId)) (cN:h.Ns N mN) (no:mN name=none)
   (zc:typeLookup (.type "Exception") name=pure none) (I:h.Inst x C mA) (hv:mA name=some v) (k:Q (.done (.ret v)) ⟨h,g,d,t,os⟩) :
   wpAny (model prog w) A (Builtin.«object.__getattribute__» ⟨[.ref x,.str name tk],[]⟩) Q E ⟨h,g,d,t,os⟩:=by
 obtain ⟨o,cx,oC,xZ,⟨_,z⟩ | ⟨dx,odx,_,at_⟩⟩:=I
 . exact absurd hv (by simp [z])
 . unfold Builtin.«object.__getattribute__»
   repeat (first | (refine wpAny_typeLookup_exc cC cN PySem.F.excBase_Exception.mroIs zc ?_;rw [no]) | (with_reducible refine wpAny_loadPart_at cx ?_;rw [oC]) | wp_step)
   split
   . exact absurd (by assumption) (xZ _)
   . unfold instanceDict
     repeat (first | with_reducible refine wpAny_loadPart_at cC ?_ | (with_reducible refine wpAny_loadPart_at cx ?_;rw [oC]) | wp_step)
     rw [odx]
     repeat (first | (with_reducible refine wpAny_nsGet at_.ns ?_;rw [hv]) | wp_step)
     exact k
theorem J1 {expr:Bool} {Q:Value->Shared->Prop} (cC:h.get? C=some (excClassObj nm q C N bs cK true sn sub ab col dd k0 k1 k2 k3 k5 newId)) (cN:h.Ns N mN)
  (n1:mN "__getattribute__"=none) (n2:mN "__getattr__"=none) (no:mN name=none) (zc:typeLookup (.type "Exception") name=pure none) (I:h.Inst x C mA) (hv:mA name=some v) (hh:handedOut v=pure v)
  (k:Q v ⟨h,g,d,t+1,os⟩):wpAny (model prog w) A (getAttr (.ref x) name expr) Q E ⟨h,g,d,t,os⟩:=by
 obtain ⟨o,cx,oC,_⟩:=id I;have bd:=PySem.F.attr_Exception.ga.bind (.ref x);have e0:(expr&&onTheHeap (Value.builtin "BaseException.__getattribute__"))=false:=by cases expr<;>rfl
 unfold getAttr getAttrBy
 repeat (first | (with_reducible refine wpAny_typeLookup_exc cC cN PySem.F.excBase_Exception.mroIs PySem.F.attr_Exception.ga.lookup ?_;rw [n1]) | (with_reducible refine wpAny_loadPart_at cx ?_;rw [oC]) | wp_step)
 repeat (first | (with_reducible refine wpAny_typeLookup_exc cC cN PySem.F.excBase_Exception.mroIs PySem.F.attrBase_Exception.noGetattr ?_;rw [n2]) | wp_step)
 refine codeAny_call_builtin PySem.F.attr_Exception.ga.plain F.entry_bexc_ga (wpAny_check_ga_own PySem.F.attrBase_Exception cC .base cx oC (LY cC cN no zc I hv ?_));show wpAny _ _ (handedOut v) _ _ _;rw [hh];exact wpAny_pure k
theorem C7 {tk:Tok} {o:Obj} {Q:Fin->Shared->Prop} (cC:h.get? C=some (excClassObj nm q C N bs cK true sn sub ab col dd k0 k1 k2 k3 k5 newId)) (cN:h.Ns N mN) (no:mN name=none)
   (zc:typeLookup (.type "Exception") name=pure none) (cx:h.get? x=some o) (oC:o.cls=.ref C) (xZ:∀ c,o.data ≠ .cls c) (od:o.dict=none)
   (k:∀ h' tk',h'.get? x=some { o with dict:=some h.objs.size }->h'.Ns1 h.objs.size (fun y=>if y=name then some v else none)->(∀ b u,b ≠ x->h.get? b=some u->h'.get? b=some u)->Q (.done (.ret .none)) ⟨h',g,d,tk',os⟩) :
   wpAny (model prog w) A (Builtin.«object.__setattr__» ⟨[.ref x,.str name tk,v],[]⟩) Q E ⟨h,g,d,t,os⟩:=by
 have ok:=PySem.F.store_Exception.passes (.ref x);have nx:h.objs.size ≠ x:=Nat.ne_of_gt (Heap.lt_size cx);have ou:({ o with dict:=some h.objs.size }:Obj).isFreed=false:=by
   have z:=(Heap.get?_some_iff.mp cx).2;obtain ⟨c,dc,dt,sl⟩:=o;cases dt<;>first | rfl | exact z
 unfold Builtin.«object.__setattr__»
 repeat (first | (rw [refuseLoop_ref,ok]) | rw [refuse_eq] | (refine wpAny_typeLookup_exc cC cN PySem.F.store_Exception.mro zc ?_;rw [no]) | with_reducible refine wpAny_mroOf_exc cC ?_ | (with_reducible refine wpAny_loadPart_at cx ?_;rw [oC]) | wp_step)
 rw [od,if_neg (by simp [typeHasDict])];split
 . exact absurd (by assumption) (by intro q;cases q)
 . split
   . exact absurd (by assumption) (xZ _)
   . refine wpAny_bind (wpAny_alloc' (wpAny_bind (wpAny_update' (Heap.get?_push_of_some _ cx) (wpAny_pure ?_))))
     show wpAny _ _ (storeInDict h.objs.size (.str name tk) name v) _ _ _;unfold storeInDict newKeyGuard;have em:((h.push { cls:=.type "dict",data:=.dict #[] }).update x fun o=>{ cls:=o.cls,dict:=some h.objs.size,data:=o.data,slots:=o.slots }).Ns h.objs.size (fun _=>none):=by
       refine ⟨{ cls:=.type "dict",data:=.dict #[] },#[],_,?_,rfl,fun e he=>absurd he (by simp),fun _=>rfl⟩;rw [jE _ nx];exact Heap.get?_push_size h rfl
     refine wpAny_bind (wpAny_pure (wpAny_bind (wpAny_nsSet1 (Heap.Ns1.of_empty em) fun h' n' sb=>?_)));obtain ⟨oD,esD,Xb,aD,dD,cD⟩:=n'.count (Within.cons name v Within.nil);refine wpAny_bind (wpAny_lookBehind aD (by rw [dD];exact pastItsLine_dict (Nat.le_trans cD (by rw [sizeLine_eq];simp))) ?_)
     wp_walk
     refine k h' _ ?_ n' fun b u n z=>?_
     . rw [sb.2 x (Ne.symm nx)]
       exact Heap.get?_update_self _ (Heap.get?_push_of_some _ cx) ou
     . rw [sb.2 b (Nat.ne_of_lt (Heap.lt_size z)),jE _ n]
       exact Heap.get?_push_of_some _ z
theorem E9 {tk:Tok} {o:Obj} {sa owner:String} {R:Result->Shared->Prop} (SF:StoreFacts "Exception" cK sa owner) (cC:h.get? C=some (excClassObj nm q C N bs cK true sn sub ab col dd k0 k1 k2 k3 k5 newId)) (cN:h.Ns N mN) (no:mN name=none)
  (zc:typeLookup (.type "Exception") name=pure none) (cx:h.get? x=some o) (oC:o.cls=.ref C) (xZ:∀ c,o.data ≠ .cls c) (od:o.dict=none)
  (k:∀ h' tk',h'.get? x=some { o with dict:=some h.objs.size }->h'.Ns1 h.objs.size (fun y=>if y=name then some v else none)->(∀ b u,b ≠ x->h.get? b=some u->h'.get? b=some u)->R (.ok (.ret .none)) ⟨h',g,d,tk',os⟩) :
  codeAny (model prog w) A (.call (.builtin sa) ⟨[.ref x,.str name tk,v],[]⟩) R ⟨h,g,d,t,os⟩:=by
 refine codeAny_call_builtin SF.slot.plain SF.entry (wpAny_check_sa SF cC cx oC ?_);exact C7 cC cN no zc cx oC xZ od k
theorem EA {o:Obj} {sa owner:String} {Q:Unit->Shared->Prop} (SF:StoreFacts "Exception" cK sa owner) (cC:h.get? C=some (excClassObj nm q C N bs cK true sn sub ab col dd k0 k1 k2 k3 k5 newId)) (cN:h.Ns N mN) (ns:mN "__setattr__"=none) (no:mN name=none)
  (zc:typeLookup (.type "Exception") name=pure none) (cx:h.get? x=some o) (oC:o.cls=.ref C) (xZ:∀ c,o.data ≠ .cls c) (od:o.dict=none)
  (k:∀ h' tk',h'.get? x=some { o with dict:=some h.objs.size }->h'.Ns1 h.objs.size (fun y=>if y=name then some v else none)->(∀ b u,b ≠ x->h.get? b=some u->h'.get? b=some u)->Q () ⟨h',g,d,tk',os⟩) :
  wpAny (model prog w) A (setAttr (.ref x) name v) Q E ⟨h,g,d,t,os⟩:=by
 have bd:=SF.slot.bind (.ref x);unfold setAttr callSpecial? specialOf
 repeat (any_goals (first | (with_reducible refine wpAny_typeLookup_exc cC cN SF.mro SF.slot.lookup ?_;rw [ns]) | (with_reducible refine wpAny_loadPart_at cx ?_;rw [oC]) | assumption | wp_step))
 refine E9 SF cC cN no zc cx oC xZ od fun h' tk' x1 x2 x3=>?_;have z:=k h' tk' x1 x2 x3
 repeat (any_goals (first | assumption | wp_step))
end
end XL
namespace L2
open PySem PySem.Spec PyProof.Rows XL
def rB (P:Program) (w:World):Ec:=fun outer H s E e s'=>
 ∃ (a T:Addr) (C dx:Addr) (H':Hp),e=.ref a/\s'.os=s.os/\AllBare s'.gens/\Un (frs outer) [] H H' s.heap s'.heap/\oB P w H' s'.heap /\
   Ed s'.heap a (.ref C) (some dx) (some (T,.none))/\(∀ b ∈ [a,T],H' b=none/\s.heap.get? b=none)/\E (.ref C) (some dx) H'
structure Own (X:Cx):Prop where
 Ly:X.stack=X.env::X.outer
 fr:X.env.frame=some X.env.locals
def Hr (X:Cx) (pins:List (Addr×Obj)) (H:Hp) (l:List Addr):Prop:=∀ b ∈ l,H b=none/\X.u9.heap.get? b=none/\∀ p ∈ X.pn++pins,p.1 ≠ b
section
variable {X:Cx} {pins:List (Addr×Obj)} {σ:St} {H H':Hp} {s:Shared} {h':Heap} {a:Addr} {cls:Value} {dx:Option Addr} {E:Value->Shared->Prop} {Q:Unit->Shared->Prop}
theorem Inv.ND {g':Array GenState} {t':Nat} {d':Drawn} {ch:List Addr} (I:Inv X pins σ H s)
   (hch:∀ b ∈ ch,X.u9.heap.get? b=none/\b ≠ X.env.locals/\(∀ x c,X.env.cells.lookup x=some c->c ≠ b)/\∀ p ∈ X.pn++pins,p.1 ≠ b)
   (keep:∀ b o,b ≠ X.env.locals->b ∉ X.fs->b ∉ ch->s.heap.get? b=some o->H b=none->h'.get? b=some o)
   (slot:∀ b o,b ≠ X.env.locals->b ∈ X.fs->b ∉ ch->s.heap.get? b=some o->H b=none->∃ sl,h'.get? b=some { o with slots:=sl })
   (there:∀ b o,b ∉ ch->s.heap.get? b=some o->∃ o',h'.get? b=some o')
   (ns:∀ m,s.heap.Ns X.env.locals m->h'.Ns X.env.locals m) (hok:oB X.prog X.w H h') (hg:AllBare g') :
   Inv X pins σ H { s with heap:=h',gens:=g',drawn:=d',toks:=t' }:=by
 have Lz:∀ b o,X.u9.heap.get? b=some o->b ≠ X.env.locals:=fun b o e=>Nat.ne_of_lt (Nat.lt_of_lt_of_le (Heap.lt_size e) I.ok.above);have Nz:∀ b o,X.u9.heap.get? b=some o->b ∉ ch:=fun b o e hb=>by rw [(hch b hb).1] at e;cases e
 have cellK:∀ x c,X.env.cells.lookup x=some c->∀ v,s.heap.IsCell c v->h'.IsCell c v:=fun x c e v ⟨o,ho,hd⟩=>by
   have N1:c ∉ ch:=fun z=>(hch c z).2.2.1 x c e rfl;by_cases hc:c ∈ X.fs
   . obtain ⟨sl,q⟩:=slot c o (I.Lu x c e) hc N1 ho (I.gY x c e)
     exact ⟨_,q,hd⟩
   . exact ⟨o,keep c o (I.Lu x c e) hc N1 ho (I.gY x c e),hd⟩
 refine ⟨I.ok,I.os,hg,⟨fun b o e n hb hx=>?_,fun b o e n hb hx=>?_,I.base.free,fun b o e hx=>?_,I.base.tups,I.base.rX,I.base.uB⟩,?_,fun x c e=>?_,I.free,I.gY,fun p hp=>?_,hok,I.len⟩
 . exact keep b o (Lz b o e) hb (Nz b o e) (I.base.keep b o e n hb hx) (I.base.free b o e n hx)
 . obtain ⟨sl,e1⟩:=I.base.slot b o e n hb hx
   obtain ⟨sl',e2⟩:=slot b _ (Lz b o e) hb (Nz b o e) e1 (I.base.free b o e n hx);exact ⟨sl',e2⟩
 . obtain ⟨o',e1⟩:=I.base.there b o e hx
   exact there b o' (Nz b o e) e1
 . obtain ⟨m,hn,hl⟩:=I.loc
   refine ⟨m,ns m hn,fun i x v e1 e2 e3=>?_⟩;obtain ⟨u,r,l⟩:=hl i x v e1 e2 e3;refine ⟨u,r,?_⟩;rcases l with l | ⟨k,c,e,z⟩
   . exact .inl l
   . exact .inr ⟨k,c,e,cellK x c e _ z⟩
 . obtain ⟨v,z⟩:=I.cell x c e
   exact ⟨v,cellK x c e v z⟩
 . obtain ⟨e,n,ne,nf,d⟩:=I.pin p hp
   exact ⟨keep p.1 p.2 ne nf (fun z=>(hch p.1 z).2.2.2 p hp rfl) e n,n,ne,nf,d⟩
theorem Inv.apart (I:Inv X pins σ H s) {b:Addr} {o:Obj} {ws:Array Value} (ho:s.heap.get? b=some o) (hd:o.data=.fields ws):b ≠ X.env.locals/\∀ x c,X.env.cells.lookup x=some c->c ≠ b:=by
 refine ⟨fun q=>?_,fun x c e q=>?_⟩
 . obtain ⟨m,⟨ol,es,ep,hl,hdl,_⟩,_⟩:=I.loc
   rw [q,hl] at ho;cases ho;rw [hdl] at hd;cases hd
 . obtain ⟨v,oc,hc,hdc⟩:=I.cell x c e
   rw [q,ho] at hc;cases hc;rw [hd] at hdc;cases hdc
theorem C8 {h h':Heap} {L:Addr} {m:Str->Option Value} (k:∀ o,h.get? L=some o->∃ sl,h'.get? L=some { o with slots:=sl }) (n:h.Ns L m):h'.Ns L m:=by
 obtain ⟨o,es,ep,ho,hd,r⟩:=n;obtain ⟨sl,q⟩:=k o ho;exact ⟨_,es,ep,q,hd,r⟩
theorem Inv.OP (I:Inv X pins σ H s) {b:Addr} (h:s.heap.get? b=none) (hx:X.ex=[]):X.u9.heap.get? b=none/\∀ p ∈ X.pn++pins,p.1 ≠ b:=by
 refine ⟨?_,fun p hp q=>?_⟩
 . cases q:X.u9.heap.get? b with
   | none=>rfl
   | some o=>
     obtain ⟨o',e⟩:=I.base.there b o q (by rw [hx];simp);rw [h] at e;cases e
 . have e:=(I.pin p hp).1
   rw [q,h] at e;cases e
theorem Inv.noted (I:Inv X pins σ H s) (W:Own X) (Hs:X.ex=[]) {t:Option (Addr×Value)} (hx:Ed s.heap a cls dx t) (hfl:∀ T fl,t=some (T,fl)->fl=.none\/fl=rawInt X.env.locals) (hH:Hr X pins H (heads a t))
   (k:∀ h' T,Inv X pins σ H { s with heap:=h' }->Ed h' a cls dx (some (T,rawInt X.env.locals))->Hr X pins H [a,T]->Q () { s with heap:=h' }) :
   wpAny (model X.prog X.w) X.A (noteFrame (.ref a) X.env) Q E s:=by
 have hst:=I.stack;have hfr:=I.ok.frames;have hfree:=I.Aw;rw [W.Ly] at hst hfr hfree;refine LX hfr hst W.fr hx hfl fun h' T x1 x2 x3=>?_;have hL:X.env.locals ∈ (X.env::X.outer).filterMap (·.frame):=by rw [List.filterMap_cons,W.fr];exact List.mem_cons_self
 have hfs:∀ b,b ∈ (X.env::X.outer).filterMap (·.frame) ↔ b=X.env.locals\/b ∈ X.fs:=fun b=>by rw [List.filterMap_cons,W.fr];exact List.mem_cons
 have tr:∀ b u,H b=some u->b ∉ (X.env::X.outer).filterMap (·.frame)/\b ∉ heads a t:=fun b u e=>⟨fun m=>(by rw [hfree b m] at e;cases e),fun m=>(by rw [(hH b m).1] at e;cases e)⟩;have hok:oB X.prog X.w H h':=fun b u e=>(I.hok b u e).stay (fun c v hc q=>by
   have z:∃ w,H c=some w:=by
     rcases hc with hc | hc
     . exact ⟨u,hc ▸ e⟩
     . exact ⟨_,hc⟩
   obtain ⟨w',z⟩:=z;exact x3.keep c v (tr c w' z).1 (tr c w' z).2 q) (fun _ q=>q) fun _ _ q=>q
 have I':Inv X pins σ H { s with heap:=h' }:=by
   refine I.ND (g':=s.gens) (t':=s.toks) (d':=s.drawn) (ch:=heads a t) (fun b hb=>?_) (fun b o n1 n2 n3 e _=>?_) (fun b o n1 n2 _ e _=>?_) (fun b o _ e=>x3.there b o e)
     (fun m hm=>C8 (fun o q=>x3.slot _ o hL q) hm) hok I.bare
   . obtain ⟨o,ws,ho,hd⟩:=hx.rec b hb
     obtain ⟨z1,z2⟩:=I.apart ho hd;exact ⟨(hH b hb).2.1,z1,z2,(hH b hb).2.2⟩
   . exact x3.keep b o (fun m=>by rcases (hfs b).mp m with q | q;exact n1 q;exact n2 q) n3 e
   . exact x3.slot b o ((hfs b).mpr (.inr n2)) e
 refine k h' T I' x1 fun b hb=>?_;rcases (show b=a\/b=T by simpa using hb) with q | q
 . rw [q];exact hH a Hl
 . rw [q]
   rcases x2 with m | m
   . exact hH T m
   . have z:=Heap.get?_none_of_le m
     obtain ⟨z1,z2⟩:=I.OP z Hs;exact ⟨I.hok.fresh m,z1,z2⟩
theorem Inv.flown (I:Inv X pins σ H s) {T:Addr} {fl:Value} {fr:Option Addr} (hx:Ed s.heap a cls dx (some (T,fl))) (hN:Hr X pins H [a,T])
   (k:∀ h',Inv X pins σ H { s with heap:=h' }->Ed h' a cls dx (some (T,fr.elim Value.none fun f=>rawInt f))->Q () { s with heap:=h' }) :
   wpAny (model X.prog X.w) X.A (setFlight (.ref a) fr) Q E s:=by
 obtain ⟨oT,ts,Xy,I0⟩:=hx.rec T (by simp [heads]);obtain ⟨nT,zT,pT⟩:=hN T (by simp);refine Ho hx fun h' x1 x2 x3 x4=>k h' ?_ x1;have ap:=I.apart Xy I0;have kp:∀ b o,b ≠ T->s.heap.get? b=some o->h'.get? b=some o:=fun b o n e=>by rw [x2 b n];exact e
 have tr:∀ b u,H b=some u->b ≠ T:=fun b u e q=>by rw [q,nT] at e;cases e
 refine I.ND (g':=s.gens) (t':=s.toks) (d':=s.drawn) (ch:=[T]) (fun b hb=>?_) (fun b o _ _ n e _=>kp b o (fun q=>n (by simp [q])) e) (fun b o _ _ n e _=>⟨o.slots,kp b o (fun q=>n (by simp [q])) e⟩)
   (fun b o n e=>⟨o,kp b o (fun q=>n (by simp [q])) e⟩) (fun m hm=>C8 (fun o q=>⟨o.slots,kp _ o (Ne.symm ap.1) q⟩) hm) (fun b u e=>?_) I.bare
 . rw [show b=T by simpa using hb]
   exact ⟨zT,ap.1,ap.2,pT⟩
 . refine (I.hok b u e).stay (fun c v hc q=>kp c v ?_ q) (fun _ q=>q) fun _ _ q=>q
   rcases hc with hc | hc
   . exact tr c u (hc ▸ e)
   . exact tr c _ hc
theorem Inv.back {P:Program} {w:World} {EX:XK} {e:Value} {s':Shared} (I:Inv X pins σ H s) (Hs:X.ex=[]) (h:rB X.prog X.w X.stack H s EX e s') :
  ∃ a T C dx H',e=.ref a/\Inv X pins σ H' s'/\Ed s'.heap a (.ref C) (some dx) (some (T,.none))/\Hr X pins H' [a,T]/\EX (.ref C) (some dx) H':=by
 obtain ⟨a,T,C,dx,H',rfl,ho,hb,un,hok,x,hH,hE⟩:=h;obtain ⟨hh,g,d,tk,os⟩:=s';obtain rfl:os=s.os:=ho;refine ⟨a,T,C,dx,H',rfl,I.call (h':=hh) (g':=g) (d':=d) (t':=tk) (ch:=[]) un hok hb (fun b z=>absurd z (by simp)),x,fun b hb=>?_,hE⟩;obtain ⟨z1,z2⟩:=I.OP (hH b hb).2 Hs;exact ⟨(hH b hb).1,z1,z2⟩
end
section
variable {P:Program} {w:World} {K:Zqq} {mg:Str->Option Value} {base:Heap} {N:List Str} {qual:Str} {scope:Scope} {f:Addr} {cd:Value} {A:Around} {outer:List Env} {s0:Shared} {H0:Hp} {E:XK}
theorem OQ:Own (mX (rB P w) P w K mg base N qual scope f cd A outer s0 H0 E):=⟨rfl,rfl⟩
theorem bW {pins:List (Addr×Obj)} {σ:St} {H:Hp} {s:Shared} {a C dx:Addr} {t:Option (Addr×Value)} (I:Inv (mX (rB P w) P w K mg base N qual scope f cd A outer s0 H0 E) pins σ H s) (hx:Ed s.heap a (.ref C) (some dx) t)
  (hfl:∀ T fl,t=some (T,fl)->fl=.none) (hH:Hr (mX (rB P w) P w K mg base N qual scope f cd A outer s0 H0 E) pins H (heads a t)) (hE:E (.ref C) (some dx) H) :
  (mX (rB P w) P w K mg base N qual scope f cd A outer s0 H0 E).xe (.ref a) s:=by
 show wpAny _ _ (leaving _ _) _ _ s;unfold leaving;refine wpAny_bind (I.noted OQ rfl hx (fun T fl e=>.inl (hfl T fl e)) hH fun h1 T I1 x1 nw=>?_);refine I1.flown (fr:=none) x1 nw fun h2 I2 x2=>?_;exact ⟨a,T,C,dx,H,rfl,I2.os,I2.bare,I2.base,I2.hok,x2,fun b hb=>⟨(nw b hb).1,(nw b hb).2.1⟩,hE⟩
theorem fL:Passes (rB P w) (mX (rB P w) P w K mg base N qual scope f cd A outer s0 H0 E) E:=by
 intro pins σ H s e s' I h;obtain ⟨a,T,C,dx,H',rfl,I',x,nw,hE⟩:=I.back (P:=P) (w:=w) rfl h;exact bW I' x (fun T fl e=>by cases e;rfl) nw hE
theorem Ht:PassesOwn (model P w) (mX (rB P w) P w K mg base N qual scope f cd A outer s0 H0 E).A (mX (rB P w) P w K mg base N qual scope f cd A outer s0 H0 E).env (mX (rB P w) P w K mg base N qual scope f cd A outer s0 H0 E).xe:=PassesOwn.leaving
theorem jD.IA {x qual:Str} {st:Stmt} {f:Addr} {fd:FuncData} {N ps:List Str} {k:Nat} {sp:Sp} (F:jD K x qual st f fd) (S:aM N ps (aF st)) (len:∀ vs H Q E,sp vs H Q E->vs.length=ps.length)
   (hbody:∀ (cdv:Value) (A:Around) (outer:List Env) (s:Shared) (H:Hp) (vs:List V) (Q:VK) (E:XK),cU k (A.deeper (envOfC qual (aF st) s.heap.objs.size f cdv))->sp vs H Q E->
     ∃ t,Ax (mX (rB P w) P w K mg base N qual (aF st) f cdv A outer s H E) (lg st) t/\t { nx:=fun _ H'=>Q .non H',rt:=Q } (start N vs) H):bI P w K mg base (rB P w) (k+1) f fd ps sp:=by
 obtain ⟨oc,od,kV,doc,pm,an,cdv,ct,osl,rfl,lk,hcd⟩:=F.ex;exact N8 lk hcd S len fun A outer s H vs Q E hr Eu=>hbody cdv A outer s H vs Q E hr Eu
end
end L2
namespace L2
open PySem PySem.Spec PyProof.Rows XL
theorem bZ.there {P:Program} {w:World} {H:Hp} {h:Heap} {a:Addr} {o:HO} (x:bZ P w H h a o):∃ ob,h.get? a=some ob:=by
 cases o with
 | lst xs=>obtain ⟨_,_,_,_,e⟩:=x;exact ⟨_,e⟩
 | tup xs=>obtain ⟨_,_,_,_,e,_⟩:=x;exact ⟨_,e⟩
 | dK kvs=>obtain ⟨_,_,_,_,o,_,_,e,_⟩:=x;exact ⟨_,e⟩
 | dT kvs=>obtain ⟨_,_,_,_,o,_,_,e,_⟩:=x;exact ⟨_,e⟩
 | set S n=>obtain ⟨o,_,_,_,e,_⟩:=x;exact ⟨_,e⟩
 | ins C dx fs=>obtain ⟨_,_,_,e,_⟩:=x;exact ⟨_,e⟩
 | own y=>exact x
 | xd fs=>obtain ⟨_,⟨_,_,_,e,_⟩,_⟩:=x;exact ⟨_,e⟩
 | Nt lo hi=>obtain ⟨_,_,_,e⟩:=x;exact ⟨_,e⟩
 | jB ob u=>obtain ⟨e,_⟩:=x;exact ⟨_,e⟩
 | Nu ps=>exact ⟨_,(show h.get? a=some _ from x)⟩
 | met f y=>exact ⟨_,(show h.get? a=some _ from x)⟩
 | ext φ=>obtain ⟨_,e,_⟩:=x;exact e
structure Hu (K:Zqq) (C fI:Addr) (names:List Str):Prop where
 ex:∃ (nm q:Str) (N:Addr) (bs:List Value) (sn:List Str) (sub:List Value) (ab:Bool) (col:Option Bool) (dd:Option Addr) (k0 k1 k2 k3 k5:Option Value),
   K.lookup C=some (excClassObj nm q C N bs cK true sn sub ab col dd k0 k1 k2 k3 k5 "Exception.__new__")/\PySem.W.nsOkIn K N=true/\PySem.W.nsIn K N "__init__"=some (some (.ref fI))/\∀ x ∈ names,PySem.W.nsIn K N x=some none
 fn:PySem.W.isFn K (.ref fI)=true
 kp:PySem.W.keepIn K (.ref C)=true
 sa:PySem.W.findIn K (.ref C) "__setattr__"=some (some (.builtin "object.__setattr__"))
 ga:("__getattribute__":Str) ∈ names
 gh:("__getattr__":Str) ∈ names
 ss:("__setattr__":Str) ∈ names
theorem EB {K:Zqq} {h:Heap} {N:Addr} {m:Str->Option Value} {x:Str} {v:Value} (X:K.In h) (G:h.Ns N m) (e:PySem.W.nsIn K N x=some (some v)):m x=some v:=by
 obtain ⟨o,es,ep,ho,hd,_,hf⟩:=G;cases hk:K.lookup N with
 | none=>simp [PySem.W.nsIn,hk] at e
 | some ob=>
  have z:=X _ _ hk;rw [ho] at z;cases z;obtain ⟨c,dd,dt,sl⟩:=o;have hd:dt=.dict es ep:=hd;subst hd;simp only [PySem.W.nsIn,hk] at e;cases hq:es.toList.find? (·.key.isStr x) with
  | none=>rw [hq] at e;split at e<;>simp_all
  | some en=>
   rw [hq] at e;have e:en.val=v:=by simpa using e
   rw [<- hf];unfold nsFind findBy;rw [<- Array.find?_toList,hq];exact congrArg some e
theorem Hu.at {K:Zqq} {C fI:Addr} {names:List Str} (c:Hu K C fI names) {h:Heap} (X:K.In h) :
   ∃ (nm q:Str) (N:Addr) (bs:List Value) (sn:List Str) (sub:List Value) (ab:Bool) (col:Option Bool) (dd:Option Addr) (k0 k1 k2 k3 k5:Option Value) (mN:Str->Option Value),
     h.get? C=some (excClassObj nm q C N bs cK true sn sub ab col dd k0 k1 k2 k3 k5 "Exception.__new__")/\h.Ns N mN/\mN "__init__"=some (.ref fI)/\∀ x ∈ names,mN x=none:=by
 obtain ⟨nm,q,N,bs,sn,sub,ab,col,dd,k0,k1,k2,k3,k5,l,ok,hi,hn⟩:=c.ex;have G:h.Ns N (h.nsMap N):=.of_isNs (PySem.W.isNs_of_in X ok);exact ⟨nm,q,N,bs,sn,sub,ab,col,dd,k0,k1,k2,k3,k5,_,X _ _ l,G,EB X G hi,fun x hx=>PySem.W.ns_none_of X G (hn x hx)⟩
theorem Hu.init {K:Zqq} {C fI:Addr} {names:List Str} (c:Hu K C fI names) {h:Heap} (X:K.In h):∃ o,h.get? fI=some o/\o.cls=.type "function":=by
 have f:=c.fn;unfold PySem.W.isFn PySem.W.typeIn at f;dsimp only at f;cases hk:K.lookup fI with
 | none=>rw [hk] at f;simp at f
 | some o=>
  rw [hk] at f;exact ⟨o,X _ _ hk,by simpa using f⟩
def XO (a C:Addr) (d:Option Addr):HO:=.ext fun h=>∃ t,h.get? a=some ⟨.ref C,d,.fields #[.ref t,.none,.none,.none,.bool false,.none],#[]⟩
def XR (a C dx:Addr):HO:=.ext fun h=>∃ oe,h.get? a=some oe/\oe.cls=.ref C/\oe.dict=some dx/\∀ c,oe.data ≠ .cls c
section
variable {P:Program} {w:World} {H:Hp} {h:Heap} {a C dx:Addr} {d:Option Addr}
theorem XO.ok {t:Addr} (e:h.get? a=some ⟨.ref C,d,.fields #[.ref t,.none,.none,.none,.bool false,.none],#[]⟩):bZ P w H h a (XO a C d):=
 ⟨⟨t,e⟩,⟨_,e⟩,fun h1 h2 ⟨t,q⟩ k=>⟨t,k _ q⟩⟩
theorem XR.ok {oe:Obj} (e:h.get? a=some oe) (h1:oe.cls=.ref C) (h2:oe.dict=some dx) (h3:∀ c,oe.data ≠ .cls c):bZ P w H h a (XR a C dx):=
 ⟨⟨oe,e,h1,h2,h3⟩,⟨_,e⟩,fun g1 g2 ⟨o,q,r⟩ k=>⟨o,k _ q,r⟩⟩
end
def drop (H:Hp) (a:Addr):Hp:=fun b=>if b=a then none else H b
theorem xh {H:Hp} {a b:Addr} (h:b ≠ a):drop H a b=H b:=if_neg h
theorem uN {H:Hp} {a:Addr}:drop H a a=none:=if_pos rfl
section
variable {X:Cx} {pins:List (Addr×Obj)} {σ:St} {H:Hp} {s:Shared} {a C dx fI:Addr} {names:List Str} {E:Value->Shared->Prop} {Q:Unit->Shared->Prop} {A:Around}
theorem Inv.dropped {φ:Heap->Prop} (I:Inv X pins σ H s) (e:H a=some (.ext φ)):Inv X pins σ (drop H a) s:=by
 have sub:∀ b u,drop H a b=some u->H b=some u/\b ≠ a:=fun b u q=>by
   by_cases z:b=a
   . rw [z,uN] at q;cases q
   . rw [xh z] at q;exact ⟨q,z⟩
 have no:∀ b,H b=none->drop H a b=none:=fun b q=>by
   by_cases z:b=a
   . rw [z,uN]
   . rw [xh z];exact q
 have kp:∀ b u,H b=some u->(∀ φ,u ≠ .ext φ)->drop H a b=some u:=fun b u q n=>by
   rw [xh (fun z=>by rw [z,e] at q;cases q;exact n φ rfl)];exact q
 refine ⟨I.ok,I.os,I.bare,⟨I.base.keep,I.base.slot,fun b o q n hx=>no b (I.base.free b o q n hx),I.base.there,fun b xs q=>kp b _ (I.base.tups b xs q) (fun _ z=>by cases z),fun b o u q=>kp b _ (I.base.rX b o u q) (fun _ z=>by cases z),
   fun b ps q=>?_⟩,I.loc,I.cell,no _ I.free,fun x c q=>no c (I.gY x c q),fun p hp=>?_,fun b u q=>?_,I.len⟩
 . obtain ⟨more,z⟩:=I.base.uB b ps q
   exact ⟨more,kp b _ z (fun _ z=>by cases z)⟩
 . obtain ⟨z1,z2,z3⟩:=I.pin p hp
   exact ⟨z1,no _ z2,z3⟩
 . obtain ⟨q1,q2⟩:=sub b u q
   exact (I.hok b u q1).stay (fun _ _ _ z=>z) (fun c z=>kp c _ z (fun _ z=>by cases z)) fun c xs z=>kp c _ z (fun _ z=>by cases z)
theorem Inv.tracked {φ:Heap->Prop} (I:Inv X pins σ H s) (n:H a=none) (nw:X.u9.heap.get? a=none) (nl:a ≠ X.env.locals) (nc:∀ x c,X.env.cells.lookup x=some c->c ≠ a) (np:∀ p ∈ X.pn++pins,p.1 ≠ a)
   (ok:bZ X.prog X.w (upd H a (.ext φ)) s.heap a (.ext φ)):Inv X pins σ (upd H a (.ext φ)) s:=by
 have kp:∀ b u,H b=some u->upd H a (.ext φ) b=some u:=fun b u q=>by rw [ak (au q n)];exact q
 have no:∀ b,H b=none->b ≠ a->upd H a (.ext φ) b=none:=fun b q z=>by rw [ak z];exact q
 refine ⟨I.ok,I.os,I.bare,⟨I.base.keep,I.base.slot,fun b o q m hx=>no b (I.base.free b o q m hx) (fun z=>by rw [z,nw] at q;cases q),I.base.there,fun b xs q=>kp b _ (I.base.tups b xs q),fun b o u q=>kp b _ (I.base.rX b o u q),
   fun b ps q=>?_⟩,I.loc,I.cell,no _ I.free (Ne.symm nl),fun x c q=>no c (I.gY x c q) (nc x c q),fun p hp=>?_,fun b u q=>?_,I.len⟩
 . obtain ⟨more,z⟩:=I.base.uB b ps q
   exact ⟨more,kp b _ z⟩
 . obtain ⟨z1,z2,z3⟩:=I.pin p hp
   exact ⟨z1,no _ z2 (np p hp),z3⟩
 . by_cases z:b=a
   . subst z;rw [ai] at q;cases q;exact ok
   . rw [ak z] at q
     exact (I.hok b u q).stay (fun _ _ _ z=>z) (fun c z=>kp c _ z) fun c xs z=>kp c _ z
theorem C9 {fs:List (Str×V)} {mA:Str->Option Value} (r:∀ f,lX (fs.lookup f) (mA f)):PySem.Within mA (fs.map (·.1)):=fun f hf=>by
 cases q:fs.lookup f with
 | none=>
  have z:=r f
  rw [q] at z
  exact absurd (lX.none_of z) hf
 | some v=>exact List.mem_map.mpr ⟨(f,v),PySem.mem_of_lookup q,rfl⟩
theorem OS {f:Str} {y:V} {u:Value} (I:Inv X pins σ H s) (c:Hu X.K C fI names) (e:H a=some (XO a C none)) (hf:f ∈ names) (zc:typeLookup (.type "Exception") f=pure none) (ry:RelV y u)
   (k:∀ dx s',H dx=none->Inv X pins σ (upd (upd H dx (.xd [(f,y)])) a (XO a C (some dx))) s'->Q () s'):wpAny (model X.prog X.w) A (setAttr (.ref a) f u) Q E s:=by
 obtain ⟨⟨t,ea⟩,_,_⟩:=(show bZ X.prog X.w H s.heap a (XO a C none) from I.hok a _ e);obtain ⟨nm,q,N,bs,sn,sub,ab,col,dd,k0,k1,k2,k3,k5,mN,cC,cN,_,hn⟩:=c.at I.rY;obtain ⟨hh,g,d,tk,os⟩:=s;have ea:hh.get? a=some ⟨.ref C,none,.fields #[.ref t,.none,.none,.none,.bool false,.none],#[]⟩:=ea;refine EA PySem.F.store_Exception cC cN (hn _ c.ss) (hn f hf) zc ea rfl (fun _ z=>by cases z) rfl fun h' tk' x1 x2 x3=>?_;have nd:H hh.objs.size=none:=I.hok.fresh (Nat.le_refl _);have na:hh.objs.size ≠ a:=Nat.ne_of_gt (Heap.lt_size ea);refine k hh.objs.size _ nd (I.un (h':=h') (t':=tk') ⟨fun b o z n _ _=>x3 b o (fun w=>by rw [w,e] at n;cases n) z,fun b o z n _ _=>⟨o.slots,x3 b o (fun w=>by rw [w,e] at n;cases n) z⟩,fun b o z n _=>?_,fun b o z _=>?_,fun b xs z=>?_,fun b o v z=>?_,fun b ps z=>?_⟩ ?_)
 . rw [ak (fun w=>by rw [w,e] at n;cases n),ak (Nat.ne_of_lt (Heap.lt_size z))];exact n
 . by_cases w:b=a
   . rw [w];exact ⟨_,x1⟩
   . exact ⟨o,x3 b o w z⟩
 . rw [ak (fun w=>by rw [w,e] at z;cases z),ak (au z nd)];exact z
 . rw [ak (fun w=>by rw [w,e] at z;cases z),ak (au z nd)];exact z
 . exact ⟨#[],by rw [ak (fun w=>by rw [w,e] at z;cases z),ak (au z nd),z];simp⟩
 . intro b v z
   by_cases wa:b=a
   . subst wa;rw [ai] at z;cases z;exact XO.ok x1
   . rw [ak wa] at z
     by_cases wd:b=hh.objs.size
     . subst wd
       rw [ai] at z;cases z;refine ⟨_,x2,fun g=>?_⟩;by_cases w:g=f
       . subst w;simp [lX];exact ry
       . rw [if_neg w]
         have:([(f,y)]:List (Str×V)).lookup g=none:=by
           rw [List.lookup_cons];have:(g==f)=false:=by simpa using w
           rw [this];rfl
         rw [this];trivial
     . rw [ak wd] at z
       refine (I.hok b v z).stay (fun c' v' hc q'=>x3 c' v' (fun w=>?_) q') (fun c' q'=>?_) fun c' xs q'=>?_
       . rcases hc with hc | hc
         . exact wa (hc ▸ w)
         . rw [w,e] at hc;cases hc
       . rw [ak (fun w=>by rw [w,e] at q';cases q'),ak (au q' nd)];exact q'
       . rw [ak (fun w=>by rw [w,e] at q';cases q'),ak (au q' nd)];exact q'
theorem OT {f:Str} {y:V} {u:Value} {fs:List (Str×V)} (I:Inv X pins σ H s) (c:Hu X.K C fI names) (e:H a=some (XO a C (some dx))) (ed:H dx=some (.xd fs)) (hl:fs.length < 1000) (hf:f ∈ names) (zc:typeLookup (.type "Exception") f=pure none) (ry:RelV y u)
   (k:∀ s',Inv X pins σ (upd H dx (.xd (fH f y fs))) s'->Q () s'):wpAny (model X.prog X.w) A (setAttr (.ref a) f u) Q E s:=by
 obtain ⟨⟨t,ea⟩,_,_⟩:=(show bZ X.prog X.w H s.heap a (XO a C (some dx)) from I.hok a _ e);obtain ⟨mA,n1,rl⟩:=(show bZ X.prog X.w H s.heap dx (.xd fs) from I.hok dx _ ed);obtain ⟨nm,q,N,bs,sn,sub,ab,col,dd,k0,k1,k2,k3,k5,mN,cC,cN,_,hn⟩:=c.at I.rY;have da:dx ≠ a:=fun w=>by rw [w,e] at ed;cases ed
 have aC:a ≠ C:=fun w=>by rw [w,cC] at ea;cases ea
 obtain ⟨hh,g,d,tk,os⟩:=s;refine store_attr PySem.F.store_Exception cC cN (hn _ c.ss) (hn f hf) zc aC ⟨_,ea,rfl,(fun _ z=>by cases z),.inr ⟨dx,rfl,da,n1⟩⟩ (fun h' tk' x1 x2 x3=>?_) (C9 rl) (by rw [List.length_map,sizeLine_eq];omega);obtain ⟨o1,y1,y2,y3,y4,y5⟩:=x3 _ ea;have y6:=y5 dx rfl;have eo:o1=⟨.ref C,some dx,.fields #[.ref t,.none,.none,.none,.bool false,.none],#[]⟩:=by
   obtain ⟨c1,d1,t1,s1⟩:=o1;dsimp only at y2 y3 y4 y6;rw [y2,y3,y4,y6]
 subst eo;have n2:h'.Ns1 dx (fun y'=>if y'=f then some u else mA y'):=by
   obtain ⟨o2,z1,z2,z3,z4⟩:=x1;rw [y1] at z1;cases z1;rcases z4 with ⟨z,_⟩ | ⟨d2,z,_,z5⟩
   . cases z
   . cases z;exact z5
 have kp:∀ b o,b ≠ dx->hh.get? b=some o->h'.get? b=some o:=fun b o nd z=>by
   by_cases w:b=a
   . rw [w] at z ⊢
     rw [ea] at z;cases z;exact y1
   . exact x2 b o w (fun o0 d0 q1 q2=>by rw [ea] at q1;cases q1;cases q2;exact nd) z
 have Xz:∃ o,h'.get? dx=some o:=let ⟨o,_,_,z,_⟩:=n2;⟨o,z⟩;refine k _ (I.un (h':=h') (t':=tk') ⟨fun b o z n _ _=>kp b o (fun w=>by rw [w,ed] at n;cases n) z,fun b o z n _ _=>⟨o.slots,kp b o (fun w=>by rw [w,ed] at n;cases n) z⟩,fun b o z n _=>?_,fun b o z _=>?_,fun b xs z=>?_,fun b o v z=>?_,fun b ps z=>?_⟩ ?_)
 . rw [ak (fun w=>by rw [w,ed] at n;cases n)];exact n
 . by_cases w:b=dx
   . rw [w];exact Xz
   . exact ⟨o,kp b o w z⟩
 . rw [ak (fun w=>by rw [w,ed] at z;cases z)];exact z
 . rw [ak (fun w=>by rw [w,ed] at z;cases z)];exact z
 . exact ⟨#[],by rw [ak (fun w=>by rw [w,ed] at z;cases z),z];simp⟩
 . intro b v z
   by_cases wd:b=dx
   . subst wd
     rw [ai] at z;cases z;refine ⟨_,n2,fun g=>?_⟩;rw [pI];by_cases w:g=f
     . rw [if_pos w,if_pos w];exact ry
     . rw [if_neg w,if_neg w];exact rl g
   . rw [ak wd] at z
     refine (I.hok b v z).stay (fun c' v' hc q'=>kp c' v' (fun w=>?_) q') (fun c' q'=>?_) fun c' xs q'=>?_
     . rcases hc with hc | hc
       . exact wd (hc ▸ w)
       . rw [w,ed] at hc;cases hc
     . rw [ak (fun w=>by rw [w,ed] at q';cases q')];exact q'
     . rw [ak (fun w=>by rw [w,ed] at q';cases q')];exact q'
theorem Rt {f:Str} {v:V} {b:Bool} {fs:List (Str×V)} {Q:Value->Shared->Prop} (I:Inv X pins σ H s) (c:Hu X.K C fI names) (e:H a=some (XR a C dx)) (ed:H dx=some (.xd fs)) (l:fs.lookup f=some v) (hf:f ∈ names) (zc:typeLookup (.type "Exception") f=pure none)
  (k:∀ u s',Inv X pins σ H s'->RelV v u->Q u s'):wpAny (model X.prog X.w) A (getAttr (.ref a) f b) Q E s:=by
 obtain ⟨⟨oe,ea,e1,e2,e3⟩,_,_⟩:=(show bZ X.prog X.w H s.heap a (XR a C dx) from I.hok a _ e);obtain ⟨mA,n1,rl⟩:=(show bZ X.prog X.w H s.heap dx (.xd fs) from I.hok dx _ ed);obtain ⟨nm,q,N,bs,sn,sub,ab,col,dd,k0,k1,k2,k3,k5,mN,cC,cN,_,hn⟩:=c.at I.rY;have da:dx ≠ a:=fun w=>by rw [w,e] at ed;cases ed
 obtain ⟨u,hu,ru⟩:=lX.some_of (v:=v) (o:=mA f) (by rw [<- l];exact rl f);obtain ⟨hh,g,d,tk,os⟩:=s;exact J1 cC cN (hn _ c.ga) (hn _ c.gh) (hn f hf) zc ⟨oe,ea,e1,e3,.inr ⟨dx,e2,da,n1⟩⟩ hu (PySem.W.handedOut_of (zD ru)) (k u _ (I.tok _) ru)
end
section
variable {X:Cx} {C fI:Addr} {names:List Str} {o e value:Expr} {es:List Expr} {f:Str} {pos pos' np cpos:Pos} {ta tv:TE}
def X0 (C:Addr) (ta tv:TE) (f:Str):TS:=fun D σ H=>tv σ H fun y H1=>ta σ H1 fun x H2=>∃ a,x=.ref a/\H2 a=some (XO a C none)/\∀ dx,H2 dx=none->D.nx σ (upd (upd H2 dx (.xd [(f,y)])) a (XO a C (some dx)))
def X3 (C:Addr) (ta tv:TE) (f:Str):TS:=fun D σ H=>tv σ H fun y H1=>ta σ H1 fun x H2=>∃ a dx fs,x=.ref a/\H2 a=some (XO a C (some dx))/\H2 dx=some (.xd fs)/\fs.length < 1000/\D.nx σ (upd H2 dx (.xd (fH f y fs)))
theorem Ru (c:Hu X.K C fI names) (ha:PE X o ta) (hv:PE X value tv) (hf:f ∈ names) (zc:typeLookup (.type "Exception") f=pure none) (hs:swapsWith value (some (.Attribute o f pos')) pos.line X.env=pure false) :
  PS X (.Assign [.Attribute o f pos'] value pos) (X0 C ta tv f):=by
 intro pins s σ H D I h;refine plainObj_wpAny_Assign_Attribute (cT (hv pins s σ H _ I h) fun u s1 ⟨y,H1,I1,ry,q⟩=>cT (ha pins s1 σ H1 _ I1 q) fun ov s2 ⟨x,H2,I2,rx,a,ex,e1,q2⟩=>?_) hs;subst ex;obtain rfl:ov=Value.ref a:=rx;exact OS I2 c e1 hf zc ry fun dx s3 nd I3=>⟨σ,_,I3,q2 dx nd⟩
theorem NF (c:Hu X.K C fI names) (ha:PE X o ta) (hv:PE X value tv) (hf:f ∈ names) (zc:typeLookup (.type "Exception") f=pure none) (hs:swapsWith value (some (.Attribute o f pos')) pos.line X.env=pure false) :
  PS X (.Assign [.Attribute o f pos'] value pos) (X3 C ta tv f):=by
 intro pins s σ H D I h;refine plainObj_wpAny_Assign_Attribute (cT (hv pins s σ H _ I h) fun u s1 ⟨y,H1,I1,ry,q⟩=>cT (ha pins s1 σ H1 _ I1 q) fun ov s2 ⟨x,H2,I2,rx,a,dx,fs,ex,e1,e2,l,q2⟩=>?_) hs;subst ex;obtain rfl:ov=Value.ref a:=rx;exact OT I2 c e1 e2 l hf zc ry fun s3 I3=>⟨σ,_,I3,q2⟩
def X4 (C:Addr) (ta:TE) (f:Str):TE:=fun σ H Q=>ta σ H fun x H1=>∃ a dx fs v,x=.ref a/\H1 a=some (XR a C dx)/\H1 dx=some (.xd fs)/\fs.lookup f=some v/\Q v H1
theorem J2 (c:Hu X.K C fI names) (he:PE X e ta) (hf:f ∈ names) (zc:typeLookup (.type "Exception") f=pure none) (hb:attributeBase e f X.env (eval e X.env)=eval e X.env):PE X (.Attribute e f pos) (X4 C ta f):=by
 intro pins s σ H Q I h;refine Ft hb (cT (he pins s σ H _ I h) fun u s1 ⟨x,H1,I1,rx,a,dx,fs,v,ex,e1,e2,l,q⟩=>?_);subst ex;obtain rfl:u=Value.ref a:=rx;exact Rt I1 c e1 e2 l hf zc fun u' s2 I2 ru=>⟨v,H1,I2,ru,q⟩
def OU (C:Addr) (sp:Sp) (E:XK) (t:TA):TS:=fun _ σ H=>t σ H fun vs H1=>vs.length<=sizeLine/\∀ a,H1 a=none->
 sp (.ref a::vs) (upd H1 a (XO a C none)) (fun v H2=>v=.non/\∃ dx,H2 a=some (XO a C (some dx))/\E (.ref C) (some dx) (drop H2 a)) E0
def Raises (X:Cx) (E:XK):Prop:=∀ (pins:List (Addr×Obj)) (σ:St) (H:Hp) (s:Shared) (a C dx:Addr),Inv X pins σ H s->Ed s.heap a (.ref C) (some dx) none->Hr X pins H [a]->E (.ref C) (some dx) H->X.xe (.ref a) s
theorem J3 {k:Nat} {fd:FuncData} {ps:List Str} {sp:Sp} {x:Str} {t:TA} {E:XK} (Hs:X.ex=[]) (c:Hu X.K C fI names) (F:bI X.prog X.w X.K X.mg X.base mr k fI fd ps sp) (hr:cU (k+1) X.A) (hg:Gl X x) (hm:X.mg x=some (.ref C))
  (hb:Binds X.K fd ps []) (hR:Raises X E) (ha:PA X (e::es) t) (hdb:(x==("__debug__":Str))=false:=by decide) (he:starEach (e::es) X.env=(false,eval e X.env)::starEach es X.env:=by rfl) (hpl:(backTo cpos (starEach es X.env)).any (·.1)=false:=by rfl) :
  PS X (.Raise (some (.Call (.Name x np) (e::es) [] cpos)) none pos) (OU C sp E t):=by
 intro pins s σ H D I h;rw [arm_exec_Raise];obtain ⟨nm,q,N,bs,sn,sub,ab,col,dd,k0,k1,k2,k3,k5,mN,cC,_,_,_⟩:=c.at I.rY;refine wpAny_bind (wpAny_standAt (Hq (C:=C) (nm:=nm) (q:=q) (N:=N) (bs:=bs) (bm:=cK) (hdct:=true) (sn:=sn) (sub:=sub) (ab:=ab) (col:=col) (dd:=dd) (k0:=k0) (k1:=k1) (k2:=k2) (k3:=k3) (k5:=k5) (newId:="Exception.__new__") (by decide) hr.hd ?_));refine wpAny_bind (cT (Q:=fun v s1=>∃ e t dx sl,v=.ref e/\s1.heap.get? C=some (excClassObj nm q C N bs cK true sn sub ab col dd k0 k1 k2 k3 k5 "Exception.__new__")/\s1.heap.get? e=some ⟨.ref C,dx,.fields #[.ref t,.none,.none,.none,.bool false,.none],sl⟩/\X.xe (.ref e) s1) ?_ fun v s1 z=>wpAny_bind (wpAny_standAt (wpAny_pure z)));refine wpAny_Call_Name_kw (qR I hg hm ?_ hdb);refine PySem.W.callWith_K (h₀:=X.base) I.ok.mod.kin c.kp (cT (ha cpos pins s σ H _ I h) fun us s1 ⟨vs,H1,I1,r,hz,q1⟩=>⟨I1.rY,?_⟩) he hpl;obtain ⟨nm',q',N',bs',sn',sub',ab',col',dd',k0',k1',k2',k3',k5',mN,X5,cN,ci,hn⟩:=c.at I1.rY;have same:∀ s':Shared,X.K.In s'.heap->s'.heap.get? C=some (excClassObj nm q C N bs cK true sn sub ab col dd k0 k1 k2 k3 k5 "Exception.__new__"):=fun s' z=>by
  obtain ⟨_,_,_,_,_,_,_,_,_,_,_,_,_,_,l,_⟩:=c.ex;have z1:=I.rY _ _ l;rw [cC] at z1;rw [Option.some.inj z1];exact z _ _ l
 obtain ⟨oI,fi,fc⟩:=c.init I1.rY;obtain ⟨hh,g,d,tk,os⟩:=s1;show wpAny _ _ (call (.ref C) us) _ _ _;refine wpAny_call_exc_init PySem.F.excBase_Exception X5 cN ci fi fc (fun h' ea made=>?_) (by rw [<- r.length];exact hz);obtain ⟨t0,t1,t2,t3⟩:=made.there;have nH:H1 ea=none:=by
  cases z:H1 ea with
  | none=>rfl
  | some u=>
   obtain ⟨o,w⟩:=(I1.hok ea u z).there;have w':hh.get? ea=some o:=w;rw [made.new] at w';cases w'
 obtain ⟨nw,np⟩:=I1.OP (b:=ea) made.new Hs;have e3:ea ≠ X.env.locals:=fun z=>by
  obtain ⟨m,⟨o,_,_,ho,_⟩,_⟩:=I1.loc;have ho':hh.get? X.env.locals=some o:=ho;rw [<- z,made.new] at ho';cases ho'
 have e4:∀ x c,X.env.cells.lookup x=some c->c ≠ ea:=fun x c hc z=>by
  obtain ⟨v,o,ho,_⟩:=I1.cell x c hc;have ho':hh.get? c=some o:=ho;rw [z,made.new] at ho';cases ho'
 have I2:Inv X pins σ H1 ⟨h',g,d,tk,os⟩:=I1.kept (h':=h') (t':=tk) made.keeps;have I3:Inv X pins σ (upd H1 ea (XO ea C none)) ⟨h',g,d,tk,os⟩:=I2.tracked nH nw e3 e4 np (XO.ok t1);have hq:=q1 ea nH;have r2:Vals (V.ref ea::vs) (Value.ref ea::us):=.cons rfl r;have hl:(Value.ref ea::us++[]).length=ps.length:=by
  rw [List.append_nil,<- r2.length];exact F.len _ _ _ _ hq
 have hbn:=hb _ (Value.ref ea::us) I3.rY hl;rw [List.append_nil] at hbn;refine wpAny_call (codeAny_mono (F.run _ X.stack _ _ ⟨Value.ref ea::us,[]⟩ (Value.ref ea::us) _ _ E0 (hr.make C us []) (I3.L7.make C us []) hbn r2 hq) fun r s' hq'=>?_);cases r with
 | error e=>exact False.elim hq'
 | ok fl=>
  cases fl with
  | next=>exact False.elim hq'
  | brk=>exact False.elim hq'
  | cont=>exact False.elim hq'
  | ret u=>
   obtain ⟨v,H',I4,rv,ev,dx,ex,hE⟩:=I3.after hq';subst ev;obtain ⟨⟨tt,ea'⟩,_,_⟩:=(show bZ X.prog X.w H' s'.heap ea (XO ea C (some dx)) from I4.hok ea _ ex);have I5:=I4.dropped ex;refine ⟨rv,ea,tt,some dx,#[],rfl,same s' I4.rY,ea',?_⟩;exact hR pins σ _ s' ea C dx I5 ⟨_,_,ea',rfl,rfl,rfl,rfl⟩ (fun b hb=>by rw [show b=ea by simpa using hb];exact ⟨uN,nw,np⟩) hE
end
section
variable {P:Program} {w:World} {K:Zqq} {mg:Str->Option Value} {base:Heap} {N:List Str} {qual:Str} {scope:Scope} {f:Addr} {cd:Value} {A:Around} {outer:List Env} {s0:Shared} {H0:Hp} {E:XK}
theorem LZ:Raises (mX (rB P w) P w K mg base N qual scope f cd A outer s0 H0 E) E:=fun pins σ H s a C dx I x nw hE=>bW I x (fun _ _ z=>by cases z) nw hE
end
end L2
namespace HT
open PySem PyProof.Rows
def lexLe:List Int->List Int->Bool
 | [],_=>true
 | _::_,[]=>false
 | x::xs,y::ys=>if x=y then lexLe xs ys else decide (x<=y)
theorem nO (x y:Int) (xs ys:List Int):lexLe (x::xs) (y::ys)=if x=y then lexLe xs ys else decide (x<=y):=rfl
theorem zU (ys:List Int):lexLe [] ys=true:=by cases ys<;>rfl
theorem yc (x:Int) (xs:List Int):lexLe (x::xs) []=false:=rfl
theorem J9 (A:Around) (s:Shared) (a:Int) (t:Tok) (c:Int) (u:Tok) (prog:Program) (w:World) (E:Value->Shared->Prop) (Q:Value->Shared->Prop) (h:Q (.bool (decide (a<=c))) s) :
  wpAny (model prog w) A (richCompare .LtE (.int a t) (.int c u)) Q E s:=
 (PyProof.Rows.le_int h:wpAny (model prog w) A (compareOp .LtE (.int a t) (.int c u)) Q E s)
section
open PySem.SeqAt
open PySem.AutoSeq1 (wpAny_loadPart')
open PySem.MeetsSeq PySem.MeetsSeq2 PySem.MeetsSeq3
theorem zd (l b:Addr) (items items2:Array Value) (n n2:Nat) (dd dd2:Option Addr) (sl sl2:Array (Option Value)) (ns ms:List Int) (hi:IntsAre items.toList ns) (hj:IntsAre items2.toList ms) :
   Meets (Builtin.«tuple.__le__» ⟨[.ref l,.ref b],[]⟩)
     (fun _ R s=>s.heap.get? l=some { cls:=.type "tuple",dict:=dd,data:=.seq items n,slots:=sl }/\s.heap.get? b=some { cls:=.type "tuple",dict:=dd2,data:=.seq items2 n2,slots:=sl2 } /\
       R (.ok (.ret (.bool (lexLe ns ms)))) s):=
 .of_wp fun prog w A R s h=>by
   obtain ⟨hp,g,d,tk,os⟩:=s;obtain ⟨hl,hb,h⟩:=h
   have f2:=AutoSeq1.sub_tuple_tuple
   have z1:items.size=ns.length:=by rw [<- hi.length];simp
   have z2:items2.size=ms.length:=by rw [<- hj.length];simp
   wp_walk using wpAny_loadPart' hl,wpAny_loadPart' hb,wpAny_forIn_list _ (fun rest b s'=>b.1=none/\s'=⟨hp,g,d,tk,os⟩/\∃ (vs ws:List Value) (ns' ms':List Int),rest=vs.zip ws /\
     IntsAre vs ns'/\IntsAre ws ms'/\ns'.length+items2.size=ms'.length+items.size/\R (.ok (.ret (.bool (lexLe ns' ms')))) ⟨hp,g,d,tk,os⟩) _
   case turn=>
     rintro ⟨y,x⟩ rest b s' ⟨hb',rfl,vs,ws,ns',ms',hz,U6,hwi,hlen,hR⟩
     cases U6 with
     | nil=>rw [List.zip_nil_left] at hz;cases hz
     | cons a t U7=>
       cases hwi with
       | nil=>rw [List.zip_nil_right] at hz;cases hz
       | cons c u hwi'=>
         rw [List.zip_cons_cons] at hz
         injection hz with hyx hrest
         injection hyx with hy hx
         subst hy hx
         rw [nO] at hR
         simp only [List.length_cons] at hlen
         obtain ⟨e,he,hiff⟩:=Cm A.in1 ⟨hp,g,d,tk,os⟩ a t c u
         refine wpAny_bind (he prog w _ _ ?_)
         cases e with
         | true=>
           rw [if_pos (hiff.mp rfl)] at hR
           wp_walk
           exact ⟨rfl,rfl,_,_,_,_,hrest,U7,hwi',by omega,hR⟩
         | false=>
           rw [if_neg (fun q=>absurd (hiff.mpr q) Bool.false_ne_true)] at hR
           have U8:=J9 A.in1 ⟨hp,g,d,tk,os⟩ a t c u prog w
           wp_walk using U8
           exact ⟨_,rfl,by simpa using hR⟩
   case fin=>
     rintro ⟨b1,b2⟩ s' ⟨hb',rfl,vs,ws,ns',ms',hz,U6,hwi,hlen,hR⟩
     simp only at hb'
     subst hb'
     have hv:lexLe ns' ms'=decide (items.size<=items2.size):=by
       cases U6 with
       | nil=>
         have:ms'.length=ms'.length:=rfl;simp only [List.length_nil] at hlen;rw [zU];exact (decide_eq_true (by omega)).symm
       | cons a t hv=>
         cases hwi with
         | nil=>
           simp only [List.length_nil,List.length_cons] at hlen;rw [yc];exact (decide_eq_false (by omega)).symm
         | cons c u hw=>
           rw [List.zip_cons_cons] at hz;cases hz
     rw [hv] at hR
     wp_walk
     exact ⟨_,rfl,by simpa [Builtin.Tuple.tupleCompareSizes] using hR⟩
   case h=>
     exact ⟨rfl,rfl,items.toList,items2.toList,ns,ms,rfl,hi,hj,by omega,h⟩
end
section
variable {prog:Program} {w:World} {A:Around} {E:Value->Shared->Prop} {s:Shared}
theorem EC {l b:Addr} {items items2:Array Value} {ns ms:List Int} {Q:Value->Shared->Prop} (hl:IsTup s.heap l items) (hb:IsTup s.heap b items2) (hi:IntsAre items.toList ns) (hj:IntsAre items2.toList ms)
   (hu:A.units < cLine) (h:Q (.bool (lexLe ns ms)) s):wpAny (model prog w) A (compareOp .LtE (.ref l) (.ref b)) Q E s:=by
 obtain ⟨⟨cls,dd,data,sl⟩,ho,hc,n,hd⟩:=id hl;obtain ⟨⟨O2,dd2,data2,sl2⟩,ho2,hc2,n2,hd2⟩:=id hb;simp only at hc hd hc2 hd2;subst hc hd hc2 hd2;exact richCompare_meets_room (op:=.LtE) ⟨_,ho,rfl⟩ ⟨_,ho2,rfl⟩ PySem.F.slot_tuple_le PySem.F.entry_tuple_le (PySem.F.args_tuple_le_2 _ _) (zd l b items items2 n n2 dd dd2 sl sl2 ns ms hi hj)
   ⟨ho,ho2,show Value.bool (lexLe ns ms) ≠ Value.notImplemented/\Q (.bool (lexLe ns ms)) s from ⟨(fun x=>nomatch x),h⟩⟩ hu
end
end HT
namespace L2
open PySem PySem.Spec PyProof.Rows XL
section
variable {X:Cx}
def U9 (K:Zqq):R2:=fun x y H Q=>∃ a b ns ms,x=.ref a/\y=.ref b/\j0 K H a (ns.map V.int)/\j0 K H b (ms.map V.int)/\Q (.bl (HT.lexLe ns ms)) H
theorem OV (hu:X.A.units < cLine):vq X (compareOp .LtE) (U9 X.K):=by
 intro pins s σ H x y v u Q I rx ry h;obtain ⟨a,b,ns,ms,rfl,rfl,ha,hb,q⟩:=h;cases rx;cases ry;obtain ⟨its,r1,p1,_⟩:=I.tuple ha;obtain ⟨its2,r2,p2,_⟩:=I.tuple hb;have i1:IntsAre its.toArray.toList ns:=intsAre_of r1;have i2:IntsAre its2.toArray.toList ms:=intsAre_of r2;exact HT.EC p1 p2 i1 i2 hu ⟨.bl (HT.lexLe ns ms),H,I,rfl,q⟩
def OW (i:Nat) (f:Addr) (sp:Sp) (E:XK) (t:TA):TE:=fun σ H Q=>σ[i]?=some (some (.ref f))/\t σ H fun vs H1=>sp vs H1 Q E
theorem CA {CX:Ec} {k i:Nat} {f:Addr} {fd:FuncData} {ps:List Str} {sp:Sp} {E:XK} {x:Str} {p pos:Pos} {e:Expr} {es:List Expr} {t:TA} (F:bI X.prog X.w X.K X.mg X.base CX k f fd ps sp) (hr:cU k X.A)
  (hk:PySem.W.keepIn X.K (.ref f)=true) (hb:Binds X.K fd ps []) (hx:Passes CX X E) (ha:PA X (e::es) t) (hN:X.N[i]?=some x:=by rfl)
  (hv:Oe X.env.scope x:=by first | exact Or.inl rfl | exact Or.inr (Or.inl rfl) | exact Or.inr (Or.inr rfl)) (hdb:(x==("__debug__":Str))=false:=by decide) (hcd:(x==("__classdict__":Str))=false:=by decide)
  (he:starEach (e::es) X.env=(false,eval e X.env)::starEach es X.env:=by rfl) (hpl:(backTo pos (starEach es X.env)).any (·.1)=false:=by rfl) :
  PE X (.Call (.Name x p) (e::es) [] pos) (OW i f sp E t):=by
 intro pins s σ H Q I h;obtain ⟨h1,h⟩:=h;refine wpAny_Call_Name_kw (cT (IF (X:=X) (i:=i) (x:=x) (pos:=p) hN hv hdb hcd pins s σ H (fun v H1=>v=.ref f/\H1=H) I ⟨_,h1,rfl,rfl⟩) fun u s1 ⟨v,H1,I1,rv,ev,eH⟩=>?_);subst ev eH;obtain rfl:u=Value.ref f:=rv;refine PySem.W.callWith_K (h₀:=X.base) I.ok.mod.kin hk (cT (ha pos pins s1 σ H1 _ I1 h) fun us s2 ⟨vs,H2,I2,r,q⟩=>⟨I2.rY,?_⟩) he hpl;exact xO F hr hb .nil hx I2 r (by rw [List.append_nil];exact q)
end
structure vz (k:Nat) (A:Around):Prop where
 dp:A.depth+3 * k+5 < recursionLimit
 un:A.units+16 * k+200 < cLine
theorem vz.deeper {k:Nat} {A:Around} (r:vz (k+1) A) (env:Env):vz k (A.deeper env):=
 ⟨by have:=r.dp;show A.depth+1+3 * k+5 < _;omega,by have:=r.un;show A.units+3+16 * k+200 < _;omega⟩
theorem vz.depth {k:Nat} {A:Around} (r:vz k A):A.depth < recursionLimit:=by have:=r.dp;omega
structure JA (P:Program) (w:World) (K:Zqq) (mg:Str->Option Value) (base:Heap) (k:Nat) (f:Addr) (fd:FuncData) (ps:List Str) (sp:Sp):Prop where
 len:∀ vs H Q E,sp vs H Q E->vs.length=ps.length
 run:∀ (A:Around) (outer:List Env) (s:Shared) (H:Hp) (args:Args) (us:List Value) (vs:List V) (Q:VK) (E:XK),vz k A->A3 P w K mg base A outer s H->BindsTo s fd args (ps.zip us)->Vals vs us->sp vs H Q E->
   codeAny (model P w) A (.call (.ref f) args) (CR mr outer P w H s Q E) s
abbrev Cx.Rv (X:Cx):Cx:={ X with calm:=false }
theorem ED {P:Program} {w:World} {K:Zqq} {mg:Str->Option Value} {base:Heap} {N ps:List Str} {qual:Str} {scope:Scope} {f:Addr} {cd:Value} {A:Around} {outer:List Env} {s s1:Shared} {H:Hp} {E:XK} {us:List Value} {vs:List V}
  (S:aM N ps scope) (e0:A3 P w K mg base A outer s H) (hl:vs.length=ps.length) (r:Vals vs us)
  (x:InCallC s s.heap.objs.size (bindL (envOfC qual scope s.heap.objs.size f cd).kindOf (ps.zip us) fun _=>none) (cellsFrom (s.heap.objs.size+1) scope.names []) (bindC (envOfC qual scope s.heap.objs.size f cd).kindOf (ps.zip us) fun _=>none) s1) :
  Inv (mX mr P w K mg base N qual scope f cd A outer s H E).Rv [] (start N vs) H s1:=by
 have I:Inv (mX mr P w K mg base N qual scope f cd { A with handled:=none } outer s H E) [] (start N vs) H s1:=zI S rfl ⟨e0.frames,e0.mod,e0.bs,e0.G3,e0.r9,e0.IE,e0.hok,e0.bare⟩ hl r x;exact ⟨⟨I.ok.mod,I.ok.kind,I.ok.glob,I.ok.blt,I.ok.above,I.ok.inj,I.ok.has,I.ok.Ny,(fun z=>Bool.noConfusion z),I.ok.frames,I.ok.Ly,I.ok.Of,I.ok.bs,I.ok.G3,I.ok.Cf,I.ok.Cg,I.ok.r9,I.ok.IE⟩,I.os,I.bare,I.base,I.loc,I.cell,I.free,I.gY,I.pin,I.hok,I.len⟩
theorem OX {P:Program} {w:World} {K:Zqq} {mg:Str->Option Value} {base:Heap} {k:Nat} {f:Addr} {name qual:Str} {params:Arguments} {body:List Stmt} {scope:Scope} {dV kV doc pm cdv ct oc:Value} {an od:Option Addr}
   {osl:Array (Option Value)} {N ps:List Str} {sp:Sp} (lk:K.lookup f=some ⟨oc,od,.func (PySem.W.fnOf name qual params body scope dV kV doc pm an cdv ct),osl⟩) (hcd:PySem.W.codeIn K cdv qual=true) (S:aM N ps scope)
   (len:∀ vs H Q E,sp vs H Q E->vs.length=ps.length)
   (hbody:∀ (A:Around) (outer:List Env) (s:Shared) (H:Hp) (vs:List V) (Q:VK) (E:XK),vz k (A.deeper (envOfC qual scope s.heap.objs.size f cdv))->sp vs H Q E->
     ∃ t,Ax (mX mr P w K mg base N qual scope f cdv A outer s H E).Rv.Qs body t/\t { nx:=fun _ H'=>Q .non H',rt:=Q } (start N vs) H) :
   JA P w K mg base (k+1) f (PySem.W.fnOf name qual params body scope dV kV doc pm an cdv ct) ps sp:=by
 refine ⟨len,fun A outer s H args us vs Q E hr e0 hb r Eu=>?_⟩;have hl:=len _ _ _ _ Eu;have KX:K.In s.heap:=e0.mod.kin.keeps fun b o e=>(e0.bs b o e).1;have lim:s.heap.NoLimit:=e0.mod.nolimit.keeps fun b o e=>(e0.bs b o e).1;have hkind:∀ y ∈ ps.zip us,scope.names.lookup y.1=some .local\/(scope.names.lookup y.1=some .cell/\((cellsFrom (s.heap.objs.size+1) scope.names []).lookup y.1).isSome=true):=fun ⟨n,v⟩ hy=>by
   rcases S.par n (List.of_mem_zip hy).1 with q | q
   . exact .inl q
   . exact .inr ⟨q,PySem.W.cellsFrom_some _ _ _ (.inl q)⟩
 refine codeAny_call_function hr.depth (KX _ _ lk) rfl S.co S.gen rfl (PySem.W.codeRec_of KX hcd) (hb _ _ _ _ ?_);refine wpAny_newFunctionEnv_cells S.kind hkind fun env he s1 x=>?_;subst he;refine ⟨lim.keeps x.toInCall.keep,codeAny_func ?_⟩;obtain ⟨t,ht,hq⟩:=hbody A outer s H vs Q E (hr.deeper _) Eu;have I:=ED (E:=E) S e0 hl r x;refine wpAny_mono (ht [] s1 (start N vs) H _ (I.xD _) hq) (fun fl s' hs=>?_) fun e s' hs=>False.elim hs;cases fl with
 | ret u=>
   obtain ⟨v,σ',H',J,rv,q⟩:=hs;exact ⟨v,H',J.os,J.bare,J.base,J.hok,rv,q⟩
 | next=>
   obtain ⟨σ',H',J,q⟩:=hs;exact ⟨.non,H',J.os,J.bare,J.base,J.hok,rfl,q⟩
 | brk=>
   obtain ⟨_,_,_,q⟩:=hs;exact False.elim q
 | cont=>
   obtain ⟨_,_,_,q⟩:=hs;exact False.elim q
section
variable {X:Cx}
theorem JB {k:Nat} {f:Addr} {fd:FuncData} {ps:List Str} {sp:Sp} {x:Str} {p pos:Pos} {e:Expr} {es:List Expr} {t:TA} (F:JA X.prog X.w X.K X.mg X.base k f fd ps sp) (hr:vz k X.A) (hg:Gl X x) (hm:X.mg x=some (.ref f))
  (hk:PySem.W.keepIn X.K (.ref f)=true) (hb:Binds X.K fd ps []) (ha:PA X (e::es) t) (hdb:(x==("__debug__":Str))=false:=by decide)
  (he:starEach (e::es) X.env=(false,eval e X.env)::starEach es X.env:=by rfl) (hpl:(backTo pos (starEach es X.env)).any (·.1)=false:=by rfl):PE X (.Call (.Name x p) (e::es) [] pos) (Je sp [] E0 t):=by
 intro pins s σ H Q I h;refine wpAny_Call_Name_kw (qR I hg hm ?_ hdb);refine PySem.W.callWith_K (h₀:=X.base) I.ok.mod.kin hk (cT (ha pos pins s σ H _ I h) fun us s1 ⟨vs,H1,I1,r,q⟩=>⟨I1.rY,?_⟩) he hpl;have q:sp (vs++[]) H1 Q E0:=q;rw [List.append_nil] at q;have hl:(us++[]).length=ps.length:=by rw [List.append_nil,<- r.length];exact F.len _ _ _ _ q
 have hbn:=hb s1 us I1.rY hl;rw [List.append_nil] at hbn;refine wpAny_call (codeAny_mono (F.run X.A X.stack s1 H1 ⟨us,[]⟩ us vs Q E0 hr I1.L7 hbn r q) fun r s' hq=>?_);cases r with
 | error e=>exact False.elim hq
 | ok fl=>
  cases fl with
  | ret u=>exact I1.after hq
  | next=>exact False.elim hq
  | brk=>exact False.elim hq
  | cont=>exact False.elim hq
end
abbrev Cx.hand (X:Cx) (ea:Addr):Cx:={ X with A:=X.A.mark (some (.ref ea)),calm:=false,xe:=fun _ _=>False }
section
variable {X:Cx} {pins:List (Addr×Obj)} {σ:St} {H:Hp} {s:Shared}
theorem Inv.hand (I:Inv X pins σ H s) (ea:Addr):Inv (X.hand ea) pins σ H s:=
 ⟨⟨I.ok.mod,I.ok.kind,I.ok.glob,I.ok.blt,I.ok.above,I.ok.inj,I.ok.has,I.ok.Ny,(fun z=>Bool.noConfusion z),I.ok.frames,I.ok.Ly,I.ok.Of,I.ok.bs,I.ok.G3,I.ok.Cf,I.ok.Cg,I.ok.r9,I.ok.IE⟩,I.os,I.bare,I.base,I.loc,I.cell,I.free,I.gY,I.pin,I.hok,I.len⟩
theorem Inv.JC {ea:Addr} {h':Heap} {t':Nat} {m':Str->Option Value} (ok:X.Ok) (Zq:X.ex=[]) (I:Inv (X.hand ea) pins σ H s) (n:h'.Ns X.env.locals m') (sb:Heap.SameBut X.env.locals s.heap h') :
   Inv X pins (List.replicate X.N.length none) H { s with heap:=h',toks:=t' }:=by
 have kp:∀ b o,b ≠ X.env.locals->s.heap.get? b=some o->h'.get? b=some o:=fun b o n q=>by rw [sb.2 b n];exact q
 have Lz:∀ b o,X.u9.heap.get? b=some o->b ≠ X.env.locals:=fun b o e=>Nat.ne_of_lt (Nat.lt_of_lt_of_le (Heap.lt_size e) ok.above);have fr:H X.env.locals=none:=I.free;refine ⟨ok,I.os,I.bare,⟨fun b o e n hb hx=>kp b o (Lz b o e) (I.base.keep b o e n hb hx),fun b o e n hb hx=>?_,I.base.free,fun b o e hx=>?_,I.base.tups,I.base.rX,I.base.uB⟩,⟨m',n,fun i x v _ e2 _=>?_⟩,fun x c e=>?_,I.free,I.gY,fun p hp=>?_,fun b u e=>?_,by simp⟩
 . obtain ⟨sl,q⟩:=I.base.slot b o e n hb hx
   exact ⟨sl,kp b _ (Lz b o e) q⟩
 . obtain ⟨o',q⟩:=I.base.there b o e hx
   exact ⟨o',kp b o' (Lz b o e) q⟩
 . rw [List.getElem?_replicate] at e2
   split at e2<;>cases e2
 . obtain ⟨v,o,ho,hd⟩:=I.cell x c e
   exact ⟨v,o,kp c o (I.Lu x c e) ho,hd⟩
 . obtain ⟨z1,z2,z3,z4⟩:=I.pin p hp
   exact ⟨kp _ _ z3 z1,z2,z3,z4⟩
 . refine (I.hok b u e).stay (fun c v hc q=>kp c v (fun z=>?_) q) (fun _ q=>q) fun _ _ q=>q
   rcases hc with hc | hc
   . rw [z] at hc;rw [<- hc,fr] at e;cases e
   . rw [z,fr] at hc;cases hc
end
abbrev Cx.Hv (X:Cx) (pn:List (Addr×Obj)) (Z:Value->Shared->Prop):Cx:={ X with pn:=pn,xe:=Z }
def Ma (X:Cx) (pn:List (Addr×Obj)) (Z:Value->Shared->Prop) (E:XK):Prop:=Passes (rB X.prog X.w) (X.Hv pn Z) E
section
variable {X:Cx} {pins NG:List (Addr×Obj)} {σ:St} {H:Hp} {s:Shared} {Z:Value->Shared->Prop}
theorem Inv.Hv (I:Inv X pins σ H s):Inv (X.Hv (X.pn++pins) Z) [] σ H s:=
 ⟨⟨I.ok.mod,I.ok.kind,I.ok.glob,I.ok.blt,I.ok.above,I.ok.inj,I.ok.has,I.ok.Ny,I.ok.hd,I.ok.frames,I.ok.Ly,I.ok.Of,I.ok.bs,I.ok.G3,I.ok.Cf,I.ok.Cg,I.ok.r9,I.ok.IE⟩,I.os,I.bare,I.base,I.loc,I.cell,I.free,I.gY,
   fun p hp=>I.pin p (by simpa using hp),I.hok,I.len⟩
theorem Inv.CB (ok:X.Ok) (I:Inv (X.Hv (X.pn++pins) Z) NG σ H s):Inv X pins σ H s:=
 ⟨ok,I.os,I.bare,I.base,I.loc,I.cell,I.free,I.gY,fun p hp=>I.pin p (List.mem_append_left _ hp),I.hok,I.len⟩
end
section
variable {X:Cx} {C fI:Addr} {names:List Str} {xc n:Str} {np hpos pos:Pos} {body suite:List Stmt} {b0:Stmt} {tb th:TS} {E:XK} {i:Nat} {Qr:VK}
def UA (tb:TS) (Qr:VK):TS:=fun D σ H=>(∀ v H',Qr v H'->D.rt v H')/\tb D σ H
theorem OY (W:Own X) (Hs:X.ex=[]) (hN:X.N.Nodup) (c:Hu X.K C fI names) (hg:Gl X xc) (hm:X.mg xc=some (.ref C)) (hi:X.N[i]?=some n) (hl:X.env.kindOf n=some .local) (Tg:X.env.scope.names.lookup n=some .local)
   (hb:∀ pn Z,Ma X pn Z E->Ax (X.Hv pn Z) body tb) (hs:∀ ea,Ax (X.hand ea) (b0::suite) th)
   (hE:∀ C' dx H,E C' (some dx) H->C'=.ref C/\∀ a,H a=none->th { nx:=fun _ _=>False,rt:=Qr } ((List.replicate X.N.length none).set i (some (.ref a))) (upd H a (XR a C dx))) (hdb:(xc==("__debug__":Str))=false:=by decide) :
   PS X (.Try body [.ExceptHandler (some (.Name xc np)) (some n) (b0::suite) hpos] [] [] pos) (UA tb Qr):=by
 intro pins s σ H D I h;obtain ⟨hQ,h⟩:=h;have Qz:=I.ok;have hcls:(X.env.scope.kind==.class||(X.env.scope.kind==.module&&X.env.locals != X.env.globals))=false:=by rw [I.ok.kind];rfl
 refine wpAny_Try_except (wpAny_mono (hb (X.pn++pins) (fun e s1=>wpAny (model X.prog X.w) X.A (noteFrame e X.env) (fun _ s2=>wpAny (model X.prog X.w) X.A (setFlight e none) (fun _ s3=>
   wpAny (model X.prog X.w) X.A (handleBy e X.env [.ExceptHandler (some (.Name xc np)) (some n) (b0::suite) hpos]) (SP X pins D) X.xe s3) X.xe s2) X.xe s1) ?_ [] s σ H D I.Hv h) (fun f s1 q=>?_) fun e s1 q=>q)
 rotate_left
 . cases f with
   | next=>obtain ⟨σ',H',I',q⟩:=q;exact wpAny_execs_nil ⟨σ',H',I'.CB Qz,q⟩
   | ret u=>obtain ⟨v,σ',H',I',r,q⟩:=q;exact ⟨v,σ',H',I'.CB Qz,r,q⟩
   | brk=>obtain ⟨σ',H',I',q⟩:=q;exact ⟨σ',H',I'.CB Qz,q⟩
   | cont=>obtain ⟨σ',H',I',q⟩:=q;exact ⟨σ',H',I'.CB Qz,q⟩
 intro NG σ1 H1 s1 e s2 I1 hx;have X6:Inv X pins σ1 H1 s1:=I1.CB Qz;obtain ⟨a,T,C',dx,H',rfl,I2,x2,nw,X7⟩:=X6.back (P:=X.prog) (w:=X.w) Hs hx;obtain ⟨eC,hsuite⟩:=hE _ _ _ X7;cases eC;show wpAny _ _ (noteFrame (.ref a) X.env) _ _ s2;refine I2.noted W Hs x2 (fun T fl e=>by cases e;exact .inl rfl) nw fun h3 T3 I3 x3 UB=>?_;refine I3.flown (fr:=none) x3 UB fun h4 I4 x4=>?_;have J4:=I4.hand a;obtain ⟨nm,q,N,bs,sn,sub,ab,col,dd,k0,k1,k2,k3,k5,mN,cC,_,_,_⟩:=c.at I4.rY;obtain ⟨oe,vs,ce,e1,e2,e3,_⟩:=id x4;refine wpAny_handleBy_cons (codeAny_handlers_test (qR (X:=X.hand a) J4 hg hm ?_ hdb)) (by intro q;cases q);refine wpAny_excMatches_sub_self cC ce e1 (by decide) ?_;refine codeAny_handlers_suite_as ?_;refine Inv.flown (X:=X.hand a) (fr:=none) J4 x4 UB fun h5 J5 x5=>?_;obtain ⟨X8,Zr,VM,d1,d2,d3,_⟩:=id x5;obtain ⟨nl,nc⟩:=J5.apart VM d3;obtain ⟨nH,nz,np'⟩:=UB a (by simp);refine uC (X:=X.hand a) J5 hN hi (.inl Tg) (v:=.ref a) rfl (fun s6 J6 ⟨ad,sb,hor⟩=>?_) (.inr Tg);have X9:a ≠ ad:=fun z=>by
   rcases hor with w | w
   . exact nl (z.trans w)
   . exact nc _ _ w z.symm
 have XA:s6.heap.get? a=some X8:=by rw [sb.2 a X9];exact VM
 have VN:i < X.N.length:=(List.getElem?_eq_some_iff.mp hi).1;have XC:Inv (X.hand a) pins ((List.replicate X.N.length none).set i (some (.ref a))) H' s6:=J6.weak (by
   have:=J5.len;simp only [List.length_set,List.length_replicate];exact this.symm) fun j v ej=>by
     by_cases z:j=i
     . subst z
       rw [List.getElem?_set_self (by simpa using VN)] at ej;have XD:σ1.length=X.N.length:=J5.len;rw [List.getElem?_set_self (by rw [XD];exact VN)];exact ej
     . rw [List.getElem?_set_ne (Ne.symm z),List.getElem?_replicate] at ej
       split at ej<;>cases ej
 have J7:=XC.tracked (a:=a) nH nz nl nc np' (XR.ok (dx:=dx) XA d1 d2 fun cc z=>by rw [d3] at z;cases z);refine wpAny_mono (hs a pins s6 _ _ _ J7 (hsuite a nH)) (fun f s7 q=>?_) fun _ _ z=>z.elim;cases f with
 | ret u=>
   obtain ⟨v,σ7,H7,J8,rv,qv⟩:=q;obtain ⟨m,hn,_⟩:=J8.loc;refine wpAny_nameGoes (env:=X.env) hl hn hcls fun h9 m9 n9 XE=>?_;exact ⟨v,_,H7,J8.JC Qz Hs n9 XE,rv,hQ _ _ qv⟩
 | next=>obtain ⟨_,_,_,q⟩:=q;exact q.elim
 | brk=>obtain ⟨_,_,_,q⟩:=q;exact q.elim
 | cont=>obtain ⟨_,_,_,q⟩:=q;exact q.elim
end
end L2
namespace L2
open PySem PySem.Spec PyProof.Rows XL
structure NH (K:Zqq) (C:Addr) (m:Str) (f:Addr):Prop where
 sp:PySem.W.specialIn K (.ref C) "__getattribute__"=some (some (.builtin "type.__getattribute__"))
 rd:PySem.W.readsIn K C (.type "type")=true
 fc:PySem.W.findCls K (.ref C) (.type "type") m=some (.val (.ref f))
 kp:PySem.W.keepIn K (.ref f)=true
section
variable {X:Cx} {CX:Ec} {k:Nat} {C f:Addr} {fd:FuncData} {ps:List Str} {sp:Sp} {E:XK} {x m:Str} {p apos pos:Pos} {e:Expr} {es:List Expr} {t:TA}
theorem JD {pl:Sem Bool} (hg:Gl X x) (hm:X.mg x=some (.ref C)) (c:NH X.K C m f) (F:bI X.prog X.w X.K X.mg X.base CX k f fd ps sp) (hr:cU k X.A) (hb:Binds X.K fd ps []) (hx:Passes CX X E) (ha:PA X (e::es) t)
   (hdb:(x==("__debug__":Str))=false:=by decide) (hst:starEach (e::es) X.env=(false,eval e X.env)::starEach es X.env:=by rfl) (hpl:(backTo pos (starEach es X.env)).any (·.1)=false:=by rfl)
   (ht:eval (.Call (.Attribute (.Name x p) m apos) (e::es) [] pos) X.env=(do
     let ov <- eval (.Name x p) X.env
     standAt apos.atName
     let (f,first) <- holding [ov] (getMethod ov m pl)
     callWith pos f first (backTo pos (starEach (e::es) X.env)) (backToKw pos (keywordEach [] X.env))):=by rfl) :
   PE X (.Call (.Attribute (.Name x p) m apos) (e::es) [] pos) (Je sp [] E t):=by
 intro pins s σ H Q I h;refine PySem.W.methodCall_KW (pl:=pl) (cT (b9 (X:=X) (x:=x) (v:=.ref C) (pos:=p) hg hm rfl hdb pins s σ H (fun v H1=>v=.ref C/\H1=H) I ⟨rfl,rfl⟩) fun u s1 ⟨v,H1,I1,rv,ev,eH⟩=>?_) ht;subst ev eH;obtain rfl:u=Value.ref C:=rv;refine PySem.W.method_cls I1.rY c.sp (PySem.W.cls_value I1.rY c.rd c.fc rfl ?_);have I2:=I1.tok (s1.toks+1);refine PySem.W.callWith_K (first:=[]) (h₀:=X.base) I.ok.mod.kin c.kp (cT (ha pos pins _ σ H1 _ I2 h) fun us s2 ⟨vs,H2,I3,r,q⟩=>⟨I3.rY,?_⟩) hst hpl;exact xO F hr hb .nil hx I3 r q
end
end L2
namespace L2
open PySem PySem.Spec PyProof.Rows XL
def NI (p:Addr) (Q:VK) (ps:List (V×V)) (H2:Hp):Prop:=H2 p=some (.dT [])/\∃ (k:List Key) (b:Addr) (y:V),ps=[(.ref b,y)]/\H2 b=some (.tup (k.map kV))/\Q (.ref p) (upd H2 p (.dT [(k,y)]))
def JE (tk tv:TE):TE:=fun σ H Q=>∀ p,H p=none->tk σ (upd H p (.dT [])) fun x H1=>tv σ H1 fun y H2=>NI p Q [(x,y)] H2
theorem CC {X:Cx} {pos:Pos} {e v:Expr} {tk tv:TE} (hu:X.A.units+1 < cLine) (hk:PE X e tk) (hv:PE X v tv):PE X (.Dict [some e] [v] pos) (JE tk tv):=by
 intro pins s σ H Q I q;have hn:=I.hok.fresh (Nat.le_refl s.heap.objs.size);have I1:=I.laid (a:=s.heap.objs.size) (o:=.dT []) (h':=s.heap.push { cls:=.type "dict",data:=.dict #[] }) (t':=s.toks) (fun _ _ q=>Heap.get?_push_of_some _ q) (Nat.le_refl _) (C0 s.heap I.big);have pp:=Jt (pos:=pos) hk hv LR;refine wpAny_Dict_any rfl rfl (by simp) (by simp) (cT (pp pins _ σ _ (NI s.heap.objs.size Q) I1 (q _ hn)) fun ws s2 ⟨ps,H2,I2,rel,e2,k,b,y,ep,eb,q2⟩=>?_);subst ep;cases rel with
 | @cons p' w' as bs h t=>
   cases t;obtain ⟨w1,w2⟩:=w';obtain ⟨h1,h2⟩:=h;cases (show w1=Value.ref b from h1);obtain ⟨z,hd,xs,rl,dd⟩:=Jp I2.hok e2;cases rl;unfold storeAll;rw [List.forIn_cons];refine wpAny_bind (wpAny_bind (wpAny_dictSet_heap (hsz:=Nat.zero_le _) (knd:=tupleKind (dI X.prog X.w)) ?_ (sj I2.hok eb) dd fun h' dd' hs=>wpAny_pure ?_))
   . exact (by show X.A.units < cLine;omega)
   . show wpAny _ _ (forIn [] PUnit.unit _) _ _ _
     rw [List.forIn_nil];refine wpAny_pure ⟨.ref s.heap.objs.size,_,?_,rfl,q2⟩;obtain ⟨q,es,ep,hq,g2,g3,g4,_,g5⟩:=dd';refine A9 I2 (by rw [e2];exact True.intro) hs ⟨q,hq⟩ ⟨by show 1<=sizeLine;decide,hd,[(k,b,w2)],.cons ⟨rfl,?_,h2⟩ .nil,q,es,ep,hq,g2,g3,g4,g5⟩;rw [ak (kM eb e2 (fun z=>nomatch z))];exact eb
end L2
namespace L2
open PySem
section
variable {Pr:Program} {Wd:World} {Kt:Type} [DecidableEq Kt] {hk:HeapKind Pr Wd Kt} {Ar:Around} {Er:Value->Shared->Prop} {st:Shared}
end
end L2
namespace L2
open PySem PySem.Spec PyProof.Rows
section
variable {X:Cx} {o e f:Expr} {apos cpos:Pos} {td ty tx:TE}
end
end L2
namespace L2
open PySem
section
variable {Pr:Program} {Wd:World} {Ar:Around} {Er:Value->Shared->Prop} {st:Shared}
end
end L2
namespace L2
open PySem PySem.Spec PyProof.Rows PySem.W
section
variable {Pr:Program} {Wd:World} {Ar:Around}
end
section
variable {X:Cx} {e:Expr} {td:TE} {p apos cpos pos:Pos}
end
end L2
namespace L2
open PySem PySem.Spec PyProof.Rows PySem.W
section
variable {Pr:Program} {Wd:World} {Ar:Around} {Rs:Result->Shared->Prop} {It Bs:Addr} {fp wr:List Addr} {n:Nat} {Pv:Nat->Value->Prop} {St:Nat->Heap->Prop} {kw:List (Str×Value)} {bt:Nat->Nat->Bool}
abbrev Rw (u:Value) (c:Nat):Obj:={ cls:=.type "list",dict:=none,data:=.seq #[u,u] c,slots:=#[] }
end
section
variable {Pr:Program} {Wd:World} {Ar:Around} {Er:Value->Shared->Prop} {st:Shared}
end
section
variable {X:Cx} {p pos kp:Pos} {e d:Expr} {te td:TE}
end
end L2
namespace L2
open PySem PySem.Spec PyProof.Rows
theorem fld {K:Zqq} {H:Hp} {a C dx:Addr} {fs:List (Str×V)} {v:V} {f:Str} {Q:V->Prop} (h:H a=some (.ins C dx fs)) (c:yV K C) (n:b7 K C f) (l:fs.lookup f=some v) (q:Q v) :
   ∃ (a' C' dx':Addr) (fs':List (Str×V)) (v':V),V.ref a=.ref a'/\H a'=some (.ins C' dx' fs')/\yV K C'/\b7 K C' f/\fs'.lookup f=some v'/\Q v':=⟨a,C,dx,fs,v,rfl,h,c,n,l,q⟩
theorem zV {K:Zqq} {H:Hp} {p:Addr} {xs:List V} {i:Int} {v:V} {Q:V->Prop} (h:c8 K H p xs) (e:Jk xs i=some v) (q:Q v) :
   ∃ (p':Addr) (xs':List V) (i':Int) (v':V),V.ref p=.ref p'/\V.int i=.int i'/\c8 K H p' xs'/\Jk xs' i'=some v'/\Q v':=⟨p,xs,i,v,rfl,rfl,h,e,q⟩
theorem Th {K:Zqq} {H:Hp} {p:Addr} {xs:List V} {i:Int} {v:V} {Q:V->Prop} (h:j0 K H p xs) (e:Jk xs i=some v) (q:Q v) :
   ∃ (p':Addr) (xs':List V) (i':Int) (v':V),V.ref p=.ref p'/\V.int i=.int i'/\j0 K H p' xs'/\Jk xs' i'=some v'/\Q v':=⟨p,xs,i,v,rfl,rfl,h,e,q⟩
abbrev Iv:=Nat->St->Hp->Prop
theorem mL {N P:List Str} {sc:Scope} (h:N.Nodup/\(∀ x ∈ P,sc.names.lookup x=some .local\/sc.names.lookup x=some .cell)/\∀ y ∈ sc.names,y.2 ≠ .free) (k:sc.kind=.function:=by rfl) (c:sc.isCoroutine=false:=by rfl) (g:sc.isGenerator=false:=by rfl) (p:N.take P.length=P:=by rfl):aM N P sc:=⟨k,c,g,h.1,p,h.2.1,h.2.2⟩
end L2
namespace JM
open Fk
theorem aV {α β:Type} (y:α) (f:α->Except Fault β):andThen (.ok y) f=f y:=rfl
theorem aW {α β γ:Type} (x:Except Fault α) (f:α->Except Fault β) (g:β->Except Fault γ):andThen (andThen x f) g=andThen x fun y=>andThen (f y) g:=by
 cases x<;>rfl
theorem gP {α β:Type} {x x':Except Fault α} {f f':α->Except Fault β} (h:x=x') (hf:∀ y,x=.ok y->f y=f' y):andThen x f=andThen x' f':=by
 subst h;cases x with
 | error e=>rfl
 | ok y=>exact hf y rfl
theorem CD {k:Nat} {g g':Nat->Bool} (h:∀ v,g v=g' v) (b:Bytes) (p:Nat):numIn k g b p=numIn k g' b p:=by
 have e:g=g':=funext h;rw [e]
theorem aZ {k:Nat} {g:Nat->Bool} {b:Bytes} {p:Nat} {y:Nat×Bytes×Nat} (h:numIn k g b p=.ok y):k<=b.length/\g y.1=true/\y.1=num (b.take k)/\y.2.1=b.drop k/\y.2.2=p+k:=by
 unfold numIn at h;split at h
 . cases h
 . rename_i h1
   split at h
   . rename_i h2
     cases h;exact ⟨by omega,h2,rfl,rfl,rfl⟩
   . cases h
def many {α:Type} (one:Bytes->Nat->Except Fault (α×Bytes×Nat)):Nat->Bytes->Nat->Except Fault (List α×Bytes×Nat)
 | 0,b,p=>.ok ([],b,p)
 | k+1,b,p=>andThen (one b p) fun x=>andThen (many one k x.2.1 x.2.2) fun l=>.ok (x.1::l.1,l.2.1,l.2.2)
def iZ:Bytes->Bytes->Nat->Except Fault (Bytes×Nat)
 | [],b,p=>.ok (b,p)
 | c::m,b,p=>andThen (numIn 1 (fun _=>true) b p) fun x=>andThen (need (decide (x.1=c.toNat)) 1 p) fun _=>iZ m x.2.1 x.2.2
theorem AE (c:UInt8):num [c]=c.toNat:=by
 simp [num]
theorem CH:∀ (m b:Bytes) (p:Nat),iZ m b p=match (List.range m.length).find? fun i=>b[i]? != m[i]? with
   | some i=>.error ⟨if i < b.length then 1 else 5,p+min i b.length⟩
   | none=>.ok (b.drop m.length,p+m.length)
 | [],b,p=>by simp [iZ]
 | c::m,[],p=>by
   have e:(List.range (c::m).length).find? (fun i=>([]:Bytes)[i]? != (c::m)[i]?)=some 0:=by
     rw [List.length_cons,List.range_succ_eq_map,List.find?_cons];have q:(([]:Bytes)[0]? != (c::m)[0]?)=true:=by simp
     rw [q]
   rw [e];simp [iZ,numIn,andThen]
 | c::m,x::b,p=>by
   have ih:=CH m b (p+1);rw [List.length_cons,List.range_succ_eq_map,List.find?_cons,List.find?_map];have e1:numIn 1 (fun _=>true) (x::b) p=.ok (x.toNat,b,p+1):=by
     simp [numIn,AE]
   unfold iZ;rw [e1,aV];show andThen (need (decide (x.toNat=c.toNat)) 1 p) (fun _=>iZ m b (p+1))=_;by_cases hx:x=c
   . subst hx
     have e2:((x::b)[0]? != (x::m)[0]?)=false:=by simp
     rw [e2];have e3:(fun i=>(x::b)[i]? != (x::m)[i]?) ∘ Nat.succ=fun i=>b[i]? != m[i]?:=by
       funext i;simp
     rw [e3];have e4:need (decide (x.toNat=x.toNat)) 1 p=.ok ():=by simp [need]
     rw [e4,aV,ih];cases (List.range m.length).find? fun i=>b[i]? != m[i]? with
     | none=>simp;omega
     | some i=>
       simp only [Option.map_some];by_cases hi:i < b.length
       . have:i.succ < (x::b).length:=by simp;omega
         simp [hi];omega
       . have:¬ i.succ < (x::b).length:=by simp;omega
         simp [hi];omega
   . have e2:((x::b)[0]? != (c::m)[0]?)=true:=by simp [hx]
     rw [e2];have e4:need (decide (x.toNat=c.toNat)) 1 p=.error ⟨1,p⟩:=by
       have:¬ x.toNat=c.toNat:=fun q=>hx (UInt8.toNat_inj.mp q);simp [need,this]
     rw [e4];simp [andThen]
theorem Mb (m b:Bytes):mark m b=iZ m b 0:=by
 rw [CH];unfold mark;cases (List.range m.length).find? fun i=>b[i]? != m[i]?<;>simp
theorem yd:∀ {l m:List Nat},l.Pairwise (· < ·)->m.Pairwise (· < ·)->(∀ x,x ∈ l ↔ x ∈ m)->l=m
 | [],[],_,_,_=>rfl
 | [],y::m,_,_,h=>by have:=(h y).mpr (by simp);simp at this
 | x::l,[],_,_,h=>by have:=(h x).mp (by simp);simp at this
 | x::l,y::m,hl,hm,h=>by
   obtain ⟨hx,hl'⟩:=List.pairwise_cons.mp hl
   obtain ⟨hy,hm'⟩:=List.pairwise_cons.mp hm
   have e:x=y:=by
     rcases List.mem_cons.mp ((h x).mp (by simp)) with q | q
     . exact q
     . rcases List.mem_cons.mp ((h y).mpr (by simp)) with r | r
       . exact r.symm
       . have a:=hx y r
         have b:=hy x q;omega
   subst e;have ih:l=m:=yd hl' hm' fun z=>by
     constructor
     . intro hz
       rcases List.mem_cons.mp ((h z).mp (List.mem_cons.mpr (.inr hz))) with q | q
       . subst q;have:=hx z hz;omega
       . exact q
     . intro hz
       rcases List.mem_cons.mp ((h z).mpr (List.mem_cons.mpr (.inr hz))) with q | q
       . subst q;have:=hy z hz;omega
       . exact q
   rw [ih]
theorem CI (n:Nat):(List.range n).Pairwise (· < ·):=List.pairwise_lt_range
theorem AF {n:Nat} (p:Nat->Bool):((List.range n).filter p).Pairwise (· < ·):=(CI n).filter p
def pQ (n:Nat) (l:List (Nat×Nat)):Prop:=(∀ x ∈ l,x.1 < x.2/\x.2 < n)/\l.Pairwise fun x y=>x.1 < y.1\/(x.1=y.1/\x.2 < y.2)
def pR (v:Nat) (x:Nat×Nat):Option Nat:=if x.1=v then some x.2 else if x.2=v then some x.1 else none
def fJ (l:List (Nat×Nat)) (v:Nat):List Nat:=l.filterMap (pR v)
theorem EE {n:Nat} {l:List (Nat×Nat)} (h:pQ n l) (v:Nat):(fJ l v).Pairwise (· < ·):=by
 obtain ⟨h1,h2⟩:=h;unfold fJ;rw [List.pairwise_filterMap];have h3:l.Pairwise fun x y=>(x.1 < x.2/\y.1 < y.2)/\(x.1 < y.1\/(x.1=y.1/\x.2 < y.2)):=by
   refine List.Pairwise.imp_of_mem ?_ h2;intro a b ha hb hab;exact ⟨⟨(h1 a ha).1,(h1 b hb).1⟩,hab⟩
 refine h3.imp ?_;rintro ⟨xa,xb⟩ ⟨ya,yb⟩ ⟨⟨p1,p2⟩,p3⟩ u hu w hw;unfold pR at hu hw;simp only at p1 p2 p3 hu hw;have cu:(xa=v/\xb=u)\/(xa ≠ v/\xb=v/\xa=u):=by
   by_cases q:xa=v
   . rw [if_pos q] at hu;exact .inl ⟨q,Option.some.inj hu⟩
   . rw [if_neg q] at hu
     by_cases q2:xb=v
     . rw [if_pos q2] at hu;exact .inr ⟨q,q2,Option.some.inj hu⟩
     . rw [if_neg q2] at hu;cases hu
 have cw:(ya=v/\yb=w)\/(ya ≠ v/\yb=v/\ya=w):=by
   by_cases q:ya=v
   . rw [if_pos q] at hw;exact .inl ⟨q,Option.some.inj hw⟩
   . rw [if_neg q] at hw
     by_cases q2:yb=v
     . rw [if_pos q2] at hw;exact .inr ⟨q,q2,Option.some.inj hw⟩
     . rw [if_neg q2] at hw;cases hw
 omega
theorem JF {l:List (Nat×Nat)} {v w:Nat}:w ∈ fJ l v ↔ ∃ x ∈ l,(x.1=v/\x.2=w)\/(x.1 ≠ v/\x.2=v/\x.1=w):=by
 unfold fJ;rw [List.mem_filterMap];constructor
 . rintro ⟨x,hx,e⟩
   refine ⟨x,hx,?_⟩;unfold pR at e;split at e
   . rename_i q;exact .inl ⟨q,Option.some.inj e⟩
   . rename_i q
     split at e
     . rename_i q2;exact .inr ⟨q,q2,Option.some.inj e⟩
     . cases e
 . rintro ⟨x,hx,e⟩
   refine ⟨x,hx,?_⟩;unfold pR;rcases e with ⟨q1,q2⟩ | ⟨q1,q2,q3⟩
   . rw [if_pos q1,q2]
   . rw [if_neg q1,if_pos q2,q3]
theorem CJ {n:Nat} {l:List (Nat×Nat)} (h:pQ n l) (v:Nat) (j:Nat->Bool) (hj:∀ w,j w=l.any fun x=>(x.1==v&&x.2==w)||(x.1==w&&x.2==v)):(List.range n).filter j=fJ l v:=by
 refine yd (AF j) (EE h v) fun w=>?_;rw [List.mem_filter,JF,hj,List.mem_range,List.any_eq_true];constructor
 . rintro ⟨_,x,hx,e⟩
   refine ⟨x,hx,?_⟩;have:=h.1 x hx;simp only [Bool.or_eq_true,Bool.and_eq_true,beq_iff_eq] at e;omega
 . rintro ⟨x,hx,e⟩
   have:=h.1 x hx;refine ⟨by omega,x,hx,?_⟩;simp only [Bool.or_eq_true,Bool.and_eq_true,beq_iff_eq];omega
end JM
namespace JM
open Fk
def k6 (n:Nat) (had:Option (Nat×Nat)) (b:Bytes) (p:Nat):Except Fault ((Nat×Nat)×Bytes×Nat):=
   andThen (numIn 1 (fun v=>decide (v < n)) b p) fun x=>
   andThen (numIn 1 (fun v=>decide (x.1 < v)&&decide (v < n)) x.2.1 x.2.2) fun y=>
   andThen (need (match had with
     | some (u,w)=>decide (u < x.1)||(u==x.1&&decide (w < y.1))
     | none=>true) 3 p) fun _=>
   .ok ((x.1,y.1),y.2.1,y.2.2)
def gC {α:Type} (n:Nat) (one:Nat×Nat->Bytes->Nat->Except Fault (α×Bytes×Nat)):Nat->Option (Nat×Nat)->Bytes->Nat->Except Fault (List α×Bytes×Nat)
 | 0,_,b,p=>.ok ([],b,p)
 | k+1,had,b,p=>
  andThen (k6 n had b p) fun q=>andThen (one q.1 q.2.1 q.2.2) fun x=>andThen (gC n one k (some q.1) x.2.1 x.2.2) fun l=>.ok (x.1::l.1,l.2.1,l.2.2)
def lB (b:Bytes) (p:Nat):Except Fault (Atom×Bytes×Nat):=
  andThen (numIn 1 (fun v=>decide (1<=v)&&decide (v<=ELEMENTS)) b p) fun e=>
  andThen (numIn 2 (fun v=>decide (v<=ISOTOPE)) e.2.1 e.2.2) fun i=>
  andThen (numIn 1 (fun v=>decide (v<=8)) i.2.1 i.2.2) fun c=>
  andThen (numIn 1 (fun v=>decide (v<=7)) c.2.1 c.2.2) fun h=>
  andThen (numIn 1 (fun v=>decide (v<=2)) h.2.1 h.2.2) fun s=>
  .ok (⟨e.1,i.1,(c.1:Int) - 4,h.1,s.1⟩,s.2.1,s.2.2)
theorem ye:∀ (k:Nat) (b:Bytes) (p:Nat),atomsIn k b p=many lB k b p
 | 0,b,p=>rfl
 | k+1,b,p=>by
  unfold atomsIn many lB
  simp only [aW,aV,ye k]
  rfl
def jR (q:Nat×Nat) (b:Bytes) (p:Nat):Except Fault (Bond×Bytes×Nat):=
  andThen (numIn 1 (fun v=>decide (1<=v)&&decide (v<=3)) b p) fun o=>
  andThen (numIn 1 (fun v=>decide (v<=2)) o.2.1 o.2.2) fun s=>
  .ok (⟨q.1,q.2,o.1,s.1⟩,s.2.1,s.2.2)
theorem yf (n:Nat):∀ (k:Nat) (had:Option (Nat×Nat)) (b:Bytes) (p:Nat),bondsIn n k had b p=gC n jR k had b p
 | 0,had,b,p=>rfl
 | k+1,had,b,p=>by
  unfold bondsIn gC jR k6
  simp only [aW,aV,yf n k]
  rfl
theorem m5 {α:Type} {one:Bytes->Nat->Except Fault (α×Bytes×Nat)}:∀ {k:Nat} {b:Bytes} {p:Nat} {y:List α×Bytes×Nat},many one k b p=.ok y->y.1.length=k
 | 0,b,p,y,h=>by cases h;rfl
 | k+1,b,p,y,h=>by
  unfold many at h
  cases h1:one b p with
  | error e=>rw [h1] at h;cases h
  | ok x=>
   rw [h1,aV] at h
   cases h2:many one k x.2.1 x.2.2 with
   | error e=>rw [h2] at h;cases h
   | ok l=>
    rw [h2,aV] at h
    cases h
    simp [m5 h2]
theorem nP {α:Type} {n:Nat} {one:Nat×Nat->Bytes->Nat->Except Fault (α×Bytes×Nat)}:∀ {k:Nat} {had:Option (Nat×Nat)} {b:Bytes} {p:Nat} {y:List α×Bytes×Nat},gC n one k had b p=.ok y->y.1.length=k
 | 0,_,b,p,y,h=>by cases h;rfl
 | k+1,had,b,p,y,h=>by
  unfold gC at h
  cases h0:k6 n had b p with
  | error e=>rw [h0] at h;cases h
  | ok q=>
   rw [h0,aV] at h
   cases h1:one q.1 q.2.1 q.2.2 with
   | error e=>rw [h1] at h;cases h
   | ok x=>
    rw [h1,aV] at h
    cases h2:gC n one k (some q.1) x.2.1 x.2.2 with
    | error e=>rw [h2] at h;cases h
    | ok l=>
     rw [h2,aV] at h
     cases h
     simp [nP h2]
theorem Hw {n:Nat} {had:Option (Nat×Nat)} {b:Bytes} {p:Nat} {q:(Nat×Nat)×Bytes×Nat} (h:k6 n had b p=.ok q) :
  q.1.1 < q.1.2/\q.1.2 < n/\∀ u,had=some u->u.1 < q.1.1\/(u.1=q.1.1/\u.2 < q.1.2):=by
 unfold k6 at h;cases h1:numIn 1 (fun v=>decide (v < n)) b p with
 | error e=>rw [h1] at h;cases h
 | ok x=>
  rw [h1,aV] at h;cases h2:numIn 1 (fun v=>decide (x.1 < v)&&decide (v < n)) x.2.1 x.2.2 with
  | error e=>rw [h2] at h;cases h
  | ok y=>
   rw [h2,aV] at h;have g2:=(aZ h2).2.1;simp only [Bool.and_eq_true,decide_eq_true_eq] at g2;cases had with
   | none=>
    cases h;exact ⟨g2.1,g2.2,fun u hu=>by cases hu⟩
   | some uw=>
    obtain ⟨u,w⟩:=uw;have h:andThen (need (decide (u < x.1)||(u==x.1&&decide (w < y.1))) 3 p) (fun _=>Except.ok ((x.1,y.1),y.2.1,y.2.2))=Except.ok q:=h;cases hc:(decide (u < x.1)||(u==x.1&&decide (w < y.1))) with
    | false=>
     rw [hc] at h;cases h
    | true=>
     rw [hc] at h;cases h;refine ⟨g2.1,g2.2,fun u' hu=>?_⟩;cases hu;simp only [Bool.or_eq_true,Bool.and_eq_true,beq_iff_eq,decide_eq_true_eq] at hc;exact hc
theorem pS {α:Type} {n:Nat} {one:Nat×Nat->Bytes->Nat->Except Fault (α×Bytes×Nat)} {ends:α->Nat×Nat} (ho:∀ q b p x,one q b p=.ok x->ends x.1=q) :
   ∀ {k:Nat} {had:Option (Nat×Nat)} {b:Bytes} {p:Nat} {y:List α×Bytes×Nat},gC n one k had b p=.ok y->
     pQ n (y.1.map ends)/\∀ u,had=some u->∀ x ∈ y.1.map ends,u.1 < x.1\/(u.1=x.1/\u.2 < x.2)
 | 0,_,b,p,y,h=>by
   cases h
   exact ⟨⟨by simp,by simp⟩,by simp⟩
 | k+1,had,b,p,y,h=>by
   unfold gC at h
   cases h0:k6 n had b p with
   | error e=>rw [h0] at h;cases h
   | ok q=>
     rw [h0,aV] at h
     obtain ⟨g1,g2,g3⟩:=Hw h0
     cases h1:one q.1 q.2.1 q.2.2 with
     | error e=>rw [h1] at h;cases h
     | ok x=>
       rw [h1,aV] at h
       have ex:=ho _ _ _ _ h1
       cases h2:gC n one k (some q.1) x.2.1 x.2.2 with
       | error e=>rw [h2] at h;cases h
       | ok l=>
         rw [h2,aV] at h
         cases h
         obtain ⟨⟨i1,i2⟩,i3⟩:=pS ho h2
         have i3:=i3 _ rfl
         simp only [List.map_cons,ex]
         refine ⟨⟨fun z hz=>?_,List.pairwise_cons.mpr ⟨fun z hz=>i3 z hz,i2⟩⟩,fun u hu z hz=>?_⟩
         . rcases List.mem_cons.mp hz with r | r
           . subst r;exact ⟨g1,g2⟩
           . exact i1 z r
         . have g:=g3 u hu
           rcases List.mem_cons.mp hz with r | r
           . subst r;exact g
           . have:=i3 z r
             omega
end JM
namespace MP
open PySem PySem.Spec PyProof.Rows L2
def top (i:Nat):Stmt:=PySem.Challenge.pw_moleculeparts_s08_common.main.body.getD i (.Pass ⟨0,0,0,0⟩)
abbrev nQ:Stmt:=inClass (top 2) 0
abbrev k7:Stmt:=inClass (top 2) 1
abbrev jF:Stmt:=inClass (top 17) 0
abbrev mO:Stmt:=inClass (top 18) 0
abbrev lC:Stmt:=inClass (top 18) 1
abbrev gZ:Stmt:=inClass (top 18) 2
abbrev gR:Stmt:=inClass (top 18) 3
abbrev kO:Stmt:=inClass (top 18) 4
abbrev ja:Stmt:=inClass (top 18) 5
abbrev iM:Stmt:=inClass (top 18) 6
abbrev jb:Stmt:=inClass (top 18) 7
abbrev iN:Stmt:=inClass (top 18) 8
abbrev jj:Stmt:=inClass (top 18) 9
abbrev pU:Stmt:=inClass (top 36) 0
abbrev pV:Stmt:=inClass (top 37) 0
abbrev k8:Stmt:=inClass (top 38) 0
abbrev j3:Stmt:=inClass (top 38) 1
abbrev cM:Stmt:=inClass (top 38) 2
abbrev FH:Stmt:=top 0
abbrev jG:Stmt:=top 3
abbrev nR:Stmt:=top 19
abbrev pW:Stmt:=top 24
abbrev nU:Stmt:=top 25
abbrev iC:Stmt:=top 26
abbrev iX:Stmt:=top 27
abbrev nV:Stmt:=top 28
abbrev lD:Stmt:=top 29
abbrev nX:Stmt:=top 30
abbrev jk:Stmt:=top 39
abbrev k9:Stmt:=top 40
abbrev pX:Stmt:=top 41
abbrev pZ:Stmt:=top 42
abbrev kC:Stmt:=top 43
abbrev kE:Stmt:=top 44
abbrev jH:Stmt:=top 45
abbrev iY:Stmt:=top 48
abbrev eX:Stmt:=top 49
abbrev jl:Stmt:=top 50
abbrev ia:Stmt:=top 51
abbrev qc:Stmt:=top 52
abbrev jc:Stmt:=top 53
abbrev m6:Stmt:=top 54
abbrev gS:Stmt:=top 55
abbrev yg:Stmt:=top 61
abbrev lE:Stmt:=top 62
abbrev nY:Stmt:=top 63
set_option genInjectivity false in
set_option genSizeOf false in
structure Ad where
 bH:Addr
 aH:Addr
 aB:Addr
 bX:Addr
 cB:Addr
 aI:Addr
 bU:Addr
 gu:FuncData
 b8:Addr
 fq:FuncData
 cj:Addr
 fU:FuncData
 dY:Addr
 iQ:FuncData
 dz:Addr
 ic:FuncData
 bz:Addr
 d7:FuncData
 bg:Addr
 cO:FuncData
 bP:Addr
 fN:FuncData
 bJ:Addr
 eF:FuncData
 bq:Addr
 cE:FuncData
 bK:Addr
 eG:FuncData
 br:Addr
 cF:FuncData
 bQ:Addr
 f9:FuncData
 gj:Addr
 jS:FuncData
 gm:Addr
 jT:FuncData
 cG:Addr
 gD:FuncData
 bD:Addr
 eY:FuncData
 aS:Addr
 bN:FuncData
 qW:Addr
 xj:FuncData
 cV:Addr
 fV:FuncData
 fB:Addr
 iD:FuncData
 ig:Addr
 jU:FuncData
 gv:Addr
 jm:FuncData
 ck:Addr
 fW:FuncData
 cH:Addr
 gE:FuncData
 gw:Addr
 jn:FuncData
 eK:Addr
 ir:FuncData
 gx:Addr
 jq:FuncData
 d8:Addr
 iu:FuncData
 dO:Addr
 gF:FuncData
 fC:Addr
 jV:FuncData
 fD:Addr
 jW:FuncData
 dP:Addr
 gG:FuncData
 dQ:Addr
 gH:FuncData
 cW:Addr
 fX:FuncData
 cI:Addr
 gI:FuncData
 bh:Addr
 cP:FuncData
 d9:Addr
 iw:FuncData
 bL:Addr
 dB:FuncData
 iy:Addr
 jX:FuncData
 bY:Addr
 eN:FuncData
 gn:Addr
 jY:FuncData
 bE:Addr
 cQ:FuncData
 iR:Addr
 nh:FuncData
 eO:Addr
 iz:FuncData
 gz:Addr
 jr:FuncData
 gJ:Addr
 qe:Addr
abbrev b4 (K:Zqq) (n q:Str) (s:Stmt) (f:Addr):Prop:=∃ oc kV dc pm cd ct od an sl,K.lookup f=some ⟨oc,od,.func (PySem.W.fnOf n q (qV s) (lg s) (aF s) .none kV dc pm an cd ct),sl⟩/\PySem.W.codeIn K cd q=true/\PySem.W.keepIn K (.ref f)=true
theorem b4.mk {K:Zqq} {n q:Str} {s:Stmt} {f:Addr} {oc kV dc pm cd ct:Value} {od an:Option Addr} {sl:Array (Option Value)} (a:K.lookup f=some ⟨oc,od,.func (PySem.W.fnOf n q (qV s) (lg s) (aF s) .none kV dc pm an cd ct),sl⟩) (b:PySem.W.codeIn K cd q=true) (c:PySem.W.keepIn K (.ref f)=true):b4 K n q s f:=⟨_,_,_,_,_,_,_,_,_,a,b,c⟩
theorem b4.fn {K:Zqq} {n q:Str} {s:Stmt} {f:Addr} (h:b4 K n q s f):∃ d,jD K n q s f d:=let ⟨_,_,_,_,_,_,_,_,_,a,b,c⟩:=h;⟨_,OL a b c⟩
theorem b4.kp {K:Zqq} {n q:Str} {s:Stmt} {f:Addr} (h:b4 K n q s f):PySem.W.keepIn K (.ref f)=true:=let ⟨_,_,_,_,_,_,_,_,_,_,_,c⟩:=h;c
structure Txt (K:Zqq) (mg:Str->Option Value) (t:Ad):Prop where
 jt:jD K "__init__" "Graph.__init__" nQ t.bU t.gu
 nZ:Binds K t.gu ["self","atoms","bonds"] []
 gK:jD K "besides" "Graph.besides" k7 t.b8 t.fq
 oG:Binds K t.fq ["self","end","other"] []
 fY:jD K "__init__" "FormFault.__init__" jF t.cj t.fU
 ni:Binds K t.fU ["self","which","rule","place"] []
 iS:jD K "__init__" "Reader.__init__" mO t.dY t.iQ
 rQ:Binds K t.iQ ["self","form","which"] []
 i6:jD K "fault" "Reader.fault" lC t.dz t.ic
 dF:Binds K t.ic ["self","rule","place"] []
 dG:jD K "take_number" "Reader.take_number" gZ t.bz t.d7
 i7:Binds K t.d7 ["self","size"] []
 cR:jD K "take_between" "Reader.take_between" gR t.bg t.cO
 aO:Binds K t.cO ["self","size","least","greatest"] []
 fO:jD K "take_range" "Reader.take_range" kO t.bP t.fN
 rC:Binds K t.fN ["self","size","most"] []
 eT:jD K "take_mark" "Reader.take_mark" ja t.bJ t.eF
 lF:Binds K t.eF ["self","mark"] []
 dW:jD K "take_atoms" "Reader.take_atoms" iM t.bq t.cE
 kP:Binds K t.cE ["self","n","take_atom"] []
 eU:jD K "take_pair" "Reader.take_pair" jb t.bK t.eG
 lG:Binds K t.eG ["self","n","before"] []
 dX:jD K "take_bonds" "Reader.take_bonds" iN t.br t.cF
 kQ:Binds K t.cF ["self","n","m","take_bond"] []
 fE:jD K "take_end" "Reader.take_end" jj t.bQ t.f9
 m8:Binds K t.f9 ["self"] []
 jZ:jD K "__init__" "Atom.__init__" pU t.gj t.jS
 vA:Binds K t.jS ["self","element","isotope","charge","hydrogens","hand"] []
 kg:jD K "__init__" "Bond.__init__" pV t.gm t.jT
 vC:Binds K t.jT ["self","pair","order","side"] []
 gM:jD K "__init__" "Molecule.__init__" k8 t.cG t.gD
 oH:Binds K t.gD ["self","atoms","bonds"] []
 eZ:jD K "row_around" "Molecule.row_around" j3 t.bD t.eY
 oZ:Binds K t.eY ["self","atom"] []
 bO:jD K "orders_between" "Molecule.orders_between" cM t.aS t.bN
 fj:Binds K t.bN ["self","atom","other"] []
 xq:jD K "_wall" "_wall" FH t.qW t.xj
 Mc:Binds K t.xj ["k"] []
 e7:jD K "neighbour_rows" "neighbour_rows" jG t.cV t.fV
 nj:Binds K t.fV ["n","bonds"] []
 iE:jD K "take_graph" "take_graph" nR t.fB t.iD
 tE:Binds K t.iD ["reader","mark","take_atom","take_bond"] []
 i8:jD K "order_bit" "order_bit" pW t.ig t.jU
 qf:Binds K t.jU ["order"] []
 iF:jD K "order_sums" "order_sums" nU t.gv t.jm
 tF:Binds K t.jm ["n","bonds"] []
 e9:jD K "redrawn_orders" "redrawn_orders" iC t.ck t.fW
 nk:Binds K t.fW ["sums","bonds"] []
 fu:jD K "states_behind" "states_behind" iX t.cH t.gE
 oJ:Binds K t.gE ["states","bonds","k"] []
 g7:jD K "less_order" "less_order" nV t.gw t.jn
 oh:Binds K t.jn ["state","bond","order"] []
 eV:jD K "bonds_behind" "bonds_behind" lD t.eK t.ir
 lH:Binds K t.ir ["bonds","k","atom"] []
 g8:jD K "can_be_met" "can_be_met" nX t.gx t.jq
 oj:Binds K t.jq ["left","bonds"] []
 fZ:jD K "pair_numbers" "pair_numbers" jk t.d8 t.iu
 qg:Binds K t.iu ["bonds"] []
 dR:jD K "read_molecule" "read_molecule" k9 t.dO t.gF
 kF:Binds K t.gF ["form","which"] []
 je:jD K "take_atom" "take_atom" pX t.fC t.jV
 vD:Binds K t.jV ["reader"] []
 jf:jD K "take_bond" "take_bond" pZ t.fD t.jW
 vE:Binds K t.jW ["reader","pair"] []
 fz:jD K "may_have_hand" "may_have_hand" kC t.dP t.gG
 oK:Binds K t.gG ["molecule","k"] []
 f6:jD K "may_have_side" "may_have_side" kE t.dQ t.gH
 oM:Binds K t.gH ["molecule","k"] []
 cX:jD K "end_takes_side" "end_takes_side" jH t.cW t.fX
 jI:Binds K t.fX ["molecule","end","other"] []
 f7:jD K "greatest_part" "greatest_part" iY t.cI t.gI
 oN:Binds K t.gI ["one","other"] []
 bF:jD K "parts_with_one_more" "parts_with_one_more" eX t.bh t.cP
 gT:Binds K t.cP ["one","other","found"] []
 gb:jD K "atoms_beside" "atoms_beside" jl t.d9 t.iw
 qh:Binds K t.iw ["molecule","atoms"] []
 cy:jD K "rows_with_one_more" "rows_with_one_more" ia t.bL t.dB
 kh:Binds K t.dB ["one","other","atoms","rows","atom"] []
 jg:jD K "are_alike" "are_alike" qc t.iy t.jX
 vF:Binds K t.jX ["atom","partner"] []
 cY:jD K "are_joined_alike" "are_joined_alike" jc t.bY t.eN
 lI:Binds K t.eN ["one","other","atoms","row","atom","partner"] []
 jh:jD K "first_row" "first_row" m6 t.gn t.jY
 vG:Binds K t.jY ["found"] []
 bR:jD K "atoms_with_partners" "atoms_with_partners" gS t.bE t.cQ
 j4:Binds K t.cQ ["atoms","partners"] []
 nu:jD K "common" "common" yg t.iR t.nh
 JG:Binds K t.nh ["molecule","another"] []
 gc:jD K "fault_answer" "fault_answer" lE t.eO t.iz
 qi:Binds K t.iz ["fault"] []
 iG:jD K "row_answer" "row_answer" nY t.gz t.jr
 tG:Binds K t.jr ["row"] []
 Me:mg "_wall"=some (.ref t.qW)
 ny:mg "neighbour_rows"=some (.ref t.cV)
 tH:mg "take_graph"=some (.ref t.fB)
 qj:mg "order_bit"=some (.ref t.ig)
 tK:mg "order_sums"=some (.ref t.gv)
 n6:mg "redrawn_orders"=some (.ref t.ck)
 oO:mg "states_behind"=some (.ref t.cH)
 om:mg "less_order"=some (.ref t.gw)
 lJ:mg "bonds_behind"=some (.ref t.eK)
 oq:mg "can_be_met"=some (.ref t.gx)
 qk:mg "pair_numbers"=some (.ref t.d8)
 kG:mg "read_molecule"=some (.ref t.dO)
 vH:mg "take_atom"=some (.ref t.fC)
 vJ:mg "take_bond"=some (.ref t.fD)
 oQ:mg "may_have_hand"=some (.ref t.dP)
 oR:mg "may_have_side"=some (.ref t.dQ)
 jJ:mg "end_takes_side"=some (.ref t.cW)
 oS:mg "greatest_part"=some (.ref t.cI)
 gU:mg "parts_with_one_more"=some (.ref t.bh)
 qm:mg "atoms_beside"=some (.ref t.d9)
 ki:mg "rows_with_one_more"=some (.ref t.bL)
 vK:mg "are_alike"=some (.ref t.iy)
 lK:mg "are_joined_alike"=some (.ref t.bY)
 vL:mg "first_row"=some (.ref t.gn)
 j5:mg "atoms_with_partners"=some (.ref t.bE)
 CK:mg "common"=some (.ref t.iR)
 qo:mg "fault_answer"=some (.ref t.eO)
 tL:mg "row_answer"=some (.ref t.gz)
 AG:mg "Graph"=some (.ref t.bH)
 xr:yV K t.bH
 FI:Mk K t.bH t.bU
 wc:Meth K t.bH "besides" t.b8
 iT:b7 K t.bH "atoms"
 iU:b7 K t.bH "bonds"
 gA:b7 K t.bH "neighbours"
 qp:mg "FormFault"=some (.ref t.aH)
 fF:Hu K t.aH t.cj ["__getattribute__","__getattr__","__setattr__","which","rule","place"]
 CL:mg "Reader"=some (.ref t.aB)
 aJ:yV K t.aB
 CM:Mk K t.aB t.dY
 dH:Meth K t.aB "fault" t.dz
 i9:Meth K t.aB "take_number" t.bz
 aP:Meth K t.aB "take_between" t.bg
 rE:Meth K t.aB "take_range" t.bP
 lM:Meth K t.aB "take_mark" t.bJ
 kR:Meth K t.aB "take_atoms" t.bq
 lN:Meth K t.aB "take_pair" t.bK
 kT:Meth K t.aB "take_bonds" t.br
 mC:Meth K t.aB "take_end" t.bQ
 dZ:b7 K t.aB "form"
 iA:b7 K t.aB "which"
 bc:b7 K t.aB "place"
 cz:b7 K t.aB "hand_places"
 c5:b7 K t.aB "side_places"
 JH:mg "Atom"=some (.ref t.bX)
 jd:yV K t.bX
 JI:Mk K t.bX t.gj
 gf:b7 K t.bX "element"
 gg:b7 K t.bX "isotope"
 gQ:b7 K t.bX "charge"
 eB:b7 K t.bX "hydrogens"
 kj:b7 K t.bX "hand"
 JJ:mg "Bond"=some (.ref t.cB)
 iO:yV K t.cB
 JK:Mk K t.cB t.gm
 ju:b7 K t.cB "a"
 jv:b7 K t.cB "b"
 iH:b7 K t.cB "order"
 ko:b7 K t.cB "side"
 yh:mg "Molecule"=some (.ref t.aI)
 aU:yV K t.aI
 yi:Mk K t.aI t.cG
 ph:Meth K t.aI "row_around" t.bD
 fk:Meth K t.aI "orders_between" t.aS
 lO:Meth K t.aI "besides" t.b8
 aX:b7 K t.aI "atoms"
 eE:b7 K t.aI "bonds"
 bG:b7 K t.aI "neighbours"
 gO:b7 K t.aI "sums"
 dM:b7 K t.aI "orders"
 c6:b7 K t.aI "bond_numbers"
 tM:NH K t.bH "__init__" t.bU
 tN:∃ tk,mg "WRONG_MARK"=some (.int (1) tk)
 oU:∃ tk,mg "OUT_OF_BOUNDS"=some (.int (2) tk)
 tO:∃ tk,mg "NOT_BEHIND"=some (.int (3) tk)
 n8:∃ tk,mg "HAND_MISPLACED"=some (.int (4) tk)
 tP:∃ tk,mg "ENDS_EARLY"=some (.int (5) tk)
 nA:∃ tk,mg "SIDE_MISPLACED"=some (.int (6) tk)
 vM:∃ tk,mg "LEFT_OVER"=some (.int (7) tk)
 tQ:∃ tk,mg "MOST_ATOMS"=some (.int (128) tk)
 tR:∃ tk,mg "MOST_BONDS"=some (.int (192) tk)
 qt:∃ tk,mg "MOST_ELEMENT"=some (.int (118) tk)
 rR:∃ tk,mg "MOST_CHARGE"=some (.int (8) tk)
 nB:∃ tk,mg "MOST_HYDROGENS"=some (.int (7) tk)
 mP:∃ tk,mg "LEAST_ORDER"=some (.int (1) tk)
 jK:∃ tk,mg "GREATEST_ORDER"=some (.int (3) tk)
 qu:∃ tk,mg "MOST_ISOTOPE"=some (.int (500) tk)
 vO:∃ tk,mg "MOST_HAND"=some (.int (2) tk)
 vQ:∃ tk,mg "MOST_SIDE"=some (.int (2) tk)
 tS:∃ tk,mg "NO_PARTNER"=some (.int (-1) tk)
 yj:∃ tk,mg "ANSWERED"=some (.int (0) tk)
 rT:∃ tk,mg "FAULTY_FORM"=some (.int (-5) tk)
 tT:∃ tk,mg "FIRST_FORM"=some (.int (0) tk)
 rV:∃ tk,mg "SECOND_FORM"=some (.int (1) tk)
 yk:mg "ORDERS"=some (.ref t.gJ)
 qw:∀ H,j0 K H t.gJ [.int 1,.int 2,.int 3]
 JL:mg "MARK"=some (.ref t.qe)
 JN:∀ H,j0 K H t.qe [.int 70,.int 75,.int 77,.int 49]
 mD:mg "enumerate"=none
 j6:mg "len"=none
 ym:mg "list"=none
 NJ:mg "min"=none
 lu:mg "range"=none
 CN:mg "sorted"=none
 xw:mg "tuple"=none
theorem rF {α:Type} {P:List α->Prop} (h:∀ a0,P [a0]) (us:List α) (hl:us.length=1):P us:=match us,hl with | [a0],_=>h a0
theorem rG {α:Type} {P:List α->Prop} (h:∀ a0 a1,P [a0,a1]) (us:List α) (hl:us.length=2):P us:=match us,hl with | [a0,a1],_=>h a0 a1
theorem tU {α:Type} {P:List α->Prop} (h:∀ a0 a1 a2,P [a0,a1,a2]) (us:List α) (hl:us.length=3):P us:=match us,hl with | [a0,a1,a2],_=>h a0 a1 a2
theorem JO {α:Type} {P:List α->Prop} (h:∀ a0 a1 a2 a3,P [a0,a1,a2,a3]) (us:List α) (hl:us.length=4):P us:=match us,hl with | [a0,a1,a2,a3],_=>h a0 a1 a2 a3
theorem UC {α:Type} {P:List α->Prop} (h:∀ a0 a1 a2 a3 a4,P [a0,a1,a2,a3,a4]) (us:List α) (hl:us.length=5):P us:=match us,hl with | [a0,a1,a2,a3,a4],_=>h a0 a1 a2 a3 a4
theorem Rx {α:Type} {P:List α->Prop} (h:∀ a0 a1 a2 a3 a4 a5,P [a0,a1,a2,a3,a4,a5]) (us:List α) (hl:us.length=6):P us:=match us,hl with | [a0,a1,a2,a3,a4,a5],_=>h a0 a1 a2 a3 a4 a5
open PySem.W in
set_option maxHeartbeats 4000000 in
theorem OZ {K:Zqq} {h:Heap} {mg:Str->Option Value} (X:K.In h) (G:h.Ns mainGlobals mg)
   {bH aH aB bX cB aI bU b8 cj dY dz bz bg bP bJ bq bK br bQ gj gm cG bD aS qW cV fB ig gv ck cH gw eK gx d8 dO fC fD dP dQ cW cI bh d9 bL iy bY gn bE iR eO gz gJ qe:Addr}
   {AH CO:Str} {ee:Addr} {AI ze:List Value} {AJ:List Str} {AK:Bool} {zf:Option Bool} {AL AM:Option Addr} {AO AQ AR AU AV:Option Value} {AW:Value} {rW:Array DictEntry} {AX:Nat} {zg:Array (Option Value)}
   {zh:Tok}
   {uO:Tok}
   {zj:Tok}
   {tV:Tok}
   {zk:Tok}
   {tW:Tok}
   {AY:Tok}
   {zm:Tok}
   {zo:Tok}
   {wg:Tok}
   {yo:Tok}
   {tX:Tok}
   {yp:Tok}
   {tY:Tok}
   {wj:Tok}
   {AZ:Tok}
   {Bb:Tok}
   {zp:Tok}
   {CP:Tok}
   {yq:Tok}
   {zq:Tok}
   {yr:Tok}
   {Hy:Option Addr} {Hz:Nat} {EF:Array (Option Value)} {HC HD HE:Tok}
   {Mf:Option Addr} {Mg:Nat} {JP:Array (Option Value)} {Mh Mi Mj Ml:Tok}
   (Mm:nsIn K mainGlobals "Graph"=some (some (.ref bH)))
   (JQ:plainGet K bH Str.empty=true)
   (JR:hasDictIn K bH=true)
   (JS:plainOver K bH=true)
   (JT:findIn K (.ref bH) "__setattr__"=some (some (.builtin "object.__setattr__")))
   (Bc:findIn K (.ref bH) "__init__"=some (some (.ref bU)))
   (Bd:isFn K (.ref bU)=true)
   (wm:findIn K (.ref bH) "besides"=some (some (.ref b8)))
   (oV:isFn K (.ref b8)=true)
   (JU:makesIn K bH=true)
   (JV:keepIn K (.ref bH)=true)
   (iT:findIn K (.ref bH) "atoms"=some none)
   (iU:findIn K (.ref bH) "bonds"=some none)
   (gA:findIn K (.ref bH) "neighbours"=some none)
   (CQ:nsIn K mainGlobals "FormFault"=some (some (.ref aH)))
   (CS:K.lookup aH=some (excClassObj AH CO aH ee AI XL.cK true AJ ze AK zf AL AO AQ AR AU AV "Exception.__new__"))
   (Be:K.lookup ee=some ⟨AW,AM,.dict rW AX,zg⟩)
   (Bf:nsIn K ee "__init__"=some (some (.ref cj)))
   (Bg:isFn K (.ref cj)=true)
   (Bh:keepIn K (.ref aH)=true)
   (Bj:findIn K (.ref aH) "__setattr__"=some (some (.builtin "object.__setattr__")))
   (lZ:nsIn K ee "__getattribute__"=some none)
   (qx:nsIn K ee "__getattr__"=some none)
   (qy:nsIn K ee "__setattr__"=some none)
   (su:nsIn K ee "which"=some none)
   (tZ:nsIn K ee "rule"=some none)
   (sA:nsIn K ee "place"=some none)
   (JW:nsIn K mainGlobals "Reader"=some (some (.ref aB)))
   (HF:plainGet K aB Str.empty=true)
   (HG:hasDictIn K aB=true)
   (HH:plainOver K aB=true)
   (HJ:findIn K (.ref aB) "__setattr__"=some (some (.builtin "object.__setattr__")))
   (zu:findIn K (.ref aB) "__init__"=some (some (.ref dY)))
   (zw:isFn K (.ref dY)=true)
   (yt:findIn K (.ref aB) "fault"=some (some (.ref dz)))
   (yu:isFn K (.ref dz)=true)
   (qz:findIn K (.ref aB) "take_number"=some (some (.ref bz)))
   (qA:isFn K (.ref bz)=true)
   (pq:findIn K (.ref aB) "take_between"=some (some (.ref bg)))
   (p7:isFn K (.ref bg)=true)
   (rH:findIn K (.ref aB) "take_range"=some (some (.ref bP)))
   (rJ:isFn K (.ref bP)=true)
   (sC:findIn K (.ref aB) "take_mark"=some (some (.ref bJ)))
   (sE:isFn K (.ref bJ)=true)
   (rK:findIn K (.ref aB) "take_atoms"=some (some (.ref bq)))
   (rL:isFn K (.ref bq)=true)
   (sF:findIn K (.ref aB) "take_pair"=some (some (.ref bK)))
   (sG:isFn K (.ref bK)=true)
   (rM:findIn K (.ref aB) "take_bonds"=some (some (.ref br)))
   (rN:isFn K (.ref br)=true)
   (ua:findIn K (.ref aB) "take_end"=some (some (.ref bQ)))
   (uc:isFn K (.ref bQ)=true)
   (HK:makesIn K aB=true)
   (HL:keepIn K (.ref aB)=true)
   (dZ:findIn K (.ref aB) "form"=some none)
   (iA:findIn K (.ref aB) "which"=some none)
   (bc:findIn K (.ref aB) "place"=some none)
   (cz:findIn K (.ref aB) "hand_places"=some none)
   (c5:findIn K (.ref aB) "side_places"=some none)
   (Pa:nsIn K mainGlobals "Atom"=some (some (.ref bX)))
   (Mn:plainGet K bX Str.empty=true)
   (Mp:hasDictIn K bX=true)
   (Mq:plainOver K bX=true)
   (Mr:findIn K (.ref bX) "__setattr__"=some (some (.builtin "object.__setattr__")))
   (CT:findIn K (.ref bX) "__init__"=some (some (.ref gj)))
   (CU:isFn K (.ref gj)=true)
   (Ms:makesIn K bX=true)
   (Mt:keepIn K (.ref bX)=true)
   (gf:findIn K (.ref bX) "element"=some none)
   (gg:findIn K (.ref bX) "isotope"=some none)
   (gQ:findIn K (.ref bX) "charge"=some none)
   (eB:findIn K (.ref bX) "hydrogens"=some none)
   (kj:findIn K (.ref bX) "hand"=some none)
   (Pb:nsIn K mainGlobals "Bond"=some (some (.ref cB)))
   (Mu:plainGet K cB Str.empty=true)
   (Mv:hasDictIn K cB=true)
   (Mw:plainOver K cB=true)
   (Mx:findIn K (.ref cB) "__setattr__"=some (some (.builtin "object.__setattr__")))
   (CV:findIn K (.ref cB) "__init__"=some (some (.ref gm)))
   (CW:isFn K (.ref gm)=true)
   (My:makesIn K cB=true)
   (Mz:keepIn K (.ref cB)=true)
   (ju:findIn K (.ref cB) "a"=some none)
   (jv:findIn K (.ref cB) "b"=some none)
   (iH:findIn K (.ref cB) "order"=some none)
   (ko:findIn K (.ref cB) "side"=some none)
   (EG:nsIn K mainGlobals "Molecule"=some (some (.ref aI)))
   (CY:plainGet K aI Str.empty=true)
   (CZ:hasDictIn K aI=true)
   (Dc:plainOver K aI=true)
   (Dd:findIn K (.ref aI) "__setattr__"=some (some (.builtin "object.__setattr__")))
   (wu:findIn K (.ref aI) "__init__"=some (some (.ref cG)))
   (wz:isFn K (.ref cG)=true)
   (p8:findIn K (.ref aI) "row_around"=some (some (.ref bD)))
   (p9:isFn K (.ref bD)=true)
   (mh:findIn K (.ref aI) "orders_between"=some (some (.ref aS)))
   (mi:isFn K (.ref aS)=true)
   (De:makesIn K aI=true)
   (Df:keepIn K (.ref aI)=true)
   (sH:findIn K (.ref aI) "besides"=some (some (.ref b8)))
   (aX:findIn K (.ref aI) "atoms"=some none)
   (eE:findIn K (.ref aI) "bonds"=some none)
   (bG:findIn K (.ref aI) "neighbours"=some none)
   (gO:findIn K (.ref aI) "sums"=some none)
   (dM:findIn K (.ref aI) "orders"=some none)
   (c6:findIn K (.ref aI) "bond_numbers"=some none)
   (zx:specialIn K (.ref bH) "__getattribute__"=some (some (.builtin "type.__getattribute__")))
   (zy:readsIn K bH (.type "type")=true)
   (zz:findCls K (.ref bH) (.type "type") "__init__"=some (.val (.ref bU)))
   (M0:nsIn K mainGlobals "_wall"=some (some (.ref qW)))
   (uP:nsIn K mainGlobals "neighbour_rows"=some (some (.ref cV)))
   (Bk:nsIn K mainGlobals "take_graph"=some (some (.ref fB)))
   (Dg:nsIn K mainGlobals "order_bit"=some (some (.ref ig)))
   (Bl:nsIn K mainGlobals "order_sums"=some (some (.ref gv)))
   (uQ:nsIn K mainGlobals "redrawn_orders"=some (some (.ref ck)))
   (w6:nsIn K mainGlobals "states_behind"=some (some (.ref cH)))
   (Bm:nsIn K mainGlobals "less_order"=some (some (.ref gw)))
   (yw:nsIn K mainGlobals "bonds_behind"=some (some (.ref eK)))
   (Bp:nsIn K mainGlobals "can_be_met"=some (some (.ref gx)))
   (yx:nsIn K mainGlobals "pair_numbers"=some (some (.ref d8)))
   (w9:nsIn K mainGlobals "read_molecule"=some (some (.ref dO)))
   (Dh:nsIn K mainGlobals "take_atom"=some (some (.ref fC)))
   (Di:nsIn K mainGlobals "take_bond"=some (some (.ref fD)))
   (wA:nsIn K mainGlobals "may_have_hand"=some (some (.ref dP)))
   (wB:nsIn K mainGlobals "may_have_side"=some (some (.ref dQ)))
   (uR:nsIn K mainGlobals "end_takes_side"=some (some (.ref cW)))
   (wC:nsIn K mainGlobals "greatest_part"=some (some (.ref cI)))
   (pB:nsIn K mainGlobals "parts_with_one_more"=some (some (.ref bh)))
   (yy:nsIn K mainGlobals "atoms_beside"=some (some (.ref d9)))
   (qB:nsIn K mainGlobals "rows_with_one_more"=some (some (.ref bL)))
   (Dj:nsIn K mainGlobals "are_alike"=some (some (.ref iy)))
   (sI:nsIn K mainGlobals "are_joined_alike"=some (some (.ref bY)))
   (Dk:nsIn K mainGlobals "first_row"=some (some (.ref gn)))
   (pC:nsIn K mainGlobals "atoms_with_partners"=some (some (.ref bE)))
   (JX:nsIn K mainGlobals "common"=some (some (.ref iR)))
   (yz:nsIn K mainGlobals "fault_answer"=some (some (.ref eO)))
   (Bt:nsIn K mainGlobals "row_answer"=some (some (.ref gz)))
   (ud:b4 K "__init__" "Graph.__init__" nQ bU)
   (kH:b4 K "besides" "Graph.besides" k7 b8)
   (uS:b4 K "__init__" "FormFault.__init__" jF cj)
   (z0:b4 K "__init__" "Reader.__init__" mO dY)
   (qC:b4 K "fault" "Reader.fault" lC dz)
   (kr:b4 K "take_number" "Reader.take_number" gZ bz)
   (j9:b4 K "take_between" "Reader.take_between" gR bg)
   (kU:b4 K "take_range" "Reader.take_range" kO bP)
   (lP:b4 K "take_mark" "Reader.take_mark" ja bJ)
   (kW:b4 K "take_atoms" "Reader.take_atoms" iM bq)
   (lQ:b4 K "take_pair" "Reader.take_pair" jb bK)
   (kX:b4 K "take_bonds" "Reader.take_bonds" iN br)
   (mE:b4 K "take_end" "Reader.take_end" jj bQ)
   (Dl:b4 K "__init__" "Atom.__init__" pU gj)
   (Dm:b4 K "__init__" "Bond.__init__" pV gm)
   (wG:b4 K "__init__" "Molecule.__init__" k8 cG)
   (jA:b4 K "row_around" "Molecule.row_around" j3 bD)
   (iJ:b4 K "orders_between" "Molecule.orders_between" cM aS)
   (M3:b4 K "_wall" "_wall" FH qW)
   (uT:b4 K "neighbour_rows" "neighbour_rows" jG cV)
   (Bu:b4 K "take_graph" "take_graph" nR fB)
   (Dn:b4 K "order_bit" "order_bit" pW ig)
   (Bv:b4 K "order_sums" "order_sums" nU gv)
   (uU:b4 K "redrawn_orders" "redrawn_orders" iC ck)
   (wH:b4 K "states_behind" "states_behind" iX cH)
   (Bw:b4 K "less_order" "less_order" nV gw)
   (y9:b4 K "bonds_behind" "bonds_behind" lD eK)
   (Bx:b4 K "can_be_met" "can_be_met" nX gx)
   (yC:b4 K "pair_numbers" "pair_numbers" jk d8)
   (wI:b4 K "read_molecule" "read_molecule" k9 dO)
   (Dq:b4 K "take_atom" "take_atom" pX fC)
   (Dr:b4 K "take_bond" "take_bond" pZ fD)
   (wJ:b4 K "may_have_hand" "may_have_hand" kC dP)
   (wK:b4 K "may_have_side" "may_have_side" kE dQ)
   (uV:b4 K "end_takes_side" "end_takes_side" jH cW)
   (wL:b4 K "greatest_part" "greatest_part" iY cI)
   (pF:b4 K "parts_with_one_more" "parts_with_one_more" eX bh)
   (yD:b4 K "atoms_beside" "atoms_beside" jl d9)
   (qD:b4 K "rows_with_one_more" "rows_with_one_more" ia bL)
   (Ds:b4 K "are_alike" "are_alike" qc iy)
   (sJ:b4 K "are_joined_alike" "are_joined_alike" jc bY)
   (Dt:b4 K "first_row" "first_row" m6 gn)
   (pG:b4 K "atoms_with_partners" "atoms_with_partners" gS bE)
   (JY:b4 K "common" "common" yg iR)
   (yE:b4 K "fault_answer" "fault_answer" lE eO)
   (By:b4 K "row_answer" "row_answer" nY gz)
   (B6:nsIn K mainGlobals "WRONG_MARK"=some (some (.int (1) zh)))
   (wM:nsIn K mainGlobals "OUT_OF_BOUNDS"=some (some (.int (2) uO)))
   (B7:nsIn K mainGlobals "NOT_BEHIND"=some (some (.int (3) zj)))
   (uW:nsIn K mainGlobals "HAND_MISPLACED"=some (some (.int (4) tV)))
   (B8:nsIn K mainGlobals "ENDS_EARLY"=some (some (.int (5) zk)))
   (uX:nsIn K mainGlobals "SIDE_MISPLACED"=some (some (.int (6) tW)))
   (Du:nsIn K mainGlobals "LEFT_OVER"=some (some (.int (7) AY)))
   (B9:nsIn K mainGlobals "MOST_ATOMS"=some (some (.int (128) zm)))
   (BA:nsIn K mainGlobals "MOST_BONDS"=some (some (.int (192) zo)))
   (yF:nsIn K mainGlobals "MOST_ELEMENT"=some (some (.int (118) wg)))
   (z6:nsIn K mainGlobals "MOST_CHARGE"=some (some (.int (8) yo)))
   (uY:nsIn K mainGlobals "MOST_HYDROGENS"=some (some (.int (7) tX)))
   (z8:nsIn K mainGlobals "LEAST_ORDER"=some (some (.int (1) yp)))
   (uZ:nsIn K mainGlobals "GREATEST_ORDER"=some (some (.int (3) tY)))
   (yG:nsIn K mainGlobals "MOST_ISOTOPE"=some (some (.int (500) wj)))
   (Dv:nsIn K mainGlobals "MOST_HAND"=some (some (.int (2) AZ)))
   (Dy:nsIn K mainGlobals "MOST_SIDE"=some (some (.int (2) Bb)))
   (BB:nsIn K mainGlobals "NO_PARTNER"=some (some (.int (-1) zp)))
   (EH:nsIn K mainGlobals "ANSWERED"=some (some (.int (0) CP)))
   (z9:nsIn K mainGlobals "FAULTY_FORM"=some (some (.int (-5) yq)))
   (BC:nsIn K mainGlobals "FIRST_FORM"=some (some (.int (0) zq)))
   (zA:nsIn K mainGlobals "SECOND_FORM"=some (some (.int (1) yr)))
   (JZ:nsIn K mainGlobals "ORDERS"=some (some (.ref gJ)))
   (Ka:K.lookup gJ=some ⟨.type "tuple",Hy,.seq #[.int 1 HC,.int 2 HD,.int 3 HE] Hz,EF⟩)
   (Pc:nsIn K mainGlobals "MARK"=some (some (.ref qe)))
   (Pd:K.lookup qe=some ⟨.type "tuple",Mf,.seq #[.int 70 Mh,.int 75 Mi,.int 77 Mj,.int 49 Ml] Mg,JP⟩)
   (Dz:nsIn K mainGlobals "enumerate"=some none)
   (Ry:nsIn K mainGlobals "len"=some none)
   (Pe:nsIn K mainGlobals "list"=some none)
   (Rz:nsIn K mainGlobals "min"=some none)
   (M4:nsIn K mainGlobals "range"=some none)
   (Kc:nsIn K mainGlobals "sorted"=some none)
   (M6:nsIn K mainGlobals "tuple"=some none)
   (ow:(rW.all fun e=>match e.key with | .str _ _=>true | _=>false)=true)
  :∃ t:Ad,t.iR=iR/\Txt K mg t:=by
 have yH:nsOkIn K ee=true:=by unfold nsOkIn;rw [Be];exact ow
 obtain ⟨gu,jt⟩:=ud.fn;obtain ⟨fq,gK⟩:=kH.fn;obtain ⟨fU,fY⟩:=uS.fn;obtain ⟨iQ,iS⟩:=z0.fn;obtain ⟨ic,i6⟩:=qC.fn;obtain ⟨d7,dG⟩:=kr.fn;obtain ⟨cO,cR⟩:=j9.fn;obtain ⟨fN,fO⟩:=kU.fn;obtain ⟨eF,eT⟩:=lP.fn;obtain ⟨cE,dW⟩:=kW.fn;obtain ⟨eG,eU⟩:=lQ.fn;obtain ⟨cF,dX⟩:=kX.fn;obtain ⟨f9,fE⟩:=mE.fn;obtain ⟨jS,jZ⟩:=Dl.fn;obtain ⟨jT,kg⟩:=Dm.fn;obtain ⟨gD,gM⟩:=wG.fn;obtain ⟨eY,eZ⟩:=jA.fn;obtain ⟨bN,bO⟩:=iJ.fn;obtain ⟨xj,xq⟩:=M3.fn;obtain ⟨fV,e7⟩:=uT.fn;obtain ⟨iD,iE⟩:=Bu.fn;obtain ⟨jU,i8⟩:=Dn.fn;obtain ⟨jm,iF⟩:=Bv.fn;obtain ⟨fW,e9⟩:=uU.fn;obtain ⟨gE,fu⟩:=wH.fn;obtain ⟨jn,g7⟩:=Bw.fn;obtain ⟨ir,eV⟩:=y9.fn;obtain ⟨jq,g8⟩:=Bx.fn;obtain ⟨iu,fZ⟩:=yC.fn;obtain ⟨gF,dR⟩:=wI.fn;obtain ⟨jV,je⟩:=Dq.fn;obtain ⟨jW,jf⟩:=Dr.fn;obtain ⟨gG,fz⟩:=wJ.fn;obtain ⟨gH,f6⟩:=wK.fn;obtain ⟨fX,cX⟩:=uV.fn;obtain ⟨gI,f7⟩:=wL.fn;obtain ⟨cP,bF⟩:=pF.fn;obtain ⟨iw,gb⟩:=yD.fn;obtain ⟨dB,cy⟩:=qD.fn;obtain ⟨jX,jg⟩:=Ds.fn;obtain ⟨eN,cY⟩:=sJ.fn;obtain ⟨jY,jh⟩:=Dt.fn;obtain ⟨cQ,bR⟩:=pG.fn;obtain ⟨nh,nu⟩:=JY.fn;obtain ⟨iz,gc⟩:=yE.fn;obtain ⟨jr,iG⟩:=By.fn;refine ⟨⟨bH,aH,aB,bX,cB,aI,bU,gu,b8,fq,cj,fU,dY,iQ,dz,ic,bz,d7,bg,cO,bP,fN,bJ,eF,bq,cE,bK,eG,br,cF,bQ,f9,gj,jS,gm,jT,cG,gD,bD,eY,aS,bN,qW,xj,cV,fV,fB,iD,ig,jU,gv,jm,ck,fW,cH,gE,gw,jn,eK,ir,gx,jq,d8,iu,dO,gF,fC,jV,fD,jW,dP,gG,dQ,gH,cW,fX,cI,gI,bh,cP,d9,iw,bL,dB,iy,jX,bY,eN,gn,jY,bE,cQ,iR,nh,eO,iz,gz,jr,gJ,qe⟩,rfl,?_⟩;exact {
   jt:=jt,
   nZ:=jt.binds (ps:=["self","atoms","bonds"]) fun _ _ _ _ _ _=>tU fun _ _ _=>rfl,
   gK:=gK,
   oG:=gK.binds (ps:=["self","end","other"]) fun _ _ _ _ _ _=>tU fun _ _ _=>rfl,
   fY:=fY,
   ni:=fY.binds (ps:=["self","which","rule","place"]) fun _ _ _ _ _ _=>JO fun _ _ _ _=>rfl,
   iS:=iS,
   rQ:=iS.binds (ps:=["self","form","which"]) fun _ _ _ _ _ _=>tU fun _ _ _=>rfl,
   i6:=i6,
   dF:=i6.binds (ps:=["self","rule","place"]) fun _ _ _ _ _ _=>tU fun _ _ _=>rfl,
   dG:=dG,
   i7:=dG.binds (ps:=["self","size"]) fun _ _ _ _ _ _=>rG fun _ _=>rfl,
   cR:=cR,
   aO:=cR.binds (ps:=["self","size","least","greatest"]) fun _ _ _ _ _ _=>JO fun _ _ _ _=>rfl,
   fO:=fO,
   rC:=fO.binds (ps:=["self","size","most"]) fun _ _ _ _ _ _=>tU fun _ _ _=>rfl,
   eT:=eT,
   lF:=eT.binds (ps:=["self","mark"]) fun _ _ _ _ _ _=>rG fun _ _=>rfl,
   dW:=dW,
   kP:=dW.binds (ps:=["self","n","take_atom"]) fun _ _ _ _ _ _=>tU fun _ _ _=>rfl,
   eU:=eU,
   lG:=eU.binds (ps:=["self","n","before"]) fun _ _ _ _ _ _=>tU fun _ _ _=>rfl,
   dX:=dX,
   kQ:=dX.binds (ps:=["self","n","m","take_bond"]) fun _ _ _ _ _ _=>JO fun _ _ _ _=>rfl,
   fE:=fE,
   m8:=fE.binds (ps:=["self"]) fun _ _ _ _ _ _=>rF fun _=>rfl,
   jZ:=jZ,
   vA:=jZ.binds (ps:=["self","element","isotope","charge","hydrogens","hand"]) fun _ _ _ _ _ _=>Rx fun _ _ _ _ _ _=>rfl,
   kg:=kg,
   vC:=kg.binds (ps:=["self","pair","order","side"]) fun _ _ _ _ _ _=>JO fun _ _ _ _=>rfl,
   gM:=gM,
   oH:=gM.binds (ps:=["self","atoms","bonds"]) fun _ _ _ _ _ _=>tU fun _ _ _=>rfl,
   eZ:=eZ,
   oZ:=eZ.binds (ps:=["self","atom"]) fun _ _ _ _ _ _=>rG fun _ _=>rfl,
   bO:=bO,
   fj:=bO.binds (ps:=["self","atom","other"]) fun _ _ _ _ _ _=>tU fun _ _ _=>rfl,
   xq:=xq,
   Mc:=xq.binds (ps:=["k"]) fun _ _ _ _ _ _=>rF fun _=>rfl,
   Me:=mg_of X G M0,
   e7:=e7,
   nj:=e7.binds (ps:=["n","bonds"]) fun _ _ _ _ _ _=>rG fun _ _=>rfl,
   ny:=mg_of X G uP,
   iE:=iE,
   tE:=iE.binds (ps:=["reader","mark","take_atom","take_bond"]) fun _ _ _ _ _ _=>JO fun _ _ _ _=>rfl,
   tH:=mg_of X G Bk,
   i8:=i8,
   qf:=i8.binds (ps:=["order"]) fun _ _ _ _ _ _=>rF fun _=>rfl,
   qj:=mg_of X G Dg,
   iF:=iF,
   tF:=iF.binds (ps:=["n","bonds"]) fun _ _ _ _ _ _=>rG fun _ _=>rfl,
   tK:=mg_of X G Bl,
   e9:=e9,
   nk:=e9.binds (ps:=["sums","bonds"]) fun _ _ _ _ _ _=>rG fun _ _=>rfl,
   n6:=mg_of X G uQ,
   fu:=fu,
   oJ:=fu.binds (ps:=["states","bonds","k"]) fun _ _ _ _ _ _=>tU fun _ _ _=>rfl,
   oO:=mg_of X G w6,
   g7:=g7,
   oh:=g7.binds (ps:=["state","bond","order"]) fun _ _ _ _ _ _=>tU fun _ _ _=>rfl,
   om:=mg_of X G Bm,
   eV:=eV,
   lH:=eV.binds (ps:=["bonds","k","atom"]) fun _ _ _ _ _ _=>tU fun _ _ _=>rfl,
   lJ:=mg_of X G yw,
   g8:=g8,
   oj:=g8.binds (ps:=["left","bonds"]) fun _ _ _ _ _ _=>rG fun _ _=>rfl,
   oq:=mg_of X G Bp,
   fZ:=fZ,
   qg:=fZ.binds (ps:=["bonds"]) fun _ _ _ _ _ _=>rF fun _=>rfl,
   qk:=mg_of X G yx,
   dR:=dR,
   kF:=dR.binds (ps:=["form","which"]) fun _ _ _ _ _ _=>rG fun _ _=>rfl,
   kG:=mg_of X G w9,
   je:=je,
   vD:=je.binds (ps:=["reader"]) fun _ _ _ _ _ _=>rF fun _=>rfl,
   vH:=mg_of X G Dh,
   jf:=jf,
   vE:=jf.binds (ps:=["reader","pair"]) fun _ _ _ _ _ _=>rG fun _ _=>rfl,
   vJ:=mg_of X G Di,
   fz:=fz,
   oK:=fz.binds (ps:=["molecule","k"]) fun _ _ _ _ _ _=>rG fun _ _=>rfl,
   oQ:=mg_of X G wA,
   f6:=f6,
   oM:=f6.binds (ps:=["molecule","k"]) fun _ _ _ _ _ _=>rG fun _ _=>rfl,
   oR:=mg_of X G wB,
   cX:=cX,
   jI:=cX.binds (ps:=["molecule","end","other"]) fun _ _ _ _ _ _=>tU fun _ _ _=>rfl,
   jJ:=mg_of X G uR,
   f7:=f7,
   oN:=f7.binds (ps:=["one","other"]) fun _ _ _ _ _ _=>rG fun _ _=>rfl,
   oS:=mg_of X G wC,
   bF:=bF,
   gT:=bF.binds (ps:=["one","other","found"]) fun _ _ _ _ _ _=>tU fun _ _ _=>rfl,
   gU:=mg_of X G pB,
   gb:=gb,
   qh:=gb.binds (ps:=["molecule","atoms"]) fun _ _ _ _ _ _=>rG fun _ _=>rfl,
   qm:=mg_of X G yy,
   cy:=cy,
   kh:=cy.binds (ps:=["one","other","atoms","rows","atom"]) fun _ _ _ _ _ _=>UC fun _ _ _ _ _=>rfl,
   ki:=mg_of X G qB,
   jg:=jg,
   vF:=jg.binds (ps:=["atom","partner"]) fun _ _ _ _ _ _=>rG fun _ _=>rfl,
   vK:=mg_of X G Dj,
   cY:=cY,
   lI:=cY.binds (ps:=["one","other","atoms","row","atom","partner"]) fun _ _ _ _ _ _=>Rx fun _ _ _ _ _ _=>rfl,
   lK:=mg_of X G sI,
   jh:=jh,
   vG:=jh.binds (ps:=["found"]) fun _ _ _ _ _ _=>rF fun _=>rfl,
   vL:=mg_of X G Dk,
   bR:=bR,
   j4:=bR.binds (ps:=["atoms","partners"]) fun _ _ _ _ _ _=>rG fun _ _=>rfl,
   j5:=mg_of X G pC,
   nu:=nu,
   JG:=nu.binds (ps:=["molecule","another"]) fun _ _ _ _ _ _=>rG fun _ _=>rfl,
   CK:=mg_of X G JX,
   gc:=gc,
   qi:=gc.binds (ps:=["fault"]) fun _ _ _ _ _ _=>rF fun _=>rfl,
   qo:=mg_of X G yz,
   iG:=iG,
   tG:=iG.binds (ps:=["row"]) fun _ _ _ _ _ _=>rF fun _=>rfl,
   tL:=mg_of X G Bt,
   AG:=mg_of X G Mm,
   xr:=⟨JQ,JR,JS,JT⟩,
   FI:=⟨JU,Bc,Bd,JV⟩,
   wc:=⟨wm,oV,kH.kp⟩,
   iT:=iT,
   iU:=iU,
   gA:=gA,
   qp:=mg_of X G CQ,
   fF:=⟨⟨_,_,_,_,_,_,_,_,_,_,_,_,_,_,CS,yH,Bf,fun x hx=>by simp only [List.mem_cons,List.mem_nil_iff,or_false] at hx;rcases hx with rfl | rfl | rfl | rfl | rfl | rfl<;>first | exact lZ | exact qx | exact qy | exact su | exact tZ | exact sA⟩,Bg,Bh,Bj,by simp,by simp,by simp⟩,
   CL:=mg_of X G JW,
   aJ:=⟨HF,HG,HH,HJ⟩,
   CM:=⟨HK,zu,zw,HL⟩,
   dH:=⟨yt,yu,qC.kp⟩,
   i9:=⟨qz,qA,kr.kp⟩,
   aP:=⟨pq,p7,j9.kp⟩,
   rE:=⟨rH,rJ,kU.kp⟩,
   lM:=⟨sC,sE,lP.kp⟩,
   kR:=⟨rK,rL,kW.kp⟩,
   lN:=⟨sF,sG,lQ.kp⟩,
   kT:=⟨rM,rN,kX.kp⟩,
   mC:=⟨ua,uc,mE.kp⟩,
   dZ:=dZ,
   iA:=iA,
   bc:=bc,
   cz:=cz,
   c5:=c5,
   JH:=mg_of X G Pa,
   jd:=⟨Mn,Mp,Mq,Mr⟩,
   JI:=⟨Ms,CT,CU,Mt⟩,
   gf:=gf,
   gg:=gg,
   gQ:=gQ,
   eB:=eB,
   kj:=kj,
   JJ:=mg_of X G Pb,
   iO:=⟨Mu,Mv,Mw,Mx⟩,
   JK:=⟨My,CV,CW,Mz⟩,
   ju:=ju,
   jv:=jv,
   iH:=iH,
   ko:=ko,
   yh:=mg_of X G EG,
   aU:=⟨CY,CZ,Dc,Dd⟩,
   yi:=⟨De,wu,wz,Df⟩,
   ph:=⟨p8,p9,jA.kp⟩,
   fk:=⟨mh,mi,iJ.kp⟩,
   lO:=⟨sH,oV,kH.kp⟩,
   aX:=aX,
   eE:=eE,
   bG:=bG,
   gO:=gO,
   dM:=dM,
   c6:=c6,
   tM:=⟨zx,zy,zz,ud.kp⟩,
   tN:=⟨_,mg_of X G B6⟩,
   oU:=⟨_,mg_of X G wM⟩,
   tO:=⟨_,mg_of X G B7⟩,
   n8:=⟨_,mg_of X G uW⟩,
   tP:=⟨_,mg_of X G B8⟩,
   nA:=⟨_,mg_of X G uX⟩,
   vM:=⟨_,mg_of X G Du⟩,
   tQ:=⟨_,mg_of X G B9⟩,
   tR:=⟨_,mg_of X G BA⟩,
   qt:=⟨_,mg_of X G yF⟩,
   rR:=⟨_,mg_of X G z6⟩,
   nB:=⟨_,mg_of X G uY⟩,
   mP:=⟨_,mg_of X G z8⟩,
   jK:=⟨_,mg_of X G uZ⟩,
   qu:=⟨_,mg_of X G yG⟩,
   vO:=⟨_,mg_of X G Dv⟩,
   vQ:=⟨_,mg_of X G Dy⟩,
   tS:=⟨_,mg_of X G BB⟩,
   yj:=⟨_,mg_of X G EH⟩,
   rT:=⟨_,mg_of X G z9⟩,
   tT:=⟨_,mg_of X G BC⟩,
   rV:=⟨_,mg_of X G zA⟩,
   yk:=mg_of X G JZ,
   qw:=fun H=>.inr ⟨_,_,_,Ka,rfl,rfl,(by show 3<=sizeLine;decide),.cons ⟨_,rfl⟩ (.cons ⟨_,rfl⟩ (.cons ⟨_,rfl⟩ (.nil)))⟩,
   JL:=mg_of X G Pc,
   JN:=fun H=>.inr ⟨_,_,_,Pd,rfl,rfl,(by show 4<=sizeLine;decide),.cons ⟨_,rfl⟩ (.cons ⟨_,rfl⟩ (.cons ⟨_,rfl⟩ (.cons ⟨_,rfl⟩ (.nil))))⟩,
   mD:=ns_none_of X G Dz,
   j6:=ns_none_of X G Ry,
   ym:=ns_none_of X G Pe,
   NJ:=ns_none_of X G Rz,
   lu:=ns_none_of X G M4,
   CN:=ns_none_of X G Kc,
   xw:=ns_none_of X G M6 }
open XL (cK)
open Fk (Fault Bytes numIn need andThen)
def qX (H:Hp) (dx:Addr) (w r p:Int):Prop:=H dx=some (.xd [("which",.int w),("rule",.int r),("place",.int p)])
def mF {α:Type} (C:Addr) (w:Int) (x:Except Fault α) (k:α->Prop) (E:XK):Prop:=match x with
 | .ok y=>k y
 | .error f=>∀ H dx,qX H dx w f.rule f.place->E (.ref C) (some dx) H
theorem mF.andThen {α β:Type} {C:Addr} {w:Int} {x:Except Fault α} {f:α->Except Fault β} {k:β->Prop} {E:XK}:mF C w (Fk.andThen x f) k E ↔ mF C w x (fun y=>mF C w (f y) k E) E:=by cases x<;>exact Iff.rfl
theorem mF.mono {α:Type} {C:Addr} {w:Int} {x:Except Fault α} {k k':α->Prop} {E:XK} (h:mF C w x k E) (f:∀ y,x=.ok y->k y->k' y):mF C w x k' E:=by
 cases x with
 | ok y=>exact f y rfl h
 | error e=>exact h
def vB (B:Bytes):List V:=B.map fun c=>V.int (c.toNat:Int)
def qE (K:Zqq) (H:Hp) (a:Addr) (B:Bytes):Prop:=(∃ o,H a=some (.jB o (.lst (vB B))))\/∀ H',c8 K H' a (vB B)
theorem qE.sq {K:Zqq} {H:Hp} {a:Addr} {B:Bytes} (h:qE K H a B):c8 K H a (vB B):=by
 rcases h with ⟨o,h⟩ | h
 . exact .inl (.inr ⟨o,h⟩)
 . exact h H
def iP (S:List Addr) (H H':Hp):Prop:=∀ b o,H b=some o->b ∉ S->H' b=some o
theorem iP.refl {S:List Addr} {H:Hp}:iP S H H:=fun _ _ h _=>h
theorem iP.trans {S:List Addr} {H H1 H2:Hp} (a:iP S H H1) (b:iP S H1 H2):iP S H H2:=fun c o h n=>b c o (a c o h n) n
theorem iP.mono {S S':List Addr} {H H1:Hp} (a:iP S H H1) (h:∀ b ∈ S,b ∈ S'):iP S' H H1:=fun c o q n=>a c o q fun z=>n (h c z)
theorem iP.R8 {K:Zqq} {S:List Addr} {H H':Hp} {a:Addr} {B:Bytes} (e:iP S H H') (h:qE K H a B) (n:∀ o xs,H a=some (.jB o xs)->a ∉ S):qE K H' a B:=by
 rcases h with ⟨o,h⟩ | h
 . exact .inl ⟨o,e a _ h (n _ _ h)⟩
 . exact .inr h
structure BD where
 a:Addr
 w:Int
 B:Bytes
 b:Bytes
 p:Nat
 hp:Addr
 hps:List Int
 sp:Addr
 Kd:List Int
def UD (x:BD):List (Str×V):=[("form",.ref x.a),("which",.int x.w),("place",.int x.p),("hand_places",.ref x.hp),("side_places",.ref x.sp)]
structure eW (K:Zqq) (C:Addr) (H:Hp) (r:Addr) (x:BD):Prop where
 obj:∃ dx,H r=some (.ins C dx (UD x))
 form:qE K H x.a x.B
 hpl:H x.hp=some (.lst (x.hps.map V.int))
 Ef:H x.sp=some (.lst (x.Kd.map V.int))
 ne:x.hp ≠ x.sp
 rest:x.b=x.B.drop x.p
 le:x.p<=x.B.length
 small:x.B.length<=6000
theorem Ke {H:Hp} {a b:Addr} {o:Obj} {u v:HO} (h:H a=some (.jB o u)) (h':H b=some v) (n:∀ o u,v ≠ .jB o u):a ≠ b:=fun e=>by rw [e,h'] at h;exact n _ _ (Option.some.inj h)
theorem eW.stay {K:Zqq} {C:Addr} {H H':Hp} {r:Addr} {x:BD} {S:List Addr} (R:eW K C H r x) (f:iP S H H') (n1:r ∉ S) (n2:x.hp ∉ S) (n3:x.sp ∉ S) (n4:∀ b ∈ S,∀ o u,H b ≠ some (.jB o u)):eW K C H' r x:=by
 obtain ⟨dx,e⟩:=R.obj;exact ⟨⟨dx,f r _ e n1⟩,f.R8 R.form fun o xs h hm=>n4 _ hm o xs h,f _ _ R.hpl n2,f _ _ R.Ef n3,R.ne,R.rest,R.le,R.small⟩
theorem eW.place {K:Zqq} {C:Addr} {H H':Hp} {r dx:Addr} {x:BD} {b:Bytes} {p:Nat} (R:eW K C H r x) (f:iP [r] H H') (e:H' r=some (.ins C dx (UD { x with b:=b,p:=p }))) (hb:b=x.B.drop p) (hp:p<=x.B.length) :
  eW K C H' r { x with b:=b,p:=p }:=by
 obtain ⟨d0,e0⟩:=R.obj;exact ⟨⟨dx,e⟩,f.R8 R.form (fun o xs h hm=>by
  rw [show x.a=r by simpa using hm,e0] at h;cases h),f _ _ R.hpl (by simp;exact kM R.hpl e0 (by intro z;cases z)),f _ _ R.Ef (by simp;exact kM R.Ef e0 (by intro z;cases z)),R.ne,hb,hp,R.small⟩
def M7 (C:Addr):Sp:=fun vs H Q _=>∃ (a:Addr) (w r p:Int),vs=[.ref a,.int w,.int r,.int p]/\H a=some (XO a C none)/\∀ (H':Hp) (dx:Addr),dx ≠ a->H' a=some (XO a C (some dx))->qX H' dx w r p->Q .non H'
def M8 (CR CF:Addr):Sp:=fun vs H _ E=>∃ (r:Addr) (w ru pl:Int) (dx:Addr) (fs:List (Str×V)),vs=[.ref r,.int ru,.int pl]/\H r=some (.ins CR dx fs)/\fs.lookup ("which":Str)=some (V.int w)/\∀ H' dx,qX H' dx w ru pl->E (.ref CF) (some dx) H'
def R9 (K:Zqq) (CR CF:Addr):Sp:=fun vs H Q E=>∃ (r:Addr) (k:Nat) (x:BD),vs=[.ref r,.int (k:Int)]/\eW K CR H r x/\(k=1\/k=2) /\
 mF CF x.w (numIn k (fun _=>true) x.b x.p) (fun y=>∀ H',eW K CR H' r { x with b:=y.2.1,p:=y.2.2 }->iP [r] H H'->Q (.int (y.1:Int)) H') E
def HM (K:Zqq) (CR CF:Addr):Sp:=fun vs H Q E=>∃ (r:Addr) (k:Nat) (lo hi:Int) (x:BD),vs=[.ref r,.int (k:Int),.int lo,.int hi]/\eW K CR H r x/\(k=1\/k=2) /\
 mF CF x.w (numIn k (fun v=>decide (lo<=(v:Int))&&decide ((v:Int)<=hi)) x.b x.p) (fun y=>∀ H',eW K CR H' r { x with b:=y.2.1,p:=y.2.2 }->iP [r] H H'->Q (.int (y.1:Int)) H') E
variable {P:Program} {w:World} {K:Zqq} {mg:Str->Option Value} {base:Heap} {t:Ad}
section
theorem zW:typeLookup (.type "Exception") "which"=pure none:=by rw [typeLookup_type,builtinLookup_eq_fast];kernel_rfl
theorem D0:typeLookup (.type "Exception") "rule"=pure none:=by rw [typeLookup_type,builtinLookup_eq_fast];kernel_rfl
theorem zX:typeLookup (.type "Exception") "place"=pure none:=by rw [typeLookup_type,builtinLookup_eq_fast];kernel_rfl
theorem Kf:aM ["self","which","rule","place"] ["self","which","rule","place"] (aF jF):=mL (by decide +kernel)
theorem Kg (T:Txt K mg t):bI P w K mg base mr 1 t.cj t.fU ["self","which","rule","place"] (M7 t.aH):=by
 refine T.fY.ok Kf (fun vs H Q E h=>?_) (fun cdv A outer s H vs Q E hr h=>?_)
 . obtain ⟨a,w,r,p,rfl,_⟩:=h
   rfl
 . obtain ⟨a,w,r,p,rfl,ha,k⟩:=h
   refine ⟨_,aq (Ru T.fF (pv 0) (pv 1) (by simp) zW rfl) (aq (NF T.fF (pv 0) (pv 2) (by simp) D0 rfl) (aE (NF T.fF (pv 0) (pv 3) (by simp) zX rfl))),?_⟩;refine ⟨_,rfl,_,rfl,a,rfl,ha,fun dx hd=>?_⟩;have da:dx ≠ a:=fun z=>by rw [z,ha] at hd;cases hd
   have e1:upd (upd H dx (.xd [("which",V.int w)])) a (XO a t.aH (some dx)) dx=some (.xd [("which",V.int w)]):=by rw [ak da,ai]
   refine ⟨_,rfl,_,rfl,a,dx,_,rfl,ai,e1,(by show 1 < 1000;decide),?_⟩;refine ⟨_,rfl,_,rfl,a,dx,_,rfl,?_,ai,(by show 2 < 1000;decide),?_⟩
   . rw [ak (Ne.symm da)];exact ai
   . refine k _ dx da ?_ ai
     rw [ak (Ne.symm da),ak (Ne.symm da)];exact ai
theorem Kh:aM ["self","rule","place"] ["self","rule","place"] (aF lC):=mL (by decide +kernel)
theorem nE (T:Txt K mg t):bI P w K mg base (rB P w) 3 t.dz t.ic ["self","rule","place"] (M8 t.aB t.aH):=by
 have GI:=@Kg P w K mg base t T;refine T.i6.IA Kh (fun vs H Q E h=>?_) (fun cdv A outer s H vs Q E hr h=>?_)
 . obtain ⟨r,w,ru,pl,dx,fs,rfl,_⟩:=h
   rfl
 . obtain ⟨r,w,ru,pl,dx,fs,rfl,hr0,hw,k⟩:=h
   refine ⟨_,aE (J3 rfl T.fF GI hr rfl T.qp T.ni LZ (af (aL (pv 0) rfl) (af (pv 1) (af (pv 2) ay)))),?_⟩;refine ⟨_,rfl,r,t.aB,dx,fs,_,rfl,hr0,T.aJ,T.iA,hw,_,rfl,_,rfl,(by show 3<=sizeLine;decide),fun a ha=>?_⟩;refine ⟨a,w,ru,pl,rfl,ai,fun H' dx' da h1 h2=>⟨rfl,dx',h1,k _ _ ?_⟩⟩;show drop H' a dx'=_;rw [xh da];exact h2
def M9 (K:Zqq) (C:Addr):Sp:=fun vs H Q _=>∃ (r dx a:Addr) (w:Int) (B:Bytes),vs=[.ref r,.ref a,.int w]/\H r=some (.ins C dx [])/\qE K H a B/\B.length<=6000 /\
 ∀ (H':Hp) (hp sp:Addr),H hp=none->H sp=none->eW K C H' r ⟨a,w,B,B,0,hp,[],sp,[]⟩->iP [r] H H'->Q .non H'
theorem Kl:aM ["self","form","which"] ["self","form","which"] (aF mO):=mL (by decide +kernel)
theorem Km (T:Txt K mg t):bI P w K mg base mr 1 t.dY t.iQ ["self","form","which"] (M9 K t.aB):=by
 refine T.iS.ok Kl (fun vs H Q E h=>?_) (fun cdv A outer s H vs Q E hr h=>?_)
 . obtain ⟨r,dx,a,w,B,rfl,_⟩:=h
   rfl
 . obtain ⟨r,dx,a,w,B,rfl,h0,hf,hB,k⟩:=h
   refine ⟨_,aq (fP (pv 0) (pv 1) rfl) (aq (fP (pv 0) (pv 2) rfl) (aq (fP (pv 0) aT rfl) (aq (fP (pv 0) (iK ay) rfl) (aE (fP (pv 0) (iK ay) rfl))))),?_⟩;refine ⟨_,rfl,_,rfl,r,_,dx,_,rfl,h0,T.aJ,T.dZ,(by show 0 < 1000;decide),?_⟩;refine ⟨_,rfl,_,rfl,r,_,dx,_,rfl,ai,T.aJ,T.iA,(by show 1 < 1000;decide),?_⟩;rw [kY];refine ⟨_,rfl,r,_,dx,_,rfl,ai,T.aJ,T.bc,(by show 2 < 1000;decide),?_⟩;rw [kY];refine ⟨Nat.zero_le _,fun l1 n1=>?_⟩;have r1:r ≠ l1:=fun z=>by rw [<- z,ai] at n1;cases n1
   have n1':H l1=none:=by rw [ak (Ne.symm r1)] at n1;exact n1
   refine ⟨_,rfl,r,_,dx,_,rfl,(by rw [ak r1];exact ai),T.aJ,T.cz,(by show 3 < 1000;decide),?_⟩;refine ⟨Nat.zero_le _,fun l2 n2=>?_⟩;have r2:r ≠ l2:=fun z=>by rw [<- z,ai] at n2;cases n2
   have RC:=n2;rw [ak (Ne.symm r2)] at RC;have UE:l1 ≠ l2:=fun z=>by rw [<- z,ai] at RC;cases RC
   have n2':H l2=none:=by rw [ak (Ne.symm UE),ak (Ne.symm r2)] at RC;exact RC
   refine ⟨_,rfl,r,_,dx,_,rfl,(by rw [ak r2];exact ai),T.aJ,T.c5,(by show 4 < 1000;decide),?_⟩;have F:iP [r] H (upd (upd (upd (upd (upd H r (.ins t.aB dx (fH "place" (.int 0) (fH "which" (.int w) (fH "form" (.ref a) []))))) l1 (.lst [])) r (.ins t.aB dx (fH "hand_places" (.ref l1) (fH "place" (.int 0) (fH "which" (.int w) (fH "form" (.ref a) [])))))) l2 (.lst []))
     r (.ins t.aB dx (fH "side_places" (.ref l2) (fH "hand_places" (.ref l1) (fH "place" (.int 0) (fH "which" (.int w) (fH "form" (.ref a) []))))))):=fun b o e n=>by
     have nb:b ≠ r:=by simpa using n
     rw [ak nb,ak (au e n2'),ak nb,ak (au e n1'),ak nb]
     exact e
   refine k _ l1 l2 n1' n2' ⟨⟨dx,ai⟩,F.R8 hf (fun o xs h hm=>?_),?_,?_,UE,rfl,Nat.zero_le _,hB⟩ F
   . rw [show a=r by simpa using hm,h0] at h;cases h
   . rw [ak (Ne.symm r1),ak UE,ak (Ne.symm r1)];exact ai
   . rw [ak (Ne.symm r2)];exact ai
theorem BE:aM ["self","size","number","k"] ["self","size"] (aF gZ):=mL (by decide +kernel)
theorem Kn {b:Bytes} {k:Nat} {c:UInt8} (hk:k < 2) (hc:b[k]?=some c):(Fk.num (b.take (k+1)):Int)=(Fk.num (b.take k):Int)+(c.toNat:Int) * 2 ^ (8 * (k:Int)).toNat:=by
 match k,b,hk,hc with
 | 0,x::b,_,hc=>
  cases hc;simp [Fk.num]
 | 1,x::y::b,_,hc=>
  cases hc;simp [Fk.num];omega
 | 0,[],_,hc=>cases hc
 | 1,[],_,hc=>cases hc
 | 1,[x],_,hc=>cases hc
theorem Ko (T:Txt K mg t):bI P w K mg base (rB P w) 4 t.bz t.d7 ["self","size"] (R9 K t.aB t.aH):=by
 have GF:=@nE P w K mg base t T;obtain ⟨VO,g5⟩:=T.tP;refine T.dG.IA BE (fun vs H Q E h=>?_) (fun cdv A outer s H vs Q E hr h=>?_)
 . obtain ⟨r,k,x,rfl,_⟩:=h
   rfl
 . obtain ⟨r,k,x,rfl,R,hk,bS⟩:=h
   obtain ⟨dx,e0⟩:=R.obj;refine ⟨_,aq (l8 (fM N6 (gX uG (aL (pv 0) rfl) (pv 1)) (c9 aY (by rfl) T.j6 PySem.boot_len (af (aL (pv 0) rfl) ay)) (gr _))
       (aE (dJ (bM (pv 0) T.aJ T.dH GF hr T.dF .nil fL (af (b9 rfl g5 (v:=.int 5) ⟨_,rfl⟩) (af (c9 aY (by rfl) T.j6 PySem.boot_len (af (aL (pv 0) rfl) ay)) ay))))) gq)
     (aq (aQ (i:=2) BE.nd rfl (Or.inl rfl) aT)
     (aq (dN Ht rfl (ly rfl T.lu (af (pv 1) ay)) (bx (i:=3) BE.nd rfl (Or.inl rfl))
       (aE (Ol (i:=2) BE.nd rfl (Or.inl rfl) (gX IY (fQ cJ (aL (pv 0) rfl) (gX uG (aL (pv 0) rfl) (pv 3)) (fun _ _=>rfl)) (gX En aT (pv 3))) Ej)))
     (aq (G9 (pv 0) (pv 1) Ox) (aE (bC (pv 2)))))),?_⟩
   have hf:=R.form.sq;have Ti:(vB x.B).length=x.B.length:=by simp [vB]
   refine ⟨_,rfl,fld e0 T.aJ T.bc rfl ⟨_,rfl,_,_,rfl,rfl,?_⟩⟩;refine ⟨_,rfl,fld e0 T.aJ T.dZ rfl ⟨x.a,_,rfl,.inl hf,_,_,rfl,rfl,_,rfl,?_⟩⟩;rw [Ti];have hlen:x.b.length=x.B.length - x.p:=by rw [R.rest,List.length_drop]
   have hle:=R.le;refine C3 (fun h=>?_) (fun h=>?_)
   . have h':(x.B.length:Int) < (x.p:Int)+(k:Int):=of_decide_eq_true h
     have e1:numIn k (fun _=>true) x.b x.p=.error ⟨5,x.p+x.b.length⟩:=if_pos (by omega);rw [e1] at bS;refine ⟨_,rfl,r,dx,_,rfl,e0,rfl,?_⟩;refine ⟨_,rfl,fld e0 T.aJ T.dZ rfl ⟨x.a,_,rfl,.inl hf,?_⟩⟩;refine ⟨r,x.w,5,((vB x.B).length:Int),dx,_,rfl,e0,rfl,fun H' d' hF=>bS H' d' ?_⟩;rw [Ti] at hF;have e2:x.p+x.b.length=x.B.length:=by omega
     show qX H' d' x.w 5 ((x.p+x.b.length:Nat):Int);rw [e2];exact hF
   . have h':¬ (x.B.length:Int) < (x.p:Int)+(k:Int):=fun z=>h (decide_eq_true z)
     have e1:numIn k (fun _=>true) x.b x.p=.ok (Fk.num (x.b.take k),x.b.drop k,x.p+k):=by
       unfold numIn;rw [if_neg (by omega),if_pos rfl]
     rw [e1] at bS;refine ⟨_,rfl,(k:Int),rfl,by omega,by omega,?_⟩;rw [Int.toNat_natCast];let vc:L2.Iv:=fun i σ H'=>∃ v,H'=H/\σ=[some (.ref r),some (.int (k:Int)),some (.int (Fk.num (x.b.take i):Int)),v];refine qT (n:=k) vc ⟨none,rfl,rfl⟩ ?_ ?_
     . rintro i σ H' hi ⟨v,rfl,rfl⟩
       obtain ⟨c,hc⟩:∃ c,x.b[i]?=some c:=⟨_,List.getElem?_eq_getElem (by omega)⟩;have XF:x.B[x.p+i]?=some c:=by
         rw [R.rest,List.getElem?_drop] at hc;exact hc
       have XG:(vB x.B)[x.p+i]?=some (V.int (c.toNat:Int)):=by
         unfold vB;rw [List.getElem?_map,XF];rfl
       refine ⟨_,rfl,?_⟩;refine ⟨_,rfl,fld e0 T.aJ T.dZ rfl ⟨_,rfl,fld e0 T.aJ T.bc rfl ⟨_,rfl,_,_,rfl,rfl,x.a,_,_,_,rfl,rfl,hf,at_of (j:=x.p+i) (by simp) XG,?_⟩⟩⟩;refine ⟨_,rfl,_,_,rfl,rfl,.inl ⟨by decide,by decide⟩,_,_,rfl,rfl,⟨by omega,by omega,?_⟩,?_⟩
       . have:=c.toNat_lt
         have e:((c.toNat:Int)).natAbs=c.toNat:=Int.natAbs_natCast _;rw [e];omega
       . refine ⟨_,_,rfl,rfl,some (.int (0+(i:Int))),rfl,?_⟩
         have e8:(8 * (0+(i:Int))).toNat=(8 * (i:Int)).toNat:=by rw [Int.zero_add]
         rw [Kn (by omega) hc,<- e8];rfl
     . rintro σ H' ⟨v,rfl,rfl⟩
       refine ⟨_,rfl,r,_,dx,_,_,rfl,e0,T.aJ,T.bc,rfl,_,rfl,_,_,rfl,rfl,dx,_,e0,(by show 5 < 1000;decide),?_⟩;refine ⟨_,rfl,?_⟩;have F:iP [r] H' (upd H' r (.ins t.aB dx (fH "place" (V.int ((x.p:Int)+(k:Int))) (UD x)))):=fun b o e n=>by rw [ak (by simpa using n)];exact e
       exact bS _ (R.place F (dx:=dx) ai (by rw [R.rest,List.drop_drop]) (by show x.p+k<=_;omega)) F
theorem sL:aM ["self","size","least","greatest","start","number"] ["self","size","least","greatest"] (aF gR):=mL (by decide +kernel)
theorem oz (T:Txt K mg t):bI P w K mg base (rB P w) 5 t.bg t.cO ["self","size","least","greatest"] (HM K t.aB t.aH):=by
 have GF:=@nE P w K mg base t T;have GN:=@Ko P w K mg base t T;obtain ⟨Tj,g2⟩:=T.oU;refine T.cR.IA sL (fun vs H Q E h=>?_) (fun cdv A outer s H vs Q E hr h=>?_)
 . obtain ⟨r,k,lo,hi,x,rfl,_⟩:=h
   rfl
 . obtain ⟨r,k,lo,hi,x,rfl,R,hk,bS⟩:=h
   obtain ⟨dx,e0⟩:=R.obj;have Kp:cU 3 _:=hr.mono (by decide);refine ⟨_,aq (aQ (i:=4) sL.nd rfl (Or.inl rfl) (aL (pv 0) rfl))
     (aq (aQ (i:=5) sL.nd rfl (Or.inl rfl) (bM (pv 0) T.aJ T.i9 GN hr T.i7 .nil fL (af (pv 1) ay)))
     (aq (l8 (N2 (fM N5 (pv 5) (pv 2) (gr _)) (II (fM N6 (pv 5) (pv 3) (gr _)))).pt
       (aE (dJ (bM (pv 0) T.aJ T.dH GF Kp T.dF .nil fL (af (b9 rfl g2 (v:=.int 2) ⟨_,rfl⟩) (af (pv 4) ay))))) gq)
     (aE (bC (pv 5))))),?_⟩
   refine ⟨_,rfl,fld e0 T.aJ T.bc rfl ?_⟩;refine ⟨_,rfl,r,dx,_,rfl,e0,rfl,_,rfl,?_⟩;refine ⟨r,k,x,rfl,R,hk,?_⟩;have split:numIn k (fun v=>decide (lo<=(v:Int))&&decide ((v:Int)<=hi)) x.b x.p=Fk.andThen (numIn k (fun _=>true) x.b x.p) fun y=>Fk.andThen (need (decide (lo<=(y.1:Int))&&decide ((y.1:Int)<=hi)) 2 x.p) fun _=>.ok y:=by
     unfold numIn;split
     . rfl
     . rw [if_pos rfl]
       show _=Fk.andThen (need _ 2 x.p) _;unfold need;split<;>rfl
   rw [split,mF.andThen] at bS;refine bS.mono fun y hy bS H1 R1 F1=>?_;obtain ⟨d1,e1⟩:=R1.obj;have hw:x.w=x.w:=rfl;refine ⟨_,rfl,_,rfl,_,_,rfl,rfl,_,rfl,?_⟩;by_cases h1:(y.1:Int) < lo
   . have bad:need (decide (lo<=(y.1:Int))&&decide ((y.1:Int)<=hi)) 2 x.p=.error ⟨2,x.p⟩:=by simp [need];omega
     rw [bad] at bS;rw [decide_eq_true h1];refine ⟨_,rfl,r,d1,_,rfl,e1,rfl,_,rfl,?_⟩;exact ⟨r,x.w,2,(x.p:Int),d1,_,rfl,e1,rfl,fun H' d' hF=>bS H' d' hF⟩
   . rw [decide_eq_false h1]
     refine ⟨_,rfl,_,rfl,_,_,rfl,rfl,_,rfl,?_⟩;by_cases h2:hi < (y.1:Int)
     . have bad:need (decide (lo<=(y.1:Int))&&decide ((y.1:Int)<=hi)) 2 x.p=.error ⟨2,x.p⟩:=by simp [need];omega
       rw [bad] at bS;rw [decide_eq_true h2];refine ⟨_,rfl,r,d1,_,rfl,e1,rfl,_,rfl,?_⟩;exact ⟨r,x.w,2,(x.p:Int),d1,_,rfl,e1,rfl,fun H' d' hF=>bS H' d' hF⟩
     . have good:need (decide (lo<=(y.1:Int))&&decide ((y.1:Int)<=hi)) 2 x.p=.ok ():=by simp [need];omega
       rw [good] at bS;rw [decide_eq_false h2];exact ⟨_,rfl,bS H1 R1 F1⟩
end
open Fk (Fault Bytes numIn need andThen PAtom PBond)
theorem mF.good {C:Addr} {w:Int} {k:Nat} {g g':Nat->Bool} {b:Bytes} {p:Nat} {kk:Nat×Bytes×Nat->Prop} {E:XK} (h:∀ v,g v=g' v) (a:mF C w (numIn k g' b p) kk E):mF C w (numIn k g b p) kk E:=by
 rw [JM.CD h];exact a
theorem mF.andThen' {α β:Type} {C:Addr} {w:Int} {x:Except Fault α} {f:α->Except Fault β} {k:β->Prop} {E:XK} (h:mF C w (Fk.andThen x f) k E):mF C w x (fun y=>mF C w (f y) k E) E:=mF.andThen.mp h
section
def Pf (K:Zqq) (CR CF:Addr):Sp:=fun vs H Q E=>∃ (r m:Addr) (M:Bytes) (x:BD),vs=[.ref r,.ref m]/\eW K CR H r x/\(∀ H,j0 K H m (vB M)) /\
 mF CF x.w (JM.iZ M x.b x.p) (fun y=>∀ H',eW K CR H' r { x with b:=y.1,p:=y.2 }->iP [r] H H'->Q .non H') E
theorem FL:aM ["self","mark","byte"] ["self","mark"] (aF ja):=mL (by decide +kernel)
theorem MA (T:Txt K mg t):bI P w K mg base (rB P w) 6 t.bJ t.eF ["self","mark"] (Pf K t.aB t.aH):=by
 have GF:=@nE P w K mg base t T;have GN:=@Ko P w K mg base t T;obtain ⟨Q0,g1⟩:=T.tN;refine T.eT.IA FL (fun vs H Q E h=>?_) (fun cdv A outer s H vs Q E hr h=>?_)
 . obtain ⟨r,m,M,x,rfl,_⟩:=h
   rfl
 . obtain ⟨r,m,M,x,rfl,R,hM,bS⟩:=h
   have Kp:cU 3 _:=hr.mono (by decide);have UG:cU 4 _:=hr.mono (by decide);refine ⟨_,aE (dN Ht rfl (uF (pv 1)) (bx (i:=2) FL.nd rfl (Or.inl rfl))
     (aE (l8 (fM Cj (bM (pv 0) T.aJ T.i9 GN UG T.i7 .nil fL (af aT ay)) (pv 2) (gr _))
       (aE (dJ (bM (pv 0) T.aJ T.dH GF Kp T.dF .nil fL (af (b9 rfl g1 (v:=.int 1) ⟨_,rfl⟩) (af (gX sf (aL (pv 0) rfl) aT) ay))))) gq))),?_⟩
   refine ⟨_,rfl,m,rfl,⟨_,hM H⟩,qS (K:=K) (a:=m) (xs:=vB M) (fun i σ H'=>∃ (b:Bytes) (p:Nat) (v:Option V),σ=[some (.ref r),some (.ref m),v]/\eW K t.aB H' r { x with b:=b,p:=p }/\iP [r] H H' /\
     mF t.aH x.w (JM.iZ (M.drop i) b p) (fun y=>∀ H',eW K t.aB H' r { x with b:=y.1,p:=y.2 }->iP [r] H H'->Q .non H') E) ⟨x.b,x.p,none,rfl,R,iP.refl,bS⟩ (fun i σ H' _ _=>hM H') ?_ ?_⟩
   . rintro i y σ H' hi ⟨b,p,v,rfl,R1,F1,bS⟩
     obtain ⟨c,hc,rfl⟩:∃ c,M[i]?=some c/\y=V.int (c.toNat:Int):=by
       unfold vB at hi;rw [List.getElem?_map] at hi;cases e:M[i]? with
       | none=>rw [e] at hi;cases hi
       | some c=>rw [e] at hi;exact ⟨c,rfl,(Option.some.inj hi).symm⟩
     have hd:M.drop i=c::M.drop (i+1):=by
       obtain ⟨hl,hg⟩:=List.getElem?_eq_some_iff.mp hc;rw [List.drop_eq_getElem_cons hl,hg]
     rw [hd] at bS;obtain ⟨dx,e0⟩:=R1.obj;refine ⟨_,rfl,r,dx,_,rfl,e0,rfl,?_⟩;refine ⟨r,1,_,rfl,R1,.inl rfl,bS.andThen'.mono fun z hz bS H2 R2 F2=>?_⟩;refine ⟨_,rfl,rfl,_,rfl,?_⟩;obtain ⟨d2,e2⟩:=R2.obj;obtain ⟨_,_,_,z1,z2⟩:=JM.aZ hz;refine C3 (fun h=>?_) (fun h=>?_)
     . have ne:¬ z.1=c.toNat:=fun q=>by rw [q] at h;simp at h
       have bad:need (decide (z.1=c.toNat)) 1 p=.error ⟨1,p⟩:=by simp [need,ne]
       rw [bad] at bS;refine ⟨_,rfl,r,d2,_,rfl,e2,rfl,_,rfl,fld e2 T.aJ T.bc rfl ⟨_,_,rfl,rfl,?_⟩⟩;refine ⟨r,x.w,1,((z.2.2:Nat):Int) - 1,d2,_,rfl,e2,rfl,fun H' d' hF=>bS H' d' ?_⟩;have e3:((z.2.2:Nat):Int) - 1=(p:Int):=by omega
       rw [e3] at hF;exact hF
     . have eq:z.1=c.toNat:=by
         by_cases q:z.1=c.toNat
         . exact q
         . exact absurd (by simp;omega) h
       have good:need (decide (z.1=c.toNat)) 1 p=.ok ():=by simp [need,eq]
       rw [good] at bS;exact ⟨_,_,_,rfl,R2,F1.trans F2,bS⟩
   . rintro σ H' ⟨b,p,v,rfl,R1,F1,bS⟩
     rw [show (vB M).length=M.length by simp [vB],List.drop_length] at bS;exact bS H' R1 F1
end
theorem iP.fresh {r:Addr} {H H1:Hp} {p:Addr} (F:iP [r] H H1) {o:HO} (e:H1 r=some o) (hp:H1 p=none):H p=none:=by
 cases q:H p with
 | none=>rfl
 | some u=>
   by_cases z:p=r
   . rw [z,e] at hp;cases hp
   . rw [F p u q (by simpa using z)] at hp;cases hp
theorem iP.laid {S:List Addr} {H:Hp} {p:Addr} {o:HO} (hp:H p=none):iP S H (upd H p o):=fun b u e n=>by rw [ak (au e hp)];exact e
theorem eW.laid {K:Zqq} {C:Addr} {H:Hp} {r p:Addr} {x:BD} {o:HO} (R:eW K C H r x) (hp:H p=none):eW K C (upd H p o) r x:=by
 obtain ⟨dx,e⟩:=R.obj;exact R.stay (S:=[]) (iP.laid hp) (by simp) (by simp) (by simp) (by simp)
theorem eW.wrote {K:Zqq} {C:Addr} {H:Hp} {r p:Addr} {x:BD} {o u:HO} (R:eW K C H r x) (hp:H p=some u) (n1:p ≠ r) (n2:p ≠ x.hp) (n3:p ≠ x.sp) (n4:∀ o v,u ≠ .jB o v):eW K C (upd H p o) r x:=
 R.stay (S:=[p]) (fun b o e n=>by rw [ak (by simpa using n)];exact e) (by simpa using Ne.symm n1) (by simpa using Ne.symm n2) (by simpa using Ne.symm n3) (fun b hb o v z=>by
  rw [show b=p by simpa using hb,hp] at z;exact n4 _ _ (Option.some.inj z))
section
def vN (l:List Nat):List V:=l.map fun (n:Nat)=>V.int (n:Int)
end
abbrev mQ (α:Type):=(Addr->Prop)->Hp->V->α->Prop
structure qF {α:Type} (Rep:mQ α):Prop where
 stay:∀ {D:Addr->Prop} {H H':Hp} {v:V} {z:α},Rep D H v z->(∀ b o,D b->H b=some o->H' b=some o)->Rep D H' v z
 mono:∀ {D D':Addr->Prop} {H:Hp} {v:V} {z:α},Rep D H v z->(∀ b,D b->D' b)->Rep D' H v z
structure dS {α:Type} (Rep:mQ α) (D:Addr->Prop) (H:Hp) (vs:List V) (zs:List α):Prop where
 len:vs.length=zs.length
 at_:∀ (i:Nat) (v:V) (z:α),vs[i]?=some v->zs[i]?=some z->Rep D H v z
theorem dS.nil {α:Type} {Rep:mQ α} {D:Addr->Prop} {H:Hp}:dS Rep D H [] []:=⟨rfl,fun i v z h _=>by simp at h⟩
theorem dS.snoc {α:Type} {Rep:mQ α} {D:Addr->Prop} {H:Hp} {vs:List V} {zs:List α} {v:V} {z:α} (R:dS Rep D H vs zs) (r:Rep D H v z):dS Rep D H (vs++[v]) (zs++[z]):=by
 refine ⟨by simp [R.len],fun i v' z' h1 h2=>?_⟩;rcases Nat.lt_trichotomy i vs.length with h | h | h
 . rw [List.getElem?_append_left h] at h1
   rw [List.getElem?_append_left (R.len ▸ h)] at h2;exact R.at_ i v' z' h1 h2
 . subst h
   rw [List.getElem?_append_right (Nat.le_refl _),Nat.sub_self] at h1;rw [R.len,List.getElem?_append_right (Nat.le_refl _),Nat.sub_self] at h2;cases h1;cases h2;exact r
 . have:(vs++[v])[i]?=none:=List.getElem?_eq_none (by simp;omega)
   rw [this] at h1;cases h1
theorem dS.stay {α:Type} {Rep:mQ α} (ok:qF Rep) {D:Addr->Prop} {H H':Hp} {vs:List V} {zs:List α} (R:dS Rep D H vs zs) (k:∀ b o,D b->H b=some o->H' b=some o):dS Rep D H' vs zs:=
 ⟨R.len,fun i v z h1 h2=>ok.stay (R.at_ i v z h1 h2) k⟩
theorem dS.mono {α:Type} {Rep:mQ α} (ok:qF Rep) {D D':Addr->Prop} {H:Hp} {vs:List V} {zs:List α} (R:dS Rep D H vs zs) (k:∀ b,D b->D' b):dS Rep D' H vs zs:=
 ⟨R.len,fun i v z h1 h2=>ok.mono (R.at_ i v z h1 h2) k⟩
def vP (x:Nat×Nat):List V:=[.int (x.1:Int),.int (x.2:Int)]
def Kq {α:Type} (K:Zqq) (CR CF:Addr) (one:Bytes->Nat->Except Fault (α×Bytes×Nat)) (Rep:mQ α):Sp:=fun vs H Q E=>∃ (r:Addr) (x:BD),vs=[.ref r]/\eW K CR H r x /\
 mF CF x.w (one x.b x.p) (fun y=>∀ H' v,eW K CR H' r { x with b:=y.2.1,p:=y.2.2 }->iP [r] H H'->Rep (fun b=>H b=none) H' v y.1->Q v H') E
def EI {α:Type} (K:Zqq) (CR CF:Addr) (one:Nat×Nat->Bytes->Nat->Except Fault (α×Bytes×Nat)) (Rep:mQ α):Sp:=fun vs H Q E=>∃ (r p:Addr) (q:Nat×Nat) (x:BD),vs=[.ref r,.ref p]/\eW K CR H r x/\H p=some (.tup (vP q)) /\
 mF CF x.w (one q x.b x.p) (fun y=>∀ H' v,eW K CR H' r { x with b:=y.2.1,p:=y.2.2 }->iP [r] H H'->Rep (fun b=>H b=none) H' v y.1->Q v H') E
section
theorem iP.made {H H1:Hp} {o dx C:Addr} {S:List Addr} (nx:H o=none) (nd:H dx=none) (k:iP [o] (upd (upd H dx (.own o)) o (.ins C dx [])) H1):iP S H H1:=fun b u e n=>
 k b u (by rw [ak (au e nx),ak (au e nd)];exact e) (by simpa using au e nx)
def RD (K:Zqq) (CR CF:Addr):Sp:=fun vs H Q E=>∃ (r:Addr) (x:BD),vs=[.ref r]/\eW K CR H r x/\mF CF x.w (need x.b.isEmpty 7 x.p) (fun _=>Q .non H) E
theorem Pg:aM ["self"] ["self"] (aF jj):=mL (by decide +kernel)
theorem Pj (T:Txt K mg t):bI P w K mg base (rB P w) 4 t.bQ t.f9 ["self"] (RD K t.aB t.aH):=by
 have GF:=@nE P w K mg base t T;obtain ⟨VO,g5⟩:=T.vM;refine T.fE.IA Pg (fun vs H Q E h=>?_) (fun cdv A outer s H vs Q E hr h=>?_)
 . obtain ⟨r,x,rfl,_⟩:=h
   rfl
 . obtain ⟨r,x,rfl,R,bS⟩:=h
   obtain ⟨dx,e0⟩:=R.obj;refine ⟨_,aE (l8 (fM N5 (aL (pv 0) rfl) (c9 aY (by rfl) T.j6 PySem.boot_len (af (aL (pv 0) rfl) ay)) (gr _))
       (aE (dJ (bM (pv 0) T.aJ T.dH GF hr T.dF .nil fL (af (b9 rfl g5 (v:=.int 7) ⟨_,rfl⟩) (af (aL (pv 0) rfl) ay))))) gq),?_⟩
   have hf:=R.form.sq;have Ti:(vB x.B).length=x.B.length:=by simp [vB]
   have hlen:x.b.length=x.B.length - x.p:=by rw [R.rest,List.length_drop]
   have hle:=R.le;refine ⟨_,rfl,fld e0 T.aJ T.bc rfl ?_⟩;refine ⟨_,rfl,fld e0 T.aJ T.dZ rfl ⟨x.a,_,rfl,.inl hf,_,_,rfl,rfl,_,rfl,?_⟩⟩;rw [Ti];refine C3 (fun h=>?_) (fun h=>?_)
   . have h':(x.p:Int) < (x.B.length:Int):=of_decide_eq_true h
     have bad:need x.b.isEmpty 7 x.p=.error ⟨7,x.p⟩:=by
       cases hb:x.b with
       | nil=>rw [hb] at hlen;simp at hlen;omega
       | cons c b=>rfl
     rw [bad] at bS;refine ⟨_,rfl,r,dx,_,rfl,e0,rfl,_,rfl,fld e0 T.aJ T.bc rfl ?_⟩;exact ⟨r,x.w,7,(x.p:Int),dx,_,rfl,e0,rfl,fun H' d' hF=>bS H' d' hF⟩
   . have h':¬ (x.p:Int) < (x.B.length:Int):=fun z=>h (decide_eq_true z)
     have good:need x.b.isEmpty 7 x.p=.ok ():=by
       cases hb:x.b with
       | nil=>rfl
       | cons c b=>rw [hb] at hlen;simp at hlen;omega
     rw [good] at bS;exact bS
def Pk:Option (Nat×Nat)->List V
 | none=>[.int (-1),.int (-1)]
 | some q=>vP q
def FN (had:Option (Nat×Nat)) (a b:Nat):Bool:=match had with
 | some (u,w)=>decide (u < a)||(u==a&&decide (w < b))
 | none=>true
theorem Pn (had:Option (Nat×Nat)) (a b:Nat):∃ ms:List Int,Pk had=ms.map V.int/\HT.lexLe [(a:Int),(b:Int)] ms=!FN had a b:=by
 cases had with
 | none=>
   refine ⟨[-1,-1],rfl,?_⟩;rw [HT.nO,if_neg (by omega),decide_eq_false (by omega)];rfl
 | some uw=>
   obtain ⟨u,w⟩:=uw;refine ⟨[(u:Int),(w:Int)],rfl,?_⟩;show _=!(decide (u < a)||(u==a&&decide (w < b)));rw [HT.nO];by_cases h1:(a:Int)=(u:Int)
   . rw [if_pos h1,HT.nO]
     have h1':u=a:=by omega
     by_cases h2:(b:Int)=(w:Int)
     . rw [if_pos h2,HT.zU]
       have:w=b:=by omega
       simp [h1',this]
     . rw [if_neg h2]
       have e1:decide (u < a)=false:=decide_eq_false (by omega);have e2:(u==a)=true:=by simp [h1']
       rw [e1,e2,Bool.false_or,Bool.true_and];by_cases h3:w < b
       . rw [decide_eq_true h3,decide_eq_false (by omega)];rfl
       . rw [decide_eq_false h3,decide_eq_true (by omega)];rfl
   . rw [if_neg h1]
     have e2:(u==a)=false:=by simp;omega
     rw [e2,Bool.false_and,Bool.or_false];by_cases h3:u < a
     . rw [decide_eq_true h3,decide_eq_false (by omega)];rfl
     . rw [decide_eq_false h3,decide_eq_true (by omega)];rfl
def Po (K:Zqq) (CR CF:Addr):Sp:=fun vs H Q E=>∃ (r p:Addr) (n:Nat) (had:Option (Nat×Nat)) (x:BD),vs=[.ref r,.int (n:Int),.ref p]/\eW K CR H r x/\H p=some (.tup (Pk had)) /\
 mF CF x.w (JM.k6 n had x.b x.p) (fun y=>∀ H' q,eW K CR H' r { x with b:=y.2.1,p:=y.2.2 }->iP [r] H H'->H q=none->H' q=some (.tup (vP y.1))->Q (.ref q) H') E
theorem xx:aM ["self","n","before","start","a","b"] ["self","n","before"] (aF jb):=mL (by decide +kernel)
theorem MB (T:Txt K mg t):bI P w K mg base (rB P w) 6 t.bK t.eG ["self","n","before"] (Po K t.aB t.aH):=by
 have GF:=@nE P w K mg base t T;have GB:=@oz P w K mg base t T;obtain ⟨VQ,g3⟩:=T.tO;refine T.eU.IA xx (fun vs H Q E h=>?_) (fun cdv A outer s H vs Q E hr h=>?_)
 . obtain ⟨r,p,n,had,x,rfl,_⟩:=h
   rfl
 . obtain ⟨r,p,n,had,x,rfl,R,hp,bS⟩:=h
   obtain ⟨d0,e0⟩:=R.obj;have Kp:cU 3 _:=hr.mono (by decide);have pr:p ≠ r:=kM hp e0 (by intro z;cases z);refine ⟨_,aq (aQ (i:=3) xx.nd rfl (Or.inl rfl) (aL (pv 0) rfl))
     (aq (aQ (i:=4) xx.nd rfl (Or.inl rfl) (bM (pv 0) T.aJ T.aP GB hr T.aO .nil fL (af aT (af aT (af (gX sf (pv 1) aT) ay)))))
     (aq (aQ (i:=5) xx.nd rfl (Or.inl rfl) (bM (pv 0) T.aJ T.aP GB hr T.aO .nil fL (af aT (af (gX uG (pv 4) aT) (af (gX sf (pv 1) aT) ay)))))
     (aq (l8 (fM (OV hr.Oz) (mJ (af (pv 4) (af (pv 5) ay))) (pv 2) (gr _))
       (aE (dJ (bM (pv 0) T.aJ T.dH GF Kp T.dF .nil fL (af (b9 rfl g3 (v:=.int 3) ⟨_,rfl⟩) (af (pv 3) ay))))) gq)
     (aE (bC (mJ (af (pv 4) (af (pv 5) ay)))))))),?_⟩
   refine ⟨_,rfl,fld e0 T.aJ T.bc rfl ?_⟩;refine ⟨_,rfl,r,d0,_,rfl,e0,rfl,_,rfl,_,_,rfl,rfl,?_⟩;refine ⟨r,1,0,(n:Int) - 1,_,rfl,R,.inl rfl,mF.good (g':=fun v=>decide (v < n)) (fun v=>by rw [Bool.eq_iff_iff];simp only [Bool.and_eq_true,decide_eq_true_eq];omega) (bS.andThen'.mono fun y1 hy1 bS H1 R1 F1=>?_)⟩;obtain ⟨d1,e1⟩:=R1.obj;refine ⟨_,rfl,r,d1,_,rfl,e1,rfl,_,rfl,_,_,rfl,rfl,_,rfl,_,_,rfl,rfl,?_⟩;refine ⟨r,1,(y1.1:Int)+1,(n:Int) - 1,_,rfl,R1,.inl rfl,mF.good (g':=fun v=>decide (y1.1 < v)&&decide (v < n)) (fun v=>by rw [Bool.eq_iff_iff];simp only [Bool.and_eq_true,decide_eq_true_eq];omega) (bS.andThen'.mono fun y2 RE bS H2 R2 F2=>?_)⟩;obtain ⟨d2,e2⟩:=R2.obj;have F:=F1.trans F2;have hp2:=F p _ hp (by simpa using pr);refine ⟨_,rfl,_,rfl,(by show 2<=sizeLine;decide),fun q1 n1=>?_⟩;obtain ⟨ms,hms,hle⟩:=Pn had y1.1 y2.1;refine ⟨_,rfl,q1,p,[(y1.1:Int),(y2.1:Int)],ms,rfl,rfl,j0.of ai,j0.of (by rw [ak (au hp2 n1),<- hms];exact hp2),_,rfl,?_⟩;rw [hle];have R3:=R2.laid (o:=.tup [.int (y1.1:Int),.int (y2.1:Int)]) n1;obtain ⟨d3,e3⟩:=R3.obj;have F3:iP [r] H (upd H2 q1 (.tup [.int (y1.1:Int),.int (y2.1:Int)])):=F.trans (iP.laid n1);have bS:mF t.aH x.w (need (FN had y1.1 y2.1) 3 x.p) _ E:=bS.andThen';refine C3 (fun h=>?_) (fun h=>?_)
   . have hc:FN had y1.1 y2.1=false:=by simpa using h
     rw [hc] at bS;refine ⟨_,rfl,r,d3,_,rfl,e3,rfl,_,rfl,?_⟩;exact ⟨r,x.w,3,(x.p:Int),d3,_,rfl,e3,rfl,fun H' d' hF=>bS H' d' hF⟩
   . have hc:FN had y1.1 y2.1=true:=by simpa using h
     rw [hc] at bS;refine ⟨_,rfl,_,rfl,(by show 2<=sizeLine;decide),fun q2 n2=>?_⟩;exact bS _ q2 (R3.laid n2) (F3.trans (iP.laid n2)) (F3.fresh e3 n2) ai
end
theorem eW.hand {K:Zqq} {C:Addr} {H:Hp} {r:Addr} {x:BD} {z:Int} (R:eW K C H r x):eW K C (upd H x.hp (.lst (x.hps.map V.int++[.int z]))) r { x with hps:=x.hps++[z] }:=by
 obtain ⟨dx,e⟩:=R.obj;have n1:r ≠ x.hp:=kM e R.hpl (by intro q;cases q);refine ⟨⟨dx,by rw [ak n1];exact e⟩,?_,by rw [ai];simp,by rw [ak (Ne.symm R.ne)];exact R.Ef,R.ne,R.rest,R.le,R.small⟩;rcases R.form with ⟨o,h⟩ | h
 . exact .inl ⟨o,by rw [ak (Ke h R.hpl (fun _ _ q=>by cases q))];exact h⟩
 . exact .inr h
theorem eW.side {K:Zqq} {C:Addr} {H:Hp} {r:Addr} {x:BD} {z:Int} (R:eW K C H r x):eW K C (upd H x.sp (.lst (x.Kd.map V.int++[.int z]))) r { x with Kd:=x.Kd++[z] }:=by
 obtain ⟨dx,e⟩:=R.obj;have n1:r ≠ x.sp:=kM e R.Ef (by intro q;cases q);refine ⟨⟨dx,by rw [ak n1];exact e⟩,?_,by rw [ak R.ne];exact R.hpl,by rw [ai];simp,R.ne,R.rest,R.le,R.small⟩;rcases R.form with ⟨o,h⟩ | h
 . exact .inl ⟨o,by rw [ak (Ke h R.Ef (fun _ _ q=>by cases q))];exact h⟩
 . exact .inr h
theorem HN {α:Type} {one:Bytes->Nat->Except Fault (α×Bytes×Nat)} (k:Nat) (b:Bytes) (p:Nat) (pre:List α):Fk.andThen (JM.many one (k+1) b p) (fun l=>.ok (pre++l.1,l.2.1,l.2.2)) =
  Fk.andThen (one b p) fun x=>Fk.andThen (JM.many one k x.2.1 x.2.2) fun l=>.ok ((pre++[x.1])++l.1,l.2.1,l.2.2):=by
 rw [show JM.many one (k+1) b p=Fk.andThen (one b p) (fun x=>Fk.andThen (JM.many one k x.2.1 x.2.2) fun l=>.ok (x.1::l.1,l.2.1,l.2.2)) from rfl,JM.aW];congr 1;funext x;rw [JM.aW];congr 1;funext l;show Except.ok (pre++(x.1::l.1),l.2.1,l.2.2)=_;rw [List.append_assoc];rfl
theorem EJ {α:Type} {n:Nat} {one:Nat×Nat->Bytes->Nat->Except Fault (α×Bytes×Nat)} (k:Nat) (had:Option (Nat×Nat)) (b:Bytes) (p:Nat) (pre:List α):Fk.andThen (JM.gC n one (k+1) had b p) (fun l=>.ok (pre++l.1,l.2.1,l.2.2)) =
  Fk.andThen (JM.k6 n had b p) fun q=>Fk.andThen (one q.1 q.2.1 q.2.2) fun x=>Fk.andThen (JM.gC n one k (some q.1) x.2.1 x.2.2) fun l=>.ok ((pre++[x.1])++l.1,l.2.1,l.2.2):=by
 rw [show JM.gC n one (k+1) had b p=Fk.andThen (JM.k6 n had b p) (fun q=>Fk.andThen (one q.1 q.2.1 q.2.2) fun x=>Fk.andThen (JM.gC n one k (some q.1) x.2.1 x.2.2) fun l=>.ok (x.1::l.1,l.2.1,l.2.2)) from rfl,JM.aW];congr 1;funext q;rw [JM.aW];congr 1;funext x;rw [JM.aW];congr 1;funext l;show Except.ok (pre++(x.1::l.1),l.2.1,l.2.2)=_;rw [List.append_assoc];rfl
theorem D3 {α:Type} (x:Except Fault (List α×Bytes×Nat)):(Fk.andThen x fun l=>Except.ok ([]++l.1,l.2.1,l.2.2))=x:=by cases x<;>rfl
section
variable {P:Program} {w:World} {K:Zqq} {mg:Str->Option Value} {base:Heap} {t:Ad} {α:Type}
def FO (K:Zqq) (CR CF f:Addr) (one:Bytes->Nat->Except Fault (α×Bytes×Nat)) (Rep:mQ α) (pl:α->Nat):Sp:=fun vs H Q E=>∃ (r:Addr) (n:Nat) (x:BD),vs=[.ref r,.int (n:Int),.ref f]/\eW K CR H r x/\n<=1000/\x.hps=[] /\
 mF CF x.w (JM.many one n x.b x.p) (fun y=>∀ H' la us,eW K CR H' r { x with b:=y.2.1,p:=y.2.2,hps:=y.1.map fun z=>(pl z:Int) }->iP [r,x.hp] H H'->H la=none->H' la=some (.lst us)->
   dS Rep (fun b=>H b=none/\b ≠ la) H' us y.1->Q (.ref la) H') E
theorem yI:aM ["self","n","take_atom","atoms","k"] ["self","n","take_atom"] (aF iM):=mL (by decide +kernel)
theorem Kr (T:Txt K mg t) {kc:Nat} {f:Addr} {fd:FuncData} {one:Bytes->Nat->Except Fault (α×Bytes×Nat)} {Rep:mQ α} {pl:α->Nat} (ok:qF Rep) (hpl:∀ b p y,one b p=.ok y->(pl y.1:Int)=(y.2.2:Int) - 1)
   (G:bI P w K mg base (rB P w) kc f fd ["reader"] (Kq K t.aB t.aH one Rep)) (kp:PySem.W.keepIn K (.ref f)=true) (hb:Binds K fd ["reader"] []) :
   bI P w K mg base (rB P w) (kc+1) t.bq t.cE ["self","n","take_atom"] (FO K t.aB t.aH f one Rep pl):=by
 refine T.dW.IA yI (fun vs H Q E h=>?_) (fun cdv A outer s H vs Q E hr h=>?_)
 . obtain ⟨r,n,x,rfl,_⟩:=h
   rfl
 . obtain ⟨r,n,x,rfl,R,hn,Hs,bS⟩:=h
   refine ⟨_,aq (aQ (i:=3) yI.nd rfl (Or.inl rfl) (iK ay))
     (aq (dN Ht rfl (ly rfl T.lu (af (pv 1) ay)) (bx (i:=4) yI.nd rfl (Or.inl rfl))
       (aq (dJ (rP PySem.F.plainAttrs_list PySem.F.slot_list_append PySem.F.type_list_append iB (pv 3) (af (CA (i:=2) G hr kp hb fL (af (pv 0) ay)) ay)))
       (aE (dJ (rP PySem.F.plainAttrs_list PySem.F.slot_list_append PySem.F.type_list_append iB (aL (pv 0) rfl) (af (gX sf (aL (pv 0) rfl) aT) ay))))))
     (aE (bC (pv 3)))),?_⟩
   refine ⟨Nat.zero_le _,fun l hl=>?_⟩;have R0:=R.laid (o:=.lst []) hl;have rl:r ≠ l:=fun z=>by obtain ⟨d,e⟩:=R.obj;rw [<- z,e] at hl;cases hl
   have hpl':x.hp ≠ l:=au R.hpl hl;have MC:x.sp ≠ l:=au R.Ef hl;refine ⟨_,rfl,(n:Int),rfl,by omega,by omega,?_⟩;rw [Int.toNat_natCast];let vc:L2.Iv:=fun i σ H'=>∃ (b:Bytes) (p:Nat) (v:Option V) (us:List V) (pre:List α),i<=n/\us.length=i/\σ=[some (.ref r),some (.int (n:Int)),some (.ref f),some (.ref l),v] /\
       eW K t.aB H' r { x with b:=b,p:=p,hps:=pre.map fun z=>(pl z:Int) }/\iP [r,x.hp] H H'/\H' l=some (.lst us)/\dS Rep (fun b=>H b=none/\b ≠ l) H' us pre /\
       mF t.aH x.w (Fk.andThen (JM.many one (n - i) b p) fun l=>.ok (pre++l.1,l.2.1,l.2.2)) (fun y=>∀ H' la us,eW K t.aB H' r { x with b:=y.2.1,p:=y.2.2,hps:=y.1.map fun z=>(pl z:Int) }->iP [r,x.hp] H H'->H la=none->H' la=some (.lst us)->
         dS Rep (fun b=>H b=none/\b ≠ la) H' us y.1->Q (.ref la) H') E
   refine qT (n:=n) vc
     ⟨x.b,x.p,none,[],[],Nat.zero_le _,rfl,rfl,?_,iP.laid hl,ai,dS.nil,?_⟩ ?_ ?_
   . have:=R0
     rw [show x={ x with b:=x.b,p:=x.p,hps:=[] } by rw [<- Hs]] at this;exact this
   . rw [Nat.sub_zero,D3];exact bS
   . rintro i σ H' hi ⟨b,p,v,us,pre,hin,Pp,rfl,R2,F2,hl2,RS,bS⟩
     obtain ⟨d2,e2⟩:=R2.obj;rw [show n - i=(n - (i+1))+1 by omega,HN] at bS;refine ⟨_,rfl,.inl ⟨rfl,_,c8.of hl2⟩,rfl,_,rfl,?_⟩;refine ⟨r,_,rfl,R2,bS.andThen'.mono fun y hy bS H3 u R3 F3 rep=>?_⟩;have hl3:H3 l=some (.lst us):=F3 l _ hl2 (by simpa using Ne.symm rl);obtain ⟨d3,e3⟩:=R3.obj;refine ⟨l,us,u,rfl,rfl,hl3,(by rw [Pp,sizeLine_eq];omega),?_⟩;have R4:=R3.wrote (o:=.lst (us++[u])) hl3 (Ne.symm rl) (Ne.symm hpl') (Ne.symm MC) (fun _ _ z=>by cases z);obtain ⟨d4,e4⟩:=R4.obj;refine ⟨_,rfl,fld e4 T.aJ T.cz rfl ⟨.inl ⟨rfl,_,c8.of R4.hpl⟩,?_⟩⟩;refine ⟨_,rfl,fld e4 T.aJ T.bc rfl ⟨_,_,rfl,rfl,?_⟩⟩;refine ⟨x.hp,_,_,rfl,rfl,R4.hpl,?_,?_⟩
     . have:=RS.len
       simp only [List.length_map];rw [sizeLine_eq];omega
     . have UH:=hpl _ _ _ hy
       have R5:=R4.hand (z:=((y.2.2:Nat):Int) - 1);refine ⟨y.2.1,y.2.2,some (.int (0+(i:Int))),us++[u],pre++[y.1],by omega,by simp [Pp],rfl,?_,?_,?_,?_,bS⟩
       . rw [List.map_append,List.map_cons,List.map_nil,UH]
         exact R5
       . intro b' o e n'
         have n'':b' ≠ r/\b' ≠ x.hp:=by simpa using n'
         rw [ak n''.2,ak (au e hl)];exact F3 b' o (F2 b' o e n') (by simpa using n''.1)
       . rw [ak (Ne.symm hpl'),ai]
       . have old:∀ b' o,(H b'=none/\b' ≠ l)->H' b'=some o->b' ≠ r/\b' ≠ x.hp/\b' ≠ l:=fun b' o d _=>by
           refine ⟨fun q=>?_,fun q=>?_,d.2⟩
           . obtain ⟨d',e'⟩:=R.obj;rw [q,e'] at d;cases d.1
           . have:=R.hpl;rw [<- q,d.1] at this;cases this
         refine (RS.stay ok fun b' o d h=>?_).snoc (ok.stay (ok.mono rep fun b' d=>?_) fun b' o d h=>?_)
         . obtain ⟨q1,q2,q3⟩:=old b' o d h
           rw [ak q2,ak q3];exact F3 b' o h (by simpa using q1)
         . refine ⟨?_,fun q=>by rw [q,hl2] at d;cases d⟩
           cases q:H b' with
           | none=>rfl
           | some o=>
             by_cases z1:b'=r
             . rw [z1,e2] at d;cases d
             . by_cases z2:b'=x.hp
               . have:=R2.hpl;rw [<- show b'=x.hp from z2,d] at this;cases this
               . rw [F2 b' o q (by simp [z1,z2])] at d;cases d
         . have q2:b' ≠ x.hp:=fun q=>by have:=R.hpl;rw [<- q,d.1] at this;cases this
           rw [ak q2,ak d.2];exact h
   . rintro σ H' ⟨b,p,v,us,pre,_,Pp,rfl,R2,F2,hl2,RS,bS⟩
     rw [Nat.sub_self] at bS;have bS:∀ H' la us,_:=bS;refine ⟨_,rfl,?_⟩;have a2:=bS H' l us (by rw [List.append_nil];exact R2) F2 hl hl2;rw [List.append_nil] at a2;exact a2 RS
def FP (K:Zqq) (CR CF f:Addr) (one:Nat×Nat->Bytes->Nat->Except Fault (α×Bytes×Nat)) (Rep:mQ α) (pl:α->Nat):Sp:=fun vs H Q E=>∃ (r:Addr) (n m:Nat) (x:BD),vs=[.ref r,.int (n:Int),.int (m:Int),.ref f]/\eW K CR H r x/\m<=1000/\x.Kd=[] /\
 mF CF x.w (JM.gC n one m none x.b x.p) (fun y=>∀ H' la us,eW K CR H' r { x with b:=y.2.1,p:=y.2.2,Kd:=y.1.map fun z=>(pl z:Int) }->iP [r,x.sp] H H'->H la=none->H' la=some (.lst us)->
   dS Rep (fun b=>H b=none/\b ≠ la) H' us y.1->Q (.ref la) H') E
theorem qG:aM ["self","n","m","take_bond","bonds","before","k"] ["self","n","m","take_bond"] (aF iN):=mL (by decide +kernel)
theorem Ks (T:Txt K mg t) {kc:Nat} (h6:6<=kc) {f:Addr} {fd:FuncData} {one:Nat×Nat->Bytes->Nat->Except Fault (α×Bytes×Nat)} {Rep:mQ α} {pl:α->Nat} (ok:qF Rep) (hpl:∀ q b p y,one q b p=.ok y->(pl y.1:Int)=(y.2.2:Int) - 1)
   (G:bI P w K mg base (rB P w) kc f fd ["reader","pair"] (EI K t.aB t.aH one Rep)) (kp:PySem.W.keepIn K (.ref f)=true) (hb:Binds K fd ["reader","pair"] []) :
   bI P w K mg base (rB P w) (kc+1) t.br t.cF ["self","n","m","take_bond"] (FP K t.aB t.aH f one Rep pl):=by
 have GP:=@MB P w K mg base t T;refine T.dX.IA qG (fun vs H Q E h=>?_) (fun cdv A outer s H vs Q E hr h=>?_)
 . obtain ⟨r,n,m,x,rfl,_⟩:=h
   rfl
 . obtain ⟨r,n,m,x,rfl,R,hn,Hs,bS⟩:=h
   have UI:cU 6 _:=hr.mono h6;refine ⟨_,aq (aQ (i:=4) qG.nd rfl (Or.inl rfl) (iK ay))
     (aq (aQ (i:=5) qG.nd rfl (Or.inl rfl) (mJ (af (Fj A1 aT) (af (Fj A1 aT) ay))))
     (aq (dN Ht rfl (ly rfl T.lu (af (pv 2) ay)) (bx (i:=6) qG.nd rfl (Or.inl rfl))
       (aq (aQ (i:=5) qG.nd rfl (Or.inl rfl) (bM (pv 0) T.aJ T.lN GP UI T.lG .nil fL (af (pv 1) (af (pv 5) ay))))
       (aq (dJ (rP PySem.F.plainAttrs_list PySem.F.slot_list_append PySem.F.type_list_append iB (pv 4) (af (CA (i:=3) G hr kp hb fL (af (pv 0) (af (pv 5) ay))) ay)))
       (aE (dJ (rP PySem.F.plainAttrs_list PySem.F.slot_list_append PySem.F.type_list_append iB (aL (pv 0) rfl) (af (gX sf (aL (pv 0) rfl) aT) ay)))))))
     (aE (bC (pv 4))))),?_⟩
   refine ⟨Nat.zero_le _,fun l hl=>?_⟩;have R0:=R.laid (o:=.lst []) hl;have rl:r ≠ l:=fun z=>by obtain ⟨d,e⟩:=R.obj;rw [<- z,e] at hl;cases hl
   have hpl':x.hp ≠ l:=au R.hpl hl;have MC:x.sp ≠ l:=au R.Ef hl;refine ⟨1,rfl,1,rfl,(by show 2<=sizeLine;decide),fun q0 RG=>?_⟩;have R1:=R0.laid (o:=.tup [.int (-1),.int (-1)]) RG;have lq:l ≠ q0:=au ai RG;refine ⟨_,rfl,(m:Int),rfl,by omega,by omega,?_⟩;rw [Int.toNat_natCast];let vc:L2.Iv:=fun i σ H'=>∃ (had:Option (Nat×Nat)) (qa:Addr) (b:Bytes) (p:Nat) (v:Option V) (us:List V) (pre:List α),i<=m/\us.length=i/\σ=[some (.ref r),some (.int (n:Int)),some (.int (m:Int)),some (.ref f),some (.ref l),some (.ref qa),v] /\
       eW K t.aB H' r { x with b:=b,p:=p,Kd:=pre.map fun z=>(pl z:Int) }/\iP [r,x.sp] H H'/\H' l=some (.lst us)/\H' qa=some (.tup (Pk had))/\dS Rep (fun b=>H b=none/\b ≠ l) H' us pre /\
       mF t.aH x.w (Fk.andThen (JM.gC n one (m - i) had b p) fun l=>.ok (pre++l.1,l.2.1,l.2.2)) (fun y=>∀ H' la us,eW K t.aB H' r { x with b:=y.2.1,p:=y.2.2,Kd:=y.1.map fun z=>(pl z:Int) }->iP [r,x.sp] H H'->H la=none->H' la=some (.lst us)->
         dS Rep (fun b=>H b=none/\b ≠ la) H' us y.1->Q (.ref la) H') E
   refine qT (n:=m) vc
     ⟨none,q0,x.b,x.p,none,[],[],Nat.zero_le _,rfl,rfl,?_,(iP.laid hl).trans (iP.laid RG),by rw [ak lq,ai],ai,dS.nil,?_⟩ ?_ ?_
   . have:=R1
     rw [show x={ x with b:=x.b,p:=x.p,Kd:=[] } by rw [<- Hs]] at this;exact this
   . rw [Nat.sub_zero,D3];exact bS
   . rintro i σ H' hi ⟨had,qa,b,p,v,us,pre,hin,Pp,rfl,R2,F2,hl2,VR,RS,bS⟩
     obtain ⟨d2,e2⟩:=R2.obj;rw [show m - i=(m - (i+1))+1 by omega,EJ] at bS;refine ⟨_,rfl,r,d2,_,rfl,e2,rfl,_,rfl,_,rfl,?_⟩;refine ⟨r,qa,n,had,_,rfl,R2,VR,bS.andThen'.mono fun q hq bS H3 qb R3 F3 nq NK=>?_⟩;have hl3:H3 l=some (.lst us):=F3 l _ hl2 (by simpa using Ne.symm rl);obtain ⟨d3,e3⟩:=R3.obj;refine ⟨_,rfl,.inl ⟨rfl,_,c8.of hl3⟩,rfl,_,rfl,_,rfl,?_⟩;refine ⟨r,qb,q.1,_,rfl,R3,NK,bS.andThen'.mono fun y hy bS H4 u R4 F4 rep=>?_⟩;have UJ:H4 l=some (.lst us):=F4 l _ hl3 (by simpa using Ne.symm rl);have XM:qb ≠ r:=kM NK e3 (by intro z;cases z);have Pq:=F4 qb _ NK (by simpa using XM);have XN:qb ≠ l:=kM Pq UJ (by intro z;cases z);refine ⟨l,us,u,rfl,rfl,UJ,(by rw [Pp,sizeLine_eq];omega),?_⟩;have R5:=R4.wrote (o:=.lst (us++[u])) UJ (Ne.symm rl) (Ne.symm hpl') (Ne.symm MC) (fun _ _ z=>by cases z);obtain ⟨d5,e5⟩:=R5.obj;refine ⟨_,rfl,fld e5 T.aJ T.c5 rfl ⟨.inl ⟨rfl,_,c8.of R5.Ef⟩,?_⟩⟩;refine ⟨_,rfl,fld e5 T.aJ T.bc rfl ⟨_,_,rfl,rfl,?_⟩⟩;refine ⟨x.sp,_,_,rfl,rfl,R5.Ef,?_,?_⟩
     . have:=RS.len
       simp only [List.length_map];rw [sizeLine_eq];omega
     . have UH:=hpl _ _ _ _ hy
       have R6:=R5.side (z:=((y.2.2:Nat):Int) - 1);have XQ:qb ≠ x.sp:=fun z=>by have h9:=R4.Ef;rw [<- show qb=x.sp from z,Pq] at h9;cases h9
       have VT:iP [r] H' H4:=F3.trans F4;refine ⟨some q.1,qb,y.2.1,y.2.2,some (.int (0+(i:Int))),us++[u],pre++[y.1],by omega,by simp [Pp],rfl,?_,?_,?_,?_,?_,bS⟩
       . rw [List.map_append,List.map_cons,List.map_nil,UH]
         exact R6
       . intro b' o e n'
         have n'':b' ≠ r/\b' ≠ x.sp:=by simpa using n'
         rw [ak n''.2,ak (au e hl)];exact VT b' o (F2 b' o e n') (by simpa using n''.1)
       . rw [ak (Ne.symm MC),ai]
       . rw [ak XQ,ak XN];exact Pq
       . have old:∀ b' o,(H b'=none/\b' ≠ l)->H' b'=some o->b' ≠ r/\b' ≠ x.sp/\b' ≠ l:=fun b' o d _=>by
           refine ⟨fun q=>?_,fun q=>?_,d.2⟩
           . obtain ⟨d',e'⟩:=R.obj;rw [q,e'] at d;cases d.1
           . have:=R.Ef;rw [<- q,d.1] at this;cases this
         refine (RS.stay ok fun b' o d h=>?_).snoc (ok.stay (ok.mono rep fun b' d=>?_) fun b' o d h=>?_)
         . obtain ⟨q1,q2,q3⟩:=old b' o d h
           rw [ak q2,ak q3];exact VT b' o h (by simpa using q1)
         . refine ⟨?_,fun q=>by rw [q,hl3] at d;cases d⟩
           have d':H' b'=none:=F3.fresh e3 d;cases q:H b' with
           | none=>rfl
           | some o=>
             by_cases z1:b'=r
             . rw [z1,e2] at d';cases d'
             . by_cases z2:b'=x.sp
               . have:=R2.Ef;rw [<- show b'=x.sp from z2,d'] at this;cases this
               . rw [F2 b' o q (by simp [z1,z2])] at d';cases d'
         . have q2:b' ≠ x.sp:=fun q=>by have:=R.Ef;rw [<- q,d.1] at this;cases this
           rw [ak q2,ak d.2];exact h
   . rintro σ H' ⟨had,qa,b,p,v,us,pre,_,Pp,rfl,R2,F2,hl2,VR,RS,bS⟩
     rw [Nat.sub_self] at bS;have bS:∀ H' la us,_:=bS;refine ⟨_,rfl,?_⟩;have a2:=bS H' l us (by rw [List.append_nil];exact R2) F2 hl hl2;rw [List.append_nil] at a2;exact a2 RS
end
def mR (K:Zqq) (H:Hp) (v:V) (q:Nat×Nat):Prop:=∃ o C dx fs,v=.ref o/\H o=some (.ins C dx fs)/\yV K C/\b7 K C "a"/\b7 K C "b"/\fs.lookup ("a":Str)=some (V.int (q.1:Int))/\fs.lookup ("b":Str)=some (V.int (q.2:Int))
structure gW (H:Hp) (lr:Addr) (rs:List Addr) (n:Nat) (row:Nat->List Nat):Prop where
 lst:H lr=some (.lst (rs.map V.ref))
 len:rs.length=n
 nd:rs.Nodup
 out:lr ∉ rs
 at_:∀ v a,rs[v]?=some a->H a=some (.lst (vN (row v)))
theorem HP (l:List (Nat×Nat)) (q:Nat×Nat) (v:Nat):JM.fJ (l++[q]) v=JM.fJ l v++(if q.1=v then [q.2] else if q.2=v then [q.1] else []):=by
 unfold JM.fJ;rw [List.filterMap_append];congr 1;unfold JM.pR;by_cases h1:q.1=v
 . simp [h1]
 . by_cases h2:q.2=v<;>simp [h1,h2]
theorem take_snoc {α:Type}:∀ {l:List α} {i:Nat} {x:α},l[i]?=some x->l.take (i+1)=l.take i++[x]
 | [],i,x,h=>by simp at h
 | a::l,0,x,h=>by
  have e:a=x:=Option.some.inj h
  subst e
  rfl
 | a::l,i+1,x,h=>by
  have ih:=take_snoc (l:=l) (i:=i) (x:=x) h
  show a::l.take (i+1)=a::l.take i++[x]
  rw [ih]
  rfl
theorem yJ (l:List (Nat×Nat)) (v:Nat):(JM.fJ l v).length<=l.length:=List.length_filterMap_le _ _
section
def Pu (K:Zqq):Sp:=fun vs H Q _=>∃ (n:Nat) (lb:Addr) (us:List V) (l:List (Nat×Nat)),vs=[.int (n:Int),.ref lb]/\n<=1000/\l.length<=1000/\H lb=some (.lst us)/\us.length=l.length/\(∀ (i:Nat) v q,us[i]?=some v->l[i]?=some q->mR K H v q) /\
 (∀ q ∈ l,q.1 < q.2/\q.2 < n)/\∀ H' lr rs,aR H H'->H lr=none->(∀ a ∈ rs,H a=none)->gW H' lr rs n (JM.fJ l)->Q (.ref lr) H'
theorem xy:aM ["n","bonds","rows","bond","k"] ["n","bonds"] (aF jG):=mL (by decide +kernel)
theorem gW.push {H:Hp} {lr:Addr} {rs:List Addr} {n v:Nat} {a:Addr} {row:Nat->List Nat} {u:Nat} (R:gW H lr rs n row) (ha:rs[v]?=some a) :
   gW (upd H a (.lst (vN (row v)++[.int (u:Int)]))) lr rs n (fun x=>if x=v then row x++[u] else row x):=by
 have z:lr ≠ a:=fun q=>R.out (q ▸ List.mem_of_getElem? ha);refine ⟨by rw [ak z];exact R.lst,R.len,R.nd,R.out,fun x b hb=>?_⟩;by_cases hx:x=v
 . subst hx
   rw [ha] at hb;cases hb;rw [ai,if_pos rfl];simp [vN]
 . have:b ≠ a:=fun q=>hx (Rq R.nd hb (q ▸ ha))
   rw [ak this,if_neg hx];exact R.at_ x b hb
theorem gW.eq {H:Hp} {lr:Addr} {rs:List Addr} {n:Nat} {row row':Nat->List Nat} (R:gW H lr rs n row) (h:∀ v,v < n->row v=row' v):gW H lr rs n row':=
 ⟨R.lst,R.len,R.nd,R.out,fun v a ha=>by
  have:=R.at_ v a ha
  rw [h v (by rw [<- R.len];exact (List.getElem?_eq_some_iff.mp ha).1)] at this
  exact this⟩
theorem MD (T:Txt K mg t):bI P w K mg base mr 1 t.cV t.fV ["n","bonds"] (Pu K):=by
 refine T.e7.ok xy (fun vs H Q E h=>?_) (fun cdv A outer s H vs Q E hr h=>?_)
 . obtain ⟨n,lb,us,l,rfl,_⟩:=h
   rfl
 . obtain ⟨n,lb,us,l,rfl,hn,hl,hlb,hlen,D4,hbd,k⟩:=h
   refine ⟨_,aq (Cu (i:=2) rfl xy.nd rfl rfl rfl (ly rfl T.lu (af (pv 0) ay)) (sZ (own:=[("k",4)]) rfl) (fun _ _ _ _ _=>bx (i:=4) xy.nd rfl (Or.inl rfl)) (fun _ _ _ _ _=>LN) (fun _ _ _ _ _=>iK ay))
     (aq (dN PassesOwn.never rfl (kZ (pv 1)) (bx (i:=3) xy.nd rfl (Or.inl rfl))
       (aq (dJ (rP PySem.F.plainAttrs_list PySem.F.slot_list_append PySem.F.type_list_append iB (fQ cJ (pv 2) (aL (pv 3) rfl) (fun _ _=>rfl)) (af (aL (pv 3) rfl) ay)))
       (aE (dJ (rP PySem.F.plainAttrs_list PySem.F.slot_list_append PySem.F.type_list_append iB (fQ cJ (pv 2) (aL (pv 3) rfl) (fun _ _=>rfl)) (af (aL (pv 3) rfl) ay))))))
     (aE (bC (pv 2)))),?_⟩
   refine ⟨_,rfl,(n:Int),rfl,by omega,by omega,?_⟩;rw [Int.toNat_natCast];intro D hD;refine Cv (n:=n) (fun i H'=>∃ rs:List Addr,rs.length=i/\rs.Nodup/\D ∉ rs/\(∀ a ∈ rs,H a=none)/\aR H H'/\H' D=some (.lst (rs.map V.ref))/\∀ a ∈ rs,H' a=some (.lst []))
     ⟨[],rfl,List.nodup_nil,by simp,by simp,fun b o e=>by rw [ak (au e hD)];exact e,ai,by simp⟩ ?_ ?_
   . rintro i H' hi ⟨rs,hrs,nd,Qx,hn0,sm,hD',hem⟩
     refine ⟨rfl,Nat.zero_le _,fun a ha=>⟨rs.map V.ref,?_,?_,rs++[a],?_,?_,?_,?_,?_,?_,?_⟩⟩
     . rw [ak (au hD' ha)];exact hD'
     . simp only [List.length_map,hrs];rw [sizeLine_eq];omega
     . simp [hrs]
     . exact t9 nd fun m=>by rw [hem a m] at ha;cases ha
     . simp only [List.mem_append,List.mem_singleton,not_or]
       exact ⟨Qx,au hD' ha⟩
     . intro b hb
       rcases List.mem_append.mp hb with m | m
       . exact hn0 b m
       . rw [List.mem_singleton.mp m];exact sm.free ha
     . intro b o e
       rw [ak (au e hD),ak (au (sm b o e) ha)];exact sm b o e
     . rw [ai];simp
     . intro b hb
       rcases List.mem_append.mp hb with m | m
       . have nb:b ≠ a:=fun q=>by rw [<- q,hem b m] at ha;cases ha
         have nD:b ≠ D:=fun q=>Qx (q ▸ m);rw [ak nD,ak nb];exact hem b m
       . have e:=List.mem_singleton.mp m
         have nD:a ≠ D:=fun q=>by rw [q,hD'] at ha;cases ha
         rw [e,ak nD,ai]
   . rintro H1 ⟨rs,hrs,nd,Qx,hn0,sm,hD',hem⟩
     have R0:gW H1 D rs n (JM.fJ (l.take 0)):=⟨hD',hrs,nd,Qx,fun v a ha=>hem a (List.mem_of_getElem? ha)⟩;refine ⟨_,rfl,lb,rfl,⟨_,c8.of (sm _ _ hlb)⟩,l9 (K:=K) (a:=lb) (xs:=us) (fun i σ H'=>∃ v:Option V,σ=[some (.int (n:Int)),some (.ref lb),some (.ref D),v,none]/\aR H H'/\gW H' D rs n (JM.fJ (l.take i)))
       ⟨none,rfl,sm,R0⟩ (fun i σ H' _ ⟨_,_,s5,_⟩=>c8.of (s5 _ _ hlb)) ?_ ?_⟩
     . rintro i y σ H' hi ⟨v,rfl,s5,R⟩
       have hil:i < l.length:=by rw [<- hlen];exact (List.getElem?_eq_some_iff.mp hi).1
       obtain ⟨q,hq⟩:∃ q,l[i]?=some q:=⟨_,List.getElem?_eq_getElem hil⟩;obtain ⟨o,C,dx,fs,rfl,ho,cl,na,nb,la,lb'⟩:=D4 i y q hi hq;obtain ⟨hq1,hq2⟩:=hbd q (List.mem_of_getElem? hq);obtain ⟨ra,zY⟩:∃ ra,rs[q.1]?=some ra:=⟨_,List.getElem?_eq_getElem (by omega)⟩;obtain ⟨rb,hrb⟩:∃ rb,rs[q.2]?=some rb:=⟨_,List.getElem?_eq_getElem (by omega)⟩;have ho':=s5 _ _ ho;have e1:(rs.map V.ref)[q.1]?=some (V.ref ra):=by rw [List.getElem?_map,zY];rfl
       have e2:(rs.map V.ref)[q.2]?=some (V.ref rb):=by rw [List.getElem?_map,hrb];rfl
       have hA:=R.at_ _ _ zY;have oa:o ≠ ra:=kM ho' hA (by intro z;cases z);have R1:=R.push (u:=q.2) zY;have UK:(vN (JM.fJ (l.take i) q.1)).length < sizeLine:=by
         have:=yJ (l.take i) q.1;simp only [vN,List.length_map,List.length_take] at this ⊢;rw [sizeLine_eq];omega
       refine ⟨_,rfl,_,rfl,o,C,dx,fs,_,rfl,ho',cl,na,la,zV (c8.of R.lst) (bT e1) ⟨.inl ⟨rfl,_,c8.of hA⟩,?_⟩⟩;refine ⟨_,rfl,o,C,dx,fs,_,rfl,ho',cl,nb,lb',ra,_,_,rfl,rfl,hA,UK,?_⟩;have hB:=R1.at_ _ _ hrb;have ho2:upd H' ra (.lst (vN (JM.fJ (l.take i) q.1)++[.int (q.2:Int)])) o=some (.ins C dx fs):=by rw [ak oa];exact ho'
       have UL:(vN (if q.2=q.1 then JM.fJ (l.take i) q.2++[q.2] else JM.fJ (l.take i) q.2)).length < sizeLine:=by
         rw [if_neg (by omega)];have:=yJ (l.take i) q.2;simp only [vN,List.length_map,List.length_take] at this ⊢;rw [sizeLine_eq];omega
       have R2:=R1.push (u:=q.1) hrb;refine ⟨_,rfl,_,rfl,o,C,dx,fs,_,rfl,ho2,cl,nb,lb',zV (c8.of R1.lst) (bT e2) ⟨.inl ⟨rfl,_,c8.of hB⟩,?_⟩⟩;refine ⟨_,rfl,o,C,dx,fs,_,rfl,ho2,cl,na,la,rb,_,_,rfl,rfl,hB,UL,?_⟩;refine ⟨_,rfl,fun b u e=>?_,R2.eq fun v hv=>?_⟩
       . have za:b ≠ ra:=fun z=>by rw [z,hn0 ra (List.mem_of_getElem? zY)] at e;cases e
         have zb:b ≠ rb:=fun z=>by rw [z,hn0 rb (List.mem_of_getElem? hrb)] at e;cases e
         rw [ak zb,ak za];exact s5 b u e
       . rw [take_snoc hq,HP]
         by_cases z1:q.1=v
         . subst z1
           rw [if_neg (by omega),if_pos rfl,if_pos rfl]
         . by_cases z2:q.2=v
           . subst z2
             rw [if_pos rfl,if_neg (Ne.symm z1),if_neg z1,if_pos rfl]
           . rw [if_neg (Ne.symm z2),if_neg (Ne.symm z1),if_neg z1,if_neg z2,List.append_nil]
     . rintro σ H' ⟨v,rfl,s5,R⟩
       rw [hlen,List.take_length] at R;exact ⟨_,rfl,k H' D rs s5 hD hn0 R⟩
end
def Tn (la lb lr:Addr):List (Str×V):=[("atoms",.ref la),("bonds",.ref lb),("neighbours",.ref lr)]
structure RH (C:Addr) (H:Hp) (g la lb lr:Addr) (as us:List V) (rs:List Addr) (l:List (Nat×Nat)):Prop where
 obj:∃ dx,H g=some (.ins C dx (Tn la lb lr))
 atoms:H la=some (.lst as)
 bonds:H lb=some (.lst us)
 rows:gW H lr rs as.length (JM.fJ l)
theorem gW.stay {H H':Hp} {lr:Addr} {rs:List Addr} {n:Nat} {row:Nat->List Nat} (R:gW H lr rs n row) (f:∀ b o,H b=some o->(b=lr\/b ∈ rs)->H' b=some o):gW H' lr rs n row:=
 ⟨f _ _ R.lst (.inl rfl),R.len,R.nd,R.out,fun v a ha=>f _ _ (R.at_ v a ha) (.inr (List.mem_of_getElem? ha))⟩
theorem aR.R8 {S:List Addr} {H H':Hp} (s:aR H H'):iP S H H':=fun b o e _=>s b o e
section
def BF (K:Zqq) (C:Addr):Sp:=fun vs H Q _=>∃ (o dx la lb:Addr) (as us:List V) (l:List (Nat×Nat)),vs=[.ref o,.ref la,.ref lb]/\H o=some (.ins C dx [])/\H la=some (.lst as)/\H lb=some (.lst us)/\as.length<=1000/\l.length<=1000/\us.length=l.length /\
 (∀ (i:Nat) v q,us[i]?=some v->l[i]?=some q->mR K H v q/\v ≠ .ref o)/\(∀ q ∈ l,q.1 < q.2/\q.2 < as.length)/\∀ H' lr rs,RH C H' o la lb lr as us rs l->iP [o] H H'->Q .non H'
theorem Ku:aM ["self","atoms","bonds"] ["self","atoms","bonds"] (aF nQ):=mL (by decide +kernel)
theorem D5 (T:Txt K mg t) {C:Addr} (cl:yV K C) (n1:b7 K C "atoms") (n2:b7 K C "bonds") (n3:b7 K C "neighbours"):bI P w K mg base mr 2 t.bU t.gu ["self","atoms","bonds"] (BF K C):=by
 have GR:=@MD P w K mg base t T;refine T.jt.ok Ku (fun vs H Q E h=>?_) (fun cdv A outer s H vs Q E hr h=>?_)
 . obtain ⟨o,dx,la,lb,as,us,l,rfl,_⟩:=h
   rfl
 . obtain ⟨o,dx,la,lb,as,us,l,rfl,h0,ha,hb,hn,hl,hlen,D4,hbd,k⟩:=h
   refine ⟨_,aq (fP (pv 0) (pv 1) rfl) (aq (fP (pv 0) (pv 2) rfl) (aE (fP (pv 0) (bB GR hr rfl T.ny T.e7.kp T.nj .nil cZ (af (c9 aY (by rfl) T.j6 PySem.boot_len (af (pv 1) ay)) (af (pv 2) ay))) rfl))),?_⟩;have ao:la ≠ o:=kM ha h0 (by intro z;cases z);have bo:lb ≠ o:=kM hb h0 (by intro z;cases z);refine ⟨_,rfl,_,rfl,o,C,dx,_,rfl,h0,cl,n1,(by show 0 < 1000;decide),?_⟩;refine ⟨_,rfl,_,rfl,o,C,dx,_,rfl,ai,cl,n2,(by show 1 < 1000;decide),?_⟩;rw [kY];have keep:∀ b u,H b=some u->b ≠ o->upd H o (.ins C dx (fH "bonds" (.ref lb) (fH "atoms" (.ref la) []))) b=some u:=fun b u e n=>by rw [ak n];exact e
   refine ⟨_,rfl,la,_,rfl,.inl (c8.of (keep _ _ ha ao)),_,rfl,?_⟩;refine ⟨as.length,lb,us,l,rfl,hn,hl,keep _ _ hb bo,hlen,fun i v q h1 h2=>?_,hbd,fun H1 lr rs sm VU XS R=>?_⟩
   . obtain ⟨⟨o',C',dx',fs,rfl,e1,e2⟩,ne⟩:=D4 i v q h1 h2
     exact ⟨o',C',dx',fs,rfl,keep _ _ e1 (fun z=>ne (by rw [z])),e2⟩
   . have e1:=sm o _ ai
     refine ⟨_,rfl,o,C,dx,_,rfl,e1,cl,n3,(by show 2 < 1000;decide),?_⟩;have F:iP [o] H (upd H1 o (.ins C dx (fH "neighbours" (.ref lr) (fH "bonds" (.ref lb) (fH "atoms" (.ref la) []))))):=fun b u e n=>by
       have nb:b ≠ o:=by simpa using n
       rw [ak nb];exact sm b u (keep b u e nb)
     refine k _ lr rs ⟨⟨dx,ai⟩,F _ _ ha (by simpa using ao),F _ _ hb (by simpa using bo),R.stay fun b u e hb'=>?_⟩ F;have nb:b ≠ o:=by
       rcases hb' with z | z
       . intro q;rw [<- z,q,ai] at VU;cases VU
       . intro q;have:=XS b z;rw [q,ai] at this;cases this
     rw [ak nb];exact e
def ue {α β:Type} (M:Bytes) (D6:Bytes->Nat->Except Fault (α×Bytes×Nat)) (BG:Nat×Nat->Bytes->Nat->Except Fault (β×Bytes×Nat)) (b:Bytes) (p:Nat):Except Fault (List α×List β):=
 Fk.andThen (JM.iZ M b p) fun m=>
 Fk.andThen (numIn 1 (fun v=>decide (v<=Fk.ATOMS)) m.1 m.2) fun n=>
 Fk.andThen (numIn 1 (fun v=>decide (v<=Fk.BONDS)) n.2.1 n.2.2) fun k=>
 Fk.andThen (JM.many D6 n.1 k.2.1 k.2.2) fun x=>
 Fk.andThen (JM.gC n.1 BG k.1 none x.2.1 x.2.2) fun y=>
 Fk.andThen (need y.2.1.isEmpty 7 y.2.2) fun _=>.ok (x.1,y.1)
def FQ {α β:Type} (K:Zqq) (CR CF CG f1 f2:Addr) (D6:Bytes->Nat->Except Fault (α×Bytes×Nat)) (BG:Nat×Nat->Bytes->Nat->Except Fault (β×Bytes×Nat)) (RA:mQ α) (RB:mQ β) (RI:α->Nat) (RJ:β->Nat) (ends:β->Nat×Nat):Sp:=
 fun vs H Q E=>∃ (r m:Addr) (M:Bytes) (x:BD),vs=[.ref r,.ref m,.ref f1,.ref f2]/\eW K CR H r x/\x.hps=[]/\x.Kd=[]/\(∀ H,j0 K H m (vB M)) /\
   mF CF x.w (ue M D6 BG x.b x.p) (fun y=>∀ H' g la lb lr as us rs b p,eW K CR H' r { x with b:=b,p:=p,hps:=y.1.map fun z=>(RI z:Int),Kd:=y.2.map fun z=>(RJ z:Int) }->iP [r,x.hp,x.sp] H H'->
     RH CG H' g la lb lr as us rs (y.2.map ends)->dS RA (fun b=>H b=none) H' as y.1->dS RB (fun b=>H b=none) H' us y.2->JM.pQ as.length (y.2.map ends)->Q (.ref g) H') E
theorem qH:aM ["reader","mark","take_atom","take_bond","n","m","atoms","bonds"] ["reader","mark","take_atom","take_bond"] (aF nR):=mL (by decide +kernel)
theorem Kv (T:Txt K mg t) {α β:Type} {f1 f2:Addr} {VW VX:FuncData} {D6:Bytes->Nat->Except Fault (α×Bytes×Nat)} {BG:Nat×Nat->Bytes->Nat->Except Fault (β×Bytes×Nat)} {RA:mQ α} {RB:mQ β} {RI:α->Nat} {RJ:β->Nat} {ends:β->Nat×Nat}
   (RK:qF RA) (Rb:qF RB) (UM:∀ b p y,D6 b p=.ok y->(RI y.1:Int)=(y.2.2:Int) - 1) (UN:∀ q b p y,BG q b p=.ok y->(RJ y.1:Int)=(y.2.2:Int) - 1) (D4:∀ q b p x,BG q b p=.ok x->ends x.1=q)
   (hE:∀ {D:Addr->Prop} {H:Hp} {v:V} {z:β},RB D H v z->∃ o,v=.ref o/\D o/\mR K H v (ends z))
   (G1:bI P w K mg base (rB P w) 7 f1 VW ["reader"] (Kq K t.aB t.aH D6 RA)) (XT:PySem.W.keepIn K (.ref f1)=true) (hb1:Binds K VW ["reader"] [])
   (G2:bI P w K mg base (rB P w) 7 f2 VX ["reader","pair"] (EI K t.aB t.aH BG RB)) (Tp:PySem.W.keepIn K (.ref f2)=true) (hb2:Binds K VX ["reader","pair"] []) :
   bI P w K mg base (rB P w) 9 t.fB t.iD ["reader","mark","take_atom","take_bond"] (FQ K t.aB t.aH t.bH f1 f2 D6 BG RA RB RI RJ ends):=by
 have GM:=@MA P w K mg base t T;have GB:=@oz P w K mg base t T;have GA:bI P w K mg base (rB P w) 8 t.bq t.cE ["self","n","take_atom"] (FO K t.aB t.aH f1 D6 RA RI):=Kr T RK UM G1 XT hb1;have GO:bI P w K mg base (rB P w) 8 t.br t.cF ["self","n","m","take_bond"] (FP K t.aB t.aH f2 BG RB RJ):=Ks T (by decide) Rb UN G2 Tp hb2;have GE:=@Pj P w K mg base t T;have GI:bI P w K mg base mr 2 t.bU t.gu ["self","atoms","bonds"] (BF K t.bH):=D5 T T.xr T.iT T.iU T.gA;obtain ⟨Q0,g1⟩:=T.tQ;obtain ⟨Tj,g2⟩:=T.tR;refine T.iE.IA qH (fun vs H Q E h=>?_) (fun cdv A outer s H vs Q E hr h=>?_)
 . obtain ⟨r,m,M,x,rfl,_⟩:=h
   rfl
 . obtain ⟨r,m,M,x,rfl,R,Tq,NL,hM,bS⟩:=h
   have UI:cU 6 _:=hr.mono (by decide);have IB:cU 5 _:=hr.mono (by decide);have UG:cU 4 _:=hr.mono (by decide);have Kp:cU 3 _:=hr.mono (by decide);refine ⟨_,aq (dJ (bM (pv 0) T.aJ T.lM GM UI T.lF .nil fL (af (pv 1) ay)))
     (aq (aQ (i:=4) qH.nd rfl (Or.inl rfl) (bM (pv 0) T.aJ T.aP GB IB T.aO .nil fL (af aT (af aT (af (b9 rfl g1 (v:=.int 128) ⟨_,rfl⟩) ay)))))
     (aq (aQ (i:=5) qH.nd rfl (Or.inl rfl) (bM (pv 0) T.aJ T.aP GB IB T.aO .nil fL (af aT (af aT (af (b9 rfl g2 (v:=.int 192) ⟨_,rfl⟩) ay)))))
     (aq (aQ (i:=6) qH.nd rfl (Or.inl rfl) (bM (pv 0) T.aJ T.kR GA hr T.kP .nil fL (af (pv 4) (af (pv 2) ay))))
     (aq (aQ (i:=7) qH.nd rfl (Or.inl rfl) (bM (pv 0) T.aJ T.kT GO hr T.kQ .nil fL (af (pv 4) (af (pv 5) (af (pv 3) ay)))))
     (aq (dJ (Jf (pv 0) T.aJ T.mC GE UG T.m8 .nil fL))
     (aE (bC (sS T.FI GI Kp rfl T.AG T.nZ .nil cZ (af (pv 6) (af (pv 7) ay)))))))))),?_⟩
   obtain ⟨d0,e0⟩:=R.obj;refine ⟨_,rfl,r,d0,_,rfl,e0,rfl,_,rfl,?_⟩;refine ⟨r,m,M,x,rfl,R,hM,bS.andThen'.mono fun y1 hy1 bS H1 R1 F1=>?_⟩;obtain ⟨d1,e1⟩:=R1.obj;refine ⟨_,rfl,r,d1,_,rfl,e1,rfl,?_⟩;refine ⟨r,1,0,128,_,rfl,R1,.inl rfl,mF.good (g':=fun v=>decide (v<=Fk.ATOMS)) (fun v=>by rw [Bool.eq_iff_iff];simp only [Bool.and_eq_true,decide_eq_true_eq];unfold Fk.ATOMS;omega) (bS.andThen'.mono fun n hn bS H2 R2 F2=>?_)⟩;obtain ⟨d2,e2⟩:=R2.obj;have RL:n.1<=128:=of_decide_eq_true (JM.aZ hn).2.1;refine ⟨_,rfl,r,d2,_,rfl,e2,rfl,?_⟩;refine ⟨r,1,0,192,_,rfl,R2,.inl rfl,mF.good (g':=fun v=>decide (v<=Fk.BONDS)) (fun v=>by rw [Bool.eq_iff_iff];simp only [Bool.and_eq_true,decide_eq_true_eq];unfold Fk.BONDS;omega) (bS.andThen'.mono fun mm XU bS H3 R3 F3=>?_)⟩;obtain ⟨d3,e3⟩:=R3.obj;have XW:mm.1<=192:=of_decide_eq_true (JM.aZ XU).2.1;refine ⟨_,rfl,r,d3,_,rfl,e3,rfl,_,rfl,_,rfl,?_⟩;refine ⟨r,n.1,_,rfl,R3,by omega,Tq,bS.andThen'.mono fun y4 VY bS H4 la as R4 F4 XX hla VZ=>?_⟩;obtain ⟨d4,e4⟩:=R4.obj;refine ⟨_,rfl,r,d4,_,rfl,e4,rfl,_,rfl,_,rfl,_,rfl,?_⟩;refine ⟨r,n.1,mm.1,_,rfl,R4,by omega,NL,bS.andThen'.mono fun y5 UO bS H5 lb us R5 F5 XY hlb XZ=>?_⟩;obtain ⟨d5,e5⟩:=R5.obj;refine ⟨_,rfl,r,d5,_,rfl,e5,rfl,?_⟩;refine ⟨r,_,rfl,R5,bS.andThen'.mono fun y6 Zv bS=>?_⟩;have Wa:iP [r] H H3:=(F1.trans F2).trans F3;have Yb:iP [r,x.hp,x.sp] H H4:=(Wa.mono (by simp)).trans (F4.mono (by simp));have Yc:iP [r,x.hp,x.sp] H H5:=Yb.trans (F5.mono (by simp));have Pw:∀ b,H3 b=none->H b=none:=fun b h=>Wa.fresh e3 h;have RM:∀ b,H4 b=none->H b=none:=fun b h=>by
     refine Pw b ?_;cases q:H3 b with
     | none=>rfl
     | some o=>
       by_cases z1:b=r
       . rw [z1,e4] at h;cases h
       . by_cases z2:b=x.hp
         . have:=R4.hpl;rw [<- show b=x.hp from z2,h] at this;cases this
         . rw [F4 b o q (by simp [z1];exact z2)] at h;cases h
   have RN:∀ b,H b=none->b ≠ r/\b ≠ x.hp/\b ≠ x.sp:=fun b h=>by
     refine ⟨fun q=>?_,fun q=>?_,fun q=>?_⟩
     . rw [q,e0] at h;cases h
     . have:=R.hpl;rw [<- q,h] at this;cases this
     . have:=R.Ef;rw [<- q,h] at this;cases this
   have UQ:=Pw la XX;have Yd:=RM lb XY;have UR:H5 la=some (.lst as):=F5 la _ hla (by have:=RN la UQ;simp [this.1];exact this.2.2);have Ye:dS RA (fun b=>H b=none/\b ≠ la) H5 as y4.1:=(VZ.mono RK (fun b d=>⟨Pw b d.1,d.2⟩)).stay RK fun b o d h=>F5 b o h (by have:=RN b d.1;simp [this.1];exact this.2.2);have US:dS RB (fun b=>H4 b=none/\b ≠ lb) H5 us y5.1:=XZ;have rise:=(JM.pS (ends:=ends) D4 UO).1;have HQ:as.length=n.1:=VZ.len.trans (JM.m5 VY);refine ⟨_,rfl,_,rfl,fun o dx no nd ne=>?_⟩;have Kw:∀ b u,H5 b=some u->upd (upd H5 dx (.own o)) o (.ins t.bH dx []) b=some u:=fun b u e=>by rw [ak (au e no),ak (au e nd)];exact e
   refine ⟨o,dx,la,lb,as,us,y5.1.map ends,rfl,ai,Kw _ _ UR,Kw _ _ hlb,by omega,?_,by rw [List.length_map];exact US.len,fun i v q h1 h2=>?_,fun q hq=>?_,fun H7 lr rs GR F7=>⟨rfl,?_⟩⟩
   . rw [List.length_map,JM.nP UO];omega
   . rw [List.getElem?_map] at h2
     cases hz:y5.1[i]? with
     | none=>rw [hz] at h2;cases h2
     | some z=>
       rw [hz] at h2;cases h2;obtain ⟨o',rfl,_,o2,C2,Yg,Yh,e2',e3',rest⟩:=hE (US.at_ i v z h1 hz);cases e2';exact ⟨⟨o',C2,Yg,Yh,rfl,Kw _ _ e3',rest⟩,fun z=>by cases z;rw [no] at e3';cases e3'⟩
   . have:=rise.1 q hq
     rw [HQ];exact this
   . have F8:iP [] H5 H7:=iP.made no nd F7
     have Yi:=R5.stay F8 (by simp) (by simp) (by simp) (by simp);refine bS H7 o la lb lr as us rs _ _ Yi (Yc.trans (F8.mono (by simp))) GR ((Ye.mono RK fun b d=>d.1).stay RK fun b u _ h=>F8 b u h (by simp)) ((US.mono Rb fun b d=>RM b d.1).stay Rb fun b u _ h=>F8 b u h (by simp)) ?_;rw [HQ];exact rise
end
theorem yK {K:Zqq} {a:Addr} {xs:List V} {g:TG} {tb:TS} {D:Ends} {σ:L2.St} {H:Hp} (Pv:Nat->L2.St->Hp->Prop) (h0:Pv 0 σ H) (hl:∀ i σ H,i<=xs.length->Pv i σ H->c8 K H a xs)
   (hs:∀ i x σ H T,xs[i]?=some x->Pv i σ H->H T=none->g (.ref T) σ (upd H T (.tup [.int (i:Nat),x])) fun σ2 H2=>tb { D with nx:=Pv (i+1),ct:=Pv (i+1),bk:=D.nx } σ2 H2) (hd:∀ σ H,Pv xs.length σ H->D.nx σ H) :
   ∃ W:Nat->Nat->L2.St->Hp->Prop,(∃ m,W 0 m σ H)/\∀ i m σ H,W i m σ H->
     ((Ro K a).stop i H/\D.nx σ H)\/((Ro K a).go i H/\∃ N:L2.St->Hp->Prop,(∀ σ' H',N σ' H'->∃ m',m' < m/\W (i+1) m' σ' H')/\∀ x H',(Ro K a).IW i H x H'->g x σ H' fun σ2 H2=>tb { D with nx:=N,ct:=N,bk:=D.nx } σ2 H2):=by
 refine ⟨fun i m σ H=>m=xs.length - i/\i<=xs.length/\Pv i σ H,⟨xs.length,by simp,Nat.zero_le _,h0⟩,?_⟩;rintro i m σ H ⟨rfl,hi,p⟩;have q:=hl i σ H hi p;by_cases hlt:i < xs.length
 . refine .inr ⟨⟨xs,xs[i],q,by simp [hlt]⟩,Pv (i+1),fun σ' H' p'=>⟨xs.length - (i+1),by omega,rfl,hlt,p'⟩,fun x H' y=>?_⟩
   obtain ⟨T,x',rfl,hT,rfl,y⟩:=y;exact hs i x' σ H T (y xs q) p hT
 . have e:i=xs.length:=by omega
   subst e;exact .inl ⟨⟨xs,q,Nat.le_refl _⟩,hd σ H p⟩
theorem Kx (h:Nat) (x y:Nat):Iz (.int (h:Int)) [.int (x:Int),.int (y:Int)]=(h==x||h==y):=by
 rw [Bool.eq_iff_iff];simp [Iz,LJ];omega
theorem RO {n:Nat} (h:n<=1000):n < sizeLine:=by rw [sizeLine_eq];omega
section
theorem aG {H:Hp} {p:Addr} {o:HO} (hp:H p=none):aR H (upd H p o):=fun b u e=>by rw [ak (au e hp)];exact e
def zZ (K:Zqq) (C:Addr):Sp:=fun vs H Q _=>∃ (g dx lr:Addr) (fs:List (Str×V)) (rs:List Addr) (n e o:Nat) (row:Nat->List Nat),vs=[.ref g,.int (e:Int),.int (o:Int)]/\H g=some (.ins C dx fs)/\fs.lookup ("neighbours":Str)=some (V.ref lr)/\gW H lr rs n row/\e < n/\(row e).length<=1000 /\
 ∀ H' l,aR H H'->H l=none->H' l=some (.lst (vN ((row e).filter fun x=>x != o)))->Q (.ref l) H'
theorem sM:aM ["self","end","other","atom"] ["self","end","other"] (aF k7):=mL (by decide +kernel)
theorem EK (T:Txt K mg t) {C:Addr} (cl:yV K C) (n3:b7 K C "neighbours"):bI P w K mg base mr 1 t.b8 t.fq ["self","end","other"] (zZ K C):=by
 refine T.gK.ok sM (fun vs H Q E h=>?_) (fun cdv A outer s H vs Q E hr h=>?_)
 . obtain ⟨g,dx,lr,fs,rs,n,e,o,row,rfl,_⟩:=h
   rfl
 . obtain ⟨g,dx,lr,fs,rs,n,e,o,row,rfl,hg,hl,R,he,hlen,k⟩:=h
   obtain ⟨ra,zY⟩:∃ ra,rs[e]?=some ra:=⟨_,List.getElem?_eq_getElem (by rw [R.len];exact he)⟩;have hA:=R.at_ _ _ zY;have e1:(rs.map V.ref)[e]?=some (V.ref ra):=by rw [List.getElem?_map,zY];rfl
   refine ⟨_,aE (bC (N9 rfl sM.nd (kZ (fQ cJ (aL (pv 0) rfl) (pv 1) (fun _ _=>rfl))) (sZ (own:=[("atom",3)]) rfl) (fun _ _ _ _ _=>bx (i:=3) sM.nd rfl (Or.inl rfl)) (fun _ _ _ _ _=>A7 (fM Cj (pv 3) (pv 2) (gr _))) (fun _ _ _ _ _=>pv 3))),?_⟩;refine ⟨_,rfl,g,C,dx,fs,_,rfl,hg,cl,n3,hl,_,rfl,zV (c8.of R.lst) (bT e1) ⟨ra,rfl,⟨_,c8.of hA⟩,?_⟩⟩;intro D hD;refine Fy (K:=K) (a:=ra) (xs:=vN (row e)) (fun i H'=>aR H H'/\H' D=some (.lst (vN (((row e).take i).filter fun x=>x != o)))) ⟨aG hD,ai⟩ (fun i H' _ h=>c8.of (h.1 _ _ hA)) ?_ ?_
   . rintro i x H' hx ⟨sm,hD'⟩
     obtain ⟨c,hc,rfl⟩:∃ c,(row e)[i]?=some c/\x=V.int (c:Int):=by
       unfold vN at hx;rw [List.getElem?_map] at hx;cases q:(row e)[i]? with
       | none=>rw [q] at hx;cases hx
       | some c=>rw [q] at hx;exact ⟨c,rfl,(Option.some.inj hx).symm⟩
     refine ⟨rfl,_,rfl,_,rfl,rfl,_,rfl,?_⟩;refine C3 (fun h=>?_) (fun h=>?_)
     . have ne:(c != o)=true:=by simp at h ⊢;omega
       refine ⟨_,rfl,_,hD',?_,fun b u e'=>?_,?_⟩
       . have:(((row e).take i).filter fun x=>x != o).length<=(row e).length:=Nat.le_trans (List.length_filter_le _ _) (by rw [List.length_take];omega)
         simp only [vN,List.length_map];exact RO (by omega)
       . rw [ak (au e' hD)];exact sm b u e'
       . rw [ai,take_snoc hc,List.filter_append,List.filter_cons,if_pos ne]
         simp [vN]
     . have ne:¬ (c != o)=true:=by simp at h ⊢;omega
       refine ⟨sm,?_⟩;rw [take_snoc hc,List.filter_append,List.filter_cons,if_neg ne];simpa using hD'
   . rintro H' ⟨sm,hD'⟩
     rw [show (vN (row e)).length=(row e).length by simp [vN],List.take_length] at hD';exact k H' D sm hD hD'
theorem mR.same {H H':Hp} {v:V} {q:Nat×Nat} (e:mR K H v q) (f:aR H H'):mR K H' v q:=let ⟨o,C,dx,fs,a,b,c⟩:=e;⟨o,C,dx,fs,a,f _ _ b,c⟩
end
end MP
namespace JM
open Fk
def oW (b:Bytes) (p:Nat):Except Fault ((Atom×Nat)×Bytes×Nat):=andThen (lB b p) fun y=>.ok ((y.1,y.2.2 - 1),y.2.1,y.2.2)
def lR (q:Nat×Nat) (b:Bytes) (p:Nat):Except Fault ((Bond×Nat)×Bytes×Nat):=andThen (jR q b p) fun y=>.ok ((y.1,y.2.2 - 1),y.2.1,y.2.2)
theorem aK {α β:Type} {x:Except Fault α} {f:α->Except Fault β} {r:β} (h:andThen x f=.ok r):∃ a,x=.ok a/\f a=.ok r:=by
 cases x with
 | error e=>cases h
 | ok a=>exact ⟨a,rfl,h⟩
def NN {α:Type} (y:List (α×Nat)×Bytes×Nat):List α×Bytes×Nat:=(y.1.map fun z=>z.1,y.2.1,y.2.2)
theorem D7 {α:Type} {one:Bytes->Nat->Except Fault (α×Bytes×Nat)}:∀ (k:Nat) (b:Bytes) (p:Nat),
  many one k b p=andThen (many (fun b p=>andThen (one b p) fun y=>.ok ((y.1,y.2.2 - 1),y.2.1,y.2.2)) k b p) fun y=>.ok (NN y)
 | 0,b,p=>rfl
 | k+1,b,p=>by
  unfold many
  simp only [aW,aV]
  cases one b p with
  | error e=>rfl
  | ok x=>
   simp only [aV]
   rw [D7 k]
   simp only [aW,aV]
   rfl
theorem Aa {α:Type} {n:Nat} {one:Nat×Nat->Bytes->Nat->Except Fault (α×Bytes×Nat)}:∀ (k:Nat) (had:Option (Nat×Nat)) (b:Bytes) (p:Nat),
  gC n one k had b p=andThen (gC n (fun q b p=>andThen (one q b p) fun y=>.ok ((y.1,y.2.2 - 1),y.2.1,y.2.2)) k had b p) fun y=>.ok (NN y)
 | 0,had,b,p=>rfl
 | k+1,had,b,p=>by
  unfold gC
  simp only [aW,aV]
  cases k6 n had b p with
  | error e=>rfl
  | ok q=>
   simp only [aV]
   cases one q.1 q.2.1 q.2.2 with
   | error e=>rfl
   | ok x=>
    simp only [aV]
    rw [Aa k]
    simp only [aW,aV]
    rfl
theorem qI {b:Bytes} {p:Nat} {y:Atom×Bytes×Nat} (h:lB b p=.ok y):y.2.2=p+6:=by
 unfold lB at h;obtain ⟨a1,h1,h⟩:=aK h;obtain ⟨a2,h2,h⟩:=aK h;obtain ⟨a3,h3,h⟩:=aK h;obtain ⟨a4,h4,h⟩:=aK h;obtain ⟨a5,h5,h⟩:=aK h;cases h;have:=(aZ h1).2.2.2.2;have:=(aZ h2).2.2.2.2;have:=(aZ h3).2.2.2.2;have:=(aZ h4).2.2.2.2;have:=(aZ h5).2.2.2.2;simp only;omega
theorem qJ {q:Nat×Nat} {b:Bytes} {p:Nat} {y:Bond×Bytes×Nat} (h:jR q b p=.ok y):y.2.2=p+2:=by
 unfold jR at h;obtain ⟨a1,h1,h⟩:=aK h;obtain ⟨a2,h2,h⟩:=aK h;cases h;have:=(aZ h1).2.2.2.2;have:=(aZ h2).2.2.2.2;simp only;omega
theorem BH {n:Nat} {had:Option (Nat×Nat)} {b:Bytes} {p:Nat} {y:(Nat×Nat)×Bytes×Nat} (h:k6 n had b p=.ok y):y.2.2=p+2:=by
 unfold k6 at h;obtain ⟨a1,h1,h⟩:=aK h;obtain ⟨a2,h2,h⟩:=aK h;obtain ⟨a3,h3,h⟩:=aK h;cases h;have:=(aZ h1).2.2.2.2;have:=(aZ h2).2.2.2.2;simp only;omega
theorem uf:∀ {k:Nat} {b:Bytes} {p:Nat} {y:List (Atom×Nat)×Bytes×Nat},many oW k b p=.ok y->(∀ i z,y.1[i]?=some z->z.2=p+6 * i+5)/\y.2.2=p+6 * k
 | 0,b,p,y,h=>by
  cases h
  exact ⟨fun i z h=>by simp at h,rfl⟩
 | k+1,b,p,y,h=>by
  unfold many at h
  obtain ⟨x,h1,h⟩:=aK h
  obtain ⟨l,h2,h⟩:=aK h
  cases h
  unfold oW at h1
  obtain ⟨w,h3,h1⟩:=aK h1
  cases h1
  have e1:=qI h3
  obtain ⟨i1,i2⟩:=uf h2
  simp only at i1 i2 ⊢
  refine ⟨fun i z hz=>?_,by omega⟩
  cases i with
  | zero=>
   cases hz
   simp only
   omega
  | succ i=>
   have:=i1 i z (by simpa using hz)
   omega
theorem ug {n:Nat}:∀ {k:Nat} {had:Option (Nat×Nat)} {b:Bytes} {p:Nat} {y:List (Bond×Nat)×Bytes×Nat},gC n lR k had b p=.ok y->(∀ i z,y.1[i]?=some z->z.2=p+4 * i+3)
 | 0,had,b,p,y,h=>by
  cases h
  exact fun i z h=>by simp at h
 | k+1,had,b,p,y,h=>by
  unfold gC at h
  obtain ⟨q,h0,h⟩:=aK h
  obtain ⟨x,h1,h⟩:=aK h
  obtain ⟨l,h2,h⟩:=aK h
  cases h
  unfold lR at h1
  obtain ⟨w,h3,h1⟩:=aK h1
  cases h1
  have e0:=BH h0
  have e1:=qJ h3
  have i1:=ug h2
  simp only at i1 ⊢
  intro i z hz
  cases i with
  | zero=>
   cases hz
   simp only
   omega
  | succ i=>
   have:=i1 i z (by simpa using hz)
   omega
theorem uh:∀ {m b:Bytes} {p:Nat} {y:Bytes×Nat},iZ m b p=.ok y->y.2=p+m.length
 | [],b,p,y,h=>by cases h;rfl
 | c::m,b,p,y,h=>by
  unfold iZ at h
  obtain ⟨x,h1,h⟩:=aK h
  obtain ⟨u,h2,h⟩:=aK h
  have e:=uh h
  have:=(aZ h1).2.2.2.2
  simp only [List.length_cons]
  omega
abbrev aN:=List (Atom×Nat)×List (Bond×Nat)
def az (y:aN):Mol:=⟨y.1.map fun z=>z.1,y.2.map fun z=>z.1⟩
def wN (M:Mol) (z:(Atom×Nat)×Nat):Bool:=z.1.1.hand != 0&&!M.handed z.2
def wO (M:Mol) (z:(Bond×Nat)×Nat):Bool:=z.1.1.side != 0&&!M.sided z.2
def Ab (M:Mol) (l:List ((Bond×Nat)×Nat)):Except Fault Mol:=match l.find? (wO M) with
 | some z=>.error ⟨6,z.1.2⟩
 | none=>.ok M
def yL (M:Mol) (l:List ((Atom×Nat)×Nat)) (m:List ((Bond×Nat)×Nat)):Except Fault Mol:=match l.find? (wN M) with
 | some z=>.error ⟨4,z.1.2⟩
 | none=>Ab M m
theorem EL (M:Mol) (z:(Atom×Nat)×Nat) (l:List ((Atom×Nat)×Nat)) (m:List ((Bond×Nat)×Nat)):yL M (z::l) m=if wN M z=true then .error ⟨4,z.1.2⟩ else yL M l m:=by
 unfold yL;rw [List.find?_cons];cases wN M z<;>rfl
theorem EM (M:Mol) (z:(Bond×Nat)×Nat) (l:List ((Bond×Nat)×Nat)):Ab M (z::l)=if wO M z=true then .error ⟨6,z.1.2⟩ else Ab M l:=by
 unfold Ab;rw [List.find?_cons];cases wO M z<;>rfl
theorem yM {α:Type} (l:List α) (f:Nat->Bool) (g:α×Nat->Bool) (h:∀ i x,l[i]?=some x->f i=g (x,i)):(List.range l.length).find? f=(l.zipIdx.find? g).map (·.2):=by
 have e:List.range l.length=l.zipIdx.map (·.2):=by
  rw [List.zipIdx_map_snd,List.range'_eq_map_range];simp
 rw [e,List.find?_map];congr 1;have:∀ m:List (α×Nat),(∀ z ∈ m,l[z.2]?=some z.1)->m.find? (f ∘ fun z=>z.2)=m.find? g:=by
  intro m;induction m with
  | nil=>intro _;rfl
  | cons z m ih=>
   intro hm;rw [List.find?_cons,List.find?_cons,ih fun w hw=>hm w (by simp [hw])];have:(f ∘ fun z:α×Nat=>z.2) z=g z:=h z.2 z.1 (hm z (by simp));rw [this]
 exact this _ fun z hz=>by
  have:=List.mem_zipIdx hz;simp at this;rw [List.getElem?_eq_getElem (by omega)];exact congrArg some this.2.symm
theorem D8 (b:Bytes):judgeMol b =
   andThen (iZ MOLMARK b 0) fun m=>
   andThen (numIn 1 (fun v=>decide (v<=ATOMS)) m.1 m.2) fun n=>
   andThen (numIn 1 (fun v=>decide (v<=BONDS)) n.2.1 n.2.2) fun k=>
   andThen (many oW n.1 k.2.1 k.2.2) fun x=>
   andThen (gC n.1 lR k.1 none x.2.1 x.2.2) fun y=>
   andThen (need y.2.1.isEmpty 7 y.2.2) fun _=>yL (az (x.1,y.1)) x.1.zipIdx y.1.zipIdx:=by
 unfold judgeMol;simp only [Mb,ye,yf];refine gP rfl fun m hm=>gP rfl fun n hn=>gP rfl fun k hk=>?_;rw [D7,aW];refine gP rfl fun x hx=>?_;rw [aV,Aa,aW];show andThen (gC n.1 lR k.1 none x.2.1 x.2.2) _=_;refine gP rfl fun y hy=>?_;rw [aV];refine gP rfl fun _ _=>?_;have pl:k.2.2=6:=by
   have h1:=uh hm;have h2:=(aZ hn).2.2.2.2;have h3:=(aZ hk).2.2.2.2;have:MOLMARK.length=4:=rfl;omega
 obtain ⟨pa,pe⟩:=uf hx;have pb:=ug hy;have hlen:=m5 hx;show (match (List.range (az (x.1,y.1)).n).find? fun v=>((az (x.1,y.1)).atom v).hand != 0&&!(az (x.1,y.1)).handed v with
   | some v=>Except.error (⟨4,6+6 * v+5⟩:Fault)
   | none=>match (List.range (az (x.1,y.1)).bonds.length).find? fun j=>((az (x.1,y.1)).bonds[j]?.map Bond.side).getD 0 != 0&&!(az (x.1,y.1)).sided j with
     | some j=>.error ⟨6,6+6 * (az (x.1,y.1)).n+4 * j+3⟩
     | none=>.ok (az (x.1,y.1)))=_
 have en:(az (x.1,y.1)).n=x.1.length:=by simp [az,Mol.n]
 have eb:(az (x.1,y.1)).bonds.length=y.1.length:=by simp [az]
 rw [en,eb,yM x.1 _ (wN (az (x.1,y.1))) fun i z hz=>by
   have e:(az (x.1,y.1)).atom i=z.1:=by simp [Mol.atom,az,List.getD,hz]
   unfold wN;rw [e],yM y.1 _ (wO (az (x.1,y.1))) fun i z hz=>by
   have e:(az (x.1,y.1)).bonds[i]?=some z.1:=by simp [az,hz]
   unfold wO;rw [e];rfl]
 unfold yL Ab;cases h1:x.1.zipIdx.find? (wN (az (x.1,y.1))) with
 | some z=>
   have hm:=List.mem_zipIdx (List.mem_of_find?_eq_some h1);simp at hm;have:=pa z.2 z.1 (by rw [List.getElem?_eq_getElem (by omega)];exact congrArg some hm.2.symm);simp only [Option.map_some];rw [this,pl]
 | none=>
   simp only [Option.map_none];cases h2:y.1.zipIdx.find? (wO (az (x.1,y.1))) with
   | some z=>
     have hm:=List.mem_zipIdx (List.mem_of_find?_eq_some h2);simp at hm;have:=pb z.2 z.1 (by rw [List.getElem?_eq_getElem (by omega)];exact congrArg some hm.2.symm);simp only [Option.map_some];rw [this,pe,pl,hlen]
   | none=>rfl
def bu (z:Bond×Nat):Nat×Nat:=(z.1.a,z.1.b)
theorem yN (q:Nat×Nat) (b:Bytes) (p:Nat) (x:(Bond×Nat)×Bytes×Nat) (h:lR q b p=.ok x):bu x.1=q:=by
 unfold lR at h;obtain ⟨w,h3,h⟩:=aK h;cases h;unfold jR at h3;obtain ⟨a1,h1,h3⟩:=aK h3;obtain ⟨a2,h2,h3⟩:=aK h3;cases h3;rfl
theorem BI {M:Mol} (h:pQ M.n (M.bonds.map fun x=>(x.a,x.b))) (v:Nat):M.beside v=fJ (M.bonds.map fun x=>(x.a,x.b)) v:=by
 unfold Mol.beside;refine CJ h v _ fun w=>?_;rw [List.any_map];unfold Mol.joined Mol.bond;rw [Bool.eq_iff_iff,List.find?_isSome,List.any_eq_true];rfl
end JM
namespace JM
open Fk
abbrev o6:=List ((Nat×Nat)×Nat)
def fh (q:Nat×Nat) (v:Nat):Bool:=q.1==v||q.2==v
def jw (z:o6) (v:Nat):Nat:=(z.map fun x=>if fh x.1 v=true then x.2 else 0).sum
theorem D9 (v:Nat):jw [] v=0:=rfl
theorem l5 (x:(Nat×Nat)×Nat) (z:o6) (v:Nat):jw (x::z) v=(if fh x.1 v=true then x.2 else 0)+jw z v:=by simp [jw]
theorem vR (y z:o6) (v:Nat):jw (y++z) v=jw y v+jw z v:=by simp [jw]
def mT (bs:List (Nat×Nat)) (v:Nat):Nat:=(bs.filter fun q=>fh q v).length
theorem DA (q:Nat×Nat) (bs:List (Nat×Nat)) (v:Nat):mT (q::bs) v=(if fh q v=true then 1 else 0)+mT bs v:=by
 unfold mT;rw [List.filter_cons];cases fh q v<;>simp;omega
def Ky (z:o6):Prop:=∀ x ∈ z,1<=x.2/\x.2<=3
theorem mG:∀ {z:o6},Ky z->∀ v,mT (z.map fun x=>x.1) v<=jw z v/\jw z v<=3 * mT (z.map fun x=>x.1) v
 | [],_,v=>by simp [mT,jw]
 | x::z,h,v=>by
  have ih:=mG (z:=z) (fun y hy=>h y (by simp [hy])) v
  have hx:=h x (by simp)
  rw [List.map_cons,DA,l5]
  cases fh x.1 v with
  | true=>simp only [if_true];omega
  | false=>simp only [Bool.false_eq_true,if_false];omega
def less (s:List Int) (q:Nat×Nat) (o:Nat):List Int:=(s.modify q.1 (· - (o:Int))).modify q.2 (· - (o:Int))
theorem DB (s:List Int) (q:Nat×Nat) (o:Nat):(less s q o).length=s.length:=by simp [less]
theorem less_get {s:List Int} {q:Nat×Nat} (hq:q.1 < q.2) (o v:Nat):(less s q o)[v]?=(s[v]?).map fun x=>if fh q v=true then x - (o:Int) else x:=by
 unfold less fh;rw [List.getElem?_modify,List.getElem?_modify];by_cases h1:q.1=v
 . have h2:¬ q.2=v:=by omega
   cases s[v]?<;>simp [h1,h2]
 . by_cases h2:q.2=v
   . cases s[v]?<;>simp [h1,h2]
   . cases s[v]?<;>simp [h1,h2]
def run (s:List Int) (z:o6):List Int:=z.foldl (fun s x=>less s x.1 x.2) s
theorem lS (s:List Int) (y z:o6):run s (y++z)=run (run s y) z:=by simp [run]
theorem ME (s:List Int) (z:o6):(run s z).length=s.length:=by
 induction z generalizing s with
 | nil=>rfl
 | cons x z ih=>exact (ih _).trans (DB _ _ _)
theorem run_get:∀ {z:o6} {s:List Int} (_:∀ x ∈ z,x.1.1 < x.1.2) (v:Nat),(run s z)[v]?=(s[v]?).map fun x=>x - (jw z v:Int)
 | [],s,_,v=>by
  show s[v]?=_
  cases s[v]?<;>simp [jw]
 | x::z,s,h,v=>by
  have ih:=run_get (z:=z) (s:=less s x.1 x.2) (fun y hy=>h y (by simp [hy])) v
  show (run (less s x.1 x.2) z)[v]?=_
  rw [ih,less_get (h x (by simp)),l5]
  cases s[v]? with
  | none=>rfl
  | some u=>
   cases fh x.1 v with
   | true=>simp;omega
   | false=>simp
structure Valid (n:Nat) (S:List Int) (bs:List (Nat×Nat)) (z:o6):Prop where
 of:z.map (fun x=>x.1)=bs
 all:Ky z
 sum:∀ v,v < n->S[v]?=some (jw z v:Int)
def met (left:Int) (k:Nat):Bool:=decide ((k:Int)<=left)&&decide (left<=3 * (k:Int))
def oX (S:List Int) (bs:List (Nat×Nat)):Nat->List Int->Prop
 | 0,s=>s=S
 | k+1,s'=>∃ s q o,oX S bs k s/\bs[k]?=some q/\(1<=o/\o<=3)/\s'=less s q o/\met (s'.getD q.1 0) (mT (bs.drop (k+1)) q.1)=true/\met (s'.getD q.2 0) (mT (bs.drop (k+1)) q.2)=true
def EN (S:List Int) (bs:List (Nat×Nat)):Nat->List Int->Prop
 | 0,s=>oX S bs bs.length s
 | j+1,s=>oX S bs (bs.length - (j+1)) s/\∃ q o,bs[bs.length - (j+1)]?=some q/\(1<=o/\o<=3)/\EN S bs j (less s q o)
def Found (S:List Int) (bs:List (Nat×Nat)) (k o:Nat):Prop:=∃ s q,oX S bs k s/\bs[k]?=some q/\EN S bs (bs.length - (k+1)) (less s q o)
section
variable {n:Nat} {S:List Int} {bs:List (Nat×Nat)}
theorem oX.way:∀ {k:Nat} {s:List Int},oX S bs k s->∃ z:o6,z.map (fun x=>x.1)=bs.take k/\Ky z/\s=run S z
 | 0,s,h=>⟨[],by simp,fun x hx=>by simp at hx,h⟩
 | k+1,s',⟨s,q,o,hL,hq,ho,hs,_⟩=>by
   obtain ⟨z,h1,h2,h3⟩:=hL.way
   refine ⟨z++[(q,o)],?_,?_,?_⟩
   . rw [List.map_append,h1,List.take_add_one,hq]
     rfl
   . intro x hx
     rcases List.mem_append.mp hx with hx | hx
     . exact h2 x hx
     . rw [List.mem_singleton.mp hx];exact ho
   . rw [lS,<- h3,hs]
     rfl
theorem oX.len {k:Nat} {s:List Int} (h:oX S bs k s):s.length=S.length:=by
 obtain ⟨z,_,_,rfl⟩:=h.way;exact ME _ _
theorem o7 {α:Type} {l:List α} {k:Nat} {x:α} (h:l[k]?=some x):l.drop k=x::l.drop (k+1):=by
 obtain ⟨hl,hg⟩:=List.getElem?_eq_some_iff.mp h;rw [List.drop_eq_getElem_cons hl,hg]
theorem oX.zero (hr:∀ q ∈ bs,q.1 < q.2) (hS:∀ v x,S[v]?=some x->mT bs v=0->x=0):∀ {k:Nat} {s:List Int},oX S bs k s->∀ v x,s[v]?=some x->mT (bs.drop k) v=0->x=0
 | 0,s,h,v,x,hx,hb=>by
   rw [show s=S from h] at hx
   exact hS v x hx (by simpa using hb)
 | k+1,s',⟨s,q,o,hL,hq,ho,hs,m1,m2⟩,v,x,hx,hb=>by
   have hlt:q.1 < q.2:=hr q (List.mem_of_getElem? hq)
   by_cases t1:q.1=v
   . have e:s'.getD q.1 0=x:=by rw [List.getD,t1,hx];rfl
     rw [e,t1,hb] at m1
     unfold met at m1
     simp only [Bool.and_eq_true,decide_eq_true_eq] at m1
     omega
   . by_cases t2:q.2=v
     . have e:s'.getD q.2 0=x:=by rw [List.getD,t2,hx];rfl
       rw [e,t2,hb] at m2
       unfold met at m2
       simp only [Bool.and_eq_true,decide_eq_true_eq] at m2
       omega
     . have ht:fh q v=false:=by simp [fh,t1,t2]
       rw [hs,less_get hlt,ht] at hx
       cases hy:s[v]? with
       | none=>rw [hy] at hx;cases hx
       | some y=>
         rw [hy] at hx
         have e:y=x:=by simpa using hx
         subst e
         refine oX.zero hr hS hL v y hy ?_
         rw [o7 hq,DA,ht,hb]
         rfl
theorem EN.way:∀ {j:Nat} {s:List Int},j<=bs.length->EN S bs j s->∃ z:o6,z.map (fun x=>x.1)=bs.drop (bs.length - j)/\Ky z/\oX S bs bs.length (run s z)
 | 0,s,_,h=>⟨[],by simp,fun x hx=>by simp at hx,h⟩
 | j+1,s,hj,⟨_,q,o,hq,ho,hW⟩=>by
   obtain ⟨z,h1,h2,h3⟩:=hW.way (by omega)
   refine ⟨(q,o)::z,?_,?_,h3⟩
   . rw [List.map_cons,h1,o7 hq,show bs.length - (j+1)+1=bs.length - j by omega]
   . intro x hx
     rcases List.mem_cons.mp hx with hx | hx
     . rw [hx];exact ho
     . exact h2 x hx
theorem DC (hr:∀ q ∈ bs,q.1 < q.2) (hn:S.length=n) (hS:∀ v x,S[v]?=some x->mT bs v=0->x=0) {k o:Nat} (ho:1<=o/\o<=3) (h:Found S bs k o):∃ z,Valid n S bs z/\(z[k]?).map (fun x=>x.2)=some o:=by
 obtain ⟨s,q,hL,hq,hW⟩:=h;have hk:k < bs.length:=(List.getElem?_eq_some_iff.mp hq).1;obtain ⟨y,y1,y2,y3⟩:=hL.way;obtain ⟨z,z1,z2,z3⟩:=hW.way (by omega);have yl:y.length=k:=by
   have:=congrArg List.length y1;simp at this;omega
 have e:(y++(q,o)::z).map (fun x=>x.1)=bs:=by
   rw [List.map_append,List.map_cons,y1,z1,show bs.length - (bs.length - (k+1))=k+1 by omega];show bs.take k++q::bs.drop (k+1)=bs;rw [<- o7 hq,List.take_append_drop]
 have er:run S (y++(q,o)::z)=run (less s q o) z:=by
   rw [lS,<- y3];rfl
 have hlt:∀ x ∈ y++(q,o)::z,x.1.1 < x.1.2:=fun x hx=>hr x.1 (by rw [<- e];exact List.mem_map_of_mem hx);refine ⟨y++(q,o)::z,⟨e,?_,fun v hv=>?_⟩,?_⟩
 . intro x hx
   rcases List.mem_append.mp hx with hx | hx
   . exact y2 x hx
   . rcases List.mem_cons.mp hx with hx | hx
     . rw [hx];exact ho
     . exact z2 x hx
 . have g:=run_get (s:=S) hlt v
   have Wb:S[v]?=some S[v]:=List.getElem?_eq_getElem (by omega);rw [er,Wb] at g;have h0:S[v] - (jw (y++(q,o)::z) v:Int)=0:=z3.zero hr hS v _ g (by simp [mT]);rw [Wb];congr 1;omega
 . rw [List.getElem?_append_right (by omega),yl,Nat.sub_self]
   rfl
theorem Valid.at {z:o6} (h:Valid n S bs z) {k:Nat} {x:(Nat×Nat)×Nat} (hz:z[k]?=some x):bs[k]?=some x.1:=by
 have:=congrArg (fun l=>l[k]?) h.of;simp only [List.getElem?_map,hz] at this;exact this.symm
theorem qY (hr:∀ q ∈ bs,q.1 < q.2/\q.2 < n) (hn:S.length=n) {z:o6} (h:Valid n S bs z):∀ k,k<=bs.length->oX S bs k (run S (z.take k))
 | 0,_=>rfl
 | k+1,hk=>by
  have ih:=qY hr hn h k (by omega)
  have zl:z.length=bs.length:=by rw [<- h.of];simp
  have hz:z[k]?=some z[k]:=List.getElem?_eq_getElem (by omega)
  have hq:bs[k]?=some z[k].1:=h.at hz
  have hlt:=hr _ (List.mem_of_getElem? hq)
  have e:run S (z.take (k+1))=less (run S (z.take k)) z[k].1 z[k].2:=by
   rw [List.take_add_one,hz,lS];rfl
  have a3:=h.all z[k] (List.getElem_mem _);have hm:∀ v,v < n->met ((run S (z.take (k+1))).getD v 0) (mT (bs.drop (k+1)) v)=true:=fun v hv=>by
   have g:=run_get (s:=S) (z:=z.take (k+1)) (fun x hx=>(hr x.1 (by rw [<- h.of];exact List.mem_map_of_mem (List.mem_of_mem_take hx))).1) v;rw [h.sum v hv] at g;have c:jw z v=jw (z.take (k+1)) v+jw (z.drop (k+1)) v:=by rw [<- vR,List.take_append_drop]
   have b:=mG (z:=z.drop (k+1)) (fun x hx=>h.all x (List.mem_of_mem_drop hx)) v;rw [List.map_drop,h.of] at b;have e:(run S (z.take (k+1))).getD v 0=(jw z v:Int) - (jw (z.take (k+1)) v:Int):=by
    rw [List.getD,g];rfl
   rw [e];unfold met;simp only [Bool.and_eq_true,decide_eq_true_eq];omega
  exact ⟨_,z[k].1,z[k].2,ih,hq,a3,e,hm _ (by omega),hm _ (by omega)⟩
theorem Ac (hr:∀ q ∈ bs,q.1 < q.2/\q.2 < n) (hn:S.length=n) {z:o6} (h:Valid n S bs z):∀ j,j<=bs.length->EN S bs j (run S (z.take (bs.length - j)))
 | 0,_=>by
  have:=qY hr hn h bs.length (Nat.le_refl _)
  exact this
 | j+1,hj=>by
  have ih:=Ac hr hn h j (by omega)
  have zl:z.length=bs.length:=by rw [<- h.of];simp
  have hz:z[bs.length - (j+1)]?=some z[bs.length - (j+1)]:=List.getElem?_eq_getElem (by omega)
  have hq:bs[bs.length - (j+1)]?=some z[bs.length - (j+1)].1:=h.at hz
  refine ⟨qY hr hn h _ (by omega),_,z[bs.length - (j+1)].2,hq,h.all _ (List.getElem_mem _),?_⟩
  have e:run S (z.take (bs.length - j))=less (run S (z.take (bs.length - (j+1)))) z[bs.length - (j+1)].1 z[bs.length - (j+1)].2:=by
   rw [show bs.length - j=bs.length - (j+1)+1 by omega,List.take_add_one,hz,lS];rfl
  rw [<- e];exact ih
theorem vS (hr:∀ q ∈ bs,q.1 < q.2/\q.2 < n) (hn:S.length=n) {z:o6} (h:Valid n S bs z) {k o:Nat} (hk:(z[k]?).map (fun x=>x.2)=some o):Found S bs k o:=by
 have zl:z.length=bs.length:=by rw [<- h.of];simp
 cases hz:z[k]? with
 | none=>rw [hz] at hk;cases hk
 | some x=>
  rw [hz] at hk;have ho:x.2=o:=by simpa using hk
  have hlt:k < z.length:=(List.getElem?_eq_some_iff.mp hz).1;refine ⟨run S (z.take k),x.1,qY hr hn h k (by omega),by rw [<- h.of,List.getElem?_map,hz];rfl,?_⟩;have w:=Ac hr hn h (bs.length - (k+1)) (by omega);rw [show bs.length - (bs.length - (k+1))=k+1 by omega,List.take_add_one,hz,lS] at w;rw [<- ho];exact w
end
end JM
namespace JM
open Fk
theorem Ae (l:List Nat) (v n i:Nat):(addTo l v n)[i]?=(l[i]?).map fun x=>if i=v then x+n else x:=by
 unfold addTo;rw [List.getElem?_map,List.getElem?_zipIdx];cases l[i]?<;>simp
theorem Af (l:List Nat) (v n:Nat):(addTo l v n).length=l.length:=by simp [addTo]
def qK (x:Bond):Nat×Nat:=(x.a,x.b)
theorem DE {part:List Nat} {x:Bond} (hx:x.a < x.b) (o v:Nat) (hv:v < part.length):(addTo (addTo part x.a o) x.b o).getD v 0=part.getD v 0+(if fh (qK x) v=true then o else 0):=by
 have e:part[v]?=some part[v]:=List.getElem?_eq_getElem hv;rw [List.getD,List.getD,Ae,Ae,e];unfold fh qK;by_cases h1:x.a=v
 . have h2:¬ v=x.b:=by omega
   simp [h1,h2]
 . by_cases h2:x.b=v
   . have h3:¬ v=x.a:=by omega
     simp [h2,h3]
   . have h3:¬ v=x.a:=by omega
     have h4:¬ v=x.b:=by omega
     simp [h1,h2,h3,h4]
theorem x6 {α β:Type}:∀ (l:List α) (r:List β),l.length=r.length->(l.zip r).map (fun x=>x.1)=l
 | [],[],_=>rfl
 | [],_::_,h=>by simp at h
 | _::_,[],h=>by simp at h
 | a::l,b::r,h=>by simp [x6 l r (by simpa using h)]
theorem uo {α β:Type}:∀ (l:List α) (r:List β),l.length=r.length->(l.zip r).map (fun x=>x.2)=r
 | [],[],_=>rfl
 | [],_::_,h=>by simp at h
 | _::_,[],h=>by simp at h
 | a::l,b::r,h=>by simp [uo l r (by simpa using h)]
theorem BJ {l:List (Nat×Nat)} {r:List Nat} (h:∀ o ∈ r,1<=o/\o<=3):Ky (l.zip r):=fun x hx=>h x.2 (List.of_mem_zip hx).2
theorem Px (l:List Bond) (v:Nat):mT (l.map qK) v=(l.filter fun x=>x.at_ v).length:=by
 unfold mT;rw [List.filter_map,List.length_map];rfl
theorem mU (want:List Nat):∀ (l:List Bond) (part:List Nat),part.length=want.length->(∀ x ∈ l,x.a < x.b/\x.b < want.length)->∀ r,r ∈ ordersFor want l part ↔
   (r.length=l.length/\(∀ o ∈ r,1<=o/\o<=3)/\∀ v,v < want.length->want.getD v 0=part.getD v 0+jw ((l.map qK).zip r) v)
 | [],part,hp,_,r=>by
   unfold ordersFor
   by_cases h:part=want
   . subst h
     simp [jw]
     rintro rfl
     simp
   . have:(part==want)=false:=by simpa using h
     rw [this]
     simp only [Bool.false_eq_true,if_false,List.not_mem_nil,false_iff]
     rintro ⟨h1,_,h3⟩
     have hr:r=[]:=List.eq_nil_of_length_eq_zero (by simpa using h1)
     subst hr
     refine h (List.ext_getElem? fun v=>?_)
     by_cases hv:v < want.length
     . have:=h3 v hv
       simp only [List.map_nil,List.zip_nil_left,D9] at this
       rw [List.getElem?_eq_getElem hv,List.getElem?_eq_getElem (by omega)]
       rw [List.getD,List.getD,List.getElem?_eq_getElem hv,List.getElem?_eq_getElem (show v < part.length by omega)] at this
       simp only [Option.getD_some] at this
       rw [show part[v]=want[v] by omega]
     . rw [List.getElem?_eq_none (by omega),List.getElem?_eq_none (by omega)]
 | x::l,part,hp,hx,r=>by
   have hxa:=hx x (by simp)
   have hl:∀ y ∈ l,y.a < y.b/\y.b < want.length:=fun y hy=>hx y (by simp [hy])
   unfold ordersFor
   rw [List.mem_flatMap]
   have RP:∀ o,(addTo (addTo part x.a o) x.b o).length=want.length:=fun o=>by rw [Af,Af,hp]
   constructor
   . rintro ⟨o,ho,hr⟩
     have ho':1<=o/\o<=3:=by
       simp at ho;omega
     simp only at hr;split at hr
     . obtain ⟨r',hr',rfl⟩:=List.mem_map.mp hr
       obtain ⟨h1,h2,h3⟩:=(mU want l _ (RP o) hl r').mp hr';refine ⟨by simp [h1],fun y hy=>?_,fun v hv=>?_⟩
       . rcases List.mem_cons.mp hy with hy | hy
         . rw [hy];exact ho'
         . exact h2 y hy
       . have:=h3 v hv
         rw [DE hxa.1 o v (by omega)] at this;rw [List.map_cons,List.zip_cons_cons,l5];dsimp only;omega
     . simp at hr
   . rintro ⟨h1,h2,h3⟩
     cases r with
     | nil=>simp at h1
     | cons o r'=>
       have ho:=h2 o (by simp);have h3':∀ v,v < want.length->want.getD v 0=(addTo (addTo part x.a o) x.b o).getD v 0+jw ((l.map qK).zip r') v:=fun v hv=>by
         have:=h3 v hv;rw [List.map_cons,List.zip_cons_cons,l5] at this;rw [DE hxa.1 o v (by omega)];dsimp only at this;omega
       have hlen:r'.length=l.length:=by simpa using h1
       have a3:∀ y ∈ r',1<=y/\y<=3:=fun y hy=>h2 y (by simp [hy]);have can:∀ v,v < want.length->canStill (addTo (addTo part x.a o) x.b o) want l v=true:=fun v hv=>by
         have b:=mG (z:=(l.map qK).zip r') (BJ a3) v;rw [x6 _ _ (by simp [hlen]),Px] at b;have:=h3' v hv;unfold canStill;simp only [Bool.and_eq_true,decide_eq_true_eq];omega
       refine ⟨o,by simp;omega,?_⟩;simp only;rw [can x.a (by omega),can x.b hxa.2];simp only [Bool.and_self,if_true];exact List.mem_map.mpr ⟨r',(mU want l _ (RP o) hl r').mpr ⟨hlen,a3,h3'⟩,rfl⟩
theorem DF:∀ (l:List Nat) (a:Nat),l.foldl (· + ·) a=a+l.sum
 | [],a=>by simp
 | x::l,a=>by rw [List.foldl_cons,DF l,List.sum_cons];omega
theorem FT:∀ (l:List Bond) (v:Nat),((l.filter fun x=>x.at_ v).map Bond.order).sum=jw ((l.map qK).zip (l.map Bond.order)) v
 | [],v=>rfl
 | x::l,v=>by
  have ih:=FT l v
  rw [List.map_cons,List.map_cons,List.zip_cons_cons,l5,<- ih,List.filter_cons]
  show _=(if x.at_ v=true then x.order else 0)+_
  cases x.at_ v<;>simp
section
variable {M:Mol}
def b5 (M:Mol):List (Nat×Nat):=M.bonds.map qK
def cS (M:Mol):List Int:=M.sums.map fun (n:Nat)=>(n:Int)
theorem DG (v:Nat):M.sum v=jw ((b5 M).zip M.orders) v:=by
 unfold Mol.sum;rw [DF,Nat.zero_add];exact FT _ _
theorem iV {v:Nat} (hv:v < M.n):M.sums[v]?=some (M.sum v):=by
 unfold Mol.sums;rw [List.getElem?_map,List.getElem?_range hv];rfl
theorem uq:M.sums.length=M.n:=by simp [Mol.sums]
theorem qZ:(cS M).length=M.n:=by simp [cS,uq]
theorem vd {v:Nat} (hv:v < M.n):(cS M)[v]?=some (M.sum v:Int):=by
 unfold cS;rw [List.getElem?_map,iV hv];rfl
structure oY (M:Mol):Prop where
 ends:∀ q ∈ b5 M,q.1 < q.2/\q.2 < M.n
 Kz:∀ x ∈ M.bonds,1<=x.order/\x.order<=3
theorem oY.own (g:oY M):Valid M.n (cS M) (b5 M) ((b5 M).zip M.orders):=by
 refine ⟨x6 _ _ (by simp [b5,Mol.orders]),BJ fun o ho=>?_,fun v hv=>by rw [vd hv,DG]⟩;obtain ⟨x,hx,rfl⟩:=List.mem_map.mp ho;exact g.Kz x hx
theorem oY.zero (g:oY M):∀ v x,(cS M)[v]?=some x->mT (b5 M) v=0->x=0:=fun v x hx hb=>by
 have hv:v < M.n:=by rw [<- qZ];exact (List.getElem?_eq_some_iff.mp hx).1
 rw [g.own.sum v hv] at hx
 have b:=mG g.own.all v
 rw [g.own.of,hb] at b
 have:=Option.some.inj hx
 omega
def ur (M:Mol):List (List Nat):=M.redrawings.map Mol.orders
theorem qL {r:List Nat} (h:r.length=M.bonds.length):(M.ordered r).orders=r:=by
 unfold Mol.ordered Mol.orders;simp only [List.map_map];show (M.bonds.zip r).map (fun x=>x.2)=r;exact uo _ _ h.symm
theorem oY.rows (g:oY M) (r:List Nat):r ∈ ur M ↔ r.length=M.bonds.length/\Valid M.n (cS M) (b5 M) ((b5 M).zip r):=by
 have e:∀ r',r' ∈ ordersFor M.sums M.bonds (M.sums.map fun _=>0) ↔ (r'.length=M.bonds.length/\(∀ o ∈ r',1<=o/\o<=3)/\∀ v,v < M.sums.length->M.sums.getD v 0=(M.sums.map fun _=>0).getD v 0+jw ((M.bonds.map qK).zip r') v):=
   mU _ _ _ (by simp) fun x hx=>by rw [uq];exact g.ends (qK x) (List.mem_map_of_mem hx)
 have z:∀ v,(M.sums.map fun _=>0).getD v 0=0:=fun v=>by
   rw [List.getD,List.getElem?_map];cases M.sums[v]?<;>rfl
 constructor
 . intro h
   obtain ⟨N,hN,rfl⟩:=List.mem_map.mp h;obtain ⟨r',hr',rfl⟩:=List.mem_map.mp hN;obtain ⟨h1,h2,h3⟩:=(e r').mp hr';rw [qL h1];refine ⟨h1,x6 _ _ (by simp [b5,h1]),BJ h2,fun v hv=>?_⟩;have:=h3 v (by rw [uq];exact hv);rw [z,List.getD,iV hv] at this;rw [vd hv];simp only [Option.getD_some] at this;rw [this];simp [b5]
 . rintro ⟨h1,h2⟩
   refine List.mem_map.mpr ⟨M.ordered r,List.mem_map.mpr ⟨r,(e r).mpr ⟨h1,fun o ho=>?_,fun v hv=>?_⟩,rfl⟩,qL h1⟩
   . have e2:=uo (b5 M) r (by simp [b5,h1])
     rw [<- e2] at ho;obtain ⟨x,hx,rfl⟩:=List.mem_map.mp ho;exact h2.all x hx
   . rw [uq] at hv
     have:=h2.sum v hv;rw [vd hv] at this;rw [z,List.getD,iV hv];have:=Option.some.inj this;simp only [Option.getD_some];show M.sum v=0+jw ((b5 M).zip r) v;omega
theorem oY.found (g:oY M) {k o:Nat} (hk:k < M.bonds.length) (ho:1<=o/\o<=3):Found (cS M) (b5 M) k o ↔ ∃ r ∈ ur M,r[k]?=some o:=by
 constructor
 . intro h
   obtain ⟨z,hz,hk'⟩:=DC (fun q hq=>(g.ends q hq).1) qZ g.zero ho h;have zl:z.length=M.bonds.length:=by
     have:=congrArg List.length hz.of;simpa [b5] using this
   have ez:(b5 M).zip (z.map fun x=>x.2)=z:=by
     rw [<- hz.of,List.zip_map'];simp
   refine ⟨z.map fun x=>x.2,(g.rows _).mpr ⟨by simp [zl],by rw [ez];exact hz⟩,?_⟩;rw [List.getElem?_map];exact hk'
 . rintro ⟨r,hr,hk'⟩
   obtain ⟨h1,h2⟩:=(g.rows r).mp hr;refine vS g.ends qZ h2 ?_;have e2:=uo (b5 M) r (by simp [b5,h1]);rw [<- List.getElem?_map,e2];exact hk'
noncomputable def fG (P:Nat->Prop):Nat:=by
 classical exact (if P 1 then 1 else 0)+(if P 2 then 2 else 0)+(if P 3 then 4 else 0)
theorem HR (P:Nat->Prop):fG P=2 ↔ ¬ P 1/\P 2/\¬ P 3:=by
 unfold fG;by_cases h1:P 1<;>by_cases h2:P 2<;>by_cases h3:P 3<;>simp [h1,h2,h3]
theorem oY.fixed (g:oY M) {k:Nat} (hk:k < M.bonds.length):(M.fixedAt k==2)=decide (fG (Found (cS M) (b5 M) k)=2):=by
 have hx:M.bonds[k]?=some M.bonds[k]:=List.getElem?_eq_getElem hk;have own:M.orders ∈ ur M:=(g.rows _).mpr ⟨by simp [Mol.orders],g.own⟩;have ok:M.orders[k]?=some M.bonds[k].order:=by unfold Mol.orders;rw [List.getElem?_map,hx];rfl
 have e:M.fixedAt k=if ((ur M).all fun r=>r[k]?==some M.bonds[k].order)=true then M.bonds[k].order else 0:=by
   unfold Mol.fixedAt Mol.fixed;simp only;rw [List.getD,List.getElem?_map,List.getElem?_zipIdx,hx];simp only [Option.map_some,Option.getD_some,Nat.zero_add];rfl
 rw [Bool.eq_iff_iff,beq_iff_eq,decide_eq_true_eq,HR,g.found hk (by omega),g.found hk (by omega),g.found hk (by omega),e];have b3:=g.Kz _ (List.getElem_mem hk);constructor
 . intro h
   split at h
   . rename_i ha
     rw [List.all_eq_true] at ha;have ha':∀ r ∈ ur M,r[k]?=some 2:=fun r hr=>by
       have:=ha r hr;rw [h] at this;simpa using this
     have no:∀ o,o ≠ 2->¬ ∃ r,r ∈ ur M/\r[k]?=some o:=fun o ho ⟨r,hr,q⟩=>by
       rw [ha' r hr] at q;exact ho (Option.some.inj q).symm
     exact ⟨no 1 (by decide),⟨_,own,by rw [ok,h]⟩,no 3 (by decide)⟩
   . omega
 . rintro ⟨n1,_,n3⟩
   have all2:∀ r ∈ ur M,r[k]?=some 2:=fun r hr=>by
     obtain ⟨h1,h2⟩:=(g.rows r).mp hr;have hrk:r[k]?=some r[k]:=List.getElem?_eq_getElem (by omega);have:1<=r[k]/\r[k]<=3:=by
       have e2:=uo (b5 M) r (by simp [b5,h1]);have hm:r[k] ∈ ((b5 M).zip r).map fun x=>x.2:=e2.symm ▸ List.getElem_mem (by omega);obtain ⟨x,hx',q⟩:=List.mem_map.mp hm;rw [<- q];exact h2.all x hx'
     have c1:r[k] ≠ 1:=fun q=>n1 ⟨r,hr,by rw [hrk,q]⟩;have c3:r[k] ≠ 3:=fun q=>n3 ⟨r,hr,by rw [hrk,q]⟩;rw [hrk,show r[k]=2 by omega]
   have o2:M.bonds[k].order=2:=by
     have:=all2 _ own;rw [ok] at this;exact Option.some.inj this
   rw [if_pos,o2];rw [List.all_eq_true];intro r hr;rw [all2 r hr,o2];rfl
end
end JM
namespace MP
open PySem PySem.Spec PyProof.Rows L2
open XL (cK)
open Fk (Fault Bytes numIn need andThen Atom Bond Mol)
def RQ (a:Atom):List (Str×V):=[("element",.int (a.element:Int)),("isotope",.int (a.isotope:Int)),("charge",.int (a.charge+4)),("hydrogens",.int (a.hydrogens:Int)),("hand",.int (a.hand:Int))]
def RT (x:Bond):List (Str×V):=[("a",.int (x.a:Int)),("b",.int (x.b:Int)),("order",.int (x.order:Int)),("side",.int (x.side:Int))]
def jx (C:Addr):mQ (Atom×Nat):=fun D H v z=>∃ o dx,v=.ref o/\D o/\H o=some (.ins C dx (RQ z.1))
theorem jx.ok (C:Addr):qF (jx C):=⟨fun ⟨o,dx,e,d,h⟩ k=>⟨o,dx,e,d,k _ _ d h⟩,fun ⟨o,dx,e,d,h⟩ k=>⟨o,dx,e,k _ d,h⟩⟩
def jy (C:Addr):mQ (Bond×Nat):=fun D H v z=>∃ o dx,v=.ref o/\D o/\H o=some (.ins C dx (RT z.1))
theorem jy.ok (C:Addr):qF (jy C):=⟨fun ⟨o,dx,e,d,h⟩ k=>⟨o,dx,e,d,k _ _ d h⟩,fun ⟨o,dx,e,d,h⟩ k=>⟨o,dx,e,k _ d,h⟩⟩
variable {P:Program} {w:World} {K:Zqq} {mg:Str->Option Value} {base:Heap} {t:Ad}
section
def K1 (C:Addr):Sp:=fun vs H Q _=>∃ (o dx:Addr) (a:Atom),vs=[.ref o,.int (a.element:Int),.int (a.isotope:Int),.int (a.charge+4),.int (a.hydrogens:Int),.int (a.hand:Int)]/\H o=some (.ins C dx []) /\
 ∀ H',H' o=some (.ins C dx (RQ a))->iP [o] H H'->Q .non H'
theorem HS:aM ["self","element","isotope","charge","hydrogens","hand"] ["self","element","isotope","charge","hydrogens","hand"] (aF pU):=mL (by decide +kernel)
theorem HU (T:Txt K mg t):bI P w K mg base mr 1 t.gj t.jS ["self","element","isotope","charge","hydrogens","hand"] (K1 t.bX):=by
 refine T.jZ.ok HS (fun vs H Q E h=>?_) (fun cdv A outer s H vs Q E hr h=>?_)
 . obtain ⟨o,dx,a,rfl,_⟩:=h
   rfl
 . obtain ⟨o,dx,a,rfl,h0,k⟩:=h
   refine ⟨_,aq (fP (pv 0) (pv 1) rfl) (aq (fP (pv 0) (pv 2) rfl) (aq (fP (pv 0) (pv 3) rfl) (aq (fP (pv 0) (pv 4) rfl) (aE (fP (pv 0) (pv 5) rfl))))),?_⟩;refine ⟨_,rfl,_,rfl,o,_,dx,_,rfl,h0,T.jd,T.gf,(by show 0 < 1000;decide),?_⟩;refine ⟨_,rfl,_,rfl,o,_,dx,_,rfl,ai,T.jd,T.gg,(by show 1 < 1000;decide),?_⟩;refine ⟨_,rfl,_,rfl,o,_,dx,_,rfl,ai,T.jd,T.gQ,(by show 2 < 1000;decide),?_⟩;refine ⟨_,rfl,_,rfl,o,_,dx,_,rfl,ai,T.jd,T.eB,(by show 3 < 1000;decide),?_⟩;refine ⟨_,rfl,_,rfl,o,_,dx,_,rfl,ai,T.jd,T.kj,(by show 4 < 1000;decide),?_⟩;refine k _ ai fun b u e n=>?_;have nb:b ≠ o:=by simpa using n
   simp only [kY];rw [ak nb];exact e
def K2 (C:Addr):Sp:=fun vs H Q _=>∃ (o dx p:Addr) (x:Bond),vs=[.ref o,.ref p,.int (x.order:Int),.int (x.side:Int)]/\H o=some (.ins C dx []) /\
 H p=some (.tup [.int (x.a:Int),.int (x.b:Int)])/\∀ H',H' o=some (.ins C dx (RT x))->iP [o] H H'->Q .non H'
theorem HV:aM ["self","pair","order","side"] ["self","pair","order","side"] (aF pV):=mL (by decide +kernel)
theorem HW (T:Txt K mg t):bI P w K mg base mr 1 t.gm t.jT ["self","pair","order","side"] (K2 t.cB):=by
 refine T.kg.ok HV (fun vs H Q E h=>?_) (fun cdv A outer s H vs Q E hr h=>?_)
 . obtain ⟨o,dx,p,x,rfl,_⟩:=h
   rfl
 . obtain ⟨o,dx,p,z,rfl,h0,hp,k⟩:=h
   refine ⟨_,aq (fP (pv 0) (fQ A4 (pv 1) aT (fun _ _=>rfl)) rfl) (aq (fP (pv 0) (fQ A4 (pv 1) aT (fun _ _=>rfl)) rfl) (aq (fP (pv 0) (pv 2) rfl) (aE (fP (pv 0) (pv 3) rfl)))),?_⟩;have po:p ≠ o:=kM hp h0 (by intro z;cases z);refine ⟨_,rfl,Th (j0.of hp) rfl ⟨_,rfl,o,_,dx,_,rfl,h0,T.iO,T.ju,(by show 0 < 1000;decide),?_⟩⟩;refine ⟨_,rfl,Th (j0.of (by rw [ak po];exact hp)) rfl ⟨_,rfl,o,_,dx,_,rfl,ai,T.iO,T.jv,(by show 1 < 1000;decide),?_⟩⟩;refine ⟨_,rfl,_,rfl,o,_,dx,_,rfl,ai,T.iO,T.iH,(by show 2 < 1000;decide),?_⟩;refine ⟨_,rfl,_,rfl,o,_,dx,_,rfl,ai,T.iO,T.ko,(by show 3 < 1000;decide),?_⟩;refine k _ ai fun b u e n=>?_;have nb:b ≠ o:=by simpa using n
   simp only [kY];rw [ak nb];exact e
theorem ve:aM ["reader","element","isotope","charge","hydrogens","hand"] ["reader"] (aF pX):=mL (by decide +kernel)
theorem Py (T:Txt K mg t):bI P w K mg base (rB P w) 6 t.fC t.jV ["reader"] (Kq K t.aB t.aH JM.oW (jx t.bX)):=by
 have GB:=@oz P w K mg base t T;have GI:=@HU P w K mg base t T;obtain ⟨Q0,g1⟩:=T.qt;obtain ⟨Tj,g2⟩:=T.qu;obtain ⟨VQ,g3⟩:=T.rR;obtain ⟨Yj,g4⟩:=T.nB;obtain ⟨VO,g5⟩:=T.vO;refine T.je.IA ve (fun vs H Q E h=>?_) (fun cdv A outer s H vs Q E hr h=>?_)
 . obtain ⟨r,x,rfl,_⟩:=h
   rfl
 . obtain ⟨r,x,rfl,R,bS⟩:=h
   have hr2:cU 2 _:=hr.mono (by decide);have IB:cU 5 _:=hr.mono (by decide);refine ⟨_,aq (aQ (i:=1) ve.nd rfl (Or.inl rfl) (bM (pv 0) T.aJ T.aP GB IB T.aO .nil fL (af aT (af aT (af (b9 rfl g1 (v:=.int 118) ⟨_,rfl⟩) ay)))))
     (aq (aQ (i:=2) ve.nd rfl (Or.inl rfl) (bM (pv 0) T.aJ T.aP GB IB T.aO .nil fL (af aT (af aT (af (b9 rfl g2 (v:=.int 500) ⟨_,rfl⟩) ay)))))
     (aq (aQ (i:=3) ve.nd rfl (Or.inl rfl) (bM (pv 0) T.aJ T.aP GB IB T.aO .nil fL (af aT (af aT (af (b9 rfl g3 (v:=.int 8) ⟨_,rfl⟩) ay)))))
     (aq (aQ (i:=4) ve.nd rfl (Or.inl rfl) (bM (pv 0) T.aJ T.aP GB IB T.aO .nil fL (af aT (af aT (af (b9 rfl g4 (v:=.int 7) ⟨_,rfl⟩) ay)))))
     (aq (aQ (i:=5) ve.nd rfl (Or.inl rfl) (bM (pv 0) T.aJ T.aP GB IB T.aO .nil fL (af aT (af aT (af (b9 rfl g5 (v:=.int 2) ⟨_,rfl⟩) ay)))))
     (aE (bC (sS T.JI GI hr2 rfl T.JH T.vA .nil cZ (af (pv 1) (af (pv 2) (af (pv 3) (af (pv 4) (af (pv 5) ay)))))))))))),?_⟩
   unfold JM.oW JM.lB at bS;simp only [JM.aW] at bS;obtain ⟨d0,e0⟩:=R.obj;refine ⟨_,rfl,r,d0,_,rfl,e0,rfl,?_⟩;refine ⟨r,1,1,118,_,rfl,R,.inl rfl,mF.good (g':=fun v=>decide (1<=v)&&decide (v<=Fk.ELEMENTS)) (fun v=>by rw [Bool.eq_iff_iff];simp only [Bool.and_eq_true,decide_eq_true_eq];unfold Fk.ELEMENTS;omega) (bS.andThen'.mono fun y1 hy1 bS H1 R1 F1=>?_)⟩;obtain ⟨d1,e1⟩:=R1.obj;refine ⟨_,rfl,r,d1,_,rfl,e1,rfl,?_⟩;refine ⟨r,2,0,500,_,rfl,R1,.inr rfl,mF.good (g':=fun v=>decide (v<=Fk.ISOTOPE)) (fun v=>by rw [Bool.eq_iff_iff];simp only [Bool.and_eq_true,decide_eq_true_eq];unfold Fk.ISOTOPE;omega) (bS.andThen'.mono fun y2 RE bS H2 R2 F2=>?_)⟩;obtain ⟨d2,e2⟩:=R2.obj;refine ⟨_,rfl,r,d2,_,rfl,e2,rfl,?_⟩;refine ⟨r,1,0,8,_,rfl,R2,.inl rfl,mF.good (g':=fun v=>decide (v<=8)) (fun v=>by rw [Bool.eq_iff_iff];simp only [Bool.and_eq_true,decide_eq_true_eq];omega) (bS.andThen'.mono fun y3 Zw bS H3 R3 F3=>?_)⟩;obtain ⟨d3,e3⟩:=R3.obj;refine ⟨_,rfl,r,d3,_,rfl,e3,rfl,?_⟩;refine ⟨r,1,0,7,_,rfl,R3,.inl rfl,mF.good (g':=fun v=>decide (v<=7)) (fun v=>by rw [Bool.eq_iff_iff];simp only [Bool.and_eq_true,decide_eq_true_eq];omega) (bS.andThen'.mono fun y4 VY bS H4 R4 F4=>?_)⟩;obtain ⟨d4,e4⟩:=R4.obj;refine ⟨_,rfl,r,d4,_,rfl,e4,rfl,?_⟩;refine ⟨r,1,0,2,_,rfl,R4,.inl rfl,mF.good (g':=fun v=>decide (v<=2)) (fun v=>by rw [Bool.eq_iff_iff];simp only [Bool.and_eq_true,decide_eq_true_eq];omega) (bS.andThen'.mono fun y5 UO bS H5 R5 F5=>?_)⟩;obtain ⟨d5,e5⟩:=R5.obj;have F:iP [r] H H5:=(((F1.trans F2).trans F3).trans F4).trans F5;refine ⟨_,rfl,_,rfl,_,rfl,_,rfl,_,rfl,fun o dx no nd ne=>?_⟩;refine ⟨o,dx,⟨y1.1,y2.1,(y3.1:Int) - 4,y4.1,y5.1⟩,?_,ai,fun H6 h6 F6=>⟨rfl,?_⟩⟩
   . simp
   . have F7:iP [] H5 H6:=iP.made no nd F6
     exact bS H6 (.ref o) (R5.stay F7 (by simp) (by simp) (by simp) (by simp)) (F.trans (F7.mono (by simp))) ⟨o,dx,rfl,F.fresh e5 no,h6⟩
theorem EO:aM ["reader","pair","order","side"] ["reader","pair"] (aF pZ):=mL (by decide +kernel)
theorem Pz (T:Txt K mg t):bI P w K mg base (rB P w) 6 t.fD t.jW ["reader","pair"] (EI K t.aB t.aH JM.lR (jy t.cB)):=by
 have GB:=@oz P w K mg base t T;have GI:=@HW P w K mg base t T;obtain ⟨Q0,g1⟩:=T.mP;obtain ⟨Tj,g2⟩:=T.jK;obtain ⟨VQ,g3⟩:=T.vQ;refine T.jf.IA EO (fun vs H Q E h=>?_) (fun cdv A outer s H vs Q E hr h=>?_)
 . obtain ⟨r,p,q,x,rfl,_⟩:=h
   rfl
 . obtain ⟨r,p,q,x,rfl,R,hp,bS⟩:=h
   have hr2:cU 2 _:=hr.mono (by decide);refine ⟨_,aq (aQ (i:=2) EO.nd rfl (Or.inl rfl) (bM (pv 0) T.aJ T.aP GB hr T.aO .nil fL (af aT (af (b9 rfl g1 (v:=.int 1) ⟨_,rfl⟩) (af (b9 rfl g2 (v:=.int 3) ⟨_,rfl⟩) ay)))))
     (aq (aQ (i:=3) EO.nd rfl (Or.inl rfl) (bM (pv 0) T.aJ T.aP GB hr T.aO .nil fL (af aT (af aT (af (b9 rfl g3 (v:=.int 2) ⟨_,rfl⟩) ay)))))
     (aE (bC (sS T.JK GI hr2 rfl T.JJ T.vC .nil cZ (af (pv 1) (af (pv 2) (af (pv 3) ay))))))),?_⟩
   unfold JM.lR JM.jR at bS;simp only [JM.aW] at bS;obtain ⟨d0,e0⟩:=R.obj;have pr:p ≠ r:=kM hp e0 (by intro z;cases z);refine ⟨_,rfl,r,d0,_,rfl,e0,rfl,?_⟩;refine ⟨r,1,1,3,_,rfl,R,.inl rfl,mF.good (g':=fun v=>decide (1<=v)&&decide (v<=3)) (fun v=>by rw [Bool.eq_iff_iff];simp only [Bool.and_eq_true,decide_eq_true_eq];omega) (bS.andThen'.mono fun y1 hy1 bS H1 R1 F1=>?_)⟩;obtain ⟨d1,e1⟩:=R1.obj;refine ⟨_,rfl,r,d1,_,rfl,e1,rfl,?_⟩;refine ⟨r,1,0,2,_,rfl,R1,.inl rfl,mF.good (g':=fun v=>decide (v<=2)) (fun v=>by rw [Bool.eq_iff_iff];simp only [Bool.and_eq_true,decide_eq_true_eq];omega) (bS.andThen'.mono fun y2 RE bS H2 R2 F2=>?_)⟩;obtain ⟨d2,e2⟩:=R2.obj;have F:iP [r] H H2:=F1.trans F2;have hp2:=F p _ hp (by simpa using pr);refine ⟨_,rfl,_,rfl,_,rfl,fun o dx no nd ne=>?_⟩;refine ⟨o,dx,p,⟨q.1,q.2,y1.1,y2.1⟩,rfl,ai,?_,fun H5 h5 F5=>⟨rfl,?_⟩⟩
   . rw [ak (au hp2 no),ak (au hp2 nd)];exact hp2
   . have F6:iP [] H2 H5:=iP.made no nd F5
     exact bS H5 (.ref o) (R2.stay F6 (by simp) (by simp) (by simp) (by simp)) (F.trans (F6.mono (by simp))) ⟨o,dx,rfl,F.fresh e2 no,h5⟩
end
end MP
namespace L2
open PySem PySem.Spec PyProof.Rows
section
variable {X:Cx}
def RU (K:Zqq):V->V->Hp->VK->Prop:=fun o i H Q=>∃ (p:Addr) (xs:List V) (j:Nat) (v:V),o=.ref p/\i=.int (j:Int)/\c8 K H p xs/\xs[j]?=some v/\Q v H
theorem uu:QF X (RU X.K):=by
 intro pins s σ H o i ov iv Q I ro ri h;obtain ⟨p,xs,j,z,rfl,rfl,hq,he,q⟩:=h;cases ro;obtain ⟨t,rfl⟩:=ri;obtain ⟨its,r,pl,hz⟩:=I.list hq;obtain ⟨w,ew,rw'⟩:=r.get he;have hl:=r.length;have hn:=uH;have hj:j < xs.length:=(List.getElem?_eq_some_iff.mp he).1;exact wpAny_getItem_list pl.isList (by omega) (by omega) (by simpa using ew) ⟨z,H,I,rw',q⟩
theorem x8 {K0:Zqq} {e:Expr} {f:Str} {pos:Pos} {ta:TE} (hK:X.K=K0) (he:PE X e ta) (hb:attributeBase e f X.env (eval e X.env)=eval e X.env):PE X (.Attribute e f pos) (QO K0 ta f):=by
 rw [<- hK];exact aL he hb
theorem rf {n j:Nat} (h:j < n):LG n (j:Int)=some j:=by
 unfold LG;rw [if_pos (by omega),if_pos (by omega)];simp
end
end L2
namespace MP
open PySem PySem.Spec PyProof.Rows L2
open XL (cK)
open Fk (Fault Bytes numIn need andThen Atom Bond Mol)
def vI (l:List Int):List V:=l.map V.int
variable {P:Program} {w:World} {K:Zqq} {mg:Str->Option Value} {base:Heap} {t:Ad}
section
def RV:Sp:=fun vs H Q _=>∃ o:Nat,vs=[.int (o:Int)]/\1<=o/\o<=3/\Q (.int ((2 ^ (o - 1):Nat):Int)) H
theorem PF:aM ["order"] ["order"] (aF pW):=mL (by decide +kernel)
theorem K3 (T:Txt K mg t):bI P w K mg base mr 1 t.ig t.jU ["order"] RV:=by
 refine T.i8.ok PF (fun vs H Q E h=>?_) (fun cdv A outer s H vs Q E hr h=>?_)
 . obtain ⟨o,rfl,_⟩:=h
   rfl
 . obtain ⟨o,rfl,h1,h3,k⟩:=h
   refine ⟨_,aE (bC (gX IY aT (gX sf (pv 0) aT))),?_⟩;refine ⟨_,rfl,_,_,rfl,rfl,_,_,rfl,rfl,⟨by omega,by omega,by decide⟩,?_⟩;have e:(1:Int) * 2 ^ ((o:Int) - 1).toNat=((2 ^ (o - 1):Nat):Int):=by
     rw [show ((o:Int) - 1).toNat=o - 1 by omega];simp
   show Q (.int (1 * 2 ^ ((o:Int) - 1).toNat)) H;rw [e];exact k
def RW:Sp:=fun vs H Q _=>∃ (l:Int) (k:Nat),vs=[.int l,.int (k:Int)]/\k < 1000/\Q (.bl (JM.met l k)) H
theorem PJ:aM ["left","bonds"] ["left","bonds"] (aF nX):=mL (by decide +kernel)
theorem PK (T:Txt K mg t):bI P w K mg base mr 1 t.gx t.jq ["left","bonds"] RW:=by
 obtain ⟨Q0,g1⟩:=T.mP;obtain ⟨Tj,g2⟩:=T.jK;refine T.g8.ok PJ (fun vs H Q E h=>?_) (fun cdv A outer s H vs Q E hr h=>?_)
 . obtain ⟨o,k,rfl,_⟩:=h
   rfl
 . obtain ⟨l,n,rfl,hn,k⟩:=h
   refine ⟨_,aE (bC (Ja Fq Fq (gX En (b9 rfl g1 (v:=.int 1) ⟨_,rfl⟩) (pv 1)) (pv 0) (gX En (b9 rfl g2 (v:=.int 3) ⟨_,rfl⟩) (pv 1)))),?_⟩;refine ⟨_,rfl,_,_,rfl,rfl,.inl ⟨by decide,by decide⟩,_,rfl,_,_,rfl,rfl,_,rfl,?_⟩;have e:JM.met l n=(decide (1 * (n:Int)<=l)&&decide (l<=3 * (n:Int))):=by
     unfold JM.met;rw [Int.one_mul]
   rw [e] at k;refine C3 (fun h=>?_) (fun h=>?_)
   . refine ⟨_,rfl,_,_,rfl,rfl,.inl ⟨by decide,by decide⟩,_,_,rfl,rfl,?_⟩
     rw [h,Bool.true_and] at k;exact k
   . rw [Bool.not_eq_true] at h
     rw [h,Bool.false_and] at k;exact k
def jO (K:Zqq) (H:Hp) (lb:Addr) (us:List V) (l:List (Nat×Nat)):Prop:=H lb=some (.lst us)/\us.length=l.length/\∀ (i:Nat) v q,us[i]?=some v->l[i]?=some q->mR K H v q
theorem jO.same {H H':Hp} {lb:Addr} {us:List V} {l:List (Nat×Nat)} (b:jO K H lb us l) (f:aR H H'):jO K H' lb us l:=
 ⟨f _ _ b.1,b.2.1,fun i v q h1 h2=>(b.2.2 i v q h1 h2).same f⟩
def K4 (K:Zqq):Sp:=fun vs H Q _=>∃ (lb:Addr) (k v:Nat) (us:List V) (l:List (Nat×Nat)),vs=[.ref lb,.int (k:Int),.int (v:Int)]/\jO K H lb us l/\k < l.length/\l.length<=1000 /\
 ∀ H',aR H H'->Q (.int (JM.mT (l.drop (k+1)) v:Int)) H'
theorem vf:aM ["bonds","k","atom","bond"] ["bonds","k","atom"] (aF lD):=mL (by decide +kernel)
theorem K5 {xs:List V} {k:Nat} (h:k<=xs.length):Ew xs (some (k:Int)) none=xs.drop k:=by
 unfold Ew;rw [HT.LA,HT.Ji,Nat.min_eq_left h];exact List.take_of_length_le (by rw [List.length_drop];omega)
theorem DH (l:List (Nat×Nat)) (q:Nat×Nat) (v:Nat):JM.mT (l++[q]) v=JM.mT l v+(if JM.fh q v=true then 1 else 0):=by
 unfold JM.mT;rw [List.filter_append,List.length_append];congr 1;cases h:JM.fh q v<;>simp [h]
theorem HX (T:Txt K mg t):bI P w K mg base mr 1 t.eK t.ir ["bonds","k","atom"] (K4 K):=by
 refine T.eV.ok vf (fun vs H Q E h=>?_) (fun cdv A outer s H vs Q E hr h=>?_)
 . obtain ⟨lb,k,v,us,l,rfl,_⟩:=h
   rfl
 . obtain ⟨lb,n,v,us,l,rfl,B,hn,hl,k⟩:=h
   refine ⟨_,aE (bC (c9 aY (by rfl) T.j6 PySem.boot_len (af (N9 rfl vf.nd (kZ (Jj LI (pv 0) (LD (gX uG (pv 1) aT)) LC)) (sZ (own:=[("bond",3)]) rfl) (fun _ _ _ _ _=>bx (i:=3) vf.nd rfl (Or.inl rfl))
     (fun _ _ _ _ _=>A7 (PW.pt (N2 (fM xG (pv 2) (x8 (K0:=K) rfl (pv 3) rfl) (gr _)) (II (fM xG (pv 2) (x8 (K0:=K) rfl (pv 3) rfl) (gr _)))))) (fun _ _ _ _ _=>pv 3)) ay))),?_⟩
   refine ⟨_,rfl,_,rfl,_,_,rfl,rfl,_,rfl,lb,us,rfl,c8.of B.1,fun p hp=>?_⟩;have e:Ew us (some ((n:Int)+1)) none=us.drop (n+1):=by
     rw [show (n:Int)+1=((n+1:Nat):Int) by omega];exact K5 (by rw [B.2.1];omega)
   rw [e];have sp:aR H (upd H p (.lst (us.drop (n+1)))):=aG hp;refine ⟨p,rfl,⟨_,c8.of ai⟩,fun D hD=>?_⟩;have sD:aR H (upd (upd H p (.lst (us.drop (n+1)))) D (.lst [])):=sp.trans (aG hD);have pD:p ≠ D:=fun z=>by rw [<- z,ai] at hD;cases hD
   refine Fy (K:=K) (a:=p) (xs:=us.drop (n+1)) (fun i H'=>aR H H'/\H' p=some (.lst (us.drop (n+1)))/\∃ acc,H' D=some (.lst acc)/\acc.length=JM.mT ((l.drop (n+1)).take i) v) ⟨sD,by rw [ak pD];exact ai,[],ai,rfl⟩ (fun i H' _ h=>c8.of h.2.1) ?_ ?_
   . rintro i x H' hx ⟨sm,hp',acc,hD',hacc⟩
     have hil:i < l.length - (n+1):=by
       have:=(List.getElem?_eq_some_iff.mp hx).1;rw [List.length_drop,B.2.1] at this;exact this
     obtain ⟨q,hq⟩:∃ q,(l.drop (n+1))[i]?=some q:=⟨_,List.getElem?_eq_getElem (by rw [List.length_drop];exact hil)⟩;have en:mR K H' x q:=((B.2.2 (n+1+i) x q (by rw [<- hx,List.getElem?_drop]) (by rw [<- hq,List.getElem?_drop]))).same sm;obtain ⟨o,C,dx,fs,rfl,e1,cl,na,nb,ea,eb⟩:=en;have tk:=MP.take_snoc hq;have ac:acc.length < sizeLine:=by
       have:acc.length<=l.length:=by
         rw [hacc];refine Nat.le_trans (List.length_filter_le _ _) ?_;rw [List.length_take,List.length_drop];omega
       rw [sizeLine_eq];omega
     have pd':D ≠ p:=Ne.symm pD;have RX:∀ ys,aR H (upd H' D (.lst ys)):=fun ys b u e=>by
       have:b ≠ D:=fun z=>by
         have h1:=sp b u e;rw [z,hD] at h1;cases h1
       rw [ak this];exact sm b u e
     have go:JM.fh q v=true->∀ y,∃ acc,H' D=some (.lst acc)/\acc.length < sizeLine/\(aR H (upd H' D (.lst (acc++[y])))/\upd H' D (.lst (acc++[y])) p=some (.lst (us.drop (n+1)))/\∃ acc',upd H' D (.lst (acc++[y])) D=some (.lst acc')/\acc'.length=JM.mT ((l.drop (n+1)).take (i+1)) v):=fun ht y=>
       ⟨acc,hD',ac,RX _,by rw [ak pD];exact hp',_,ai,by rw [tk,DH,ht,<- hacc];simp⟩
     have no:JM.fh q v=false->(aR H H'/\H' p=some (.lst (us.drop (n+1)))/\∃ acc',H' D=some (.lst acc')/\acc'.length=JM.mT ((l.drop (n+1)).take (i+1)) v):=fun ht=>
       ⟨sm,hp',acc,hD',by rw [tk,DH,ht,<- hacc];simp⟩
     refine ⟨rfl,_,rfl,_,rfl,o,C,dx,fs,_,rfl,e1,cl,na,ea,rfl,_,rfl,?_⟩;by_cases h1:q.1=v
     . have ht:JM.fh q v=true:=by simp [JM.fh,h1]
       rw [decide_eq_true (by rw [h1])];exact ⟨_,rfl,go ht _⟩
     . rw [decide_eq_false (fun z=>h1 (by injection z with z;omega))]
       refine ⟨_,rfl,_,rfl,o,C,dx,fs,_,rfl,e1,cl,nb,eb,rfl,_,rfl,?_⟩;by_cases h2:q.2=v
       . have ht:JM.fh q v=true:=by simp [JM.fh,h2]
         rw [decide_eq_true (by rw [h2])];exact ⟨_,rfl,go ht _⟩
       . have ht:JM.fh q v=false:=by simp [JM.fh,h1,h2]
         rw [decide_eq_false (fun z=>h2 (by injection z with z;omega))];exact no ht
   . rintro H' ⟨sm,hp',acc,hD',hacc⟩
     rw [List.length_drop,B.2.1,<- List.length_drop,List.take_length] at hacc;refine ⟨D,acc,rfl,.inl (c8.of hD'),?_⟩;rw [hacc];exact k H' sm
def PL (K:Zqq):Sp:=fun vs H Q _=>∃ (st:Addr) (v:V) (o n:Nat) (s:List Int) (q:Nat×Nat),vs=[.ref st,v,.int (o:Int)]/\H st=some (.tup (vI s))/\mR K H v q/\q.1 < q.2/\q.2 < s.length/\s.length<=1000 /\
 ∀ H' p,aR H H'->H p=none->H' p=some (.tup (vI (JM.less s q o)))->Q (.ref p) H'
theorem FU:aM ["state","bond","order","left"] ["state","bond","order"] (aF nV):=mL (by decide +kernel)
theorem yO {l:List Int} {i:Nat} {x:Int} (f:Int->Int) (h:l[i]?=some x):l.set i (f x)=l.modify i f:=by
 refine List.ext_getElem? fun j=>?_;rw [List.getElem?_modify,List.getElem?_set];by_cases e:i=j
 . subst e
   obtain ⟨hl,rfl⟩:=List.getElem?_eq_some_iff.mp h;simp [hl]
 . simp [e]
theorem vg (l:List Int) (i:Nat) (x:Int):(vI l).set i (.int x)=vI (l.set i x):=by
 unfold vI;rw [List.map_set]
theorem o8 {l:List Int} {i:Nat} {x:Int} (h:l[i]?=some x):(vI l)[i]?=some (.int x):=by
 unfold vI;rw [List.getElem?_map,h];rfl
theorem FW (T:Txt K mg t):bI P w K mg base mr 1 t.gw t.jn ["state","bond","order"] (PL K):=by
 refine T.g7.ok FU (fun vs H Q E h=>?_) (fun cdv A outer s H vs Q E hr h=>?_)
 . obtain ⟨st,v,o,n,s,q,rfl,_⟩:=h
   rfl
 . obtain ⟨st,v,o,n,PM,q,rfl,hst,en,h12,Yk,hn,k⟩:=h
   refine ⟨_,aq (aQ (i:=3) FU.nd rfl (Or.inl rfl) (l0 sW (by rfl) T.ym PyProof.Rows.boot_list (af (pv 0) ay)))
     (aq (wR (pv 3) (aL (pv 1) rfl) uu (pv 2) IQ set_list)
     (aq (wR (pv 3) (aL (pv 1) rfl) uu (pv 2) IQ set_list)
     (aE (bC (l0 mK (by rfl) T.xw PyProof.Rows.boot_tuple (af (pv 3) ay)))))),?_⟩
   obtain ⟨b,C,dx,fs,rfl,e1,cl,na,nb,ea,eb⟩:=en;refine ⟨_,rfl,st,_,rfl,.inr (j0.of hst),fun l hl=>?_⟩;have s1:aR H (upd H l (.lst (vI PM))):=aG hl;obtain ⟨x1,Tq⟩:∃ x,PM[q.1]?=some x:=⟨_,List.getElem?_eq_getElem (by omega)⟩;have hlen:(vI PM).length=PM.length:=by simp [vI]
   refine ⟨_,rfl,_,rfl,b,C,dx,fs,_,rfl,s1 _ _ e1,cl,na,ea,l,_,q.1,_,rfl,rfl,c8.of ai,o8 Tq,_,rfl,_,_,rfl,rfl,l,_,(q.1:Int),q.1,rfl,rfl,ai,rf (by rw [hlen];omega),?_⟩;rw [vg,kY,yO (f:=fun x=>x - (o:Int)) Tq];obtain ⟨x2,NL⟩:∃ x,(PM.modify q.1 fun x=>x - (o:Int))[q.2]?=some x:=⟨_,List.getElem?_eq_getElem (by simp;omega)⟩;have s2:aR H (upd H l (.lst (vI (PM.modify q.1 fun x=>x - (o:Int))))):=aG hl;refine ⟨_,rfl,_,rfl,b,C,dx,fs,_,rfl,s2 _ _ e1,cl,nb,eb,l,_,q.2,_,rfl,rfl,c8.of ai,o8 NL,_,rfl,_,_,rfl,rfl,l,_,(q.2:Int),q.2,rfl,rfl,ai,rf (by simp [vI];omega),?_⟩;rw [vg,kY,yO (f:=fun x=>x - (o:Int)) NL];refine ⟨_,rfl,l,_,rfl,.inl ⟨c8.of ai,fun p hp=>?_⟩⟩;have s3:aR H (upd H l (.lst (vI (JM.less PM q o)))):=aG hl;exact k _ p (s3.trans (aG hp)) (s3.free hp) ai
def ways (ys:List (Bond×Nat)):JM.o6:=ys.map fun z=>(JM.bu z,z.1.order)
def lT (n:Nat) (z:JM.o6):List Int:=(List.range n).map fun v=>(JM.jw z v:Int)
def PN (K:Zqq) (C:Addr):Sp:=fun vs H Q _=>∃ (n:Nat) (lb:Addr) (us:List V) (ys:List (Bond×Nat)) (D:Addr->Prop),vs=[.int (n:Int),.ref lb]/\n<=1000/\H lb=some (.lst us)/\dS (jy C) D H us ys /\
 (∀ q ∈ ys.map JM.bu,q.1 < q.2/\q.2 < n)/\∀ H' l,aR H H'->H l=none->H' l=some (.lst (vI (lT n (ways ys))))->Q (.ref l) H'
theorem BK:aM ["n","bonds","sums","bond"] ["n","bonds"] (aF nU):=mL (by decide +kernel)
theorem iV {n:Nat} {f:Nat->Int} {v:Nat} (h:v < n):((List.range n).map f)[v]?=some (f v):=by
 rw [List.getElem?_map,List.getElem?_range h];rfl
theorem uv {n:Nat} {f:Nat->Int} {v:Nat} {x:Int}:((List.range n).map f).set v x=(List.range n).map fun u=>if u=v then x else f u:=by
 refine List.ext_getElem? fun j=>?_;rw [List.getElem?_set];by_cases hj:j < n
 . rw [iV hj]
   by_cases e:v=j
   . subst e
     simp [hj]
   . have e':¬ j=v:=fun z=>e z.symm
     simp [e,e',iV hj]
 . have e1:((List.range n).map fun u=>if u=v then x else f u)[j]?=none:=List.getElem?_eq_none (by simp;omega)
   rw [e1];by_cases e:v=j
   . subst e;simp [hj]
   . rw [if_neg e]
     exact List.getElem?_eq_none (by simp;omega)
theorem zeros (n:Nat):(List.replicate n [V.int 0]).flatten=vI (lT n []):=by
 unfold vI lT;rw [List.map_map];refine List.ext_getElem? fun j=>?_;have e:(List.replicate n [V.int 0]).flatten=List.replicate n (V.int 0):=by
   induction n with
   | zero=>rfl
   | succ n ih=>rw [List.replicate_succ,List.flatten_cons,ih];rfl
 rw [e,List.getElem?_replicate];by_cases hj:j < n
 . rw [if_pos hj,List.getElem?_map,List.getElem?_range hj]
   rfl
 . rw [if_neg hj]
   exact (List.getElem?_eq_none (by simp;omega)).symm
theorem MF (T:Txt K mg t):bI P w K mg base mr 1 t.gv t.jm ["n","bonds"] (PN K t.cB):=by
 refine T.iF.ok BK (fun vs H Q E h=>?_) (fun cdv A outer s H vs Q E hr h=>?_)
 . obtain ⟨n,lb,us,ys,D,rfl,_⟩:=h
   rfl
 . obtain ⟨n,lb,us,ys,D,rfl,hn,hlb,R,hq,k⟩:=h
   refine ⟨_,aq (aQ (i:=2) BK.nd rfl (Or.inl rfl) (gX E2 (iK (af aT ay)) (pv 0)))
     (aq (dN PassesOwn.never rfl (kZ (pv 1)) (bx (i:=3) BK.nd rfl (Or.inl rfl))
       (aq (wR (pv 2) (aL (pv 3) rfl) uu (aL (pv 3) rfl) Ej set_list)
       (aE (wR (pv 2) (aL (pv 3) rfl) uu (aL (pv 3) rfl) Ej set_list))))
     (aE (bC (pv 2)))),?_⟩
   refine ⟨by show 1<=sizeLine;decide,fun p0 hp0=>⟨_,rfl,p0,_,_,rfl,rfl,ai,by omega,by omega,by rw [sizeLine_eq];simp;omega,fun l hl=>?_⟩⟩;rw [Int.toNat_natCast,zeros];have s0:aR H (upd H p0 (.lst [V.int 0])):=aG hp0;have s1:aR H (upd (upd H p0 (.lst [V.int 0])) l (.lst (vI (lT n [])))):=s0.trans (aG hl);have RZ:H l=none:=s0.free hl;refine ⟨_,rfl,lb,rfl,⟨_,c8.of (s1 _ _ hlb)⟩,?_⟩;let vc:L2.Iv:=fun i σ H'=>∃ vb,σ=[some (.int (n:Int)),some (.ref lb),some (.ref l),vb]/\aR H H'/\H' l=some (.lst (vI (lT n ((ways ys).take i))));refine l9 (K:=K) (a:=lb) (xs:=us) vc ⟨none,rfl,s1,ai⟩ (fun i σ H' _ ⟨_,_,sm,_⟩=>c8.of (sm _ _ hlb)) ?_ ?_
   . rintro i x σ H' hx ⟨vb,rfl,sm,hl'⟩
     have hi:i < us.length:=(List.getElem?_eq_some_iff.mp hx).1;obtain ⟨z,hz⟩:∃ z,ys[i]?=some z:=⟨_,List.getElem?_eq_getElem (by rw [<- R.len];exact hi)⟩;obtain ⟨o,dx,rfl,_,rep⟩:=R.at_ i x z hx hz;have Sa:=hq (JM.bu z) (List.mem_map_of_mem (List.mem_of_getElem? hz));have ez:(ways ys)[i]?=some (JM.bu z,z.1.order):=by unfold ways;rw [List.getElem?_map,hz];rfl
     have ol:o ≠ l:=fun q=>by
       have:=sm _ _ rep;rw [q,hl'] at this;cases this
     have ln:∀ w:JM.o6,(vI (lT n w)).length=n:=fun w=>by simp [vI,lT]
     refine ⟨_,rfl,_,rfl,fld (sm _ _ rep) T.iO T.ju rfl ⟨l,_,z.1.a,_,rfl,rfl,c8.of hl',o8 (iV (by have:z.1.a < z.1.b/\z.1.b < n:=Sa;omega)),?_⟩⟩;refine ⟨_,rfl,fld (sm _ _ rep) T.iO T.iH rfl ⟨_,_,rfl,rfl,l,_,(z.1.a:Int),z.1.a,rfl,rfl,hl',rf (by rw [ln];have:z.1.a < z.1.b/\z.1.b < n:=Sa;omega),?_⟩⟩;have keep:∀ u,aR H (upd H' l u):=fun u b v e=>by
       rw [ak (au e RZ)];exact sm b v e
     rw [vg];unfold lT;rw [uv];refine ⟨_,rfl,_,rfl,fld (keep _ _ _ rep) T.iO T.jv rfl ⟨l,_,z.1.b,_,rfl,rfl,c8.of ai,o8 (iV Sa.2),?_⟩⟩;refine ⟨_,rfl,fld (keep _ _ _ rep) T.iO T.iH rfl ⟨_,_,rfl,rfl,l,_,(z.1.b:Int),z.1.b,rfl,rfl,ai,rf (by simp [vI];exact Sa.2),?_⟩⟩;rw [vg,uv,kY];refine ⟨_,rfl,keep _,?_⟩;rw [ai,take_snoc ez];congr 3;refine List.map_congr_left fun u hu=>?_;rw [JM.vR,JM.l5,JM.D9];have hlt:z.1.a < z.1.b:=Sa.1;by_cases h1:u=z.1.a
     . have h2:¬ u=z.1.b:=by omega
       have ht:JM.fh (JM.bu z) u=true:=by simp [JM.fh,JM.bu,h1]
       rw [if_neg h2,if_pos h1,if_pos ht,h1];simp
     . by_cases h2:u=z.1.b
       . have ht:JM.fh (JM.bu z) u=true:=by simp [JM.fh,JM.bu,h2]
         have h3:¬ z.1.b=z.1.a:=by omega
         rw [if_pos h2,if_pos ht,if_neg h3,h2];simp
       . have ht:¬ JM.fh (JM.bu z) u=true:=by
           simp [JM.fh,JM.bu];omega
         rw [if_neg h2,if_neg h1,if_neg ht];simp
   . rintro σ H' ⟨vb,rfl,sm,hl'⟩
     have e:(ways ys).take us.length=ways ys:=List.take_of_length_le (by unfold ways;rw [List.length_map,R.len];exact Nat.le_refl _);rw [e] at hl';exact ⟨_,rfl,k H' l sm RZ hl'⟩
end
def kI (s:List Int):List Key:=s.map Sum.inl
theorem vh (s:List Int):(kI s).map kV=vI s:=by
 unfold kI vI;rw [List.map_map];rfl
theorem mV {s u:List Int} (h:kI s=kI u):s=u:=List.map_inj_right (fun a b e=>by injection e) |>.mp h
structure uA (kvs:List (List Key×V)) (Pr:List Int->Prop):Prop where
 of:∀ kv ∈ kvs,∃ s,kv.1=kI s/\Pr s
 all:∀ s,Pr s->(iL kvs (kI s)).isSome=true
theorem qM {kvs:List (List Key×V)} {k:List Key} (h:(iL kvs k).isSome=true):∃ kv ∈ kvs,kv.1=k:=by
 rw [<- jQ,List.any_eq_true] at h;obtain ⟨kv,h1,h2⟩:=h;exact ⟨kv,h1,of_decide_eq_true h2⟩
theorem K6 {kvs:List (List Key×V)} {kv:List Key×V} (h:kv ∈ kvs):(iL kvs kv.1).isSome=true:=by
 rw [<- jQ,List.any_eq_true];exact ⟨kv,h,decide_eq_true rfl⟩
theorem uA.iff {kvs:List (List Key×V)} {Pr:List Int->Prop} (d:uA kvs Pr) (s:List Int):(iL kvs (kI s)).isSome=true ↔ Pr s:=
 ⟨fun h=>by
  obtain ⟨kv,h1,h2⟩:=qM h
  obtain ⟨u,e,p⟩:=d.of kv h1
  rw [e] at h2
  rw [<- mV h2]
  exact p,d.all s⟩
theorem uA.nil:uA [] fun _=>False:=⟨fun kv h=>by simp at h,fun _ h=>h.elim⟩
theorem uA.put {kvs:List (List Key×V)} {Pr:List Int->Prop} (d:uA kvs Pr) (s:List Int) (v:V):uA (putK kvs (kI s) v) fun u=>Pr u\/u=s:=by
 refine ⟨fun kv h=>?_,fun u hu=>?_⟩
 . have:=K6 h
   rw [tu] at this;by_cases e:kv.1=kI s
   . exact ⟨s,e,.inr rfl⟩
   . rw [if_neg e] at this
     obtain ⟨kv',h1,h2⟩:=qM this;obtain ⟨u,e',p⟩:=d.of kv' h1;exact ⟨u,h2 ▸ e',.inl p⟩
 . rw [tu]
   by_cases e:kI u=kI s
   . rw [if_pos e];rfl
   . rw [if_neg e]
     rcases hu with hu | hu
     . exact d.all u hu
     . exact absurd (by rw [hu]) e
theorem uA.eq {kvs:List (List Key×V)} {Pr Wc:List Int->Prop} (d:uA kvs Pr) (h:∀ s,Pr s ↔ Wc s):uA kvs Wc:=
 ⟨fun kv hk=>let ⟨s,e,p⟩:=d.of kv hk;⟨s,e,(h s).mp p⟩,fun s p=>d.all s ((h s).mpr p)⟩
theorem rg {d:Addr} {o:Obj} {kvs:List (List Key×V)} {g:TG} {tb:TS} {D:Ends} {σ:L2.St} {H:Hp} (Pv:Nat->L2.St->Hp->Prop) (h0:Pv 0 σ H) (hl:∀ i σ H,Pv i σ H->H d=some (.jB o (.dT kvs)))
   (hs:∀ i k v b σ H,kvs[i]?=some (k,v)->Pv i σ H->H b=some (.tup (k.map kV))->g (.ref b) σ H fun σ2 H2=>tb { D with nx:=Pv (i+1),ct:=Pv (i+1),bk:=D.nx } σ2 H2) (hd:∀ σ H,Pv kvs.length σ H->D.nx σ H) :
   ∃ W:Nat->Nat->L2.St->Hp->Prop,(∃ m,W 0 m σ H)/\∀ i m σ H,W i m σ H->
     ((Jw d o kvs).stop i H/\D.nx σ H)\/((Jw d o kvs).go i H/\∃ N:L2.St->Hp->Prop,(∀ σ' H',N σ' H'->∃ m',m' < m/\W (i+1) m' σ' H')/\∀ x H',(Jw d o kvs).IW i H x H'->g x σ H' fun σ2 H2=>tb { D with nx:=N,ct:=N,bk:=D.nx } σ2 H2):=by
 refine ⟨fun i m σ H=>m=kvs.length - i/\i<=kvs.length/\Pv i σ H,⟨kvs.length,by simp,Nat.zero_le _,h0⟩,?_⟩;rintro i m σ H ⟨rfl,hi,p⟩;have q:=hl i σ H p;by_cases hlt:i < kvs.length
 . refine .inr ⟨⟨q,hlt⟩,Pv (i+1),fun σ' H' p'=>⟨kvs.length - (i+1),by omega,rfl,hlt,p'⟩,fun x H' y=>?_⟩
   obtain ⟨rfl,k,v,b,e,rfl,hb⟩:=y;exact hs i k v b σ _ e p hb
 . have e:i=kvs.length:=by omega
   subst e;exact .inl ⟨⟨q,Nat.le_refl _⟩,hd σ H p⟩
section
def Q2 (q:Nat×Nat) (b1 b2:Nat) (s:List Int) (o:Nat) (s':List Int):Prop:=s'=JM.less s q o/\JM.met (s'.getD q.1 0) b1=true/\JM.met (s'.getD q.2 0) b2=true
def K7 (K:Zqq):Sp:=fun vs H Q _=>∃ (d lb:Addr) (k n:Nat) (kvs:List (List Key×V)) (Pr:List Int->Prop) (us:List V) (l:List (Nat×Nat)) (q:Nat×Nat),vs=[.ref d,.ref lb,.int (k:Int)]/\H d=some (.dT kvs)/\uA kvs Pr/\(∀ s,Pr s->s.length=n) /\
 jO K H lb us l/\l[k]?=some q/\l.length<=1000/\n<=1000/\q.1 < q.2/\q.2 < n/\3 * kvs.length<=10000000 /\
 ∀ H' d' kvs',aR H H'->H d'=none->H' d'=some (.dT kvs')->uA kvs' (fun s'=>∃ s o,Pr s/\(1<=o/\o<=3)/\Q2 q (JM.mT (l.drop (k+1)) q.1) (JM.mT (l.drop (k+1)) q.2) s o s')->kvs'.length<=3 * kvs.length->Q (.ref d') H'
theorem ji:aM ["states","bonds","k","bond","at_a","at_b","found","state","order","left"] ["states","bonds","k"] (aF iX):=mL (by decide +kernel)
theorem HZ (T:Txt K mg t):bI P w K mg base mr 2 t.cH t.gE ["states","bonds","k"] (K7 K):=by
 have GB:=@HX P w K mg base t T;have GL:=@FW P w K mg base t T;have GM:=@PK P w K mg base t T;refine T.fu.ok ji (fun vs H Q E h=>?_) (fun cdv A outer s H vs Q E hr h=>?_)
 . obtain ⟨d,lb,k,n,kvs,Pr,us,l,q,rfl,_⟩:=h
   rfl
 . obtain ⟨d,lb,n0,n,kvs,Pr,us,l,q,rfl,hd,SD,Yl,B,hq,hl,hn,h12,Yk,hsz,k⟩:=h
   have hu:=hr.un;have hu':(A.deeper (envOfC "states_behind" (aF iX) s.heap.objs.size t.cH cdv)).units+1 < cLine:=by omega
   refine ⟨_,aq (aQ (i:=3) ji.nd rfl (Or.inl rfl) (fQ cJ (pv 1) (pv 2) (fun _ _=>rfl)))
     (aq (aQ (i:=4) ji.nd rfl (Or.inl rfl) (bB GB hr rfl T.lJ T.eV.kp T.lH .nil cZ (af (pv 1) (af (pv 2) (af (aL (pv 3) rfl) ay)))))
     (aq (aQ (i:=5) ji.nd rfl (Or.inl rfl) (bB GB hr rfl T.lJ T.eV.kp T.lH .nil cZ (af (pv 1) (af (pv 2) (af (aL (pv 3) rfl) ay)))))
     (aq (aQ (i:=6) ji.nd rfl (Or.inl rfl) pO)
     (aq (wW (dN PassesOwn.never rfl (wY (pv 0)) (bx (i:=7) ji.nd rfl (Or.inl rfl))
       (aE (dN PassesOwn.never rfl (uF (b9 rfl T.yk (v:=.ref t.gJ) rfl)) (bx (i:=8) ji.nd rfl (Or.inl rfl))
         (aq (aQ (i:=9) ji.nd rfl (Or.inl rfl) (bB GL hr rfl T.om T.g7.kp T.oh .nil cZ (af (pv 7) (af (pv 3) (af (pv 8) ay)))))
         (aE (l8 (PW.pt (Ay (uD (bB GM hr rfl T.oq T.g8.kp T.oj .nil cZ (af (fQ A4 (pv 9) (aL (pv 3) rfl) (fun _ _=>rfl)) (af (pv 4) ay))))
             (wQ (uD (bB GM hr rfl T.oq T.g8.kp T.oj .nil cZ (af (fQ A4 (pv 9) (aL (pv 3) rfl) (fun _ _=>rfl)) (af (pv 5) ay)))))))
           (aE (nM hu' (pv 6) (pv 9) xC rfl)) gq)))))))
     (aE (bC (pv 6))))))),?_⟩
   have hk:n0 < l.length:=(List.getElem?_eq_some_iff.mp hq).1;obtain ⟨bv,hbv⟩:∃ v,us[n0]?=some v:=⟨_,List.getElem?_eq_getElem (by rw [B.2.1];exact hk)⟩;have en:=B.2.2 n0 bv q hbv hq;obtain ⟨o,C,dx,fs,rfl,e1,cl,na,nb,ea,eb⟩:=id en;refine ⟨_,rfl,_,rfl,lb,us,_,_,rfl,rfl,c8.of B.1,bT hbv,?_⟩;refine ⟨_,rfl,_,rfl,_,rfl,o,C,dx,fs,_,rfl,e1,cl,na,ea,?_⟩;refine ⟨lb,n0,q.1,us,l,rfl,B,hk,hl,fun H1 s1=>?_⟩;refine ⟨_,rfl,_,rfl,_,rfl,o,C,dx,fs,_,rfl,s1 _ _ e1,cl,nb,eb,?_⟩;refine ⟨lb,n0,q.2,us,l,rfl,B.same s1,hk,hl,fun H2 s2=>?_⟩;intro fd hfd;have s12:aR H H2:=s1.trans s2;have s3:aR H (upd H2 fd (.dT [])):=s12.trans (aG hfd);have K8:H fd=none:=s12.free hfd;have UT:fd ≠ d:=fun z=>by rw [z,hd] at K8;cases K8
   have bd:∀ v,JM.mT (l.drop (n0+1)) v < 1000:=fun v=>by
     have:=List.length_filter_le (fun q=>JM.fh q v) (l.drop (n0+1));rw [List.length_drop] at this;unfold JM.mT;omega
   refine ⟨d,_,s3 _ _ hd,True.intro,fun od=>?_⟩;refine ⟨_,rfl,d,od,rfl,.inr ⟨kvs,ai,?_⟩⟩;let PR:Nat->List Int->Prop:=fun i s'=>∃ i' kv s o,i' < i/\kvs[i']?=some kv/\kv.1=kI s/\(1<=o/\o<=3)/\Q2 q (JM.mT (l.drop (n0+1)) q.1) (JM.mT (l.drop (n0+1)) q.2) s o s';let vc:L2.Iv:=fun i σ H'=>∃ v7 v8 v9 kv,σ=[some (.ref d),some (.ref lb),some (.int (n0:Int)),some (.ref o),some (.int (JM.mT (l.drop (n0+1)) q.1:Int)),some (.int (JM.mT (l.drop (n0+1)) q.2:Int)),some (.ref fd),v7,v8,v9] /\
     (∀ b u,H b=some u->b ≠ d->H' b=some u)/\H' d=some (.jB od (.dT kvs))/\H' fd=some (.dT kv)/\uA kv (PR i)/\kv.length<=3 * i
   refine rg (d:=d) (o:=od) (kvs:=kvs) vc
     ⟨none,none,none,[],rfl,fun b u e n=>by rw [ak n];exact s3 b u e,ai,by rw [ak UT];exact ai,uA.nil.eq fun s=>⟨fun h=>h.elim,fun ⟨i',_,_,_,h,_⟩=>by omega⟩,Nat.zero_le _⟩ (fun i σ H' ⟨_,_,_,_,_,_,h,_⟩=>h) ?_ ?_
   . rintro i ky v b σ HY BL ⟨v7,v8,v9,kv,rfl,kp,K9,We,SY,lY⟩ hb
     have hi:i < kvs.length:=(List.getElem?_eq_some_iff.mp BL).1;obtain ⟨si,ek,hsi⟩:=SD.of (ky,v) (List.mem_of_getElem? BL);simp only at ek;subst ek;rw [vh] at hb;have sl:si.length=n:=Yl si hsi;refine ⟨t.gJ,rfl,⟨_,T.qw HY⟩,?_⟩;let FY:L2.Iv:=fun j σ H'=>∃ v8 v9 kv,σ=[some (.ref d),some (.ref lb),some (.int (n0:Int)),some (.ref o),some (.int (JM.mT (l.drop (n0+1)) q.1:Int)),some (.int (JM.mT (l.drop (n0+1)) q.2:Int)),some (.ref fd),some (.ref b),v8,v9] /\
       (∀ b u,HY b=some u->b ≠ fd->H' b=some u)/\H' fd=some (.dT kv)/\uA kv (fun s'=>PR i s'\/∃ o,(1<=o/\o<=j)/\Q2 q (JM.mT (l.drop (n0+1)) q.1) (JM.mT (l.drop (n0+1)) q.2) si o s')/\kv.length<=3 * i+j
     refine qS (K:=K) (a:=t.gJ) (xs:=[.int 1,.int 2,.int 3]) FY
       ⟨v8,v9,kv,rfl,fun b u e _=>e,We,SY.eq fun s=>⟨.inl,fun h=>by rcases h with h | ⟨o,h,_⟩;exact h;omega⟩,by omega⟩ (fun j σ H' _ _=>T.qw H') ?_ ?_
     . rintro j x σ H' hx ⟨v8,v9,kv,rfl,kq,hf',S',l'⟩
       have hj:j < 3:=by simpa using (List.getElem?_eq_some_iff.mp hx).1
       obtain rfl:x=.int ((j+1:Nat):Int):=by
         have:j=0\/j=1\/j=2:=by omega
         rcases this with r | r | r<;>subst r<;>simp at hx<;>rw [<- hx]<;>rfl
       have bf:b ≠ fd:=fun z=>by rw [z,We] at hb;cases hb
       have oo:∀ u,H o=some u->H' o=some u:=fun u e=>kq _ _ (kp _ _ e (fun z=>by rw [z,hd] at e1;cases e1)) (fun z=>by rw [z,K8] at e1;cases e1);refine ⟨_,rfl,_,rfl,_,rfl,?_⟩;refine ⟨b,.ref o,j+1,n,si,q,rfl,kq _ _ hb bf,⟨o,C,dx,fs,rfl,oo _ e1,cl,na,nb,ea,eb⟩,h12,by omega,by omega,fun H5 p s5 np hp=>?_⟩;have ll:(JM.less si q (j+1)).length=n:=(JM.DB _ _ _).trans sl;obtain ⟨y1,hy1⟩:∃ y,(JM.less si q (j+1))[q.1]?=some y:=⟨_,List.getElem?_eq_getElem (by omega)⟩;obtain ⟨y2,RE⟩:∃ y,(JM.less si q (j+1))[q.2]?=some y:=⟨_,List.getElem?_eq_getElem (by omega)⟩;have d1:(JM.less si q (j+1)).getD q.1 0=y1:=by rw [List.getD,hy1];rfl
       have d2:(JM.less si q (j+1)).getD q.2 0=y2:=by rw [List.getD,RE];rfl
       have o5:=s5 _ _ (oo _ e1);have PU:=s5 _ _ hf';have NP:∀ b u,HY b=some u->b ≠ fd->H5 b=some u:=fun b u e n=>s5 _ _ (kq b u e n);have no:¬ Q2 q (JM.mT (l.drop (n0+1)) q.1) (JM.mT (l.drop (n0+1)) q.2) si (j+1) (JM.less si q (j+1))->uA kv (fun s'=>PR i s'\/∃ o,(1<=o/\o<=j+1)/\Q2 q (JM.mT (l.drop (n0+1)) q.1) (JM.mT (l.drop (n0+1)) q.2) si o s'):=fun hno=>S'.eq fun s'=>by
         constructor
         . rintro (h | ⟨o,h,r⟩)
           . exact .inl h
           . exact .inr ⟨o,⟨h.1,by omega⟩,r⟩
         . rintro (h | ⟨o,h,r⟩)
           . exact .inl h
           . by_cases e:o=j+1
             . subst e
               exact absurd (r.1 ▸ r) hno
             . exact .inr ⟨o,⟨h.1,by omega⟩,r⟩
       refine ⟨_,rfl,_,rfl,o,C,dx,fs,_,rfl,o5,cl,na,ea,Th (j0.of hp) (bT (o8 hy1)) ⟨_,rfl,?_⟩⟩;refine ⟨y1,_,rfl,bd _,⟨_,rfl,?_⟩⟩;cases m1:JM.met y1 (JM.mT (l.drop (n0+1)) q.1) with
       | false=>exact ⟨_,_,kv,rfl,NP,PU,no (fun r=>by have z:=r.2.1;rw [d1,m1] at z;cases z),by omega⟩
       | true=>
         refine ⟨_,rfl,_,rfl,o,C,dx,fs,_,rfl,o5,cl,nb,eb,Th (j0.of hp) (bT (o8 RE)) ⟨_,rfl,?_⟩⟩;refine ⟨y2,_,rfl,bd _,⟨_,rfl,?_⟩⟩;cases m2:JM.met y2 (JM.mT (l.drop (n0+1)) q.2) with
         | false=>exact ⟨_,_,kv,rfl,NP,PU,no (fun r=>by have z:=r.2.2;rw [d2,m2] at z;cases z),by omega⟩
         | true=>
           have r:Q2 q (JM.mT (l.drop (n0+1)) q.1) (JM.mT (l.drop (n0+1)) q.2) si (j+1) (JM.less si q (j+1)):=⟨rfl,by rw [d1];exact m1,by rw [d2];exact m2⟩;refine ⟨_,rfl,_,rfl,fd,_,rfl,uM.t (k:=kI (JM.less si q (j+1))) PU (by rw [vh];exact hp) (by rw [sizeLine_eq];omega),?_⟩;refine ⟨_,_,_,rfl,fun b u e n=>by rw [ak n];exact NP b u e n,ai,(S'.put _ _).eq fun s'=>?_,?_⟩
           . constructor
             . rintro ((h | ⟨o,h,r'⟩) | h)
               . exact .inl h
               . exact .inr ⟨o,⟨h.1,by omega⟩,r'⟩
               . subst h;exact .inr ⟨j+1,⟨by omega,by omega⟩,r⟩
             . rintro (h | ⟨o,h,r'⟩)
               . exact .inl (.inl h)
               . by_cases e:o=j+1
                 . subst e;exact .inr r'.1
                 . exact .inl (.inr ⟨o,⟨h.1,by omega⟩,r'⟩)
           . have:=gi kv (kI (JM.less si q (j+1))) (V.bl true)
             omega
     . rintro σ H' ⟨v8,v9,kv,rfl,kq,hf',S',l'⟩
       refine ⟨_,_,_,kv,rfl,fun b' u e n=>kq b' u (kp b' u e n) (fun z=>by rw [z,K8] at e;cases e),kq _ _ K9 (Ne.symm UT),hf',S'.eq fun s'=>?_,?_⟩
       . constructor
         . rintro (⟨i',kv',s,o,h1,h2,h3,h4,h5⟩ | ⟨o,h,r⟩)
           . exact ⟨i',kv',s,o,by omega,h2,h3,h4,h5⟩
           . exact ⟨i,_,si,o,by omega,BL,rfl,⟨h.1,h.2⟩,r⟩
         . rintro ⟨i',kv',s,o,h1,h2,h3,h4,h5⟩
           by_cases e:i'=i
           . subst e
             rw [BL] at h2;cases h2;have:=mV h3;subst this;exact .inr ⟨o,h4,h5⟩
           . exact .inl ⟨i',kv',s,o,by omega,h2,h3,h4,h5⟩
       . have:([V.int 1,V.int 2,V.int 3]:List V).length=3:=rfl
         omega
   . rintro σ H' ⟨v7,v8,v9,kv,rfl,kp,hd',hf',S',l'⟩
     refine ⟨hd',_,rfl,k _ fd kv (fun b u e=>?_) K8 (by rw [ak UT];exact hf') (S'.eq fun s'=>?_) l'⟩
     . by_cases z:b=d
       . subst z
         rw [hd] at e;cases e;exact ai
       . rw [ak z]
         exact kp b u e z
     . constructor
       . rintro ⟨i',kv',s,o,h1,h2,h3,h4,h5⟩
         obtain ⟨s2',e,p⟩:=SD.of kv' (List.mem_of_getElem? h2);have:s=s2':=mV (h3.symm.trans e);subst this;exact ⟨s,o,p,h4,h5⟩
       . rintro ⟨s,o,p,h4,h5⟩
         obtain ⟨kv',h1,h2⟩:=qM (SD.all s p);obtain ⟨i',h3⟩:=List.getElem?_of_mem h1;exact ⟨i',kv',s,o,(List.getElem?_eq_some_iff.mp h3).1,h3,h2,h4,h5⟩
end
theorem KA (P:Nat->Prop) {o:Nat} (h1:1<=o) (h3:o<=3):Builtin.bitOr (JM.fG P:Int) ((2 ^ (o - 1):Nat):Int)=(JM.fG (fun x=>P x\/x=o):Int):=by
 have:o=1\/o=2\/o=3:=by omega
 unfold JM.fG;by_cases p1:P 1<;>by_cases p2:P 2<;>by_cases p3:P 3<;>rcases this with r | r | r<;>subst r<;>simp [p1,p2,p3]<;>decide
theorem nF {P P':Nat->Prop} (h:∀ o,1<=o->o<=3->(P o ↔ P' o)):JM.fG P=JM.fG P':=by
 have h1:=h 1 (by decide) (by decide);have h2:=h 2 (by decide) (by decide);have h3:=h 3 (by decide) (by decide);have e1:=propext h1;have e2:=propext h2;have e3:=propext h3;unfold JM.fG;rw [e1,e2,e3]
theorem ER {P:Nat->Prop} (h:∀ o,¬ P o):JM.fG P=0:=by
 unfold JM.fG;simp [h]
section
noncomputable def ux (S:List Int) (bs:List (Nat×Nat)):List Int:=(List.range bs.length).map fun k=>(JM.fG (JM.Found S bs k):Int)
def Ia (K:Zqq):Sp:=fun vs H Q _=>∃ (ls lb:Addr) (n:Nat) (S:List Int) (us:List V) (bs:List (Nat×Nat)),vs=[.ref ls,.ref lb]/\H ls=some (.lst (vI S))/\S.length=n/\n<=1000/\jO K H lb us bs/\bs.length<=12 /\
 (∀ q ∈ bs,q.1 < q.2/\q.2 < n)/\∀ H' l,aR H H'->H l=none->H' l=some (.lst (vI (ux S bs)))->Q (.ref l) H'
theorem fK:aM ["sums","bonds","levels","k","found","ending_well","ahead","state","order"] ["sums","bonds"] (aF iC):=mL (by decide +kernel)
theorem ES (T:Txt K mg t):bI P w K mg base mr 3 t.ck t.fW ["sums","bonds"] (Ia K):=by
 have GS:=@HZ P w K mg base t T;have GL:=@FW P w K mg base t T;have GB:=@K3 P w K mg base t T;refine T.e9.ok fK (fun vs H Q E h=>?_) (fun cdv A outer s H vs Q E hr h=>?_)
 . obtain ⟨ls,lb,n,S,us,bs,rfl,_⟩:=h
   rfl
 . obtain ⟨ls,lb,n,S,us,bs,rfl,hls,hS,hn,B,hm,Wf,k⟩:=h
   have hu:=hr.un;have hu':(A.deeper (envOfC "redrawn_orders" (aF iC) s.heap.objs.size t.ck cdv)).units+1 < cLine:=by omega
   have hr1:cU 1 _:=hr.mono (by decide);refine ⟨_,aq (aQ (i:=2) fK.nd rfl (Or.inl rfl) (iK (af (CC hu' (l0 mK (by rfl) T.xw PyProof.Rows.boot_tuple (af (pv 0) ay)) xC) ay)))
     (aq (dN PassesOwn.never rfl (ly rfl T.lu (af (c9 aY (by rfl) T.j6 PySem.boot_len (af (pv 1) ay)) ay)) (bx (i:=3) fK.nd rfl (Or.inl rfl))
       (aE (dJ (rP PySem.F.plainAttrs_list PySem.F.slot_list_append PySem.F.type_list_append iB (pv 2) (af (bB GS hr rfl T.oO T.fu.kp T.oJ .nil cZ (af (fQ cJ (pv 2) (pv 3) (fun _ _=>rfl)) (af (pv 1) (af (pv 3) ay)))) ay)))))
     (aq (aQ (i:=4) fK.nd rfl (Or.inl rfl) (gX E2 (iK (af aT ay)) (c9 aY (by rfl) T.j6 PySem.boot_len (af (pv 1) ay))))
     (aq (aQ (i:=5) fK.nd rfl (Or.inl rfl) (fQ cJ (pv 2) (c9 aY (by rfl) T.j6 PySem.boot_len (af (pv 1) ay)) (fun _ _=>rfl)))
     (aq (dN PassesOwn.never rfl (GY rfl T.lu (af (gX sf (c9 aY (by rfl) T.j6 PySem.boot_len (af (pv 1) ay)) aT) (af (Fj A1 aT) (af (Fj A1 aT) ay)))) (bx (i:=3) fK.nd rfl (Or.inl rfl))
       (aq (aQ (i:=6) fK.nd rfl (Or.inl rfl) pO)
       (aq (wW (dN PassesOwn.never rfl (wY (fQ cJ (pv 2) (pv 3) (fun _ _=>rfl))) (bx (i:=7) fK.nd rfl (Or.inl rfl))
         (aE (dN PassesOwn.never rfl (uF (b9 rfl T.yk (v:=.ref t.gJ) rfl)) (bx (i:=8) fK.nd rfl (Or.inl rfl))
           (aE (l8 (IG (OA hu' (bB GL hr1 rfl T.om T.g7.kp T.oh .nil cZ (af (pv 7) (af (fQ cJ (pv 1) (pv 3) (fun _ _=>rfl)) (af (pv 8) ay)))) (pv 5)))
             (aq (IP (gX QJ (fQ cJ (pv 4) (pv 3) (fun _ _=>rfl)) (bB GB hr1 rfl T.qj T.i8.kp T.qf .nil cZ (af (pv 8) ay))) (IM (pv 4) (pv 3) set_list))
             (aE (nM hu' (pv 6) (pv 7) xC rfl))) gq))))))
       (aE (aQ (i:=5) fK.nd rfl (Or.inl rfl) (pv 6))))))
     (aE (bC (pv 4))))))),?_⟩
   intro d0 hd0;have sa:aR H (upd H d0 (.dT [])):=aG hd0;refine ⟨_,rfl,ls,_,rfl,.inl ⟨c8.of (sa _ _ hls),fun pt PV=>?_⟩⟩;have sb:aR H (upd (upd H d0 (.dT [])) pt (.tup (vI S))):=sa.trans (aG PV);have UU:d0 ≠ pt:=fun z=>by rw [<- z,ai] at PV;cases PV
   refine ⟨by rw [ak UU];exact ai,kI S,pt,_,rfl,by rw [ai,vh],?_⟩;have sc:aR H (upd (upd (upd H d0 (.dT [])) pt (.tup (vI S))) d0 (.dT [(kI S,V.bl true)])):=fun b u e=>by rw [ak (au e hd0)];exact sb b u e
   refine ⟨by show 1<=sizeLine;decide,fun ll MG=>?_⟩;have sd:aR H (upd (upd (upd (upd H d0 (.dT [])) pt (.tup (vI S))) d0 (.dT [(kI S,V.bl true)])) ll (.lst [.ref d0])):=sc.trans (aG MG);have KC:H ll=none:=sc.free MG;have Lv:∀ {H1 H2:Hp} {ds:List Addr},(∀ (j:Nat) d,ds[j]?=some d->∃ kvs,H1 d=some (.dT kvs)/\uA kvs (JM.oX S bs j)/\kvs.length<=3 ^ j)->(∀ b kvs,H1 b=some (.dT kvs)->H2 b=some (.dT kvs))->∀ (j:Nat) d,ds[j]?=some d->∃ kvs,H2 d=some (.dT kvs)/\uA kvs (JM.oX S bs j)/\kvs.length<=3 ^ j:=
     fun L f j d hd=>let ⟨kvs,a,b⟩:=L j d hd;⟨kvs,f _ _ a,b⟩
   have Sb:us.length=bs.length:=B.2.1;refine ⟨_,rfl,lb,us,rfl,.inl (c8.of (sd _ _ B.1)),(us.length:Int),rfl,by omega,by omega,?_⟩;rw [Int.toNat_natCast];let vc:L2.Iv:=fun i σ H'=>∃ vk,∃ ds:List Addr,σ=[some (.ref ls),some (.ref lb),some (.ref ll),vk,none,none,none,none,none]/\aR H H'/\H' ll=some (.lst (ds.map V.ref))/\ds.length=i+1 /\
     ∀ (j:Nat) d,ds[j]?=some d->∃ kvs,H' d=some (.dT kvs)/\uA kvs (JM.oX S bs j)/\kvs.length<=3 ^ j
   refine qT (n:=us.length) vc ⟨none,[d0],rfl,sd,ai,rfl,fun j d hd=>?_⟩ ?_ ?_
   . cases j with
     | succ j=>simp at hd
     | zero=>
       obtain rfl:d0=d:=by simpa using hd
       have dl:d0 ≠ ll:=fun z=>by rw [<- z,ai] at MG;cases MG
       refine ⟨[(kI S,V.bl true)],by rw [ak dl];exact ai,⟨fun kv hk=>⟨S,by rw [List.mem_singleton.mp hk],rfl⟩,fun s hs=>?_⟩,Nat.le_refl _⟩;rw [show s=S from hs,fR rfl];rfl
   . rintro i σ H' hi ⟨vk,ds,rfl,sm,hl',hds,L⟩
     obtain ⟨di,hdi⟩:∃ d,ds[i]?=some d:=⟨_,List.getElem?_eq_getElem (by omega)⟩;obtain ⟨kvs,hk,SD,Ym⟩:=L i di hdi;have hi':i < bs.length:=by omega
     obtain ⟨q,hq⟩:∃ q,bs[i]?=some q:=⟨_,List.getElem?_eq_getElem hi'⟩;have NK:=Wf q (List.mem_of_getElem? hq);have p3:3 ^ i<=3 ^ 11:=Nat.pow_le_pow_right (by decide) (by omega);have e1:(ds.map V.ref)[i]?=some (V.ref di):=by rw [List.getElem?_map,hdi];rfl
     rw [Int.zero_add];have Zx:(3:Nat) ^ 11=177147:=by decide
     have pk:3 * kvs.length<=10000000:=by omega
     refine ⟨_,rfl,.inl ⟨rfl,_,c8.of hl'⟩,_,rfl,_,rfl,zV (c8.of hl') (bT e1) ⟨_,rfl,_,rfl,?_⟩⟩;refine ⟨di,lb,i,n,kvs,JM.oX S bs i,us,bs,q,rfl,hk,SD,fun s hs=>hs.len.trans hS,B.same sm,hq,by omega,hn,NK.1,NK.2,pk,fun H2 d' kvs' s2 nd' hd' Yn hl2=>?_⟩;have hl2':=s2 _ _ hl';refine ⟨ll,_,_,rfl,rfl,hl2',by rw [sizeLine_eq,List.length_map];omega,?_⟩;have dl:∀ b kvs,H2 b=some (.dT kvs)->b ≠ ll:=fun b kvs e z=>by rw [z,hl2'] at e;cases e
     refine ⟨_,ds++[d'],rfl,fun b u e=>by rw [ak (au e KC)];exact s2 _ _ (sm b u e),by rw [ai];simp,by simp [hds],fun j d hd=>?_⟩;rcases Nat.lt_or_ge j ds.length with hj | hj
     . rw [List.getElem?_append_left hj] at hd
       obtain ⟨Yo,a,b,c⟩:=L j d hd;exact ⟨Yo,by rw [ak (dl _ _ (s2 _ _ a))];exact s2 _ _ a,b,c⟩
     . have ej:j=ds.length:=by
         have:=(List.getElem?_eq_some_iff.mp hd).1;simp at this;omega
       subst ej;rw [List.getElem?_append_right (Nat.le_refl _),Nat.sub_self] at hd;obtain rfl:d'=d:=by simpa using hd
       refine ⟨kvs',by rw [ak (dl _ _ hd')];exact hd',?_,?_⟩
       . rw [hds]
         refine Yn.eq fun s'=>?_;constructor
         . rintro ⟨s,o,h1,h2,h3,h4,h5⟩
           exact ⟨s,q,o,h1,hq,h2,h3,h4,h5⟩
         . rintro ⟨s,q',o,h1,h6,h2,h3,h4,h5⟩
           rw [hq] at h6;cases h6;exact ⟨s,o,h1,h2,h3,h4,h5⟩
       . rw [hds,Nat.pow_succ]
         omega
   . rintro σ H1 ⟨vk,ds,rfl,sm,hl1,hds,L⟩
     refine ⟨by show 1<=sizeLine;decide,fun p0 hp0=>?_⟩;have s1:aR H1 (upd H1 p0 (.lst [V.int 0])):=aG hp0;refine ⟨_,rfl,lb,us,rfl,.inl (c8.of (s1 _ _ (sm _ _ B.1))),p0,_,_,rfl,rfl,ai,by omega,by omega,by rw [sizeLine_eq];simp;omega,fun lf Wg=>?_⟩;rw [Int.toNat_natCast,zeros];have s2:aR H1 (upd (upd H1 p0 (.lst [V.int 0])) lf (.lst (vI (lT us.length [])))):=s1.trans (aG Wg);have Sd:H1 lf=none:=s1.free Wg;have MH:H lf=none:=sm.free Sd;obtain ⟨dm,Wh⟩:∃ d,ds[us.length]?=some d:=⟨_,List.getElem?_eq_getElem (by omega)⟩;have em:(ds.map V.ref)[us.length]?=some (V.ref dm):=by rw [List.getElem?_map,Wh];rfl
     refine ⟨_,rfl,_,rfl,lb,us,rfl,.inl (c8.of (s2 _ _ (sm _ _ B.1))),zV (c8.of (s2 _ _ hl1)) (bT em) ?_⟩;obtain ⟨Wi,hkm,Yp,_⟩:=L us.length dm Wh;refine ⟨_,rfl,lb,us,rfl,.inl (c8.of (s2 _ _ (sm _ _ B.1))),_,_,rfl,rfl,_,rfl,_,rfl,_,_,_,_,rfl,Td.neg (by omega) (by omega) (by omega) (by omega),?_⟩;rw [show ((us.length:Int) - 1 - -1).toNat=us.length by omega];let fl:Nat->Nat->Int:=fun i k=>if us.length - i<=k then (JM.fG (JM.Found S bs k):Int) else 0;let FY:L2.Iv:=fun i σ H'=>∃ vk v6 v7 v8 ew NQ,σ=[some (.ref ls),some (.ref lb),some (.ref ll),vk,some (.ref lf),some (.ref ew),v6,v7,v8]/\aR H H'/\H' ll=some (.lst (ds.map V.ref)) /\
       (∀ (j:Nat) d,ds[j]?=some d->∃ kvs,H' d=some (.dT kvs)/\uA kvs (JM.oX S bs j)/\kvs.length<=3 ^ j)/\H' lf=some (.lst (vI ((List.range us.length).map (fl i))))/\H' ew=some (.dT NQ)/\uA NQ (JM.EN S bs i)
     refine E5 (n:=us.length) FY
       ⟨_,none,none,none,dm,Wi,rfl,sm.trans s2,s2 _ _ hl1,Lv L (fun b kvs e=>s2 _ _ e),?_,s2 _ _ hkm,?_⟩ ?_ ?_
     . rw [ai]
       congr 3;refine List.map_congr_left fun u hu=>?_;have:u < us.length:=List.mem_range.mp hu;show (JM.jw [] u:Int)=if us.length - 0<=u then _ else _;rw [if_neg (by omega)];rfl
     . show uA Wi (JM.oX S bs bs.length)
       rw [<- Sb];exact Yp
     . rintro i σ H' hi ⟨vk,v6,v7,v8,ew,NQ,rfl,sm',hl',L',hf',he',SE⟩
       rw [show (us.length:Int) - 1+(i:Nat) * -1=((us.length - 1 - i:Nat):Int) by omega];have hk:us.length - 1 - i < us.length:=by omega
       have hkb:us.length - 1 - i < bs.length:=by omega
       obtain ⟨d,hd⟩:∃ d,ds[us.length - 1 - i]?=some d:=⟨_,List.getElem?_eq_getElem (by omega)⟩;have ed:(ds.map V.ref)[us.length - 1 - i]?=some (V.ref d):=by rw [List.getElem?_map,hd];rfl
       obtain ⟨kvs,hkv,SD,Ym⟩:=L' _ d hd;have p3:3 ^ (us.length - 1 - i)<=3 ^ 12:=Nat.pow_le_pow_right (by decide) (by omega);have Zy:(3:Nat) ^ 12=531441:=by decide
       obtain ⟨q,hq⟩:∃ q,bs[us.length - 1 - i]?=some q:=⟨_,List.getElem?_eq_getElem hkb⟩;have NK:=Wf q (List.mem_of_getElem? hq);obtain ⟨bv,hbv⟩:∃ v,us[us.length - 1 - i]?=some v:=⟨_,List.getElem?_eq_getElem hk⟩;have ek:bs.length - (i+1)=us.length - 1 - i:=by omega
       have Wj:bs.length - (us.length - 1 - i+1)=i:=by omega
       intro ah PX;have sh:aR H' (upd H' ah (.dT [])):=aG PX;have MI:∀ {b u},H' b=some u->(∀ kvs,u ≠ .dT kvs)->b ≠ d:=fun {b u} e n z=>by rw [z,hkv] at e;cases e;exact n _ rfl
       have UW:ah ≠ d:=fun z=>by rw [z,hkv] at PX;cases PX
       have UX:ah ≠ lf:=fun z=>by rw [z,hf'] at PX;cases PX
       have UY:lf ≠ d:=MI hf' (fun _ z=>by cases z);have Yq:ll ≠ d:=MI hl' (fun _ z=>by cases z);have Yr:ll ≠ lf:=fun z=>by rw [z,Sd] at hl1;cases hl1
       have Ys:lb ≠ lf:=au B.1 MH;have Yt:lb ≠ d:=MI (sm' _ _ B.1) (fun _ z=>by cases z);have Yu:ew ≠ lf:=fun z=>by rw [z,hf'] at he';cases he'
       refine ⟨d,_,sh _ _ hkv,True.intro,fun od=>?_⟩;refine ⟨_,rfl,_,rfl,zV (c8.of (by rw [ak Yq];exact sh _ _ hl')) (bT ed) ⟨d,od,rfl,.inr ⟨kvs,ai,?_⟩⟩⟩;let FA:Nat->Nat->Prop:=fun a o=>∃ a' kv s,a' < a/\kvs[a']?=some kv/\kv.1=kI s/\JM.EN S bs i (JM.less s q o);let SA:Nat->List Int->Prop:=fun a s=>∃ a' kv,a' < a/\kvs[a']?=some kv/\kv.1=kI s/\∃ o,(1<=o/\o<=3)/\JM.EN S bs i (JM.less s q o);let Yv:L2.Iv:=fun a σ H3=>∃ v7 v8 Eg,σ=[some (.ref ls),some (.ref lb),some (.ref ll),some (.int ((us.length - 1 - i:Nat):Int)),some (.ref lf),some (.ref ew),some (.ref ah),v7,v8] /\
         (∀ b u,H' b=some u->b ≠ d->b ≠ lf->H3 b=some u)/\H3 d=some (.jB od (.dT kvs))/\H3 lf=some (.lst (vI (((List.range us.length).map (fl i)).set (us.length - 1 - i) (JM.fG (FA a):Int))))/\H3 ah=some (.dT Eg)/\uA Eg (SA a)/\Eg.length<=3 * a
       refine rg (d:=d) (o:=od) (kvs:=kvs) Yv
         ⟨v7,v8,[],rfl,fun b u e n _=>by rw [ak n];exact sh _ _ e,ai,?_,by rw [ak UW];exact ai,uA.nil.eq fun s=>⟨fun h=>h.elim,fun ⟨a',_,h,_⟩=>by omega⟩,Nat.zero_le _⟩ (fun a σ H3 ⟨_,_,_,_,_,h,_⟩=>h) ?_ ?_
       . rw [ak UY,ak (Ne.symm UX),hf',ER (P:=FA 0) (fun o ⟨a',_,_,h,_⟩=>by omega),uv]
         congr 3;refine List.map_congr_left fun u hu=>?_;by_cases e:u=us.length - 1 - i
         . rw [if_pos e]
           show (if us.length - i<=u then _ else _)=_;rw [if_neg (by omega)];rfl
         . rw [if_neg e]
       . rintro a ky v b σ H3 BL ⟨v7,v8,Eg,rfl,kp,Tr,Tu,Tv,UZ,Yw⟩ hb
         have hal:a < kvs.length:=(List.getElem?_eq_some_iff.mp BL).1;obtain ⟨si,Wl,hsi⟩:=SD.of (ky,v) (List.mem_of_getElem? BL);simp only at Wl;subst Wl;rw [vh] at hb;have sl:si.length=n:=hsi.len.trans hS;have Wm:b ≠ ah:=fun z=>by rw [z,Tv] at hb;cases hb
         have Va:b ≠ lf:=fun z=>by rw [z,Tu] at hb;cases hb
         have Wn:d ≠ ah:=Ne.symm UW;have Wo:d ≠ lf:=Ne.symm UY;refine ⟨t.gJ,rfl,⟨_,T.qw H3⟩,?_⟩;let FJ:Nat->Nat->Prop:=fun j o=>FA a o\/((1<=o/\o<=j)/\JM.EN S bs i (JM.less si q o));let SJ:Nat->List Int->Prop:=fun j s=>SA a s\/(s=si/\∃ o,(1<=o/\o<=j)/\JM.EN S bs i (JM.less si q o));let Yx:L2.Iv:=fun j σ H4=>∃ v8 Eg,σ=[some (.ref ls),some (.ref lb),some (.ref ll),some (.int ((us.length - 1 - i:Nat):Int)),some (.ref lf),some (.ref ew),some (.ref ah),some (.ref b),v8] /\
           (∀ b u,H3 b=some u->b ≠ ah->b ≠ lf->H4 b=some u)/\H4 lf=some (.lst (vI (((List.range us.length).map (fl i)).set (us.length - 1 - i) (JM.fG (FJ j):Int))))/\H4 ah=some (.dT Eg)/\uA Eg (SJ j)/\Eg.length<=3 * a+j
         refine qS (K:=K) (a:=t.gJ) (xs:=[.int 1,.int 2,.int 3]) Yx
           ⟨v8,Eg,rfl,fun b u e _ _=>e,?_,Tv,UZ.eq fun s=>⟨.inl,fun h=>by rcases h with h | ⟨_,o,h,_⟩;exact h;omega⟩,by omega⟩ (fun j σ H' _ _=>T.qw H') ?_ ?_
         . rw [Tu,nF (P:=FA a) (P':=FJ 0) fun o h1 _=>⟨.inl,fun h=>by rcases h with h | ⟨h,_⟩;exact h;omega⟩]
         . rintro j x σ H4 hx ⟨v8,Eg,rfl,kq,Tw,Vb,S4,l4⟩
           have hj:j < 3:=by simpa using (List.getElem?_eq_some_iff.mp hx).1
           obtain rfl:x=.int ((j+1:Nat):Int):=by
             have:j=0\/j=1\/j=2:=by omega
             rcases this with r | r | r<;>subst r<;>simp at hx<;>rw [<- hx]<;>rfl
           have k4:∀ b u,H' b=some u->b ≠ d->b ≠ lf->H4 b=some u:=fun b u e n1 n2=>kq _ _ (kp b u e n1 n2) (au e PX) n2;have B4:H4 lb=some (.lst us):=k4 _ _ (sm' _ _ B.1) Yt Ys;have en:=B.2.2 _ bv q hbv hq;have Yy:mR K H4 bv q:=by
             obtain ⟨o,C,dx,fs,e0,e1,rest⟩:=en;exact ⟨o,C,dx,fs,e0,k4 _ _ (sm' _ _ e1) (MI (sm' _ _ e1) (fun _ z=>by cases z)) (au e1 MH),rest⟩
           refine ⟨_,rfl,_,rfl,_,rfl,lb,us,_,_,rfl,rfl,c8.of B4,bT hbv,_,rfl,?_⟩;refine ⟨b,bv,j+1,n,si,q,rfl,kq _ _ hb Wm Va,Yy,NK.1,by omega,by omega,fun H5 p s5 np hp=>?_⟩;have PU:=s5 _ _ Tw;have Wq:=s5 _ _ Vb;have NP:∀ b u,H3 b=some u->b ≠ ah->b ≠ lf->H5 b=some u:=fun b u e n1 n2=>s5 _ _ (kq b u e n1 n2);have Yz:Rd H5 ew (.dT NQ):=by
             by_cases z:ew=d
             . have:NQ=kvs:=by rw [z,hkv] at he';cases he';rfl
               rw [z,this];exact .inr ⟨od,NP _ _ Tr Wn Wo⟩
             . exact .inl (s5 _ _ (k4 _ _ he' z Yu))
           refine ⟨_,rfl,ew,_,rfl,.inr ⟨NQ,kI (JM.less si q (j+1)),p,Yz,rfl,by rw [vh];exact hp,rfl⟩,_,rfl,?_⟩;have Se:=SE.iff (JM.less si q (j+1));have Wr:∀ (W:Prop),(W ↔ JM.EN S bs i (JM.less si q (j+1)))->∀ o,FJ (j+1) o ↔ (FJ j o\/(W/\o=j+1)):=fun W hW o=>by
             constructor
             . rintro (h | ⟨h,w⟩)
               . exact .inl (.inl h)
               . by_cases e:o=j+1
                 . subst e;exact .inr ⟨hW.mpr w,rfl⟩
                 . exact .inl (.inr ⟨⟨h.1,by omega⟩,w⟩)
             . rintro ((h | ⟨h,w⟩) | ⟨w,rfl⟩)
               . exact .inl h
               . exact .inr ⟨⟨h.1,by omega⟩,w⟩
               . exact .inr ⟨⟨by omega,by omega⟩,hW.mp w⟩
           have Ws:∀ (W:Prop),(W ↔ JM.EN S bs i (JM.less si q (j+1)))->∀ s,SJ (j+1) s ↔ (SJ j s\/(W/\s=si)):=fun W hW s=>by
             constructor
             . rintro (h | ⟨h,o,h2,w⟩)
               . exact .inl (.inl h)
               . by_cases e:o=j+1
                 . subst e;exact .inr ⟨hW.mpr w,h⟩
                 . exact .inl (.inr ⟨h,o,⟨h2.1,by omega⟩,w⟩)
             . rintro ((h | ⟨h,o,h2,w⟩) | ⟨w,rfl⟩)
               . exact .inl h
               . exact .inr ⟨h,o,⟨h2.1,by omega⟩,w⟩
               . exact .inr ⟨rfl,j+1,⟨by omega,by omega⟩,hW.mp w⟩
           cases hin:(iL NQ (kI (JM.less si q (j+1)))).isSome with
           | false=>
             have nW:¬ JM.EN S bs i (JM.less si q (j+1)):=fun w=>by rw [Se.mpr w] at hin;cases hin
             have wF:False ↔ JM.EN S bs i (JM.less si q (j+1)):=⟨False.elim,nW⟩;refine ⟨_,Eg,rfl,NP,?_,Wq,S4.eq fun s=>?_,by omega⟩
             . rw [PU,nF (P:=FJ j) (P':=FJ (j+1)) fun o _ _=>by rw [Wr False wF o];simp]
             . rw [Ws False wF s];simp
           | true=>
             have hW:=Se.mp hin;have wT:True ↔ JM.EN S bs i (JM.less si q (j+1)):=⟨fun _=>hW,fun _=>trivial⟩;have gk:(vI (((List.range us.length).map (fl i)).set (us.length - 1 - i) (JM.fG (FJ j):Int)))[us.length - 1 - i]?=some (.int (JM.fG (FJ j):Int)):=o8 (by rw [List.getElem?_set_self (by simp;exact hk)]);refine ⟨_,rfl,_,rfl,zV (c8.of PU) (bT gk) ⟨_,rfl,?_⟩⟩;refine ⟨j+1,rfl,by omega,by omega,_,_,rfl,rfl,?_⟩;refine ⟨_,rfl,_,rfl,lf,_,_,us.length - 1 - i,rfl,rfl,PU,rf (by simp [vI];omega),?_⟩;rw [vg,KA _ (by omega) (by omega),List.set_set];refine ⟨_,rfl,_,rfl,ah,_,rfl,uM.t (k:=kI si) (by rw [ak UX];exact Wq) (by rw [ak Va,vh];exact NP _ _ hb Wm Va) (by rw [sizeLine_eq];omega),?_⟩;refine ⟨_,_,rfl,fun b u e n1 n2=>by rw [ak n1,ak n2];exact NP b u e n1 n2,?_,ai,(S4.put _ _).eq fun s=>?_,?_⟩
             . rw [ak (Ne.symm UX),ai,nF (P:=fun x=>FJ j x\/x=j+1) (P':=FJ (j+1)) fun o _ _=>by rw [Wr True wT o];simp]
             . rw [Ws True wT s];simp
             . have:=gi Eg (kI si) (V.bl true)
               omega
         . rintro σ H4 ⟨v8,Eg,rfl,kq,Tw,Vb,S4,l4⟩
           have l3:([V.int 1,V.int 2,V.int 3]:List V).length=3:=rfl;rw [l3] at Tw S4 l4;refine ⟨_,_,Eg,rfl,fun b' u e n1 n2=>kq _ _ (kp b' u e n1 n2) (au e PX) n2,kq _ _ Tr Wn Wo,?_,Vb,S4.eq fun s=>?_,by omega⟩
           . rw [Tw,nF (P:=FJ 3) (P':=FA (a+1)) fun o h1 h3=>?_]
             constructor
             . rintro (⟨a',kv,s,g1,g2,g3,g4⟩ | ⟨_,w⟩)
               . exact ⟨a',kv,s,by omega,g2,g3,g4⟩
               . exact ⟨a,_,si,by omega,BL,rfl,w⟩
             . rintro ⟨a',kv,s,g1,g2,g3,g4⟩
               by_cases e:a'=a
               . subst e
                 rw [BL] at g2;cases g2;have:=mV g3;subst this;exact .inr ⟨⟨h1,h3⟩,g4⟩
               . exact .inl ⟨a',kv,s,by omega,g2,g3,g4⟩
           . constructor
             . rintro (⟨a',kv,g1,g2,g3,g4⟩ | ⟨rfl,o,h,w⟩)
               . exact ⟨a',kv,by omega,g2,g3,g4⟩
               . exact ⟨a,_,by omega,BL,rfl,o,h,w⟩
             . rintro ⟨a',kv,g1,g2,g3,o,h,w⟩
               by_cases e:a'=a
               . subst e
                 rw [BL] at g2;cases g2;have:=mV g3;subst this;exact .inr ⟨rfl,o,h,w⟩
               . exact .inl ⟨a',kv,by omega,g2,g3,o,h,w⟩
       . rintro σ H3 ⟨v7,v8,Eg,rfl,kp,Tr,Tu,Tv,UZ,Yw⟩
         refine ⟨Tr,_,rfl,?_⟩;have keep:∀ b u,H' b=some u->b ≠ lf->upd H3 d (.dT kvs) b=some u:=fun b u e n=>by
           by_cases z:b=d
           . subst z
             rw [hkv] at e;cases e;exact ai
           . rw [ak z]
             exact kp b u e z n
         refine ⟨_,_,_,_,ah,Eg,rfl,fun b u e=>keep b u (sm' b u e) (au e MH),keep _ _ hl' Yr,Lv L' (fun b kvs e=>keep _ _ e (fun z=>by rw [z,hf'] at e;cases e)),?_,by rw [ak UW];exact Tv,UZ.eq fun s=>?_⟩
         . rw [ak UY,Tu,uv]
           congr 3;refine List.map_congr_left fun u hu=>?_;show _=if us.length - (i+1)<=u then _ else _;by_cases e:u=us.length - 1 - i
           . rw [if_pos e,if_pos (by omega),e]
             congr 1;refine nF fun o _ _=>?_;constructor
             . rintro ⟨a',kv,s,_,h1,h2,h3⟩
               obtain ⟨s',e1,p⟩:=SD.of kv (List.mem_of_getElem? h1);have:=mV (h2.symm.trans e1);subst this;exact ⟨s,q,p,hq,by rw [Wj];exact h3⟩
             . rintro ⟨s,q',p,h1,h2⟩
               rw [hq] at h1;cases h1;rw [Wj] at h2;obtain ⟨kv,g1,g2⟩:=qM (SD.all s p);obtain ⟨a',g3⟩:=List.getElem?_of_mem g1;exact ⟨a',kv,s,(List.getElem?_eq_some_iff.mp g3).1,g3,g2,h2⟩
           . rw [if_neg e]
             show (if us.length - i<=u then _ else _)=_;by_cases e2:us.length - i<=u
             . rw [if_pos e2,if_pos (by omega)]
             . rw [if_neg e2,if_neg (by omega)]
         . constructor
           . rintro ⟨a',kv,_,h1,h2,o,h3,h4⟩
             obtain ⟨s',e1,p⟩:=SD.of kv (List.mem_of_getElem? h1);have:=mV (h2.symm.trans e1);subst this;exact ⟨by rw [ek];exact p,q,o,by rw [ek];exact hq,h3,h4⟩
           . rintro ⟨p,q',o,h1,h3,h4⟩
             rw [ek] at p h1;rw [hq] at h1;cases h1;obtain ⟨kv,g1,g2⟩:=qM (SD.all s p);obtain ⟨a',g3⟩:=List.getElem?_of_mem g1;exact ⟨a',kv,(List.getElem?_eq_some_iff.mp g3).1,g3,g2,o,h3,h4⟩
     . rintro σ H' ⟨vk,v6,v7,v8,ew,NQ,rfl,sm',hl',L',hf',he',SE⟩
       refine ⟨_,rfl,k H' lf sm' MH ?_⟩;rw [hf'];congr 3;unfold ux;rw [Sb];refine List.map_congr_left fun u hu=>?_;show (if us.length - bs.length<=u then _ else _)=_;rw [if_pos (by omega)]
end
def kJ (v w:Nat) (q:Nat×Nat):Bool:=(q.1==v&&q.2==w)||(q.1==w&&q.2==v)
def Ib (kvs:List (List Key×V)) (l:List (Nat×Nat)):Prop:=∀ v w:Nat,iL kvs (kI [(v:Int),(w:Int)])=(l.findIdx? (kJ v w)).map fun k=>V.int (k:Int)
theorem KD {a b c d:Nat} (h:kI [(a:Int),(b:Int)]=kI [(c:Int),(d:Int)]):a=c/\b=d:=by
 have:=mV h;simp at this;omega
theorem Ib.snoc {kvs:List (List Key×V)} {l:List (Nat×Nat)} {q:Nat×Nat} (d:Ib kvs l) (hn:∀ p ∈ l,p ≠ q) (hl:∀ p ∈ l,p.1 < p.2) (hq:q.1 < q.2) :
   Ib (putK (putK kvs (kI [(q.1:Int),(q.2:Int)]) (V.int (l.length:Int))) (kI [(q.2:Int),(q.1:Int)]) (V.int (l.length:Int))) (l++[q]):=by
 intro v w;rw [tu,tu,List.findIdx?_append];have old:kJ v w q=true->l.findIdx? (kJ v w)=none:=fun h=>by
   rw [List.findIdx?_eq_none_iff];intro p hp;have h1:=hl p hp;have h2:=hn p hp;unfold kJ at h ⊢;simp only [Bool.or_eq_true,Bool.and_eq_true,beq_iff_eq] at h;rw [Bool.eq_false_iff];intro hc;simp only [Bool.or_eq_true,Bool.and_eq_true,beq_iff_eq] at hc;refine h2 (Prod.ext ?_ ?_)<;>omega
 by_cases h1:kI [(v:Int),(w:Int)]=kI [(q.2:Int),(q.1:Int)]
 . obtain ⟨rfl,rfl⟩:=KD h1
   have hj:kJ q.2 q.1 q=true:=by simp [kJ]
   rw [if_pos rfl,old hj];simp [List.findIdx?_cons,hj]
 . rw [if_neg h1]
   by_cases h2:kI [(v:Int),(w:Int)]=kI [(q.1:Int),(q.2:Int)]
   . obtain ⟨rfl,rfl⟩:=KD h2
     have hj:kJ q.1 q.2 q=true:=by simp [kJ]
     rw [if_pos rfl,old hj];simp [List.findIdx?_cons,hj]
   . rw [if_neg h2,d v w]
     have hj:kJ v w q=false:=by
       rw [Bool.eq_false_iff];intro h;unfold kJ at h;simp only [Bool.or_eq_true,Bool.and_eq_true,beq_iff_eq] at h;rcases h with ⟨rfl,rfl⟩ | ⟨rfl,rfl⟩
       . exact h2 rfl
       . exact h1 rfl
     cases l.findIdx? (kJ v w)<;>simp [List.findIdx?_cons,hj]
section
def MJ (K:Zqq):Sp:=fun vs H Q _=>∃ (lb:Addr) (us:List V) (l:List (Nat×Nat)) (n:Nat),vs=[.ref lb]/\jO K H lb us l/\l.length<=1000/\JM.pQ n l /\
 ∀ H' d kvs,aR H H'->H d=none->H' d=some (.dT kvs)->Ib kvs l->Q (.ref d) H'
theorem uy:aM ["bonds","numbers","k","bond"] ["bonds"] (aF jk):=mL (by decide +kernel)
theorem KG (T:Txt K mg t):bI P w K mg base mr 1 t.d8 t.iu ["bonds"] (MJ K):=by
 refine T.fZ.ok uy (fun vs H Q E h=>?_) (fun cdv A outer s H vs Q E hr h=>?_)
 . obtain ⟨lb,us,l,n,rfl,_⟩:=h
   rfl
 . obtain ⟨lb,us,l,n,rfl,B,hl,KH,k⟩:=h
   have hu:=hr.un;have hu':(A.deeper (envOfC "pair_numbers" (aF jk) s.heap.objs.size t.d8 cdv)).units+1 < cLine:=by omega
   refine ⟨_,aq (aQ (i:=1) uy.nd rfl (Or.inl rfl) pO)
     (aq (dN PassesOwn.never rfl (AA rfl T.mD (af (pv 0) ay)) (Ei rfl (mW (bx (i:=2) uy.nd rfl (Or.inl rfl)) (mW (bx (i:=3) uy.nd rfl (Or.inl rfl)) A0)))
       (aq (nM hu' (pv 1) (mJ (af (aL (pv 3) rfl) (af (aL (pv 3) rfl) ay))) (pv 2) rfl)
       (aE (nM hu' (pv 1) (mJ (af (aL (pv 3) rfl) (af (aL (pv 3) rfl) ay))) (pv 2) rfl))))
     (aE (bC (pv 1)))),?_⟩
   intro d hd;have s1:aR H (upd H d (.dT [])):=aG hd;refine ⟨_,rfl,lb,us,rfl,c8.of (s1 _ _ B.1),?_⟩;let vc:L2.Iv:=fun i σ H'=>∃ v2 v3 kvs,σ=[some (.ref lb),some (.ref d),v2,v3]/\aR H H'/\H' d=some (.dT kvs)/\Ib kvs (l.take i)/\kvs.length<=2 * i;refine yK (K:=K) (a:=lb) (xs:=us) vc ⟨none,none,[],rfl,s1,ai,fun v w=>rfl,Nat.zero_le _⟩ (fun i σ H' _ ⟨_,_,_,_,sm,_⟩=>c8.of (sm _ _ B.1)) ?_ ?_
   . rintro i x σ H' Tt hx ⟨v2,v3,kvs,rfl,sm,hd',N,hlen⟩ hT
     have hi:i < us.length:=(List.getElem?_eq_some_iff.mp hx).1;have hil:i < l.length:=by rw [<- B.2.1];exact hi
     obtain ⟨q,hq⟩:∃ q,l[i]?=some q:=⟨_,List.getElem?_eq_getElem hil⟩;obtain ⟨o,C,dx,fs,rfl,e1,cl,na,nb,ea,eb⟩:=B.2.2 i x q hx hq;have sT:aR H (upd H' Tt (.tup [.int (i:Int),.ref o])):=sm.trans (aG hT);have dT':d ≠ Tt:=fun z=>by rw [<- z,hd'] at hT;cases hT
     refine ⟨Tt,_,rfl,j0.of ai,rfl,_,_,rfl,_,_,rfl,rfl,?_⟩;refine ⟨_,rfl,_,rfl,_,rfl,o,C,dx,fs,_,rfl,sT _ _ e1,cl,na,ea,_,rfl,o,C,dx,fs,_,rfl,sT _ _ e1,cl,nb,eb,(by show 2<=sizeLine;decide),fun p1 hp1=>?_⟩;have hd1:upd (upd H' Tt (.tup [.int (i:Int),.ref o])) p1 (.tup [.int (q.1:Int),.int (q.2:Int)]) d=some (.dT kvs):=by
       have:upd H' Tt (.tup [.int (i:Int),.ref o]) d=some (.dT kvs):=by rw [ak dT'];exact hd'
       rw [ak (au this hp1)];exact this
     have Y0:aR H (upd (upd H' Tt (.tup [.int (i:Int),.ref o])) p1 (.tup [.int (q.1:Int),.int (q.2:Int)])):=sT.trans (aG hp1);refine ⟨d,_,rfl,uM.t (k:=kI [(q.1:Int),(q.2:Int)]) hd1 (by rw [vh];exact ai) (by rw [sizeLine_eq];omega),?_⟩;have Vc:aR H (upd (upd (upd H' Tt (.tup [.int (i:Int),.ref o])) p1 (.tup [.int (q.1:Int),.int (q.2:Int)])) d (.dT (putK kvs (kI [(q.1:Int),(q.2:Int)]) (.int (i:Int))))):=fun b u e=>by rw [ak (au e hd)];exact Y0 b u e
     refine ⟨_,rfl,_,rfl,_,rfl,o,C,dx,fs,_,rfl,Vc _ _ e1,cl,nb,eb,_,rfl,o,C,dx,fs,_,rfl,Vc _ _ e1,cl,na,ea,(by show 2<=sizeLine;decide),fun p2 hp2=>?_⟩;have l1:=gi kvs (kI [(q.1:Int),(q.2:Int)]) (V.int (i:Int));have d2:d ≠ p2:=fun z=>by rw [<- z,ai] at hp2;cases hp2
     refine ⟨d,_,rfl,uM.t (k:=kI [(q.2:Int),(q.1:Int)]) (by rw [ak d2];exact ai) (by rw [vh];exact ai) (by rw [sizeLine_eq];omega),?_⟩;have l2:=gi (putK kvs (kI [(q.1:Int),(q.2:Int)]) (V.int (i:Int))) (kI [(q.2:Int),(q.1:Int)]) (V.int (i:Int));refine ⟨_,_,_,rfl,fun b u e=>by rw [ak (au e hd)];exact (Vc.trans (aG hp2)) b u e,ai,?_,by omega⟩;rw [take_snoc hq];have tl:(l.take i).length=i:=by rw [List.length_take];omega
     have:=N.snoc (q:=q) (fun p hp e=>?_) (fun p hp=>(KH.1 p (List.mem_of_mem_take hp)).1) (KH.1 q (List.mem_of_getElem? hq)).1
     . rw [tl] at this
       exact this
     . obtain ⟨j,hj⟩:=List.getElem?_of_mem hp
       have hji:j < i:=by
         have:=(List.getElem?_eq_some_iff.mp hj).1;rw [tl] at this;exact this
       rw [List.getElem?_take_of_lt hji] at hj;have pw:=List.pairwise_iff_getElem.mp KH.2 j i (by omega) hil hji;rw [List.getElem?_eq_getElem (by omega)] at hj hq;have e1:=Option.some.inj hj;have e2:=Option.some.inj hq;rw [e1,e2,e] at pw;omega
   . rintro σ H' ⟨v2,v3,kvs,rfl,sm,hd',N,hlen⟩
     rw [B.2.1,List.take_length] at N;exact ⟨_,rfl,k H' d kvs sm hd hd' N⟩
end
open JM (aN az cS b5)
def Y3 (la lb lr ls lo ln:Addr):List (Str×V):=[("atoms",.ref la),("bonds",.ref lb),("neighbours",.ref lr),("sums",.ref ls),("orders",.ref lo),("bond_numbers",.ref ln)]
structure nG where
 la:Addr
 lb:Addr
 lr:Addr
 ls:Addr
 lo:Addr
 ln:Addr
 as:List V
 us:List V
 rs:List Addr
 kvs:List (List Key×V)
structure gp (t:Ad) (D:Addr->Prop) (H:Hp) (g:Addr) (z:nG) (y:aN):Prop where
 obj:∃ dx,H g=some (.ins t.aI dx (Y3 z.la z.lb z.lr z.ls z.lo z.ln))
 atoms:H z.la=some (.lst z.as)
 bonds:H z.lb=some (.lst z.us)
 rows:gW H z.lr z.rs z.as.length (JM.fJ (y.2.map JM.bu))
 sums:H z.ls=some (.lst (vI (cS (az y))))
 orders:H z.lo=some (.lst (vI (ux (cS (az y)) (b5 (az y)))))
 nums:H z.ln=some (.dT z.kvs)
 num:Ib z.kvs (y.2.map JM.bu)
 ra:dS (jx t.bX) D H z.as y.1
 rb:dS (jy t.cB) D H z.us y.2
theorem nI (y:aN):b5 (az y)=y.2.map JM.bu:=by
 unfold b5 az JM.bu JM.qK;simp
theorem jz (y:aN):(az y).n=y.1.length:=by simp [az,Mol.n]
theorem KI (y:aN):ways y.2=(b5 (az y)).zip (az y).orders:=by
 rw [nI];unfold ways Mol.orders az;simp only [List.map_map];rw [List.zip_map'];rfl
theorem KJ (y:aN) {n:Nat} (hn:y.1.length=n):lT n (ways y.2)=cS (az y):=by
 unfold lT cS Mol.sums;rw [jz,hn,List.map_map];refine List.map_congr_left fun v _=>?_;show _=(((az y).sum v:Nat):Int);rw [JM.DG,KI]
section
theorem gW.same' {H H':Hp} {lr:Addr} {rs:List Addr} {n:Nat} {row:Nat->List Nat} (R:gW H lr rs n row) (f:aR H H'):gW H' lr rs n row:=R.stay fun b o e _=>f b o e
theorem gp.same {D:Addr->Prop} {H H':Hp} {g:Addr} {z:nG} {y:aN} (M:gp t D H g z y) (f:aR H H'):gp t D H' g z y:=
 ⟨let ⟨dx,e⟩:=M.obj;⟨dx,f _ _ e⟩,f _ _ M.atoms,f _ _ M.bonds,M.rows.same' f,f _ _ M.sums,f _ _ M.orders,f _ _ M.nums,M.num,M.ra.stay (jx.ok _) fun b o _ e=>f b o e,M.rb.stay (jy.ok _) fun b o _ e=>f b o e⟩
theorem DI (T:Txt K mg t) {D:Addr->Prop} {H:Hp} {lb:Addr} {us:List V} {ys:List (Bond×Nat)} (hb:H lb=some (.lst us)) (R:dS (jy t.cB) D H us ys):jO K H lb us (ys.map JM.bu):=
 ⟨hb,by rw [List.length_map];exact R.len,fun i v q h1 h2=>by
  rw [List.getElem?_map] at h2
  cases hz:ys[i]? with
  | none=>rw [hz] at h2;cases h2
  | some z=>
   rw [hz] at h2
   cases h2
   obtain ⟨o,dx,rfl,_,e⟩:=R.at_ i v z h1 hz
   exact ⟨o,_,dx,_,rfl,e,T.iO,T.ju,T.jv,rfl,rfl⟩⟩
theorem dS.Y4 {C C':Addr} {D:Addr->Prop} {H:Hp} {us:List V} {ys:List (Bond×Nat)} {o dx:Addr} (R:dS (jy C) D H us ys) (h:H o=some (.ins C' dx [])):dS (jy C) (fun b=>D b/\b ≠ o) H us ys:=
 ⟨R.len,fun i v z h1 h2=>by
  obtain ⟨b,d,e,hd,hb⟩:=R.at_ i v z h1 h2
  exact ⟨b,d,e,⟨hd,fun q=>by rw [q,h] at hb;cases hb⟩,hb⟩⟩
theorem dS.Y5 {C C':Addr} {D:Addr->Prop} {H:Hp} {us:List V} {ys:List (Atom×Nat)} {o dx:Addr} (R:dS (jx C) D H us ys) (h:H o=some (.ins C' dx [])):dS (jx C) (fun b=>D b/\b ≠ o) H us ys:=
 ⟨R.len,fun i v z h1 h2=>by
  obtain ⟨b,d,e,hd,hb⟩:=R.at_ i v z h1 h2
  exact ⟨b,d,e,⟨hd,fun q=>by rw [q,h] at hb;cases hb⟩,hb⟩⟩
def Ic (t:Ad):Sp:=fun vs H Q _=>∃ (o dx la lb:Addr) (as us:List V) (y:aN) (D:Addr->Prop),vs=[.ref o,.ref la,.ref lb]/\H o=some (.ins t.aI dx [])/\H la=some (.lst as)/\H lb=some (.lst us) /\
 dS (jx t.bX) D H as y.1/\dS (jy t.cB) D H us y.2/\as.length<=1000/\y.2.length<=12/\JM.pQ as.length (y.2.map JM.bu) /\
 ∀ H' z,z.la=la->z.lb=lb->z.as=as->z.us=us->gp t D H' o z y->iP [o] H H'->Q .non H'
theorem KL:aM ["self","atoms","bonds"] ["self","atoms","bonds"] (aF k8):=mL (by decide +kernel)
theorem KN (T:Txt K mg t):bI P w K mg base mr 4 t.cG t.gD ["self","atoms","bonds"] (Ic t):=by
 have GI:bI P w K mg base mr 2 t.bU t.gu ["self","atoms","bonds"] (BF K t.aI):=D5 T T.aU T.aX T.eE T.bG;have GS:=@MF P w K mg base t T;have GR:=@ES P w K mg base t T;have GP:=@KG P w K mg base t T;refine T.gM.ok KL (fun vs H Q E h=>?_) (fun cdv A outer s H vs Q E hr h=>?_)
 . obtain ⟨o,dx,la,lb,as,us,y,D,rfl,_⟩:=h
   rfl
 . obtain ⟨o,dx,la,lb,as,us,y,D,rfl,h0,ha,hb,RA,RB,hn,hm,rise,k⟩:=h
   have hr2:cU 2 _:=hr.mono (by decide);have hr1:cU 1 _:=hr.mono (by decide);refine ⟨_,aq (dJ (JD rfl T.AG T.tM GI hr2 T.nZ cZ (af (pv 0) (af (pv 1) (af (pv 2) ay)))))
     (aq (fP (pv 0) (bB GS hr1 rfl T.tK T.iF.kp T.tF .nil cZ (af (c9 aY (by rfl) T.j6 PySem.boot_len (af (pv 1) ay)) (af (pv 2) ay))) rfl)
     (aq (fP (pv 0) (bB GR hr rfl T.n6 T.e9.kp T.nk .nil cZ (af (aL (pv 0) rfl) (af (pv 2) ay))) rfl)
     (aE (fP (pv 0) (bB GP hr1 rfl T.qk T.fZ.kp T.qg .nil cZ (af (pv 2) ay)) rfl)))),?_⟩
   have Y6:=RA.Y5 h0;have Wt:=RB.Y4 h0;have B0:=DI T hb RB;have ao:la ≠ o:=kM ha h0 (by intro z;cases z);have bo:lb ≠ o:=kM hb h0 (by intro z;cases z);refine ⟨_,rfl,_,rfl,_,rfl,?_⟩;refine ⟨o,dx,la,lb,as,us,y.2.map JM.bu,rfl,h0,ha,hb,hn,by rw [List.length_map];omega,B0.2.1,fun i v q h1 h2=>⟨B0.2.2 i v q h1 h2,fun z=>?_⟩,rise.1,fun H1 lr rs G F1=>?_⟩
   . obtain ⟨o',C',dx',fs',e,e',_,_,_,e4,_⟩:=B0.2.2 i v q h1 h2
     rw [z] at e;cases e;rw [h0] at e';cases e';cases e4
   obtain ⟨d1,e1⟩:=G.obj;have Y7:dS (jx t.bX) (fun b=>D b/\b ≠ o) H1 as y.1:=Y6.stay (jx.ok _) fun b u hd h=>F1 b u h (by simpa using hd.2);have Vd:dS (jy t.cB) (fun b=>D b/\b ≠ o) H1 us y.2:=Wt.stay (jy.ok _) fun b u hd h=>F1 b u h (by simpa using hd.2);have HQ:y.1.length=as.length:=RA.len.symm;refine ⟨_,rfl,la,as,rfl,.inl (c8.of G.atoms),_,rfl,?_⟩;refine ⟨as.length,lb,us,y.2,_,rfl,hn,G.bonds,Vd,rise.1,fun H2 ls s2 Wu hls=>?_⟩;rw [KJ y HQ] at hls;have e2:=s2 _ _ e1;refine ⟨_,rfl,o,_,d1,_,rfl,e2,T.aU,T.gO,(by show 3 < 1000;decide),?_⟩;have Zz:∀ {Hx:Hp} {b:Addr} {u:HO} {C' d':Addr} {f':List (Str×V)},Hx b=some u->Hx o=some (.ins C' d' f')->(∀ x,u ≠ .ins C' d' x)->b ≠ o:=fun {Hx b u C' d' f'} h1 h2 n z=>by
     rw [z,h2] at h1;exact n _ (Option.some.inj h1).symm
   have Ve:ls ≠ o:=fun z=>by rw [z,e1] at Wu;cases Wu
   have st:∀ {Hx:Hp} (b:Addr) (u v:HO),b ≠ o->Hx b=some u->upd Hx o v b=some u:=fun {Hx} b u v n e=>by rw [ak n];exact e
   have MK:∀ (i:Nat) v q,us[i]?=some v->(y.2.map JM.bu)[i]?=some q->∃ b,v=.ref b/\b ≠ o:=fun i v q h1 h2=>by
     rw [List.getElem?_map] at h2;cases hz:y.2[i]? with
     | none=>rw [hz] at h2;cases h2
     | some z=>
       obtain ⟨b,d,e,hd,_⟩:=Wt.at_ i v z h1 hz;exact ⟨b,e,hd.2⟩
   have B1:=DI T G.bonds Vd;have Bo:∀ {Hx:Hp} (v:HO),jO K Hx lb us (y.2.map JM.bu)->jO K (upd Hx o v) lb us (y.2.map JM.bu):=fun {Hx} v b=>⟨st _ _ _ bo b.1,b.2.1,fun i x q h1 h2=>by
     obtain ⟨b',e,n⟩:=MK i x q h1 h2;obtain ⟨o',C',dx',fs',e0,e',rest⟩:=b.2.2 i x q h1 h2;rw [e] at e0;cases e0;exact ⟨b',C',dx',fs',e,st _ _ _ n e',rest⟩⟩
   have B3:=Bo (.ins t.aI d1 (fH "sums" (.ref ls) (Tn la lb lr))) (B1.same s2);refine ⟨_,rfl,fld ai T.aU T.gO rfl ⟨_,rfl,?_⟩⟩;refine ⟨ls,lb,as.length,cS (az y),us,y.2.map JM.bu,rfl,st _ _ _ Ve hls,by rw [JM.qZ,jz,HQ],hn,B3,by rw [List.length_map];exact hm,rise.1,fun H4 lo s4 nlo hlo=>?_⟩;have e4:=s4 _ _ ai;have Wv:lo ≠ o:=fun z=>by rw [z,ai] at nlo;cases nlo
   refine ⟨_,rfl,o,_,d1,_,rfl,e4,T.aU,T.dM,(by show 4 < 1000;decide),?_⟩;have B5:=Bo (.ins t.aI d1 (fH "orders" (.ref lo) (fH "sums" (.ref ls) (Tn la lb lr)))) (B3.same s4);refine ⟨_,rfl,?_⟩;refine ⟨lb,us,y.2.map JM.bu,as.length,rfl,B5,by rw [List.length_map];omega,rise,fun H6 ln kvs s6 Ww Tg N=>?_⟩;have e6:=s6 _ _ ai;have Y8:ln ≠ o:=fun z=>by rw [z,ai] at Ww;cases Ww
   refine ⟨_,rfl,o,_,d1,_,rfl,e6,T.aU,T.c6,(by show 5 < 1000;decide),?_⟩;have Wx:∀ b u,b ≠ o->H2 b=some u->H6 b=some u:=fun b u n e=>s6 _ _ (st _ _ _ n (s4 _ _ (st _ _ _ n e)));have Y9:∀ b u,b ≠ o->H1 b=some u->H6 b=some u:=fun b u n e=>Wx b u n (s2 _ _ e);have Fin:∀ b u,b ≠ o->H1 b=some u->upd H6 o (.ins t.aI d1 (fH "bond_numbers" (.ref ln) (fH "orders" (.ref lo) (fH "sums" (.ref ls) (Tn la lb lr))))) b=some u:=fun b u n e=>st _ _ _ n (Y9 b u n e);refine k _ ⟨la,lb,lr,ls,lo,ln,as,us,rs,kvs⟩ rfl rfl rfl rfl ⟨⟨d1,ai⟩,Fin _ _ ao G.atoms,Fin _ _ bo G.bonds,G.rows.stay fun b u e hb'=>?_,st _ _ _ Ve (Wx _ _ Ve hls),?_,st _ _ _ Y8 Tg,N,?_,?_⟩ ?_
   . refine Fin b u (fun z=>?_) e
     rw [z,e1] at e;cases e;rcases hb' with r | r
     . have:=G.rows.lst
       rw [<- r,z,e1] at this;cases this
     . obtain ⟨j,hj⟩:=List.getElem?_of_mem r
       have:=G.rows.at_ j b hj;rw [z,e1] at this;cases this
   . refine st _ _ _ Wv (s6 _ _ (st _ _ _ Wv ?_))
     rw [nI];exact hlo
   . exact (Y7.stay (jx.ok _) fun b u hd h=>Fin b u hd.2 h).mono (jx.ok _) fun b hd=>hd.1
   . exact (Vd.stay (jy.ok _) fun b u hd h=>Fin b u hd.2 h).mono (jy.ok _) fun b hd=>hd.1
   . intro b u e n
     have nb:b ≠ o:=by simpa using n
     exact Fin b u nb (F1 b u e n)
end
structure eu (y:aN):Prop where
 rise:JM.pQ y.1.length (y.2.map JM.bu)
 few:y.2.length<=12
 small:y.1.length<=128
 Kz:∀ z ∈ y.2,(1<=z.1.order/\z.1.order<=3)/\z.1.side<=2
 Z0:∀ z ∈ y.1,z.1.element<=118/\z.1.isotope<=500/\(-4<=z.1.charge/\z.1.charge<=4)/\z.1.hydrogens<=7/\z.1.hand<=2
theorem eu.good {y:aN} (g:eu y):JM.oY (az y):=by
 refine ⟨?_,fun x hx=>?_⟩
 . rw [nI,jz];exact g.rise.1
 . obtain ⟨z,hz,rfl⟩:=List.mem_map.mp (show x ∈ y.2.map fun z=>z.1 from hx)
   exact (g.Kz z hz).1
theorem eu.beside {y:aN} (g:eu y) (v:Nat):(az y).beside v=JM.fJ (y.2.map JM.bu) v:=by
 have e:(az y).bonds.map (fun x=>(x.a,x.b))=y.2.map JM.bu:=nI y;have:=JM.BI (M:=az y) (by rw [e,jz];exact g.rise) v;rw [this,e]
theorem uz {y:aN} {v:Nat} {z:Atom×Nat} (h:y.1[v]?=some z):(az y).atom v=z.1:=by simp [Mol.atom,az,List.getD,h]
theorem eu.Vf {y:aN} (g:eu y) (v:Nat):(JM.fJ (y.2.map JM.bu) v).length<=1000:=by
 have:=yJ (y.2.map JM.bu) v;rw [List.length_map] at this;have:=g.few;omega
section
def PY (t:Ad):Sp:=fun vs H Q _=>∃ (g:Addr) (k:Nat) (z:nG) (y:aN) (D:Addr->Prop),vs=[.ref g,.int (k:Int)]/\gp t D H g z y/\eu y/\k < y.1.length/\∀ H',aR H H'->Q (.bl ((az y).handed k)) H'
theorem BN:aM ["molecule","k","neighbours","hydrogens"] ["molecule","k"] (aF kC):=mL (by decide +kernel)
theorem ML (T:Txt K mg t):bI P w K mg base mr 1 t.dP t.gG ["molecule","k"] (PY t):=by
 refine T.fz.ok BN (fun vs H Q E h=>?_) (fun cdv A outer s H vs Q E hr h=>?_)
 . obtain ⟨g,k,z,y,D,rfl,_⟩:=h
   rfl
 . obtain ⟨g,n,z,y,D,rfl,M,gy,hn,k⟩:=h
   refine ⟨_,aq (aQ (i:=2) BN.nd rfl (Or.inl rfl) (c9 aY (by rfl) T.j6 PySem.boot_len (af (fQ cJ (aL (pv 0) rfl) (pv 1) (fun _ _=>rfl)) ay)))
     (aq (aQ (i:=3) BN.nd rfl (Or.inl rfl) (aL (fQ cJ (aL (pv 0) rfl) (pv 1) (fun _ _=>rfl)) rfl))
     (aE (bC (uE (mj zJ (pv 2) (mJ (af aT (af aT ay))) rfl) (Az (mj Fq (gX uG (pv 2) (pv 3)) aT (gr _))))))),?_⟩
   obtain ⟨dg,eg⟩:=M.obj;obtain ⟨ra,zY⟩:∃ ra,z.rs[n]?=some ra:=⟨_,List.getElem?_eq_getElem (by rw [M.rows.len,M.ra.len];exact hn)⟩;have hA:=M.rows.at_ _ _ zY;have e1:(z.rs.map V.ref)[n]?=some (V.ref ra):=by rw [List.getElem?_map,zY];rfl
   obtain ⟨a,ha⟩:∃ a,y.1[n]?=some a:=⟨_,List.getElem?_eq_getElem hn⟩;obtain ⟨va,Sf⟩:∃ v,z.as[n]?=some v:=⟨_,List.getElem?_eq_getElem (by rw [M.ra.len];exact hn)⟩;obtain ⟨o,dx,rfl,_,rep⟩:=M.ra.at_ n va a Sf ha;refine ⟨_,rfl,fld eg T.aU T.bG rfl ⟨_,rfl,zV (c8.of M.rows.lst) (bT e1) ⟨ra,_,rfl,.inl (c8.of hA),?_⟩⟩⟩;refine ⟨_,rfl,fld eg T.aU T.aX rfl ⟨_,rfl,zV (c8.of M.atoms) (bT Sf) (fld rep T.jd T.eB rfl ?_)⟩⟩;refine ⟨_,rfl,(by show 2<=sizeLine;decide),fun p hp=>⟨p,_,rfl,.inr (j0.of ai),rfl,rfl,_,rfl,?_⟩⟩;have rF:∀ l:List Nat,(vN l).length=l.length:=fun l=>by simp [vN]
   have e2:Iz (.int ((vN (JM.fJ (y.2.map JM.bu) n)).length:Int)) [.int 3,.int 4]=((JM.fJ (y.2.map JM.bu) n).length==3||(JM.fJ (y.2.map JM.bu) n).length==4):=by rw [rF];exact Kx _ 3 4
   have s3:aR H (upd H p (.tup [.int 3,.int 4])):=aG hp;have kk:=k _ s3;have hd:(az y).handed n=(decide (3<=(JM.fJ (y.2.map JM.bu) n).length)&&(decide (a.1.hydrogens<=1)&&decide ((JM.fJ (y.2.map JM.bu) n).length+a.1.hydrogens<=4))):=by
     unfold Mol.handed;rw [gy.beside,uz ha]
   rw [if_neg Bool.false_ne_true,e2];refine C3 (fun h=>?_) (fun h=>?_)
   . refine ⟨_,rfl,_,rfl,_,_,rfl,rfl,_,_,rfl,rfl,?_⟩
     simp only [Bool.or_eq_true,beq_iff_eq] at h;have e3:decide (((vN (JM.fJ (y.2.map JM.bu) n)).length:Int)+(a.1.hydrogens:Int)<=4)=(az y).handed n:=by
       rw [hd,rF,Bool.eq_iff_iff];simp only [Bool.and_eq_true,decide_eq_true_eq];omega
     rw [<- e3] at kk;exact kk
   . rw [Bool.not_eq_true] at h
     have e3:(az y).handed n=false:=by
       rw [hd,Bool.eq_false_iff];intro hc;simp only [Bool.and_eq_true,decide_eq_true_eq] at hc;have:¬ (((JM.fJ (y.2.map JM.bu) n).length==3||(JM.fJ (y.2.map JM.bu) n).length==4)=true):=by rw [h];decide
       simp only [Bool.or_eq_true,beq_iff_eq] at this;omega
     rw [e3] at kk;exact kk
def PZ (t:Ad):Sp:=fun vs H Q _=>∃ (g:Addr) (e o:Nat) (z:nG) (y:aN) (D:Addr->Prop),vs=[.ref g,.int (e:Int),.int (o:Int)]/\gp t D H g z y/\eu y/\e < y.1.length/\∀ H',aR H H'->Q (.bl ((az y).endMay e o)) H'
theorem FZ:aM ["molecule","end","other","others"] ["molecule","end","other"] (aF jH):=mL (by decide +kernel)
theorem MN (T:Txt K mg t):bI P w K mg base mr 2 t.cW t.fX ["molecule","end","other"] (PZ t):=by
 have GB:bI P w K mg base mr 1 t.b8 t.fq ["self","end","other"] (zZ K t.aI):=EK T T.aU T.bG;refine T.cX.ok FZ (fun vs H Q E h=>?_) (fun cdv A outer s H vs Q E hr h=>?_)
 . obtain ⟨g,e,o,z,y,D,rfl,_⟩:=h
   rfl
 . obtain ⟨g,n,o,z,y,D,rfl,M,gy,hn,k⟩:=h
   refine ⟨_,aq (aQ (i:=3) FZ.nd rfl (Or.inl rfl) (c9 aY (by rfl) T.j6 PySem.boot_len (af (bM (pv 0) T.aU T.lO GB hr T.oG .nil cZ (af (pv 1) (af (pv 2) ay))) ay)))
     (aE (bC (uE (mj zJ (pv 3) (mJ (af aT (af aT ay))) rfl) (Az (mj Fq (gX uG (pv 3) (aL (fQ cJ (aL (pv 0) rfl) (pv 1) (fun _ _=>rfl)) rfl)) aT (gr _)))))),?_⟩
   obtain ⟨dg,eg⟩:=M.obj;obtain ⟨a,ha⟩:∃ a,y.1[n]?=some a:=⟨_,List.getElem?_eq_getElem hn⟩;obtain ⟨va,Sf⟩:∃ v,z.as[n]?=some v:=⟨_,List.getElem?_eq_getElem (by rw [M.ra.len];exact hn)⟩;obtain ⟨b,dx,rfl,_,rep⟩:=M.ra.at_ n va a Sf ha;refine ⟨_,rfl,g,dg,_,rfl,eg,rfl,_,rfl,_,rfl,?_⟩;refine ⟨g,dg,z.lr,_,z.rs,z.as.length,n,o,_,rfl,eg,rfl,M.rows,by rw [M.ra.len];exact hn,gy.Vf _,fun H1 l1 s1 Z1 hl1=>?_⟩;refine ⟨l1,_,rfl,.inl (c8.of hl1),?_⟩;refine ⟨_,rfl,(by show 2<=sizeLine;decide),fun p hp=>⟨p,_,rfl,.inr (j0.of ai),rfl,rfl,_,rfl,?_⟩⟩;have s3:aR H (upd H1 p (.tup [.int 1,.int 2])):=s1.trans (aG hp);have kk:=k _ s3;have rF:∀ l:List Nat,(vN l).length=l.length:=fun l=>by simp [vN]
   have e2:Iz (.int ((vN ((JM.fJ (y.2.map JM.bu) n).filter fun x=>x != o)).length:Int)) [.int 1,.int 2]=(((JM.fJ (y.2.map JM.bu) n).filter fun x=>x != o).length==1||((JM.fJ (y.2.map JM.bu) n).filter fun x=>x != o).length==2):=by rw [rF];exact Kx _ 1 2
   have hd:(az y).endMay n o=(decide (1<=((JM.fJ (y.2.map JM.bu) n).filter fun x=>x != o).length)&&decide (((JM.fJ (y.2.map JM.bu) n).filter fun x=>x != o).length+a.1.hydrogens<=2)):=by
     unfold Mol.endMay Mol.besides;rw [gy.beside,uz ha]
   rw [if_neg Bool.false_ne_true,e2];refine C3 (fun h=>?_) (fun h=>?_)
   . refine ⟨_,rfl,_,rfl,fld (s3 _ _ eg) T.aU T.aX rfl ⟨_,rfl,zV (c8.of (s3 _ _ M.atoms)) (bT Sf) (fld (s3 _ _ rep) T.jd T.eB rfl ⟨_,_,rfl,rfl,_,_,rfl,rfl,?_⟩)⟩⟩
     simp only [Bool.or_eq_true,beq_iff_eq] at h;have e3:decide (((vN ((JM.fJ (y.2.map JM.bu) n).filter fun x=>x != o)).length:Int)+(a.1.hydrogens:Int)<=2)=(az y).endMay n o:=by
       rw [hd,rF,Bool.eq_iff_iff];simp only [Bool.and_eq_true,decide_eq_true_eq];omega
     rw [<- e3] at kk;exact kk
   . rw [Bool.not_eq_true] at h
     have e3:(az y).endMay n o=false:=by
       rw [hd,Bool.eq_false_iff];intro hc;simp only [Bool.and_eq_true,decide_eq_true_eq] at hc;have:¬ ((((JM.fJ (y.2.map JM.bu) n).filter fun x=>x != o).length==1||((JM.fJ (y.2.map JM.bu) n).filter fun x=>x != o).length==2)=true):=by rw [h];decide
       simp only [Bool.or_eq_true,beq_iff_eq] at this;omega
     rw [e3] at kk;exact kk
def Qa (t:Ad):Sp:=fun vs H Q _=>∃ (g:Addr) (k:Nat) (z:nG) (y:aN) (D:Addr->Prop),vs=[.ref g,.int (k:Int)]/\gp t D H g z y/\eu y/\k < y.2.length/\∀ H',aR H H'->Q (.bl ((az y).sided k)) H'
theorem BO:aM ["molecule","k","bond","fixed_double"] ["molecule","k"] (aF kE):=mL (by decide +kernel)
theorem MO (T:Txt K mg t):bI P w K mg base mr 3 t.dQ t.gH ["molecule","k"] (Qa t):=by
 have GE:=@MN P w K mg base t T;have GB:=@K3 P w K mg base t T;refine T.f6.ok BO (fun vs H Q E h=>?_) (fun cdv A outer s H vs Q E hr h=>?_)
 . obtain ⟨g,k,z,y,D,rfl,_⟩:=h
   rfl
 . obtain ⟨g,n,z,y,D,rfl,M,gy,hn,k⟩:=h
   have hr1:cU 1 _:=hr.mono (by decide);refine ⟨_,aq (aQ (i:=2) BO.nd rfl (Or.inl rfl) (fQ cJ (aL (pv 0) rfl) (pv 1) (fun _ _=>rfl)))
     (aq (aQ (i:=3) BO.nd rfl (Or.inl rfl) (mj xG (fQ cJ (aL (pv 0) rfl) (pv 1) (fun _ _=>rfl)) (bB GB hr1 rfl T.qj T.i8.kp T.qf .nil cZ (af aT ay)) (gr _)))
     (aE (bC (uE (pv 3) (uE (bB GE hr rfl T.jJ T.cX.kp T.jI .nil cZ (af (pv 0) (af (aL (pv 2) rfl) (af (aL (pv 2) rfl) ay))))
       (Az (bB GE hr rfl T.jJ T.cX.kp T.jI .nil cZ (af (pv 0) (af (aL (pv 2) rfl) (af (aL (pv 2) rfl) ay)))))))))),?_⟩
   obtain ⟨dg,eg⟩:=M.obj;obtain ⟨x,hx⟩:∃ x,y.2[n]?=some x:=⟨_,List.getElem?_eq_getElem hn⟩;obtain ⟨vb,Wy⟩:∃ v,z.us[n]?=some v:=⟨_,List.getElem?_eq_getElem (by rw [M.rb.len];exact hn)⟩;obtain ⟨b,dx,rfl,_,rep⟩:=M.rb.at_ n vb x Wy hx;have hq:x.1.a < x.1.b/\x.1.b < y.1.length:=gy.rise.1 (JM.bu x) (List.mem_map_of_mem (List.mem_of_getElem? hx));have hfo:(vI (ux (cS (az y)) (b5 (az y))))[n]?=some (.int (JM.fG (JM.Found (cS (az y)) (b5 (az y)) n):Int)):=o8 (iV (by rw [nI,List.length_map];exact hn));refine ⟨_,rfl,fld eg T.aU T.eE rfl ⟨_,rfl,zV (c8.of M.bonds) (bT Wy) ?_⟩⟩;refine ⟨_,rfl,fld eg T.aU T.dM rfl ⟨_,rfl,zV (c8.of M.orders) (bT hfo) ?_⟩⟩;refine ⟨2,rfl,by decide,by decide,rfl,?_⟩;have hb:(az y).bonds[n]?=some x.1:=by simp [az,hx]
   have hnb:n < (az y).bonds.length:=(List.getElem?_eq_some_iff.mp hb).1;have fx:=gy.good.fixed hnb;have sd:(az y).sided n=(decide (JM.fG (JM.Found (cS (az y)) (b5 (az y)) n)=2)&&((az y).endMay x.1.a x.1.b&&(az y).endMay x.1.b x.1.a)):=by
     unfold Mol.sided;rw [hb];simp only;rw [fx]
   have de:decide (V.int (JM.fG (JM.Found (cS (az y)) (b5 (az y)) n):Int)=V.int ((2 ^ (2 - 1):Nat):Int))=decide (JM.fG (JM.Found (cS (az y)) (b5 (az y)) n)=2):=by
     rw [Bool.eq_iff_iff];simp only [decide_eq_true_eq];constructor
     . intro h
       injection h with h;have:((2 ^ (2 - 1):Nat):Int)=2:=rfl;omega
     . intro h
       rw [h]
   rw [de];rw [sd] at k;refine ⟨_,rfl,_,rfl,?_⟩;cases h1:decide (JM.fG (JM.Found (cS (az y)) (b5 (az y)) n)=2) with
   | false=>
     have kk:=k H (aR.refl _);rw [h1,Bool.false_and] at kk;exact kk
   | true=>
     rw [h1,Bool.true_and] at k;refine ⟨_,rfl,_,rfl,fld rep T.iO T.ju rfl ⟨_,rfl,fld rep T.iO T.jv rfl ?_⟩⟩;refine ⟨g,x.1.a,x.1.b,z,y,D,rfl,M,gy,by omega,fun H1 s1=>⟨_,rfl,?_⟩⟩;cases h2:(az y).endMay x.1.a x.1.b with
     | false=>
       have kk:=k H1 s1;rw [h2,Bool.false_and] at kk;exact kk
     | true=>
       rw [h2,Bool.true_and] at k;refine ⟨_,rfl,_,rfl,fld (s1 _ _ rep) T.iO T.jv rfl ⟨_,rfl,fld (s1 _ _ rep) T.iO T.ju rfl ?_⟩⟩;exact ⟨g,x.1.b,x.1.a,z,y,D,rfl,M.same s1,gy,hq.2,fun H2 s2=>k H2 (s1.trans s2)⟩
end
theorem BP (b:Bytes):Fk.judgeMol b=Fk.andThen (ue Fk.MOLMARK JM.oW JM.lR b 0) fun y=>JM.yL (az y) y.1.zipIdx y.2.zipIdx:=by
 rw [JM.D8];unfold ue;simp only [JM.aW,JM.aV]
theorem DJ {α:Type} {l:List α} {i:Nat} {x:α} (h:l[i]?=some x):l.zipIdx.drop i=(x,i)::l.zipIdx.drop (i+1):=by
 obtain ⟨hl,hg⟩:=List.getElem?_eq_some_iff.mp h;rw [List.drop_eq_getElem_cons (by simpa using hl)];simp [hg]
theorem vU:∀ {m b:Bytes} {p:Nat} {y:Bytes×Nat},JM.iZ m b p=.ok y->y.1=b.drop m.length
 | [],b,p,y,h=>by cases h;rfl
 | c::m,b,p,y,h=>by
  unfold JM.iZ at h
  obtain ⟨x,h1,h⟩:=JM.aK h
  obtain ⟨u,h2,h⟩:=JM.aK h
  have e:=vU h
  have:=(JM.aZ h1).2.2.2.1
  rw [e,this,List.drop_drop,List.length_cons,Nat.add_comm]
theorem Qc {B:Bytes} {k:Nat} (h:1<=(B.drop k).length):Fk.num ((B.drop k).take 1)=(B.getD k 0).toNat:=by
 have hk:k < B.length:=by rw [List.length_drop] at h;omega
 rw [List.drop_eq_getElem_cons hk];show Fk.num [B[k]]=_;rw [JM.AE,List.getD,List.getElem?_eq_getElem hk];rfl
theorem DK {α:Type} {one:Bytes->Nat->Except Fault (α×Bytes×Nat)} {Pr:α->Prop} (ho:∀ b p x,one b p=.ok x->Pr x.1):∀ {k:Nat} {b:Bytes} {p:Nat} {y:List α×Bytes×Nat},JM.many one k b p=.ok y->∀ z ∈ y.1,Pr z
 | 0,b,p,y,h=>by cases h;simp
 | k+1,b,p,y,h=>by
   unfold JM.many at h
   obtain ⟨x,h1,h⟩:=JM.aK h
   obtain ⟨l,h2,h⟩:=JM.aK h
   cases h
   intro z hz
   rcases List.mem_cons.mp hz with r | r
   . rw [r];exact ho _ _ _ h1
   . exact DK ho h2 z r
theorem Ag {α:Type} {n:Nat} {one:Nat×Nat->Bytes->Nat->Except Fault (α×Bytes×Nat)} {Pr:α->Prop} (ho:∀ q b p x,one q b p=.ok x->Pr x.1):∀ {k:Nat} {had:Option (Nat×Nat)} {b:Bytes} {p:Nat} {y:List α×Bytes×Nat},JM.gC n one k had b p=.ok y->∀ z ∈ y.1,Pr z
 | 0,_,b,p,y,h=>by cases h;simp
 | k+1,had,b,p,y,h=>by
   unfold JM.gC at h
   obtain ⟨q,h0,h⟩:=JM.aK h
   obtain ⟨x,h1,h⟩:=JM.aK h
   obtain ⟨l,h2,h⟩:=JM.aK h
   cases h
   intro z hz
   rcases List.mem_cons.mp hz with r | r
   . rw [r];exact ho _ _ _ _ h1
   . exact Ag ho h2 z r
theorem BQ (b:Bytes) (p:Nat) (x:(Atom×Nat)×Bytes×Nat) (h:JM.oW b p=.ok x):x.1.1.element<=118/\x.1.1.isotope<=500/\(-4<=x.1.1.charge/\x.1.1.charge<=4)/\x.1.1.hydrogens<=7/\x.1.1.hand<=2:=by
 unfold JM.oW JM.lB at h;obtain ⟨w,h0,hw⟩:=JM.aK h;cases hw;obtain ⟨a1,h1,h0⟩:=JM.aK h0;obtain ⟨a2,h2,h0⟩:=JM.aK h0;obtain ⟨a3,h3,h0⟩:=JM.aK h0;obtain ⟨a4,h4,h0⟩:=JM.aK h0;obtain ⟨a5,h5,h0⟩:=JM.aK h0;cases h0;have g1:=(JM.aZ h1).2.1;have g2:=(JM.aZ h2).2.1;have g3:=(JM.aZ h3).2.1;have g4:=(JM.aZ h4).2.1;have g5:=(JM.aZ h5).2.1;simp only [Bool.and_eq_true,decide_eq_true_eq] at g1 g2 g3 g4 g5;unfold Fk.ELEMENTS at g1;unfold Fk.ISOTOPE at g2;simp only;omega
theorem BR (q:Nat×Nat) (b:Bytes) (p:Nat) (x:(Bond×Nat)×Bytes×Nat) (h:JM.lR q b p=.ok x):(1<=x.1.1.order/\x.1.1.order<=3)/\x.1.1.side<=2:=by
 unfold JM.lR JM.jR at h;obtain ⟨w,h0,hw⟩:=JM.aK h;cases hw;obtain ⟨a1,h1,h0⟩:=JM.aK h0;obtain ⟨a2,h2,h0⟩:=JM.aK h0;cases h0;have g1:=(JM.aZ h1).2.1;have g2:=(JM.aZ h2).2.1;simp only [Bool.and_eq_true,decide_eq_true_eq] at g1 g2;simp only;omega
theorem DL {B:Bytes} {y:aN} (hy:ue Fk.MOLMARK JM.oW JM.lR B 0=.ok y) (few:(B.getD 5 0).toNat<=12):eu y:=by
 unfold ue at hy;obtain ⟨m,hm,hy⟩:=JM.aK hy;obtain ⟨n,hn,hy⟩:=JM.aK hy;obtain ⟨k,hk,hy⟩:=JM.aK hy;obtain ⟨x,hx,hy⟩:=JM.aK hy;obtain ⟨z,hz,hy⟩:=JM.aK hy;obtain ⟨_,_,hy⟩:=JM.aK hy;cases hy;have e1:=vU hm;have e2:=(JM.aZ hn).2.2.2.1;have e3:=(JM.aZ hk).2.2.1;have e4:=(JM.aZ hk).1;have RL:=of_decide_eq_true (JM.aZ hn).2.1;unfold Fk.ATOMS at RL;have lx:=JM.m5 hx;have lz:=JM.nP hz;have e5:n.2.1=B.drop 5:=by rw [e2,e1,List.drop_drop];rfl
 rw [e5] at e3 e4;rw [Qc e4] at e3;refine ⟨?_,by simp only;omega,by simp only;omega,Ag BR hz,DK BQ hx⟩;have:=(JM.pS (ends:=JM.bu) JM.yN hz).1;simp only;rw [lx];exact this
theorem Vg (b:Bytes) (p:Nat) (y:(Atom×Nat)×Bytes×Nat) (h:JM.oW b p=.ok y):((y.1.2:Nat):Int)=(y.2.2:Int) - 1:=by
 unfold JM.oW at h;obtain ⟨w,h1,h⟩:=JM.aK h;cases h;have:=JM.qI h1;simp only;omega
theorem Vh (q:Nat×Nat) (b:Bytes) (p:Nat) (y:(Bond×Nat)×Bytes×Nat) (h:JM.lR q b p=.ok y):((y.1.2:Nat):Int)=(y.2.2:Int) - 1:=by
 unfold JM.lR at h;obtain ⟨w,h1,h⟩:=JM.aK h;cases h;have:=JM.qJ h1;simp only;omega
section
theorem eW.same {K:Zqq} {C:Addr} {H H':Hp} {r:Addr} {x:BD} (R:eW K C H r x) (f:aR H H'):eW K C H' r x:=R.stay (S:=[]) (aR.R8 f) (by simp) (by simp) (by simp) (by simp)
def MQ (K:Zqq) (t:Ad):Sp:=fun vs H Q E=>∃ (a:Addr) (w:Int) (B:Bytes),vs=[.ref a,.int w]/\qE K H a B/\B.length<=6000/\(B.getD 5 0).toNat<=12 /\
 mF t.aH w (Fk.judgeMol B) (fun M=>∀ H' g z y,gp t (fun b=>H b=none) H' g z y->eu y->M=az y->aR H H'->Q (.ref g) H') E
theorem ku:aM ["form","which","reader","graph","molecule","k","atom","bond"] ["form","which"] (aF k9):=mL (by decide +kernel)
theorem KO (T:Txt K mg t):bI P w K mg base (rB P w) 10 t.dO t.gF ["form","which"] (MQ K t):=by
 have GI:=@Km P w K mg base t T;have GF:=@nE P w K mg base t T;have GH:=@ML P w K mg base t T;have GS:=@MO P w K mg base t T;have GM:=@KN P w K mg base t T;have GG:bI P w K mg base (rB P w) 9 t.fB t.iD ["reader","mark","take_atom","take_bond"] (FQ K t.aB t.aH t.bH t.fC t.fD JM.oW JM.lR (jx t.bX) (jy t.cB) (fun z=>z.2) (fun z=>z.2) JM.bu):=
   Kv T (jx.ok _) (jy.ok _) Vg Vh JM.yN (fun ⟨o,dx,e,d,h⟩=>⟨o,e,d,o,_,dx,_,e,h,T.iO,T.ju,T.jv,rfl,rfl⟩) ((Py T).mono (by decide)) T.je.kp T.vD ((Pz T).mono (by decide)) T.jf.kp T.vE
 obtain ⟨Yj,g4⟩:=T.n8;obtain ⟨Z2,g6⟩:=T.nA;refine T.dR.IA ku (fun vs H Q E h=>?_) (fun cdv A outer s H vs Q E hr h=>?_)
 . obtain ⟨a,w,B,rfl,_⟩:=h
   rfl
 . obtain ⟨a,w,B,rfl,hB,hlen,few,bS⟩:=h
   have hr1:cU 1 _:=hr.mono (by decide);have hr2:cU 2 _:=hr.mono (by decide);have Kp:cU 3 _:=hr.mono (by decide);have IB:cU 5 _:=hr.mono (by decide);refine ⟨_,aq (aQ (i:=2) ku.nd rfl (Or.inl rfl) (sS T.CM GI hr2 rfl T.CL T.rQ .nil cZ (af (pv 0) (af (pv 1) ay))))
     (aq (aQ (i:=3) ku.nd rfl (Or.inl rfl) (bB GG hr rfl T.tH T.iE.kp T.tE .nil fL (af (pv 2) (af (b9 rfl T.JL (v:=.ref t.qe) rfl) (af (b9 rfl T.vH (v:=.ref t.fC) rfl) (af (b9 rfl T.vJ (v:=.ref t.fD) rfl) ay))))))
     (aq (aQ (i:=4) ku.nd rfl (Or.inl rfl) (sS T.yi GM IB rfl T.yh T.oH .nil cZ (af (aL (pv 3) rfl) (af (aL (pv 3) rfl) ay))))
     (aq (dN Ht rfl (AA rfl T.mD (af (aL (pv 4) rfl) ay)) (Ei rfl (mW (bx (i:=5) ku.nd rfl (Or.inl rfl)) (mW (bx (i:=6) ku.nd rfl (Or.inl rfl)) A0)))
       (aE (l8 (PW.pt (Ay (fM Cj (aL (pv 6) rfl) aT (gr _)) (wQ (IJ (uD (bB GH hr1 rfl T.oQ T.fz.kp T.oK .nil cZ (af (pv 4) (af (pv 5) ay))))))))
         (aE (dJ (bM (pv 2) T.aJ T.dH GF Kp T.dF .nil fL (af (b9 rfl g4 (v:=.int 4) ⟨_,rfl⟩) (af (fQ cJ (aL (pv 2) rfl) (pv 5) (fun _ _=>rfl)) ay))))) gq)))
     (aq (dN Ht rfl (AA rfl T.mD (af (aL (pv 4) rfl) ay)) (Ei rfl (mW (bx (i:=5) ku.nd rfl (Or.inl rfl)) (mW (bx (i:=7) ku.nd rfl (Or.inl rfl)) A0)))
       (aE (l8 (PW.pt (Ay (fM Cj (aL (pv 7) rfl) aT (gr _)) (wQ (IJ (uD (bB GS Kp rfl T.oR T.f6.kp T.oM .nil cZ (af (pv 4) (af (pv 5) ay))))))))
         (aE (dJ (bM (pv 2) T.aJ T.dH GF Kp T.dF .nil fL (af (b9 rfl g6 (v:=.int 6) ⟨_,rfl⟩) (af (fQ cJ (aL (pv 2) rfl) (pv 5) (fun _ _=>rfl)) ay))))) gq)))
     (aE (bC (pv 4))))))),?_⟩
   refine ⟨_,rfl,_,rfl,fun r dx nr nd ne=>?_⟩;have NR:∀ b u,H b=some u->upd (upd H dx (.own r)) r (.ins t.aB dx []) b=some u:=fun b u e=>by rw [ak (au e nr),ak (au e nd)];exact e
   have hB':qE K (upd (upd H dx (.own r)) r (.ins t.aB dx [])) a B:=by
     rcases hB with ⟨o,h⟩ | h
     . exact .inl ⟨o,NR _ _ h⟩
     . exact .inr h
   refine ⟨r,dx,a,w,B,rfl,ai,hB',hlen,fun H1 hp sp YA YB R1 F1=>⟨rfl,?_⟩⟩;have S1:aR H H1:=fun b u e=>(iP.made (S:=[]) nr nd F1) b u e (by simp);have old:∀ b,upd (upd H dx (.own r)) r (.ins t.aB dx []) b=none->H b=none:=fun b h=>by
     cases q:H b with
     | none=>rfl
     | some u=>rw [NR b u q] at h;cases h
   rw [BP] at bS;refine ⟨_,rfl,?_⟩;refine ⟨r,t.qe,Fk.MOLMARK,_,rfl,R1,rfl,rfl,T.JN,bS.andThen'.mono fun y hy bS H2 g la lb lr as us rs b p R2 F2 G2 Wz YC rise=>?_⟩;have S2:aR H H2:=fun c u e=>F2 c u (S1 c u e) (by
     have h1:c ≠ r:=au e nr;have h2:c ≠ hp:=au e (old hp YA);have h3:c ≠ sp:=au e (old sp YB);simp [h1];exact ⟨h2,h3⟩)
   have gy:eu y:=DL hy few;have nn:∀ b,H1 b=none->H b=none:=fun b d=>by
     cases q:H b with
     | none=>rfl
     | some u=>rw [S1 b u q] at d;cases d
   have HQ:y.1.length=as.length:=Wz.len.symm;obtain ⟨dg,eg⟩:=G2.obj;refine ⟨_,rfl,fld eg T.xr T.iT rfl ⟨_,rfl,fld eg T.xr T.iU rfl (fun o d3 no W0 ne3=>?_)⟩⟩;have Ga:∀ b u,H2 b=some u->upd (upd H2 d3 (.own o)) o (.ins t.aI d3 []) b=some u:=fun b u e=>by rw [ak (au e no),ak (au e W0)];exact e
   refine ⟨o,d3,la,lb,as,us,y,fun b=>H b=none,rfl,ai,Ga _ _ G2.atoms,Ga _ _ G2.bonds,(Wz.mono (jx.ok _) nn).stay (jx.ok _) (fun b u _ h=>Ga b u h),(YC.mono (jy.ok _) nn).stay (jy.ok _) (fun b u _ h=>Ga b u h),by have:=gy.small;omega,gy.few,rise,fun H4 z hz1 hz2 YD YE M F4=>⟨rfl,?_⟩⟩;subst hz1 hz2 YD YE;have W2:aR H2 H4:=fun b u e=>(iP.made (S:=[]) no W0 F4) b u e (by simp);have R4:=R2.same W2;have S4:aR H H4:=S2.trans W2;obtain ⟨dm,em⟩:=M.obj;have Sg:z.as.length=y.1.length:=M.ra.len;refine ⟨_,rfl,fld em T.aU T.aX rfl ⟨z.la,z.as,rfl,c8.of M.atoms,?_⟩⟩;let vc:L2.Iv:=fun i σ H'=>∃ vk va,σ=[some (.ref a),some (.int w),some (.ref r),some (.ref g),some (.ref o),vk,va,none]/\aR H4 H' /\
     mF t.aH w (JM.yL (az y) (y.1.zipIdx.drop i) y.2.zipIdx) (fun Mo=>∀ H' g z y,gp t (fun b=>H b=none) H' g z y->eu y->Mo=az y->aR H H'->Q (.ref g) H') E
   refine yK (K:=K) (a:=z.la) (xs:=z.as) vc
     ⟨none,none,rfl,aR.refl _,bS⟩ (fun i σ H' _ ⟨_,_,_,sm,_⟩=>c8.of (sm _ _ M.atoms)) ?_ ?_
   . rintro i x σ H' Tt hx ⟨vk,va,rfl,sm,bS⟩ hT
     have hi:i < z.as.length:=(List.getElem?_eq_some_iff.mp hx).1;obtain ⟨c,hc⟩:∃ c,y.1[i]?=some c:=⟨_,List.getElem?_eq_getElem (by omega)⟩;obtain ⟨q,dq,rfl,_,rep⟩:=M.ra.at_ i x c hx hc;rw [DJ hc,JM.EL] at bS;have sm':aR H4 (upd H' Tt (.tup [.int (i:Int),.ref q])):=sm.trans (aG hT);refine ⟨Tt,_,rfl,j0.of ai,rfl,_,_,rfl,_,_,rfl,rfl,?_⟩;refine ⟨_,rfl,fld (sm' _ _ rep) T.jd T.kj rfl ⟨rfl,_,rfl,?_⟩⟩;have de:(!decide (V.int (c.1.hand:Int)=V.int 0))=(c.1.hand != 0):=by
       rw [Bool.eq_iff_iff];simp
     rw [de];cases h1:(c.1.hand != 0) with
     | false=>
       have nb:¬ JM.wN (az y) (c,i)=true:=by simp [JM.wN,h1]
       rw [if_neg nb] at bS;exact ⟨_,_,rfl,sm',bS⟩
     | true=>
       refine ⟨_,rfl,_,rfl,?_⟩;refine ⟨o,i,z,y,_,rfl,M.same sm',gy,by omega,fun H5 s5=>⟨_,rfl,?_⟩⟩;have Sh:aR H4 H5:=sm'.trans s5;cases h2:(az y).handed i with
       | true=>
         have nb:¬ JM.wN (az y) (c,i)=true:=by simp [JM.wN,h1,h2]
         rw [if_neg nb] at bS;exact ⟨_,_,rfl,Sh,bS⟩
       | false=>
         have nb:JM.wN (az y) (c,i)=true:=by simp [JM.wN,h1,h2]
         rw [if_pos nb] at bS;have R5:=R4.same Sh;obtain ⟨d5,e5⟩:=R5.obj;have e6:((y.1.map fun z=>((z.2:Nat):Int)).map V.int)[i]?=some (V.int (c.2:Int)):=by simp [hc]
         refine ⟨_,rfl,r,d5,_,rfl,e5,rfl,_,rfl,fld e5 T.aJ T.cz rfl ⟨_,rfl,zV (c8.of R5.hpl) (bT e6) ?_⟩⟩;exact ⟨r,w,4,(c.2:Int),d5,_,rfl,e5,rfl,fun H' d' hF=>bS H' d' hF⟩
   . rintro σ H' ⟨vk,va,rfl,sm,bS⟩
     rw [Sg,show y.1.zipIdx.drop y.1.length=[] from List.drop_eq_nil_of_le (by simp)] at bS;have M5:=M.same sm;obtain ⟨Z3,YF⟩:=M5.obj;refine ⟨_,rfl,fld YF T.aU T.eE rfl ⟨z.lb,z.us,rfl,c8.of M5.bonds,?_⟩⟩;let FY:L2.Iv:=fun i σ H'=>∃ vk vb,σ=[some (.ref a),some (.int w),some (.ref r),some (.ref g),some (.ref o),vk,va,vb]/\aR H4 H' /\
       mF t.aH w (JM.Ab (az y) (y.2.zipIdx.drop i)) (fun Mo=>∀ H' g z y,gp t (fun b=>H b=none) H' g z y->eu y->Mo=az y->aR H H'->Q (.ref g) H') E
     refine yK (K:=K) (a:=z.lb) (xs:=z.us) FY
       ⟨vk,none,rfl,sm,bS⟩ (fun i σ H' _ ⟨_,_,_,sm,_⟩=>c8.of (sm _ _ M.bonds)) ?_ ?_
     . rintro i x σ H' Tt hx ⟨vk,vb,rfl,sm,bS⟩ hT
       have hi:i < z.us.length:=(List.getElem?_eq_some_iff.mp hx).1;have hi2:i < y.2.length:=by rw [<- M.rb.len];exact hi
       obtain ⟨c,hc⟩:∃ c,y.2[i]?=some c:=⟨_,List.getElem?_eq_getElem hi2⟩;obtain ⟨q,dq,rfl,_,rep⟩:=M.rb.at_ i x c hx hc;rw [DJ hc,JM.EM] at bS;have sm':aR H4 (upd H' Tt (.tup [.int (i:Int),.ref q])):=sm.trans (aG hT);refine ⟨Tt,_,rfl,j0.of ai,rfl,_,_,rfl,_,_,rfl,rfl,?_⟩;refine ⟨_,rfl,fld (sm' _ _ rep) T.iO T.ko rfl ⟨rfl,_,rfl,?_⟩⟩;have de:(!decide (V.int (c.1.side:Int)=V.int 0))=(c.1.side != 0):=by
         rw [Bool.eq_iff_iff];simp
       rw [de];cases h1:(c.1.side != 0) with
       | false=>
         have nb:¬ JM.wO (az y) (c,i)=true:=by simp [JM.wO,h1]
         rw [if_neg nb] at bS;exact ⟨_,_,rfl,sm',bS⟩
       | true=>
         refine ⟨_,rfl,_,rfl,?_⟩;refine ⟨o,i,z,y,_,rfl,M.same sm',gy,hi2,fun H5 s5=>⟨_,rfl,?_⟩⟩;have Sh:aR H4 H5:=sm'.trans s5;cases h2:(az y).sided i with
         | true=>
           have nb:¬ JM.wO (az y) (c,i)=true:=by simp [JM.wO,h1,h2]
           rw [if_neg nb] at bS;exact ⟨_,_,rfl,Sh,bS⟩
         | false=>
           have nb:JM.wO (az y) (c,i)=true:=by simp [JM.wO,h1,h2]
           rw [if_pos nb] at bS;have R5:=R4.same Sh;obtain ⟨d5,e5⟩:=R5.obj;have e6:((y.2.map fun z=>((z.2:Nat):Int)).map V.int)[i]?=some (V.int (c.2:Int)):=by simp [hc]
           refine ⟨_,rfl,r,d5,_,rfl,e5,rfl,_,rfl,fld e5 T.aJ T.c5 rfl ⟨_,rfl,zV (c8.of R5.Ef) (bT e6) ?_⟩⟩;exact ⟨r,w,6,(c.2:Int),d5,_,rfl,e5,rfl,fun H' d' hF=>bS H' d' hF⟩
     . rintro σ H' ⟨vk,vb,rfl,sm,bS⟩
       rw [M.rb.len,show y.2.zipIdx.drop y.2.length=[] from List.drop_eq_nil_of_le (by simp)] at bS;exact ⟨_,rfl,bS H' o z y (M.same sm) gy rfl (S4.trans sm)⟩
end
open Fk (Fault Bytes numIn need andThen Atom Bond Mol PAtom PBond Part)
open Fk (Fault Bytes numIn need andThen PAtom PBond Part)
section
def Vi (CF:Addr):Sp:=fun vs H Q _=>∃ (a dx:Addr) (w r p:Int),vs=[.ref a]/\H a=some (XR a CF dx)/\qX H dx w r p/\∀ H' l,H' l=some (.lst ([-5,w,r,p].map V.int))->Q (.ref l) H'
theorem Sj:aM ["fault"] ["fault"] (aF lE):=mL (by decide +kernel)
theorem Sk (T:Txt K mg t):JA P w K mg base 1 t.eO t.iz ["fault"] (Vi t.aH):=by
 obtain ⟨tk,g⟩:=T.rT;obtain ⟨oc,od,kV,doc,pm,an,cdv,ct,osl,e,lk,hcd⟩:=T.gc.ex;rw [e] at lk;rw [e];refine OX lk hcd Sj (fun vs H Q E h=>?_) (fun A outer s H vs Q E hr h=>?_)
 . obtain ⟨a,dx,w,r,p,rfl,_⟩:=h
   rfl
 . obtain ⟨a,dx,w,r,p,rfl,ha,hf,k⟩:=h
   refine ⟨_,aE (bC (iK (af (b9 rfl g (v:=.int (-5)) ⟨_,rfl⟩) (af (J2 T.fF (pv 0) (by simp) zW rfl) (af (J2 T.fF (pv 0) (by simp) D0 rfl) (af (J2 T.fF (pv 0) (by simp) zX rfl) ay)))))),?_⟩;exact ⟨_,rfl,a,dx,_,_,rfl,ha,hf,rfl,_,rfl,a,dx,_,_,rfl,ha,hf,rfl,_,rfl,a,dx,_,_,rfl,ha,hf,rfl,(by show 4<=sizeLine;decide),fun l hl=>k _ l ai⟩
end
section
def Sl:Sp:=fun vs H Q _=>∃ (l:Addr) (r:List Int),vs=[.ref l]/\H l=some (.lst (vI r))/\r.length<=10000000/\∀ H' p,H' p=some (.lst (vI (0::(r.length:Int)::r)))->Q (.ref p) H'
theorem Qe:aM ["row"] ["row"] (aF nY):=mL (by decide +kernel)
theorem Qg (T:Txt K mg t):bI P w K mg base mr 1 t.gz t.jr ["row"] Sl:=by
 obtain ⟨tk,g⟩:=T.yj;refine T.iG.ok Qe (fun vs H Q E h=>?_) (fun cdv A outer s H vs Q E hr h=>?_)
 . obtain ⟨l,r,rfl,_⟩:=h
   rfl
 . obtain ⟨l,r,rfl,hl,hr0,k⟩:=h
   refine ⟨_,aE (bC (gX O6 (iK (af (b9 rfl g (v:=.int 0) ⟨_,rfl⟩) (af (c9 aY (by rfl) T.j6 PySem.boot_len (af (pv 0) ay)) ay))) (pv 0))),?_⟩;have ln:(vI r).length=r.length:=by simp [vI]
   refine ⟨_,rfl,l,_,rfl,.inl (c8.of hl),(by show 2<=sizeLine;decide),fun p1 hp1=>?_⟩;have s1:=aG (o:=.lst [V.int 0,V.int ((vI r).length:Int)]) hp1;refine ⟨_,rfl,p1,l,_,_,rfl,rfl,ai,s1 _ _ hl,by rw [sizeLine_eq];simp [ln];omega,fun p2 hp2=>k _ p2 ?_⟩;rw [ai,ln];rfl
end
theorem KP {K:Zqq} {H:Hp} {a:Addr} {B:Bytes} (hO:zS H) (hs:c8 K H a (vB B)):qE K H a B:=by
 rcases hs with hs | hs
 . rcases hs with h | ⟨o,h⟩
   . rcases hO a with z | ⟨o,u,z⟩<;>(rw [z] at h;cases h)
   . exact .inl ⟨o,h⟩
 . exact .inr fun H'=>.inr hs
def bytesOf (l:List Int):Bytes:=l.map fun (z:Int)=>UInt8.ofNat z.toNat
theorem vV (l:List Int):(bytesOf l).length=l.length:=by simp [bytesOf]
theorem KQ:∀ l:List Int,(∀ z ∈ l,0<=z/\z<=255)->l.map V.int=vB (bytesOf l)
 | [],_=>rfl
 | z::r,h=>by
  have hz:=h z (by simp)
  have ih:=KQ r fun y hy=>h y (by simp [hy])
  have e:((UInt8.ofNat z.toNat).toNat:Int)=z:=by
   rw [UInt8.toNat_ofNat',Nat.mod_eq_of_lt (by omega)];omega
  unfold vB bytesOf at ih ⊢;simp only [List.map_cons,e,ih]
theorem yP (l:List Int) (h:∀ z ∈ l,0<=z/\z<=255):PartNeutral.bytes l=some (bytesOf l):=by
 have hb:NeutralIO.bytes l=true:=by
  unfold NeutralIO.bytes;rw [List.all_eq_true];intro z hz;have:=h z hz;simp [this]
 unfold PartNeutral.bytes;rw [if_pos hb];rfl
def MR (K:Zqq) (H:Hp) (a:Addr) (xs:List V):Prop:=(∃ o,H a=some (.jB o (.lst xs)))\/∀ H',c8 K H' a xs
theorem MR.same {K:Zqq} {H H':Hp} {a:Addr} {xs:List V} (h:MR K H a xs) (f:aR H H'):MR K H' a xs:=by
 rcases h with ⟨o,h⟩ | h
 . exact .inl ⟨o,f _ _ h⟩
 . exact .inr h
theorem vj {l:List Nat} {i:Nat} {x:V} (h:(vN l)[i]?=some x):∃ v,l[i]?=some v/\x=.int (v:Int):=by
 have ev:(vN l)[i]?=(l[i]?).map (fun (v:Nat)=>V.int (v:Int)):=by simp [vN]
 rw [ev] at h;cases q:l[i]? with
 | none=>rw [q] at h;cases h
 | some v=>rw [q] at h;exact ⟨v,rfl,(Option.some.inj h).symm⟩
theorem DM {X:Cx} {K0:Zqq} (hK:X.K=K0):SW X (QX K0):=by
 subst hK;exact cJ
end MP
namespace JM
open Fk
def Ie (l:List Nat) (v w:Nat):Prop:=∃ p s,l=p++v::w::s
theorem u0 {x:Nat} {l:List Nat} {v w:Nat}:Ie (x::l) v w ↔ (x=v/\l.head?=some w)\/Ie l v w:=by
 constructor
 . rintro ⟨p,s,e⟩
   cases p with
   | nil=>
     rw [List.nil_append,List.cons.injEq] at e;obtain ⟨e1,e2⟩:=e;exact .inl ⟨e1,by rw [e2];rfl⟩
   | cons y p=>
     rw [List.cons_append,List.cons.injEq] at e;exact .inr ⟨p,s,e.2⟩
 . rintro (⟨rfl,h⟩ | ⟨p,s,rfl⟩)
   . cases l with
     | nil=>cases h
     | cons y l=>
       cases h;exact ⟨[],l,rfl⟩
   . exact ⟨x::p,s,rfl⟩
theorem MS {v w:Nat}:¬ Ie [] v w:=by
 rintro ⟨p,s,e⟩;cases p<;>cases e
theorem Gb {l:List Nat} {v w:Nat}:Ie l.reverse v w ↔ Ie l w v:=by
 constructor
 . rintro ⟨p,s,e⟩
   refine ⟨s.reverse,p.reverse,?_⟩;have:=congrArg List.reverse e;simpa using this
 . rintro ⟨p,s,rfl⟩
   exact ⟨s.reverse,p.reverse,by simp⟩
theorem KR {l:List Nat} {x v w:Nat}:Ie (l++[x]) v w ↔ Ie l v w\/(l.getLast?=some v/\x=w):=by
 rw [<- Gb,List.reverse_append,List.reverse_singleton,List.singleton_append,u0,Gb,List.head?_reverse];constructor
 . rintro (⟨a,b⟩ | h)
   . exact .inr ⟨b,a⟩
   . exact .inl h
 . rintro (h | ⟨a,b⟩)
   . exact .inr h
   . exact .inl ⟨b,a⟩
theorem Ah:∀ l:List Nat,l ≠ []->∃ m ∈ l,∀ x ∈ l,m<=x
 | [x],_=>⟨x,by simp,by simp⟩
 | x::y::l,_=>by
   obtain ⟨m,hm,h⟩:=Ah (y::l) (by simp)
   by_cases c:x<=m
   . exact ⟨x,by simp,fun z hz=>by
       rcases List.mem_cons.mp hz with rfl | hz
       . omega
       . have:=h z hz;omega⟩
   . exact ⟨m,List.mem_cons_of_mem _ hm,fun z hz=>by
       rcases List.mem_cons.mp hz with rfl | hz
       . omega
       . exact h z hz⟩
end JM
namespace JM
open Fk
variable {M:Mol}
theorem jL (v w:Nat):M.joined v w=true ↔ ∃ x ∈ M.bonds,x.joins v w=true:=by
 unfold Mol.joined Mol.bond;rw [List.find?_isSome]
theorem Ai (x:Bond) (v w:Nat):x.joins v w=x.joins w v:=by
 unfold Bond.joins;exact Bool.or_comm _ _
theorem sN (v w:Nat):M.joined v w=M.joined w v:=by
 rw [Bool.eq_iff_iff,jL,jL];constructor<;>(rintro ⟨x,h1,h2⟩;exact ⟨x,h1,by rw [Ai];exact h2⟩)
theorem ET (v w:Nat):w ∈ M.beside v ↔ w < M.n/\M.joined v w=true:=by
 unfold Mol.beside;rw [List.mem_filter,List.mem_range]
abbrev Jn (M:Mol):Nat->Nat->Prop:=fun v w=>M.joined v w=true
theorem vW:∀ (n:Nat) (l:List Nat),l.Nodup->(∀ x ∈ l,x < n)->l.length<=n
 | 0,[],_,_=>by simp
 | 0,x::l,_,h=>absurd (h x (by simp)) (by omega)
 | n+1,l,nd,h=>by
   have ih:=vW n (l.erase n) (nd.erase n) (fun x hx=>by
     have:=(nd.mem_erase_iff).mp hx
     have:=h x this.2
     omega)
   by_cases c:n ∈ l
   . have:=List.length_erase_of_mem c
     omega
   . rw [List.erase_of_not_mem c] at ih
     omega
end JM
namespace JM
open Fk
inductive Wk (S:Nat->Nat->Prop) (x:Nat):Nat->Nat->Prop
 | refl:Wk S x 0 x
 | step {k y z:Nat}:Wk S x k y->S y z->Wk S x (k+1) z
theorem Wk.head {S:Nat->Nat->Prop} {x y z k:Nat} (h:S x y) (r:Wk S y k z):Wk S x (k+1) z:=by
 induction r with
 | refl=>exact .step .refl h
 | step _ s ih=>exact .step ih s
theorem Gd {S:Nat->Nat->Prop}:∀ (t:List Nat) (x:Nat),(∀ v w,Ie (x::t) v w->S v w)->Wk S x t.length ((x::t).getLastD 0)
 | [],x,_=>.refl
 | y::t,x,h=>by
  have:=Gd t y fun v w a=>h v w (u0.mpr (.inr a))
  have e:(x::y::t).getLastD 0=(y::t).getLastD 0:=rfl
  rw [e]
  exact this.head (h x y (u0.mpr (.inl ⟨rfl,rfl⟩)))
theorem MT {p s:List Nat} {v w:Nat} (h:Ie p v w):Ie (p++s) v w:=by
 obtain ⟨a,b,rfl⟩:=h;exact ⟨a,b++s,by simp⟩
theorem MU {S:Nat->Nat->Prop} {x y k:Nat} (h:Wk S x k y):∃ l:List Nat,l.Nodup/\l.head?=some x/\l.getLast?=some y/\(∀ v w,Ie l v w->S v w)/\l.length<=k+1:=by
 induction h with
 | refl=>exact ⟨[x],by simp,rfl,rfl,fun v w a=>by
     rcases u0.mp a with ⟨_,q⟩ | q
     . cases q
     . exact absurd q MS,by simp⟩
 | @step k y z _ s ih=>
   obtain ⟨l,nd,hd,la,aj,le⟩:=ih;by_cases c:z ∈ l
   . obtain ⟨p,s',rfl⟩:=List.append_of_mem c
     have e:p++z::s'=(p++[z])++s':=by simp
     refine ⟨p++[z],?_,?_,by simp,fun v w a=>aj v w (by rw [e];exact MT a),by simp at le ⊢;omega⟩
     . rw [e,List.nodup_append] at nd
       exact nd.1
     . cases p with
       | nil=>exact hd
       | cons u p=>exact hd
   . refine ⟨l++[z],?_,?_,by simp,fun v w a=>?_,by simp;exact le⟩
     . rw [List.nodup_append]
       exact ⟨nd,by simp,fun a ha b hb=>by
         simp at hb;subst hb;exact fun q=>c (q ▸ ha)⟩
     . cases l with
       | nil=>cases hd
       | cons u p=>exact hd
     . rcases KR.mp a with a | ⟨a',rfl⟩
       . exact aj v w a
       . rw [la] at a'
         cases a';exact s
variable {M:Mol}
theorem Qh (M:Mol):∀ v w,Jn M v w->Jn M w v:=fun v w h=>by
 show M.joined w v=true
 rw [sN]
 exact h
end JM
namespace MP
open PySem PySem.Spec PyProof.Rows L2
open XL (cK)
open Fk (Fault Bytes numIn need andThen Atom Bond Mol PAtom PBond Part)
open JM (aN az cS b5)
theorem Ge (l:List Nat) (v:Nat):vN (l++[v])=vN l++[.int (v:Int)]:=by simp [vN]
theorem Gf {c:Bool} (b2:Bool) {te:TE} {σ:L2.St} {H:Hp} {Qf:VK} (hx:∀ Qf:VK,Qf (.bl b2) H->te σ H Qf) (h:Qf (.bl (c&&b2)) H):if c=true then te σ H Qf else Qf (.bl false) H:=by
 cases c with
 | true=>exact xT (hx _ h)
 | false=>exact vY h
variable {P:Program} {w:World} {K:Zqq} {mg:Str->Option Value} {base:Heap} {t:Ad}
section
theorem x9 {y:aN} (gy:eu y) {v u:Nat}:u ∈ JM.fJ (y.2.map JM.bu) v ↔ u < (az y).n/\(az y).joined v u=true:=by
 rw [<- gy.beside,JM.ET]
end
theorem MV (l:List Nat):(vN l).all rO=true:=by
 unfold vN;rw [List.all_map,List.all_eq_true];intro x _;rfl
theorem Qi (e:Nat) (l:List Nat):Iz (.int (e:Int)) (vN l)=l.contains e:=by
 unfold Iz vN;rw [List.any_map,Bool.eq_iff_iff,List.any_eq_true,List.contains_iff_mem];constructor
 . rintro ⟨x,hx,h⟩
   have:(x:Int)=(e:Int):=beq_iff_eq.mp h;have:x=e:=by omega
   exact this ▸ hx
 . intro h
   exact ⟨e,h,by show ((e:Int)==(e:Int))=true;simp⟩
theorem lU (l:List Nat):(vN l).length=l.length:=by simp [vN]
def nL (l:List Nat):List Int:=l.map fun (n:Nat)=>(n:Int)
theorem BS (l:List Nat):vN l=vI (nL l):=by simp [vN,vI,nL]
theorem Vk {c:PartNeutral.Call} {x:FkP.Call} (e:PartNeutral.callOf c=some x):PartNeutral.f c=PartNeutral.told (FkP.answer x):=by
 unfold PartNeutral.f;rw [e]
theorem Ig {c:PartNeutral.Call} {x:FkP.Call} (e:PartNeutral.callOf c=some x) (h:PartNeutral.asked [c]=true):PartNeutral.moderate x=true:=by
 unfold PartNeutral.asked at h;simp only [Bool.and_eq_true,List.all_cons] at h;have q:=h.2.2.1.1;unfold PartNeutral.fits at q;rw [e] at q;simpa using q
theorem KS {B:Bytes} (h:PartNeutral.few B=true):(B.getD 4 0).toNat<=9/\(B.getD 5 0).toNat<=12:=by
 unfold PartNeutral.few at h;simpa using h
end MP
namespace HT
open PySem PyProof.Rows
theorem Gg {vs:List Value} {ns:List Int} (h:IntsAre vs ns):∀ {i:Nat},i < vs.length->∃ a t,vs[i]?=some (.int a t)/\ns[i]?=some a:=by
 induction h with
 | nil=>intro i hi;cases hi
 | cons a t _ ih=>
  intro i hi;cases i with
  | zero=>exact ⟨a,t,rfl,rfl⟩
  | succ i=>exact ih (Nat.lt_of_succ_lt_succ hi)
theorem BU {α:Type} {l:List α} {i:Nat} {a:α} (h:l[i]?=some a):l.drop i=a::l.drop (i+1):=by
 have hi:=(List.getElem?_eq_some_iff.mp h).1;rw [List.drop_eq_getElem_cons hi,(List.getElem?_eq_some_iff.mp h).2]
section
open PySem.SeqAt
open PySem.AutoSeq1 (wpAny_loadPart')
open PySem.MeetsSeq PySem.MeetsSeq2 PySem.MeetsSeq3
theorem MW (l b:Addr) (items items2:Array Value) (n n2:Nat) (dd dd2:Option Addr) (sl sl2:Array (Option Value)) (ns ms:List Int) (hi:IntsAre items.toList ns) (hj:IntsAre items2.toList ms) (k:Nat) :
   ∀ i:Nat,items.size - i=k->i<=items.size->i<=items2.size->Meets (Builtin.«list.__eq__.loop» ⟨[.ref l,.ref b,rawInt i,rawInt 0],[]⟩)
     (fun A R s=>s.heap.get? l=some { cls:=.type "list",dict:=dd,data:=.seq items n,slots:=sl }/\s.heap.get? b=some { cls:=.type "list",dict:=dd2,data:=.seq items2 n2,slots:=sl2 } /\
       R (.ok (.ret (.bool (lexLt (ns.drop i) (ms.drop i))))) s):=by
 have z1:items.size=ns.length:=by rw [<- hi.length];simp
 have z2:items2.size=ms.length:=by rw [<- hj.length];simp
 induction k with
 | zero=>
   intro i hk le YJ prog w A R s h;obtain ⟨hp,g,d,tk,os⟩:=s;obtain ⟨hl,hb,h⟩:=h
   wp_walk using wpAny_loadPart' hl,wpAny_loadPart' hb
   have Sn:items[((i:Nat):Int).toNat]?=none:=by simp;omega
   have e1:ns.drop i=[]:=List.drop_eq_nil_of_le (by omega);rw [Sn];have fin:R (.ok (.ret (.bool (decide (items.size < items2.size))))) ⟨hp,g,d,tk,os⟩:=by
     rw [e1] at h;by_cases c:i < items2.size
     . obtain ⟨x,hx⟩:∃ x,ms[i]?=some x:=⟨_,List.getElem?_eq_getElem (by omega)⟩
       rw [BU hx,xP] at h;rw [decide_eq_true (by omega)];exact h
     . rw [List.drop_eq_nil_of_le (by omega),yX] at h
       rw [decide_eq_false (by omega)];exact h
   cases items2[((i:Nat):Int).toNat]? with
   | none=>
     wp_walk using wpAny_loadPart' hl,wpAny_loadPart' hb
     exact fin
   | some y=>
     wp_walk using wpAny_loadPart' hl,wpAny_loadPart' hb
     exact fin
 | succ k ih=>
   intro i hk le YJ prog w A R s h;obtain ⟨hp,g,d,tk,os⟩:=s;obtain ⟨hl,hb,h⟩:=h
   wp_walk using wpAny_loadPart' hl,wpAny_loadPart' hb
   obtain ⟨a,t,v1,n1⟩:=Gg hi (i:=i) (by simp;omega);have i1:items[((i:Nat):Int).toNat]?=some (.int a t):=by simpa using v1
   have hc:((i:Int)+1)=((i+1:Nat):Int):=by push_cast;rfl
   rw [BU n1] at h;rw [i1];by_cases c:i < items2.size
   . obtain ⟨a2,t2,v2,n2'⟩:=Gg hj (i:=i) (by simpa using c)
     have i2:items2[((i:Nat):Int).toNat]?=some (.int a2 t2):=by simpa using v2
     rw [BU n2',jC] at h;rw [i2];obtain ⟨e,he,hiff⟩:=Cm A.in1 ⟨hp,g,d,tk,os⟩ a t a2 t2;refine wpAny_bind (he prog w _ _ ?_);cases e with
     | true=>
       rw [if_pos (hiff.mp rfl)] at h
       wp_walk
       rw [hc];exact ⟨plainId_quiet plain_eq_loop _,codeAny_builtin entry_eq_loop (by
         rw [Around.under_plainId plain_eq_loop _];exact ih (i+1) (by omega) (by omega) (by omega) prog w A R _ ⟨hl,hb,h⟩)⟩
     | false=>
       rw [if_neg (fun q=>absurd (hiff.mpr q) Bool.false_ne_true)] at h;have U8:=Jh A.in1 ⟨hp,g,d,tk,os⟩ a t a2 t2 prog w
       wp_walk using wpAny_loadPart' hl,wpAny_loadPart' hb
       rw [i1,i2]
       wp_walk using U8
       exact h
   . have So:items2[((i:Nat):Int).toNat]?=none:=by simp;omega
     rw [So]
     wp_walk using wpAny_loadPart' hl,wpAny_loadPart' hb
     rw [List.drop_eq_nil_of_le (as:=ms) (by omega),xQ] at h;show R (.ok (.ret (.bool (decide (items.size < items2.size))))) _;rw [decide_eq_false (by omega)];exact h
theorem BV (l b:Addr) (items items2:Array Value) (n n2:Nat) (dd dd2:Option Addr) (sl sl2:Array (Option Value)) (ns ms:List Int) (hi:IntsAre items.toList ns) (hj:IntsAre items2.toList ms) :
   Meets (Builtin.«list.__lt__» ⟨[.ref l,.ref b],[]⟩)
     (fun A R s=>s.heap.get? l=some { cls:=.type "list",dict:=dd,data:=.seq items n,slots:=sl }/\s.heap.get? b=some { cls:=.type "list",dict:=dd2,data:=.seq items2 n2,slots:=sl2 } /\
       R (.ok (.ret (.bool (lexLt ns ms)))) s):=by
 intro prog w A R s h;obtain ⟨hp,g,d,tk,os⟩:=s;obtain ⟨hl,hb,h⟩:=h;have f3:=AutoSeq1.sub_list_list
 wp_walk using wpAny_loadPart' hl,wpAny_loadPart' hb
 exact ⟨plainId_quiet plain_eq_loop _,codeAny_builtin entry_eq_loop (by
   rw [Around.under_plainId plain_eq_loop _];exact MW l b items items2 n n2 dd dd2 sl sl2 ns ms hi hj _ 0 rfl (Nat.zero_le _) (Nat.zero_le _) prog w A R _ ⟨hl,hb,h⟩)⟩
end
end HT
namespace L2
open PySem PySem.Spec PyProof.Rows PySem.W
section
variable {Pr:Program} {Wd:World} {Ar:Around} {Rs:Result->Shared->Prop} {It Bs:Addr} {fp wr:List Addr} {n:Nat} {Pv:Nat->Value->Prop} {St:Nat->Heap->Prop} {kw:List (Str×Value)} {bt:Nat->Nat->Bool}
structure Qj (Pr:Program) (Wd:World) (Ar:Around) (Pv:Nat->Value->Prop) (bt:Nat->Nat->Bool) (wr:List Addr) (Bs:Addr) (G:Heap->Prop):Prop where
 cmp:∀ i j u v (st:Shared) (Q:Value->Shared->Prop) (E:Value->Shared->Prop),Pv i u->Pv j v->G st.heap->Q (.bool (bt i j)) st->wpAny (model Pr Wd) Ar (richCompare .Lt u v) Q E st
 stay:∀ h h',G h->(∀ b o,b ∉ wr->b ≠ Bs->h.get? b=some o->h'.get? b=some o)->G h'
theorem sO {G:Heap->Prop} (Wk:Walks Pr Wd Ar.in1 It fp wr n Pv St) (cmp:Qj Pr Wd Ar.in1 Pv bt wr Bs G) (out:Bs ∉ fp) :
   ∀ (k j:Nat) (st:Shared) (u:Value) (c:Nat),n - (j+1)=k->j+1<=n->St (j+1) st.heap->G st.heap->Pv (argBest bt j) u->st.heap.get? Bs=some (Rw u c)->
   (∀ v hp tk,Pv (argBest bt (n - 1)) v->(∀ b o,b ∉ wr->b ≠ Bs->st.heap.get? b=some o->hp.get? b=some o)->Rs (.ok (.ret v)) { st with heap:=hp,toks:=tk })->
   codeAny (model Pr Wd) Ar (.builtin "min.loop" ⟨[.ref It,.none,.ref Bs],kw⟩) Rs st
 | k,j,st,u,c,ek,le,at_,hG,pu,hB,fin=>by
   have MX:Bs ∉ wr:=fun z=>out (Wk.sub _ z)
   have nm:(toString "min"++toString ".loop":String) = "min.loop":=by decide
   refine codeAny_builtin PySem.F.entry_min_loop ?_
   rw [Around.under_plainId PySem.F.plain_min_loop _]
   show wpAny _ Ar.in1 (seqItems? (.ref Bs) >>= _) _ _ st
   refine wpAny_bind (wpAny_seqItems hB rfl ?_)
   show wpAny _ Ar.in1 (tryCatch (pyNext (.ref It)) _ >>= _) _ _ st
   cases k with
   | zero=>
     have en:j+1=n:=by omega
     refine wpAny_bind (wpAny_tryCatch (Wk.done st _ _ (en ▸ at_) fun hp tk keeps=>?_))
     have hB':=keeps Bs _ MX hB
     show wpAny _ Ar.in1 (updateSeq Bs (fun _=>#[]) >>= _) _ _ _
     refine wpAny_bind ?_
     refine wpAny_updateSeq hB' rfl (wpAny_bind (wpAny_letGo (wpAny_pure (fin u _ tk (by rw [<- en];exact pu) fun b o b1 b2 e=>?_))))
     exact (Heap.get?_update_other _ _ (Ne.symm b2)).trans (keeps b o b1 e)
   | succ k=>
     have lt:j+1 < n:=by omega
     refine wpAny_bind (wpAny_tryCatch (Wk.item (j+1) st _ _ lt at_ fun v hp tk pv at' keeps=>?_))
     have hB':=keeps Bs _ MX hB
     have hG':=cmp.stay _ hp hG fun b o b1 _ e=>keeps b o b1 e
     show wpAny _ Ar.in1 (tryCatch (holding [v,v] (richCompare .Lt v u >>= _)) _ >>= _) _ _ _
     refine wpAny_bind (wpAny_tryCatch (wpAny_holding (wpAny_bind (cmp.cmp (j+1) (argBest bt j) v u _ _ _ pv pu hG' ?_))))
     refine wpAny_bind (wpAny_holding (wpAny_truthy_bool (wpAny_bind (wpAny_letGo (wpAny_pure ?_)))))
     cases better:bt (j+1) (argBest bt j) with
     | true=>
       rw [if_pos rfl]
       refine wpAny_bind ?_
       refine wpAny_updateSeq hB' rfl (wpAny_bind (wpAny_letGo ?_))
       rw [nm]
       refine wpAny_pure ⟨plainId_quiet PySem.F.plain_min_loop _,sO Wk cmp out k (j+1) _ v _ (by omega) lt (Wk.frame _ _ _ at' fun b hb o e=>?_) (cmp.stay _ _ hG' fun b o _ b2 e=>(Heap.get?_update_other _ _ (Ne.symm b2)).trans e) (by rw [argBest,better];exact pv) (Heap.get?_update_self _ hB' rfl) fun v' hp' tk' pv' keeps'=>?_⟩
       . exact (Heap.get?_update_other _ _ (fun z:Bs=b=>out (z ▸ hb))).trans e
       . exact fin v' hp' tk' pv' fun b o b1 b2 e=>keeps' b o b1 b2 ((Heap.get?_update_other _ _ (Ne.symm b2)).trans (keeps b o b1 e))
     | false=>
       rw [if_neg Bool.false_ne_true]
       refine wpAny_bind (wpAny_letGo ?_)
       rw [nm]
       exact wpAny_pure ⟨plainId_quiet PySem.F.plain_min_loop _,sO Wk cmp out k (j+1) _ u c (by omega) lt at' hG' (by rw [argBest,better];exact pu) hB' fun v' hp' tk' pv' keeps'=>fin v' hp' tk' pv' fun b o b1 b2 e=>keeps' b o b1 b2 (keeps b o b1 e)⟩
theorem Ih {G:Heap->Prop} (Wk:Walks Pr Wd Ar.in1 It fp wr n Pv St) (cmp:Qj Pr Wd Ar.in1 Pv bt wr Bs G) (out:Bs ∉ fp) {st:Shared} {c:Nat} (pos:0 < n) (at_:St 0 st.heap) (hG:G st.heap)
   (hB:st.heap.get? Bs=some { cls:=.type "list",dict:=none,data:=.seq #[] c,slots:=#[] })
   (fin:∀ v hp tk,Pv (argBest bt (n - 1)) v->(∀ b o,b ∉ wr->b ≠ Bs->st.heap.get? b=some o->hp.get? b=some o)->Rs (.ok (.ret v)) { st with heap:=hp,toks:=tk }) :
   codeAny (model Pr Wd) Ar (.builtin "min.loop" ⟨[.ref It,.none,.ref Bs],kw⟩) Rs st:=by
 have MX:Bs ∉ wr:=fun z=>out (Wk.sub _ z);have nm:(toString "min"++toString ".loop":String) = "min.loop":=by decide
 refine codeAny_builtin PySem.F.entry_min_loop ?_;rw [Around.under_plainId PySem.F.plain_min_loop _];show wpAny _ Ar.in1 (seqItems? (.ref Bs) >>= _) _ _ st;refine wpAny_bind (wpAny_seqItems hB rfl ?_);show wpAny _ Ar.in1 (tryCatch (pyNext (.ref It)) _ >>= _) _ _ st;refine wpAny_bind (wpAny_tryCatch (Wk.item 0 st _ _ pos at_ fun v hp tk pv at' keeps=>?_));have hB':=keeps Bs _ MX hB;show wpAny _ Ar.in1 (updateSeq Bs (fun _=>#[v,v]) >>= _) _ _ _;refine wpAny_bind ?_;refine wpAny_updateSeq hB' rfl ?_;rw [nm];refine wpAny_pure ⟨plainId_quiet PySem.F.plain_min_loop _,sO Wk cmp out _ 0 _ v _ rfl pos (Wk.frame _ _ _ at' fun b hb o e=>?_) (cmp.stay _ _ hG fun b o b1 b2 e=>(Heap.get?_update_other _ _ (Ne.symm b2)).trans (keeps b o b1 e)) pv (Heap.get?_update_self _ hB' rfl) fun v' hp' tk' pv' keeps'=>?_⟩
 . exact (Heap.get?_update_other _ _ (fun z:Bs=b=>out (z ▸ hb))).trans e
 . exact fin v' hp' tk' pv' fun b o b1 b2 e=>keeps' b o b1 b2 ((Heap.get?_update_other _ _ (Ne.symm b2)).trans (keeps b o b1 e))
end
theorem vm:∀ l:List Int,HT.lexLt l l=false
 | []=>rfl
 | x::l=>by rw [HT.jC,if_pos rfl,vm l]
theorem DN:∀ a b c:List Int,HT.lexLt a b=true->HT.lexLt b c=true->HT.lexLt a c=true
 | _,[],[],_,h=>by cases h
 | [],_,_::_,_,_=>rfl
 | _,_::_,[],_,h=>by cases h
 | _::_,[],_::_,h,_=>by cases h
 | x::a,y::b,z::c,h,k=>by
   rw [HT.jC] at h k ⊢
   by_cases e1:x=y
   . subst e1
     rw [if_pos rfl] at h
     by_cases e2:x=z
     . subst e2
       rw [if_pos rfl] at k ⊢
       exact DN a b c h k
     . rw [if_neg e2] at k ⊢
       exact k
   . rw [if_neg e1,decide_eq_true_eq] at h
     by_cases e2:y=z
     . subst e2
       rw [if_neg e1]
       exact decide_eq_true h
     . rw [if_neg e2,decide_eq_true_eq] at k
       rw [if_neg (by omega)]
       exact decide_eq_true (by omega)
theorem DP (f:Nat->List Int):∀ k,argBest (fun i j=>HT.lexLt (f i) (f j)) k<=k/\∀ j,j<=k->HT.lexLt (f j) (f (argBest (fun i j=>HT.lexLt (f i) (f j)) k))=false
 | 0=>⟨Nat.le_refl _,fun j hj=>by rw [show j=0 by omega];exact vm _⟩
 | k+1=>by
   obtain ⟨h1,h2⟩:=DP f k
   rw [argBest]
   split
   . rename_i c
     refine ⟨Nat.le_refl _,fun j hj=>?_⟩
     rcases Nat.lt_or_ge j (k+1) with q | q
     . cases e:HT.lexLt (f j) (f (k+1)) with
       | false=>rfl
       | true=>
         have:=DN _ _ _ e c
         rw [h2 j (by omega)] at this
         cases this
     . rw [show j=k+1 by omega]
       exact vm _
   . rename_i c
     refine ⟨by omega,fun j hj=>?_⟩
     rcases Nat.lt_or_ge j (k+1) with q | q
     . exact h2 j (by omega)
     . rw [show j=k+1 by omega]
       simpa using c
theorem KU {Pr:Program} {Wd:World} {Ar:Around} {Er:Value->Shared->Prop} {st:Shared} {l b:Addr} {its its2:Array Value} {ns ms:List Int} {Q:Value->Shared->Prop} (hl:st.heap.IsList l its) (hb:st.heap.IsList b its2) (hi:IntsAre its.toList ns) (hj:IntsAre its2.toList ms)
   (hu:Ar.units < cLine) (h:Q (.bool (HT.lexLt ns ms)) st):wpAny (model Pr Wd) Ar (richCompare .Lt (.ref l) (.ref b)) Q Er st:=by
 obtain ⟨⟨cls,dd,data,sl⟩,ho,hc,n,hd⟩:=id hl;obtain ⟨⟨O2,dd2,data2,sl2⟩,ho2,hc2,n2,hd2⟩:=id hb;simp only at hc hd hc2 hd2;subst hc hd hc2 hd2;exact richCompare_meets_room (op:=.Lt) ⟨_,ho,rfl⟩ ⟨_,ho2,rfl⟩ PySem.F.slot_list_lt PySem.F.entry_list_lt (PySem.F.args_list_lt_2 _ _) (HT.BV l b its its2 n n2 dd dd2 sl sl2 ns ms hi hj)
   ⟨ho,ho2,show Value.bool (HT.lexLt ns ms) ≠ Value.notImplemented/\Q (.bool (HT.lexLt ns ms)) st from ⟨(fun x=>nomatch x),h⟩⟩ hu
theorem yQ {as:List Addr} {its:List Value} (r:Vals (as.map V.ref) its):∀ {i:Nat} {v:Value},its[i]?=some v->∃ b,as[i]?=some b/\v=.ref b:=by
 induction as generalizing its with
 | nil=>
  intro i v h;cases r;simp at h
 | cons x as ih=>
  intro i v h;cases r with
  | cons r1 r2=>
   cases i with
   | zero=>
    have:v=.ref x:=by
     have e:some _=some v:=h;cases e;exact r1
    exact ⟨x,rfl,this⟩
   | succ i=>exact ih r2 h
section
variable {X:Cx}
def Sq (K:Zqq):List V->Hp->VK->Prop:=fun vs H Q=>∃ (a:Addr) (as:List Addr) (fs:List (List Int)),vs=[V.ref a]/\c8 K H a (as.map V.ref)/\as.length=fs.length/\(∀ (i:Nat) (b:Addr) (f:List Int),as[i]?=some b->fs[i]?=some f->H b=some (.lst (f.map V.int)))/\0 < as.length /\
 ∀ (i:Nat) (b:Addr) (f:List Int),as[i]?=some b->fs[i]?=some f->(∀ (j:Nat) (g:List Int),fs[j]?=some g->HT.lexLt g f=false)->Q (.ref b) H
theorem MY (hc:X.calm=true) (hu:X.A.units+1 < cLine):vt X (.builtin "min") (Sq X.K):=by
 intro pins s σ H vs us Q I r h;obtain ⟨a,as,fs,rfl,hs,len,each,pos,q⟩:=h;obtain ⟨its,rv,hl,_⟩:=I.list hs;have il:=hl.isList;have Ss:its.length=as.length:=by rw [<- rv.length,List.length_map]
 rw [Vals.O7 r];have nm:(toString "min"++toString ".loop":String) = "min.loop":=by decide
 have hlt:a < s.heap.objs.size:=by obtain ⟨_,e,_⟩:=id il;exact Heap.lt_size e
 have sub:∀ (i:Nat) (b:Addr) (f:List Int),as[i]?=some b->fs[i]?=some f->∃ its',s.heap.IsList b its'/\IntsAre its'.toList f:=fun i b f h1 h2=>by
   obtain ⟨its',rv',hl',_⟩:=I.list (c8.of (each i b f h1 h2));exact ⟨its'.toArray,hl'.isList,by simpa using rv'.ints⟩
 refine call_function_tree PySem.F.kind_min PySem.F.plain_min PySem.F.entry_min (PySem.F.args_min1 _) ?_;refine wpAny_bind (wpAny_of_eq (show Builtin.Builtins.bindParams "min" ["key","default"] 0 ⟨[],[]⟩=pure [none,none] from rfl) ?_);refine wpAny_bind (wpAny_pure ?_);refine wpAny_bind (wpAny_pyIter_list il ?_);refine wpAny_bind (wpAny_newObj_type ?_);rw [nm];have hsz:(s.heap.push { cls:=.type "list_iterator",data:=.fields #[.ref a,.int 0 0] }).objs.size=s.heap.objs.size+1:=Heap.size_push ..;have Wk:=Walks.list (prog:=X.prog) (w:=X.w) (A:=X.A.in1) (I.ok.hd hc) s.heap.objs.size a (Nat.ne_of_lt hlt) its.toArray;have zs:its.toArray.size=as.length:=by simpa using Ss
 let f:Nat->List Int:=fun i=>fs.getD i [];have Vl:∀ {i:Nat},i < as.length->fs[i]?=some (f i):=fun {i} hi=>by
   show fs[i]?=some (fs.getD i []);rw [List.getD,List.getElem?_eq_getElem (by omega)];rfl
 have cg:Qj X.prog X.w X.A.in1 (fun i v=>its.toArray[i]?=some v) (fun i j=>HT.lexLt (f i) (f j)) [s.heap.objs.size] (s.heap.objs.size+1) (fun h=>∀ (i:Nat) (b:Addr),as[i]?=some b->∃ its',h.IsList b its'/\IntsAre its'.toList (f i)/\b < s.heap.objs.size):=by
   refine ⟨fun i j u v st Q E hu' hv hG q=>?_,fun h h' hG keeps i b hb=>?_⟩
   . obtain ⟨b1,e1,rfl⟩:=yQ rv (by simpa using hu')
     obtain ⟨b2,e2,rfl⟩:=yQ rv (by simpa using hv);obtain ⟨i1,l1,n1,_⟩:=hG i b1 e1;obtain ⟨i2,l2,n2,_⟩:=hG j b2 e2;exact KU l1 l2 n1 n2 hu q
   . obtain ⟨its',l1,n1,lt⟩:=hG i b hb
     refine ⟨its',?_,n1,lt⟩;obtain ⟨o,e,r⟩:=l1;exact ⟨o,keeps b o (fun z=>Nat.ne_of_lt lt (List.mem_singleton.mp z)) (Nat.ne_of_lt (Nat.lt_succ_of_lt lt)) e,r⟩
 have out:s.heap.objs.size+1 ∉ [s.heap.objs.size,a]:=fun z=>by
   rcases List.mem_cons.mp z with z | z
   . exact Nat.succ_ne_self _ z
   . exact Nat.ne_of_gt (Nat.lt_succ_of_lt hlt) (List.mem_singleton.mp z)
 refine wpAny_pure ⟨plainId_quiet PySem.F.plain_min_loop _,?_⟩;rw [hsz];refine Ih (c:=0) Wk cg out (by rw [zs];exact pos) ?_ ?_ ?_ fun v hp tk pv keeps=>?_
 . exact ⟨⟨_,Heap.get?_push_of_some _ (Heap.get?_push_size _ rfl),rfl,rfl⟩,(il.push _).push _⟩
 . intro i b hb
   have hi:i < as.length:=(List.getElem?_eq_some_iff.mp hb).1;obtain ⟨its',l1,n1⟩:=sub i b (f i) hb (Vl hi);exact ⟨its',(l1.push _).push _,n1,by obtain ⟨_,e,_⟩:=id l1;exact Heap.lt_size e⟩
 . rw [<- hsz]
   exact Heap.get?_push_size _ rfl
 . obtain ⟨b,hb,rfl⟩:=yQ rv (by simpa using pv)
   have hi:=(List.getElem?_eq_some_iff.mp hb).1;rw [Ss] at hb hi;have bl:=DP f (as.length - 1);refine ⟨.ref b,H,I.kept fun c o e=>keeps c o (fun z=>Nat.ne_of_lt (Heap.lt_size e) (List.mem_singleton.mp z)) (Nat.ne_of_lt (Nat.lt_succ_of_lt (Heap.lt_size e))) (Heap.get?_push_of_some _ (Heap.get?_push_of_some _ e)),rfl,q _ b _ hb (Vl hi) fun j g hg=>?_⟩;have hj:j < as.length:=by rw [len];exact (List.getElem?_eq_some_iff.mp hg).1
   have e:=Vl hj;rw [hg] at e;cases e;exact bl.2 j (by omega)
end
end L2
namespace L2
open PySem PySem.Spec PyProof.Rows PySem.W
section
variable {Pr:Program} {Wd:World} {Ar:Around} {Er:Value->Shared->Prop} {st:Shared}
theorem DQ {l:Addr} {vs:List Value} {Qv:List Value->Shared->Prop} (hl:IsTup st.heap l vs.toArray)
  (h:Qv vs { st with heap:=(st.heap.push (seqObj "list" #[] 0)).update st.heap.objs.size (Obj.mapSeq (·++vs.toArray)) }) (hsz:vs.length<=sizeLine) :
  wpAny (model Pr Wd) Ar (collect (.ref l)) Qv Er st:=by
 obtain ⟨o,ho,hc,n,hd⟩:=id hl;unfold collect;refine wpAny_bind (wpAny_runValue (codeAny_builtin entry_proto_collect' ?_));show wpAny _ _ (do again (.builtin "list.__iadd__" ⟨[<- newList [],.ref l],[]⟩)) _ _ st;refine wpAny_bind (wpAny_newList (wpAny_pure ⟨Code.quiet_builtin _ (by decide +kernel),codeAny_builtin entry_list_iadd' ?_⟩));show wpAny _ _ (Builtin.List.listExtendWith (.ref st.heap.objs.size) (.ref l) (.ref st.heap.objs.size)) _ _ { st with heap:=st.heap.push (seqObj "list" #[] 0) };unfold Builtin.List.listExtendWith;have ho':(st.heap.push (seqObj "list" #[] 0)).get? l=some o:=Heap.get?_push_of_some _ ho;refine wpAny_bind (wpAny_typeOf (T:="tuple") ⟨o,ho',hc⟩ ?_);have ht:(Value.type "tuple"==Value.type "tuple")=true:=by rfl
 rw [if_pos (by rw [ht];simp)];refine wpAny_bind (listItems_at ho' hd ?_);refine wpAny_bind (listItems_at (xs:=#[]) (n:=0) (Heap.get?_push_size _ rfl) rfl ?_);rw [if_neg (by simp)];refine wpAny_bind (listUpdate_at (xs:=#[]) (n:=0) (Heap.get?_push_size _ rfl) rfl ?_ (Nat.zero_le _) (by show (#[]++vs.toArray).size<=sizeLine+1;simp only [Array.size_append,List.size_toArray,List.length_nil];omega));refine wpAny_pure ?_;refine wpAny_bind (wpAny_load (get?_update_seq (Heap.get?_push_size _ rfl) _) ?_);show wpAny _ _ (pure ((#[]:Array Value)++vs.toArray).toList) Qv Er _;rw [show ((#[]:Array Value)++vs.toArray).toList=vs by simp];exact wpAny_pure h
theorem EU {l:Addr} {vs:List Value} {ns:List Int} {Qv:Value->Shared->Prop} (hl:IsTup st.heap l vs.toArray) (hI:IntsAre vs ns) (h64:vs.length < 64)
  (h:∀ (out:Array Value) (ns':List Int),IntsAre out.toList ns'->ns'.Perm ns->ns'.Pairwise (·<=·)->Qv (.ref (st.heap.objs.size+1)) { st with heap:=sortedAll st.heap vs out }) :
  wpAny (model Pr Wd) Ar (call (.builtin "sorted") [.ref l]) Qv Er st:=by
 refine Calls.call_function_entry kind_sorted plain_sorted entry_sorted (args_sorted1 _) ?_;unfold Builtin.«sorted»;refine wpAny_bind (m:=checkCount "sorted" 1 1 _) (wpAny_pure ?_);refine wpAny_bind (DQ hl ?_ (by rw [sizeLine_eq];omega));refine wpAny_bind (wpAny_newList ?_ (by rw [sizeLine_eq];omega));have hsz:((st.heap.push (seqObj "list" #[] 0)).update st.heap.objs.size (Obj.mapSeq (·++vs.toArray))).objs.size=st.heap.objs.size+1:=by
  rw [Heap.size_update,size_push']
 have SM:(((st.heap.push (seqObj "list" #[] 0)).update st.heap.objs.size (Obj.mapSeq (·++vs.toArray))).push (seqObj "list" vs.toArray 0)).get? (st.heap.objs.size+1)=some (seqObj "list" vs.toArray 0):=by
  rw [<- hsz];exact Heap.get?_push_size _ rfl
 show wpAny _ _ _ _ _ { st with heap:=((st.heap.push (seqObj "list" #[] 0)).update st.heap.objs.size (Obj.mapSeq (·++vs.toArray))).push (seqObj "list" vs.toArray 0) };rw [hsz];refine wpAny_bind (wpAny_holding (wpAny_call_entry slot_list_sort ⟨_,SM,rfl⟩ entry_list_sort (list_sort_tree SM hI h64 fun out ns' a1 a2 a3=>⟨_,rfl,?_⟩) (args_list_sort _)))
 exact wpAny_pure ⟨_,rfl,h out ns' a1 a2 a3⟩
end
section
variable {X:Cx}
def KW (K:Zqq):List V->Hp->VK->Prop:=fun vs H Q=>∃ (a:Addr) (ns:List Int),vs=[V.ref a]/\j0 K H a (ns.map V.int)/\ns.length < 64 /\
 ∀ (ns':List Int) (p:Addr),ns'.Perm ns->ns'.Pairwise (·<=·)->H p=none->Q (.ref p) (upd H p (.lst (ns'.map V.int)))
theorem EV:vt X (.builtin "sorted") (KW X.K):=by
 intro pins s σ H vs us Q I r h;obtain ⟨a,ns,rfl,hs,h64,q⟩:=h;obtain ⟨its,rv,hl,_⟩:=I.tuple hs;rw [Vals.O7 r];have hi:=rv.ints;refine EU hl hi (by rw [hi.length];exact h64) fun out ns' h1 h2 h3=>?_;obtain ⟨ep,he'⟩:=sortedAll_at s.heap its out;have hlen:(ns'.map V.int).length<=sizeLine:=by rw [List.length_map,h2.length_eq];exact LM h64
 exact ⟨.ref _,upd H (s.heap.objs.size+1) (.lst (ns'.map V.int)),I.laid (t':=s.toks) (fun _ _=>sortedAll_old) (Nat.le_succ _) ⟨hlen,out.toList,ep,sX h1,he'⟩,rfl,q ns' _ h2 h3 (I.hok.fresh (Nat.le_succ _))⟩
end
end L2
namespace L2
open PySem PySem.Spec PyProof.Rows PySem.W
section
variable {X:Cx}
def NS (K:Zqq):R2:=fun x y H Q=>∃ a b xs ys,x=.ref a/\y=.ref b/\j0 K H a xs/\j0 K H b ys/\ys ≠ []/\xs.length+ys.length<=sizeLine /\
 (xs=[]->Q (.ref b) H)/\(xs ≠ []->∀ p,H p=none->Q (.ref p) (upd H p (.tup (xs++ys))))
theorem MZ:vq X (binaryOp .Add) (NS X.K):=by
 intro pins s σ H x y v u Q I rx ry h;obtain ⟨a,b,xs,ys,rfl,rfl,ha,hb,hy,hz,q1,q2⟩:=h;by_cases hx:xs=[]
 . cases rx
   cases ry;obtain ⟨its,r1,p1,_⟩:=I.tuple ha;obtain ⟨its2,r2,p2,_⟩:=I.tuple hb;obtain ⟨⟨cls,dd,data,sl⟩,ho,hc,n,hd⟩:=id p1;obtain ⟨⟨O2,dd2,data2,sl2⟩,ho2,hc2,n2,hd2⟩:=id p2;simp only at hc hd hc2 hd2;subst hc hd hc2 hd2;have e0:its=[]:=r1.wV.mpr hx;exact concat_meets ⟨_,ho,rfl⟩ ⟨_,ho2,rfl⟩ noFill_tuple_add seq_tuple_add PySem.F.slot_tuple_add PySem.F.entry_tuple_add (PySem.F.args_tuple_add_2 _ _)
     (tuple_addW0 a b its.toArray its2.toArray n n2 dd dd2 sl sl2 (by rw [e0];rfl)) ⟨ho,ho2,⟨.ref b,H,I,rfl,q1 hx⟩⟩
 . exact LF pins s σ H (.ref a) (.ref b) v u Q I rx ry ⟨a,b,xs,ys,rfl,rfl,ha,hb,hx,hz,fun z=>absurd z hy,fun _=>q2 hx⟩
theorem Su {P:Program} {w:World} {k:Key} {u:Value} (h:(dI P w).is k u=true):RelV (kV k) u:=by
 rcases dw (show sQ k u=true from h) with ⟨i,t,rfl,rfl⟩ | ⟨x,t,rfl,rfl⟩<;>exact ⟨_,rfl⟩
theorem Na {kvs:List (Key×V)} {vs:List (Key×Value)} (r:KV kvs vs) {i:Nat} {k:Key} {x:Value} (h:vs[i]?=some (k,x)):∃ y,kvs[i]?=some (k,y):=by
 induction r generalizing i with
 | nil=>simp at h
 | @cons p q ps qs hq _ ih=>
  cases i with
  | zero=>
   have e:some q=some (k,x):=h;cases e;exact ⟨p.2,by show some p=some (k,p.2);rw [<- show p.1=k from hq.1]⟩
  | succ i=>exact ih h
theorem yR (hc:X.calm=true):vt X (.type "list") (fun xs H Q=>∃ d kvs,xs=[.ref d]/\H d=some (.dK kvs)/\∀ l,H l=none->Q (.ref l) (upd H l (.lst (kvs.map fun kv=>kV kv.1)))):=by
 intro pins s σ H xs us Q I r h;obtain ⟨d,kvs,rfl,hd,q⟩:=h;rw [Vals.O7 r];obtain ⟨z,plain,vs,rel,o,es,ep,d1,d2,d3,d4,d5,d6⟩:=NC I.hok hd;have vl:=Paired.length rel;refine kdl_call (kdl_dict (knd:=dI X.prog X.w) (kvs:=vs) (ep:=ep) plain) (I.ok.hd hc) ⟨o,es,d1,d2,d3,d4,d5,d6⟩ (by rw [<- vl];exact z) fun h' tk acc c kp eL items=>?_;have it:∀ {j:Nat} {v:Value},acc[j]?=some v->∃ y,(kvs.map fun kv=>kV kv.1)[j]?=some y/\RelV y v:=fun {j v} hj=>by
  obtain ⟨k,x,e1,e2⟩:=items.2 j v hj;obtain ⟨y,e3⟩:=Na rel e1;exact ⟨kV k,by rw [List.getElem?_map,e3];rfl,Su e2⟩
 have al:acc.toList.length=(kvs.map fun kv=>kV kv.1).length:=by rw [Array.length_toList,items.1,List.length_map,vl]
 have rl:Vals (kvs.map fun kv=>kV kv.1) acc.toList:=by
  have gen:∀ (ys:List V) (us:List Value),us.length=ys.length->(∀ (j:Nat) (v:Value),us[j]?=some v->∃ y,ys[j]?=some y/\RelV y v)->Vals ys us:=by
   intro ys;induction ys with
   | nil=>
    intro us h1 _;rw [List.length_eq_zero_iff.mp h1];exact .nil
   | cons y ys ih=>
    intro us h1 h2;cases us with
    | nil=>cases h1
    | cons u us=>
     obtain ⟨y',e,r0⟩:=h2 0 u rfl;cases e;exact .cons r0 (ih us (Nat.succ.inj h1) fun j v hj=>h2 (j+1) v hj)
  exact gen _ _ al fun j v hj=>it (by rw [<- Array.getElem?_toList];exact hj)
 exact ⟨.ref s.heap.objs.size,_,I.laid (t':=tk) kp (Nat.le_refl _) (show bZ X.prog X.w _ h' _ (.lst (kvs.map fun kv=>kV kv.1)) from ⟨by rw [List.length_map];exact z,acc.toList,c,rl,by simpa using eL⟩),rfl,q _ (I.hok.fresh (Nat.le_refl _))⟩
def EW (ta:TA):TE:=fun σ H Q=>ta σ H fun vs H1=>∃ n:Nat,vs=[.int (n:Int)]/\n<=1000000/\∀ l,H1 l=none->Q (.ref l) (upd H1 l (.lst ((List.range n).map fun (i:Nat)=>.int (i:Int))))
theorem BW {a:Expr} {ta:TA} {p p2 pos2 pos:Pos} (hc:X.calm=true) (hg:Gl X "list") (hm:X.mg "list"=none) (YK:Gl X "range") (hm2:X.mg "range"=none) (ha:PA X [a] ta)
  (hs:starEach [.Call (.Name "range" p2) [a] [] pos2] X.env=[(false,eval (.Call (.Name "range" p2) [a] [] pos2) X.env)]:=by rfl) (hs2:starEach [a] X.env=[(false,eval a X.env)]:=by rfl) :
  PE X (.Call (.Name "list" p) [.Call (.Name "range" p2) [a] [] pos2] [] pos) (EW ta):=by
 intro pins s σ H Q I h;refine wpAny_Call_Name_kw (rZ I hg hm boot_list ?_ (by decide) (by decide));refine PyProof.Rows.callWith_type1 ?_ hs rfl;rw [hs];show wpAny _ _ (spliced ((false,eval (.Call (.Name "range" p2) [a] [] pos2) X.env)::[])) _ _ s;refine Calls.spliced_cons ?_;refine wpAny_Call_Name_kw (rZ I YK hm2 boot_range ?_ (by decide) (by decide));refine PyProof.Rows.callWith_type1 (cT (ha pos2 pins s σ H _ I h) fun us s1 ⟨vs,H1,I1,r1,n,e,hn,q⟩=>?_) hs2 rfl;subst e;cases r1 with
 | cons r rr=>
  cases rr;obtain ⟨t,rfl⟩:=r;refine call_range_1 (Calls.spliced_nil ?_);have I2:Inv X pins σ H1 { s1 with heap:=s1.heap.push { cls:=.type "range",data:=.fields #[.int 0 s1.toks,.int n t,.int 1 (s1.toks+1)] },toks:=s1.toks+1+1 }:=I1.kept fun b ob q=>Heap.get?_push_of_some _ q
  refine call_list_range (s:={ s1 with heap:=s1.heap.push { cls:=.type "range",data:=.fields #[.int 0 s1.toks,.int n t,.int 1 (s1.toks+1)] },toks:=s1.toks+1+1 }) (n:=n) (I2.ok.hd hc) (IsRange.new ..) (small_one (by omega) (by omega) (by omega) (by omega)) (by rw [rangeSize_one];split<;>omega) (by omega) fun h' tk acc c kp eL items=>?_
  have rl:∀ (m:Nat) (us:List Value),us.length=m->∀ d:Nat,(∀ (j:Nat) (v:Value),us[j]?=some v->∃ t,v=.int (d+j:Nat) t)->Vals ((List.range' d m).map fun (i:Nat)=>V.int (i:Int)) us:=by
   intro m;induction m with
   | zero=>intro us h1 d _;rw [List.length_eq_zero_iff.mp h1];exact .nil
   | succ m ih=>
    intro us h1 d h2;cases us with
    | nil=>cases h1
    | cons u us=>
     obtain ⟨t0,e0⟩:=h2 0 u rfl;rw [List.range'_succ];refine .cons ⟨t0,by rw [e0];rfl⟩ (ih us (Nat.succ.inj h1) (d+1) fun j v hj=>?_);obtain ⟨t1,e1⟩:=h2 (j+1) v hj;exact ⟨t1,by rw [e1,show d+(j+1)=d+1+j by omega]⟩
  have Tz:Vals ((List.range n).map fun (i:Nat)=>V.int (i:Int)) acc.toList:=by
   rw [List.range_eq_range'];refine rl n acc.toList (by rw [Array.length_toList,items.1]) 0 fun j v hj=>?_;obtain ⟨t1,e1⟩:=items.2 j v (by rw [<- Array.getElem?_toList];exact hj);exact ⟨t1,by rw [e1];congr 1;omega⟩
  exact ⟨.ref _,_,I2.laid (t':=tk) kp (Nat.le_refl _) (show bZ X.prog X.w _ h' _ (.lst ((List.range n).map fun (i:Nat)=>V.int (i:Int))) from ⟨by rw [List.length_map,List.length_range,sizeLine_eq];omega,acc.toList,c,Tz,by simpa using eL⟩),rfl,q _ (I2.hok.fresh (Nat.le_refl _))⟩
end
end L2
namespace JM
open Fk
variable {M:Mol}
theorem Gh (g:oY M) {k:Nat} (hk:k < M.bonds.length) (o:Nat):o ∈ M.mays.getD k [] ↔ (1<=o/\o<=3)/\Found (cS M) (b5 M) k o:=by
 have e:M.mays.getD k []=[1,2,3].filter fun o=>(ur M).any fun r=>r[k]?==some o:=by
   unfold Mol.mays;simp only;rw [List.getD,List.getElem?_map,List.getElem?_range hk];rfl
 rw [e,List.mem_filter];constructor
 . rintro ⟨h1,h2⟩
   have ho:1<=o/\o<=3:=by simp at h1;omega
   refine ⟨ho,?_⟩;rw [g.found hk ho];rw [List.any_eq_true] at h2;simpa using h2
 . rintro ⟨ho,h2⟩
   refine ⟨by simp;omega,?_⟩;rw [g.found hk ho] at h2;rw [List.any_eq_true];simpa using h2
theorem vn (P:Nat->Prop) (i:Nat):(fG P).testBit i=true ↔ i < 3/\P (i+1):=by
 have big:∀ n i,n < 8->3<=i->n.testBit i=false:=fun n i hn hi=>Nat.testBit_lt_two_pow (Nat.lt_of_lt_of_le hn (Nat.pow_le_pow_right (n:=2) (by decide) hi));have le:fG P < 8:=by
   unfold fG;by_cases h1:P 1<;>by_cases h2:P 2<;>by_cases h3:P 3<;>simp [h1,h2,h3]
 by_cases hi:3<=i
 . rw [big _ _ le hi]
   constructor
   . intro h;cases h
   . intro h;omega
 . have:i=0\/i=1\/i=2:=by omega
   unfold fG;rcases this with rfl | rfl | rfl<;>(by_cases h1:P 1<;>by_cases h2:P 2<;>by_cases h3:P 3<;>simp [h1,h2,h3]<;>decide)
end JM
namespace JM
open Fk
abbrev dU:=List (Nat×Nat)
def bW (S T:Sight):Nat->dU->List dU
 | 0,had=>[had]
 | k+1,had=>((List.range T.mol.n).flatMap fun w=>if pairGoes S T had (S.mol.n - (k+1)) w=true then bW S T k (had++[(S.mol.n - (k+1),w)]) else [])++bW S T k had
def pick (M:Mol) (b h:dU):dU:=if b.length < h.length/\hangs M (h.map fun x=>x.1)=true then h else b
theorem lV (S T:Sight):∀ (k:Nat) (had h:dU),h ∈ bW S T k had->∃ t,h=had++t/\t.length<=k/\∀ x ∈ t,S.mol.n - k<=x.1
 | 0,had,h,hm=>⟨[],by rw [List.mem_singleton.mp hm];simp,Nat.le_refl _,by simp⟩
 | k+1,had,h,hm=>by
   rcases List.mem_append.mp hm with hm | hm
   . obtain ⟨w,_,hm⟩:=List.mem_flatMap.mp hm
     split at hm
     . obtain ⟨t,rfl,l,b⟩:=lV S T k _ h hm
       refine ⟨(S.mol.n - (k+1),w)::t,by simp,by simp;exact l,fun x hx=>?_⟩
       rcases List.mem_cons.mp hx with rfl | hx
       . exact Nat.le_refl _
       . have:=b x hx
         omega
     . cases hm
   . obtain ⟨t,rfl,l,b⟩:=lV S T k had h hm
     exact ⟨t,rfl,by omega,fun x hx=>by have:=b x hx;omega⟩
theorem Aj {M:Mol} {b:dU}:∀ {l:List dU},(∀ h ∈ l,h.length<=b.length)->l.foldl (pick M) b=b
 | [],_=>rfl
 | h::l,hl=>by
  have e:pick M b h=b:=if_neg fun c=>by have:=hl h (by simp);omega
  rw [List.foldl_cons,e]
  exact Aj fun x hx=>hl x (by simp [hx])
theorem Ak {α β γ:Type} (f:α->List β) (g:γ->β->γ):∀ (l:List α) (b:γ),(l.flatMap f).foldl g b=l.foldl (fun b x=>(f x).foldl g b) b
 | [],_=>rfl
 | x::l,b=>by rw [List.flatMap_cons,List.foldl_append,Ak f g l,List.foldl_cons]
theorem kK (S T:Sight):∀ (k:Nat) (had best:dU),greatestFrom S T k had best=(bW S T k had).foldl (pick S.mol) best
 | 0,had,best=>rfl
 | k+1,had,best=>by
   rw [greatestFrom]
   split
   . rename_i c
     refine (Aj fun h hm=>?_).symm
     obtain ⟨t,rfl,l,_⟩:=lV S T (k+1) had h hm
     rw [List.length_append]
     omega
   . show greatestFrom S T k had _=_
     rw [kK S T k had,bW,List.foldl_append,Ak]
     congr 1
     congr 1
     funext b w
     split
     . exact kK S T k _ b
     . rfl
structure Val (S T:Sight) (h:dU):Prop where
 rise:h.Pairwise fun x y=>x.1 < y.1
 lt:∀ x ∈ h,x.1 < S.mol.n/\x.2 < T.mol.n/\kin (S.mol.atom x.1) (T.mol.atom x.2)=true
 two:h.Pairwise fun x y=>x.2 ≠ y.2/\S.between_ x.1 y.1=T.between_ x.2 y.2
theorem qN (S T:Sight) (had:dU) (v w:Nat):pairGoes S T had v w=true ↔ kin (S.mol.atom v) (T.mol.atom w)=true/\∀ x ∈ had,x.2 ≠ w/\S.between_ x.1 v=T.between_ x.2 w:=by
 unfold pairGoes;rw [Bool.and_eq_true,List.all_eq_true];refine and_congr_right fun _=>forall_congr' fun x=>forall_congr' fun _=>?_;rw [Bool.and_eq_true,bne_iff_ne,beq_iff_eq]
theorem Val.snoc {S T:Sight} {h:dU} {v w:Nat} (V:Val S T h) (lt:∀ x ∈ h,x.1 < v) (hv:v < S.mol.n) (hw:w < T.mol.n) (g:pairGoes S T h v w=true):Val S T (h++[(v,w)]):=by
 rw [qN] at g;refine ⟨?_,fun x hx=>?_,?_⟩
 . rw [List.pairwise_append]
   exact ⟨V.rise,by simp,fun x hx y hy=>by rw [List.mem_singleton.mp hy];exact lt x hx⟩
 . rcases List.mem_append.mp hx with hx | hx
   . exact V.lt x hx
   . rw [List.mem_singleton.mp hx];exact ⟨hv,hw,g.1⟩
 . rw [List.pairwise_append]
   exact ⟨V.two,by simp,fun x hx y hy=>by rw [List.mem_singleton.mp hy];exact g.2 x hx⟩
theorem Val.sub {S T:Sight} {h k:dU} (V:Val S T h) (s:k.Sublist h):Val S T k:=⟨V.rise.sublist s,fun x hx=>V.lt x (s.subset hx),V.two.sublist s⟩
theorem jM (S T:Sight):∀ (k:Nat) (had h:dU),k<=S.mol.n->Val S T had->(∀ x ∈ had,x.1 < S.mol.n - k)->(h ∈ bW S T k had ↔ Val S T h/\∃ t,h=had++t/\∀ x ∈ t,S.mol.n - k<=x.1)
 | 0,had,h,_,V,_=>by
   constructor
   . intro hm
     rw [List.mem_singleton.mp hm]
     exact ⟨V,[],by simp,by simp⟩
   . rintro ⟨V',t,rfl,hb⟩
     cases t with
     | nil=>simp [bW]
     | cons x t=>
       have:=hb x (by simp)
       have:=(V'.lt x (by simp)).1
       omega
 | k+1,had,h,hk,V,lt=>by
   have v1:S.mol.n - (k+1) < S.mol.n - k:=by omega
   constructor
   . intro hm
     rcases List.mem_append.mp hm with hm | hm
     . obtain ⟨w,hw,hm⟩:=List.mem_flatMap.mp hm
       split at hm
       . rename_i g
         have V2:=V.snoc lt (by omega) (List.mem_range.mp hw) g
         obtain ⟨V',t,rfl,hb⟩:=(jM S T k _ h (by omega) V2 (fun x hx=>by
           rcases List.mem_append.mp hx with hx | hx
           . have:=lt x hx
             omega
           . rw [List.mem_singleton.mp hx];exact v1)).mp hm
         refine ⟨V',(S.mol.n - (k+1),w)::t,by simp,fun x hx=>?_⟩
         rcases List.mem_cons.mp hx with rfl | hx
         . exact Nat.le_refl _
         . have:=hb x hx
           omega
       . cases hm
     . obtain ⟨V',t,rfl,hb⟩:=(jM S T k had h (by omega) V (fun x hx=>by have:=lt x hx;omega)).mp hm
       exact ⟨V',t,rfl,fun x hx=>by have:=hb x hx;omega⟩
   . rintro ⟨V',t,rfl,hb⟩
     rw [bW,List.mem_append]
     have low:∀ x ∈ had,x.1 < S.mol.n - k:=fun x hx=>by have:=lt x hx;omega
     cases t with
     | nil=>exact .inr ((jM S T k had _ (by omega) V low).mpr ⟨V',[],rfl,by simp⟩)
     | cons x t=>
       have r:=V'.rise
       rw [List.pairwise_append,List.pairwise_cons] at r
       by_cases c:x.1=S.mol.n - (k+1)
       . left
         have hx:=V'.lt x (by simp)
         have tw:=V'.two
         rw [List.pairwise_append,List.pairwise_cons] at tw
         have g:pairGoes S T had (S.mol.n - (k+1)) x.2=true:=by
           rw [qN,<- c];exact ⟨hx.2.2,fun z hz=>tw.2.2 z hz x (by simp)⟩
         have ex:(S.mol.n - (k+1),x.2)=x:=by rw [<- c]
         refine List.mem_flatMap.mpr ⟨x.2,List.mem_range.mpr hx.2.1,?_⟩;rw [if_pos g,ex];have V2:Val S T (had++[x]):=V'.sub (by
           have:(had++[x]).Sublist (had++[x]++t):=List.sublist_append_left _ _;simpa using this)
         refine (jM S T k _ _ (by omega) V2 fun z hz=>?_).mpr ⟨V',t,by simp,fun z hz=>?_⟩
         . rcases List.mem_append.mp hz with hz | hz
           . exact low z hz
           . rw [List.mem_singleton.mp hz];omega
         . have:=r.2.1.1 z hz
           omega
       . right
         refine (jM S T k had _ (by omega) V low).mpr ⟨V',x::t,rfl,fun z hz=>?_⟩;have hx:=hb x (by simp);rcases List.mem_cons.mp hz with rfl | hz
         . omega
         . have:=r.2.1.1 z hz
           omega
theorem Gi (S T:Sight) (h:dU):h ∈ bW S T S.mol.n [] ↔ Val S T h:=by
 rw [jM S T S.mol.n [] h (Nat.le_refl _) ⟨.nil,by simp,.nil⟩ (by simp)];exact ⟨fun q=>q.1,fun q=>⟨q,h,rfl,fun x _=>by omega⟩⟩
def Lx (a b:dU):Prop:=∃ p x y s t,a=p++x::s/\b=p++y::t/\(x.1 < y.1\/(x.1=y.1/\x.2 < y.2))
theorem o9 (S T:Sight):∀ (k:Nat) (had:dU),k<=S.mol.n->(bW S T k had).Pairwise fun a b=>a.length=b.length->Lx a b
 | 0,had,_=>by simp [bW]
 | k+1,had,hk=>by
   have v1:S.mol.n - (k+1) < S.mol.n - k:=by omega
   have pre:∀ {w:Nat} {a:dU},a ∈ (if pairGoes S T had (S.mol.n - (k+1)) w=true then bW S T k (had++[(S.mol.n - (k+1),w)]) else [])->∃ t,a=had++(S.mol.n - (k+1),w)::t:=fun {w a} ha=>by
     split at ha
     . obtain ⟨t,rfl,_⟩:=lV S T k _ a ha
       exact ⟨t,by simp⟩
     . cases ha
   rw [bW,List.pairwise_append]
   refine ⟨?_,o9 S T k had (by omega),fun a ha b hb len=>?_⟩
   . rw [List.pairwise_flatMap]
     refine ⟨fun w _=>?_,?_⟩
     . split
       . exact o9 S T k _ (by omega)
       . exact .nil
     . refine List.pairwise_lt_range.imp fun {w w'} ww a ha b hb _=>?_
       obtain ⟨s,rfl⟩:=pre ha
       obtain ⟨t,rfl⟩:=pre hb
       exact ⟨had,_,_,s,t,rfl,rfl,.inr ⟨rfl,ww⟩⟩
   . obtain ⟨w,_,ha⟩:=List.mem_flatMap.mp ha
     obtain ⟨s,rfl⟩:=pre ha
     obtain ⟨t,rfl,_,hb⟩:=lV S T k had b hb
     cases t with
     | nil=>simp at len
     | cons y t=>
       have:=hb y (by simp)
       exact ⟨had,_,y,s,t,rfl,rfl,.inl (by omega)⟩
theorem vo {M:Mol} {R:dU->dU->Prop}:∀ (l:List dU) (b:dU),l.Pairwise R->
   (l.foldl (pick M) b=b/\∀ h ∈ l,hangs M (h.map fun x=>x.1)=true->h.length<=b.length) \/
   (l.foldl (pick M) b ∈ l/\hangs M ((l.foldl (pick M) b).map fun x=>x.1)=true/\b.length < (l.foldl (pick M) b).length /\
     ∀ h ∈ l,hangs M (h.map fun x=>x.1)=true->h.length<=(l.foldl (pick M) b).length/\(h.length=(l.foldl (pick M) b).length->h=l.foldl (pick M) b\/R (l.foldl (pick M) b) h))
 | [],b,_=>.inl ⟨rfl,by simp⟩
 | x::l,b,pw=>by
   rw [List.pairwise_cons] at pw
   rw [List.foldl_cons]
   by_cases c:b.length < x.length/\hangs M (x.map fun x=>x.1)=true
   . have e:pick M b x=x:=if_pos c
     rw [e]
     right
     rcases vo l x pw.2 with ⟨e1,h1⟩ | ⟨m,g,lt,h1⟩
     . rw [e1]
       refine ⟨List.mem_cons_self,c.2,c.1,fun h hh hg=>?_⟩
       rcases List.mem_cons.mp hh with rfl | hh
       . exact ⟨Nat.le_refl _,fun _=>.inl rfl⟩
       . exact ⟨h1 h hh hg,fun _=>.inr (pw.1 h hh)⟩
     . refine ⟨List.mem_cons_of_mem _ m,g,by omega,fun h hh hg=>?_⟩
       rcases List.mem_cons.mp hh with rfl | hh
       . exact ⟨by omega,fun q=>by omega⟩
       . exact h1 h hh hg
   . have e:pick M b x=b:=if_neg c
     rw [e]
     rcases vo l b pw.2 with ⟨e1,h1⟩ | ⟨m,g,lt,h1⟩
     . left
       refine ⟨e1,fun h hh hg=>?_⟩
       rcases List.mem_cons.mp hh with rfl | hh
       . exact Nat.le_of_not_lt fun q=>c ⟨q,hg⟩
       . exact h1 h hh hg
     . right
       refine ⟨List.mem_cons_of_mem _ m,g,lt,fun h hh hg=>?_⟩
       rcases List.mem_cons.mp hh with rfl | hh
       . have:=Nat.le_of_not_lt fun q=>c ⟨q,hg⟩
         exact ⟨by omega,fun q=>by omega⟩
       . exact h1 h hh hg
end JM
namespace JM
open Fk
theorem Wk.first {S:Nat->Nat->Prop} {x y k:Nat} (h:Wk S x (k+1) y):∃ z,S x z/\Wk S z k y:=by
 generalize e:k+1=m at h;induction h generalizing k with
 | refl=>cases e
 | @step j y z w s ih=>
  cases e;cases j with
  | zero=>
   cases w;exact ⟨_,s,.refl⟩
  | succ j=>
   obtain ⟨u,h1,h2⟩:=ih rfl;exact ⟨u,h1,.step h2 s⟩
theorem Wk.trans {S:Nat->Nat->Prop} {x y z j k:Nat} (h:Wk S x j y) (g:Wk S y k z):Wk S x (j+k) z:=by
 induction g with
 | refl=>exact h
 | step _ s ih=>exact .step ih s
theorem Wk.symm {S:Nat->Nat->Prop} (sy:∀ v w,S v w->S w v) {x y k:Nat} (h:Wk S x k y):Wk S y k x:=by
 induction h with
 | refl=>exact .refl
 | step _ s ih=>exact ih.head (sy _ _ s)
variable {M:Mol}
def In (M:Mol) (P:Nat->Prop) (v w:Nat):Prop:=M.joined v w=true/\P v/\P w
theorem In.symm {P:Nat->Prop}:∀ v w,In M P v w->In M P w v:=fun v w h=>⟨by rw [sN];exact h.1,h.2.2,h.2.1⟩
def wU (M:Mol) (P:Nat->Prop):Prop:=∀ v w,P v->P w->∃ k,Wk (In M P) v k w
theorem wU.congr {P Q:Nat->Prop} (h:∀ v,P v ↔ Q v):wU M P ↔ wU M Q:=by
 have e:P=Q:=funext fun v=>propext (h v);rw [e]
theorem Nb (k:Nat) (L:List Nat) (w:Nat):w ∈ M.reach (k+1) L ↔ w ∈ M.reach k ((List.range M.n).filter fun w=>L.contains w||L.any fun v=>M.joined v w):=Iff.rfl
theorem BX (L:List Nat) (w:Nat):w ∈ ((List.range M.n).filter fun w=>L.contains w||L.any fun v=>M.joined v w) ↔ w < M.n/\(w ∈ L\/∃ v ∈ L,M.joined v w=true):=by
 rw [List.mem_filter,List.mem_range,Bool.or_eq_true,List.contains_iff_mem,List.any_eq_true]
theorem yS (hj:∀ v w,M.joined v w=true->v < M.n/\w < M.n):∀ (k:Nat) (L:List Nat) (u w j:Nat),u ∈ L->u < M.n->Wk (Jn M) u j w->j<=k->w ∈ M.reach k L
 | 0,L,u,w,j,hu,_,h,le=>by
  have:j=0:=by omega
  subst this
  cases h
  exact hu
 | k+1,L,u,w,j,hu,lt,h,le=>by
  rw [Nb]
  cases j with
  | zero=>
   cases h
   exact yS hj k _ u u 0 ((BX L u).mpr ⟨lt,.inl hu⟩) lt .refl (by omega)
  | succ j=>
   obtain ⟨z,h1,h2⟩:=h.first
   have hz:=(hj _ _ h1).2
   exact yS hj k _ z w j ((BX L z).mpr ⟨hz,.inr ⟨u,hu,h1⟩⟩) hz h2 (by omega)
theorem Al:∀ (k:Nat) (L:List Nat) (w:Nat),w ∈ M.reach k L->∃ u ∈ L,∃ j,Wk (Jn M) u j w
 | 0,L,w,h=>⟨w,h,0,.refl⟩
 | k+1,L,w,h=>by
   obtain ⟨u,hu,j,hw⟩:=Al k _ w h
   rcases ((BX L u).mp hu).2 with h1 | ⟨v,hv,h1⟩
   . exact ⟨u,h1,j,hw⟩
   . exact ⟨v,hv,j+1,hw.head h1⟩
theorem l6 (hj:∀ v w,M.joined v w=true->v < M.n/\w < M.n) {v w:Nat} (hv:v < M.n):w ∈ M.pieceOf v ↔ ∃ j,Wk (Jn M) v j w:=by
 constructor
 . intro h
   obtain ⟨u,hu,j,q⟩:=Al _ _ _ h;rw [List.mem_singleton.mp hu] at q;exact ⟨j,q⟩
 . rintro ⟨j,h⟩
   obtain ⟨l,nd,hd,la,aj,_⟩:=MU h;cases l with
   | nil=>cases hd
   | cons u t=>
     cases hd;have last:(v::t).getLastD 0=w:=by rw [List.getLastD_eq_getLast?,la];rfl
     have wk:=Gd (S:=Jn M) t v aj;rw [last] at wk;have bl:(v::t).length<=M.n:=by
       refine vW _ _ nd fun x hx=>?_;rcases List.mem_cons.mp hx with rfl | hx
       . exact hv
       . obtain ⟨p,s,e⟩:=List.append_of_mem hx
         obtain ⟨y,hy⟩:∃ y,Ie (v::t) y x:=by
           rw [e];rcases List.eq_nil_or_concat p with rfl | ⟨p',y,rfl⟩
           . exact ⟨v,[],s,rfl⟩
           . exact ⟨y,v::p',s,by simp [List.concat_eq_append]⟩
         exact (hj _ _ (aj _ _ hy)).2
     rw [List.length_cons] at bl;exact yS hj M.n [v] v w t.length (by simp) hv wk (by omega)
theorem u4:∀ (k:Nat) (L:List Nat),(M.reach (k+1) L).Pairwise (· < ·)
 | 0,L=>List.pairwise_lt_range.sublist List.filter_sublist
 | k+1,L=>u4 k _
theorem EY {l:List Nat} (h:l.Pairwise (· < ·)) {v:Nat}:l.head?=some v ↔ v ∈ l/\∀ x ∈ l,v<=x:=by
 cases l with
 | nil=>simp
 | cons x t=>
   rw [List.pairwise_cons] at h;constructor
   . intro e
     cases e;exact ⟨List.mem_cons_self,fun y hy=>by
       rcases List.mem_cons.mp hy with rfl | hy
       . exact Nat.le_refl _
       . exact Nat.le_of_lt (h.1 y hy)⟩
   . rintro ⟨hv,le⟩
     rcases List.mem_cons.mp hv with rfl | hv
     . rfl
     . have:=h.1 v hv
       have:=le x (by simp);omega
theorem Ii (hj:∀ v w,M.joined v w=true->v < M.n/\w < M.n):M.roots.length<=1 ↔ ∀ v w,v < M.n->w < M.n->∃ k,Wk (Jn M) v k w:=by
 have sy:=Qh M;have sorted:∀ v,v < M.n->(M.pieceOf v).Pairwise (· < ·):=fun v hv=>by
   unfold Mol.pieceOf;obtain ⟨m,e⟩:∃ m,M.n=m+1:=⟨M.n - 1,by omega⟩;rw [e];exact u4 m _
 have root:∀ v,v ∈ M.roots ↔ v < M.n/\∀ x,(∃ k,Wk (Jn M) v k x)->v<=x:=fun v=>by
   unfold Mol.roots;rw [List.mem_filter,List.mem_range,beq_iff_eq];refine and_congr_right fun hv=>?_;rw [EY (sorted v hv),l6 hj hv];exact ⟨fun q x hx=>q.2 x ((l6 hj hv).mpr hx),fun q=>⟨⟨0,.refl⟩,fun x hx=>q x ((l6 hj hv).mp hx)⟩⟩
 have nd:M.roots.Nodup:=List.nodup_range.sublist List.filter_sublist;constructor
 . intro h v w hv hw
   have low:∀ v,v < M.n->∃ r ∈ M.roots,∃ k,Wk (Jn M) v k r:=fun v hv=>by
     obtain ⟨r,hr,le⟩:=Ah (M.pieceOf v) (fun e=>by have:=(l6 hj hv (w:=v)).mpr ⟨0,.refl⟩;rw [e] at this;cases this);obtain ⟨k,hk⟩:=(l6 hj hv).mp hr;have rn:r < M.n:=by
       cases hk with
       | refl=>exact hv
       | step _ s=>exact (hj _ _ s).2
     exact ⟨r,(root r).mpr ⟨rn,fun x ⟨j,hx⟩=>le x ((l6 hj hv).mpr ⟨_,hk.trans hx⟩)⟩,k,hk⟩
   obtain ⟨r,hr,j,h1⟩:=low v hv;obtain ⟨r',hr',k,h2⟩:=low w hw;have e:r=r':=by
     match hM:M.roots,h with
     | [],_=>rw [hM] at hr;cases hr
     | [x],_=>
       rw [hM] at hr hr';rw [List.mem_singleton.mp hr,List.mem_singleton.mp hr']
   subst e;exact ⟨_,h1.trans (h2.symm sy)⟩
 . intro h
   have z:∀ x ∈ M.roots,x=0:=fun x hx=>by
     obtain ⟨lt,le⟩:=(root x).mp hx;have:=le 0 (h x 0 lt (by omega));omega
   match hM:M.roots with
   | []=>simp
   | [x]=>simp
   | x::y::t=>
     rw [hM] at z nd;have a:=z x (by simp);have b:=z y (by simp);rw [a,b] at nd;simp at nd
theorem rj {l:List Nat} {v:Nat} (h:v ∈ l):l[(l.findIdx? fun w=>w==v).getD 0]?=some v:=by
 cases e:l.findIdx? fun w=>w==v with
 | none=>
  rw [List.findIdx?_eq_none_iff] at e;have:=e v h;simp at this
 | some i=>
  obtain ⟨hi,hp,_⟩:=List.findIdx?_eq_some_iff_getElem.mp e;show l[i]?=some v;rw [List.getElem?_eq_getElem hi,beq_iff_eq.mp hp]
theorem KY {l:List Nat} (nd:l.Nodup) {i j v:Nat} (h1:l[i]?=some v) (h2:l[j]?=some v):i=j:=by
 obtain ⟨hi,e1⟩:=List.getElem?_eq_some_iff.mp h1;obtain ⟨hj,e2⟩:=List.getElem?_eq_some_iff.mp h2;rcases Nat.lt_trichotomy i j with c | c | c
 . exact absurd (e1.trans e2.symm) (List.pairwise_iff_getElem.mp nd i j hi hj c)
 . exact c
 . exact absurd (e2.trans e1.symm) (List.pairwise_iff_getElem.mp nd j i hj hi c)
theorem qO {l:List Nat} (nd:l.Nodup) {i j:Nat}:(M.only l).joined i j=true ↔ ∃ v w,l[i]?=some v/\l[j]?=some w/\M.joined v w=true:=by
 rw [jL];constructor
 . rintro ⟨x,hx,hj⟩
   obtain ⟨y,hy,rfl⟩:=List.mem_map.mp (show x ∈ ((M.bonds.filter fun x=>l.contains x.a&&l.contains x.b).map fun x=>{ x with a:=(l.findIdx? fun w=>w==x.a).getD 0,b:=(l.findIdx? fun w=>w==x.b).getD 0 }) from hx)
   obtain ⟨hb,hm⟩:=List.mem_filter.mp hy;rw [Bool.and_eq_true,List.contains_iff_mem,List.contains_iff_mem] at hm;have sa:=rj hm.1;have sb:=rj hm.2;unfold Bond.joins at hj;simp only [Bool.or_eq_true,Bool.and_eq_true,beq_iff_eq] at hj;rcases hj with ⟨e1,e2⟩ | ⟨e1,e2⟩
   . rw [e1] at sa;rw [e2] at sb
     exact ⟨y.a,y.b,sa,sb,(jL _ _).mpr ⟨y,hb,by simp [Bond.joins]⟩⟩
   . rw [e1] at sa;rw [e2] at sb
     exact ⟨y.b,y.a,sb,sa,(jL _ _).mpr ⟨y,hb,by simp [Bond.joins]⟩⟩
 . rintro ⟨v,w,hv,hw,h⟩
   obtain ⟨y,hy,hj⟩:=(jL _ _).mp h;have mv:=List.mem_of_getElem? hv;have mw:=List.mem_of_getElem? hw;have ev:(l.findIdx? fun x=>x==v).getD 0=i:=KY nd (rj mv) hv;have ew:(l.findIdx? fun x=>x==w).getD 0=j:=KY nd (rj mw) hw;unfold Bond.joins at hj;simp only [Bool.or_eq_true,Bool.and_eq_true,beq_iff_eq] at hj;refine ⟨{ y with a:=(l.findIdx? fun w=>w==y.a).getD 0,b:=(l.findIdx? fun w=>w==y.b).getD 0 },List.mem_map.mpr ⟨y,List.mem_filter.mpr ⟨hy,?_⟩,rfl⟩,?_⟩
   . rw [Bool.and_eq_true,List.contains_iff_mem,List.contains_iff_mem]
     rcases hj with ⟨e1,e2⟩ | ⟨e1,e2⟩
     . rw [e1,e2];exact ⟨mv,mw⟩
     . rw [e1,e2];exact ⟨mw,mv⟩
   . unfold Bond.joins
     simp only [Bool.or_eq_true,Bool.and_eq_true,beq_iff_eq];rcases hj with ⟨e1,e2⟩ | ⟨e1,e2⟩
     . rw [e1,e2,ev,ew];exact .inl ⟨rfl,rfl⟩
     . rw [e1,e2,ev,ew];exact .inr ⟨rfl,rfl⟩
theorem Ij {l:List Nat} (nd:l.Nodup):hangs M l=true ↔ wU M (· ∈ l):=by
 unfold hangs;have n:(M.only l).n=l.length:=by simp [Mol.only,Mol.n]
 rw [decide_eq_true_eq,Ii fun v w h=>by
   obtain ⟨a,b,h1,h2,_⟩:=(qO nd).mp h;rw [n];exact ⟨(List.getElem?_eq_some_iff.mp h1).1,(List.getElem?_eq_some_iff.mp h2).1⟩]
 constructor
 . intro h v w hv hw
   obtain ⟨i,hi⟩:=List.getElem?_of_mem hv;obtain ⟨j,hj⟩:=List.getElem?_of_mem hw;obtain ⟨k,q⟩:=h i j (by rw [n];exact (List.getElem?_eq_some_iff.mp hi).1) (by rw [n];exact (List.getElem?_eq_some_iff.mp hj).1);refine ⟨k,?_⟩;clear hw;induction q generalizing w with
   | refl=>
     rw [hi] at hj;cases hj;exact .refl
   | @step k y z _ s ih=>
     obtain ⟨a,b,h1,h2,h3⟩:=(qO nd).mp s;rw [hj] at h2;cases h2;exact .step (ih a h1) ⟨h3,List.mem_of_getElem? h1,List.mem_of_getElem? hj⟩
 . intro h i j hi hj
   rw [n] at hi hj;obtain ⟨k,q⟩:=h l[i] l[j] (List.getElem_mem _) (List.getElem_mem _);have hi':l[i]?=some l[i]:=List.getElem?_eq_getElem hi;have hj':l[j]?=some l[j]:=List.getElem?_eq_getElem hj;refine ⟨k,?_⟩;generalize l[j]=w at q hj';clear hj;induction q generalizing j with
   | refl=>
     rw [KY nd hj' hi'];exact .refl
   | @step k y z _ s ih=>
     obtain ⟨m,hm⟩:=List.getElem?_of_mem s.2.1;exact .step (ih m hm) ((qO nd).mpr ⟨_,_,hm,hj',s.1⟩)
theorem wU.more {P:Nat->Prop} {a b:Nat} (h:wU M P) (ha:P a) (jo:M.joined a b=true):wU M (fun v=>v=b\/P v):=by
 have up:∀ {v w k},Wk (In M P) v k w->Wk (In M fun v=>v=b\/P v) v k w:=fun {v w k} q=>by
   induction q with
   | refl=>exact .refl
   | step _ s ih=>exact .step ih ⟨s.1,.inr s.2.1,.inr s.2.2⟩
 have W5:∀ v,(v=b\/P v)->∃ k,Wk (In M fun v=>v=b\/P v) v k b:=fun v hv=>by
   rcases hv with rfl | hv
   . exact ⟨0,.refl⟩
   . obtain ⟨k,q⟩:=h v a hv ha
     exact ⟨k+1,.step (up q) ⟨jo,.inr ha,.inl rfl⟩⟩
 intro v w hv hw;obtain ⟨j,q1⟩:=W5 v hv;obtain ⟨k,q2⟩:=W5 w hw;exact ⟨_,q1.trans (q2.symm In.symm)⟩
theorem wU.one (v:Nat):wU M (·=v):=fun a b ha hb=>by
 rw [show a=v from ha,show b=v from hb]
 exact ⟨0,.refl⟩
theorem Gj {P Q:Nat->Prop} {v w k:Nat} (h:Wk (In M P) v k w) (hv:Q v) (hw:¬ Q w):∃ a b,Q a/\¬ Q b/\P b/\M.joined a b=true:=by
 induction h with
 | refl=>exact absurd hv hw
 | @step k y z _ s ih=>
   by_cases c:Q y
   . exact ⟨y,z,c,hw,s.2.2,s.1⟩
   . exact ih c
theorem grow {l:List Nat} (nd:l.Nodup) (h:wU M (· ∈ l)) {r:Nat} (hr:r ∈ l):∀ k,k+1<=l.length->∃ s:List Nat,s.Nodup/\s.length=k+1/\(∀ x ∈ s,x ∈ l)/\wU M (· ∈ s)/\r ∈ s
 | 0,_=>⟨[r],by simp,rfl,fun x hx=>by rw [List.mem_singleton.mp hx];exact hr,(wU.congr fun v=>by simp).mpr (wU.one r),by simp⟩
 | k+1,hk=>by
   obtain ⟨s,T4,len,sub,con,rs⟩:=grow nd h hr k (by omega)
   obtain ⟨x,hx,hn⟩:∃ x ∈ l,x ∉ s:=Classical.byContradiction fun c=>by
     have:l.length<=s.length:=List.Nodup.length_le_of_subset nd fun x hx=>Classical.byContradiction fun q=>c ⟨x,hx,q⟩
     omega
   obtain ⟨j,q⟩:=h r x hr hx
   obtain ⟨a,b,ha,hb,hP,jo⟩:=Gj (Q:=(· ∈ s)) q rs hn
   refine ⟨b::s,List.nodup_cons.mpr ⟨hb,T4⟩,by simp [len],fun y hy=>?_,(wU.congr fun v=>by rw [List.mem_cons]).mpr (con.more ha jo),List.mem_cons_of_mem _ rs⟩
   rcases List.mem_cons.mp hy with rfl | hy
   . exact hP
   . exact sub y hy
end JM
namespace JM
open Fk
variable {M N:Mol}
structure Pt (M N:Mol) (j:Nat) (h:dU):Prop where
 val:Val M.sight N.sight h
 len:h.length=j
 con:wU M (· ∈ h.map fun x=>x.1)
theorem Val.nd {S T:Sight} {h:dU} (V:Val S T h):(h.map fun x=>x.1).Nodup:=by
 rw [List.Nodup,List.pairwise_map];exact V.rise.imp fun q=>Nat.ne_of_lt q
theorem Gk {j:Nat} {h:dU} (P:Pt M N (j+2) h):∃ a b,(a,b) ∈ h/\Pt M N (j+1) (h.filter fun x=>x.1 != a)/\∃ c ∈ (h.filter fun x=>x.1 != a).map (fun x=>x.1),M.joined c a=true:=by
 have nd:=P.val.nd;have ll:(h.map fun x=>x.1).length=j+2:=by rw [List.length_map,P.len]
 obtain ⟨r,hr⟩:∃ r,r ∈ h.map fun x=>x.1:=List.exists_mem_of_ne_nil _ fun e=>by rw [e] at ll;simp at ll
 obtain ⟨s,T4,len,sub,con,rs⟩:=grow nd P.con hr j (by omega);obtain ⟨a,ha,hn⟩:∃ x ∈ h.map (fun x=>x.1),x ∉ s:=Classical.byContradiction fun c=>by
   have:(h.map fun x=>x.1).length<=s.length:=List.Nodup.length_le_of_subset nd fun x hx=>Classical.byContradiction fun q=>c ⟨x,hx,q⟩;omega
 have both:∀ x,x ∈ h.map (fun x=>x.1)->x ≠ a->x ∈ s:=fun x hx ne=>Classical.byContradiction fun q=>by
   have:(x::a::s).length<=(h.map fun x=>x.1).length:=List.Nodup.length_le_of_subset (List.nodup_cons.mpr ⟨by simp [ne,q],List.nodup_cons.mpr ⟨hn,T4⟩⟩) fun y hy=>by
     rcases List.mem_cons.mp hy with rfl | hy
     . exact hx
     . rcases List.mem_cons.mp hy with rfl | hy
       . exact ha
       . exact sub y hy
   simp only [List.length_cons] at this;omega
 have mem:∀ x,x ∈ (h.filter fun x=>x.1 != a).map (fun x=>x.1) ↔ x ∈ s:=fun x=>by
   rw [List.mem_map];constructor
   . rintro ⟨y,hy,rfl⟩
     obtain ⟨h1,h2⟩:=List.mem_filter.mp hy;exact both _ (List.mem_map.mpr ⟨y,h1,rfl⟩) (bne_iff_ne.mp h2)
   . intro hx
     obtain ⟨y,hy,rfl⟩:=List.mem_map.mp (sub x hx);exact ⟨y,List.mem_filter.mpr ⟨hy,bne_iff_ne.mpr fun e=>hn (e ▸ hx)⟩,rfl⟩
 obtain ⟨⟨a',b⟩,hab,rfl⟩:=List.mem_map.mp ha;refine ⟨a',b,hab,⟨P.val.sub List.filter_sublist,?_,(wU.congr mem).mpr con⟩,?_⟩
 . have l1:((h.filter fun x=>x.1 != a').map fun x=>x.1).length<=s.length:=List.Nodup.length_le_of_subset (P.val.sub List.filter_sublist).nd fun x hx=>(mem x).mp hx
   have l2:s.length<=((h.filter fun x=>x.1 != a').map fun x=>x.1).length:=List.Nodup.length_le_of_subset T4 fun x hx=>(mem x).mpr hx;rw [List.length_map] at l1 l2;omega
 . obtain ⟨k,q⟩:=P.con a' r ha hr
   obtain ⟨x,y,e,ne,hy,jo⟩:=Gj (Q:=(·=a')) q rfl fun e=>hn (e ▸ rs);rw [show x=a' from e] at jo;exact ⟨y,(mem y).mpr (both y hy ne),by rw [sN];exact jo⟩
theorem Gm {J:Nat} (none:∀ h,¬ Pt M N (J+1) h):∀ (d:Nat) (h:dU),¬ Pt M N (J+1+d) h
 | 0,h=>none h
 | d+1,h=>fun P=>by
  rw [show J+1+(d+1)=J+d+2 by omega] at P
  obtain ⟨a,b,_,P',_⟩:=Gk P
  rw [show J+d+1=J+1+d by omega] at P'
  exact Gm none d _ P'
def rowN (h:dU):List Nat:=h.flatMap fun x=>[x.1,x.2]
def jN (h:dU):List Int:=(rowN h).map fun (n:Nat)=>(n:Int)
theorem yT (a b:dU):jN (a++b)=jN a++jN b:=by
 unfold jN rowN;rw [List.flatMap_append,List.map_append]
theorem Gn (s t:List Int):∀ p:List Int,HT.lexLt (p++s) (p++t)=HT.lexLt s t
 | []=>rfl
 | x::p=>by rw [List.cons_append,List.cons_append,HT.jC,if_pos rfl,Gn s t p]
theorem Qk {a b:dU} (h:Lx a b):HT.lexLt (jN a) (jN b)=true:=by
 obtain ⟨p,x,y,s,t,rfl,rfl,c⟩:=h;rw [yT,yT,Gn];show HT.lexLt ((x.1:Int)::(x.2:Int)::jN s) ((y.1:Int)::(y.2:Int)::jN t)=true;rw [HT.jC];rcases c with c | ⟨c1,c2⟩
 . rw [if_neg (by omega)]
   exact decide_eq_true (by omega)
 . rw [if_pos (by omega),HT.jC,if_neg (by omega)]
   exact decide_eq_true (by omega)
theorem Ik {J:Nat} {h0:dU} (P0:Pt M N J h0) (none:∀ h,¬ Pt M N (J+1) h) (least:∀ h,Pt M N J h->HT.lexLt (jN h) (jN h0)=false):Fk.common M N=rowN h0:=by
 show rowN (greatestFrom M.sight N.sight M.n [] [])=rowN h0;congr 1;rw [kK];have all:=Gi M.sight N.sight;have J0:∀ {h:dU},Val M.sight N.sight h->(hangs M (h.map fun x=>x.1)=true ↔ wU M (· ∈ h.map fun x=>x.1)):=fun V=>Ij V.nd;have m0:h0 ∈ bW M.sight N.sight M.n []:=(all h0).mpr P0.val;have g0:=(J0 P0.val).mpr P0.con;rcases vo (M:=M) (bW M.sight N.sight M.n []) [] (o9 M.sight N.sight M.n [] (Nat.le_refl _)) with ⟨e,h1⟩ | ⟨m,g,lt,h1⟩
 . have:=h1 h0 m0 g0
   rw [show (bW M.sight N.sight M.n []).foldl (pick M.sight.mol) []=[] from e];exact (List.length_eq_zero_iff.mp (by simpa using this)).symm
 . obtain ⟨le,q⟩:=h1 h0 m0 g0
   have VB:=(all _).mp m;have PB:Pt M N _ _:=⟨VB,rfl,(J0 VB).mp g⟩;have Z7:((bW M.sight N.sight M.n []).foldl (pick M) []).length<=J:=Classical.byContradiction fun c=>by
     have:=Gm none (((bW M.sight N.sight M.n []).foldl (pick M) []).length - (J+1)) ((bW M.sight N.sight M.n []).foldl (pick M) []);rw [show J+1+(((bW M.sight N.sight M.n []).foldl (pick M) []).length - (J+1))=((bW M.sight N.sight M.n []).foldl (pick M) []).length by omega] at this;exact this PB
   rw [P0.len] at le;have eJ:((bW M.sight N.sight M.n []).foldl (pick M) []).length=J:=by omega
   rcases q (by rw [P0.len,eJ]) with e | e
   . exact e.symm
   . have l1:=Qk (e (by rw [P0.len,eJ]))
     have:=least _ ⟨VB,eJ,(J0 VB).mp g⟩;rw [l1] at this;cases this
end JM
namespace MP
open PySem PySem.Spec PyProof.Rows L2
open XL (cK)
open Fk (Fault Bytes numIn need andThen Atom Bond Mol PAtom PBond Part)
open JM (aN az cS b5)
theorem u5 (y:aN) (v w:Nat):(az y).bondAt v w=(y.2.map JM.bu).findIdx? (kJ v w):=by
 show (y.2.map fun z=>z.1).findIdx? (fun x=>x.joins v w)=_;rw [List.findIdx?_map,List.findIdx?_map];rfl
noncomputable def qP (y:aN) (v w:Nat):Nat:=match (az y).bondAt v w with
 | some k=>JM.fG (JM.Found (cS (az y)) (b5 (az y)) k)
 | none=>0
def Sv (t:Ad):Sp:=fun vs H Q _=>∃ (g:Addr) (v w:Nat) (z:nG) (y:aN) (D:Addr->Prop),vs=[.ref g,.int (v:Int),.int (w:Int)]/\gp t D H g z y/\eu y/\∀ H',aR H H'->Q (.int (qP y v w:Int)) H'
variable {P:Program} {w:World} {K:Zqq} {mg:Str->Option Value} {base:Heap} {t:Ad}
section
theorem KZ:aM ["self","atom","other","k"] ["self","atom","other"] (aF cM):=mL (by decide +kernel)
theorem Ql (T:Txt K mg t):bI P w K mg base mr 1 t.aS t.bN ["self","atom","other"] (Sv t):=by
 refine T.bO.ok KZ (fun vs H Q E h=>?_) (fun cdv A outer s H vs Q E hr h=>?_)
 . obtain ⟨g,v,u,z,y,D,rfl,_⟩:=h
   rfl
 . obtain ⟨g,v,u,z,y,D,rfl,M,gy,k⟩:=h
   have hu:=hr.un;have hu':(A.deeper (envOfC "Molecule.orders_between" (aF cM) s.heap.objs.size t.aS cdv)).units+1 < cLine:=by omega
   refine ⟨_,aq (aQ (i:=3) KZ.nd rfl (Or.inl rfl) (Ju hu' (aL (pv 0) rfl) (mJ (af (pv 1) (af (pv 2) ay))) ⟨rfl,rfl,rfl,rfl⟩))
     (aE (bC (IK (fM Ou (pv 3) Og rfl) aT (fQ cJ (aL (pv 0) rfl) (pv 3) (fun _ _=>rfl))))),?_⟩
   obtain ⟨dg,eg⟩:=M.obj;refine ⟨_,rfl,fld eg T.aU T.c6 rfl ⟨z.ln,rfl,.inr ⟨_,.inl M.nums⟩,_,rfl,_,rfl,(by show 2<=sizeLine;decide),fun p1 hp1=>?_⟩⟩;have s1:aR H (upd H p1 (.tup [.int (v:Int),.int (u:Int)])):=aG hp1;have YL:rA (upd H p1 (.tup [.int (v:Int),.int (u:Int)])) z.ln (.ref p1) (((az y).bondAt v u).map fun k=>V.int (k:Int)):=by
     have:=rA.t (k:=kI [(v:Int),(u:Int)]) (s1 _ _ M.nums) (by rw [vh];exact ai);rw [M.num,<- u5] at this;exact this
   refine ⟨_,YL,?_⟩;unfold qP at k;cases hb:(az y).bondAt v u with
   | none=>
     rw [hb] at k;refine ⟨_,rfl,rfl,_,rfl,?_⟩;exact xT (k _ s1)
   | some n=>
     rw [hb] at k;have hn:n < y.2.length:=by
       have:=(List.findIdx?_eq_some_iff_getElem.mp (show (y.2.map JM.bu).findIdx? _=some n by rw [<- u5];exact hb)).1;rw [List.length_map] at this;exact this
     refine ⟨_,rfl,rfl,_,rfl,?_⟩;refine vY ?_;have hfo:(vI (ux (cS (az y)) (b5 (az y))))[n]?=some (.int (JM.fG (JM.Found (cS (az y)) (b5 (az y)) n):Int)):=o8 (iV (by rw [nI,List.length_map];exact hn));exact ⟨_,rfl,fld (s1 _ _ eg) T.aU T.dM rfl ⟨_,rfl,zV (c8.of (s1 _ _ M.orders)) (bT hfo) (k _ s1)⟩⟩
def Nc (t:Ad):Sp:=fun vs H Q _=>∃ (o o':Addr) (D D':Addr->Prop) (a b:Atom×Nat),vs=[.ref o,.ref o']/\jx t.bX D H (.ref o) a/\jx t.bX D' H (.ref o') b/\Q (.bl (Fk.kin a.1 b.1)) H
theorem La:aM ["atom","partner"] ["atom","partner"] (aF qc):=mL (by decide +kernel)
theorem Lb (T:Txt K mg t):bI P w K mg base mr 1 t.iy t.jX ["atom","partner"] (Nc t):=by
 refine T.jg.ok La (fun vs H Q E h=>?_) (fun cdv A outer s H vs Q E hr h=>?_)
 . obtain ⟨o,o',D,D',a,b,rfl,_⟩:=h
   rfl
 . obtain ⟨o,o',D,D',a,b,rfl,⟨o1,dx,e1,_,ra⟩,⟨o2,dx',e2,_,rb⟩,k⟩:=h
   cases e1;cases e2;refine ⟨_,aE (bC (uE (mj xG (aL (pv 0) rfl) (aL (pv 1) rfl) (gr _)) (uE (mj xG (aL (pv 0) rfl) (aL (pv 1) rfl) (gr _)) (Az (mj xG (aL (pv 0) rfl) (aL (pv 1) rfl) (gr _)))))),?_⟩;have e:Fk.kin a.1 b.1=(decide (V.int (a.1.element:Int)=V.int (b.1.element:Int))&&(decide (V.int (a.1.isotope:Int)=V.int (b.1.isotope:Int))&&decide (V.int (a.1.charge+4)=V.int (b.1.charge+4)))):=by
     have nt:∀ x z:Nat,(x==z)=decide (V.int (x:Int)=V.int (z:Int)):=fun x z=>by
       rw [Bool.eq_iff_iff,beq_iff_eq,decide_eq_true_eq];exact ⟨fun q=>by rw [q],fun q=>by have:=V.int.inj q;omega⟩
     have ch:(a.1.charge==b.1.charge)=decide (V.int (a.1.charge+4)=V.int (b.1.charge+4)):=by
       rw [Bool.eq_iff_iff,beq_iff_eq,decide_eq_true_eq];exact ⟨fun q=>by rw [q],fun q=>by have:=V.int.inj q;omega⟩
     unfold Fk.kin;rw [nt,nt,ch]
   rw [e] at k;refine ⟨_,rfl,fld ra T.jd T.gf rfl ⟨_,rfl,fld rb T.jd T.gf rfl ⟨rfl,_,rfl,?_⟩⟩⟩;refine Gf _ (fun Qf q=>?_) k;refine ⟨_,rfl,fld ra T.jd T.gg rfl ⟨_,rfl,fld rb T.jd T.gg rfl ⟨rfl,_,rfl,?_⟩⟩⟩;refine Gf _ (fun Qf q=>?_) q;exact ⟨_,rfl,fld ra T.jd T.gQ rfl ⟨_,rfl,fld rb T.jd T.gQ rfl ⟨rfl,q⟩⟩⟩
def iW (n:Nat) (h:JM.dU):List Int:=(List.range n).map fun v=>match h.find? fun x=>x.1==v with
 | some x=>(x.2:Int)
 | none=>-1
theorem DR {n:Nat} {h:JM.dU} {x:Nat×Nat} (nd:(h.map fun x=>x.1).Nodup) (hx:x ∈ h) (lt:x.1 < n):(vI (iW n h))[x.1]?=some (.int (x.2:Int)):=by
 have e:h.find? (fun z=>z.1==x.1)=some x:=by
   induction h with
   | nil=>cases hx
   | cons z h ih=>
     rw [List.map_cons,List.nodup_cons] at nd;rcases List.mem_cons.mp hx with rfl | hx
     . exact List.find?_cons_of_pos (by simp)
     . have ne:z.1 ≠ x.1:=fun q=>nd.1 (q ▸ List.mem_map.mpr ⟨x,hx,rfl⟩)
       rw [List.find?_cons_of_neg (by simpa using ne)];exact ih nd.2 hx
 unfold vI iW;rw [List.getElem?_map,List.getElem?_map,List.getElem?_range lt];simp only [Option.map_some,e]
noncomputable def iI (y y2:aN) (h:JM.dU) (v w:Nat):Bool:=h.all fun x=>decide (qP y x.1 v=qP y2 x.2 w)
def Vm (K:Zqq) (t:Ad):Sp:=fun vs H Q _=>∃ (g g2 ta r:Addr) (v w:Nat) (h:JM.dU) (z z2:nG) (y y2:aN) (D D2:Addr->Prop),vs=[.ref g,.ref g2,.ref ta,.ref r,.int (v:Int),.int (w:Int)]/\gp t D H g z y/\eu y/\gp t D2 H g2 z2 y2/\eu y2 /\
 H ta=some (.tup (vN (h.map fun x=>x.1)))/\H r=some (.lst (vI (iW y.1.length h)))/\(h.map fun x=>x.1).Nodup/\(∀ x ∈ h,x.1 < y.1.length)/\∀ H',aR H H'->Q (.bl (iI y y2 h v w)) H'
theorem NT:aM ["one","other","atoms","row","atom","partner","member"] ["one","other","atoms","row","atom","partner"] (aF jc):=mL (by decide +kernel)
theorem Sw (T:Txt K mg t):bI P w K mg base mr 2 t.bY t.eN ["one","other","atoms","row","atom","partner"] (Vm K t):=by
 have GO:=@Ql P w K mg base t T;refine T.cY.ok NT (fun vs H Q E h=>?_) (fun cdv A outer s H vs Q E hr h=>?_)
 . obtain ⟨g,g2,ta,r,v,w,h,z,z2,y,y2,D,D2,rfl,_⟩:=h
   rfl
 . obtain ⟨g,g2,ta,r,v,u,h,z,z2,y,y2,D,D2,rfl,M,gy,M2,Am,IC,hr0,nd,lt,k⟩:=h
   refine ⟨_,aq (dN PassesOwn.never rfl (uF (pv 2)) (bx (i:=6) NT.nd rfl (Or.inl rfl))
       (aE (l8 (fM Cj (bM (pv 0) T.aU T.fk GO hr T.fj .nil cZ (af (pv 6) (af (pv 4) ay))) (bM (pv 1) T.aU T.fk GO hr T.fj .nil cZ (af (fQ cJ (pv 3) (pv 6) (fun _ _=>rfl)) (af (pv 5) ay))) (gr _)) (aE (bC xC)) gq)))
     (aE (bC xC)),?_⟩
   obtain ⟨dg,eg⟩:=M.obj;obtain ⟨W6,T5⟩:=M2.obj;refine ⟨_,rfl,ta,rfl,⟨_,j0.of IC⟩,?_⟩;let vc:L2.Iv:=fun i σ H'=>∃ v6,σ=[some (.ref g),some (.ref g2),some (.ref ta),some (.ref r),some (.int (v:Int)),some (.int (u:Int)),v6]/\aR H H'/\iI y y2 (h.drop i) v u=iI y y2 h v u;refine qS (K:=K) (a:=ta) (xs:=vN (h.map fun x=>x.1)) vc ⟨none,rfl,aR.refl _,rfl⟩ (fun i σ H' _ ⟨_,_,sm,_⟩=>j0.of (sm _ _ IC)) ?_ ?_
   . rintro i a σ H' hx ⟨v6,rfl,sm,e⟩
     obtain ⟨m,hm,rfl⟩:=vj hx;rw [List.getElem?_map] at hm;cases hb:h[i]? with
     | none=>rw [hb] at hm;cases hm
     | some x=>
       rw [hb] at hm;cases hm;have ed:h.drop i=x::h.drop (i+1):=by
         obtain ⟨hlt,hv'⟩:=List.getElem?_eq_some_iff.mp hb;rw [List.drop_eq_getElem_cons hlt,hv']
       have xm:=List.mem_of_getElem? hb;have e':(decide (qP y x.1 v=qP y2 x.2 u)&&iI y y2 (h.drop (i+1)) v u)=iI y y2 h v u:=by
         rw [<- e,ed];rfl
       refine ⟨_,rfl,g,dg,_,rfl,sm _ _ eg,rfl,_,rfl,_,rfl,?_⟩;refine ⟨g,x.1,v,z,y,D,rfl,M.same sm,gy,fun H2 s2=>?_⟩;have T6:=sm.trans s2;refine ⟨_,rfl,g2,W6,_,rfl,T6 _ _ T5,rfl,_,rfl,_,rfl,zV (c8.of (T6 _ _ hr0)) (bT (DR nd xm (lt x xm))) ⟨_,rfl,?_⟩⟩;refine ⟨g2,x.2,u,z2,y2,D2,rfl,M2.same T6,Am,fun H3 s3=>?_⟩;have T7:=T6.trans s3;refine ⟨rfl,_,rfl,?_⟩;by_cases c:qP y x.1 v=qP y2 x.2 u
       . have ne:(!decide (V.int (qP y x.1 v:Int)=V.int (qP y2 x.2 u:Int)))=false:=by rw [c];simp
         rw [ne];refine vY ⟨_,rfl,T7,?_⟩;rw [decide_eq_true c,Bool.true_and] at e';exact e'
       . have ne:(!decide (V.int (qP y x.1 v:Int)=V.int (qP y2 x.2 u:Int)))=true:=by
           have:¬ V.int (qP y x.1 v:Int)=V.int (qP y2 x.2 u:Int):=fun q=>c (by have:=V.int.inj q;omega);simp [this]
         rw [ne];rw [decide_eq_false c,Bool.false_and] at e';rw [<- e'] at k;exact xT (k _ T7)
   . rintro σ H' ⟨v6,rfl,sm,e⟩
     rw [lU,List.length_map,List.drop_length] at e;have:=k _ sm;rw [<- e] at this;exact this
end
end MP
namespace JM
open Fk
def ins (h:dU) (v w:Nat):dU:=(h.filter fun z=>decide (z.1 < v))++(v,w)::h.filter fun z=>decide (v < z.1)
theorem jP {h:dU} {v w:Nat} (nv:v ∉ h.map fun x=>x.1) {x:Nat×Nat}:x ∈ ins h v w ↔ x=(v,w)\/x ∈ h:=by
 unfold ins;rw [List.mem_append,List.mem_cons,List.mem_filter,List.mem_filter,decide_eq_true_eq,decide_eq_true_eq];constructor
 . rintro (q | q | q)
   . exact .inr q.1
   . exact .inl q
   . exact .inr q.1
 . rintro (q | q)
   . exact .inr (.inl q)
   . have:x.1 ≠ v:=fun e=>nv (e ▸ List.mem_map.mpr ⟨x,q,rfl⟩)
     rcases Nat.lt_or_ge x.1 v with c | c
     . exact .inl ⟨q,c⟩
     . exact .inr (.inr ⟨q,by omega⟩)
theorem DS {h:dU} {v w:Nat} (r:h.Pairwise fun x y=>x.1 < y.1):(ins h v w).Pairwise fun x y=>x.1 < y.1:=by
 unfold ins;rw [List.pairwise_append,List.pairwise_cons];refine ⟨r.sublist List.filter_sublist,⟨fun z hz=>?_,r.sublist List.filter_sublist⟩,fun x hx y hy=>?_⟩
 . exact of_decide_eq_true (List.mem_filter.mp hz).2
 . have a:=of_decide_eq_true (List.mem_filter.mp hx).2
   rcases List.mem_cons.mp hy with rfl | hy
   . exact a
   . have b:=of_decide_eq_true (List.mem_filter.mp hy).2
     omega
theorem Gp {h:dU} {v w:Nat} (r:h.Pairwise fun x y=>x.1 < y.1) (nv:v ∉ h.map fun x=>x.1):(ins h v w).length=h.length+1:=by
 unfold ins;rw [List.length_append,List.length_cons];have:∀ l:dU,v ∉ l.map (fun x=>x.1)->(l.filter fun z=>decide (z.1 < v)).length+(l.filter fun z=>decide (v < z.1)).length=l.length:=by
   intro l;induction l with
   | nil=>intro _;rfl
   | cons z l ih=>
     intro nv;rw [List.map_cons,List.mem_cons,not_or] at nv;have:=ih nv.2;rw [List.filter_cons,List.filter_cons,List.length_cons];rcases Nat.lt_or_gt_of_ne nv.1 with c | c
     . rw [if_neg (by simp;omega),if_pos (by simpa using c),List.length_cons]
       omega
     . rw [if_pos (by simpa using c),if_neg (by simp;omega),List.length_cons]
       omega
 have:=this h nv;omega
theorem DT {h:dU} {v w:Nat} (r:h.Pairwise fun x y=>x.1 < y.1) (hm:(v,w) ∈ h):ins (h.filter fun x=>x.1 != v) v w=h:=by
 obtain ⟨a,b,rfl⟩:=List.append_of_mem hm;rw [List.pairwise_append,List.pairwise_cons] at r;have la:∀ x ∈ a,x.1 < v:=fun x hx=>r.2.2 x hx (v,w) (by simp);have lb:∀ x ∈ b,v < x.1:=fun x hx=>r.2.1.1 x hx;have e:(a++(v,w)::b).filter (fun x=>x.1 != v)=a++b:=by
   rw [List.filter_append,List.filter_cons_of_neg (by simp),List.filter_eq_self.mpr,List.filter_eq_self.mpr]
   . intro x hx
     have:=lb x hx;rw [bne_iff_ne];omega
   . intro x hx
     have:=la x hx;rw [bne_iff_ne];omega
 rw [e];unfold ins;rw [List.filter_append,List.filter_append];have f1:a.filter (fun z=>decide (z.1 < v))=a:=List.filter_eq_self.mpr fun x hx=>decide_eq_true (la x hx);have f2:b.filter (fun z=>decide (z.1 < v))=[]:=List.filter_eq_nil_iff.mpr fun x hx=>by have:=lb x hx;simp;omega
 have f3:a.filter (fun z=>decide (v < z.1))=[]:=List.filter_eq_nil_iff.mpr fun x hx=>by have:=la x hx;simp;omega
 have f4:b.filter (fun z=>decide (v < z.1))=b:=List.filter_eq_self.mpr fun x hx=>decide_eq_true (lb x hx);rw [f1,f2,f3,f4,List.append_nil,List.nil_append]
theorem mH (S:Sight) (v w:Nat):S.between_ v w=S.between_ w v:=by
 unfold Sight.between_ Mol.bondAt;congr 2;funext x;exact Ai x v w
theorem Val.ins {S T:Sight} {h:dU} {v w:Nat} (V:Val S T h) (nv:v ∉ h.map fun x=>x.1) (hv:v < S.mol.n) (hw:w < T.mol.n) (g:pairGoes S T h v w=true):Val S T (ins h v w):=by
 have g':=(qN S T h v w).mp g;refine ⟨DS V.rise,fun x hx=>?_,?_⟩
 . rcases (jP nv).mp hx with rfl | hx
   . exact ⟨hv,hw,g'.1⟩
   . exact V.lt x hx
 . unfold JM.ins
   rw [List.pairwise_append,List.pairwise_cons];refine ⟨V.two.sublist List.filter_sublist,⟨fun z hz=>?_,V.two.sublist List.filter_sublist⟩,fun x hx y hy=>?_⟩
   . have q:=g'.2 z (List.mem_filter.mp hz).1
     exact ⟨fun e=>q.1 e.symm,by rw [mH S,mH T];exact q.2⟩
   . have hx':=List.mem_filter.mp hx
     rcases List.mem_cons.mp hy with rfl | hy
     . exact g'.2 x hx'.1
     . have hy':=List.mem_filter.mp hy
       have a:=of_decide_eq_true hx'.2;have b:=of_decide_eq_true hy'.2;have pw:=V.two;have rs:=V.rise;obtain ⟨i,hi⟩:=List.getElem?_of_mem hx'.1;obtain ⟨j,hj⟩:=List.getElem?_of_mem hy'.1;obtain ⟨li,ei⟩:=List.getElem?_eq_some_iff.mp hi;obtain ⟨lj,ej⟩:=List.getElem?_eq_some_iff.mp hj;have ij:i < j:=by
         rcases Nat.lt_trichotomy i j with c | c | c
         . exact c
         . subst c
           rw [ei] at ej;rw [ej] at a;omega
         . have:=List.pairwise_iff_getElem.mp rs j i lj li c
           rw [ei,ej] at this;omega
       have:=List.pairwise_iff_getElem.mp pw i j li lj ij;rw [ei,ej] at this;exact this
theorem Val.goes {S T:Sight} {h:dU} {v w:Nat} (V:Val S T h) (hm:(v,w) ∈ h):pairGoes S T (h.filter fun x=>x.1 != v) v w=true:=by
 rw [qN];refine ⟨(V.lt _ hm).2.2,fun x hx=>?_⟩;obtain ⟨hx,ne⟩:=List.mem_filter.mp hx;rw [bne_iff_ne] at ne;obtain ⟨i,hi⟩:=List.getElem?_of_mem hx;obtain ⟨j,hj⟩:=List.getElem?_of_mem hm;obtain ⟨li,ei⟩:=List.getElem?_eq_some_iff.mp hi;obtain ⟨lj,ej⟩:=List.getElem?_eq_some_iff.mp hj;rcases Nat.lt_trichotomy i j with c | c | c
 . have:=List.pairwise_iff_getElem.mp V.two i j li lj c
   rw [ei,ej] at this;exact this
 . subst c
   rw [ei] at ej;rw [ej] at ne;exact absurd rfl ne
 . have:=List.pairwise_iff_getElem.mp V.two j i lj li c
   rw [ei,ej] at this;exact ⟨fun e=>this.1 e.symm,by rw [mH S,mH T];exact this.2⟩
end JM
namespace MP
open PySem PySem.Spec PyProof.Rows L2
open XL (cK)
open Fk (Fault Bytes numIn need andThen Atom Bond Mol PAtom PBond Part)
open JM (aN az cS b5)
theorem DU (M:Mol) {k:Nat} (hk:k < M.bonds.length):M.mays.getD k []=[1,2,3].filter fun o=>decide (o ∈ M.mays.getD k []):=by
 have e:M.mays.getD k []=[1,2,3].filter fun o=>(JM.ur M).any fun r=>r[k]?==some o:=by
  unfold Fk.Mol.mays;simp only;rw [List.getD,List.getElem?_map,List.getElem?_range hk];rfl
 generalize M.mays.getD k []=l at e;subst e;refine List.filter_congr fun o ho=>?_;rw [Bool.eq_iff_iff,decide_eq_true_eq,List.mem_filter];exact ⟨fun q=>⟨ho,q⟩,fun q=>q.2⟩
theorem rm {y:aN} {v w k:Nat} (h:(az y).bondAt v w=some k):k < (az y).bonds.length:=(List.findIdx?_eq_some_iff_getElem.mp h).1
theorem Gq {y:aN} (gy:eu y) {k:Nat} (hk:k < (az y).bonds.length):JM.fG (JM.Found (cS (az y)) (b5 (az y)) k) ≠ 0:=by
 have g:=gy.good;obtain ⟨x,hx⟩:∃ x,(az y).bonds[k]?=some x:=⟨_,List.getElem?_eq_getElem hk⟩;have ho:=g.Kz x (List.mem_of_getElem? hx);have el:(b5 (az y)).length=(az y).bonds.length:=by simp [b5]
 have fo:JM.Found (cS (az y)) (b5 (az y)) k x.order:=by
  refine JM.vS (n:=(az y).n) g.ends (by simp [cS,Fk.Mol.sums]) g.own ?_;have hz:((b5 (az y)).zip (az y).orders)[k]?=some ((b5 (az y))[k]'(by rw [el];exact hk),x.order):=
   List.getElem?_zip_eq_some.mpr ⟨List.getElem?_eq_getElem (by rw [el];exact hk),by unfold Fk.Mol.orders;rw [List.getElem?_map,hx];rfl⟩
  rw [hz];rfl
 intro z;have:=(JM.vn (JM.Found (cS (az y)) (b5 (az y)) k) (x.order - 1)).mpr ⟨by omega,by rw [show x.order - 1+1=x.order by omega];exact fo⟩;rw [z,Nat.zero_testBit] at this;cases this
theorem Gr {y y2:aN} (gy:eu y) (Am:eu y2) (a b c d:Nat):qP y a b=qP y2 c d ↔ (az y).sight.between_ a b=(az y2).sight.between_ c d:=by
 unfold qP Fk.Sight.between_;show _ ↔ ((az y).bondAt a b).map (fun k=>(az y).mays.getD k [])=((az y2).bondAt c d).map fun k=>(az y2).mays.getD k [];cases h1:(az y).bondAt a b with
 | none=>
   cases h2:(az y2).bondAt c d with
   | none=>simp
   | some k2=>
     have:=Gq Am (rm h2);simp;omega
 | some k=>
   cases h2:(az y2).bondAt c d with
   | none=>
     have:=Gq gy (rm h1);simp;omega
   | some k2=>
     simp only [Option.map_some,Option.some.injEq];have m1:=JM.Gh gy.good (rm h1);have m2:=JM.Gh Am.good (rm h2);constructor
     . intro e
       rw [DU _ (rm h1),DU _ (rm h2)];refine List.filter_congr fun o ho=>?_;have ho':1<=o/\o<=3:=by simp at ho;omega
       rw [Bool.eq_iff_iff,decide_eq_true_eq,decide_eq_true_eq,m1,m2];refine and_congr_right fun _=>?_;have b1:=JM.vn (JM.Found (cS (az y)) (b5 (az y)) k) (o - 1);have b2:=JM.vn (JM.Found (cS (az y2)) (b5 (az y2)) k2) (o - 1);rw [e,show o - 1+1=o by omega] at b1;rw [show o - 1+1=o by omega] at b2;constructor
       . intro q
         exact (b2.mp (b1.mpr ⟨by omega,q⟩)).2
       . intro q
         exact (b1.mp (b2.mpr ⟨by omega,q⟩)).2
     . intro e
       refine nF fun o h1 h2=>?_;constructor
       . intro q
         exact ((m2 o).mp (e ▸ (m1 o).mpr ⟨⟨h1,h2⟩,q⟩)).2
       . intro q
         exact ((m1 o).mp (e ▸ (m2 o).mpr ⟨⟨h1,h2⟩,q⟩)).2
theorem BZ {h:JM.dU} (nd:(h.map fun x=>x.1).Nodup) {x:Nat×Nat} (hx:x ∈ h):h.find? (fun z=>z.1==x.1)=some x:=by
 induction h with
 | nil=>cases hx
 | cons z h ih=>
   rw [List.map_cons,List.nodup_cons] at nd;rcases List.mem_cons.mp hx with rfl | hx
   . exact List.find?_cons_of_pos (by simp)
   . have ne:z.1 ≠ x.1:=fun q=>nd.1 (q ▸ List.mem_map.mpr ⟨x,hx,rfl⟩)
     rw [List.find?_cons_of_neg (by simpa using ne)];exact ih nd.2 hx
theorem Lc {n:Nat} {h:JM.dU} {v w:Nat} (r:h.Pairwise fun x y=>x.1 < y.1) (nv:v ∉ h.map fun x=>x.1) (hv:v < n):iW n (JM.ins h v w)=(iW n h).set v (w:Int):=by
 have W7:(h.map fun x=>x.1).Nodup:=by rw [List.Nodup,List.pairwise_map];exact r.imp fun q=>Nat.ne_of_lt q
 have T8:((JM.ins h v w).map fun x=>x.1).Nodup:=by rw [List.Nodup,List.pairwise_map];exact (JM.DS r).imp fun q=>Nat.ne_of_lt q
 refine List.ext_getElem? fun u=>?_;rw [List.getElem?_set];unfold iW;rw [List.length_map,List.length_range,List.getElem?_map,List.getElem?_map];by_cases hu:u < n
 . rw [List.getElem?_range hu]
   simp only [Option.map_some];by_cases e:v=u
   . subst e
     rw [if_pos rfl,if_pos hu,BZ T8 (x:=(v,w)) ((JM.jP nv).mpr (.inl rfl))]
   . rw [if_neg e]
     cases hf:h.find? fun x=>x.1==u with
     | none=>
       have:(JM.ins h v w).find? (fun x=>x.1==u)=none:=by
         rw [List.find?_eq_none];intro x hx;rcases (JM.jP nv).mp hx with rfl | hx
         . simpa using e
         . exact List.find?_eq_none.mp hf x hx
       rw [this]
     | some x=>
       have xu:x.1=u:=by simpa using List.find?_some hf
       have:=BZ T8 ((JM.jP nv).mpr (.inr (List.mem_of_find?_eq_some hf)));rw [xu] at this;rw [this]
 . rw [List.getElem?_eq_none (by simp;omega)]
   simp only [Option.map_none];by_cases e:v=u
   . omega
   . rw [if_neg e]
theorem Ld (n:Nat) (h:JM.dU):(iW n h).length=n:=by simp [iW]
theorem Le {n:Nat} {h:JM.dU} (r:h.Pairwise fun x y=>x.1 < y.1) (lt:∀ x ∈ h,x.1 < n) (w:Nat):(w:Int) ∈ iW n h ↔ w ∈ h.map fun x=>x.2:=by
 have W7:(h.map fun x=>x.1).Nodup:=by rw [List.Nodup,List.pairwise_map];exact r.imp fun q=>Nat.ne_of_lt q
 unfold iW;rw [List.mem_map,List.mem_map];constructor
 . rintro ⟨u,_,e⟩
   cases hf:h.find? fun x=>x.1==u with
   | none=>rw [hf] at e;simp only at e;omega
   | some x=>
     rw [hf] at e;simp only at e;exact ⟨x,List.mem_of_find?_eq_some hf,by omega⟩
 . rintro ⟨x,hx,rfl⟩
   exact ⟨x.1,List.mem_range.mpr (lt x hx),by rw [BZ W7 hx]⟩
theorem Qm (e:Int) (l:List Int):Iz (.int e) (vI l)=l.contains e:=by
 unfold Iz vI;rw [List.any_map,Bool.eq_iff_iff,List.any_eq_true,List.contains_iff_mem];constructor
 . rintro ⟨x,hx,h⟩
   have:x=e:=beq_iff_eq.mp h;exact this ▸ hx
 . intro h
   exact ⟨e,h,by show (e==e)=true;simp⟩
def u6 (n:Nat):mQ JM.dU:=fun D H v h=>∃ a,v=.ref a/\D a/\H a=some (.lst (vI (iW n h)))
theorem u6.ok (n:Nat):qF (u6 n):=⟨fun ⟨a,e,d,h⟩ k=>⟨a,e,d,k _ _ d h⟩,fun ⟨a,e,d,h⟩ k=>⟨a,e,k _ d,h⟩⟩
def Cc (y y2:aN) (v:Nat):List Nat:=(List.range y2.1.length).filter fun w=>Fk.kin ((az y).atom v) ((az y2).atom w)
noncomputable def ext1 (y y2:aN) (h:JM.dU) (v:Nat) (ws:List Nat):List JM.dU:=(ws.filter fun (w:Nat)=>!(iW y.1.length h).contains (w:Int)&&iI y y2 h v w).map fun w=>JM.ins h v w
noncomputable def exts (y y2:aN) (hs:List JM.dU) (v:Nat):List JM.dU:=hs.flatMap fun h=>ext1 y y2 h v (Cc y y2 v)
theorem An {y y2:aN} (gy:eu y) (Am:eu y2) {h:JM.dU} (V:JM.Val (az y).sight (az y2).sight h) {v w:Nat}:w < y2.1.length/\Fk.pairGoes (az y).sight (az y2).sight h v w=true ↔ w ∈ Cc y y2 v/\(!(iW y.1.length h).contains (w:Int)&&iI y y2 h v w)=true:=by
 have lt:∀ x ∈ h,x.1 < y.1.length:=fun x hx=>by have:=(V.lt x hx).1;rw [show (az y).sight.mol.n=y.1.length from jz y] at this;exact this
 have pm:=Le V.rise lt w;rw [JM.qN];unfold Cc iI;rw [List.mem_filter,List.mem_range,Bool.and_eq_true,List.all_eq_true,Bool.not_eq_true',<- Bool.not_eq_true,List.contains_iff_mem,pm];constructor
 . rintro ⟨h1,h2,h3⟩
   refine ⟨⟨h1,h2⟩,fun q=>?_,fun x hx=>decide_eq_true ((Gr gy Am _ _ _ _).mpr (h3 x hx).2)⟩;obtain ⟨x,hx,e⟩:=List.mem_map.mp q;exact (h3 x hx).1 e
 . rintro ⟨⟨h1,h2⟩,h3,h4⟩
   exact ⟨h1,h2,fun x hx=>⟨fun e=>h3 (List.mem_map.mpr ⟨x,hx,e⟩),(Gr gy Am _ _ _ _).mp (of_decide_eq_true (h4 x hx))⟩⟩
theorem Nd (l:List Int):(vI l).all rO=true:=by
 unfold vI;rw [List.all_map,List.all_eq_true];intro x _;rfl
theorem Lf (l:List Int):(vI l).length=l.length:=by simp [vI]
theorem Ao (y y2:aN) (h:JM.dU) (v:Nat) (ws:List Nat) (w:Nat):ext1 y y2 h v (ws++[w])=ext1 y y2 h v ws++if (!(iW y.1.length h).contains (w:Int)&&iI y y2 h v w)=true then [JM.ins h v w] else []:=by
 unfold ext1;rw [List.filter_append,List.map_append,List.filter_cons,List.filter_nil];split<;>simp
theorem DV (y y2:aN) (h:JM.dU) (v:Nat) (ws:List Nat):(ext1 y y2 h v ws).length<=ws.length:=by
 unfold ext1;rw [List.length_map];exact List.length_filter_le _ _
theorem Il (y y2:aN) (hs:List JM.dU) (h:JM.dU) (v:Nat):exts y y2 (hs++[h]) v=exts y y2 hs v++ext1 y y2 h v (Cc y y2 v):=by
 unfold exts;rw [List.flatMap_append];simp
theorem Lg (y y2:aN) (hs:List JM.dU) (v:Nat):(exts y y2 hs v).length<=hs.length * y2.1.length:=by
 induction hs with
 | nil=>exact Nat.zero_le _
 | cons h hs ih=>
  have e:exts y y2 (h::hs) v=ext1 y y2 h v (Cc y y2 v)++exts y y2 hs v:=by unfold exts;rw [List.flatMap_cons]
  have a:(Cc y y2 v).length<=y2.1.length:=Nat.le_trans (List.length_filter_le _ _) (by rw [List.length_range];exact Nat.le_refl _);have b:=DV y y2 h v (Cc y y2 v);rw [e,List.length_append,List.length_cons,Nat.succ_mul];omega
variable {P:Program} {w:World} {K:Zqq} {mg:Str->Option Value} {base:Heap} {t:Ad}
section
def Nf (K:Zqq) (t:Ad):Sp:=fun vs H Q _=>∃ (g g2 ta lr:Addr) (v:Nat) (S:List Nat) (rs:List V) (hs:List JM.dU) (z z2:nG) (y y2:aN) (D D2 D1:Addr->Prop),vs=[.ref g,.ref g2,.ref ta,.ref lr,.int (v:Int)]/\gp t D H g z y/\eu y/\gp t D2 H g2 z2 y2/\eu y2 /\
 v < y.1.length/\v ∉ S/\y2.1.length<=7/\H ta=some (.tup (vN S))/\H lr=some (.lst rs)/\dS (u6 y.1.length) D1 H rs hs/\hs.length<=2097152/\(∀ h ∈ hs,(h.Pairwise fun x y=>x.1 < y.1)/\(h.map fun x=>x.1)=S/\∀ x ∈ h,x.1 < y.1.length) /\
 ∀ H' l rs',aR H H'->H l=none->H' l=some (.lst rs')->dS (u6 y.1.length) (fun b=>H b=none) H' rs' (exts y y2 hs v)->Q (.ref l) H'
theorem lW:aM ["one","other","atoms","rows","atom","alike","k","longer","row","partner","with_partner"] ["one","other","atoms","rows","atom"] (aF ia):=mL (by decide +kernel)
theorem Lh (T:Txt K mg t):bI P w K mg base mr 3 t.bL t.dB ["one","other","atoms","rows","atom"] (Nf K t):=by
 have GA:=@Lb P w K mg base t T;have GJ:=@Sw P w K mg base t T;refine T.cy.ok lW (fun vs H Q E h=>?_) (fun cdv A outer s H vs Q E hr h=>?_)
 . obtain ⟨g,g2,ta,lr,v,S,rs,hs,z,z2,y,y2,D,D2,D1,rfl,_⟩:=h
   rfl
 . obtain ⟨g,g2,ta,lr,v,S,rs,hs,z,z2,y,y2,D,D2,D1,rfl,M,gy,M2,Am,hv,nv,n2,IC,hlr,R1,hlen,ok,k⟩:=h
   have hr1:cU 1 _:=hr.mono (by decide);refine ⟨_,aq (Cu (i:=5) rfl lW.nd rfl rfl rfl (ly rfl T.lu (af (c9 aY (by rfl) T.j6 PySem.boot_len (af (aL (pv 1) rfl) ay)) ay)) (sZ (own:=[("k",6)]) rfl) (fun _ _ _ _ _=>bx (i:=6) lW.nd rfl (Or.inl rfl))
       (fun _ _ _ _ _=>A7 (uD (bB GA hr1 rfl T.vK T.jg.kp T.vF .nil cZ (af (fQ (DM (K0:=K) rfl) (x8 (K0:=K) rfl (pv 0) rfl) (pv 4) (fun _ _=>rfl)) (af (fQ (DM (K0:=K) rfl) (x8 (K0:=K) rfl (pv 1) rfl) (pv 6) (fun _ _=>rfl)) ay))))) (fun _ _ _ _ _=>pv 6))
     (aq (aQ (i:=7) lW.nd rfl (Or.inl rfl) (iK ay))
     (aq (dN PassesOwn.never rfl (kZ (pv 3)) (bx (i:=8) lW.nd rfl (Or.inl rfl))
       (aE (dN PassesOwn.never rfl (kZ (pv 5)) (bx (i:=9) lW.nd rfl (Or.inl rfl))
         (aE (l8 (PW.pt (Ay (fM sV (pv 9) (pv 8) rfl) (wQ (uD (bB GJ hr rfl T.lK T.cY.kp T.lI .nil cZ (af (pv 0) (af (pv 1) (af (pv 2) (af (pv 8) (af (pv 4) (af (pv 9) ay)))))))))))
           (aq (aQ (i:=10) lW.nd rfl (Or.inl rfl) (l0 sW (by rfl) T.ym PyProof.Rows.boot_list (af (pv 8) ay)))
           (aq (IP (pv 9) (IM (pv 10) (pv 4) set_list))
           (aE (dJ (rP PySem.F.plainAttrs_list PySem.F.slot_list_append PySem.F.type_list_append iB (pv 7) (af (pv 10) ay)))))) gq)))))
     (aE (bC (pv 7))))),?_⟩
   obtain ⟨dg,eg⟩:=M.obj;obtain ⟨W6,T5⟩:=M2.obj;have al:z.as.length=y.1.length:=M.ra.len;have YM:z2.as.length=y2.1.length:=M2.ra.len;have T9:=u6.ok y.1.length;obtain ⟨av,W8⟩:∃ a,z.as[v]?=some a:=⟨_,List.getElem?_eq_getElem (by omega)⟩;obtain ⟨bv,hbv⟩:∃ a,y.1[v]?=some a:=⟨_,List.getElem?_eq_getElem hv⟩;obtain ⟨ao,YN,rfl,aD,ae⟩:=M.ra.at_ v av bv W8 hbv;have ev:(az y).atom v=bv.1:=uz hbv;refine ⟨_,rfl,fld T5 T.aU T.aX rfl ⟨z2.la,z2.as,rfl,.inl (c8.of M2.atoms),(z2.as.length:Int),rfl,by omega,by omega,?_⟩⟩;rw [Int.toNat_natCast];intro la hla;refine Cv (n:=z2.as.length) (fun i H'=>aR H H'/\H' la=some (.lst (vN ((List.range i).filter fun w=>Fk.kin ((az y).atom v) ((az y2).atom w))))) ⟨aG hla,ai⟩ ?_ ?_
   . rintro i H' hi ⟨s1,hl1⟩
     obtain ⟨aw,W9⟩:∃ a,z2.as[i]?=some a:=⟨_,List.getElem?_eq_getElem hi⟩;obtain ⟨bw,WA⟩:∃ a,y2.1[i]?=some a:=⟨_,List.getElem?_eq_getElem (by omega)⟩;obtain ⟨wo,YO,rfl,wD,we⟩:=M2.ra.at_ i aw bw W9 WA;have ew:(az y2).atom i=bw.1:=uz WA;have fl:=List.length_filter_le (fun w=>Fk.kin ((az y).atom v) ((az y2).atom w)) (List.range i);rw [List.length_range] at fl;rw [Int.zero_add];refine ⟨rfl,_,rfl,fld (s1 _ _ eg) T.aU T.aX rfl ⟨_,rfl,zV (c8.of (s1 _ _ M.atoms)) (bT W8) ⟨_,rfl,fld (s1 _ _ T5) T.aU T.aX rfl ⟨_,rfl,zV (c8.of (s1 _ _ M2.atoms)) (bT W9) ?_⟩⟩⟩⟩;refine ⟨ao,wo,D,D2,bv,bw,rfl,⟨ao,YN,rfl,aD,s1 _ _ ae⟩,⟨wo,YO,rfl,wD,s1 _ _ we⟩,⟨_,rfl,?_⟩⟩;rw [List.range_succ,List.filter_append,List.filter_cons,List.filter_nil,ev,ew];rw [ev] at hl1 fl;cases hk:Fk.kin bv.1 bw.1 with
     | true=>
       refine xT ⟨_,rfl,_,hl1,by rw [lU,sizeLine_eq];omega,fun b o e=>by rw [ak (au e hla)];exact s1 b o e,?_⟩;rw [if_pos rfl,Ge];exact ai
     | false=>
       refine vY ⟨s1,?_⟩;rw [if_neg (by decide),List.append_nil];exact hl1
   . rintro H1 ⟨s1,hl1⟩
     rw [YM] at hl1;have hl1:H1 la=some (.lst (vN (Cc y y2 v))):=hl1;have Z8:(Cc y y2 v).length<=7:=Nat.le_trans (List.length_filter_le _ _) (by rw [List.length_range];exact n2);refine ⟨Nat.zero_le _,fun l hl=>?_⟩;have s0:aR H (upd H1 l (.lst [])):=s1.trans (aG hl);have RZ:H l=none:=s1.free hl;have Q3:la ≠ l:=au hl1 hl;refine ⟨_,rfl,lr,rfl,⟨_,c8.of (s0 _ _ hlr)⟩,?_⟩;let vc:L2.Iv:=fun i σ H'=>∃ v8 v9 v10 rs',σ=[some (.ref g),some (.ref g2),some (.ref ta),some (.ref lr),some (.int (v:Int)),some (.ref la),none,some (.ref l),v8,v9,v10]/\aR H H'/\H' la=some (.lst (vN (Cc y y2 v)))/\H' l=some (.lst rs')/\dS (u6 y.1.length) (fun b=>H b=none/\b ≠ l) H' rs' (exts y y2 (hs.take i) v);refine l9 (K:=K) (a:=lr) (xs:=rs) vc ⟨none,none,none,[],rfl,s0,by rw [ak Q3];exact hl1,ai,dS.nil⟩ (fun i σ H' _ ⟨_,_,_,_,_,sm,_⟩=>c8.of (sm _ _ hlr)) ?_ ?_
     . rintro i x σ H' hx ⟨v8,v9,v10,rs',rfl,sm,hla',hl',R⟩
       have hi:i < rs.length:=(List.getElem?_eq_some_iff.mp hx).1;obtain ⟨f,hf⟩:∃ f,hs[i]?=some f:=⟨_,List.getElem?_eq_getElem (by rw [<- R1.len];exact hi)⟩;have hif:i < hs.length:=(List.getElem?_eq_some_iff.mp hf).1;have fm:=List.mem_of_getElem? hf;obtain ⟨ra,rfl,_,zY⟩:=R1.at_ i x f hx hf;obtain ⟨fr,fS,Nr⟩:=ok f fm;have nd:(f.map fun x=>x.1).Nodup:=by rw [List.Nodup,List.pairwise_map];exact fr.imp fun q=>Nat.ne_of_lt q
       have b1:(exts y y2 (hs.take i) v).length<=i * 7:=by
         refine Nat.le_trans (Lg y y2 (hs.take i) v) ?_;rw [List.length_take,Nat.min_eq_left (by omega)];exact Nat.mul_le_mul_left _ n2
       refine ⟨_,rfl,la,rfl,⟨_,c8.of hla'⟩,?_⟩;let FY:L2.Iv:=fun j σ H'=>∃ v9 v10 rs',σ=[some (.ref g),some (.ref g2),some (.ref ta),some (.ref lr),some (.int (v:Int)),some (.ref la),none,some (.ref l),some (.ref ra),v9,v10]/\aR H H'/\H' la=some (.lst (vN (Cc y y2 v)))/\H' l=some (.lst rs')/\dS (u6 y.1.length) (fun b=>H b=none/\b ≠ l) H' rs' (exts y y2 (hs.take i) v++ext1 y y2 f v ((Cc y y2 v).take j));refine l9 (K:=K) (a:=la) (xs:=vN (Cc y y2 v)) FY ⟨v9,v10,rs',rfl,sm,hla',hl',by simpa [ext1] using R⟩ (fun i σ H' _ ⟨_,_,_,_,_,h,_⟩=>c8.of h) ?_ ?_
       . rintro j x σ H2 NL ⟨v9,v10,Sx,rfl,s2,Ng,hl2,R2⟩
         obtain ⟨u,hu,rfl⟩:=vj NL;have hj:j < (Cc y y2 v).length:=(List.getElem?_eq_some_iff.mp hu).1;have b3:=DV y y2 f v ((Cc y y2 v).take j);rw [List.length_take,Nat.min_eq_left (by omega)] at b3;have Tz:=R2.len;rw [List.length_append] at Tz;have stay:∀ {H3:Hp},aR H2 H3->(!(iW y.1.length f).contains (u:Int)&&iI y y2 f v u)=false->FY (j+1) [some (.ref g),some (.ref g2),some (.ref ta),some (.ref lr),some (.int (v:Int)),some (.ref la),none,some (.ref l),some (.ref ra),some (.int (u:Int)),v10] H3:=fun {H3} s3 hn=>⟨_,_,Sx,rfl,s2.trans s3,s3 _ _ Ng,s3 _ _ hl2,by
           rw [take_snoc hu,Ao,hn];simpa using R2.stay T9 fun b o _ h=>s3 _ _ h⟩
         refine ⟨_,rfl,_,rfl,ra,_,rfl,.inl (c8.of (s2 _ _ zY)),rfl,Nd _,_,rfl,?_⟩;show if (!Iz (.int (u:Int)) (vI (iW y.1.length f)))=true then _ else _;rw [Qm];cases hc:(iW y.1.length f).contains (u:Int) with
         | true=>exact vY (vY (stay (aR.refl _) (by rw [hc];rfl)))
         | false=>
           refine xT ?_;refine ⟨_,rfl,_,rfl,_,rfl,_,rfl,_,rfl,_,rfl,?_⟩;refine ⟨g,g2,ta,ra,v,u,f,z,z2,y,y2,D,D2,rfl,M.same s2,gy,M2.same s2,Am,by rw [fS];exact s2 _ _ IC,s2 _ _ zY,nd,Nr,fun H3 s3=>⟨_,rfl,?_⟩⟩;cases hj2:iI y y2 f v u with
           | false=>exact vY (stay s3 (by rw [hc,hj2];rfl))
           | true=>
             refine xT ?_;have T7:=s2.trans s3;refine ⟨_,rfl,ra,_,rfl,.inl (c8.of (T7 _ _ zY)),fun p hp=>?_⟩;have s4:=aG (o:=.lst (vI (iW y.1.length f))) hp;refine ⟨_,rfl,_,rfl,_,rfl,p,_,(v:Int),v,rfl,rfl,ai,rf (by rw [Lf,Ld];exact hv),?_⟩;rw [vg,kY,<- Lc fr (by rw [fS];exact nv) hv];have s5:=aG (o:=.lst (vI (iW y.1.length (JM.ins f v u)))) hp;have Sy:aR H2 _:=s3.trans s5;refine ⟨_,rfl,.inl ⟨rfl,_,c8.of (Sy _ _ hl2)⟩,_,rfl,?_⟩;refine ⟨l,Sx,_,rfl,rfl,Sy _ _ hl2,by rw [Tz,sizeLine_eq];omega,?_⟩;refine ⟨_,_,Sx++[.ref p],rfl,fun b o e=>by rw [ak (au e RZ)];exact Sy _ _ (s2 b o e),by rw [ak Q3];exact Sy _ _ Ng,ai,?_⟩;rw [take_snoc hu,Ao,hc,hj2];have np:H2 p=none:=s3.free hp;rw [show (!false&&true)=true from rfl,if_pos rfl,<- List.append_assoc];refine ((R2.stay T9 fun b o _ h=>Sy _ _ h).snoc ⟨p,rfl,⟨s2.free np,fun z=>by rw [z,hl2] at np;cases np⟩,ai⟩).stay T9 fun b o d h=>?_;rw [ak d.2];exact h
       . rintro σ H2 ⟨v9,v10,Sx,rfl,s2,Ng,hl2,R2⟩
         rw [lU,List.take_length] at R2;exact ⟨_,_,_,Sx,rfl,s2,Ng,hl2,by rw [take_snoc hf,Il];exact R2⟩
     . rintro σ H2 ⟨v8,v9,v10,rs',rfl,sm,_,hl',R⟩
       rw [R1.len,List.take_length] at R;exact ⟨_,rfl,k H2 l rs' sm RZ hl' (R.mono T9 fun b d=>d.1)⟩
end
def EZ (bs:List Nat) (b:Nat):List Nat:=if b ∈ bs then bs else bs++[b]
theorem Li {bs:List Nat} {b x:Nat}:x ∈ EZ bs b ↔ x ∈ bs\/x=b:=by
 unfold EZ;split
 . exact ⟨.inl,fun q=>q.elim id fun e=>e ▸ by assumption⟩
 . rw [List.mem_append,List.mem_singleton]
theorem Nh {bs:List Nat} {b:Nat} (h:bs.Nodup):(EZ bs b).Nodup:=by
 unfold EZ;split
 . exact h
 . exact t9 h (by assumption)
def kN (bs:List Nat):List Key:=bs.map fun (b:Nat)=>Sum.inl (b:Int)
theorem Lj {kvs:List (Key×V)} {bs:List Nat} {b:Nat} {v:V} (h:kvs.map (fun kv=>kv.1)=kN bs):(putK kvs (Sum.inl (b:Int)) v).map (fun kv=>kv.1)=kN (EZ bs b):=by
 have any:(kvs.any fun kv=>decide (kv.1=Sum.inl (b:Int)))=decide (b ∈ bs):=by
   rw [Bool.eq_iff_iff,List.any_eq_true,decide_eq_true_eq];have e:∀ k:Key,k ∈ kvs.map (fun kv=>kv.1) ↔ k ∈ kN bs:=fun k=>by rw [h]
   have e2:(Sum.inl (b:Int):Key) ∈ kN bs ↔ b ∈ bs:=by
     unfold kN;rw [List.mem_map];exact ⟨fun ⟨x,hx,q⟩=>(show x=b from Int.ofNat.inj (Sum.inl.inj q)) ▸ hx,fun q=>⟨b,q,rfl⟩⟩
   rw [<- e2,<- e,List.mem_map];exact ⟨fun ⟨x,hx,q⟩=>⟨x,hx,of_decide_eq_true q⟩,fun ⟨x,hx,q⟩=>⟨x,hx,decide_eq_true q⟩⟩
 unfold putK EZ;rw [any];by_cases c:b ∈ bs
 . rw [if_pos (decide_eq_true c),if_pos c,List.map_map,<- h]
   refine List.map_congr_left fun kv _=>?_;show (if kv.1=_ then (kv.1,v) else kv).1=kv.1;split<;>rfl
 . rw [if_neg (by simpa using c),if_neg c,List.map_append,h]
   unfold kN;rw [List.map_append];rfl
section
def Lk (K:Zqq) (t:Ad):Sp:=fun vs H Q _=>∃ (g ta:Addr) (S:List Nat) (z:nG) (y:aN) (D:Addr->Prop),vs=[.ref g,.ref ta]/\gp t D H g z y/\eu y/\(∀ v ∈ S,v < y.1.length)/\H ta=some (.tup (vN S)) /\
 ∀ H' l bs,aR H H'->H l=none->H' l=some (.lst (vN bs))->bs.Nodup->(∀ b,b ∈ bs ↔ b < y.1.length/\b ∉ S/\(S=[]\/∃ a ∈ S,(az y).joined a b=true))->Q (.ref l) H'
theorem rq:aM ["molecule","atoms","beside","atom","neighbour"] ["molecule","atoms"] (aF jl):=mL (by decide +kernel)
theorem Im (T:Txt K mg t):bI P w K mg base mr 1 t.d9 t.iw ["molecule","atoms"] (Lk K t):=by
 refine T.gb.ok rq (fun vs H Q E h=>?_) (fun cdv A outer s H vs Q E hr h=>?_)
 . obtain ⟨g,ta,S,z,y,D,rfl,_⟩:=h
   rfl
 . obtain ⟨g,ta,S,z,y,D,rfl,M,gy,lt,IC,k⟩:=h
   have hu:=hr.un;have hu':(A.deeper (envOfC "atoms_beside" (aF jl) s.heap.objs.size t.d9 cdv)).units+1 < cLine:=by omega
   refine ⟨_,aq (l8 (fM xG (c9 aY (by rfl) T.j6 PySem.boot_len (af (pv 1) ay)) aT (gr _)) (aE (bC (BW rfl (by rfl) T.ym (by rfl) T.lu (af (c9 aY (by rfl) T.j6 PySem.boot_len (af (aL (pv 0) rfl) ay)) ay)))) gq)
     (aq (aQ (i:=2) rq.nd rfl (Or.inl rfl) Jr)
     (aq (dN PassesOwn.never rfl (uF (pv 1)) (bx (i:=3) rq.nd rfl (Or.inl rfl))
       (aE (dN PassesOwn.never rfl (kZ (fQ cJ (aL (pv 0) rfl) (pv 3) (fun _ _=>rfl))) (bx (i:=4) rq.nd rfl (Or.inl rfl))
         (aE (l8 (fM sV (pv 4) (pv 1) rfl) (aE (nM hu' (pv 2) (pv 4) xC rfl)) gq)))))
     (aE (bC (l0 (yR rfl) (by rfl) T.ym PyProof.Rows.boot_list (af (pv 2) ay)))))),?_⟩
   obtain ⟨dg,eg⟩:=M.obj;have al:z.as.length=y.1.length:=M.ra.len;have sm:=gy.small;refine ⟨_,rfl,ta,_,rfl,.inr (j0.of IC),rfl,_,rfl,?_⟩;show if decide (V.int ((vN S).length:Int)=V.int 0)=true then _ else _;by_cases c:S=[]
   . subst c
     refine xT ?_;refine ⟨_,rfl,fld eg T.aU T.aX rfl ⟨z.la,z.as,rfl,.inl (c8.of M.atoms),z.as.length,rfl,by omega,fun l hl=>?_⟩⟩;refine k _ l (List.range z.as.length) (aG hl) hl ai List.nodup_range fun b=>?_;rw [List.mem_range,al];simp
   . have d:decide (V.int ((vN S).length:Int)=V.int 0)=false:=decide_eq_false fun q=>by
       have:=V.int.inj q;rw [lU] at this;exact c (List.length_eq_zero_iff.mp (by omega))
     rw [d];refine vY ?_;intro l hl;have s0:aR H (upd H l (.dK [])):=aG hl;refine ⟨_,rfl,ta,rfl,⟨_,j0.of (s0 _ _ IC)⟩,?_⟩;let vc:L2.Iv:=fun i σ H'=>∃ v3 v4 kvs bs,σ=[some (.ref g),some (.ref ta),some (.ref l),v3,v4]/\aR H H'/\H' l=some (.dK kvs)/\kvs.map (fun kv=>kv.1)=kN bs/\bs.Nodup/\∀ b,b ∈ bs ↔ b ∉ S/\∃ a ∈ S.take i,b ∈ JM.fJ (y.2.map JM.bu) a;refine qS (K:=K) (a:=ta) (xs:=vN S) vc ⟨none,none,[],[],rfl,s0,ai,rfl,List.nodup_nil,fun b=>by simp⟩ (fun i σ H' _ ⟨_,_,_,_,_,sm,_⟩=>j0.of (sm _ _ IC)) ?_ ?_
     . rintro i x σ H' hx ⟨v3,v4,kvs,bs,rfl,s1,hl1,ks,nd,mem⟩
       obtain ⟨v,hv,rfl⟩:=vj hx;have vl:v < y.1.length:=lt v (List.mem_of_getElem? hv);obtain ⟨ra,zY⟩:∃ ra,z.rs[v]?=some ra:=⟨_,List.getElem?_eq_getElem (by rw [M.rows.len,M.ra.len];exact vl)⟩;have hA:=M.rows.at_ _ _ zY;have e1:(z.rs.map V.ref)[v]?=some (V.ref ra):=by rw [List.getElem?_map,zY];rfl
       refine ⟨_,rfl,fld (s1 _ _ eg) T.aU T.bG rfl ⟨_,rfl,zV (c8.of (s1 _ _ M.rows.lst)) (bT e1) ⟨ra,rfl,⟨_,c8.of (s1 _ _ hA)⟩,?_⟩⟩⟩;let FY:L2.Iv:=fun j σ H'=>∃ v4 kvs bs,σ=[some (.ref g),some (.ref ta),some (.ref l),some (.int (v:Int)),v4]/\aR H H'/\H' l=some (.dK kvs)/\kvs.map (fun kv=>kv.1)=kN bs/\bs.Nodup/\∀ b,b ∈ bs ↔ b ∉ S/\((∃ a ∈ S.take i,b ∈ JM.fJ (y.2.map JM.bu) a)\/b ∈ (JM.fJ (y.2.map JM.bu) v).take j);refine l9 (K:=K) (a:=ra) (xs:=vN (JM.fJ (y.2.map JM.bu) v)) FY ⟨v4,kvs,bs,rfl,s1,hl1,ks,nd,fun b=>by rw [mem];simp⟩ (fun i σ H' _ ⟨_,_,_,_,sm,_⟩=>c8.of (sm _ _ hA)) ?_ ?_
       . rintro j x σ H2 NL ⟨v4,kvs,bs,rfl,s2,hl2,ks,nd,mem⟩
         obtain ⟨u,Vn,rfl⟩:=vj NL;have um:u ∈ JM.fJ (y.2.map JM.bu) v:=List.mem_of_getElem? Vn;have bl:bs.length<=y.1.length:=by
           have:=List.Nodup.length_le_of_subset nd (fun b hb=>by
             rcases ((mem b).mp hb).2 with ⟨a,_,q⟩ | q
             . exact List.mem_range.mpr (jz y ▸ ((x9 gy).mp q).1)
             . exact List.mem_range.mpr (jz y ▸ ((x9 gy).mp (List.mem_of_mem_take q)).1):bs ⊆ List.range y.1.length)
           rwa [List.length_range] at this
         have kl:kvs.length=bs.length:=by
           have:=congrArg List.length ks;simpa [kN] using this
         refine ⟨_,rfl,_,rfl,ta,_,rfl,.inr (j0.of (s2 _ _ IC)),rfl,MV _,_,rfl,?_⟩;show if (!Iz (.int (u:Int)) (vN S))=true then _ else _;rw [Qi];cases hc:S.contains u with
         | true=>
           have us:u ∈ S:=List.contains_iff_mem.mp hc;refine vY ⟨_,kvs,bs,rfl,s2,hl2,ks,nd,fun b=>?_⟩;rw [mem,take_snoc Vn,List.mem_append,List.mem_singleton];refine and_congr_right fun nb=>or_congr_right ⟨.inl,fun q=>q.elim id fun e=>absurd (e ▸ us) nb⟩
         | false=>
           have us:u ∉ S:=fun q=>by rw [List.contains_iff_mem.mpr q] at hc;cases hc
           refine xT ⟨_,rfl,_,rfl,l,_,rfl,uM.k (k:=Sum.inl (u:Int)) hl2 (by rw [sizeLine_eq];omega),?_⟩;refine ⟨_,_,EZ bs u,rfl,fun b o e=>by rw [ak (au e hl)];exact s2 b o e,ai,Lj ks,Nh nd,fun b=>?_⟩;rw [Li,mem,take_snoc Vn,List.mem_append,List.mem_singleton];constructor
           . rintro (⟨h1,h2 | h2⟩ | rfl)
             . exact ⟨h1,.inl h2⟩
             . exact ⟨h1,.inr (.inl h2)⟩
             . exact ⟨us,.inr (.inr rfl)⟩
           . rintro ⟨h1,h2 | h2 | rfl⟩
             . exact .inl ⟨h1,.inl h2⟩
             . exact .inl ⟨h1,.inr h2⟩
             . exact .inr rfl
       . rintro σ H2 ⟨v4,kvs,bs,rfl,s2,hl2,ks,nd,mem⟩
         refine ⟨_,_,kvs,bs,rfl,s2,hl2,ks,nd,fun b=>?_⟩;rw [mem,lU,List.take_length,take_snoc hv];refine and_congr_right fun nb=>?_;constructor
         . rintro (⟨a,ha,q⟩ | q)
           . exact ⟨a,List.mem_append_left _ ha,q⟩
           . exact ⟨v,List.mem_append_right _ (List.mem_singleton.mpr rfl),q⟩
         . rintro ⟨a,ha,q⟩
           rcases List.mem_append.mp ha with ha | ha
           . exact .inl ⟨a,ha,q⟩
           . rw [List.mem_singleton.mp ha] at q
             exact .inr q
     . rintro σ H1 ⟨v3,v4,kvs,bs,rfl,s1,hl1,ks,nd,mem⟩
       rw [lU,List.take_length] at mem;refine ⟨_,rfl,l,kvs,rfl,hl1,fun l2 hl2=>?_⟩;have e:kvs.map (fun kv=>kV kv.1)=vN bs:=by
         have:kvs.map (fun kv=>kV kv.1)=(kvs.map fun kv=>kv.1).map kV:=by rw [List.map_map];rfl
         rw [this,ks];unfold kN vN;rw [List.map_map];rfl
       rw [e];refine k _ l2 bs (s1.trans (aG hl2)) (s1.free hl2) ai nd fun b=>?_;rw [mem];constructor
       . rintro ⟨h1,a,ha,q⟩
         have r:=(x9 gy).mp q;exact ⟨jz y ▸ r.1,h1,.inr ⟨a,ha,r.2⟩⟩
       . rintro ⟨h1,h2,h3 | ⟨a,ha,q⟩⟩
         . exact absurd h3 c
         . exact ⟨h2,a,ha,(x9 gy).mpr ⟨(jz y).symm ▸ h1,q⟩⟩
end
theorem DW (h:JM.dU):(JM.jN h).length=2 * h.length:=by
 induction h with
 | nil=>rfl
 | cons x h ih=>
  rw [show JM.jN (x::h)=(x.1:Int)::(x.2:Int)::JM.jN h from rfl];simp only [List.length_cons,ih];omega
theorem Io (h:JM.dU) (x:Nat×Nat):JM.jN (h++[x])=JM.jN h++[(x.1:Int),(x.2:Int)]:=JM.yT h [x]
section
def Sz:Sp:=fun vs H Q _=>∃ (ta r:Addr) (n:Nat) (h:JM.dU),vs=[.ref ta,.ref r]/\H ta=some (.tup (vN (h.map fun x=>x.1)))/\H r=some (.lst (vI (iW n h)))/\(h.map fun x=>x.1).Nodup/\(∀ x ∈ h,x.1 < n)/\h.length<=1000 /\
 ∀ H' l,aR H H'->H l=none->H' l=some (.lst (vI (JM.jN h)))->Q (.ref l) H'
theorem Fb:aM ["atoms","partners","row","atom"] ["atoms","partners"] (aF gS):=mL (by decide +kernel)
theorem Qn (T:Txt K mg t):bI P w K mg base mr 1 t.bE t.cQ ["atoms","partners"] Sz:=by
 refine T.bR.ok Fb (fun vs H Q E h=>?_) (fun cdv A outer s H vs Q E hr h=>?_)
 . obtain ⟨ta,r,n,h,rfl,_⟩:=h
   rfl
 . obtain ⟨ta,r,n,h,rfl,IC,hr0,nd,lt,sh,k⟩:=h
   refine ⟨_,aq (aQ (i:=2) Fb.nd rfl (Or.inl rfl) (iK ay))
     (aq (dN PassesOwn.never rfl (uF (pv 0)) (bx (i:=3) Fb.nd rfl (Or.inl rfl))
       (aE (dJ (rP PySem.F.plainAttrs_list PySem.F.slot_list_extend PySem.F.type_list_extend GD (pv 2) (af (iK (af (pv 3) (af (fQ cJ (pv 1) (pv 3) (fun _ _=>rfl)) ay))) ay)))))
     (aE (bC (pv 2)))),?_⟩
   refine ⟨Nat.zero_le _,fun l hl=>?_⟩;have s0:aR H (upd H l (.lst [])):=aG hl;refine ⟨_,rfl,ta,rfl,⟨_,j0.of (s0 _ _ IC)⟩,?_⟩;let vc:L2.Iv:=fun i σ H'=>∃ v3,σ=[some (.ref ta),some (.ref r),some (.ref l),v3]/\aR H H'/\H' l=some (.lst (vI (JM.jN (h.take i))));refine qS (K:=K) (a:=ta) (xs:=vN (h.map fun x=>x.1)) vc ⟨none,rfl,s0,ai⟩ (fun i σ H' _ ⟨_,_,sm,_⟩=>j0.of (sm _ _ IC)) ?_ ?_
   . rintro i a σ H' hx ⟨v3,rfl,sm,hl'⟩
     obtain ⟨m,hm,rfl⟩:=vj hx;rw [List.getElem?_map] at hm;cases hb:h[i]? with
     | none=>rw [hb] at hm;cases hm
     | some x=>
       rw [hb] at hm;cases hm;have hi:=(List.getElem?_eq_some_iff.mp hb).1;have xm:=List.mem_of_getElem? hb;refine ⟨_,rfl,.inl ⟨rfl,_,c8.of hl'⟩,?_⟩;refine ⟨_,rfl,_,rfl,_,rfl,zV (c8.of (sm _ _ hr0)) (bT (DR nd xm (lt x xm))) ⟨(by show 2<=sizeLine;decide),fun p hp=>?_⟩⟩;have s2:=aG (o:=.lst [V.int (x.1:Int),V.int (x.2:Int)]) hp;refine ⟨l,p,_,_,rfl,rfl,s2 _ _ hl',ai,by rw [Lf,DW,List.length_take,sizeLine_eq];simp;omega,?_⟩;refine ⟨_,rfl,fun b o e=>by rw [ak (au e hl)];exact s2 _ _ (sm b o e),?_⟩;rw [ai,take_snoc hb,Io];unfold vI;rw [List.map_append];rfl
   . rintro σ H1 ⟨v3,rfl,sm,hl'⟩
     rw [lU,List.length_map,List.take_length] at hl';exact ⟨_,rfl,k H1 l sm hl hl'⟩
end
def DX (n:Nat):mQ (List JM.dU):=fun D H v hs=>∃ a rs,v=.ref a/\D a/\H a=some (.lst rs)/\dS (u6 n) D H rs hs
theorem DX.ok (n:Nat):qF (DX n):=⟨fun ⟨a,rs,e,d,h,R⟩ k=>⟨a,rs,e,d,k _ _ d h,R.stay (u6.ok n) k⟩,fun ⟨a,rs,e,d,h,R⟩ k=>⟨a,rs,e,k _ d,h,R.mono (u6.ok n) k⟩⟩
structure PD (n:Nat) (D:Addr->Prop) (H:Hp) (kvs:List (List Key×V)) (es:List (List Nat×List JM.dU)):Prop where
 keys:kvs.map (fun kv=>kv.1)=es.map fun e=>kI (nL e.1)
 reps:dS (DX n) D H (kvs.map fun kv=>kv.2) (es.map fun e=>e.2)
theorem Ca {a b:List Nat} (h:nL a=nL b):a=b:=(List.map_inj_right (f:=fun (n:Nat)=>(n:Int)) fun x y e=>Int.ofNat.inj e).mp h
theorem PD.len {n:Nat} {D:Addr->Prop} {H:Hp} {kvs:List (List Key×V)} {es:List (List Nat×List JM.dU)} (p:PD n D H kvs es):kvs.length=es.length:=by
 have:=p.reps.len;simpa using this
theorem Gs {κ:Type} [DecidableEq κ] {kvs:List (κ×V)} (nd:(kvs.map fun kv=>kv.1).Nodup) {i:Nat} {k:κ} {v:V} (h:kvs[i]?=some (k,v)):iL kvs k=some v:=by
 induction kvs generalizing i with
 | nil=>simp at h
 | cons p r ih=>
  rw [List.map_cons,List.nodup_cons] at nd;cases i with
  | zero=>
   have e:some p=some (k,v):=h;cases e;exact fR rfl
  | succ i=>
   have h':r[i]?=some (k,v):=h;have ne:¬ p.1=k:=fun q=>nd.1 (q ▸ List.mem_map.mpr ⟨(k,v),List.mem_of_getElem? h',rfl⟩);rw [gB ne];exact ih nd.2 h'
theorem PD.nd {n:Nat} {D:Addr->Prop} {H:Hp} {kvs:List (List Key×V)} {es:List (List Nat×List JM.dU)} (p:PD n D H kvs es) (nd:(es.map fun e=>e.1).Nodup):(kvs.map fun kv=>kv.1).Nodup:=by
 rw [p.keys];have:es.map (fun e=>kI (nL e.1))=(es.map fun e=>e.1).map fun s=>kI (nL s):=by rw [List.map_map];rfl
 rw [this,List.Nodup,List.pairwise_map];exact nd.imp fun q e=>q (Ca (mV e))
theorem PD.at_ {n:Nat} {D:Addr->Prop} {H:Hp} {kvs:List (List Key×V)} {es:List (List Nat×List JM.dU)} (p:PD n D H kvs es) {i:Nat} {k:List Key} {v:V} {e:List Nat×List JM.dU} (h:kvs[i]?=some (k,v)) (he:es[i]?=some e):k=kI (nL e.1)/\DX n D H v e.2:=by
 have h1:(kvs.map fun kv=>kv.1)[i]?=some k:=by rw [List.getElem?_map,h];rfl
 rw [p.keys,List.getElem?_map,he] at h1;exact ⟨(Option.some.inj h1).symm,p.reps.at_ i v e.2 (by rw [List.getElem?_map,h];rfl) (by rw [List.getElem?_map,he];rfl)⟩
theorem PD.stay {n:Nat} {D:Addr->Prop} {H H':Hp} {kvs:List (List Key×V)} {es:List (List Nat×List JM.dU)} (p:PD n D H kvs es) (h:∀ b o,D b->H b=some o->H' b=some o):PD n D H' kvs es:=⟨p.keys,p.reps.stay (DX.ok n) h⟩
theorem PD.mono {n:Nat} {D D':Addr->Prop} {H:Hp} {kvs:List (List Key×V)} {es:List (List Nat×List JM.dU)} (p:PD n D H kvs es) (h:∀ b,D b->D' b):PD n D' H kvs es:=⟨p.keys,p.reps.mono (DX.ok n) h⟩
def DY:mQ JM.dU:=fun D H v h=>∃ a,v=.ref a/\D a/\H a=some (.lst (vI (JM.jN h)))
theorem DY.ok:qF DY:=⟨fun ⟨a,e,d,h⟩ k=>⟨a,e,d,k _ _ d h⟩,fun ⟨a,e,d,h⟩ k=>⟨a,e,k _ d,h⟩⟩
theorem DY.refs {D:Addr->Prop} {H:Hp} {rs:List V} {hs:List JM.dU} (R:dS DY D H rs hs):∃ as:List Addr,rs=as.map V.ref:=by
 have gen:∀ rs:List V,(∀ v ∈ rs,∃ a,v=.ref a)->∃ as:List Addr,rs=as.map V.ref:=fun rs=>by
  induction rs with
  | nil=>exact fun _=>⟨[],rfl⟩
  | cons v rs ih=>
   intro h;obtain ⟨a,rfl⟩:=h v List.mem_cons_self;obtain ⟨as,rfl⟩:=ih fun v hv=>h v (List.mem_cons_of_mem _ hv);exact ⟨a::as,rfl⟩
 refine gen rs fun v hv=>?_;obtain ⟨i,hi⟩:=List.getElem?_of_mem hv;obtain ⟨h,hh⟩:∃ h,hs[i]?=some h:=⟨_,List.getElem?_eq_getElem (by rw [<- R.len];exact (List.getElem?_eq_some_iff.mp hi).1)⟩;obtain ⟨a,e,_⟩:=R.at_ i v h hi hh;exact ⟨a,e⟩
section
def Ni:Sp:=fun vs H Q _=>∃ (d:Addr) (n:Nat) (kvs:List (List Key×V)) (es:List (List Nat×List JM.dU)) (D:Addr->Prop),vs=[.ref d]/\H d=some (.dT kvs)/\¬ D d/\PD n D H kvs es/\(es.map fun e=>e.1).Nodup /\
 (∀ e ∈ es,∀ h ∈ e.2,(h.map fun x=>x.1)=e.1/\e.1.Nodup/\(∀ x ∈ h,x.1 < n)/\h.length<=1000)/\(es.flatMap fun e=>e.2) ≠ []/\(es.flatMap fun e=>e.2).length<=2097152 /\
 ∀ H' l h0,aR H H'->H l=none->h0 ∈ (es.flatMap fun e=>e.2)->(∀ h ∈ (es.flatMap fun e=>e.2),HT.lexLt (JM.jN h) (JM.jN h0)=false)->H' l=some (.lst (vI (JM.jN h0)))->Q (.ref l) H'
theorem u7:aM ["found","rows","atoms","partners"] ["found"] (aF m6):=mL (by decide +kernel)
theorem Ll (T:Txt K mg t):bI P w K mg base mr 2 t.gn t.jY ["found"] Ni:=by
 have GA:=@Qn P w K mg base t T;refine T.jh.ok u7 (fun vs H Q E h=>?_) (fun cdv A outer s H vs Q E hr h=>?_)
 . obtain ⟨d,n,kvs,es,D,rfl,_⟩:=h
   rfl
 . obtain ⟨d,n,kvs,es,D,rfl,hd,nD,p,nd,ok,ne,few,k⟩:=h
   have hu:=hr.un;have hu':(A.deeper (envOfC "first_row" (aF m6) s.heap.objs.size t.gn cdv)).units+1 < cLine:=by omega
   refine ⟨_,aq (aQ (i:=1) u7.nd rfl (Or.inl rfl) (iK ay))
     (aq (wW (dN PassesOwn.never rfl (wY (pv 0)) (bx (i:=2) u7.nd rfl (Or.inl rfl))
       (aE (dN PassesOwn.never rfl (kZ (Fz hu' (pv 0) (pv 2) (fun _ _=>rfl))) (bx (i:=3) u7.nd rfl (Or.inl rfl))
         (aE (dJ (rP PySem.F.plainAttrs_list PySem.F.slot_list_append PySem.F.type_list_append iB (pv 1) (af (bB GA hr rfl T.j5 T.bR.kp T.j4 .nil cZ (af (pv 2) (af (pv 3) ay))) ay))))))))
     (aE (bC (c9 (MY rfl hu') (by rfl) T.NJ (by rfl) (af (pv 1) ay))))),?_⟩
   have WB:=DY.ok;refine ⟨Nat.zero_le _,fun l hl=>?_⟩;have s0:aR H (upd H l (.lst [])):=aG hl;have dl:d ≠ l:=au hd hl;refine ⟨d,_,s0 _ _ hd,True.intro,fun od=>?_⟩;refine ⟨_,rfl,d,od,rfl,.inr ⟨kvs,ai,?_⟩⟩;let vc:L2.Iv:=fun i σ H'=>∃ v2 v3 rs,σ=[some (.ref d),some (.ref l),v2,v3]/\(∀ b u,H b=some u->b ≠ d->H' b=some u)/\H' d=some (.jB od (.dT kvs))/\H' l=some (.lst rs)/\dS DY (fun b=>H b=none/\b ≠ l) H' rs ((es.take i).flatMap fun e=>e.2);refine rg (d:=d) (o:=od) (kvs:=kvs) vc
     ⟨none,none,[],rfl,fun b u e q=>by rw [ak q];exact s0 b u e,ai,by rw [ak (Ne.symm dl)];exact ai,dS.nil⟩ (fun i σ H' ⟨_,_,_,_,_,h,_⟩=>h) ?_ ?_
   . rintro i ky v b σ HY BL ⟨v2,v3,rs,rfl,kp,K9,NU,RY⟩ hb
     have hi:i < kvs.length:=(List.getElem?_eq_some_iff.mp BL).1;obtain ⟨e,he⟩:∃ e,es[i]?=some e:=⟨_,List.getElem?_eq_getElem (by rw [<- p.len];exact hi)⟩;have em:=List.mem_of_getElem? he;obtain ⟨ek,a,us,rfl,aD,ha,R⟩:=p.at_ BL he;have vv:=Gs (p.nd nd) BL;have ad:a ≠ d:=fun q=>nD (q ▸ aD);have kD:∀ b o,D b->H b=some o->HY b=some o:=fun b o db h=>kp b o h fun q=>nD (q ▸ db);have g:rA HY d (.ref b) (some (.ref a)):=.inr ⟨kvs,ky,b,.inr ⟨od,K9⟩,rfl,hb,vv.symm⟩;have hb':HY b=some (.tup (vN e.1)):=by rw [hb,ek,vh,BS]
     have bl:b ≠ l:=fun q=>by rw [q,NU] at hb';cases hb'
     refine ⟨_,rfl,_,rfl,d,_,rfl,g,a,rfl,⟨_,c8.of (kD _ _ aD ha)⟩,?_⟩;let FY:L2.Iv:=fun j σ H'=>∃ v3 rs,σ=[some (.ref d),some (.ref l),some (.ref b),v3]/\(∀ b u,HY b=some u->b ≠ l->H' b=some u)/\H' l=some (.lst rs)/\dS DY (fun b=>H b=none/\b ≠ l) H' rs (((es.take i).flatMap fun e=>e.2)++e.2.take j);have al:a ≠ l:=au ha hl;refine l9 (K:=K) (a:=a) (xs:=us) FY ⟨v3,rs,rfl,fun b u e _=>e,NU,by simpa using RY⟩ (fun j σ H' _ ⟨_,_,_,kq,_⟩=>c8.of (kq _ _ (kD _ _ aD ha) al)) ?_ ?_
     . rintro j x σ H2 hx ⟨v3,rs,rfl,kq,hl2,R2⟩
       have hj:j < us.length:=(List.getElem?_eq_some_iff.mp hx).1;obtain ⟨h,hh⟩:∃ h,e.2[j]?=some h:=⟨_,List.getElem?_eq_getElem (by rw [<- R.len];exact hj)⟩;have hm:=List.mem_of_getElem? hh;obtain ⟨ra,rfl,rD,zY⟩:=R.at_ j x h hx hh;obtain ⟨o1,o2,o3,o4⟩:=ok e em h hm;have YQ:ra ≠ l:=au zY hl;have lb:rs.length < 2097152:=by
         have:=R2.len;rw [List.length_append] at this;have e1:(es.flatMap fun e=>e.2)=((es.take i).flatMap fun e=>e.2)++(e.2++((es.drop (i+1)).flatMap fun e=>e.2)):=by
           have:es=es.take i++(e::es.drop (i+1)):=by
             obtain ⟨hlt,hv'⟩:=List.getElem?_eq_some_iff.mp he;rw [<- hv',<- List.drop_eq_getElem_cons hlt,List.take_append_drop]
           conv=>lhs;rw [this]
           rw [List.flatMap_append,List.flatMap_cons]
         have e2:=few;rw [e1,List.length_append,List.length_append] at e2;have e3:(e.2.take j).length=j:=by rw [List.length_take,Nat.min_eq_left (by rw [<- R.len];omega)]
         have e4:j < e.2.length:=by rw [<- R.len];exact hj
         omega
       refine ⟨_,rfl,.inl ⟨rfl,_,c8.of hl2⟩,_,rfl,_,rfl,?_⟩;refine ⟨b,ra,n,h,rfl,by rw [o1];exact kq _ _ hb' bl,kq _ _ (kD _ _ rD zY) YQ,by rw [o1];exact o2,o3,o4,fun H3 q s3 nq hq=>?_⟩;refine ⟨l,rs,_,rfl,rfl,s3 _ _ hl2,by rw [sizeLine_eq];omega,?_⟩;refine ⟨_,rs++[.ref q],rfl,fun b' u e' n'=>by rw [ak n'];exact s3 _ _ (kq b' u e' n'),ai,?_⟩;have RG:H q=none:=by
         cases c:H q with
         | none=>rfl
         | some u=>
           have ql:q ≠ l:=au c hl;by_cases qd:q=d
           . rw [qd] at nq
             rw [kq _ _ K9 dl] at nq;cases nq
           . rw [kq _ _ (kp _ _ c qd) ql] at nq
             cases nq
       have ql:q ≠ l:=fun z=>by rw [z,hl2] at nq;cases nq
       rw [take_snoc hh,<- List.append_assoc];refine ((R2.stay WB fun b o _ h=>s3 _ _ h).snoc ⟨q,rfl,⟨RG,ql⟩,hq⟩).stay WB fun b o d h=>?_;rw [ak d.2];exact h
     . rintro σ H2 ⟨v3,rs,rfl,kq,hl2,R2⟩
       rw [R.len,List.take_length] at R2;refine ⟨_,_,rs,rfl,fun b' u e' n'=>kq b' u (kp b' u e' n') (fun z=>by rw [z,hl] at e';cases e'),kq _ _ K9 dl,hl2,?_⟩;rw [take_snoc he,List.flatMap_append];simpa using R2
   . rintro σ H1 ⟨v2,v3,rs,rfl,kp,hd1,hl1,R⟩
     rw [p.len,List.take_length] at R;refine ⟨hd1,?_⟩;obtain ⟨as,rfl⟩:=DY.refs R;have sm:aR H (upd H1 d (.dT kvs)):=fun b u e=>by
       by_cases z:b=d
       . subst z
         rw [hd] at e;cases e;exact ai
       . rw [ak z]
         exact kp b u e z
     have len:as.length=(es.flatMap fun e=>e.2).length:=by have:=R.len;simpa using this
     refine ⟨_,rfl,l,as,(es.flatMap fun e=>e.2).map JM.jN,rfl,c8.of (by rw [ak (Ne.symm dl)];exact hl1),by rw [List.length_map];exact len,fun i b f hb hf=>?_,by rw [len];exact List.length_pos_iff.mpr ne,fun i b f hb hf least=>?_⟩
     . rw [List.getElem?_map] at hf
       cases hh:(es.flatMap fun e=>e.2)[i]? with
       | none=>rw [hh] at hf;cases hf
       | some h=>
         rw [hh] at hf;cases hf;obtain ⟨a,e,dd,q⟩:=R.at_ i (.ref b) h (by rw [List.getElem?_map,hb];rfl) hh;cases e;rw [ak (fun z=>by rw [z,hd] at dd;cases dd.1)];exact q
     . rw [List.getElem?_map] at hf
       cases hh:(es.flatMap fun e=>e.2)[i]? with
       | none=>rw [hh] at hf;cases hf
       | some h=>
         rw [hh] at hf;cases hf;obtain ⟨a,e,dd,q⟩:=R.at_ i (.ref b) h (by rw [List.getElem?_map,hb];rfl) hh;cases e;refine k _ b h sm dd.1 (List.mem_of_getElem? hh) (fun h' m=>?_) (by rw [ak (fun z=>by rw [z,hd] at dd;cases dd.1)];exact q);obtain ⟨j,hj⟩:=List.getElem?_of_mem m;exact least j _ (by rw [List.getElem?_map,hj];rfl)
end
end MP
namespace L2
open PySem PySem.Spec PyProof.Rows
section
variable {Pr:Program} {Wd:World} {Ar:Around} {Ex:Value->Shared->Prop} {st:Shared} {tab:Addr}
def Fc (h:Heap) (tab:Addr) (n:Nat):Prop:=∃ o es ep,h.get? tab=some o/\o.data=.dict es ep/\es.size=n
theorem S3 (plain:(tab==sysModules)=false):MeetsIn Pr Wd (Builtin.«dict.__len__» ⟨[.ref tab],[]⟩) (fun _ Rs st=>∃ n,Fc st.heap tab n/\Rs (.ok (.ret (.int n st.toks))) { st with toks:=st.toks+1 }):=
 .of_wp fun Ar Rs st ⟨n,⟨o,es,ep,h1,h2,h3⟩,q⟩=>by
  show wpAny _ _ (dictSize tab >>= _) _ _ st
  unfold dictSize
  refine wpAny_bind (wpAny_bind (wpAny_dictEntries h1 h2 (wpAny_pure ?_)))
  show wpAny _ _ (Builtin.Dict.pendingCount tab >>= _) _ _ st
  refine wpAny_bind (wpAny_pendingCount_other plain (wpAny_ret_mkInt ?_))
  rw [Nat.add_zero,h3]
  exact q
theorem Vo {n:Nat} {Q:Value->Shared->Prop} (plain:(tab==sysModules)=false) (ty:st.TypeIs (.ref tab) "dict") (sz:Fc st.heap tab n) (fit:(n:Int) < 2 ^ 63) (q:Q (.int n (st.toks+1)) { st with toks:=st.toks+1+1 }) :
  wpAny (model Pr Wd) Ar (Builtin.«len» ⟨[.ref tab],[]⟩) (fun fin s'=>∃ r,fin=.done (.ret r)/\Q r s') Ex st:=by
 unfold Builtin.«len»;refine wpAny_bind (m:=oneArg "len" _) (wpAny_pure ?_);refine wpAny_bind (m:=callSpecial? (.ref tab) (Str.ofString "__len__")) (wpAny_callSpecial?_slot (name:=Str.ofString "__len__") ty PySem.F.slot_dict_len (call_meetsIn PySem.F.slot_dict_len ty PySem.F.entry_dict_len (PySem.F.args_dict_len_1 _) (S3 plain) ⟨n,sz,?_⟩));show wpAny _ _ _ _ _ { st with toks:=st.toks+1 };refine wpAny_bind (wpAny_holding (wpAny_pure (wpAny_bind (wpAny_letGo ?_))));show wpAny _ _ (if ((n:Nat):Int) < 0 then _ else _) _ _ _;rw [if_neg (by omega)];show wpAny _ _ (if ((n:Nat):Int)>=2 ^ 63 then _ else _) _ _ _;rw [if_neg (by omega)];exact wpAny_bind (wpAny_mkInt (wpAny_pure ⟨_,rfl,q⟩))
theorem Vp {n:Nat} {Q:Bool->Shared->Prop} (plain:(tab==sysModules)=false) (ty:st.TypeIs (.ref tab) "dict") (sz:Fc st.heap tab n) (fit:(n:Int) < 2 ^ 63) (q:Q ((n:Int) != 0) { st with toks:=st.toks+1+1 }) :
   wpAny (model Pr Wd) Ar (truthy (.ref tab)) Q Ex st:=by
 have run:wpAny (model Pr Wd) Ar (runValue (.builtin "len" ⟨[.ref tab],[]⟩)) (fun r s'=>r=.int n (st.toks+1)/\Q ((n:Int) != 0) s') Ex st:=by
   refine wpAny_runValue (codeAny_builtin entry_len ?_);rw [Around.under_plainId plain_len _];exact wpAny_mono (Vo (Q:=fun r s'=>r=.int n (st.toks+1)/\Q ((n:Int) != 0) s') plain ty sz fit ⟨rfl,q⟩) (fun fin s' h'=>by obtain ⟨r,rfl,hq⟩:=h';exact hq) fun _ _ e=>e
 unfold truthy
 first
   | refine wpAny_bind (wpAny_callSpecial?_none (name:=Str.ofString "__bool__") ty noBool_dict ?_)
   | refine wpAny_bind (wpAny_pure (wpAny_bind (wpAny_callSpecial?_none (name:=Str.ofString "__bool__") ty noBool_dict ?_)))
 first
   | refine wpAny_bind (wpAny_specialOf (name:=Str.ofString "__len__") ty PySem.F.slot_dict_len.lookup ?_)
   | refine wpAny_bind (wpAny_pure (wpAny_bind (wpAny_specialOf (name:=Str.ofString "__len__") ty PySem.F.slot_dict_len.lookup ?_)))
 first
   | exact wpAny_bind (wpAny_mono run (fun r s' h'=>by obtain ⟨rfl,hq⟩:=h';exact wpAny_pure hq) fun _ _ e=>e)
   | exact wpAny_bind (wpAny_pure (wpAny_bind (wpAny_mono run (fun r s' h'=>by obtain ⟨rfl,hq⟩:=h';exact wpAny_pure hq) fun _ _ e=>e)))
end
section
variable {X:Cx} {a:Expr} {ta:TE}
theorem Ip (ha:PE X a ta) (he:∀ whole,isTrue a X.env whole=(do let v <- whole;standAt a.pos;holding [v] (truthy v))) :
  PT X a (fun σ H Q=>ta σ H fun x H'=>∃ p kvs,x=.ref p/\H' p=some (.dT kvs)/\Q (!kvs.isEmpty) H'):=by
 intro pins s σ H Q I h;refine isTrue_plain (cT (ha pins s σ H _ I h) fun v s1 ⟨x,H1,I1,r1,p,kvs,ex,e,q1⟩=>?_) (he _);subst ex;obtain rfl:v=Value.ref p:=r1;obtain ⟨z,plain,xs,rel,dd⟩:=Jp I1.hok e;have vl:=Paired.length rel;have ty:=dd.typeIs;obtain ⟨o,es,ep,d1,d2,d3,d4,d5,d6⟩:=dd;have sz:es.size=kvs.length:=by
  have:=congrArg List.length d4;rw [List.length_map] at this;rw [vl,<- this];simp
 refine Vp plain ty ⟨o,es,ep,d1,d3,sz⟩ (by rw [sizeLine_eq] at z;omega) ?_;have b:((kvs.length:Int) != 0)=!kvs.isEmpty:=by cases kvs<;>simp<;>omega
 rw [b];exact ⟨H1,I1.tok _,q1⟩
end
end L2
namespace MP
open PySem PySem.Spec PyProof.Rows L2
open XL (cK)
open Fk (Fault Bytes numIn need andThen Atom Bond Mol PAtom PBond Part)
open JM (aN az cS b5)
abbrev dm (h:JM.dU):List Nat:=h.map fun x=>x.1
theorem nJ:∀ {a b:List Nat},a.Pairwise (· < ·)->b.Pairwise (· < ·)->(∀ v,v ∈ a ↔ v ∈ b)->a=b
 | [],[],_,_,_=>rfl
 | [],y::b,_,_,h=>by have:=(h y).mpr List.mem_cons_self;cases this
 | x::a,[],_,_,h=>by have:=(h x).mp List.mem_cons_self;cases this
 | x::a,y::b,ha,hb,h=>by
   rw [List.pairwise_cons] at ha hb
   have e:x=y:=by
     rcases List.mem_cons.mp ((h x).mp List.mem_cons_self) with e | m
     . exact e
     . rcases List.mem_cons.mp ((h y).mpr List.mem_cons_self) with e | m2
       . exact e.symm
       . have:=hb.1 x m
         have:=ha.1 y m2;omega
   subst e;rw [nJ ha.2 hb.2 fun v=>?_];constructor
   . intro m
     rcases List.mem_cons.mp ((h v).mp (List.mem_cons_of_mem _ m)) with e | m2
     . subst e;have:=ha.1 v m;omega
     . exact m2
   . intro m
     rcases List.mem_cons.mp ((h v).mpr (List.mem_cons_of_mem _ m)) with e | m2
     . subst e;have:=hb.1 v m;omega
     . exact m2
theorem r6 {h:JM.dU} (r:h.Pairwise fun x y=>x.1 < y.1):(dm h).Pairwise (· < ·):=List.pairwise_map.mpr r
theorem yU {h:JM.dU} {v w u:Nat} (nv:v ∉ dm h):u ∈ dm (JM.ins h v w) ↔ u=v\/u ∈ dm h:=by
 rw [List.mem_map,List.mem_map];constructor
 . rintro ⟨x,hx,rfl⟩
   rcases (JM.jP nv).mp hx with rfl | hx
   . exact .inl rfl
   . exact .inr ⟨x,hx,rfl⟩
 . rintro (rfl | ⟨x,hx,rfl⟩)
   . exact ⟨_,(JM.jP nv).mpr (.inl rfl),rfl⟩
   . exact ⟨x,(JM.jP nv).mpr (.inr hx),rfl⟩
abbrev Lm (y y2:aN) (j:Nat) (h:JM.dU):Prop:=JM.Pt (az y) (az y2) j h
theorem DZ {y y2:aN} {hs:List JM.dU} {a:Nat} {h:JM.dU}:h ∈ exts y y2 hs a ↔ ∃ h1 ∈ hs,∃ w,(w ∈ Cc y y2 a/\(!(iW y.1.length h1).contains (w:Int)&&iI y y2 h1 a w)=true)/\JM.ins h1 a w=h:=by
 unfold exts ext1;rw [List.mem_flatMap];simp only [List.mem_map,List.mem_filter]
theorem Ln {y y2:aN} (gy:eu y) (Am:eu y2) {j:Nat} {hs:List JM.dU} {S:List Nat} (ne:hs ≠ []) (all:∀ h,h ∈ hs ↔ Lm y y2 j h/\dm h=S) {a:Nat} (av:a < y.1.length) (na:a ∉ S) (jo:S=[]\/∃ c ∈ S,(az y).joined c a=true) (h:JM.dU) :
   h ∈ exts y y2 hs a ↔ Lm y y2 (j+1) h/\∀ v,v ∈ dm h ↔ v=a\/v ∈ S:=by
 obtain ⟨g0,Vq⟩:=List.exists_mem_of_ne_nil _ ne;obtain ⟨P0,d0⟩:=(all g0).mp Vq;have S5:JM.wU (az y) (· ∈ S):=d0 ▸ P0.con;have Vr:JM.wU (az y) fun v=>v=a\/v ∈ S:=by
   rcases jo with rfl | ⟨c,hc,q⟩
   . exact (JM.wU.congr fun v=>by simp).mpr (JM.wU.one a)
   . exact S5.more hc q
 rw [DZ];constructor
 . rintro ⟨h1,m1,w,cw,rfl⟩
   obtain ⟨P1,d1⟩:=(all h1).mp m1;have Vs:a ∉ dm h1:=by rw [d1];exact na
   have go:=(An gy Am P1.val).mpr cw;have dom:∀ v,v ∈ dm (JM.ins h1 a w) ↔ v=a\/v ∈ S:=fun v=>by rw [yU Vs,d1]
   refine ⟨⟨P1.val.ins Vs (by show a < (az y).n;rw [jz];exact av) (by show w < (az y2).n;rw [jz];exact go.1) go.2,by rw [JM.Gp P1.val.rise Vs,P1.len],(JM.wU.congr dom).mpr Vr⟩,dom⟩
 . rintro ⟨P1,dom⟩
   obtain ⟨⟨a',w⟩,hm,e⟩:=List.mem_map.mp ((dom a).mpr (.inl rfl));have e:a'=a:=e;subst e;have back:=JM.DT P1.val.rise hm;have V1:=P1.val.sub (List.filter_sublist (p:=fun x=>x.1 != a'));have n1:a' ∉ dm (h.filter fun x=>x.1 != a'):=fun q=>by
     obtain ⟨x,hx,e⟩:=List.mem_map.mp q;have:=(List.mem_filter.mp hx).2;simp [e] at this
   have d1:dm (h.filter fun x=>x.1 != a')=S:=nJ (r6 V1.rise) (d0 ▸ r6 P0.val.rise) fun v=>by
     constructor
     . intro q
       obtain ⟨x,hx,e⟩:=List.mem_map.mp q;have h1:=List.mem_filter.mp hx;have:v ≠ a':=by have:=h1.2;rw [<- e];simpa using this
       exact ((dom v).mp (List.mem_map.mpr ⟨x,h1.1,e⟩)).resolve_left this
     . intro q
       obtain ⟨x,hx,e⟩:=List.mem_map.mp ((dom v).mpr (.inr q));refine List.mem_map.mpr ⟨x,List.mem_filter.mpr ⟨hx,?_⟩,e⟩;have:x.1 ≠ a':=fun z=>na (z ▸ e ▸ q);simpa using this
   have rF:(h.filter fun x=>x.1 != a').length=j:=by
     have:=JM.Gp (w:=w) V1.rise n1;rw [back,P1.len] at this;omega
   refine ⟨h.filter fun x=>x.1 != a',(all _).mpr ⟨⟨V1,rF,by show JM.wU _ (· ∈ dm _);rw [d1];exact S5⟩,d1⟩,w,(An gy Am V1).mp ⟨?_,P1.val.goes hm⟩,back⟩;have:=(P1.val.lt _ hm).2.1;rw [show (az y2).sight.mol.n=y2.1.length from jz y2] at this;exact this
end MP
namespace JM
open Fk
theorem Gu {α β:Type} {f:α->List β} {c:Nat}:∀ {l:List α},(∀ w ∈ l,(f w).length<=c)->(l.flatMap f).length<=l.length * c
 | [],_=>Nat.zero_le _
 | x::l,h=>by
  rw [List.flatMap_cons,List.length_append,List.length_cons,Nat.succ_mul]
  have:=Gu (l:=l) fun w hw=>h w (List.mem_cons_of_mem _ hw)
  have:=h x List.mem_cons_self
  omega
theorem sP (S T:Sight):∀ (k:Nat) (had:dU),(bW S T k had).length<=(T.mol.n+1) ^ k
 | 0,had=>by simp [bW]
 | k+1,had=>by
   rw [bW,List.length_append]
   have h1:=sP S T k had
   have h2:((List.range T.mol.n).flatMap fun w=>if pairGoes S T had (S.mol.n - (k+1)) w=true then bW S T k (had++[(S.mol.n - (k+1),w)]) else []).length<=T.mol.n * (T.mol.n+1) ^ k:=by
     have:=Gu (l:=List.range T.mol.n) (c:=(T.mol.n+1) ^ k) (f:=fun w=>if pairGoes S T had (S.mol.n - (k+1)) w=true then bW S T k (had++[(S.mol.n - (k+1),w)]) else []) fun w _=>by
       split
       . exact sP S T k _
       . exact Nat.zero_le _
     rwa [List.length_range] at this
   rw [Nat.pow_succ,Nat.mul_comm ((T.mol.n+1) ^ k),Nat.succ_mul];omega
end JM
namespace MP
open PySem PySem.Spec PyProof.Rows L2
open XL (cK)
open Fk (Fault Bytes numIn need andThen Atom Bond Mol PAtom PBond Part)
open JM (aN az cS b5)
theorem Aq:∀ {a b:JM.dU},(a.Pairwise fun x y=>x.1 < y.1)->(b.Pairwise fun x y=>x.1 < y.1)->(∀ v,v ∈ a ↔ v ∈ b)->a=b
 | [],[],_,_,_=>rfl
 | [],y::b,_,_,h=>by have:=(h y).mpr List.mem_cons_self;cases this
 | x::a,[],_,_,h=>by have:=(h x).mp List.mem_cons_self;cases this
 | x::a,y::b,ha,hb,h=>by
   rw [List.pairwise_cons] at ha hb
   have e:x=y:=by
     rcases List.mem_cons.mp ((h x).mp List.mem_cons_self) with e | m
     . exact e
     . rcases List.mem_cons.mp ((h y).mpr List.mem_cons_self) with e | m2
       . exact e.symm
       . have:=hb.1 x m
         have:=ha.1 y m2;omega
   subst e;rw [Aq ha.2 hb.2 fun v=>?_];constructor
   . intro m
     rcases List.mem_cons.mp ((h v).mp (List.mem_cons_of_mem _ m)) with e | m2
     . subst e;have:=ha.1 v m;omega
     . exact m2
   . intro m
     rcases List.mem_cons.mp ((h v).mpr (List.mem_cons_of_mem _ m)) with e | m2
     . subst e;have:=hb.1 v m;omega
     . exact m2
theorem Gv {h h':JM.dU} {a w w':Nat} (r:h.Pairwise fun x y=>x.1 < y.1) (r':h'.Pairwise fun x y=>x.1 < y.1) (n:a ∉ dm h) (n':a ∉ dm h') (e:JM.ins h a w=JM.ins h' a w'):h=h'/\w=w':=by
 have mem:∀ {h:JM.dU} {w:Nat},a ∉ dm h->∀ v,v ∈ h ↔ v ∈ JM.ins h a w/\v.1 ≠ a:=fun {h w} n v=>by
   rw [JM.jP n];constructor
   . exact fun q=>⟨.inr q,fun z=>n (List.mem_map.mpr ⟨v,q,z⟩)⟩
   . rintro ⟨rfl | q,z⟩
     . exact absurd rfl z
     . exact q
 refine ⟨Aq r r' fun v=>by rw [mem (w:=w) n,mem (w:=w') n',e],?_⟩;have:(a,w) ∈ JM.ins h' a w':=e ▸ (JM.jP n).mpr (.inl rfl);rcases (JM.jP n').mp this with q | q
 . exact (Prod.mk.inj q).2
 . exact absurd (List.mem_map.mpr ⟨_,q,rfl⟩) n'
theorem Gw {y y2:aN} {a:Nat}:∀ {hs:List JM.dU},hs.Nodup->(∀ h ∈ hs,(h.Pairwise fun x y=>x.1 < y.1)/\a ∉ dm h)->(exts y y2 hs a).Nodup
 | [],_,_=>List.nodup_nil
 | h::hs,nd,ok=>by
   rw [List.nodup_cons] at nd
   have o:=ok h List.mem_cons_self
   have e:exts y y2 (h::hs) a=ext1 y y2 h a (Cc y y2 a)++exts y y2 hs a:=by unfold exts;rw [List.flatMap_cons]
   rw [e,List.nodup_append]
   refine ⟨?_,Gw nd.2 fun h' m=>ok h' (List.mem_cons_of_mem _ m),fun p hp q hq z=>?_⟩
   . unfold ext1
     rw [List.Nodup,List.pairwise_map]
     have base:((Cc y y2 a).filter fun (w:Nat)=>!(iW y.1.length h).contains (w:Int)&&iI y y2 h a w).Nodup:=(List.nodup_range.filter _).filter _
     exact base.imp fun ne z=>ne (Gv o.1 o.1 o.2 o.2 z).2
   . subst z
     unfold ext1 at hp
     obtain ⟨w,_,rfl⟩:=List.mem_map.mp hp
     obtain ⟨h1,m1,w1,_,e1⟩:=DZ.mp hq
     have o1:=ok h1 (List.mem_cons_of_mem _ m1)
     exact nd.1 ((Gv o1.1 o.1 o1.2 o.2 e1).1 ▸ m1)
structure oX (y y2:aN) (j:Nat) (es:List (List Nat×List JM.dU)):Prop where
 nd:(es.map fun e=>e.1).Nodup
 each:∀ e ∈ es,e.2 ≠ []/\e.2.Nodup/\∀ h,h ∈ e.2 ↔ Lm y y2 j h/\dm h=e.1
 all:∀ h,Lm y y2 j h->∃ e ∈ es,e.1=dm h
theorem Gx:∀ {es:List (List Nat×List JM.dU)},(es.map fun e=>e.1).Nodup->(∀ e ∈ es,e.2.Nodup/\∀ h ∈ e.2,dm h=e.1)->(es.flatMap fun e=>e.2).Nodup
 | [],_,_=>List.nodup_nil
 | e::es,nd,ok=>by
  rw [List.map_cons,List.nodup_cons] at nd
  rw [List.flatMap_cons,List.nodup_append]
  refine ⟨(ok e List.mem_cons_self).1,Gx nd.2 fun e' m=>ok e' (List.mem_cons_of_mem _ m),fun p hp q hq z=>?_⟩
  subst z
  obtain ⟨e1,m1,h1⟩:=List.mem_flatMap.mp hq
  have a:=(ok e List.mem_cons_self).2 p hp
  have b:=(ok e1 (List.mem_cons_of_mem _ m1)).2 p h1
  exact nd.1 (a ▸ b ▸ List.mem_map.mpr ⟨e1,m1,rfl⟩)
theorem Nj {a k:Nat} (ha:a<=7) (hk:k<=7):(a+1) ^ k<=2097152:=
 Nat.le_trans (Nat.pow_le_pow_left (by omega:a+1<=8) k) (Nat.le_trans (Nat.pow_le_pow_right (by omega) hk) (by decide))
theorem oX.few {y y2:aN} {j:Nat} {es:List (List Nat×List JM.dU)} (L:oX y y2 j es) (h1:y.1.length<=7) (h2:y2.1.length<=7):(es.flatMap fun e=>e.2).length<=2097152:=by
 have nd:=Gx L.nd fun e he=>⟨(L.each e he).2.1,fun h hh=>(((L.each e he).2.2 h).mp hh).2⟩;refine Nat.le_trans (List.Nodup.length_le_of_subset nd (l₂:=JM.bW (az y).sight (az y2).sight (az y).sight.mol.n []) fun h hh=>?_) (Nat.le_trans (JM.sP _ _ _ _) (Nj (by show (az y2).n<=7;rw [jz];exact h2) (by show (az y).n<=7;rw [jz];exact h1)));obtain ⟨e,he,hm⟩:=List.mem_flatMap.mp hh;exact (JM.Gi _ _ h).mpr (((L.each e he).2.2 h).mp hm).1.val
theorem oX.one {y y2:aN} {j:Nat} {es:List (List Nat×List JM.dU)} (L:oX y y2 j es) (h1:y.1.length<=7) (h2:y2.1.length<=7) {e:List Nat×List JM.dU} (he:e ∈ es):e.2.length<=2097152:=by
 obtain ⟨a,b,rfl⟩:=List.append_of_mem he;have:=L.few h1 h2;rw [List.flatMap_append,List.flatMap_cons,List.length_append,List.length_append] at this;omega
theorem oX.len {y y2:aN} {j:Nat} {es:List (List Nat×List JM.dU)} (L:oX y y2 j es) (h1:y.1.length<=7) (h2:y2.1.length<=7):es.length<=2097152:=by
 refine Nat.le_trans ?_ (L.few h1 h2);have ne:∀ e ∈ es,e.2 ≠ []:=fun e he=>(L.each e he).1;clear L;induction es with
 | nil=>exact Nat.zero_le _
 | cons e es ih=>
  rw [List.flatMap_cons,List.length_append,List.length_cons];have:=ih fun e he=>ne e (List.mem_cons_of_mem _ he);have:=List.length_pos_iff.mpr (ne e List.mem_cons_self);omega
structure Run (y y2:aN) (j:Nat) (As:List Nat->Prop) (es:List (List Nat×List JM.dU)):Prop where
 nd:(es.map fun e=>e.1).Nodup
 sub:∀ e ∈ es,As e.1
 each:∀ e ∈ es,e.2 ≠ []/\e.2.Nodup/\∀ h,h ∈ e.2 ↔ Lm y y2 j h/\dm h=e.1
 all:∀ h,Lm y y2 j h->As (dm h)->∃ e ∈ es,e.1=dm h
variable {y y2:aN} {j:Nat} {As:List Nat->Prop} {es:List (List Nat×List JM.dU)}
theorem Run.nil:Run y y2 j (fun _=>False) []:=⟨List.nodup_nil,fun e h=>(by cases h),fun e h=>(by cases h),fun h _ q=>q.elim⟩
theorem Run.none {S:List Nat} {rows:List JM.dU} (R:Run y y2 j As es) (it:∀ h,h ∈ rows ↔ Lm y y2 j h/\dm h=S) (e0:rows=[]):Run y y2 j (fun u=>As u\/u=S) es:=
 ⟨R.nd,fun e he=>.inl (R.sub e he),R.each,fun h P q=>q.elim (R.all h P) fun e=>by
  have:=(it h).mpr ⟨P,e⟩
  rw [e0] at this
  cases this⟩
theorem Run.some {S:List Nat} {rows:List JM.dU} (R:Run y y2 j As es) (nS:¬ As S) (it:∀ h,h ∈ rows ↔ Lm y y2 j h/\dm h=S) (nd:rows.Nodup) (ne:rows ≠ []):Run y y2 j (fun u=>As u\/u=S) (es++[(S,rows)]):=by
 refine ⟨?_,fun e he=>?_,fun e he=>?_,fun h P q=>?_⟩
 . rw [List.map_append]
   exact t9 R.nd fun m=>by
     obtain ⟨e,he,q⟩:=List.mem_map.mp m;have q:e.1=S:=q;exact nS (q ▸ R.sub e he)
 . rcases List.mem_append.mp he with he | he
   . exact .inl (R.sub e he)
   . exact .inr (by rw [List.mem_singleton.mp he])
 . rcases List.mem_append.mp he with he | he
   . exact R.each e he
   . rw [List.mem_singleton.mp he]
     exact ⟨ne,nd,it⟩
 . rcases q with q | q
   . obtain ⟨e,he,z⟩:=R.all h P q
     exact ⟨e,List.mem_append_left _ he,z⟩
   . exact ⟨_,List.mem_append_right _ (List.mem_singleton.mpr rfl),q.symm⟩
def S6 (y:aN) (S:List Nat) (b:Nat):Prop:=b < y.1.length/\b ∉ S/\(S=[]\/∃ a ∈ S,(az y).joined a b=true)
theorem Run.fin {fs:List (List Nat×List JM.dU)} (L:oX y y2 j fs) (R:Run y y2 (j+1) As es) (Nk:∀ e ∈ fs,∀ a,S6 y e.1 a->∀ S:List Nat,S.Pairwise (· < ·)->(∀ v,v ∈ S ↔ v=a\/v ∈ e.1)->As S):oX y y2 (j+1) es:=by
 refine ⟨R.nd,R.each,fun h P=>R.all h P ?_⟩;have lt:∀ v ∈ dm h,v < y.1.length:=fun v hv=>by
  obtain ⟨x,hx,rfl⟩:=List.mem_map.mp hv;have:=(P.val.lt x hx).1;rw [show (az y).sight.mol.n=y.1.length from jz y] at this;exact this
 cases j with
 | zero=>
  obtain ⟨x,rfl⟩:∃ x,h=[x]:=List.length_eq_one_iff.mp P.len;have P0:Lm y y2 0 []:=⟨⟨List.Pairwise.nil,fun x hx=>(by cases hx),List.Pairwise.nil⟩,rfl,fun v w hv=>(by cases hv)⟩;obtain ⟨e,he,z⟩:=L.all [] P0;have z:e.1=[]:=z;exact Nk e he x.1 ⟨lt _ (by simp),by rw [z];simp,.inl z⟩ _ (r6 P.val.rise) fun v=>by rw [z];simp
 | succ j=>
  obtain ⟨a,b,hm,P1,c,hc,q⟩:=JM.Gk P;obtain ⟨e,he,z⟩:=L.all _ P1;have na:a ∉ e.1:=fun m=>by
   rw [z] at m;obtain ⟨x,hx,e'⟩:=List.mem_map.mp m;have:=(List.mem_filter.mp hx).2;simp [e'] at this
  refine Nk e he a ⟨lt a (List.mem_map.mpr ⟨_,hm,rfl⟩),na,.inr ⟨c,z ▸ hc,q⟩⟩ _ (r6 P.val.rise) fun v=>?_;have back:=JM.DT P.val.rise hm;have na':a ∉ dm (h.filter fun x=>x.1 != a):=z ▸ na;have:=yU (w:=b) (u:=v) na';rw [back] at this;rw [this,z]
theorem Nl {S:List Nat} {x:Int}:x ∈ nL S ↔ ∃ v ∈ S,x=(v:Int):=by
 unfold nL;rw [List.mem_map];exact ⟨fun ⟨v,h,e⟩=>⟨v,h,e.symm⟩,fun ⟨v,h,e⟩=>⟨v,h,e.symm⟩⟩
theorem Ea {S0:List Nat} {a:Nat} (nd:S0.Nodup) (na:a ∉ S0) {ns:List Int} (p:ns.Perm (nL (S0++[a]))) (s:ns.Pairwise (·<=·)):∃ S,ns=nL S/\S.Pairwise (· < ·)/\∀ v,v ∈ S ↔ v=a\/v ∈ S0:=by
 have mem:∀ x,x ∈ ns ↔ ∃ v ∈ S0++[a],x=((v:Nat):Int):=fun x=>by rw [p.mem_iff,Nl]
 have e:ns=nL (ns.map Int.toNat):=by
   unfold nL;rw [List.map_map];refine (List.map_id ns).symm.trans (List.map_congr_left fun x hx=>?_);obtain ⟨v,_,rfl⟩:=(mem x).mp hx;rfl
 have YR:ns.Nodup:=by
   refine p.nodup_iff.mpr ?_;unfold nL;rw [List.Nodup,List.pairwise_map];exact (t9 nd na).imp fun q z=>q (Int.ofNat.inj z)
 have lt:ns.Pairwise (· < ·):=(s.and YR).imp fun ⟨h1,h2⟩=>by omega
 refine ⟨ns.map Int.toNat,e,?_,fun v=>?_⟩
 . rw [e] at lt
   unfold nL at lt;rw [List.pairwise_map] at lt;exact lt.imp fun q=>by omega
 . rw [List.mem_map]
   constructor
   . rintro ⟨x,hx,rfl⟩
     obtain ⟨u,hu,rfl⟩:=(mem x).mp hx;rcases List.mem_append.mp hu with h | h
     . exact .inr h
     . exact .inl (List.mem_singleton.mp h)
   . intro h
     refine ⟨(v:Int),(mem _).mpr ⟨v,?_,rfl⟩,rfl⟩;rcases h with rfl | h
     . exact List.mem_append_right _ (List.mem_singleton.mpr rfl)
     . exact List.mem_append_left _ h
theorem Nm {K:Zqq} {b p:Addr} {xs ys:List V} {H:Hp} {Q:VK} (hb:H b=some (.tup xs)) (hp:H p=some (.tup ys)) (ne:ys ≠ []) (sz:xs.length+ys.length<=sizeLine) (k:∀ q H',aR H H'->H' q=some (.tup (xs++ys))->Q (.ref q) H'):NS K (.ref b) (.ref p) H Q:=
 ⟨b,p,xs,ys,rfl,rfl,j0.of hb,j0.of hp,ne,sz,fun e=>k p H (aR.refl _) (by rw [e];exact hp),fun _ q hq=>k q _ (aG hq) ai⟩
theorem gp.but {t:Ad} {D:Addr->Prop} {H H':Hp} {g d:Addr} {z:nG} {y:aN} {kvs:List (List Key×V)} (M:gp t D H g z y) (kp:∀ b u,H b=some u->b ≠ d->H' b=some u) (hd:H d=some (.dT kvs)) (nl:z.ln ≠ d) (nD:¬ D d):gp t D H' g z y:=by
 have go:∀ b u,H b=some u->(∀ k,u ≠ .dT k)->H' b=some u:=fun b u e n=>kp b u e fun q=>n kvs (by rw [q,hd] at e;exact (Option.some.inj e).symm);obtain ⟨dx,e⟩:=M.obj;exact ⟨⟨dx,go _ _ e fun k q=>by cases q⟩,go _ _ M.atoms fun k q=>(by cases q),go _ _ M.bonds fun k q=>(by cases q),⟨go _ _ M.rows.lst fun k q=>(by cases q),M.rows.len,M.rows.nd,M.rows.out,fun v a ha=>go _ _ (M.rows.at_ v a ha) fun k q=>(by cases q)⟩,
   go _ _ M.sums fun k q=>(by cases q),go _ _ M.orders fun k q=>(by cases q),kp _ _ M.nums nl,M.num,M.ra.stay (jx.ok _) fun b o db h=>kp b o h fun q=>nD (q ▸ db),M.rb.stay (jy.ok _) fun b o db h=>kp b o h fun q=>nD (q ▸ db)⟩
variable {P:Program} {w:World} {K:Zqq} {mg:Str->Option Value} {base:Heap} {t:Ad}
section
def Qo (K:Zqq) (t:Ad):Sp:=fun vs H Q _=>∃ (g g2 d:Addr) (j:Nat) (kvs:List (List Key×V)) (es:List (List Nat×List JM.dU)) (z z2:nG) (y y2:aN) (D D2 D1:Addr->Prop),vs=[.ref g,.ref g2,.ref d]/\gp t D H g z y/\eu y/\gp t D2 H g2 z2 y2/\eu y2 /\
 y.1.length<=7/\y2.1.length<=7/\H d=some (.dT kvs)/\¬ D1 d/\¬ D d/\¬ D2 d/\z.ln ≠ d/\z2.ln ≠ d/\PD y.1.length D1 H kvs es/\oX y y2 j es /\
 ∀ H' d' kvs' es',aR H H'->H d'=none->H' d'=some (.dT kvs')->PD y.1.length (fun b=>H b=none/\b ≠ d') H' kvs' es'->oX y y2 (j+1) es'->Q (.ref d') H'
theorem oA:aM ["one","other","found","asked","longer","atoms","atom","more","rows"] ["one","other","found"] (aF eX):=mL (by decide +kernel)
theorem Nn (T:Txt K mg t):bI P w K mg base mr 4 t.bh t.cP ["one","other","found"] (Qo K t):=by
 have GB:=@Im P w K mg base t T;have GR:=@Lh P w K mg base t T;refine T.bF.ok oA (fun vs H Q E h=>?_) (fun cdv A outer s H vs Q E hr h=>?_)
 . obtain ⟨g,g2,d,j,kvs,es,z,z2,y,y2,D,D2,D1,rfl,_⟩:=h
   rfl
 . obtain ⟨g,g2,d,j,kvs,es,z,z2,y,y2,D,D2,D1,rfl,M,gy,M2,Am,n1,n2,hd,WC,nD,YS,nl,YT,p,L,k⟩:=h
   have hr1:cU 1 _:=hr.mono (by decide);have hu:=hr.un;have hu':(A.deeper (envOfC "parts_with_one_more" (aF eX) s.heap.objs.size t.bh cdv)).units+1 < cLine:=by omega
   refine ⟨_,aq (aQ (i:=3) oA.nd rfl (Or.inl rfl) pO)
     (aq (aQ (i:=4) oA.nd rfl (Or.inl rfl) pO)
     (aq (wW (dN PassesOwn.never rfl (wY (pv 2)) (bx (i:=5) oA.nd rfl (Or.inl rfl))
       (aE (dN PassesOwn.never rfl (kZ (bB GB hr1 rfl T.qm T.gb.kp T.qh .nil cZ (af (pv 0) (af (pv 5) ay)))) (bx (i:=6) oA.nd rfl (Or.inl rfl))
         (aq (aQ (i:=7) oA.nd rfl (Or.inl rfl) (l0 mK (by rfl) T.xw PyProof.Rows.boot_tuple (af (c9 EV (by rfl) T.CN boot_sorted (af (gX MZ (pv 5) (mJ (af (pv 6) ay))) ay)) ay)))
         (aE (l8 (IG (GV hu' (pv 7) (pv 3)))
           (aq (nM hu' (pv 3) (pv 7) xC rfl)
           (aq (aQ (i:=8) oA.nd rfl (Or.inl rfl) (bB GR hr rfl T.ki T.cy.kp T.kh .nil cZ (af (pv 0) (af (pv 1) (af (pv 5) (af (Fz hu' (pv 2) (pv 5) (fun _ _=>rfl)) (af (pv 6) ay)))))))
           (aE (l8 (Jb (pv 8) (fun _=>rfl)) (aE (nM hu' (pv 4) (pv 7) (pv 8) rfl)) gq)))) gq)))))))
     (aE (bC (pv 4))))),?_⟩
   intro la hla;intro ll MG;have s1:aR H (upd H la (.dT [])):=aG hla;have s2:aR H _:=s1.trans (aG (o:=.dT []) MG);have KC:H ll=none:=s1.free MG;have Q3:la ≠ ll:=fun q=>by rw [<- q,ai] at MG;cases MG
   have WD:d ≠ la:=au hd hla;have Vt:d ≠ ll:=au hd KC;have el:=L.len n1 n2;refine ⟨d,_,s2 _ _ hd,True.intro,fun od=>?_⟩;refine ⟨_,rfl,d,od,rfl,.inr ⟨kvs,ai,?_⟩⟩;let S7:List Nat->Nat->(List Nat->Prop)->Prop:=fun S0 a As=>∀ S:List Nat,S.Pairwise (· < ·)->(∀ v,v ∈ S ↔ v=a\/v ∈ S0)->As S;let Mid:Nat->((List Nat->Prop)->Prop)->Hp->Prop:=fun m Nk H'=>∃ kA kL As es',(∀ b u,H b=some u->b ≠ d->H' b=some u)/\H' d=some (.jB od (.dT kvs))/\H' la=some (.dT kA)/\uA kA (fun s=>∃ S,As S/\s=nL S)/\kA.length<=m/\H' ll=some (.dT kL)/\kL.length<=m /\
     PD y.1.length (fun b=>H b=none/\b ≠ la/\b ≠ ll) H' kL es'/\Run y y2 (j+1) As es'/\Nk As
   let vc:L2.Iv:=fun i σ H'=>∃ v5 v6 v7 v8,σ=[some (.ref g),some (.ref g2),some (.ref d),some (.ref la),some (.ref ll),v5,v6,v7,v8]/\Mid (7 * i) (fun As=>∀ e ∈ es.take i,∀ a,S6 y e.1 a->S7 e.1 a As) H';refine rg (d:=d) (o:=od) (kvs:=kvs) vc
     ⟨none,none,none,none,rfl,[],[],fun _=>False,[],fun b u e q=>by rw [ak q];exact s2 b u e,ai,by rw [ak (Ne.symm WD),ak Q3];exact ai,uA.nil.eq fun s=>⟨fun h=>h.elim,fun ⟨_,h,_⟩=>h⟩,Nat.zero_le _,by rw [ak (Ne.symm Vt)];exact ai,Nat.zero_le _,⟨rfl,dS.nil⟩,Run.nil,fun e he=>by simp at he⟩
     (fun i σ H' ⟨_,_,_,_,_,_,_,_,_,_,h,_⟩=>h) ?_ ?_
   . rintro i ky v b σ HY BL ⟨v5,v6,v7,v8,rfl,kA,kL,As,es',kp,K9,TF,SA,lA,NU,lL,pY,R,Nk⟩ hb
     have hi:i < kvs.length:=(List.getElem?_eq_some_iff.mp BL).1;obtain ⟨e,he⟩:∃ e,es[i]?=some e:=⟨_,List.getElem?_eq_getElem (by rw [<- p.len];exact hi)⟩;have em:=List.mem_of_getElem? he;have ie:i < es.length:=(List.getElem?_eq_some_iff.mp he).1;obtain ⟨ek,a0,us,rfl,aD,ha0,RR⟩:=p.at_ BL he;have vv:=Gs (p.nd L.nd) BL;have kD:∀ b o,D1 b->H b=some o->HY b=some o:=fun b o db h=>kp b o h fun q=>WC (q ▸ db);have hb':HY b=some (.tup (vN e.1)):=by rw [hb,ek,vh,BS]
     obtain ⟨ne,YU,its⟩:=L.each e em;obtain ⟨g0,Vq⟩:=List.exists_mem_of_ne_nil _ ne;obtain ⟨P0,d0⟩:=(its g0).mp Vq;have rS:e.1.Pairwise (· < ·):=d0 ▸ r6 P0.val.rise;have Vu:∀ v ∈ e.1,v < y.1.length:=fun v hv=>by
       rw [<- d0] at hv;obtain ⟨x,hx,rfl⟩:=List.mem_map.mp hv;have:=(P0.val.lt x hx).1;rw [show (az y).sight.mol.n=y.1.length from jz y] at this;exact this
     refine ⟨_,rfl,_,rfl,?_⟩;refine ⟨g,b,e.1,z,y,D,rfl,M.but kp hd nl nD,gy,Vu,hb',fun HB lb bs sB nb hlb WE mem=>⟨lb,rfl,⟨_,c8.of hlb⟩,?_⟩⟩;let FY:L2.Iv:=fun i2 σ H'=>∃ v6 v7 v8,σ=[some (.ref g),some (.ref g2),some (.ref d),some (.ref la),some (.ref ll),some (.ref b),v6,v7,v8]/\H' lb=some (.lst (vN bs))/\H' b=some (.tup (vN e.1))/\Mid (7 * i+i2) (fun As=>(∀ e ∈ es.take i,∀ a,S6 y e.1 a->S7 e.1 a As)/\∀ a ∈ bs.take i2,S7 e.1 a As) H';refine l9 (K:=K) (a:=lb) (xs:=vN bs) FY ⟨v6,v7,v8,rfl,hlb,sB _ _ hb',kA,kL,As,es',fun b u e q=>sB _ _ (kp b u e q),sB _ _ K9,sB _ _ TF,SA,lA,sB _ _ NU,lL,pY.stay fun b o _ h=>sB _ _ h,R,Nk,fun a ha=>by simp at ha⟩ (fun i σ H' _ ⟨_,_,_,_,h,_⟩=>c8.of h) ?_ ?_
     . rintro i2 x σ H2 hx ⟨v6,v7,v8,rfl,Iq,hb2,kA,kL,As,es',Tp,hd2,ha2,SA,lA,hl2,lL,pY,R,Np,Lo⟩
       obtain ⟨a,hab,rfl⟩:=vj hx;have Z9:i2 < bs.length:=(List.getElem?_eq_some_iff.mp hab).1;have bl:bs.length<=7:=by
         have:=List.Nodup.length_le_of_subset WE (fun x hx=>List.mem_range.mpr ((mem x).mp hx).1:bs ⊆ List.range y.1.length);rw [List.length_range] at this;omega
       have Ba:S6 y e.1 a:=(mem a).mp (List.mem_of_getElem? hab);have WG:e.1.Nodup:=rS.imp fun q=>Nat.ne_of_lt q;have eS:e.1.length<=7:=by
         have:=List.Nodup.length_le_of_subset WG (fun x hx=>List.mem_range.mpr (Vu x hx):e.1 ⊆ List.range y.1.length);rw [List.length_range] at this;omega
       refine ⟨_,rfl,_,rfl,(by show 1<=sizeLine;decide),fun p1 hp1=>?_⟩;have t1:aR H2 _:=aG (o:=.tup [V.int (a:Int)]) hp1;refine Nm (xs:=vN e.1) (ys:=[V.int (a:Int)]) (t1 _ _ hb2) ai (by simp) (by rw [lU,sizeLine_eq];simp;omega) fun q H3 t3 hq=>?_;rw [<- Ge,BS] at hq;refine ⟨q,nL (e.1++[a]),rfl,j0.of hq,by simp [nL];omega,fun ns p5 perm YV YW=>?_⟩;obtain ⟨S,rfl,rise,mS⟩:=Ea WG Ba.2.1 perm YV;refine ⟨p5,_,rfl,.inl ⟨c8.of ai,fun p6 YX=>?_⟩⟩;have t6:aR H2 _:=((t1.trans t3).trans (aG (o:=.lst ((nL S).map V.int)) YW)).trans (aG (o:=.tup ((nL S).map V.int)) YX);generalize YY:upd (upd H3 p5 (.lst ((nL S).map V.int))) p6 (.tup ((nL S).map V.int))=H6 at t6 ⊢;have Fd:H6 p6=some (.tup ((kI (nL S)).map kV)):=by rw [<- YY,vh];exact ai
       have b6:=t6 _ _ hb2;have bla:b ≠ la:=fun z=>by rw [z,ha2] at hb2;cases hb2
       have YZ:b ≠ ll:=fun z=>by rw [z,hl2] at hb2;cases hb2
       have Vv:lb ≠ la:=fun z=>by rw [z,ha2] at Iq;cases Iq
       have Vw:lb ≠ ll:=fun z=>by rw [z,hl2] at Iq;cases Iq
       have Vx:p6 ≠ la:=fun z=>by rw [z,t6 _ _ ha2] at Fd;cases Fd
       have Za:p6 ≠ ll:=fun z=>by rw [z,t6 _ _ hl2] at Fd;cases Fd
       refine ⟨_,rfl,_,rfl,la,_,rfl,rA.t (t6 _ _ ha2) Fd,_,rfl,?_⟩;by_cases cA:As S
       . have:(iL kA (kI (nL S))).isSome=true:=(SA.iff _).mpr ⟨S,cA,rfl⟩
         rw [this];refine vY ⟨_,_,_,rfl,t6 _ _ Iq,b6,kA,kL,As,es',fun b u e q=>t6 _ _ (Tp b u e q),t6 _ _ hd2,t6 _ _ ha2,SA,by omega,t6 _ _ hl2,by omega,pY.stay fun b o _ h=>t6 _ _ h,R,Np,fun a' ha'=>?_⟩;rw [take_snoc hab] at ha';rcases List.mem_append.mp ha' with m | m
         . exact Lo a' m
         . rw [List.mem_singleton.mp m]
           intro S' r' m';rw [nJ r' rise fun v=>by rw [m',mS]];exact cA
       . have:(iL kA (kI (nL S))).isSome=false:=by rw [<- Bool.not_eq_true,SA.iff];exact fun ⟨S',h,e⟩=>cA (Ca e ▸ h)
         rw [this];refine xT ?_;refine ⟨_,rfl,_,rfl,la,_,rfl,uM.t (t6 _ _ ha2) Fd (by rw [sizeLine_eq];omega),?_⟩;generalize NV:upd H6 la (.dT (putK kA (kI (nL S)) (V.bl true)))=HA;have Q4:∀ b u,H b=some u->b ≠ d->HA b=some u:=fun b u e q=>by rw [<- NV,ak (au e hla)];exact t6 _ _ (Tp b u e q)
         have dA:HA d=some (.jB od (.dT kvs)):=by rw [<- NV,ak WD];exact t6 _ _ hd2
         have aA:HA la=some (.dT (putK kA (kI (nL S)) (V.bl true))):=by rw [<- NV];exact ai
         have Vy:HA ll=some (.dT kL):=by rw [<- NV,ak (Ne.symm Q3)];exact t6 _ _ hl2
         have bA:HA b=some (.tup (vN e.1)):=by rw [<- NV,ak bla];exact b6
         have WH:HA lb=some (.lst (vN bs)):=by rw [<- NV,ak Vv];exact t6 _ _ Iq
         have Zb:HA p6=some (.tup ((kI (nL S)).map kV)):=by rw [<- NV,ak Vx];exact Fd
         have pA:PD y.1.length (fun b=>H b=none/\b ≠ la/\b ≠ ll) HA kL es':=pY.stay fun b o db h=>by rw [<- NV,ak db.2.1];exact t6 _ _ h
         have WI:uA (putK kA (kI (nL S)) (V.bl true)) (fun s=>∃ S',(As S'\/S'=S)/\s=nL S'):=(SA.put _ _).eq fun s=>by
           constructor
           . rintro (⟨S',h,e⟩ | rfl)
             . exact ⟨S',.inl h,e⟩
             . exact ⟨S,.inr rfl,rfl⟩
           . rintro ⟨S',h | rfl,e⟩
             . exact .inl ⟨S',h,e⟩
             . exact .inr e
         have ZA:=gi kA (kI (nL S)) (V.bl true);have WJ:∀ b o,D1 b->H b=some o->HA b=some o:=fun b o db h=>Q4 b o h fun q=>WC (q ▸ db);have free:∀ b,HA b=none->H b=none/\b ≠ la/\b ≠ ll:=fun b' h'=>by
           refine ⟨?_,fun q=>(by rw [q,aA] at h';cases h'),fun q=>(by rw [q,Vy] at h';cases h')⟩;cases c:H b' with
           | none=>rfl
           | some u=>
             by_cases q:b'=d
             . rw [q,dA] at h';cases h'
             . rw [Q4 b' u c q] at h';cases h'
         have S8:∀ a' ∈ bs.take (i2+1),S7 e.1 a' fun u=>As u\/u=S:=fun a' ha'=>by
           rw [take_snoc hab] at ha';rcases List.mem_append.mp ha' with m | m
           . exact fun S' r' m'=>.inl (Lo a' m S' r' m')
           . rw [List.mem_singleton.mp m]
             exact fun S' r' m'=>.inr (nJ r' rise fun v=>by rw [m',mS])
         have NW:∀ e ∈ es.take i,∀ a,S6 y e.1 a->S7 e.1 a fun u=>As u\/u=S:=fun e he a ha S' r' m'=>.inl (Np e he a ha S' r' m');have g9:rA HA d (.ref b) (some (.ref a0)):=.inr ⟨kvs,ky,b,.inr ⟨od,dA⟩,rfl,by rw [bA,ek,vh,BS],vv.symm⟩;refine ⟨_,rfl,_,rfl,_,rfl,_,rfl,_,rfl,d,_,rfl,g9,_,rfl,?_⟩;refine ⟨g,g2,b,a0,a,e.1,us,e.2,z,z2,y,y2,D,D2,D1,rfl,M.but Q4 hd nl nD,gy,M2.but Q4 hd YT YS,Am,Ba.1,Ba.2.1,n2,bA,WJ _ _ aD ha0,RR.stay (u6.ok _) WJ,L.one n1 n2 em,fun h hh=>?_,fun H7 l7 S9 t7 Zc WK R7=>?_⟩
         . obtain ⟨Ph,dh⟩:=(its h).mp hh
           exact ⟨Ph.val.rise,dh,fun x hx=>Vu _ (dh ▸ List.mem_map.mpr ⟨x,hx,rfl⟩)⟩
         . have it:∀ h,h ∈ exts y y2 e.2 a ↔ Lm y y2 (j+1) h/\dm h=S:=fun h=>by
             rw [Ln gy Am ne its Ba.1 Ba.2.1 Ba.2.2 h];refine and_congr_right fun Ph=>⟨fun q=>nJ (r6 Ph.val.rise) rise fun v=>by rw [q,mS],fun q v=>by rw [q,mS]⟩
           have Zd:(exts y y2 e.2 a).Nodup:=Gw YU fun h hh=>by
             obtain ⟨Ph,dh⟩:=(its h).mp hh;exact ⟨Ph.val.rise,by rw [dh];exact Ba.2.1⟩
           have SG:=R7.len;refine ⟨_,rfl,_,.inl ⟨_,c8.of WK,rfl⟩,?_⟩;by_cases c7:S9=[]
           . have z7:exts y y2 e.2 a=[]:=List.length_eq_zero_iff.mp (by rw [<- SG,c7];rfl)
             rw [show (!S9.isEmpty)=false by rw [c7];rfl];exact vY ⟨_,_,_,rfl,t7 _ _ WH,t7 _ _ bA,_,kL,_,es',fun b u e q=>t7 _ _ (Q4 b u e q),t7 _ _ dA,t7 _ _ aA,WI,by omega,t7 _ _ Vy,by omega,pA.stay fun b o _ h=>t7 _ _ h,R.none it z7,NW,S8⟩
           . have z7:exts y y2 e.2 a ≠ []:=fun q=>c7 (List.length_eq_zero_iff.mp (by rw [SG,q];rfl))
             rw [show (!S9.isEmpty)=true by cases S9 with | nil=>exact absurd rfl c7 | cons _ _=>rfl]
             refine xT ⟨_,rfl,_,rfl,_,rfl,ll,_,rfl,uM.t (t7 _ _ Vy) (t7 _ _ Zb) (by rw [sizeLine_eq];omega),?_⟩;have fl:=free l7 Zc;have new:iL kL (kI (nL S))=none:=by
               cases c:iL kL (kI (nL S)) with
               | none=>rfl
               | some v=>
                 have:=LS c;rw [show kL.map (·.1)=_ from pA.keys] at this;obtain ⟨e',he',q⟩:=List.mem_map.mp this;exact absurd (Ca (mV q) ▸ R.sub e' he') cA
             have lL':=gi kL (kI (nL S)) (V.ref l7);have keep:∀ {b:Addr} {u:HO},HA b=some u->b ≠ ll->upd H7 ll (.dT (putK kL (kI (nL S)) (.ref l7))) b=some u:=fun h q=>by rw [ak q];exact t7 _ _ h
             refine ⟨_,_,_,rfl,keep WH Vw,keep bA YZ,_,_,_,_,fun b u e q=>keep (Q4 b u e q) (au e KC),keep dA Vt,keep aA Q3,WI,by omega,ai,by omega,⟨?_,?_⟩,R.some cA it Zd z7,NW,S8⟩
             . rw [Cy _ new,List.map_append,List.map_append,pA.keys]
               rfl
             . rw [Cy _ new,List.map_append,List.map_append]
               refine (pA.reps.stay (DX.ok _) fun b o db h=>?_).snoc ⟨l7,S9,rfl,fl,?_,(R7.mono (u6.ok _) free).stay (u6.ok _) fun b o db h=>?_⟩
               . rw [ak db.2.2];exact t7 _ _ h
               . rw [ak fl.2.2];exact WK
               . rw [ak db.2.2];exact h
     . rintro σ H2 ⟨v6,v7,v8,rfl,_,_,kA,kL,As,es',kp,K9,TF,SA,lA,NU,lL,pY,R,Np,Lo⟩
       have bl:bs.length<=7:=by
         have:=List.Nodup.length_le_of_subset WE (fun x hx=>List.mem_range.mpr ((mem x).mp hx).1:bs ⊆ List.range y.1.length);rw [List.length_range] at this;omega
       refine ⟨_,_,_,_,rfl,kA,kL,As,es',kp,K9,TF,SA,by rw [lU] at lA;omega,NU,by rw [lU] at lL;omega,pY,R,fun e2 WL a ha=>?_⟩;rw [lU,List.take_length] at Lo;rw [take_snoc he] at WL;rcases List.mem_append.mp WL with m | m
       . exact Np e2 m a ha
       . rw [List.mem_singleton.mp m] at ha ⊢
         exact Lo a ((mem a).mpr ha)
   . rintro σ H1 ⟨v5,v6,v7,v8,rfl,kA,kL,As,es',kp,K9,TF,SA,lA,NU,lL,pY,R,Nk⟩
     rw [p.len,List.take_length] at Nk;refine ⟨K9,_,rfl,k _ ll kL es' (fun b u e=>?_) KC (by rw [ak (Ne.symm Vt)];exact NU) ((pY.stay fun b o db h=>?_).mono fun b h=>⟨h.1,h.2.2⟩) (Run.fin L R Nk)⟩
     . by_cases q:b=d
       . subst q
         rw [hd] at e;cases e;exact ai
       . rw [ak q]
         exact kp b u e q
     . rw [ak (fun q=>by rw [q,hd] at db;cases db.1)]
       exact h
end
theorem SH (y y2:aN):oX y y2 0 [([],[[]])]:=by
 have P0:Lm y y2 0 []:=⟨⟨List.Pairwise.nil,fun x hx=>(by cases hx),List.Pairwise.nil⟩,rfl,fun v w hv=>(by cases hv)⟩;refine ⟨by simp,fun e he=>?_,fun h Ph=>⟨_,List.mem_singleton.mpr rfl,?_⟩⟩
 . rw [List.mem_singleton.mp he]
   refine ⟨by simp,by simp,fun h=>?_⟩;rw [List.mem_singleton];exact ⟨fun q=>(by rw [q];exact ⟨P0,rfl⟩),fun q=>List.length_eq_zero_iff.mp q.1.len⟩
 . rw [List.length_eq_zero_iff.mp Ph.len]
   rfl
section
def Nq (K:Zqq) (t:Ad):Sp:=fun vs H Q _=>∃ (g g2:Addr) (z z2:nG) (y y2:aN) (D D2:Addr->Prop),vs=[.ref g,.ref g2]/\gp t D H g z y/\eu y/\gp t D2 H g2 z2 y2/\eu y2/\y.1.length<=7/\y2.1.length<=7/\(∀ a,D a->H a ≠ none)/\(∀ a,D2 a->H a ≠ none) /\
 ∀ H' l h0,aR H H'->H l=none->Fk.common (az y) (az y2)=JM.rowN h0->h0.length<=7->H' l=some (.lst (vI (JM.jN h0)))->Q (.ref l) H'
theorem qQ:aM ["one","other","found","longer"] ["one","other"] (aF iY):=mL (by decide +kernel)
theorem Lp (n:Nat):(List.replicate n [V.int (-1)]).flatten=vI (iW n []):=by
 unfold vI iW;rw [List.map_map];induction n with
 | zero=>rfl
 | succ n ih=>
  rw [List.replicate_succ',List.range_succ,List.flatten_append,ih,List.map_append];rfl
theorem PD.one {n:Nat} {D:Addr->Prop} {H:Hp} {pl pr:Addr} (d1:D pl) (d2:D pr) (h1:H pl=some (.lst [.ref pr])) (h2:H pr=some (.lst (vI (iW n [])))):PD n D H [([],.ref pl)] [([],[[]])]:=
 ⟨rfl,(dS.nil (Rep:=DX n)).snoc (vs:=[]) (zs:=[]) ⟨pl,_,rfl,d1,h1,(dS.nil (Rep:=u6 n)).snoc (vs:=[]) (zs:=[]) ⟨pr,rfl,d2,h2⟩⟩⟩
theorem oX.cap {y y2:aN} {j:Nat} {es:List (List Nat×List JM.dU)} (L:oX y y2 j es) (ne:es ≠ []):j<=y.1.length:=by
 obtain ⟨e,he⟩:=List.exists_mem_of_ne_nil _ ne;obtain ⟨ne2,_,its⟩:=L.each e he;obtain ⟨h,hh⟩:=List.exists_mem_of_ne_nil _ ne2;have Ph:=((its h).mp hh).1;have:(dm h).length<=(List.range y.1.length).length:=List.Nodup.length_le_of_subset Ph.val.nd fun v hv=>by
  obtain ⟨x,hx,rfl⟩:=List.mem_map.mp hv;have:=(Ph.val.lt x hx).1;rw [show (az y).sight.mol.n=y.1.length from jz y] at this;exact List.mem_range.mpr this
 rw [List.length_map,List.length_range,Ph.len] at this;exact this
theorem oX.first {y y2:aN} {j:Nat} {es:List (List Nat×List JM.dU)} (L:oX y y2 j es) (L':oX y y2 (j+1) []) {h0:JM.dU} (m:h0 ∈ es.flatMap fun e=>e.2) (least:∀ h ∈ es.flatMap fun e=>e.2,HT.lexLt (JM.jN h) (JM.jN h0)=false):Fk.common (az y) (az y2)=JM.rowN h0:=by
 obtain ⟨e,he,hm⟩:=List.mem_flatMap.mp m;refine JM.Ik (((L.each e he).2.2 h0).mp hm).1 (fun h Ph=>?_) fun h Ph=>?_
 . obtain ⟨e,he,_⟩:=L'.all h Ph
   cases he
 . obtain ⟨e,he,q⟩:=L.all h Ph
   exact least h (List.mem_flatMap.mpr ⟨e,he,((L.each e he).2.2 h).mpr ⟨Ph,q.symm⟩⟩)
structure WM (X:Cx) (l:List Stmt) (u:TS):Prop where
 ok:Ax X l u
theorem Lq {X:Cx} {i n:Nat} {x:Str} {pos pos' p1 p2:Pos} {v:Expr} {tv:TE} {rest:List Stmt} {u:TS} (hN:X.N.Nodup) (hi:X.N[i]?=some x) (hx:Loc X.env.scope x) (hu:X.A.units+1 < cLine) (hv:PE X v tv) (hr:Ax X rest u) (hf:X.fn x=true\/X.env.scope.names.lookup x=some .local:=by first | exact .inl rfl | exact .inr rfl) :
   WM X (.Assign [.Name x pos'] (.Dict [some (.Tuple [] n p1)] [v] p2) pos::rest) (Oh (L0 (JE (QT O0) tv) (zB i)) u):=⟨aq (aQ hN hi hx (CC hu (mJ ay) hv) rfl hf) hr⟩
theorem Ze {x qual:Str} {st:Stmt} {f:Addr} {fd:FuncData} {N ps:List Str} {k:Nat} {sp:Sp} (F:jD K x qual st f fd) (S:aM N ps (aF st)) (len:∀ vs H Q E,sp vs H Q E->vs.length=ps.length)
   (hbody:∀ (cdv:Value) (A:Around) (outer:List Env) (s:Shared) (H:Hp) (vs:List V) (Q:VK) (E:XK),cU k (A.deeper (envOfC qual (aF st) s.heap.objs.size f cdv))->sp vs H Q E->
     ∃ u,WM (mX mr P w K mg base N qual (aF st) f cdv A outer s H E).Qs (lg st) u/\u { nx:=fun _ H'=>Q .non H',rt:=Q } (L2.start N vs) H):bI P w K mg base mr (k+1) f fd ps sp:=
 F.ok S len fun cdv A outer s H vs Q E hr h=>let ⟨u,a,b⟩:=hbody cdv A outer s H vs Q E hr h;⟨u,a.ok,b⟩
theorem Lr (T:Txt K mg t):bI P w K mg base mr 5 t.cI t.gI ["one","other"] (Nq K t):=by
 have GM:=@Nn P w K mg base t T;have GF:=@Ll P w K mg base t T;obtain ⟨Q0,g1⟩:=T.tS;refine Ze T.f7 qQ (fun vs H Q E h=>?_) (fun cdv A outer s H vs Q E hr h=>?_)
 . obtain ⟨g,g2,z,z2,y,y2,D,D2,rfl,_⟩:=h
   rfl
 . obtain ⟨g,g2,z,z2,y,y2,D,D2,rfl,M,gy,M2,Am,n1,n2,hD,Zf,k⟩:=h
   have hr2:cU 2 _:=hr.mono (by decide);have hu:=hr.un;have hu':(A.deeper (envOfC "greatest_part" (aF iY) s.heap.objs.size t.cI cdv)).units+1 < cLine:=by omega
   refine ⟨_,Lq (i:=2) qQ.nd rfl (Or.inl rfl) hu' (iK (af (gX E2 (iK (af (b9 rfl g1 (v:=.int (-1)) ⟨_,rfl⟩) ay)) (c9 aY (by rfl) T.j6 PySem.boot_len (af (aL (pv 0) rfl) ay))) ay))
     (aq (aQ (i:=3) qQ.nd rfl (Or.inl rfl) (bB GM hr rfl T.gU T.bF.kp T.gT .nil cZ (af (pv 0) (af (pv 1) (af (pv 2) ay)))))
     (aq (IV PassesOwn.never (Ip (pv 3) (fun _=>rfl))
       (aq (aQ (i:=2) qQ.nd rfl (Or.inl rfl) (pv 3))
       (aE (aQ (i:=3) qQ.nd rfl (Or.inl rfl) (bB GM hr rfl T.gU T.bF.kp T.gT .nil cZ (af (pv 0) (af (pv 1) (af (pv 2) ay))))))))
     (aE (bC (bB GF hr2 rfl T.vL T.jh.kp T.vG .nil cZ (af (pv 2) ay)))))),?_⟩
   obtain ⟨dg,eg⟩:=M.obj;have al:z.as.length=y.1.length:=M.ra.len;have fr:∀ {b:Addr},H b=none->¬ D b/\¬ D2 b/\z.ln ≠ b/\z2.ln ≠ b:=fun hb=>⟨fun q=>hD _ q hb,fun q=>Zf _ q hb,au M.nums hb,au M2.nums hb⟩;let W:L2.Iv:=fun m σ H'=>∃ j d d' kvs kvs' es es',m=8 - j/\σ=[some (.ref g),some (.ref g2),some (.ref d),some (.ref d')]/\aR H H'/\H d=none/\H d'=none/\H' d=some (.dT kvs)/\H' d'=some (.dT kvs')/\PD y.1.length (fun b=>H b=none/\b ≠ d) H' kvs es/\PD y.1.length (fun b=>H b=none/\b ≠ d') H' kvs' es'/\oX y y2 j es/\oX y y2 (j+1) es'/\es ≠ [];intro d0 hd0;have s0:aR H (upd H d0 (.dT [])):=aG hd0;refine ⟨Nat.zero_le _,fun pt PV=>?_⟩;have s1:aR H _:=s0.trans (aG (o:=.tup []) PV);refine ⟨by show 1<=sizeLine;decide,fun p0 hp0=>?_⟩;have s2:aR H _:=s1.trans (aG (o:=.lst [.int (-1)]) hp0);refine ⟨_,rfl,fld (s2 _ _ eg) T.aU T.aX rfl ⟨z.la,z.as,rfl,.inl (c8.of (s2 _ _ M.atoms)),p0,_,_,rfl,rfl,ai,by omega,by omega,by rw [sizeLine_eq];simp;omega,fun pr Q5=>?_⟩⟩;rw [Int.toNat_natCast,al,Lp];have s3:aR H _:=s2.trans (aG (o:=.lst (vI (iW y.1.length []))) Q5);refine ⟨by show 1<=sizeLine;decide,fun pl hpl=>?_⟩;have s4:aR H _:=s3.trans (aG (o:=.lst [.ref pr]) hpl);have d1:d0 ≠ pt:=fun q=>by rw [<- q,ai] at PV;cases PV
   have e1:upd (upd H d0 (.dT [])) pt (.tup []) d0=some (.dT []):=by rw [ak d1];exact ai
   have e2:upd (upd (upd H d0 (.dT [])) pt (.tup [])) p0 (.lst [.int (-1)]) d0=some (.dT []):=aG hp0 _ _ e1;have e3:upd (upd (upd (upd H d0 (.dT [])) pt (.tup [])) p0 (.lst [.int (-1)])) pr (.lst (vI (iW y.1.length []))) d0=some (.dT []):=aG Q5 _ _ e2;have f3:upd (upd (upd (upd H d0 (.dT [])) pt (.tup [])) p0 (.lst [.int (-1)])) pr (.lst (vI (iW y.1.length []))) pt=some (.tup []):=aG Q5 _ _ (aG hp0 _ _ ai);have WN:pr ≠ d0:=fun q=>by rw [q,e2] at Q5;cases Q5
   have WO:pl ≠ d0:=fun q=>by rw [q,e3] at hpl;cases hpl
   refine ⟨aG hpl _ _ e3,[],pt,_,rfl,aG hpl _ _ f3,?_⟩;have s5:aR H (upd (upd (upd (upd (upd (upd H d0 (.dT [])) pt (.tup [])) p0 (.lst [.int (-1)])) pr (.lst (vI (iW y.1.length [])))) pl (.lst [.ref pr])) d0 (.dT [([],.ref pl)])):=fun b u e=>by rw [ak (au e hd0)];exact s4 b u e
   have pd:PD y.1.length (fun b=>H b=none/\b ≠ d0) (upd (upd (upd (upd (upd (upd H d0 (.dT [])) pt (.tup [])) p0 (.lst [.int (-1)])) pr (.lst (vI (iW y.1.length [])))) pl (.lst [.ref pr])) d0 (.dT [([],.ref pl)])) [([],.ref pl)] [([],[[]])]:=
     PD.one ⟨s3.free hpl,WO⟩ ⟨s2.free Q5,WN⟩ (by rw [ak WO];exact ai) (by rw [ak WN];exact aG hpl _ _ ai)
   have e5:upd (upd (upd (upd (upd (upd H d0 (.dT [])) pt (.tup [])) p0 (.lst [.int (-1)])) pr (.lst (vI (iW y.1.length [])))) pl (.lst [.ref pr])) d0 (.dT [([],.ref pl)]) d0=some (.dT [([],.ref pl)]):=ai;generalize upd (upd (upd (upd (upd (upd H d0 (.dT [])) pt (.tup [])) p0 (.lst [.int (-1)])) pr (.lst (vI (iW y.1.length [])))) pl (.lst [.ref pr])) d0 (.dT [([],.ref pl)])=H5 at s5 pd e5 ⊢;obtain ⟨a1,a2,a3,a4⟩:=fr hd0;refine ⟨_,rfl,_,rfl,_,rfl,?_⟩;refine ⟨g,g2,d0,0,_,_,z,z2,y,y2,D,D2,_,rfl,M.same s5,gy,M2.same s5,Am,n1,n2,e5,fun q=>q.2 rfl,a1,a2,a3,a4,pd,SH y y2,fun H6 d' kvs' es' s6 nd' hd' p' L'=>?_⟩;dsimp only [zB,Oh];show IU _ _ _ _ _;refine ⟨W,⟨8,0,d0,d',_,kvs',_,es',rfl,rfl,s5.trans s6,hd0,s5.free nd',s6 _ _ e5,hd',pd.stay (fun b o _ h=>s6 b o h),p'.mono (fun b h=>⟨s5.free h.1,h.2⟩),SH y y2,L',by simp⟩,?_⟩;clear pd e5 s5 a1 a2 a3 a4 p' L' hd' nd';rintro m σ H7 ⟨j,d,d',kvs,kvs',es,es',rfl,rfl,s7,nd,nd',hd,hd',p,p',L,L',ne⟩;refine ⟨_,rfl,d',kvs',rfl,hd',?_⟩;have j7:=L.cap ne;cases kvs' with
   | nil=>
     refine vY ?_;have e0:es'=[]:=List.length_eq_zero_iff.mp p'.len.symm;subst e0;refine ⟨_,rfl,d,y.1.length,kvs,es,_,rfl,hd,fun q=>q.2 rfl,p,L.nd,fun e he h hh=>?_,fun q=>?_,L.few n1 n2,fun H8 l h0 s8 nl m0 least hl=>?_⟩
     . obtain ⟨Ph,dh⟩:=((L.each e he).2.2 h).mp hh
       refine ⟨dh,dh ▸ Ph.val.nd,fun x hx=>?_,by rw [Ph.len];omega⟩;have:=(Ph.val.lt x hx).1;rw [show (az y).sight.mol.n=y.1.length from jz y] at this;exact this
     . obtain ⟨e,he⟩:=List.exists_mem_of_ne_nil _ ne
       obtain ⟨h,hh⟩:=List.exists_mem_of_ne_nil _ (L.each e he).1;have:=List.mem_flatMap.mpr ⟨e,he,hh⟩;rw [q] at this;cases this
     . obtain ⟨e,he,hm⟩:=List.mem_flatMap.mp m0
       exact k H8 l h0 (s7.trans s8) (s7.free nl) (L.first L' m0 least) (by rw [(((L.each e he).2.2 h0).mp hm).1.len];omega) hl
   | cons kv kvs''=>
     refine xT ?_;have ne':es' ≠ []:=fun q=>by have:=p'.len;rw [q] at this;simp at this
     have j8:=L'.cap ne';obtain ⟨a1,a2,a3,a4⟩:=fr nd';refine ⟨W (8 - (j+1)),fun σ' H' w=>⟨_,by omega,w⟩,?_⟩;refine ⟨_,rfl,_,rfl,_,rfl,_,rfl,?_⟩;refine ⟨g,g2,d',j+1,_,es',z,z2,y,y2,D,D2,_,rfl,M.same s7,gy,M2.same s7,Am,n1,n2,hd',fun q=>q.2 rfl,a1,a2,a3,a4,p',L',fun H8 d2 Zg Zh s8 T8 hd2 p2 L2=>?_⟩;exact ⟨j+1,d',d2,_,_,es',Zh,rfl,rfl,s7.trans s8,nd',s7.free T8,s8 _ _ hd',hd2,p'.stay fun b o _ h=>s8 b o h,p2.mono fun b h=>⟨s7.free h.1,h.2⟩,L',L2,ne'⟩
end
end MP
namespace JM
open Fk
theorem Ir {m b:Bytes} {y:Bytes×Nat} (h:mark m b=.ok y):y=(b.drop m.length,m.length):=by
 unfold mark at h;cases q:(List.range m.length).find? fun i=>b[i]? != m[i]? with
 | some i=>rw [q] at h;cases h
 | none=>rw [q] at h;cases h;rfl
theorem Iu {g:Nat->Bool} {b:Bytes} {p:Nat} {k:Nat} {y:Nat×Bytes×Nat} (h:numIn 1 g (b.drop k) p=.ok y):y.1=(b.getD k 0).toNat:=by
 obtain ⟨h1,_,h3,_⟩:=aZ h;rw [h3];have hl:k < b.length:=by
  rw [List.length_drop] at h1;omega
 rw [List.drop_eq_getElem_cons hl,List.take_succ_cons,List.take_zero,AE,List.getD,List.getElem?_eq_getElem hl];rfl
structure Vz (b:Bytes) (M:Mol):Prop where
 n:M.n=(b.getD 4 0).toNat
 handed:∀ v,v < M.n->(M.atom v).hand ≠ 0->M.handed v=true
 sided:∀ j x,M.bonds[j]?=some x->x.side ≠ 0->M.sided j=true
theorem Au:∀ {k:Nat} {b:Bytes} {p:Nat} {y:List Atom×Bytes×Nat},atomsIn k b p=.ok y->y.1.length=k
 | 0,b,p,y,h=>by
  cases h
  rfl
 | k+1,b,p,y,h=>by
  unfold atomsIn at h
  obtain ⟨c,_,h⟩:=aK h
  obtain ⟨e,_,h⟩:=aK h
  obtain ⟨i,_,h⟩:=aK h
  obtain ⟨q,_,h⟩:=aK h
  obtain ⟨hy,_,h⟩:=aK h
  obtain ⟨l,hl,h⟩:=aK h
  cases h
  simp [Au hl]
theorem Fe {b:Bytes} {M:Mol} (h:judgeMol b=.ok M):Vz b M:=by
 unfold judgeMol at h;obtain ⟨m,hm,h1⟩:=aK h;obtain ⟨n,hn,h2⟩:=aK h1;obtain ⟨k,hk,h3⟩:=aK h2;obtain ⟨x,hx,h4⟩:=aK h3;obtain ⟨y,hy,h5⟩:=aK h4;obtain ⟨_,_,h6⟩:=aK h5;clear h h1 h2 h3 h4 h5;have h:=h6;clear h6;rw [Ir hm] at hn;have n4:=Iu hn;have xo:=Au hx;simp only at h;split at h
 . cases h
 . rename_i f1
   split at h
   . cases h
   . rename_i f2
     cases h;rw [List.find?_eq_none] at f1 f2;refine ⟨?_,fun v hv ho=>?_,fun j z hz ho=>?_⟩
     . show x.1.length=_
       rw [xo,n4];rfl
     . have:=f1 v (List.mem_range.mpr hv)
       have e:((⟨x.1,y.1⟩:Mol).atom v).hand != 0:=bne_iff_ne.mpr ho;simp only [e,Bool.true_and,Bool.not_eq_true',Bool.not_eq_false] at this;exact this
     . have hz':y.1[j]?=some z:=hz
       have:=f2 j (List.mem_range.mpr (List.getElem?_eq_some_iff.mp hz').1);have e:(((⟨x.1,y.1⟩:Mol).bonds[j]?.map Bond.side).getD 0 != 0)=true:=by
         rw [hz];exact bne_iff_ne.mpr ho
       rw [e] at this;simp only [Bool.true_and,Bool.not_eq_true',Bool.not_eq_false] at this;exact this
end JM
namespace MP
open PySem PySem.Spec PyProof.Rows L2
open XL (cK)
open Fk (Fault Bytes numIn need andThen Atom Bond Mol PAtom PBond Part)
open JM (aN az cS b5)
def vp (Bq Br:Bytes) (f:Mol->Mol->List Int):List Int:=match Fk.judgeMol Bq with
 | .error e=>[-5,0,(e.rule:Int),(e.place:Int)]
 | .ok M=>match Fk.judgeMol Br with
   | .error e=>[-5,1,(e.rule:Int),(e.place:Int)]
   | .ok N=>f M N
theorem Ls (Bq Br:Bytes) (f:Mol->Mol->FkP.Answer):PartNeutral.told (FkP.judged 0 (Fk.judgeMol Bq) fun M=>FkP.judged 1 (Fk.judgeMol Br) fun N=>f M N)=vp Bq Br fun M N=>PartNeutral.told (f M N):=by
 unfold FkP.judged vp;cases Fk.judgeMol Bq with
 | error e=>rfl
 | ok M=>
  simp only;cases Fk.judgeMol Br<;>rfl
theorem SI {B:Bytes} {y:aN} (h:Fk.judgeMol B=.ok (az y)) {k:Nat} (hk:(B.getD 4 0).toNat<=k):y.1.length<=k:=by
 have J:=JM.Fe h;have n:=jz y;have:=J.n;omega
variable {P:Program} {w:World} {K:Zqq} {mg:Str->Option Value} {base:Heap} {t:Ad}
section
theorem gp.held {D:Addr->Prop} {H:Hp} {g:Addr} {z:nG} {y:aN} (M:gp t D H g z y):gp t (fun b=>H b ≠ none) H g z y:=
 ⟨M.obj,M.atoms,M.bonds,M.rows,M.sums,M.orders,M.nums,M.num,⟨M.ra.len,fun i v x h1 h2=>let ⟨o,dx,e,_,h⟩:=M.ra.at_ i v x h1 h2;⟨o,dx,e,fun q=>(by rw [q] at h;cases h),h⟩⟩,⟨M.rb.len,fun i v x h1 h2=>let ⟨o,dx,e,_,h⟩:=M.rb.at_ i v x h1 h2;⟨o,dx,e,fun q=>(by rw [q] at h;cases h),h⟩⟩⟩
def Eb (K:Zqq):Sp:=fun vs H Q _=>∃ (a b:Addr) (Bq Br:Bytes),vs=[.ref a,.ref b]/\qE K H a Bq/\qE K H b Br/\Bq.length<=6000/\Br.length<=6000/\(Bq.getD 4 0).toNat<=7/\(Bq.getD 5 0).toNat<=12/\(Br.getD 4 0).toNat<=7/\(Br.getD 5 0).toNat<=12/\∀ H' p,H' p=some (.lst (vI (vp Bq Br fun M N=>0::((Fk.common M N).length:Int)::nL (Fk.common M N))))->Q (.ref p) H'
theorem r8:aM ["molecule","another","one","other","fault"] ["molecule","another"] (aF yg):=mL (by decide +kernel)
theorem Iw (T:Txt K mg t):bI P w K mg base mr 11 t.iR t.nh ["molecule","another"] (Eb K):=by
 have GM:=@KO P w K mg base t T;have GG:=@Lr P w K mg base t T;have GW:=@Qg P w K mg base t T;have GA:=@Sk P w K mg base t T;obtain ⟨tk0,g0⟩:=T.tT;obtain ⟨Q0,g1⟩:=T.rV;refine T.nu.ok r8 (fun vs H Q E h=>?_) (fun cdv A outer s H vs Q E hr h=>?_)
 . obtain ⟨a,b,Bq,Br,rfl,_⟩:=h
   rfl
 . obtain ⟨a,b,Bq,Br,rfl,ha,hb,lp,lm,q7,Zi,m7,Zj,k⟩:=h
   have hr1:cU 1 _:=hr.mono (by decide);have IB:cU 5 _:=hr.mono (by decide);let E1:XK:=fun cls d H'=>cls=.ref t.aH/\∃ (dx:Addr) (u r p:Int),d=some dx/\qX H' dx u r p/\∀ H'' l,H'' l=some (.lst ([-5,u,r,p].map V.int))->Q (.ref l) H'';refine ⟨_,aq (OY (E:=E1) (Qr:=Q) (i:=4) ⟨rfl,rfl⟩ rfl r8.nd T.fF rfl T.qp rfl rfl rfl
       (fun pn Z c=>aq (aQ (i:=2) r8.nd rfl (Or.inl rfl) (bB GM hr rfl T.kG T.dR.kp T.kF .nil c (af (pv 0) (af (b9 rfl g0 (v:=.int 0) ⟨_,rfl⟩) ay))))
         (aE (aQ (i:=3) r8.nd rfl (Or.inl rfl) (bB GM hr rfl T.kG T.dR.kp T.kF .nil c (af (pv 1) (af (b9 rfl g1 (v:=.int 1) ⟨_,rfl⟩) ay))))))
       (fun ea=>aE (bC (JB GA ⟨hr1.dp,hr1.un⟩ rfl T.qo T.gc.kp T.qi (af (pv 4) ay)))) ?_)
     (aE (bC (bB GW hr1 rfl T.tL T.iG.kp T.tG .nil cZ (af (bB GG IB rfl T.oS T.f7.kp T.oN .nil cZ (af (pv 2) (af (pv 3) ay))) ay)))),?_⟩
   . rintro C' dx H1 ⟨rfl,dx',u,r,p,e,hf,k'⟩
     cases e;refine ⟨rfl,fun ea Zk=>?_⟩;refine ⟨_,rfl,ea,dx,u,r,p,rfl,ai,?_,k'⟩;show upd H1 ea _ dx=_;rw [ak (au hf Zk)];exact hf
   . refine ⟨fun v H' q=>q,?_⟩
     refine ⟨_,rfl,a,0,Bq,rfl,ha,lp,Zi,?_⟩;unfold vp at k;cases hp:Fk.judgeMol Bq with
     | error f=>
       rw [hp] at k;exact fun H' dx hf=>⟨rfl,dx,_,_,_,rfl,hf,k⟩
     | ok Mo=>
       rw [hp] at k;simp only at k;intro H1 g z y M gy em s1;refine ⟨_,rfl,b,1,Br,rfl,MR.same (xs:=vB Br) hb s1,lm,Zj,?_⟩;cases hm:Fk.judgeMol Br with
       | error f=>
         rw [hm] at k;exact fun H' dx hf=>⟨rfl,dx,_,_,_,rfl,hf,k⟩
       | ok No=>
         rw [hm] at k;intro H2 g2 z2 y2 M2 Am Zl s2;simp only at k;rw [em] at hp k;rw [Zl] at hm k;refine ⟨_,rfl,_,rfl,?_⟩;refine ⟨g,g2,z,z2,y,y2,_,_,rfl,(M.same s2).held,gy,M2.held,Am,SI hp q7,SI hm m7,fun a h=>h,fun a h=>h,fun H3 l h0 s3 nl ec j7 hl=>?_⟩;rw [ec] at k;refine ⟨l,JM.jN h0,rfl,hl,by rw [DW];omega,fun H' p' hp'=>k H' p' ?_⟩;rw [hp'];congr 4;unfold JM.jN;rw [List.length_map];rfl
end
theorem vX {l m:List Int} (h:∀ z ∈ l,0<=z/\z<=255) (hm:∀ z ∈ m,0<=z/\z<=255):PartNeutral.callOf [[8],l,m]=some (.common (bytesOf l) (bytesOf m)):=by
 show ((PartNeutral.bytes l).bind fun p=>(PartNeutral.bytes m).bind fun q=>some (FkP.Call.common p q))=_;rw [yP l h,yP m hm];rfl
theorem Ff (l m:List Int) (h:∀ z ∈ l,0<=z/\z<=255) (hm:∀ z ∈ m,0<=z/\z<=255):PyYqfkba.common l m=vp (bytesOf l) (bytesOf m) fun M N=>0::((Fk.common M N).length:Int)::nL (Fk.common M N):=by
 unfold PyYqfkba.common;rw [Vk (vX h hm)];refine (Ls _ _ _).trans ?_;congr 1;funext M N;show 0::PartNeutral.rowN (PartNeutral.ints (Fk.common M N))=_;unfold PartNeutral.rowN PartNeutral.ints nL;rw [List.length_map]
theorem Fg (l m:List Int) (h:∀ z ∈ l,0<=z/\z<=255) (hm:∀ z ∈ m,0<=z/\z<=255) (ha:PyYqfkba.common_asked l m=true):(((bytesOf l).getD 4 0).toNat<=7/\((bytesOf l).getD 5 0).toNat<=12)/\((bytesOf m).getD 4 0).toNat<=7/\((bytesOf m).getD 5 0).toNat<=12:=by
 have q:(PartNeutral.few (bytesOf l)&&(PartNeutral.few (bytesOf m)&&(PartNeutral.less7 (bytesOf l)&&PartNeutral.less7 (bytesOf m))))=true:=Ig (vX h hm) ha;rw [Bool.and_eq_true,Bool.and_eq_true,Bool.and_eq_true] at q;exact ⟨⟨of_decide_eq_true q.2.2.1,(KS q.1).2⟩,of_decide_eq_true q.2.2.2,(KS q.2.1).2⟩
end MP
structure PySem.W.Fast:Prop where
 (tw14589083658677421911 tw6898275896931490786 tw7880342212292946406 tw5790661592353374117 tw11231872758774987294 tw53373307004357180 tw15782667340965280743 tw4437206642880258580 tw9723393609115059628 tw15014168090745158875 tw4992628919529658432 tw2595651047778627965 tw10698563535690673466 tw2326548413684779543 tw4115012177252227470 tw2192063469820505684 tw13430292800159171216 tw5497830186452213338 tw2379411447388431392 tw7610712112936793252 tw3458322720893631794 tw16123320723175491776 tw8827491776026515770 tw16777722867000598419 tw102458193178929036 tw2889639118591831225 tw9315149537253973547 tw8669759088802213419 tw6661326394200266106 tw6410399492916403588 tw2593880400513696473 tw13324175601652030785 tw17266691170524607671 tw14107036155166965267 tw16756728723788081970 tw982100903595204214 tw16201773223464821801 tw16139997437941492323 tw10969989586794153439 tw4999533315767824333 tw4963626452913516596 tw12769250623165878866 tw10562306440731870339 tw12585380191867510817 tw4640869084504252578 tw14434607647328410769 tw18264399320807245627 tw15501479377277736715 tw10810383669933031788 tw11864874245985782187 tw1324751693971094784 tw2933385655957936188 tw2199674800474912138 tw12846514302860636168 tw441208092925702744 tw5125447011440466272 tw17354520672780093050 tw5331175040586849826 tw4267004288258141623 tw8822130232807650010 tw2980166333408077304 tw3715979971184773753 tw14666952947876888280 tw3781564593307138608 tw17074461132693945628 tw15380681094587097913 tw17687862732547554729 tw951192441997813789 tw7891820332613196112 tw689183035515744941 tw671570142436049414 tw7906789239648471684 tw17582458352858617768 tw2137892552915279507 tw14662653703551527912 tw12962989077941810171 tw14564163039237672283 tw7086727619524595225 tw11568162259556570425 tw11473278310509481325 tw1486907674745324185 tw9569844302144493497 tw1767815799897847774 tw18010282050317579668 tw12339732353918032682 tw2746835015802748464 tw9501228668054390749 tw4125696855028692065 tw10817009408797901414 tw15726298671504423161 tw17344130273819257939 tw4555004014890953607 tw5688771971241847592 tw3628367368043692314 tw3589534131479116947 tw11025342378042647519 tw15253851229830653946 tw3432803008347806246 tw7101208553877006051 tw13397969555023080650 tw2386059852825352378 tw13497487185505581654 tw16897101408722990972 tw4374985875616930976 tw8638446724171678435 tw17147302990447772677 tw662566834189131763 tw17480598170158893978 tw1689075051447426900 tw8438168816508516720 tw17611548503320005775 tw359990778289600704 tw2707005500948657015 tw7010503117050113470 tw5475680889000516786 tw12053232105900553486 tw4606215706995770537 tw11093795453527152881 tw10488497767941630554 tw7385949941592013215 tw16953653829646595764 tw11965790974015822638 tw12903512649610007978 tw12331599465790730848 tw16377261149743388660 tw11790617947409666703 tw16859953554715285618 tw11983917509821190427 tw15180021406022273196 tw17832570095206845729 tw16990501948138509011 tw6475348450741044178 tw17561770704630608183 tw17721842873946837907 tw652471023333945277 tw8142733745815467594 tw17943692883052717095 tw11919472559197689574 tw14805180592349503685 tw1334323066645617826 tw14957667534728430805 tw1480002126407703491 tw14816892943046407287 tw17514663408560567246 tw973019780209949149 tw4503855111803627558 tw3946821451851084381 tw1136408376555409144 tw11156430397233389397 tw15100824498923770368 tw9781560881604186969 tw12834516287068482546 tw10538174756758649709 tw18023135105388179465 tw17799798455170306244 tw12513607397251486717 tw2134758383729622953 tw519506636934158396 tw3282347290793059162 tw3852047407716786809 tw11361251218658141564 tw10176199092541613308 tw457849493698642669 tw9715360658230189939 tw18103092155030489228 tw7927853977332028866 tw15162254951597170314 tw575775290255246396 tw4758117023355099904 tw17500460874082636007 tw9012589637669407867 tw4869096452507871063 tw8994297019631209565 tw3162424913067809820 tw9102760558417482449 tw827631252330289018 tw6195540956099974913 tw5640429877018097300 tw1702950026902972286 tw11773551703191049411 tw6161680589633649880 tw10980437076286636790 tw4250703210947627566 tw9903134673467656377 tw9199655343379297514 tw7519493550882147267 tw9113930115143122897 tw923626398049243858 tw889376937269051581 tw16562993087732081963 tw15552382426308743237 tw10862310510213156895 tw17950588988447099874 tw9016846632006111265 tw8144017749893572055 tw627383680868708954 tw11746949434190280159 tw4072892626374135498 tw18052636763832866635 tw13613179104414834159 tw17975244898093682683 tw667252649970821880 tw2239262239490361888 tw8814282503056031371 tw2717938423111710002 tw13261893419411058286 tw4756166386081045814 tw3835026110984824895 tw3555464836526069953 tw4101558121167046498 tw8966298808321147188 tw10459009115887923199 tw17771997930690542286 tw5252383712564005905 tw9688528630611426597 tw6880041262017472464 tw9074214342548343574 tw18191142195351887253 tw15466382318736668880 tw487217777299306606 tw6338138342018876619 tw2925303841836354848 tw14248985985010158804 tw4122534265102921796 tw3981336430397083126 tw749525456868043886 tw13392698425485806730 tw8345280049208758941 tw10591402502788817061 tw17122142386698086062 tw14236958348863156866 tw4092138058411510032 tw4820762924071655348 tw5383391753634435592 tw3948945813942624712 tw14520715217139199624 tw6790513019888700900:True)
open PySem PySem.W PyProof.Rows
set_option maxRecDepth 100000 in
set_option maxHeartbeats 0 in
theorem PySem.Challenge.cw_moleculeparts_s08_common_holds : PySem.Challenge.rw_moleculeparts_s08_common.Holds := by
 w_on;k_headS;(case hw=>exact ⟨[.list [],.list []],by decide +kernel,by decide +kernel⟩)
 k_fillS
 refine L2.E8 (r:=PySem.Challenge.rw_moleculeparts_s08_common) (k:=11) (CX:=L2.mr) (ps:=["molecule","another"]) (sp:=MP.Eb) (by decide +kernel) rfl rfl ⟨rfl,by decide,by decide⟩ (fun w h Y=>PySem.W.kIn_of Y) ?F ?S (fun _ _ _ _ z=>z)
 case F=>
  intro w mg fa h Y KX G hmg;suffices TT:∃ (f:Addr) (t:MP.Ad),t.iR=f/\MP.Txt _ mg t by
   obtain ⟨f,t,e,T⟩:=TT;have e2:=hmg.symm.trans T.CK;cases e2;refine ⟨t.nh,fun s us hu=>?_,fun base _ _=>MP.Iw T⟩;obtain ⟨oc,od,kV,doc,pm,an,cdv,ct,osl,ed,lk,hcd⟩:=T.nu.ex;rw [ed];exact match us,hu with | [_,_],_=>.of_eq rfl
  refine' ⟨_,?TT⟩;rotate_left;refine' MP.OZ KX G ?_ ?_ ?_ ?_ ?_ ?_ ?_ ?_ ?_ ?_ ?_ ?_ ?_ ?_ ?_ ?_ ?_ ?_ ?_ ?_ ?_ ?_ ?_ ?_ ?_ ?_ ?_ ?_ ?_ ?_ ?_ ?_ ?_ ?_ ?_ ?_ ?_ ?_ ?_ ?_ ?_ ?_ ?_ ?_ ?_ ?_ ?_ ?_ ?_ ?_ ?_ ?_ ?_ ?_ ?_ ?_ ?_ ?_ ?_ ?_ ?_ ?_ ?_ ?_ ?_ ?_ ?_ ?_ ?_ ?_ ?_ ?_ ?_ ?_ ?_ ?_ ?_ ?_ ?_ ?_ ?_ ?_ ?_ ?_ ?_ ?_ ?_ ?_ ?_ ?_ ?_ ?_ ?_ ?_ ?_ ?_ ?_ ?_ ?_ ?_ ?_ ?_ ?_ ?_ ?_ ?_ ?_ ?_ ?_ ?_ ?_ ?_ ?_ ?_ ?_ ?_ ?_ ?_ ?_ ?_ ?_ ?_ ?_ ?_ ?_ ?_ ?_ ?_ ?_ ?_ ?_ ?_ ?_ ?_ ?_ ?_ ?_ ?_ ?_ ?_ ?_ ?_ ?_ ?_ ?_ ?_ ?_ ?_ ?_ ?_ ?_ ?_ ?_ ?_ ?_ ?_ ?_ ?_ ?_ ?_ ?_ ?_ ?_ ?_ ?_ ?_ ?_ ?_ ?_ ?_ ?_ ?_ ?_ ?_ ?_ ?_ ?_ ?_ ?_ ?_ ?_ ?_ ?_ ?_ ?_ ?_ ?_ ?_ ?_ ?_ ?_ ?_ ?_ ?_ ?_ ?_ ?_ ?_ ?_ ?_ ?_ ?_ ?_ ?_ ?_ ?_ ?_ ?_ ?_ ?_ ?_ ?_ ?_ ?_ ?_ ?_ ?ow
  all_goals first | k_is | (apply MP.b4.mk<;>k_is) | skip
  (case ow=>(rw [<- Array.all_toList];rfl))
 case S=>
  intro K H xs a hO hwi V0 hx;cases hx with
  | cons h1 h2=>
   cases h2 with
   | cons h3 h4=>
    cases h4;cases h1 with
    | lst hs ha=>
     cases h3 with
     | lst hs2 ha2=>
      have e:=L2.AB a.1 _ ha;subst e;have e2:=L2.AB a.2.1 _ ha2;subst e2;have q:((Codec.inLen 0 6000 a.1&&a.1.all (Codec.inInt 0 255))&&((Codec.inLen 0 6000 a.2.1&&a.2.1.all (Codec.inInt 0 255))&&true))=true:=hwi;rw [Bool.and_eq_true,Bool.and_eq_true,Bool.and_eq_true,Bool.and_eq_true,List.all_eq_true,List.all_eq_true] at q;have Nt:∀ z ∈ a.1,0<=z/\z<=255:=fun z hz=>Codec.inInt_iff.mp (q.1.2 z hz);have Qp:∀ z ∈ a.2.1,0<=z/\z<=255:=fun z hz=>Codec.inInt_iff.mp (q.2.1.2 z hz);have hlen:=(Codec.inNat_iff.mp q.1.1).2;have hlen2:=(Codec.inNat_iff.mp q.2.1.1).2;rw [MP.KQ a.1 Nt] at hs;rw [MP.KQ a.2.1 Qp] at hs2;have few:=MP.Fg a.1 a.2.1 Nt Qp V0;refine ⟨_,_,MP.bytesOf a.1,MP.bytesOf a.2.1,rfl,MP.KP hO hs,MP.KP hO hs2,by rw [MP.vV];exact hlen,by rw [MP.vV];exact hlen2,few.1.1,few.1.2,few.2.1,few.2.2,fun H' p hp=>?_⟩;have due:Codec.app PySem.Challenge.rw_moleculeparts_s08_common.args PySem.Challenge.rw_moleculeparts_s08_common.f a=MP.vp (MP.bytesOf a.1) (MP.bytesOf a.2.1) fun M N=>0::((Fk.common M N).length:Int)::MP.nL (Fk.common M N):=MP.Ff a.1 a.2.1 Nt Qp;rw [due];exact .lst (L2.c8.of hp) (L2.F9 _)
#print axioms PySem.Challenge.cw_moleculeparts_s08_common_holds
