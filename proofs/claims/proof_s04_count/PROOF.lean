import PyProof.Rows.All
import Wide.All
import OpenK.AllK
import Wide.FinOn
import PyProof.EqAt
import PyProof.EqKinds
import PyProof.TupleCall
import KE.BitLaws
import Open.SpecLaws
import KE.OsHead
import KE.OsGo
import PyProof.StationsW
import PyProof.RulesAs
import PyProof.PassesOwn
import PyProof.ExcClass
import PyProof.InstStoreFacts
import PyProof.InstLoad
import PyProof.ExcArgsOwn
import PyProof.ExcAttrAll.Exception
import PyProof.ExcBaseAll.Exception
import PyProof.ExcInit
import KE.KDictLaws
import KE.KDictList
import KE.KMinBuiltin
import PyProof.Rows.CallKwBuiltin
import PySem.Challenge.RW_moleculeparts_s04_count
set_option Elab.async false
set_option linter.all false
set_option maxRecDepth 100000
set_option maxHeartbeats 4000000
abbrev Zqq:=PySem.W.Frag
namespace L2
open PySem PySem.Spec PyProof.Rows
abbrev Key:=Sum Int Str
def C0:Key->Value->Bool
 | .inl k,v=>Value.isInt k v
 | .inr x,v=>Value.isStrOf x v
def abt (w:World):Key->Int
 | .inl k=>hashInt k
 | .inr x=>hashStr w x
theorem gH:∀ {k:Key} {v:Value},C0 k v=true->(∃ i t,k=Sum.inl i/\v=Value.int i t)\/(∃ x t,k=Sum.inr x/\v=Value.str x t)
 | .inl i,v,h=>by
  obtain ⟨t,e⟩:=Value.isInt_shape (k:=i) (v:=v) h
  exact .inl ⟨i,t,rfl,e⟩
 | .inr x,v,h=>by
  obtain ⟨t,e⟩:=Value.isStrOf_shape (x:=x) (v:=v) h
  exact .inr ⟨x,t,rfl,e⟩
theorem Pw (i:Int) (t:Tok):C0 (.inl i) (.int i t)=true:=by simp [C0,Value.isInt]
theorem Px (x:Str) (t:Tok):C0 (.inr x) (.str x t)=true:=by simp [C0,Value.isStrOf]
theorem Yb (a b:Int):decide ((Sum.inl a:Key)=Sum.inl b)=(a==b):=by
 by_cases e:a=b
 . subst e;simp
 . have h:¬ (Sum.inl a:Key)=Sum.inl b:=fun q=>e (Sum.inl.inj q)
   rw [decide_eq_false h];exact (beq_eq_false_iff_ne.mpr e).symm
theorem Yc (a b:Str):decide ((Sum.inr a:Key)=Sum.inr b)=decide (a=b):=by
 by_cases e:a=b
 . subst e;simp
 . have h:¬ (Sum.inr a:Key)=Sum.inr b:=fun q=>e (Sum.inr.inj q)
   rw [decide_eq_false h,decide_eq_false e]
theorem Yd (a:Int) (b:Str):decide ((Sum.inl a:Key)=Sum.inr b)=false:=decide_eq_false (fun q=>nomatch q)
theorem Ye (a:Str) (b:Int):decide ((Sum.inr a:Key)=Sum.inl b)=false:=decide_eq_false (fun q=>nomatch q)
def fL (prog:Program) (w:World):PySem.KeyKind prog w Key where
 is:=C0
 hash:=abt w
 inj:=fun v a b ha hb=>by
   rcases gH ha with ⟨i,t,rfl,rfl⟩ | ⟨x,t,rfl,rfl⟩
   . rcases gH hb with ⟨j,u,rfl,e⟩ | ⟨y,u,rfl,e⟩
     . injection e with e1 _;rw [e1]
     . exact nomatch e
   . rcases gH hb with ⟨j,u,rfl,e⟩ | ⟨y,u,rfl,e⟩
     . exact nomatch e
     . injection e with e1 _;rw [e1]
 byValue:=fun k v h=>by
   rcases gH h with ⟨i,t,rfl,rfl⟩ | ⟨x,t,rfl,rfl⟩<;>rfl
 pyHash:=fun hv h=>by
   rcases gH hv with ⟨i,t,rfl,rfl⟩ | ⟨x,t,rfl,rfl⟩
   . exact wpAny_pyHash_int h
   . exact wpAny_pyHash_str h
 eqBool:=fun hu hv h=>by
   rcases gH hu with ⟨i,t,rfl,rfl⟩ | ⟨x,t,rfl,rfl⟩
   . rcases gH hv with ⟨j,u,rfl,rfl⟩ | ⟨y,u,rfl,rfl⟩
     . rw [Yb] at h;exact wpAny_eqBool_int h
     . rw [Yd] at h;exact SeqAt.EqAt.int_str i t y u _ _ _ _ h
   . rcases gH hv with ⟨j,u,rfl,rfl⟩ | ⟨y,u,rfl,rfl⟩
     . rw [Ye] at h;exact SeqAt.EqAt.str_int x t j u _ _ _ _ h
     . rw [Yc] at h;exact wpAny_eqBool_str h
 «strs»:=fun k x t v h=>by
   rcases gH h with ⟨i,u,rfl,e⟩ | ⟨y,u,rfl,e⟩
   . exact nomatch e
   . injection e with e1 _
     subst e1
     cases v<;>rfl
theorem KA (prog:Program) (w:World) (i:Int) (t:Tok):(fL prog w).is (.inl i) (.int i t)=true:=Pw i t
theorem KC (prog:Program) (w:World) (x:Str) (t:Tok):(fL prog w).is (.inr x) (.str x t)=true:=Px x t
end L2
namespace L2
open PySem PySem.Spec PyProof.Rows
inductive V where
 | non | bl (b:Bool) | int (i:Int) | str (x:Str) | Iw (b:Array UInt8) | Vo (b:UInt64) | ref (a:Addr) | ty (n:String)
 deriving DecidableEq
def RelV:V->Value->Prop
 | .non,u=>u=Value.none
 | .bl b,u=>u=Value.bool b
 | .int i,u=>∃ t,u=Value.int i t
 | .str x,u=>∃ t,u=Value.str x t
 | .Iw b,u=>∃ t,u=Value.bytes b t
 | .Vo b,u=>∃ t,u=Value.float b t
 | .ref a,u=>u=Value.ref a
 | .ty n,u=>u=Value.type n
abbrev Vals:List V->List Value->Prop:=Paired RelV
theorem Vals.length {xs:List V} {us:List Value} (r:Vals xs us):xs.length=us.length:=Paired.length r
theorem Vals.get:∀ {xs:List V} {us:List Value} {i:Nat} {x:V},Vals xs us->xs[i]?=some x->∃ u,us[i]?=some u/\RelV x u
 | _,_,_,_,.nil,e=>by simp at e
 | _,_,0,_,.cons r _,e=>by simp at e;subst e;exact ⟨_,rfl,r⟩
 | _,_,i+1,x,.cons _ t,e=>by
  obtain ⟨u,h1,h2⟩:=Vals.get (i:=i) (x:=x) t (by simpa using e)
  exact ⟨u,by simpa using h1,h2⟩
theorem Vals.set {x:V} {u:Value} (r:RelV x u):∀ {xs:List V} {us:List Value} (i:Nat),Vals xs us->Vals (xs.set i x) (us.set i u)
 | _,_,_,.nil=>.nil
 | _,_,0,.cons _ t=>.cons r t
 | _,_,i+1,.cons q t=>.cons q (Vals.set r i t)
theorem Vals.append:∀ {xs ys:List V} {us ws:List Value},Vals xs us->Vals ys ws->Vals (xs++ys) (us++ws)
 | _,_,_,_,.nil,s=>s
 | _,_,_,_,.cons r t,s=>.cons r (Vals.append t s)
theorem Vals.take:∀ {xs:List V} {us:List Value} (n:Nat),Vals xs us->Vals (xs.take n) (us.take n)
 | _,_,0,_=>.nil
 | _,_,_+1,.nil=>.nil
 | _,_,n+1,.cons r t=>.cons r (Vals.take n t)
theorem Vals.drop:∀ {xs:List V} {us:List Value} (n:Nat),Vals xs us->Vals (xs.drop n) (us.drop n)
 | _,_,0,r=>r
 | _,_,_+1,.nil=>.nil
 | _,_,n+1,.cons _ t=>Vals.drop n t
def sO:Option V->Option Value->Prop
 | some v,some u=>RelV v u
 | none,none=>True
 | _,_=>False
def KV {κ:Type}:List (κ×V)->List (κ×Value)->Prop:=Paired fun (p:κ×V) (q:κ×Value)=>p.1=q.1/\RelV p.2 q.2
def kV:Key->V
 | .inl i=>.int i
 | .inr x=>.str x
inductive HO where
 | lst (xs:List V)
 | tup (xs:List V)
 | dK (kvs:List (Key×V)) | dT (kvs:List (List Key×V))
 | set (S:Int->Bool) (n:Nat)
 | ins (C dx:Addr) (fs:List (Str×V))
 | own (x:Addr)
 | xd (fs:List (Str×V))
 | met (f x:Addr)
 | Xp (lo hi:Int)
 | pZ (o:Obj) (u:HO)
 | Xq (ps:Array Value)
 | ext (φ:Heap->Prop)
abbrev Hp:=Addr->Option HO
def upd (H:Hp) (a:Addr) (o:HO):Hp:=fun b=>if b=a then some o else H b
theorem ai {H:Hp} {a:Addr} {o:HO}:upd H a o a=some o:=by unfold upd;rw [if_pos rfl]
theorem aq {H:Hp} {a b:Addr} {o:HO} (h:b ≠ a):upd H a o b=H b:=by unfold upd;rw [if_neg h]
theorem mW {H:Hp} {a:Addr} {o u:HO}:upd (upd H a o) a u=upd H a u:=by
 funext b;unfold upd;split<;>rfl
theorem mX {H:Hp} {a b:Addr} {o u:HO} (h:H a=some o) (h':H b=some u) (d:o ≠ u):a ≠ b:=by
 intro e;subst e;rw [h] at h';exact d (Option.some.inj h')
theorem ay {H:Hp} {a b:Addr} {o:HO} (h:H a=some o) (h':H b=none):a ≠ b:=by
 intro e;subst e;rw [h] at h';cases h'
section
variable (P:Program) (w:World)
def dY (H:Hp) (h:Heap) (a:Addr):HO->Prop
 | .lst xs=>xs.length<=sizeLine/\∃ (its:List Value) (n:Nat),Vals xs its/\h.get? a=some { cls:=.type "list",data:=.seq its.toArray n }
 | .tup xs=>xs.length<=sizeLine/\∃ its:List Value,Vals xs its/\IsTup h a its.toArray
 | .dK kvs=>kvs.length<=sizeLine/\(a==sysModules)=false/\∃ vs,KV kvs vs/\h.DictOf (fL P w) a vs
 | .dT kvs=>kvs.length<=sizeLine/\(a==sysModules)=false/\∃ xs:List (List Key×Addr×Value),
     Paired (fun (p:List Key×V) (q:List Key×Addr×Value)=>p.1=q.1/\H q.2.1=some (.tup (p.1.map kV))/\RelV p.2 q.2.2) kvs xs /\
     ∃ o es ep,h.get? a=some o/\o.ExactDict/\o.data=.dict es ep/\es.toList=xs.map (entryOfKey (tupleKind (fL P w)))/\(xs.map (·.1)).Nodup
 | .set S n=>h.SetOf (intKind P w) a S n
 | .ins C dx fs=>H dx=some (.own a)/\fs.length<=1000/\dx ≠ a/\h.get? a=some (PySem.W.instObj C dx) /\
     ∃ mA,h.Ns1 dx mA/\(∀ f,sO (fs.lookup f) (mA f))/\PySem.Within mA (fs.map (·.1))
 | .own _=>∃ o,h.get? a=some o
 | .xd fs=>∃ mA,h.Ns1 a mA/\∀ f,sO (fs.lookup f) (mA f)
 | .Xp lo hi=>∃ t u v,h.get? a=some { cls:=.type "range",data:=.fields #[.int lo t,.int hi u,.int 1 v] }
 | .pZ o u=>h.get? a=some o/\dY H h a u
 | .Xq ps=>h.get? a=some { cls:=.none,data:=.fields ps }
 | .met f x=>h.get? a=some (PySem.W.methodObj (.ref f) (.ref x))
 | .ext φ=>φ h/\(∃ o,h.get? a=some o)/\∀ h1 h2:Heap,φ h1->(∀ o,h1.get? a=some o->h2.get? a=some o)->φ h2
def vS (H:Hp) (h:Heap):Prop:=∀ a o,H a=some o->dY P w H h a o
end
section
variable {P:Program} {w:World} {H H':Hp} {h h':Heap} {a:Addr} {o:HO}
theorem dY.lt (x:dY P w H h a o):a < h.objs.size:=by
 cases o with
 | lst xs=>obtain ⟨_,_,_,_,e⟩:=x;exact Heap.lt_size e
 | tup xs=>obtain ⟨_,_,_,p⟩:=x;exact p.lt
 | dK kvs=>obtain ⟨_,_,_,_,o,_,_,e,_⟩:=x;exact Heap.lt_size e
 | dT kvs=>obtain ⟨_,_,_,_,o,_,_,e,_⟩:=x;exact Heap.lt_size e
 | set S n=>obtain ⟨o,_,_,_,e,_⟩:=x;exact Heap.lt_size e
 | ins C dx fs=>obtain ⟨_,_,_,e,_⟩:=x;exact Heap.lt_size e
 | own y=>obtain ⟨_,e⟩:=x;exact Heap.lt_size e
 | xd fs=>obtain ⟨_,⟨_,_,_,e,_⟩,_⟩:=x;exact Heap.lt_size e
 | Xp lo hi=>obtain ⟨_,_,_,e⟩:=x;exact Heap.lt_size e
 | pZ ob u=>obtain ⟨e,_⟩:=x;exact Heap.lt_size e
 | Xq ps=>exact Heap.lt_size (show h.get? a=some _ from x)
 | met f y=>exact Heap.lt_size (show h.get? a=some _ from x)
 | ext φ=>obtain ⟨_,⟨_,e⟩,_⟩:=x;exact Heap.lt_size e
theorem Paired.Yg {α β:Type} {F G:α->β->Prop}:∀ {l₁:List α} {l₂:List β},Paired F l₁ l₂->(∀ a b,F a b->G a b)->Paired G l₁ l₂
 | _,_,.nil,_=>.nil
 | _,_,.cons r t,f=>.cons (f _ _ r) (Paired.Yg t f)
theorem dY.stay (x:dY P w H h a o) (k:∀ b u,(b=a\/H b=some (.own a))->h.get? b=some u->h'.get? b=some u)
  (ho:∀ b,H b=some (.own a)->H' b=some (.own a)) (ht:∀ b xs,H b=some (.tup xs)->H' b=some (.tup xs)):dY P w H' h' a o:=by
 induction o with
 | lst xs=>obtain ⟨z,its,n,r,e⟩:=x;exact ⟨z,its,n,r,k _ _ (.inl rfl) e⟩
 | tup xs=>obtain ⟨z,its,r,ob,e,c⟩:=x;exact ⟨z,its,r,ob,k _ _ (.inl rfl) e,c⟩
 | dK kvs=>obtain ⟨z,y,vs,r,ob,es,ep,e,c⟩:=x;exact ⟨z,y,vs,r,ob,es,ep,k _ _ (.inl rfl) e,c⟩
 | dT kvs=>
  obtain ⟨z,y,xs,r,ob,es,ep,e,c⟩:=x;exact ⟨z,y,xs,Paired.Yg r fun p q z=>⟨z.1,ht _ _ z.2.1,z.2.2⟩,ob,es,ep,k _ _ (.inl rfl) e,c⟩
 | set S n=>obtain ⟨ob,es,ep,t,e,c⟩:=x;exact ⟨ob,es,ep,t,k _ _ (.inl rfl) e,c⟩
 | ins C dx fs=>
  obtain ⟨d,z,ne,e,mA,⟨od,es,ep,e2,c⟩,r⟩:=x;exact ⟨ho _ d,z,ne,k _ _ (.inl rfl) e,mA,⟨od,es,ep,k _ _ (.inr d) e2,c⟩,r⟩
 | own y=>obtain ⟨ob,e⟩:=x;exact ⟨ob,k _ _ (.inl rfl) e⟩
 | xd fs=>obtain ⟨mA,⟨od,es,ep,e,c⟩,r⟩:=x;exact ⟨mA,⟨od,es,ep,k _ _ (.inl rfl) e,c⟩,r⟩
 | Xp lo hi=>obtain ⟨t,u,v,e⟩:=x;exact ⟨t,u,v,k _ _ (.inl rfl) e⟩
 | pZ ob u ih=>obtain ⟨e,q⟩:=x;exact ⟨k _ _ (.inl rfl) e,ih q⟩
 | Xq ps=>
  have e:h.get? a=some { cls:=.none,data:=.fields ps }:=x;show h'.get? a=some { cls:=.none,data:=.fields ps };exact k a _ (.inl rfl) e
 | met f y=>
  have e:h.get? a=some (PySem.W.methodObj (.ref f) (.ref y)):=x;show h'.get? a=some (PySem.W.methodObj (.ref f) (.ref y));exact k a _ (.inl rfl) e
 | ext φ=>obtain ⟨p,⟨o,e⟩,st⟩:=x;exact ⟨st _ _ p fun o q=>k _ _ (.inl rfl) q,⟨o,k _ _ (.inl rfl) e⟩,st⟩
theorem vS.lt (x:vS P w H h) (e:H a=some o):a < h.objs.size:=(x a o e).lt
theorem vS.fresh (x:vS P w H h) (e:h.objs.size<=a):H a=none:=by
 cases q:H a with
 | none=>rfl
 | some u=>exact absurd (Nat.lt_of_lt_of_le (x.lt q) e) (Nat.lt_irrefl _)
theorem vS.kept (x:vS P w H h) (k:∀ b u,h.get? b=some u->h'.get? b=some u):vS P w H h':=fun a o e=>
 (x a o e).stay (fun b u _ q=>k b u q) (fun _ q=>q) fun _ _ q=>q
theorem vS.laid (x:vS P w H h) (k:∀ b u,h.get? b=some u->h'.get? b=some u) (hp:h.objs.size<=a) (new:dY P w (upd H a o) h' a o):vS P w (upd H a o) h':=fun b u e=>by
 have hn:=x.fresh hp
 by_cases hb:b=a
 . subst hb;rw [ai] at e;cases e;exact new
 . rw [aq hb] at e
   exact (x b u e).stay (fun c v _ q=>k c v q) (fun c q=>by rw [aq (ay q hn)];exact q) fun c xs q=>by rw [aq (ay q hn)];exact q
end
def Rd (H:Hp) (a:Addr) (u:HO):Prop:=H a=some u\/∃ o,H a=some (.pZ o u)
theorem Rd.ok {P:Program} {w:World} {H:Hp} {h:Heap} {a:Addr} {u:HO} (r:Rd H a u) (x:vS P w H h):dY P w H h a u:=by
 rcases r with r | ⟨o,r⟩
 . exact x a u r
 . obtain ⟨_,q⟩:=x a _ r
   exact q
def Xr:Option HO->Prop
 | some (.lst _)=>True
 | some (.dK _)=>True
 | some (.dT _)=>True
 | some (.set _ _)=>True
 | some (.ins _ _ _)=>True
 | some (.ext _)=>True
 | _=>False
section
variable {P:Program} {w:World} {H:Hp} {h h':Heap} {x e:Addr} {o':HO}
theorem vS.write (ok:vS P w H h) (mu:Xr (H x)) (he:e=x\/H e=some (.own x)) (k:∀ b u,b ≠ e->h.get? b=some u->h'.get? b=some u) (ZV:∃ u,h'.get? e=some u)
   (new:dY P w (upd H x o') h' x o'):vS P w (upd H x o') h':=fun b u q=>by
 have aaa:∀ c y,H c=some (.own y)->c ≠ x:=fun c y r z=>by subst z;rw [r] at mu;exact mu
 have abu:∀ c xs,H c=some (.tup xs)->c ≠ x:=fun c xs r z=>by subst z;rw [r] at mu;exact mu
 by_cases hb:b=x
 . subst hb;rw [ai] at q;cases q;exact new
 . rw [aq hb] at q
   by_cases Yh:b=e
   . have q':H b=some (.own x):=by
       rcases he with z | z
       . exact absurd (Yh.trans z) hb
       . rw [Yh];exact z
     rw [q] at q';cases q';obtain ⟨v,hv⟩:=ZV;exact ⟨v,by rw [Yh];exact hv⟩
   . refine (ok b u q).stay (fun c v hc r=>k c v ?_ r) (fun c r=>by rw [aq (aaa c b r)];exact r) fun c xs r=>by rw [aq (abu c xs r)];exact r
     rcases hc with rfl | hc
     . exact Yh
     . rintro rfl
       rcases he with z | z
       . exact aaa c b hc z
       . rw [hc] at z;cases z;exact hb rfl
end
structure Un (fs ex:List Addr) (H H':Hp) (h h':Heap):Prop where
 keep:∀ b o,h.get? b=some o->H b=none->b ∉ fs->b ∉ ex->h'.get? b=some o
 slot:∀ b o,h.get? b=some o->H b=none->b ∈ fs->b ∉ ex->∃ sl,h'.get? b=some { o with slots:=sl }
 free:∀ b o,h.get? b=some o->H b=none->b ∉ ex->H' b=none
 there:∀ b o,h.get? b=some o->b ∉ ex->∃ o',h'.get? b=some o'
 tups:∀ b xs,H b=some (.tup xs)->H' b=some (.tup xs)
 zj:∀ b o u,H b=some (.pZ o u)->H' b=some (.pZ o u)
 BC:∀ b ps,H b=some (.Xq ps)->∃ more,H' b=some (.Xq (ps++more))
section
variable {fs fs' ex ex':List Addr} {H H1 H2:Hp} {h h1 h2 h':Heap} {a x e:Addr} {o:HO}
theorem Un.any (u:Un fs ex H H1 h h1) {b:Addr} {ob:Obj} (q:h.get? b=some ob) (n:H b=none) (hx:b ∉ ex):∃ sl,h1.get? b=some { ob with slots:=sl }:=by
 by_cases hb:b ∈ fs
 . exact u.slot b ob q n hb hx
 . exact ⟨ob.slots,u.keep b ob q n hb hx⟩
theorem Un.kept (k:∀ b u,h.get? b=some u->h'.get? b=some u):Un fs ex H H h h':=
 ⟨fun b ob q _ _ _=>k b ob q,fun b ob q _ _ _=>⟨ob.slots,k b ob q⟩,fun _ _ _ n _=>n,fun b ob q _=>⟨ob,k b ob q⟩,fun _ _ q=>q,fun _ _ _ q=>q,fun _ ps q=>⟨#[],by rw [q];simp⟩⟩
theorem Un.refl:Un fs ex H H h h:=Un.kept fun _ _ q=>q
theorem Un.laid (k:∀ b u,h.get? b=some u->h'.get? b=some u) (hp:h.objs.size<=a) (hn:H a=none):Un fs ex H (upd H a o) h h' where
 keep:=fun b u q _ _ _=>k b u q
 slot:=fun b u q _ _ _=>⟨u.slots,k b u q⟩
 free:=fun b u q n _=>by rw [aq (Nat.ne_of_lt (Nat.lt_of_lt_of_le (Heap.lt_size q) hp))];exact n
 there:=fun b u q _=>⟨u,k b u q⟩
 tups:=fun b xs q=>by rw [aq (ay q hn)];exact q
 zj:=fun b u xs q=>by rw [aq (ay q hn)];exact q
 BC:=fun b ps q=>⟨#[],by rw [aq (ay q hn),q];simp⟩
theorem Un.write (mu:Xr (H x)) (he:e=x\/H e=some (.own x)) (k:∀ b u,b ≠ e->h.get? b=some u->h'.get? b=some u) (ZV:∃ u,h'.get? e=some u):Un fs ex H (upd H x o) h h':=by
 have hx:∀ b,H b=none->b ≠ x:=fun b n z=>by subst z;rw [n] at mu;exact mu
 have hb:∀ b,H b=none->b ≠ e:=fun b n z=>by
   subst z;rcases he with r | r
   . exact hx b n r
   . rw [n] at r;cases r
 have hm:∀ b u,H b=some u->¬ Xr (some u)->b ≠ x:=fun b u q nm z=>by subst z;rw [q] at mu;exact nm mu
 refine ⟨fun b u q n _ _=>k b u (hb b n) q,fun b u q n _ _=>⟨u.slots,k b u (hb b n) q⟩,fun b u q n _=>by rw [aq (hx b n)];exact n,fun b u q _=>?_,
   fun b xs q=>by rw [aq (hm b _ q fun z=>z)];exact q,fun b u xs q=>by rw [aq (hm b _ q fun z=>z)];exact q,fun b ps q=>⟨#[],by rw [aq (hm b _ q fun z=>z),q];simp⟩⟩
 by_cases Yh:b=e
 . subst Yh;exact ZV
 . exact ⟨u,k b u Yh q⟩
end
def trk (h:Heap) (H:Hp):List Addr:=(List.range h.objs.size).filter fun a=>(H a).isSome
def Iz (h:Heap) (H:Hp):Heap:=PySem.W.hideAll h (trk h H)
theorem Py (h:Heap) (H:Hp):(Iz h H).objs.size=h.objs.size:=PySem.W.hideAll_size _ _
theorem RL {h:Heap} {H:Hp} {b:Addr} {o:Obj} (e:h.get? b=some o) (n:H b=none):(Iz h H).get? b=some o:=
 PySem.W.hideAll_get _ e fun hm=>by
  have q:(H b).isSome=true:=(List.mem_filter.mp hm).2
  rw [n] at q;simp at q
theorem Vp {h:Heap} {H:Hp} {b:Addr} {o:Obj} (e:(Iz h H).get? b=some o):h.get? b=some o/\H b=none:=by
 have e':h.get? b=some o:=PySem.W.of_hideAll (trk h H) e;refine ⟨e',?_⟩;cases q:H b with
 | none=>rfl
 | some x=>
  have hm:b ∈ trk h H:=List.mem_filter.mpr ⟨List.mem_range.mpr (Heap.lt_size e'),by simp [q]⟩;have z:(Iz h H).get? b=none:=PySem.W.hideAll_none (trk h H) hm;rw [z] at e;cases e
end L2
namespace L2
open PySem PySem.Spec PyProof.Rows
structure Mod (K:Zqq) (mg:Str->Option Value) (base:Heap):Prop where
 kin:K.In base
 glob:base.Ns mainGlobals mg
 blt:∃ mb,base.Ns builtinsNs mb/\∀ x:Str,x ≠ "__name__"->mb x=bootBuiltins x
 nolimit:base.NoLimit
structure Cx where
 prog:Program
 w:World
 K:Zqq
 mg:Str->Option Value
 base:Heap
 A:Around
 N:List Str
 BB:Shared
 Yi:Hp
 env:Env
 outer:List Env
 stack:List Env
 ex:List Addr
 fn:Str->Bool
 calm:Bool
 pn:List (Addr×Obj)
 xe:Value->Shared->Prop
def frs (l:List Env):List Addr:=l.filterMap (·.frame)
abbrev Cx.fs (X:Cx):List Addr:=frs X.outer
def Yj (sc:Scope) (x:Str):Prop:=sc.names.lookup x=some .local\/sc.names.lookup x=some .cell\/sc.names.lookup x=some .free
def Loc (sc:Scope) (x:Str):Prop:=sc.names.lookup x=some .local\/sc.names.lookup x=some .cell
def Look (env:Env) (h:Heap) (m:Str->Option Value) (x:Str) (u:Value):Prop:=
 (env.kindOf x=some .local/\m x=some u)\/((env.kindOf x=some .cell\/env.kindOf x=some .free)/\∃ c,env.cells.lookup x=some c/\h.IsCell c (some u))
structure Cx.Ok (X:Cx):Prop where
 mod:Mod X.K X.mg X.base
 kind:X.env.scope.kind=.function
 glob:X.env.globals=mainGlobals
 blt:X.env.builtins=builtinsNs
 above:X.BB.heap.objs.size<=X.env.locals
 inj:∀ x y c,X.env.cells.lookup x=some c->X.env.cells.lookup y=some c->x=y
 has:∀ x,(X.env.kindOf x=some .cell\/X.env.kindOf x=some .free)->∃ c,X.env.cells.lookup x=some c
 Xs:∀ x c,X.fn x=true->X.env.cells.lookup x=some c->X.BB.heap.objs.size<=c
 hd:X.calm=true->X.A.handled=none
 frames:X.A.frames=some X.stack
 Vq:X.stack=X.outer\/(X.stack=X.env::X.outer/\X.env.frame=some X.env.locals)
 Yk:∀ b ∈ X.ex,b ≠ X.env.locals/\∀ x c,X.env.cells.lookup x=some c->c ≠ b
 bs:∀ b o,X.base.get? b=some o->X.BB.heap.get? b=some o/\X.Yi b=none
 Pz:X.base.objs.size<=X.BB.heap.objs.size
 KD:∀ b o,X.base.get? b=some o->b ∉ X.ex
 KG:∀ b ∈ X.ex,b ∉ X.fs
 yQ:X.BB.heap.FunFrames X.base X.outer
 RM:∀ b ∈ X.fs,X.Yi b=none
structure Inv (X:Cx) (pins:List (Addr×Obj)) (σ:List (Option V)) (H:Hp) (s:Shared):Prop where
 ok:X.Ok
 os:s.os=X.BB.os
 bare:AllBare s.gens
 base:Un X.fs X.ex X.Yi H X.BB.heap s.heap
 loc:∃ m,s.heap.Ns X.env.locals m/\∀ (i:Nat) (x:Str) (v:V),X.N[i]?=some x->σ[i]?=some (some v)->Yj X.env.scope x->∃ u,RelV v u/\Look X.env s.heap m x u
 cell:∀ x c,X.env.cells.lookup x=some c->∃ v,s.heap.IsCell c v
 free:H X.env.locals=none
 kJ:∀ x c,X.env.cells.lookup x=some c->H c=none
 pin:∀ p ∈ X.pn++pins,s.heap.get? p.1=some p.2/\H p.1=none/\p.1 ≠ X.env.locals/\p.1 ∉ X.fs/\∀ v,p.2.data ≠ .cell v
 hok:vS X.prog X.w H s.heap
 len:σ.length=X.N.length
section
variable {X:Cx} {pins:List (Addr×Obj)} {σ:List (Option V)} {H H':Hp} {s:Shared} {h':Heap}
theorem Cx.Ok.abv (ok:X.Ok) {b:Addr} {o:Obj} (e:X.base.get? b=some o):b ∉ X.fs:=fun hb=>by
 have:=(ok.yQ.mem hb).1
 rw [e] at this;cases this
theorem Inv.bs (I:Inv X pins σ H s):∀ b o,X.base.get? b=some o->s.heap.get? b=some o/\H b=none:=fun b o e=>
 ⟨I.base.keep b o (I.ok.bs b o e).1 (I.ok.bs b o e).2 (I.ok.abv e) (I.ok.KD b o e),I.base.free b o (I.ok.bs b o e).1 (I.ok.bs b o e).2 (I.ok.KD b o e)⟩
theorem Inv.bk (I:Inv X pins σ H s):∀ b o,X.base.get? b=some o->s.heap.get? b=some o:=fun b o e=>(I.bs b o e).1
theorem Inv.mod (I:Inv X pins σ H s):Mod X.K X.mg X.base:=I.ok.mod
theorem Inv.zk (I:Inv X pins σ H s):X.K.In s.heap:=I.ok.mod.kin.keeps I.bk
theorem Inv.lt (I:Inv X pins σ H s):X.env.locals < s.heap.objs.size:=let ⟨_,hn,_⟩:=I.loc;hn.lt
theorem Inv.sz (I:Inv X pins σ H s):X.BB.heap.objs.size<=s.heap.objs.size:=Nat.le_trans I.ok.above (Nat.le_of_lt I.lt)
theorem Inv.abw (I:Inv X pins σ H s) {a:Addr} (h:s.heap.objs.size<=a):a ∉ X.fs:=fun hb=>by
 obtain ⟨_,o,ho,_⟩:=I.ok.yQ.mem hb
 exact absurd (Nat.lt_of_lt_of_le (Heap.lt_size ho) (Nat.le_trans I.sz h)) (Nat.lt_irrefl _)
theorem Inv.Vk (I:Inv X pins σ H s):∀ x c,X.env.cells.lookup x=some c->c ≠ X.env.locals:=fun x c e z=>by
 obtain ⟨v,o,ho,hd⟩:=I.cell x c e
 obtain ⟨m,⟨o',es,ep,ho',hd',_⟩,_⟩:=I.loc
 rw [z,ho'] at ho;cases ho;rw [hd'] at hd;cases hd
theorem Inv.yQ (I:Inv X pins σ H s):s.heap.FunFrames X.base X.outer:=by
 have all:∀ (l:List Env),(∀ b ∈ frs l,b ∈ X.fs)->X.BB.heap.FunFrames X.base l->s.heap.FunFrames X.base l:=by
  intro l;induction l with
  | nil=>intro _ _;trivial
  | cons env r ih=>
   intro hs hl;obtain ⟨hk,⟨L,o,hf,hn,ho,hd⟩,hr⟩:=hl;have hL:L ∈ X.fs:=hs L (by unfold frs;rw [List.filterMap_cons,hf];exact List.mem_cons_self);obtain ⟨sl,e⟩:=I.base.slot L o ho (I.ok.RM L hL) hL fun z=>I.ok.KG L z hL;exact ⟨hk,⟨L,_,hf,hn,e,hd⟩,ih (fun b hb=>hs b (by unfold frs;rw [List.filterMap_cons,hf];exact List.mem_cons_of_mem _ hb)) hr⟩
 exact all X.outer (fun _ hb=>hb) I.ok.yQ
theorem Inv.stack (I:Inv X pins σ H s):s.heap.FunFrames X.base X.stack:=by
 rcases I.ok.Vq with e | ⟨e,hf⟩
 . rw [e];exact I.yQ
 . rw [e]
   obtain ⟨m,hn,_⟩:=I.loc;refine .cons (by rw [I.ok.kind];decide) hf hn ?_ I.yQ;exact Heap.get?_none_of_le (Nat.le_trans I.ok.Pz I.ok.above)
theorem Inv.Nb (I:Inv X pins σ H s):∀ b ∈ frs X.stack,b ∈ X.env.locals::X.fs:=fun b hb=>by
 rcases I.ok.Vq with e | ⟨e,hf⟩
 . rw [e] at hb;exact List.mem_cons_of_mem _ hb
 . rw [e] at hb
   unfold frs at hb
   rw [List.filterMap_cons,hf] at hb
   exact hb
theorem Inv.I0 (I:Inv X pins σ H s):∀ b ∈ frs X.stack,H b=none:=fun b hb=>by
 rcases List.mem_cons.mp (I.Nb b hb) with e | hb
 . rw [e];exact I.free
 . obtain ⟨_,o,ho,_⟩:=I.ok.yQ.mem hb
   exact I.base.free b o ho (I.ok.RM b hb) fun z=>I.ok.KG b z hb
theorem Inv.step {g':Array GenState} {t':Nat} {d':Drawn} {ch:List Addr} (I:Inv X pins σ H s)
   (hch:∀ b ∈ ch,(b ∈ X.ex\/X.BB.heap.objs.size<=b)/\b ≠ X.env.locals/\(∀ x c,X.env.cells.lookup x=some c->c ≠ b)/\∀ p ∈ X.pn++pins,p.1 ≠ b)
   (keep:∀ b o,b ≠ X.env.locals->b ∉ X.fs->b ∉ ch->s.heap.get? b=some o->H b=none->h'.get? b=some o)
   (slot:∀ b o,b ≠ X.env.locals->b ∈ X.fs->b ∉ ch->s.heap.get? b=some o->H b=none->∃ sl,h'.get? b=some { o with slots:=sl }) (free:∀ b o,b ∉ ch->s.heap.get? b=some o->H b=none->H' b=none)
   (there:∀ b o,b ∉ ch->s.heap.get? b=some o->∃ o',h'.get? b=some o')
   (tups:∀ b xs,H b=some (.tup xs)->H' b=some (.tup xs)) (zj:∀ b o u,H b=some (.pZ o u)->H' b=some (.pZ o u)) (BC:∀ b ps,H b=some (.Xq ps)->∃ more,H' b=some (.Xq (ps++more)))
   (ns:∀ m,s.heap.Ns X.env.locals m->h'.Ns X.env.locals m) (hok:vS X.prog X.w H' h') (hg:AllBare g') :
   Inv X pins σ H' { s with heap:=h',gens:=g',drawn:=d',toks:=t' }:=by
 have Vr:∀ b o,X.BB.heap.get? b=some o->b ≠ X.env.locals:=fun b o e=>Nat.ne_of_lt (Nat.lt_of_lt_of_le (Heap.lt_size e) I.ok.above);have Xu:∀ b o,X.BB.heap.get? b=some o->b ∉ X.ex->b ∉ ch:=fun b o e hx hb=>by
   rcases (hch b hb).1 with z | z
   . exact hx z
   . exact absurd (Nat.lt_of_lt_of_le (Heap.lt_size e) z) (Nat.lt_irrefl _)
 have cellK:∀ x c,X.env.cells.lookup x=some c->∀ v,s.heap.IsCell c v->h'.IsCell c v:=fun x c e v ⟨o,ho,hd⟩=>by
   have Xv:c ∉ ch:=fun z=>(hch c z).2.2.1 x c e rfl;by_cases hc:c ∈ X.fs
   . obtain ⟨sl,q⟩:=slot c o (I.Vk x c e) hc Xv ho (I.kJ x c e)
     exact ⟨_,q,hd⟩
   . exact ⟨o,keep c o (I.Vk x c e) hc Xv ho (I.kJ x c e),hd⟩
 refine ⟨I.ok,I.os,hg,⟨fun b o e n hb hx=>?_,fun b o e n hb hx=>?_,fun b o e n hx=>?_,fun b o e hx=>?_,fun b xs e=>tups b xs (I.base.tups b xs e),fun b o xs e=>zj b o xs (I.base.zj b o xs e),fun b ps e=>?_⟩,?_,fun x c e=>?_,?_,fun x c e=>?_,fun p hp=>?_,hok,I.len⟩
 . exact keep b o (Vr b o e) hb (Xu b o e hx) (I.base.keep b o e n hb hx) (I.base.free b o e n hx)
 . obtain ⟨sl,e1⟩:=I.base.slot b o e n hb hx
   obtain ⟨sl',e2⟩:=slot b _ (Vr b o e) hb (Xu b o e hx) e1 (I.base.free b o e n hx);exact ⟨sl',e2⟩
 . obtain ⟨o',e1⟩:=I.base.there b o e hx
   exact free b o' (Xu b o e hx) e1 (I.base.free b o e n hx)
 . obtain ⟨o',e1⟩:=I.base.there b o e hx
   exact there b o' (Xu b o e hx) e1
 . obtain ⟨m1,e1⟩:=I.base.BC b ps e
   obtain ⟨m2,e2⟩:=BC b _ e1;exact ⟨m1++m2,by rw [e2,Array.append_assoc]⟩
 . obtain ⟨m,hn,hl⟩:=I.loc
   refine ⟨m,ns m hn,fun i x v e1 e2 e3=>?_⟩;obtain ⟨u,r,l⟩:=hl i x v e1 e2 e3;refine ⟨u,r,?_⟩;rcases l with l | ⟨k,c,e,z⟩
   . exact .inl l
   . exact .inr ⟨k,c,e,cellK x c e _ z⟩
 . obtain ⟨v,z⟩:=I.cell x c e
   exact ⟨v,cellK x c e v z⟩
 . obtain ⟨m,⟨o,_,_,ho,_⟩,_⟩:=I.loc
   exact free _ o (fun z=>(hch _ z).2.1 rfl) ho I.free
 . obtain ⟨v,o,ho,hd⟩:=I.cell x c e
   exact free c o (fun z=>(hch c z).2.2.1 x c e rfl) ho (I.kJ x c e)
 . obtain ⟨e,n,ne,nf,d⟩:=I.pin p hp
   have Xv:p.1 ∉ ch:=fun z=>(hch p.1 z).2.2.2 p hp rfl;exact ⟨keep p.1 p.2 ne nf Xv e n,free p.1 p.2 Xv e n,ne,nf,d⟩
theorem Inv.un {t':Nat} (I:Inv X pins σ H s) (u:Un X.fs [] H H' s.heap h') (hok:vS X.prog X.w H' h'):Inv X pins σ H' { s with heap:=h',toks:=t' }:=by
 obtain ⟨m,⟨o,es,ep,ho,r⟩,_⟩:=id I.loc;obtain ⟨sl,hL⟩:=u.any ho I.free (by simp);exact I.step (g':=s.gens) (d':=s.drawn) (ch:=[]) (fun _ z=>nomatch z) (fun b o _ hb _ e n=>u.keep b o e n hb (by simp)) (fun b o _ hb _ e n=>u.slot b o e n hb (by simp)) (fun b o _ e n=>u.free b o e n (by simp)) (fun b o _ e=>u.there b o e (by simp)) u.tups u.zj u.BC (fun m' hm=>by
  obtain ⟨o',es',ep',ho',r'⟩:=hm;rw [ho] at ho';cases ho';exact ⟨_,es',ep',hL,r'⟩) hok I.bare
theorem Inv.call {g':Array GenState} {t':Nat} {d':Drawn} {ch:List Addr} (I:Inv X pins σ H s) (u:Un (frs X.stack) ch H H' s.heap h') (hok:vS X.prog X.w H' h') (hg:AllBare g')
  (hch:∀ b ∈ ch,(b ∈ X.ex\/X.BB.heap.objs.size<=b)/\b ≠ X.env.locals/\(∀ x c,X.env.cells.lookup x=some c->c ≠ b)/\∀ p ∈ X.pn++pins,p.1 ≠ b) :
  Inv X pins σ H' { s with heap:=h',gens:=g',drawn:=d',toks:=t' }:=by
 obtain ⟨m,⟨o,es,ep,ho,r⟩,_⟩:=id I.loc;obtain ⟨sl,hL⟩:=u.any ho I.free fun z=>(hch _ z).2.1 rfl;exact I.step (ch:=ch) hch (fun b o hL hb hc e n=>u.keep b o e n (fun z=>(List.mem_cons.mp (I.Nb b z)).elim hL hb) hc) (fun b o _ _ hc e n=>u.any e n hc) (fun b o hc e n=>u.free b o e n hc) (fun b o hc e=>u.there b o e hc) u.tups u.zj u.BC (fun m' hm=>by
  obtain ⟨o',es',ep',ho',r'⟩:=hm;rw [ho] at ho';cases ho';exact ⟨_,es',ep',hL,r'⟩) hok hg
theorem Inv.turned {t':Nat} {it:Addr} (I:Inv X pins σ H s) (k:∀ b o,b ≠ it->s.heap.get? b=some o->h'.get? b=some o) (hn:H it=none) (hL:it ≠ X.env.locals)
   (h1:it ∈ X.ex\/X.BB.heap.objs.size<=it) (h2:∀ x c,X.env.cells.lookup x=some c->c ≠ it) (h3:∀ p ∈ X.pn++pins,p.1 ≠ it):Inv X pins σ H { s with heap:=h',toks:=t' }:=by
 have nit:∀ b u,H b=some u->b ≠ it:=fun b u e z=>by rw [z,hn] at e;cases e
 refine I.step (g':=s.gens) (d':=s.drawn) (ch:=[it]) (fun b hb=>?_) (fun b o _ _ hc e _=>k b o (fun z=>hc (by simp [z])) e) (fun b o _ _ hc e _=>⟨o.slots,k b o (fun z=>hc (by simp [z])) e⟩) (fun _ _ _ _ n=>n)
   (fun b o hc e=>⟨o,k b o (fun z=>hc (by simp [z])) e⟩) (fun _ _ e=>e) (fun _ _ _ e=>e) (fun b ps e=>⟨#[],by rw [e];simp⟩) (fun m hm=>?_) (fun b u e=>?_) I.bare
 . have e:b=it:=by simpa using hb
   subst e;exact ⟨h1,hL,h2,h3⟩
 . obtain ⟨o,es,ep,ho,r⟩:=hm
   exact ⟨o,es,ep,k _ o (Ne.symm hL) ho,r⟩
 . refine (I.hok b u e).stay (fun c v hc q=>k c v ?_ q) (fun _ q=>q) fun _ _ q=>q
   rcases hc with z | z
   . rw [z];exact nit b u e
   . exact nit c _ z
theorem Inv.tok (I:Inv X pins σ H s) (t:Nat):Inv X pins σ H { s with toks:=t }:=I.un (h':=s.heap) (t':=t) Un.refl I.hok
theorem Inv.kept {t':Nat} (I:Inv X pins σ H s) (k:∀ b u,s.heap.get? b=some u->h'.get? b=some u):Inv X pins σ H { s with heap:=h',toks:=t' }:=I.un (Un.kept k) (I.hok.kept k)
theorem Inv.laid {a:Addr} {o:HO} {t':Nat} (I:Inv X pins σ H s) (k:∀ b u,s.heap.get? b=some u->h'.get? b=some u) (hp:s.heap.objs.size<=a) (new:dY X.prog X.w (upd H a o) h' a o) :
   Inv X pins σ (upd H a o) { s with heap:=h',toks:=t' }:=I.un (Un.laid k hp (I.hok.fresh hp)) (I.hok.laid k hp new)
theorem Inv.write {x e:Addr} {o:HO} {t':Nat} (I:Inv X pins σ H s) (mu:Xr (H x)) (he:e=x\/H e=some (.own x)) (k:∀ b u,b ≠ e->s.heap.get? b=some u->h'.get? b=some u) (ZV:∃ u,h'.get? e=some u)
   (new:dY X.prog X.w (upd H x o) h' x o):Inv X pins σ (upd H x o) { s with heap:=h',toks:=t' }:=I.un (Un.write mu he k ZV) (I.hok.write mu he k ZV new)
theorem Inv.weak {σ':List (Option V)} (I:Inv X pins σ H s) (hl:σ'.length=σ.length) (w:∀ (i:Nat) v,σ'[i]?=some (some v)->σ[i]?=some (some v)):Inv X pins σ' H s:=
 ⟨I.ok,I.os,I.bare,I.base,let ⟨m,hn,hl'⟩:=I.loc;⟨m,hn,fun i x v e1 e2 e3=>hl' i x v e1 (w i v e2) e3⟩,I.cell,I.free,I.kJ,I.pin,I.hok,hl.trans I.len⟩
theorem Inv.Ou {pins':List (Addr×Obj)} (I:Inv X pins σ H s) (h:∀ p ∈ pins',s.heap.get? p.1=some p.2/\H p.1=none/\p.1 ≠ X.env.locals/\p.1 ∉ X.fs/\∀ v,p.2.data ≠ .cell v):Inv X pins' σ H s:=
 ⟨I.ok,I.os,I.bare,I.base,I.loc,I.cell,I.free,I.kJ,fun p hp=>(List.mem_append.mp hp).elim (fun z=>I.pin p (List.mem_append_left _ z)) (h p),I.hok,I.len⟩
theorem DT {N:List Str} (hN:N.Nodup) {i j:Nat} {x:Str} (a:N[i]?=some x) (b:N[j]?=some x):i=j:=by
 obtain ⟨h1,e1⟩:=List.getElem?_eq_some_iff.mp a;obtain ⟨h2,e2⟩:=List.getElem?_eq_some_iff.mp b;exact (List.getElem_inj hN).mp (e1.trans e2.symm)
theorem BD {M:Model} {A:Around} {E:Value->Shared->Prop} {i:Nat} {x:Str} {v:V} {u:Value} {Q:Unit->Shared->Prop} (I:Inv X pins σ H s) (hN:X.N.Nodup) (hi:X.N[i]?=some x) (hx:Loc X.env.scope x) (r:RelV v u)
   (h:∀ s',Inv X pins (σ.set i (some v)) H s'->(∃ a,Heap.SameBut a s.heap s'.heap/\(a=X.env.locals\/X.env.cells.lookup x=some a))->Q () s') (hf:X.fn x=true\/X.env.scope.names.lookup x=some .local:=by first | exact .inl rfl | exact .inr rfl | assumption):wpAny M A (storeName X.env x u) Q E s:=by
 obtain ⟨m,hn,hl⟩:=id I.loc;have hcls:(X.env.scope.kind==.class||(X.env.scope.kind==.module&&X.env.locals != X.env.globals))=false:=by rw [I.ok.kind];rfl
 have hiσ:i < σ.length:=by rw [I.len];exact (List.getElem?_eq_some_iff.mp hi).1
 have Vk:=I.Vk;have tracked:∀ {a:Addr} {h':Heap},(∃ o,s.heap.get? a=some o/\H a=none)->Heap.SameBut a s.heap h'->vS X.prog X.w H h':=fun {a h'} ha hs b ob e=>by
   obtain ⟨_,_,hfree⟩:=ha;refine (I.hok b ob e).stay (fun c w' hc q=>(hs.2 c ?_).trans q) (fun _ q=>q) fun _ _ q=>q;rintro rfl;rcases hc with rfl | hc
   . rw [hfree] at e;cases e
   . rw [hfree] at hc;cases hc
 rcases hx with hk | hk
 . refine wpAny_storeName_local hk hn (fun h' hn' hs=>?_) hcls
   obtain ⟨oL,_,_,hoL,_⟩:=id hn;refine h _ ⟨I.ok,I.os,I.bare,⟨fun b o e n hb hx=>?_,fun b o e n hb hx=>?_,I.base.free,fun b o e hx=>?_,I.base.tups,I.base.zj,I.base.BC⟩,⟨_,hn',fun j y v' e1 e2 e3=>?_⟩,fun y c e=>?_,I.free,I.kJ,fun p hp=>?_,tracked ⟨oL,hoL,I.free⟩ hs,by simpa using I.len⟩ ⟨_,hs,.inl rfl⟩
   . exact (hs.2 b (Nat.ne_of_lt (Nat.lt_of_lt_of_le (Heap.lt_size e) I.ok.above))).trans (I.base.keep b o e n hb hx)
   . obtain ⟨sl,e1⟩:=I.base.slot b o e n hb hx
     exact ⟨sl,(hs.2 b (Nat.ne_of_lt (Nat.lt_of_lt_of_le (Heap.lt_size e) I.ok.above))).trans e1⟩
   . obtain ⟨o',e1⟩:=I.base.there b o e hx
     exact ⟨o',(hs.2 b (Nat.ne_of_lt (Nat.lt_of_lt_of_le (Heap.lt_size e) I.ok.above))).trans e1⟩
   . by_cases hj:j=i
     . subst hj
       rw [hi] at e1;cases e1;rw [List.getElem?_set_self hiσ] at e2;cases e2;exact ⟨u,r,.inl ⟨hk,by simp⟩⟩
     . rw [List.getElem?_set_ne (Ne.symm hj)] at e2
       obtain ⟨u',r',q⟩:=hl j y v' e1 e2 e3;refine ⟨u',r',?_⟩;rcases q with ⟨k,e⟩ | ⟨k,c,e,z⟩
       . refine .inl ⟨k,?_⟩
         have:y ≠ x:=fun e=>hj (DT hN e1 (e ▸ hi));simp [this,e]
       . exact .inr ⟨k,c,e,z.sameBut hs (Vk y c e)⟩
   . obtain ⟨w',z⟩:=I.cell y c e
     exact ⟨w',z.sameBut hs (Vk y c e)⟩
   . obtain ⟨e,n,ne,nf,d⟩:=I.pin p hp
     exact ⟨(hs.2 p.1 ne).trans e,n,ne,nf,d⟩
 . have hfn:X.fn x=true:=by
     rcases hf with z | z
     . exact z
     . rw [z] at hk;cases hk
   obtain ⟨c,hc⟩:=I.ok.has x (.inl hk);obtain ⟨w',z⟩:=I.cell x c hc;refine wpAny_storeName_cell I.ok.kind hk hc z (fun h' hc' hs=>?_);obtain ⟨oc,hoc,abx⟩:=id z;refine h { s with heap:=h' } ⟨I.ok,I.os,I.bare,⟨fun b o e n hb hx=>?_,fun b o e n hb hx=>?_,I.base.free,fun b o e hx=>?_,I.base.tups,I.base.zj,I.base.BC⟩,⟨m,hn.sameBut hs (Ne.symm (Vk x c hc)),fun j y v' e1 e2 e3=>?_⟩,fun y c' e=>?_,I.free,I.kJ,fun p hp=>?_,tracked ⟨oc,hoc,I.kJ x c hc⟩ hs,by simpa using I.len⟩ ⟨c,hs,.inr hc⟩
   . exact (hs.2 b (Nat.ne_of_lt (Nat.lt_of_lt_of_le (Heap.lt_size e) (I.ok.Xs x c hfn hc)))).trans (I.base.keep b o e n hb hx)
   . obtain ⟨sl,e1⟩:=I.base.slot b o e n hb hx
     exact ⟨sl,(hs.2 b (Nat.ne_of_lt (Nat.lt_of_lt_of_le (Heap.lt_size e) (I.ok.Xs x c hfn hc)))).trans e1⟩
   . obtain ⟨o',e1⟩:=I.base.there b o e hx
     exact ⟨o',(hs.2 b (Nat.ne_of_lt (Nat.lt_of_lt_of_le (Heap.lt_size e) (I.ok.Xs x c hfn hc)))).trans e1⟩
   . by_cases hj:j=i
     . subst hj
       rw [hi] at e1;cases e1;rw [List.getElem?_set_self hiσ] at e2;cases e2;exact ⟨u,r,.inr ⟨.inl hk,c,hc,hc'⟩⟩
     . rw [List.getElem?_set_ne (Ne.symm hj)] at e2
       obtain ⟨u',r',q⟩:=hl j y v' e1 e2 e3;refine ⟨u',r',?_⟩;rcases q with q | ⟨k,c',e,z'⟩
       . exact .inl q
       . refine .inr ⟨k,c',e,z'.sameBut hs ?_⟩
         rintro rfl;exact hj (DT hN e1 (I.ok.inj _ _ _ e hc ▸ hi))
   . by_cases hcc:c'=c
     . subst hcc;exact ⟨_,hc'⟩
     . obtain ⟨w2,z2⟩:=I.cell y c' e
       exact ⟨w2,z2.sameBut hs hcc⟩
   . obtain ⟨e,n,ne,nf,d⟩:=I.pin p hp
     refine ⟨(hs.2 p.1 ?_).trans e,n,ne,nf,d⟩;intro q;rw [q,hoc] at e;have q':oc=p.2:=Option.some.inj e;exact d w' (by rw [<- q'];exact abx)
theorem DU {M:Model} {A:Around} {E:Value->Shared->Prop} {i:Nat} {x:Str} {v:V} {u:Value} {Q:Unit->Shared->Prop} (I:Inv X pins σ H s) (hN:X.N.Nodup) (hi:X.N[i]?=some x) (hx:Loc X.env.scope x) (r:RelV v u)
  (h:∀ s',Inv X pins (σ.set i (some v)) H s'->Q () s') (hf:X.fn x=true\/X.env.scope.names.lookup x=some .local:=by first | exact .inl rfl | exact .inr rfl | assumption):wpAny M A (storeName X.env x u) Q E s:=
 BD I hN hi hx r (fun s' I' _=>h s' I') hf
theorem Inv.call' {s':Shared} {ch:List Addr} (I:Inv X pins σ H s) (ho:s'.os=s.os) (u:Un (frs X.stack) ch H H' s.heap s'.heap) (hok:vS X.prog X.w H' s'.heap) (hg:AllBare s'.gens)
  (hch:∀ b ∈ ch,(b ∈ X.ex\/X.BB.heap.objs.size<=b)/\b ≠ X.env.locals/\(∀ x c,X.env.cells.lookup x=some c->c ≠ b)/\∀ p ∈ X.pn++pins,p.1 ≠ b):Inv X pins σ H' s':=by
 obtain ⟨h',g',d',t',o'⟩:=s';have e:o'=s.os:=ho;subst e;exact I.call (g':=g') (t':=t') (d':=d') u hok hg hch
end
abbrev XK:=Value->Option Addr->Hp->Prop
abbrev St:=List (Option V)
abbrev VK:=V->Hp->Prop
abbrev TE:=St->Hp->VK->Prop
abbrev TT:=St->Hp->(Bool->Hp->Prop)->Prop
abbrev TA:=St->Hp->(List V->Hp->Prop)->Prop
structure Ends where
 nx:St->Hp->Prop
 rt:VK
 bk:St->Hp->Prop:=fun _ _=>False
 ct:St->Hp->Prop:=fun _ _=>False
abbrev TS:=Ends->St->Hp->Prop
def EP (X:Cx) (pins:List (Addr×Obj)) (σ:St) (Q:VK) (u:Value) (s':Shared):Prop:=∃ v H',Inv X pins σ H' s'/\RelV v u/\Q v H'
def TP (X:Cx) (pins:List (Addr×Obj)) (σ:St) (Q:Bool->Hp->Prop) (b:Bool) (s':Shared):Prop:=∃ H',Inv X pins σ H' s'/\Q b H'
def AP (X:Cx) (pins:List (Addr×Obj)) (σ:St) (Q:List V->Hp->Prop) (us:List Value) (s':Shared):Prop:=∃ vs H',Inv X pins σ H' s'/\Vals vs us/\Q vs H'
def SP (X:Cx) (pins:List (Addr×Obj)) (D:Ends) (f:Flow) (s':Shared):Prop:=
 match f with
 | .next=>∃ σ' H',Inv X pins σ' H' s'/\D.nx σ' H'
 | .brk=>∃ σ' H',Inv X pins σ' H' s'/\D.bk σ' H'
 | .cont=>∃ σ' H',Inv X pins σ' H' s'/\D.ct σ' H'
 | .ret u=>∃ v σ' H',Inv X pins σ' H' s'/\RelV v u/\D.rt v H'
def PE (X:Cx) (e:Expr) (t:TE):Prop:=
 ∀ (pins:List (Addr×Obj)) (s:Shared) (σ:St) (H:Hp) (Q:VK),Inv X pins σ H s->t σ H Q->wpAny (model X.prog X.w) X.A (eval e X.env) (EP X pins σ Q) X.xe s
def PT (X:Cx) (e:Expr) (t:TT):Prop:=
 ∀ (pins:List (Addr×Obj)) (s:Shared) (σ:St) (H:Hp) (Q:Bool->Hp->Prop),Inv X pins σ H s->t σ H Q->wpAny (model X.prog X.w) X.A (isTrue e X.env (eval e X.env)) (TP X pins σ Q) X.xe s
def PW (X:Cx) (e:Expr) (t:TT):Prop:=
 ∀ (whole:Sem Value) (pins:List (Addr×Obj)) (s:Shared) (σ:St) (H:Hp) (Q:Bool->Hp->Prop),Inv X pins σ H s->t σ H Q->wpAny (model X.prog X.w) X.A (isTrue e X.env whole) (TP X pins σ Q) X.xe s
theorem PW.pt {X:Cx} {e:Expr} {t:TT} (h:PW X e t):PT X e t:=h _
def PA (X:Cx) (es:List Expr) (t:TA):Prop:=
 ∀ (pos:Pos) (pins:List (Addr×Obj)) (s:Shared) (σ:St) (H:Hp) (Q:List V->Hp->Prop),Inv X pins σ H s->t σ H Q->wpAny (model X.prog X.w) X.A (spliced (backTo pos (starEach es X.env))) (AP X pins σ Q) X.xe s
def PS (X:Cx) (st:Stmt) (t:TS):Prop:=
 ∀ (pins:List (Addr×Obj)) (s:Shared) (σ:St) (H:Hp) (D:Ends),Inv X pins σ H s->t D σ H->wpAny (model X.prog X.w) X.A (exec st X.env) (SP X pins D) X.xe s
def KH (X:Cx) (st:List Stmt) (t:TS):Prop:=
 ∀ (pins:List (Addr×Obj)) (s:Shared) (σ:St) (H:Hp) (D:Ends),Inv X pins σ H s->t D σ H->wpAny (model X.prog X.w) X.A (execs st X.env) (SP X pins D) X.xe s
theorem dZ {α:Type} {t:Sem α} {Q Q':α->Shared->Prop} {M:Model} {A:Around} {E:Value->Shared->Prop} {s:Shared} (h:wpAny M A t Q E s) (hQ:∀ a s,Q a s->Q' a s):wpAny M A t Q' E s:=wpAny_mono h hQ fun _ _ x=>x
end L2
namespace L2
open PySem PySem.Spec PyProof.Rows
section
variable {X:Cx}
def aab (i:Nat):TE:=fun σ H Q=>∃ v,σ[i]?=some (some v)/\Q v H
def tC (v:V):TE:=fun _ H Q=>Q v H
theorem RN {i:Nat} {x:Str} {pos:Pos} (hN:X.N[i]?=some x) (hv:Yj X.env.scope x) (hd:(x==("__debug__":Str))=false:=by decide) (hcd:(x==("__classdict__":Str))=false:=by decide):PE X (.Name x pos) (aab i):=by
 intro pins s σ H Q I h;obtain ⟨v,e,h⟩:=h;obtain ⟨m,hn,hl⟩:=I.loc;obtain ⟨u,r,l⟩:=hl i x v hN e hv;have fin:EP X pins σ Q u s:=⟨v,H,I,r,h⟩;rcases l with ⟨hk,hm⟩ | ⟨hk,c,hc,hcell⟩
 . exact wpAny_Name (wpAny_loadName_local I.ok.kind hk hn hm fin) hd
 . rcases hk with hk | hk
   . exact wpAny_Name (wpAny_loadName_cell I.ok.kind hk hc hcell fin) hd
   . exact wpAny_Name (wpAny_loadName_free I.ok.kind hk hc hcell fin hcd) hd
theorem aN {i j pos}:PE X (.Constant (.int i) j pos) (tC (.int i)):=fun _ _ _ H _ I h=>wpAny_Constant_int ⟨.int i,H,I.tok _,⟨_,rfl⟩,h⟩
theorem qN {b j pos}:PE X (.Constant (.bool b) j pos) (tC (.bl b)):=fun _ _ _ H _ I h=>Constant_bool ⟨.bl b,H,I,rfl,h⟩
def Gl (X:Cx) (x:Str):Prop:=X.env.kindOf x=some .globalImplicit
theorem y9 {E:Value->Shared->Prop} {pins:List (Addr×Obj)} {s:Shared} {σ:St} {H:Hp} {x:Str} {u:Value} {pos:Pos} {Q:Value->Shared->Prop} (I:Inv X pins σ H s) (hg:Gl X x) (hm:X.mg x=some u) (h:Q u s)
  (hd:(x==("__debug__":Str))=false:=by decide):wpAny (model X.prog X.w) X.A (eval (.Name x pos) X.env) Q E s:=
 Calls.Name_function_global I.ok.kind hg (Calls.loadGlobal_global (by rw [I.ok.glob];exact I.mod.glob.keeps I.bk) hm h) hd
theorem zm {E:Value->Shared->Prop} {pins:List (Addr×Obj)} {s:Shared} {σ:St} {H:Hp} {x:Str} {u:Value} {pos:Pos} {Q:Value->Shared->Prop} (I:Inv X pins σ H s) (hg:Gl X x) (hm:X.mg x=none) (hv:bootBuiltins x=some u) (h:Q u s)
  (hn:x ≠ "__name__":=by decide) (hd:(x==("__debug__":Str))=false:=by decide):wpAny (model X.prog X.w) X.A (eval (.Name x pos) X.env) Q E s:=by
 obtain ⟨mb,h1,h2⟩:=I.mod.blt;exact Calls.Name_function_global I.ok.kind hg (Calls.loadGlobal_builtin (by rw [I.ok.glob];exact I.mod.glob.keeps I.bk) hm (by rw [I.ok.blt];exact h1.keeps I.bk) ((h2 x hn).trans hv) h) hd
theorem aV {x:Str} {v:V} {u:Value} {pos:Pos} (hg:Gl X x) (hm:X.mg x=some u) (r:RelV v u) (hd:(x==("__debug__":Str))=false:=by decide):PE X (.Name x pos) (tC v):=
 fun _ _ _ H _ I h=>y9 I hg hm ⟨v,H,I,r,h⟩ hd
variable {a b:Expr} {ta tb:TE} {pos:Pos}
def PC (X:Cx) (op:CmpOp) (a b:Expr) (t:TE):Prop:=
 ∀ (pins:List (Addr×Obj)) (s:Shared) (σ:St) (H:Hp) (Q:VK),Inv X pins σ H s->t σ H Q->
   wpAny (model X.prog X.w) X.A (eval a X.env) (fun v s₁=>wpAny (model X.prog X.w) X.A (eval b X.env) (fun u s₂=>wpAny (model X.prog X.w) X.A (compareOp op v u) (EP X pins σ Q) X.xe s₂) X.xe s₁) X.xe s
theorem RO (b:Expr) {op:CmpOp} (h:op ≠ .In) (h2:op ≠ .NotIn):behindInMarks op b=false:=by
 have e1:(op==CmpOp.In)=false:=by cases op<;>first | rfl | exact absurd rfl h
 have e2:(op==CmpOp.NotIn)=false:=by cases op<;>first | rfl | exact absurd rfl h2
 cases b<;>simp [behindInMarks,e1,e2]
def aby (ta:TE):TE:=fun σ H Q=>ta σ H fun x H1=>Q (.bl (decide (x=.non))) H1
theorem RelV.RP {x:V} {v:Value} (r:RelV x v):(v==Value.none)=decide (x=.non):=by
 cases x with
 | non=>cases r;rfl
 | bl _=>cases r;rfl
 | int _=>obtain ⟨t,rfl⟩:=r;rfl
 | str _=>obtain ⟨t,rfl⟩:=r;rfl
 | Iw _=>obtain ⟨t,rfl⟩:=r;rfl
 | Vo _=>obtain ⟨t,rfl⟩:=r;rfl
 | ref _=>cases r;rfl
 | ty _=>cases r;rfl
theorem Yl {j pos'} (ha:PE X a ta):PC X .Is a (.Constant .none j pos') (aby ta):=by
 intro pins s σ H Q I h;refine dZ (ha pins s σ H _ I h) fun v s1 ⟨x,H1,I1,r1,q1⟩=>?_;exact Constant_none (is_none_gen ⟨.bl _,H1,I1,by rw [r1.RP];rfl,q1⟩)
def tB (t:TE):TT:=fun σ H Q=>t σ H fun x H1=>∃ c,x=.bl c/\Q c H1
theorem IA {op:CmpOp} {t:TE} (h:PC X op a b t) (h1:behindInMarks op b=false:=by first | exact RO _ (by decide) (by decide) | rfl):PT X (.Compare a [op] [b] pos) (tB t):=by
 intro pins s σ H Q I hw;refine wpAny_isTrue_Compare1 (dZ (h pins s σ H _ I hw) fun v s1 h1=>dZ h1 fun u s2 h2=>dZ h2 fun c s3 ⟨x,H1,I1,r1,q1⟩=>?_) h1;obtain ⟨d,rfl,q⟩:=q1;cases r1;exact wpAny_truthy_bool ⟨H1,I1,q⟩
theorem jl {e:Expr} {t:TE} (h:PE X e t) (he:∀ whole,isTrue e X.env whole=(do let v <- whole;standAt e.pos;holding [v] (truthy v)):=by intro _;rfl):PT X e (tB t):=by
 intro pins s σ H Q I hw;refine isTrue_plain (dZ (h pins s σ H _ I hw) fun v s1 ⟨x,H1,I1,r1,q1⟩=>?_) (he _);obtain ⟨d,rfl,q⟩:=q1;cases r1;exact wpAny_truthy_bool ⟨H1,I1,q⟩
variable {tA tB':TT} {rest:List Expr}
def abz (t u:TT):TT:=fun σ H Q=>t σ H fun c H1=>if c=true then u σ H1 Q else Q false H1
def tOr (t u:TT):TT:=fun σ H Q=>t σ H fun c H1=>if c=true then Q true H1 else u σ H1 Q
def ab0 (t:TT):TT:=fun σ H Q=>t σ H fun c H1=>Q (!c) H1
theorem lF (ha:PT X a tA):PW X (.BoolOp .And [a] pos) tA:=by
 intro wh pins s σ H Q I h;refine isTrue_and (dZ (ha pins s σ H Q I h) fun c s1 e=>?_);cases c with
 | true=>exact isTrue_and_nil e
 | false=>exact e
theorem Nc (ha:PT X a tA):PW X (.BoolOp .Or [a] pos) tA:=by
 intro wh pins s σ H Q I h;refine isTrue_or (dZ (ha pins s σ H Q I h) fun c s1 e=>?_);cases c with
 | false=>exact isTrue_or_nil e
 | true=>exact e
theorem o6 (ha:PT X a tA) (hb:PW X (.BoolOp .And (b::rest) pos) tB'):PW X (.BoolOp .And (a::b::rest) pos) (abz tA tB'):=by
 intro wh pins s σ H Q I h;refine isTrue_and (dZ (ha pins s σ H _ I h) fun c s1 ⟨H1,I1,q1⟩=>?_);cases c with
 | true=>exact hb wh pins s1 σ H1 Q I1 q1
 | false=>exact ⟨H1,I1,q1⟩
theorem RQ (ha:PT X a tA) (hb:PW X (.BoolOp .Or (b::rest) pos) tB'):PW X (.BoolOp .Or (a::b::rest) pos) (tOr tA tB'):=by
 intro wh pins s σ H Q I h;refine isTrue_or (dZ (ha pins s σ H _ I h) fun c s1 ⟨H1,I1,q1⟩=>?_);cases c with
 | true=>exact ⟨H1,I1,q1⟩
 | false=>exact hb wh pins s1 σ H1 Q I1 q1
theorem uQ (ha:PT X a tA):PT X (.UnaryOp .Not a pos) (ab0 tA):=by
 intro pins s σ H Q I h;exact isTrue_not (ha pins s σ H (fun c H1=>Q (!c) H1) I h)
def aac (ta tb:TE):TE:=fun σ H Q=>ta σ H fun x H1=>∃ c,x=.bl c/\if c=true then tb σ H1 Q else Q (.bl false) H1
def ab1 (ta tb:TE):TE:=fun σ H Q=>ta σ H fun x H1=>∃ c,x=.bl c/\if c=true then Q (.bl true) H1 else tb σ H1 Q
theorem uR {op} {t:TE} (h:PE X a t):PE X (.BoolOp op [a] pos) t:=fun pins s σ H Q I hw=>BoolOp_one (h pins s σ H Q I hw)
theorem wO (ha:PE X a ta) (hb:PE X (.BoolOp .And (b::rest) pos) tb):PE X (.BoolOp .And (a::b::rest) pos) (aac ta tb):=by
 intro pins s σ H Q I h;refine BoolOp_and (dZ (ha pins s σ H _ I h) fun v s1 ⟨x,H1,I1,r1,q1⟩=>?_);obtain ⟨c,rfl,q1⟩:=q1;cases r1;refine wpAny_truthy_bool ?_;cases c with
 | true=>exact hb pins s1 σ H1 Q I1 q1
 | false=>exact ⟨.bl false,H1,I1,rfl,q1⟩
theorem Xw (ha:PE X a ta) (hb:PE X (.BoolOp .Or (b::rest) pos) tb):PE X (.BoolOp .Or (a::b::rest) pos) (ab1 ta tb):=by
 intro pins s σ H Q I h;refine BoolOp_or (dZ (ha pins s σ H _ I h) fun v s1 ⟨x,H1,I1,r1,q1⟩=>?_);obtain ⟨c,rfl,q1⟩:=q1;cases r1;refine wpAny_truthy_bool ?_;cases c with
 | false=>exact hb pins s1 σ H1 Q I1 q1
 | true=>exact ⟨.bl true,H1,I1,rfl,q1⟩
def tIf (t:TT) (ta tb:TE):TE:=fun σ H Q=>t σ H fun c H1=>if c=true then ta σ H1 Q else tb σ H1 Q
theorem DV {c:Expr} (hc:PT X c tA) (ha:PE X a ta) (hb:PE X b tb):PE X (.IfExp c a b pos) (tIf tA ta tb):=by
 intro pins s σ H Q I h;refine wpAny_IfExp (dZ (hc pins s σ H _ I h) fun d s1 ⟨H1,I1,q1⟩=>?_);cases d with
 | true=>exact ha pins s1 σ H1 Q I1 q1
 | false=>exact hb pins s1 σ H1 Q I1 q1
end
end L2
namespace L2
open PySem PySem.Spec PyProof.Rows
def bI (K:Zqq) (H:Hp) (a:Addr) (xs:List V):Prop:=
 Rd H a (.lst xs) \/
   ∃ (o:Obj) (its:Array Value) (n:Nat),K.lookup a=some o/\o.cls=.type "list"/\o.dict=none/\o.data=.seq its n/\its.size<=sizeLine/\Vals xs its.toList
def nU (K:Zqq) (H:Hp) (a:Addr) (xs:List V):Prop:=
 Rd H a (.tup xs) \/
   ∃ (o:Obj) (its:Array Value) (n:Nat),K.lookup a=some o/\o.cls=.type "tuple"/\o.data=.seq its n/\its.size<=sizeLine/\Vals xs its.toList
def ab2:Value->Option V
 | .none=>some .non
 | .bool b=>some (.bl b)
 | .int i _=>some (.int i)
 | .str x _=>some (.str x)
 | .bytes b _=>some (.Iw b)
 | .float b _=>some (.Vo b)
 | .ref a=>some (.ref a)
 | .type n=>some (.ty n)
 | _=>none
theorem RelV.abs {x:V} {u:Value} (r:RelV x u):ab2 u=some x:=by
 cases x with
 | non=>cases r;rfl
 | bl _=>cases r;rfl
 | int _=>obtain ⟨t,rfl⟩:=r;rfl
 | str _=>obtain ⟨t,rfl⟩:=r;rfl
 | Iw _=>obtain ⟨t,rfl⟩:=r;rfl
 | Vo _=>obtain ⟨t,rfl⟩:=r;rfl
 | ref _=>cases r;rfl
 | ty _=>cases r;rfl
theorem RelV.inj {x y:V} {u:Value} (r:RelV x u) (q:RelV y u):x=y:=Option.some.inj (r.abs.symm.trans q.abs)
theorem Vals.inj:∀ {xs ys:List V} {us:List Value},Vals xs us->Vals ys us->xs=ys
 | _,_,_,.nil,.nil=>rfl
 | _,_,_,.cons r t,.cons r' t'=>by rw [r.inj r',Vals.inj t t']
section
variable {X:Cx} {pins:List (Addr×Obj)} {σ:St} {H:Hp} {s:Shared} {a:Addr} {xs ys:List V}
theorem bI.of {K:Zqq} (h:H a=some (.lst xs)):bI K H a xs:=.inl (.inl h)
theorem nU.of {K:Zqq} (h:H a=some (.tup xs)):nU K H a xs:=.inl (.inl h)
theorem Inv.list (I:Inv X pins σ H s) (h:bI X.K H a xs):∃ its:List Value,Vals xs its/\PlainL s.heap a its.toArray/\xs.length<=sizeLine:=by
 rcases h with h | ⟨o,its,n,hk,hc,hd,hs,hz,r⟩
 . obtain ⟨z,its,n,r,e⟩:=h.ok I.hok
   exact ⟨its,r,⟨_,n,e,rfl,rfl,rfl⟩,z⟩
 . refine ⟨its.toList,r,⟨o,n,I.zk a o hk,hc,hd,by simpa using hs⟩,?_⟩
   have e:=r.length;simp only [Array.length_toList] at e;omega
theorem Inv.tuple (I:Inv X pins σ H s) (h:nU X.K H a xs):∃ its:List Value,Vals xs its/\IsTup s.heap a its.toArray/\xs.length<=sizeLine:=by
 rcases h with h | ⟨o,its,n,hk,hc,hs,hz,r⟩
 . obtain ⟨z,its,r,p⟩:=h.ok I.hok
   exact ⟨its,r,p,z⟩
 . refine ⟨its.toList,r,⟨o,I.zk a o hk,hc,n,by simpa using hs⟩,?_⟩
   have e:=r.length;simp only [Array.length_toList] at e;omega
theorem Inv.KI (I:Inv X pins σ H s) (h:bI X.K H a xs) (h':bI X.K H a ys):xs=ys:=by
 obtain ⟨its,r,⟨o,n,e,_,_,d⟩,_⟩:=I.list h;obtain ⟨its',r',⟨o',n',e',_,_,d'⟩,_⟩:=I.list h';rw [e] at e';cases e';rw [d] at d';injection d' with d1 _;have:its=its':=by simpa using congrArg Array.toList d1
 subst this;exact r.inj r'
theorem Inv.P0 (I:Inv X pins σ H s) (h:nU X.K H a xs) (h':nU X.K H a ys):xs=ys:=by
 obtain ⟨its,r,⟨o,e,_,n,d⟩,_⟩:=I.tuple h;obtain ⟨its',r',⟨o',e',_,n',d'⟩,_⟩:=I.tuple h';rw [e] at e';cases e';rw [d] at d';injection d' with d1 _;have:its=its':=by simpa using congrArg Array.toList d1
 subst this;exact r.inj r'
end
abbrev Cx.DW (X:Cx) (E:Value->Shared->Prop):Cx:={ X with xe:=E }
abbrev Cx.nox (X:Cx):Cx:=X.DW fun _ _=>False
theorem Cx.Ok.DW {X:Cx} (ok:X.Ok) (E:Value->Shared->Prop):(X.DW E).Ok:=
 ⟨ok.mod,ok.kind,ok.glob,ok.blt,ok.above,ok.inj,ok.has,ok.Xs,ok.hd,ok.frames,ok.Vq,ok.Yk,ok.bs,ok.Pz,ok.KD,ok.KG,ok.yQ,ok.RM⟩
theorem Cx.Ok.wQ {X:Cx} {E:Value->Shared->Prop} (ok:(X.DW E).Ok):X.Ok:=
 ⟨ok.mod,ok.kind,ok.glob,ok.blt,ok.above,ok.inj,ok.has,ok.Xs,ok.hd,ok.frames,ok.Vq,ok.Yk,ok.bs,ok.Pz,ok.KD,ok.KG,ok.yQ,ok.RM⟩
section
variable {X:Cx} {pins:List (Addr×Obj)} {σ:St} {H:Hp} {s:Shared} {E:Value->Shared->Prop}
theorem Inv.DW (I:Inv X pins σ H s) (E:Value->Shared->Prop):Inv (X.DW E) pins σ H s:=⟨I.ok.DW E,I.os,I.bare,I.base,I.loc,I.cell,I.free,I.kJ,I.pin,I.hok,I.len⟩
theorem Inv.wQ (I:Inv (X.DW E) pins σ H s):Inv X pins σ H s:=⟨I.ok.wQ,I.os,I.bare,I.base,I.loc,I.cell,I.free,I.kJ,I.pin,I.hok,I.len⟩
theorem SP.wQ {D:Ends} {f:Flow} {s':Shared} (h:SP (X.DW E) pins D f s'):SP X pins D f s':=by
 cases f with
 | next=>obtain ⟨σ',H',I,q⟩:=h;exact ⟨σ',H',I.wQ,q⟩
 | brk=>obtain ⟨σ',H',I,q⟩:=h;exact ⟨σ',H',I.wQ,q⟩
 | cont=>obtain ⟨σ',H',I,q⟩:=h;exact ⟨σ',H',I.wQ,q⟩
 | ret u=>obtain ⟨v,σ',H',I,r,q⟩:=h;exact ⟨v,σ',H',I.wQ,r,q⟩
theorem KH.nox {st:List Stmt} {t:TS} (h:KH X.nox st t):KH X st t:=fun pins s σ H D I hw=>
 wpAny_mono (h pins s σ H D (I.DW _) hw) (fun _ _ q=>q.wQ) fun _ _ z=>False.elim z
end
section
variable {X:Cx} {st:Stmt} {rest:List Stmt} {t u:TS} {e:Expr} {te:TE} {pos:Pos}
def Xx:TS:=fun D σ H=>D.nx σ H
def Ym (t u:TS):TS:=fun D σ H=>t { D with nx:=u D } σ H
theorem ee:KH X [] Xx:=fun _ _ σ H _ I h=>wpAny_execs_nil ⟨σ,H,I,h⟩
theorem ak (h1:PS X st t) (h2:KH X rest u):KH X (st::rest) (Ym t u):=by
 intro pins s σ H D I h;refine wpAny_execs_cons (dZ (h1 pins s σ H { D with nx:=u D } I h) fun f s1 q=>?_)
 cases f with
 | next=>
  obtain ⟨σ',H',I',q⟩:=q;exact h2 pins s1 σ' H' D I' q
 | ret v=>exact q
 | brk=>exact q
 | cont=>exact q
theorem az (h1:PS X st t):KH X [st] t:=by
 intro pins s σ H D I h;refine wpAny_execs_cons (dZ (h1 pins s σ H D I h) fun f s1 q=>?_);cases f with
 | next=>exact wpAny_execs_nil q
 | ret v=>exact q
 | brk=>exact q
 | cont=>exact q
theorem Inv.quiet {pins:List (Addr×Obj)} {σ:St} {H:Hp} {s:Shared} (I:Inv X pins σ H s):interactive X.env=false:=by simp [interactive,I.ok.kind]
def aad (te:TE):TS:=fun D σ H=>te σ H fun _ H1=>D.nx σ H1
theorem dW (he:PE X e te) (hs:swapsWith e none pos.line X.env=pure false:=by rfl):PS X (.Expr e pos) (aad te):=by
 intro pins s σ H D I h;exact wpAny_Expr_any (dZ (he pins s σ H _ I h) fun v s1 ⟨x,H1,I1,r1,q1⟩=>⟨σ,H1,I1,q1⟩) I.quiet hs
def ab3 (te:TE):TS:=fun D σ H=>te σ H D.rt
theorem bc (he:PE X e te):PS X (.Return (some e) pos) (ab3 te):=by
 intro pins s σ H D I h;exact wpAny_Return_some (dZ (he pins s σ H _ I h) fun v s1 ⟨x,H1,I1,r1,q1⟩=>⟨x,σ,H1,I1,r1,q1⟩)
def aae (c:TT) (t u:TS):TS:=fun D σ H=>c σ H fun b H1=>if b=true then t D σ H1 else u D σ H1
theorem kK {c:Expr} {a b:List Stmt} {tc:TT} (hc:PT X c tc) (ha:KH X a t) (hb:KH X b u):PS X (.If c a b pos) (aae tc t u):=by
 intro pins s σ H D I h;refine wpAny_If (dZ (hc pins s σ H _ I h) fun d s1 ⟨H1,I1,q1⟩=>?_);cases d with
 | true=>exact ha pins s1 σ H1 D I1 q1
 | false=>exact hb pins s1 σ H1 D I1 q1
end
abbrev TG:=V->St->Hp->(St->Hp->Prop)->Prop
abbrev Yn:=List V->St->Hp->(St->Hp->Prop)->Prop
def PG (X:Cx) (target:Expr) (t:TG):Prop:=
 ∀ (pins:List (Addr×Obj)) (s:Shared) (σ:St) (H:Hp) (v:V) (u:Value) (Q:St->Hp->Prop),Inv X pins σ H s->RelV v u->t v σ H Q->
   wpAny (model X.prog X.w) X.A (assign target X.env u) (fun _ s'=>∃ σ' H',Inv X pins σ' H' s'/\Q σ' H') X.xe s
def PGs (X:Cx) (ts:List Expr) (t:Yn):Prop:=
 ∀ (pins:List (Addr×Obj)) (s:Shared) (σ:St) (H:Hp) (vs:List V) (us:List Value) (Q:St->Hp->Prop),Inv X pins σ H s->Vals vs us->t vs σ H Q->
   wpAny (model X.prog X.w) X.A (assignInOrder ((assignEach ts X.env).map (·.2)) us) (fun _ s'=>∃ σ' H',Inv X pins σ' H' s'/\Q σ' H') X.xe s
abbrev RT:=V->V->V->Hp->(Hp->Prop)->Prop
def Yo (X:Cx) (t:RT):Prop:=
 ∀ (pins:List (Addr×Obj)) (s:Shared) (σ:St) (H:Hp) (o i v:V) (ov iv u:Value) (Q:Hp->Prop),Inv X pins σ H s->RelV o ov->RelV i iv->RelV v u->t o i v H Q->
   wpAny (model X.prog X.w) X.A (setItem ov iv u) (fun _ s'=>∃ H',Inv X pins σ H' s'/\Q H') X.xe s
abbrev ZW:=V->V->Hp->VK->Prop
def PIp (X:Cx) (op:Operator) (t:ZW):Prop:=
 ∀ (pins:List (Addr×Obj)) (s:Shared) (σ:St) (H:Hp) (x y:V) (v u:Value) (Q:VK),Inv X pins σ H s->RelV x v->RelV y u->t x y H Q->
   wpAny (model X.prog X.w) X.A (inplaceOp op v u) (EP X pins σ Q) X.xe s
section
variable {X:Cx} {pos:Pos}
def Hq (i:Nat):TG:=fun v σ H Q=>Q (σ.set i (some v)) H
theorem bu {i:Nat} {x:Str} (hN:X.N.Nodup) (hi:X.N[i]?=some x) (hx:Loc X.env.scope x) (hf:X.fn x=true\/X.env.scope.names.lookup x=some .local:=by first | exact .inl rfl | exact .inr rfl | assumption):PG X (.Name x pos) (Hq i):=by
 intro pins s σ H v u Q I r h;exact wpAny_assign_Name (DU I hN hi hx r (fun s' I'=>⟨_,H,I',h⟩) hf)
def ab4:Yn:=fun vs σ H Q=>vs=[]/\Q σ H
def aaf (t:TG) (u:Yn):Yn:=fun vs σ H Q=>∃ v r,vs=v::r/\t v σ H fun σ' H'=>u r σ' H' Q
theorem sV:PGs X [] ab4:=by
 intro pins s σ H vs us Q I r h;obtain ⟨e,h⟩:=h;subst e;cases r;exact assignInOrder_nil ⟨σ,H,I,h⟩
theorem gn {e:Expr} {es:List Expr} {t:TG} {u:Yn} (h1:PG X e t) (h2:PGs X es u)
  (hs:(assignEach (e::es) X.env).map (·.2)=assign e X.env::(assignEach es X.env).map (·.2):=by rfl):PGs X (e::es) (aaf t u):=by
 intro pins s σ H vs us Q I r h;obtain ⟨v,vr,e1,h⟩:=h;subst e1;cases r with
 | cons r rr=>
  rw [hs];refine assignInOrder_cons (dZ (h1 pins s σ H _ _ _ I r h) fun _ s1 ⟨σ1,H1,I1,q1⟩=>?_);exact h2 pins s1 σ1 H1 _ _ Q I1 rr q1
def ab5 (K:Zqq) (n:Nat) (t:Yn):TG:=fun v σ H Q=>∃ a xs,v=.ref a/\nU K H a xs/\xs.length=n/\t xs σ H Q
theorem wR {es:List Expr} {k:Nat} {t:Yn} {n:Nat} (hc:X.calm=true) (h:PGs X es t)
  (hn:(assignEach es X.env).length=n:=by rfl) (hst:(assignEach es X.env).findIdx? (·.1)=none:=by rfl):PG X (.Tuple es k pos) (ab5 X.K n t):=by
 intro pins s σ H v u Q I r hw;obtain ⟨a,xs,e1,hq,hl,hw⟩:=hw;subst e1;cases r;obtain ⟨its,rv,ht,hz⟩:=I.tuple hq;refine assign_Tuple_tuple (I.ok.hd hc) ht (by simp [hn,<- hl,rv.length]) hst fun h' hx=>?_;have I1:Inv X pins σ H { s with heap:=h' }:=I.kept (t':=s.toks) fun b o e=>hx b o (Nat.ne_of_lt (Heap.lt_size e)) e
 exact h pins _ σ H xs _ Q I1 (by simpa using rv) hw
def ab6 (to ti:TE) (t:RT):TG:=fun v σ H Q=>to σ H fun o H1=>ti σ H1 fun i H2=>t o i v H2 fun H3=>Q σ H3
theorem Yp {o i:Expr} {to ti:TE} {t:RT} (ho:PE X o to) (hi:PE X i ti) (hs:Yo X t)
   (ha:∀ v,assign (.Subscript o i pos) X.env v=(do
     let ov <- holding [v] (eval o X.env)
     let iv <- holding [v,ov] (eval i X.env)
     standAt pos
     holding [v,ov,iv] (setItem ov iv v)
     release [v,ov,iv] []):=by intro _;rfl):PG X (.Subscript o i pos) (ab6 to ti t):=by
 intro pins s σ H v u Q I r h;rw [ha];refine wpAny_bind (wpAny_holding (dZ (ho pins s σ H _ I h) fun ov s1 ⟨x,H1,I1,r1,q1⟩=>?_));refine wpAny_bind (wpAny_holding (dZ (hi pins s1 σ H1 _ I1 q1) fun iv s2 ⟨y,H2,I2,r2,q2⟩=>?_));refine wpAny_bind (wpAny_standAt (wpAny_bind (wpAny_holding (dZ (hs pins s2 σ H2 x y v ov iv u _ I2 r1 r2 r q2) fun _ s3 ⟨H3,I3,q3⟩=>?_))));exact wpAny_release ⟨σ,H3,I3,q3⟩
def Yq (te:TE) (g:TG):TS:=fun D σ H=>te σ H fun x H1=>g x σ H1 D.nx
theorem Yr {tg e:Expr} {te:TE} {g:TG} (he:PE X e te) (hg:PG X tg g) (hs:swapsWithSole [tg] e pos.line X.env=pure false:=by rfl) (hw:swappedStores [tg] e X.env=pure none:=by rfl)
  (h1:(assignEach [tg] X.env).map (·.2)=[assign tg X.env]:=by rfl):PS X (.Assign [tg] e pos) (Yq te g):=by
 intro pins s σ H D I h;refine wpAny_Assign_stores (dZ (he pins s σ H _ I h) fun v s1 ⟨x,H1,I1,r1,q1⟩=>?_) hs hw;rw [h1];exact dZ (hg pins s1 σ H1 x v _ I1 r1 q1) fun _ s2 q=>q
theorem aR {i:Nat} {x:Str} {e:Expr} {te:TE} {pos':Pos} (hN:X.N.Nodup) (hi:X.N[i]?=some x) (hx:Loc X.env.scope x) (he:PE X e te) (hs:swapsWith e (some (.Name x pos')) pos.line X.env=pure false:=by rfl) (hf:X.fn x=true\/X.env.scope.names.lookup x=some .local:=by first | exact .inl rfl | exact .inr rfl | assumption) :
  PS X (.Assign [.Name x pos'] e pos) (Yq te (Hq i)):=by
 intro pins s σ H D I h;refine wpAny_Assign_Name (dZ (he pins s σ H _ I h) fun v s1 ⟨y,H1,I1,r1,q1⟩=>?_) hs;exact DU I1 hN hi hx r1 (fun s2 I2=>⟨_,H1,I2,q1⟩) hf
def ab7 (i:Nat) (te:TE) (ti:ZW):TS:=fun D σ H=>∃ x,σ[i]?=some (some x)/\te σ H fun y H1=>ti x y H1 fun z H2=>D.nx (σ.set i (some z)) H2
theorem RU {i:Nat} {x:Str} {e:Expr} {te:TE} {op:Operator} {ti:ZW} {pos':Pos} (hN:X.N.Nodup) (hi:X.N[i]?=some x) (hx:Loc X.env.scope x) (he:PE X e te) (ho:PIp X op ti) (hf:X.fn x=true\/X.env.scope.names.lookup x=some .local:=by first | exact .inl rfl | exact .inr rfl | assumption) :
   PS X (.AugAssign (.Name x pos') op e pos) (ab7 i te ti):=by
 intro pins s σ H D I h;obtain ⟨v,e1,h⟩:=h;obtain ⟨m,hn,hl⟩:=I.loc;have vis:Yj X.env.scope x:=by rcases hx with k | k;exact .inl k;exact .inr (.inl k)
 obtain ⟨u,r,l⟩:=hl i x v hi e1 vis;refine wpAny_AugAssign_Name ?_;have go:wpAny (model X.prog X.w) X.A (eval e X.env) (fun w s₂=>wpAny (model X.prog X.w) X.A (inplaceOp op u w) (fun r s₃=>wpAny (model X.prog X.w) X.A (storeName X.env x r) (fun _=>SP X pins D .next) X.xe s₃) X.xe s₂) X.xe s:=by
   refine dZ (he pins s σ H _ I h) fun w s1 ⟨y,H1,I1,r1,q1⟩=>?_;refine dZ (ho pins s1 σ H1 v y u w _ I1 r r1 q1) fun z s2 ⟨zv,H2,I2,r2,q2⟩=>?_;exact DU I2 hN hi hx r2 (fun s3 I3=>⟨_,H2,I3,q2⟩) hf
 rcases l with ⟨hk,hm⟩ | ⟨hk,c,hc,hcell⟩
 . exact wpAny_loadName_local I.ok.kind hk hn hm go
 . rcases hk with hk | hk
   . exact wpAny_loadName_cell I.ok.kind hk hc hcell go
   . rcases hx with k | k
     . have:X.env.scope.names.lookup x=some .free:=hk
       rw [k] at this;cases this
     . have:X.env.scope.names.lookup x=some .free:=hk
       rw [k] at this;cases this
def aag (to ti te:TE) (Vs:V->V->Hp->VK->Prop) (tip:ZW) (Vt:RT):TS:=fun D σ H=>to σ H fun o H1=>ti σ H1 fun i H2=>Vs o i H2 fun x H3=>te σ H3 fun y H4=>tip x y H4 fun z H5=>Vt o i z H5 fun H6=>D.nx σ H6
def aah (X:Cx) (t:V->V->Hp->VK->Prop):Prop:=
 ∀ (pins:List (Addr×Obj)) (s:Shared) (σ:St) (H:Hp) (o i:V) (ov iv:Value) (Q:VK),Inv X pins σ H s->RelV o ov->RelV i iv->t o i H Q->
   wpAny (model X.prog X.w) X.A (getItem ov iv) (EP X pins σ Q) X.xe s
theorem D7 {o i e:Expr} {to ti te:TE} {Vs:V->V->Hp->VK->Prop} {tip:ZW} {Vt:RT} {op:Operator} {tpos:Pos} (ho:PE X o to) (hi:PE X i ti) (hg:aah X Vs) (he:PE X e te) (hp:PIp X op tip) (hs:Yo X Vt)
  (ha:∀ ov iv new,augStore i ov iv new=(do holding [new,ov,iv] (setItem ov iv new);release [new,ov,iv] [];pure .next):=by intros;rfl):PS X (.AugAssign (.Subscript o i tpos) op e pos) (aag to ti te Vs tip Vt):=by
 intro pins s σ H D I h;refine wpAny_AugAssign_SubscriptAny (dZ (ho pins s σ H _ I h) fun ov s1 ⟨x1,H1,I1,r1,q1⟩=>?_) ha;refine dZ (hi pins s1 σ H1 _ I1 q1) fun iv s2 ⟨x2,H2,I2,r2,q2⟩=>?_;refine dZ (hg pins s2 σ H2 x1 x2 ov iv _ I2 r1 r2 q2) fun old s3 ⟨x3,H3,I3,r3,q3⟩=>?_;refine dZ (he pins s3 σ H3 _ I3 q3) fun v s4 ⟨x4,H4,I4,r4,q4⟩=>?_;refine dZ (hp pins s4 σ H4 x3 x4 old v _ I4 r3 r4 q4) fun new s5 ⟨x5,H5,I5,r5,q5⟩=>?_;exact dZ (hs pins s5 σ H5 x1 x2 x5 ov iv new _ I5 r1 r2 r5 q5) fun _ s6 ⟨H6,I6,q6⟩=>⟨σ,H6,I6,q6⟩
def ipI (f:Int->Int->Int):ZW:=fun x y H Q=>∃ i j,x=.int i/\y=.int j/\Q (.int (f i j)) H
theorem IB:PIp X .Add (ipI fun i j=>i+j):=by
 intro pins s σ H x y v u Q I r1 r2 h;obtain ⟨i,j,e1,e2,q⟩:=h;subst e1;subst e2;obtain ⟨t,rfl⟩:=r1;obtain ⟨t',rfl⟩:=r2;exact iadd_int ⟨.int _,H,I.tok _,⟨_,rfl⟩,q⟩
theorem RW:PIp X .Sub (ipI fun i j=>i - j):=by
 intro pins s σ H x y v u Q I r1 r2 h;obtain ⟨i,j,e1,e2,q⟩:=h;subst e1;subst e2;obtain ⟨t,rfl⟩:=r1;obtain ⟨t',rfl⟩:=r2;exact isub_int ⟨.int _,H,I.tok _,⟨_,rfl⟩,q⟩
def Nd (c:TT) (tb:TS):TS:=fun D σ H=>∃ W:Nat->St->Hp->Prop,(∃ m,W m σ H)/\∀ m σ H,W m σ H->
 c σ H fun b H1=>if b=true then ∃ N:St->Hp->Prop,(∀ σ' H',N σ' H'->∃ m',m' < m/\W m' σ' H')/\tb { D with nx:=N,ct:=N,bk:=D.nx } σ H1 else D.nx σ H1
theorem RX {c:Expr} {body:List Stmt} {tc:TT} {tb:TS} (hp:PassesOwn (model X.prog X.w) X.A X.env X.xe) (hc:PT X c tc) (hb:KH X body tb):PS X (.While c body [] pos) (Nd tc tb):=by
 intro pins s σ H D I h;obtain ⟨W,⟨m0,w0⟩,turn⟩:=h;refine wpAny_While (codeAny_whileLoop (fun n s'=>∃ σ' H',Inv X pins σ' H' s'/\W n σ' H') ?_ m0 ⟨σ,H,I,w0⟩);rintro n s1 ⟨σ1,H1,I1,w1⟩;refine wpAny_passesOwn hp (dZ (hc pins s1 σ1 H1 _ I1 (turn n σ1 H1 w1)) fun b s2 ⟨H2,I2,q2⟩=>?_);cases b with
 | true=>
  obtain ⟨N,hN,q2⟩:=q2;rw [if_pos rfl];refine wpAny_passesOwn hp (dZ (hb pins s2 σ1 H2 _ I2 q2) fun f s3 q3=>?_);cases f with
  | next=>
   obtain ⟨σ3,H3,I3,n3⟩:=q3;obtain ⟨m',hm,w3⟩:=hN σ3 H3 n3;exact ⟨m',hm,σ3,H3,I3,w3⟩
  | cont=>
   obtain ⟨σ3,H3,I3,n3⟩:=q3;obtain ⟨m',hm,w3⟩:=hN σ3 H3 n3;exact ⟨m',hm,σ3,H3,I3,w3⟩
  | brk=>exact q3
  | ret v=>exact q3
 | false=>
  rw [if_neg Bool.false_ne_true];exact wpAny_execs_nil ⟨σ1,H2,I2,q2⟩
end
structure It where
 go:Nat->Hp->Prop
 RY:Nat->Hp->V->Hp->Prop
 stop:Nat->Hp->Prop
def DX (X:Cx) (pins:List (Addr×Obj)) (H:Hp) (b:Addr):Prop:=
 H b=none/\b ≠ X.env.locals/\b ∉ X.fs/\(b ∈ X.ex\/X.BB.heap.objs.size<=b)/\(∀ x c,X.env.cells.lookup x=some c->c ≠ b)/\∀ p ∈ X.pn++pins,p.1 ≠ b
theorem Inv.PB {X:Cx} {pins:List (Addr×Obj)} {σ:St} {H H':Hp} {s:Shared} {b:Addr} (I:Inv X pins σ H s) (hb:s.heap.objs.size<=b) (hn:H' b=none):DX X pins H' b:=by
 refine ⟨hn,Nat.ne_of_gt (Nat.lt_of_lt_of_le I.lt hb),I.abw hb,.inr (Nat.le_trans I.sz hb),fun x c e z=>?_,fun p hp z=>?_⟩
 . obtain ⟨v,q⟩:=I.cell x c e
   exact absurd (Nat.lt_of_lt_of_le q.lt (by rw [z];exact hb)) (Nat.lt_irrefl _)
 . exact absurd (Nat.lt_of_lt_of_le (Heap.lt_size (I.pin p hp).1) (by rw [z];exact hb)) (Nat.lt_irrefl _)
structure Turn (P:Program) (w:World) (K:Zqq) (tg:Expr) (J:It) (fp:List Addr) (it:Addr) (tn:Nat->Heap->Prop):Prop where
 mem:it ∈ fp
 obj:∀ i h,tn i h->∀ b ∈ fp,∃ o,h.get? b=some o/\∀ v,o.data ≠ .cell v
 keep:∀ i h h',tn i h->(∀ b ∈ fp,∀ o,h.get? b=some o->h'.get? b=some o)->tn i h'
 item:∀ (X:Cx),X.prog=P->X.w=w->X.K=K->X.calm=true->∀ (i:Nat) (pins:List (Addr×Obj)) (s:Shared) (σ:St) (H:Hp) (E:Value->Shared->Prop),Inv X pins σ H s->(∀ b ∈ fp,DX X pins H b)->tn i s.heap->J.go i H->
   wpAny (model P w) X.A (pyNext (.ref it)) (fun r s1=>∃ u,r=some u /\
     wpAny (model P w) X.A (letOwnedTupleGo tg (.ref it) u) (fun _ s2=>∃ x H',Inv X pins σ H' s2/\RelV x u/\J.RY i H x H'/\tn (i+1) s2.heap/\∀ b ∈ fp,H' b=none) E s1) E s
 done:∀ (X:Cx),X.prog=P->X.w=w->X.K=K->X.calm=true->∀ (i:Nat) (pins:List (Addr×Obj)) (s:Shared) (σ:St) (H:Hp) (E:Value->Shared->Prop),Inv X pins σ H s->(∀ b ∈ fp,DX X pins H b)->tn i s.heap->J.stop i H->
   wpAny (model P w) X.A (pyNext (.ref it)) (fun r s1=>r=none/\Inv X pins σ H s1) E s
 self:∀ (A:Around) (i:Nat) (s:Shared) (Q:Value->Shared->Prop) (E:Value->Shared->Prop),tn i s.heap->Q (.ref it) s->wpAny (model P w) A (pyIter (.ref it)) Q E s
abbrev TI:=St->Hp->(It->Hp->Prop)->Prop
def PIE (X:Cx) (pins:List (Addr×Obj)) (σ:St) (tg:Expr) (R:It->Hp->Prop) (itv:Value) (s2:Shared):Prop:=
 ∃ (it:Addr) (fp:List Addr) (tn:Nat->Heap->Prop) (J:It) (H':Hp),itv=.ref it/\Inv X pins σ H' s2/\Turn X.prog X.w X.K tg J fp it tn/\tn 0 s2.heap/\(∀ b ∈ fp,DX X pins H' b)/\R J H'
def PI (X:Cx) (tg iter:Expr) (wi:TI):Prop:=
 ∀ (pins:List (Addr×Obj)) (s:Shared) (σ:St) (H:Hp) (R:It->Hp->Prop),Inv X pins σ H s->wi σ H R->
   wpAny (model X.prog X.w) X.A (eval iter X.env) (fun v s1=>wpAny (model X.prog X.w) X.A (pyIter v) (PIE X pins σ tg R) X.xe s1) X.xe s
theorem Hr {M:Model} {A:Around} {E:Value->Shared->Prop} {s:Shared} {tg:Expr} {it:Addr} {u:Value} {o:Obj} {n:String} {vs:Array Value} {Q:Unit->Shared->Prop} (ho:s.heap.get? it=some o) (hc:o.cls=.type n) (hd:o.data=.fields vs)
   (hn:["enumerate","zip","dict_itemiterator","dict_reverseitemiterator","odict_iterator","itertools.zip_longest","itertools.pairwise"].contains n=false) (hQ:Q () s):wpAny M A (letOwnedTupleGo tg (.ref it) u) Q E s:=by
 unfold letOwnedTupleGo;cases tg<;>first
   | exact wpAny_pure hQ
   | (cases u<;>first
       | exact wpAny_pure hQ
       | (refine wpAny_bind (wpAny_load ho ?_)
          rw [hc,hd]
          show wpAny M A (if (["enumerate","zip","dict_itemiterator","dict_reverseitemiterator","odict_iterator","itertools.zip_longest","itertools.pairwise"].contains n&&vs[0]?==some (rawInt _))=true then _ else _) Q E s
          rw [if_neg (by intro h;rw [hn,Bool.false_and] at h;cases h)]
          exact wpAny_pure hQ))
def Xy (K:Zqq) (a:Addr):It:=
 ⟨fun i H=>∃ xs x,bI K H a xs/\xs[i]?=some x,fun i H x H'=>H'=H/\∀ xs,bI K H a xs->xs[i]?=some x,fun i H=>∃ xs,bI K H a xs/\xs.length<=i⟩
def Itt (K:Zqq) (a:Addr):It:=
 ⟨fun i H=>∃ xs x,nU K H a xs/\xs[i]?=some x,fun i H x H'=>H'=H/\∀ xs,nU K H a xs->xs[i]?=some x,fun i H=>∃ xs,nU K H a xs/\xs.length<=i⟩
def Vu (lo:Int) (n:Nat):It:=⟨fun i _=>i < n,fun i H x H'=>H'=H/\x=.int (lo+i),fun i _=>n<=i⟩
theorem PD {P:Program} {w:World} {K:Zqq} {tg:Expr} (a it:Addr):Turn P w K tg (Xy K a) [it] it (fun i h=>h.IsListIter it a i) where
 mem:=by simp
 obj:=fun i h st b hb=>by
  have e:b=it:=by simpa using hb
  subst e
  obtain ⟨o,e,c,d⟩:=st
  exact ⟨o,e,fun v z=>by rw [d] at z;cases z⟩
 keep:=fun i h h' st k=>st.at fun o e=>k it (by simp) o e
 item:=by
  intro X hP hw hK hc i pins s σ H E I hf st hg;subst hP hw hK;obtain ⟨xs,x,hq,hx⟩:=hg;obtain ⟨its,rv,p,hz⟩:=I.list hq;obtain ⟨u,hu,ru⟩:=rv.get hx;obtain ⟨f0,f1,f2,f3,f4,f5⟩:=hf it (by simp);refine wpAny_pyNext_list_item st p.isList (x:=u) (by simpa using hu) fun h' st' sb=>?_;have I1:Inv X pins σ H { s with heap:=h' }:=I.turned (t':=s.toks) (fun b o hb e=>(sb.2 b hb).trans e) f0 f1 f3 f4 f5
  obtain ⟨o,e,c,d⟩:=id st';exact ⟨u,rfl,Hr (s:={ s with heap:=h' }) e c d (by decide) ⟨x,H,I1,ru,⟨rfl,fun ys hy=>by rw [I.KI hy hq];exact hx⟩,st',fun b hb=>(hf b hb).1⟩⟩
 done:=by
  intro X hP hw hK hc i pins s σ H E I hf st hg;subst hP hw hK;obtain ⟨xs,hq,hx⟩:=hg;obtain ⟨its,rv,p,hz⟩:=I.list hq;obtain ⟨f0,f1,f2,f3,f4,f5⟩:=hf it (by simp);have hl:=rv.length;exact wpAny_pyNext_list_end (I.ok.hd hc) st p.isList (by simp;omega) fun h' eb=>⟨rfl,I.turned (t':=s.toks) (fun b o hb e=>eb b o hb e) f0 f1 f3 f4 f5⟩
 self:=fun _ _ _ _ _ st h=>wpAny_pyIter_listiter st h
theorem Nf {P:Program} {w:World} {K:Zqq} {tg:Expr} (a it:Addr):Turn P w K tg (Itt K a) [it] it (fun i h=>h.IsTupleIter it a i) where
 mem:=by simp
 obj:=fun i h st b hb=>by
  have e:b=it:=by simpa using hb
  subst e
  obtain ⟨o,e,c,d⟩:=st
  exact ⟨o,e,fun v z=>by rw [d] at z;cases z⟩
 keep:=fun i h h' st k=>st.at fun o e=>k it (by simp) o e
 item:=by
  intro X hP hw hK hc i pins s σ H E I hf st hg;subst hP hw hK;obtain ⟨xs,x,hq,hx⟩:=hg;obtain ⟨its,rv,p,hz⟩:=I.tuple hq;obtain ⟨u,hu,ru⟩:=rv.get hx;obtain ⟨f0,f1,f2,f3,f4,f5⟩:=hf it (by simp);refine wpAny_pyNext_tuple_item st (show s.heap.IsTuple a its.toArray from p) (x:=u) (by simpa using hu) fun h' st' sb=>?_;have I1:Inv X pins σ H { s with heap:=h' }:=I.turned (t':=s.toks) (fun b o hb e=>(sb.2 b hb).trans e) f0 f1 f3 f4 f5
  obtain ⟨o,e,c,d⟩:=id st';exact ⟨u,rfl,Hr (s:={ s with heap:=h' }) e c d (by decide) ⟨x,H,I1,ru,⟨rfl,fun ys hy=>by rw [I.P0 hy hq];exact hx⟩,st',fun b hb=>(hf b hb).1⟩⟩
 done:=by
  intro X hP hw hK hc i pins s σ H E I hf st hg;subst hP hw hK;obtain ⟨xs,hq,hx⟩:=hg;obtain ⟨its,rv,p,hz⟩:=I.tuple hq;obtain ⟨f0,f1,f2,f3,f4,f5⟩:=hf it (by simp);have hl:=rv.length;exact wpAny_pyNext_tuple_end (I.ok.hd hc) st (show s.heap.IsTuple a its.toArray from p) (by simp;omega) fun h' eb=>⟨rfl,I.turned (t':=s.toks) (fun b o hb e=>eb b o hb e) f0 f1 f3 f4 f5⟩
 self:=fun _ _ _ _ _ st h=>wpAny_pyIter_tupleiter st h
theorem Ng {P:Program} {w:World} {K:Zqq} {tg:Expr} (it:Addr) (lo:Int) (n:Nat):Turn P w K tg (Vu lo n) [it] it (fun i h=>IsRangeIter h it (lo+(i:Nat) * 1) ((n:Int) - (i:Nat)) 1) where
 mem:=by simp
 obj:=fun i h st b hb=>by
  have e:b=it:=by simpa using hb
  subst e
  exact ⟨_,st,fun v z=>by
   have z':Data.fields _=Data.cell v:=z
   cases z'⟩
 keep:=fun i h h' st k=>k it (by simp) _ st
 item:=by
  intro X hP hw hK hc i pins s σ H E I hf st hg;subst hP hw hK;obtain ⟨f0,f1,f2,f3,f4,f5⟩:=hf it (by simp);have W:=Walks.range (prog:=X.prog) (w:=X.w) (I.ok.hd hc) it lo 1 n;refine W.item i s _ _ hg st fun v h' tk hv st' kk=>?_;obtain ⟨t,rfl⟩:=hv;have I1:Inv X pins σ H { s with heap:=h',toks:=tk }:=I.turned (fun b o hb e=>kk b o (by simpa using hb) e) f0 f1 f3 f4 f5
  refine ⟨_,rfl,Hr (s:={ s with heap:=h',toks:=tk }) (n:="range_iterator") st' rfl rfl (by decide) ⟨.int (lo+i),H,I1,⟨t,?_⟩,⟨rfl,rfl⟩,st',fun b hb=>(hf b hb).1⟩⟩
  rw [Int.mul_one]
 done:=by
  intro X hP hw hK hc i pins s σ H E I hf st hg;subst hP hw hK;obtain ⟨f0,f1,f2,f3,f4,f5⟩:=hf it (by simp);exact wpAny_pyNext_range_end (I.ok.hd hc) st (by have:n<=i:=hg;omega) fun h' eb=>⟨rfl,I.turned (t':=s.toks) (fun b o hb e=>eb b o hb e) f0 f1 f3 f4 f5⟩
 self:=fun _ _ _ _ _ st h=>wpAny_pyIter_rangeiter st h
end L2
namespace L2
open PySem PySem.Spec PyProof.Rows
section
variable {X:Cx} {tg:Expr}
def aai (K:Zqq) (tl:TE):TI:=fun σ H R=>tl σ H fun x H1=>∃ a,x=.ref a/\(∃ xs,bI K H1 a xs)/\R (Xy K a) H1
def ab8 (K:Zqq) (tl:TE):TI:=fun σ H R=>tl σ H fun x H1=>∃ a,x=.ref a/\(∃ xs,nU K H1 a xs)/\R (Itt K a) H1
theorem gD {l:Expr} {tl:TE} (hl:PE X l tl):PI X tg l (aai X.K tl):=by
 intro pins s σ H R I h;refine dZ (hl pins s σ H _ I h) fun v s1 ⟨x,H1,I1,r1,q1⟩=>?_;obtain ⟨a,e,⟨xs,hq⟩,q⟩:=q1;subst e;cases r1;obtain ⟨its,rv,p,hz⟩:=I1.list hq;refine wpAny_pyIter_list p.isList ?_;refine ⟨s1.heap.objs.size,[s1.heap.objs.size],_,_,H1,rfl,I1.kept (t':=s1.toks) fun b o e=>Heap.get?_push_of_some _ e,PD a _,⟨_,Heap.get?_push_size _ rfl,rfl,rfl⟩,fun b hb=>?_,q⟩;have e:b=s1.heap.objs.size:=by simpa using hb
 subst e;exact I1.PB (Nat.le_refl _) (I1.hok.fresh (Nat.le_refl _))
theorem Nh {l:Expr} {tl:TE} (hl:PE X l tl):PI X tg l (ab8 X.K tl):=by
 intro pins s σ H R I h;refine dZ (hl pins s σ H _ I h) fun v s1 ⟨x,H1,I1,r1,q1⟩=>?_;obtain ⟨a,e,⟨xs,hq⟩,q⟩:=q1;subst e;cases r1;obtain ⟨its,rv,p,hz⟩:=I1.tuple hq;refine wpAny_pyIter_tuple (show s1.heap.IsTuple a its.toArray from p) ?_;refine ⟨s1.heap.objs.size,[s1.heap.objs.size],_,_,H1,rfl,I1.kept (t':=s1.toks) fun b o e=>Heap.get?_push_of_some _ e,Nf a _,⟨_,Heap.get?_push_size _ rfl,rfl,rfl⟩,fun b hb=>?_,q⟩;have e:b=s1.heap.objs.size:=by simpa using hb
 subst e;exact I1.PB (Nat.le_refl _) (I1.hok.fresh (Nat.le_refl _))
theorem RZ {pins:List (Addr×Obj)} {σ:St} {H:Hp} {s:Shared} {R:It->Hp->Prop} {E:Value->Shared->Prop} {lo hi:Int} {t u v:Tok} {tk:Nat} (I:Inv X pins σ H s) (h1:-(2 ^ 62)<=lo) (h2:lo < 2 ^ 62) (h3:-(2 ^ 62)<=hi) (h4:hi < 2 ^ 62)
   (q:R (Vu lo (hi - lo).toNat) H):wpAny (model X.prog X.w) X.A (pyIter (.ref s.heap.objs.size)) (PIE X pins σ tg R) E { s with heap:=s.heap.push { cls:=.type "range",data:=.fields #[.int lo t,.int hi u,.int 1 v] },toks:=tk }:=by
 refine wpAny_pyIter_range (IsRange.new ..) (small_one h1 h2 h3 h4) ?_;have I1:Inv X pins σ H { s with heap:=s.heap.push { cls:=.type "range",data:=.fields #[.int lo t,.int hi u,.int 1 v] },toks:=tk }:=I.kept fun b o e=>Heap.get?_push_of_some _ e
 refine ⟨(s.heap.push { cls:=.type "range",data:=.fields #[.int lo t,.int hi u,.int 1 v] }).objs.size,[(s.heap.push { cls:=.type "range",data:=.fields #[.int lo t,.int hi u,.int 1 v] }).objs.size],_,_,H,rfl,
   I1.kept (t':=tk) fun b o e=>Heap.get?_push_of_some _ e,Ng _ lo (hi - lo).toNat,?_,fun b hb=>?_,q⟩
 . have e1:lo+((0:Nat):Int) * 1=lo:=by simp
   have e2:(((hi - lo).toNat:Nat):Int) - ((0:Nat):Int)=Builtin.Range.rangeSize lo hi 1:=by rw [rangeSize_one];split<;>omega
   show IsRangeIter _ _ (lo+((0:Nat):Int) * 1) ((((hi - lo).toNat:Nat):Int) - ((0:Nat):Int)) 1;rw [e1,e2];exact Heap.get?_push_size _ rfl
 . have e:b=(s.heap.push { cls:=.type "range",data:=.fields #[.int lo t,.int hi u,.int 1 v] }).objs.size:=by simpa using hb
   subst e;exact I1.PB (Nat.le_refl _) (I1.hok.fresh (Nat.le_refl _))
def aaj (ta:TA):TI:=fun σ H R=>ta σ H fun vs H1=>∃ j:Int,vs=[.int j]/\-(2 ^ 62)<=j/\j < 2 ^ 62/\R (Vu 0 j.toNat) H1
theorem mK {a:Expr} {ta:TA} {p pos:Pos} (hg:Gl X "range") (hm:X.mg "range"=none) (ha:PA X [a] ta) (hs:starEach [a] X.env=[(false,eval a X.env)]:=by rfl):PI X tg (.Call (.Name "range" p) [a] [] pos) (aaj ta):=by
 intro pins s σ H R I h;refine Call_ (zm I hg hm boot_range (PyProof.Rows.callWith_type1 (dZ (ha pos pins s σ H _ I h) fun us s1 ⟨vs,H1,I1,r1,q1⟩=>?_) hs rfl));obtain ⟨j,e,q1,q2,q⟩:=q1;subst e;cases r1 with
 | cons r rr=>
  cases rr;obtain ⟨t,rfl⟩:=r;exact call_range_1 (RZ I1 (by omega) (by omega) q1 q2 (by simpa using q))
def ab9 (wi:TI) (g:TG) (tb:TS):TS:=fun D σ H=>wi σ H fun J H1=>∃ W:Nat->Nat->St->Hp->Prop,(∃ m,W 0 m σ H1)/\∀ i m σ H,W i m σ H->
 (J.stop i H/\D.nx σ H)\/(J.go i H/\∃ N:St->Hp->Prop,(∀ σ' H',N σ' H'->∃ m',m' < m/\W (i+1) m' σ' H')/\∀ x H',J.RY i H x H'->g x σ H' fun σ2 H2=>tb { D with nx:=N,ct:=N,bk:=D.nx } σ2 H2)
def DY (fp:List Addr) (h:Heap):List (Addr×Obj):=fp.filterMap fun b=>(h.get? b).map fun o=>(b,o)
theorem zo {fp:List Addr} {h:Heap} {b:Addr} {o:Obj} (hb:b ∈ fp) (e:h.get? b=some o):(b,o) ∈ DY fp h:=List.mem_filterMap.mpr ⟨b,hb,by rw [e];rfl⟩
theorem PF {fp:List Addr} {h:Heap} {p:Addr×Obj} (hp:p ∈ DY fp h):p.1 ∈ fp/\h.get? p.1=some p.2:=by
 obtain ⟨b,hb,e⟩:=List.mem_filterMap.mp hp;cases q:h.get? b with
 | none=>rw [q] at e;cases e
 | some o=>
  rw [q] at e;have e':(b,o)=p:=Option.some.inj e;subst e';exact ⟨hb,q⟩
theorem Inv.pinned {pins:List (Addr×Obj)} {σ:St} {H:Hp} {s:Shared} {fp:List Addr} (I:Inv X pins σ H s) (hf:∀ b ∈ fp,DX X pins H b) (ho:∀ b ∈ fp,∃ o,s.heap.get? b=some o/\∀ v,o.data ≠ .cell v):Inv X (pins++DY fp s.heap) σ H s:=
 I.Ou fun p hp=>(List.mem_append.mp hp).elim (fun z=>I.pin p (List.mem_append_right _ z)) fun z=>by
  obtain ⟨hb,e⟩:=PF z
  obtain ⟨f0,f1,f2,_⟩:=hf p.1 hb
  obtain ⟨o,e',d⟩:=ho p.1 hb
  rw [e] at e';cases e'
  exact ⟨e,f0,f1,f2,d⟩
theorem Inv.zZ {pins pl:List (Addr×Obj)} {σ:St} {H:Hp} {s:Shared} (I:Inv X (pins++pl) σ H s):Inv X pins σ H s:=I.Ou fun p hp=>I.pin p (List.mem_append_right _ (List.mem_append_left _ hp))
theorem fj {iter:Expr} {body:List Stmt} {wi:TI} {g:TG} {tb:TS} {pos:Pos} (hp:PassesOwn (model X.prog X.w) X.A X.env X.xe) (hc:X.calm=true) (hi:PI X tg iter wi) (hg:PG X tg g) (hb:KH X body tb)
   (hs:∀ x,foldedSetIterable iter X.env x=pure x:=by intro _;rfl):PS X (.For tg iter body [] pos) (ab9 wi g tb):=by
 intro pins s σ H D I h;refine wpAny_For (dZ (hi pins s σ H _ I h) fun v s1 h1=>dZ h1 fun itv s2 h2=>?_) hs;obtain ⟨it,fp,tn,J,H2,e,I2,T,st2,f2,W,⟨m0,w0⟩,turn⟩:=h2;subst e;have Ni:∀ {H':Hp},(∀ b ∈ fp,H' b=none)->∀ b ∈ fp,DX X pins H' b:=fun hn b hb=>⟨hn b hb,(f2 b hb).2⟩;refine codeAny_forLoop_any (fun n s'=>∃ i σ' H',Inv X pins σ' H' s'/\tn i s'.heap/\(∀ b ∈ fp,H' b=none)/\W i n σ' H') ?_ m0 ⟨0,σ,H2,I2,st2,fun b hb=>(f2 b hb).1,w0⟩;rintro n s3 ⟨i,σ3,H3,I3,st3,fr3,w3⟩;rcases turn i n σ3 H3 w3 with ⟨stop,qn⟩ | ⟨go,N,hN,step⟩
 . refine wpAny_passesOwn hp (dZ (T.done X rfl rfl rfl hc i pins s3 σ3 H3 X.xe I3 (Ni fr3) st3 stop) fun r s4 ⟨hr,I4⟩=>?_)
   subst hr;exact wpAny_execs_nil ⟨σ3,H3,I4,qn⟩
 . refine wpAny_passesOwn hp (dZ (T.item X rfl rfl rfl hc i pins s3 σ3 H3 X.xe I3 (Ni fr3) st3 go) fun r s4 ⟨u,hr,h4⟩=>?_)
   subst hr;refine wpAny_passesOwn hp (dZ h4 fun _ s5 ⟨x,H5,I5,r5,y5,ZX,fr5⟩=>?_);have I5':=I5.pinned (Ni fr5) (T.obj _ _ ZX);refine wpAny_passesOwn hp (dZ (hg _ s5 σ3 H5 x u _ I5' r5 (step x H5 y5)) fun _ s6 ⟨σ6,H6,I6,q6⟩=>?_);refine wpAny_passesOwn hp (dZ (hb _ s6 σ6 H6 _ I6 q6) fun f s7 q7=>?_);have again:∀ {σ7:St} {H7:Hp},Inv X (pins++DY fp s5.heap) σ7 H7 s7->N σ7 H7->∃ m,m < n/\∃ i σ' H',Inv X pins σ' H' s7/\tn i s7.heap/\(∀ b ∈ fp,H' b=none)/\W i m σ' H':=fun {σ7 H7} I7 n7=>by
     obtain ⟨m',hm,w7⟩:=hN σ7 H7 n7;refine ⟨m',hm,i+1,σ7,H7,I7.zZ,T.keep _ _ _ ZX fun b hb o e=>(I7.pin (b,o) (List.mem_append_right _ (List.mem_append_right _ (zo hb e)))).1,fun b hb=>?_,w7⟩;obtain ⟨o,e,d⟩:=T.obj _ _ ZX b hb;exact (I7.pin (b,o) (List.mem_append_right _ (List.mem_append_right _ (zo hb e)))).2.1
   cases f with
   | next=>obtain ⟨σ7,H7,I7,n7⟩:=q7;exact again I7 n7
   | cont=>obtain ⟨σ7,H7,I7,n7⟩:=q7;exact again I7 n7
   | brk=>obtain ⟨σ7,H7,I7,q7⟩:=q7;exact ⟨σ7,H7,I7.zZ,q7⟩
   | ret v=>obtain ⟨x7,σ7,H7,I7,r7,q7⟩:=q7;exact ⟨x7,σ7,H7,I7.zZ,r7,q7⟩
end
theorem ph {K:Zqq} {a:Addr} {xs:List V} {g:TG} {tb:TS} {D:Ends} {σ:St} {H:Hp} (Pv:Nat->St->Hp->Prop) (h0:Pv 0 σ H) (hl:∀ i σ H,i<=xs.length->Pv i σ H->bI K H a xs)
   (hs:∀ i x σ H,xs[i]?=some x->Pv i σ H->g x σ H fun σ2 H2=>tb { D with nx:=Pv (i+1),ct:=Pv (i+1),bk:=D.nx } σ2 H2) (hd:∀ σ H,Pv xs.length σ H->D.nx σ H) :
   ∃ W:Nat->Nat->St->Hp->Prop,(∃ m,W 0 m σ H)/\∀ i m σ H,W i m σ H->
     ((Xy K a).stop i H/\D.nx σ H)\/((Xy K a).go i H/\∃ N:St->Hp->Prop,(∀ σ' H',N σ' H'->∃ m',m' < m/\W (i+1) m' σ' H')/\∀ x H',(Xy K a).RY i H x H'->g x σ H' fun σ2 H2=>tb { D with nx:=N,ct:=N,bk:=D.nx } σ2 H2):=by
 refine ⟨fun i m σ H=>m=xs.length - i/\i<=xs.length/\Pv i σ H,⟨xs.length,by simp,Nat.zero_le _,h0⟩,?_⟩;rintro i m σ H ⟨rfl,hi,p⟩;have q:=hl i σ H hi p;by_cases hlt:i < xs.length
 . refine .inr ⟨⟨xs,xs[i],q,by simp [hlt]⟩,Pv (i+1),fun σ' H' p'=>⟨xs.length - (i+1),by omega,rfl,hlt,p'⟩,fun x H' y=>?_⟩
   obtain ⟨e,y⟩:=y;subst e;exact hs i x σ _ (y xs q) p
 . have e:i=xs.length:=by omega
   subst e;exact .inl ⟨⟨xs,q,Nat.le_refl _⟩,hd σ H p⟩
theorem IC {K:Zqq} {a:Addr} {xs:List V} {g:TG} {tb:TS} {D:Ends} {σ:St} {H:Hp} (Pv:Nat->St->Hp->Prop) (h0:Pv 0 σ H) (hl:∀ i σ H,i<=xs.length->Pv i σ H->nU K H a xs)
   (hs:∀ i x σ H,xs[i]?=some x->Pv i σ H->g x σ H fun σ2 H2=>tb { D with nx:=Pv (i+1),ct:=Pv (i+1),bk:=D.nx } σ2 H2) (hd:∀ σ H,Pv xs.length σ H->D.nx σ H) :
   ∃ W:Nat->Nat->St->Hp->Prop,(∃ m,W 0 m σ H)/\∀ i m σ H,W i m σ H->
     ((Itt K a).stop i H/\D.nx σ H)\/((Itt K a).go i H/\∃ N:St->Hp->Prop,(∀ σ' H',N σ' H'->∃ m',m' < m/\W (i+1) m' σ' H')/\∀ x H',(Itt K a).RY i H x H'->g x σ H' fun σ2 H2=>tb { D with nx:=N,ct:=N,bk:=D.nx } σ2 H2):=by
 refine ⟨fun i m σ H=>m=xs.length - i/\i<=xs.length/\Pv i σ H,⟨xs.length,by simp,Nat.zero_le _,h0⟩,?_⟩;rintro i m σ H ⟨rfl,hi,p⟩;have q:=hl i σ H hi p;by_cases hlt:i < xs.length
 . refine .inr ⟨⟨xs,xs[i],q,by simp [hlt]⟩,Pv (i+1),fun σ' H' p'=>⟨xs.length - (i+1),by omega,rfl,hlt,p'⟩,fun x H' y=>?_⟩
   obtain ⟨e,y⟩:=y;subst e;exact hs i x σ _ (y xs q) p
 . have e:i=xs.length:=by omega
   subst e;exact .inl ⟨⟨xs,q,Nat.le_refl _⟩,hd σ H p⟩
theorem qI {lo:Int} {n:Nat} {g:TG} {tb:TS} {D:Ends} {σ:St} {H:Hp} (Pv:Nat->St->Hp->Prop) (h0:Pv 0 σ H)
   (hs:∀ i σ H,i < n->Pv i σ H->g (.int (lo+i)) σ H fun σ2 H2=>tb { D with nx:=Pv (i+1),ct:=Pv (i+1),bk:=D.nx } σ2 H2) (hd:∀ σ H,Pv n σ H->D.nx σ H) :
   ∃ W:Nat->Nat->St->Hp->Prop,(∃ m,W 0 m σ H)/\∀ i m σ H,W i m σ H->
     ((Vu lo n).stop i H/\D.nx σ H)\/((Vu lo n).go i H/\∃ N:St->Hp->Prop,(∀ σ' H',N σ' H'->∃ m',m' < m/\W (i+1) m' σ' H')/\∀ x H',(Vu lo n).RY i H x H'->g x σ H' fun σ2 H2=>tb { D with nx:=N,ct:=N,bk:=D.nx } σ2 H2):=by
 refine ⟨fun i m σ H=>m=n - i/\i<=n/\Pv i σ H,⟨n,by simp,Nat.zero_le _,h0⟩,?_⟩;rintro i m σ H ⟨rfl,hi,p⟩;by_cases hlt:i < n
 . refine .inr ⟨hlt,Pv (i+1),fun σ' H' p'=>⟨n - (i+1),by omega,rfl,hlt,p'⟩,fun x H' y=>?_⟩
   obtain ⟨e,y⟩:=y;subst e y;exact hs i σ _ hlt p
 . have e:i=n:=by omega
   subst e;exact .inl ⟨Nat.le_refl _,hd σ H p⟩
theorem Sa {c:TT} {tb:TS} {D:Ends} {σ:St} {H:Hp} (Pv:St->Hp->Prop) (μ:St->Hp->Nat) (h0:Pv σ H)
  (hs:∀ σ H,Pv σ H->c σ H fun b H1=>if b=true then tb { D with nx:=fun σ' H'=>Pv σ' H'/\μ σ' H' < μ σ H,ct:=fun σ' H'=>Pv σ' H'/\μ σ' H' < μ σ H,bk:=D.nx } σ H1 else D.nx σ H1)
  (mono:∀ σ H Q Q',(∀ b H1,Q b H1->Q' b H1)->c σ H Q->c σ H Q'):Nd c tb D σ H:=by
 refine ⟨fun m σ H=>m=μ σ H/\Pv σ H,⟨_,rfl,h0⟩,?_⟩;rintro m σ H ⟨rfl,p⟩;refine mono σ H _ _ (fun b H1 q=>?_) (hs σ H p);cases b with
 | true=>exact ⟨_,fun σ' H' ⟨p',l⟩=>⟨_,l,rfl,p'⟩,q⟩
 | false=>exact q
end L2
namespace L2
open PySem PySem.Spec PyProof.Rows
abbrev R2:=V->V->Hp->VK->Prop
def C1 (X:Cx) (f:Value->Value->Sem Value) (r:R2):Prop:=
 ∀ (pins:List (Addr×Obj)) (s:Shared) (σ:St) (H:Hp) (x y:V) (v u:Value) (Q:VK),Inv X pins σ H s->RelV x v->RelV y u->r x y H Q->
   wpAny (model X.prog X.w) X.A (f v u) (EP X pins σ Q) X.xe s
def UnR (X:Cx) (f:Value->Sem Value) (r:V->Hp->VK->Prop):Prop:=
 ∀ (pins:List (Addr×Obj)) (s:Shared) (σ:St) (H:Hp) (x:V) (v:Value) (Q:VK),Inv X pins σ H s->RelV x v->r x H Q->
   wpAny (model X.prog X.w) X.A (f v) (EP X pins σ Q) X.xe s
def Hs (X:Cx) (f:Value) (r:List V->Hp->VK->Prop):Prop:=
 ∀ (pins:List (Addr×Obj)) (s:Shared) (σ:St) (H:Hp) (xs:List V) (us:List Value) (Q:VK),Inv X pins σ H s->Vals xs us->r xs H Q->
   wpAny (model X.prog X.w) X.A (call f us) (EP X pins σ Q) X.xe s
def abA (X:Cx) (r:V->Hp->(Bool->Hp->Prop)->Prop):Prop:=
 ∀ (pins:List (Addr×Obj)) (s:Shared) (σ:St) (H:Hp) (x:V) (v:Value) (Q:Bool->Hp->Prop),Inv X pins σ H s->RelV x v->r x H Q->
   wpAny (model X.prog X.w) X.A (truthy v) (TP X pins σ Q) X.xe s
def tOp (r:R2) (ta tb:TE):TE:=fun σ H Q=>ta σ H fun x H1=>tb σ H1 fun y H2=>r x y H2 Q
def tUn (r:V->Hp->VK->Prop) (ta:TE):TE:=fun σ H Q=>ta σ H fun x H1=>r x H1 Q
def rI (C:Int->Int->Prop) (g:Int->Int->V):R2:=fun x y H Q=>∃ i j,x=.int i/\y=.int j/\C i j/\Q (g i j) H
def Vv (g:Int->Int->V):R2:=fun x y H Q=>∃ i j,x=.int i/\y=.int j/\Q (g i j) H
def rU (g:Int->V):V->Hp->VK->Prop:=fun x H Q=>∃ i,x=.int i/\Q (g i) H
section
variable {X:Cx} {a b c:Expr} {ta tb tc:TE} {pos:Pos}
theorem Ys (ha:PE X a ta) (hb:PE X b tb) {pins:List (Addr×Obj)} {s:Shared} {σ:St} {H:Hp} {R:V->V->Hp->Prop} (I:Inv X pins σ H s)
  (h:ta σ H fun x H1=>tb σ H1 fun y H2=>R x y H2) {Q:Value->Shared->Prop} {f:Value->Value->Sem Value}
  (hf:∀ v u s2 x y H2,Inv X pins σ H2 s2->RelV x v->RelV y u->R x y H2->wpAny (model X.prog X.w) X.A (f v u) Q X.xe s2) :
  wpAny (model X.prog X.w) X.A (eval a X.env) (fun v s₁=>wpAny (model X.prog X.w) X.A (eval b X.env) (fun u s₂=>wpAny (model X.prog X.w) X.A (f v u) Q X.xe s₂) X.xe s₁) X.xe s:=by
 refine dZ (ha pins s σ H _ I h) fun v s1 ⟨x,H1,I1,r1,q1⟩=>?_;refine dZ (hb pins s1 σ H1 _ I1 q1) fun u s2 ⟨y,H2,I2,r2,q2⟩=>?_;exact hf v u s2 x y H2 I2 r1 r2 q2
theorem gU {op:Operator} {r:R2} (ho:C1 X (binaryOp op) r) (ha:PE X a ta) (hb:PE X b tb):PE X (.BinOp a op b pos) (tOp r ta tb):=by
 intro pins s σ H Q I h;exact wpAny_BinOp (Ys ha hb I h fun v u s2 x y H2 I2 rx ry q=>ho pins s2 σ H2 x y v u Q I2 rx ry q)
theorem Ov {op:UnaryOp} {r:V->Hp->VK->Prop} (ho:UnR X (unaryOp op) r) (ha:PE X a ta):PE X (.UnaryOp op a pos) (tUn r ta):=by
 intro pins s σ H Q I h;exact UnaryOp_ (dZ (ha pins s σ H _ I h) fun v s1 ⟨x,H1,I1,r1,q1⟩=>ho pins s1 σ H1 x v Q I1 r1 q1)
theorem opI {f:Value->Value->Sem Value} {C:Int->Int->Prop} {g:Int->Int->Int}
  (rule:∀ (i j:Int) (t u:Tok) (s:Shared) (Q:Value->Shared->Prop) (E:Value->Shared->Prop),C i j->Q (.int (g i j) s.toks) { s with toks:=s.toks+1 }->wpAny (model X.prog X.w) X.A (f (.int i t) (.int j u)) Q E s) :
  C1 X f (rI C fun i j=>.int (g i j)):=by
 intro pins s σ H x y v u Q I rx ry h;obtain ⟨i,j,rfl,rfl,hc,q⟩:=h;obtain ⟨t,rfl⟩:=rx;obtain ⟨t',rfl⟩:=ry;exact rule i j t t' s _ _ hc ⟨.int (g i j),H,I.tok _,⟨_,rfl⟩,q⟩
theorem Vw {f:Value->Value->Sem Value} {g:Int->Int->Int}
  (rule:∀ (i j:Int) (t u:Tok) (s:Shared) (Q:Value->Shared->Prop) (E:Value->Shared->Prop),Q (.int (g i j) s.toks) { s with toks:=s.toks+1 }->wpAny (model X.prog X.w) X.A (f (.int i t) (.int j u)) Q E s) :
  C1 X f (Vv fun i j=>.int (g i j)):=by
 intro pins s σ H x y v u Q I rx ry h;obtain ⟨i,j,rfl,rfl,q⟩:=h;obtain ⟨t,rfl⟩:=rx;obtain ⟨t',rfl⟩:=ry;exact rule i j t t' s _ _ ⟨.int (g i j),H,I.tok _,⟨_,rfl⟩,q⟩
theorem Yt {f:Value->Value->Sem Value} {g:Int->Int->Bool}
  (rule:∀ (i j:Int) (t u:Tok) (s:Shared) (Q:Value->Shared->Prop) (E:Value->Shared->Prop),Q (.bool (g i j)) s->wpAny (model X.prog X.w) X.A (f (.int i t) (.int j u)) Q E s) :
  C1 X f (Vv fun i j=>.bl (g i j)):=by
 intro pins s σ H x y v u Q I rx ry h;obtain ⟨i,j,rfl,rfl,q⟩:=h;obtain ⟨t,rfl⟩:=rx;obtain ⟨t',rfl⟩:=ry;exact rule i j t t' s _ _ ⟨.bl (g i j),H,I,rfl,q⟩
def abB (i j:Int):Prop:=0<=j/\j<=1000000/\i.natAbs < 2 ^ 64
def Yu (i j:Int):Prop:=(-(2 ^ 64) < i/\i < 2 ^ 64)\/(-(2 ^ 64) < j/\j < 2 ^ 64)
theorem Yu.ok {i j:Int} (h:Yu i j):IntMulOk i j:=by
 rcases h with ⟨h1,h2⟩ | ⟨h1,h2⟩
 . exact .of_left (intBits_le_64 h1 h2)
 . exact .of_right (intBits_le_64 h1 h2)
theorem uS:C1 X (binaryOp .Add) (Vv fun i j=>.int (i+j)):=Vw fun _ _ _ _ _ _ _ q=>add_int q
theorem wU:C1 X (binaryOp .Sub) (Vv fun i j=>.int (i - j)):=Vw fun _ _ _ _ _ _ _ q=>sub_int q
theorem Nj:C1 X (binaryOp .Mult) (rI Yu fun i j=>.int (i * j)):=opI fun _ _ _ _ _ _ _ hc q=>mul_int q hc.ok
theorem Yv:C1 X (binaryOp .Mod) (rI (fun _ j=>0 < j) fun i j=>.int (i % j)):=opI fun i j _ _ _ _ _ hc q=>by
 have h1:(0:Int) < j:=hc
 exact mod_int' (by omega) (by rw [Int.fmod_eq_emod_of_nonneg i (by omega)];exact q)
theorem Sb:C1 X (binaryOp .LShift) (rI abB fun i j=>.int (i * 2 ^ j.toNat)):=opI fun _ _ _ _ _ _ _ hc q=>lshift_int_small hc.1 hc.2.1 hc.2.2 q
theorem Yw:C1 X (binaryOp .BitAnd) (Vv fun i j=>.int (Builtin.bitAnd i j)):=Vw fun _ _ _ _ _ _ _ q=>and_int q
theorem Xz:C1 X (binaryOp .BitOr) (Vv fun i j=>.int (Builtin.bitOr i j)):=Vw fun _ _ _ _ _ _ _ q=>or_int q
theorem unI {f:Value->Sem Value} {g:Int->Int}
  (rule:∀ (i:Int) (t:Tok) (s:Shared) (Q:Value->Shared->Prop) (E:Value->Shared->Prop),Q (.int (g i) s.toks) { s with toks:=s.toks+1 }->wpAny (model X.prog X.w) X.A (f (.int i t)) Q E s) :
  UnR X f (rU fun i=>.int (g i)):=by
 intro pins s σ H x v Q I rx h;obtain ⟨i,rfl,q⟩:=h;obtain ⟨t,rfl⟩:=rx;exact rule i t s _ _ ⟨.int (g i),H,I.tok _,⟨_,rfl⟩,q⟩
theorem ID:UnR X (unaryOp .USub) (rU fun i=>.int (-i)):=unI fun _ _ _ _ _ q=>neg_int q
end
def aak:V->V->Bool
 | .non,.non=>true | .non,.int _=>true | .int _,.non=>true | .non,.bl _=>true | .bl _,.non=>true | .non,.str _=>true | .str _,.non=>true
 | .int _,.int _=>true | .bl _,.bl _=>true | .str _,.str _=>true | .Iw _,.Iw _=>true
 | .int _,.str _=>true | .str _,.int _=>true | .bl _,.str _=>true | .str _,.bl _=>true
 | _,_=>false
def rEq:R2:=fun x y H Q=>aak x y=true/\Q (.bl (decide (x=y))) H
def rNe:R2:=fun x y H Q=>aak x y=true/\Q (.bl (!decide (x=y))) H
theorem Ow {i j:Int}:decide (V.int i=V.int j)=(i==j):=by
 rw [Bool.eq_iff_iff];simp
theorem Sd {i j:Bool}:decide (V.bl i=V.bl j)=(i==j):=by
 rw [Bool.eq_iff_iff];simp
theorem Ox {i j:Str}:decide (V.str i=V.str j)=(i==j):=by
 rw [Bool.eq_iff_iff];simp
theorem Oz {i j:Array UInt8}:decide (V.Iw i=V.Iw j)=(i.toList==j.toList):=by
 rw [Bool.eq_iff_iff];cases i;cases j;simp
section
variable {X:Cx} {a b c:Expr} {ta tb tc:TE} {pos:Pos}
theorem dX {pins:List (Addr×Obj)} {σ:St} {H:Hp} {s:Shared} {Q:VK} {k k':Bool} (I:Inv X pins σ H s) (q:Q (.bl k) H) (e:k=k'):EP X pins σ Q (.bool k') s:=by
 subst e;exact ⟨.bl k,H,I,rfl,q⟩
theorem nV:C1 X (compareOp .Eq) rEq:=by
 intro pins s σ H x y v u Q I rx ry h;obtain ⟨hs,q⟩:=h;cases x with
 | non=>
  cases rx;cases y with
  | non=>cases ry;exact PySem.EqNone.eq_none_none (dX I q (by simp))
  | bl j=>cases ry;exact PySem.EqNone.eq_none_bool (dX I q (by simp))
  | int j=>obtain ⟨t',rfl⟩:=ry;exact PySem.EqNone.eq_none_int (dX I q (by simp))
  | str j=>obtain ⟨t',rfl⟩:=ry;exact PySem.EqNone.eq_none_str (dX I q (by simp))
  | _=>exact absurd (show false=true from hs) Bool.false_ne_true
 | bl i=>
  cases rx;cases y with
  | non=>cases ry;exact PySem.EqNone.eq_bool_none (dX I q (by simp))
  | bl j=>cases ry;exact eq_bool (dX I q Sd)
  | str j=>obtain ⟨t',rfl⟩:=ry;exact PySem.EqMixed.eq_bool_str (dX I q (by simp))
  | _=>exact absurd (show false=true from hs) Bool.false_ne_true
 | int i=>
  obtain ⟨t,rfl⟩:=rx;cases y with
  | non=>cases ry;exact PySem.EqNone.eq_int_none (dX I q (by simp))
  | int j=>obtain ⟨t',rfl⟩:=ry;exact eq_int (dX I q Ow)
  | str j=>obtain ⟨t',rfl⟩:=ry;exact PySem.EqMixed.eq_int_str (dX I q (by simp))
  | _=>exact absurd (show false=true from hs) Bool.false_ne_true
 | str i=>
  obtain ⟨t,rfl⟩:=rx;cases y with
  | non=>cases ry;exact PySem.EqNone.eq_str_none (dX I q (by simp))
  | bl j=>cases ry;exact PySem.EqMixed.eq_str_bool (dX I q (by simp))
  | int j=>obtain ⟨t',rfl⟩:=ry;exact PySem.EqMixed.eq_str_int (dX I q (by simp))
  | str j=>obtain ⟨t',rfl⟩:=ry;exact eq_str (dX I q Ox)
  | _=>exact absurd (show false=true from hs) Bool.false_ne_true
 | Iw i=>
  obtain ⟨t,rfl⟩:=rx;cases y with
  | Iw j=>obtain ⟨t',rfl⟩:=ry;exact PySem.W.eq_bytes (dX I q Oz)
  | _=>exact absurd (show false=true from hs) Bool.false_ne_true
 | _=>cases y<;>exact absurd (show false=true from hs) Bool.false_ne_true
theorem vU:C1 X (compareOp .NotEq) rNe:=by
 intro pins s σ H x y v u Q I rx ry h;obtain ⟨hs,q⟩:=h;cases x with
 | non=>
  cases rx;cases y with
  | non=>cases ry;exact PySem.EqNone.ne_none_none (dX I q (by simp))
  | bl j=>cases ry;exact PySem.EqNone.ne_none_bool (dX I q (by simp))
  | int j=>obtain ⟨t',rfl⟩:=ry;exact PySem.EqNone.ne_none_int (dX I q (by simp))
  | str j=>obtain ⟨t',rfl⟩:=ry;exact PySem.EqNone.ne_none_str (dX I q (by simp))
  | _=>exact absurd (show false=true from hs) Bool.false_ne_true
 | bl i=>
  cases rx;cases y with
  | non=>cases ry;exact PySem.EqNone.ne_bool_none (dX I q (by simp))
  | bl j=>cases ry;exact ne_bool (dX I q (congrArg not Sd))
  | str j=>obtain ⟨t',rfl⟩:=ry;exact PySem.EqMixed.ne_bool_str (dX I q (by simp))
  | _=>exact absurd (show false=true from hs) Bool.false_ne_true
 | int i=>
  obtain ⟨t,rfl⟩:=rx;cases y with
  | non=>cases ry;exact PySem.EqNone.ne_int_none (dX I q (by simp))
  | int j=>obtain ⟨t',rfl⟩:=ry;exact ne_int (dX I q (congrArg not Ow))
  | str j=>obtain ⟨t',rfl⟩:=ry;exact PySem.EqMixed.ne_int_str (dX I q (by simp))
  | _=>exact absurd (show false=true from hs) Bool.false_ne_true
 | str i=>
  obtain ⟨t,rfl⟩:=rx;cases y with
  | non=>cases ry;exact PySem.EqNone.ne_str_none (dX I q (by simp))
  | bl j=>cases ry;exact PySem.EqMixed.ne_str_bool (dX I q (by simp))
  | int j=>obtain ⟨t',rfl⟩:=ry;exact PySem.EqMixed.ne_str_int (dX I q (by simp))
  | str j=>obtain ⟨t',rfl⟩:=ry;exact ne_str (dX I q (congrArg not Ox))
  | _=>exact absurd (show false=true from hs) Bool.false_ne_true
 | Iw i=>
  obtain ⟨t,rfl⟩:=rx;cases y with
  | Iw j=>obtain ⟨t',rfl⟩:=ry;exact PySem.W.ne_bytes (dX I q (congrArg not Oz))
  | _=>exact absurd (show false=true from hs) Bool.false_ne_true
 | _=>cases y<;>exact absurd (show false=true from hs) Bool.false_ne_true
theorem X0:C1 X (compareOp .Lt) (Vv fun i j=>.bl (decide (i < j))):=Yt fun _ _ _ _ _ _ _ q=>lt_int q
theorem Ht:C1 X (compareOp .LtE) (Vv fun i j=>.bl (decide (i<=j))):=Yt fun _ _ _ _ _ _ _ q=>le_int q
theorem O0:C1 X (compareOp .Gt) (Vv fun i j=>.bl (decide (j < i))):=Yt fun _ _ _ _ _ _ _ q=>gt_int q
theorem cg (b:Expr) {op:CmpOp} (h:op ≠ .In:=by decide) (h2:op ≠ .NotIn:=by decide):behindInMarks op b=false:=by
 have e1:(op==CmpOp.In)=false:=by cases op<;>first | rfl | exact absurd rfl h
 have e2:(op==CmpOp.NotIn)=false:=by cases op<;>first | rfl | exact absurd rfl h2
 cases b<;>simp [behindInMarks,e1,e2]
theorem e9 {op:CmpOp} {r:R2} (ho:C1 X (compareOp op) r) (ha:PE X a ta) (hb:PE X b tb) (hm:behindInMarks op b=false):PE X (.Compare a [op] [b] pos) (tOp r ta tb):=by
 intro pins s σ H Q I h;exact wpAny_Compare1 (Ys ha hb I h fun v u s2 x y H2 I2 rx ry q=>ho pins s2 σ H2 x y v u Q I2 rx ry q) hm
def aal (t:TE):TT:=fun σ H Q=>t σ H fun x H'=>∃ k,x=.bl k/\Q k H'
theorem d9 {op:CmpOp} {r:R2} (ho:C1 X (compareOp op) r) (ha:PE X a ta) (hb:PE X b tb) (hm:behindInMarks op b=false):PT X (.Compare a [op] [b] pos) (aal (tOp r ta tb)):=by
 intro pins s σ H Q I h;refine wpAny_isTrue_Compare1 (dZ (ha pins s σ H _ I h) fun v s1 ⟨x,H1,I1,r1,q1⟩=>dZ (hb pins s1 σ H1 _ I1 q1) fun u s2 ⟨y,H2,I2,r2,q2⟩=>
  dZ (ho pins s2 σ H2 x y v u _ I2 r1 r2 q2) fun c s3 ⟨z,H3,I3,r3,k,e,q3⟩=>?_) hm
 subst e;cases r3;exact wpAny_truthy_bool ⟨H3,I3,q3⟩
def Yx (r r':R2) (ta tb tc:TE):TE:=fun σ H Q=>ta σ H fun x H1=>tb σ H1 fun y H2=>r x y H2 fun z H3=>∃ k,z=.bl k /\
 (if k=true then tc σ H3 fun w' H4=>r' y w' H4 Q else Q (.bl false) H3)
theorem KJ {op op':CmpOp} {r r':R2} (ho:C1 X (compareOp op) r) (ho':C1 X (compareOp op') r') (ha:PE X a ta) (hb:PE X b tb) (hc:PE X c tc)
  (hm:lastMarks [op,op'] [b,c]=false:=by with_unfolding_all rfl):PE X (.Compare a [op,op'] [b,c] pos) (Yx r r' ta tb tc):=by
 intro pins s σ H Q I h;refine Compare_chain (dZ (ha pins s σ H _ I h) fun v s1 ⟨x,H1,I1,r1,q1⟩=>chain_link (dZ (hb pins s1 σ H1 _ I1 q1) fun u s2 ⟨y,H2,I2,r2,q2⟩=>
  dZ (ho pins s2 σ H2 x y v u _ I2 r1 r2 q2) fun d s3 ⟨z,H3,I3,r3,k,e,q3⟩=>?_)) hm
 subst e;cases r3;refine wpAny_truthy_bool ?_;cases k with
 | false=>exact ite_ff ⟨.bl false,H3,I3,rfl,q3⟩
 | true=>exact ite_tt (chain_last (dZ (hc pins s3 σ H3 _ I3 q3) fun w' s4 ⟨z',H4,I4,r4,q4⟩=>ho' pins s4 σ H4 y z' u w' Q I4 r2 r4 q4))
def aam (K:Zqq) (x:V) (H:Hp) (k:Bool):Prop:=
 match x with
 | .non=>k=false
 | .bl b=>k=b
 | .int i=>k=(i != 0)
 | .str y=>y.length<=sizeLine/\k=((y.length:Int) != 0)
 | .Iw y=>y.size<=sizeLine/\k=((y.size:Int) != 0)
 | .ref p=>(∃ xs,bI K H p xs/\k=!xs.isEmpty)\/(∃ xs,nU K H p xs/\k=!xs.isEmpty)\/∃ kvs,H p=some (.dK kvs)/\k=!kvs.isEmpty
 | _=>False
theorem Nk {κ:Type} {kvs:List (κ×V)} {vs:List (κ×Value)} (r:KV kvs vs):(!vs.isEmpty)=!kvs.isEmpty:=by
 cases r<;>rfl
theorem DZ {xs:List V} {its:List Value} (r:Vals xs its):(!its.toArray.isEmpty)=!xs.isEmpty:=by
 cases r<;>simp
theorem BE:(sizeLine:Nat) < 2 ^ 63:=by rw [sizeLine_eq];decide
theorem Yy:abA X (fun x H Q=>∃ k,aam X.K x H k/\Q k H):=by
 intro pins s σ H x v Q I rx h;obtain ⟨k,e,q⟩:=h;have hl:=BE;have hs:sizeLine=16777216:=sizeLine_eq;cases x with
 | non=>
   cases rx;have e':k=false:=e;subst e';exact truthy_none ⟨H,I,q⟩
 | bl b=>
   cases rx;have e':k=b:=e;subst e';exact wpAny_truthy_bool ⟨H,I,q⟩
 | int i=>
   obtain ⟨t,rfl⟩:=rx;have e':k=(i != 0):=e;subst e';exact PySem.P.truthy_int ⟨H,I,q⟩
 | str y=>
   obtain ⟨t,rfl⟩:=rx;obtain ⟨hy,e'⟩:y.length<=sizeLine/\k=((y.length:Int) != 0):=e;subst e';exact PySem.P.truthy_str (by omega) ⟨H,I.tok _,q⟩
 | Iw y=>
   obtain ⟨t,rfl⟩:=rx;obtain ⟨hy,e'⟩:y.size<=sizeLine/\k=((y.size:Int) != 0):=e;subst e';exact PySem.W.truthy_bytes (by omega) ⟨H,I.tok _,q⟩
 | ref p=>
   cases rx;have e':(∃ xs,bI X.K H p xs/\k=!xs.isEmpty)\/(∃ xs,nU X.K H p xs/\k=!xs.isEmpty)\/∃ kvs,H p=some (.dK kvs)/\k=!kvs.isEmpty:=e;rcases e' with ⟨xs,hx,e'⟩ | ⟨xs,hx,e'⟩ | ⟨kvs,hx,e'⟩
   . subst e'
     obtain ⟨its,r,pl,hz⟩:=I.list hx;have hlen:=r.length;exact wpAny_truthy_list pl.isList (by simp only [List.size_toArray];omega) ⟨H,I.tok _,by rw [DZ r];exact q⟩
   . subst e'
     obtain ⟨its,r,pl,hz⟩:=I.tuple hx;have hlen:=r.length;exact truthy_tuple pl (by simp only [List.size_toArray];omega) ⟨H,I.tok _,by rw [DZ r];exact q⟩
   . subst e'
     obtain ⟨hz,hS,vs,r,m⟩:kvs.length<=sizeLine/\(p==sysModules)=false/\∃ vs,KV kvs vs/\s.heap.DictOf (fL X.prog X.w) p vs:=I.hok p _ hx;have hlen:kvs.length=vs.length:=Paired.length r;exact wpAny_truthy_dict hS m (by omega) ⟨H,I.tok _,by rw [Nk r];exact q⟩
 | _=>exact (show False from e).elim
theorem Se (ha:PE X a ta) (he:∀ whole,isTrue a X.env whole=(do let v <- whole;standAt a.pos;holding [v] (truthy v))) :
  PT X a (fun σ H Q=>ta σ H fun x H'=>∃ k,aam X.K x H' k/\Q k H'):=by
 intro pins s σ H Q I h;exact isTrue_plain (dZ (ha pins s σ H _ I h) fun v s1 ⟨x,H1,I1,r1,q1⟩=>Yy pins s1 σ H1 x v Q I1 r1 q1) (he _)
theorem vals1 {x:V} {us:List Value} (r:Vals [x] us):∃ u,us=[u]/\RelV x u:=by
 cases r with
 | cons r1 r2=>cases r2;exact ⟨_,rfl,r1⟩
end
end L2
namespace L2
open PySem PySem.Spec PyProof.Rows
structure Nl (h:Heap) (x dx C:Addr) (mA:Str->Option Value):Prop where
 obj:h.get? x=some (PySem.W.instObj C dx)
 ns:h.Ns1 dx mA
 ne:dx ≠ x
theorem PJ {h:Heap} {dx:Addr} {mA:Str->Option Value} (n:h.Ns1 dx mA):∃ od,h.get? dx=some od/\∀ name,PySem.W.lookIn name od=some (mA name):=by
 obtain ⟨o,es,ep,ho,hd,hk,_,hm⟩:=n;refine ⟨o,ho,fun name=>?_⟩;have e:=hm name;unfold nsFind findBy at e;rw [<- Array.find?_toList] at e;unfold PySem.W.lookIn;rw [hd];dsimp only;split
 . rename_i y q
   rw [q] at e;exact congrArg some e
 . rename_i q
   rw [q] at e;have a:es.toList.any (·.refKey)=false:=by
     rw [List.any_eq_false];intro y hy;obtain ⟨z,t,hkey⟩:=hk y (Array.mem_toList_iff.mp hy);simp [DictEntry.refKey,hkey]
   have a':¬ es.toList.any (·.refKey)=true:=by rw [a];exact Bool.false_ne_true
   rw [if_neg a'];exact congrArg some e
theorem Nl.look {h:Heap} {x dx C:Addr} {mA:Str->Option Value} (I:Nl h x dx C mA):∃ od,PySem.W.InstAt h x (PySem.W.instObj C dx) C (some od)/\∀ name,PySem.W.lookIn name od=some (mA name):=
 let ⟨od,ho,hl⟩:=PJ I.ns
 ⟨od,⟨I.obj,rfl,rfl,ho⟩,hl⟩
section
variable {prog:Program} {w:World} {A:Around} {E:Value->Shared->Prop} {s:Shared} {K:Zqq} {x dx C f:Addr} {mA:Str->Option Value} {name:Str} {v:Value}
theorem get_map {expr:Bool} {Q:Value->Shared->Prop} (X:K.In s.heap) (I:Nl s.heap x dx C mA) (hg:PySem.W.plainGet K C name=true) (hh:PySem.W.hasDictIn K C=true)
  (ha:PySem.W.findIn K (.ref C) name=some none) (hv:mA name=some v) (hv':PySem.W.handedIn v=true) (h:Q v { s with toks:=s.toks+1 }) :
  wpAny (model prog w) A (getAttr (.ref x) name expr) Q E s:=by
 obtain ⟨od,J,hl⟩:=I.look;exact PySem.W.get_value X J (PySem.W.plainGet_of hg).1 (PySem.W.findObj_own hh ha rfl (by rw [hl,hv])) hv' h
theorem Sf {pl:Sem Bool} {Q:Value×List Value->Shared->Prop} (X:K.In s.heap) (I:Nl s.heap x dx C mA) (hg:PySem.W.plainGet K C name=true)
  (hf:PySem.W.findIn K (.ref C) name=some (some (.ref f))) (ht:PySem.W.isFn K (.ref f)=true) (hv:mA name=none) (h:Q (.ref f,[.ref x]) s) :
  wpAny (model prog w) A (getMethod (.ref x) name pl) Q E s:=by
 obtain ⟨od,J,hl⟩:=I.look;exact PySem.W.method_fn X J (PySem.W.plainGet_of hg).1 (PySem.W.plainGet_of hg).2 hf (beq_iff_eq.mp ht) (by show (PySem.W.lookIn name od).map (·.isSome)=some false;rw [hl,hv];rfl) h
theorem Vx {ns:List Str} {Q:Unit->Shared->Prop} (X:K.In s.heap) (I:Nl s.heap x dx C mA)
  (hs:PySem.W.findIn K (.ref C) "__setattr__"=some (some (.builtin "object.__setattr__"))) (hp:PySem.W.plainOver K C=true) (ht:PySem.W.takerIn K C name=some none) (hh:PySem.W.hasDictIn K C=true)
  (hw:PySem.Within mA ns) (hsz:ns.length<=sizeLine)
  (h:∀ h',Nl h' x dx C (fun y=>if y=name then some v else mA y)->Heap.SameBut dx s.heap h'->Q () { s with heap:=h',toks:=s.toks+2 }) :
  wpAny (model prog w) A (setAttr (.ref x) name v) Q E s:=by
 obtain ⟨od,J,hl⟩:=I.look;refine PySem.W.set_plain X J hs (PySem.W.osa_open (s:={ s with toks:=s.toks+1 }) (r:=none) X J hp ht fun b=>?_)
 obtain ⟨cd,hc,hd'⟩:=PySem.W.any_some hh;have hx:s.heap.get? x=some ⟨.ref C,some dx,.plain,#[]⟩:=I.obj;refine wpAny_bind (wpAny_pure (wpAny_bind (wpAny_bind (wpAny_loadPart hx (wpAny_bind (PySem.W.Looks.here (s:={ s with toks:=s.toks+1 }) (PySem.W.looks_clsIn X hc) ?_))))));rw [hd'];refine wpAny_pure (a:=some dx) (wpAny_bind (wpAny_pure (wpAny_bind ?_)));refine wpAny_nsSet1 (s:={ s with toks:=s.toks+1 }) I.ns fun h' hn2 hs2=>?_
 obtain ⟨oD,esD,epD,hoD,hdD,hcD⟩:=hn2.count (PySem.Within.cons name v hw);refine wpAny_bind (wpAny_lookBehind hoD (by rw [hdD];exact pastItsLine_dict (Nat.le_trans hcD (by rw [List.length_cons];omega))) ?_);exact wpAny_pure (h _ ⟨(hs2.2 _ (Ne.symm I.ne)).trans I.obj,hn2,I.ne⟩ hs2)
theorem Sg {R:Result->Shared->Prop} {vs:List Value} {kw:List (Str×Value)} (X:K.In s.heap) (hm:PySem.W.makesIn K C=true)
   (hi:PySem.W.findIn K (.ref C) "__init__"=some (some (.ref f))) (hf:PySem.W.typeIn K (.ref f)=some (.type "function"))
   (h:codeAny (model prog w) (A.under (.builtin "type.__call__" ⟨.ref C::vs,kw⟩)) (.call (.ref f) ⟨.ref (s.heap.objs.size+1)::vs,kw⟩) (PySem.W.InitBack (s.heap.objs.size+1) R)
     { s with heap:=(s.heap.push PySem.W.emptyDict).push (PySem.W.instObj C s.heap.objs.size) }) :
   codeAny (model prog w) A (.call (.ref C) ⟨vs,kw⟩) R s:=by
 obtain ⟨hh,g,d,t,os⟩:=s;exact PySem.W.make_core (PySem.W.makes_of X hm) (PySem.W.looks_findIn X hi) (fun self=>PySem.W.bind_fn X self hf) (.inl rfl) h
end
def gf (f:Str) (v:V):List (Str×V)->List (Str×V)
 | []=>[(f,v)]
 | (g,x)::r=>if g=f then (g,v)::r else (g,x)::gf f v r
theorem wV (f g:Str) (v:V):∀ fs:List (Str×V),(gf f v fs).lookup g=if g=f then some v else fs.lookup g
 | []=>by
   show List.lookup g [(f,v)]=_
   by_cases h:g=f
   . have hb:(g==f)=true:=beq_iff_eq.mpr h
     simp only [List.lookup,hb,if_pos h]
   . have hb:(g==f)=false:=beq_eq_false_iff_ne.mpr h
     simp only [List.lookup,hb,if_neg h]
 | (k,x)::r=>by
   have ih:=wV f g v r
   rw [show gf f v ((k,x)::r)=(if k=f then (k,v)::r else (k,x)::gf f v r) from rfl]
   by_cases hk:k=f
   . rw [if_pos hk]
     by_cases h:g=k
     . have hb:(g==k)=true:=beq_iff_eq.mpr h
       simp only [List.lookup,hb,if_pos (h.trans hk)]
     . have hb:(g==k)=false:=beq_eq_false_iff_ne.mpr h
       simp only [List.lookup,hb,if_neg (fun e:g=f=>h (e.trans hk.symm))]
   . rw [if_neg hk]
     by_cases h:g=k
     . have hb:(g==k)=true:=beq_iff_eq.mpr h
       simp only [List.lookup,hb,if_neg (fun e:g=f=>hk (h.symm.trans e))]
     . have hb:(g==k)=false:=beq_eq_false_iff_ne.mpr h
       simp only [List.lookup,hb]
       exact ih
theorem BF (f:Str) (v:V):∀ fs:List (Str×V),f ∈ (gf f v fs).map (·.1)/\∀ g,g ∈ fs.map (·.1)->g ∈ (gf f v fs).map (·.1)
 | []=>⟨by simp [gf],fun g h=>by simp at h⟩
 | (k,x)::r=>by
   obtain ⟨i1,i2⟩:=BF f v r
   rw [show gf f v ((k,x)::r)=(if k=f then (k,v)::r else (k,x)::gf f v r) from rfl]
   by_cases hk:k=f
   . rw [if_pos hk]
     subst hk
     exact ⟨by simp,fun g h=>by simpa using h⟩
   . rw [if_neg hk]
     refine ⟨?_,fun g h=>?_⟩
     . rw [List.map_cons]
       exact List.mem_cons_of_mem _ i1
     . rw [List.map_cons] at h ⊢
       rcases List.mem_cons.mp h with e | e
       . exact List.mem_cons.mpr (.inl e)
       . exact List.mem_cons_of_mem _ (i2 g e)
theorem C3 (f:Str) (v:V):∀ fs:List (Str×V),(gf f v fs).length<=fs.length+1
 | []=>by simp [gf]
 | (k,x)::r=>by
   have ih:=C3 f v r
   rw [show gf f v ((k,x)::r)=(if k=f then (k,v)::r else (k,x)::gf f v r) from rfl]
   by_cases hk:k=f
   . rw [if_pos hk,List.length_cons,List.length_cons];omega
   . rw [if_neg hk,List.length_cons,List.length_cons];omega
theorem sO.some_of {v:V} {o:Option Value} (r:sO (some v) o):∃ u,o=some u/\RelV v u:=by
 cases o with
 | none=>exact (show False from r).elim
 | some u=>exact ⟨u,rfl,r⟩
theorem sO.none_of {o:Option Value} (r:sO none o):o=none:=by
 cases o with
 | none=>rfl
 | some u=>exact (show False from r).elim
theorem Hu {v:V} {u:Value} (r:RelV v u):PySem.W.handedIn u=true:=by
 cases v with
 | non=>cases (show u=Value.none from r);rfl
 | bl b=>cases (show u=Value.bool b from r);rfl
 | int i=>obtain ⟨t,e⟩:=(show ∃ t,u=Value.int i t from r);cases e;rfl
 | str x=>obtain ⟨t,e⟩:=(show ∃ t,u=Value.str x t from r);cases e;rfl
 | Iw b=>obtain ⟨t,e⟩:=(show ∃ t,u=Value.bytes b t from r);cases e;rfl
 | Vo b=>obtain ⟨t,e⟩:=(show ∃ t,u=Value.float b t from r);cases e;rfl
 | ref a=>cases (show u=Value.ref a from r);rfl
 | ty n=>cases (show u=Value.type n from r);rfl
section
variable {P:Program} {w:World} {H H':Hp} {h h':Heap} {a C dx:Addr} {fs fs':List (Str×V)}
theorem IE (hok:vS P w H h) (e:H a=some (.ins C dx fs)):∃ mA,Nl h a dx C mA/\(∀ f,sO (fs.lookup f) (mA f))/\PySem.Within mA (fs.map (·.1))/\fs.length<=1000/\H dx=some (.own a):=by
 obtain ⟨d,z,ne,ob,mA,n,r,q⟩:=(show dY P w H h a (.ins C dx fs) from hok a _ e);exact ⟨mA,⟨ob,n,ne⟩,r,q,z,d⟩
end
structure D8 (K:Zqq) (C:Addr):Prop where
 pg:PySem.W.plainGet K C Str.empty=true
 hd:PySem.W.hasDictIn K C=true
 po:PySem.W.plainOver K C=true
 sa:PySem.W.findIn K (.ref C) "__setattr__"=some (some (.builtin "object.__setattr__"))
theorem D8.get {K:Zqq} {C:Addr} (c:D8 K C) (f:Str):PySem.W.plainGet K C f=true:=c.pg
def b6 (K:Zqq) (C:Addr) (f:Str):Prop:=PySem.W.findIn K (.ref C) f=some none
theorem b6.aan {K:Zqq} {C:Addr} {f:Str} (n:b6 K C f):PySem.W.takerIn K C f=some none:=by
 unfold PySem.W.takerIn;rw [show PySem.W.findIn K (.ref C) f=some none from n];rfl
structure Meth (K:Zqq) (C:Addr) (m:Str) (f:Addr):Prop where
 at_:PySem.W.findIn K (.ref C) m=some (some (.ref f))
 fn:PySem.W.isFn K (.ref f)=true
 kp:PySem.W.keepIn K (.ref f)=true
section
variable {X:Cx} {pins:List (Addr×Obj)} {σ:St} {H:Hp} {s:Shared} {a C dx:Addr} {fs:List (Str×V)} {f:Str} {v:V} {A:Around} {E:Value->Shared->Prop}
theorem Ea {b:Bool} {Q:Value->Shared->Prop} (I:Inv X pins σ H s) (e:H a=some (.ins C dx fs)) (c:D8 X.K C) (n:b6 X.K C f) (l:fs.lookup f=some v)
  (h:∀ u s',Inv X pins σ H s'->RelV v u->Q u s'):wpAny (model X.prog X.w) A (getAttr (.ref a) f b) Q E s:=by
 obtain ⟨mA,O,r,_,_,_⟩:=IE I.hok e;obtain ⟨u,hu,ru⟩:=sO.some_of (v:=v) (o:=mA f) (by rw [<- l];exact r f);exact get_map I.zk O (c.get f) c.hd n hu (Hu ru) (h u _ (I.tok _) ru)
theorem Eb {m:Str} {g:Addr} {pl:Sem Bool} {Q:Value×List Value->Shared->Prop} (I:Inv X pins σ H s) (e:H a=some (.ins C dx fs)) (c:D8 X.K C) (k:Meth X.K C m g) (l:fs.lookup m=none)
  (h:Q (.ref g,[.ref a]) s):wpAny (model X.prog X.w) A (getMethod (.ref a) m pl) Q E s:=by
 obtain ⟨mA,O,r,_,_,_⟩:=IE I.hok e;have hn:mA m=none:=sO.none_of (by rw [<- l];exact r m);exact Sf I.zk O (c.get m) k.at_ k.fn hn h
theorem Ec {y:V} {u:Value} {Q:Unit->Shared->Prop} (I:Inv X pins σ H s) (e:H a=some (.ins C dx fs)) (c:D8 X.K C) (n:b6 X.K C f) (hl:fs.length < 1000) (ry:RelV y u)
   (h:∀ s',Inv X pins σ (upd H a (.ins C dx (gf f y fs))) s'->Q () s'):wpAny (model X.prog X.w) A (setAttr (.ref a) f u) Q E s:=by
 obtain ⟨mA,O,r,wi,_,ho⟩:=IE I.hok e;have hz:(fs.map (·.1)).length<=sizeLine:=by rw [List.length_map,sizeLine_eq];omega
 refine Vx I.zk O c.sa c.po n.aan c.hd wi hz fun h' O' sb=>h _ ?_;have hd:∃ o,h'.get? dx=some o:=let ⟨o,_,_,e',_⟩:=O'.ns;⟨o,e'⟩;refine I.write (x:=a) (e:=dx) (by rw [e];exact True.intro) (.inr ho) (fun b q hb z=>(sb.2 b hb).trans z) hd ?_;refine ⟨by rw [aq O.ne];exact ho,?_,O.ne,O'.obj,_,O'.ns,fun g=>?_,fun g hg=>?_⟩
 . have:=C3 f y fs;omega
 . show sO ((gf f y fs).lookup g) (if g=f then some u else mA g)
   rw [wV];by_cases q:g=f
   . rw [if_pos q,if_pos q];exact ry
   . rw [if_neg q,if_neg q];exact r g
 . by_cases q:g=f
   . rw [q];exact (BF f y fs).1
   . refine (BF f y fs).2 g (wi g fun z=>hg ?_)
     show (if g=f then some u else mA g)=none;rw [if_neg q];exact z
theorem Inv.made (I:Inv X pins σ H s):Inv X pins σ (upd (upd H s.heap.objs.size (.own (s.heap.objs.size+1))) (s.heap.objs.size+1) (.ins C s.heap.objs.size []))
  { s with heap:=(s.heap.push PySem.W.emptyDict).push (PySem.W.instObj C s.heap.objs.size) }:=by
 have e1:(s.heap.push PySem.W.emptyDict).get? s.heap.objs.size=some PySem.W.emptyDict:=Heap.get?_push_size s.heap rfl;have e2:((s.heap.push PySem.W.emptyDict).push (PySem.W.instObj C s.heap.objs.size)).get? (s.heap.objs.size+1)=some (PySem.W.instObj C s.heap.objs.size):=by
  have:=Heap.get?_push_size (s.heap.push PySem.W.emptyDict) (o:=PySem.W.instObj C s.heap.objs.size) rfl
  rwa [Heap.size_push] at this
 have e3:(s.heap.push PySem.W.emptyDict).Ns s.heap.objs.size (fun _=>none):=⟨PySem.W.emptyDict,#[],_,e1,rfl,(fun e he=>absurd he (by simp)),fun _=>rfl⟩;have I1:=I.laid (a:=s.heap.objs.size) (o:=.own (s.heap.objs.size+1)) (h':=s.heap.push PySem.W.emptyDict) (t':=s.toks) (fun b u q=>Heap.get?_push_of_some _ q) (Nat.le_refl _) ⟨_,e1⟩;refine I1.laid (a:=s.heap.objs.size+1) (o:=.ins C s.heap.objs.size []) (t':=s.toks) (fun b u q=>Heap.get?_push_of_some _ q) (Nat.le_of_eq (Heap.size_push _ _)) ?_;have ne:s.heap.objs.size ≠ s.heap.objs.size+1:=Nat.ne_of_lt (Nat.lt_succ_self _);refine ⟨by rw [aq ne,ai],Nat.zero_le _,ne,e2,fun _=>none,(Heap.Ns1.of_empty e3).at fun o q=>Heap.get?_push_of_some _ q,fun _=>True.intro,fun y hy=>absurd rfl hy⟩
theorem O1 {prog:Program} {w:World} {env:Env} {e:Expr} {f:Str} {pos:Pos} {s:Shared} {Q:Value->Shared->Prop} (hb:attributeBase e f env (eval e env)=eval e env)
  (h:wpAny (model prog w) A (eval e env) (fun o s₁=>wpAny (model prog w) A (getAttr o f true) Q E s₁) E s):wpAny (model prog w) A (eval (.Attribute e f pos) env) Q E s:=
 Attribute_any_ h (by rw [arm_eval_Attribute,hb])
end
def aao (K:Zqq) (ta:TE) (f:Str):TE:=fun σ H Q=>ta σ H fun x H1=>∃ a C dx fs v,x=.ref a/\H1 a=some (.ins C dx fs)/\D8 K C/\b6 K C f/\fs.lookup f=some v/\Q v H1
def abC (K:Zqq) (ta tv:TE) (f:Str):TS:=fun D σ H=>tv σ H fun y H1=>ta σ H1 fun x H2=>∃ a C dx fs,x=.ref a/\H2 a=some (.ins C dx fs)/\D8 K C/\b6 K C f/\fs.length < 1000 /\
 D.nx σ (upd H2 a (.ins C dx (gf f y fs)))
def aap (X:Cx) (op:Operator) (rd:V->V->Hp->VK->Prop):Prop:=
 ∀ (pins:List (Addr×Obj)) (s:Shared) (σ:St) (H:Hp) (x y:V) (u v:Value) (Q:VK),Inv X pins σ H s->RelV x u->RelV y v->rd x y H Q->wpAny (model X.prog X.w) X.A (inplaceOp op u v) (EP X pins σ Q) X.xe s
def Vy (K:Zqq) (ta tv:TE) (rd:V->V->Hp->VK->Prop) (f:Str):TS:=fun D σ H=>ta σ H fun x H1=>∃ a C dx fs v,x=.ref a/\H1 a=some (.ins C dx fs)/\D8 K C/\b6 K C f/\fs.lookup f=some v /\
 tv σ H1 fun y H2=>rd v y H2 fun z H3=>∃ dx' fs',H3 a=some (.ins C dx' fs')/\fs'.length < 1000/\D.nx σ (upd H3 a (.ins C dx' (gf f z fs')))
section
variable {X:Cx} {o e value:Expr} {f:Str} {pos pos' tpos:Pos} {ta tv:TE}
theorem aA (he:PE X e ta) (hb:attributeBase e f X.env (eval e X.env)=eval e X.env):PE X (.Attribute e f pos) (aao X.K ta f):=by
 intro pins s σ H Q I h;refine O1 hb (dZ (he pins s σ H _ I h) fun u s1 ⟨x,H1,I1,rx,a,C,dx,fs,v,ex,ea,c,n,l,q⟩=>?_);subst ex;obtain rfl:u=Value.ref a:=rx;exact Ea I1 ea c n l fun u' s2 I2 ru=>⟨v,H1,I2,ru,q⟩
theorem ck (ha:PE X o ta) (hv:PE X value tv) (hs:swapsWith value (some (.Attribute o f pos')) pos.line X.env=pure false):PS X (.Assign [.Attribute o f pos'] value pos) (abC X.K ta tv f):=by
 intro pins s σ H D I h;refine plainObj_wpAny_Assign_Attribute (dZ (hv pins s σ H _ I h) fun u s1 ⟨y,H1,I1,ry,q⟩=>dZ (ha pins s1 σ H1 _ I1 q) fun ov s2 ⟨x,H2,I2,rx,a,C,dx,fs,ex,ea,c,n,l,q2⟩=>?_) hs;subst ex;obtain rfl:ov=Value.ref a:=rx;exact Ec I2 ea c n l ry fun s3 I3=>⟨σ,_,I3,q2⟩
theorem PL {op:Operator} {rd:V->V->Hp->VK->Prop} (ha:PE X o ta) (hv:PE X value tv) (hop:aap X op rd):PS X (.AugAssign (.Attribute o f tpos) op value pos) (Vy X.K ta tv rd f):=by
 intro pins s σ H D I h;refine wpAny_AugAssign_AttributeAny (dZ (ha pins s σ H _ I h) fun ov s1 ⟨x,H1,I1,rx,a,C,dx,fs,v,ex,ea,c,n,l,q⟩=>?_);subst ex;obtain rfl:ov=Value.ref a:=rx;refine Ea I1 ea c n l fun u s2 I2 ru=>dZ (hv pins s2 σ H1 _ I2 q) fun w3 s3 ⟨y,H2,I3,ry,q3⟩=>dZ (hop pins s3 σ H2 v y u w3 _ I3 ru ry q3) fun w4 s4 ⟨z,H3,I4,rz,dx',fs',ea',l',q4⟩=>?_;exact Ec I4 ea' c n l' rz fun s5 I5=>⟨σ,_,I5,q4⟩
def abD:V->V->Hp->VK->Prop:=fun x y H Q=>∃ i j,x=.int i/\y=.int j/\Q (.int (i+j)) H
theorem Yz:aap X .Add abD:=by
 rintro pins s σ H x y u v Q I rx ry ⟨i,j,rfl,rfl,q⟩;obtain ⟨t,rfl⟩:=(show ∃ t,u=Value.int i t from rx);obtain ⟨t',rfl⟩:=(show ∃ t',v=Value.int j t' from ry);exact PyProof.Rows.iadd_int ⟨.int (i+j),H,I.tok _,⟨_,rfl⟩,q⟩
end
section
variable {X:Cx} {pins:List (Addr×Obj)} {σ:St} {H:Hp} {s:Shared} {A:Around} {E:Value->Shared->Prop} {Q:Value->Shared->Prop} {c:Value} {b:Bool}
end
end L2
namespace L2
open PySem PySem.Spec PyProof.Rows
structure dG (k:Nat) (A:Around):Prop where
 hd:A.handled=none
 dp:A.depth+3 * k+5 < recursionLimit
 un:A.units+16 * k+200 < cLine
theorem dG.mono {j k:Nat} {A:Around} (r:dG k A) (h:j<=k):dG j A:=⟨r.hd,by have:=r.dp;omega,by have:=r.un;omega⟩
theorem dG.deeper {k:Nat} {A:Around} (r:dG (k+1) A) (env:Env):dG k (A.deeper env):=
 ⟨r.hd,by have:=r.dp;show A.depth+1+3 * k+5 < _;omega,by have:=r.un;show A.units+3+16 * k+200 < _;omega⟩
theorem Nm {A:Around} {C:Addr} {us:List Value} {kw:List (Str×Value)}:(A.under (.builtin "type.__call__" ⟨.ref C::us,kw⟩)).depth=A.depth+1:=by
 first | rfl | simp [Around.under,Code.weight,Code.isCreation,Code.isGuard,Code.isCaller,Code.frames,Code.isFrame,guardIds]
theorem Nn {A:Around} {C:Addr} {us:List Value} {kw:List (Str×Value)}:(A.under (.builtin "type.__call__" ⟨.ref C::us,kw⟩)).units=A.units+1:=by
 first | rfl | simp [Around.under,Code.cUnits,Code.frames,Code.isFrame]
theorem dG.make {k:Nat} {A:Around} (r:dG (k+1) A) (C:Addr) (us:List Value) (kw:List (Str×Value)):dG k (A.under (.builtin "type.__call__" ⟨.ref C::us,kw⟩)):=
 ⟨r.hd,by have:=r.dp;rw [Nm];omega,by have:=r.un;rw [Nn];omega⟩
theorem dG.depth {k:Nat} {A:Around} (r:dG k A):A.depth < recursionLimit:=by have:=r.dp;omega
theorem dG.Y0 {k:Nat} {A:Around} (r:dG k A):A.units < cLine:=by have:=r.un;omega
def Sh:TA:=fun _ H Q=>Q [] H
def O2 (ta:TE) (tr:TA):TA:=fun σ H Q=>ta σ H fun x H1=>tr σ H1 fun xs H2=>Q (x::xs) H2
section
variable {X:Cx} {e:Expr} {es:List Expr} {te:TE} {t:TA} {pos:Pos}
theorem au:PA X [] Sh:=fun _ _ _ _ H Q I h=>Calls.spliced_nil ⟨[],H,I,.nil,h⟩
theorem af (ha:PE X e te) (hr:PA X es t) (hs:starEach (e::es) X.env=(false,eval e X.env)::starEach es X.env:=by rfl):PA X (e::es) (O2 te t):=by
 intro pos pins s σ H Q I h;rw [hs];show wpAny _ _ (spliced ((false,eval e X.env)::backTo pos (starEach es X.env))) _ _ s;refine Calls.spliced_cons (dZ (ha pins s σ H _ I h) fun u s1 ⟨x,H1,I1,r1,q1⟩=>?_);exact dZ (hr pos pins s1 σ H1 _ I1 q1) fun us s2 ⟨xs,H2,I2,r2,q2⟩=>⟨x::xs,H2,I2,.cons r1 r2,q2⟩
def abE (t:TA):TE:=fun σ H Q=>t σ H fun xs H1=>xs.length<=sizeLine/\∀ p,H1 p=none->Q (.ref p) (upd H1 p (.tup xs))
def abF (t:TA):TE:=fun σ H Q=>t σ H fun xs H1=>xs.length<=sizeLine/\∀ p,H1 p=none->Q (.ref p) (upd H1 p (.lst xs))
theorem mz {x1} (h:PA X es t):PE X (.Tuple es x1 pos) (abE t):=by
 intro pins s σ H Q I hq;refine wpAny_Tuple_spliced (dZ (h pos pins s σ H _ I hq) fun us s1 ⟨xs,H1,I1,r,z,q⟩=>⟨by rw [<- r.length];exact z,?_⟩);have hf:H1 s1.heap.objs.size=none:=I1.hok.fresh (Nat.le_refl _);refine ⟨.ref s1.heap.objs.size,upd H1 s1.heap.objs.size (.tup xs),I1.laid (t':=s1.toks) (fun b u e=>Heap.get?_push_of_some _ e) (Nat.le_refl _) ?_,rfl,q _ hf⟩;exact ⟨z,us,r,⟨_,Heap.get?_push_size _ rfl,rfl,_,rfl⟩⟩
theorem kC (h:PA X es t):PE X (.List es pos) (abF t):=by
 intro pins s σ H Q I hq;refine wpAny_List_spliced (dZ (h pos pins s σ H _ I hq) fun us s1 ⟨xs,H1,I1,r,z,q⟩=>⟨by rw [<- r.length];exact z,?_⟩);have hf:H1 s1.heap.objs.size=none:=I1.hok.fresh (Nat.le_refl _);refine ⟨.ref s1.heap.objs.size,upd H1 s1.heap.objs.size (.lst xs),I1.laid (t':=s1.toks) (fun b u e=>Heap.get?_push_of_some _ e) (Nat.le_refl _) ?_,rfl,q _ hf⟩;exact ⟨z,us,0,r,Heap.get?_push_size _ rfl⟩
end
abbrev Sp:=List V->Hp->VK->XK->Prop
abbrev MU:=List Env->Hp->Shared->XK->Value->Shared->Prop
structure IF (P:Program) (w:World) (K:Zqq) (mg:Str->Option Value) (base:Heap) (A:Around) (outer:List Env) (s:Shared) (H:Hp):Prop where
 frames:A.frames=some outer
 mod:Mod K mg base
 bs:∀ b o,base.get? b=some o->s.heap.get? b=some o/\H b=none
 Pz:base.objs.size<=s.heap.objs.size
 yQ:s.heap.FunFrames base outer
 RM:∀ b ∈ frs outer,H b=none
 hok:vS P w H s.heap
 bare:AllBare s.gens
def CE (outer:List Env) (P:Program) (w:World) (H:Hp) (s:Shared) (Q:VK) (u:Value) (s':Shared):Prop:=
 ∃ v H',s'.os=s.os/\AllBare s'.gens/\Un (frs outer) [] H H' s.heap s'.heap/\vS P w H' s'.heap/\RelV v u/\Q v H'
def CR (CX:MU) (outer:List Env) (P:Program) (w:World) (H:Hp) (s:Shared) (Q:VK) (E:XK) (r:Result) (s':Shared):Prop:=
 match r with
 | .ok (.ret u)=>CE outer P w H s Q u s'
 | .ok _=>False
 | .error e=>CX outer H s E e s'
structure bF (P:Program) (w:World) (K:Zqq) (mg:Str->Option Value) (base:Heap) (CX:MU) (k:Nat) (f:Addr) (fd:FuncData) (ps:List Str) (sp:Sp):Prop where
 len:∀ vs H Q E,sp vs H Q E->vs.length=ps.length
 run:∀ (A:Around) (outer:List Env) (s:Shared) (H:Hp) (args:Args) (us:List Value) (vs:List V) (Q:VK) (E:XK),dG k A->IF P w K mg base A outer s H->BindsTo s fd args (ps.zip us)->Vals vs us->sp vs H Q E->
   codeAny (model P w) A (.call (.ref f) args) (CR CX outer P w H s Q E) s
theorem bF.mono {P:Program} {w:World} {K:Zqq} {mg:Str->Option Value} {base:Heap} {CX:MU} {j k:Nat} {f:Addr} {fd:FuncData} {ps:List Str} {sp:Sp} (F:bF P w K mg base CX j f fd ps sp) (h:j<=k) :
   bF P w K mg base CX k f fd ps sp:=⟨F.len,fun A outer s H args us vs Q E hr=>F.run A outer s H args us vs Q E (hr.mono h)⟩
theorem IF.make {P:Program} {w:World} {K:Zqq} {mg:Str->Option Value} {base:Heap} {A:Around} {outer:List Env} {s:Shared} {H:Hp} (e:IF P w K mg base A outer s H) (C:Addr) (us:List Value) (kw:List (Str×Value)) :
   IF P w K mg base (A.under (.builtin "type.__call__" ⟨.ref C::us,kw⟩)) outer s H:=⟨by first | exact e.frames | (simpa [Around.under,Code.envs,Code.isFrame,pushEnvs] using e.frames),e.mod,e.bs,e.Pz,e.yQ,e.RM,e.hok,e.bare⟩
section
variable {X:Cx} {pins:List (Addr×Obj)} {σ:St} {H:Hp} {s s':Shared}
theorem Inv.Vz (I:Inv X pins σ H s):IF X.prog X.w X.K X.mg X.base X.A X.stack s H:=
 ⟨I.ok.frames,I.ok.mod,I.bs,Nat.le_trans I.ok.Pz I.sz,I.stack,I.I0,I.hok,I.bare⟩
theorem Inv.after {Q:VK} {u:Value} (I:Inv X pins σ H s) (h:CE X.stack X.prog X.w H s Q u s'):EP X pins σ Q u s':=by
 obtain ⟨v,H',os,bare,un,hok,r,q⟩:=h;obtain ⟨hh,g,d,t,os'⟩:=s';obtain rfl:os'=s.os:=os;exact ⟨v,H',I.call (h':=hh) (g':=g) (d':=d) (t':=t) (ch:=[]) un hok bare (fun b z=>absurd z (by simp)),r,q⟩
end
def Si (sp:Sp) (FY:List V) (E:XK) (t:TA):TE:=fun σ H Q=>t σ H fun vs H1=>sp (vs++FY) H1 Q E
def X3 (C:Addr) (m:Str) (sp:Sp) (FY:List V) (E:XK) (ta:TE) (t:TA):TE:=fun σ H Q=>ta σ H fun x H1=>∃ a dx fs,x=.ref a/\H1 a=some (.ins C dx fs)/\fs.lookup m=none /\
 t σ H1 fun vs H2=>sp (x::(vs++FY)) H2 Q E
def aaq (C:Addr) (sp:Sp) (FY:List V) (E:XK) (t:TA):TE:=fun σ H Q=>t σ H fun vs H1=>∀ x dx,H1 x=none->H1 dx=none->dx ≠ x->
 sp (.ref x::(vs++FY)) (upd (upd H1 dx (.own x)) x (.ins C dx [])) (fun v H2=>v=.non/\Q (.ref x) H2) E
def Binds (K:Zqq) (fd:FuncData) (ps:List Str) (ds:List Value):Prop:=
 ∀ (s:Shared) (us:List Value),K.In s.heap->(us++ds).length=ps.length->BindsTo s fd ⟨us,[]⟩ (ps.zip (us++ds))
theorem Binds.all {K:Zqq} {fd:FuncData} {ps:List Str} (h:∀ us:List Value,us.length=ps.length->bindArgs fd ⟨us,[]⟩=pure (ps.zip us)):Binds K fd ps []:=fun s us _ hl=>by
 rw [List.append_nil] at hl ⊢
 exact .of_eq (h us hl)
def Passes (CX:MU) (X:Cx) (E:XK):Prop:=∀ (pins:List (Addr×Obj)) (σ:St) (H:Hp) (s:Shared) (e:Value) (s':Shared),Inv X pins σ H s->CX X.stack H s E e s'->X.xe e s'
section
variable {X:Cx} {CX:MU} {k:Nat} {f C:Addr} {fd:FuncData} {ps:List Str} {sp:Sp} {FY:List V} {ds:List Value} {E:XK} {x m:Str} {p pos apos:Pos} {e o:Expr} {es:List Expr} {ta:TE} {t:TA}
theorem Eg {pins:List (Addr×Obj)} {σ:St} {H:Hp} {s:Shared} {Q:VK} {us:List Value} {vs:List V} (F:bF X.prog X.w X.K X.mg X.base CX k f fd ps sp) (hr:dG k X.A) (hb:Binds X.K fd ps ds) (hd:Vals FY ds) (hx:Passes CX X E)
  (I:Inv X pins σ H s) (r:Vals vs us) (h:sp (vs++FY) H Q E):wpAny (model X.prog X.w) X.A (call (.ref f) us) (EP X pins σ Q) X.xe s:=by
 have r2:Vals (vs++FY) (us++ds):=r.append hd;have hl:(us++ds).length=ps.length:=by rw [<- r2.length];exact F.len _ _ _ _ h
 refine wpAny_call (codeAny_mono (F.run X.A X.stack s H ⟨us,[]⟩ (us++ds) (vs++FY) Q E hr I.Vz (hb s us I.zk hl) r2 h) fun r s' hq=>?_);cases r with
 | error e=>exact hx pins σ H s e s' I hq
 | ok fl=>
  cases fl with
  | ret u=>exact I.after hq
  | next=>exact False.elim hq
  | brk=>exact False.elim hq
  | cont=>exact False.elim hq
theorem b4 (F:bF X.prog X.w X.K X.mg X.base CX k f fd ps sp) (hr:dG k X.A) (hg:Gl X x) (hm:X.mg x=some (.ref f)) (hk:PySem.W.keepIn X.K (.ref f)=true) (hb:Binds X.K fd ps ds) (hd:Vals FY ds) (hx:Passes CX X E)
  (ha:PA X (e::es) t) (hdb:(x==("__debug__":Str))=false:=by decide) (he:starEach (e::es) X.env=(false,eval e X.env)::starEach es X.env:=by rfl) (hpl:(backTo pos (starEach es X.env)).any (·.1)=false:=by rfl) :
  PE X (.Call (.Name x p) (e::es) [] pos) (Si sp FY E t):=by
 intro pins s σ H Q I h;refine wpAny_Call_Name_kw (y9 I hg hm ?_ hdb);refine PySem.W.callWith_K (h₀:=X.base) I.ok.mod.kin hk (dZ (ha pos pins s σ H _ I h) fun us s1 ⟨vs,H1,I1,r,q⟩=>⟨I1.zk,?_⟩) he hpl;exact Eg F hr hb hd hx I1 r q
theorem aW {pl:Sem Bool} (he:PE X o ta) (c:D8 X.K C) (hm:Meth X.K C m f) (F:bF X.prog X.w X.K X.mg X.base CX k f fd ps sp) (hr:dG k X.A) (hb:Binds X.K fd ps ds) (hd:Vals FY ds) (hx:Passes CX X E) (ha:PA X (e::es) t)
   (hst:starEach (e::es) X.env=(false,eval e X.env)::starEach es X.env:=by rfl) (hpl:(backTo pos (starEach es X.env)).any (·.1)=false:=by rfl)
   (ht:eval (.Call (.Attribute o m apos) (e::es) [] pos) X.env=(do
     let ov <- eval o X.env
     standAt apos.atName
     let (f,first) <- holding [ov] (getMethod ov m pl)
     callWith pos f first (backTo pos (starEach (e::es) X.env)) (backToKw pos (keywordEach [] X.env))):=by rfl) :
   PE X (.Call (.Attribute o m apos) (e::es) [] pos) (X3 C m sp FY E ta t):=by
 intro pins s σ H Q I h;refine PySem.W.methodCall_KW (pl:=pl) (dZ (he pins s σ H _ I h) fun u s1 ⟨x,H1,I1,rx,a,dx,fs,ex,ea,l,q⟩=>?_) ht;subst ex;obtain rfl:u=Value.ref a:=rx;refine Eb I1 ea c hm l ?_;refine PySem.W.callWith_K (first:=[.ref a]) (h₀:=X.base) I.ok.mod.kin hm.kp (dZ (ha pos pins s1 σ H1 _ I1 q) fun us s2 ⟨vs,H2,I2,r,q2⟩=>⟨I2.zk,?_⟩) hst hpl;exact Eg (us:=.ref a::us) (vs:=.ref a::vs) F hr hb hd hx I2 (.cons rfl r) q2
theorem Sj {pl:Sem Bool} (he:PE X o ta) (c:D8 X.K C) (hm:Meth X.K C m f) (F:bF X.prog X.w X.K X.mg X.base CX k f fd ps sp) (hr:dG k X.A) (hb:Binds X.K fd ps ds) (hd:Vals FY ds) (hx:Passes CX X E)
   (ht:eval (.Call (.Attribute o m apos) [] [] pos) X.env=(do
     let ov <- eval o X.env
     standAt apos.atName
     let (f,first) <- holding [ov] (getMethod ov m pl)
     callWith pos f first (backTo pos (starEach [] X.env)) (backToKw pos (keywordEach [] X.env))):=by rfl) :
   PE X (.Call (.Attribute o m apos) [] [] pos) (X3 C m sp FY E ta Sh):=by
 intro pins s σ H Q I h;refine PySem.W.methodCall_KW (pl:=pl) (dZ (he pins s σ H _ I h) fun u s1 ⟨x,H1,I1,rx,a,dx,fs,ex,ea,l,q⟩=>?_) ht;subst ex;obtain rfl:u=Value.ref a:=rx;refine Eb I1 ea c hm l ?_;exact PySem.W.callWith_K0 (first:=[.ref a]) I1.zk hm.kp (Eg (us:=[.ref a]) (vs:=[.ref a]) F hr hb hd hx I1 (.cons rfl .nil) q)
structure Mk (K:Zqq) (C f:Addr):Prop where
 makes:PySem.W.makesIn K C=true
 init:PySem.W.findIn K (.ref C) "__init__"=some (some (.ref f))
 fn:PySem.W.isFn K (.ref f)=true
 kp:PySem.W.keepIn K (.ref C)=true
theorem Sk {pins:List (Addr×Obj)} {σ:St} {H:Hp} {s:Shared} {Q:VK} {us:List Value} {vs:List V} (M:Mk X.K C f) (F:bF X.prog X.w X.K X.mg X.base CX k f fd ps sp) (hr:dG (k+1) X.A) (hb:Binds X.K fd ps ds) (hd:Vals FY ds)
   (hx:Passes CX X E) (I:Inv X pins σ H s) (r:Vals vs us)
   (h:∀ x dx,H x=none->H dx=none->dx ≠ x->sp (.ref x::(vs++FY)) (upd (upd H dx (.own x)) x (.ins C dx [])) (fun v H2=>v=.non/\Q (.ref x) H2) E) :
   wpAny (model X.prog X.w) X.A (call (.ref C) us) (EP X pins σ Q) X.xe s:=by
 have hq:=h (s.heap.objs.size+1) s.heap.objs.size (I.hok.fresh (Nat.le_succ _)) (I.hok.fresh (Nat.le_refl _)) (Nat.ne_of_lt (Nat.lt_succ_self _));have I2:=Inv.made (C:=C) I;have r2:Vals (V.ref (s.heap.objs.size+1)::(vs++FY)) (Value.ref (s.heap.objs.size+1)::(us++ds)):=.cons rfl (r.append hd);have hl:(Value.ref (s.heap.objs.size+1)::us++ds).length=ps.length:=by
   have e:=r2.length;rw [F.len _ _ _ _ hq] at e;exact e.symm
 refine wpAny_call (Sg (f:=f) I.zk M.makes M.init (beq_iff_eq.mp M.fn) (codeAny_mono (F.run _ X.stack _ _ ⟨Value.ref (s.heap.objs.size+1)::us,[]⟩ (Value.ref (s.heap.objs.size+1)::(us++ds)) _ _ E (hr.make C us [])
   (I2.Vz.make C us []) (hb _ (Value.ref (s.heap.objs.size+1)::us) I2.zk hl) r2 hq) fun r s' hq'=>?_))
 cases r with
 | error e=>exact hx pins σ _ _ e s' I2 hq'
 | ok fl=>
   cases fl with
   | ret u=>
     obtain ⟨v,H',I3,rv,ev,q3⟩:=I2.after hq';subst ev;exact ⟨rv,⟨V.ref (s.heap.objs.size+1),H',I3,rfl,q3⟩⟩
   | next=>exact False.elim hq'
   | brk=>exact False.elim hq'
   | cont=>exact False.elim hq'
theorem qz (M:Mk X.K C f) (F:bF X.prog X.w X.K X.mg X.base CX k f fd ps sp) (hr:dG (k+1) X.A) (hg:Gl X x) (hm:X.mg x=some (.ref C)) (hb:Binds X.K fd ps ds) (hd:Vals FY ds) (hx:Passes CX X E)
  (ha:PA X (e::es) t) (hdb:(x==("__debug__":Str))=false:=by decide) (he:starEach (e::es) X.env=(false,eval e X.env)::starEach es X.env:=by rfl) (hpl:(backTo pos (starEach es X.env)).any (·.1)=false:=by rfl) :
  PE X (.Call (.Name x p) (e::es) [] pos) (aaq C sp FY E t):=by
 intro pins s σ H Q I h;refine wpAny_Call_Name_kw (y9 I hg hm ?_ hdb);refine PySem.W.callWith_K (h₀:=X.base) I.ok.mod.kin M.kp (dZ (ha pos pins s σ H _ I h) fun us s1 ⟨vs,H1,I1,r,q⟩=>⟨I1.zk,?_⟩) he hpl;exact Sk M F hr hb hd hx I1 r q
end
def PK (X:Cx) (kws:List Keyword) (t:TA):Prop:=
 ∀ (pos:Pos) (pins:List (Addr×Obj)) (s:Shared) (σ:St) (H:Hp) (Q:List V->Hp->Prop),Inv X pins σ H s->t σ H Q->wpAny (model X.prog X.w) X.A (evalAll ((backToKw pos (keywordEach kws X.env)).map (·.2))) (AP X pins σ Q) X.xe s
section
variable {X:Cx} {CX:MU} {k:Nat} {f C:Addr} {fd:FuncData} {ps ks:List Str} {sp:Sp} {E:XK} {x m:Str} {p pos apos kpos:Pos} {e o:Expr} {es:List Expr} {kws:List Keyword} {te ta:TE} {t tk:TA} {nm:Option Str}
theorem Y3:PK X [] Sh:=fun _ _ _ _ H Q I h=>wpAny_evalAll_nil ⟨[],H,I,.nil,h⟩
theorem V0 (ha:PE X e te) (hr:PK X kws t):PK X (⟨nm,e,kpos⟩::kws) (O2 te t):=by
 intro pos pins s σ H Q I h;show wpAny _ _ (evalAll ((do let v <- eval e X.env;standAt pos;pure v)::(backToKw pos (keywordEach kws X.env)).map (·.2))) _ _ s;refine wpAny_evalAll_cons (wpAny_bind (dZ (ha pins s σ H _ I h) fun u s1 ⟨x,H1,I1,r1,q1⟩=>wpAny_bind (wpAny_standAt (wpAny_pure ?_))));exact dZ (hr pos pins s1 σ H1 _ I1 q1) fun us s2 ⟨xs,H2,I2,r2,q2⟩=>⟨x::xs,H2,I2,.cons r1 r2,q2⟩
variable {g:List Value->List Value->List Value} {gV:List V->List V->List V}
end
structure aQ (N P:List Str) (sc:Scope):Prop where
 kind:sc.kind=.function
 co:sc.isCoroutine=false
 gen:sc.isGenerator=false
 nd:N.Nodup
 pre:N.take P.length=P
 par:∀ x ∈ P,sc.names.lookup x=some .local\/sc.names.lookup x=some .cell
 Y4:∀ y ∈ sc.names,y.2 ≠ .free
theorem Hv {kindOf:Str->Option NameKind} {x:Str}:∀ {binds:List (Str×Value)} {m:Str->Option Value},(∀ v,(x,v) ∉ binds)->bindL kindOf binds m x=m x
 | [],_,_=>rfl
 | (n,v)::r,m,h=>by
   unfold bindL
   rw [Hv fun w hw=>h w (List.mem_cons_of_mem _ hw)]
   split
   . have:x ≠ n:=by rintro rfl;exact h v List.mem_cons_self
     simp [this]
   . rfl
theorem Hw {kindOf:Str->Option NameKind} {x:Str}:∀ {binds:List (Str×Value)} {m:Str->Option Value},(∀ v,(x,v) ∉ binds)->bindC kindOf binds m x=m x
 | [],_,_=>rfl
 | (n,v)::r,m,h=>by
   unfold bindC
   rw [Hw fun w hw=>h w (List.mem_cons_of_mem _ hw)]
   split
   . rfl
   . have:x ≠ n:=by rintro rfl;exact h v List.mem_cons_self
     simp [this]
theorem Hy {kindOf:Str->Option NameKind} {x:Str} {v:Value}:∀ {P:List Str} {vs:List Value} {i:Nat} {m:Str->Option Value},P.Nodup->P[i]?=some x->vs[i]?=some v->kindOf x=some .local->
  bindL kindOf (P.zip vs) m x=some v
 | [],_,_,_,_,h,_,_=>by simp at h
 | _::_,[],_,_,_,_,h,_=>by simp at h
 | p::P,w::vs,0,m,nd,h1,h2,hk=>by
  simp at h1 h2;subst h1;subst h2
  show bindL kindOf ((p,w)::P.zip vs) m p=_
  unfold bindL
  rw [Hv fun v hv=>(List.nodup_cons.mp nd).1 (List.of_mem_zip hv).1,if_pos hk]
  simp
 | p::P,w::vs,i+1,m,nd,h1,h2,hk=>by
  show bindL kindOf ((p,w)::P.zip vs) m x=_
  unfold bindL
  exact Hy (i:=i) (List.nodup_cons.mp nd).2 (by simpa using h1) (by simpa using h2) hk
theorem Hz {kindOf:Str->Option NameKind} {x:Str} {v:Value}:∀ {P:List Str} {vs:List Value} {i:Nat} {m:Str->Option Value},P.Nodup->P[i]?=some x->vs[i]?=some v->kindOf x ≠ some .local->
  bindC kindOf (P.zip vs) m x=some v
 | [],_,_,_,_,h,_,_=>by simp at h
 | _::_,[],_,_,_,_,h,_=>by simp at h
 | p::P,w::vs,0,m,nd,h1,h2,hk=>by
  simp at h1 h2;subst h1;subst h2
  show bindC kindOf ((p,w)::P.zip vs) m p=_
  unfold bindC
  rw [Hw fun v hv=>(List.nodup_cons.mp nd).1 (List.of_mem_zip hv).1,if_neg hk]
  simp
 | p::P,w::vs,i+1,m,nd,h1,h2,hk=>by
  show bindC kindOf ((p,w)::P.zip vs) m x=_
  unfold bindC
  exact Hz (i:=i) (List.nodup_cons.mp nd).2 (by simpa using h1) (by simpa using h2) hk
def start (N:List Str) (vs:List V):St:=vs.map some++List.replicate (N.length - vs.length) none
def uT (CX:MU) (P:Program) (w:World) (K:Zqq) (mg:Str->Option Value) (base:Heap) (N:List Str) (qual:Str) (scope:Scope) (f:Addr) (cd:Value) (A:Around) (outer:List Env) (s:Shared) (H:Hp) (E:XK):Cx where
 prog:=P
 w:=w
 K:=K
 mg:=mg
 base:=base
 A:=A.deeper (envOfC qual scope s.heap.objs.size f cd)
 N:=N
 BB:=s
 Yi:=H
 env:=envOfC qual scope s.heap.objs.size f cd
 outer:=outer
 stack:=envOfC qual scope s.heap.objs.size f cd::outer
 ex:=[]
 calm:=true
 fn:=fun _=>true
 pn:=[]
 xe:=fun e s'=>wpAny (model P w) (A.deeper (envOfC qual scope s.heap.objs.size f cd)) (leaving (envOfC qual scope s.heap.objs.size f cd) e) (fun _ s''=>CX outer H s E e s'') (fun e' s''=>CX outer H s E e' s'') s'
theorem KL {sc:Scope} {n:Nat} {x:Str} (h:sc.names.lookup x=some .cell):∃ c,(cellsFrom n sc.names []).lookup x=some c:=by
 have q:=PySem.W.cellsFrom_some sc.names n [] (.inl h);exact Option.isSome_iff_exists.mp q
theorem HA {CX:MU} {P:Program} {w:World} {K:Zqq} {mg:Str->Option Value} {base:Heap} {N ps:List Str} {qual:Str} {scope:Scope} {f:Addr} {cd:Value} {A:Around} {outer:List Env} {s s1:Shared} {H:Hp} {E:XK} {us:List Value} {vs:List V}
   (S:aQ N ps scope) (hd:A.handled=none) (e0:IF P w K mg base A outer s H) (hl:vs.length=ps.length) (r:Vals vs us)
   (x:InCallC s s.heap.objs.size (bindL (envOfC qual scope s.heap.objs.size f cd).kindOf (ps.zip us) fun _=>none) (cellsFrom (s.heap.objs.size+1) scope.names []) (bindC (envOfC qual scope s.heap.objs.size f cd).kindOf (ps.zip us) fun _=>none) s1) :
   Inv (uT CX P w K mg base N qual scope f cd A outer s H E) [] (start N vs) H s1:=by
 have hpl:ps.length<=N.length:=by have:=congrArg List.length S.pre;rw [List.length_take] at this;omega
 obtain ⟨h1,tk,rfl,hk⟩:=x.done;have ZY:∀ b:Addr,b ∉ (uT CX P w K mg base N qual scope f cd A outer s H E).ex:=fun b z=>absurd (show b ∈ ([]:List Addr) from z) (by simp);refine ⟨⟨e0.mod,S.kind,rfl,rfl,Nat.le_refl _,fun y z c h1 h2=>?_,fun y hy=>?_,fun y c _ h=>?_,fun _=>hd,Around.frames_deeper e0.frames,.inr ⟨rfl,rfl⟩,fun b z=>absurd z (ZY b),e0.bs,e0.Pz,fun b _ _=>ZY b,fun b z=>absurd z (ZY b),e0.yQ,e0.RM⟩,
   rfl,e0.bare,Un.kept hk,⟨_,x.toInCall.ns,fun i y v h1 h2 h3=>?_⟩,fun y c h=>⟨_,x.cell y c h⟩,e0.hok.fresh (Nat.le_refl _),fun y c h=>?_,fun p hp=>absurd (show p ∈ ([]:List (Addr×Obj)) from hp) (by simp),e0.hok.kept hk,?_⟩
 . exact name_of_addr x.apart (PySem.mem_of_lookup h1) (PySem.mem_of_lookup h2)
 . have hy:scope.names.lookup y=some .cell\/scope.names.lookup y=some .free:=hy
   rcases hy with hy | hy
   . exact KL hy
   . exact absurd rfl (S.Y4 _ (PySem.mem_of_lookup hy))
 . exact Nat.le_of_lt (x.above y c (PySem.mem_of_lookup h))
 . have hi:i < vs.length:=by
     unfold start at h2;by_cases hi:i < vs.length
     . exact hi
     . rw [List.getElem?_append_right (by simpa using hi)] at h2
       rw [List.getElem?_replicate] at h2;split at h2<;>cases h2
   have ha:vs[i]?=some v:=by
     unfold start at h2;rw [List.getElem?_append_left (by simpa using hi),List.getElem?_map] at h2;cases e:vs[i]? with
     | none=>rw [e] at h2;cases h2
     | some a=>rw [e] at h2;cases h2;rfl
   obtain ⟨u,hu,rv⟩:=r.get ha;have hp:ps[i]?=some y:=by
     rw [<- S.pre,List.getElem?_take_of_lt (by omega)];exact h1
   have ndP:ps.Nodup:=by rw [<- S.pre];exact S.nd.sublist (List.take_sublist _ _)
   refine ⟨u,rv,?_⟩;rcases S.par y (List.mem_of_getElem? hp) with k | k
   . exact .inl ⟨k,Hy ndP hp hu k⟩
   . obtain ⟨c,e⟩:=KL (n:=s.heap.objs.size+1) k
     refine .inr ⟨.inl k,c,e,?_⟩;have q:=x.cell y c e;rw [Hz ndP hp hu (by show scope.names.lookup y ≠ _;rw [k];decide)] at q;exact q
 . exact e0.hok.fresh (Nat.le_of_lt (x.above y c (PySem.mem_of_lookup h)))
 . unfold start
   show _=N.length;rw [List.length_append,List.length_map,List.length_replicate];omega
theorem X4 {CX:MU} {P:Program} {w:World} {K:Zqq} {mg:Str->Option Value} {base:Heap} {k:Nat} {f:Addr} {name qual:Str} {params:Arguments} {body:List Stmt} {scope:Scope} {dV kV doc pm cdv ct oc:Value} {an od:Option Addr}
   {osl:Array (Option Value)} {N ps:List Str} {sp:Sp} (lk:K.lookup f=some ⟨oc,od,.func (PySem.W.fnOf name qual params body scope dV kV doc pm an cdv ct),osl⟩) (hcd:PySem.W.codeIn K cdv qual=true) (S:aQ N ps scope)
   (len:∀ vs H Q E,sp vs H Q E->vs.length=ps.length)
   (hbody:∀ (A:Around) (outer:List Env) (s:Shared) (H:Hp) (vs:List V) (Q:VK) (E:XK),dG k (A.deeper (envOfC qual scope s.heap.objs.size f cdv))->sp vs H Q E->
     ∃ t,KH (uT CX P w K mg base N qual scope f cdv A outer s H E) body t/\t { nx:=fun _ H'=>Q .non H',rt:=Q } (start N vs) H) :
   bF P w K mg base CX (k+1) f (PySem.W.fnOf name qual params body scope dV kV doc pm an cdv ct) ps sp:=by
 refine ⟨len,fun A outer s H args us vs Q E hr e0 hb r Np=>?_⟩;have hl:=len _ _ _ _ Np;have KX:K.In s.heap:=e0.mod.kin.keeps fun b o e=>(e0.bs b o e).1;have lim:s.heap.NoLimit:=e0.mod.nolimit.keeps fun b o e=>(e0.bs b o e).1;have hkind:∀ y ∈ ps.zip us,scope.names.lookup y.1=some .local\/(scope.names.lookup y.1=some .cell/\((cellsFrom (s.heap.objs.size+1) scope.names []).lookup y.1).isSome=true):=fun ⟨n,v⟩ hy=>by
   rcases S.par n (List.of_mem_zip hy).1 with q | q
   . exact .inl q
   . exact .inr ⟨q,PySem.W.cellsFrom_some _ _ _ (.inl q)⟩
 refine codeAny_call_function hr.depth (KX _ _ lk) rfl S.co S.gen rfl (PySem.W.codeRec_of KX hcd) (hb _ _ _ _ ?_);refine wpAny_newFunctionEnv_cells S.kind hkind fun env he s1 x=>?_;subst he;refine ⟨lim.keeps x.toInCall.keep,codeAny_func ?_⟩;obtain ⟨t,ht,hq⟩:=hbody A outer s H vs Q E (hr.deeper _) Np;have I:Inv (uT CX P w K mg base N qual scope f cdv A outer s H E) [] (start N vs) H s1:=HA S hr.hd e0 hl r x;refine wpAny_mono (ht [] s1 (start N vs) H _ I hq) (fun fl s' hs=>?_) fun e s' hs=>hs;have fin:∀ {σ':St} {H':Hp} {v:V} {u:Value},Inv (uT CX P w K mg base N qual scope f cdv A outer s H E) [] σ' H' s'->RelV v u->Q v H'->CE outer P w H s Q u s':=
   fun {σ' H' v u} J rv q=>⟨v,H',J.os,J.bare,J.base,J.hok,rv,q⟩
 cases fl with
 | ret u=>
   obtain ⟨v,σ',H',J,rv,q⟩:=hs;exact fin J rv q
 | next=>
   obtain ⟨σ',H',J,q⟩:=hs;exact fin (v:=V.non) (u:=Value.none) J rfl q
 | brk=>
   obtain ⟨_,_,_,q⟩:=hs;exact False.elim q
 | cont=>
   obtain ⟨_,_,_,q⟩:=hs;exact False.elim q
end L2
namespace L2
open PySem PySem.Spec PyProof.Rows
section
variable {X:Cx} {x:Str} {p pos:Pos} {e:Expr} {es:List Expr} {t:TA} {id T:String} {r:List V->Hp->VK->Prop}
def tCB (r:List V->Hp->VK->Prop) (t:TA):TE:=fun σ H Q=>t σ H fun vs H1=>r vs H1 Q
theorem c6 (hc:Hs X (.builtin id) r) (hg:Gl X x) (hm:X.mg x=none) (hv:bootBuiltins x=some (.builtin id)) (ha:PA X (e::es) t) (hn:x ≠ "__name__":=by decide) (hdb:(x==("__debug__":Str))=false:=by decide)
  (he:starEach (e::es) X.env=(false,eval e X.env)::starEach es X.env:=by rfl) (hpl:(backTo pos (starEach es X.env)).any (·.1)=false:=by rfl):PE X (.Call (.Name x p) (e::es) [] pos) (tCB r t):=by
 intro pins s σ H Q I h;refine wpAny_Call_Name_kw (zm I hg hm hv ?_ hn hdb);exact PyProof.Rows.callWith_builtin1 (dZ (ha pos pins s σ H _ I h) fun us s1 ⟨vs,H1,I1,r1,q1⟩=>hc pins s1 σ H1 vs us Q I1 r1 q1) he hpl
theorem yC (hc:Hs X (.type T) r) (hg:Gl X x) (hm:X.mg x=none) (hv:bootBuiltins x=some (.type T)) (ha:PA X (e::es) t) (hn:x ≠ "__name__":=by decide) (hdb:(x==("__debug__":Str))=false:=by decide)
  (he:starEach (e::es) X.env=(false,eval e X.env)::starEach es X.env:=by rfl) (hpl:(backTo pos (starEach es X.env)).any (·.1)=false:=by rfl):PE X (.Call (.Name x p) (e::es) [] pos) (tCB r t):=by
 intro pins s σ H Q I h;refine wpAny_Call_Name_kw (zm I hg hm hv ?_ hn hdb);exact PyProof.Rows.callWith_type1 (dZ (ha pos pins s σ H _ I h) fun us s1 ⟨vs,H1,I1,r1,q1⟩=>hc pins s1 σ H1 vs us Q I1 r1 q1) he hpl
end
end L2
namespace HT
open PySem PyProof.Rows
theorem Sl (A:Around) (s:Shared) (a:Int) (t:Tok) (c:Int) (u:Tok):∃ e,SeqAt.EqAt A s (.int a t) (.int c u) e/\(e=true ↔ a=c):=
 ⟨(a==c),SeqAt.EqAt.int_int a t c u,by simp⟩
section
open PySem.SeqAt
open PySem.AutoSeq1 (wpAny_loadPart')
open PySem.MeetsSeq PySem.MeetsSeq2 PySem.MeetsSeq3
end
section
variable {prog:Program} {w:World} {A:Around} {E:Value->Shared->Prop} {s:Shared}
def K8 (n d:Nat):Option Int->Nat
 | none=>d
 | some v=>if v < 0 then (v+(n:Int)).toNat else min v.toNat n
theorem Sm (n d:Nat):K8 n d none=d:=rfl
theorem V1 (n d k:Nat):K8 n d (some (k:Int))=min k n:=by
 show (if (k:Int) < 0 then ((k:Int)+(n:Int)).toNat else min (k:Int).toNat n)=min k n;rw [if_neg (by omega),Int.toNat_natCast]
end
end HT
namespace L2
open PySem PySem.Spec PyProof.Rows
abbrev TO:=St->Hp->(Option Int->Hp->Prop)->Prop
def PO (X:Cx) (e:Option Expr) (t:TO):Prop:=
 ∀ (pins:List (Addr×Obj)) (s:Shared) (σ:St) (H:Hp) (Q:Option Int->Hp->Prop),Inv X pins σ H s->t σ H Q->
   wpAny (model X.prog X.w) X.A (evalPart e X.env) (fun u s'=>∃ o H',Inv X pins σ H' s'/\IsPart u o/\Q o H') X.xe s
def V2:TO:=fun _ H Q=>Q none H
def aar (t:TE):TO:=fun σ H Q=>t σ H fun x H1=>∃ i,x=.int i/\Q (some i) H1
theorem intsAre_of {ns:List Int}:∀ {us:List Value},Vals (ns.map V.int) us->IntsAre us ns:=by
 induction ns with
 | nil=>intro us r;rw [List.map_nil] at r;cases r;exact .nil
 | cons n ns ih=>
  intro us r;rw [List.map_cons] at r;cases r with
  | cons r1 r2=>
   obtain ⟨t,e⟩:=r1;subst e;exact .cons n t (ih r2)
section
variable {X:Cx} {e:Expr} {te:TE} {lo hi:Option Expr} {tl th:TO} {pos p2:Pos}
theorem O3:PO X none V2:=by
 intro pins s σ H Q I h;rw [evalPart_none];exact wpAny_pure ⟨none,H,I,.none,h⟩
theorem O4 (h:PE X e te):PO X (some e) (aar te):=by
 intro pins s σ H Q I hw;rw [evalPart_some];refine dZ (h pins s σ H _ I hw) fun u s1 ⟨x,H1,I1,r1,q1⟩=>?_;obtain ⟨i,rfl,q⟩:=q1;obtain ⟨t,rfl⟩:=r1;exact ⟨some i,H1,I1,.int i t,q⟩
def SlR (X:Cx) (r:V->Option Int->Option Int->Hp->VK->Prop):Prop:=
 ∀ (pins:List (Addr×Obj)) (s:Shared) (σ:St) (H:Hp) (x:V) (v vl vu:Value) (lo hi:Option Int) (sl:Addr) (Q:VK),Inv X pins σ H s->RelV x v->s.heap.IsSliceOf sl vl vu .none->IsPart vl lo->IsPart vu hi->r x lo hi H Q->
   ∃ T id,typeLookup (.type T) "__getitem__"=pure (some (.builtin id))/\s.TypeIs v T/\wpAny (model X.prog X.w) X.A (getItem v (.ref sl)) (EP X pins σ Q) X.xe s
def tSl (r:V->Option Int->Option Int->Hp->VK->Prop) (te:TE) (tl th:TO):TE:=fun σ H Q=>te σ H fun x H1=>tl σ H1 fun l H2=>th σ H2 fun u H3=>r x l u H3 Q
theorem KN {r:V->Option Int->Option Int->Hp->VK->Prop} (hr:SlR X r) (he:PE X e te) (hl:PO X lo tl) (hu:PO X hi th):PE X (.Subscript e (.Slice lo hi none p2) pos) (tSl r te tl th):=by
 intro pins s σ H Q I h;refine Subscript_ (dZ (he pins s σ H _ I h) fun v s1 ⟨x,H1,I1,r1,q1⟩=>?_);refine wpAny_Slice (dZ (hl pins s1 σ H1 _ I1 q1) fun vl s2 ⟨l,H2,I2,pl,q2⟩=>dZ (hu pins s2 σ H2 _ I2 q2) fun vu s3 ⟨u,H3,I3,pu,q3⟩=>?_);rw [evalPart_none];refine wpAny_pure ?_;have I4:Inv X pins σ H3 { s3 with heap:=s3.heap.push { cls:=.type "slice",data:=.fields #[vl,vu,.none] } }:=I3.kept (t':=s3.toks) fun b ob q=>Heap.get?_push_of_some _ q
 obtain ⟨T,id,hT,ht,hg⟩:=hr pins { s3 with heap:=s3.heap.push { cls:=.type "slice",data:=.fields #[vl,vu,.none] } } σ H3 x v vl vu l u s3.heap.objs.size Q I4 r1 (Heap.IsSliceOf.new ..) pl pu q3;show wpAny (model X.prog X.w) X.A (subscriptTail e (.Slice lo hi none p2) v (.ref s3.heap.objs.size)) (EP X pins σ Q) X.xe { s3 with heap:=s3.heap.push { cls:=.type "slice",data:=.fields #[vl,vu,.none] } };exact tail_any (ops:=[.ref s3.heap.objs.size,v]) ht hT hg (by with_unfolding_all rfl)
def IG (xs:List V) (lo hi:Option Int):List V:=(xs.drop (HT.K8 xs.length 0 lo)).take (HT.K8 xs.length xs.length hi - HT.K8 xs.length 0 lo)
theorem KO (xs:List V) (lo hi:Option Int):(IG xs lo hi).length<=xs.length:=by
 unfold IG;rw [List.length_take,List.length_drop];omega
end
end L2
namespace L2
open PySem PySem.Spec PyProof.Rows
def V3 (n:Nat) (i:Int):Option Nat:=if 0<=i then (if i < n then some i.toNat else none) else if -(n:Int)<=i then some (i+n).toNat else none
def Sn {α:Type} (xs:List α) (i:Int):Option α:=(V3 xs.length i).bind fun j=>xs[j]?
theorem O5 {n:Nat} {i:Int} {j:Nat} (h:V3 n i=some j):seqIndex? i n=some j/\j < n/\-(n:Int)<=i/\i < n:=by
 unfold V3 at h;by_cases h0:0<=i
 . rw [if_pos h0] at h
   by_cases h1:i < n
   . rw [if_pos h1] at h
     have e:i.toNat=j:=Option.some.inj h;exact ⟨by rw [seqIndex_of h0 h1,e],by omega,by omega,h1⟩
   . rw [if_neg h1] at h;cases h
 . rw [if_neg h0] at h
   by_cases h1:-(n:Int)<=i
   . rw [if_pos h1] at h
     have e:(i+n).toNat=j:=Option.some.inj h;exact ⟨by rw [seqIndex_neg (by omega) h1,e],by omega,h1,by omega⟩
   . rw [if_neg h1] at h;cases h
theorem O6 {α:Type} {xs:List α} {i:Int} {v:α} (h:Sn xs i=some v):∃ j,seqIndex? i xs.length=some j/\xs[j]?=some v/\j < xs.length/\-(xs.length:Int)<=i/\i < xs.length:=by
 unfold Sn at h;cases e:V3 xs.length i with
 | none=>rw [e] at h;cases h
 | some j=>
  rw [e] at h;obtain ⟨h1,h2,h3,h4⟩:=O5 e;exact ⟨j,h1,h,h2,h3,h4⟩
theorem bw {α:Type} {xs:List α} {j:Nat} {v:α} (h:xs[j]?=some v):Sn xs (j:Int)=some v:=by
 have hj:j < xs.length:=(List.getElem?_eq_some_iff.mp h).1;have e:V3 xs.length (j:Int)=some j:=by
  unfold V3;rw [if_pos (by omega),if_pos (by omega)];simp
 unfold Sn;rw [e];exact h
def V4 (b:Expr):Prop:=∀ o i,subscripted b false o i=operate [o,i] (getItem o i)
def IxR (X:Cx) (r:R2):Prop:=
 ∀ (value slice:Expr) (pins:List (Addr×Obj)) (s:Shared) (σ:St) (H:Hp) (x y:V) (v u:Value) (Q:VK),Inv X pins σ H s->RelV x v->RelV y u->r x y H Q->
   subscripted slice false v u=operate [v,u] (getItem v u)->wpAny (model X.prog X.w) X.A (subscriptTail value slice v u) (EP X pins σ Q) X.xe s
def MtR (X:Cx) (id:String) (r:V->List V->Hp->VK->Prop):Prop:=
 ∀ (pins:List (Addr×Obj)) (s:Shared) (σ:St) (H:Hp) (x:V) (xs:List V) (v:Value) (us:List Value) (Q:VK),Inv X pins σ H s->RelV x v->Vals xs us->r x xs H Q->
   wpAny (model X.prog X.w) X.A (call (.builtin id) (v::us)) (EP X pins σ Q) X.xe s
section
variable {X:Cx} {a b:Expr} {ta tb:TE} {pos:Pos}
theorem bV {r:R2} (hr:IxR X r) (ha:PE X a ta) (hb:PE X b tb) (hs:V4 b):PE X (.Subscript a b pos) (tOp r ta tb):=by
 intro pins s σ H Q I h;exact Subscript_ (Ys ha hb I h fun v u s2 x y H2 I2 rx ry q=>hr a b pins s2 σ H2 x y v u Q I2 rx ry q (hs _ _))
def aas (K:Zqq):R2:=fun x y H Q=>∃ p xs i v,x=.ref p/\y=.int i/\bI K H p xs/\Sn xs i=some v/\Q v H
def abH (K:Zqq):R2:=fun x y H Q=>∃ p xs i v,x=.ref p/\y=.int i/\nU K H p xs/\Sn xs i=some v/\Q v H
theorem b9:IxR X (aas X.K):=by
 intro value slice pins s σ H x y v u Q I rx ry h hs;obtain ⟨p,xs,i,z,rfl,rfl,hq,he,q⟩:=h;cases rx;obtain ⟨t,rfl⟩:=ry;obtain ⟨its,r,pl,hz⟩:=I.list hq;obtain ⟨j,h1,h2,h3,h4,h5⟩:=O6 he;obtain ⟨w,ew,rw'⟩:=r.get h2;have hl:=r.length;have hn:=BE;have fin:EP X pins σ Q w s:=⟨z,H,I,rw',q⟩;by_cases h0:0<=i
 . have hj:i.toNat=j:=by
     rw [seqIndex_of h0 h5] at h1;exact Option.some.inj h1
   exact item_listR pl.isList h0 (by omega) (by rw [hj];simpa using ew) fin hs
 . have hj:(i+(its.toArray.size:Int)).toNat=j:=by
     rw [seqIndex_neg (by omega) h4] at h1;rw [List.size_toArray,<- hl];exact Option.some.inj h1
   exact subscriptTail_builtinR (x:=w) pl.isList.typeIs slot_list_getitem.lookup
     (wpAny_getItem_list_neg (Q:=fun r s'=>r=w/\EP X pins σ Q r s') pl.isList (by omega) (by rw [List.size_toArray]<;>omega) (by omega) (by rw [hj];simpa using ew) ⟨rfl,fin⟩) hs
theorem wW:IxR X (abH X.K):=by
 intro value slice pins s σ H x y v u Q I rx ry h hs;obtain ⟨p,xs,i,z,rfl,rfl,hq,he,q⟩:=h;cases rx;obtain ⟨t,rfl⟩:=ry;obtain ⟨its,r,pl,hz⟩:=I.tuple hq;obtain ⟨j,h1,h2,h3,h4,h5⟩:=O6 he;obtain ⟨w,ew,rw'⟩:=r.get h2;have hl:=r.length;have hn:=BE;have fin:EP X pins σ Q w s:=⟨z,H,I,rw',q⟩;exact subscriptTail_builtinR (x:=w) pl.typeIs slot_tuple_getitem.lookup
   (getItem_tuple (j:=j) (Q:=fun r s'=>r=w/\EP X pins σ Q r s') pl (by omega) (by omega) (by rw [List.size_toArray,<- hl];exact h1) (by simpa using ew) ⟨rfl,fin⟩) hs
theorem Nq (its:List Value) (n j:Nat) (u:Value):Obj.mapSeq (·.setIfInBounds j u) { cls:=.type "list",data:=.seq its.toArray n }={ cls:=.type "list",data:=.seq (its.set j u).toArray n }:=by
 simp [Obj.mapSeq]
theorem Inv.lst {pins:List (Addr×Obj)} {σ:St} {H:Hp} {s:Shared} {p:Addr} {xs:List V} (I:Inv X pins σ H s) (h:H p=some (.lst xs)) :
  ∃ (its:List Value) (n:Nat),Vals xs its/\s.heap.get? p=some { cls:=.type "list",data:=.seq its.toArray n }/\xs.length<=sizeLine:=by
 obtain ⟨z,its,n,r,e⟩:=I.hok p _ h;exact ⟨its,n,r,e,z⟩
theorem Inv.Y5 {pins:List (Addr×Obj)} {σ:St} {H:Hp} {s:Shared} {p:Addr} {xs ys:List V} {its its':List Value} {n n':Nat} {f:Obj->Obj} (I:Inv X pins σ H s) (h:H p=some (.lst xs))
  (ho:s.heap.get? p=some { cls:=.type "list",data:=.seq its.toArray n }) (hf:f { cls:=.type "list",data:=.seq its.toArray n }={ cls:=.type "list",data:=.seq its'.toArray n' }) (r:Vals ys its') (hz:ys.length<=sizeLine) (t:Nat) :
  Inv X pins σ (upd H p (.lst ys)) { s with heap:=s.heap.update p f,toks:=t }:=by
 have e:(s.heap.update p f).get? p=some { cls:=.type "list",data:=.seq its'.toArray n' }:=by
  rw [Heap.get?_update_self f ho (by rw [hf]<;>rfl),hf]
 refine I.write (x:=p) (e:=p) (by rw [h];trivial) (.inl rfl) (fun b u hb q=>(Heap.get?_update_other _ _ (Ne.symm hb)).trans q) ⟨_,e⟩ ?_;exact ⟨hz,its',n',r,e⟩
def aat:V->V->V->Hp->(Hp->Prop)->Prop:=fun o i v H Q=>∃ p xs k j,o=.ref p/\i=.int k/\H p=some (.lst xs)/\V3 xs.length k=some j/\Q (upd H p (.lst (xs.set j v)))
theorem set_list:Yo X aat:=by
 intro pins s σ H o i v ov iv u Q I ro ri rv h;obtain ⟨p,xs,k,j,rfl,rfl,hp,hj,q⟩:=h;cases ro;obtain ⟨t,rfl⟩:=ri;obtain ⟨its,n,r,ho,hz⟩:=I.lst hp;obtain ⟨h1,h2,h3,h4⟩:=O5 hj;have hl:=r.length;have hn:=BE;have I':Inv X pins σ (upd H p (.lst (xs.set j v))) { s with heap:=s.heap.update p (Obj.mapSeq (·.setIfInBounds j u)) }:=
   I.Y5 hp ho (Nq its n j u) (r.set rv j) (by rw [List.length_set];exact hz) s.toks
 by_cases h0:0<=k
 . have hk:k.toNat=j:=by
     rw [seqIndex_of h0 h4] at h1;exact Option.some.inj h1
   exact PySem.W.ki_setAt ho h0 (by omega) (by rw [List.size_toArray,<- hl];exact h4) (by rw [hk];exact ⟨_,I',q⟩)
 . have hk:(k+(its.toArray.size:Int)).toNat=j:=by
     rw [seqIndex_neg (by omega) h3] at h1;rw [List.size_toArray,<- hl];exact Option.some.inj h1
   exact PySem.W.ki_setBack ho (by omega) (by rw [List.size_toArray,<- hl];exact h3) (by omega) (by rw [hk];exact ⟨_,I',q⟩)
theorem II (lo hi:Option Int) (n:Nat):(sliceBounds lo hi none n).1=((HT.K8 n 0 lo:Nat):Int)/\(sliceBounds lo hi none n).2.1=((HT.K8 n n hi:Nat):Int)/\(sliceBounds lo hi none n).2.2=1:=by
 refine ⟨?_,?_,rfl⟩
 . cases lo with
   | none=>simp [sliceBounds,HT.K8]
   | some i=>
     simp only [sliceBounds,HT.K8,Option.getD_none,show (1:Int) > 0 by decide,if_true];by_cases h:i < 0
     . simp only [h,if_true]<;>omega
     . simp only [h,if_false]<;>omega
 . cases hi with
   | none=>simp [sliceBounds,HT.K8]
   | some i=>
     simp only [sliceBounds,HT.K8,Option.getD_none,show (1:Int) > 0 by decide,if_true];by_cases h:i < 0
     . simp only [h,if_true]<;>omega
     . simp only [h,if_false]<;>omega
theorem FZ (its:List Value) (lo hi:Option Int):slicePick its.toArray lo hi none=((its.drop (HT.K8 its.length 0 lo)).take (HT.K8 its.length its.length hi - HT.K8 its.length 0 lo)).toArray:=by
 obtain ⟨h1,h2,h3⟩:=II lo hi its.toArray.size;unfold slicePick;rw [h1,h2,h3];simp only [sliceRange_one,pick_run,List.size_toArray]<;>rfl
def abI (K:Zqq):V->Option Int->Option Int->Hp->VK->Prop:=fun x lo hi H Q=>∃ a xs,x=.ref a/\bI K H a xs/\∀ p,H p=none->Q (.ref p) (upd H p (.lst (IG xs lo hi)))
theorem O7:SlR X (abI X.K):=by
 intro pins s σ H x v vl vu lo hi sl Q I rx hs pl pu h;obtain ⟨a,xs,rfl,hx,q⟩:=h;cases rx;obtain ⟨its,r,ht,hz⟩:=I.list hx;have hlen:=r.length;refine ⟨"list",_,slot_list_getitem.lookup,ht.isList.typeIs,?_⟩;refine wpAny_getItem_list_slice ht.isList hs pl pu .none (by simp) ?_ (by rw [List.size_toArray]<;>omega);rw [FZ,<- hlen];refine ⟨.ref s.heap.objs.size,_,I.laid (t':=s.toks) (o:=.lst (IG xs lo hi)) (fun b ob q=>Heap.get?_push_of_some _ q) (Nat.le_refl _) ?_,rfl,q _ (I.hok.fresh (Nat.le_refl _))⟩;exact ⟨Nat.le_trans (KO xs lo hi) hz,_,0,(r.drop (HT.K8 xs.length 0 lo)).take (HT.K8 xs.length xs.length hi - HT.K8 xs.length 0 lo),Heap.get?_push_size _ rfl⟩
def sW:V->Bool
 | .non=>true
 | .bl _=>true
 | .int _=>true
 | .str _=>true
 | _=>false
def RJ:V->V->Bool
 | .non,.non=>true
 | .bl a,.bl b=>a==b
 | .bl a,.int b=>(if a then 1 else 0)==b
 | .int a,.bl b=>a==(if b then 1 else 0)
 | .int a,.int b=>a==b
 | .str a,.str b=>a==b
 | _,_=>false
theorem Y6 {A:Around} {s:Shared} {y x:V} {u v:Value} (ry:RelV y u) (rx:RelV x v) (fy:sW y=true) (fx:sW x=true):SeqAt.EqAt A s u v (RJ y x):=by
 cases y with
 | non=>
  cases ry;cases x with
  | non=>cases rx;exact SeqAt.EqAt.same _
  | bl b=>cases rx;exact SeqAt.EqAt.none_bool b
  | int b=>obtain ⟨t,rfl⟩:=rx;exact SeqAt.EqAt.none_int b t
  | str b=>obtain ⟨t,rfl⟩:=rx;exact SeqAt.EqAt.none_str b t
  | _=>exact absurd (show false=true from fx) Bool.false_ne_true
 | bl a=>
  cases ry;cases x with
  | non=>cases rx;exact SeqAt.EqAt.bool_none a
  | bl b=>cases rx;exact SeqAt.EqAt.bool_bool a b
  | int b=>obtain ⟨t,rfl⟩:=rx;exact SeqAt.EqAt.bool_int a b t
  | str b=>obtain ⟨t,rfl⟩:=rx;exact SeqAt.EqAt.bool_str a b t
  | _=>exact absurd (show false=true from fx) Bool.false_ne_true
 | int a=>
  obtain ⟨t',rfl⟩:=ry;cases x with
  | non=>cases rx;exact SeqAt.EqAt.int_none a t'
  | bl b=>cases rx;exact SeqAt.EqAt.int_bool a t' b
  | int b=>obtain ⟨t,rfl⟩:=rx;exact SeqAt.EqAt.int_int a t' b t
  | str b=>obtain ⟨t,rfl⟩:=rx;exact SeqAt.EqAt.int_str a t' b t
  | _=>exact absurd (show false=true from fx) Bool.false_ne_true
 | str a=>
  obtain ⟨t',rfl⟩:=ry;cases x with
  | non=>cases rx;exact SeqAt.EqAt.str_none a t'
  | bl b=>cases rx;exact SeqAt.EqAt.str_bool a t' b
  | int b=>obtain ⟨t,rfl⟩:=rx;exact SeqAt.EqAt.str_int a t' b t
  | str b=>obtain ⟨t,rfl⟩:=rx;exact SeqAt.EqAt.str_str a t' b t
  | _=>exact absurd (show false=true from fx) Bool.false_ne_true
 | _=>exact absurd (show false=true from fy) Bool.false_ne_true
def MV (x:V) (u:Value):Bool:=match u with
 | .none=>RJ .non x
 | .bool b=>RJ (.bl b) x
 | .int i _=>RJ (.int i) x
 | .str z _=>RJ (.str z) x
 | _=>false
theorem IJ {x y:V} {u:Value} (r:RelV y u) (f:sW y=true):MV x u=RJ y x:=by
 cases y with
 | non=>cases r;rfl
 | bl b=>cases r;rfl
 | int i=>obtain ⟨t,rfl⟩:=r;rfl
 | str z=>obtain ⟨t,rfl⟩:=r;rfl
 | _=>exact absurd (show false=true from f) Bool.false_ne_true
theorem Aa {x:V}:∀ {xs:List V} {us:List Value},Vals xs us->xs.all sW=true->us.any (MV x)=xs.any fun y=>RJ y x
 | _,_,.nil,_=>rfl
 | y::xs,u::us,.cons r t,f=>by
  rw [List.all_cons,Bool.and_eq_true] at f
  rw [List.any_cons,List.any_cons,IJ r f.1,Aa t f.2]
theorem uh {A:Around} {s:Shared} {x:V} {v:Value} (rx:RelV x v) (fx:sW x=true):∀ {xs:List V} {us:List Value},Vals xs us->xs.all sW=true->∀ u ∈ us,SeqAt.EqAt A s u v (MV x u)
 | _,_,.nil,_=>fun u hu=>by cases hu
 | y::xs,u::us,.cons r t,f=>fun u' hu=>by
   rw [List.all_cons,Bool.and_eq_true] at f
   rcases List.mem_cons.mp hu with rfl | hu
   . rw [IJ r f.1];exact Y6 r rx f.1 fx
   . exact uh rx fx t f.2 u' hu
def KP (x:V) (xs:List V):Bool:=xs.any fun y=>RJ y x
def rIn (K:Zqq) (neg:Bool):R2:=fun x y H Q=>∃ p xs,y=.ref p/\(bI K H p xs\/nU K H p xs)/\sW x=true/\xs.all sW=true/\Q (.bl (if neg then !KP x xs else KP x xs)) H
theorem uo:C1 X (compareOp .In) (rIn X.K false):=by
 intro pins s σ H x y v u Q I rx ry h;obtain ⟨p,xs,rfl,hq,fx,fs,q⟩:=h;cases ry;rcases hq with hq | hq
 . obtain ⟨its,r,pl,hz⟩:=I.list hq
   refine SeqAt.in_listAt (MV x) pl.isList (fun w hw=>uh rx fx r fs w (by simpa using hw)) ⟨.bl _,H,I,rfl,?_⟩;rw [show its.toArray.any (MV x)=its.any (MV x) by simp,Aa r fs];exact q
 . obtain ⟨its,r,pl,hz⟩:=I.tuple hq
   refine SeqAt.in_tupleAt (MV x) pl (fun w hw=>uh rx fx r fs w (by simpa using hw)) ⟨.bl _,H,I,rfl,?_⟩;rw [show its.toArray.any (MV x)=its.any (MV x) by simp,Aa r fs];exact q
theorem qA:C1 X (compareOp .NotIn) (rIn X.K true):=by
 intro pins s σ H x y v u Q I rx ry h;obtain ⟨p,xs,rfl,hq,fx,fs,q⟩:=h;cases ry;rcases hq with hq | hq
 . obtain ⟨its,r,pl,hz⟩:=I.list hq
   refine SeqAt.notIn_listAt (MV x) pl.isList (fun w hw=>uh rx fx r fs w (by simpa using hw)) ⟨.bl _,H,I,rfl,?_⟩;rw [show its.toArray.any (MV x)=its.any (MV x) by simp,Aa r fs];exact q
 . obtain ⟨its,r,pl,hz⟩:=I.tuple hq
   refine SeqAt.notIn_tupleAt (MV x) pl (fun w hw=>uh rx fx r fs w (by simpa using hw)) ⟨.bl _,H,I,rfl,?_⟩;rw [show its.toArray.any (MV x)=its.any (MV x) by simp,Aa r fs];exact q
theorem bx:Hs X (.builtin "len") (fun xs H Q=>∃ p ys,xs=[.ref p]/\(bI X.K H p ys\/nU X.K H p ys)/\Q (.int ys.length) H):=by
 intro pins s σ H xs us Q I r h;obtain ⟨p,ys,rfl,hq,q⟩:=h;obtain ⟨u,rfl,rx⟩:=vals1 r;cases rx;have hn:=BE;rcases hq with hq | hq
 . obtain ⟨its,r',pl,hz⟩:=I.list hq
   have hlen:=r'.length;exact Calls.call_len_list pl.isList (by simp only [List.size_toArray]<;>omega) ⟨.int ys.length,H,I.tok _,⟨s.toks+1,by rw [List.size_toArray,hlen]⟩,q⟩
 . obtain ⟨its,r',pl,hz⟩:=I.tuple hq
   have hlen:=r'.length;exact len_tuple pl (by simp only [List.size_toArray]<;>omega) ⟨.int ys.length,H,I.tok _,⟨s.toks+1,by rw [List.size_toArray,hlen]⟩,q⟩
theorem IK:Hs X (.type "list") (fun xs H Q=>∃ p ys,xs=[.ref p]/\(bI X.K H p ys\/nU X.K H p ys)/\∀ l,H l=none->Q (.ref l) (upd H l (.lst ys))):=by
 intro pins s σ H xs us Q I r h;obtain ⟨p,ys,rfl,hq,q⟩:=h;obtain ⟨u,rfl,rx⟩:=vals1 r;cases rx;have fin:∀ (its:List Value),Vals ys its->ys.length<=sizeLine->∀ (h':Heap) (c':Nat),(∀ b o',s.heap.get? b=some o'->h'.get? b=some o')->
     h'.get? s.heap.objs.size=some { cls:=.type "list",dict:=none,data:=.seq its.toArray c',slots:=#[] }->EP X pins σ Q (.ref s.heap.objs.size) { s with heap:=h' }:=fun its r' hz h' c' kp e=>
   ⟨.ref s.heap.objs.size,_,I.laid (t':=s.toks) kp (Nat.le_refl _) (show dY X.prog X.w _ h' _ (.lst ys) from ⟨hz,its,c',r',e⟩),rfl,q _ (I.hok.fresh (Nat.le_refl _))⟩
 rcases hq with hq | hq
 . obtain ⟨its,r',pl,hz⟩:=I.list hq
   have hlen:=r'.length;obtain ⟨o,ho,hc,n,hd⟩:=pl.isList;exact call_list_seq p (.inl rfl) ho hc hd (fun h' c' kp e=>fin its r' hz h' c' kp e) (by simp only [List.size_toArray]<;>omega)
 . obtain ⟨its,r',pl,hz⟩:=I.tuple hq
   have hlen:=r'.length;obtain ⟨o,ho,hc,n,hd⟩:=pl;exact call_list_seq p (.inr rfl) ho hc hd (fun h' c' kp e=>fin its r' hz h' c' kp e) (by simp only [List.size_toArray]<;>omega)
theorem tS:Hs X (.type "tuple") (fun xs H Q=>∃ p ys,xs=[.ref p]/\((bI X.K H p ys/\∀ l,H l=none->Q (.ref l) (upd H l (.tup ys)))\/(nU X.K H p ys/\Q (.ref p) H))):=by
 intro pins s σ H xs us Q I r h;obtain ⟨p,ys,rfl,h⟩:=h;obtain ⟨u,rfl,rx⟩:=vals1 r;cases rx;rcases h with ⟨hq,q⟩ | ⟨hq,q⟩
 . obtain ⟨its,r',pl,hz⟩:=I.list hq
   have hlen:=r'.length;refine call_tuple_list pl.isList (fun h' kp=>?_) (by simp only [List.size_toArray]<;>omega);have I1:Inv X pins σ H { s with heap:=h' }:=I.kept (t':=s.toks) kp;have I2:Inv X pins σ (upd H h'.objs.size (.tup ys)) { s with heap:=h'.push { cls:=.type "tuple",data:=.seq its.toArray } }:=
     I1.laid (t':=s.toks) (fun b o e=>Heap.get?_push_of_some _ e) (Nat.le_refl _) (show dY X.prog X.w _ _ _ (.tup ys) from ⟨hz,its,r',IsTup.new _ _⟩)
   exact ⟨.ref h'.objs.size,_,I2,rfl,q _ (I1.hok.fresh (Nat.le_refl _))⟩
 . obtain ⟨its,r',pl,hz⟩:=I.tuple hq
   exact call_tuple_same pl ⟨.ref p,H,I,rfl,q⟩
def tyV (K:Zqq) (T:String) (x:V) (H:Hp):Prop:=match x with
 | .str _=>T = "str"
 | .int _=>T = "int"
 | .ref p=>(T = "list"/\∃ xs,bI K H p xs)\/(T = "tuple"/\∃ o,K.lookup p=some o/\o.cls=.type "tuple"/\o.dict=none) \/
     (T = "dict"/\((∃ kvs,H p=some (.dK kvs))\/∃ kvs,H p=some (.dT kvs)))\/(T = "set"/\∃ S n,H p=some (.set S n))
 | _=>False
theorem Y7 {pins:List (Addr×Obj)} {σ:St} {H:Hp} {s:Shared} {T:String} {x:V} {v:Value} (I:Inv X pins σ H s) (r:RelV x v) (ty:tyV X.K T x H) :
   s.TypeIs v T/\∀ a,v=.ref a->∃ ob,s.heap.get? a=some ob/\ob.dict=none:=by
 cases x with
 | str z=>
   obtain ⟨t,rfl⟩:=r;cases (show T = "str" from ty);exact ⟨typeIs_str s z t,fun _ e=>nomatch e⟩
 | int i=>
   obtain ⟨t,rfl⟩:=r;cases (show T = "int" from ty);exact ⟨typeIs_int s i t,fun _ e=>nomatch e⟩
 | ref p=>
   cases r;rcases ty with ⟨rfl,xs,hq⟩ | ⟨rfl,o,hk,hc,hd⟩ | ⟨rfl,hk⟩ | ⟨rfl,S,n,hk⟩
   . obtain ⟨its,_,pl,_⟩:=I.list hq
     refine ⟨pl.isList.typeIs,fun a e=>?_⟩;cases e;obtain ⟨o,n,e,c,hd,_⟩:=pl;exact ⟨o,e,hd⟩
   . refine ⟨⟨o,I.zk p o hk,hc⟩,fun a e=>?_⟩
     cases e;exact ⟨o,I.zk _ o hk,hd⟩
   . have z:∃ o,s.heap.get? p=some o/\o.ExactDict:=by
       rcases hk with ⟨kvs,hk⟩ | ⟨kvs,hk⟩
       . obtain ⟨_,_,_,_,o,_,_,e,ex,_⟩:=I.hok p _ hk
         exact ⟨o,e,ex⟩
       . obtain ⟨_,_,_,_,o,_,_,e,ex,_⟩:=I.hok p _ hk
         exact ⟨o,e,ex⟩
     obtain ⟨o,e,ex⟩:=z;refine ⟨⟨o,e,ex.1⟩,fun a e2=>?_⟩;cases e2;exact ⟨o,e,ex.2.1⟩
   . obtain ⟨o,_,_,_,e,ex,_⟩:=I.hok p _ hk
     refine ⟨⟨o,e,ex.1⟩,fun a e2=>?_⟩;cases e2;exact ⟨o,e,ex.2.1⟩
 | _=>exact False.elim ty
def tBM (K:Zqq) (T:String) (r:V->List V->Hp->VK->Prop) (to:TE) (t:TA):TE:=fun σ H Q=>to σ H fun x H1=>tyV K T x H1/\t σ H1 fun xs H2=>r x xs H2 Q
variable {o e:Expr} {es:List Expr} {to:TE} {t:TA} {name:Str} {apos cpos:Pos} {T id:String} {r:V->List V->Hp->VK->Prop}
theorem uq (pa:PlainAttrs T) (slot:Slot T name id) (hty:typeOf (.builtin id)=pure (.type "method_descriptor")) (hm:MtR X id r) (ho:PE X o to) (ha:PA X (e::es) t)
   (hbase:attributeBase o name X.env (eval o X.env)=eval o X.env:=by rfl)
   (hfew:((backTo cpos (starEach (e::es) X.env)).all (fun x=>!x.1)&&(backToKw cpos (keywordEach [] X.env)).all (fun x=>x.1.isSome)
    &&decide ((e::es).length+([]:List Keyword).length+(if ([]:List Keyword).isEmpty then 0 else 1) < 30))=true:=by rfl)
   (hline:(apos.endLine==cpos.line)=true:=by rfl) (hs:starEach (e::es) X.env=(false,eval e X.env)::starEach es X.env:=by rfl) (hplain:(backTo cpos (starEach es X.env)).any (·.1)=false:=by rfl) :
   PE X (.Call (.Attribute o name apos) (e::es) [] cpos) (tBM X.K T r to t):=by
 intro pins s σ H Q I h;refine wpAny_Call_method_late hbase hfew hline rfl (dZ (ho pins s σ H _ I h) fun v s1 ⟨x,H1,I1,r1,ty,q1⟩=>?_);obtain ⟨h1,h2⟩:=Y7 I1 r1 ty;refine ⟨T,id,pa,slot,hty,h1,h2,?_⟩;have hA:=ha cpos pins s1 σ H1 _ I1 q1;rw [hs] at hA ⊢;refine Calls.callWith_builtin (by show (false||(backTo cpos (starEach es X.env)).any (·.1))=false;rw [hplain]<;>rfl) (Calls.evalArgs_plain ?_);exact dZ hA fun us s2 ⟨vs,H2,I2,r2,q2⟩=>hm pins s2 σ H2 x vs v us Q I2 r1 r2 q2
end
end L2
namespace L2
open PySem PySem.Spec PyProof.Rows
def MtM (X:Cx) (id:String) (r:V->List V->Hp->VK->Prop):Prop:=
 ∀ (pins:List (Addr×Obj)) (s:Shared) (σ:St) (H:Hp) (x:V) (xs:List V) (v:Value) (us:List Value) (Q:VK),Inv X pins σ H s->RelV x v->Vals xs us->r x xs H Q->
   wpAny (model X.prog X.w) X.A (call (.builtin id) (v::us)) (EP X pins σ Q) X.xe s
theorem Vals.one:∀ {x:V} {us:List Value},Vals [x] us->∃ u,us=[u]/\RelV x u
 | _,_,.cons r .nil=>⟨_,rfl,r⟩
theorem Vals.eraseIdx:∀ {xs:List V} {us:List Value} (i:Nat),Vals xs us->Vals (xs.eraseIdx i) (us.eraseIdx i)
 | _,_,_,.nil=>.nil
 | _,_,0,.cons _ t=>t
 | _,_,i+1,.cons r t=>.cons r (Vals.eraseIdx i t)
theorem Vals.rep {xs:List V} {us:List Value} (h:Vals xs us):∀ k:Nat,Vals (List.replicate k xs).flatten (List.replicate k us).flatten
 | 0=>.nil
 | k+1=>by
  rw [List.replicate_succ,List.replicate_succ,List.flatten_cons,List.flatten_cons]
  exact Vals.append h (Vals.rep h k)
theorem HB {α:Type}:∀ (l:List α) (i:Nat),(l.eraseIdx i).length<=l.length
 | [],_=>Nat.le_refl _
 | _::_,0=>Nat.le_succ _
 | _::r,i+1=>Nat.succ_le_succ (HB r i)
theorem foldl_rep (its:List Value):∀ (k:Nat) (acc:List Value),
  List.foldl (fun x1 x2=>x1++x2) acc.toArray (List.replicate k its.toArray)=(acc++(List.replicate k its).flatten).toArray
 | 0,acc=>by simp
 | k+1,acc=>by
  have e:acc.toArray++its.toArray=(acc++its).toArray:=by simp
  have e2:(acc++its)++(List.replicate k its).flatten=acc++(List.replicate (k+1) its).flatten:=by
   rw [List.replicate_succ,List.flatten_cons,List.append_assoc]
  rw [<- e2,<- foldl_rep its k (acc++its),<- e,List.replicate_succ,List.foldl_cons]
section
variable {X:Cx} {pins:List (Addr×Obj)} {σ:St} {H:Hp} {s:Shared} {l b:Addr} {xs ys zs:List V}
theorem Inv.aau {its its':List Value} {n:Nat} {f:Array Value->Array Value} {t':Nat} (I:Inv X pins σ H s) (hH:H l=some (.lst xs))
  (e:s.heap.get? l=some { cls:=.type "list",data:=.seq its.toArray n }) (hf:f its.toArray=its'.toArray) (hv:Vals ys its') (hz:ys.length<=sizeLine) :
  Inv X pins σ (upd H l (.lst ys)) { s with heap:=s.heap.update l (Obj.mapSeq f),toks:=t' }:=by
 have q:=PySem.IsL.update e f;rw [hf] at q;refine I.write (x:=l) (e:=l) (by rw [hH];exact trivial) (.inl rfl) (fun b' u hb hu=>(Heap.get?_update_other s.heap (Obj.mapSeq f) (Ne.symm hb)).trans hu) ⟨_,q⟩ ?_;exact ⟨hz,its',_,hv,q⟩
theorem Inv.aav {its:List Value} {t':Nat} (I:Inv X pins σ H s) (hv:Vals ys its) (hz:ys.length<=sizeLine) :
  Inv X pins σ (upd H s.heap.objs.size (.lst ys)) { s with heap:=s.heap.push { cls:=.type "list",data:=.seq its.toArray },toks:=t' }:=
 I.laid (fun _ _ q=>Heap.get?_push_of_some _ q) (Nat.le_refl _) ⟨hz,its,0,hv,Heap.get?_push_size _ rfl⟩
theorem Inv.fresh (I:Inv X pins σ H s):H s.heap.objs.size=none:=I.hok.fresh (Nat.le_refl _)
theorem Inv.So (I:Inv X pins σ H s) (hH:H l=some (.lst xs)):xs.length<=sizeLine/\∃ (its:List Value) (n:Nat),Vals xs its/\xs.length=its.length/\s.heap.get? l=some { cls:=.type "list",data:=.seq its.toArray n }:=by
 obtain ⟨z,its,n,r,e⟩:=I.hok l _ hH;exact ⟨z,its,n,r,r.length,e⟩
theorem Sq {n:Nat} (h:n<=sizeLine):Builtin.List.listTooLong n=false:=by
 unfold Builtin.List.listTooLong;exact decide_eq_false (by omega)
end
section
variable {X:Cx}
def V5:V->List V->Hp->VK->Prop:=fun x vs H Q=>∃ l xs y,x=.ref l/\vs=[y]/\H l=some (.lst xs)/\xs.length < sizeLine/\Q .non (upd H l (.lst (xs++[y])))
theorem jt:MtM X "list.append" V5:=by
 intro pins s σ H x vs v us Q I rx rv h;obtain ⟨l,xs,y,rfl,rfl,hH,hz,q⟩:=h;cases rx;obtain ⟨u,rfl,ru⟩:=rv.one;obtain ⟨z,its,n,r,hl,e⟩:=I.So hH;refine call_meets F.slot_list_append ⟨_,e,rfl⟩ F.entry_list_append (F.args_list_append_2 _ _) (PySem.list_append l its.toArray n u (by rw [List.size_toArray];omega)) ⟨e,?_⟩;refine ⟨.non,_,I.aau (its':=its++[u]) hH e (by simp) (r.append (.cons ru .nil)) ?_,rfl,q⟩;rw [List.length_append,List.length_singleton];omega
def Y8:V->List V->Hp->VK->Prop:=fun x vs H Q=>∃ l xs i k y,x=.ref l/\vs=[.int i]/\H l=some (.lst xs)/\-(2 ^ 63)<=i/\i < 2 ^ 63/\seqIndex? i xs.length=some k/\xs[k]?=some y/\Q y (upd H l (.lst (xs.eraseIdx k)))
theorem Ss:MtM X "list.pop" Y8:=by
 intro pins s σ H x vs v us Q I rx rv h;obtain ⟨l,xs,i,k,y,rfl,rfl,hH,h1,h2,hk,hy,q⟩:=h;cases rx;obtain ⟨u,rfl,ru⟩:=rv.one;obtain ⟨t,rfl⟩:=ru;obtain ⟨z,its,n,r,hl,e⟩:=I.So hH;obtain ⟨w,hw,rw'⟩:=r.get hy;refine call_meets F.slot_list_pop ⟨_,e,rfl⟩ F.entry_list_pop (F.args_list_pop_2 _ _)
   (MeetsSeq.list_pop_at l its.toArray n i t k w (fitsIndex_both h1 h2) (by rw [List.size_toArray,<- hl];exact hk) (by rw [<- Array.getElem?_toList];exact hw) (by rw [List.size_toArray];omega)) ⟨e,?_⟩
 refine ⟨y,_,I.aau (its':=its.eraseIdx k) hH e ?_ (r.eraseIdx k) ?_,rw',q⟩
 . show its.toArray.eraseIdxIfInBounds k=(its.eraseIdx k).toArray
   rw [List.eraseIdxIfInBounds_toArray]
 . have:=HB xs k
   omega
def abJ:R2:=fun x y H Q=>∃ l b xs zs,x=.ref l/\y=.ref b/\H l=some (.lst xs)/\H b=some (.lst zs)/\xs.length+zs.length<=sizeLine/\∀ p,H p=none->Q (.ref p) (upd H p (.lst (xs++zs)))
theorem Nr:C1 X (binaryOp .Add) abJ:=by
 intro pins s σ H x y v u Q I rx ry h;obtain ⟨l,b,xs,zs,rfl,rfl,hH,hB,hz,q⟩:=h;cases rx;cases ry;obtain ⟨z,its,n,r,hl,e⟩:=I.So hH;obtain ⟨z2,its2,n2,r2,hl2,e2⟩:=I.So hB;refine PySem.P.add_list e e2 ?_ (by rw [List.size_toArray,List.size_toArray];omega);have ea:its.toArray++its2.toArray=(its++its2).toArray:=by simp
 rw [ea];exact ⟨.ref _,_,I.aav (t':=s.toks) (r.append r2) (by rw [List.length_append];omega),rfl,q _ I.fresh⟩
def abK:R2:=fun x y H Q=>∃ l k xs,x=.ref l/\y=.int k/\H l=some (.lst xs)/\-(2 ^ 63)<=k/\k < 2 ^ 63/\xs.length * k.toNat<=sizeLine /\
 ∀ p,H p=none->Q (.ref p) (upd H p (.lst (List.replicate k.toNat xs).flatten))
theorem len_rep {α:Type} (xs:List α) (k:Nat):(List.replicate k xs).flatten.length=k * xs.length:=by
 induction k with
 | zero=>simp
 | succ k ih=>rw [List.replicate_succ,List.flatten_cons,List.length_append,ih,Nat.succ_mul,Nat.add_comm]
theorem Su:C1 X (binaryOp .Mult) abK:=by
 intro pins s σ H x y v u Q I rx ry h;obtain ⟨l,k,xs,rfl,rfl,hH,h1,h2,hz,q⟩:=h;cases rx;obtain ⟨t,rfl⟩:=ry;obtain ⟨z,its,n,r,hl,e⟩:=I.So hH;have hlen:its.toArray.size * k.toNat<=sizeLine:=by rw [List.size_toArray,<- hl];exact hz
 have hcap:¬ its.toArray.size * k.toNat > (2 ^ 63 - 1) / 8:=by
   have:(sizeLine:Nat)<=(2 ^ 63 - 1) / 8:=by decide
   omega
 have hfit:¬ (!Builtin.List.listFitsIndex k)=true:=by
   rw [fitsIndex_both h1 h2];exact Bool.false_ne_true
 have aaw:¬ Builtin.List.listTooLong (its.toArray.size * k.toNat)=true:=by
   rw [Sq hlen];exact Bool.false_ne_true
 have hnew:List.foldl (fun x1 x2=>x1++x2) #[] (List.replicate (if its.toArray.isEmpty=true then 0 else k.toNat) its.toArray)=(List.replicate k.toNat its).flatten.toArray:=by
   have f0:∀ m:Nat,List.foldl (fun x1 x2=>x1++x2) #[] (List.replicate m its.toArray)=(List.replicate m its).flatten.toArray:=fun m=>by
     have:=foldl_rep its m [];rw [List.nil_append] at this;exact this
   rw [f0];cases its with
   | nil=>simp
   | cons a r'=>rw [if_neg (by simp)]
 refine wpAny_binaryOp_repeat_ref (T:="list") (U:="int") (by decide) ⟨_,e,rfl⟩ (fun s'=>typeIs_int s' k t) noFill_list_mul F.fills_int_mul F.slot_int_rmul repeat_list F.slot_int_index.lookup
   (call_meets F.slot_int_rmul (typeIs_int s k t) F.entry_int_rmul (F.args_int_rmul_2 _ _) (int___rmul___int_list k t l its.toArray n)
     ⟨e,rfl,⟨_,e,rfl⟩,call_meets F.slot_list_mul ⟨_,e,rfl⟩ F.entry_list_mul (F.args_list_mul_2 _ _) (AutoListH.list___mul___list_int_3 l its.toArray n k t hfit hcap aaw) ⟨e,?_⟩⟩)
 rw [hnew];exact ⟨.ref _,_,I.aav (t':=s.toks) (r.rep k.toNat) (by rw [len_rep,Nat.mul_comm];exact hz),rfl,q _ I.fresh⟩
end
section
variable {prog:Program} {w:World} {A:Around} {E:Value->Shared->Prop} {s:Shared}
end
section
variable {X:Cx}
end
end L2
namespace L2
open PySem PySem.Spec PyProof.Rows
theorem Vals.ints:∀ {ns:List Int} {us:List Value},Vals (ns.map V.int) us->IntsAre us ns
 | [],us,h=>by
  rw [List.map_nil] at h
  cases h
  exact IntsAre.nil
 | n::ns,us,h=>by
  rw [List.map_cons] at h
  cases h with
  | cons r t=>
   obtain ⟨k,rfl⟩:=r
   exact IntsAre.cons n k (Vals.ints t)
theorem Ab:∀ {us:List Value} {ns:List Int},IntsAre us ns->Vals (ns.map V.int) us
 | _,_,.nil=>by rw [List.map_nil];exact Paired.nil
 | _,_,.cons n t h=>by rw [List.map_cons];exact Paired.cons (show RelV (V.int n) (Value.int n t) from ⟨t,rfl⟩) (Ab h)
theorem Vals.aax {a:Addr} {us:List Value} (r:Vals [V.ref a] us):us=[Value.ref a]:=by
 cases r with
 | cons r t=>
  cases t;cases r;rfl
section
variable {prog:Program} {w:World} {A:Around} {E:Value->Shared->Prop} {s:Shared} {l:Addr} {its:List Value} {ns:List Int} {Q:Value->Shared->Prop}
end
section
variable {X:Cx}
def V6 (K:Zqq):List V->Hp->VK->Prop:=fun vs H Q=>∃ (a:Addr) (ns:List Int),vs=[V.ref a]/\bI K H a (ns.map V.int)/\ns.length < 64 /\
 ∀ (ns':List Int) (p:Addr),ns'.Perm ns->ns'.Pairwise (·<=·)->H p=none->Q (.ref p) (upd H p (.lst (ns'.map V.int)))
theorem V7 {n:Nat} (h:n < 64):n<=sizeLine:=by rw [sizeLine_eq];omega
theorem PM:Hs X (.builtin "sorted") (V6 X.K):=by
 intro pins s σ H vs us Q I r h;obtain ⟨a,ns,rfl,hs,h64,q⟩:=h;obtain ⟨its,rv,hl,_⟩:=I.list hs;rw [Vals.aax r];have hi:=rv.ints;refine PyProof.Rows.sorted_ints hl.isList hi (by rw [hi.length];exact h64) fun out ns' h1 h2 h3=>?_;obtain ⟨ep,he'⟩:=PyProof.Rows.sortedAll_at s.heap its out;have hlen:(ns'.map V.int).length<=sizeLine:=by rw [List.length_map,h2.length_eq];exact V7 h64
 exact ⟨.ref _,upd H (s.heap.objs.size+1) (.lst (ns'.map V.int)),I.laid (t':=s.toks) (fun _ _=>PyProof.Rows.sortedAll_old) (Nat.le_succ _) ⟨hlen,out.toList,ep,Ab h1,he'⟩,rfl,q ns' _ h2 h3 (I.hok.fresh (Nat.le_succ _))⟩
def Sv (K:Zqq):V->List V->Hp->VK->Prop:=fun x xs H Q=>∃ (a:Addr) (ys:List V) (y:V) (j:Nat) (z:V),x=V.ref a/\xs=[y]/\bI K H a ys/\sW y=true/\ys.all sW=true/\ys[j]?=some z/\RJ z y=true /\
 (∀ (m:Nat) (z':V),m < j->ys[m]?=some z'->RJ z' y=false)/\Q (.int (j:Nat)) H
theorem O8 {ys:List V} (f:ys.all sW=true) {j:Nat} {z:V} (h:ys[j]?=some z):sW z=true:=List.all_eq_true.mp f z (List.mem_of_getElem? h)
theorem Sw:MtR X "list.index" (Sv X.K):=by
 intro pins s σ H x xs v us Q I rx rxs h;obtain ⟨a,ys,y,j,z,rfl,rfl,hs,fy,fys,hz,hzj,hno,q⟩:=h;cases rx;cases rxs with
 | cons ry rt=>
   rename_i uy ut;cases rt;obtain ⟨its,rv,⟨⟨cls,dd,data,sl⟩,n,ho,hc,hdn,hd⟩,hlen⟩:=I.list hs;simp only at hc hd;subst hc hd;obtain ⟨u,hu,ru⟩:=rv.get hz;obtain ⟨hjl,hje⟩:=List.getElem?_eq_some_iff.mp hu;have hvl:=rv.length;have hj:j < its.toArray.size:=by simpa using hjl
   have hsl:=sizeLine_eq;refine call_meets PySem.F.slot_list_index ⟨_,ho,rfl⟩ PySem.F.entry_list_index (PySem.F.args_list_index_2 _ _)
     (SeqAt.list_indexAt a its.toArray n dd sl uy (MV y) j hj (by omega) ?_ ?_) ⟨ho,fun u' hu'=>uh ry fy rv fys u' (by simpa using hu'),?_⟩
   . have e1:its.toArray[j]=u:=by simpa using hje
     rw [e1,IJ ru (O8 fys hz)];exact hzj
   . intro m hm hmj
     have hml:m < its.length:=by simpa using hm
     have hmy:m < ys.length:=by omega
     have hy':ys[m]?=some ys[m]:=List.getElem?_eq_getElem hmy;obtain ⟨u2,hu2,ru2⟩:=rv.get hy';obtain ⟨_,hme⟩:=List.getElem?_eq_some_iff.mp hu2;have e1:its.toArray[m]=u2:=by simpa using hme
     rw [e1,IJ ru2 (O8 fys hy')];exact hno m _ hmj hy'
   . exact ⟨.int (j:Nat),H,I.tok _,⟨_,rfl⟩,q⟩
end
mutual
inductive Dp (K:Zqq) (H:Hp):V->PyData->Prop
 | non:Dp K H .non .none
 | bl (b:Bool):Dp K H (.bl b) (.bool b)
 | int (i:Int):Dp K H (.int i) (.int i)
 | str (x:Str):Dp K H (.str x) (.str x)
 | lst {a:Addr} {xs:List V} {ds:List PyData}:bI K H a xs->HC K H xs ds->Dp K H (.ref a) (.list ds)
 | tup {a:Addr} {xs:List V} {ds:List PyData}:nU K H a xs->HC K H xs ds->Dp K H (.ref a) (.tuple ds)
inductive HC (K:Zqq) (H:Hp):List V->List PyData->Prop
 | nil:HC K H [] []
 | cons {v:V} {vs:List V} {d:PyData} {ds:List PyData}:Dp K H v d->HC K H vs ds->HC K H (v::vs) (d::ds)
end
section
variable {X:Cx} {pins:List (Addr×Obj)} {σ:St} {H:Hp} {s:Shared}
mutual
theorem Dp.reads (I:Inv X pins σ H s):∀ (d:PyData) (v:V) (u:Value),Dp X.K H v d->RelV v u->∃ as,Reads s.heap u d as
 | .none,_,_,h,r=>by
  cases h
  cases r
  exact ⟨_,Reads.none⟩
 | .bool b,_,_,h,r=>by
  cases h
  cases r
  exact ⟨_,Reads.bool b⟩
 | .int i,_,_,h,r=>by
  cases h
  obtain ⟨t,rfl⟩:=r
  exact ⟨_,Reads.int i t⟩
 | .str x,_,_,h,r=>by
  cases h
  obtain ⟨t,rfl⟩:=r
  exact ⟨_,Reads.str x t⟩
 | .list ds,_,_,h,r=>by
  cases h with
  | lst hs ha=>
   cases r
   obtain ⟨its,rv,⟨o,n,ho,hc,_,hd⟩,_⟩:=I.list hs
   obtain ⟨as,hr⟩:=Dp.readsAll I ds _ its ha rv
   exact ⟨_,Reads.list ho hc hd hr⟩
 | .tuple ds,_,_,h,r=>by
  cases h with
  | tup hs ha=>
   cases r
   obtain ⟨its,rv,⟨o,ho,hc,n,hd⟩,_⟩:=I.tuple hs
   obtain ⟨as,hr⟩:=Dp.readsAll I ds _ its ha rv
   exact ⟨_,Reads.tuple ho hc hd hr⟩
 | .dict _,_,_,h,_=>by cases h
theorem Dp.readsAll (I:Inv X pins σ H s):∀ (ds:List PyData) (vs:List V) (us:List Value),HC X.K H vs ds->Vals vs us->∃ as,ReadsAll s.heap us ds as
 | [],_,_,h,r=>by
  cases h
  cases r
  exact ⟨_,ReadsAll.nil⟩
 | d::ds,_,_,h,r=>by
  cases h with
  | cons h1 h2=>
   cases r with
   | cons r1 r2=>
    obtain ⟨as,q1⟩:=Dp.reads I d _ _ h1 r1
    obtain ⟨bs,q2⟩:=Dp.readsAll I ds _ _ h2 r2
    exact ⟨_,ReadsAll.cons q1 q2⟩
end
end
section
variable {X:Cx}
end
end L2
namespace L2
open PySem PySem.Spec PyProof.Rows
abbrev Sx (h:Heap) (c:Addr) (v:Option Value):Prop:=h.IsCell c v
def abL (scope sc:Scope):Scope:=
 { scope with names:=scope.names.map fun (n,k)=>if (k==.free&&sc.kind==.function&&sc.names.lookup n==some .cell) then (n,.cell) else (n,k) }
def fM (cells:List (Str×Addr)):List (Str×NameKind)->List (Str×Addr)->List (Str×Addr)
 | [],acc=>acc
 | (n,k)::r,acc=>if k==.free then fM cells r ((n,(cells.lookup n).getD 0)::acc) else fM cells r acc
theorem Ac (env:Env) (f:Str×NameKind->List (Str×Addr)->Sem (ForInStep (List (Str×Addr))))
   (hf:∀ n k c,f (n,k) c=if k==.free then (do let a <- cellOf env n;pure (.yield ((n,a)::c))) else pure (.yield c)) :
   ∀ (names:List (Str×NameKind)) (acc:List (Str×Addr)),(∀ y ∈ names,y.2=.free->∃ c,env.cells.lookup y.1=some c)->forIn names acc f=pure (fM env.cells names acc)
 | [],acc,_=>by rw [List.forIn_nil];rfl
 | (n,k)::r,acc,h=>by
   rw [List.forIn_cons,hf]
   have ih:=fun acc=>Ac env f hf r acc fun y hy=>h y (List.mem_cons_of_mem _ hy)
   unfold fM
   by_cases hk:(k==NameKind.free)=true
   . rw [if_pos hk,if_pos hk]
     obtain ⟨c,hc⟩:=h (n,k) List.mem_cons_self (by simpa using hk)
     have e:cellOf env n=pure c:=by unfold cellOf;rw [hc]
     rw [e]
     have e2:(env.cells.lookup n).getD 0=c:=by rw [hc];rfl
     rw [e2]
     exact ih _
   . rw [if_neg hk,if_neg hk]
     exact ih _
theorem Nt {scope:Scope} {env:Env} (h:∀ y ∈ scope.names,y.2=.free->∃ c,env.cells.lookup y.1=some c):closureFor scope env=pure (fM env.cells scope.names []):=by
 simp only [closureFor];rw [Ac env _ (fun n k c=>rfl) scope.names [] h];rfl
theorem mem_lookup {α:Type}:∀ {l:List (Str×α)} {n:Str} {c:α},(n,c) ∈ l->∃ c',l.lookup n=some c'
 | (k,v)::r,n,c,h=>by
   rw [List.lookup_cons]
   cases hb:n==k with
   | true=>exact ⟨_,rfl⟩
   | false=>
     rcases List.mem_cons.mp h with e | h
     . cases e;simp at hb
     . exact mem_lookup h
theorem sX {cells:List (Str×Addr)}:∀ {names:List (Str×NameKind)} {acc:List (Str×Addr)} {n:Str} {c:Addr},(n,c) ∈ fM cells names acc->(n,c) ∈ acc\/((n,.free) ∈ names/\c=(cells.lookup n).getD 0)
 | [],_,_,_,h=>.inl h
 | (m,k)::r,acc,n,c,h=>by
   unfold fM at h
   split at h
   . rename_i hk
     have hk:k=.free:=by simpa using hk
     rcases sX h with h | ⟨h1,h2⟩
     . rcases List.mem_cons.mp h with e | h
       . cases e;exact .inr ⟨hk ▸ List.mem_cons_self,rfl⟩
       . exact .inl h
     . exact .inr ⟨List.mem_cons_of_mem _ h1,h2⟩
   . rcases sX h with h | ⟨h1,h2⟩
     . exact .inl h
     . exact .inr ⟨List.mem_cons_of_mem _ h1,h2⟩
theorem wX {cells:List (Str×Addr)}:∀ {names:List (Str×NameKind)} {acc:List (Str×Addr)} {p:Str×Addr},p ∈ acc->p ∈ fM cells names acc
 | [],_,_,h=>h
 | (m,k)::r,acc,p,h=>by
   unfold fM
   split
   . exact wX (List.mem_cons_of_mem _ h)
   . exact wX h
theorem wY {cells:List (Str×Addr)}:∀ {names:List (Str×NameKind)} {acc:List (Str×Addr)} {n:Str},(n,.free) ∈ names->(n,(cells.lookup n).getD 0) ∈ fM cells names acc
 | (m,k)::r,acc,n,h=>by
   unfold fM
   rcases List.mem_cons.mp h with e | h
   . cases e
     exact wX List.mem_cons_self
   . split
     . exact wY h
     . exact wY h
theorem ur:∀ {names:List (Str×NameKind)} {h:Heap} {acc:List (Str×Addr)} {x:Str} {c:Addr},(x,c) ∈ cellsFrom h.objs.size names acc->
   (x,c) ∈ acc\/((x,.cell) ∈ names/\h.objs.size<=c/\Sx (pushCells h names) c none)
 | [],_,_,_,_,h=>.inl h
 | (n,k)::r,h,acc,x,c,hm=>by
   unfold cellsFrom at hm
   unfold pushCells
   split at hm
   . rename_i hk
     rw [if_pos hk]
     have hk:k=.cell:=by simpa using hk
     rw [<- Heap.size_push h { cls:=.type "cell",data:=.cell none }] at hm
     rcases ur hm with hm | ⟨h1,h2,h3⟩
     . rcases List.mem_cons.mp hm with e | hm
       . cases e
         exact .inr ⟨hk ▸ List.mem_cons_self,Nat.le_refl _,_,pushCells_keeps r _ _ _ (Heap.get?_push_size _ rfl),rfl⟩
       . exact .inl hm
     . rw [Heap.size_push] at h2
       exact .inr ⟨List.mem_cons_of_mem _ h1,Nat.le_of_succ_le h2,h3⟩
   . rename_i hk
     rw [if_neg hk]
     rcases ur hm with hm | ⟨h1,h2,h3⟩
     . exact .inl hm
     . exact .inr ⟨List.mem_cons_of_mem _ h1,h2,h3⟩
theorem yD:∀ {names:List (Str×NameKind)} {n:Nat} {acc:List (Str×Addr)} {p:Str×Addr},p ∈ acc->p ∈ cellsFrom n names acc
 | [],_,_,_,h=>h
 | (m,k)::r,n,acc,p,h=>by
   unfold cellsFrom
   split
   . exact yD (List.mem_cons_of_mem _ h)
   . exact yD h
theorem BG:∀ {names:List (Str×NameKind)} {n:Nat} {acc:List (Str×Addr)} {x:Str},(x,.cell) ∈ names->∃ c,(x,c) ∈ cellsFrom n names acc
 | (m,k)::r,n,acc,x,h=>by
   unfold cellsFrom
   rcases List.mem_cons.mp h with e | h
   . cases e
     exact ⟨n,yD List.mem_cons_self⟩
   . split
     . exact BG h
     . exact BG h
theorem BH:∀ {names:List (Str×NameKind)} {h:Heap} {acc:List (Str×Addr)} {x y:Str} {c:Addr},(∀ p ∈ acc,p.2 < h.objs.size)->(∀ x y c,(x,c) ∈ acc->(y,c) ∈ acc->x=y)->
   (x,c) ∈ cellsFrom h.objs.size names acc->(y,c) ∈ cellsFrom h.objs.size names acc->x=y
 | [],_,_,_,_,_,_,hi,h1,h2=>hi _ _ _ h1 h2
 | (n,k)::r,h,acc,x,y,c,hl,hi,h1,h2=>by
   unfold cellsFrom at h1 h2
   split at h1
   . rename_i hk
     rw [if_pos hk] at h2
     rw [<- Heap.size_push h { cls:=.type "cell",data:=.cell none }] at h1 h2
     refine BH (h:=h.push _) (fun p hp=>?_) (fun x y c a b=>?_) h1 h2
     . rw [Heap.size_push]
       rcases List.mem_cons.mp hp with rfl | hp
       . exact Nat.lt_succ_self _
       . exact Nat.lt_succ_of_lt (hl p hp)
     . rcases List.mem_cons.mp a with e | a<;>rcases List.mem_cons.mp b with e' | b
       . cases e;cases e';rfl
       . cases e;exact absurd (hl _ b) (Nat.lt_irrefl _)
       . cases e';exact absurd (hl _ a) (Nat.lt_irrefl _)
       . exact hi _ _ _ a b
   . rename_i hk
     rw [if_neg hk] at h2
     exact BH hl hi h1 h2
theorem KQ {M:Model} {A:Around} {E:Value->Shared->Prop} {s:Shared} {scope:Scope} {globals:Addr} {closure:List (Str×Addr)} {qual:Str} {func:Option Addr} {code:Value} {around:Env} {builtins:Addr} {Q:Env->Shared->Prop}
   (h:Q (newEnv scope s.heap.objs.size globals (cellsFrom (s.heap.objs.size+1) scope.names closure) qual func code (some around) builtins)
     { s with heap:=pushCells (s.heap.push { cls:=.type "dict",data:=.dict #[] }) scope.names }) :
   wpAny M A (newFunctionEnv scope globals closure [] qual func code (some around) builtins) Q E s:=by
 simp only [newFunctionEnv,Option.isSome_some,if_true];refine wpAny_bind (wpAny_alloc ?_);refine wpAny_bind (wpAny_layCells _ (fun n k c=>rfl) scope.names closure _ _ ?_);rw [show ({ s with heap:=s.heap.push { cls:=.type "dict",data:=.dict #[] } }:Shared).heap.objs.size=s.heap.objs.size+1 from Heap.size_push ..];rw [List.forIn_nil];exact wpAny_bind (wpAny_pure (wpAny_pure h))
theorem wZ {sc:Scope}:∀ {names:List (Str×NameKind)} {x:Str} {k:NameKind},
   (names.map fun (n,k)=>if (k==NameKind.free&&sc.kind==.function&&sc.names.lookup n==some .cell) then (n,NameKind.cell) else (n,k)).lookup x=some k->
   ∃ k',names.lookup x=some k'/\(k=k'\/(k'=.free/\k=.cell))
 | [],_,_,h=>by simp at h
 | (n,k₀)::r,x,k,h=>by
   have ih:=@wZ sc r x k
   have h':List.lookup x ((if (k₀==NameKind.free&&sc.kind==.function&&sc.names.lookup n==some .cell)=true then (n,NameKind.cell) else (n,k₀))::(r.map _))=some k:=h
   cases hx:x==n with
   | true=>
     simp only [List.lookup_cons,hx]
     by_cases hc:(k₀==NameKind.free&&sc.kind==.function&&sc.names.lookup n==some .cell)=true
     . rw [if_pos hc] at h'
       simp only [List.lookup_cons,hx] at h'
       cases h'
       simp only [Bool.and_eq_true,beq_iff_eq] at hc
       exact ⟨k₀,rfl,.inr ⟨hc.1.1,rfl⟩⟩
     . rw [if_neg hc] at h'
       simp only [List.lookup_cons,hx] at h'
       cases h'
       exact ⟨_,rfl,.inl rfl⟩
   | false=>
     simp only [List.lookup_cons,hx]
     by_cases hc:(k₀==NameKind.free&&sc.kind==.function&&sc.names.lookup n==some .cell)=true
     . rw [if_pos hc] at h'
       simp only [List.lookup_cons,hx] at h'
       exact ih h'
     . rw [if_neg hc] at h'
       simp only [List.lookup_cons,hx] at h'
       exact ih h'
structure KR (N:List Str) (sc scope:Scope) (own:List (Str×Nat)):Prop where
 kind:scope.kind=.function
 uniq:∀ y ∈ scope.names,scope.names.lookup y.1=some y.2
 ix:∀ p ∈ own,N[p.2]?=some p.1
 free:∀ y ∈ scope.names,y.2=.free->sc.names.lookup y.1=some .cell\/sc.names.lookup y.1=some .free
 own:∀ y ∈ scope.names,y.2=.local\/y.2=.cell->y.1 ∈ own.map (·.1)\/y.1 ∉ N
def wipe (σ:St):List Nat->St
 | []=>σ
 | v::vs=>(wipe σ vs).set v none
theorem xf (σ:St):∀ vs:List Nat,(wipe σ vs).length=σ.length
 | []=>rfl
 | v::vs=>by unfold wipe;rw [List.length_set,xf σ vs]
theorem BI {σ:St} {i:Nat} {x:V}:∀ {vs:List Nat},(wipe σ vs)[i]?=some (some x)->σ[i]?=some (some x)/\i ∉ vs
 | [],h=>⟨h,by simp⟩
 | v::vs,h=>by
   unfold wipe at h
   by_cases hi:v=i
   . subst hi
     by_cases hv:v < (wipe σ vs).length
     . rw [List.getElem?_set_self hv] at h;cases h
     . rw [List.getElem?_eq_none (by simpa using hv)] at h;cases h
   . rw [List.getElem?_set_ne hi] at h
     obtain ⟨h1,h2⟩:=BI h
     exact ⟨h1,by simp only [List.mem_cons,not_or];exact ⟨fun e=>hi e.symm,h2⟩⟩
abbrev Cx.IL (X:Cx) (s:Shared) (H:Hp) (scope:Scope) (cenv:Env) (fp:List Addr):Cx:={ X with BB:=s,Yi:=H,env:=cenv,outer:=X.stack,ex:=fp,fn:=fun x=>scope.names.lookup x==some .cell,pn:=[],xe:=fun _ _=>False }
section
variable {X:Cx} {pins:List (Addr×Obj)} {σ:St} {H:Hp} {s:Shared}
theorem KS {scope:Scope} {own:List (Str×Nat)} {fp:List Addr} (I:Inv X pins σ H s) (ok:KR X.N X.env.scope scope own) (hN:X.N.Nodup) (hfp:∀ b ∈ fp,DX X pins H b/\b < s.heap.objs.size) :
   Inv (X.IL s H scope (compEnvC scope (cellsFrom (s.heap.objs.size+1) scope.names (fM X.env.cells scope.names [])) s.heap.objs.size X.env) fp) [] (wipe σ (own.map (·.2))) H { s with heap:=pushCells (s.heap.push { cls:=.type "dict",data:=.dict #[] }) scope.names }:=by
 have hfree:∀ y ∈ scope.names,y.2=.free->∃ c,X.env.cells.lookup y.1=some c:=fun y hy e=>by
   rcases ok.free y hy e with k | k
   . exact I.ok.has _ (.inl k)
   . exact I.ok.has _ (.inr k)
 generalize KU:compEnvC scope (cellsFrom (s.heap.objs.size+1) scope.names (fM X.env.cells scope.names [])) s.heap.objs.size X.env=cenv;have kp:∀ b o,s.heap.get? b=some o->(pushCells (s.heap.push { cls:=.type "dict",data:=.dict #[] }) scope.names).get? b=some o:=fun b o e=>pushCells_keeps _ _ _ _ (Heap.get?_push_of_some _ e);have hL:cenv.locals=s.heap.objs.size:=by rw [<- KU];rfl
 have hcl:cenv.cells=cellsFrom (s.heap.objs.size+1) scope.names (fM X.env.cells scope.names []):=by rw [<- KU];rfl
 have hsc:cenv.scope=abL scope X.env.scope:=by rw [<- KU];rfl
 rw [<- Heap.size_push s.heap { cls:=.type "dict",data:=.dict #[] }] at hcl;have cm:∀ {y c},(y,c) ∈ fM X.env.cells scope.names []->X.env.cells.lookup y=some c/\c < s.heap.objs.size:=fun {y c} hm=>by
   rcases sX hm with hm | ⟨h1,rfl⟩
   . cases hm
   . obtain ⟨c,hc⟩:=hfree _ h1 rfl
     rw [hc];obtain ⟨w,z⟩:=I.cell _ _ hc;exact ⟨rfl,z.lt⟩
 have mem:∀ {y c},cenv.cells.lookup y=some c->(X.env.cells.lookup y=some c/\c < s.heap.objs.size)\/(s.heap.objs.size+1<=c/\Sx (pushCells (s.heap.push { cls:=.type "dict",data:=.dict #[] }) scope.names) c none):=fun {y c} e=>by
   rw [hcl] at e;rcases ur (PySem.mem_of_lookup e) with hm | ⟨_,h2,h3⟩
   . exact .inl (cm hm)
   . rw [Heap.size_push] at h2;exact .inr ⟨h2,h3⟩
 have look:∀ {y},scope.names.lookup y=some .free->∃ c,cenv.cells.lookup y=some c/\X.env.cells.lookup y=some c:=fun {y} hl=>by
   have hy:(y,NameKind.free) ∈ scope.names:=PySem.mem_of_lookup hl;obtain ⟨c',e'⟩:=mem_lookup (yD (names:=scope.names) (n:=(s.heap.push { cls:=.type "dict",data:=.dict #[] }).objs.size) (wY (cells:=X.env.cells) (acc:=[]) hy));rw [<- hcl] at e';refine ⟨c',e',?_⟩;rw [hcl] at e';rcases ur (PySem.mem_of_lookup e') with hm | ⟨h1,_,_⟩
   . exact (cm hm).1
   . have:=ok.uniq _ h1
     rw [hl] at this;cases this
 have Vl:(X.IL s H scope cenv fp).Ok:=by
   refine ⟨I.ok.mod,by show cenv.scope.kind=_;rw [hsc];exact ok.kind,by show cenv.globals=_;rw [<- KU];exact I.ok.glob,by show cenv.builtins=_;rw [<- KU];exact I.ok.blt,by show s.heap.objs.size<=cenv.locals;rw [hL];exact Nat.le_refl _,
     fun y z c e1 e2=>?_,fun y hy=>?_,fun y c z e=>?_,I.ok.hd,I.ok.frames,.inl rfl,fun b hb=>⟨?_,fun y c e z=>?_⟩,I.bs,Nat.le_trans I.ok.Pz I.sz,fun b o e hb=>?_,fun b hb z=>?_,I.stack,I.I0⟩
   . have e1:cenv.cells.lookup y=some c:=e1
     have e2:cenv.cells.lookup z=some c:=e2;rw [hcl] at e1 e2;refine BH (fun p hp=>?_) (fun y z c a b=>I.ok.inj y z c (cm a).1 (cm b).1) (PySem.mem_of_lookup e1) (PySem.mem_of_lookup e2);rw [Heap.size_push];exact Nat.lt_succ_of_lt (cm (y:=p.1) (c:=p.2) hp).2
   . show ∃ c,cenv.cells.lookup y=some c
     have key:∀ k,cenv.kindOf y=some k->(k=.cell\/k=.free)->∃ c,cenv.cells.lookup y=some c:=fun k hk hk'=>by
       unfold Env.kindOf at hk;rw [hsc] at hk;obtain ⟨k',e,r⟩:=wZ hk;have:k'=.cell\/k'=.free:=by
         rcases r with rfl | ⟨rfl,_⟩
         . exact hk'
         . exact .inr rfl
       rcases this with rfl | rfl
       . obtain ⟨c,hm⟩:=BG (n:=(s.heap.push { cls:=.type "dict",data:=.dict #[] }).objs.size) (acc:=fM X.env.cells scope.names []) (PySem.mem_of_lookup e)
         obtain ⟨c',e'⟩:=mem_lookup hm;exact ⟨c',by rw [hcl];exact e'⟩
       . obtain ⟨c,h1,_⟩:=look e
         exact ⟨c,h1⟩
     rcases hy with hy | hy
     . exact key _ hy (.inl rfl)
     . exact key _ hy (.inr rfl)
   . have z:(scope.names.lookup y==some NameKind.cell)=true:=z
     have z:scope.names.lookup y=some .cell:=by simpa using z
     have e:cenv.cells.lookup y=some c:=e;rw [hcl] at e;rcases ur (PySem.mem_of_lookup e) with hm | ⟨_,h2,_⟩
     . rcases sX hm with hm | ⟨h1,_⟩
       . cases hm
       . have q:=ok.uniq _ h1
         rw [z] at q;cases q
     . rw [Heap.size_push] at h2
       exact Nat.le_of_succ_le h2
   . show b ≠ cenv.locals
     rw [hL];exact Nat.ne_of_lt (hfp b hb).2
   . have e:cenv.cells.lookup y=some c:=e
     rcases mem e with ⟨h1,_⟩ | ⟨h1,_⟩
     . exact (hfp b hb).1.2.2.2.2.1 y c h1 z
     . have h2:s.heap.objs.size+1<=b:=by rw [<- z];exact h1
       exact absurd (Nat.lt_of_lt_of_le (hfp b hb).2 (Nat.le_of_succ_le h2)) (Nat.lt_irrefl _)
   . rcases (hfp b hb).1.2.2.2.1 with z | z
     . exact I.ok.KD b o e z
     . exact absurd (Nat.lt_of_lt_of_le (Heap.lt_size e) (Nat.le_trans I.ok.Pz z)) (Nat.lt_irrefl _)
   . rcases List.mem_cons.mp (I.Nb b z) with z | z
     . exact (hfp b hb).1.2.1 z
     . exact (hfp b hb).1.2.2.1 z
 refine ⟨Vl,rfl,I.bare,Un.kept kp,⟨fun _=>none,?_,fun i y av e1 e2 e3=>?_⟩,fun y c e=>?_,?_,fun y c e=>?_,fun p hp=>?_,I.hok.kept kp,by rw [xf];exact I.len⟩
 . show Heap.Ns _ cenv.locals _
   rw [hL];exact Heap.Ns.keeps (Heap.Ns.new ..) fun b o e=>pushCells_keeps _ _ _ _ e
 . obtain ⟨e2,hne⟩:=BI e2
   have hfr:scope.names.lookup y=some .free/\(cenv.kindOf y=some .cell\/cenv.kindOf y=some .free):=by
     have key:∀ k,cenv.scope.names.lookup y=some k->k=.local\/k=.cell\/k=.free->scope.names.lookup y=some .free/\(cenv.kindOf y=some .cell\/cenv.kindOf y=some .free):=fun k hk hk'=>by
       have hk0:=hk;rw [hsc] at hk;obtain ⟨k',e,r⟩:=wZ hk;have no:¬ (k'=.local\/k'=.cell):=fun hh=>by
         rcases ok.own _ (PySem.mem_of_lookup e) hh with e' | e'
         . obtain ⟨p,hp,hpy⟩:=List.mem_map.mp e'
           have e3:=ok.ix p hp;have:p.1=y:=hpy;rw [this] at e3;exact hne (List.mem_map.mpr ⟨p,hp,DT hN e3 e1⟩)
         . exact e' (List.mem_of_getElem? e1)
       rcases r with rfl | ⟨rfl,rfl⟩
       . rcases hk' with rfl | rfl | rfl
         . exact absurd (.inl rfl) no
         . exact absurd (.inr rfl) no
         . exact ⟨e,.inr hk0⟩
       . exact ⟨e,.inl hk0⟩
     have e3:Yj cenv.scope y:=e3;rcases e3 with e3 | e3 | e3
     . exact key _ e3 (.inl rfl)
     . exact key _ e3 (.inr (.inl rfl))
     . exact key _ e3 (.inr (.inr rfl))
   obtain ⟨m,hn,hl⟩:=I.loc;have abM:Yj X.env.scope y:=(ok.free _ (PySem.mem_of_lookup hfr.1) rfl).elim (fun k=>.inr (.inl k)) (fun k=>.inr (.inr k));obtain ⟨w,r,q⟩:=hl i y av e1 e2 abM;refine ⟨w,r,.inr ⟨hfr.2,?_⟩⟩;obtain ⟨c,h1,h2⟩:=look hfr.1;rcases q with ⟨k,_⟩ | ⟨_,c',e',z⟩
   . have k:X.env.scope.names.lookup y=some .local:=k
     rcases ok.free _ (PySem.mem_of_lookup hfr.1) rfl with k' | k'<;>rw [show X.env.scope.names.lookup y=_ from k'] at k<;>cases k
   . rw [h2] at e';cases e'
     exact ⟨c,h1,z.keeps kp⟩
 . have e:cenv.cells.lookup y=some c:=e
   rcases mem e with ⟨h1,_⟩ | ⟨_,z⟩
   . obtain ⟨w,z⟩:=I.cell y c h1
     exact ⟨w,z.keeps kp⟩
   . exact ⟨_,z⟩
 . show H cenv.locals=none
   rw [hL];exact I.hok.fresh (Nat.le_refl _)
 . have e:cenv.cells.lookup y=some c:=e
   rcases mem e with ⟨h1,_⟩ | ⟨h1,_⟩
   . exact I.kJ y c h1
   . exact I.hok.fresh (Nat.le_of_succ_le h1)
 . exact absurd (show p ∈ ([]:List (Addr×Obj))++[] from hp) (by simp)
theorem Y9 {E:Value->Shared->Prop} {D:Addr} {xs:List V} {y:V} {v:Value} {Q:Value->Shared->Prop} (I:Inv X pins σ H s) (hD:H D=some (.lst xs)) (hz:xs.length < sizeLine) (r:RelV y v)
  (h:∀ s',Inv X pins σ (upd H D (.lst (xs++[y]))) s'->Q .none s'):wpAny (model X.prog X.w) X.A (call (.builtin "list.append") [.ref D,v]) Q E s:=by
 obtain ⟨hz',its,n,ri,e⟩:=I.hok D _ hD;have hl:=ri.length;refine append_at (hsz:=by rw [List.size_toArray];omega) e fun h' sb ho'=>?_;refine h { s with heap:=h' } (I.write (t':=s.toks) (by rw [hD];trivial) (.inl rfl) (fun b u hb q=>(sb.2 b hb).trans q) ⟨_,ho'⟩ ⟨by rw [List.length_append];exact hz,its++[v],n+1,ri.append (.cons r .nil),?_⟩)
 rw [ho'];simp
def PTs (X:Cx) (ifs:List Expr) (t:TT):Prop:=
 ∀ (pins:List (Addr×Obj)) (s:Shared) (σ:St) (H:Hp) (Q:Bool->Hp->Prop),Inv X pins σ H s->t σ H Q->
   wpAny (model X.prog X.w) X.A (forIn ifs true fun c r=>if r=true then do let ok <- isTrue c X.env (eval c X.env);pure (ForInStep.yield ok) else pure (ForInStep.yield r)) (TP X pins σ Q) X.xe s
def abN:TT:=fun _ H Q=>Q true H
theorem Ae:PTs X [] abN:=fun _ _ _ H _ I h=>wpAny_tests_nil ⟨H,I,h⟩
theorem sY {c:Expr} {t:TT} (h:PT X c t):PTs X [c] t:=fun pins s σ H Q I hw=>wpAny_tests_one (h pins s σ H Q I hw)
end
theorem PN {α:Type} {t:Sem α} {Q Q':α->Shared->Prop} {M:Model} {A:Around} {E:Value->Shared->Prop} {s:Shared} (h:wpAny M A t Q (fun _ _=>False) s) (hQ:∀ a s,Q a s->Q' a s):wpAny M A t Q' E s:=wpAny_mono h hQ fun _ _ z=>False.elim z
theorem IM {prog:Program} {w:World} {A:Around} {R:Result->Shared->Prop} {s:Shared} {elt target iter:Expr} {ifs:List Expr} {scope:Scope} {pos:Pos} {it acc:Value} {env:Env} (I:Nat->Shared->Prop)
   (turn:∀ n s,I n s->wpAny (model prog w) A (pyNext it) (fun r s₁=>match r with
     | none=>R (.ok .next) s₁
     | some v=>wpAny (model prog w) A (letOwnedTupleGo target it v) (fun _ s₁'=>wpAny (model prog w) A (assign target env v) (fun _ s₂=>
         wpAny (model prog w) A (forIn ifs true fun c r=>if r=true then do let ok <- isTrue c env (eval c env);pure (ForInStep.yield ok) else pure (ForInStep.yield r)) (fun ok s₃=>
           if ok=true then wpAny (model prog w) A (eval elt env) (fun x s₄=>
             wpAny (model prog w) A (call (.builtin "list.append") [acc,x]) (fun _ s₅=>∃ m,m < n/\I m s₅) (notedBy (model prog w) A env fun e s'=>R (.error e) s') s₄) (notedBy (model prog w) A env fun e s'=>R (.error e) s') s₃
           else ∃ m,m < n/\I m s₃) (notedBy (model prog w) A env fun e s'=>R (.error e) s') s₂) (notedBy (model prog w) A env fun e s'=>R (.error e) s') s₁') (notedBy (model prog w) A env fun e s'=>R (.error e) s') s₁) (notedBy (model prog w) A env fun e s'=>R (.error e) s') s)
   (n:Nat) (h:I n s) :
   codeAny (model prog w) A (.compLoop (.ListComp elt [⟨target,iter,ifs,0⟩] scope pos) 0 it acc env) R s:=by
 refine codeAny_loop rfl I (fun n s hI=>?_) n h;show wpAny _ A ((compTurn (.ListComp elt [⟨target,iter,ifs,0⟩] scope pos) 0 it acc env).onRaise (fun x=>do noteFrame x env;theTreesLotGoes x)) _ _ s;refine wpAny_noted ?_;rw [compTurn_list];refine wpAny_bind (wpAny_standAt (wpAny_bind (wpAny_mono (turn n s hI) (fun r s₁ h₁=>?_) fun _ _ h'=>h')));cases r with
 | none=>exact wpAny_pure h₁
 | some v=>
   refine wpAny_bind (wpAny_mono h₁ (fun _ s₁' h₁'=>?_) fun _ _ h'=>h');refine wpAny_bind (wpAny_mono h₁' (fun _ s₂ h₂=>wpAny_bind (wpAny_mono h₂ (fun ok s₃ h₃=>?_) fun _ _ h'=>h')) fun _ _ h'=>h');cases ok with
   | false=>exact wpAny_pure ⟨rfl,h₃⟩
   | true=>
     exact wpAny_bind (wpAny_bind (wpAny_mono h₃ (fun x s₄ h₄=>wpAny_bind (wpAny_mono h₄ (fun _ s₅ h₅=>wpAny_pure (wpAny_pure ⟨rfl,h₅⟩)) fun _ _ h'=>h')) fun _ _ h'=>h'))
section
variable {X:Cx}
def tLc (wi:TI) (g:TG) (tt:TT) (te:TE) (vs:List Nat):TE:=fun σ H Q=>wi σ H fun J H1=>∀ D,H1 D=none->∃ W:Nat->Nat->Hp->Prop,(∃ m,W 0 m (upd H1 D (.lst [])))/\∀ i m H,W i m H->
 (J.stop i H/\Q (.ref D) H)\/(J.go i H/\∃ Nx:Hp->Prop,(∀ H',Nx H'->∃ m',m' < m/\W (i+1) m' H')/\∀ x H',J.RY i H x H'->g x (wipe σ vs) H' fun σ2 H2=>wipe σ2 vs=wipe σ vs/\tt σ2 H2 fun b H3=>
  if b=true then te σ2 H3 fun y H4=>∃ acc,H4 D=some (.lst acc)/\acc.length < sizeLine/\Nx (upd H4 D (.lst (acc++[y]))) else Nx H3)
theorem O9 {pins:List (Addr×Obj)} {s:Shared} {σ:St} {H:Hp} {Q:VK} {elt tg iter:Expr} {ifs:List Expr} {scope:Scope} {own:List (Str×Nat)} {pos pos':Pos} {wi:TI} {g:TG} {tt:TT} {te:TE} {use:Option (Value->Sem Unit)} {Qf:Value->Shared->Prop}
   (hc:X.calm=true) (hN:X.N.Nodup) (I:Inv X pins σ H s) (hi:PI X tg iter wi) (ok:KR X.N X.env.scope scope own)
   (hg:∀ (s:Shared) (H:Hp) (C:Addr) (cl:List (Str×Addr)) (fp:List Addr),PG (X.IL s H scope (compEnvC scope cl C X.env) fp) tg g) (ht:∀ (s:Shared) (H:Hp) (C:Addr) (cl:List (Str×Addr)) (fp:List Addr),PTs (X.IL s H scope (compEnvC scope cl C X.env) fp) ifs tt)
   (he:∀ (s:Shared) (H:Hp) (C:Addr) (cl:List (Str×Addr)) (fp:List Addr),PE (X.IL s H scope (compEnvC scope cl C X.env) fp) elt te) (hs:∀ x,foldedSetIterable iter X.env x=pure x)
   (h:tLc wi g tt te (own.map (·.2)) σ H Q)
   (hRR:∀ D C s' m H',Inv X pins σ H' s'->Q (.ref D) H'->s'.heap.Ns C m->DX X pins H' C->compPost (model X.prog X.w) X.A X.xe use Qf (.ref D) C (.ok .next) s') :
   wpAny (model X.prog X.w) X.A (comprehension (.ListComp elt [⟨tg,iter,ifs,0⟩] scope pos) scope X.env pos' (newList []) false (eval iter X.env) use) Qf X.xe s:=by
 have hfree:∀ y ∈ scope.names,y.2=.free->∃ c,X.env.cells.lookup y.1=some c:=fun y hy e=>by
   rcases ok.free y hy e with k | k
   . exact I.ok.has _ (.inl k)
   . exact I.ok.has _ (.inr k)
 refine wpAny_comprehension_free (use:=use) rfl hs (Nt hfree) ok.kind (fun y hy e=>by rw [ok.uniq y hy,e])
   (dZ (hi pins s σ H _ I h) fun xv s1 hx=>dZ hx fun itv s2 h2=>?_)
 obtain ⟨it,fp,tn,J,H2,e,I2,T,st2,f2,q⟩:=h2;subst e;refine wpAny_newObj_type (KQ ?_) (by show 0<=sizeLine;decide);generalize hD:s2.heap.objs.size=D;have ZZ:H2 D=none:=I2.hok.fresh (Nat.le_of_eq hD);obtain ⟨W,⟨m0,w0⟩,turn⟩:=q D ZZ;generalize hs3:({ s2 with heap:=s2.heap.push { cls:=.type "list",data:=.seq ([]:List Value).toArray } }:Shared)=s3;have I3:Inv X pins σ (upd H2 D (.lst [])) s3:=by
   rw [<- hs3];refine I2.laid (t':=s2.toks) (fun b o e=>Heap.get?_push_of_some _ e) (Nat.le_of_eq hD) ⟨Nat.zero_le _,[],0,.nil,?_⟩;rw [<- hD];exact Heap.get?_push_size _ rfl
 have h3:s3.heap=s2.heap.push { cls:=.type "list",data:=.seq ([]:List Value).toArray }:=by rw [<- hs3]
 have sz:∀ b ∈ fp,b < s2.heap.objs.size:=fun b hb=>by
   obtain ⟨o,e,_⟩:=T.obj _ _ st2 b hb;exact Heap.lt_size e
 have f3:∀ b ∈ fp,DX X pins (upd H2 D (.lst [])) b/\b < s3.heap.objs.size:=fun b hb=>by
   have hlt:=sz b hb;refine ⟨⟨?_,(f2 b hb).2⟩,by rw [h3,Heap.size_push];exact Nat.lt_succ_of_lt hlt⟩;rw [aq (by rw [<- hD];exact Nat.ne_of_lt hlt)];exact (f2 b hb).1
 have st3:tn 0 s3.heap:=T.keep _ _ _ st2 fun b _ o e=>by rw [h3];exact Heap.get?_push_of_some _ e
 have I4:=KS I3 ok hN f3;have pg:=hg s3 (upd H2 D (.lst [])) s3.heap.objs.size (cellsFrom (s3.heap.objs.size+1) scope.names (fM X.env.cells scope.names [])) fp;have pt:=ht s3 (upd H2 D (.lst [])) s3.heap.objs.size (cellsFrom (s3.heap.objs.size+1) scope.names (fM X.env.cells scope.names [])) fp;have pe:=he s3 (upd H2 D (.lst [])) s3.heap.objs.size (cellsFrom (s3.heap.objs.size+1) scope.names (fM X.env.cells scope.names [])) fp;show codeAny _ _ (.compStart (.ListComp elt [⟨tg,iter,ifs,0⟩] scope pos) 0 (.ref it) (.ref D) (compEnvC scope (cellsFrom (s3.heap.objs.size+1) scope.names (fM X.env.cells scope.names [])) s3.heap.objs.size X.env)) (compPost (model X.prog X.w) X.A X.xe use Qf (.ref D) s3.heap.objs.size) { s3 with heap:=pushCells (s3.heap.push { cls:=.type "dict",data:=.dict #[] }) scope.names };have nfp:∀ b ∈ fp,(upd H2 D (.lst [])) b=none:=fun b hb=>(f3 b hb).1.1
 generalize hce:compEnvC scope (cellsFrom (s3.heap.objs.size+1) scope.names (fM X.env.cells scope.names [])) s3.heap.objs.size X.env=ce at I4 pg pt pe ⊢;have cL:ce.locals=s3.heap.objs.size:=by subst hce;rfl
 generalize hH3:upd H2 D (.lst [])=H3 at I3 I4 pg pt pe w0 nfp f3;generalize hs4:({ s3 with heap:=pushCells (s3.heap.push { cls:=.type "dict",data:=.dict #[] }) scope.names }:Shared)=s4 at I4 ⊢;have st4:tn 0 s4.heap:=T.keep _ _ _ st3 fun b _ o e=>by rw [<- hs4];exact pushCells_keeps _ _ _ _ (Heap.get?_push_of_some _ e)
 have Ni:∀ {σ':St} {H':Hp} {s':Shared},Inv (X.IL s3 H3 scope ce fp) [] σ' H' s'->(∀ b ∈ fp,H' b=none)->∀ b ∈ fp,DX (X.IL s3 H3 scope ce fp) [] H' b:=fun {σ' H' s'} I' hn b hb=>
   ⟨hn b hb,(I'.ok.Yk b hb).1,I'.ok.KG b hb,.inl hb,fun x c e=>(I'.ok.Yk b hb).2 x c e,fun p hp=>absurd (show p ∈ ([]:List (Addr×Obj))++[] from hp) (by simp)⟩
 have loop:codeAny (model X.prog X.w) X.A (.compLoop (.ListComp elt [⟨tg,iter,ifs,0⟩] scope pos) 0 (.ref it) (.ref D) ce) (compPost (model X.prog X.w) X.A X.xe use Qf (.ref D) s3.heap.objs.size) s4:=by
   refine IM (fun n s'=>∃ i H',Inv (X.IL s3 H3 scope ce fp) [] (wipe σ (own.map (·.2))) H' s'/\tn i s'.heap/\(∀ b ∈ fp,H' b=none)/\W i n H') ?_ m0 ⟨0,H3,I4,st4,nfp,w0⟩;rintro n s5 ⟨i,H5,I5,ZX,n5,w5⟩;rcases turn i n H5 w5 with ⟨stop,qq⟩ | ⟨go,Nx,hNx,step⟩
   . have td:=T.done (X.IL s3 H3 scope ce fp) rfl rfl rfl hc i [] s5 _ H5 (fun _ _=>False) I5 (Ni I5 n5) ZX stop
     refine PN td fun r s6 ⟨hr,I6⟩=>?_;subst hr;have I7:Inv X pins σ H5 s6:=I3.call' (ch:=fp) I6.os I6.base I6.hok I6.bare fun b hb=>⟨(f3 b hb).1.2.2.2.1,(f3 b hb).1.2.1,(f3 b hb).1.2.2.2.2.1,(f3 b hb).1.2.2.2.2.2⟩;have nC:H5 s3.heap.objs.size=none:=by
       have z:H5 ce.locals=none:=I6.free;rw [cL] at z;exact z
     obtain ⟨m,hn,_⟩:=I6.loc;have hn:s6.heap.Ns ce.locals m:=hn;rw [cL] at hn;exact hRR D s3.heap.objs.size s6 m H5 I7 qq hn (I3.PB (Nat.le_refl _) nC)
   . have ti:=T.item (X.IL s3 H3 scope ce fp) rfl rfl rfl hc i [] s5 _ H5 (fun _ _=>False) I5 (Ni I5 n5) ZX go
     refine PN ti fun r s6 ⟨u,hr,h6⟩=>?_;subst hr;refine PN h6 fun _ s7 ⟨x,H7,I7,r7,y7,st7,n7⟩=>?_;have I7':=I7.pinned (Ni I7 n7) (T.obj _ _ st7);refine PN (pg _ s7 _ H7 x u _ I7' r7 (step x H7 y7)) fun _ s8 ⟨σ8,H8,I8,hw8,q8⟩=>?_;refine PN (pt _ s8 σ8 H8 _ I8 q8) fun b s9 ⟨H9,I9,q9⟩=>?_;have fin:∀ {s':Shared} {H':Hp},Inv (X.IL s3 H3 scope ce fp) ([]++DY fp s7.heap) σ8 H' s'->Nx H'->∃ m,m < n/\∃ i H',Inv (X.IL s3 H3 scope ce fp) [] (wipe σ (own.map (·.2))) H' s'/\tn i s'.heap/\(∀ b ∈ fp,H' b=none)/\W i m H':=fun {s' H'} I' nx=>by
       obtain ⟨m',hm,w'⟩:=hNx H' nx;have pin':∀ b ∈ fp,∀ o,s7.heap.get? b=some o->s'.heap.get? b=some o/\H' b=none:=fun b hb o e=>
         let z:=I'.pin (b,o) (List.mem_append_right _ (List.mem_append_right _ (zo hb e)))
         ⟨z.1,z.2.1⟩
       have hl:(wipe σ (own.map (·.2))).length=σ8.length:=by rw [<- hw8,xf]
       refine ⟨m',hm,i+1,H',(I'.zZ (pins:=[])).weak hl (fun j v e=>?_),T.keep _ _ _ st7 fun b hb o e=>(pin' b hb o e).1,fun b hb=>?_,w'⟩
       . rw [<- hw8] at e
         exact (BI e).1
       . obtain ⟨o,e,_⟩:=T.obj _ _ st7 b hb
         exact (pin' b hb o e).2
     cases b with
     | false=>
       simp only [Bool.false_eq_true,if_false] at q9 ⊢;exact fin I9 q9
     | true=>
       simp only [if_true] at q9 ⊢;refine PN (pe _ s9 σ8 H9 _ I9 q9) fun z s10 ⟨yv,H10,I10,r10,acc,abO,abP,nx⟩=>?_;exact Y9 (X:=X.IL s3 H3 scope ce fp) I10 abO abP r10 fun s11 I11=>fin I11 nx
 exact codeAny_compStart_list loop (T.self X.A 0 _ _ _ st4 loop)
theorem C4 {elt tg iter:Expr} {ifs:List Expr} {scope:Scope} {own:List (Str×Nat)} {pos:Pos} {wi:TI} {g:TG} {tt:TT} {te:TE} (hc:X.calm=true) (hN:X.N.Nodup) (hi:PI X tg iter wi) (ok:KR X.N X.env.scope scope own)
  (hg:∀ (s:Shared) (H:Hp) (C:Addr) (cl:List (Str×Addr)) (fp:List Addr),PG (X.IL s H scope (compEnvC scope cl C X.env) fp) tg g) (ht:∀ (s:Shared) (H:Hp) (C:Addr) (cl:List (Str×Addr)) (fp:List Addr),PTs (X.IL s H scope (compEnvC scope cl C X.env) fp) ifs tt)
  (he:∀ (s:Shared) (H:Hp) (C:Addr) (cl:List (Str×Addr)) (fp:List Addr),PE (X.IL s H scope (compEnvC scope cl C X.env) fp) elt te) (hs:∀ x,foldedSetIterable iter X.env x=pure x:=by intro _;rfl) :
  PE X (.ListComp elt [⟨tg,iter,ifs,0⟩] scope pos) (tLc wi g tt te (own.map (·.2))):=by
 intro pins s σ H Q I h;rw [eval_ListComp];refine O9 hc hN I hi ok hg ht he hs h fun D C s' m H' I' q hn f=>⟨m,hn,fun h'' sb=>?_⟩;obtain ⟨f0,f1,f2,f3,f4,f5⟩:=f;exact ⟨.ref D,H',I'.turned (t':=s'.toks) (fun b o hb e=>(sb.2 b hb).trans e) f0 f1 f3 f4 f5,rfl,q⟩
theorem xg {i:Nat} {y:Str} {py:Pos} {elt tg iter:Expr} {ifs:List Expr} {scope:Scope} {own:List (Str×Nat)} {pos spos:Pos} {wi:TI} {g:TG} {tt:TT} {te:TE} (hc:X.calm=true) (hN:X.N.Nodup) (hy:X.N[i]?=some y) (hyl:X.env.scope.names.lookup y=some .local)
   (hsw:swapsWith (.ListComp elt [⟨tg,iter,ifs,0⟩] scope pos) (some (.Name y py)) spos.line X.env=pure true) (hi:PI X tg iter wi) (ok:KR X.N X.env.scope scope own)
   (hg:∀ (s:Shared) (H:Hp) (C:Addr) (cl:List (Str×Addr)) (fp:List Addr),PG (X.IL s H scope (compEnvC scope cl C X.env) fp) tg g) (ht:∀ (s:Shared) (H:Hp) (C:Addr) (cl:List (Str×Addr)) (fp:List Addr),PTs (X.IL s H scope (compEnvC scope cl C X.env) fp) ifs tt)
   (he:∀ (s:Shared) (H:Hp) (C:Addr) (cl:List (Str×Addr)) (fp:List Addr),PE (X.IL s H scope (compEnvC scope cl C X.env) fp) elt te) (hs:∀ x,foldedSetIterable iter X.env x=pure x:=by intro _;rfl) :
   PS X (.Assign [.Name y py] (.ListComp elt [⟨tg,iter,ifs,0⟩] scope pos) spos) (Yq (tLc wi g tt te (own.map (·.2))) (Hq i)):=by
 intro pins s σ H D I h;rw [exec_Assign_Name_used _ _ _ _ hsw];refine wpAny_bind (wpAny_standAt (wpAny_bind ?_));show wpAny _ X.A (do let _ <- comprehension (.ListComp elt [⟨tg,iter,ifs,0⟩] scope pos) scope X.env (firstIterPos [⟨tg,iter,ifs,0⟩] pos) (newList []) false (eval iter X.env) (some (assign (.Name y py) X.env))) _ _ s;have h:tLc wi g tt te (own.map (·.2)) σ H (fun x H1=>Hq i x σ H1 D.nx):=h;refine wpAny_bind (dZ (O9 (Qf:=fun _ s'=>SP X pins D .next s') hc hN I hi ok hg ht he hs h fun L C s' m H' I' q hn f=>?_) fun _ s' hq=>wpAny_pure (wpAny_pure hq));show wpAny _ _ (assign (.Name y py) X.env (.ref L)) _ _ _;refine wpAny_assign_Name (BD (v:=V.ref L) I' hN hy (.inl hyl) rfl (fun s2 I2 ⟨a,sb,ha⟩=>?_) (.inr hyl));obtain ⟨f0,f1,f2,f3,f4,f5⟩:=f;have haC:C ≠ a:=by
   rcases ha with z | z
   . rw [z];exact f1
   . exact fun e=>f4 y a z e.symm
 refine ⟨m,hn.sameBut sb haC,fun h3 sb3=>?_⟩;exact ⟨_,H',I2.turned (t':=s2.toks) (fun b o hb e=>(sb3.2 b hb).trans e) f0 f1 f3 f4 f5,q⟩
end
theorem KW {lo:Int} {n:Nat} {g:TG} {tt:TT} {te:TE} {vs:List Nat} {σ:St} {H1:Hp} {D:Addr} {Qd:Hp->Prop} (Pv:Nat->Hp->Prop) (h0:Pv 0 (upd H1 D (.lst [])))
   (hs:∀ i H,i < n->Pv i H->g (.int (lo+i)) (wipe σ vs) H fun σ2 H2=>wipe σ2 vs=wipe σ vs/\tt σ2 H2 fun b H3=>
     if b=true then te σ2 H3 fun y H4=>∃ acc,H4 D=some (.lst acc)/\acc.length < sizeLine/\Pv (i+1) (upd H4 D (.lst (acc++[y]))) else Pv (i+1) H3) (hd:∀ H,Pv n H->Qd H) :
   ∃ W:Nat->Nat->Hp->Prop,(∃ m,W 0 m (upd H1 D (.lst [])))/\∀ i m H,W i m H->
     ((Vu lo n).stop i H/\Qd H)\/((Vu lo n).go i H/\∃ Nx:Hp->Prop,(∀ H',Nx H'->∃ m',m' < m/\W (i+1) m' H')/\∀ x H',(Vu lo n).RY i H x H'->g x (wipe σ vs) H' fun σ2 H2=>wipe σ2 vs=wipe σ vs/\tt σ2 H2 fun b H3=>
       if b=true then te σ2 H3 fun y H4=>∃ acc,H4 D=some (.lst acc)/\acc.length < sizeLine/\Nx (upd H4 D (.lst (acc++[y]))) else Nx H3):=by
 refine ⟨fun i m H=>m=n - i/\i<=n/\Pv i H,⟨n,by simp,Nat.zero_le _,h0⟩,?_⟩;rintro i m H ⟨rfl,hi,p⟩;by_cases hlt:i < n
 . refine .inr ⟨hlt,Pv (i+1),fun H' p'=>⟨n - (i+1),by omega,rfl,hlt,p'⟩,fun x H' y=>?_⟩
   obtain ⟨e,y⟩:=y;subst e y;exact hs i _ hlt p
 . have e:i=n:=by omega
   subst e;exact .inl ⟨Nat.le_refl _,hd H p⟩
theorem mY {K:Zqq} {a:Addr} {xs:List V} {g:TG} {tt:TT} {te:TE} {vs:List Nat} {σ:St} {H1:Hp} {D:Addr} {Qd:Hp->Prop} (Pv:Nat->Hp->Prop) (h0:Pv 0 (upd H1 D (.lst []))) (hl:∀ i H,i<=xs.length->Pv i H->bI K H a xs)
   (hs:∀ i x H,xs[i]?=some x->Pv i H->g x (wipe σ vs) H fun σ2 H2=>wipe σ2 vs=wipe σ vs/\tt σ2 H2 fun b H3=>
     if b=true then te σ2 H3 fun y H4=>∃ acc,H4 D=some (.lst acc)/\acc.length < sizeLine/\Pv (i+1) (upd H4 D (.lst (acc++[y]))) else Pv (i+1) H3) (hd:∀ H,Pv xs.length H->Qd H) :
   ∃ W:Nat->Nat->Hp->Prop,(∃ m,W 0 m (upd H1 D (.lst [])))/\∀ i m H,W i m H->
     ((Xy K a).stop i H/\Qd H)\/((Xy K a).go i H/\∃ Nx:Hp->Prop,(∀ H',Nx H'->∃ m',m' < m/\W (i+1) m' H')/\∀ x H',(Xy K a).RY i H x H'->g x (wipe σ vs) H' fun σ2 H2=>wipe σ2 vs=wipe σ vs/\tt σ2 H2 fun b H3=>
       if b=true then te σ2 H3 fun y H4=>∃ acc,H4 D=some (.lst acc)/\acc.length < sizeLine/\Nx (upd H4 D (.lst (acc++[y]))) else Nx H3):=by
 refine ⟨fun i m H=>m=xs.length - i/\i<=xs.length/\Pv i H,⟨xs.length,by simp,Nat.zero_le _,h0⟩,?_⟩;rintro i m H ⟨rfl,hi,p⟩;have q:=hl i H hi p;by_cases hlt:i < xs.length
 . refine .inr ⟨⟨xs,xs[i],q,by simp [hlt]⟩,Pv (i+1),fun H' p'=>⟨xs.length - (i+1),by omega,rfl,hlt,p'⟩,fun x H' y=>?_⟩
   obtain ⟨e,y⟩:=y;subst e;exact hs i x _ (y xs q) p
 . have e:i=xs.length:=by omega
   subst e;exact .inl ⟨⟨xs,q,Nat.le_refl _⟩,hd H p⟩
def aay (N:List Str) (sc scope:Scope) (own:List (Str×Nat)):Bool:=
 (match scope.kind with | .function=>true | _=>false)&&(scope.names.all fun y=>decide (scope.names.lookup y.1=some y.2))&&(own.all fun p=>decide (N[p.2]?=some p.1)) &&
   (scope.names.all fun y=>match y.2 with
     | .free=>(match sc.names.lookup y.1 with | some .cell=>true | some .free=>true | _=>false)
     | .local=>decide (y.1 ∈ own.map (·.1))||decide (y.1 ∉ N)
     | .cell=>decide (y.1 ∈ own.map (·.1))||decide (y.1 ∉ N)
     | _=>true)
theorem jv {N:List Str} {sc scope:Scope} {own:List (Str×Nat)} (h:aay N sc scope own=true):KR N sc scope own:=by
 unfold aay at h;simp only [Bool.and_eq_true,List.all_eq_true,decide_eq_true_eq] at h;obtain ⟨⟨⟨h1,h2⟩,h3⟩,h4⟩:=h;refine ⟨?_,h2,h3,fun y hy e=>?_,fun y hy e=>?_⟩
 . split at h1
   . assumption
   . cases h1
 . have q:=h4 y hy
   simp only [e] at q;split at q<;>first | exact .inl (by assumption) | exact .inr (by assumption) | cases q
 . have q:=h4 y hy
   rcases e with e | e<;>(simp only [e,Bool.or_eq_true,decide_eq_true_eq] at q;exact q)
end L2
namespace L2
open PySem PySem.Spec PyProof.Rows
section
variable {prog:Program} {w:World} {A:Around} {R:Result->Shared->Prop} {s:Shared} {elt t0 i0 t1 i1:Expr} {ac1 ac2:List Expr} {scope:Scope} {pos:Pos} {it acc:Value} {env:Env}
end
section
variable {X:Cx}
end
end L2
namespace L2
open PySem PySem.Spec PyProof.Rows
section
variable {κ:Type} [DecidableEq κ]
def jW (kvs:List (κ×V)) (k:κ):Option V:=(kvs.find? fun kv=>decide (kv.1=k)).map (·.2)
def putK (kvs:List (κ×V)) (k:κ) (v:V):List (κ×V):=
 if (kvs.any fun kv=>decide (kv.1=k))=true then kvs.map (fun kv=>if kv.1=k then (kv.1,v) else kv) else kvs++[(k,v)]
theorem jw {p:κ×V} {r:List (κ×V)} {k:κ} (e:p.1=k):jW (p::r) k=some p.2:=by simp [jW,List.find?_cons,e]
theorem jx {p:κ×V} {r:List (κ×V)} {k:κ} (e:¬ p.1=k):jW (p::r) k=jW r k:=by simp [jW,List.find?_cons,e]
theorem mZ (k:κ):∀ kvs:List (κ×V),(kvs.any fun kv=>decide (kv.1=k))=(jW kvs k).isSome
 | []=>rfl
 | p::r=>by
   rw [List.any_cons]
   by_cases e:p.1=k
   . simp only [jw e,decide_eq_true e,Bool.true_or,Option.isSome_some]
   . rw [jx e,decide_eq_false e,Bool.false_or];exact mZ k r
theorem KY (k j:κ) (y:V):∀ kvs:List (κ×V),jW (kvs.map fun kv=>if kv.1=k then (kv.1,y) else kv) j=(jW kvs j).map fun x=>if j=k then y else x
 | []=>rfl
 | p::r=>by
   have ih:=KY k j y r
   rw [List.map_cons]
   by_cases h:p.1=k
   . rw [if_pos h]
     by_cases e:p.1=j
     . rw [jw (p:=(p.1,y)) e,jw e,Option.map_some,if_pos (e.symm.trans h)]
     . rw [jx (p:=(p.1,y)) e,jx e,ih]
   . rw [if_neg h]
     by_cases e:p.1=j
     . rw [jw (p:=p) e,jw e,Option.map_some,if_neg (fun z=>h (e.trans z))]
     . rw [jx (p:=p) e,jx e,ih]
theorem HD (k j:κ) (y:V):∀ kvs:List (κ×V),jW kvs k=none->jW (kvs++[(k,y)]) j=if j=k then some y else jW kvs j
 | [],_=>by
   by_cases e:k=j
   . rw [if_pos e.symm];exact jw (p:=(k,y)) e
   . rw [if_neg (fun z=>e z.symm)];exact jx (p:=(k,y)) e
 | p::r,hn=>by
   rw [List.cons_append]
   have hk:¬ p.1=k:=fun z=>by rw [jw z] at hn;cases hn
   rw [jx hk] at hn
   have ih:=HD k j y r hn
   by_cases e:p.1=j
   . rw [jw e,jw e,if_neg (fun z=>hk (e.trans z))]
   . rw [jx e,jx e,ih]
theorem Af (kvs:List (κ×V)) (k j:κ) (y:V):jW (putK kvs k y) j=if j=k then some y else jW kvs j:=by
 unfold putK;by_cases a:(kvs.any fun kv=>decide (kv.1=k))=true
 . rw [if_pos a,KY]
   rw [mZ] at a;by_cases e:j=k
   . obtain ⟨x,hx⟩:=Option.isSome_iff_exists.mp a
     rw [if_pos e,e,hx,Option.map_some,if_pos rfl]
   . rw [if_neg e]
     cases jW kvs j with
     | none=>rfl
     | some x=>rw [Option.map_some,if_neg e]
 . rw [if_neg a]
   refine HD k j y kvs ?_;rw [mZ] at a;cases q:jW kvs k with
   | none=>rfl
   | some x=>rw [q] at a;exact (a rfl).elim
theorem jF (kvs:List (κ×V)) (k:κ) (v:V):(putK kvs k v).length<=kvs.length+1:=by
 unfold putK;split
 . rw [List.length_map];omega
 . rw [List.length_append,List.length_cons,List.length_nil];omega
theorem sO.uu {o:Option V} {u:Option Value} (r:sO o u):o.isSome=u.isSome:=by
 cases o with
 | none=>cases u with
   | none=>rfl
   | some _=>exact (show False from r).elim
 | some _=>cases u with
   | none=>exact (show False from r).elim
   | some _=>rfl
theorem sO.getD {o:Option V} {u:Option Value} {d:V} {d':Value} (r:sO o u) (rd:RelV d d'):RelV (o.getD d) (u.getD d'):=by
 cases o with
 | none=>cases u with
   | none=>exact rd
   | some _=>exact (show False from r).elim
 | some _=>cases u with
   | none=>exact (show False from r).elim
   | some _=>exact r
theorem KV.val {kvs:List (κ×V)} {vs:List (κ×Value)} (r:KV kvs vs) (k:κ):sO (jW kvs k) (valueAt vs k):=by
 unfold KV at r;induction r with
 | nil=>exact True.intro
 | @cons p q ps qs h t ih=>
   obtain ⟨h1,h2⟩:=h;by_cases e:p.1=k
   . have e':q.1=k:=h1.symm.trans e
     have b:valueAt (q::qs) k=some q.2:=by simp [valueAt,List.find?_cons,e']
     rw [jw e,b];exact h2
   . have e':¬ q.1=k:=fun z=>e (h1.trans z)
     have b:valueAt (q::qs) k=valueAt qs k:=by simp [valueAt,List.find?_cons,e']
     rw [jx e,b];exact ih
theorem KV.any {kvs:List (κ×V)} {vs:List (κ×Value)} (r:KV kvs vs) (k:κ):(kvs.any fun kv=>decide (kv.1=k))=vs.any fun kv=>decide (kv.1=k):=by
 unfold KV at r;induction r with
 | nil=>rfl
 | cons h t ih=>rw [List.any_cons,List.any_cons,ih,h.1]
theorem KV.repl {kvs:List (κ×V)} {vs:List (κ×Value)} (r:KV kvs vs) (k:κ) {y:V} {u:Value} (ry:RelV y u) :
   KV (kvs.map fun kv=>if kv.1=k then (kv.1,y) else kv) (vs.map fun kv=>if kv.1=k then (kv.1,u) else kv):=by
 unfold KV at r ⊢;induction r with
 | nil=>exact .nil
 | @cons p q ps qs h t ih=>
   rw [List.map_cons,List.map_cons];refine .cons ?_ ih;obtain ⟨h1,h2⟩:=h;by_cases e:p.1=k
   . rw [if_pos e,if_pos (h1.symm.trans e)];exact ⟨h1,ry⟩
   . rw [if_neg e,if_neg (fun z=>e (h1.trans z))];exact ⟨h1,h2⟩
theorem KV.put {kvs:List (κ×V)} {vs:List (κ×Value)} (r:KV kvs vs) (k:κ) {y:V} {u:Value} (ry:RelV y u):KV (putK kvs k y) (stored vs k u):=by
 unfold putK stored;rw [r.any k];by_cases e:(vs.any fun kv=>decide (kv.1=k))=true
 . rw [if_pos e,if_pos e];exact r.repl k ry
 . rw [if_neg e,if_neg e];exact Paired.snoc r ⟨rfl,ry⟩
theorem KV.length {kvs:List (κ×V)} {vs:List (κ×Value)} (r:KV kvs vs):kvs.length=vs.length:=Paired.length r
end
theorem Eh {P:Program} {w:World} {k:Key} {u:Value} (r:RelV (kV k) u):(fL P w).is k u=true:=by
 cases k with
 | inl i=>obtain ⟨t,e⟩:=(show ∃ t,u=Value.int i t from r);subst e;exact KA P w i t
 | inr x=>obtain ⟨t,e⟩:=(show ∃ t,u=Value.str x t from r);subst e;exact KC P w x t
theorem HE {P:Program} {w:World}:∀ {ks:List Key} {us:List Value},Vals (ks.map kV) us->ItemsAre (fL P w) ks us
 | [],_,r=>by rw [List.map_nil] at r;cases r;exact .nil
 | k::ks,_,r=>by
  rw [List.map_cons] at r
  cases r with
  | cons h t=>exact .cons (Eh h) (HE t)
abbrev KT (H:Hp):List (List Key×V)->List (List Key×Addr×Value)->Prop:=Paired fun p q=>p.1=q.1/\H q.2.1=some (.tup (p.1.map kV))/\RelV p.2 q.2.2
theorem KT.val {H:Hp} {kvs:List (List Key×V)} {xs:List (List Key×Addr×Value)} (r:KT H kvs xs) (k:List Key):sO (jW kvs k) ((atKey xs k).map (·.2)):=by
 induction r with
 | nil=>exact True.intro
 | @cons p q ps qs h t ih=>
   obtain ⟨h1,_,h2⟩:=h;by_cases e:p.1=k
   . have e':q.1=k:=h1.symm.trans e
     have b:atKey (q::qs) k=some q.2:=by simp [atKey,List.find?_cons,e']
     rw [jw e,b];exact h2
   . have e':¬ q.1=k:=fun z=>e (h1.trans z)
     have b:atKey (q::qs) k=atKey qs k:=by simp [atKey,List.find?_cons,e']
     rw [jx e,b];exact ih
theorem KT.repl {H:Hp} {kvs:List (List Key×V)} {xs:List (List Key×Addr×Value)} (r:KT H kvs xs) (k:List Key) {y:V} {u:Value} (ry:RelV y u) :
   KT H (kvs.map fun kv=>if kv.1=k then (kv.1,y) else kv) (xs.map (putAt k u)):=by
 induction r with
 | nil=>exact .nil
 | @cons p q ps qs h t ih=>
   rw [List.map_cons,List.map_cons];refine .cons ?_ ih;obtain ⟨h1,h2,h3⟩:=h;unfold putAt;by_cases e:p.1=k
   . rw [if_pos e,if_pos (h1.symm.trans e)];exact ⟨h1,h2,ry⟩
   . rw [if_neg e,if_neg (fun z=>e (h1.trans z))];exact ⟨h1,h2,h3⟩
theorem KT.put {H:Hp} {kvs:List (List Key×V)} {xs:List (List Key×Addr×Value)} (r:KT H kvs xs) (k:List Key) {b:Addr} {y:V} {u:Value} (hb:H b=some (.tup (k.map kV))) (ry:RelV y u) :
   KT H (putK kvs k y) (storedH xs k b u):=by
 have e:(kvs.any fun kv=>decide (kv.1=k))=(atKey xs k).isSome:=by
   rw [mZ,(r.val k).uu,Option.isSome_map]
 unfold putK storedH;rw [e];by_cases q:(atKey xs k).isSome=true
 . rw [if_pos q,if_pos q];exact r.repl k ry
 . rw [if_neg q,if_neg q];exact Paired.snoc r ⟨rfl,hb,ry⟩
theorem KT.keeps {H H':Hp} {kvs:List (List Key×V)} {xs:List (List Key×Addr×Value)} (r:KT H kvs xs) (ht:∀ b ys,H b=some (.tup ys)->H' b=some (.tup ys)):KT H' kvs xs:=
 Paired.Yg r fun _ _ z=>⟨z.1,ht _ _ z.2.1,z.2.2⟩
section
variable {P:Program} {w:World} {H:Hp} {h:Heap} {a:Addr}
theorem X5 {u:HO} (ok:vS P w H h) (e:Rd H a u):dY P w H h a u:=e.ok ok
theorem Ei {kvs:List (Key×V)} (ok:vS P w H h) (e:Rd H a (.dK kvs)):kvs.length<=sizeLine/\(a==sysModules)=false/\∃ vs,KV kvs vs/\h.DictOf (fL P w) a vs:=
 show dY P w H h a (.dK kvs) from X5 ok e
theorem X6 {kvs:List (Key×V)} (ok:vS P w H h) (e:H a=some (.dK kvs)):kvs.length<=sizeLine/\(a==sysModules)=false/\∃ vs,KV kvs vs/\h.DictOf (fL P w) a vs:=Ei ok (.inl e)
theorem xh {ks:List Key} (ok:vS P w H h) (e:H a=some (.tup (ks.map kV))):(tupleKind (fL P w)).is h ks a:=by
 obtain ⟨_,its,r,o,h1,h2,n,h3⟩:=(show dY P w H h a (.tup (ks.map kV)) from ok a _ e);exact ⟨o,its.toArray,n,h1,h2,h3,by simpa using HE r⟩
theorem Ej {kvs:List (List Key×V)} (ok:vS P w H h) (e:Rd H a (.dT kvs)):kvs.length<=sizeLine/\(a==sysModules)=false /\
   ∃ xs,KT H kvs xs/\h.DictOfH (tupleKind (fL P w)) a xs:=by
 obtain ⟨z,y,xs,r,o,es,ep,h1,h2,h3,h4,h5⟩:=(show dY P w H h a (.dT kvs) from X5 ok e);refine ⟨z,y,xs,r,o,es,ep,h1,h2,h3,h4,fun x hx=>?_,h5⟩;have all:∀ {l:List (List Key×V)} {m:List (List Key×Addr×Value)},KT H l m->∀ x ∈ m,(tupleKind (fL P w)).is h x.1 x.2.1:=by
   intro l m q;induction q with
   | nil=>intro x hx;exact nomatch hx
   | @cons p q ps qs hq t ih=>
     intro x hx;rcases List.mem_cons.mp hx with e | hx
     . subst e
       exact xh ok (by rw [<- hq.1];exact hq.2.1)
     . exact ih x hx
 exact all r x hx
theorem OA {kvs:List (List Key×V)} (ok:vS P w H h) (e:H a=some (.dT kvs)):kvs.length<=sizeLine/\(a==sysModules)=false /\
   ∃ xs,KT H kvs xs/\h.DictOfH (tupleKind (fL P w)) a xs:=Ej ok (.inl e)
end
def qO (H:Hp) (a:Addr) (y:V) (r:Option V):Prop:=
 (∃ kvs k,Rd H a (.dK kvs)/\y=kV k/\r=jW kvs k)\/∃ kvs k b,Rd H a (.dT kvs)/\y=.ref b/\H b=some (.tup (k.map kV))/\r=jW kvs k
def Ek (H:Hp) (a:Addr) (y v:V) (H':Hp):Prop:=
 (∃ kvs k,H a=some (.dK kvs)/\y=kV k/\kvs.length < sizeLine/\H'=upd H a (.dK (putK kvs k v))) \/
 ∃ kvs k b,H a=some (.dT kvs)/\y=.ref b/\H b=some (.tup (k.map kV))/\kvs.length < sizeLine/\H'=upd H a (.dT (putK kvs k v))
theorem qO.k {H:Hp} {a:Addr} {kvs:List (Key×V)} {k:Key} (e:H a=some (.dK kvs)):qO H a (kV k) (jW kvs k):=.inl ⟨kvs,k,.inl e,rfl,rfl⟩
theorem qO.t {H:Hp} {a b:Addr} {kvs:List (List Key×V)} {k:List Key} (e:H a=some (.dT kvs)) (eb:H b=some (.tup (k.map kV))):qO H a (.ref b) (jW kvs k):=.inr ⟨kvs,k,b,.inl e,rfl,eb,rfl⟩
theorem Ek.k {H:Hp} {a:Addr} {kvs:List (Key×V)} {k:Key} {v:V} (e:H a=some (.dK kvs)) (hl:kvs.length < sizeLine):Ek H a (kV k) v (upd H a (.dK (putK kvs k v))):=.inl ⟨kvs,k,e,rfl,hl,rfl⟩
theorem Ek.t {H:Hp} {a b:Addr} {kvs:List (List Key×V)} {k:List Key} {v:V} (e:H a=some (.dT kvs)) (eb:H b=some (.tup (k.map kV))) (hl:kvs.length < sizeLine) :
   Ek H a (.ref b) v (upd H a (.dT (putK kvs k v))):=.inr ⟨kvs,k,b,e,rfl,eb,hl,rfl⟩
section
variable {X:Cx} {pins:List (Addr×Obj)} {σ:St} {H:Hp} {s:Shared} {a:Addr} {y v:V} {u r:Value} {o:Option V} {A:Around} {E:Value->Shared->Prop}
theorem Inv.big (I:Inv X pins σ H s):sysModules < s.heap.objs.size:=by
 have h:mainGlobals < s.heap.objs.size:=(I.mod.glob.keeps I.bk).lt;exact Nat.lt_trans (by decide) h
theorem PR {Q:Value->Shared->Prop} (hu:A.units+1 < cLine) (I:Inv X pins σ H s) (g:qO H a y (some v)) (ry:RelV y u) (h:∀ w' s',Inv X pins σ H s'->RelV v w'->Q w' s') :
   wpAny (model X.prog X.w) A (getItem (.ref a) u) Q E s:=by
 rcases g with ⟨kvs,k,e,ey,l⟩ | ⟨kvs,k,b,e,ey,eb,l⟩
 . subst ey
   obtain ⟨z,hd,vs,rel,dd⟩:=Ei I.hok e;obtain ⟨w',hw,rw'⟩:=sO.some_of (v:=v) (o:=valueAt vs k) (by rw [l];exact rel.val k);exact wpAny_getItem_of (Eh ry) dd.mapOf hw (h w' _ (I.tok _) rw')
 . subst ey
   cases (show u=Value.ref b from ry);obtain ⟨z,hd,xs,rel,dd⟩:=Ej I.hok e;obtain ⟨w',hw,rw'⟩:=sO.some_of (v:=v) (o:=(atKey xs k).map (·.2)) (by rw [l];exact rel.val k);obtain ⟨p,hp,hp2⟩:=Option.map_eq_some_iff.mp hw;refine wpAny_getItem_heap (tupleKind_room_in1 hu) (xh I.hok eb) dd hp ?_;rw [hp2];exact h w' _ (I.tok _) rw'
theorem abQ {Q:Value->Shared->Prop} (hu:A.units+1 < cLine) (I:Inv X pins σ H s) (g:qO H a y o) (ry:RelV y u) (h:∀ s',Inv X pins σ H s'->Q (.bool o.isSome) s') :
   wpAny (model X.prog X.w) A (compareOp .In u (.ref a)) Q E s:=by
 rcases g with ⟨kvs,k,e,ey,l⟩ | ⟨kvs,k,b,e,ey,eb,l⟩
 . subst ey
   obtain ⟨z,hd,vs,rel,dd⟩:=Ei I.hok e;refine wpAny_in_of (Eh ry) hd dd.mapOf ?_;rw [<- (rel.val k).uu,<- l];exact h _ (I.tok _)
 . subst ey
   cases (show u=Value.ref b from ry);obtain ⟨z,hd,xs,rel,dd⟩:=Ej I.hok e;refine wpAny_in_heap (tupleKind_room_in1 hu) (xh I.hok eb) hd dd ?_;have q:=(rel.val k).uu;rw [Option.isSome_map] at q;rw [<- q,<- l];exact h _ (I.tok _)
theorem V8 {Q:Value->Shared->Prop} (hu:A.units+1 < cLine) (I:Inv X pins σ H s) (g:qO H a y o) (ry:RelV y u) (h:∀ s',Inv X pins σ H s'->Q (.bool (!o.isSome)) s') :
   wpAny (model X.prog X.w) A (compareOp .NotIn u (.ref a)) Q E s:=by
 rcases g with ⟨kvs,k,e,ey,l⟩ | ⟨kvs,k,b,e,ey,eb,l⟩
 . subst ey
   obtain ⟨z,hd,vs,rel,dd⟩:=Ei I.hok e;refine wpAny_notIn_of (Eh ry) hd dd.mapOf ?_;rw [<- (rel.val k).uu,<- l];exact h _ (I.tok _)
 . subst ey
   cases (show u=Value.ref b from ry);obtain ⟨z,hd,xs,rel,dd⟩:=Ej I.hok e;refine wpAny_notIn_heap (tupleKind_room_in1 hu) (xh I.hok eb) hd dd ?_;have q:=(rel.val k).uu;rw [Option.isSome_map] at q;rw [<- q,<- l];exact h _ (I.tok _)
theorem Ag {h':Heap} {t':Nat} {ob:HO} (I:Inv X pins σ H s) (mu:Xr (H a)) (hs:Heap.SameBut a s.heap h') (he:∃ q,h'.get? a=some q) (new:dY X.prog X.w (upd H a ob) h' a ob) :
  Inv X pins σ (upd H a ob) { s with heap:=h',toks:=t' }:=
 I.write (x:=a) (e:=a) mu (.inl rfl) (fun b q hb z=>(hs.2 b hb).trans z) he new
theorem Sy {P:Program} {w:World} {H':Hp} {h':Heap} {kvs:List (Key×V)} {vs:List (Key×Value)} (z:kvs.length<=sizeLine) (hd:(a==sysModules)=false) (rel:KV kvs vs) (dd:h'.DictOf (fL P w) a vs) :
   dY P w H' h' a (.dK kvs):=⟨z,hd,vs,rel,dd⟩
theorem PU {H':Hp} {Q:Unit->Shared->Prop} (hu:A.units+1 < cLine) (I:Inv X pins σ H s) (g:Ek H a y v H') (ry:RelV y u) (rv:RelV v r) (h:∀ s',Inv X pins σ H' s'->Q () s') :
   wpAny (model X.prog X.w) A (setItem (.ref a) u r) Q E s:=by
 rcases g with ⟨kvs,k,e,ey,l,eH⟩ | ⟨kvs,k,b,e,ey,eb,l,eH⟩
 . subst ey eH
   obtain ⟨z,hd,vs,rel,dd⟩:=X6 I.hok e;have hz:vs.length<=sizeLine:=by rw [<- rel.length];exact z
   have hl:(putK kvs k v).length<=sizeLine:=by have:=jF kvs k v;omega
   refine wpAny_setItem_pairs (hsz:=hz) (Eh ry) dd fun h' dd' hs=>h _ ?_;have he:∃ q,h'.get? a=some q:=let ⟨q,_,_,hq,_⟩:=dd';⟨q,hq⟩;exact Ag I (by rw [e];exact True.intro) hs he (Sy hl hd (rel.put k rv) dd')
 . subst ey eH
   cases (show u=Value.ref b from ry);obtain ⟨z,hd,xs,rel,dd⟩:=OA I.hok e;have hz:xs.length<=sizeLine:=by rw [<- Paired.length rel];exact z
   have hl:(putK kvs k v).length<=sizeLine:=by have:=jF kvs k v;omega
   refine wpAny_setItem_heap (hsz:=hz) (tupleKind_room_in1 hu) (xh I.hok eb) dd fun h' dd' hs=>h _ ?_;obtain ⟨q,es,ep,hq,h2,h3,h4,_,h5⟩:=dd';refine Ag I (by rw [e];exact True.intro) hs ⟨q,hq⟩ ⟨hl,hd,_,(rel.put k eb rv).keeps fun c ys ec=>?_,q,es,ep,hq,h2,h3,h4,h5⟩;rw [aq (mX ec e (fun z=>nomatch z))];exact ec
end
section
variable {X:Cx} {pins:List (Addr×Obj)} {σ:St} {H:Hp} {s:Shared} {a:Addr} {kvs:List (Key×V)} {k:Key} {u:Value} {A:Around} {E:Value->Shared->Prop}
end
def aaz (i:Expr):Prop:=∀ ov iv,subscripted i false ov iv=operate [ov,iv] (getItem ov iv)
theorem V9 {prog:Program} {w:World} {A:Around} {E:Value->Shared->Prop} {s:Shared} {env:Env} {value slice:Expr} {pos:Pos} {T id:String} {Q:Value->Shared->Prop}
   (hl:typeLookup (.type T) "__getitem__"=pure (some (.builtin id))) (hs:aaz slice)
   (h:wpAny (model prog w) A (eval value env) (fun o s₁=>wpAny (model prog w) A (eval slice env) (fun i s₂=>s₂.TypeIs o T/\wpAny (model prog w) A (getItem o i) Q E s₂) E s₁) E s) :
   wpAny (model prog w) A (eval (.Subscript value slice pos) env) Q E s:=by
 refine Subscript_ (wpAny_mono h (fun o s₁ h₁=>wpAny_mono h₁ (fun i s₂ h₂=>?_) fun _ _ x=>x) fun _ _ x=>x);obtain ⟨hT,h₂⟩:=h₂;unfold subscriptTail;refine wpAny_bind ?_;rw [getitemInPython_of_ne hT.not_modules];refine wpAny_bind (wpAny_specialOf hT hl ?_);have fin:wpAny (model prog w) A (subscripted slice false o i) (fun r s₃=>wpAny (model prog w) A (letTemporaryGo value o r >>= fun _=>pure r) Q E s₃) E s₂:=by
   rw [hs o i];exact wpAny_operating (wpAny_mono h₂ (fun r s₃ h₃=>wpAny_bind (wpAny_letTemporaryGo (wpAny_pure h₃))) fun _ _ x=>x)
 first
   | exact wpAny_pure (wpAny_bind fin)
   | exact wpAny_bind (wpAny_pure (wpAny_bind fin))
   | exact wpAny_bind fin
theorem KZ {X:Cx} {pins:List (Addr×Obj)} {σ:St} {H:Hp} {s:Shared} {a:Addr} {y:V} {o:Option V} (I:Inv X pins σ H s) (g:qO H a y o):s.TypeIs (.ref a) "dict":=by
 rcases g with ⟨kvs,k,e,_,_⟩ | ⟨kvs,k,b,e,_,_,_⟩
 . obtain ⟨_,_,vs,_,dd⟩:=Ei I.hok e
   exact dd.typeIs
 . obtain ⟨_,_,xs,_,dd⟩:=Ej I.hok e
   exact dd.typeIs
def aa0 (td ty:TE):TE:=fun σ H Q=>td σ H fun x H1=>ty σ H1 fun y H2=>∃ a v,x=.ref a/\qO H2 a y (some v)/\Q v H2
def abR (ty td:TE):TE:=fun σ H Q=>ty σ H fun y H1=>td σ H1 fun x H2=>∃ a o,x=.ref a/\qO H2 a y o/\Q (.bl o.isSome) H2
def VA (ty td:TE):TE:=fun σ H Q=>ty σ H fun y H1=>td σ H1 fun x H2=>∃ a o,x=.ref a/\qO H2 a y o/\Q (.bl (!o.isSome)) H2
def aa1 (td ty tv:TE):TS:=fun D σ H=>tv σ H fun v H1=>td σ H1 fun x H2=>ty σ H2 fun y H3=>∃ a H4,x=.ref a/\Ek H3 a y v H4/\D.nx σ H4
section
variable {X:Cx} {o i e value:Expr} {pos pos' tpos:Pos} {td ty tv:TE}
theorem D9 (hu:X.A.units+1 < cLine) (ho:PE X o td) (hi:PE X i ty) (hs:aaz i):PE X (.Subscript o i pos) (aa0 td ty):=by
 intro pins s σ H Q I h;refine V9 PySem.F.slot_dict_getitem.lookup hs (dZ (ho pins s σ H _ I h) fun u s1 ⟨x,H1,I1,rx,q1⟩=>dZ (hi pins s1 σ H1 _ I1 q1) fun iv s2 ⟨y,H2,I2,ry,a,v,ex,g,q2⟩=>?_);subst ex;obtain rfl:u=Value.ref a:=rx;exact ⟨KZ I2 g,PR hu I2 g ry fun w' s3 I3 rw'=>⟨v,H2,I3,rw',q2⟩⟩
theorem Sz (hu:X.A.units+1 < cLine) (hi:PE X i ty) (ho:PE X o td):PC X .In i o (abR ty td):=by
 intro pins s σ H Q I h;refine dZ (hi pins s σ H _ I h) fun iv s1 ⟨y,H1,I1,ry,q1⟩=>dZ (ho pins s1 σ H1 _ I1 q1) fun u s2 ⟨x,H2,I2,rx,a,ov,ex,g,q2⟩=>?_;subst ex;obtain rfl:u=Value.ref a:=rx;exact abQ hu I2 g ry fun s3 I3=>⟨.bl ov.isSome,H2,I3,rfl,q2⟩
theorem PV (hu:X.A.units+1 < cLine) (hi:PE X i ty) (ho:PE X o td):PC X .NotIn i o (VA ty td):=by
 intro pins s σ H Q I h;refine dZ (hi pins s σ H _ I h) fun iv s1 ⟨y,H1,I1,ry,q1⟩=>dZ (ho pins s1 σ H1 _ I1 q1) fun u s2 ⟨x,H2,I2,rx,a,ov,ex,g,q2⟩=>?_;subst ex;obtain rfl:u=Value.ref a:=rx;exact V8 hu I2 g ry fun s3 I3=>⟨.bl (!ov.isSome),H2,I3,rfl,q2⟩
theorem Ah (hu:X.A.units+1 < cLine) (ho:PE X o td) (hi:PE X i ty) (hv:PE X value tv) (hs:swapsWith value (some (.Subscript o i pos')) pos.line X.env=pure false) :
  PS X (.Assign [.Subscript o i pos'] value pos) (aa1 td ty tv):=by
 intro pins s σ H D I h;refine wpAny_Assign_Subscript (dZ (hv pins s σ H _ I h) fun r s1 ⟨v,H1,I1,rv,q1⟩=>dZ (ho pins s1 σ H1 _ I1 q1) fun u s2 ⟨x,H2,I2,rx,q2⟩=>dZ (hi pins s2 σ H2 _ I2 q2) fun iv s3 ⟨y,H3,I3,ry,a,H4,ex,g,q3⟩=>?_) hs;subst ex;obtain rfl:u=Value.ref a:=rx;exact PU hu I3 g ry rv fun s4 I4=>⟨σ,H4,I4,q3⟩
end
theorem S0 {P:Program} {w:World} {H:Hp} (h:Heap) (hb:sysModules < h.objs.size):dY P w H (h.push { cls:=.type "dict",data:=.dict #[] }) h.objs.size (.dK []):=
 ⟨Nat.zero_le _,beq_eq_false_iff_ne.mpr (Ne.symm (Nat.ne_of_lt hb)),[],.nil,Heap.DictOf.new h⟩
theorem La {P:Program} {w:World} {H:Hp} (h:Heap) (hb:sysModules < h.objs.size):dY P w H (h.push { cls:=.type "dict",data:=.dict #[] }) h.objs.size (.dT []):=
 ⟨Nat.zero_le _,beq_eq_false_iff_ne.mpr (Ne.symm (Nat.ne_of_lt hb)),[],.nil,_,#[],0,Heap.get?_push_size _ rfl,⟨rfl,rfl,rfl⟩,rfl,rfl,List.nodup_nil⟩
def YA:TE:=fun _ H Q=>∀ p,H p=none->Q (.ref p) (upd H p (.dT []))
section
variable {X:Cx} {pos:Pos}
theorem Ai:PE X (.Dict [] [] pos) YA:=fun pins s σ H Q I h=>
 wpAny_Dict_empty ⟨.ref s.heap.objs.size,_,I.laid (a:=s.heap.objs.size) (o:=.dT []) (t':=s.toks) (fun _ _ q=>Heap.get?_push_of_some _ q) (Nat.le_refl _) (La s.heap I.big),rfl,h _ (I.hok.fresh (Nat.le_refl _))⟩
end
def Nu:List (TE×TE)->St->Hp->(List (V×V)->Hp->Prop)->Prop
 | [],_,H,Q=>Q [] H
 | (tk,tv)::r,σ,H,Q=>tk σ H fun x H1=>tv σ H1 fun y H2=>Nu r σ H2 fun ps H3=>Q ((x,y)::ps) H3
abbrev VV:List (V×V)->List (Value×Value)->Prop:=Paired fun p q=>RelV p.1 q.1/\RelV p.2 q.2
def PPs (X:Cx) (pos:Pos) (keys:List (Option Expr)) (values:List Expr) (VB:List (TE×TE)):Prop:=
 ∀ (pins:List (Addr×Obj)) (s:Shared) (σ:St) (H:Hp) (Q:List (V×V)->Hp->Prop),Inv X pins σ H s->Nu VB σ H Q->
   wpAny (model X.prog X.w) X.A (evalPairs (pairTrees keys values X.env pos)) (fun vs s'=>∃ ps H',Inv X pins σ H' s'/\VV ps vs/\Q ps H') X.xe s
theorem OB {X:Cx} {pos:Pos}:PPs X pos [] [] []:=fun pins s σ H Q I h=>pairTrees_nil_walk ⟨[],H,I,.nil,h⟩
theorem Lb {X:Cx} {pos:Pos} {k v:Expr} {ks:List (Option Expr)} {vs:List Expr} {tk tv:TE} {VB:List (TE×TE)} (hk:PE X k tk) (hv:PE X v tv) (hr:PPs X pos ks vs VB) :
  PPs X pos (some k::ks) (v::vs) ((tk,tv)::VB):=fun pins s σ H Q I h=>
 pairTrees_cons_walk (dZ (hk pins s σ H _ I h) fun u s1 ⟨x,H1,I1,rx,q1⟩=>dZ (hv pins s1 σ H1 _ I1 q1) fun w2 s2 ⟨y,H2,I2,ry,q2⟩=>
  dZ (hr pins s2 σ H2 _ I2 q2) fun ws s3 ⟨ps,H3,I3,rel,q3⟩=>⟨(x,y)::ps,H3,I3,.cons ⟨rx,ry⟩ rel,q3⟩)
def BJ (kvs more:List (Key×V)):List (Key×V):=more.foldl (fun acc kv=>putK acc kv.1 kv.2) kvs
theorem KV.merge:∀ {more:List (Key×V)} {rs:List (Key×Value)} {kvs:List (Key×V)} {vs:List (Key×Value)},KV more rs->KV kvs vs->KV (BJ kvs more) (merged vs rs):=by
 intro more rs kvs vs r;unfold KV at r;induction r generalizing kvs vs with
 | nil=>intro q;exact q
 | @cons p q ps qs h t ih=>
  intro r0;have e:KV (putK kvs p.1 p.2) (stored vs q.1 q.2):=by
   have:=r0.put p.1 h.2;rw [<- h.1];exact this
  exact ih e
theorem zd:∀ (more kvs:List (Key×V)),(BJ kvs more).length<=kvs.length+more.length
 | [],kvs=>by show kvs.length<=kvs.length+0;omega
 | p::r,kvs=>by
  have h1:=zd r (putK kvs p.1 p.2)
  have h2:=jF kvs p.1 p.2
  show (BJ (putK kvs p.1 p.2) r).length<=_
  rw [List.length_cons];omega
theorem El {P:Program} {w:World}:∀ {kvs:List (Key×V)} {ws:List (Value×Value)},VV (kvs.map fun kv=>(kV kv.1,kv.2)) ws->∃ rs,Carries (fL P w) ws rs/\KV kvs rs
 | [],_,r=>by rw [List.map_nil] at r;cases r;exact ⟨[],True.intro,.nil⟩
 | p::kvs,_,r=>by
  rw [List.map_cons] at r
  cases r with
  | @cons a b as bs h t=>
   obtain ⟨rs,c,q⟩:=El (P:=P) (w:=w) t
   obtain ⟨b1,b2⟩:=b
   exact ⟨(p.1,b2)::rs,⟨Eh h.1,rfl,c⟩,.cons ⟨rfl,h.2⟩ q⟩
def aa2 (VB:List (TE×TE)):TE:=fun σ H Q=>∀ p,H p=none->Nu VB σ (upd H p (.dK [])) fun ps H2=>H2 p=some (.dK [])/\∃ kvs:List (Key×V),ps=kvs.map (fun kv=>(kV kv.1,kv.2))/\kvs.length<=15/\Q (.ref p) (upd H2 p (.dK (BJ [] kvs)))
theorem VC {X:Cx} {pos:Pos} {keys:List (Option Expr)} {values:List Expr} {VB:List (TE×TE)} (h:PPs X pos keys values VB) (hall:keys.all (·.isSome)=true) (hl:keys.length=values.length) (h0:keys ≠ [])
  (h15:keys.length<=15):PE X (.Dict keys values pos) (aa2 VB):=by
 intro pins s σ H Q I q;have hn:=I.hok.fresh (Nat.le_refl s.heap.objs.size);have I1:=I.laid (a:=s.heap.objs.size) (o:=.dK []) (h':=s.heap.push { cls:=.type "dict",data:=.dict #[] }) (t':=s.toks) (fun _ _ q=>Heap.get?_push_of_some _ q) (Nat.le_refl _) (S0 s.heap I.big);refine wpAny_Dict_walk (knd:=fL X.prog X.w) hall hl h0 h15 (dZ (h pins _ σ _ _ I1 (q _ hn)) fun ws s2 ⟨ps,H2,I2,rel,e,kvs,ep,lk,q2⟩=>?_);subst ep;obtain ⟨rs,c,rk⟩:=El (P:=X.prog) (w:=X.w) rel;obtain ⟨z,hd,vs0,r0,dd⟩:=X6 I2.hok e;cases r0;refine ⟨rs,c,dd,fun h' dd' hs=>⟨.ref s.heap.objs.size,_,?_,rfl,q2⟩⟩;have hz:(BJ [] kvs).length<=sizeLine:=by
  have h1:=zd kvs [];rw [List.length_nil] at h1;rw [sizeLine_eq];omega
 have he:∃ q,h'.get? s.heap.objs.size=some q:=let ⟨q,_,_,hq,_⟩:=dd';⟨q,hq⟩;exact Ag I2 (by rw [e];exact True.intro) hs he (Sy hz hd (rk.merge .nil) dd')
structure M1 (X:Cx) (o:Expr) (m:Str) (apos:Pos) (e:Expr) (cpos:Pos):Prop where
 base:attributeBase o m X.env (eval o X.env)=eval o X.env
 few:((backTo cpos (starEach [e] X.env)).all (fun x=>!x.1)&&(backToKw cpos (keywordEach [] X.env)).all (fun x=>x.1.isSome)
  &&decide (([e]:List Expr).length+([]:List Keyword).length+(if ([]:List Keyword).isEmpty then 0 else 1) < 30))=true
 line:(apos.endLine==cpos.line)=true
 trees:backTo cpos (starEach [e] X.env)=[(false,eval e X.env)]
structure M2 (X:Cx) (o:Expr) (m:Str) (apos:Pos) (e f:Expr) (cpos:Pos):Prop where
 base:attributeBase o m X.env (eval o X.env)=eval o X.env
 few:((backTo cpos (starEach [e,f] X.env)).all (fun x=>!x.1)&&(backToKw cpos (keywordEach [] X.env)).all (fun x=>x.1.isSome)
  &&decide (([e,f]:List Expr).length+([]:List Keyword).length+(if ([]:List Keyword).isEmpty then 0 else 1) < 30))=true
 line:(apos.endLine==cpos.line)=true
 trees:backTo cpos (starEach [e,f] X.env)=[(false,eval e X.env),(false,eval f X.env)]
def IsD (H:Hp) (a:Addr):Prop:=(∃ kvs,Rd H a (.dK kvs))\/∃ kvs,Rd H a (.dT kvs)
theorem Nv {X:Cx} {pins:List (Addr×Obj)} {σ:St} {H:Hp} {s:Shared} {a:Addr} (I:Inv X pins σ H s) (d:IsD H a) :
   s.TypeIs (.ref a) "dict"/\(∀ b,Value.ref a=.ref b->∃ ob,s.heap.get? b=some ob/\ob.dict=none)/\(a==sysModules)=false:=by
 rcases d with ⟨kvs,e⟩ | ⟨kvs,e⟩
 . obtain ⟨_,hd,vs,_,dd⟩:=Ei I.hok e
   refine ⟨dd.typeIs,fun b q=>?_,hd⟩;cases q;obtain ⟨ob,_,_,h1,h2,_⟩:=dd;exact ⟨ob,h1,h2.2.1⟩
 . obtain ⟨_,hd,xs,_,dd⟩:=Ej I.hok e
   refine ⟨dd.typeIs,fun b q=>?_,hd⟩;cases q;obtain ⟨ob,_,_,h1,h2,_⟩:=dd;exact ⟨ob,h1,h2.2.1⟩
section
variable {X:Cx} {pins:List (Addr×Obj)} {σ:St} {H:Hp} {s:Shared} {a:Addr} {y d:V} {u r:Value} {o:Option V} {A:Around} {E:Value->Shared->Prop}
theorem YB {Q:Value->Shared->Prop} (hu:A.units+1 < cLine) (I:Inv X pins σ H s) (g:qO H a y o) (ry:RelV y u) (h:∀ w' s',Inv X pins σ H s'->RelV (o.getD .non) w'->Q w' s') :
   wpAny (model X.prog X.w) A (call (.builtin "dict.get") [.ref a,u]) Q E s:=by
 rcases g with ⟨kvs,k,e,ey,l⟩ | ⟨kvs,k,b,e,ey,eb,l⟩
 . subst ey
   obtain ⟨z,hd,vs,rel,dd⟩:=Ei I.hok e;refine call_meetsIn PySem.F.slot_dict_get dd.typeIs PySem.F.entry_dict_get (PySem.F.args_dict_get_2 _ _) (meets_dict_get (fL X.prog X.w) a (Eh ry) hd) ⟨_,dd.mapOf,h _ _ (I.tok _) ?_⟩;rw [l];exact (rel.val k).getD rfl
 . subst ey
   cases (show u=Value.ref b from ry);obtain ⟨z,hd,xs,rel,dd⟩:=Ej I.hok e;refine call_meetsIn PySem.F.slot_dict_get dd.typeIs PySem.F.entry_dict_get (PySem.F.args_dict_get_2 _ _) (meetsH_dict_get (tupleKind (fL X.prog X.w)) a b hd) ⟨tupleKind_room_in1 hu,k,xs,xh I.hok eb,dd,h _ _ (I.tok _) ?_⟩;rw [l];exact (rel.val k).getD rfl
end
def YC (td ty:TE):TE:=fun σ H Q=>td σ H fun x H1=>∃ a,x=.ref a/\IsD H1 a/\ty σ H1 fun y H2=>∃ o,qO H2 a y o/\Q (o.getD .non) H2
section
variable {X:Cx} {o e f:Expr} {apos cpos:Pos} {td ty tx:TE}
theorem S3 (hu:X.A.units+1 < cLine) (ho:PE X o td) (he:PE X e ty) (m:M1 X o "get" apos e cpos):PE X (.Call (.Attribute o "get" apos) [e] [] cpos) (YC td ty):=by
 intro pins s σ H Q I h;refine wpAny_Call_method m.base m.few m.line PySem.F.plainAttrs_dict PySem.F.slot_dict_get PySem.F.type_dict_get (dZ (ho pins s σ H _ I h) fun u s1 ⟨x,H1,I1,rx,a,ex,d,q1⟩=>?_);subst ex;obtain rfl:u=Value.ref a:=rx;obtain ⟨t1,t2,_⟩:=Nv I1 d;refine ⟨t1,t2,?_⟩;rw [m.trees];refine Calls.callWith_builtin rfl (Calls.evalArgs_plain (Calls.spliced_cons (dZ (he pins s1 σ H1 _ I1 q1) fun iv s2 ⟨y,H2,I2,ry,ov,g,q2⟩=>Calls.spliced_nil ?_)));exact YB hu I2 g ry fun w' s3 I3 rw'=>⟨_,H2,I3,rw',q2⟩
end
section
variable {X:Cx} {pins:List (Addr×Obj)} {σ:St} {H:Hp} {s:Shared} {a:Addr} {kvs:List (Key×V)} {A:Around} {E:Value->Shared->Prop}
end
section
variable {X:Cx} {pins:List (Addr×Obj)} {σ:St} {H:Hp} {s:Shared} {a:Addr} {y:V} {u:Value} {A:Around} {E:Value->Shared->Prop}
end
end L2
namespace L2
open PySem PySem.Spec PyProof.Rows
section
variable {prog:Program} {w:World} {A:Around} {E:Value->Shared->Prop}
end
section
variable {X:Cx}
end
end L2
namespace L2
open PySem PySem.Spec PyProof.Rows
section
variable {X:Cx} {pins:List (Addr×Obj)} {σ:St} {H:Hp} {s:Shared} {h':Heap}
theorem Inv.PX {t':Nat} {ch:List Addr} {T:Addr} {ob:HO} (I:Inv X pins σ H s) (k:∀ b o,b ∉ ch->s.heap.get? b=some o->h'.get? b=some o) (hf:∀ b ∈ ch,DX X pins H b) (hT:s.heap.objs.size<=T)
   (new:dY X.prog X.w (upd H T ob) h' T ob):Inv X pins σ (upd H T ob) { s with heap:=h',toks:=t' }:=by
 have hn:H T=none:=I.hok.fresh hT;have nit:∀ b u,H b=some u->b ∉ ch:=fun b u e z=>by
   have q:=(hf b z).1;rw [q] at e;cases e
 refine I.step (g':=s.gens) (d':=s.drawn) (ch:=ch) (fun b hb=>⟨(hf b hb).2.2.2.1,(hf b hb).2.1,(hf b hb).2.2.2.2.1,(hf b hb).2.2.2.2.2⟩) (fun b o _ _ hc e _=>k b o hc e) (fun b o _ _ hc e _=>⟨o.slots,k b o hc e⟩)
   (fun b o _ e n=>?_) (fun b o hc e=>⟨o,k b o hc e⟩) (fun b xs e=>?_) (fun b o u e=>?_) (fun b ps e=>⟨#[],?_⟩) (fun m hm=>?_) (fun b u e=>?_) I.bare
 . rw [aq (Nat.ne_of_lt (Nat.lt_of_lt_of_le (Heap.lt_size e) hT))];exact n
 . rw [aq (ay e hn)];exact e
 . rw [aq (ay e hn)];exact e
 . rw [aq (ay e hn),e];simp
 . obtain ⟨o,es,ep,ho,r⟩:=hm
   exact ⟨o,es,ep,k _ o (fun z=>(hf _ z).2.1 rfl) ho,r⟩
 . by_cases hb:b=T
   . subst hb
     rw [ai] at e;cases e;exact new
   . rw [aq hb] at e
     refine (I.hok b u e).stay (fun c v hc q=>k c v ?_ q) (fun c q=>by rw [aq (ay q hn)];exact q) fun c xs q=>by rw [aq (ay q hn)];exact q
     rcases hc with z | z
     . rw [z];exact nit b u e
     . exact nit c _ z
theorem Inv.lock {d:Addr} {u:HO} (I:Inv X pins σ H s) (h:H d=some u) (mu:Xr (some u)):∃ od,Inv X pins σ (upd H d (.pZ od u)) s:=by
 have x:=I.hok d u h;have ex:∃ od,s.heap.get? d=some od:=by
   cases u with
   | lst xs=>obtain ⟨_,_,_,_,e⟩:=x;exact ⟨_,e⟩
   | dK kvs=>obtain ⟨_,_,_,_,o,_,_,e,_⟩:=x;exact ⟨o,e⟩
   | dT kvs=>obtain ⟨_,_,_,_,o,_,_,e,_⟩:=x;exact ⟨o,e⟩
   | set S n=>obtain ⟨o,_,_,_,e,_⟩:=x;exact ⟨o,e⟩
   | ins C dx fs=>obtain ⟨_,_,_,e,_⟩:=x;exact ⟨_,e⟩
   | ext φ=>obtain ⟨_,⟨_,e⟩,_⟩:=x;exact ⟨_,e⟩
   | _=>exact False.elim mu
 obtain ⟨od,e⟩:=ex;have new:dY X.prog X.w (upd H d (.pZ od u)) s.heap d (.pZ od u):=by
   refine ⟨e,x.stay (fun b v _ q=>q) (fun b q=>?_) fun b xs q=>?_⟩
   . rw [aq (fun z=>by rw [z,h] at q;cases q;exact mu)];exact q
   . rw [aq (fun z=>by rw [z,h] at q;cases q;exact mu)];exact q
 exact ⟨od,I.write (x:=d) (e:=d) (t':=s.toks) (h':=s.heap) (by rw [h];exact mu) (.inl rfl) (fun b v _ q=>q) ⟨od,e⟩ new⟩
theorem Inv.OC {d:Addr} {u:HO} (I:Inv X pins σ H s) (h:H d=some u) (mu:Xr (some u)):∀ o' u',X.Yi d ≠ some (.pZ o' u'):=fun o' u' e=>by
 have q:=I.base.zj d o' u' e
 rw [h] at q
 cases q
 exact mu
theorem Inv.unlock {d:Addr} {od:Obj} {u:HO} (I:Inv X pins σ H s) (h:H d=some (.pZ od u)) (hn:∀ o' u',X.Yi d ≠ some (.pZ o' u')):Inv X pins σ (upd H d u) s:=by
 have neH:∀ b o,H b=some o->(∀ o' u',o ≠ .pZ o' u')->b ≠ d:=fun b o e hne z=>by
   rw [z,h] at e;cases e;exact hne _ _ rfl
 have neN:∀ b,H b=none->b ≠ d:=fun b e z=>by rw [z,h] at e;cases e
 refine ⟨I.ok,I.os,I.bare,⟨I.base.keep,I.base.slot,fun b o e n hx=>?_,I.base.there,fun b xs e=>?_,fun b o x e=>?_,fun b ps e=>?_⟩,I.loc,I.cell,?_,fun x c e=>?_,fun p hp=>?_,fun b o e=>?_,I.len⟩
 . rw [aq (neN b (I.base.free b o e n hx))];exact I.base.free b o e n hx
 . have q:=I.base.tups b xs e
   rw [aq (neH b _ q (fun _ _ z=>nomatch z))];exact q
 . have q:=I.base.zj b o x e
   rw [aq (fun z=>by rw [z] at e;exact hn _ _ e)];exact q
 . obtain ⟨m,q⟩:=I.base.BC b ps e
   exact ⟨m,by rw [aq (neH b _ q (fun _ _ z=>nomatch z))];exact q⟩
 . rw [aq (neN _ I.free)];exact I.free
 . rw [aq (neN c (I.kJ x c e))];exact I.kJ x c e
 . obtain ⟨e,n,r⟩:=I.pin p hp
   exact ⟨e,by rw [aq (neN _ n)];exact n,r⟩
 . by_cases hb:b=d
   . rw [hb,ai] at e
     cases e;rw [hb];obtain ⟨_,x⟩:=I.hok d _ h;exact x.stay (fun c v _ q=>q) (fun c q=>by rw [aq (neH c _ q (fun _ _ z=>nomatch z))];exact q) fun c xs q=>by rw [aq (neH c _ q (fun _ _ z=>nomatch z))];exact q
   . rw [aq hb] at e
     exact (I.hok b o e).stay (fun c v _ q=>q) (fun c q=>by rw [aq (neH c _ q (fun _ _ z=>nomatch z))];exact q) fun c xs q=>by rw [aq (neH c _ q (fun _ _ z=>nomatch z))];exact q
end
def aa3 (t:TS):TS:=fun D σ H=>∃ d u,H d=some u/\Xr (some u)/\∀ od,t ⟨fun σ' H'=>H' d=some (.pZ od u)/\D.nx σ' (upd H' d u),fun v H'=>H' d=some (.pZ od u)/\D.rt v (upd H' d u),fun σ' H'=>H' d=some (.pZ od u)/\D.bk σ' (upd H' d u),fun σ' H'=>H' d=some (.pZ od u)/\D.ct σ' (upd H' d u)⟩ σ (upd H d (.pZ od u))
section
variable {X:Cx}
theorem OD {st:Stmt} {t:TS} (h:PS X st t):PS X st (aa3 t):=by
 intro pins s σ H D I hw;obtain ⟨d,u,hd,mu,hw⟩:=hw;obtain ⟨od,I1⟩:=I.lock hd mu;refine dZ (h pins s σ _ _ I1 (hw od)) fun f s1 q=>?_;cases f with
 | next=>obtain ⟨σ',H',I2,e,q⟩:=q;exact ⟨σ',_,I2.unlock e (I.OC hd mu),q⟩
 | brk=>obtain ⟨σ',H',I2,e,q⟩:=q;exact ⟨σ',_,I2.unlock e (I.OC hd mu),q⟩
 | cont=>obtain ⟨σ',H',I2,e,q⟩:=q;exact ⟨σ',_,I2.unlock e (I.OC hd mu),q⟩
 | ret v=>obtain ⟨x,σ',H',I2,r,e,q⟩:=q;exact ⟨x,σ',_,I2.unlock e (I.OC hd mu),r,q⟩
theorem Ny {tg:Expr} {pins:List (Addr×Obj)} {σ:St} {H:Hp} {s:Shared} {R:It->Hp->Prop} {J:It} {tn:Nat->Heap->Prop} {tk:Nat} (I:Inv X pins σ H s) (o:Obj)
  (T:Turn X.prog X.w X.K tg J [s.heap.objs.size] s.heap.objs.size tn) (st:tn 0 (s.heap.push o)) (q:R J H):PIE X pins σ tg R (.ref s.heap.objs.size) { s with heap:=s.heap.push o,toks:=tk }:=by
 refine ⟨s.heap.objs.size,[s.heap.objs.size],tn,J,H,rfl,I.kept fun b ob e=>Heap.get?_push_of_some _ e,T,st,fun b hb=>?_,q⟩;have e:b=s.heap.objs.size:=by simpa using hb
 subst e;exact I.PB (Nat.le_refl _) (I.hok.fresh (Nat.le_refl _))
end
def Itc (lo c:Int) (n:Nat):It:=⟨fun i _=>i < n,fun i H x H'=>H'=H/\x=.int (lo+(i:Nat) * c),fun i _=>n<=i⟩
theorem Lc {P:Program} {w:World} {K:Zqq} {tg:Expr} (it:Addr) (lo c:Int) (n:Nat):Turn P w K tg (Itc lo c n) [it] it (fun i h=>IsRangeIter h it (lo+(i:Nat) * c) ((n:Int) - (i:Nat)) c) where
 mem:=by simp
 obj:=fun i h st b hb=>by
  have e:b=it:=by simpa using hb
  subst e
  exact ⟨_,st,fun v z=>nomatch z⟩
 keep:=fun i h h' st k=>k it (by simp) _ st
 item:=by
  intro X hP hw hK hc i pins s σ H E I hf st hg;subst hP hw hK;obtain ⟨f0,f1,f2,f3,f4,f5⟩:=hf it (by simp);have W:=Walks.range (prog:=X.prog) (w:=X.w) (I.ok.hd hc) it lo c n;refine W.item i s _ _ hg st fun v h' tk hv st' kk=>?_;obtain ⟨t,rfl⟩:=hv;have I1:Inv X pins σ H { s with heap:=h',toks:=tk }:=I.turned (fun b o hb e=>kk b o (by simpa using hb) e) f0 f1 f3 f4 f5
  exact ⟨_,rfl,Hr (s:={ s with heap:=h',toks:=tk }) (n:="range_iterator") st' rfl rfl (by decide) ⟨.int (lo+(i:Nat) * c),H,I1,⟨t,rfl⟩,⟨rfl,rfl⟩,st',fun b hb=>(hf b hb).1⟩⟩
 done:=by
  intro X hP hw hK hc i pins s σ H E I hf st hg;subst hP hw hK;obtain ⟨f0,f1,f2,f3,f4,f5⟩:=hf it (by simp);exact wpAny_pyNext_range_end (I.ok.hd hc) st (by have:n<=i:=hg;omega) fun h' eb=>⟨rfl,I.turned (t':=s.toks) (fun b o hb e=>eb b o hb e) f0 f1 f3 f4 f5⟩
 self:=fun A i s Q E st h=>wpAny_pyIter_rangeiter st h
def RgC (i j c:Int) (n:Nat):Prop:=c ≠ 0/\c.natAbs < 1073741824/\Builtin.Range.small i j c=true/\Builtin.Range.rangeSize i j c=n
theorem RgC.neg {i j:Int} (ha:-(2 ^ 62)<=i) (ha':i < 2 ^ 62) (hb:-(2 ^ 62)<=j) (hb':j < 2 ^ 62):RgC i j (-1) (i - j).toNat:=
 ⟨by decide,by decide,PySem.W.small_down ha ha' hb hb',PySem.W.rangeSize_downNat i j⟩
def aa4 (ta:TA):TI:=fun σ H R=>ta σ H fun vs H1=>∃ (i j c:Int) (n:Nat),vs=[.int i,.int j,.int c]/\RgC i j c n/\R (Itc i c n) H1
section
variable {X:Cx} {tg:Expr}
theorem PY {a b c:Expr} {ta:TA} {p pos:Pos} (hg:Gl X "range") (hm:X.mg "range"=none) (ha:PA X [a,b,c] ta)
  (hs:starEach [a,b,c] X.env=(false,eval a X.env)::starEach [b,c] X.env:=by rfl) (hpl:(backTo pos (starEach [b,c] X.env)).any (·.1)=false:=by rfl) :
  PI X tg (.Call (.Name "range" p) [a,b,c] [] pos) (aa4 ta):=by
 intro pins s σ H R I h;refine Call_ (zm I hg hm boot_range (PyProof.Rows.callWith_type1 (dZ (ha pos pins s σ H _ I h) fun us s1 ⟨vs,H1,I1,r1,q1⟩=>?_) hs hpl));obtain ⟨i,j,k,n,e,⟨c0,c1,c2,c3⟩,q⟩:=q1;subst e;cases r1 with
 | cons r rr=>
  cases rr with
  | cons r' rr=>
   cases rr with
   | cons r'' rr=>
    cases rr;obtain ⟨t,rfl⟩:=r;obtain ⟨t',rfl⟩:=r';obtain ⟨t'',rfl⟩:=r'';refine call_range_3 c0 ?_ (.inl (PyProof.noPylong_small c1));refine wpAny_pyIter_range (IsRange.new ..) c2 ?_;have I2:Inv X pins σ H1 { s1 with heap:=s1.heap.push { cls:=.type "range",data:=.fields #[.int i t,.int j t',.int k t''] } }:=I1.kept (t':=s1.toks) fun b o e=>Heap.get?_push_of_some _ e
    refine Ny (tk:=s1.toks) I2 _ (Lc _ i k n) ?_ q;have e1:i+((0:Nat):Int) * k=i:=by simp
    have e2:(n:Int) - ((0:Nat):Int)=Builtin.Range.rangeSize i j k:=by rw [c3];simp
    show IsRangeIter _ _ (i+((0:Nat):Int) * k) ((n:Int) - ((0:Nat):Int)) k;rw [e1,e2];exact Heap.get?_push_size _ rfl
end
theorem Nz {lo c:Int} {n:Nat} {g:TG} {tb:TS} {D:Ends} {σ:St} {H:Hp} (Pv:Nat->St->Hp->Prop) (h0:Pv 0 σ H)
   (hs:∀ i σ H,i < n->Pv i σ H->g (.int (lo+(i:Nat) * c)) σ H fun σ2 H2=>tb { D with nx:=Pv (i+1),ct:=Pv (i+1),bk:=D.nx } σ2 H2) (hd:∀ σ H,Pv n σ H->D.nx σ H) :
   ∃ W:Nat->Nat->St->Hp->Prop,(∃ m,W 0 m σ H)/\∀ i m σ H,W i m σ H->
     ((Itc lo c n).stop i H/\D.nx σ H)\/((Itc lo c n).go i H/\∃ N:St->Hp->Prop,(∀ σ' H',N σ' H'->∃ m',m' < m/\W (i+1) m' σ' H')/\∀ x H',(Itc lo c n).RY i H x H'->g x σ H' fun σ2 H2=>tb { D with nx:=N,ct:=N,bk:=D.nx } σ2 H2):=by
 refine ⟨fun i m σ H=>m=n - i/\i<=n/\Pv i σ H,⟨n,by simp,Nat.zero_le _,h0⟩,?_⟩;rintro i m σ H ⟨rfl,hi,p⟩;by_cases hlt:i < n
 . refine .inr ⟨hlt,Pv (i+1),fun σ' H' p'=>⟨n - (i+1),by omega,rfl,hlt,p'⟩,fun x H' y=>?_⟩
   obtain ⟨e,y⟩:=y;subst e y;exact hs i σ _ hlt p
 . have e:i=n:=by omega
   subst e;exact .inl ⟨Nat.le_refl _,hd σ H p⟩
section
variable {X:Cx} {tg:Expr}
end
section
variable {prog:Program} {w:World} {A:Around} {E:Value->Shared->Prop} {s:Shared}
theorem HF {d:Addr} {o:Obj} {es:Array DictEntry} {ep:Nat} {Q:Value->Shared->Prop} (hd:(d==sysModules)=false) (ho:s.heap.get? d=some o) (hc:o.ExactDict) (hdat:o.data=.dict es ep)
  (hQ:Q (.ref s.heap.objs.size) { s with heap:=s.heap.push { cls:=.type "dict_keyiterator",data:=.fields #[.ref d,.int 0 0,.int es.size 0,.int ep 0] } }) :
  wpAny (model prog w) A (pyIter (.ref d)) Q E s:=by
 have hT:s.TypeIs (.ref d) "dict":=⟨o,ho,hc.1⟩;refine wpAny_pyIter_slot hT F.slot_dict_iter (wpAny_call_entry F.slot_dict_iter hT F.entry_dict_iter ?_ (F.args_dict_iter_1 _));unfold Builtin.«dict.__iter__»;refine wpAny_bind ?_;unfold Builtin.Dict.dictSlotNone;refine wpAny_bind (wpAny_notOrdered_dict hT ?_);show wpAny _ _ (pure (Value.ref d)) _ _ s;refine wpAny_pure ?_;show wpAny _ _ (Builtin.Dict.showsAll d >>= _) _ _ s;unfold Builtin.Dict.showsAll;rw [if_neg (by rw [hd];exact Bool.false_ne_true)];refine wpAny_bind (wpAny_pure ?_);refine wpAny_bind (wpAny_dictEntries ho hdat ?_);refine wpAny_bind (wpAny_dictEpoch ho hdat ?_);refine wpAny_bind (wpAny_newObj_type (wpAny_pure ⟨_,rfl,"dict_keyiterator",_,⟨_,Heap.get?_push_size _ rfl,rfl⟩,F.slot_dict_keyiterator_next.lookup,?_⟩));simpa [rawInt] using hQ
theorem Ga {it d:Addr} {i n ep:Nat} {od:Obj} {es:Array DictEntry} {en:DictEntry} {Q:Option Value->Shared->Prop} (hit:s.heap.IsKeyIter it d i n ep) (hod:s.heap.get? d=some od) (hdd:od.data=.dict es ep)
   (hsz:es.size=n) (hx:es[i]?=some en) (hQ:∀ h',h'.IsKeyIter it d (i+1) n ep->Heap.SameBut it s.heap h'->Q (some en.key) { s with heap:=h' }):wpAny (model prog w) A (pyNext (.ref it)) Q E s:=by
 obtain ⟨o,ho,hc,hd⟩:=id hit;unfold pyNext;refine wpAny_bind (wpAny_attempt (wpAny_callSpecial?_slot (name:=Str.ofString "__next__") hit.typeIs F.slot_dict_keyiterator_next
   (wpAny_call_entry F.slot_dict_keyiterator_next hit.typeIs F.entry_dict_keyiterator_next ?_ (F.args_dict_keyiterator_next_1 _))))
 refine wpAny_bind (wpAny_pure ?_);refine wpAny_bind ?_;refine wpAny_bind ?_
 first | refine wpAny_bind (wpAny_typeNameOfWhole_keyiter hit.typeIs (wpAny_pure ?_)) | refine wpAny_bind (wpAny_typeNameOf_keyiter hit.typeIs (wpAny_pure ?_))
 refine wpAny_bind (wpAny_fieldsOf ho hd ?_);have hown:Builtin.Dict_items.ownsTuple "dict_keyiterator"=false:=by decide
 simp only [hown,Bool.false_eq_true,if_false];show wpAny _ _ (if (Value.ref d==Value.none)=true then _ else _) _ _ s;rw [if_neg (show ¬ ((Value.ref d==Value.none)=true) from Bool.false_ne_true)];refine wpAny_bind (wpAny_pure ?_);refine wpAny_bind (wpAny_dictEntries hod hdd ?_);rw [if_neg (by rw [hsz];simp)];refine wpAny_bind (wpAny_pure ?_);refine wpAny_bind (wpAny_dictEpoch hod hdd ?_);rw [if_neg (by simp)];refine wpAny_pure ?_;obtain ⟨hlt',hen⟩:=Array.getElem?_eq_some_iff.mp hx;simp only [show ¬ ((i:Int) < 0) from by omega,if_false,Int.toNat_natCast,Array.getElem?_eq_getElem hlt'];refine wpAny_bind ?_
 first | refine wpAny_bind (wpAny_typeNameOfWhole_keyiter hit.typeIs (wpAny_pure ?_)) | refine wpAny_bind (wpAny_typeNameOf_keyiter hit.typeIs (wpAny_pure ?_))
 refine wpAny_bind (wpAny_isOneOf_keyiter hit.typeIs ?_);show wpAny _ _ (setField (.ref it) 1 (rawInt ((i:Int)+1)) >>= _) _ _ s;refine wpAny_bind (wpAny_setField ho hd (by simp) ?_);have hit':(s.heap.update it (Obj.mapFields (·.setIfInBounds 1 (rawInt ((i:Int)+1))))).IsKeyIter it d (i+1) n ep:=
   ⟨_,Heap.get?_update_self _ ho (Obj.isFreed_of_fields (Obj.data_mapFields hd _)),(Obj.cls_mapFields ..).trans hc,by rw [Obj.data_mapFields hd];simp [rawInt]⟩
 refine wpAny_bind (wpAny_holding ?_);refine wpAny_bind (wpAny_isOneOf_keyiter (s:={ s with heap:=s.heap.update it (Obj.mapFields (·.setIfInBounds 1 (rawInt ((i:Int)+1)))) }) hit'.typeIs ?_);show wpAny _ _ (pure es[i].key) _ _ _;rw [hen];exact wpAny_pure (wpAny_pure ⟨_,rfl,wpAny_pure (hQ _ hit' (Heap.SameBut.update ..))⟩)
theorem Aj {it d:Addr} {i n ep:Nat} {od:Obj} {es:Array DictEntry} {Q:Option Value->Shared->Prop} (hh:A.handled=none) (hit:s.heap.IsKeyIter it d i n ep) (hod:s.heap.get? d=some od) (hdd:od.data=.dict es ep)
   (hsz:es.size=n) (hge:n<=i) (hQ:∀ h',Heap.ExtBut it s.heap h'->Q none { s with heap:=h' }):wpAny (model prog w) A (pyNext (.ref it)) Q E s:=by
 obtain ⟨o,ho,hc,hd⟩:=id hit;unfold pyNext;refine wpAny_bind (wpAny_attempt (wpAny_callSpecial?_slot (name:=Str.ofString "__next__") hit.typeIs F.slot_dict_keyiterator_next
   (wpAny_call_entry F.slot_dict_keyiterator_next hit.typeIs F.entry_dict_keyiterator_next ?_ (F.args_dict_keyiterator_next_1 _))))
 refine wpAny_bind (wpAny_pure ?_);refine wpAny_bind ?_;refine wpAny_bind ?_
 first | refine wpAny_bind (wpAny_typeNameOfWhole_keyiter hit.typeIs (wpAny_pure ?_)) | refine wpAny_bind (wpAny_typeNameOf_keyiter hit.typeIs (wpAny_pure ?_))
 refine wpAny_bind (wpAny_fieldsOf ho hd ?_);have hown:Builtin.Dict_items.ownsTuple "dict_keyiterator"=false:=by decide
 simp only [hown,Bool.false_eq_true,if_false];show wpAny _ _ (if (Value.ref d==Value.none)=true then _ else _) _ _ s;rw [if_neg (show ¬ ((Value.ref d==Value.none)=true) from Bool.false_ne_true)];refine wpAny_bind (wpAny_pure ?_);refine wpAny_bind (wpAny_dictEntries hod hdd ?_);rw [if_neg (by rw [hsz];simp)];refine wpAny_bind (wpAny_pure ?_);refine wpAny_bind (wpAny_dictEpoch hod hdd ?_);rw [if_neg (by simp)];refine wpAny_pure ?_;have hge':es.size<=i:=by rw [hsz];exact hge
 simp only [show ¬ ((i:Int) < 0) from by omega,if_false,Int.toNat_natCast,Array.getElem?_eq_none hge'];refine wpAny_bind ?_
 first | refine wpAny_bind (wpAny_typeNameOfWhole_keyiter hit.typeIs (wpAny_pure ?_)) | refine wpAny_bind (wpAny_typeNameOf_keyiter hit.typeIs (wpAny_pure ?_))
 show wpAny _ _ (setField (.ref it) 0 .none >>= _) _ _ s;refine wpAny_bind (wpAny_setField ho hd (by simp) ?_);show wpAny _ _ (newExc (.type "StopIteration") [] >>= _) _ _ _;refine wpAny_bind ?_;simp only [newExc,newTuple];refine wpAny_bind (wpAny_newObj_type ?_ (by size_fits));refine wpAny_bind (m:=firstArgMember _ _) (wpAny_of_eq (a:=Value.none) (by first | rfl | (simp only [firstArgMember];rfl)) ?_);refine wpAny_newObj_type ?_ (by size_fits);simp only [raiseNew];refine wpAny_bind (wpAny_handled ?_);rw [show A.in1.handled=none from hh];refine wpAny_bind (wpAny_pure (wpAny_throw ?_));refine wpAny_bind (wpAny_isInstance (T:="StopIteration") (b:=true) ⟨_,Heap.get?_push_size _ rfl,rfl⟩ isSubtype_stop ?_);exact wpAny_pure (hQ _ (((Heap.SameBut.update ..).extBut.push _).push _))
end
theorem YD {κ:Type} {kvs:List (κ×V)} {vs:List (κ×Value)} (h:KV kvs vs):∀ {i:Nat} {k:κ} {v:V},kvs[i]?=some (k,v)->∃ u,vs[i]?=some (k,u)/\RelV v u:=by
 unfold KV at h;induction h with
 | nil=>intro i k v e;simp at e
 | @cons a b l₁ l₂ r t ih=>
  intro i k v e;cases i with
  | zero=>
   simp only [List.getElem?_cons_zero,Option.some.injEq] at e;subst e;refine ⟨b.2,?_,r.2⟩;simp only [List.getElem?_cons_zero];exact congrArg some (Prod.ext r.1.symm rfl)
  | succ j=>
   simp only [List.getElem?_cons_succ] at e ⊢;exact ih e
theorem N1 {α β:Type} {G:α->β->Prop} {l₁:List α} {l₂:List β} (h:Paired G l₁ l₂):∀ {i:Nat} {a:α},l₁[i]?=some a->∃ b,l₂[i]?=some b/\G a b:=by
 induction h with
 | nil=>intro i a e;simp at e
 | @cons a b l₁ l₂ r t ih=>
  intro i a' e;cases i with
  | zero=>
   simp only [List.getElem?_cons_zero,Option.some.injEq] at e;subst e;exact ⟨b,rfl,r⟩
  | succ j=>
   simp only [List.getElem?_cons_succ] at e ⊢;exact ih e
theorem S5 {k:Key} {u:Value} (h:C0 k u=true):RelV (kV k) u:=by
 rcases gH h with ⟨i,t,rfl,rfl⟩ | ⟨x,t,rfl,rfl⟩
 . exact ⟨t,rfl⟩
 . exact ⟨t,rfl⟩
section
variable {X:Cx} {pins:List (Addr×Obj)} {σ:St} {H:Hp} {s:Shared} {d:Addr} {o:Obj}
theorem Inv.YE {kvs:List (Key×V)} (I:Inv X pins σ H s) (h:H d=some (.pZ o (.dK kvs))) :
  (d==sysModules)=false/\s.heap.get? d=some o/\o.ExactDict/\∃ (es:Array DictEntry) (ep:Nat) (vs:List (Key×Value)),o.data=.dict es ep/\es.size=kvs.length/\KV kvs vs/\s.heap.DictAt (fL X.prog X.w) d vs ep:=by
 obtain ⟨hd,z,hs,vs,kv,o',es,ep,ho,hx,hdt,r⟩:=I.hok d _ h;rw [hd] at ho;cases ho;refine ⟨hs,hd,hx,es,ep,vs,hdt,?_,kv,o,es,hd,hx,hdt,r⟩;have l1:=r.2.1.length;have l2:kvs.length=vs.length:=Paired.length kv;rw [Array.length_toList] at l1;omega
theorem Inv.YF {kvs:List (List Key×V)} (I:Inv X pins σ H s) (h:H d=some (.pZ o (.dT kvs))) :
   (d==sysModules)=false/\s.heap.get? d=some o/\o.ExactDict/\∃ (es:Array DictEntry) (ep:Nat),o.data=.dict es ep/\es.size=kvs.length /\
     ∀ (i:Nat) (k:List Key) (v:V),kvs[i]?=some (k,v)->∃ (en:DictEntry) (q:Addr),es[i]?=some en/\en.key=.ref q/\H q=some (.tup (k.map kV)):=by
 obtain ⟨hd,z,hs,xs,pr,o',es,ep,ho,hx,hdt,he,_⟩:=I.hok d _ h;rw [hd] at ho;cases ho;refine ⟨hs,hd,hx,es,ep,hdt,?_,fun i k v e=>?_⟩
 . have l1:es.size=xs.length:=size_of_entries he
   have l2:kvs.length=xs.length:=Paired.length pr;omega
 . obtain ⟨b,hb,e1,e2,_⟩:=N1 pr e
   have q:=entry_at he i;rw [hb] at q;exact ⟨_,b.2.1,q,rfl,e2⟩
end
def Itk (d:Addr) (o:Obj) (kvs:List (Key×V)):It:=
 ⟨fun i H=>H d=some (.pZ o (.dK kvs))/\i < kvs.length,fun i H x H'=>H'=H/\∃ k v,kvs[i]?=some (k,v)/\x=kV k,fun i H=>H d=some (.pZ o (.dK kvs))/\kvs.length<=i⟩
def S6 (d:Addr) (o:Obj) (kvs:List (List Key×V)):It:=
 ⟨fun i H=>H d=some (.pZ o (.dT kvs))/\i < kvs.length,fun i H x H'=>H'=H/\∃ (k:List Key) (v:V) (q:Addr),kvs[i]?=some (k,v)/\x=.ref q/\H q=some (.tup (k.map kV)),fun i H=>H d=some (.pZ o (.dT kvs))/\kvs.length<=i⟩
theorem DA {o:Obj} {es es':Array DictEntry} {ep ep':Nat} (h:o.data=.dict es ep) (h':o.data=.dict es' ep'):es'=es/\ep'=ep:=by
 rw [h] at h';cases h';exact ⟨rfl,rfl⟩
section
variable {P:Program} {w:World} {K:Zqq} {tg:Expr} {d:Addr} {o:Obj} {es:Array DictEntry} {ep:Nat}
theorem PZ {kvs:List (Key×V)} (it:Addr) (hod:o.data=.dict es ep):Turn P w K tg (Itk d o kvs) [it] it (fun i h=>h.IsKeyIter it d i kvs.length ep) where
 mem:=by simp
 obj:=fun i h st b hb=>by
  have e:b=it:=by simpa using hb
  subst e
  obtain ⟨oi,e,c,dd⟩:=st
  exact ⟨oi,e,fun v z=>by rw [dd] at z;cases z⟩
 keep:=fun i h h' st k=>st.at fun oi e=>k it (by simp) oi e
 item:=by
  intro X hP hw hK hc i pins s σ H E I hf st hg;subst hP hw hK;obtain ⟨hd,hi⟩:=hg;obtain ⟨f0,f1,f2,f3,f4,f5⟩:=hf it (by simp);obtain ⟨hs,hgd,hx,es',ep',vs,hdt,hsz,kv,hm⟩:=I.YE hd;obtain ⟨rfl,rfl⟩:=DA hod hdt;obtain ⟨⟨k,v⟩,hkv⟩:∃ p,kvs[i]?=some p:=⟨kvs[i],List.getElem?_eq_getElem hi⟩;obtain ⟨u,hu,ru⟩:=YD kv hkv;have hl:kvs.length=vs.length:=Paired.length kv;rw [hl] at st;refine wpAny_pyNext_dict_item st hm hu fun key h' hkey st' sb=>?_;have I1:Inv X pins σ H { s with heap:=h' }:=I.turned (t':=s.toks) (fun b ob hb e=>(sb.2 b hb).trans e) f0 f1 f3 f4 f5
  obtain ⟨oi,e,c,dd⟩:=id st';refine ⟨key,rfl,Hr (s:={ s with heap:=h' }) e c dd (by decide) ⟨kV k,H,I1,S5 (show C0 k key=true from hkey),⟨rfl,k,v,hkv,rfl⟩,?_,fun b hb=>(hf b hb).1⟩⟩
  show h'.IsKeyIter it d (i+1) kvs.length _;rw [hl];exact st'
 done:=by
  intro X hP hw hK hc i pins s σ H E I hf st hg;subst hP hw hK;obtain ⟨hd,hi⟩:=hg;obtain ⟨f0,f1,f2,f3,f4,f5⟩:=hf it (by simp);obtain ⟨hs,hgd,hx,es',ep',vs,hdt,hsz,kv,hm⟩:=I.YE hd;obtain ⟨rfl,rfl⟩:=DA hod hdt;exact Aj (I.ok.hd hc) st hgd hdt hsz hi fun h' eb=>⟨rfl,I.turned (t':=s.toks) (fun b ob hb e=>eb b ob hb e) f0 f1 f3 f4 f5⟩
 self:=fun A i s Q E st h=>wpAny_pyIter_keyiter st h
theorem N2 {kvs:List (List Key×V)} (it:Addr) (hod:o.data=.dict es ep):Turn P w K tg (S6 d o kvs) [it] it (fun i h=>h.IsKeyIter it d i kvs.length ep) where
 mem:=by simp
 obj:=fun i h st b hb=>by
  have e:b=it:=by simpa using hb
  subst e
  obtain ⟨oi,e,c,dd⟩:=st
  exact ⟨oi,e,fun v z=>by rw [dd] at z;cases z⟩
 keep:=fun i h h' st k=>st.at fun oi e=>k it (by simp) oi e
 item:=by
  intro X hP hw hK hc i pins s σ H E I hf st hg;subst hP hw hK;obtain ⟨hd,hi⟩:=hg;obtain ⟨f0,f1,f2,f3,f4,f5⟩:=hf it (by simp);obtain ⟨hs,hgd,hx,es',ep',hdt,hsz,ent⟩:=I.YF hd;obtain ⟨rfl,rfl⟩:=DA hod hdt;obtain ⟨⟨k,v⟩,hkv⟩:∃ p,kvs[i]?=some p:=⟨kvs[i],List.getElem?_eq_getElem hi⟩;obtain ⟨en,q,hen,hkey,hq⟩:=ent i k v hkv;refine Ga st hgd hdt hsz hen fun h' st' sb=>?_;have I1:Inv X pins σ H { s with heap:=h' }:=I.turned (t':=s.toks) (fun b ob hb e=>(sb.2 b hb).trans e) f0 f1 f3 f4 f5
  obtain ⟨oi,e,c,dd⟩:=id st';exact ⟨en.key,rfl,Hr (s:={ s with heap:=h' }) e c dd (by decide) ⟨.ref q,H,I1,hkey,⟨rfl,k,v,q,hkv,rfl,hq⟩,st',fun b hb=>(hf b hb).1⟩⟩
 done:=by
  intro X hP hw hK hc i pins s σ H E I hf st hg;subst hP hw hK;obtain ⟨hd,hi⟩:=hg;obtain ⟨f0,f1,f2,f3,f4,f5⟩:=hf it (by simp);obtain ⟨hs,hgd,hx,es',ep',hdt,hsz,ent⟩:=I.YF hd;obtain ⟨rfl,rfl⟩:=DA hod hdt;exact Aj (I.ok.hd hc) st hgd hdt hsz hi fun h' eb=>⟨rfl,I.turned (t':=s.toks) (fun b ob hb e=>eb b ob hb e) f0 f1 f3 f4 f5⟩
 self:=fun A i s Q E st h=>by
  refine wpAny_pyIter_slot st.typeIs F.slot_dict_keyiterator_iter (wpAny_call_entry F.slot_dict_keyiterator_iter st.typeIs F.entry_dict_keyiterator_iter ?_ (F.args_dict_keyiterator_iter_1 _));show wpAny _ _ (ret (.ref it)) _ _ s;exact wpAny_pure ⟨_,rfl,"dict_keyiterator",_,st.typeIs,F.slot_dict_keyiterator_next.lookup,h⟩
end
def aa5 (td:TE):TI:=fun σ H R=>td σ H fun x H1=>∃ d o,x=.ref d/\((∃ kvs,H1 d=some (.pZ o (.dK kvs))/\R (Itk d o kvs) H1)\/∃ kvs,H1 d=some (.pZ o (.dT kvs))/\R (S6 d o kvs) H1)
section
variable {X:Cx} {tg e:Expr} {td:TE} {apos cpos:Pos}
theorem OE (he:PE X e td):PI X tg e (aa5 td):=by
 intro pins s σ H R I h;refine dZ (he pins s σ H _ I h) fun u s1 ⟨x,H1,I1,rx,d,o,ex,q⟩=>?_;subst ex;obtain rfl:u=Value.ref d:=rx;rcases q with ⟨kvs,hd,q⟩ | ⟨kvs,hd,q⟩
 . obtain ⟨hs,hgd,hx,es,ep,vs,hdt,hsz,kv,hm⟩:=I1.YE hd
   refine HF hs hgd hx hdt (Ny (tk:=s1.toks) I1 _ (PZ _ hdt) ⟨_,Heap.get?_push_size _ rfl,rfl,?_⟩ q);rw [hsz]<;>rfl
 . obtain ⟨hs,hgd,hx,es,ep,hdt,hsz,ent⟩:=I1.YF hd
   refine HF hs hgd hx hdt (Ny (tk:=s1.toks) I1 _ (N2 _ hdt) ⟨_,Heap.get?_push_size _ rfl,rfl,?_⟩ q);rw [hsz]<;>rfl
end
def Ite (K:Zqq) (a:Addr):It:=
 ⟨fun i H=>∃ (xs:List V) (x:V),bI K H a xs/\xs[i]?=some x,fun i H v H'=>∃ T x,v=.ref T/\H T=none/\H'=upd H T (.tup [.int (i:Nat),x])/\∀ xs,bI K H a xs->xs[i]?=some x,fun i H=>∃ xs:List V,bI K H a xs/\xs.length<=i⟩
theorem Qa {P:Program} {w:World} {K:Zqq} {elts:List Expr} {kk:Nat} {tpos:Pos} (a e it:Addr) :
   Turn P w K (.Tuple elts kk tpos) (Ite K a) [e,it] e (fun i h=>(∃ old,IsEnum h e it ((i:Nat):Int) old)/\h.IsListIter it a i/\e ≠ it) where
 mem:=by simp
 obj:=fun i h st b hb=>by
   obtain ⟨⟨old,he⟩,⟨o,ho,hc,hd⟩,_⟩:=st
   have e':b=e\/b=it:=by simpa using hb
   rcases e' with z | z
   . rw [z];exact ⟨_,he,fun v q=>nomatch q⟩
   . rw [z];exact ⟨o,ho,fun v q=>by rw [hd] at q;cases q⟩
 keep:=fun i h h' st k=>let ⟨⟨old,he⟩,hi,hne⟩:=st;⟨⟨old,k e (by simp) _ he⟩,hi.at fun o q=>k it (by simp) o q,hne⟩
 item:=by
   intro X hP hw hK hc i pins s σ H E I hf st hg;subst hP hw hK;obtain ⟨⟨old,he⟩,hit,hne⟩:=st;obtain ⟨xs,x,hq,hx⟩:=hg;obtain ⟨its,rv,p,hz⟩:=I.list hq;obtain ⟨u,hu,ru⟩:=rv.get hx;have hel:e < s.heap.objs.size:=Heap.lt_size he;have hil:it < s.heap.objs.size:=by obtain ⟨_,q,_⟩:=hit;exact Heap.lt_size q
   refine wpAny_pyNext_enum_item he hit p.isList (x:=u) (by simpa using hu) hne fun h' ho hit' hT hsz hk=>?_;refine ⟨_,rfl,wpAny_letOwnedTupleGo_enum (s:={ s with heap:=h',toks:=s.toks+1 }) ho fun h'' he' sb=>?_⟩
   have hT2:h''.get? s.heap.objs.size=some { cls:=.type "tuple",data:=.seq #[.int i s.toks,u] }:=(sb.2 _ (Nat.ne_of_gt hel)).trans hT;have new:dY X.prog X.w (upd H s.heap.objs.size (.tup [.int (i:Nat),x])) h'' s.heap.objs.size (.tup [.int (i:Nat),x]):=
     ⟨by show 2<=sizeLine;decide,[.int i s.toks,u],.cons ⟨_,rfl⟩ (.cons ru .nil),⟨_,hT2,rfl,_,rfl⟩⟩
   have I1:Inv X pins σ (upd H s.heap.objs.size (.tup [.int (i:Nat),x])) { s with heap:=h'',toks:=s.toks+1 }:=
     I.PX (ch:=[e,it]) (fun b ob hb q=>(sb.2 b (fun z=>hb (by simp [z]))).trans (hk b ob (fun z=>hb (by simp [z])) (fun z=>hb (by simp [z])) q)) hf (Nat.le_refl _) new
   refine ⟨.ref s.heap.objs.size,_,I1,rfl,⟨_,x,rfl,I.hok.fresh (Nat.le_refl _),rfl,fun ys hy=>by rw [I.KI hy hq];exact hx⟩,⟨⟨u,?_⟩,hit'.at fun o q=>(sb.2 it (Ne.symm hne)).trans q,hne⟩,fun b hb=>?_⟩
   . have e1:((i+1:Nat):Int)=(i:Int)+1:=by omega
     rw [e1];exact he'
   . have hb':b < s.heap.objs.size:=by
       have e':b=e\/b=it:=by simpa using hb
       rcases e' with z | z
       . rw [z];exact hel
       . rw [z];exact hil
     rw [aq (Nat.ne_of_lt hb')];exact (hf b hb).1
 done:=by
   intro X hP hw hK hc i pins s σ H E I hf st hg;subst hP hw hK;obtain ⟨⟨old,he⟩,hit,hne⟩:=st;obtain ⟨xs,hq,hx⟩:=hg;obtain ⟨its,rv,p,hz⟩:=I.list hq;obtain ⟨f0,f1,f2,f3,f4,f5⟩:=hf it (by simp);have hl:=rv.length;exact wpAny_pyNext_enum_end (I.ok.hd hc) he hit p.isList (by simp;omega) fun h' eb=>⟨rfl,I.turned (t':=s.toks) (fun b o hb q=>eb b o hb q) f0 f1 f3 f4 f5⟩
 self:=fun A i s Q E st h=>let ⟨⟨_,he⟩,_⟩:=st;wpAny_pyIter_enum he h
def aa6 (K:Zqq) (ta:TA):TI:=fun σ H R=>ta σ H fun vs H1=>∃ a xs,vs=[.ref a]/\bI K H1 a xs/\R (Ite K a) H1
theorem sZ {X:Cx} {e:Expr} {ta:TA} {p pos tpos:Pos} {elts:List Expr} {kk:Nat} (hg:Gl X "enumerate") (hm:X.mg "enumerate"=none) (ha:PA X [e] ta) (hs:starEach [e] X.env=[(false,eval e X.env)]:=by rfl) :
   PI X (.Tuple elts kk tpos) (.Call (.Name "enumerate" p) [e] [] pos) (aa6 X.K ta):=by
 intro pins s σ H R I h;refine Call_ (zm I hg hm boot_enumerate (PyProof.Rows.callWith_type1 (dZ (ha pos pins s σ H _ I h) fun us s1 ⟨vs,H1,I1,r1,q1⟩=>?_) hs rfl));obtain ⟨a,xs,ex,hq,q⟩:=q1;subst ex;cases r1 with
 | cons r rr=>
   cases rr;cases r;obtain ⟨its,rv,p',hz⟩:=I1.list hq;refine call_enumerate_list p'.isList fun h' he hit hsz hk=>wpAny_pyIter_enum he ?_;have I2:Inv X pins σ H1 { s1 with heap:=h' }:=I1.kept (t':=s1.toks) hk;refine ⟨s1.heap.objs.size+1,[s1.heap.objs.size+1,s1.heap.objs.size],_,_,H1,rfl,I2,Qa a (s1.heap.objs.size+1) s1.heap.objs.size,⟨⟨.none,he⟩,hit,Nat.succ_ne_self _⟩,fun b hb=>?_,q⟩
   have e':b=s1.heap.objs.size+1\/b=s1.heap.objs.size:=by simpa using hb
   have hle:s1.heap.objs.size<=b:=by
     rcases e' with z | z
     . rw [z];exact Nat.le_add_right _ _
     . rw [z];exact Nat.le_refl _
   exact I1.PB hle (I1.hok.fresh hle)
end L2
section
namespace abS
open PySem PyProof.Rows
end abS
end
section
namespace TL
open PySem PySem.Builtin PySem.Builtin.Str PySem.StrLaws
end TL
end
namespace L2
open PySem PySem.Spec PyProof.Rows
section
variable {X:Cx} {pins:List (Addr×Obj)} {σ:St} {H:Hp} {s:Shared} {Q:VK}
end
section
variable {X:Cx}
end
section
variable {X:Cx} {o e:Expr} {to te:TE}
end
end L2
namespace L2
open PySem PySem.Spec PyProof.Rows
section
variable {X:Cx}
end
end L2
namespace Att
open PySem PySem.W PySem.Calls PyProof.Rows
section
variable {prog:Program} {w:World} {A:Around} {E:Value->Shared->Prop} {s:Shared} {K:Frag}
end
end Att
namespace L2
open PySem PySem.Spec PyProof.Rows
end L2
namespace L2
open PySem PySem.Spec PyProof.Rows
end L2
namespace L2
open PySem PySem.Spec PyProof.Rows
def inClass (s:Stmt) (j:Nat):Stmt:=match s with
 | .ClassDef _ _ _ body _ _ _ _ _ _ _=>body.getD j (.Pass ⟨0,0,0,0⟩)
 | _=>.Pass ⟨0,0,0,0⟩
def yE (s:Stmt):Arguments:=match s with
 | .FunctionDef _ a _ _ _ _ _ _ _ _=>a
 | _=>{ posonlyargs:=[],args:=[],vararg:=none,kwonlyargs:=[],kw_defaults:=[],kwarg:=none,defaults:=[] }
def tu (s:Stmt):List Stmt:=match s with
 | .FunctionDef _ _ b _ _ _ _ _ _ _=>b
 | _=>[]
def aF (s:Stmt):Scope:=match s with
 | .FunctionDef _ _ _ _ _ _ sc _ _ _=>sc
 | _=>{ kind:=.function,names:=[],isGenerator:=false,isCoroutine:=false }
abbrev mL:MU:=fun _ _ _ _ _ _=>False
abbrev E0:XK:=fun _ _ _=>False
theorem bE {X:Cx}:Passes mL X E0:=fun _ _ _ _ _ _ _ h=>h.elim
structure k8 (K:Zqq) (x qual:Str) (st:Stmt) (f:Addr) (fd:FuncData):Prop where
 ex:∃ (oc:Value) (od:Option Addr) (kV doc pm:Value) (an:Option Addr) (cdv ct:Value) (osl:Array (Option Value)),
   fd=PySem.W.fnOf x qual (yE st) (tu st) (aF st) .none kV doc pm an cdv ct/\K.lookup f=some ⟨oc,od,.func fd,osl⟩/\PySem.W.codeIn K cdv qual=true
 kp:PySem.W.keepIn K (.ref f)=true
section
variable {P:Program} {w:World} {K:Zqq} {mg:Str->Option Value} {base:Heap}
theorem k8.ok {x qual:Str} {st:Stmt} {f:Addr} {fd:FuncData} {N ps:List Str} {k:Nat} {sp:Sp} (F:k8 K x qual st f fd) (S:aQ N ps (aF st)) (len:∀ vs H Q E,sp vs H Q E->vs.length=ps.length)
   (hbody:∀ (cdv:Value) (A:Around) (outer:List Env) (s:Shared) (H:Hp) (vs:List V) (Q:VK) (E:XK),dG k (A.deeper (envOfC qual (aF st) s.heap.objs.size f cdv))->sp vs H Q E->
     ∃ t,KH (uT mL P w K mg base N qual (aF st) f cdv A outer s H E).nox (tu st) t/\t { nx:=fun _ H'=>Q .non H',rt:=Q } (start N vs) H):bF P w K mg base mL (k+1) f fd ps sp:=by
 obtain ⟨oc,od,kV,doc,pm,an,cdv,ct,osl,rfl,lk,hcd⟩:=F.ex;refine X4 lk hcd S len fun A outer s H vs Q E hr Np=>?_;obtain ⟨t,h,q⟩:=hbody cdv A outer s H vs Q E hr Np;exact ⟨t,h.nox,q⟩
theorem k8.binds {x qual:Str} {st:Stmt} {f:Addr} {fd:FuncData} {ps:List Str} (F:k8 K x qual st f fd)
  (h:∀ (kV doc pm:Value) (an:Option Addr) (cdv ct:Value) (us:List Value),us.length=ps.length->bindArgs (PySem.W.fnOf x qual (yE st) (tu st) (aF st) .none kV doc pm an cdv ct) ⟨us,[]⟩=pure (ps.zip us)):Binds K fd ps []:=by
 obtain ⟨oc,od,kV,doc,pm,an,cdv,ct,osl,rfl,lk,hcd⟩:=F.ex;exact .all (h kV doc pm an cdv ct)
theorem YG {x qual:Str} {st:Stmt} {f:Addr} {oc:Value} {od an:Option Addr} {osl:Array (Option Value)} {kV doc pm cdv ct:Value} (l:K.lookup f=some ⟨oc,od,.func (PySem.W.fnOf x qual (yE st) (tu st) (aF st) .none kV doc pm an cdv ct),osl⟩)
   (c:PySem.W.codeIn K cdv qual=true) (k:PySem.W.keepIn K (.ref f)=true):k8 K x qual st f (PySem.W.fnOf x qual (yE st) (tu st) (aF st) .none kV doc pm an cdv ct):=⟨⟨oc,od,kV,doc,pm,an,cdv,ct,osl,rfl,l,c⟩,k⟩
end
section
variable {X:Cx}
theorem pv (i:Nat) {x:Str} {pos:Pos} (hN:X.N[i]?=some x:=by rfl) (hv:Yj X.env.scope x:=by first | exact Or.inl rfl | exact Or.inr (Or.inl rfl) | exact Or.inr (Or.inr rfl)) (hd:(x==("__debug__":Str))=false:=by decide)
   (hcd:(x==("__classdict__":Str))=false:=by decide):PE X (.Name x pos) (aab i):=RN hN hv hd hcd
end
theorem p6 {A B:Prop} (h:B):if false=true then A else B:=by
 rw [if_neg Bool.false_ne_true];exact h
theorem qP {A B:Prop} (h:A):if true=true then A else B:=by
 rw [if_pos rfl];exact h
theorem zp {c A B:Prop} [Decidable c] (h1:c->A) (h2:¬ c->B):if c then A else B:=by
 by_cases h:c
 . rw [if_pos h]
   exact h1 h
 . rw [if_neg h]
   exact h2 h
def aS (H H':Hp):Prop:=∀ b o,H b=some o->H' b=some o
theorem aS.refl (H:Hp):aS H H:=fun _ _ h=>h
theorem aS.trans {H H1 H2:Hp} (a:aS H H1) (b:aS H1 H2):aS H H2:=fun c o h=>b c o (a c o h)
theorem aS.free {H H':Hp} (e:aS H H') {l:Addr} (h:H' l=Option.none):H l=Option.none:=by
 cases q:H l with
 | none=>rfl
 | some o=>
  rw [e l o q] at h;cases h
section
variable {κ:Type} [DecidableEq κ]
theorem OG:∀ {l:List κ} {k:κ},l.Nodup->¬ k ∈ l->(l++[k]).Nodup
 | [],k,_,_=>by simp
 | a::r,k,h,hk=>by
   obtain ⟨h1,h2⟩:=List.nodup_cons.mp h
   show (a::(r++[k])).Nodup
   refine List.nodup_cons.mpr ⟨fun m=>?_,OG h2 fun m=>hk (List.mem_cons.mpr (Or.inr m))⟩
   rcases List.mem_append.mp m with q | q
   . exact h1 q
   . exact hk (List.mem_cons.mpr (Or.inl (List.mem_singleton.mp q).symm))
end
theorem at_of {xs:List V} {z:Int} {j:Nat} {v:V} (e:z=(j:Int)) (h:xs[j]?=some v):Sn xs z=some v:=by
 rw [e];exact bw h
theorem aa7 {α:Type} {l:List α} (hN:l.Nodup) {i j:Nat} {x:α} (a:l[i]?=some x) (b:l[j]?=some x):i=j:=by
 obtain ⟨h1,e1⟩:=List.getElem?_eq_some_iff.mp a;obtain ⟨h2,e2⟩:=List.getElem?_eq_some_iff.mp b;exact (List.getElem_inj hN).mp (e1.trans e2.symm)
end L2
section
namespace L2
open PySem PySem.Spec PyProof.Rows
open PySem.W (WData Codec OpenSpec Well WellAll ReadsW ReadsAllW)
mutual
inductive Dw (K:Zqq) (H:Hp):V->WData->Prop
 | non:Dw K H .non .none
 | bl (b:Bool):Dw K H (.bl b) (.bool b)
 | int (i:Int):Dw K H (.int i) (.int i)
 | str (x:Str):Dw K H (.str x) (.str x)
 | Iw (b:Array UInt8):Dw K H (.Iw b) (.bytes b.toList)
 | lst {a:Addr} {xs:List V} {ds:List WData}:bI K H a xs->vV K H xs ds->Dw K H (.ref a) (.list ds)
 | tup {a:Addr} {xs:List V} {ds:List WData}:nU K H a xs->vV K H xs ds->Dw K H (.ref a) (.tuple ds)
inductive vV (K:Zqq) (H:Hp):List V->List WData->Prop
 | nil:vV K H [] []
 | cons {v:V} {vs:List V} {d:WData} {ds:List WData}:Dw K H v d->vV K H vs ds->vV K H (v::vs) (d::ds)
end
theorem OH {K:Zqq} {H:Hp}:∀ ns:List Int,vV K H (ns.map V.int) (ns.map WData.int)
 | []=>.nil
 | n::r=>.cons (.int n) (OH r)
theorem IP {K:Zqq} {H:Hp}:∀ (ns:List Int) (xs:List V),vV K H xs (ns.map WData.int)->xs=ns.map V.int
 | [],xs,h=>by
  cases h
  rfl
 | n::r,xs,h=>by
  cases h with
  | cons h1 h2=>
   cases h1
   rw [IP r _ h2]<;>rfl
section
variable {P:Program} {w:World} {K:Zqq} {H:Hp} {h:Heap} {R:PySem.W.WRecords} {cl:Str->Option Addr}
theorem YH {a:Addr} {xs:List V} (hok:vS P w H h) (KX:K.In h) (q:bI K H a xs):∃ (its:List Value) (o:Obj) (n:Nat),Vals xs its/\h.get? a=some o/\o.cls=.type "list"/\o.data=.seq its.toArray n:=by
 rcases q with q | ⟨o,its,n,e,hc,_,hd,_,hv⟩
 . obtain ⟨_,its,n,hv,e⟩:=(show dY P w H h a (.lst xs) from q.ok hok)
   exact ⟨its,_,n,hv,e,rfl,rfl⟩
 . exact ⟨its.toList,o,n,hv,KX _ _ e,hc,by simp [hd]⟩
theorem YI {a:Addr} {xs:List V} (hok:vS P w H h) (KX:K.In h) (q:nU K H a xs):∃ (its:List Value) (o:Obj) (n:Nat),Vals xs its/\h.get? a=some o/\o.cls=.type "tuple"/\o.data=.seq its.toArray n:=by
 rcases q with q | ⟨o,its,n,e,hc,hd,_,hv⟩
 . obtain ⟨_,its,hv,o,e,hc,n,hd⟩:=(show dY P w H h a (.tup xs) from q.ok hok)
   exact ⟨its,o,n,hv,e,hc,hd⟩
 . exact ⟨its.toList,o,n,hv,KX _ _ e,hc,by simp [hd]⟩
mutual
theorem Dw.reads (hok:vS P w H h) (KX:K.In h):∀ (d:WData) (v:V) (u:Value),Dw K H v d->RelV v u->∃ as,ReadsW R cl h u d as
 | .none,_,_,x,r=>by
  cases x
  cases r
  exact ⟨_,ReadsW.none⟩
 | .bool b,_,_,x,r=>by
  cases x
  cases r
  exact ⟨_,ReadsW.bool b⟩
 | .int i,_,_,x,r=>by
  cases x
  obtain ⟨t,rfl⟩:=r
  exact ⟨_,ReadsW.int i t⟩
 | .str s,_,_,x,r=>by
  cases x
  obtain ⟨t,rfl⟩:=r
  exact ⟨_,ReadsW.str s t⟩
 | .bytes b,_,_,x,r=>by
  cases x
  obtain ⟨t,rfl⟩:=r
  exact ⟨_,ReadsW.bytes _ t⟩
 | .list ds,_,_,x,r=>by
  cases x with
  | lst hs ha=>
   cases r
   obtain ⟨its,o,n,rv,ho,hc,hd⟩:=YH hok KX hs
   obtain ⟨as,hr⟩:=Dw.readsAll hok KX ds _ its ha rv
   exact ⟨_,ReadsW.list ho hc hd hr⟩
 | .tuple ds,_,_,x,r=>by
  cases x with
  | tup hs ha=>
   cases r
   obtain ⟨its,o,n,rv,ho,hc,hd⟩:=YI hok KX hs
   obtain ⟨as,hr⟩:=Dw.readsAll hok KX ds _ its ha rv
   exact ⟨_,ReadsW.tuple ho hc hd hr⟩
 | .float _,_,_,x,_=>by cases x
 | .dict _,_,_,x,_=>by cases x
 | .bytearray _,_,_,x,_=>by cases x
 | .set _,_,_,x,_=>by cases x
 | .frozenset _,_,_,x,_=>by cases x
 | .obj _ _,_,_,x,_=>by cases x
theorem Dw.readsAll (hok:vS P w H h) (KX:K.In h):∀ (ds:List WData) (vs:List V) (us:List Value),vV K H vs ds->Vals vs us->∃ as,ReadsAllW R cl h us ds as
 | [],_,_,x,r=>by
  cases x
  cases r
  exact ⟨_,ReadsAllW.nil⟩
 | d::ds,_,_,x,r=>by
  cases x with
  | cons h1 h2=>
   cases r with
   | cons r1 r2=>
    obtain ⟨as,q1⟩:=Dw.reads hok KX d _ _ h1 r1
    obtain ⟨bs,q2⟩:=Dw.readsAll hok KX ds _ _ h2 r2
    exact ⟨_,ReadsAllW.cons q1 q2⟩
end
end
mutual
def OI:WData->Bool
 | .none=>true
 | .bool _=>true
 | .int _=>true
 | .str _=>true
 | .bytes _=>true
 | .list xs=>Dd xs
 | .tuple xs=>Dd xs
 | _=>false
def Dd:List WData->Bool
 | []=>true
 | x::r=>OI x&&Dd r
end
theorem Ld {α:Type} {f:α->WData} (h:∀ a,OI (f a)=true):∀ l:List α,Dd (l.map f)=true
 | []=>rfl
 | x::r=>by
  show (OI (f x)&&Dd (r.map f))=true
  rw [h x,Ld h r]<;>rfl
theorem xj:∀ (c:Codec) (a:c.denote),OI (c.enc a)=true
 | .unit,_=>rfl
 | .bool,_=>rfl
 | .int _ _,_=>rfl
 | .nat _ _,_=>rfl
 | .u8,_=>rfl
 | .bytes _ _,_=>rfl
 | .text _ _ _ _,_=>rfl
 | .list _ _ c,a=>Ld (fun x=>xj c x) a
 | .pair c d,a=>by
  show (OI (c.enc a.1)&&(OI (d.enc a.2)&&true))=true
  rw [xj c a.1,xj d a.2]<;>rfl
 | .triple c d e,a=>by
  show (OI (c.enc a.1)&&(OI (d.enc a.2.1)&&(OI (e.enc a.2.2)&&true)))=true
  rw [xj c a.1,xj d a.2.1,xj e a.2.2]<;>rfl
 | .option c,none=>rfl
 | .option c,some x=>xj c x
theorem HG:∀ (cs:List Codec) (a:Codec.denoteAll cs),Dd (Codec.encAll cs a)=true
 | [],_=>rfl
 | c::cs,a=>by
  show (OI (c.enc a.1)&&Dd (Codec.encAll cs a.2))=true
  rw [xj c a.1,HG cs a.2]<;>rfl
theorem zq:∀ {xs:List WData} {d:WData},d ∈ xs->d.weight<=WData.weightAll xs
 | [],d,h=>absurd h (by simp)
 | x::r,d,h=>by
   show d.weight<=x.weight+1+WData.weightAll r
   rcases List.mem_cons.mp h with e | m
   . rw [e]
     omega
   . have z:=zq m
     omega
def toV:Value->V
 | .none=>.non
 | .bool b=>.bl b
 | .int i _=>.int i
 | .str x _=>.str x
 | .bytes b _=>.Iw b
 | .ref a=>.ref a
 | _=>.non
def Qc (A:List Addr):Value->Prop
 | .none=>True
 | .bool _=>True
 | .int _ _=>True
 | .str _ _=>True
 | .bytes _ _=>True
 | .ref a=>a ∈ A
 | _=>False
theorem Qc.mono {A B:List Addr} (h:∀ a ∈ A,a ∈ B):∀ {u:Value},Qc A u->Qc B u:=fun {u} x=>by
 cases u with
 | ref a=>exact h a x
 | none=>trivial
 | bool b=>trivial
 | int i t=>trivial
 | str s t=>trivial
 | bytes b t=>trivial
 | _=>exact False.elim x
theorem S7 {A:List Addr} {u:Value} (x:Qc A u):RelV (toV u) u:=by
 cases u with
 | ref a=>rfl
 | none=>rfl
 | bool b=>rfl
 | int i t=>exact ⟨t,rfl⟩
 | str s t=>exact ⟨t,rfl⟩
 | bytes b t=>exact ⟨t,rfl⟩
 | _=>exact False.elim x
theorem uv {A:List Addr}:∀ {vs:List Value},(∀ u ∈ vs,Qc A u)->Vals (vs.map toV) vs
 | [],_=>.nil
 | u::r,h=>.cons (S7 (h u (List.mem_cons_self ..))) (uv fun x hx=>h x (List.mem_cons_of_mem _ hx))
def vW (h:Heap) (A:List Addr) (a:Addr):Prop:=∃ vs:List Value,vs.length<=sizeLine/\(∀ u ∈ vs,Qc A u) /\
 (h.get? a=some { cls:=.type "list",data:=.seq vs.toArray }\/h.get? a=some { cls:=.type "tuple",data:=.seq vs.toArray })
theorem vW.mono {h:Heap} {A B:List Addr} {a:Addr} (k:∀ a ∈ A,a ∈ B) (x:vW h A a):vW h B a:=by
 obtain ⟨vs,h1,h2,h3⟩:=x;exact ⟨vs,h1,fun u hu=>(h2 u hu).mono k,h3⟩
theorem tw {P:Params} {h:Heap}:∀ {vs:List Value} {ds:List WData},WellAll P h vs ds->vs.length=ds.length
 | _,_,.nil=>rfl
 | _,_,.cons _ b=>by
  show _+1=_+1
  rw [tw b]
theorem HH {P:Params} {h:Heap} {v:Value} {ds:List WData} (x:Well P h v (.list ds)):∃ (a:Addr) (vs:List Value),v=.ref a/\h.get? a=some { cls:=.type "list",data:=.seq vs.toArray }/\WellAll P h vs ds:=by
 cases x with
 | list ho hall=>exact ⟨_,_,rfl,ho,hall⟩
theorem Em {P:Params} {h:Heap} {v:Value} {ds:List WData} (x:Well P h v (.tuple ds)):∃ (a:Addr) (vs:List Value),v=.ref a/\h.get? a=some { cls:=.type "tuple",data:=.seq vs.toArray }/\WellAll P h vs ds:=by
 cases x with
 | tuple ho hall=>exact ⟨_,_,rfl,ho,hall⟩
theorem HJ {P:Params} {h:Heap} {us:List Value} {d:WData} {ds:List WData} (x:WellAll P h us (d::ds)):∃ (v:Value) (vs:List Value),us=v::vs/\Well P h v d/\WellAll P h vs ds:=by
 cases x with
 | cons a b=>exact ⟨_,_,rfl,a,b⟩
theorem OJ {n:Nat} (h:n<=1048576):n<=sizeLine:=Nat.le_trans h (by decide)
section
variable {P:Params} {h:Heap}
mutual
theorem S8:∀ (d:WData) (v:Value),Well P h v d->OI d=true->d.weight<=1048576->∃ A:List Addr,Qc A v/\∀ a ∈ A,vW h A a
 | .none,_,x,_,_=>by
   cases x
   exact ⟨[],trivial,fun a m=>absurd m (by simp)⟩
 | .bool b,_,x,_,_=>by
   cases x
   exact ⟨[],trivial,fun a m=>absurd m (by simp)⟩
 | .int i,_,x,_,_=>by
   cases x
   exact ⟨[],trivial,fun a m=>absurd m (by simp)⟩
 | .str s,_,x,_,_=>by
   cases x
   exact ⟨[],trivial,fun a m=>absurd m (by simp)⟩
 | .bytes b,_,x,_,_=>by
   cases x
   exact ⟨[],trivial,fun a m=>absurd m (by simp)⟩
 | .list ds,_,x,p,z=>by
   obtain ⟨a,vs,rfl,ho,hall⟩:=HH x
   have z2:WData.weightAll ds<=1048576:=z
   obtain ⟨A,h1,h2⟩:=Ak ds _ hall p fun d hd=>Nat.le_trans (zq hd) z2
   have k:∀ b ∈ A,b ∈ a::A:=fun b hb=>List.mem_cons_of_mem _ hb
   refine ⟨a::A,List.mem_cons_self ..,fun b hb=>?_⟩
   rcases List.mem_cons.mp hb with e | m
   . rw [e]
     exact ⟨vs,OJ (by rw [tw hall];exact Nat.le_trans (PySem.W.length_le_weightAllW ds) z2),fun u hu=>(h1 u hu).mono k,.inl ho⟩
   . exact (h2 b m).mono k
 | .tuple ds,_,x,p,z=>by
   obtain ⟨a,vs,rfl,ho,hall⟩:=Em x
   have z2:WData.weightAll ds<=1048576:=z
   obtain ⟨A,h1,h2⟩:=Ak ds _ hall p fun d hd=>Nat.le_trans (zq hd) z2
   have k:∀ b ∈ A,b ∈ a::A:=fun b hb=>List.mem_cons_of_mem _ hb
   refine ⟨a::A,List.mem_cons_self ..,fun b hb=>?_⟩
   rcases List.mem_cons.mp hb with e | m
   . rw [e]
     exact ⟨vs,OJ (by rw [tw hall];exact Nat.le_trans (PySem.W.length_le_weightAllW ds) z2),fun u hu=>(h1 u hu).mono k,.inr ho⟩
   . exact (h2 b m).mono k
 | .float _,_,_,p,_=>Bool.noConfusion (show false=true from p)
 | .dict _,_,_,p,_=>Bool.noConfusion (show false=true from p)
 | .bytearray _,_,_,p,_=>Bool.noConfusion (show false=true from p)
 | .set _,_,_,p,_=>Bool.noConfusion (show false=true from p)
 | .frozenset _,_,_,p,_=>Bool.noConfusion (show false=true from p)
 | .obj _ _,_,_,p,_=>Bool.noConfusion (show false=true from p)
theorem Ak:∀ (ds:List WData) (vs:List Value),WellAll P h vs ds->Dd ds=true->(∀ d ∈ ds,d.weight<=1048576)->∃ A:List Addr,(∀ u ∈ vs,Qc A u)/\∀ a ∈ A,vW h A a
 | [],_,x,_,_=>by
   cases x
   exact ⟨[],fun u m=>absurd m (by simp),fun a m=>absurd m (by simp)⟩
 | d::ds,_,x,p,z=>by
   obtain ⟨v,vs,rfl,x1,x2⟩:=HJ x
   have q:OI d=true/\Dd ds=true:=Bool.and_eq_true_iff.mp p
   obtain ⟨A,a1,a2⟩:=S8 d v x1 q.1 (z d (List.mem_cons_self ..))
   obtain ⟨B,b1,b2⟩:=Ak ds vs x2 q.2 fun e he=>z e (List.mem_cons_of_mem _ he)
   have kA:∀ b ∈ A,b ∈ A++B:=fun b hb=>List.mem_append.mpr (.inl hb)
   have kB:∀ b ∈ B,b ∈ A++B:=fun b hb=>List.mem_append.mpr (.inr hb)
   refine ⟨A++B,fun u hu=>?_,fun b hb=>?_⟩
   . rcases List.mem_cons.mp hu with e | m
     . rw [e]
       exact a1.mono kA
     . exact (b1 u m).mono kB
   . rcases List.mem_append.mp hb with m | m
     . exact (a2 b m).mono kA
     . exact (b2 b m).mono kB
end
end
def VD (o:Obj):Option HO:=match o.data with
 | .seq vs _=>if (o.cls==Value.type "list")=true then some (.pZ o (.lst (vs.toList.map toV))) else some (.pZ o (.tup (vs.toList.map toV)))
 | _=>none
def uU (K:Zqq) (h:Heap) (A:List Addr):Hp:=fun b=>if b ∈ A then (if (K.lookup b).isNone=true then (h.get? b).bind VD else none) else none
def HK (H:Hp):Prop:=∀ b,H b=none\/∃ o u,H b=some (.pZ o u)
theorem Le (vs:List Value):VD { cls:=.type "list",data:=.seq vs.toArray }=some (.pZ { cls:=.type "list",data:=.seq vs.toArray } (.lst (vs.map toV))):=by
 show (if (Value.type "list"==Value.type "list")=true then some (HO.pZ { cls:=.type "list",data:=.seq vs.toArray } (.lst (vs.toArray.toList.map toV))) else some (HO.pZ { cls:=.type "list",data:=.seq vs.toArray } (.tup (vs.toArray.toList.map toV))))=_;rw [if_pos (beq_self_eq_true _)]
theorem Lf (vs:List Value):VD { cls:=.type "tuple",data:=.seq vs.toArray }=some (.pZ { cls:=.type "tuple",data:=.seq vs.toArray } (.tup (vs.map toV))):=by
 show (if (Value.type "tuple"==Value.type "list")=true then some (HO.pZ { cls:=.type "tuple",data:=.seq vs.toArray } (.lst (vs.toArray.toList.map toV))) else some (HO.pZ { cls:=.type "tuple",data:=.seq vs.toArray } (.tup (vs.toArray.toList.map toV))))=_;rw [if_neg (by decide)]
section
variable {P:Program} {w:World} {K:Zqq} {h:Heap} {A:List Addr}
theorem DB {b:Addr} {o:Obj} (hb:b ∈ A) (hk:K.lookup b=none) (e:h.get? b=some o):uU K h A b=VD o:=by
 unfold uU;rw [if_pos hb,hk,if_pos (show (none:Option Obj).isNone=true from rfl),e]<;>rfl
theorem VE {b:Addr} {u:HO} (q:uU K h A b=some u):b ∈ A/\K.lookup b=none:=by
 unfold uU at q;by_cases hb:b ∈ A
 . rw [if_pos hb] at q
   cases hk:K.lookup b with
   | none=>exact ⟨hb,rfl⟩
   | some o=>
     rw [hk,if_neg (by simp)] at q;cases q
 . rw [if_neg hb] at q
   cases q
theorem DC (ar:∀ a ∈ A,vW h A a) {b:Addr} {u:HO} (q:uU K h A b=some u):K.lookup b=none/\∃ vs:List Value,vs.length<=sizeLine/\(∀ u ∈ vs,Qc A u) /\
   ((h.get? b=some { cls:=.type "list",data:=.seq vs.toArray }/\u=.pZ { cls:=.type "list",data:=.seq vs.toArray } (.lst (vs.map toV))) \/
    (h.get? b=some { cls:=.type "tuple",data:=.seq vs.toArray }/\u=.pZ { cls:=.type "tuple",data:=.seq vs.toArray } (.tup (vs.map toV)))):=by
 obtain ⟨hb,hk⟩:=VE q;obtain ⟨vs,h1,h2,h3⟩:=ar b hb;refine ⟨hk,vs,h1,h2,?_⟩;rcases h3 with e | e
 . rw [DB hb hk e,Le] at q
   exact .inl ⟨e,(Option.some.inj q).symm⟩
 . rw [DB hb hk e,Lf] at q
   exact .inr ⟨e,(Option.some.inj q).symm⟩
theorem Qe (ar:∀ a ∈ A,vW h A a):HK (uU K h A):=fun b=>by
 cases q:uU K h A b with
 | none=>exact .inl rfl
 | some u=>
   obtain ⟨_,vs,_,_,⟨_,e⟩ | ⟨_,e⟩⟩:=DC ar q
   . exact .inr ⟨_,_,by rw [e]⟩
   . exact .inr ⟨_,_,by rw [e]⟩
theorem VF (ar:∀ a ∈ A,vW h A a):vS P w (uU K h A) h:=fun b u q=>by
 obtain ⟨_,vs,h1,h2,⟨e,rfl⟩ | ⟨e,rfl⟩⟩:=DC ar q
 . exact ⟨e,by rw [List.length_map];exact h1,vs,_,uv h2,e⟩
 . exact ⟨e,by rw [List.length_map];exact h1,vs,uv h2,_,e,rfl,_,rfl⟩
theorem DE {c c':Value} {vs us:List Value} (e:(some { cls:=c,data:=.seq vs.toArray }:Option Obj)=some { cls:=c',data:=.seq us.toArray }):c=c'/\vs=us:=by
 have e1:=Option.some.inj e;have e2:c=c':=congrArg Obj.cls e1;have e3:Data.seq vs.toArray=Data.seq us.toArray:=congrArg Obj.data e1;injection e3 with e4;refine ⟨e2,?_⟩;have e5:=congrArg Array.toList e4;simpa using e5
theorem abT (KX:K.In h) (ar:∀ a ∈ A,vW h A a) {a:Addr} {vs:List Value} (ha:a ∈ A) (e:h.get? a=some { cls:=.type "list",data:=.seq vs.toArray }):(∀ u ∈ vs,Qc A u)/\bI K (uU K h A) a (vs.map toV):=by
 obtain ⟨us,h1,h2,h3⟩:=ar a ha;have hu:us=vs:=by
   rcases h3 with q | q
   . rw [e] at q
     exact (DE q).2.symm
   . rw [e] at q
     exact absurd (Value.type.inj (DE q).1) (by decide)
 subst hu;refine ⟨h2,?_⟩;cases hk:K.lookup a with
 | none=>exact .inl (.inr ⟨_,by rw [DB ha hk e,Le]⟩)
 | some o=>
   have e2:=KX a o hk;rw [e] at e2;obtain rfl:=Option.some.inj e2;exact .inr ⟨_,us.toArray,_,hk,rfl,rfl,rfl,by rw [List.size_toArray];exact h1,by simpa using uv h2⟩
theorem abU (KX:K.In h) (ar:∀ a ∈ A,vW h A a) {a:Addr} {vs:List Value} (ha:a ∈ A) (e:h.get? a=some { cls:=.type "tuple",data:=.seq vs.toArray }):(∀ u ∈ vs,Qc A u)/\nU K (uU K h A) a (vs.map toV):=by
 obtain ⟨us,h1,h2,h3⟩:=ar a ha;have hu:us=vs:=by
   rcases h3 with q | q
   . rw [e] at q
     exact absurd (Value.type.inj (DE q).1) (by decide)
   . rw [e] at q
     exact (DE q).2.symm
 subst hu;refine ⟨h2,?_⟩;cases hk:K.lookup a with
 | none=>exact .inl (.inr ⟨_,by rw [DB ha hk e,Lf]⟩)
 | some o=>
   have e2:=KX a o hk;rw [e] at e2;obtain rfl:=Option.some.inj e2;exact .inr ⟨_,us.toArray,_,hk,rfl,rfl,by rw [List.size_toArray];exact h1,by simpa using uv h2⟩
mutual
theorem YJ {Pm:Params} (KX:K.In h) (ar:∀ a ∈ A,vW h A a):∀ (d:WData) (v:Value),Well Pm h v d->OI d=true->Qc A v->Dw K (uU K h A) (toV v) d
 | .none,_,x,_,_=>by
  cases x
  exact .non
 | .bool b,_,x,_,_=>by
  cases x
  exact .bl b
 | .int i,_,x,_,_=>by
  cases x
  exact .int i
 | .str s,_,x,_,_=>by
  cases x
  exact .str s
 | .bytes b,_,x,_,_=>by
  cases x
  have z:=Dw.Iw (K:=K) (H:=uU K h A) b.toArray
  exact z
 | .list ds,_,x,p,hu=>by
  obtain ⟨a,vs,rfl,ho,hall⟩:=HH x
  obtain ⟨h2,hs⟩:=abT KX ar hu ho
  exact .lst hs (IQ KX ar ds _ hall p h2)
 | .tuple ds,_,x,p,hu=>by
  obtain ⟨a,vs,rfl,ho,hall⟩:=Em x
  obtain ⟨h2,hs⟩:=abU KX ar hu ho
  exact .tup hs (IQ KX ar ds _ hall p h2)
 | .float _,_,_,p,_=>Bool.noConfusion (show false=true from p)
 | .dict _,_,_,p,_=>Bool.noConfusion (show false=true from p)
 | .bytearray _,_,_,p,_=>Bool.noConfusion (show false=true from p)
 | .set _,_,_,p,_=>Bool.noConfusion (show false=true from p)
 | .frozenset _,_,_,p,_=>Bool.noConfusion (show false=true from p)
 | .obj _ _,_,_,p,_=>Bool.noConfusion (show false=true from p)
theorem IQ {Pm:Params} (KX:K.In h) (ar:∀ a ∈ A,vW h A a):∀ (ds:List WData) (vs:List Value),WellAll Pm h vs ds->Dd ds=true->(∀ u ∈ vs,Qc A u)->vV K (uU K h A) (vs.map toV) ds
 | [],_,x,_,_=>by
  cases x
  exact .nil
 | d::ds,_,x,p,hu=>by
  obtain ⟨v,vs,rfl,x1,x2⟩:=HJ x
  have q:OI d=true/\Dd ds=true:=Bool.and_eq_true_iff.mp p
  exact .cons (YJ KX ar d v x1 q.1 (hu _ (List.mem_cons_self ..))) (IQ KX ar ds vs x2 q.2 fun u m=>hu u (List.mem_cons_of_mem _ m))
end
end
theorem Qg {P:Program} {w:World} {K:Zqq} {mg mb:Str->Option Value} {CX:MU} {k:Nat} {fa:Addr} {fd:FuncData} {ps:List Str} {sp:Sp} {s₁:Shared} {vals:List Value} {ds:List WData} {R:PySem.W.WRecords} {cl:Str->Option Addr} {d0:WData}
   (KX:K.In s₁.heap) (hns:s₁.heap.Ns mainGlobals mg) (hb:s₁.heap.Ns builtinsNs mb) (hbb:∀ x:Str,x ≠ "__name__"->mb x=bootBuiltins x) (hlim:s₁.heap.NoLimit) (hg:s₁.gens=#[])
   (hwl:WellAll w.params s₁.heap vals ds) (hpl:Dd ds=true) (hwt:∀ d ∈ ds,d.weight<=1048576) (hr:dG k callerA)
   (F:∀ base:Heap,K.In base->base.Ns mainGlobals mg->bF P w K mg base CX k fa fd ps sp) (hbind:∀ (s:Shared) (us:List Value),us.length=ps.length->BindsTo s fd ⟨us,[]⟩ (ps.zip us)) (hlen:ds.length=ps.length)
   (Np:∀ (H:Hp) (xs:List V),HK H->vV K H xs ds->sp xs H (fun v H'=>Dw K H' v d0) fun _ _ _=>False)
   (hCX:∀ H e s',CX [] H s₁ (fun _ _ _=>False) e s'->False) :
   codeAny (model P w) callerA (.call (.ref fa) ⟨vals,[]⟩) (fun r s'=>∃ u as,r=.ok (.ret u)/\ReadsW R cl s'.heap u d0 as/\OldK s₁.heap s'.heap/\s'.os=s₁.os/\AllBare s'.gens) s₁:=by
 obtain ⟨A,ho,ar⟩:=Ak ds vals hwl hpl hwt;have hO:HK (uU K s₁.heap A):=Qe ar;have hok:vS P w (uU K s₁.heap A) s₁.heap:=VF ar;have hS:=IQ KX ar ds vals hwl hpl ho;have hV:=uv ho;have hK:∀ b u,uU K s₁.heap A b=some u->K.lookup b=none:=fun b u q=>(DC ar q).1;have ZY:∀ {b:Addr} {o:Obj} {es:Array DictEntry} {ep:Nat},s₁.heap.get? b=some o->o.data=.dict es ep->uU K s₁.heap A b=none:=fun {b o es ep} e d=>by
   cases q:uU K s₁.heap A b with
   | none=>rfl
   | some u=>
     obtain ⟨_,vs,_,_,⟨e2,_⟩ | ⟨e2,_⟩⟩:=DC ar q
     . rw [e2] at e
       cases e;have d':Data.seq vs.toArray _=Data.dict es ep:=d;cases d'
     . rw [e2] at e
       cases e;have d':Data.seq vs.toArray _=Data.dict es ep:=d;cases d'
 generalize uU K s₁.heap A=H at hO hok hS hK ZY;have OL:∀ {b:Addr} {o:Obj},s₁.heap.get? b=some o->H b=none->(Iz s₁.heap H).get? b=some o:=fun e n=>RL e n;have nsK:∀ {b:Addr} {m:Str->Option Value},s₁.heap.Ns b m->(Iz s₁.heap H).Ns b m:=fun {b m} ⟨o,es,ep,e,d,r⟩=>⟨o,es,ep,OL e (ZY e d),d,r⟩;have nK:∀ b o,K.lookup b=some o->H b=none:=fun b o e=>by
   cases q:H b with
   | none=>rfl
   | some u=>
     rw [hK b u q] at e;cases e
 have hKb:K.In (Iz s₁.heap H):=fun b o e=>OL (KX b o e) (nK b o e);have hM:Mod K mg (Iz s₁.heap H):=⟨hKb,nsK hns,⟨mb,nsK hb,hbb⟩,let ⟨mc,h1,h2⟩:=hlim;⟨mc,nsK h1,h2⟩⟩;have e0:IF P w K mg (Iz s₁.heap H) callerA [] s₁ H:=⟨rfl,hM,fun b o e=>Vp e,Nat.le_of_eq (Py _ _),trivial,fun b hb=>absurd (show b ∈ ([]:List Addr) from hb) (by simp),hok,.of_eq hg⟩;have hl:vals.length=ps.length:=by rw [tw hwl];exact hlen
 refine codeAny_mono ((F _ hKb (nsK hns)).run callerA [] s₁ H ⟨vals,[]⟩ vals (vals.map toV) _ _ hr e0 (hbind s₁ vals hl) hV (Np H _ hO hS)) fun r s' x=>?_;cases r with
 | error e=>exact (hCX H e s' x).elim
 | ok fl=>
   cases fl with
   | next=>exact False.elim x
   | brk=>exact False.elim x
   | cont=>exact False.elim x
   | ret u=>
     obtain ⟨v,H',os,bare,un,hok',r',q⟩:=x;have kept:∀ b o,s₁.heap.get? b=some o->s'.heap.get? b=some o:=fun b o e=>by
       cases q2:H b with
       | none=>exact un.keep b o e q2 (by intro z;exact absurd (show b ∈ ([]:List Addr) from z) (by simp)) (by simp)
       | some u2=>
         rcases hO b with z | ⟨ob,u3,z⟩
         . rw [q2] at z
           cases z
         . have z2:=un.zj b ob _ z
           obtain ⟨e1,_⟩:=hok b _ z;obtain ⟨e2,_⟩:=hok' b _ z2;rw [e] at e1;cases e1;exact e2
     have KX':K.In s'.heap:=fun b o e=>kept b o (KX b o e);obtain ⟨as,hrd⟩:=Dw.reads (R:=R) (cl:=cl) hok' KX' d0 v u q r';exact ⟨u,as,rfl,hrd,OldK.of_keep kept,os,bare⟩
theorem En {ds:List WData} (h:WData.layableAll ds=true):∀ d ∈ ds,d.weight<=1048576:=fun d hd=>
 (PySem.W.layableW_iff.mp (List.all_eq_true.mp h d hd)).2.2
theorem Eo:∀ (cs:List Codec) (a:Codec.denoteAll cs),(Codec.encAll cs a).length=cs.length
 | [],_=>rfl
 | c::cs,a=>by
  show (Codec.encAll cs a.2).length+1=cs.length+1
  rw [Eo cs a.2]
theorem Qh {r:OpenSpec} {k:Nat} {q:Program} {loose:List Str} {XP:(Str->Option Value)->Heap->Prop} {YP:World->Heap->Prop} {d:DefRec} {K:Params->Zqq} {CX:World->MU} {ps:List Str} {sp:World->Sp}
   (S9:r.wellSaid=true) (hdf:d.params.defaults=[]) (hlen:r.args.length=ps.length) (hr:dG k callerA)
   (hY:∀ (w:World) (h:Heap),YP w h->(K w.params).In h)
   (F:∀ (w:World) (mg:Str->Option Value) (fa:Addr) (h:Heap),YP w h->(K w.params).In h->h.Ns mainGlobals mg->mg d.name=some (.ref fa)->
     ∃ fd:FuncData,(∀ (s:Shared) (us:List Value),us.length=ps.length->BindsTo s fd ⟨us,[]⟩ (ps.zip us)) /\
       ∀ base:Heap,(K w.params).In base->base.Ns mainGlobals mg->bF r.prog w (K w.params) mg base (CX w) k fa fd ps (sp w))
   (Np:∀ (w:World) (H:Hp) (xs:List V) (a:Codec.denoteAll r.args),HK H->Codec.withinAll r.args a=true->Codec.app r.args r.asked a=true->vV (K w.params) H xs (Codec.encAll r.args a)->
     sp w xs H (fun v H'=>Dw (K w.params) H' v (r.ret.enc (Codec.app r.args r.f a))) fun _ _ _=>False)
   (hCX:∀ (w:World) (H:Hp) (s:Shared) (e:Value) (s':Shared),CX w [] H s (fun _ _ _=>False) e s'->False) :
   PySem.W.WalkOS q loose XP YP r d [] (fun f vs=>PySem.call f vs):=by
 intro w BB s₁ mg mb G Y fa o pm cd doc dV kV ho hd hcd hD hmg hg args vals as hpre hlay hrd hwl hlo;obtain ⟨a,e1,e2⟩:=PySem.W.os_pre_some hpre;obtain ⟨e3,hwi⟩:=Codec.encAll_of_decAll r.args args a e1;subst e3;have KX:=hY w _ Y;obtain ⟨fd,hb,hF⟩:=F w mg fa _ Y KX G.T.g hmg;refine PySem.W.enter_call (codeAny_mono (Qg (R:=[]) (cl:=classAt BB.heap) (d0:=r.ret.enc (Codec.app r.args r.f a)) KX G.T.g G.T.b G.T.builtins G.T.nolimit hg hwl (HG _ _) (En hlay) hr hF hb (by rw [Eo];exact hlen)
   (fun H xs hO hS=>Np w H xs a hO hwi e2 hS) fun H e s'=>hCX w H s₁ e s') fun r' s' hq=>?_)
 obtain ⟨u,as',rfl,h1,h2,h3,h4⟩:=hq;exact ⟨.inl ⟨u,_,as',rfl,fun _=>rfl,h1,(OpenSpec.post_iff S9 hwi _ _).mpr rfl,fun z=>Bool.noConfusion (show false=true from z)⟩,h2,h3,h4⟩
theorem N3 {r:OpenSpec} {k:Nat} {q:Program} {loose:List Str} {XP:(Str->Option Value)->Heap->Prop} {YP:World->Heap->Prop} {d:DefRec} {K:Params->Zqq} {CX:MU} {ps:List Str} {sp:Zqq->Sp}
   (S9:r.wellSaid=true) (hdf:d.params.defaults=[]) (hlen:r.args.length=ps.length) (hr:dG k callerA)
   (hY:∀ (w:World) (h:Heap),YP w h->(K w.params).In h)
   (F:∀ (w:World) (mg:Str->Option Value) (fa:Addr) (h:Heap),YP w h->(K w.params).In h->h.Ns mainGlobals mg->mg d.name=some (.ref fa)->
     ∃ fd:FuncData,(∀ (s:Shared) (us:List Value),us.length=ps.length->BindsTo s fd ⟨us,[]⟩ (ps.zip us)) /\
       ∀ base:Heap,(K w.params).In base->base.Ns mainGlobals mg->bF r.prog w (K w.params) mg base CX k fa fd ps (sp (K w.params)))
   (Np:∀ (K:Zqq) (H:Hp) (xs:List V) (a:Codec.denoteAll r.args),HK H->Codec.withinAll r.args a=true->Codec.app r.args r.asked a=true->vV K H xs (Codec.encAll r.args a)->
     sp K xs H (fun v H'=>Dw K H' v (r.ret.enc (Codec.app r.args r.f a))) fun _ _ _=>False)
   (hCX:∀ (H:Hp) (s:Shared) (e:Value) (s':Shared),CX [] H s (fun _ _ _=>False) e s'->False) :
   PySem.W.WalkOS q loose XP YP r d [] (fun f vs=>PySem.call f vs):=
 Qh (K:=K) (CX:=fun _=>CX) (sp:=fun w=>sp (K w.params)) S9 hdf hlen hr hY F (fun w H xs a h1 h2 h3 h4=>Np (K w.params) H xs a h1 h2 h3 h4) fun _ H s e s'=>hCX H s e s'
end L2
end
namespace XL
open PySem
def MW (h:Heap) (e:Addr) (cls:Value) (dx:Option Addr) (t:Option (Addr×Value)):Prop:=
 ∃ oe vs,h.get? e=some oe/\oe.cls=cls/\oe.dict=dx/\oe.data=.fields vs /\
   match t with
   | none=>vs[1]?=some .none
   | some (T,fl)=>vs[1]?=some (.ref T)/\T ≠ e/\∃ oT ts,h.get? T=some oT/\oT.data=.fields ts/\ts[3]?=some fl
def heads (e:Addr) (t:Option (Addr×Value)):List Addr:=match t with
 | none=>[e]
 | some (T,_)=>[e,T]
theorem Qi {e:Addr} {t:Option (Addr×Value)}:e ∈ heads e t:=by cases t<;>simp [heads]
theorem Ep (o:Obj) (f:Array Value->Array Value):(o.mapFields f).dict=o.dict:=by
 obtain ⟨c,d,dt,sl⟩:=o;cases dt<;>rfl
theorem MW.rec {h:Heap} {e:Addr} {cls:Value} {dx:Option Addr} {t:Option (Addr×Value)} (x:MW h e cls dx t):∀ b ∈ heads e t,∃ o ws,h.get? b=some o/\o.data=.fields ws:=by
 obtain ⟨oe,vs,he,_,_,hd,r⟩:=x;intro b hb;cases t with
 | none=>rw [show b=e by simpa [heads] using hb];exact ⟨oe,vs,he,hd⟩
 | some p=>
   obtain ⟨_,_,oT,ts,hT,RK,_⟩:=r;rcases (show b=e\/b=p.1 by simpa [heads] using hb) with q | q
   . rw [q];exact ⟨oe,vs,he,hd⟩
   . rw [q];exact ⟨oT,ts,hT,RK⟩
structure OM (fr ch:List Addr) (h h':Heap):Prop where
 keep:∀ b o,b ∉ fr->b ∉ ch->h.get? b=some o->h'.get? b=some o
 slot:∀ b o,b ∈ fr->h.get? b=some o->∃ sl,h'.get? b=some { o with slots:=sl }
 there:∀ b o,h.get? b=some o->∃ o',h'.get? b=some o'
 size:h.objs.size<=h'.objs.size
theorem OM.refl {fr ch:List Addr} {h:Heap}:OM fr ch h h:=⟨fun _ _ _ _ e=>e,fun _ o _ e=>⟨o.slots,e⟩,fun _ o e=>⟨o,e⟩,Nat.le_refl _⟩
theorem o7 {h:Heap} {a b:Addr} (f:Obj->Obj) (n:b ≠ a):(h.update a f).get? b=h.get? b:=Heap.get?_update_other _ _ fun q=>n q.symm
theorem Es {h:Heap} {a:Addr} {o:Obj} {ws:Array Value} (ho:h.get? a=some o) (hw:o.data=.fields ws) (i:Nat) (v:Value) :
   (h.update a (Obj.mapFields (·.setIfInBounds i v))).get? a=some (o.mapFields (·.setIfInBounds i v)):=Heap.get?_update_self _ ho (Obj.isFreed_of_fields (Obj.data_mapFields hw _))
theorem abV {h:Heap} {e:Addr} {oe ob:Obj} {vs ts:Array Value} {fl:Value} (he:h.get? e=some oe) (hd:oe.data=.fields vs) (n1:1 < vs.size) (hb:ob.data=.fields ts) (h3:ts[3]?=some fl) :
   MW ((h.push ob).update e (Obj.mapFields (·.setIfInBounds 1 (.ref h.objs.size)))) e oe.cls oe.dict (some (h.objs.size,fl)) /\
     (∀ b o,b ≠ e->h.get? b=some o->((h.push ob).update e (Obj.mapFields (·.setIfInBounds 1 (.ref h.objs.size)))).get? b=some o):=by
 have up:∀ b o,h.get? b=some o->(h.push ob).get? b=some o:=fun b o q=>Heap.get?_push_of_some ob q;have ne:h.objs.size ≠ e:=Nat.ne_of_gt (Heap.lt_size he);have nf:ob.isFreed=false:=Obj.isFreed_of_fields hb;refine ⟨⟨_,_,Es (up e oe he) hd 1 _,Obj.cls_mapFields _ _,Ep _ _,Obj.data_mapFields hd _,by simp [n1],ne,ob,ts,?_,hb,h3⟩,fun b o q z=>?_⟩
 . rw [o7 _ ne]
   exact Heap.get?_push_size h nf
 . rw [o7 _ q]
   exact up b o z
section
variable {M:Model} {A:Around} {E:Value->Shared->Prop} {s:Shared}
theorem entry_at {base:Heap} {env:Env} {outer:List Env} {L e:Addr} {oe:Obj} {vs:Array Value} {head:Value} {more:Bool} {Q:Unit->Shared->Prop}
   (fr:A.frames=some (env::outer)) (ff:s.heap.FunFrames base (env::outer)) (lf:env.frame=some L) (he:s.heap.get? e=some oe) (hd:oe.data=.fields vs) (n1:1 < vs.size)
   (k:∀ h' T,MW h' e oe.cls oe.dict (some (T,rawInt L))->s.heap.objs.size<=T->OM ((env::outer).filterMap (·.frame)) [e] s.heap h'->Q () { s with heap:=h' }) :
   wpAny M A (do let a <- frameOf env;let pl <- entryPlaceOf L more;let b <- EntryCells.newEntry head a .none (rawInt L) .none pl;setField (.ref e) 1 b) Q E s:=by
 have ef:e ∉ (env::outer).filterMap (·.frame):=fun m=>let ⟨_,o,ho,no⟩:=ff.mem m;no vs (by rw [he] at ho;cases ho;exact hd);refine wpAny_bind (wpAny_frameOf_fun fr ff lf fun g sg=>wpAny_bind (wpAny_entryPlaceOf fun pl ip=>?_));have ge:g.get? e=some oe:=by rw [sg.2.1 e ef];exact he
 unfold EntryCells.newEntry newFields;refine wpAny_bind (wpAny_newObj_type ?_ (ip.sizeOk5 _ _ _ _ _));refine wpAny_setField (Heap.get?_push_of_some _ ge) hd n1 ?_;obtain ⟨x,kp⟩:=abV (fl:=rawInt L) (ob:={ cls:=.type "traceback",dict:=none,data:=.fields ([head,.ref L,.none,rawInt L,.none]++(if pl.isEmpty then List.replicate 6 Value.none else pl)).toArray }) ge hd n1 rfl (by simp);refine k _ _ x (by rw [sg.1];exact Nat.le_refl _) ⟨fun b o hb hc ho=>kp b o (fun q=>hc (by simp [q])) (by rw [sg.2.1 b hb];exact ho),fun b o hb ho=>?_,fun b o ho=>?_,?_⟩
 . obtain ⟨sl,q⟩:=sg.2.2 b o ho
   exact ⟨sl,kp b _ (fun z=>ef (z ▸ hb)) q⟩
 . by_cases z:b=e
   . obtain ⟨ox,_,q,_⟩:=x
     exact ⟨ox,z ▸ q⟩
   . obtain ⟨sl,q⟩:=sg.2.2 b o ho
     exact ⟨_,kp b _ z q⟩
 . rw [Heap.size_after_update,Heap.size_push,sg.1]
   exact Nat.le_succ _
theorem VG {base:Heap} {env:Env} {outer:List Env} {L e:Addr} {cls:Value} {dx:Option Addr} {t:Option (Addr×Value)} {Q:Unit->Shared->Prop}
   (fr:A.frames=some (env::outer)) (ff:s.heap.FunFrames base (env::outer)) (lf:env.frame=some L) (hx:MW s.heap e cls dx t) (hfl:∀ T fl,t=some (T,fl)->fl=.none\/fl=rawInt L)
   (k:∀ h' T,MW h' e cls dx (some (T,rawInt L))->(T ∈ heads e t\/s.heap.objs.size<=T)->OM ((env::outer).filterMap (·.frame)) (heads e t) s.heap h'->Q () { s with heap:=h' }) :
   wpAny M A (noteFrame (.ref e) env) Q E s:=by
 have rc:=hx.rec;obtain ⟨oe,vs,he,rfl,rfl,hd,r⟩:=id hx;unfold noteFrame;simp only [lf];cases t with
 | none=>
   refine wpAny_bind (wpAny_field he hd r ?_);rw [if_neg (by decide)];exact entry_at fr ff lf he hd (Array.getElem?_eq_some_iff.mp r).1 fun h' T x1 x2 x3=>k h' T x1 (.inr x2) x3
 | some p=>
   obtain ⟨T,fl⟩:=p;obtain ⟨h1,hTe,oT,ts,hT,RK,h3⟩:=r;have l3:=(Array.getElem?_eq_some_iff.mp h3).1;refine wpAny_bind (wpAny_field he hd h1 ?_);rw [if_pos (by simp)];refine wpAny_bind (wpAny_field hT RK h3 ?_);rcases hfl T fl rfl with rfl | rfl
   . rw [if_neg (by simp [rawInt])]
     refine wpAny_bind (wpAny_setField hT RK l3 ?_);have off:∀ b o,s.heap.get? b=some o->b ≠ T->(s.heap.update T (Obj.mapFields (·.setIfInBounds 3 Value.none))).get? b=some o:=fun b o q n=>by rw [o7 _ n];exact q
     have noT:∀ b o,s.heap.get? b=some o->(∀ ws,o.data ≠ .fields ws)->b ≠ T:=fun b o q n z=>n ts (by rw [z,hT] at q;cases q;exact RK);have fT:T ∉ (env::outer).filterMap (·.frame):=fun m=>let ⟨_,o,ho,no⟩:=ff.mem m;noT T o ho no rfl;refine entry_at (s:={ s with heap:=s.heap.update T (Obj.mapFields (·.setIfInBounds 3 Value.none)) }) fr (ff.of_keeps fun b o q n=>⟨o,off b o q (noT b o q n),rfl⟩) lf (off e oe he (Ne.symm hTe)) hd (Array.getElem?_eq_some_iff.mp h1).1 fun h' T' x1 x2 x3=>?_
     have x2:s.heap.objs.size<=T':=by rw [Heap.size_after_update] at x2;exact x2
     have x4:s.heap.objs.size<=h'.objs.size:=by have:=x3.size;rw [Heap.size_after_update] at this;exact this
     refine k h' T' x1 (.inr x2) ⟨fun b o hb hc ho=>?_,fun b o hb ho=>?_,fun b o ho=>?_,x4⟩
     . have hc:b ≠ e/\b ≠ T:=by simpa [heads] using hc
       exact x3.keep b o hb (by simpa using hc.1) (off b o ho hc.2)
     . exact x3.slot b o hb (off b o ho fun z=>fT (z ▸ hb))
     . by_cases z:b=T
       . rw [z];exact x3.there T _ (Es hT RK 3 _)
       . exact x3.there b o (off b o ho z)
   . rw [if_pos (by simp)]
     exact wpAny_pure (k s.heap T hx (.inl (by simp [heads])) .refl)
theorem Qj {e T:Addr} {cls fl:Value} {dx:Option Addr} {fr:Option Addr} {Q:Unit->Shared->Prop} (hx:MW s.heap e cls dx (some (T,fl)))
  (k:∀ h',MW h' e cls dx (some (T,fr.elim Value.none fun f=>rawInt f))->(∀ b,b ≠ T->h'.get? b=s.heap.get? b)->h'.objs.size=s.heap.objs.size->(∃ o,h'.get? T=some o)->Q () { s with heap:=h' }) :
  wpAny M A (setFlight (.ref e) fr) Q E s:=by
 obtain ⟨oe,vs,he,hc,hx,hd,h1,hTe,oT,ts,hT,RK,h3⟩:=hx;have l3:=(Array.getElem?_eq_some_iff.mp h3).1;have me:=Es hT RK 3 (fr.elim Value.none fun f=>rawInt f);unfold setFlight;refine wpAny_bind (wpAny_field he hd h1 ?_);rw [if_pos (by simp)];refine wpAny_setField hT RK l3 (k _ ⟨oe,vs,?_,hc,hx,hd,h1,hTe,_,_,me,Obj.data_mapFields RK _,by simp [l3]⟩ (fun b n=>o7 _ n) (Heap.size_after_update ..) ⟨_,me⟩);rw [o7 _ (Ne.symm hTe)];exact he
end
end XL
namespace XL
open PySem
section
variable {M:Model} {A:Around} {E:Value->Shared->Prop} {env:Env}
variable {nm q:Str} {C N:Addr} {bs bm:List Value} {hdct:Bool} {sn:List Str} {sub:List Value} {ab:Bool} {col:Option Bool} {dd:Option Addr} {k0 k1 k2 k3 k5:Option Value} {newId:String}
theorem Qk {s:Shared} {x:Sem Value} {Q:Flow->Shared->Prop} (isB:bm.contains (.type "BaseException")=true) (calm:A.handled=none)
   (k:wpAny M A x (fun v s'=>∃ e t dx sl,v=.ref e/\s'.heap.get? C=some (excClassObj nm q C N bs bm hdct sn sub ab col dd k0 k1 k2 k3 k5 newId) /\
     s'.heap.get? e=some ⟨.ref C,dx,.fields #[.ref t,.none,.none,.none,.bool false,.none],sl⟩/\E (.ref e) s') E s):wpAny M A (raiseStmt env (some x) none) Q E s:=by
 have up:(Value.ref C::bm).contains (.type "BaseException")=true:=by simp only [List.contains_cons,isB,Bool.or_true]
 unfold raiseStmt;refine wpAny_bind (wpAny_mono k ?_ fun _ _ z=>z);rintro v ⟨hp,gs,dr,tk,os⟩ ⟨e,t,dx,sl,rfl,cC,ce,last⟩
 repeat (first | (with_reducible refine wpAny_isSubtype_exc cC ?_;rw [up]) | with_reducible refine wpAny_loadPart_at cC ?_ | with_reducible refine wpAny_loadPart_at ce ?_ | wp_step)
 exact wpAny_raiseNew_none calm last
end
end XL
namespace XL
open PySem
open Builtin Builtin.ObjectAttr
abbrev gE:List Value:=[.type "Exception",.type "BaseException",.type "object"]
section
variable {prog:Program} {w:World} {A:Around} {E:Value->Shared->Prop} {h:Heap} {g:Array GenState} {d:Drawn} {t:Nat} {os:OsState}
variable {nm q:Str} {C N x:Addr} {bs:List Value} {sn:List Str} {sub:List Value} {ab:Bool} {col:Option Bool} {dd:Option Addr} {k0 k1 k2 k3 k5:Option Value} {newId:String}
 {mN mA:Str->Option Value} {name:Str} {v:Value}
theorem VH {tk:Tok} {Q:Fin->Shared->Prop} (cC:h.get? C=some (excClassObj nm q C N bs gE true sn sub ab col dd k0 k1 k2 k3 k5 newId)) (cN:h.Ns N mN) (no:mN name=none)
   (Gb:typeLookup (.type "Exception") name=pure none) (I:h.Inst x C mA) (hv:mA name=some v) (k:Q (.done (.ret v)) ⟨h,g,d,t,os⟩) :
   wpAny (model prog w) A (Builtin.«object.__getattribute__» ⟨[.ref x,.str name tk],[]⟩) Q E ⟨h,g,d,t,os⟩:=by
 obtain ⟨o,cx,oC,Et,⟨_,z⟩ | ⟨dx,odx,_,at_⟩⟩:=I
 . exact absurd hv (by simp [z])
 . unfold Builtin.«object.__getattribute__»
   repeat (first | (refine wpAny_typeLookup_exc cC cN PySem.F.excBase_Exception.mroIs Gb ?_;rw [no]) | (with_reducible refine wpAny_loadPart_at cx ?_;rw [oC]) | wp_step)
   split
   . exact absurd (by assumption) (Et _)
   . unfold instanceDict
     repeat (first | with_reducible refine wpAny_loadPart_at cC ?_ | (with_reducible refine wpAny_loadPart_at cx ?_;rw [oC]) | wp_step)
     rw [odx]
     repeat (first | (with_reducible refine wpAny_nsGet at_.ns ?_;rw [hv]) | wp_step)
     exact k
theorem SG {expr:Bool} {Q:Value->Shared->Prop} (cC:h.get? C=some (excClassObj nm q C N bs gE true sn sub ab col dd k0 k1 k2 k3 k5 newId)) (cN:h.Ns N mN)
  (n1:mN "__getattribute__"=none) (n2:mN "__getattr__"=none) (no:mN name=none) (Gb:typeLookup (.type "Exception") name=pure none) (I:h.Inst x C mA) (hv:mA name=some v) (hh:handedOut v=pure v)
  (k:Q v ⟨h,g,d,t+1,os⟩):wpAny (model prog w) A (getAttr (.ref x) name expr) Q E ⟨h,g,d,t,os⟩:=by
 obtain ⟨o,cx,oC,_⟩:=id I;have bd:=PySem.F.attr_Exception.ga.bind (.ref x);have e0:(expr&&onTheHeap (Value.builtin "BaseException.__getattribute__"))=false:=by cases expr<;>rfl
 unfold getAttr getAttrBy
 repeat (first | (with_reducible refine wpAny_typeLookup_exc cC cN PySem.F.excBase_Exception.mroIs PySem.F.attr_Exception.ga.lookup ?_;rw [n1]) | (with_reducible refine wpAny_loadPart_at cx ?_;rw [oC]) | wp_step)
 repeat (first | (with_reducible refine wpAny_typeLookup_exc cC cN PySem.F.excBase_Exception.mroIs PySem.F.attrBase_Exception.noGetattr ?_;rw [n2]) | wp_step)
 refine codeAny_call_builtin PySem.F.attr_Exception.ga.plain F.entry_bexc_ga (wpAny_check_ga_own PySem.F.attrBase_Exception cC .base cx oC (VH cC cN no Gb I hv ?_));show wpAny _ _ (handedOut v) _ _ _;rw [hh];exact wpAny_pure k
theorem Lg {tk:Tok} {o:Obj} {Q:Fin->Shared->Prop} (cC:h.get? C=some (excClassObj nm q C N bs gE true sn sub ab col dd k0 k1 k2 k3 k5 newId)) (cN:h.Ns N mN) (no:mN name=none)
   (Gb:typeLookup (.type "Exception") name=pure none) (cx:h.get? x=some o) (oC:o.cls=.ref C) (Et:∀ c,o.data ≠ .cls c) (od:o.dict=none)
   (k:∀ h' tk',h'.get? x=some { o with dict:=some h.objs.size }->h'.Ns1 h.objs.size (fun y=>if y=name then some v else none)->(∀ b u,b ≠ x->h.get? b=some u->h'.get? b=some u)->Q (.done (.ret .none)) ⟨h',g,d,tk',os⟩) :
   wpAny (model prog w) A (Builtin.«object.__setattr__» ⟨[.ref x,.str name tk,v],[]⟩) Q E ⟨h,g,d,t,os⟩:=by
 have ok:=PySem.F.store_Exception.passes (.ref x);have nx:h.objs.size ≠ x:=Nat.ne_of_gt (Heap.lt_size cx);have ou:({ o with dict:=some h.objs.size }:Obj).isFreed=false:=by
   have z:=(Heap.get?_some_iff.mp cx).2;obtain ⟨c,dc,dt,sl⟩:=o;cases dt<;>first | rfl | exact z
 unfold Builtin.«object.__setattr__»
 repeat (first | (rw [refuseLoop_ref,ok]) | rw [refuse_eq] | (refine wpAny_typeLookup_exc cC cN PySem.F.store_Exception.mro Gb ?_;rw [no]) | with_reducible refine wpAny_mroOf_exc cC ?_ | (with_reducible refine wpAny_loadPart_at cx ?_;rw [oC]) | wp_step)
 rw [od,if_neg (by simp [typeHasDict])];split
 . exact absurd (by assumption) (by intro q;cases q)
 . split
   . exact absurd (by assumption) (Et _)
   . refine wpAny_bind (wpAny_alloc' (wpAny_bind (wpAny_update' (Heap.get?_push_of_some _ cx) (wpAny_pure ?_))))
     show wpAny _ _ (storeInDict h.objs.size (.str name tk) name v) _ _ _;unfold storeInDict newKeyGuard;have em:((h.push { cls:=.type "dict",data:=.dict #[] }).update x fun o=>{ cls:=o.cls,dict:=some h.objs.size,data:=o.data,slots:=o.slots }).Ns h.objs.size (fun _=>none):=by
       refine ⟨{ cls:=.type "dict",data:=.dict #[] },#[],_,?_,rfl,fun e he=>absurd he (by simp),fun _=>rfl⟩;rw [o7 _ nx];exact Heap.get?_push_size h rfl
     refine wpAny_bind (wpAny_pure (wpAny_bind (wpAny_nsSet1 (Heap.Ns1.of_empty em) fun h' n' sb=>?_)));obtain ⟨oD,esD,epD,aD,dD,cD⟩:=n'.count (Within.cons name v Within.nil);refine wpAny_bind (wpAny_lookBehind aD (by rw [dD];exact pastItsLine_dict (Nat.le_trans cD (by rw [sizeLine_eq];simp))) ?_)
     wp_walk
     refine k h' _ ?_ n' fun b u n z=>?_
     . rw [sb.2 x (Ne.symm nx)]
       exact Heap.get?_update_self _ (Heap.get?_push_of_some _ cx) ou
     . rw [sb.2 b (Nat.ne_of_lt (Heap.lt_size z)),o7 _ n]
       exact Heap.get?_push_of_some _ z
theorem N4 {tk:Tok} {o:Obj} {sa owner:String} {R:Result->Shared->Prop} (SF:StoreFacts "Exception" gE sa owner) (cC:h.get? C=some (excClassObj nm q C N bs gE true sn sub ab col dd k0 k1 k2 k3 k5 newId)) (cN:h.Ns N mN) (no:mN name=none)
  (Gb:typeLookup (.type "Exception") name=pure none) (cx:h.get? x=some o) (oC:o.cls=.ref C) (Et:∀ c,o.data ≠ .cls c) (od:o.dict=none)
  (k:∀ h' tk',h'.get? x=some { o with dict:=some h.objs.size }->h'.Ns1 h.objs.size (fun y=>if y=name then some v else none)->(∀ b u,b ≠ x->h.get? b=some u->h'.get? b=some u)->R (.ok (.ret .none)) ⟨h',g,d,tk',os⟩) :
  codeAny (model prog w) A (.call (.builtin sa) ⟨[.ref x,.str name tk,v],[]⟩) R ⟨h,g,d,t,os⟩:=by
 refine codeAny_call_builtin SF.slot.plain SF.entry (wpAny_check_sa SF cC cx oC ?_);exact Lg cC cN no Gb cx oC Et od k
theorem N5 {o:Obj} {sa owner:String} {Q:Unit->Shared->Prop} (SF:StoreFacts "Exception" gE sa owner) (cC:h.get? C=some (excClassObj nm q C N bs gE true sn sub ab col dd k0 k1 k2 k3 k5 newId)) (cN:h.Ns N mN) (ns:mN "__setattr__"=none) (no:mN name=none)
  (Gb:typeLookup (.type "Exception") name=pure none) (cx:h.get? x=some o) (oC:o.cls=.ref C) (Et:∀ c,o.data ≠ .cls c) (od:o.dict=none)
  (k:∀ h' tk',h'.get? x=some { o with dict:=some h.objs.size }->h'.Ns1 h.objs.size (fun y=>if y=name then some v else none)->(∀ b u,b ≠ x->h.get? b=some u->h'.get? b=some u)->Q () ⟨h',g,d,tk',os⟩) :
  wpAny (model prog w) A (setAttr (.ref x) name v) Q E ⟨h,g,d,t,os⟩:=by
 have bd:=SF.slot.bind (.ref x);unfold setAttr callSpecial? specialOf
 repeat (any_goals (first | (with_reducible refine wpAny_typeLookup_exc cC cN SF.mro SF.slot.lookup ?_;rw [ns]) | (with_reducible refine wpAny_loadPart_at cx ?_;rw [oC]) | assumption | wp_step))
 refine N4 SF cC cN no Gb cx oC Et od fun h' tk' x1 x2 x3=>?_;have z:=k h' tk' x1 x2 x3
 repeat (any_goals (first | assumption | wp_step))
end
end XL
namespace L2
open PySem PySem.Spec PyProof.Rows XL
def uP (P:Program) (w:World):MU:=fun outer H s E e s'=>
 ∃ (a T:Addr) (C dx:Addr) (H':Hp),e=.ref a/\s'.os=s.os/\AllBare s'.gens/\Un (frs outer) [] H H' s.heap s'.heap/\vS P w H' s'.heap /\
   MW s'.heap a (.ref C) (some dx) (some (T,.none))/\(∀ b ∈ [a,T],H' b=none/\s.heap.get? b=none)/\E (.ref C) (some dx) H'
structure Own (X:Cx):Prop where
 Vq:X.stack=X.env::X.outer
 fr:X.env.frame=some X.env.locals
def Ql (X:Cx) (pins:List (Addr×Obj)) (H:Hp) (l:List Addr):Prop:=∀ b ∈ l,H b=none/\X.BB.heap.get? b=none/\∀ p ∈ X.pn++pins,p.1 ≠ b
section
variable {X:Cx} {pins:List (Addr×Obj)} {σ:St} {H H':Hp} {s:Shared} {h':Heap} {a:Addr} {cls:Value} {dx:Option Addr} {E:Value->Shared->Prop} {Q:Unit->Shared->Prop}
theorem Inv.X7 {g':Array GenState} {t':Nat} {d':Drawn} {ch:List Addr} (I:Inv X pins σ H s)
   (hch:∀ b ∈ ch,X.BB.heap.get? b=none/\b ≠ X.env.locals/\(∀ x c,X.env.cells.lookup x=some c->c ≠ b)/\∀ p ∈ X.pn++pins,p.1 ≠ b)
   (keep:∀ b o,b ≠ X.env.locals->b ∉ X.fs->b ∉ ch->s.heap.get? b=some o->H b=none->h'.get? b=some o)
   (slot:∀ b o,b ≠ X.env.locals->b ∈ X.fs->b ∉ ch->s.heap.get? b=some o->H b=none->∃ sl,h'.get? b=some { o with slots:=sl })
   (there:∀ b o,b ∉ ch->s.heap.get? b=some o->∃ o',h'.get? b=some o')
   (ns:∀ m,s.heap.Ns X.env.locals m->h'.Ns X.env.locals m) (hok:vS X.prog X.w H h') (hg:AllBare g') :
   Inv X pins σ H { s with heap:=h',gens:=g',drawn:=d',toks:=t' }:=by
 have Vr:∀ b o,X.BB.heap.get? b=some o->b ≠ X.env.locals:=fun b o e=>Nat.ne_of_lt (Nat.lt_of_lt_of_le (Heap.lt_size e) I.ok.above);have Xu:∀ b o,X.BB.heap.get? b=some o->b ∉ ch:=fun b o e hb=>by rw [(hch b hb).1] at e;cases e
 have cellK:∀ x c,X.env.cells.lookup x=some c->∀ v,s.heap.IsCell c v->h'.IsCell c v:=fun x c e v ⟨o,ho,hd⟩=>by
   have Xv:c ∉ ch:=fun z=>(hch c z).2.2.1 x c e rfl;by_cases hc:c ∈ X.fs
   . obtain ⟨sl,q⟩:=slot c o (I.Vk x c e) hc Xv ho (I.kJ x c e)
     exact ⟨_,q,hd⟩
   . exact ⟨o,keep c o (I.Vk x c e) hc Xv ho (I.kJ x c e),hd⟩
 refine ⟨I.ok,I.os,hg,⟨fun b o e n hb hx=>?_,fun b o e n hb hx=>?_,I.base.free,fun b o e hx=>?_,I.base.tups,I.base.zj,I.base.BC⟩,?_,fun x c e=>?_,I.free,I.kJ,fun p hp=>?_,hok,I.len⟩
 . exact keep b o (Vr b o e) hb (Xu b o e) (I.base.keep b o e n hb hx) (I.base.free b o e n hx)
 . obtain ⟨sl,e1⟩:=I.base.slot b o e n hb hx
   obtain ⟨sl',e2⟩:=slot b _ (Vr b o e) hb (Xu b o e) e1 (I.base.free b o e n hx);exact ⟨sl',e2⟩
 . obtain ⟨o',e1⟩:=I.base.there b o e hx
   exact there b o' (Xu b o e) e1
 . obtain ⟨m,hn,hl⟩:=I.loc
   refine ⟨m,ns m hn,fun i x v e1 e2 e3=>?_⟩;obtain ⟨u,r,l⟩:=hl i x v e1 e2 e3;refine ⟨u,r,?_⟩;rcases l with l | ⟨k,c,e,z⟩
   . exact .inl l
   . exact .inr ⟨k,c,e,cellK x c e _ z⟩
 . obtain ⟨v,z⟩:=I.cell x c e
   exact ⟨v,cellK x c e v z⟩
 . obtain ⟨e,n,ne,nf,d⟩:=I.pin p hp
   exact ⟨keep p.1 p.2 ne nf (fun z=>(hch p.1 z).2.2.2 p hp rfl) e n,n,ne,nf,d⟩
theorem Inv.apart (I:Inv X pins σ H s) {b:Addr} {o:Obj} {ws:Array Value} (ho:s.heap.get? b=some o) (hd:o.data=.fields ws):b ≠ X.env.locals/\∀ x c,X.env.cells.lookup x=some c->c ≠ b:=by
 refine ⟨fun q=>?_,fun x c e q=>?_⟩
 . obtain ⟨m,⟨ol,es,ep,hl,hdl,_⟩,_⟩:=I.loc
   rw [q,hl] at ho;cases ho;rw [hdl] at hd;cases hd
 . obtain ⟨v,oc,hc,hdc⟩:=I.cell x c e
   rw [q,ho] at hc;cases hc;rw [hd] at hdc;cases hdc
theorem Lh {h h':Heap} {L:Addr} {m:Str->Option Value} (k:∀ o,h.get? L=some o->∃ sl,h'.get? L=some { o with slots:=sl }) (n:h.Ns L m):h'.Ns L m:=by
 obtain ⟨o,es,ep,ho,hd,r⟩:=n;obtain ⟨sl,q⟩:=k o ho;exact ⟨_,es,ep,q,hd,r⟩
theorem Inv.YK (I:Inv X pins σ H s) {b:Addr} (h:s.heap.get? b=none) (hx:X.ex=[]):X.BB.heap.get? b=none/\∀ p ∈ X.pn++pins,p.1 ≠ b:=by
 refine ⟨?_,fun p hp q=>?_⟩
 . cases q:X.BB.heap.get? b with
   | none=>rfl
   | some o=>
     obtain ⟨o',e⟩:=I.base.there b o q (by rw [hx];simp);rw [h] at e;cases e
 . have e:=(I.pin p hp).1
   rw [q,h] at e;cases e
theorem Inv.noted (I:Inv X pins σ H s) (W:Own X) (Qm:X.ex=[]) {t:Option (Addr×Value)} (hx:MW s.heap a cls dx t) (hfl:∀ T fl,t=some (T,fl)->fl=.none\/fl=rawInt X.env.locals) (hH:Ql X pins H (heads a t))
   (k:∀ h' T,Inv X pins σ H { s with heap:=h' }->MW h' a cls dx (some (T,rawInt X.env.locals))->Ql X pins H [a,T]->Q () { s with heap:=h' }) :
   wpAny (model X.prog X.w) X.A (noteFrame (.ref a) X.env) Q E s:=by
 have hst:=I.stack;have hfr:=I.ok.frames;have hfree:=I.I0;rw [W.Vq] at hst hfr hfree;refine VG hfr hst W.fr hx hfl fun h' T x1 x2 x3=>?_;have hL:X.env.locals ∈ (X.env::X.outer).filterMap (·.frame):=by rw [List.filterMap_cons,W.fr];exact List.mem_cons_self
 have hfs:∀ b,b ∈ (X.env::X.outer).filterMap (·.frame) ↔ b=X.env.locals\/b ∈ X.fs:=fun b=>by rw [List.filterMap_cons,W.fr];exact List.mem_cons
 have tr:∀ b u,H b=some u->b ∉ (X.env::X.outer).filterMap (·.frame)/\b ∉ heads a t:=fun b u e=>⟨fun m=>(by rw [hfree b m] at e;cases e),fun m=>(by rw [(hH b m).1] at e;cases e)⟩;have hok:vS X.prog X.w H h':=fun b u e=>(I.hok b u e).stay (fun c v hc q=>by
   have z:∃ w,H c=some w:=by
     rcases hc with hc | hc
     . exact ⟨u,hc ▸ e⟩
     . exact ⟨_,hc⟩
   obtain ⟨w',z⟩:=z;exact x3.keep c v (tr c w' z).1 (tr c w' z).2 q) (fun _ q=>q) fun _ _ q=>q
 have I':Inv X pins σ H { s with heap:=h' }:=by
   refine I.X7 (g':=s.gens) (t':=s.toks) (d':=s.drawn) (ch:=heads a t) (fun b hb=>?_) (fun b o n1 n2 n3 e _=>?_) (fun b o n1 n2 _ e _=>?_) (fun b o _ e=>x3.there b o e)
     (fun m hm=>Lh (fun o q=>x3.slot _ o hL q) hm) hok I.bare
   . obtain ⟨o,ws,ho,hd⟩:=hx.rec b hb
     obtain ⟨z1,z2⟩:=I.apart ho hd;exact ⟨(hH b hb).2.1,z1,z2,(hH b hb).2.2⟩
   . exact x3.keep b o (fun m=>by rcases (hfs b).mp m with q | q;exact n1 q;exact n2 q) n3 e
   . exact x3.slot b o ((hfs b).mpr (.inr n2)) e
 refine k h' T I' x1 fun b hb=>?_;rcases (show b=a\/b=T by simpa using hb) with q | q
 . rw [q];exact hH a Qi
 . rw [q]
   rcases x2 with m | m
   . exact hH T m
   . have z:=Heap.get?_none_of_le m
     obtain ⟨z1,z2⟩:=I.YK z Qm;exact ⟨I.hok.fresh m,z1,z2⟩
theorem Inv.flown (I:Inv X pins σ H s) {T:Addr} {fl:Value} {fr:Option Addr} (hx:MW s.heap a cls dx (some (T,fl))) (hN:Ql X pins H [a,T])
   (k:∀ h',Inv X pins σ H { s with heap:=h' }->MW h' a cls dx (some (T,fr.elim Value.none fun f=>rawInt f))->Q () { s with heap:=h' }) :
   wpAny (model X.prog X.w) X.A (setFlight (.ref a) fr) Q E s:=by
 obtain ⟨oT,ts,hoT,RK⟩:=hx.rec T (by simp [heads]);obtain ⟨nT,zT,pT⟩:=hN T (by simp);refine Qj hx fun h' x1 x2 x3 x4=>k h' ?_ x1;have ap:=I.apart hoT RK;have kp:∀ b o,b ≠ T->s.heap.get? b=some o->h'.get? b=some o:=fun b o n e=>by rw [x2 b n];exact e
 have tr:∀ b u,H b=some u->b ≠ T:=fun b u e q=>by rw [q,nT] at e;cases e
 refine I.X7 (g':=s.gens) (t':=s.toks) (d':=s.drawn) (ch:=[T]) (fun b hb=>?_) (fun b o _ _ n e _=>kp b o (fun q=>n (by simp [q])) e) (fun b o _ _ n e _=>⟨o.slots,kp b o (fun q=>n (by simp [q])) e⟩)
   (fun b o n e=>⟨o,kp b o (fun q=>n (by simp [q])) e⟩) (fun m hm=>Lh (fun o q=>⟨o.slots,kp _ o (Ne.symm ap.1) q⟩) hm) (fun b u e=>?_) I.bare
 . rw [show b=T by simpa using hb]
   exact ⟨zT,ap.1,ap.2,pT⟩
 . refine (I.hok b u e).stay (fun c v hc q=>kp c v ?_ q) (fun _ q=>q) fun _ _ q=>q
   rcases hc with hc | hc
   . exact tr c u (hc ▸ e)
   . exact tr c _ hc
theorem Inv.back {P:Program} {w:World} {EX:XK} {e:Value} {s':Shared} (I:Inv X pins σ H s) (Qm:X.ex=[]) (h:uP X.prog X.w X.stack H s EX e s') :
  ∃ a T C dx H',e=.ref a/\Inv X pins σ H' s'/\MW s'.heap a (.ref C) (some dx) (some (T,.none))/\Ql X pins H' [a,T]/\EX (.ref C) (some dx) H':=by
 obtain ⟨a,T,C,dx,H',rfl,ho,hb,un,hok,x,hH,hE⟩:=h;obtain ⟨hh,g,d,tk,os⟩:=s';obtain rfl:os=s.os:=ho;refine ⟨a,T,C,dx,H',rfl,I.call (h':=hh) (g':=g) (d':=d) (t':=tk) (ch:=[]) un hok hb (fun b z=>absurd z (by simp)),x,fun b hb=>?_,hE⟩;obtain ⟨z1,z2⟩:=I.YK (hH b hb).2 Qm;exact ⟨(hH b hb).1,z1,z2⟩
end
section
variable {P:Program} {w:World} {K:Zqq} {mg:Str->Option Value} {base:Heap} {N:List Str} {qual:Str} {scope:Scope} {f:Addr} {cd:Value} {A:Around} {outer:List Env} {s0:Shared} {H0:Hp} {E:XK}
theorem YL:Own (uT (uP P w) P w K mg base N qual scope f cd A outer s0 H0 E):=⟨rfl,rfl⟩
theorem SH {pins:List (Addr×Obj)} {σ:St} {H:Hp} {s:Shared} {a C dx:Addr} {t:Option (Addr×Value)} (I:Inv (uT (uP P w) P w K mg base N qual scope f cd A outer s0 H0 E) pins σ H s) (hx:MW s.heap a (.ref C) (some dx) t)
  (hfl:∀ T fl,t=some (T,fl)->fl=.none) (hH:Ql (uT (uP P w) P w K mg base N qual scope f cd A outer s0 H0 E) pins H (heads a t)) (hE:E (.ref C) (some dx) H) :
  (uT (uP P w) P w K mg base N qual scope f cd A outer s0 H0 E).xe (.ref a) s:=by
 show wpAny _ _ (leaving _ _) _ _ s;unfold leaving;refine wpAny_bind (I.noted YL rfl hx (fun T fl e=>.inl (hfl T fl e)) hH fun h1 T I1 x1 nw=>?_);refine I1.flown (fr:=none) x1 nw fun h2 I2 x2=>?_;exact ⟨a,T,C,dx,H,rfl,I2.os,I2.bare,I2.base,I2.hok,x2,fun b hb=>⟨(nw b hb).1,(nw b hb).2.1⟩,hE⟩
theorem c7:Passes (uP P w) (uT (uP P w) P w K mg base N qual scope f cd A outer s0 H0 E) E:=by
 intro pins σ H s e s' I h;obtain ⟨a,T,C,dx,H',rfl,I',x,nw,hE⟩:=I.back (P:=P) (w:=w) rfl h;exact SH I' x (fun T fl e=>by cases e;rfl) nw hE
theorem IU:PassesOwn (model P w) (uT (uP P w) P w K mg base N qual scope f cd A outer s0 H0 E).A (uT (uP P w) P w K mg base N qual scope f cd A outer s0 H0 E).env (uT (uP P w) P w K mg base N qual scope f cd A outer s0 H0 E).xe:=PassesOwn.leaving
theorem k8.K9 {x qual:Str} {st:Stmt} {f:Addr} {fd:FuncData} {N ps:List Str} {k:Nat} {sp:Sp} (F:k8 K x qual st f fd) (S:aQ N ps (aF st)) (len:∀ vs H Q E,sp vs H Q E->vs.length=ps.length)
   (hbody:∀ (cdv:Value) (A:Around) (outer:List Env) (s:Shared) (H:Hp) (vs:List V) (Q:VK) (E:XK),dG k (A.deeper (envOfC qual (aF st) s.heap.objs.size f cdv))->sp vs H Q E->
     ∃ t,KH (uT (uP P w) P w K mg base N qual (aF st) f cdv A outer s H E) (tu st) t/\t { nx:=fun _ H'=>Q .non H',rt:=Q } (start N vs) H):bF P w K mg base (uP P w) (k+1) f fd ps sp:=by
 obtain ⟨oc,od,kV,doc,pm,an,cdv,ct,osl,rfl,lk,hcd⟩:=F.ex;exact X4 lk hcd S len fun A outer s H vs Q E hr Np=>hbody cdv A outer s H vs Q E hr Np
end
end L2
namespace L2
open PySem PySem.Spec PyProof.Rows XL
theorem dY.there {P:Program} {w:World} {H:Hp} {h:Heap} {a:Addr} {o:HO} (x:dY P w H h a o):∃ ob,h.get? a=some ob:=by
 cases o with
 | lst xs=>obtain ⟨_,_,_,_,e⟩:=x;exact ⟨_,e⟩
 | tup xs=>obtain ⟨_,_,_,_,e,_⟩:=x;exact ⟨_,e⟩
 | dK kvs=>obtain ⟨_,_,_,_,o,_,_,e,_⟩:=x;exact ⟨_,e⟩
 | dT kvs=>obtain ⟨_,_,_,_,o,_,_,e,_⟩:=x;exact ⟨_,e⟩
 | set S n=>obtain ⟨o,_,_,_,e,_⟩:=x;exact ⟨_,e⟩
 | ins C dx fs=>obtain ⟨_,_,_,e,_⟩:=x;exact ⟨_,e⟩
 | own y=>exact x
 | xd fs=>obtain ⟨_,⟨_,_,_,e,_⟩,_⟩:=x;exact ⟨_,e⟩
 | Xp lo hi=>obtain ⟨_,_,_,e⟩:=x;exact ⟨_,e⟩
 | pZ ob u=>obtain ⟨e,_⟩:=x;exact ⟨_,e⟩
 | Xq ps=>exact ⟨_,(show h.get? a=some _ from x)⟩
 | met f y=>exact ⟨_,(show h.get? a=some _ from x)⟩
 | ext φ=>obtain ⟨_,e,_⟩:=x;exact e
structure Qn (K:Zqq) (C fI:Addr) (names:List Str):Prop where
 ex:∃ (nm q:Str) (N:Addr) (bs:List Value) (sn:List Str) (sub:List Value) (ab:Bool) (col:Option Bool) (dd:Option Addr) (k0 k1 k2 k3 k5:Option Value),
   K.lookup C=some (excClassObj nm q C N bs gE true sn sub ab col dd k0 k1 k2 k3 k5 "Exception.__new__")/\PySem.W.nsOkIn K N=true/\PySem.W.nsIn K N "__init__"=some (some (.ref fI))/\∀ x ∈ names,PySem.W.nsIn K N x=some none
 fn:PySem.W.isFn K (.ref fI)=true
 kp:PySem.W.keepIn K (.ref C)=true
 sa:PySem.W.findIn K (.ref C) "__setattr__"=some (some (.builtin "object.__setattr__"))
 ga:("__getattribute__":Str) ∈ names
 gh:("__getattr__":Str) ∈ names
 ss:("__setattr__":Str) ∈ names
theorem N6 {K:Zqq} {h:Heap} {N:Addr} {m:Str->Option Value} {x:Str} {v:Value} (X:K.In h) (G:h.Ns N m) (e:PySem.W.nsIn K N x=some (some v)):m x=some v:=by
 obtain ⟨o,es,ep,ho,hd,_,hf⟩:=G;cases hk:K.lookup N with
 | none=>simp [PySem.W.nsIn,hk] at e
 | some ob=>
  have z:=X _ _ hk;rw [ho] at z;cases z;obtain ⟨c,dd,dt,sl⟩:=o;have hd:dt=.dict es ep:=hd;subst hd;simp only [PySem.W.nsIn,hk] at e;cases hq:es.toList.find? (·.key.isStr x) with
  | none=>rw [hq] at e;split at e<;>simp_all
  | some en=>
   rw [hq] at e;have e:en.val=v:=by simpa using e
   rw [<- hf];unfold nsFind findBy;rw [<- Array.find?_toList,hq];exact congrArg some e
theorem Qn.at {K:Zqq} {C fI:Addr} {names:List Str} (c:Qn K C fI names) {h:Heap} (X:K.In h) :
   ∃ (nm q:Str) (N:Addr) (bs:List Value) (sn:List Str) (sub:List Value) (ab:Bool) (col:Option Bool) (dd:Option Addr) (k0 k1 k2 k3 k5:Option Value) (mN:Str->Option Value),
     h.get? C=some (excClassObj nm q C N bs gE true sn sub ab col dd k0 k1 k2 k3 k5 "Exception.__new__")/\h.Ns N mN/\mN "__init__"=some (.ref fI)/\∀ x ∈ names,mN x=none:=by
 obtain ⟨nm,q,N,bs,sn,sub,ab,col,dd,k0,k1,k2,k3,k5,l,ok,hi,hn⟩:=c.ex;have G:h.Ns N (h.nsMap N):=.of_isNs (PySem.W.isNs_of_in X ok);exact ⟨nm,q,N,bs,sn,sub,ab,col,dd,k0,k1,k2,k3,k5,_,X _ _ l,G,N6 X G hi,fun x hx=>PySem.W.ns_none_of X G (hn x hx)⟩
theorem Qn.init {K:Zqq} {C fI:Addr} {names:List Str} (c:Qn K C fI names) {h:Heap} (X:K.In h):∃ o,h.get? fI=some o/\o.cls=.type "function":=by
 have f:=c.fn;unfold PySem.W.isFn PySem.W.typeIn at f;dsimp only at f;cases hk:K.lookup fI with
 | none=>rw [hk] at f;simp at f
 | some o=>
  rw [hk] at f;exact ⟨o,X _ _ hk,by simpa using f⟩
def XO (a C:Addr) (d:Option Addr):HO:=.ext fun h=>∃ t,h.get? a=some ⟨.ref C,d,.fields #[.ref t,.none,.none,.none,.bool false,.none],#[]⟩
def XR (a C dx:Addr):HO:=.ext fun h=>∃ oe,h.get? a=some oe/\oe.cls=.ref C/\oe.dict=some dx/\∀ c,oe.data ≠ .cls c
section
variable {P:Program} {w:World} {H:Hp} {h:Heap} {a C dx:Addr} {d:Option Addr}
theorem XO.ok {t:Addr} (e:h.get? a=some ⟨.ref C,d,.fields #[.ref t,.none,.none,.none,.bool false,.none],#[]⟩):dY P w H h a (XO a C d):=
 ⟨⟨t,e⟩,⟨_,e⟩,fun h1 h2 ⟨t,q⟩ k=>⟨t,k _ q⟩⟩
theorem XR.ok {oe:Obj} (e:h.get? a=some oe) (h1:oe.cls=.ref C) (h2:oe.dict=some dx) (h3:∀ c,oe.data ≠ .cls c):dY P w H h a (XR a C dx):=
 ⟨⟨oe,e,h1,h2,h3⟩,⟨_,e⟩,fun g1 g2 ⟨o,q,r⟩ k=>⟨o,k _ q,r⟩⟩
end
def drop (H:Hp) (a:Addr):Hp:=fun b=>if b=a then none else H b
theorem DF {H:Hp} {a b:Addr} (h:b ≠ a):drop H a b=H b:=if_neg h
theorem BK {H:Hp} {a:Addr}:drop H a a=none:=if_pos rfl
section
variable {X:Cx} {pins:List (Addr×Obj)} {σ:St} {H:Hp} {s:Shared} {a C dx fI:Addr} {names:List Str} {E:Value->Shared->Prop} {Q:Unit->Shared->Prop} {A:Around}
theorem Inv.dropped {φ:Heap->Prop} (I:Inv X pins σ H s) (e:H a=some (.ext φ)):Inv X pins σ (drop H a) s:=by
 have sub:∀ b u,drop H a b=some u->H b=some u/\b ≠ a:=fun b u q=>by
   by_cases z:b=a
   . rw [z,BK] at q;cases q
   . rw [DF z] at q;exact ⟨q,z⟩
 have no:∀ b,H b=none->drop H a b=none:=fun b q=>by
   by_cases z:b=a
   . rw [z,BK]
   . rw [DF z];exact q
 have kp:∀ b u,H b=some u->(∀ φ,u ≠ .ext φ)->drop H a b=some u:=fun b u q n=>by
   rw [DF (fun z=>by rw [z,e] at q;cases q;exact n φ rfl)];exact q
 refine ⟨I.ok,I.os,I.bare,⟨I.base.keep,I.base.slot,fun b o q n hx=>no b (I.base.free b o q n hx),I.base.there,fun b xs q=>kp b _ (I.base.tups b xs q) (fun _ z=>by cases z),fun b o u q=>kp b _ (I.base.zj b o u q) (fun _ z=>by cases z),
   fun b ps q=>?_⟩,I.loc,I.cell,no _ I.free,fun x c q=>no c (I.kJ x c q),fun p hp=>?_,fun b u q=>?_,I.len⟩
 . obtain ⟨more,z⟩:=I.base.BC b ps q
   exact ⟨more,kp b _ z (fun _ z=>by cases z)⟩
 . obtain ⟨z1,z2,z3⟩:=I.pin p hp
   exact ⟨z1,no _ z2,z3⟩
 . obtain ⟨q1,q2⟩:=sub b u q
   exact (I.hok b u q1).stay (fun _ _ _ z=>z) (fun c z=>kp c _ z (fun _ z=>by cases z)) fun c xs z=>kp c _ z (fun _ z=>by cases z)
theorem Inv.tracked {φ:Heap->Prop} (I:Inv X pins σ H s) (n:H a=none) (nw:X.BB.heap.get? a=none) (nl:a ≠ X.env.locals) (nc:∀ x c,X.env.cells.lookup x=some c->c ≠ a) (np:∀ p ∈ X.pn++pins,p.1 ≠ a)
   (ok:dY X.prog X.w (upd H a (.ext φ)) s.heap a (.ext φ)):Inv X pins σ (upd H a (.ext φ)) s:=by
 have kp:∀ b u,H b=some u->upd H a (.ext φ) b=some u:=fun b u q=>by rw [aq (ay q n)];exact q
 have no:∀ b,H b=none->b ≠ a->upd H a (.ext φ) b=none:=fun b q z=>by rw [aq z];exact q
 refine ⟨I.ok,I.os,I.bare,⟨I.base.keep,I.base.slot,fun b o q m hx=>no b (I.base.free b o q m hx) (fun z=>by rw [z,nw] at q;cases q),I.base.there,fun b xs q=>kp b _ (I.base.tups b xs q),fun b o u q=>kp b _ (I.base.zj b o u q),
   fun b ps q=>?_⟩,I.loc,I.cell,no _ I.free (Ne.symm nl),fun x c q=>no c (I.kJ x c q) (nc x c q),fun p hp=>?_,fun b u q=>?_,I.len⟩
 . obtain ⟨more,z⟩:=I.base.BC b ps q
   exact ⟨more,kp b _ z⟩
 . obtain ⟨z1,z2,z3⟩:=I.pin p hp
   exact ⟨z1,no _ z2 (np p hp),z3⟩
 . by_cases z:b=a
   . subst z;rw [ai] at q;cases q;exact ok
   . rw [aq z] at q
     exact (I.hok b u q).stay (fun _ _ _ z=>z) (fun c z=>kp c _ z) fun c xs z=>kp c _ z
theorem Li {fs:List (Str×V)} {mA:Str->Option Value} (r:∀ f,sO (fs.lookup f) (mA f)):PySem.Within mA (fs.map (·.1)):=fun f hf=>by
 cases q:fs.lookup f with
 | none=>
  have z:=r f
  rw [q] at z
  exact absurd (sO.none_of z) hf
 | some v=>exact List.mem_map.mpr ⟨(f,v),PySem.mem_of_lookup q,rfl⟩
theorem YM {f:Str} {y:V} {u:Value} (I:Inv X pins σ H s) (c:Qn X.K C fI names) (e:H a=some (XO a C none)) (hf:f ∈ names) (Gb:typeLookup (.type "Exception") f=pure none) (ry:RelV y u)
   (k:∀ dx s',H dx=none->Inv X pins σ (upd (upd H dx (.xd [(f,y)])) a (XO a C (some dx))) s'->Q () s'):wpAny (model X.prog X.w) A (setAttr (.ref a) f u) Q E s:=by
 obtain ⟨⟨t,ea⟩,_,_⟩:=(show dY X.prog X.w H s.heap a (XO a C none) from I.hok a _ e);obtain ⟨nm,q,N,bs,sn,sub,ab,col,dd,k0,k1,k2,k3,k5,mN,cC,cN,_,hn⟩:=c.at I.zk;obtain ⟨hh,g,d,tk,os⟩:=s;have ea:hh.get? a=some ⟨.ref C,none,.fields #[.ref t,.none,.none,.none,.bool false,.none],#[]⟩:=ea;refine N5 PySem.F.store_Exception cC cN (hn _ c.ss) (hn f hf) Gb ea rfl (fun _ z=>by cases z) rfl fun h' tk' x1 x2 x3=>?_;have nd:H hh.objs.size=none:=I.hok.fresh (Nat.le_refl _);have na:hh.objs.size ≠ a:=Nat.ne_of_gt (Heap.lt_size ea);refine k hh.objs.size _ nd (I.un (h':=h') (t':=tk') ⟨fun b o z n _ _=>x3 b o (fun w=>by rw [w,e] at n;cases n) z,fun b o z n _ _=>⟨o.slots,x3 b o (fun w=>by rw [w,e] at n;cases n) z⟩,fun b o z n _=>?_,fun b o z _=>?_,fun b xs z=>?_,fun b o v z=>?_,fun b ps z=>?_⟩ ?_)
 . rw [aq (fun w=>by rw [w,e] at n;cases n),aq (Nat.ne_of_lt (Heap.lt_size z))];exact n
 . by_cases w:b=a
   . rw [w];exact ⟨_,x1⟩
   . exact ⟨o,x3 b o w z⟩
 . rw [aq (fun w=>by rw [w,e] at z;cases z),aq (ay z nd)];exact z
 . rw [aq (fun w=>by rw [w,e] at z;cases z),aq (ay z nd)];exact z
 . exact ⟨#[],by rw [aq (fun w=>by rw [w,e] at z;cases z),aq (ay z nd),z];simp⟩
 . intro b v z
   by_cases wa:b=a
   . subst wa;rw [ai] at z;cases z;exact XO.ok x1
   . rw [aq wa] at z
     by_cases wd:b=hh.objs.size
     . subst wd
       rw [ai] at z;cases z;refine ⟨_,x2,fun g=>?_⟩;by_cases w:g=f
       . subst w;simp [sO];exact ry
       . rw [if_neg w]
         have:([(f,y)]:List (Str×V)).lookup g=none:=by
           rw [List.lookup_cons];have:(g==f)=false:=by simpa using w
           rw [this];rfl
         rw [this];trivial
     . rw [aq wd] at z
       refine (I.hok b v z).stay (fun c' v' hc q'=>x3 c' v' (fun w=>?_) q') (fun c' q'=>?_) fun c' xs q'=>?_
       . rcases hc with hc | hc
         . exact wa (hc ▸ w)
         . rw [w,e] at hc;cases hc
       . rw [aq (fun w=>by rw [w,e] at q';cases q'),aq (ay q' nd)];exact q'
       . rw [aq (fun w=>by rw [w,e] at q';cases q'),aq (ay q' nd)];exact q'
theorem YN {f:Str} {y:V} {u:Value} {fs:List (Str×V)} (I:Inv X pins σ H s) (c:Qn X.K C fI names) (e:H a=some (XO a C (some dx))) (ed:H dx=some (.xd fs)) (hl:fs.length < 1000) (hf:f ∈ names) (Gb:typeLookup (.type "Exception") f=pure none) (ry:RelV y u)
   (k:∀ s',Inv X pins σ (upd H dx (.xd (gf f y fs))) s'->Q () s'):wpAny (model X.prog X.w) A (setAttr (.ref a) f u) Q E s:=by
 obtain ⟨⟨t,ea⟩,_,_⟩:=(show dY X.prog X.w H s.heap a (XO a C (some dx)) from I.hok a _ e);obtain ⟨mA,n1,rl⟩:=(show dY X.prog X.w H s.heap dx (.xd fs) from I.hok dx _ ed);obtain ⟨nm,q,N,bs,sn,sub,ab,col,dd,k0,k1,k2,k3,k5,mN,cC,cN,_,hn⟩:=c.at I.zk;have da:dx ≠ a:=fun w=>by rw [w,e] at ed;cases ed
 have aC:a ≠ C:=fun w=>by rw [w,cC] at ea;cases ea
 obtain ⟨hh,g,d,tk,os⟩:=s;refine store_attr PySem.F.store_Exception cC cN (hn _ c.ss) (hn f hf) Gb aC ⟨_,ea,rfl,(fun _ z=>by cases z),.inr ⟨dx,rfl,da,n1⟩⟩ (fun h' tk' x1 x2 x3=>?_) (Li rl) (by rw [List.length_map,sizeLine_eq];omega);obtain ⟨o1,y1,y2,y3,y4,y5⟩:=x3 _ ea;have y6:=y5 dx rfl;have eo:o1=⟨.ref C,some dx,.fields #[.ref t,.none,.none,.none,.bool false,.none],#[]⟩:=by
   obtain ⟨c1,d1,t1,s1⟩:=o1;dsimp only at y2 y3 y4 y6;rw [y2,y3,y4,y6]
 subst eo;have n2:h'.Ns1 dx (fun y'=>if y'=f then some u else mA y'):=by
   obtain ⟨o2,z1,z2,z3,z4⟩:=x1;rw [y1] at z1;cases z1;rcases z4 with ⟨z,_⟩ | ⟨d2,z,_,z5⟩
   . cases z
   . cases z;exact z5
 have kp:∀ b o,b ≠ dx->hh.get? b=some o->h'.get? b=some o:=fun b o nd z=>by
   by_cases w:b=a
   . rw [w] at z ⊢
     rw [ea] at z;cases z;exact y1
   . exact x2 b o w (fun o0 d0 q1 q2=>by rw [ea] at q1;cases q1;cases q2;exact nd) z
 have thr:∃ o,h'.get? dx=some o:=let ⟨o,_,_,z,_⟩:=n2;⟨o,z⟩;refine k _ (I.un (h':=h') (t':=tk') ⟨fun b o z n _ _=>kp b o (fun w=>by rw [w,ed] at n;cases n) z,fun b o z n _ _=>⟨o.slots,kp b o (fun w=>by rw [w,ed] at n;cases n) z⟩,fun b o z n _=>?_,fun b o z _=>?_,fun b xs z=>?_,fun b o v z=>?_,fun b ps z=>?_⟩ ?_)
 . rw [aq (fun w=>by rw [w,ed] at n;cases n)];exact n
 . by_cases w:b=dx
   . rw [w];exact thr
   . exact ⟨o,kp b o w z⟩
 . rw [aq (fun w=>by rw [w,ed] at z;cases z)];exact z
 . rw [aq (fun w=>by rw [w,ed] at z;cases z)];exact z
 . exact ⟨#[],by rw [aq (fun w=>by rw [w,ed] at z;cases z),z];simp⟩
 . intro b v z
   by_cases wd:b=dx
   . subst wd
     rw [ai] at z;cases z;refine ⟨_,n2,fun g=>?_⟩;rw [wV];by_cases w:g=f
     . rw [if_pos w,if_pos w];exact ry
     . rw [if_neg w,if_neg w];exact rl g
   . rw [aq wd] at z
     refine (I.hok b v z).stay (fun c' v' hc q'=>kp c' v' (fun w=>?_) q') (fun c' q'=>?_) fun c' xs q'=>?_
     . rcases hc with hc | hc
       . exact wd (hc ▸ w)
       . rw [w,ed] at hc;cases hc
     . rw [aq (fun w=>by rw [w,ed] at q';cases q')];exact q'
     . rw [aq (fun w=>by rw [w,ed] at q';cases q')];exact q'
theorem aa8 {f:Str} {v:V} {b:Bool} {fs:List (Str×V)} {Q:Value->Shared->Prop} (I:Inv X pins σ H s) (c:Qn X.K C fI names) (e:H a=some (XR a C dx)) (ed:H dx=some (.xd fs)) (l:fs.lookup f=some v) (hf:f ∈ names) (Gb:typeLookup (.type "Exception") f=pure none)
  (k:∀ u s',Inv X pins σ H s'->RelV v u->Q u s'):wpAny (model X.prog X.w) A (getAttr (.ref a) f b) Q E s:=by
 obtain ⟨⟨oe,ea,e1,e2,e3⟩,_,_⟩:=(show dY X.prog X.w H s.heap a (XR a C dx) from I.hok a _ e);obtain ⟨mA,n1,rl⟩:=(show dY X.prog X.w H s.heap dx (.xd fs) from I.hok dx _ ed);obtain ⟨nm,q,N,bs,sn,sub,ab,col,dd,k0,k1,k2,k3,k5,mN,cC,cN,_,hn⟩:=c.at I.zk;have da:dx ≠ a:=fun w=>by rw [w,e] at ed;cases ed
 obtain ⟨u,hu,ru⟩:=sO.some_of (v:=v) (o:=mA f) (by rw [<- l];exact rl f);obtain ⟨hh,g,d,tk,os⟩:=s;exact SG cC cN (hn _ c.ga) (hn _ c.gh) (hn f hf) Gb ⟨oe,ea,e1,e3,.inr ⟨dx,e2,da,n1⟩⟩ hu (PySem.W.handedOut_of (Hu ru)) (k u _ (I.tok _) ru)
end
section
variable {X:Cx} {C fI:Addr} {names:List Str} {o e value:Expr} {es:List Expr} {f:Str} {pos pos' np cpos:Pos} {ta tv:TE}
def sX0 (C:Addr) (ta tv:TE) (f:Str):TS:=fun D σ H=>tv σ H fun y H1=>ta σ H1 fun x H2=>∃ a,x=.ref a/\H2 a=some (XO a C none)/\∀ dx,H2 dx=none->D.nx σ (upd (upd H2 dx (.xd [(f,y)])) a (XO a C (some dx)))
def sX1 (C:Addr) (ta tv:TE) (f:Str):TS:=fun D σ H=>tv σ H fun y H1=>ta σ H1 fun x H2=>∃ a dx fs,x=.ref a/\H2 a=some (XO a C (some dx))/\H2 dx=some (.xd fs)/\fs.length < 1000/\D.nx σ (upd H2 dx (.xd (gf f y fs)))
theorem aa9 (c:Qn X.K C fI names) (ha:PE X o ta) (hv:PE X value tv) (hf:f ∈ names) (Gb:typeLookup (.type "Exception") f=pure none) (hs:swapsWith value (some (.Attribute o f pos')) pos.line X.env=pure false) :
  PS X (.Assign [.Attribute o f pos'] value pos) (sX0 C ta tv f):=by
 intro pins s σ H D I h;refine plainObj_wpAny_Assign_Attribute (dZ (hv pins s σ H _ I h) fun u s1 ⟨y,H1,I1,ry,q⟩=>dZ (ha pins s1 σ H1 _ I1 q) fun ov s2 ⟨x,H2,I2,rx,a,ex,e1,q2⟩=>?_) hs;subst ex;obtain rfl:ov=Value.ref a:=rx;exact YM I2 c e1 hf Gb ry fun dx s3 nd I3=>⟨σ,_,I3,q2 dx nd⟩
theorem X8 (c:Qn X.K C fI names) (ha:PE X o ta) (hv:PE X value tv) (hf:f ∈ names) (Gb:typeLookup (.type "Exception") f=pure none) (hs:swapsWith value (some (.Attribute o f pos')) pos.line X.env=pure false) :
  PS X (.Assign [.Attribute o f pos'] value pos) (sX1 C ta tv f):=by
 intro pins s σ H D I h;refine plainObj_wpAny_Assign_Attribute (dZ (hv pins s σ H _ I h) fun u s1 ⟨y,H1,I1,ry,q⟩=>dZ (ha pins s1 σ H1 _ I1 q) fun ov s2 ⟨x,H2,I2,rx,a,dx,fs,ex,e1,e2,l,q2⟩=>?_) hs;subst ex;obtain rfl:ov=Value.ref a:=rx;exact YN I2 c e1 e2 l hf Gb ry fun s3 I3=>⟨σ,_,I3,q2⟩
def tXf (C:Addr) (ta:TE) (f:Str):TE:=fun σ H Q=>ta σ H fun x H1=>∃ a dx fs v,x=.ref a/\H1 a=some (XR a C dx)/\H1 dx=some (.xd fs)/\fs.lookup f=some v/\Q v H1
theorem SI (c:Qn X.K C fI names) (he:PE X e ta) (hf:f ∈ names) (Gb:typeLookup (.type "Exception") f=pure none) (hb:attributeBase e f X.env (eval e X.env)=eval e X.env):PE X (.Attribute e f pos) (tXf C ta f):=by
 intro pins s σ H Q I h;refine O1 hb (dZ (he pins s σ H _ I h) fun u s1 ⟨x,H1,I1,rx,a,dx,fs,v,ex,e1,e2,l,q⟩=>?_);subst ex;obtain rfl:u=Value.ref a:=rx;exact aa8 I1 c e1 e2 l hf Gb fun u' s2 I2 ru=>⟨v,H1,I2,ru,q⟩
def YO (C:Addr) (sp:Sp) (E:XK) (t:TA):TS:=fun _ σ H=>t σ H fun vs H1=>vs.length<=sizeLine/\∀ a,H1 a=none->
 sp (.ref a::vs) (upd H1 a (XO a C none)) (fun v H2=>v=.non/\∃ dx,H2 a=some (XO a C (some dx))/\E (.ref C) (some dx) (drop H2 a)) E0
def Raises (X:Cx) (E:XK):Prop:=∀ (pins:List (Addr×Obj)) (σ:St) (H:Hp) (s:Shared) (a C dx:Addr),Inv X pins σ H s->MW s.heap a (.ref C) (some dx) none->Ql X pins H [a]->E (.ref C) (some dx) H->X.xe (.ref a) s
theorem SK {k:Nat} {fd:FuncData} {ps:List Str} {sp:Sp} {x:Str} {t:TA} {E:XK} (Qm:X.ex=[]) (c:Qn X.K C fI names) (F:bF X.prog X.w X.K X.mg X.base mL k fI fd ps sp) (hr:dG (k+1) X.A) (hg:Gl X x) (hm:X.mg x=some (.ref C))
  (hb:Binds X.K fd ps []) (hR:Raises X E) (ha:PA X (e::es) t) (hdb:(x==("__debug__":Str))=false:=by decide) (he:starEach (e::es) X.env=(false,eval e X.env)::starEach es X.env:=by rfl) (hpl:(backTo cpos (starEach es X.env)).any (·.1)=false:=by rfl) :
  PS X (.Raise (some (.Call (.Name x np) (e::es) [] cpos)) none pos) (YO C sp E t):=by
 intro pins s σ H D I h;rw [arm_exec_Raise];obtain ⟨nm,q,N,bs,sn,sub,ab,col,dd,k0,k1,k2,k3,k5,mN,cC,_,_,_⟩:=c.at I.zk;refine wpAny_bind (wpAny_standAt (Qk (C:=C) (nm:=nm) (q:=q) (N:=N) (bs:=bs) (bm:=gE) (hdct:=true) (sn:=sn) (sub:=sub) (ab:=ab) (col:=col) (dd:=dd) (k0:=k0) (k1:=k1) (k2:=k2) (k3:=k3) (k5:=k5) (newId:="Exception.__new__") (by decide) hr.hd ?_));refine wpAny_bind (dZ (Q:=fun v s1=>∃ e t dx sl,v=.ref e/\s1.heap.get? C=some (excClassObj nm q C N bs gE true sn sub ab col dd k0 k1 k2 k3 k5 "Exception.__new__")/\s1.heap.get? e=some ⟨.ref C,dx,.fields #[.ref t,.none,.none,.none,.bool false,.none],sl⟩/\X.xe (.ref e) s1) ?_ fun v s1 z=>wpAny_bind (wpAny_standAt (wpAny_pure z)));refine wpAny_Call_Name_kw (y9 I hg hm ?_ hdb);refine PySem.W.callWith_K (h₀:=X.base) I.ok.mod.kin c.kp (dZ (ha cpos pins s σ H _ I h) fun us s1 ⟨vs,H1,I1,r,hz,q1⟩=>⟨I1.zk,?_⟩) he hpl;obtain ⟨nm',q',N',bs',sn',sub',ab',col',dd',k0',k1',k2',k3',k5',mN,cC1,cN,ci,hn⟩:=c.at I1.zk;have same:∀ s':Shared,X.K.In s'.heap->s'.heap.get? C=some (excClassObj nm q C N bs gE true sn sub ab col dd k0 k1 k2 k3 k5 "Exception.__new__"):=fun s' z=>by
  obtain ⟨_,_,_,_,_,_,_,_,_,_,_,_,_,_,l,_⟩:=c.ex;have z1:=I.zk _ _ l;rw [cC] at z1;rw [Option.some.inj z1];exact z _ _ l
 obtain ⟨oI,fi,fc⟩:=c.init I1.zk;obtain ⟨hh,g,d,tk,os⟩:=s1;show wpAny _ _ (call (.ref C) us) _ _ _;refine wpAny_call_exc_init PySem.F.excBase_Exception cC1 cN ci fi fc (fun h' ea made=>?_) (by rw [<- r.length];exact hz);obtain ⟨t0,t1,t2,t3⟩:=made.there;have nH:H1 ea=none:=by
  cases z:H1 ea with
  | none=>rfl
  | some u=>
   obtain ⟨o,w⟩:=(I1.hok ea u z).there;have w':hh.get? ea=some o:=w;rw [made.new] at w';cases w'
 obtain ⟨nw,np⟩:=I1.YK (b:=ea) made.new Qm;have e3:ea ≠ X.env.locals:=fun z=>by
  obtain ⟨m,⟨o,_,_,ho,_⟩,_⟩:=I1.loc;have ho':hh.get? X.env.locals=some o:=ho;rw [<- z,made.new] at ho';cases ho'
 have e4:∀ x c,X.env.cells.lookup x=some c->c ≠ ea:=fun x c hc z=>by
  obtain ⟨v,o,ho,_⟩:=I1.cell x c hc;have ho':hh.get? c=some o:=ho;rw [z,made.new] at ho';cases ho'
 have I2:Inv X pins σ H1 ⟨h',g,d,tk,os⟩:=I1.kept (h':=h') (t':=tk) made.keeps;have I3:Inv X pins σ (upd H1 ea (XO ea C none)) ⟨h',g,d,tk,os⟩:=I2.tracked nH nw e3 e4 np (XO.ok t1);have hq:=q1 ea nH;have r2:Vals (V.ref ea::vs) (Value.ref ea::us):=.cons rfl r;have hl:(Value.ref ea::us++[]).length=ps.length:=by
  rw [List.append_nil,<- r2.length];exact F.len _ _ _ _ hq
 have hbn:=hb _ (Value.ref ea::us) I3.zk hl;rw [List.append_nil] at hbn;refine wpAny_call (codeAny_mono (F.run _ X.stack _ _ ⟨Value.ref ea::us,[]⟩ (Value.ref ea::us) _ _ E0 (hr.make C us []) (I3.Vz.make C us []) hbn r2 hq) fun r s' hq'=>?_);cases r with
 | error e=>exact False.elim hq'
 | ok fl=>
  cases fl with
  | next=>exact False.elim hq'
  | brk=>exact False.elim hq'
  | cont=>exact False.elim hq'
  | ret u=>
   obtain ⟨v,H',I4,rv,ev,dx,ex,hE⟩:=I3.after hq';subst ev;obtain ⟨⟨tt,ea'⟩,_,_⟩:=(show dY X.prog X.w H' s'.heap ea (XO ea C (some dx)) from I4.hok ea _ ex);have I5:=I4.dropped ex;refine ⟨rv,ea,tt,some dx,#[],rfl,same s' I4.zk,ea',?_⟩;exact hR pins σ _ s' ea C dx I5 ⟨_,_,ea',rfl,rfl,rfl,rfl⟩ (fun b hb=>by rw [show b=ea by simpa using hb];exact ⟨BK,nw,np⟩) hE
end
section
variable {P:Program} {w:World} {K:Zqq} {mg:Str->Option Value} {base:Heap} {N:List Str} {qual:Str} {scope:Scope} {f:Addr} {cd:Value} {A:Around} {outer:List Env} {s0:Shared} {H0:Hp} {E:XK}
theorem VI:Raises (uT (uP P w) P w K mg base N qual scope f cd A outer s0 H0 E) E:=fun pins σ H s a C dx I x nw hE=>SH I x (fun _ _ z=>by cases z) nw hE
end
end L2
namespace HT
open PySem PyProof.Rows
def lexLe:List Int->List Int->Bool
 | [],_=>true
 | _::_,[]=>false
 | x::xs,y::ys=>if x=y then lexLe xs ys else decide (x<=y)
theorem uV (x y:Int) (xs ys:List Int):lexLe (x::xs) (y::ys)=if x=y then lexLe xs ys else decide (x<=y):=rfl
theorem HL (ys:List Int):lexLe [] ys=true:=by cases ys<;>rfl
theorem Eu (x:Int) (xs:List Int):lexLe (x::xs) []=false:=rfl
theorem SM (A:Around) (s:Shared) (a:Int) (t:Tok) (c:Int) (u:Tok) (prog:Program) (w:World) (E:Value->Shared->Prop) (Q:Value->Shared->Prop) (h:Q (.bool (decide (a<=c))) s) :
  wpAny (model prog w) A (richCompare .LtE (.int a t) (.int c u)) Q E s:=
 (PyProof.Rows.le_int h:wpAny (model prog w) A (compareOp .LtE (.int a t) (.int c u)) Q E s)
section
open PySem.SeqAt
open PySem.AutoSeq1 (wpAny_loadPart')
open PySem.MeetsSeq PySem.MeetsSeq2 PySem.MeetsSeq3
theorem Gd (l b:Addr) (items items2:Array Value) (n n2:Nat) (dd dd2:Option Addr) (sl sl2:Array (Option Value)) (ns ms:List Int) (hi:IntsAre items.toList ns) (hj:IntsAre items2.toList ms) :
   Meets (Builtin.«tuple.__le__» ⟨[.ref l,.ref b],[]⟩)
     (fun _ R s=>s.heap.get? l=some { cls:=.type "tuple",dict:=dd,data:=.seq items n,slots:=sl }/\s.heap.get? b=some { cls:=.type "tuple",dict:=dd2,data:=.seq items2 n2,slots:=sl2 } /\
       R (.ok (.ret (.bool (lexLe ns ms)))) s):=
 .of_wp fun prog w A R s h=>by
   obtain ⟨hp,g,d,tk,os⟩:=s;obtain ⟨hl,hb,h⟩:=h
   have f2:=AutoSeq1.sub_tuple_tuple
   have z1:items.size=ns.length:=by rw [<- hi.length];simp
   have z2:items2.size=ms.length:=by rw [<- hj.length];simp
   wp_walk using wpAny_loadPart' hl,wpAny_loadPart' hb,wpAny_forIn_list _ (fun rest b s'=>b.1=none/\s'=⟨hp,g,d,tk,os⟩/\∃ (vs ws:List Value) (ns' ms':List Int),rest=vs.zip ws /\
     IntsAre vs ns'/\IntsAre ws ms'/\ns'.length+items2.size=ms'.length+items.size/\R (.ok (.ret (.bool (lexLe ns' ms')))) ⟨hp,g,d,tk,os⟩) _
   case turn=>
     rintro ⟨y,x⟩ rest b s' ⟨hb',rfl,vs,ws,ns',ms',hz,hvi,hwi,hlen,hR⟩
     cases hvi with
     | nil=>rw [List.zip_nil_left] at hz;cases hz
     | cons a t abW=>
       cases hwi with
       | nil=>rw [List.zip_nil_right] at hz;cases hz
       | cons c u hwi'=>
         rw [List.zip_cons_cons] at hz
         injection hz with hyx hrest
         injection hyx with hy hx
         subst hy hx
         rw [uV] at hR
         simp only [List.length_cons] at hlen
         obtain ⟨e,he,hiff⟩:=Sl A.in1 ⟨hp,g,d,tk,os⟩ a t c u
         refine wpAny_bind (he prog w _ _ ?_)
         cases e with
         | true=>
           rw [if_pos (hiff.mp rfl)] at hR
           wp_walk
           exact ⟨rfl,rfl,_,_,_,_,hrest,abW,hwi',by omega,hR⟩
         | false=>
           rw [if_neg (fun q=>absurd (hiff.mpr q) Bool.false_ne_true)] at hR
           have hri:=SM A.in1 ⟨hp,g,d,tk,os⟩ a t c u prog w
           wp_walk using hri
           exact ⟨_,rfl,by simpa using hR⟩
   case fin=>
     rintro ⟨b1,b2⟩ s' ⟨hb',rfl,vs,ws,ns',ms',hz,hvi,hwi,hlen,hR⟩
     simp only at hb'
     subst hb'
     have hv:lexLe ns' ms'=decide (items.size<=items2.size):=by
       cases hvi with
       | nil=>
         have:ms'.length=ms'.length:=rfl;simp only [List.length_nil] at hlen;rw [HL];exact (decide_eq_true (by omega)).symm
       | cons a t hv=>
         cases hwi with
         | nil=>
           simp only [List.length_nil,List.length_cons] at hlen;rw [Eu];exact (decide_eq_false (by omega)).symm
         | cons c u hw=>
           rw [List.zip_cons_cons] at hz;cases hz
     rw [hv] at hR
     wp_walk
     exact ⟨_,rfl,by simpa [Builtin.Tuple.tupleCompareSizes] using hR⟩
   case h=>
     exact ⟨rfl,rfl,items.toList,items2.toList,ns,ms,rfl,hi,hj,by omega,h⟩
end
section
variable {prog:Program} {w:World} {A:Around} {E:Value->Shared->Prop} {s:Shared}
theorem N7 {l b:Addr} {items items2:Array Value} {ns ms:List Int} {Q:Value->Shared->Prop} (hl:IsTup s.heap l items) (hb:IsTup s.heap b items2) (hi:IntsAre items.toList ns) (hj:IntsAre items2.toList ms)
   (hu:A.units < cLine) (h:Q (.bool (lexLe ns ms)) s):wpAny (model prog w) A (compareOp .LtE (.ref l) (.ref b)) Q E s:=by
 obtain ⟨⟨cls,dd,data,sl⟩,ho,hc,n,hd⟩:=id hl;obtain ⟨⟨ac3,dd2,data2,sl2⟩,ho2,hc2,n2,hd2⟩:=id hb;simp only at hc hd hc2 hd2;subst hc hd hc2 hd2;exact richCompare_meets_room (op:=.LtE) ⟨_,ho,rfl⟩ ⟨_,ho2,rfl⟩ PySem.F.slot_tuple_le PySem.F.entry_tuple_le (PySem.F.args_tuple_le_2 _ _) (Gd l b items items2 n n2 dd dd2 sl sl2 ns ms hi hj)
   ⟨ho,ho2,show Value.bool (lexLe ns ms) ≠ Value.notImplemented/\Q (.bool (lexLe ns ms)) s from ⟨(fun x=>nomatch x),h⟩⟩ hu
end
end HT
namespace L2
open PySem PySem.Spec PyProof.Rows XL
section
variable {X:Cx}
def abX (K:Zqq):R2:=fun x y H Q=>∃ a b ns ms,x=.ref a/\y=.ref b/\nU K H a (ns.map V.int)/\nU K H b (ms.map V.int)/\Q (.bl (HT.lexLe ns ms)) H
theorem YQ (hu:X.A.units < cLine):C1 X (compareOp .LtE) (abX X.K):=by
 intro pins s σ H x y v u Q I rx ry h;obtain ⟨a,b,ns,ms,rfl,rfl,ha,hb,q⟩:=h;cases rx;cases ry;obtain ⟨its,r1,p1,_⟩:=I.tuple ha;obtain ⟨its2,r2,p2,_⟩:=I.tuple hb;have i1:IntsAre its.toArray.toList ns:=intsAre_of r1;have i2:IntsAre its2.toArray.toList ms:=intsAre_of r2;exact HT.N7 p1 p2 i1 i2 hu ⟨.bl (HT.lexLe ns ms),H,I,rfl,q⟩
def YR (i:Nat) (f:Addr) (sp:Sp) (E:XK) (t:TA):TE:=fun σ H Q=>σ[i]?=some (some (.ref f))/\t σ H fun vs H1=>sp vs H1 Q E
theorem Lj {CX:MU} {k i:Nat} {f:Addr} {fd:FuncData} {ps:List Str} {sp:Sp} {E:XK} {x:Str} {p pos:Pos} {e:Expr} {es:List Expr} {t:TA} (F:bF X.prog X.w X.K X.mg X.base CX k f fd ps sp) (hr:dG k X.A)
  (hk:PySem.W.keepIn X.K (.ref f)=true) (hb:Binds X.K fd ps []) (hx:Passes CX X E) (ha:PA X (e::es) t) (hN:X.N[i]?=some x:=by rfl)
  (hv:Yj X.env.scope x:=by first | exact Or.inl rfl | exact Or.inr (Or.inl rfl) | exact Or.inr (Or.inr rfl)) (hdb:(x==("__debug__":Str))=false:=by decide) (hcd:(x==("__classdict__":Str))=false:=by decide)
  (he:starEach (e::es) X.env=(false,eval e X.env)::starEach es X.env:=by rfl) (hpl:(backTo pos (starEach es X.env)).any (·.1)=false:=by rfl) :
  PE X (.Call (.Name x p) (e::es) [] pos) (YR i f sp E t):=by
 intro pins s σ H Q I h;obtain ⟨h1,h⟩:=h;refine wpAny_Call_Name_kw (dZ (RN (X:=X) (i:=i) (x:=x) (pos:=p) hN hv hdb hcd pins s σ H (fun v H1=>v=.ref f/\H1=H) I ⟨_,h1,rfl,rfl⟩) fun u s1 ⟨v,H1,I1,rv,ev,eH⟩=>?_);subst ev eH;obtain rfl:u=Value.ref f:=rv;refine PySem.W.callWith_K (h₀:=X.base) I.ok.mod.kin hk (dZ (ha pos pins s1 σ H1 _ I1 h) fun us s2 ⟨vs,H2,I2,r,q⟩=>⟨I2.zk,?_⟩) he hpl;exact Eg F hr hb .nil hx I2 r (by rw [List.append_nil];exact q)
end
structure C5 (k:Nat) (A:Around):Prop where
 dp:A.depth+3 * k+5 < recursionLimit
 un:A.units+16 * k+200 < cLine
theorem C5.deeper {k:Nat} {A:Around} (r:C5 (k+1) A) (env:Env):C5 k (A.deeper env):=
 ⟨by have:=r.dp;show A.depth+1+3 * k+5 < _;omega,by have:=r.un;show A.units+3+16 * k+200 < _;omega⟩
theorem C5.depth {k:Nat} {A:Around} (r:C5 k A):A.depth < recursionLimit:=by have:=r.dp;omega
structure SN (P:Program) (w:World) (K:Zqq) (mg:Str->Option Value) (base:Heap) (k:Nat) (f:Addr) (fd:FuncData) (ps:List Str) (sp:Sp):Prop where
 len:∀ vs H Q E,sp vs H Q E->vs.length=ps.length
 run:∀ (A:Around) (outer:List Env) (s:Shared) (H:Hp) (args:Args) (us:List Value) (vs:List V) (Q:VK) (E:XK),C5 k A->IF P w K mg base A outer s H->BindsTo s fd args (ps.zip us)->Vals vs us->sp vs H Q E->
   codeAny (model P w) A (.call (.ref f) args) (CR mL outer P w H s Q E) s
abbrev Cx.aaA (X:Cx):Cx:={ X with calm:=false }
theorem N8 {P:Program} {w:World} {K:Zqq} {mg:Str->Option Value} {base:Heap} {N ps:List Str} {qual:Str} {scope:Scope} {f:Addr} {cd:Value} {A:Around} {outer:List Env} {s s1:Shared} {H:Hp} {E:XK} {us:List Value} {vs:List V}
  (S:aQ N ps scope) (e0:IF P w K mg base A outer s H) (hl:vs.length=ps.length) (r:Vals vs us)
  (x:InCallC s s.heap.objs.size (bindL (envOfC qual scope s.heap.objs.size f cd).kindOf (ps.zip us) fun _=>none) (cellsFrom (s.heap.objs.size+1) scope.names []) (bindC (envOfC qual scope s.heap.objs.size f cd).kindOf (ps.zip us) fun _=>none) s1) :
  Inv (uT mL P w K mg base N qual scope f cd A outer s H E).aaA [] (start N vs) H s1:=by
 have I:Inv (uT mL P w K mg base N qual scope f cd { A with handled:=none } outer s H E) [] (start N vs) H s1:=HA S rfl ⟨e0.frames,e0.mod,e0.bs,e0.Pz,e0.yQ,e0.RM,e0.hok,e0.bare⟩ hl r x;exact ⟨⟨I.ok.mod,I.ok.kind,I.ok.glob,I.ok.blt,I.ok.above,I.ok.inj,I.ok.has,I.ok.Xs,(fun z=>Bool.noConfusion z),I.ok.frames,I.ok.Vq,I.ok.Yk,I.ok.bs,I.ok.Pz,I.ok.KD,I.ok.KG,I.ok.yQ,I.ok.RM⟩,I.os,I.bare,I.base,I.loc,I.cell,I.free,I.kJ,I.pin,I.hok,I.len⟩
theorem YS {P:Program} {w:World} {K:Zqq} {mg:Str->Option Value} {base:Heap} {k:Nat} {f:Addr} {name qual:Str} {params:Arguments} {body:List Stmt} {scope:Scope} {dV kV doc pm cdv ct oc:Value} {an od:Option Addr}
   {osl:Array (Option Value)} {N ps:List Str} {sp:Sp} (lk:K.lookup f=some ⟨oc,od,.func (PySem.W.fnOf name qual params body scope dV kV doc pm an cdv ct),osl⟩) (hcd:PySem.W.codeIn K cdv qual=true) (S:aQ N ps scope)
   (len:∀ vs H Q E,sp vs H Q E->vs.length=ps.length)
   (hbody:∀ (A:Around) (outer:List Env) (s:Shared) (H:Hp) (vs:List V) (Q:VK) (E:XK),C5 k (A.deeper (envOfC qual scope s.heap.objs.size f cdv))->sp vs H Q E->
     ∃ t,KH (uT mL P w K mg base N qual scope f cdv A outer s H E).aaA.nox body t/\t { nx:=fun _ H'=>Q .non H',rt:=Q } (start N vs) H) :
   SN P w K mg base (k+1) f (PySem.W.fnOf name qual params body scope dV kV doc pm an cdv ct) ps sp:=by
 refine ⟨len,fun A outer s H args us vs Q E hr e0 hb r Np=>?_⟩;have hl:=len _ _ _ _ Np;have KX:K.In s.heap:=e0.mod.kin.keeps fun b o e=>(e0.bs b o e).1;have lim:s.heap.NoLimit:=e0.mod.nolimit.keeps fun b o e=>(e0.bs b o e).1;have hkind:∀ y ∈ ps.zip us,scope.names.lookup y.1=some .local\/(scope.names.lookup y.1=some .cell/\((cellsFrom (s.heap.objs.size+1) scope.names []).lookup y.1).isSome=true):=fun ⟨n,v⟩ hy=>by
   rcases S.par n (List.of_mem_zip hy).1 with q | q
   . exact .inl q
   . exact .inr ⟨q,PySem.W.cellsFrom_some _ _ _ (.inl q)⟩
 refine codeAny_call_function hr.depth (KX _ _ lk) rfl S.co S.gen rfl (PySem.W.codeRec_of KX hcd) (hb _ _ _ _ ?_);refine wpAny_newFunctionEnv_cells S.kind hkind fun env he s1 x=>?_;subst he;refine ⟨lim.keeps x.toInCall.keep,codeAny_func ?_⟩;obtain ⟨t,ht,hq⟩:=hbody A outer s H vs Q E (hr.deeper _) Np;have I:=N8 (E:=E) S e0 hl r x;refine wpAny_mono (ht [] s1 (start N vs) H _ (I.DW _) hq) (fun fl s' hs=>?_) fun e s' hs=>False.elim hs;cases fl with
 | ret u=>
   obtain ⟨v,σ',H',J,rv,q⟩:=hs;exact ⟨v,H',J.os,J.bare,J.base,J.hok,rv,q⟩
 | next=>
   obtain ⟨σ',H',J,q⟩:=hs;exact ⟨.non,H',J.os,J.bare,J.base,J.hok,rfl,q⟩
 | brk=>
   obtain ⟨_,_,_,q⟩:=hs;exact False.elim q
 | cont=>
   obtain ⟨_,_,_,q⟩:=hs;exact False.elim q
section
variable {X:Cx}
theorem SQ {k:Nat} {f:Addr} {fd:FuncData} {ps:List Str} {sp:Sp} {x:Str} {p pos:Pos} {e:Expr} {es:List Expr} {t:TA} (F:SN X.prog X.w X.K X.mg X.base k f fd ps sp) (hr:C5 k X.A) (hg:Gl X x) (hm:X.mg x=some (.ref f))
  (hk:PySem.W.keepIn X.K (.ref f)=true) (hb:Binds X.K fd ps []) (ha:PA X (e::es) t) (hdb:(x==("__debug__":Str))=false:=by decide)
  (he:starEach (e::es) X.env=(false,eval e X.env)::starEach es X.env:=by rfl) (hpl:(backTo pos (starEach es X.env)).any (·.1)=false:=by rfl):PE X (.Call (.Name x p) (e::es) [] pos) (Si sp [] E0 t):=by
 intro pins s σ H Q I h;refine wpAny_Call_Name_kw (y9 I hg hm ?_ hdb);refine PySem.W.callWith_K (h₀:=X.base) I.ok.mod.kin hk (dZ (ha pos pins s σ H _ I h) fun us s1 ⟨vs,H1,I1,r,q⟩=>⟨I1.zk,?_⟩) he hpl;have q:sp (vs++[]) H1 Q E0:=q;rw [List.append_nil] at q;have hl:(us++[]).length=ps.length:=by rw [List.append_nil,<- r.length];exact F.len _ _ _ _ q
 have hbn:=hb s1 us I1.zk hl;rw [List.append_nil] at hbn;refine wpAny_call (codeAny_mono (F.run X.A X.stack s1 H1 ⟨us,[]⟩ us vs Q E0 hr I1.Vz hbn r q) fun r s' hq=>?_);cases r with
 | error e=>exact False.elim hq
 | ok fl=>
  cases fl with
  | ret u=>exact I1.after hq
  | next=>exact False.elim hq
  | brk=>exact False.elim hq
  | cont=>exact False.elim hq
end
abbrev Cx.hand (X:Cx) (ea:Addr):Cx:={ X with A:=X.A.mark (some (.ref ea)),calm:=false,xe:=fun _ _=>False }
section
variable {X:Cx} {pins:List (Addr×Obj)} {σ:St} {H:Hp} {s:Shared}
theorem Inv.hand (I:Inv X pins σ H s) (ea:Addr):Inv (X.hand ea) pins σ H s:=
 ⟨⟨I.ok.mod,I.ok.kind,I.ok.glob,I.ok.blt,I.ok.above,I.ok.inj,I.ok.has,I.ok.Xs,(fun z=>Bool.noConfusion z),I.ok.frames,I.ok.Vq,I.ok.Yk,I.ok.bs,I.ok.Pz,I.ok.KD,I.ok.KG,I.ok.yQ,I.ok.RM⟩,I.os,I.bare,I.base,I.loc,I.cell,I.free,I.kJ,I.pin,I.hok,I.len⟩
theorem Inv.SR {ea:Addr} {h':Heap} {t':Nat} {m':Str->Option Value} (ok:X.Ok) (hxe:X.ex=[]) (I:Inv (X.hand ea) pins σ H s) (n:h'.Ns X.env.locals m') (sb:Heap.SameBut X.env.locals s.heap h') :
   Inv X pins (List.replicate X.N.length none) H { s with heap:=h',toks:=t' }:=by
 have kp:∀ b o,b ≠ X.env.locals->s.heap.get? b=some o->h'.get? b=some o:=fun b o n q=>by rw [sb.2 b n];exact q
 have Vr:∀ b o,X.BB.heap.get? b=some o->b ≠ X.env.locals:=fun b o e=>Nat.ne_of_lt (Nat.lt_of_lt_of_le (Heap.lt_size e) ok.above);have fr:H X.env.locals=none:=I.free;refine ⟨ok,I.os,I.bare,⟨fun b o e n hb hx=>kp b o (Vr b o e) (I.base.keep b o e n hb hx),fun b o e n hb hx=>?_,I.base.free,fun b o e hx=>?_,I.base.tups,I.base.zj,I.base.BC⟩,⟨m',n,fun i x v _ e2 _=>?_⟩,fun x c e=>?_,I.free,I.kJ,fun p hp=>?_,fun b u e=>?_,by simp⟩
 . obtain ⟨sl,q⟩:=I.base.slot b o e n hb hx
   exact ⟨sl,kp b _ (Vr b o e) q⟩
 . obtain ⟨o',q⟩:=I.base.there b o e hx
   exact ⟨o',kp b o' (Vr b o e) q⟩
 . rw [List.getElem?_replicate] at e2
   split at e2<;>cases e2
 . obtain ⟨v,o,ho,hd⟩:=I.cell x c e
   exact ⟨v,o,kp c o (I.Vk x c e) ho,hd⟩
 . obtain ⟨z1,z2,z3,z4⟩:=I.pin p hp
   exact ⟨kp _ _ z3 z1,z2,z3,z4⟩
 . refine (I.hok b u e).stay (fun c v hc q=>kp c v (fun z=>?_) q) (fun _ q=>q) fun _ _ q=>q
   rcases hc with hc | hc
   . rw [z] at hc;rw [<- hc,fr] at e;cases e
   . rw [z,fr] at hc;cases hc
end
abbrev Cx.Qo (X:Cx) (pn:List (Addr×Obj)) (Z:Value->Shared->Prop):Cx:={ X with pn:=pn,xe:=Z }
def VJ (X:Cx) (pn:List (Addr×Obj)) (Z:Value->Shared->Prop) (E:XK):Prop:=Passes (uP X.prog X.w) (X.Qo pn Z) E
section
variable {X:Cx} {pins X9:List (Addr×Obj)} {σ:St} {H:Hp} {s:Shared} {Z:Value->Shared->Prop}
theorem Inv.Qo (I:Inv X pins σ H s):Inv (X.Qo (X.pn++pins) Z) [] σ H s:=
 ⟨⟨I.ok.mod,I.ok.kind,I.ok.glob,I.ok.blt,I.ok.above,I.ok.inj,I.ok.has,I.ok.Xs,I.ok.hd,I.ok.frames,I.ok.Vq,I.ok.Yk,I.ok.bs,I.ok.Pz,I.ok.KD,I.ok.KG,I.ok.yQ,I.ok.RM⟩,I.os,I.bare,I.base,I.loc,I.cell,I.free,I.kJ,
   fun p hp=>I.pin p (by simpa using hp),I.hok,I.len⟩
theorem Inv.Lk (ok:X.Ok) (I:Inv (X.Qo (X.pn++pins) Z) X9 σ H s):Inv X pins σ H s:=
 ⟨ok,I.os,I.bare,I.base,I.loc,I.cell,I.free,I.kJ,fun p hp=>I.pin p (List.mem_append_left _ hp),I.hok,I.len⟩
end
section
variable {X:Cx} {C fI:Addr} {names:List Str} {xc n:Str} {np hpos pos:Pos} {body suite:List Stmt} {b0:Stmt} {tb th:TS} {E:XK} {i:Nat} {Qr:VK}
def abY (tb:TS) (Qr:VK):TS:=fun D σ H=>(∀ v H',Qr v H'->D.rt v H')/\tb D σ H
theorem YT (W:Own X) (Qm:X.ex=[]) (hN:X.N.Nodup) (c:Qn X.K C fI names) (hg:Gl X xc) (hm:X.mg xc=some (.ref C)) (hi:X.N[i]?=some n) (hl:X.env.kindOf n=some .local) (YU:X.env.scope.names.lookup n=some .local)
   (hb:∀ pn Z,VJ X pn Z E->KH (X.Qo pn Z) body tb) (hs:∀ ea,KH (X.hand ea) (b0::suite) th)
   (hE:∀ C' dx H,E C' (some dx) H->C'=.ref C/\∀ a,H a=none->th { nx:=fun _ _=>False,rt:=Qr } ((List.replicate X.N.length none).set i (some (.ref a))) (upd H a (XR a C dx))) (hdb:(xc==("__debug__":Str))=false:=by decide) :
   PS X (.Try body [.ExceptHandler (some (.Name xc np)) (some n) (b0::suite) hpos] [] [] pos) (abY tb Qr):=by
 intro pins s σ H D I h;obtain ⟨hQ,h⟩:=h;have okX:=I.ok;have hcls:(X.env.scope.kind==.class||(X.env.scope.kind==.module&&X.env.locals != X.env.globals))=false:=by rw [I.ok.kind];rfl
 refine wpAny_Try_except (wpAny_mono (hb (X.pn++pins) (fun e s1=>wpAny (model X.prog X.w) X.A (noteFrame e X.env) (fun _ s2=>wpAny (model X.prog X.w) X.A (setFlight e none) (fun _ s3=>
   wpAny (model X.prog X.w) X.A (handleBy e X.env [.ExceptHandler (some (.Name xc np)) (some n) (b0::suite) hpos]) (SP X pins D) X.xe s3) X.xe s2) X.xe s1) ?_ [] s σ H D I.Qo h) (fun f s1 q=>?_) fun e s1 q=>q)
 rotate_left
 . cases f with
   | next=>obtain ⟨σ',H',I',q⟩:=q;exact wpAny_execs_nil ⟨σ',H',I'.Lk okX,q⟩
   | ret u=>obtain ⟨v,σ',H',I',r,q⟩:=q;exact ⟨v,σ',H',I'.Lk okX,r,q⟩
   | brk=>obtain ⟨σ',H',I',q⟩:=q;exact ⟨σ',H',I'.Lk okX,q⟩
   | cont=>obtain ⟨σ',H',I',q⟩:=q;exact ⟨σ',H',I'.Lk okX,q⟩
 intro X9 σ1 H1 s1 e s2 I1 hx;have I1':Inv X pins σ1 H1 s1:=I1.Lk okX;obtain ⟨a,T,C',dx,H',rfl,I2,x2,nw,hE2⟩:=I1'.back (P:=X.prog) (w:=X.w) Qm hx;obtain ⟨eC,hsuite⟩:=hE _ _ _ hE2;cases eC;show wpAny _ _ (noteFrame (.ref a) X.env) _ _ s2;refine I2.noted W Qm x2 (fun T fl e=>by cases e;exact .inl rfl) nw fun h3 T3 I3 x3 nw3=>?_;refine I3.flown (fr:=none) x3 nw3 fun h4 I4 x4=>?_;have J4:=I4.hand a;obtain ⟨nm,q,N,bs,sn,sub,ab,col,dd,k0,k1,k2,k3,k5,mN,cC,_,_,_⟩:=c.at I4.zk;obtain ⟨oe,vs,ce,e1,e2,e3,_⟩:=id x4;refine wpAny_handleBy_cons (codeAny_handlers_test (y9 (X:=X.hand a) J4 hg hm ?_ hdb)) (by intro q;cases q);refine wpAny_excMatches_sub_self cC ce e1 (by decide) ?_;refine codeAny_handlers_suite_as ?_;refine Inv.flown (X:=X.hand a) (fr:=none) J4 x4 nw3 fun h5 J5 x5=>?_;obtain ⟨oe5,vs5,ce5,d1,d2,d3,_⟩:=id x5;obtain ⟨nl,nc⟩:=J5.apart ce5 d3;obtain ⟨nH,nz,np'⟩:=nw3 a (by simp);refine BD (X:=X.hand a) J5 hN hi (.inl YU) (v:=.ref a) rfl (fun s6 J6 ⟨ad,sb,hor⟩=>?_) (.inr YU);have ne6:a ≠ ad:=fun z=>by
   rcases hor with w | w
   . exact nl (z.trans w)
   . exact nc _ _ w z.symm
 have ce6:s6.heap.get? a=some oe5:=by rw [sb.2 a ne6];exact ce5
 have hiN:i < X.N.length:=(List.getElem?_eq_some_iff.mp hi).1;have J6':Inv (X.hand a) pins ((List.replicate X.N.length none).set i (some (.ref a))) H' s6:=J6.weak (by
   have:=J5.len;simp only [List.length_set,List.length_replicate];exact this.symm) fun j v ej=>by
     by_cases z:j=i
     . subst z
       rw [List.getElem?_set_self (by simpa using hiN)] at ej;have hl5:σ1.length=X.N.length:=J5.len;rw [List.getElem?_set_self (by rw [hl5];exact hiN)];exact ej
     . rw [List.getElem?_set_ne (Ne.symm z),List.getElem?_replicate] at ej
       split at ej<;>cases ej
 have J7:=J6'.tracked (a:=a) nH nz nl nc np' (XR.ok (dx:=dx) ce6 d1 d2 fun cc z=>by rw [d3] at z;cases z);refine wpAny_mono (hs a pins s6 _ _ _ J7 (hsuite a nH)) (fun f s7 q=>?_) fun _ _ z=>z.elim;cases f with
 | ret u=>
   obtain ⟨v,σ7,H7,J8,rv,qv⟩:=q;obtain ⟨m,hn,_⟩:=J8.loc;refine wpAny_nameGoes (env:=X.env) hl hn hcls fun h9 m9 n9 sb9=>?_;exact ⟨v,_,H7,J8.SR okX Qm n9 sb9,rv,hQ _ _ qv⟩
 | next=>obtain ⟨_,_,_,q⟩:=q;exact q.elim
 | brk=>obtain ⟨_,_,_,q⟩:=q;exact q.elim
 | cont=>obtain ⟨_,_,_,q⟩:=q;exact q.elim
end
end L2
namespace L2
open PySem PySem.Spec PyProof.Rows XL
structure XA (K:Zqq) (C:Addr) (m:Str) (f:Addr):Prop where
 sp:PySem.W.specialIn K (.ref C) "__getattribute__"=some (some (.builtin "type.__getattribute__"))
 rd:PySem.W.readsIn K C (.type "type")=true
 fc:PySem.W.findCls K (.ref C) (.type "type") m=some (.val (.ref f))
 kp:PySem.W.keepIn K (.ref f)=true
section
variable {X:Cx} {CX:MU} {k:Nat} {C f:Addr} {fd:FuncData} {ps:List Str} {sp:Sp} {E:XK} {x m:Str} {p apos pos:Pos} {e:Expr} {es:List Expr} {t:TA}
theorem SS {pl:Sem Bool} (hg:Gl X x) (hm:X.mg x=some (.ref C)) (c:XA X.K C m f) (F:bF X.prog X.w X.K X.mg X.base CX k f fd ps sp) (hr:dG k X.A) (hb:Binds X.K fd ps []) (hx:Passes CX X E) (ha:PA X (e::es) t)
   (hdb:(x==("__debug__":Str))=false:=by decide) (hst:starEach (e::es) X.env=(false,eval e X.env)::starEach es X.env:=by rfl) (hpl:(backTo pos (starEach es X.env)).any (·.1)=false:=by rfl)
   (ht:eval (.Call (.Attribute (.Name x p) m apos) (e::es) [] pos) X.env=(do
     let ov <- eval (.Name x p) X.env
     standAt apos.atName
     let (f,first) <- holding [ov] (getMethod ov m pl)
     callWith pos f first (backTo pos (starEach (e::es) X.env)) (backToKw pos (keywordEach [] X.env))):=by rfl) :
   PE X (.Call (.Attribute (.Name x p) m apos) (e::es) [] pos) (Si sp [] E t):=by
 intro pins s σ H Q I h;refine PySem.W.methodCall_KW (pl:=pl) (dZ (aV (X:=X) (x:=x) (v:=.ref C) (pos:=p) hg hm rfl hdb pins s σ H (fun v H1=>v=.ref C/\H1=H) I ⟨rfl,rfl⟩) fun u s1 ⟨v,H1,I1,rv,ev,eH⟩=>?_) ht;subst ev eH;obtain rfl:u=Value.ref C:=rv;refine PySem.W.method_cls I1.zk c.sp (PySem.W.cls_value I1.zk c.rd c.fc rfl ?_);have I2:=I1.tok (s1.toks+1);refine PySem.W.callWith_K (first:=[]) (h₀:=X.base) I.ok.mod.kin c.kp (dZ (ha pos pins _ σ H1 _ I2 h) fun us s2 ⟨vs,H2,I3,r,q⟩=>⟨I3.zk,?_⟩) hst hpl;exact Eg F hr hb .nil hx I3 r q
end
end L2
namespace L2
open PySem PySem.Spec PyProof.Rows XL
def XC (p:Addr) (Q:VK) (ps:List (V×V)) (H2:Hp):Prop:=H2 p=some (.dT [])/\∃ (k:List Key) (b:Addr) (y:V),ps=[(.ref b,y)]/\H2 b=some (.tup (k.map kV))/\Q (.ref p) (upd H2 p (.dT [(k,y)]))
def YV (tk tv:TE):TE:=fun σ H Q=>∀ p,H p=none->tk σ (upd H p (.dT [])) fun x H1=>tv σ H1 fun y H2=>XC p Q [(x,y)] H2
theorem SV {X:Cx} {pos:Pos} {e v:Expr} {tk tv:TE} (hu:X.A.units+1 < cLine) (hk:PE X e tk) (hv:PE X v tv):PE X (.Dict [some e] [v] pos) (YV tk tv):=by
 intro pins s σ H Q I q;have hn:=I.hok.fresh (Nat.le_refl s.heap.objs.size);have I1:=I.laid (a:=s.heap.objs.size) (o:=.dT []) (h':=s.heap.push { cls:=.type "dict",data:=.dict #[] }) (t':=s.toks) (fun _ _ q=>Heap.get?_push_of_some _ q) (Nat.le_refl _) (La s.heap I.big);have pp:=Lb (pos:=pos) hk hv OB;refine wpAny_Dict_any rfl rfl (by simp) (by simp) (dZ (pp pins _ σ _ (XC s.heap.objs.size Q) I1 (q _ hn)) fun ws s2 ⟨ps,H2,I2,rel,e2,k,b,y,ep,eb,q2⟩=>?_);subst ep;cases rel with
 | @cons p' w' as bs h t=>
   cases t;obtain ⟨w1,w2⟩:=w';obtain ⟨h1,h2⟩:=h;cases (show w1=Value.ref b from h1);obtain ⟨z,hd,xs,rl,dd⟩:=OA I2.hok e2;cases rl;unfold storeAll;rw [List.forIn_cons];refine wpAny_bind (wpAny_bind (wpAny_dictSet_heap (hsz:=Nat.zero_le _) (knd:=tupleKind (fL X.prog X.w)) ?_ (xh I2.hok eb) dd fun h' dd' hs=>wpAny_pure ?_))
   . exact (by show X.A.units < cLine;omega)
   . show wpAny _ _ (forIn [] PUnit.unit _) _ _ _
     rw [List.forIn_nil];refine wpAny_pure ⟨.ref s.heap.objs.size,_,?_,rfl,q2⟩;obtain ⟨q,es,ep,hq,g2,g3,g4,_,g5⟩:=dd';refine Ag I2 (by rw [e2];exact True.intro) hs ⟨q,hq⟩ ⟨by show 1<=sizeLine;decide,hd,[(k,b,w2)],.cons ⟨rfl,?_,h2⟩ .nil,q,es,ep,hq,g2,g3,g4,g5⟩;rw [aq (mX eb e2 (fun z=>nomatch z))];exact eb
end L2
namespace L2
open PySem
section
variable {Pr:Program} {Wd:World} {Kt:Type} [DecidableEq Kt] {hk:HeapKind Pr Wd Kt} {Ar:Around} {Er:Value->Shared->Prop} {st:Shared}
theorem Qp {tab b:Addr} {rows:List (Kt×Addr×Value)} {key:Kt} {z:Value} {Qd:Value->Shared->Prop} (room:hk.room Ar) (isk:hk.is st.heap key b) (m:st.heap.DictOfH hk tab rows) (size:rows.length<=sizeLine)
   (old:∀ p,atKey rows key=some p->Qd p.2 { st with toks:=st.toks+hk.draws key })
   (fresh:atKey rows key=none->∀ hp,hp.DictOfH hk tab (storedH rows key b z)->Heap.SameBut tab st.heap hp->Qd z { st with heap:=hp,toks:=st.toks+hk.draws key }) :
   wpAny (model Pr Wd) Ar (dictSetDefault tab (.ref b) z) Qd Er st:=by
 obtain ⟨ob,ents,era,g1,g2,g3,g4,g5,g6⟩:=m;unfold dictSetDefault
 first | (with_reducible refine wpAny_holding ?_) | skip
 refine wpAny_bind (hk.pyHash room isk (wpAny_bind (wpAny_dictFind_heap (s:={ st with toks:=st.toks+hk.draws key }) room isk g1 g3 g4 g5 g6 (fun Ew=>?_) (fun j p aaB=>?_))))
 . have nk:=atKey_none_of_get Ew
   have stays:∀ {u:Kt} {c:Addr} {fo:Obj->Obj},hk.is st.heap u c->hk.is (st.heap.update tab fo) u c:=fun {u c fo} q=>hk.keeps q g1 g3 (Heap.SameBut.update ..);refine wpAny_bind (wpAny_rule (wpAny_bind (wpAny_updateDictKeys (s:={ st with toks:=st.toks+hk.draws key }) (hz:=by rw [size_of_entries g4];exact size) g1 g3 (wpAny_pure (fresh nk _ ?_ (Heap.SameBut.update ..))))));rw [storedH_new nk];refine ⟨_,_,era+1,Heap.get?_update_self _ g1 (Obj.isFreed_of_dict (Obj.data_mapDictKeys g3 _)),g2.mapDictKeys _,Obj.data_mapDictKeys g3 _,by simp [g4,entryOfKey],fun e he=>?_,?_⟩
   . rcases List.mem_append.mp he with a1 | a1
     . exact stays (g5 e a1)
     . rw [List.mem_singleton.mp a1]
       exact stays isk
   . have Vm:=not_mem_keys_of_get Ew
     simp only [List.map_append,List.map_cons,List.map_nil,List.nodup_append,List.mem_singleton];exact ⟨g6,by simp,fun c hc c' hc' same=>Vm (hc' ▸ same ▸ hc)⟩
 . refine wpAny_bind (wpAny_dictEntries (s:={ st with toks:=st.toks+hk.draws key }) g1 g3 (?_))
   rw [entry_at g4 j,aaB];exact wpAny_bind (wpAny_rule (wpAny_pure (old p (atKey_of_get g6 aaB))))
theorem N9 (hk:HeapKind Pr Wd Kt) (tab b:Addr) (plain:(tab==sysModules)=false) (z:Value) :
   MeetsIn Pr Wd (Builtin.«dict.setdefault» ⟨[.ref tab,.ref b,z],[]⟩) (fun Ar Rs st=>hk.room Ar.in1/\∃ key rows,hk.is st.heap key b/\st.heap.DictOfH hk tab rows/\rows.length<=sizeLine/\st.TypeIs (.ref tab) "dict" /\
     (∀ p,atKey rows key=some p->Rs (.ok (.ret p.2)) { st with toks:=st.toks+hk.draws key }) /\
     (atKey rows key=none->∀ hp,hp.DictOfH hk tab (storedH rows key b z)->Heap.SameBut tab st.heap hp->Rs (.ok (.ret z)) { st with heap:=hp,toks:=st.toks+hk.draws key })):=
 .of_wp fun Ar Rs st ⟨room,key,rows,isk,m,size,ty,old,fresh⟩=>by
   unfold Builtin.«dict.setdefault» Builtin.Dict.keyAndDefault
   refine wpAny_bind (wpAny_bind (wpAny_notOrdered_dict ty (wpAny_pure (α:=Addr×Value×Option Value) (a:=(tab,Value.ref b,some z)) ?_)))
   show wpAny _ _ (if (tab==sysModules)=true then _ else (dictSetDefault tab (.ref b) z >>= _)) _ _ st
   rw [plain,if_neg (by decide)]
   exact wpAny_bind (Qp room isk m size (fun p q=>wpAny_pure ⟨p.2,rfl,old p q⟩) (fun q hp q1 q2=>wpAny_pure ⟨z,rfl,fresh q hp q1 q2⟩))
end
end L2
namespace L2
open PySem PySem.Spec PyProof.Rows
section
variable {X:Cx} {o e f:Expr} {apos cpos:Pos} {td ty tx:TE}
def YW (td ty tx:TE):TE:=fun σ H Q=>td σ H fun x H1=>∃ a,x=.ref a/\IsD H1 a/\ty σ H1 fun y H2=>tx σ H2 fun z H3=>∃ kvs k b,H3 a=some (.dT kvs)/\y=.ref b/\H3 b=some (.tup (k.map kV))/\kvs.length < sizeLine /\
 (∀ v,jW kvs k=some v->Q v H3)/\(jW kvs k=none->Q z (upd H3 a (.dT (putK kvs k z))))
theorem SW (hu:X.A.units+1 < cLine) (ho:PE X o td) (he:PE X e ty) (hf:PE X f tx) (m:M2 X o "setdefault" apos e f cpos):PE X (.Call (.Attribute o "setdefault" apos) [e,f] [] cpos) (YW td ty tx):=by
 intro pins s σ H Q I h;refine wpAny_Call_method m.base m.few m.line PySem.F.plainAttrs_dict PySem.F.slot_dict_setdefault PySem.F.type_dict_setdefault (dZ (ho pins s σ H _ I h) fun u s1 ⟨x,H1,I1,rx,a,ex,d,q1⟩=>?_);subst ex;obtain rfl:u=Value.ref a:=rx;obtain ⟨t1,t2,_⟩:=Nv I1 d;refine ⟨t1,t2,?_⟩;rw [m.trees];refine Calls.callWith_builtin rfl (Calls.evalArgs_plain (Calls.spliced_cons (dZ (he pins s1 σ H1 _ I1 q1) fun iv s2 ⟨y,H2,I2,ry,q2⟩=>
   Calls.spliced_cons (dZ (hf pins s2 σ H2 _ I2 q2) fun fv s3 ⟨z,H3,I3,rz,kvs,k,b,e3,ey,eb,l,q3,q4⟩=>Calls.spliced_nil ?_))))
 subst ey;cases (show iv=Value.ref b from ry);obtain ⟨zz,hd,xs,rel,dd⟩:=OA I3.hok e3;have hz:xs.length<=sizeLine:=by rw [<- Paired.length rel];exact zz
 have hl:(putK kvs k z).length<=sizeLine:=by have:=jF kvs k z;omega
 refine call_meetsIn PySem.F.slot_dict_setdefault dd.typeIs PySem.F.entry_dict_setdefault (PySem.F.args_dict_setdefault_3 _ _ _) (N9 (tupleKind (fL X.prog X.w)) a b hd fv) ⟨tupleKind_room_in1 hu,k,xs,xh I3.hok eb,dd,hz,dd.typeIs,fun p hp=>?_,fun hn h' dd' hs=>?_⟩
 . have rv:=rel.val k
   rw [hp] at rv;cases hv:jW kvs k with
   | none=>rw [hv] at rv;exact (show False from rv).elim
   | some v=>
     rw [hv] at rv;exact ⟨v,H3,I3.tok _,rv,q3 v hv⟩
 . have rv:=rel.val k
   rw [hn] at rv;have hv:jW kvs k=none:=by
     cases hv:jW kvs k with
     | none=>rfl
     | some v=>rw [hv] at rv;exact (show False from rv).elim
   refine ⟨z,_,?_,rz,q4 hv⟩;obtain ⟨q,es,ep,hq,h2,h3,h4,_,h5⟩:=dd';refine Ag I3 (by rw [e3];exact True.intro) hs ⟨q,hq⟩ ⟨hl,hd,_,(rel.put k eb rz).keeps fun c ys ec=>?_,q,es,ep,hq,h2,h3,h4,h5⟩;rw [aq (mX ec e3 (fun z=>nomatch z))];exact ec
end
end L2
namespace L2
open PySem
section
variable {Pr:Program} {Wd:World} {Ar:Around} {Er:Value->Shared->Prop} {st:Shared}
def qQ (h:Heap) (tab:Addr) (us:List Value) (ep:Nat):Prop:=∃ ob ents,h.get? tab=some ob/\ob.data=.dict ents ep/\ents.toList.map (·.val)=us
theorem Qq {v tab:Addr} {us:List Value} {ep:Nat} {Qd:Value->Shared->Prop} (view:st.heap.IsValuesView v tab) (m:qQ st.heap tab us ep)
  (k:Qd (.ref st.heap.objs.size) { st with heap:=st.heap.push { cls:=.type "dict_valueiterator",data:=.fields #[.ref tab,.int 0 0,.int us.length 0,.int ep 0] } }) :
  wpAny (model Pr Wd) Ar (pyIter (.ref v)) Qd Er st:=by
 obtain ⟨ov,g1,g2,g3⟩:=id view;obtain ⟨ob,ents,m1,m2,m3⟩:=m;have sz:ents.size=us.length:=by rw [<- m3];simp
 refine wpAny_pyIter_slot view.typeIs F.slot_dict_values_iter (wpAny_call_entry F.slot_dict_values_iter view.typeIs F.entry_dict_values_iter ?_ (F.args_dict_values_iter_1 _));unfold Builtin.«dict_values.__iter__»;refine wpAny_bind (wpAny_pure (wpAny_bind ?_));unfold Builtin.Dict_items.dictOf;refine wpAny_bind (wpAny_field g1 g3 (x:=.ref tab) rfl (wpAny_pure (wpAny_bind ?_)));unfold Builtin.Dict_items.newIterator;refine wpAny_bind (wpAny_dictEntries m1 m2 (wpAny_bind (wpAny_dictEpoch m1 m2 ?_)));simp only [show Builtin.Dict_items.ownsTuple "dict_valueiterator"=false by decide,Bool.false_eq_true,if_false];refine wpAny_newObj_type (wpAny_pure ⟨_,rfl,"dict_valueiterator",_,⟨_,Heap.get?_push_size _ rfl,rfl⟩,F.slot_dict_valueiterator_next.lookup,?_⟩);simpa [rawInt,sz] using k
theorem Qs {it tab:Addr} {i ep:Nat} {us:List Value} {x:Value} {Qd:Option Value->Shared->Prop} (hit:st.heap.IsValIter it tab i us.length ep) (m:qQ st.heap tab us ep) (hx:us[i]?=some x)
  (k:∀ h',h'.IsValIter it tab (i+1) us.length ep->Heap.SameBut it st.heap h'->Qd (some x) { st with heap:=h' }):wpAny (model Pr Wd) Ar (pyNext (.ref it)) Qd Er st:=by
 obtain ⟨oi,g1,g2,g3⟩:=id hit;obtain ⟨ob,ents,m1,m2,m3⟩:=m;have sz:ents.size=us.length:=by rw [<- m3];simp
 have hlt:i < ents.size:=by rw [sz];exact (List.getElem?_eq_some_iff.mp hx).1
 have hval:ents[i].val=x:=by
  rw [<- m3,List.getElem?_map] at hx;rw [Array.getElem?_toList,Array.getElem?_eq_getElem hlt] at hx;exact Option.some.inj hx
 unfold pyNext;refine wpAny_bind (wpAny_attempt (wpAny_callSpecial?_slot (name:=Str.ofString "__next__") hit.typeIs F.slot_dict_valueiterator_next (wpAny_call_entry F.slot_dict_valueiterator_next hit.typeIs F.entry_dict_valueiterator_next ?_ (F.args_dict_valueiterator_next_1 _))));refine wpAny_bind (wpAny_pure (wpAny_bind (wpAny_bind ?_)))
 first | refine wpAny_bind (wpAny_typeNameOfWhole_valiter hit.typeIs (wpAny_pure (wpAny_bind (wpAny_fieldsOf g1 g3 ?_)))) | refine wpAny_bind (wpAny_typeNameOf_valiter hit.typeIs (wpAny_pure (wpAny_bind (wpAny_fieldsOf g1 g3 ?_))))
 simp only [show Builtin.Dict_items.ownsTuple "dict_valueiterator"=false by decide,Bool.false_eq_true,if_false];show wpAny _ _ (if (Value.ref tab==Value.none)=true then _ else _) _ _ st;rw [if_neg (show ¬ ((Value.ref tab==Value.none)=true) from Bool.false_ne_true)];refine wpAny_bind (wpAny_pure (wpAny_bind (wpAny_dictEntries m1 m2 ?_)));rw [if_neg (by rw [sz];simp)];refine wpAny_bind (wpAny_pure (wpAny_bind (wpAny_dictEpoch m1 m2 ?_)));rw [if_neg (by simp)];refine wpAny_pure ?_;simp only [show ¬ ((i:Int) < 0) from by omega,if_false,Int.toNat_natCast,Array.getElem?_eq_getElem hlt];refine wpAny_bind ?_
 first | refine wpAny_bind (wpAny_typeNameOfWhole_valiter hit.typeIs (wpAny_pure (wpAny_bind (wpAny_isOneOf_valiter hit.typeIs ?_)))) | refine wpAny_bind (wpAny_typeNameOf_valiter hit.typeIs (wpAny_pure (wpAny_bind (wpAny_isOneOf_valiter hit.typeIs ?_))))
 show wpAny _ _ (setField (.ref it) 1 (rawInt ((i:Int)+1)) >>= _) _ _ st;have YX:(st.heap.update it (Obj.mapFields (·.setIfInBounds 1 (rawInt ((i:Int)+1))))).IsValIter it tab (i+1) us.length ep:=⟨_,Heap.get?_update_self _ g1 (Obj.isFreed_of_fields (Obj.data_mapFields g3 _)),(Obj.cls_mapFields ..).trans g2,by rw [Obj.data_mapFields g3];simp [rawInt]⟩;refine wpAny_bind (wpAny_setField g1 g3 (by simp) (wpAny_bind (wpAny_holding ?_)));refine wpAny_bind (wpAny_isOneOf_valiter (s:={ st with heap:=st.heap.update it (Obj.mapFields (·.setIfInBounds 1 (rawInt ((i:Int)+1)))) }) YX.typeIs (wpAny_bind (wpAny_isOneOf_valiter (s:={ st with heap:=st.heap.update it (Obj.mapFields (·.setIfInBounds 1 (rawInt ((i:Int)+1)))) }) YX.typeIs ?_)));show wpAny _ _ (pure ents[i].val) _ _ _;exact wpAny_pure (wpAny_pure ⟨_,rfl,wpAny_pure (hval ▸ k _ YX (Heap.SameBut.update ..))⟩)
theorem SX {it tab:Addr} {ep:Nat} {us:List Value} {Qd:Option Value->Shared->Prop} (hh:Ar.handled=none) (hit:st.heap.IsValIter it tab us.length us.length ep) (m:qQ st.heap tab us ep)
  (k:∀ h',Heap.ExtBut it st.heap h'->Qd none { st with heap:=h' }):wpAny (model Pr Wd) Ar (pyNext (.ref it)) Qd Er st:=by
 obtain ⟨oi,g1,g2,g3⟩:=id hit;obtain ⟨ob,ents,m1,m2,m3⟩:=m;have sz:ents.size=us.length:=by rw [<- m3];simp
 unfold pyNext;refine wpAny_bind (wpAny_attempt (wpAny_callSpecial?_slot (name:=Str.ofString "__next__") hit.typeIs F.slot_dict_valueiterator_next (wpAny_call_entry F.slot_dict_valueiterator_next hit.typeIs F.entry_dict_valueiterator_next ?_ (F.args_dict_valueiterator_next_1 _))));refine wpAny_bind (wpAny_pure (wpAny_bind (wpAny_bind ?_)))
 first | refine wpAny_bind (wpAny_typeNameOfWhole_valiter hit.typeIs (wpAny_pure (wpAny_bind (wpAny_fieldsOf g1 g3 ?_)))) | refine wpAny_bind (wpAny_typeNameOf_valiter hit.typeIs (wpAny_pure (wpAny_bind (wpAny_fieldsOf g1 g3 ?_))))
 simp only [show Builtin.Dict_items.ownsTuple "dict_valueiterator"=false by decide,Bool.false_eq_true,if_false];show wpAny _ _ (if (Value.ref tab==Value.none)=true then _ else _) _ _ st;rw [if_neg (show ¬ ((Value.ref tab==Value.none)=true) from Bool.false_ne_true)];refine wpAny_bind (wpAny_pure (wpAny_bind (wpAny_dictEntries m1 m2 ?_)));rw [if_neg (by rw [sz];simp)];refine wpAny_bind (wpAny_pure (wpAny_bind (wpAny_dictEpoch m1 m2 ?_)));rw [if_neg (by simp)];refine wpAny_pure ?_;simp only [show ¬ ((us.length:Int) < 0) from by omega,if_false,Int.toNat_natCast,Array.getElem?_eq_none (show ents.size<=us.length by omega)];refine wpAny_bind ?_
 first | refine wpAny_bind (wpAny_typeNameOfWhole_valiter hit.typeIs (wpAny_pure ?_)) | refine wpAny_bind (wpAny_typeNameOf_valiter hit.typeIs (wpAny_pure ?_))
 show wpAny _ _ (setField (.ref it) 0 .none >>= _) _ _ st;refine wpAny_bind (wpAny_setField g1 g3 (by simp) ?_);show wpAny _ _ (newExc (.type "StopIteration") [] >>= _) _ _ _;refine wpAny_bind ?_;simp only [newExc,newTuple];refine wpAny_bind (wpAny_newObj_type ?_ (by size_fits));refine wpAny_bind (m:=firstArgMember _ _) (wpAny_of_eq (a:=Value.none) (by first | rfl | (simp only [firstArgMember];rfl)) ?_);refine wpAny_newObj_type ?_ (by size_fits);simp only [raiseNew];refine wpAny_bind (wpAny_handled ?_);rw [show Ar.in1.handled=none from hh];refine wpAny_bind (wpAny_pure (wpAny_throw ?_));refine wpAny_bind (wpAny_isInstance (T:="StopIteration") (b:=true) ⟨_,Heap.get?_push_size _ rfl,rfl⟩ isSubtype_stop ?_);exact wpAny_pure (k _ (((Heap.SameBut.update ..).extBut.push _).push _))
end
end L2
namespace L2
open PySem PySem.Spec PyProof.Rows PySem.W
section
variable {Pr:Program} {Wd:World} {Ar:Around}
theorem qQ.keep {h h':Heap} {tab:Addr} {us:List Value} {ep:Nat} (m:qQ h tab us ep) (k:∀ o,h.get? tab=some o->h'.get? tab=some o):qQ h' tab us ep:=
 let ⟨ob,ents,m1,m2⟩:=m
 ⟨ob,ents,k ob m1,m2⟩
theorem qQ.lt {h:Heap} {tab:Addr} {us:List Value} {ep:Nat} (m:qQ h tab us ep):tab < h.objs.size:=let ⟨_,_,m1,_⟩:=m;Heap.lt_size m1
theorem Qt {h h':Heap} {it tab:Addr} {i n ep:Nat} (x:h.IsValIter it tab i n ep) (k:∀ o,h.get? it=some o->h'.get? it=some o):h'.IsValIter it tab i n ep:=let ⟨o,e,r⟩:=x;⟨o,k o e,r⟩
theorem NB (hh:Ar.handled=none) (I tab:Addr) (hne:tab ≠ I) (us:List Value) (ep:Nat) :
   Walks Pr Wd Ar I [I,tab] [I] us.length (fun i v=>us[i]?=some v) (fun i h=>h.IsValIter I tab i us.length ep/\qQ h tab us ep) where
 sub:=fun b hb=>by simp at hb;simp [hb]
 frame:=fun _ _ _ q hk=>⟨Qt q.1 (hk I (by simp)),q.2.keep (hk tab (by simp))⟩
 item:=fun i s Q E hi q hQ=>Qs q.1 q.2 (List.getElem?_eq_getElem hi) fun h' a1 a2=>hQ us[i] h' s.toks (List.getElem?_eq_getElem hi) ⟨a1,q.2.keep fun o e=>a2.extBut tab o hne e⟩ fun b o hb e=>a2.extBut b o (fun z=>hb (by simp [z])) e
 done:=fun s Q E q hQ=>SX hh q.1 q.2 fun h' a=>hQ h' s.toks fun b o hb e=>a b o (fun z=>hb (by simp [z])) e
 self:=fun _ _ _ _ q hQ=>wpAny_pyIter_valiter q.1 hQ
theorem Tc {r tab:Addr} {us:List Value} {ep:Nat}:KdlSrc Pr Wd "dict_values" r tab us.length (fun i v=>us[i]?=some v) (fun h=>h.IsValuesView r tab/\qQ h tab us ep) where
 type:=fun _ q=>q.1.typeIs
 there:=fun _ q=>⟨let ⟨_,e,_⟩:=q.1;Heap.lt_size e,q.2.lt⟩
 keep:=fun _ _ q hk=>⟨let ⟨o,e,x⟩:=q.1;⟨o,hk r (.inl rfl) o e,x⟩,q.2.keep (hk tab (.inr rfl))⟩
 notList:=by decide
 notTuple:=by decide
 hint:=fun _ _ _ _ q hq=>kdl_hint_values q.1.typeIs hq
 iter:=fun _ s hh q=>⟨_,_,fun _ _ hq=>Qq q.1 q.2 hq,NB hh _ tab (Nat.ne_of_lt q.2.lt) us ep,⟨⟨_,Heap.get?_push_size _ rfl,rfl,rfl⟩,q.2.keep fun o e=>Heap.get?_push_of_some _ e⟩⟩
theorem De {st:Shared} (tab:Addr) (plain:(tab==sysModules)=false) :
  MeetsIn Pr Wd (Builtin.«dict.values» ⟨[.ref tab],[]⟩) (fun _ Rs st=>st.TypeIs (.ref tab) "dict"/\Rs (.ok (.ret (.ref st.heap.objs.size))) { st with heap:=st.heap.push { cls:=.type "dict_values",data:=.fields #[.ref tab] } }):=
 .of_wp fun Ar Rs st ⟨ty,k⟩=>by
  refine wpAny_bind ?_;unfold Builtin.Dict.noArgs
  refine wpAny_bind (wpAny_notOrdered_dict ty (wpAny_pure (α:=Addr) (a:=tab) ?_))
  show wpAny _ _ (Builtin.Dict.showsAll tab >>= _) _ _ st
  unfold Builtin.Dict.showsAll;rw [plain,if_neg (by decide)]
  exact wpAny_bind (wpAny_pure (wpAny_bind (wpAny_newObj_type (wpAny_pure ⟨_,rfl,k⟩))))
end
section
variable {X:Cx} {e:Expr} {td:TE} {p apos cpos pos:Pos}
def Qu (td:TE):TE:=fun σ H Q=>td σ H fun x H1=>∃ a kvs,x=.ref a/\H1 a=some (.dT kvs)/\∀ l,H1 l=none->Q (.ref l) (upd H1 l (.lst (kvs.map (·.2))))
theorem VL {H:Hp} {kvs:List (List Key×V)} {xs:List (List Key×Addr×Value)} (r:KT H kvs xs):Vals (kvs.map (·.2)) (xs.map (·.2.2)):=by
 induction r with
 | nil=>exact .nil
 | cons h t ih=>exact .cons h.2.2 ih
theorem Lm (hc:X.calm=true) (hg:Gl X "list") (hm:X.mg "list"=none) (he:PE X e td) (hbase:attributeBase e "values" X.env (eval e X.env)=eval e X.env:=by rfl) (hline:(apos.endLine==cpos.line)=true:=by rfl)
   (hs:starEach [.Call (.Attribute e "values" apos) [] [] cpos] X.env=[(false,eval (.Call (.Attribute e "values" apos) [] [] cpos) X.env)]:=by rfl) :
   PE X (.Call (.Name "list" p) [.Call (.Attribute e "values" apos) [] [] cpos] [] pos) (Qu td):=by
 intro pins s σ H Q I h;refine wpAny_Call_Name_kw (zm I hg hm boot_list ?_ (by decide) (by decide));refine PyProof.Rows.callWith_type1 ?_ hs rfl;rw [hs];show wpAny _ _ (spliced ((false,eval (.Call (.Attribute e "values" apos) [] [] cpos) X.env)::[])) _ _ s;refine Calls.spliced_cons ?_;refine wpAny_Call_method (T:="dict") (id:="dict.values") hbase rfl hline PySem.F.plainAttrs_dict PySem.F.slot_dict_values PySem.F.type_dict_values (dZ (he pins s σ H _ I h) fun u s1 ⟨x,H1,I1,rx,a,kvs,ex,hd,q⟩=>?_);subst ex;obtain rfl:u=Value.ref a:=rx;obtain ⟨zz,plain,xs,rel,dd⟩:=OA I1.hok hd;obtain ⟨t1,t2,_⟩:=Nv I1 (.inr ⟨kvs,.inl hd⟩);refine ⟨t1,t2,?_⟩;show wpAny _ _ (callWith cpos (.builtin "dict.values") [.ref a] [] []) _ X.xe s1;refine method_meetsIn PySem.F.slot_dict_values PySem.F.entry_dict_values rfl (PySem.evalArgs_none ⟨rfl,dd.typeIs,PySem.F.args_dict_values_1 _,_,De (st:=s1) a plain,dd.typeIs,?_⟩);obtain ⟨ob,ents,ep,g1,g2,g3,g4,g5,g6⟩:=dd;have I2:Inv X pins σ H1 { s1 with heap:=s1.heap.push { cls:=.type "dict_values",data:=.fields #[.ref a] } }:=I1.kept (t':=s1.toks) fun b ob q=>Heap.get?_push_of_some _ q
 have va:qQ (s1.heap.push { cls:=.type "dict_values",data:=.fields #[.ref a] }) a (xs.map (·.2.2)) ep:=⟨ob,ents,Heap.get?_push_of_some _ g1,g3,by rw [g4,List.map_map];rfl⟩;refine Calls.spliced_nil ?_;refine kdl_call (s:={ s1 with heap:=s1.heap.push { cls:=.type "dict_values",data:=.fields #[.ref a] } }) Tc (I2.ok.hd hc) ⟨⟨_,Heap.get?_push_size _ rfl,rfl,rfl⟩,va⟩ (by rw [List.length_map,<- Paired.length rel];exact zz) fun h' tk acc c kp eL items=>?_
 have eq:acc.toList=xs.map (·.2.2):=by
   refine List.ext_getElem? fun j=>?_;by_cases hj:j < (xs.map (·.2.2)).length
   . have hj2:j < acc.size:=by rw [items.1];exact hj
     have:=items.2 j acc[j] (Array.getElem?_eq_getElem hj2);rw [Array.getElem?_toList,Array.getElem?_eq_getElem hj2];exact this.symm
   . rw [List.getElem?_eq_none (by rw [Array.length_toList,items.1];omega),List.getElem?_eq_none (by omega)]
 refine ⟨.ref (s1.heap.push { cls:=.type "dict_values",data:=.fields #[.ref a] }).objs.size,_,I2.laid (t':=tk) kp (Nat.le_refl _) (show dY X.prog X.w _ h' _ (.lst (kvs.map (·.2))) from ⟨by rw [List.length_map];exact zz,xs.map (·.2.2),c,VL rel,by rw [<- eq,Array.toArray_toList];exact eL⟩),rfl,q _ (I2.hok.fresh (Nat.le_refl _))⟩
end
end L2
namespace L2
open PySem PySem.Spec PyProof.Rows PySem.W
theorem Qw (a d:Value):argsOk "min" ⟨[a],[(Str.ofString "default",d)]⟩:=by unfold argsOk;kernel_rfl
section
variable {Pr:Program} {Wd:World} {Ar:Around} {Rs:Result->Shared->Prop} {It Bs:Addr} {fp wr:List Addr} {n:Nat} {Pv:Nat->Value->Prop} {St:Nat->Heap->Prop} {kw:List (Str×Value)} {bt:Nat->Nat->Bool}
abbrev aaC (u:Value) (c:Nat):Obj:={ cls:=.type "list",dict:=none,data:=.seq #[u,u] c,slots:=#[] }
theorem zu (Wk:Walks Pr Wd Ar.in1 It fp wr n Pv St) (cmp:CmpOf Pr Wd Ar.in1 .Lt Pv bt) (out:Bs ∉ fp) :
   ∀ (k j:Nat) (st:Shared) (u:Value) (c:Nat),n - (j+1)=k->j+1<=n->St (j+1) st.heap->Pv (argBest bt j) u->st.heap.get? Bs=some (aaC u c)->
   (∀ v hp tk,Pv (argBest bt (n - 1)) v->(∀ b o,b ∉ wr->b ≠ Bs->st.heap.get? b=some o->hp.get? b=some o)->Rs (.ok (.ret v)) { st with heap:=hp,toks:=tk })->
   codeAny (model Pr Wd) Ar (.builtin "min.loop" ⟨[.ref It,.none,.ref Bs],kw⟩) Rs st
 | k,j,st,u,c,ek,le,at_,pu,hB,fin=>by
   have VM:Bs ∉ wr:=fun z=>out (Wk.sub _ z)
   have nm:(toString "min"++toString ".loop":String) = "min.loop":=by decide
   refine codeAny_builtin PySem.F.entry_min_loop ?_
   rw [Around.under_plainId PySem.F.plain_min_loop _]
   show wpAny _ Ar.in1 (seqItems? (.ref Bs) >>= _) _ _ st
   refine wpAny_bind (wpAny_seqItems hB rfl ?_)
   show wpAny _ Ar.in1 (tryCatch (pyNext (.ref It)) _ >>= _) _ _ st
   cases k with
   | zero=>
     have en:j+1=n:=by omega
     refine wpAny_bind (wpAny_tryCatch (Wk.done st _ _ (en ▸ at_) fun hp tk keeps=>?_))
     have hB':=keeps Bs _ VM hB
     show wpAny _ Ar.in1 (updateSeq Bs (fun _=>#[]) >>= _) _ _ _
     refine wpAny_bind ?_
     refine wpAny_updateSeq hB' rfl (wpAny_bind (wpAny_letGo (wpAny_pure (fin u _ tk (by rw [<- en];exact pu) fun b o b1 b2 e=>?_))))
     exact (Heap.get?_update_other _ _ (Ne.symm b2)).trans (keeps b o b1 e)
   | succ k=>
     have lt:j+1 < n:=by omega
     refine wpAny_bind (wpAny_tryCatch (Wk.item (j+1) st _ _ lt at_ fun v hp tk pv at' keeps=>?_))
     have hB':=keeps Bs _ VM hB
     show wpAny _ Ar.in1 (tryCatch (holding [v,v] (richCompare .Lt v u >>= _)) _ >>= _) _ _ _
     refine wpAny_bind (wpAny_tryCatch (wpAny_holding (wpAny_bind (cmp (j+1) (argBest bt j) v u _ _ _ pv pu ?_))))
     refine wpAny_bind (wpAny_holding (wpAny_truthy_bool (wpAny_bind (wpAny_letGo (wpAny_pure ?_)))))
     cases better:bt (j+1) (argBest bt j) with
     | true=>
       rw [if_pos rfl]
       refine wpAny_bind ?_
       refine wpAny_updateSeq hB' rfl (wpAny_bind (wpAny_letGo ?_))
       rw [nm]
       refine wpAny_pure ⟨plainId_quiet PySem.F.plain_min_loop _,zu Wk cmp out k (j+1) _ v _ (by omega) lt (Wk.frame _ _ _ at' fun b hb o e=>?_) (by rw [argBest,better];exact pv) (Heap.get?_update_self _ hB' rfl) fun v' hp' tk' pv' keeps'=>?_⟩
       . exact (Heap.get?_update_other _ _ (fun z:Bs=b=>out (z ▸ hb))).trans e
       . exact fin v' hp' tk' pv' fun b o b1 b2 e=>keeps' b o b1 b2 ((Heap.get?_update_other _ _ (Ne.symm b2)).trans (keeps b o b1 e))
     | false=>
       rw [if_neg Bool.false_ne_true]
       refine wpAny_bind (wpAny_letGo ?_)
       rw [nm]
       exact wpAny_pure ⟨plainId_quiet PySem.F.plain_min_loop _,zu Wk cmp out k (j+1) _ u c (by omega) lt at' (by rw [argBest,better];exact pu) hB' fun v' hp' tk' pv' keeps'=>fin v' hp' tk' pv' fun b o b1 b2 e=>keeps' b o b1 b2 (keeps b o b1 e)⟩
theorem NC (Wk:Walks Pr Wd Ar.in1 It fp wr n Pv St) (cmp:CmpOf Pr Wd Ar.in1 .Lt Pv bt) (out:Bs ∉ fp) {st:Shared} {c:Nat} {nk:Str} {d:Value} (at_:St 0 st.heap)
   (hB:st.heap.get? Bs=some { cls:=.type "list",dict:=none,data:=.seq #[] c,slots:=#[] })
   (fin:∀ v hp tk,(n=0/\v=d)\/(0 < n/\Pv (argBest bt (n - 1)) v)->(∀ b o,b ∉ wr->b ≠ Bs->st.heap.get? b=some o->hp.get? b=some o)->Rs (.ok (.ret v)) { st with heap:=hp,toks:=tk }) :
   codeAny (model Pr Wd) Ar (.builtin "min.loop" ⟨[.ref It,.none,.ref Bs],[(nk,d)]⟩) Rs st:=by
 have VM:Bs ∉ wr:=fun z=>out (Wk.sub _ z);have nm:(toString "min"++toString ".loop":String) = "min.loop":=by decide
 refine codeAny_builtin PySem.F.entry_min_loop ?_;rw [Around.under_plainId PySem.F.plain_min_loop _];show wpAny _ Ar.in1 (seqItems? (.ref Bs) >>= _) _ _ st;refine wpAny_bind (wpAny_seqItems hB rfl ?_);show wpAny _ Ar.in1 (tryCatch (pyNext (.ref It)) _ >>= _) _ _ st;rcases Nat.eq_zero_or_pos n with e0 | pos
 . refine wpAny_bind (wpAny_tryCatch (Wk.done st _ _ (e0.symm ▸ at_) fun hp tk keeps=>?_))
   refine wpAny_bind (wpAny_rule (wpAny_pure ?_));exact fin d hp tk (.inl ⟨e0,rfl⟩) fun b o b1 b2 e=>keeps b o b1 e
 . refine wpAny_bind (wpAny_tryCatch (Wk.item 0 st _ _ pos at_ fun v hp tk pv at' keeps=>?_))
   have hB':=keeps Bs _ VM hB;show wpAny _ Ar.in1 (updateSeq Bs (fun _=>#[v,v]) >>= _) _ _ _;refine wpAny_bind ?_;refine wpAny_updateSeq hB' rfl ?_;rw [nm];refine wpAny_pure ⟨plainId_quiet PySem.F.plain_min_loop _,zu Wk cmp out _ 0 _ v _ rfl pos (Wk.frame _ _ _ at' fun b hb o e=>?_) pv (Heap.get?_update_self _ hB' rfl) fun v' hp' tk' pv' keeps'=>?_⟩
   . exact (Heap.get?_update_other _ _ (fun z:Bs=b=>out (z ▸ hb))).trans e
   . exact fin v' hp' tk' (.inr ⟨pos,pv'⟩) fun b o b1 b2 e=>keeps' b o b1 b2 ((Heap.get?_update_other _ _ (Ne.symm b2)).trans (keeps b o b1 e))
end
section
variable {Pr:Program} {Wd:World} {Ar:Around} {Er:Value->Shared->Prop} {st:Shared}
theorem Qx {l:Addr} {xs:Array (Int×Tok)} {d:Value} {Qv:Value->Shared->Prop} (hh:Ar.handled=none) (hl:st.heap.IsList l (intItems xs))
  (fin:∀ v hp tk,(xs.size=0/\v=d)\/(0 < xs.size/\(intItems xs)[argBest (fun i j=>decide (numAt xs i < numAt xs j)) (xs.size - 1)]?=some v)->(∀ b o,st.heap.get? b=some o->hp.get? b=some o)->Qv v { st with heap:=hp,toks:=tk }) :
  wpAny (model Pr Wd) Ar (call (.builtin "min") [.ref l] [(Str.ofString "default",d)]) Qv Er st:=by
 have nm:(toString "min"++toString ".loop":String) = "min.loop":=by decide
 have sz:(intItems xs).size=xs.size:=by simp [intItems]
 refine kmb_tree PySem.F.kind_min PySem.F.plain_min PySem.F.entry_min (Qw _ _) ?_;refine wpAny_bind (wpAny_of_eq (show Builtin.Builtins.bindParams "min" ["key","default"] 0 ⟨[],[(Str.ofString "default",d)]⟩=pure [none,some d] from rfl) ?_);refine wpAny_bind (wpAny_pure ?_);refine wpAny_bind (iter_intList hl fun s2 e at_ inn ne=>?_);refine wpAny_bind (wpAny_newObj_type ?_);have out:s2.heap.objs.size ∉ [st.heap.objs.size,l]:=fun z=>Nat.lt_irrefl _ (inn _ z);rw [nm];have Wk:=Walks.list (prog:=Pr) (w:=Wd) (A:=Ar.in1) hh st.heap.objs.size l ne (intItems xs);refine wpAny_pure ⟨plainId_quiet PySem.F.plain_min_loop _,NC Wk (CmpOf.ints_lt (numAt xs) (fun _ _=>intItems_at)) out (Wk.frame _ _ _ at_ fun b _ o e=>Heap.get?_push_of_some _ e) (Heap.get?_push_size _ rfl) fun v hp tk pv keeps=>?_⟩;subst e;rw [sz] at pv;exact fin v hp tk pv (old_kept fun b o b1 e=>keeps b o b1 (Nat.ne_of_lt (Heap.lt_size e)) (Heap.get?_push_of_some _ e))
end
section
variable {X:Cx} {p pos kp:Pos} {e d:Expr} {te td:TE}
def aaD (K:Zqq) (vs zs:List V) (H:Hp) (Q:VK):Prop:=∃ (a:Addr) (ns:List Int) (i:Int),vs=[.ref a]/\zs=[.int i]/\bI K H a (ns.map V.int) /\
 (ns=[]->Q (.int i) H)/\∀ m,m ∈ ns->(∀ y,y ∈ ns->m<=y)->Q (.int m) H
def aaE (K:Zqq) (te td:TE):TE:=fun σ H Q=>O2 te Sh σ H fun vs H1=>O2 td Sh σ H1 fun zs H2=>aaD K vs zs H2 Q
theorem VN (hc:X.calm=true) (hg:Gl X "min") (hm:X.mg "min"=none) (hv:bootBuiltins "min"=some (.builtin "min")) (ha:PE X e te) (hd:PE X d td)
   (hs:starEach [e] X.env=(false,eval e X.env)::starEach [] X.env:=by rfl) :
   PE X (.Call (.Name "min" p) [e] [⟨some (Str.ofString "default"),d,kp⟩] pos) (aaE X.K te td):=by
 intro pins s σ H Q I h;refine wpAny_Call_Name_kw (zm I hg hm hv ?_);have hb:backTo pos (starEach [e] X.env)=(false,eval e X.env)::backTo pos (starEach [] X.env):=by rw [hs];rfl
 refine callWith_kw ?_ hb (by rw [hb];rfl);refine dZ ((af ha au hs) pos pins s σ H _ I h) fun us s1 ⟨vs,H1,I1,r,q⟩=>?_;refine dZ ((V0 (nm:=some (Str.ofString "default")) (kpos:=kp) hd Y3) pos pins s1 σ H1 _ I1 q) fun ws s2 ⟨zs,H2,I2,rz,a,ns,i,e1,e2,hl,q0,qm⟩=>?_;subst e1 e2;obtain ⟨its,rv,il,_⟩:=I2.list hl;obtain ⟨xs,ex⟩:=rv.ints.allInts.items;have en:numsOf (intItems xs).toList=ns:=by rw [<- ex];exact rv.ints.numsOf
 rw [nums_intItems] at en;have il2:=il.isList;rw [ex] at il2;cases rz with
 | cons r1 rt=>
   cases rt;obtain ⟨tk,rfl⟩:=r1;rw [Vals.aax r];refine Qx (I2.ok.hd hc) il2 fun v hp tk' hv2 keeps=>?_;rcases hv2 with ⟨z0,rfl⟩ | ⟨pos',at'⟩
   . refine ⟨.int i,H2,I2.kept keeps,⟨_,rfl⟩,q0 ?_⟩
     rw [<- en];simpa using z0
   . obtain ⟨t',rfl⟩:=intItems_at at'
     obtain ⟨b1,b2⟩:=argBest_lt (numAt xs) (xs.size - 1);refine ⟨.int _,H2,I2.kept keeps,⟨_,rfl⟩,qm _ ?_ fun y hy=>?_⟩
     . rw [numAt_eq,<- en]
       exact PySem.getD_mem (by rw [List.length_map,Array.length_toList];omega)
     . rw [<- en] at hy
       obtain ⟨j,hj,rfl⟩:=mem_getD hy;rw [List.length_map,Array.length_toList] at hj;rw [<- numAt_eq];exact b2 j (by omega)
end
end L2
namespace L2
open PySem PySem.Spec PyProof.Rows
theorem fld {K:Zqq} {H:Hp} {a C dx:Addr} {fs:List (Str×V)} {v:V} {f:Str} {Q:V->Prop} (h:H a=some (.ins C dx fs)) (c:D8 K C) (n:b6 K C f) (l:fs.lookup f=some v) (q:Q v) :
   ∃ (a' C' dx':Addr) (fs':List (Str×V)) (v':V),V.ref a=.ref a'/\H a'=some (.ins C' dx' fs')/\D8 K C'/\b6 K C' f/\fs'.lookup f=some v'/\Q v':=⟨a,C,dx,fs,v,rfl,h,c,n,l,q⟩
theorem tT {K:Zqq} {H:Hp} {p:Addr} {xs:List V} {i:Int} {v:V} {Q:V->Prop} (h:bI K H p xs) (e:Sn xs i=some v) (q:Q v) :
   ∃ (p':Addr) (xs':List V) (i':Int) (v':V),V.ref p=.ref p'/\V.int i=.int i'/\bI K H p' xs'/\Sn xs' i'=some v'/\Q v':=⟨p,xs,i,v,rfl,rfl,h,e,q⟩
theorem XD {K:Zqq} {H:Hp} {p:Addr} {xs:List V} {i:Int} {v:V} {Q:V->Prop} (h:nU K H p xs) (e:Sn xs i=some v) (q:Q v) :
   ∃ (p':Addr) (xs':List V) (i':Int) (v':V),V.ref p=.ref p'/\V.int i=.int i'/\nU K H p' xs'/\Sn xs' i'=some v'/\Q v':=⟨p,xs,i,v,rfl,rfl,h,e,q⟩
abbrev Iv:=Nat->St->Hp->Prop
theorem lT {N P:List Str} {sc:Scope} (h:N.Nodup/\(∀ x ∈ P,sc.names.lookup x=some .local\/sc.names.lookup x=some .cell)/\∀ y ∈ sc.names,y.2 ≠ .free) (k:sc.kind=.function:=by rfl) (c:sc.isCoroutine=false:=by rfl) (g:sc.isGenerator=false:=by rfl) (p:N.take P.length=P:=by rfl):aQ N P sc:=⟨k,c,g,h.1,p,h.2.1,h.2.2⟩
end L2
namespace JM
open Fk
theorem bg {α β:Type} (y:α) (f:α->Except Fault β):andThen (.ok y) f=f y:=rfl
theorem bq {α β γ:Type} (x:Except Fault α) (f:α->Except Fault β) (g:β->Except Fault γ):andThen (andThen x f) g=andThen x fun y=>andThen (f y) g:=by
 cases x<;>rfl
theorem k9 {α β:Type} {x x':Except Fault α} {f f':α->Except Fault β} (h:x=x') (hf:∀ y,x=.ok y->f y=f' y):andThen x f=andThen x' f':=by
 subst h;cases x with
 | error e=>rfl
 | ok y=>exact hf y rfl
theorem Ln {k:Nat} {g g':Nat->Bool} (h:∀ v,g v=g' v) (b:Bytes) (p:Nat):numIn k g b p=numIn k g' b p:=by
 have e:g=g':=funext h;rw [e]
theorem bA {k:Nat} {g:Nat->Bool} {b:Bytes} {p:Nat} {y:Nat×Bytes×Nat} (h:numIn k g b p=.ok y):k<=b.length/\g y.1=true/\y.1=num (b.take k)/\y.2.1=b.drop k/\y.2.2=p+k:=by
 unfold numIn at h;split at h
 . cases h
 . rename_i h1
   split at h
   . rename_i h2
     cases h;exact ⟨by omega,h2,rfl,rfl,rfl⟩
   . cases h
def many {α:Type} (one:Bytes->Nat->Except Fault (α×Bytes×Nat)):Nat->Bytes->Nat->Except Fault (List α×Bytes×Nat)
 | 0,b,p=>.ok ([],b,p)
 | k+1,b,p=>andThen (one b p) fun x=>andThen (many one k x.2.1 x.2.2) fun l=>.ok (x.1::l.1,l.2.1,l.2.2)
def m5:Bytes->Bytes->Nat->Except Fault (Bytes×Nat)
 | [],b,p=>.ok (b,p)
 | c::m,b,p=>andThen (numIn 1 (fun _=>true) b p) fun x=>andThen (need (decide (x.1=c.toNat)) 1 p) fun _=>m5 m x.2.1 x.2.2
theorem IV (c:UInt8):num [c]=c.toNat:=by
 simp [num]
theorem Lo:∀ (m b:Bytes) (p:Nat),m5 m b p=match (List.range m.length).find? fun i=>b[i]? != m[i]? with
   | some i=>.error ⟨if i < b.length then 1 else 5,p+min i b.length⟩
   | none=>.ok (b.drop m.length,p+m.length)
 | [],b,p=>by simp [m5]
 | c::m,[],p=>by
   have e:(List.range (c::m).length).find? (fun i=>([]:Bytes)[i]? != (c::m)[i]?)=some 0:=by
     rw [List.length_cons,List.range_succ_eq_map,List.find?_cons];have q:(([]:Bytes)[0]? != (c::m)[0]?)=true:=by simp
     rw [q]
   rw [e];simp [m5,numIn,andThen]
 | c::m,x::b,p=>by
   have ih:=Lo m b (p+1);rw [List.length_cons,List.range_succ_eq_map,List.find?_cons,List.find?_map];have e1:numIn 1 (fun _=>true) (x::b) p=.ok (x.toNat,b,p+1):=by
     simp [numIn,IV]
   unfold m5;rw [e1,bg];show andThen (need (decide (x.toNat=c.toNat)) 1 p) (fun _=>m5 m b (p+1))=_;by_cases hx:x=c
   . subst hx
     have e2:((x::b)[0]? != (x::m)[0]?)=false:=by simp
     rw [e2];have e3:(fun i=>(x::b)[i]? != (x::m)[i]?) ∘ Nat.succ=fun i=>b[i]? != m[i]?:=by
       funext i;simp
     rw [e3];have e4:need (decide (x.toNat=x.toNat)) 1 p=.ok ():=by simp [need]
     rw [e4,bg,ih];cases (List.range m.length).find? fun i=>b[i]? != m[i]? with
     | none=>simp;omega
     | some i=>
       simp only [Option.map_some];by_cases hi:i < b.length
       . have:i.succ < (x::b).length:=by simp;omega
         simp [hi];omega
       . have:¬ i.succ < (x::b).length:=by simp;omega
         simp [hi];omega
   . have e2:((x::b)[0]? != (c::m)[0]?)=true:=by simp [hx]
     rw [e2];have e4:need (decide (x.toNat=c.toNat)) 1 p=.error ⟨1,p⟩:=by
       have:¬ x.toNat=c.toNat:=fun q=>hx (UInt8.toNat_inj.mp q);simp [need,this]
     rw [e4];simp [andThen]
theorem ON (m b:Bytes):mark m b=m5 m b 0:=by
 rw [Lo];unfold mark;cases (List.range m.length).find? fun i=>b[i]? != m[i]?<;>simp
theorem zw:∀ {l m:List Nat},l.Pairwise (· < ·)->m.Pairwise (· < ·)->(∀ x,x ∈ l ↔ x ∈ m)->l=m
 | [],[],_,_,_=>rfl
 | [],y::m,_,_,h=>by have:=(h y).mpr (by simp);simp at this
 | x::l,[],_,_,h=>by have:=(h x).mp (by simp);simp at this
 | x::l,y::m,hl,hm,h=>by
   obtain ⟨hx,hl'⟩:=List.pairwise_cons.mp hl
   obtain ⟨hy,hm'⟩:=List.pairwise_cons.mp hm
   have e:x=y:=by
     rcases List.mem_cons.mp ((h x).mp (by simp)) with q | q
     . exact q
     . rcases List.mem_cons.mp ((h y).mpr (by simp)) with r | r
       . exact r.symm
       . have a:=hx y r
         have b:=hy x q;omega
   subst e;have ih:l=m:=zw hl' hm' fun z=>by
     constructor
     . intro hz
       rcases List.mem_cons.mp ((h z).mp (List.mem_cons.mpr (.inr hz))) with q | q
       . subst q;have:=hx z hz;omega
       . exact q
     . intro hz
       rcases List.mem_cons.mp ((h z).mpr (List.mem_cons.mpr (.inr hz))) with q | q
       . subst q;have:=hy z hz;omega
       . exact q
   rw [ih]
theorem Lp (n:Nat):(List.range n).Pairwise (· < ·):=List.pairwise_lt_range
theorem Al {n:Nat} (p:Nat->Bool):((List.range n).filter p).Pairwise (· < ·):=(Lp n).filter p
def ng (n:Nat) (l:List (Nat×Nat)):Prop:=(∀ x ∈ l,x.1 < x.2/\x.2 < n)/\l.Pairwise fun x y=>x.1 < y.1\/(x.1=y.1/\x.2 < y.2)
def ux (v:Nat) (x:Nat×Nat):Option Nat:=if x.1=v then some x.2 else if x.2=v then some x.1 else none
def bG (l:List (Nat×Nat)) (v:Nat):List Nat:=l.filterMap (ux v)
theorem uW {n:Nat} {l:List (Nat×Nat)} (h:ng n l) (v:Nat):(bG l v).Pairwise (· < ·):=by
 obtain ⟨h1,h2⟩:=h;unfold bG;rw [List.pairwise_filterMap];have h3:l.Pairwise fun x y=>(x.1 < x.2/\y.1 < y.2)/\(x.1 < y.1\/(x.1=y.1/\x.2 < y.2)):=by
   refine List.Pairwise.imp_of_mem ?_ h2;intro a b ha hb hab;exact ⟨⟨(h1 a ha).1,(h1 b hb).1⟩,hab⟩
 refine h3.imp ?_;rintro ⟨xa,xb⟩ ⟨ya,yb⟩ ⟨⟨p1,p2⟩,p3⟩ u hu w hw;unfold ux at hu hw;simp only at p1 p2 p3 hu hw;have cu:(xa=v/\xb=u)\/(xa ≠ v/\xb=v/\xa=u):=by
   by_cases q:xa=v
   . rw [if_pos q] at hu;exact .inl ⟨q,Option.some.inj hu⟩
   . rw [if_neg q] at hu
     by_cases q2:xb=v
     . rw [if_pos q2] at hu;exact .inr ⟨q,q2,Option.some.inj hu⟩
     . rw [if_neg q2] at hu;cases hu
 have cw:(ya=v/\yb=w)\/(ya ≠ v/\yb=v/\ya=w):=by
   by_cases q:ya=v
   . rw [if_pos q] at hw;exact .inl ⟨q,Option.some.inj hw⟩
   . rw [if_neg q] at hw
     by_cases q2:yb=v
     . rw [if_pos q2] at hw;exact .inr ⟨q,q2,Option.some.inj hw⟩
     . rw [if_neg q2] at hw;cases hw
 omega
theorem xm {l:List (Nat×Nat)} {v w:Nat}:w ∈ bG l v ↔ ∃ x ∈ l,(x.1=v/\x.2=w)\/(x.1 ≠ v/\x.2=v/\x.1=w):=by
 unfold bG;rw [List.mem_filterMap];constructor
 . rintro ⟨x,hx,e⟩
   refine ⟨x,hx,?_⟩;unfold ux at e;split at e
   . rename_i q;exact .inl ⟨q,Option.some.inj e⟩
   . rename_i q
     split at e
     . rename_i q2;exact .inr ⟨q,q2,Option.some.inj e⟩
     . cases e
 . rintro ⟨x,hx,e⟩
   refine ⟨x,hx,?_⟩;unfold ux;rcases e with ⟨q1,q2⟩ | ⟨q1,q2,q3⟩
   . rw [if_pos q1,q2]
   . rw [if_neg q1,if_pos q2,q3]
theorem C6 {n:Nat} {l:List (Nat×Nat)} (h:ng n l) (v:Nat) (j:Nat->Bool) (hj:∀ w,j w=l.any fun x=>(x.1==v&&x.2==w)||(x.1==w&&x.2==v)):(List.range n).filter j=bG l v:=by
 refine zw (Al j) (uW h v) fun w=>?_;rw [List.mem_filter,xm,hj,List.mem_range,List.any_eq_true];constructor
 . rintro ⟨_,x,hx,e⟩
   refine ⟨x,hx,?_⟩;have:=h.1 x hx;simp only [Bool.or_eq_true,Bool.and_eq_true,beq_iff_eq] at e;omega
 . rintro ⟨x,hx,e⟩
   have:=h.1 x hx;refine ⟨by omega,x,hx,?_⟩;simp only [Bool.or_eq_true,Bool.and_eq_true,beq_iff_eq];omega
end JM
namespace JM
open Fk
def qB (b:Bytes) (p:Nat):Except Fault ((PAtom×Nat)×Bytes×Nat):=
  andThen (numIn 1 (fun v=>decide (v<=8)) b p) fun c=>
  andThen (elementsIn c.1 0 c.2.1 c.2.2) fun e=>
  andThen (numIn 2 (fun v=>decide (v<=ANY)) e.2.1 e.2.2) fun i=>
  andThen (pairIn 1 8 i.2.1 i.2.2) fun q=>
  andThen (pairIn 1 7 q.2.1 q.2.2) fun h=>
  andThen (pairIn 1 MOSTBESIDE h.2.1 h.2.2) fun d=>
  andThen (pairIn 2 MOSTSUM d.2.1 d.2.2) fun s=>
  andThen (numIn 1 (fun v=>decide (v<=2)) s.2.1 s.2.2) fun r=>
  andThen (numIn 1 (fun v=>decide (v<=3)) r.2.1 r.2.2) fun g=>
  .ok ((⟨e.1,i.1,q.1,h.1,d.1,s.1,r.1,g.1⟩,r.2.2),g.2.1,g.2.2)
theorem C7:∀ (k:Nat) (b:Bytes) (p:Nat),patomsIn k b p=many qB k b p
 | 0,b,p=>rfl
 | k+1,b,p=>by
  unfold patomsIn many qB
  simp only [bq,bg,C7 k]
  rfl
def o8 (n:Nat) (had:Option (Nat×Nat)) (b:Bytes) (p:Nat):Except Fault ((Nat×Nat)×Bytes×Nat):=
   andThen (numIn 1 (fun v=>decide (v < n)) b p) fun x=>
   andThen (numIn 1 (fun v=>decide (x.1 < v)&&decide (v < n)) x.2.1 x.2.2) fun y=>
   andThen (need (match had with
     | some (u,w)=>decide (u < x.1)||(u==x.1&&decide (w < y.1))
     | none=>true) 3 p) fun _=>
   .ok ((x.1,y.1),y.2.1,y.2.2)
def jy {α:Type} (n:Nat) (one:Nat×Nat->Bytes->Nat->Except Fault (α×Bytes×Nat)):Nat->Option (Nat×Nat)->Bytes->Nat->Except Fault (List α×Bytes×Nat)
 | 0,_,b,p=>.ok ([],b,p)
 | k+1,had,b,p=>
  andThen (o8 n had b p) fun q=>andThen (one q.1 q.2.1 q.2.2) fun x=>andThen (jy n one k (some q.1) x.2.1 x.2.2) fun l=>.ok (x.1::l.1,l.2.1,l.2.2)
def qC (q:Nat×Nat) (b:Bytes) (p:Nat):Except Fault ((PBond×Nat)×Bytes×Nat):=
  andThen (numIn 1 (fun v=>decide (1<=v)&&decide (v<=7)) b p) fun o=>
  andThen (numIn 1 (fun v=>decide (v<=1)) o.2.1 o.2.2) fun h=>
  andThen (numIn 1 (fun v=>decide (v<=2)) h.2.1 h.2.2) fun r=>
  andThen (numIn 1 (fun v=>decide (v<=3)) r.2.1 r.2.2) fun s=>
  .ok ((⟨q.1,q.2,o.1,h.1,r.1,s.1⟩,r.2.2),s.2.1,s.2.2)
theorem C8 (n:Nat):∀ (k:Nat) (had:Option (Nat×Nat)) (b:Bytes) (p:Nat),pbondsIn n k had b p=jy n qC k had b p
 | 0,had,b,p=>rfl
 | k+1,had,b,p=>by
  unfold pbondsIn jy qC o8
  simp only [bq,bg,C8 n k]
  rfl
def qR (b:Bytes) (p:Nat):Except Fault (Atom×Bytes×Nat):=
  andThen (numIn 1 (fun v=>decide (1<=v)&&decide (v<=ELEMENTS)) b p) fun e=>
  andThen (numIn 2 (fun v=>decide (v<=ISOTOPE)) e.2.1 e.2.2) fun i=>
  andThen (numIn 1 (fun v=>decide (v<=8)) i.2.1 i.2.2) fun c=>
  andThen (numIn 1 (fun v=>decide (v<=7)) c.2.1 c.2.2) fun h=>
  andThen (numIn 1 (fun v=>decide (v<=2)) h.2.1 h.2.2) fun s=>
  .ok (⟨e.1,i.1,(c.1:Int) - 4,h.1,s.1⟩,s.2.1,s.2.2)
theorem Ex:∀ (k:Nat) (b:Bytes) (p:Nat),atomsIn k b p=many qR k b p
 | 0,b,p=>rfl
 | k+1,b,p=>by
  unfold atomsIn many qR
  simp only [bq,bg,Ex k]
  rfl
def p7 (q:Nat×Nat) (b:Bytes) (p:Nat):Except Fault (Bond×Bytes×Nat):=
  andThen (numIn 1 (fun v=>decide (1<=v)&&decide (v<=3)) b p) fun o=>
  andThen (numIn 1 (fun v=>decide (v<=2)) o.2.1 o.2.2) fun s=>
  .ok (⟨q.1,q.2,o.1,s.1⟩,s.2.1,s.2.2)
theorem Ey (n:Nat):∀ (k:Nat) (had:Option (Nat×Nat)) (b:Bytes) (p:Nat),bondsIn n k had b p=jy n p7 k had b p
 | 0,had,b,p=>rfl
 | k+1,had,b,p=>by
  unfold bondsIn jy p7 o8
  simp only [bq,bg,Ey n k]
  rfl
theorem t6 {α:Type} {one:Bytes->Nat->Except Fault (α×Bytes×Nat)}:∀ {k:Nat} {b:Bytes} {p:Nat} {y:List α×Bytes×Nat},many one k b p=.ok y->y.1.length=k
 | 0,b,p,y,h=>by cases h;rfl
 | k+1,b,p,y,h=>by
  unfold many at h
  cases h1:one b p with
  | error e=>rw [h1] at h;cases h
  | ok x=>
   rw [h1,bg] at h
   cases h2:many one k x.2.1 x.2.2 with
   | error e=>rw [h2] at h;cases h
   | ok l=>
    rw [h2,bg] at h
    cases h
    simp [t6 h2]
theorem qD {α:Type} {n:Nat} {one:Nat×Nat->Bytes->Nat->Except Fault (α×Bytes×Nat)}:∀ {k:Nat} {had:Option (Nat×Nat)} {b:Bytes} {p:Nat} {y:List α×Bytes×Nat},jy n one k had b p=.ok y->y.1.length=k
 | 0,_,b,p,y,h=>by cases h;rfl
 | k+1,had,b,p,y,h=>by
  unfold jy at h
  cases h0:o8 n had b p with
  | error e=>rw [h0] at h;cases h
  | ok q=>
   rw [h0,bg] at h
   cases h1:one q.1 q.2.1 q.2.2 with
   | error e=>rw [h1] at h;cases h
   | ok x=>
    rw [h1,bg] at h
    cases h2:jy n one k (some q.1) x.2.1 x.2.2 with
    | error e=>rw [h2] at h;cases h
    | ok l=>
     rw [h2,bg] at h
     cases h
     simp [qD h2]
theorem Qy {n:Nat} {had:Option (Nat×Nat)} {b:Bytes} {p:Nat} {q:(Nat×Nat)×Bytes×Nat} (h:o8 n had b p=.ok q) :
  q.1.1 < q.1.2/\q.1.2 < n/\∀ u,had=some u->u.1 < q.1.1\/(u.1=q.1.1/\u.2 < q.1.2):=by
 unfold o8 at h;cases h1:numIn 1 (fun v=>decide (v < n)) b p with
 | error e=>rw [h1] at h;cases h
 | ok x=>
  rw [h1,bg] at h;cases h2:numIn 1 (fun v=>decide (x.1 < v)&&decide (v < n)) x.2.1 x.2.2 with
  | error e=>rw [h2] at h;cases h
  | ok y=>
   rw [h2,bg] at h;have g2:=(bA h2).2.1;simp only [Bool.and_eq_true,decide_eq_true_eq] at g2;cases had with
   | none=>
    cases h;exact ⟨g2.1,g2.2,fun u hu=>by cases hu⟩
   | some uw=>
    obtain ⟨u,w⟩:=uw;have h:andThen (need (decide (u < x.1)||(u==x.1&&decide (w < y.1))) 3 p) (fun _=>Except.ok ((x.1,y.1),y.2.1,y.2.2))=Except.ok q:=h;cases hc:(decide (u < x.1)||(u==x.1&&decide (w < y.1))) with
    | false=>
     rw [hc] at h;cases h
    | true=>
     rw [hc] at h;cases h;refine ⟨g2.1,g2.2,fun u' hu=>?_⟩;cases hu;simp only [Bool.or_eq_true,Bool.and_eq_true,beq_iff_eq,decide_eq_true_eq] at hc;exact hc
theorem xq {α:Type} {n:Nat} {one:Nat×Nat->Bytes->Nat->Except Fault (α×Bytes×Nat)} {ends:α->Nat×Nat} (ho:∀ q b p x,one q b p=.ok x->ends x.1=q) :
   ∀ {k:Nat} {had:Option (Nat×Nat)} {b:Bytes} {p:Nat} {y:List α×Bytes×Nat},jy n one k had b p=.ok y->
     ng n (y.1.map ends)/\∀ u,had=some u->∀ x ∈ y.1.map ends,u.1 < x.1\/(u.1=x.1/\u.2 < x.2)
 | 0,_,b,p,y,h=>by
   cases h
   exact ⟨⟨by simp,by simp⟩,by simp⟩
 | k+1,had,b,p,y,h=>by
   unfold jy at h
   cases h0:o8 n had b p with
   | error e=>rw [h0] at h;cases h
   | ok q=>
     rw [h0,bg] at h
     obtain ⟨g1,g2,g3⟩:=Qy h0
     cases h1:one q.1 q.2.1 q.2.2 with
     | error e=>rw [h1] at h;cases h
     | ok x=>
       rw [h1,bg] at h
       have ex:=ho _ _ _ _ h1
       cases h2:jy n one k (some q.1) x.2.1 x.2.2 with
       | error e=>rw [h2] at h;cases h
       | ok l=>
         rw [h2,bg] at h
         cases h
         obtain ⟨⟨i1,i2⟩,i3⟩:=xq ho h2
         have i3:=i3 _ rfl
         simp only [List.map_cons,ex]
         refine ⟨⟨fun z hz=>?_,List.pairwise_cons.mpr ⟨fun z hz=>i3 z hz,i2⟩⟩,fun u hu z hz=>?_⟩
         . rcases List.mem_cons.mp hz with r | r
           . subst r;exact ⟨g1,g2⟩
           . exact i1 z r
         . have g:=g3 u hu
           rcases List.mem_cons.mp hz with r | r
           . subst r;exact g
           . have:=i3 z r
             omega
def c9 (z:PBond×Nat):Nat×Nat:=(z.1.a,z.1.b)
theorem IW (q:Nat×Nat) (b:Bytes) (p:Nat) (x:(PBond×Nat)×Bytes×Nat) (h:qC q b p=.ok x):c9 x.1=q:=by
 unfold qC at h;cases h1:numIn 1 (fun v=>decide (1<=v)&&decide (v<=7)) b p with
 | error e=>rw [h1] at h;cases h
 | ok o=>
  rw [h1,bg] at h;cases h2:numIn 1 (fun v=>decide (v<=1)) o.2.1 o.2.2 with
  | error e=>rw [h2] at h;cases h
  | ok o2=>
   rw [h2,bg] at h;cases h3:numIn 1 (fun v=>decide (v<=2)) o2.2.1 o2.2.2 with
   | error e=>rw [h3] at h;cases h
   | ok o3=>
    rw [h3,bg] at h;cases h4:numIn 1 (fun v=>decide (v<=3)) o3.2.1 o3.2.2 with
    | error e=>rw [h4] at h;cases h
    | ok o4=>
     rw [h4,bg] at h;cases h;rfl
theorem Lq {P:Part} (h:ng P.n (P.bonds.map fun x=>(x.a,x.b))) (v:Nat):P.beside v=bG (P.bonds.map fun x=>(x.a,x.b)) v:=by
 unfold Part.beside;refine C6 h v _ fun w=>?_;rw [List.any_map];rfl
end JM
namespace MP
open PySem PySem.Spec PyProof.Rows L2
def top (i:Nat):Stmt:=PySem.Challenge.pw_moleculeparts_s04_count.main.body.getD i (.Pass ⟨0,0,0,0⟩)
abbrev uX:Stmt:=inClass (top 2) 0
abbrev qc:Stmt:=inClass (top 2) 1
abbrev o9:Stmt:=inClass (top 17) 0
abbrev tU:Stmt:=inClass (top 18) 0
abbrev qS:Stmt:=inClass (top 18) 1
abbrev kL:Stmt:=inClass (top 18) 2
abbrev kD:Stmt:=inClass (top 18) 3
abbrev lO:Stmt:=inClass (top 18) 4
abbrev m6:Stmt:=inClass (top 18) 5
abbrev lP:Stmt:=inClass (top 18) 6
abbrev m7:Stmt:=inClass (top 18) 7
abbrev lQ:Stmt:=inClass (top 18) 8
abbrev nh:Stmt:=inClass (top 18) 9
abbrev ni:Stmt:=inClass (top 31) 0
abbrev nj:Stmt:=inClass (top 32) 0
abbrev tV:Stmt:=inClass (top 46) 0
abbrev m8:Stmt:=inClass (top 46) 1
abbrev mC:Stmt:=inClass (top 46) 2
abbrev mD:Stmt:=inClass (top 46) 3
abbrev kM:Stmt:=inClass (top 46) 4
abbrev fY:Stmt:=inClass (top 46) 5
abbrev mE:Stmt:=inClass (top 46) 6
abbrev mF:Stmt:=inClass (top 46) 7
abbrev mG:Stmt:=inClass (top 46) 8
abbrev jK:Stmt:=inClass (top 46) 9
abbrev kN:Stmt:=inClass (top 46) 10
abbrev xr:Stmt:=inClass (top 72) 0
abbrev xu:Stmt:=inClass (top 73) 0
abbrev qd:Stmt:=inClass (top 74) 0
abbrev kE:Stmt:=inClass (top 74) 1
abbrev lM:Stmt:=inClass (top 74) 2
abbrev OO:Stmt:=top 0
abbrev oA:Stmt:=top 3
abbrev uY:Stmt:=top 19
abbrev qT:Stmt:=top 33
abbrev IX:Stmt:=top 34
abbrev oB:Stmt:=top 35
abbrev lR:Stmt:=top 36
abbrev uZ:Stmt:=top 37
abbrev lS:Stmt:=top 38
abbrev kF:Stmt:=top 41
abbrev iU:Stmt:=top 42
abbrev iK:Stmt:=top 43
abbrev Ez:Stmt:=top 47
abbrev xw:Stmt:=top 48
abbrev nt:Stmt:=top 49
abbrev vc:Stmt:=top 50
abbrev BL:Stmt:=top 51
abbrev nv:Stmt:=top 52
abbrev BN:Stmt:=top 53
abbrev t7:Stmt:=top 54
abbrev xx:Stmt:=top 59
abbrev vd:Stmt:=top 60
abbrev lG:Stmt:=top 61
abbrev mj:Stmt:=top 62
abbrev ve:Stmt:=top 63
abbrev qU:Stmt:=top 64
abbrev vf:Stmt:=top 65
abbrev ny:Stmt:=top 75
abbrev qe:Stmt:=top 76
abbrev xy:Stmt:=top 77
abbrev x6:Stmt:=top 78
abbrev qf:Stmt:=top 79
abbrev qg:Stmt:=top 80
abbrev oE:Stmt:=top 81
abbrev IY:Stmt:=top 87
abbrev qV:Stmt:=top 88
abbrev qW:Stmt:=top 89
set_option genInjectivity false in
set_option genSizeOf false in
structure Ad where
 bK:Addr
 aH:Addr
 aG:Addr
 aO:Addr
 aP:Addr
 aX:Addr
 eB:Addr
 eE:Addr
 aT:Addr
 dB:Addr
 jL:FuncData
 bH:Addr
 dF:FuncData
 dH:Addr
 jz:FuncData
 gI:Addr
 lU:FuncData
 fN:Addr
 kO:FuncData
 bW:Addr
 fO:FuncData
 bM:Addr
 fu:FuncData
 cz:Addr
 gq:FuncData
 cA:Addr
 gW:FuncData
 bP:Addr
 eT:FuncData
 cB:Addr
 gX:FuncData
 bQ:Addr
 eU:FuncData
 cS:Addr
 iV:FuncData
 cT:Addr
 iW:FuncData
 cU:Addr
 iX:FuncData
 gJ:Addr
 lV:FuncData
 cE:Addr
 gY:FuncData
 cF:Addr
 gZ:FuncData
 cG:Addr
 ic:FuncData
 bX:Addr
 fP:FuncData
 bC:Addr
 dI:FuncData
 cH:Addr
 ie:FuncData
 cI:Addr
 ig:FuncData
 cJ:Addr
 ir:FuncData
 cj:Addr
 iu:FuncData
 bY:Addr
 fQ:FuncData
 jG:Addr
 p8:FuncData
 jH:Addr
 p9:FuncData
 eY:Addr
 jX:FuncData
 bN:Addr
 fz:FuncData
 bJ:Addr
 fk:FuncData
 yF:Addr
 DG:FuncData
 fD:Addr
 j0:FuncData
 gF:Addr
 jM:FuncData
 iw:Addr
 kP:FuncData
 vg:Addr
 Am:FuncData
 fE:Addr
 j3:FuncData
 bR:Addr
 gu:FuncData
 jN:Addr
 n6:FuncData
 bS:Addr
 gw:FuncData
 c5:Addr
 f6:FuncData
 bZ:Addr
 fR:FuncData
 bO:Addr
 f7:FuncData
 qX:Addr
 x8:FuncData
 kQ:Addr
 pA:FuncData
 eG:Addr
 iY:FuncData
 jO:Addr
 n8:FuncData
 oF:Addr
 uz:FuncData
 eK:Addr
 iZ:FuncData
 oG:Addr
 u0:FuncData
 jI:Addr
 pB:FuncData
 kR:Addr
 pC:FuncData
 jP:Addr
 nA:FuncData
 dJ:Addr
 j4:FuncData
 eZ:Addr
 jY:FuncData
 jQ:Addr
 nB:FuncData
 iy:Addr
 kT:FuncData
 jR:Addr
 nE:FuncData
 fS:Addr
 kU:FuncData
 gg:Addr
 jZ:FuncData
 ja:Addr
 pF:FuncData
 jb:Addr
 pG:FuncData
 gi:Addr
 kg:FuncData
 gj:Addr
 kh:FuncData
 fF:Addr
 j5:FuncData
 oW:Addr
 yG:FuncData
 iz:Addr
 kW:FuncData
 i6:Addr
 kX:FuncData
 fh:Addr
 ki:Addr
 dM:Addr
abbrev b7 (K:Zqq) (n q:Str) (s:Stmt) (f:Addr):Prop:=∃ oc kV dc pm cd ct od an sl,K.lookup f=some ⟨oc,od,.func (PySem.W.fnOf n q (yE s) (tu s) (aF s) .none kV dc pm an cd ct),sl⟩/\PySem.W.codeIn K cd q=true/\PySem.W.keepIn K (.ref f)=true
theorem b7.mk {K:Zqq} {n q:Str} {s:Stmt} {f:Addr} {oc kV dc pm cd ct:Value} {od an:Option Addr} {sl:Array (Option Value)} (a:K.lookup f=some ⟨oc,od,.func (PySem.W.fnOf n q (yE s) (tu s) (aF s) .none kV dc pm an cd ct),sl⟩) (b:PySem.W.codeIn K cd q=true) (c:PySem.W.keepIn K (.ref f)=true):b7 K n q s f:=⟨_,_,_,_,_,_,_,_,_,a,b,c⟩
theorem b7.fn {K:Zqq} {n q:Str} {s:Stmt} {f:Addr} (h:b7 K n q s f):∃ d,k8 K n q s f d:=let ⟨_,_,_,_,_,_,_,_,_,a,b,c⟩:=h;⟨_,YG a b c⟩
theorem b7.kp {K:Zqq} {n q:Str} {s:Stmt} {f:Addr} (h:b7 K n q s f):PySem.W.keepIn K (.ref f)=true:=let ⟨_,_,_,_,_,_,_,_,_,_,_,c⟩:=h;c
structure Txt (K:Zqq) (mg:Str->Option Value) (t:Ad):Prop where
 nF:k8 K "__init__" "Graph.__init__" uX t.dB t.jL
 vh:Binds K t.jL ["self","atoms","bonds"] []
 kj:k8 K "besides" "Graph.besides" qc t.bH t.dF
 iO:Binds K t.dF ["self","end","other"] []
 j6:k8 K "__init__" "FormFault.__init__" o9 t.dH t.jz
 u4:Binds K t.jz ["self","which","rule","place"] []
 lW:k8 K "__init__" "Reader.__init__" tU t.gI t.lU
 tW:Binds K t.lU ["self","form","which"] []
 kY:k8 K "fault" "Reader.fault" qS t.fN t.kO
 cZ:Binds K t.kO ["self","rule","place"] []
 fU:k8 K "take_number" "Reader.take_number" kL t.bW t.fO
 kZ:Binds K t.fO ["self","size"] []
 f9:k8 K "take_between" "Reader.take_between" kD t.bM t.fu
 aI:Binds K t.fu ["self","size","least","greatest"] []
 gx:k8 K "take_range" "Reader.take_range" lO t.cz t.gq
 gz:Binds K t.gq ["self","size","most"] []
 i7:k8 K "take_mark" "Reader.take_mark" m6 t.cA t.gW
 qY:Binds K t.gW ["self","mark"] []
 g8:k8 K "take_atoms" "Reader.take_atoms" lP t.bP t.eT
 qi:Binds K t.eT ["self","n","take_atom"] []
 i8:k8 K "take_pair" "Reader.take_pair" m7 t.cB t.gX
 qZ:Binds K t.gX ["self","n","before"] []
 g9:k8 K "take_bonds" "Reader.take_bonds" lQ t.bQ t.eU
 qj:Binds K t.eU ["self","n","m","take_bond"] []
 jc:k8 K "take_end" "Reader.take_end" nh t.cS t.iV
 t8:Binds K t.iV ["self"] []
 jd:k8 K "__init__" "SaidOfAtom.__init__" ni t.cT t.iW
 t9:Binds K t.iW ["self","named","isotope","charge","hydrogens","neighbours","total","ring","hand"] []
 je:k8 K "__init__" "SaidOfBond.__init__" nj t.cU t.iX
 tD:Binds K t.iX ["self","pair","orders","how","ring","side"] []
 lX:k8 K "__init__" "Search.__init__" tV t.gJ t.lV
 ze:Binds K t.lV ["self","pattern","molecule"] []
 i9:k8 K "atom_fits" "Search.atom_fits" m8 t.cE t.gY
 rf:Binds K t.gY ["self","said","k"] []
 iA:k8 K "bond_fits" "Search.bond_fits" mC t.cF t.gZ
 rg:Binds K t.gZ ["self","said","k"] []
 iB:k8 K "images_of" "Search.images_of" mD t.cG t.ic
 rj:Binds K t.ic ["self","said"] []
 fV:k8 K "longer_rows" "Search.longer_rows" kM t.bX t.fP
 pH:Binds K t.fP ["self","rows","images","bonds_back"] []
 dN:k8 K "joined_as_said" "Search.joined_as_said" fY t.bC t.dI
 mO:Binds K t.dI ["self","row","image","bonds_back"] []
 iC:k8 K "hands_fit" "Search.hands_fit" mE t.cH t.ie
 rm:Binds K t.ie ["self","row"] []
 iD:k8 K "hand_read" "Search.hand_read" mF t.cI t.ig
 rq:Binds K t.ig ["self","row","k"] []
 iE:k8 K "sides_fit" "Search.sides_fit" mG t.cJ t.ir
 r6:Binds K t.ir ["self","row"] []
 iF:k8 K "side_read" "Search.side_read" jK t.cj t.iu
 r8:Binds K t.iu ["self","row","said"] []
 fW:k8 K "keeps_least" "Search.keeps_least" kN t.bY t.fQ
 lg:Binds K t.fQ ["self","row","end","other"] []
 pI:k8 K "__init__" "Atom.__init__" xr t.jG t.p8
 C9:Binds K t.p8 ["self","element","isotope","charge","hydrogens","hand"] []
 pJ:k8 K "__init__" "Bond.__init__" xu t.jH t.p9
 CA:Binds K t.p9 ["self","pair","order","side"] []
 ko:k8 K "__init__" "Molecule.__init__" qd t.eY t.jX
 vX:Binds K t.jX ["self","atoms","bonds"] []
 fB:k8 K "row_around" "Molecule.row_around" kE t.bN t.fz
 nX:Binds K t.fz ["self","atom"] []
 fq:k8 K "orders_between" "Molecule.orders_between" lM t.bJ t.fk
 sP:Binds K t.fk ["self","atom","other"] []
 DH:k8 K "_wall" "_wall" OO t.yF t.DG
 VO:Binds K t.DG ["k"] []
 gR:k8 K "neighbour_rows" "neighbour_rows" oA t.fD t.j0
 u5:Binds K t.j0 ["n","bonds"] []
 jS:k8 K "take_graph" "take_graph" uY t.gF t.jM
 vj:Binds K t.jM ["reader","mark","take_atom","take_bond"] []
 j7:k8 K "read_pattern" "read_pattern" qT t.iw t.kP
 x9:Binds K t.kP ["form","which"] []
 qE:k8 K "turns" "turns" IX t.vg t.Am
 An:Binds K t.Am ["hand_or_side"] []
 gS:k8 K "ends_take_side" "ends_take_side" oB t.fE t.j3
 u6:Binds K t.j3 ["pattern","bond"] []
 eV:k8 K "take_said_of_atom" "take_said_of_atom" lR t.bR t.gu
 qk:Binds K t.gu ["reader"] []
 lH:k8 K "take_named" "take_named" uZ t.jN t.n6
 Ao:Binds K t.n6 ["reader"] []
 eW:k8 K "take_said_of_bond" "take_said_of_bond" lS t.bS t.gw
 ql:Binds K t.gw ["reader","pair"] []
 cX:k8 K "least_through_bonds" "least_through_bonds" kF t.c5 t.f6
 nY:Binds K t.f6 ["molecule"] []
 dP:k8 K "least_through_bond" "least_through_bond" iU t.bZ t.fR
 pK:Binds K t.fR ["molecule","bond"] []
 cY:k8 K "least_through_atoms" "least_through_atoms" iK t.bO t.f7
 nZ:Binds K t.f7 ["molecule","through_bonds"] []
 nG:k8 K "within" "within" Ez t.qX t.x8
 xA:Binds K t.x8 ["number","bounds"] []
 lu:k8 K "ring_fits" "ring_fits" xw t.kQ t.pA
 xB:Binds K t.pA ["said","least_ring"] []
 eN:k8 K "is_told_as_said" "is_told_as_said" nt t.eG t.iY
 nI:Binds K t.iY ["said","told"] []
 lI:k8 K "orders_fit" "orders_fit" vc t.jO t.n8
 Aq:Binds K t.n8 ["said","drawn"] []
 oH:k8 K "read_as" "read_as" BL t.oF t.uz
 BO:Binds K t.uz ["hand_or_side","other"] []
 fZ:k8 K "is_odd_exchange" "is_odd_exchange" nv t.eK t.iZ
 tE:Binds K t.iZ ["row","exchanged"] []
 qJ:k8 K "maps_of" "maps_of" BN t.oG t.u0
 HM:Binds K t.u0 ["pattern","molecule"] []
 mP:k8 K "places_of" "places_of" t7 t.jI t.pB
 CC:Binds K t.pB ["maps"] []
 ly:k8 K "order_bit" "order_bit" xx t.kR t.pC
 xC:Binds K t.pC ["order"] []
 lJ:k8 K "order_sums" "order_sums" vd t.jP t.nA
 As:Binds K t.nA ["n","bonds"] []
 gT:k8 K "redrawn_orders" "redrawn_orders" lG t.dJ t.j4
 u7:Binds K t.j4 ["sums","bonds"] []
 iP:k8 K "states_behind" "states_behind" mj t.eZ t.jY
 vY:Binds K t.jY ["states","bonds","k"] []
 jT:k8 K "less_order" "less_order" ve t.jQ t.nB
 vm:Binds K t.nB ["state","bond","order"] []
 iG:k8 K "bonds_behind" "bonds_behind" qU t.iy t.kT
 r9:Binds K t.kT ["bonds","k","atom"] []
 jU:k8 K "can_be_met" "can_be_met" vf t.jR t.nE
 vo:Binds K t.nE ["left","bonds"] []
 j8:k8 K "pair_numbers" "pair_numbers" ny t.fS t.kU
 xD:Binds K t.kU ["bonds"] []
 iQ:k8 K "read_molecule" "read_molecule" qe t.gg t.jZ
 vZ:Binds K t.jZ ["form","which"] []
 mQ:k8 K "take_atom" "take_atom" xy t.ja t.pF
 CD:Binds K t.pF ["reader"] []
 mR:k8 K "take_bond" "take_bond" x6 t.jb t.pG
 CH:Binds K t.pG ["reader","pair"] []
 iR:k8 K "may_have_hand" "may_have_hand" qf t.gi t.kg
 wc:Binds K t.kg ["molecule","k"] []
 iS:k8 K "may_have_side" "may_have_side" qg t.gj t.kh
 wg:Binds K t.kh ["molecule","k"] []
 fG:k8 K "end_takes_side" "end_takes_side" oE t.fF t.j5
 oJ:Binds K t.j5 ["molecule","end","other"] []
 yH:k8 K "count" "count" IY t.oW t.yG
 VP:Binds K t.yG ["pattern","molecule"] []
 j9:k8 K "maps_between" "maps_between" qV t.iz t.kW
 xE:Binds K t.kW ["pattern","molecule"] []
 jA:k8 K "fault_answer" "fault_answer" qW t.i6 t.kX
 xF:Binds K t.kX ["fault"] []
 VQ:mg "_wall"=some (.ref t.yF)
 u9:mg "neighbour_rows"=some (.ref t.fD)
 vp:mg "take_graph"=some (.ref t.gF)
 xG:mg "read_pattern"=some (.ref t.iw)
 Au:mg "turns"=some (.ref t.vg)
 uA:mg "ends_take_side"=some (.ref t.fE)
 qo:mg "take_said_of_atom"=some (.ref t.bR)
 Av:mg "take_named"=some (.ref t.jN)
 qp:mg "take_said_of_bond"=some (.ref t.bS)
 oh:mg "least_through_bonds"=some (.ref t.c5)
 pL:mg "least_through_bond"=some (.ref t.bZ)
 oj:mg "least_through_atoms"=some (.ref t.bO)
 xH:mg "within"=some (.ref t.qX)
 xJ:mg "ring_fits"=some (.ref t.kQ)
 nJ:mg "is_told_as_said"=some (.ref t.eG)
 Aw:mg "orders_fit"=some (.ref t.jO)
 BP:mg "read_as"=some (.ref t.oF)
 tF:mg "is_odd_exchange"=some (.ref t.eK)
 HN:mg "maps_of"=some (.ref t.oG)
 CI:mg "places_of"=some (.ref t.jI)
 xK:mg "order_bit"=some (.ref t.kR)
 Ax:mg "order_sums"=some (.ref t.jP)
 uB:mg "redrawn_orders"=some (.ref t.dJ)
 wj:mg "states_behind"=some (.ref t.eZ)
 vq:mg "less_order"=some (.ref t.jQ)
 rC:mg "bonds_behind"=some (.ref t.iy)
 vt:mg "can_be_met"=some (.ref t.jR)
 xM:mg "pair_numbers"=some (.ref t.fS)
 wk:mg "read_molecule"=some (.ref t.gg)
 CJ:mg "take_atom"=some (.ref t.ja)
 CK:mg "take_bond"=some (.ref t.jb)
 wm:mg "may_have_hand"=some (.ref t.gi)
 wo:mg "may_have_side"=some (.ref t.gj)
 oK:mg "end_takes_side"=some (.ref t.fF)
 OP:mg "count"=some (.ref t.oW)
 xN:mg "maps_between"=some (.ref t.iz)
 xO:mg "fault_answer"=some (.ref t.i6)
 IZ:mg "Graph"=some (.ref t.bK)
 jg:D8 K t.bK
 OQ:Mk K t.bK t.dB
 mq:Meth K t.bK "besides" t.bH
 gK:b6 K t.bK "atoms"
 gM:b6 K t.bK "bonds"
 cK:b6 K t.bK "neighbours"
 xP:mg "FormFault"=some (.ref t.aH)
 jh:Qn K t.aH t.dH ["__getattribute__","__getattr__","__setattr__","which","rule","place"]
 E2:mg "Reader"=some (.ref t.aG)
 aL:D8 K t.aG
 E3:Mk K t.aG t.gI
 dj:Meth K t.aG "fault" t.fN
 l6:Meth K t.aG "take_number" t.bW
 aJ:Meth K t.aG "take_between" t.bM
 gA:Meth K t.aG "take_range" t.cz
 rD:Meth K t.aG "take_mark" t.cA
 qt:Meth K t.aG "take_atoms" t.bP
 rE:Meth K t.aG "take_pair" t.cB
 qu:Meth K t.aG "take_bonds" t.bQ
 tG:Meth K t.aG "take_end" t.cS
 gO:b6 K t.aG "form"
 l7:b6 K t.aG "which"
 bL:b6 K t.aG "place"
 cM:b6 K t.aG "hand_places"
 cO:b6 K t.aG "side_places"
 Ay:mg "SaidOfAtom"=some (.ref t.aO)
 b5:D8 K t.aO
 Az:Mk K t.aO t.cT
 fH:b6 K t.aO "named"
 dQ:b6 K t.aO "isotope"
 gB:b6 K t.aO "charge"
 eO:b6 K t.aO "hydrogens"
 dS:b6 K t.aO "neighbours"
 iH:b6 K t.aO "total"
 ji:b6 K t.aO "ring"
 cV:b6 K t.aO "hand"
 A0:mg "SaidOfBond"=some (.ref t.aP)
 aZ:D8 K t.aP
 A1:Mk K t.aP t.cU
 dw:b6 K t.aP "a"
 dz:b6 K t.aP "b"
 cQ:b6 K t.aP "orders"
 jB:b6 K t.aP "how"
 jj:b6 K t.aP "ring"
 cW:b6 K t.aP "side"
 Lr:mg "Search"=some (.ref t.aX)
 bB:D8 K t.aX
 Ls:Mk K t.aX t.gJ
 rF:Meth K t.aX "atom_fits" t.cE
 rG:Meth K t.aX "bond_fits" t.cF
 rH:Meth K t.aX "images_of" t.cG
 pM:Meth K t.aX "longer_rows" t.bX
 mS:Meth K t.aX "joined_as_said" t.bC
 rJ:Meth K t.aX "hands_fit" t.cH
 rK:Meth K t.aX "hand_read" t.cI
 rL:Meth K t.aX "sides_fit" t.cJ
 rM:Meth K t.aX "side_read" t.cj
 l8:Meth K t.aX "keeps_least" t.bY
 dU:b6 K t.aX "pattern"
 bh:b6 K t.aX "molecule"
 eX:b6 K t.aX "bond_rings"
 gC:b6 K t.aX "atom_rings"
 Td:mg "Atom"=some (.ref t.eB)
 mH:D8 K t.eB
 Te:Mk K t.eB t.jG
 l9:b6 K t.eB "element"
 lA:b6 K t.eB "isotope"
 lZ:b6 K t.eB "charge"
 fJ:b6 K t.eB "hydrogens"
 lB:b6 K t.eB "hand"
 Tf:mg "Bond"=some (.ref t.eE)
 gG:D8 K t.eE
 Tg:Mk K t.eE t.jH
 kr:b6 K t.eE "a"
 ku:b6 K t.eE "b"
 lK:b6 K t.eE "order"
 lC:b6 K t.eE "side"
 E4:mg "Molecule"=some (.ref t.aT)
 aY:D8 K t.aT
 E5:Mk K t.aT t.eY
 om:Meth K t.aT "row_around" t.bN
 sQ:Meth K t.aT "orders_between" t.bJ
 mJ:Meth K t.aT "besides" t.bH
 bT:b6 K t.aT "atoms"
 cP:b6 K t.aT "bonds"
 b8:b6 K t.aT "neighbours"
 iT:b6 K t.aT "sums"
 gb:b6 K t.aT "orders"
 bU:b6 K t.aT "bond_numbers"
 A2:XA K t.bK "__init__" t.dB
 A3:∃ tk,mg "WRONG_MARK"=some (.int (1) tk)
 wu:∃ tk,mg "OUT_OF_BOUNDS"=some (.int (2) tk)
 A4:∃ tk,mg "NOT_BEHIND"=some (.int (3) tk)
 oM:∃ tk,mg "HAND_MISPLACED"=some (.int (4) tk)
 A5:∃ tk,mg "ENDS_EARLY"=some (.int (5) tk)
 oN:∃ tk,mg "SIDE_MISPLACED"=some (.int (6) tk)
 CL:∃ tk,mg "LEFT_OVER"=some (.int (7) tk)
 A6:∃ tk,mg "MOST_ATOMS"=some (.int (128) tk)
 A7:∃ tk,mg "MOST_BONDS"=some (.int (192) tk)
 rN:∃ tk,mg "MOST_ELEMENT"=some (.int (118) tk)
 tX:∃ tk,mg "MOST_CHARGE"=some (.int (8) tk)
 oO:∃ tk,mg "MOST_HYDROGENS"=some (.int (7) tk)
 A8:∃ tk,mg "MOST_NAMED"=some (.int (8) tk)
 tY:∃ tk,mg "ANY_ISOTOPE"=some (.int (501) tk)
 tH:∃ tk,mg "MOST_NEIGHBOURS"=some (.int (127) tk)
 E6:∃ tk,mg "MOST_SUM"=some (.int (381) tk)
 xQ:∃ tk,mg "MOST_RING"=some (.int (2) tk)
 A9:∃ tk,mg "ANY_ORDERS"=some (.int (7) tk)
 oQ:∃ tk,mg "ALL_REDRAWINGS"=some (.int (1) tk)
 E7:∃ tk,mg "EITHER"=some (.int (0) tk)
 tK:∃ tk,mg "NONE_TOLD"=some (.int (3) tk)
 yI:∃ tk,mg "NO_RING"=some (.int (0) tk)
 HP:∃ tk,mg "IN_RING"=some (.int (1) tk)
 tZ:∃ tk,mg "LEAST_ORDER"=some (.int (1) tk)
 oR:∃ tk,mg "GREATEST_ORDER"=some (.int (3) tk)
 xR:∃ tk,mg "MOST_ISOTOPE"=some (.int (500) tk)
 CM:∃ tk,mg "MOST_HAND"=some (.int (2) tk)
 CN:∃ tk,mg "MOST_SIDE"=some (.int (2) tk)
 HQ:∃ tk,mg "NO_ATOM"=some (.int (-1) tk)
 E8:∃ tk,mg "ANSWERED"=some (.int (0) tk)
 zf:∃ tk,mg "FAULTY_FORM"=some (.int (-5) tk)
 AA:∃ tk,mg "FIRST_FORM"=some (.int (0) tk)
 zg:∃ tk,mg "SECOND_FORM"=some (.int (1) tk)
 wz:mg "MARK_patterns"=some (.ref t.fh)
 w6:∀ H,nU K H t.fh [.int 70,.int 75,.int 80,.int 49]
 E9:mg "ORDERS"=some (.ref t.ki)
 xS:∀ H,nU K H t.ki [.int 1,.int 2,.int 3]
 uC:mg "MARK_molecules"=some (.ref t.dM)
 uD:∀ H,nU K H t.dM [.int 70,.int 75,.int 77,.int 49]
 jk:mg "enumerate"=none
 kG:mg "len"=none
 ND:mg "list"=none
 XE:mg "min"=none
 oX:mg "range"=none
 Lu:mg "sorted"=none
 DI:mg "tuple"=none
theorem rO {α:Type} {P:List α->Prop} (h:∀ a0,P [a0]) (us:List α) (hl:us.length=1):P us:=match us,hl with | [a0],_=>h a0
theorem nS {α:Type} {P:List α->Prop} (h:∀ a0 a1,P [a0,a1]) (us:List α) (hl:us.length=2):P us:=match us,hl with | [a0,a1],_=>h a0 a1
theorem wC {α:Type} {P:List α->Prop} (h:∀ a0 a1 a2,P [a0,a1,a2]) (us:List α) (hl:us.length=3):P us:=match us,hl with | [a0,a1,a2],_=>h a0 a1 a2
theorem Lw {α:Type} {P:List α->Prop} (h:∀ a0 a1 a2 a3,P [a0,a1,a2,a3]) (us:List α) (hl:us.length=4):P us:=match us,hl with | [a0,a1,a2,a3],_=>h a0 a1 a2 a3
theorem aaF {α:Type} {P:List α->Prop} (h:∀ a0 a1 a2 a3 a4 a5,P [a0,a1,a2,a3,a4,a5]) (us:List α) (hl:us.length=6):P us:=match us,hl with | [a0,a1,a2,a3,a4,a5],_=>h a0 a1 a2 a3 a4 a5
theorem abZ {α:Type} {P:List α->Prop} (h:∀ a0 a1 a2 a3 a4 a5 a6 a7 a8,P [a0,a1,a2,a3,a4,a5,a6,a7,a8]) (us:List α) (hl:us.length=9):P us:=match us,hl with | [a0,a1,a2,a3,a4,a5,a6,a7,a8],_=>h a0 a1 a2 a3 a4 a5 a6 a7 a8
open PySem.W in
set_option maxHeartbeats 4000000 in
theorem YY {K:Zqq} {h:Heap} {mg:Str->Option Value} (X:K.In h) (G:h.Ns mainGlobals mg)
   {bK aH aG aO aP aX eB eE aT dB bH dH gI fN bW bM cz cA bP cB bQ cS cT cU gJ cE cF cG bX bC cH cI cJ cj bY jG jH eY bN bJ yF fD gF iw vg fE bR jN bS c5 bZ bO qX kQ eG jO oF eK oG jI kR jP dJ eZ jQ iy jR fS gg ja jb gi gj fF oW iz i6 fh ki dM:Addr}
   {Ja Lx:Str} {gP:Addr} {Jb Ge:List Value} {Jc:List Str} {Jd:Bool} {Gf:Option Bool} {Je Jf:Option Addr} {Jg Jh Ji Jj Jk:Option Value} {Jl:Value} {zh:Array DictEntry} {Jm:Nat} {Gg:Array (Option Value)}
   {Gh:Tok}
   {BQ:Tok}
   {Gi:Tok}
   {AB:Tok}
   {Gj:Tok}
   {AD:Tok}
   {Jo:Tok}
   {Gk:Tok}
   {Gm:Tok}
   {Df:Tok}
   {EA:Tok}
   {AE:Tok}
   {Gn:Tok}
   {EB:Tok}
   {zx:Tok}
   {Ly:Tok}
   {Jp:Tok}
   {Gp:Tok}
   {AF:Tok}
   {Qz:Tok}
   {Jq:Tok}
   {NF:Tok}
   {NG:Tok}
   {EC:Tok}
   {AG:Tok}
   {Dg:Tok}
   {Jr:Tok}
   {Js:Tok}
   {NH:Tok}
   {Lz:Tok}
   {ED:Tok}
   {Gq:Tok}
   {EE:Tok}
   {BR:Option Addr} {BS:Nat} {AH:Array (Option Value)} {BU BV BW BX:Tok}
   {Q0:Option Addr} {Q2:Nat} {NI:Array (Option Value)} {Q3 Q4 Q5:Tok}
   {AI:Option Addr} {AJ:Nat} {zy:Array (Option Value)} {AK AL AM AO:Tok}
   (VR:nsIn K mainGlobals "Graph"=some (some (.ref bK)))
   (Th:plainGet K bK Str.empty=true)
   (Ti:hasDictIn K bK=true)
   (Tj:plainOver K bK=true)
   (Tn:findIn K (.ref bK) "__setattr__"=some (some (.builtin "object.__setattr__")))
   (Jt:findIn K (.ref bK) "__init__"=some (some (.ref dB)))
   (Ju:isFn K (.ref dB)=true)
   (Dh:findIn K (.ref bK) "besides"=some (some (.ref bH)))
   (w9:isFn K (.ref bH)=true)
   (Tp:makesIn K bK=true)
   (Tq:keepIn K (.ref bK)=true)
   (gK:findIn K (.ref bK) "atoms"=some none)
   (gM:findIn K (.ref bK) "bonds"=some none)
   (cK:findIn K (.ref bK) "neighbours"=some none)
   (L0:nsIn K mainGlobals "FormFault"=some (some (.ref aH)))
   (L1:K.lookup aH=some (excClassObj Ja Lx aH gP Jb XL.gE true Jc Ge Jd Gf Je Jg Jh Ji Jj Jk "Exception.__new__"))
   (Jv:K.lookup gP=some ⟨Jl,Jf,.dict zh Jm,Gg⟩)
   (Jw:nsIn K gP "__init__"=some (some (.ref dH)))
   (Jx:isFn K (.ref dH)=true)
   (Jy:keepIn K (.ref aH)=true)
   (Jz:findIn K (.ref aH) "__setattr__"=some (some (.builtin "object.__setattr__")))
   (sR:nsIn K gP "__getattribute__"=some none)
   (xT:nsIn K gP "__getattr__"=some none)
   (xU:nsIn K gP "__setattr__"=some none)
   (z6:nsIn K gP "which"=some none)
   (AQ:nsIn K gP "rule"=some none)
   (z7:nsIn K gP "place"=some none)
   (Tr:nsIn K mainGlobals "Reader"=some (some (.ref aG)))
   (Q6:plainGet K aG Str.empty=true)
   (Q7:hasDictIn K aG=true)
   (Q8:plainOver K aG=true)
   (Q9:findIn K (.ref aG) "__setattr__"=some (some (.builtin "object.__setattr__")))
   (Gr:findIn K (.ref aG) "__init__"=some (some (.ref gI)))
   (Gs:isFn K (.ref gI)=true)
   (EF:findIn K (.ref aG) "fault"=some (some (.ref fN)))
   (EG:isFn K (.ref fN)=true)
   (xV:findIn K (.ref aG) "take_number"=some (some (.ref bW)))
   (xW:isFn K (.ref bW)=true)
   (wD:findIn K (.ref aG) "take_between"=some (some (.ref bM)))
   (wG:isFn K (.ref bM)=true)
   (yR:findIn K (.ref aG) "take_range"=some (some (.ref cz)))
   (yS:isFn K (.ref cz)=true)
   (z8:findIn K (.ref aG) "take_mark"=some (some (.ref cA)))
   (z9:isFn K (.ref cA)=true)
   (yT:findIn K (.ref aG) "take_atoms"=some (some (.ref bP)))
   (yU:isFn K (.ref bP)=true)
   (zA:findIn K (.ref aG) "take_pair"=some (some (.ref cB)))
   (zB:isFn K (.ref cB)=true)
   (yV:findIn K (.ref aG) "take_bonds"=some (some (.ref bQ)))
   (yW:isFn K (.ref bQ)=true)
   (AR:findIn K (.ref aG) "take_end"=some (some (.ref cS)))
   (AU:isFn K (.ref cS)=true)
   (QA:makesIn K aG=true)
   (QB:keepIn K (.ref aG)=true)
   (gO:findIn K (.ref aG) "form"=some none)
   (l7:findIn K (.ref aG) "which"=some none)
   (bL:findIn K (.ref aG) "place"=some none)
   (cM:findIn K (.ref aG) "hand_places"=some none)
   (cO:findIn K (.ref aG) "side_places"=some none)
   (J0:nsIn K mainGlobals "SaidOfAtom"=some (some (.ref aO)))
   (Gu:plainGet K aO Str.empty=true)
   (Gv:hasDictIn K aO=true)
   (Gw:plainOver K aO=true)
   (Gx:findIn K (.ref aO) "__setattr__"=some (some (.builtin "object.__setattr__")))
   (AV:findIn K (.ref aO) "__init__"=some (some (.ref cT)))
   (AW:isFn K (.ref cT)=true)
   (Gy:makesIn K aO=true)
   (Gz:keepIn K (.ref aO)=true)
   (fH:findIn K (.ref aO) "named"=some none)
   (dQ:findIn K (.ref aO) "isotope"=some none)
   (gB:findIn K (.ref aO) "charge"=some none)
   (eO:findIn K (.ref aO) "hydrogens"=some none)
   (dS:findIn K (.ref aO) "neighbours"=some none)
   (iH:findIn K (.ref aO) "total"=some none)
   (ji:findIn K (.ref aO) "ring"=some none)
   (cV:findIn K (.ref aO) "hand"=some none)
   (J1:nsIn K mainGlobals "SaidOfBond"=some (some (.ref aP)))
   (G0:plainGet K aP Str.empty=true)
   (G5:hasDictIn K aP=true)
   (G6:plainOver K aP=true)
   (G7:findIn K (.ref aP) "__setattr__"=some (some (.builtin "object.__setattr__")))
   (AX:findIn K (.ref aP) "__init__"=some (some (.ref cU)))
   (AY:isFn K (.ref cU)=true)
   (G8:makesIn K aP=true)
   (G9:keepIn K (.ref aP)=true)
   (dw:findIn K (.ref aP) "a"=some none)
   (dz:findIn K (.ref aP) "b"=some none)
   (cQ:findIn K (.ref aP) "orders"=some none)
   (jB:findIn K (.ref aP) "how"=some none)
   (jj:findIn K (.ref aP) "ring"=some none)
   (cW:findIn K (.ref aP) "side"=some none)
   (Tu:nsIn K mainGlobals "Search"=some (some (.ref aX)))
   (QC:plainGet K aX Str.empty=true)
   (QD:hasDictIn K aX=true)
   (QE:plainOver K aX=true)
   (QF:findIn K (.ref aX) "__setattr__"=some (some (.builtin "object.__setattr__")))
   (GC:findIn K (.ref aX) "__init__"=some (some (.ref gJ)))
   (GD:isFn K (.ref gJ)=true)
   (zC:findIn K (.ref aX) "atom_fits"=some (some (.ref cE)))
   (zD:isFn K (.ref cE)=true)
   (zE:findIn K (.ref aX) "bond_fits"=some (some (.ref cF)))
   (zF:isFn K (.ref cF)=true)
   (zG:findIn K (.ref aX) "images_of"=some (some (.ref cG)))
   (zH:isFn K (.ref cG)=true)
   (xX:findIn K (.ref aX) "longer_rows"=some (some (.ref bX)))
   (xY:isFn K (.ref bX)=true)
   (uE:findIn K (.ref aX) "joined_as_said"=some (some (.ref bC)))
   (uF:isFn K (.ref bC)=true)
   (zI:findIn K (.ref aX) "hands_fit"=some (some (.ref cH)))
   (zJ:isFn K (.ref cH)=true)
   (zK:findIn K (.ref aX) "hand_read"=some (some (.ref cI)))
   (zL:isFn K (.ref cI)=true)
   (zM:findIn K (.ref aX) "sides_fit"=some (some (.ref cJ)))
   (zN:isFn K (.ref cJ)=true)
   (zO:findIn K (.ref aX) "side_read"=some (some (.ref cj)))
   (zP:isFn K (.ref cj)=true)
   (xZ:findIn K (.ref aX) "keeps_least"=some (some (.ref bY)))
   (yc:isFn K (.ref bY)=true)
   (QG:makesIn K aX=true)
   (QH:keepIn K (.ref aX)=true)
   (dU:findIn K (.ref aX) "pattern"=some none)
   (bh:findIn K (.ref aX) "molecule"=some none)
   (eX:findIn K (.ref aX) "bond_rings"=some none)
   (gC:findIn K (.ref aX) "atom_rings"=some none)
   (YZ:nsIn K mainGlobals "Atom"=some (some (.ref eB)))
   (VT:plainGet K eB Str.empty=true)
   (VU:hasDictIn K eB=true)
   (VW:plainOver K eB=true)
   (VX:findIn K (.ref eB) "__setattr__"=some (some (.builtin "object.__setattr__")))
   (L3:findIn K (.ref eB) "__init__"=some (some (.ref jG)))
   (L4:isFn K (.ref jG)=true)
   (VY:makesIn K eB=true)
   (VZ:keepIn K (.ref eB)=true)
   (l9:findIn K (.ref eB) "element"=some none)
   (lA:findIn K (.ref eB) "isotope"=some none)
   (lZ:findIn K (.ref eB) "charge"=some none)
   (fJ:findIn K (.ref eB) "hydrogens"=some none)
   (lB:findIn K (.ref eB) "hand"=some none)
   (Za:nsIn K mainGlobals "Bond"=some (some (.ref eE)))
   (Wa:plainGet K eE Str.empty=true)
   (Wb:hasDictIn K eE=true)
   (Wc:plainOver K eE=true)
   (We:findIn K (.ref eE) "__setattr__"=some (some (.builtin "object.__setattr__")))
   (L5:findIn K (.ref eE) "__init__"=some (some (.ref jH)))
   (L6:isFn K (.ref jH)=true)
   (Wf:makesIn K eE=true)
   (Wg:keepIn K (.ref eE)=true)
   (kr:findIn K (.ref eE) "a"=some none)
   (ku:findIn K (.ref eE) "b"=some none)
   (lK:findIn K (.ref eE) "order"=some none)
   (lC:findIn K (.ref eE) "side"=some none)
   (NJ:nsIn K mainGlobals "Molecule"=some (some (.ref aT)))
   (L7:plainGet K aT Str.empty=true)
   (L8:hasDictIn K aT=true)
   (LA:plainOver K aT=true)
   (LB:findIn K (.ref aT) "__setattr__"=some (some (.builtin "object.__setattr__")))
   (Di:findIn K (.ref aT) "__init__"=some (some (.ref eY)))
   (Dj:isFn K (.ref eY)=true)
   (wH:findIn K (.ref aT) "row_around"=some (some (.ref bN)))
   (wI:isFn K (.ref bN)=true)
   (sS:findIn K (.ref aT) "orders_between"=some (some (.ref bJ)))
   (sU:isFn K (.ref bJ)=true)
   (LC:makesIn K aT=true)
   (LD:keepIn K (.ref aT)=true)
   (zQ:findIn K (.ref aT) "besides"=some (some (.ref bH)))
   (bT:findIn K (.ref aT) "atoms"=some none)
   (cP:findIn K (.ref aT) "bonds"=some none)
   (b8:findIn K (.ref aT) "neighbours"=some none)
   (iT:findIn K (.ref aT) "sums"=some none)
   (gb:findIn K (.ref aT) "orders"=some none)
   (bU:findIn K (.ref aT) "bond_numbers"=some none)
   (GQ:specialIn K (.ref bK) "__getattribute__"=some (some (.builtin "type.__getattribute__")))
   (GU:readsIn K bK (.type "type")=true)
   (GV:findCls K (.ref bK) (.type "type") "__init__"=some (.val (.ref dB)))
   (Wh:nsIn K mainGlobals "_wall"=some (some (.ref yF)))
   (BZ:nsIn K mainGlobals "neighbour_rows"=some (some (.ref fD)))
   (J2:nsIn K mainGlobals "take_graph"=some (some (.ref gF)))
   (EH:nsIn K mainGlobals "read_pattern"=some (some (.ref iw)))
   (Wi:nsIn K mainGlobals "turns"=some (some (.ref vg)))
   (Ca:nsIn K mainGlobals "ends_take_side"=some (some (.ref fE)))
   (yX:nsIn K mainGlobals "take_said_of_atom"=some (some (.ref bR)))
   (J3:nsIn K mainGlobals "take_named"=some (some (.ref jN)))
   (yY:nsIn K mainGlobals "take_said_of_bond"=some (some (.ref bS)))
   (wJ:nsIn K mainGlobals "least_through_bonds"=some (some (.ref c5)))
   (yd:nsIn K mainGlobals "least_through_bond"=some (some (.ref bZ)))
   (wK:nsIn K mainGlobals "least_through_atoms"=some (some (.ref bO)))
   (Tv:nsIn K mainGlobals "within"=some (some (.ref qX)))
   (LF:nsIn K mainGlobals "ring_fits"=some (some (.ref kQ)))
   (AZ:nsIn K mainGlobals "is_told_as_said"=some (some (.ref eG)))
   (J9:nsIn K mainGlobals "orders_fit"=some (some (.ref jO)))
   (QI:nsIn K mainGlobals "read_as"=some (some (.ref oF)))
   (Ba:nsIn K mainGlobals "is_odd_exchange"=some (some (.ref eK)))
   (QJ:nsIn K mainGlobals "maps_of"=some (some (.ref oG)))
   (LG:nsIn K mainGlobals "places_of"=some (some (.ref jI)))
   (LH:nsIn K mainGlobals "order_bit"=some (some (.ref kR)))
   (JA:nsIn K mainGlobals "order_sums"=some (some (.ref jP)))
   (Cb:nsIn K mainGlobals "redrawn_orders"=some (some (.ref dJ)))
   (Dk:nsIn K mainGlobals "states_behind"=some (some (.ref eZ)))
   (JB:nsIn K mainGlobals "less_order"=some (some (.ref jQ)))
   (EI:nsIn K mainGlobals "bonds_behind"=some (some (.ref iy)))
   (JC:nsIn K mainGlobals "can_be_met"=some (some (.ref jR)))
   (EJ:nsIn K mainGlobals "pair_numbers"=some (some (.ref fS)))
   (Dl:nsIn K mainGlobals "read_molecule"=some (some (.ref gg)))
   (LI:nsIn K mainGlobals "take_atom"=some (some (.ref ja)))
   (LJ:nsIn K mainGlobals "take_bond"=some (some (.ref jb)))
   (Dm:nsIn K mainGlobals "may_have_hand"=some (some (.ref gi)))
   (Dn:nsIn K mainGlobals "may_have_side"=some (some (.ref gj)))
   (Cc:nsIn K mainGlobals "end_takes_side"=some (some (.ref fF)))
   (Wj:nsIn K mainGlobals "count"=some (some (.ref oW)))
   (EK:nsIn K mainGlobals "maps_between"=some (some (.ref iz)))
   (EL:nsIn K mainGlobals "fault_answer"=some (some (.ref i6)))
   (Bb:b7 K "__init__" "Graph.__init__" uX dB)
   (qh:b7 K "besides" "Graph.besides" qc bH)
   (Cd:b7 K "__init__" "FormFault.__init__" o9 dH)
   (GX:b7 K "__init__" "Reader.__init__" tU gI)
   (ye:b7 K "fault" "Reader.fault" qS fN)
   (pN:b7 K "take_number" "Reader.take_number" kL bW)
   (oq:b7 K "take_between" "Reader.take_between" kD bM)
   (qw:b7 K "take_range" "Reader.take_range" lO cz)
   (rP:b7 K "take_mark" "Reader.take_mark" m6 cA)
   (qx:b7 K "take_atoms" "Reader.take_atoms" lP bP)
   (rQ:b7 K "take_pair" "Reader.take_pair" m7 cB)
   (qy:b7 K "take_bonds" "Reader.take_bonds" lQ bQ)
   (tL:b7 K "take_end" "Reader.take_end" nh cS)
   (Bc:b7 K "__init__" "SaidOfAtom.__init__" ni cT)
   (Bd:b7 K "__init__" "SaidOfBond.__init__" nj cU)
   (GY:b7 K "__init__" "Search.__init__" tV gJ)
   (rR:b7 K "atom_fits" "Search.atom_fits" m8 cE)
   (rS:b7 K "bond_fits" "Search.bond_fits" mC cF)
   (rT:b7 K "images_of" "Search.images_of" mD cG)
   (pO:b7 K "longer_rows" "Search.longer_rows" kM bX)
   (mT:b7 K "joined_as_said" "Search.joined_as_said" fY bC)
   (rV:b7 K "hands_fit" "Search.hands_fit" mE cH)
   (rW:b7 K "hand_read" "Search.hand_read" mF cI)
   (rX:b7 K "sides_fit" "Search.sides_fit" mG cJ)
   (rY:b7 K "side_read" "Search.side_read" jK cj)
   (pP:b7 K "keeps_least" "Search.keeps_least" kN bY)
   (LK:b7 K "__init__" "Atom.__init__" xr jG)
   (LL:b7 K "__init__" "Bond.__init__" xu jH)
   (Dq:b7 K "__init__" "Molecule.__init__" qd eY)
   (ow:b7 K "row_around" "Molecule.row_around" kE bN)
   (lN:b7 K "orders_between" "Molecule.orders_between" lM bJ)
   (Wl:b7 K "_wall" "_wall" OO yF)
   (Ce:b7 K "neighbour_rows" "neighbour_rows" oA fD)
   (JD:b7 K "take_graph" "take_graph" uY gF)
   (EM:b7 K "read_pattern" "read_pattern" qT iw)
   (Wm:b7 K "turns" "turns" IX vg)
   (Cf:b7 K "ends_take_side" "ends_take_side" oB fE)
   (yZ:b7 K "take_said_of_atom" "take_said_of_atom" lR bR)
   (JE:b7 K "take_named" "take_named" uZ jN)
   (zc:b7 K "take_said_of_bond" "take_said_of_bond" lS bS)
   (wL:b7 K "least_through_bonds" "least_through_bonds" kF c5)
   (yf:b7 K "least_through_bond" "least_through_bond" iU bZ)
   (wM:b7 K "least_through_atoms" "least_through_atoms" iK bO)
   (Tw:b7 K "within" "within" Ez qX)
   (LM:b7 K "ring_fits" "ring_fits" xw kQ)
   (Be:b7 K "is_told_as_said" "is_told_as_said" nt eG)
   (JF:b7 K "orders_fit" "orders_fit" vc jO)
   (QK:b7 K "read_as" "read_as" BL oF)
   (Bf:b7 K "is_odd_exchange" "is_odd_exchange" nv eK)
   (QL:b7 K "maps_of" "maps_of" BN oG)
   (LN:b7 K "places_of" "places_of" t7 jI)
   (LO:b7 K "order_bit" "order_bit" xx kR)
   (JG:b7 K "order_sums" "order_sums" vd jP)
   (Cg:b7 K "redrawn_orders" "redrawn_orders" lG dJ)
   (Dr:b7 K "states_behind" "states_behind" mj eZ)
   (JH:b7 K "less_order" "less_order" ve jQ)
   (EN:b7 K "bonds_behind" "bonds_behind" qU iy)
   (JI:b7 K "can_be_met" "can_be_met" vf jR)
   (EO:b7 K "pair_numbers" "pair_numbers" ny fS)
   (Ds:b7 K "read_molecule" "read_molecule" qe gg)
   (LP:b7 K "take_atom" "take_atom" xy ja)
   (LQ:b7 K "take_bond" "take_bond" x6 jb)
   (Dt:b7 K "may_have_hand" "may_have_hand" qf gi)
   (Du:b7 K "may_have_side" "may_have_side" qg gj)
   (Ci:b7 K "end_takes_side" "end_takes_side" oE fF)
   (Wn:b7 K "count" "count" IY oW)
   (ER:b7 K "maps_between" "maps_between" qV iz)
   (ES:b7 K "fault_answer" "fault_answer" qW i6)
   (JJ:nsIn K mainGlobals "WRONG_MARK"=some (some (.int (1) Gh)))
   (Dv:nsIn K mainGlobals "OUT_OF_BOUNDS"=some (some (.int (2) BQ)))
   (JK:nsIn K mainGlobals "NOT_BEHIND"=some (some (.int (3) Gi)))
   (Cj:nsIn K mainGlobals "HAND_MISPLACED"=some (some (.int (4) AB)))
   (JL:nsIn K mainGlobals "ENDS_EARLY"=some (some (.int (5) Gj)))
   (Ck:nsIn K mainGlobals "SIDE_MISPLACED"=some (some (.int (6) AD)))
   (LR:nsIn K mainGlobals "LEFT_OVER"=some (some (.int (7) Jo)))
   (JN:nsIn K mainGlobals "MOST_ATOMS"=some (some (.int (128) Gk)))
   (JO:nsIn K mainGlobals "MOST_BONDS"=some (some (.int (192) Gm)))
   (ET:nsIn K mainGlobals "MOST_ELEMENT"=some (some (.int (118) Df)))
   (GZ:nsIn K mainGlobals "MOST_CHARGE"=some (some (.int (8) EA)))
   (Cm:nsIn K mainGlobals "MOST_HYDROGENS"=some (some (.int (7) AE)))
   (JP:nsIn K mainGlobals "MOST_NAMED"=some (some (.int (8) Gn)))
   (Hf:nsIn K mainGlobals "ANY_ISOTOPE"=some (some (.int (501) EB)))
   (Bg:nsIn K mainGlobals "MOST_NEIGHBOURS"=some (some (.int (127) zx)))
   (NK:nsIn K mainGlobals "MOST_SUM"=some (some (.int (381) Ly)))
   (LS:nsIn K mainGlobals "MOST_RING"=some (some (.int (2) Jp)))
   (JQ:nsIn K mainGlobals "ANY_ORDERS"=some (some (.int (7) Gp)))
   (Cn:nsIn K mainGlobals "ALL_REDRAWINGS"=some (some (.int (1) AF)))
   (Tz:nsIn K mainGlobals "EITHER"=some (some (.int (0) Qz)))
   (LU:nsIn K mainGlobals "NONE_TOLD"=some (some (.int (3) Jq)))
   (QM:nsIn K mainGlobals "NO_RING"=some (some (.int (0) NF)))
   (QN:nsIn K mainGlobals "IN_RING"=some (some (.int (1) NG)))
   (Hg:nsIn K mainGlobals "LEAST_ORDER"=some (some (.int (1) EC)))
   (Co:nsIn K mainGlobals "GREATEST_ORDER"=some (some (.int (3) AG)))
   (EU:nsIn K mainGlobals "MOST_ISOTOPE"=some (some (.int (500) Dg)))
   (LV:nsIn K mainGlobals "MOST_HAND"=some (some (.int (2) Jr)))
   (LW:nsIn K mainGlobals "MOST_SIDE"=some (some (.int (2) Js)))
   (QO:nsIn K mainGlobals "NO_ATOM"=some (some (.int (-1) NH)))
   (NL:nsIn K mainGlobals "ANSWERED"=some (some (.int (0) Lz)))
   (Hh:nsIn K mainGlobals "FAULTY_FORM"=some (some (.int (-5) ED)))
   (JR:nsIn K mainGlobals "FIRST_FORM"=some (some (.int (0) Gq)))
   (Hi:nsIn K mainGlobals "SECOND_FORM"=some (some (.int (1) EE)))
   (Dy:nsIn K mainGlobals "MARK_patterns"=some (some (.ref fh)))
   (Dz:K.lookup fh=some ⟨.type "tuple",BR,.seq #[.int 70 BU,.int 75 BV,.int 80 BW,.int 49 BX] BS,AH⟩)
   (T4:nsIn K mainGlobals "ORDERS"=some (some (.ref ki)))
   (T5:K.lookup ki=some ⟨.type "tuple",Q0,.seq #[.int 1 Q3,.int 2 Q4,.int 3 Q5] Q2,NI⟩)
   (Cp:nsIn K mainGlobals "MARK_molecules"=some (some (.ref dM)))
   (Cq:K.lookup dM=some ⟨.type "tuple",AI,.seq #[.int 70 AK,.int 75 AL,.int 77 AM,.int 49 AO] AJ,zy⟩)
   (LX:nsIn K mainGlobals "enumerate"=some none)
   (aaG:nsIn K mainGlobals "len"=some none)
   (Zb:nsIn K mainGlobals "list"=some none)
   (aaH:nsIn K mainGlobals "min"=some none)
   (Wo:nsIn K mainGlobals "range"=some none)
   (T6:nsIn K mainGlobals "sorted"=some none)
   (Wq:nsIn K mainGlobals "tuple"=some none)
   (vv:(zh.all fun e=>match e.key with | .str _ _=>true | _=>false)=true)
  :∃ t:Ad,t.oW=oW/\Txt K mg t:=by
 have EV:nsOkIn K gP=true:=by unfold nsOkIn;rw [Jv];exact vv
 obtain ⟨jL,nF⟩:=Bb.fn;obtain ⟨dF,kj⟩:=qh.fn;obtain ⟨jz,j6⟩:=Cd.fn;obtain ⟨lU,lW⟩:=GX.fn;obtain ⟨kO,kY⟩:=ye.fn;obtain ⟨fO,fU⟩:=pN.fn;obtain ⟨fu,f9⟩:=oq.fn;obtain ⟨gq,gx⟩:=qw.fn;obtain ⟨gW,i7⟩:=rP.fn;obtain ⟨eT,g8⟩:=qx.fn;obtain ⟨gX,i8⟩:=rQ.fn;obtain ⟨eU,g9⟩:=qy.fn;obtain ⟨iV,jc⟩:=tL.fn;obtain ⟨iW,jd⟩:=Bc.fn;obtain ⟨iX,je⟩:=Bd.fn;obtain ⟨lV,lX⟩:=GY.fn;obtain ⟨gY,i9⟩:=rR.fn;obtain ⟨gZ,iA⟩:=rS.fn;obtain ⟨ic,iB⟩:=rT.fn;obtain ⟨fP,fV⟩:=pO.fn;obtain ⟨dI,dN⟩:=mT.fn;obtain ⟨ie,iC⟩:=rV.fn;obtain ⟨ig,iD⟩:=rW.fn;obtain ⟨ir,iE⟩:=rX.fn;obtain ⟨iu,iF⟩:=rY.fn;obtain ⟨fQ,fW⟩:=pP.fn;obtain ⟨p8,pI⟩:=LK.fn;obtain ⟨p9,pJ⟩:=LL.fn;obtain ⟨jX,ko⟩:=Dq.fn;obtain ⟨fz,fB⟩:=ow.fn;obtain ⟨fk,fq⟩:=lN.fn;obtain ⟨DG,DH⟩:=Wl.fn;obtain ⟨j0,gR⟩:=Ce.fn;obtain ⟨jM,jS⟩:=JD.fn;obtain ⟨kP,j7⟩:=EM.fn;obtain ⟨Am,qE⟩:=Wm.fn;obtain ⟨j3,gS⟩:=Cf.fn;obtain ⟨gu,eV⟩:=yZ.fn;obtain ⟨n6,lH⟩:=JE.fn;obtain ⟨gw,eW⟩:=zc.fn;obtain ⟨f6,cX⟩:=wL.fn;obtain ⟨fR,dP⟩:=yf.fn;obtain ⟨f7,cY⟩:=wM.fn;obtain ⟨x8,nG⟩:=Tw.fn;obtain ⟨pA,lu⟩:=LM.fn;obtain ⟨iY,eN⟩:=Be.fn;obtain ⟨n8,lI⟩:=JF.fn;obtain ⟨uz,oH⟩:=QK.fn;obtain ⟨iZ,fZ⟩:=Bf.fn;obtain ⟨u0,qJ⟩:=QL.fn;obtain ⟨pB,mP⟩:=LN.fn;obtain ⟨pC,ly⟩:=LO.fn;obtain ⟨nA,lJ⟩:=JG.fn;obtain ⟨j4,gT⟩:=Cg.fn;obtain ⟨jY,iP⟩:=Dr.fn;obtain ⟨nB,jT⟩:=JH.fn;obtain ⟨kT,iG⟩:=EN.fn;obtain ⟨nE,jU⟩:=JI.fn;obtain ⟨kU,j8⟩:=EO.fn;obtain ⟨jZ,iQ⟩:=Ds.fn;obtain ⟨pF,mQ⟩:=LP.fn;obtain ⟨pG,mR⟩:=LQ.fn;obtain ⟨kg,iR⟩:=Dt.fn;obtain ⟨kh,iS⟩:=Du.fn;obtain ⟨j5,fG⟩:=Ci.fn;obtain ⟨yG,yH⟩:=Wn.fn;obtain ⟨kW,j9⟩:=ER.fn;obtain ⟨kX,jA⟩:=ES.fn;refine ⟨⟨bK,aH,aG,aO,aP,aX,eB,eE,aT,dB,jL,bH,dF,dH,jz,gI,lU,fN,kO,bW,fO,bM,fu,cz,gq,cA,gW,bP,eT,cB,gX,bQ,eU,cS,iV,cT,iW,cU,iX,gJ,lV,cE,gY,cF,gZ,cG,ic,bX,fP,bC,dI,cH,ie,cI,ig,cJ,ir,cj,iu,bY,fQ,jG,p8,jH,p9,eY,jX,bN,fz,bJ,fk,yF,DG,fD,j0,gF,jM,iw,kP,vg,Am,fE,j3,bR,gu,jN,n6,bS,gw,c5,f6,bZ,fR,bO,f7,qX,x8,kQ,pA,eG,iY,jO,n8,oF,uz,eK,iZ,oG,u0,jI,pB,kR,pC,jP,nA,dJ,j4,eZ,jY,jQ,nB,iy,kT,jR,nE,fS,kU,gg,jZ,ja,pF,jb,pG,gi,kg,gj,kh,fF,j5,oW,yG,iz,kW,i6,kX,fh,ki,dM⟩,rfl,?_⟩;exact {
   nF:=nF,
   vh:=nF.binds (ps:=["self","atoms","bonds"]) fun _ _ _ _ _ _=>wC fun _ _ _=>rfl,
   kj:=kj,
   iO:=kj.binds (ps:=["self","end","other"]) fun _ _ _ _ _ _=>wC fun _ _ _=>rfl,
   j6:=j6,
   u4:=j6.binds (ps:=["self","which","rule","place"]) fun _ _ _ _ _ _=>Lw fun _ _ _ _=>rfl,
   lW:=lW,
   tW:=lW.binds (ps:=["self","form","which"]) fun _ _ _ _ _ _=>wC fun _ _ _=>rfl,
   kY:=kY,
   cZ:=kY.binds (ps:=["self","rule","place"]) fun _ _ _ _ _ _=>wC fun _ _ _=>rfl,
   fU:=fU,
   kZ:=fU.binds (ps:=["self","size"]) fun _ _ _ _ _ _=>nS fun _ _=>rfl,
   f9:=f9,
   aI:=f9.binds (ps:=["self","size","least","greatest"]) fun _ _ _ _ _ _=>Lw fun _ _ _ _=>rfl,
   gx:=gx,
   gz:=gx.binds (ps:=["self","size","most"]) fun _ _ _ _ _ _=>wC fun _ _ _=>rfl,
   i7:=i7,
   qY:=i7.binds (ps:=["self","mark"]) fun _ _ _ _ _ _=>nS fun _ _=>rfl,
   g8:=g8,
   qi:=g8.binds (ps:=["self","n","take_atom"]) fun _ _ _ _ _ _=>wC fun _ _ _=>rfl,
   i8:=i8,
   qZ:=i8.binds (ps:=["self","n","before"]) fun _ _ _ _ _ _=>wC fun _ _ _=>rfl,
   g9:=g9,
   qj:=g9.binds (ps:=["self","n","m","take_bond"]) fun _ _ _ _ _ _=>Lw fun _ _ _ _=>rfl,
   jc:=jc,
   t8:=jc.binds (ps:=["self"]) fun _ _ _ _ _ _=>rO fun _=>rfl,
   jd:=jd,
   t9:=jd.binds (ps:=["self","named","isotope","charge","hydrogens","neighbours","total","ring","hand"]) fun _ _ _ _ _ _=>abZ fun _ _ _ _ _ _ _ _ _=>rfl,
   je:=je,
   tD:=je.binds (ps:=["self","pair","orders","how","ring","side"]) fun _ _ _ _ _ _=>aaF fun _ _ _ _ _ _=>rfl,
   lX:=lX,
   ze:=lX.binds (ps:=["self","pattern","molecule"]) fun _ _ _ _ _ _=>wC fun _ _ _=>rfl,
   i9:=i9,
   rf:=i9.binds (ps:=["self","said","k"]) fun _ _ _ _ _ _=>wC fun _ _ _=>rfl,
   iA:=iA,
   rg:=iA.binds (ps:=["self","said","k"]) fun _ _ _ _ _ _=>wC fun _ _ _=>rfl,
   iB:=iB,
   rj:=iB.binds (ps:=["self","said"]) fun _ _ _ _ _ _=>nS fun _ _=>rfl,
   fV:=fV,
   pH:=fV.binds (ps:=["self","rows","images","bonds_back"]) fun _ _ _ _ _ _=>Lw fun _ _ _ _=>rfl,
   dN:=dN,
   mO:=dN.binds (ps:=["self","row","image","bonds_back"]) fun _ _ _ _ _ _=>Lw fun _ _ _ _=>rfl,
   iC:=iC,
   rm:=iC.binds (ps:=["self","row"]) fun _ _ _ _ _ _=>nS fun _ _=>rfl,
   iD:=iD,
   rq:=iD.binds (ps:=["self","row","k"]) fun _ _ _ _ _ _=>wC fun _ _ _=>rfl,
   iE:=iE,
   r6:=iE.binds (ps:=["self","row"]) fun _ _ _ _ _ _=>nS fun _ _=>rfl,
   iF:=iF,
   r8:=iF.binds (ps:=["self","row","said"]) fun _ _ _ _ _ _=>wC fun _ _ _=>rfl,
   fW:=fW,
   lg:=fW.binds (ps:=["self","row","end","other"]) fun _ _ _ _ _ _=>Lw fun _ _ _ _=>rfl,
   pI:=pI,
   C9:=pI.binds (ps:=["self","element","isotope","charge","hydrogens","hand"]) fun _ _ _ _ _ _=>aaF fun _ _ _ _ _ _=>rfl,
   pJ:=pJ,
   CA:=pJ.binds (ps:=["self","pair","order","side"]) fun _ _ _ _ _ _=>Lw fun _ _ _ _=>rfl,
   ko:=ko,
   vX:=ko.binds (ps:=["self","atoms","bonds"]) fun _ _ _ _ _ _=>wC fun _ _ _=>rfl,
   fB:=fB,
   nX:=fB.binds (ps:=["self","atom"]) fun _ _ _ _ _ _=>nS fun _ _=>rfl,
   fq:=fq,
   sP:=fq.binds (ps:=["self","atom","other"]) fun _ _ _ _ _ _=>wC fun _ _ _=>rfl,
   DH:=DH,
   VO:=DH.binds (ps:=["k"]) fun _ _ _ _ _ _=>rO fun _=>rfl,
   VQ:=mg_of X G Wh,
   gR:=gR,
   u5:=gR.binds (ps:=["n","bonds"]) fun _ _ _ _ _ _=>nS fun _ _=>rfl,
   u9:=mg_of X G BZ,
   jS:=jS,
   vj:=jS.binds (ps:=["reader","mark","take_atom","take_bond"]) fun _ _ _ _ _ _=>Lw fun _ _ _ _=>rfl,
   vp:=mg_of X G J2,
   j7:=j7,
   x9:=j7.binds (ps:=["form","which"]) fun _ _ _ _ _ _=>nS fun _ _=>rfl,
   xG:=mg_of X G EH,
   qE:=qE,
   An:=qE.binds (ps:=["hand_or_side"]) fun _ _ _ _ _ _=>rO fun _=>rfl,
   Au:=mg_of X G Wi,
   gS:=gS,
   u6:=gS.binds (ps:=["pattern","bond"]) fun _ _ _ _ _ _=>nS fun _ _=>rfl,
   uA:=mg_of X G Ca,
   eV:=eV,
   qk:=eV.binds (ps:=["reader"]) fun _ _ _ _ _ _=>rO fun _=>rfl,
   qo:=mg_of X G yX,
   lH:=lH,
   Ao:=lH.binds (ps:=["reader"]) fun _ _ _ _ _ _=>rO fun _=>rfl,
   Av:=mg_of X G J3,
   eW:=eW,
   ql:=eW.binds (ps:=["reader","pair"]) fun _ _ _ _ _ _=>nS fun _ _=>rfl,
   qp:=mg_of X G yY,
   cX:=cX,
   nY:=cX.binds (ps:=["molecule"]) fun _ _ _ _ _ _=>rO fun _=>rfl,
   oh:=mg_of X G wJ,
   dP:=dP,
   pK:=dP.binds (ps:=["molecule","bond"]) fun _ _ _ _ _ _=>nS fun _ _=>rfl,
   pL:=mg_of X G yd,
   cY:=cY,
   nZ:=cY.binds (ps:=["molecule","through_bonds"]) fun _ _ _ _ _ _=>nS fun _ _=>rfl,
   oj:=mg_of X G wK,
   nG:=nG,
   xA:=nG.binds (ps:=["number","bounds"]) fun _ _ _ _ _ _=>nS fun _ _=>rfl,
   xH:=mg_of X G Tv,
   lu:=lu,
   xB:=lu.binds (ps:=["said","least_ring"]) fun _ _ _ _ _ _=>nS fun _ _=>rfl,
   xJ:=mg_of X G LF,
   eN:=eN,
   nI:=eN.binds (ps:=["said","told"]) fun _ _ _ _ _ _=>nS fun _ _=>rfl,
   nJ:=mg_of X G AZ,
   lI:=lI,
   Aq:=lI.binds (ps:=["said","drawn"]) fun _ _ _ _ _ _=>nS fun _ _=>rfl,
   Aw:=mg_of X G J9,
   oH:=oH,
   BO:=oH.binds (ps:=["hand_or_side","other"]) fun _ _ _ _ _ _=>nS fun _ _=>rfl,
   BP:=mg_of X G QI,
   fZ:=fZ,
   tE:=fZ.binds (ps:=["row","exchanged"]) fun _ _ _ _ _ _=>nS fun _ _=>rfl,
   tF:=mg_of X G Ba,
   qJ:=qJ,
   HM:=qJ.binds (ps:=["pattern","molecule"]) fun _ _ _ _ _ _=>nS fun _ _=>rfl,
   HN:=mg_of X G QJ,
   mP:=mP,
   CC:=mP.binds (ps:=["maps"]) fun _ _ _ _ _ _=>rO fun _=>rfl,
   CI:=mg_of X G LG,
   ly:=ly,
   xC:=ly.binds (ps:=["order"]) fun _ _ _ _ _ _=>rO fun _=>rfl,
   xK:=mg_of X G LH,
   lJ:=lJ,
   As:=lJ.binds (ps:=["n","bonds"]) fun _ _ _ _ _ _=>nS fun _ _=>rfl,
   Ax:=mg_of X G JA,
   gT:=gT,
   u7:=gT.binds (ps:=["sums","bonds"]) fun _ _ _ _ _ _=>nS fun _ _=>rfl,
   uB:=mg_of X G Cb,
   iP:=iP,
   vY:=iP.binds (ps:=["states","bonds","k"]) fun _ _ _ _ _ _=>wC fun _ _ _=>rfl,
   wj:=mg_of X G Dk,
   jT:=jT,
   vm:=jT.binds (ps:=["state","bond","order"]) fun _ _ _ _ _ _=>wC fun _ _ _=>rfl,
   vq:=mg_of X G JB,
   iG:=iG,
   r9:=iG.binds (ps:=["bonds","k","atom"]) fun _ _ _ _ _ _=>wC fun _ _ _=>rfl,
   rC:=mg_of X G EI,
   jU:=jU,
   vo:=jU.binds (ps:=["left","bonds"]) fun _ _ _ _ _ _=>nS fun _ _=>rfl,
   vt:=mg_of X G JC,
   j8:=j8,
   xD:=j8.binds (ps:=["bonds"]) fun _ _ _ _ _ _=>rO fun _=>rfl,
   xM:=mg_of X G EJ,
   iQ:=iQ,
   vZ:=iQ.binds (ps:=["form","which"]) fun _ _ _ _ _ _=>nS fun _ _=>rfl,
   wk:=mg_of X G Dl,
   mQ:=mQ,
   CD:=mQ.binds (ps:=["reader"]) fun _ _ _ _ _ _=>rO fun _=>rfl,
   CJ:=mg_of X G LI,
   mR:=mR,
   CH:=mR.binds (ps:=["reader","pair"]) fun _ _ _ _ _ _=>nS fun _ _=>rfl,
   CK:=mg_of X G LJ,
   iR:=iR,
   wc:=iR.binds (ps:=["molecule","k"]) fun _ _ _ _ _ _=>nS fun _ _=>rfl,
   wm:=mg_of X G Dm,
   iS:=iS,
   wg:=iS.binds (ps:=["molecule","k"]) fun _ _ _ _ _ _=>nS fun _ _=>rfl,
   wo:=mg_of X G Dn,
   fG:=fG,
   oJ:=fG.binds (ps:=["molecule","end","other"]) fun _ _ _ _ _ _=>wC fun _ _ _=>rfl,
   oK:=mg_of X G Cc,
   yH:=yH,
   VP:=yH.binds (ps:=["pattern","molecule"]) fun _ _ _ _ _ _=>nS fun _ _=>rfl,
   OP:=mg_of X G Wj,
   j9:=j9,
   xE:=j9.binds (ps:=["pattern","molecule"]) fun _ _ _ _ _ _=>nS fun _ _=>rfl,
   xN:=mg_of X G EK,
   jA:=jA,
   xF:=jA.binds (ps:=["fault"]) fun _ _ _ _ _ _=>rO fun _=>rfl,
   xO:=mg_of X G EL,
   IZ:=mg_of X G VR,
   jg:=⟨Th,Ti,Tj,Tn⟩,
   OQ:=⟨Tp,Jt,Ju,Tq⟩,
   mq:=⟨Dh,w9,qh.kp⟩,
   gK:=gK,
   gM:=gM,
   cK:=cK,
   xP:=mg_of X G L0,
   jh:=⟨⟨_,_,_,_,_,_,_,_,_,_,_,_,_,_,L1,EV,Jw,fun x hx=>by simp only [List.mem_cons,List.mem_nil_iff,or_false] at hx;rcases hx with rfl | rfl | rfl | rfl | rfl | rfl<;>first | exact sR | exact xT | exact xU | exact z6 | exact AQ | exact z7⟩,Jx,Jy,Jz,by simp,by simp,by simp⟩,
   E2:=mg_of X G Tr,
   aL:=⟨Q6,Q7,Q8,Q9⟩,
   E3:=⟨QA,Gr,Gs,QB⟩,
   dj:=⟨EF,EG,ye.kp⟩,
   l6:=⟨xV,xW,pN.kp⟩,
   aJ:=⟨wD,wG,oq.kp⟩,
   gA:=⟨yR,yS,qw.kp⟩,
   rD:=⟨z8,z9,rP.kp⟩,
   qt:=⟨yT,yU,qx.kp⟩,
   rE:=⟨zA,zB,rQ.kp⟩,
   qu:=⟨yV,yW,qy.kp⟩,
   tG:=⟨AR,AU,tL.kp⟩,
   gO:=gO,
   l7:=l7,
   bL:=bL,
   cM:=cM,
   cO:=cO,
   Ay:=mg_of X G J0,
   b5:=⟨Gu,Gv,Gw,Gx⟩,
   Az:=⟨Gy,AV,AW,Gz⟩,
   fH:=fH,
   dQ:=dQ,
   gB:=gB,
   eO:=eO,
   dS:=dS,
   iH:=iH,
   ji:=ji,
   cV:=cV,
   A0:=mg_of X G J1,
   aZ:=⟨G0,G5,G6,G7⟩,
   A1:=⟨G8,AX,AY,G9⟩,
   dw:=dw,
   dz:=dz,
   cQ:=cQ,
   jB:=jB,
   jj:=jj,
   cW:=cW,
   Lr:=mg_of X G Tu,
   bB:=⟨QC,QD,QE,QF⟩,
   Ls:=⟨QG,GC,GD,QH⟩,
   rF:=⟨zC,zD,rR.kp⟩,
   rG:=⟨zE,zF,rS.kp⟩,
   rH:=⟨zG,zH,rT.kp⟩,
   pM:=⟨xX,xY,pO.kp⟩,
   mS:=⟨uE,uF,mT.kp⟩,
   rJ:=⟨zI,zJ,rV.kp⟩,
   rK:=⟨zK,zL,rW.kp⟩,
   rL:=⟨zM,zN,rX.kp⟩,
   rM:=⟨zO,zP,rY.kp⟩,
   l8:=⟨xZ,yc,pP.kp⟩,
   dU:=dU,
   bh:=bh,
   eX:=eX,
   gC:=gC,
   Td:=mg_of X G YZ,
   mH:=⟨VT,VU,VW,VX⟩,
   Te:=⟨VY,L3,L4,VZ⟩,
   l9:=l9,
   lA:=lA,
   lZ:=lZ,
   fJ:=fJ,
   lB:=lB,
   Tf:=mg_of X G Za,
   gG:=⟨Wa,Wb,Wc,We⟩,
   Tg:=⟨Wf,L5,L6,Wg⟩,
   kr:=kr,
   ku:=ku,
   lK:=lK,
   lC:=lC,
   E4:=mg_of X G NJ,
   aY:=⟨L7,L8,LA,LB⟩,
   E5:=⟨LC,Di,Dj,LD⟩,
   om:=⟨wH,wI,ow.kp⟩,
   sQ:=⟨sS,sU,lN.kp⟩,
   mJ:=⟨zQ,w9,qh.kp⟩,
   bT:=bT,
   cP:=cP,
   b8:=b8,
   iT:=iT,
   gb:=gb,
   bU:=bU,
   A2:=⟨GQ,GU,GV,Bb.kp⟩,
   A3:=⟨_,mg_of X G JJ⟩,
   wu:=⟨_,mg_of X G Dv⟩,
   A4:=⟨_,mg_of X G JK⟩,
   oM:=⟨_,mg_of X G Cj⟩,
   A5:=⟨_,mg_of X G JL⟩,
   oN:=⟨_,mg_of X G Ck⟩,
   CL:=⟨_,mg_of X G LR⟩,
   A6:=⟨_,mg_of X G JN⟩,
   A7:=⟨_,mg_of X G JO⟩,
   rN:=⟨_,mg_of X G ET⟩,
   tX:=⟨_,mg_of X G GZ⟩,
   oO:=⟨_,mg_of X G Cm⟩,
   A8:=⟨_,mg_of X G JP⟩,
   tY:=⟨_,mg_of X G Hf⟩,
   tH:=⟨_,mg_of X G Bg⟩,
   E6:=⟨_,mg_of X G NK⟩,
   xQ:=⟨_,mg_of X G LS⟩,
   A9:=⟨_,mg_of X G JQ⟩,
   oQ:=⟨_,mg_of X G Cn⟩,
   E7:=⟨_,mg_of X G Tz⟩,
   tK:=⟨_,mg_of X G LU⟩,
   yI:=⟨_,mg_of X G QM⟩,
   HP:=⟨_,mg_of X G QN⟩,
   tZ:=⟨_,mg_of X G Hg⟩,
   oR:=⟨_,mg_of X G Co⟩,
   xR:=⟨_,mg_of X G EU⟩,
   CM:=⟨_,mg_of X G LV⟩,
   CN:=⟨_,mg_of X G LW⟩,
   HQ:=⟨_,mg_of X G QO⟩,
   E8:=⟨_,mg_of X G NL⟩,
   zf:=⟨_,mg_of X G Hh⟩,
   AA:=⟨_,mg_of X G JR⟩,
   zg:=⟨_,mg_of X G Hi⟩,
   wz:=mg_of X G Dy,
   w6:=fun H=>.inr ⟨_,_,_,Dz,rfl,rfl,(by show 4<=sizeLine;decide),.cons ⟨_,rfl⟩ (.cons ⟨_,rfl⟩ (.cons ⟨_,rfl⟩ (.cons ⟨_,rfl⟩ (.nil))))⟩,
   E9:=mg_of X G T4,
   xS:=fun H=>.inr ⟨_,_,_,T5,rfl,rfl,(by show 3<=sizeLine;decide),.cons ⟨_,rfl⟩ (.cons ⟨_,rfl⟩ (.cons ⟨_,rfl⟩ (.nil)))⟩,
   uC:=mg_of X G Cp,
   uD:=fun H=>.inr ⟨_,_,_,Cq,rfl,rfl,(by show 4<=sizeLine;decide),.cons ⟨_,rfl⟩ (.cons ⟨_,rfl⟩ (.cons ⟨_,rfl⟩ (.cons ⟨_,rfl⟩ (.nil))))⟩,
   jk:=ns_none_of X G LX,
   kG:=ns_none_of X G aaG,
   ND:=ns_none_of X G Zb,
   XE:=ns_none_of X G aaH,
   oX:=ns_none_of X G Wo,
   Lu:=ns_none_of X G T6,
   DI:=ns_none_of X G Wq }
open XL (gE)
open Fk (Fault Bytes numIn need andThen)
def yJ (H:Hp) (dx:Addr) (w r p:Int):Prop:=H dx=some (.xd [("which",.int w),("rule",.int r),("place",.int p)])
def mh {α:Type} (C:Addr) (w:Int) (x:Except Fault α) (k:α->Prop) (E:XK):Prop:=match x with
 | .ok y=>k y
 | .error f=>∀ H dx,yJ H dx w f.rule f.place->E (.ref C) (some dx) H
theorem mh.andThen {α β:Type} {C:Addr} {w:Int} {x:Except Fault α} {f:α->Except Fault β} {k:β->Prop} {E:XK}:mh C w (Fk.andThen x f) k E ↔ mh C w x (fun y=>mh C w (f y) k E) E:=by cases x<;>exact Iff.rfl
theorem mh.mono {α:Type} {C:Addr} {w:Int} {x:Except Fault α} {k k':α->Prop} {E:XK} (h:mh C w x k E) (f:∀ y,x=.ok y->k y->k' y):mh C w x k' E:=by
 cases x with
 | ok y=>exact f y rfl h
 | error e=>exact h
def vB (B:Bytes):List V:=B.map fun c=>V.int (c.toNat:Int)
def rZ (K:Zqq) (H:Hp) (a:Addr) (B:Bytes):Prop:=(∃ o,H a=some (.pZ o (.lst (vB B))))\/∀ H',bI K H' a (vB B)
theorem rZ.sq {K:Zqq} {H:Hp} {a:Addr} {B:Bytes} (h:rZ K H a B):bI K H a (vB B):=by
 rcases h with ⟨o,h⟩ | h
 . exact .inl (.inr ⟨o,h⟩)
 . exact h H
def jq (S:List Addr) (H H':Hp):Prop:=∀ b o,H b=some o->b ∉ S->H' b=some o
theorem jq.refl {S:List Addr} {H:Hp}:jq S H H:=fun _ _ h _=>h
theorem jq.trans {S:List Addr} {H H1 H2:Hp} (a:jq S H H1) (b:jq S H1 H2):jq S H H2:=fun c o h n=>b c o (a c o h n) n
theorem jq.mono {S S':List Addr} {H H1:Hp} (a:jq S H H1) (h:∀ b ∈ S,b ∈ S'):jq S' H H1:=fun c o q n=>a c o q fun z=>n (h c z)
theorem jq.frm {K:Zqq} {S:List Addr} {H H':Hp} {a:Addr} {B:Bytes} (e:jq S H H') (h:rZ K H a B) (n:∀ o xs,H a=some (.pZ o xs)->a ∉ S):rZ K H' a B:=by
 rcases h with ⟨o,h⟩ | h
 . exact .inl ⟨o,e a _ h (n _ _ h)⟩
 . exact .inr h
structure FU where
 a:Addr
 w:Int
 B:Bytes
 b:Bytes
 p:Nat
 hp:Addr
 hps:List Int
 sp:Addr
 T7:List Int
def rfs (x:FU):List (Str×V):=[("form",.ref x.a),("which",.int x.w),("place",.int x.p),("hand_places",.ref x.hp),("side_places",.ref x.sp)]
structure fC (K:Zqq) (C:Addr) (H:Hp) (r:Addr) (x:FU):Prop where
 obj:∃ dx,H r=some (.ins C dx (rfs x))
 form:rZ K H x.a x.B
 hpl:H x.hp=some (.lst (x.hps.map V.int))
 JS:H x.sp=some (.lst (x.T7.map V.int))
 ne:x.hp ≠ x.sp
 rest:x.b=x.B.drop x.p
 le:x.p<=x.B.length
 small:x.B.length<=6000
theorem T8 {H:Hp} {a b:Addr} {o:Obj} {u v:HO} (h:H a=some (.pZ o u)) (h':H b=some v) (n:∀ o u,v ≠ .pZ o u):a ≠ b:=fun e=>by rw [e,h'] at h;exact n _ _ (Option.some.inj h)
theorem fC.stay {K:Zqq} {C:Addr} {H H':Hp} {r:Addr} {x:FU} {S:List Addr} (R:fC K C H r x) (f:jq S H H') (n1:r ∉ S) (n2:x.hp ∉ S) (n3:x.sp ∉ S) (n4:∀ b ∈ S,∀ o u,H b ≠ some (.pZ o u)):fC K C H' r x:=by
 obtain ⟨dx,e⟩:=R.obj;exact ⟨⟨dx,f r _ e n1⟩,f.frm R.form fun o xs h hm=>n4 _ hm o xs h,f _ _ R.hpl n2,f _ _ R.JS n3,R.ne,R.rest,R.le,R.small⟩
theorem fC.place {K:Zqq} {C:Addr} {H H':Hp} {r dx:Addr} {x:FU} {b:Bytes} {p:Nat} (R:fC K C H r x) (f:jq [r] H H') (e:H' r=some (.ins C dx (rfs { x with b:=b,p:=p }))) (hb:b=x.B.drop p) (hp:p<=x.B.length) :
  fC K C H' r { x with b:=b,p:=p }:=by
 obtain ⟨d0,e0⟩:=R.obj;exact ⟨⟨dx,e⟩,f.frm R.form (fun o xs h hm=>by
  rw [show x.a=r by simpa using hm,e0] at h;cases h),f _ _ R.hpl (by simp;exact mX R.hpl e0 (by intro z;cases z)),f _ _ R.JS (by simp;exact mX R.JS e0 (by intro z;cases z)),R.ne,hb,hp,R.small⟩
def Wr (C:Addr):Sp:=fun vs H Q _=>∃ (a:Addr) (w r p:Int),vs=[.ref a,.int w,.int r,.int p]/\H a=some (XO a C none)/\∀ (H':Hp) (dx:Addr),dx ≠ a->H' a=some (XO a C (some dx))->yJ H' dx w r p->Q .non H'
def Ws (CR CF:Addr):Sp:=fun vs H _ E=>∃ (r:Addr) (w ru pl:Int) (dx:Addr) (fs:List (Str×V)),vs=[.ref r,.int ru,.int pl]/\H r=some (.ins CR dx fs)/\fs.lookup ("which":Str)=some (V.int w)/\∀ H' dx,yJ H' dx w ru pl->E (.ref CF) (some dx) H'
def aaI (K:Zqq) (CR CF:Addr):Sp:=fun vs H Q E=>∃ (r:Addr) (k:Nat) (x:FU),vs=[.ref r,.int (k:Int)]/\fC K CR H r x/\(k=1\/k=2) /\
 mh CF x.w (numIn k (fun _=>true) x.b x.p) (fun y=>∀ H',fC K CR H' r { x with b:=y.2.1,p:=y.2.2 }->jq [r] H H'->Q (.int (y.1:Int)) H') E
def QR (K:Zqq) (CR CF:Addr):Sp:=fun vs H Q E=>∃ (r:Addr) (k:Nat) (lo hi:Int) (x:FU),vs=[.ref r,.int (k:Int),.int lo,.int hi]/\fC K CR H r x/\(k=1\/k=2) /\
 mh CF x.w (numIn k (fun v=>decide (lo<=(v:Int))&&decide ((v:Int)<=hi)) x.b x.p) (fun y=>∀ H',fC K CR H' r { x with b:=y.2.1,p:=y.2.2 }->jq [r] H H'->Q (.int (y.1:Int)) H') E
variable {P:Program} {w:World} {K:Zqq} {mg:Str->Option Value} {base:Heap} {t:Ad}
section
theorem HR:typeLookup (.type "Exception") "which"=pure none:=by rw [typeLookup_type,builtinLookup_eq_fast];kernel_rfl
theorem LY:typeLookup (.type "Exception") "rule"=pure none:=by rw [typeLookup_type,builtinLookup_eq_fast];kernel_rfl
theorem HS:typeLookup (.type "Exception") "place"=pure none:=by rw [typeLookup_type,builtinLookup_eq_fast];kernel_rfl
theorem T9:aQ ["self","which","rule","place"] ["self","which","rule","place"] (aF o9):=lT (by decide +kernel)
theorem TF (T:Txt K mg t):bF P w K mg base mL 1 t.dH t.jz ["self","which","rule","place"] (Wr t.aH):=by
 refine T.j6.ok T9 (fun vs H Q E h=>?_) (fun cdv A outer s H vs Q E hr h=>?_)
 . obtain ⟨a,w,r,p,rfl,_⟩:=h
   rfl
 . obtain ⟨a,w,r,p,rfl,ha,k⟩:=h
   refine ⟨_,ak (aa9 T.jh (pv 0) (pv 1) (by simp) HR rfl) (ak (X8 T.jh (pv 0) (pv 2) (by simp) LY rfl) (az (X8 T.jh (pv 0) (pv 3) (by simp) HS rfl))),?_⟩;refine ⟨_,rfl,_,rfl,a,rfl,ha,fun dx hd=>?_⟩;have da:dx ≠ a:=fun z=>by rw [z,ha] at hd;cases hd
   have e1:upd (upd H dx (.xd [("which",V.int w)])) a (XO a t.aH (some dx)) dx=some (.xd [("which",V.int w)]):=by rw [aq da,ai]
   refine ⟨_,rfl,_,rfl,a,dx,_,rfl,ai,e1,(by show 1 < 1000;decide),?_⟩;refine ⟨_,rfl,_,rfl,a,dx,_,rfl,?_,ai,(by show 2 < 1000;decide),?_⟩
   . rw [aq (Ne.symm da)];exact ai
   . refine k _ dx da ?_ ai
     rw [aq (Ne.symm da),aq (Ne.symm da)];exact ai
theorem TH:aQ ["self","rule","place"] ["self","rule","place"] (aF qS):=lT (by decide +kernel)
theorem se (T:Txt K mg t):bF P w K mg base (uP P w) 3 t.fN t.kO ["self","rule","place"] (Ws t.aG t.aH):=by
 have GI:=@TF P w K mg base t T;refine T.kY.K9 TH (fun vs H Q E h=>?_) (fun cdv A outer s H vs Q E hr h=>?_)
 . obtain ⟨r,w,ru,pl,dx,fs,rfl,_⟩:=h
   rfl
 . obtain ⟨r,w,ru,pl,dx,fs,rfl,hr0,hw,k⟩:=h
   refine ⟨_,az (SK rfl T.jh GI hr rfl T.xP T.u4 VI (af (aA (pv 0) rfl) (af (pv 1) (af (pv 2) au)))),?_⟩;refine ⟨_,rfl,r,t.aG,dx,fs,_,rfl,hr0,T.aL,T.l7,hw,_,rfl,_,rfl,(by show 3<=sizeLine;decide),fun a ha=>?_⟩;refine ⟨a,w,ru,pl,rfl,ai,fun H' dx' da h1 h2=>⟨rfl,dx',h1,k _ _ ?_⟩⟩;show drop H' a dx'=_;rw [DF da];exact h2
def Wt (K:Zqq) (C:Addr):Sp:=fun vs H Q _=>∃ (r dx a:Addr) (w:Int) (B:Bytes),vs=[.ref r,.ref a,.int w]/\H r=some (.ins C dx [])/\rZ K H a B/\B.length<=6000 /\
 ∀ (H':Hp) (hp sp:Addr),H hp=none->H sp=none->fC K C H' r ⟨a,w,B,B,0,hp,[],sp,[]⟩->jq [r] H H'->Q .non H'
theorem TJ:aQ ["self","form","which"] ["self","form","which"] (aF tU):=lT (by decide +kernel)
theorem LZ (T:Txt K mg t):bF P w K mg base mL 1 t.gI t.lU ["self","form","which"] (Wt K t.aG):=by
 refine T.lW.ok TJ (fun vs H Q E h=>?_) (fun cdv A outer s H vs Q E hr h=>?_)
 . obtain ⟨r,dx,a,w,B,rfl,_⟩:=h
   rfl
 . obtain ⟨r,dx,a,w,B,rfl,h0,hf,hB,k⟩:=h
   refine ⟨_,ak (ck (pv 0) (pv 1) rfl) (ak (ck (pv 0) (pv 2) rfl) (ak (ck (pv 0) aN rfl) (ak (ck (pv 0) (kC au) rfl) (az (ck (pv 0) (kC au) rfl))))),?_⟩;refine ⟨_,rfl,_,rfl,r,_,dx,_,rfl,h0,T.aL,T.gO,(by show 0 < 1000;decide),?_⟩;refine ⟨_,rfl,_,rfl,r,_,dx,_,rfl,ai,T.aL,T.l7,(by show 1 < 1000;decide),?_⟩;rw [mW];refine ⟨_,rfl,r,_,dx,_,rfl,ai,T.aL,T.bL,(by show 2 < 1000;decide),?_⟩;rw [mW];refine ⟨Nat.zero_le _,fun l1 n1=>?_⟩;have r1:r ≠ l1:=fun z=>by rw [<- z,ai] at n1;cases n1
   have n1':H l1=none:=by rw [aq (Ne.symm r1)] at n1;exact n1
   refine ⟨_,rfl,r,_,dx,_,rfl,(by rw [aq r1];exact ai),T.aL,T.cM,(by show 3 < 1000;decide),?_⟩;refine ⟨Nat.zero_le _,fun l2 n2=>?_⟩;have r2:r ≠ l2:=fun z=>by rw [<- z,ai] at n2;cases n2
   have n2b:=n2;rw [aq (Ne.symm r2)] at n2b;have l12:l1 ≠ l2:=fun z=>by rw [<- z,ai] at n2b;cases n2b
   have n2':H l2=none:=by rw [aq (Ne.symm l12),aq (Ne.symm r2)] at n2b;exact n2b
   refine ⟨_,rfl,r,_,dx,_,rfl,(by rw [aq r2];exact ai),T.aL,T.cO,(by show 4 < 1000;decide),?_⟩;have F:jq [r] H (upd (upd (upd (upd (upd H r (.ins t.aG dx (gf "place" (.int 0) (gf "which" (.int w) (gf "form" (.ref a) []))))) l1 (.lst [])) r (.ins t.aG dx (gf "hand_places" (.ref l1) (gf "place" (.int 0) (gf "which" (.int w) (gf "form" (.ref a) [])))))) l2 (.lst []))
     r (.ins t.aG dx (gf "side_places" (.ref l2) (gf "hand_places" (.ref l1) (gf "place" (.int 0) (gf "which" (.int w) (gf "form" (.ref a) []))))))):=fun b o e n=>by
     have nb:b ≠ r:=by simpa using n
     rw [aq nb,aq (ay e n2'),aq nb,aq (ay e n1'),aq nb]
     exact e
   refine k _ l1 l2 n1' n2' ⟨⟨dx,ai⟩,F.frm hf (fun o xs h hm=>?_),?_,?_,l12,rfl,Nat.zero_le _,hB⟩ F
   . rw [show a=r by simpa using hm,h0] at h;cases h
   . rw [aq (Ne.symm r1),aq l12,aq (Ne.symm r1)];exact ai
   . rw [aq (Ne.symm r2)];exact ai
theorem JT:aQ ["self","size","number","k"] ["self","size"] (aF kL):=lT (by decide +kernel)
theorem TM {b:Bytes} {k:Nat} {c:UInt8} (hk:k < 2) (hc:b[k]?=some c):(Fk.num (b.take (k+1)):Int)=(Fk.num (b.take k):Int)+(c.toNat:Int) * 2 ^ (8 * (k:Int)).toNat:=by
 match k,b,hk,hc with
 | 0,x::b,_,hc=>
  cases hc;simp [Fk.num]
 | 1,x::y::b,_,hc=>
  cases hc;simp [Fk.num];omega
 | 0,[],_,hc=>cases hc
 | 1,[],_,hc=>cases hc
 | 1,[x],_,hc=>cases hc
theorem TN (T:Txt K mg t):bF P w K mg base (uP P w) 4 t.bW t.fO ["self","size"] (aaI K t.aG t.aH):=by
 have GF:=@se P w K mg base t T;obtain ⟨tk5,g5⟩:=T.A5;refine T.fU.K9 JT (fun vs H Q E h=>?_) (fun cdv A outer s H vs Q E hr h=>?_)
 . obtain ⟨r,k,x,rfl,_⟩:=h
   rfl
 . obtain ⟨r,k,x,rfl,R,hk,bD⟩:=h
   obtain ⟨dx,e0⟩:=R.obj;refine ⟨_,ak (kK (d9 O0 (gU uS (aA (pv 0) rfl) (pv 1)) (c6 bx (by rfl) T.kG PySem.boot_len (af (aA (pv 0) rfl) au)) (cg _))
       (az (dW (aW (pv 0) T.aL T.dj GF hr T.cZ .nil c7 (af (aV rfl g5 (v:=.int 5) ⟨_,rfl⟩) (af (c6 bx (by rfl) T.kG PySem.boot_len (af (aA (pv 0) rfl) au)) au))))) ee)
     (ak (aR (i:=2) JT.nd rfl (Or.inl rfl) aN)
     (ak (fj IU rfl (mK rfl T.oX (af (pv 1) au)) (bu (i:=3) JT.nd rfl (Or.inl rfl))
       (az (RU (i:=2) JT.nd rfl (Or.inl rfl) (gU Sb (bV b9 (aA (pv 0) rfl) (gU uS (aA (pv 0) rfl) (pv 3)) (fun _ _=>rfl)) (gU Nj aN (pv 3))) IB)))
     (ak (PL (pv 0) (pv 1) Yz) (az (bc (pv 2)))))),?_⟩
   have hf:=R.form.sq;have hlB:(vB x.B).length=x.B.length:=by simp [vB]
   refine ⟨_,rfl,fld e0 T.aL T.bL rfl ⟨_,rfl,_,_,rfl,rfl,?_⟩⟩;refine ⟨_,rfl,fld e0 T.aL T.gO rfl ⟨x.a,_,rfl,.inl hf,_,_,rfl,rfl,_,rfl,?_⟩⟩;rw [hlB];have hlen:x.b.length=x.B.length - x.p:=by rw [R.rest,List.length_drop]
   have hle:=R.le;refine zp (fun h=>?_) (fun h=>?_)
   . have h':(x.B.length:Int) < (x.p:Int)+(k:Int):=of_decide_eq_true h
     have e1:numIn k (fun _=>true) x.b x.p=.error ⟨5,x.p+x.b.length⟩:=if_pos (by omega);rw [e1] at bD;refine ⟨_,rfl,r,dx,_,rfl,e0,rfl,?_⟩;refine ⟨_,rfl,fld e0 T.aL T.gO rfl ⟨x.a,_,rfl,.inl hf,?_⟩⟩;refine ⟨r,x.w,5,((vB x.B).length:Int),dx,_,rfl,e0,rfl,fun H' d' hF=>bD H' d' ?_⟩;rw [hlB] at hF;have e2:x.p+x.b.length=x.B.length:=by omega
     show yJ H' d' x.w 5 ((x.p+x.b.length:Nat):Int);rw [e2];exact hF
   . have h':¬ (x.B.length:Int) < (x.p:Int)+(k:Int):=fun z=>h (decide_eq_true z)
     have e1:numIn k (fun _=>true) x.b x.p=.ok (Fk.num (x.b.take k),x.b.drop k,x.p+k):=by
       unfold numIn;rw [if_neg (by omega),if_pos rfl]
     rw [e1] at bD;refine ⟨_,rfl,(k:Int),rfl,by omega,by omega,?_⟩;rw [Int.toNat_natCast];let wN:L2.Iv:=fun i σ H'=>∃ v,H'=H/\σ=[some (.ref r),some (.int (k:Int)),some (.int (Fk.num (x.b.take i):Int)),v];refine qI (n:=k) wN ⟨none,rfl,rfl⟩ ?_ ?_
     . rintro i σ H' hi ⟨v,rfl,rfl⟩
       obtain ⟨c,hc⟩:∃ c,x.b[i]?=some c:=⟨_,List.getElem?_eq_getElem (by omega)⟩;have hcB:x.B[x.p+i]?=some c:=by
         rw [R.rest,List.getElem?_drop] at hc;exact hc
       have hcV:(vB x.B)[x.p+i]?=some (V.int (c.toNat:Int)):=by
         unfold vB;rw [List.getElem?_map,hcB];rfl
       refine ⟨_,rfl,?_⟩;refine ⟨_,rfl,fld e0 T.aL T.gO rfl ⟨_,rfl,fld e0 T.aL T.bL rfl ⟨_,rfl,_,_,rfl,rfl,x.a,_,_,_,rfl,rfl,hf,at_of (j:=x.p+i) (by simp) hcV,?_⟩⟩⟩;refine ⟨_,rfl,_,_,rfl,rfl,.inl ⟨by decide,by decide⟩,_,_,rfl,rfl,⟨by omega,by omega,?_⟩,?_⟩
       . have:=c.toNat_lt
         have e:((c.toNat:Int)).natAbs=c.toNat:=Int.natAbs_natCast _;rw [e];omega
       . refine ⟨_,_,rfl,rfl,some (.int (0+(i:Int))),rfl,?_⟩
         have e8:(8 * (0+(i:Int))).toNat=(8 * (i:Int)).toNat:=by rw [Int.zero_add]
         rw [TM (by omega) hc,<- e8];rfl
     . rintro σ H' ⟨v,rfl,rfl⟩
       refine ⟨_,rfl,r,_,dx,_,_,rfl,e0,T.aL,T.bL,rfl,_,rfl,_,_,rfl,rfl,dx,_,e0,(by show 5 < 1000;decide),?_⟩;refine ⟨_,rfl,?_⟩;have F:jq [r] H' (upd H' r (.ins t.aG dx (gf "place" (V.int ((x.p:Int)+(k:Int))) (rfs x)))):=fun b o e n=>by rw [aq (by simpa using n)];exact e
       exact bD _ (R.place F (dx:=dx) ai (by rw [R.rest,List.drop_drop]) (by show x.p+k<=_;omega)) F
theorem zR:aQ ["self","size","least","greatest","start","number"] ["self","size","least","greatest"] (aF kD):=lT (by decide +kernel)
theorem lD (T:Txt K mg t):bF P w K mg base (uP P w) 5 t.bM t.fu ["self","size","least","greatest"] (QR K t.aG t.aH):=by
 have GF:=@se P w K mg base t T;have GN:=@TN P w K mg base t T;obtain ⟨XF,g2⟩:=T.wu;refine T.f9.K9 zR (fun vs H Q E h=>?_) (fun cdv A outer s H vs Q E hr h=>?_)
 . obtain ⟨r,k,lo,hi,x,rfl,_⟩:=h
   rfl
 . obtain ⟨r,k,lo,hi,x,rfl,R,hk,bD⟩:=h
   obtain ⟨dx,e0⟩:=R.obj;have Ma:dG 3 _:=hr.mono (by decide);refine ⟨_,ak (aR (i:=4) zR.nd rfl (Or.inl rfl) (aA (pv 0) rfl))
     (ak (aR (i:=5) zR.nd rfl (Or.inl rfl) (aW (pv 0) T.aL T.l6 GN hr T.kZ .nil c7 (af (pv 1) au)))
     (ak (kK (RQ (d9 X0 (pv 5) (pv 2) (cg _)) (Nc (d9 O0 (pv 5) (pv 3) (cg _)))).pt
       (az (dW (aW (pv 0) T.aL T.dj GF Ma T.cZ .nil c7 (af (aV rfl g2 (v:=.int 2) ⟨_,rfl⟩) (af (pv 4) au))))) ee)
     (az (bc (pv 5))))),?_⟩
   refine ⟨_,rfl,fld e0 T.aL T.bL rfl ?_⟩;refine ⟨_,rfl,r,dx,_,rfl,e0,rfl,_,rfl,?_⟩;refine ⟨r,k,x,rfl,R,hk,?_⟩;have split:numIn k (fun v=>decide (lo<=(v:Int))&&decide ((v:Int)<=hi)) x.b x.p=Fk.andThen (numIn k (fun _=>true) x.b x.p) fun y=>Fk.andThen (need (decide (lo<=(y.1:Int))&&decide ((y.1:Int)<=hi)) 2 x.p) fun _=>.ok y:=by
     unfold numIn;split
     . rfl
     . rw [if_pos rfl]
       show _=Fk.andThen (need _ 2 x.p) _;unfold need;split<;>rfl
   rw [split,mh.andThen] at bD;refine bD.mono fun y hy bD H1 R1 F1=>?_;obtain ⟨d1,e1⟩:=R1.obj;have hw:x.w=x.w:=rfl;refine ⟨_,rfl,_,rfl,_,_,rfl,rfl,_,rfl,?_⟩;by_cases h1:(y.1:Int) < lo
   . have bad:need (decide (lo<=(y.1:Int))&&decide ((y.1:Int)<=hi)) 2 x.p=.error ⟨2,x.p⟩:=by simp [need];omega
     rw [bad] at bD;rw [decide_eq_true h1];refine ⟨_,rfl,r,d1,_,rfl,e1,rfl,_,rfl,?_⟩;exact ⟨r,x.w,2,(x.p:Int),d1,_,rfl,e1,rfl,fun H' d' hF=>bD H' d' hF⟩
   . rw [decide_eq_false h1]
     refine ⟨_,rfl,_,rfl,_,_,rfl,rfl,_,rfl,?_⟩;by_cases h2:hi < (y.1:Int)
     . have bad:need (decide (lo<=(y.1:Int))&&decide ((y.1:Int)<=hi)) 2 x.p=.error ⟨2,x.p⟩:=by simp [need];omega
       rw [bad] at bD;rw [decide_eq_true h2];refine ⟨_,rfl,r,d1,_,rfl,e1,rfl,_,rfl,?_⟩;exact ⟨r,x.w,2,(x.p:Int),d1,_,rfl,e1,rfl,fun H' d' hF=>bD H' d' hF⟩
     . have good:need (decide (lo<=(y.1:Int))&&decide ((y.1:Int)<=hi)) 2 x.p=.ok ():=by simp [need];omega
       rw [good] at bD;rw [decide_eq_false h2];exact ⟨_,rfl,bD H1 R1 F1⟩
end
open Fk (Fault Bytes numIn need andThen PAtom PBond)
theorem mh.good {C:Addr} {w:Int} {k:Nat} {g g':Nat->Bool} {b:Bytes} {p:Nat} {kk:Nat×Bytes×Nat->Prop} {E:XK} (h:∀ v,g v=g' v) (a:mh C w (numIn k g' b p) kk E):mh C w (numIn k g b p) kk E:=by
 rw [JM.Ln h];exact a
theorem mh.andThen' {α β:Type} {C:Addr} {w:Int} {x:Except Fault α} {f:α->Except Fault β} {k:β->Prop} {E:XK} (h:mh C w (Fk.andThen x f) k E):mh C w x (fun y=>mh C w (f y) k E) E:=mh.andThen.mp h
section
def Wu (K:Zqq) (CR CF:Addr):Sp:=fun vs H Q E=>∃ (r:Addr) (k m:Nat) (x:FU),vs=[.ref r,.int (k:Int),.int (m:Int)]/\fC K CR H r x/\(k=1\/k=2) /\
 mh CF x.w (Fk.pairIn k m x.b x.p) (fun y=>∀ H' p,fC K CR H' r { x with b:=y.2.1,p:=y.2.2 }->jq [r] H H'->H p=none->H' p=some (.tup [.int (y.1.1:Int),.int (y.1.2:Int)])->Q (.ref p) H') E
theorem EW:aQ ["self","size","most","least","greatest"] ["self","size","most"] (aF lO):=lT (by decide +kernel)
theorem TQ (T:Txt K mg t):bF P w K mg base (uP P w) 6 t.cz t.gq ["self","size","most"] (Wu K t.aG t.aH):=by
 have GB:=@lD P w K mg base t T;refine T.gx.K9 EW (fun vs H Q E h=>?_) (fun cdv A outer s H vs Q E hr h=>?_)
 . obtain ⟨r,k,m,x,rfl,_⟩:=h
   rfl
 . obtain ⟨r,k,m,x,rfl,R,hk,bD⟩:=h
   obtain ⟨dx,e0⟩:=R.obj;refine ⟨_,ak (aR (i:=3) EW.nd rfl (Or.inl rfl) (aW (pv 0) T.aL T.aJ GB hr T.aI .nil c7 (af (pv 1) (af aN (af (pv 2) au)))))
     (ak (aR (i:=4) EW.nd rfl (Or.inl rfl) (aW (pv 0) T.aL T.aJ GB hr T.aI .nil c7 (af (pv 1) (af (pv 3) (af (pv 2) au)))))
     (az (bc (mz (af (pv 3) (af (pv 4) au)))))),?_⟩
   refine ⟨_,rfl,r,dx,_,rfl,e0,rfl,_,rfl,_,rfl,?_⟩;refine ⟨r,k,0,(m:Int),x,rfl,R,hk,mh.good (g':=fun v=>decide (v<=m)) (fun v=>by rw [Bool.eq_iff_iff];simp) (bD.andThen'.mono fun y hy bD H1 R1 F1=>?_)⟩;obtain ⟨d1,e1⟩:=R1.obj;refine ⟨_,rfl,r,d1,_,rfl,e1,rfl,_,rfl,_,rfl,_,rfl,?_⟩;refine ⟨r,k,(y.1:Int),(m:Int),_,rfl,R1,hk,mh.good (g':=fun v=>decide (y.1<=v)&&decide (v<=m)) (fun v=>by rw [Bool.eq_iff_iff];simp) (bD.andThen'.mono fun z hz bD H2 R2 F2=>?_)⟩;refine ⟨_,rfl,_,rfl,(by show 2<=sizeLine;decide),fun p hp=>?_⟩;have F3:jq [r] H2 (upd H2 p (.tup [.int (y.1:Int),.int (z.1:Int)])):=fun b o e n=>by rw [aq (ay e hp)];exact e
   have pn:H p=none:=by
     cases q:H p with
     | none=>rfl
     | some o=>
       by_cases z:p=r
       . obtain ⟨d2,e2⟩:=R2.obj
         rw [z,e2] at hp;cases hp
       . rw [(F1.trans F2) p o q (by simpa using z)] at hp;cases hp
   obtain ⟨d2,e2⟩:=R2.obj;refine bD _ p (R2.stay (S:=[p]) (fun b o e n=>by rw [aq (by simpa using n)];exact e) ?_ ?_ ?_ ?_) ((F1.trans F2).trans F3) pn ai
   . simp;exact ay e2 hp
   . simp;exact ay R2.hpl hp
   . simp;exact ay R2.JS hp
   . intro b hb o u;rw [show b=p by simpa using hb,hp];exact fun z=>by cases z
def Zc (K:Zqq) (CR CF:Addr):Sp:=fun vs H Q E=>∃ (r m:Addr) (M:Bytes) (x:FU),vs=[.ref r,.ref m]/\fC K CR H r x/\(∀ H,nU K H m (vB M)) /\
 mh CF x.w (JM.m5 M x.b x.p) (fun y=>∀ H',fC K CR H' r { x with b:=y.1,p:=y.2 }->jq [r] H H'->Q .non H') E
theorem OS:aQ ["self","mark","byte"] ["self","mark"] (aF m6):=lT (by decide +kernel)
theorem Wv (T:Txt K mg t):bF P w K mg base (uP P w) 6 t.cA t.gW ["self","mark"] (Zc K t.aG t.aH):=by
 have GF:=@se P w K mg base t T;have GN:=@TN P w K mg base t T;obtain ⟨NN,g1⟩:=T.A3;refine T.i7.K9 OS (fun vs H Q E h=>?_) (fun cdv A outer s H vs Q E hr h=>?_)
 . obtain ⟨r,m,M,x,rfl,_⟩:=h
   rfl
 . obtain ⟨r,m,M,x,rfl,R,hM,bD⟩:=h
   have Ma:dG 3 _:=hr.mono (by decide);have hr4:dG 4 _:=hr.mono (by decide);refine ⟨_,az (fj IU rfl (Nh (pv 1)) (bu (i:=2) OS.nd rfl (Or.inl rfl))
     (az (kK (d9 vU (aW (pv 0) T.aL T.l6 GN hr4 T.kZ .nil c7 (af aN au)) (pv 2) (cg _))
       (az (dW (aW (pv 0) T.aL T.dj GF Ma T.cZ .nil c7 (af (aV rfl g1 (v:=.int 1) ⟨_,rfl⟩) (af (gU wU (aA (pv 0) rfl) aN) au))))) ee))),?_⟩
   refine ⟨_,rfl,m,rfl,⟨_,hM H⟩,IC (K:=K) (a:=m) (xs:=vB M) (fun i σ H'=>∃ (b:Bytes) (p:Nat) (v:Option V),σ=[some (.ref r),some (.ref m),v]/\fC K t.aG H' r { x with b:=b,p:=p }/\jq [r] H H' /\
     mh t.aH x.w (JM.m5 (M.drop i) b p) (fun y=>∀ H',fC K t.aG H' r { x with b:=y.1,p:=y.2 }->jq [r] H H'->Q .non H') E) ⟨x.b,x.p,none,rfl,R,jq.refl,bD⟩ (fun i σ H' _ _=>hM H') ?_ ?_⟩
   . rintro i y σ H' hi ⟨b,p,v,rfl,R1,F1,bD⟩
     obtain ⟨c,hc,rfl⟩:∃ c,M[i]?=some c/\y=V.int (c.toNat:Int):=by
       unfold vB at hi;rw [List.getElem?_map] at hi;cases e:M[i]? with
       | none=>rw [e] at hi;cases hi
       | some c=>rw [e] at hi;exact ⟨c,rfl,(Option.some.inj hi).symm⟩
     have hd:M.drop i=c::M.drop (i+1):=by
       obtain ⟨hl,hg⟩:=List.getElem?_eq_some_iff.mp hc;rw [List.drop_eq_getElem_cons hl,hg]
     rw [hd] at bD;obtain ⟨dx,e0⟩:=R1.obj;refine ⟨_,rfl,r,dx,_,rfl,e0,rfl,?_⟩;refine ⟨r,1,_,rfl,R1,.inl rfl,bD.andThen'.mono fun z hz bD H2 R2 F2=>?_⟩;refine ⟨_,rfl,rfl,_,rfl,?_⟩;obtain ⟨d2,e2⟩:=R2.obj;obtain ⟨_,_,_,z1,z2⟩:=JM.bA hz;refine zp (fun h=>?_) (fun h=>?_)
     . have ne:¬ z.1=c.toNat:=fun q=>by rw [q] at h;simp at h
       have bad:need (decide (z.1=c.toNat)) 1 p=.error ⟨1,p⟩:=by simp [need,ne]
       rw [bad] at bD;refine ⟨_,rfl,r,d2,_,rfl,e2,rfl,_,rfl,fld e2 T.aL T.bL rfl ⟨_,_,rfl,rfl,?_⟩⟩;refine ⟨r,x.w,1,((z.2.2:Nat):Int) - 1,d2,_,rfl,e2,rfl,fun H' d' hF=>bD H' d' ?_⟩;have e3:((z.2.2:Nat):Int) - 1=(p:Int):=by omega
       rw [e3] at hF;exact hF
     . have eq:z.1=c.toNat:=by
         by_cases q:z.1=c.toNat
         . exact q
         . exact absurd (by simp;omega) h
       have good:need (decide (z.1=c.toNat)) 1 p=.ok ():=by simp [need,eq]
       rw [good] at bD;exact ⟨_,_,_,rfl,R2,F1.trans F2,bD⟩
   . rintro σ H' ⟨b,p,v,rfl,R1,F1,bD⟩
     rw [show (vB M).length=M.length by simp [vB],List.drop_length] at bD;exact bD H' R1 F1
end
theorem jq.fresh {r:Addr} {H H1:Hp} {p:Addr} (F:jq [r] H H1) {o:HO} (e:H1 r=some o) (hp:H1 p=none):H p=none:=by
 cases q:H p with
 | none=>rfl
 | some u=>
   by_cases z:p=r
   . rw [z,e] at hp;cases hp
   . rw [F p u q (by simpa using z)] at hp;cases hp
theorem jq.laid {S:List Addr} {H:Hp} {p:Addr} {o:HO} (hp:H p=none):jq S H (upd H p o):=fun b u e n=>by rw [aq (ay e hp)];exact e
theorem fC.laid {K:Zqq} {C:Addr} {H:Hp} {r p:Addr} {x:FU} {o:HO} (R:fC K C H r x) (hp:H p=none):fC K C (upd H p o) r x:=by
 obtain ⟨dx,e⟩:=R.obj;exact R.stay (S:=[]) (jq.laid hp) (by simp) (by simp) (by simp) (by simp)
theorem fC.wrote {K:Zqq} {C:Addr} {H:Hp} {r p:Addr} {x:FU} {o u:HO} (R:fC K C H r x) (hp:H p=some u) (n1:p ≠ r) (n2:p ≠ x.hp) (n3:p ≠ x.sp) (n4:∀ o v,u ≠ .pZ o v):fC K C (upd H p o) r x:=
 R.stay (S:=[p]) (fun b o e n=>by rw [aq (by simpa using n)];exact e) (by simpa using Ne.symm n1) (by simpa using Ne.symm n2) (by simpa using Ne.symm n3) (fun b hb o v z=>by
  rw [show b=p by simpa using hb,hp] at z;exact n4 _ _ (Option.some.inj z))
section
def vN (l:List Nat):List V:=l.map fun (n:Nat)=>V.int (n:Int)
def JU (b:Bytes) (p:Nat):Except Fault (List Nat×Bytes×Nat):=Fk.andThen (numIn 1 (fun v=>decide (v<=8)) b p) fun c=>Fk.elementsIn c.1 0 c.2.1 c.2.2
def Ww (K:Zqq) (CR CF:Addr):Sp:=fun vs H Q E=>∃ (r:Addr) (x:FU),vs=[.ref r]/\fC K CR H r x /\
 mh CF x.w (JU x.b x.p) (fun y=>∀ H' l,fC K CR H' r { x with b:=y.2.1,p:=y.2.2 }->jq [r] H H'->H l=none->H' l=some (.lst (vN y.1))->Q (.ref l) H') E
theorem yg:aQ ["reader","named","before","k"] ["reader"] (aF uZ):=lT (by decide +kernel)
theorem TR:∀ (k had:Nat) (b:Bytes) (p:Nat) (pre:List Nat),Fk.andThen (Fk.elementsIn (k+1) had b p) (fun l=>.ok (pre++l.1,l.2.1,l.2.2)) =
  Fk.andThen (numIn 1 (fun v=>decide (had < v)&&decide (v<=Fk.ELEMENTS)) b p) fun x=>Fk.andThen (Fk.elementsIn k x.1 x.2.1 x.2.2) fun l=>.ok ((pre++[x.1])++l.1,l.2.1,l.2.2):=by
 intro k had b p pre;rw [show Fk.elementsIn (k+1) had b p=Fk.andThen (numIn 1 (fun v=>decide (had < v)&&decide (v<=Fk.ELEMENTS)) b p) (fun x=>Fk.andThen (Fk.elementsIn k x.1 x.2.1 x.2.2) fun l=>.ok (x.1::l.1,l.2.1,l.2.2)) from rfl,JM.bq];congr 1;funext x;rw [JM.bq];congr 1;funext l;show Except.ok (pre++(x.1::l.1),l.2.1,l.2.2)=_;rw [List.append_assoc];rfl
theorem TU (T:Txt K mg t):bF P w K mg base (uP P w) 6 t.jN t.n6 ["reader"] (Ww K t.aG t.aH):=by
 have GB:=@lD P w K mg base t T;obtain ⟨NN,g1⟩:=T.A8;obtain ⟨XF,g2⟩:=T.rN;refine T.lH.K9 yg (fun vs H Q E h=>?_) (fun cdv A outer s H vs Q E hr h=>?_)
 . obtain ⟨r,x,rfl,_⟩:=h
   rfl
 . obtain ⟨r,x,rfl,R,bD⟩:=h
   refine ⟨_,ak (aR (i:=1) yg.nd rfl (Or.inl rfl) (kC au))
     (ak (aR (i:=2) yg.nd rfl (Or.inl rfl) aN)
     (ak (fj IU rfl (mK rfl T.oX (af (aW (pv 0) T.aL T.aJ GB hr T.aI .nil c7 (af aN (af aN (af (aV rfl g1 (v:=.int 8) ⟨_,rfl⟩) au)))) au)) (bu (i:=3) yg.nd rfl (Or.inl rfl))
       (ak (aR (i:=2) yg.nd rfl (Or.inl rfl) (aW (pv 0) T.aL T.aJ GB hr T.aI .nil c7 (af aN (af (gU uS (pv 2) aN) (af (aV rfl g2 (v:=.int 118) ⟨_,rfl⟩) au)))))
       (az (dW (uq PySem.F.plainAttrs_list PySem.F.slot_list_append PySem.F.type_list_append jt (pv 1) (af (pv 2) au))))))
     (az (bc (pv 1))))),?_⟩
   refine ⟨Nat.zero_le _,fun l hl=>?_⟩;have R0:=R.laid (o:=.lst []) hl;obtain ⟨d0,e0⟩:=R0.obj;have rl:r ≠ l:=fun z=>by obtain ⟨d,e⟩:=R.obj;rw [<- z,e] at hl;cases hl
   refine ⟨_,rfl,r,d0,_,rfl,e0,rfl,?_⟩;refine ⟨r,1,0,8,_,rfl,R0,.inl rfl,mh.good (g':=fun v=>decide (v<=8)) (fun v=>by rw [Bool.eq_iff_iff];simp only [Bool.and_eq_true,decide_eq_true_eq];omega) (bD.andThen'.mono fun c hc bD H1 R1 F1=>?_)⟩;obtain ⟨_,c8,_⟩:=JM.bA hc;have c8:c.1<=8:=of_decide_eq_true c8;have hl1:H1 l=some (.lst []):=F1 l _ ai (by simpa using Ne.symm rl);have FH:∀ {H2:Hp},jq [r,l] H1 H2->jq [r] H H2:=fun {H2} f b o e n=>f b o (F1 b o (jq.laid (S:=[r]) hl b o e n) n) (by simp at n ⊢;exact ⟨n,ay e hl⟩);refine ⟨(c.1:Int),rfl,by omega,by omega,?_⟩;rw [Int.toNat_natCast];let wN:L2.Iv:=fun i σ H'=>∃ (had:Nat) (b:Bytes) (p:Nat) (v:Option V) (pre:List Nat),i<=c.1/\pre.length=i/\σ=[some (.ref r),some (.ref l),some (.int (had:Int)),v]/\fC K t.aG H' r { x with b:=b,p:=p }/\jq [r,l] H1 H'/\H' l=some (.lst (vN pre)) /\
     mh t.aH x.w (Fk.andThen (Fk.elementsIn (c.1 - i) had b p) fun l=>.ok (pre++l.1,l.2.1,l.2.2)) (fun y=>∀ H' l,fC K t.aG H' r { x with b:=y.2.1,p:=y.2.2 }->jq [r] H H'->H l=none->H' l=some (.lst (vN y.1))->Q (.ref l) H') E
   refine qI (n:=c.1) wN
     ⟨0,c.2.1,c.2.2,none,[],Nat.zero_le _,rfl,rfl,R1,jq.refl,hl1,?_⟩ ?_ ?_
   . rw [Nat.sub_zero]
     have e:(Fk.andThen (Fk.elementsIn c.1 0 c.2.1 c.2.2) fun l=>Except.ok ([]++l.1,l.2.1,l.2.2))=Fk.elementsIn c.1 0 c.2.1 c.2.2:=by
       cases Fk.elementsIn c.1 0 c.2.1 c.2.2<;>rfl
     rw [e];exact bD
   . rintro i σ H' hi ⟨had,b,p,v,pre,hic,hpre,rfl,R2,F2,hl2,bD⟩
     obtain ⟨d2,e2⟩:=R2.obj;rw [show c.1 - i=(c.1 - (i+1))+1 by omega,TR] at bD;refine ⟨_,rfl,r,d2,_,rfl,e2,rfl,_,rfl,_,_,rfl,rfl,?_⟩;refine ⟨r,1,(had:Int)+1,118,_,rfl,R2,.inl rfl,mh.good (g':=fun v=>decide (had < v)&&decide (v<=Fk.ELEMENTS)) (fun v=>by rw [Bool.eq_iff_iff];simp only [Bool.and_eq_true,decide_eq_true_eq];unfold Fk.ELEMENTS;omega) (bD.andThen'.mono fun z hz bD H3 R3 F3=>?_)⟩;have hl3:H3 l=some (.lst (vN pre)):=F3 l _ hl2 (by simpa using Ne.symm rl);refine ⟨_,rfl,.inl ⟨rfl,_,bI.of hl3⟩,_,rfl,l,_,_,rfl,rfl,hl3,(by simp [vN];rw [sizeLine_eq];omega),?_⟩;refine ⟨z.1,z.2.1,z.2.2,some (.int (0+(i:Int))),pre++[z.1],by omega,by simp [hpre],rfl,?_,?_,?_,bD⟩
     . refine R3.wrote hl3 (Ne.symm rl) ?_ ?_ (fun _ _ z=>by cases z)
       . intro q;have:=R0.hpl;rw [<- show l=x.hp from q,ai] at this;have h9:=R.hpl;rw [<- show l=x.hp from q,hl] at h9;cases h9
       . intro q;have h9:=R.JS;rw [<- show l=x.sp from q,hl] at h9;cases h9
     . intro b' o e n
       have n':b' ≠ r/\b' ≠ l:=by simpa using n
       rw [aq n'.2];exact F3 b' o (F2 b' o e n) (by simpa using n'.1)
     . rw [ai];simp only [vN,List.map_append];rfl
   . rintro σ H' ⟨had,b,p,v,pre,_,hpre,rfl,R2,F2,hl2,bD⟩
     rw [Nat.sub_self] at bD;refine ⟨_,rfl,?_⟩;have a2:=bD H' l R2 (FH F2) hl;rw [show pre++([]:List Nat)=pre from List.append_nil _] at a2;exact a2 hl2
def bfs (z:PBond):List (Str×V):=[("a",.int (z.a:Int)),("b",.int (z.b:Int)),("orders",.int (z.orders:Int)),("how",.int (z.how:Int)),("ring",.int (z.ring:Int)),("side",.int (z.side:Int))]
def Wx (K:Zqq) (C:Addr):Sp:=fun vs H Q _=>∃ (o dx p:Addr) (z:PBond),vs=[.ref o,.ref p,.int (z.orders:Int),.int (z.how:Int),.int (z.ring:Int),.int (z.side:Int)]/\H o=some (.ins C dx []) /\
 H p=some (.tup [.int (z.a:Int),.int (z.b:Int)])/\∀ H',H' o=some (.ins C dx (bfs z))->jq [o] H H'->Q .non H'
theorem TV:aQ ["self","pair","orders","how","ring","side"] ["self","pair","orders","how","ring","side"] (aF nj):=lT (by decide +kernel)
theorem TX (T:Txt K mg t):bF P w K mg base mL 1 t.cU t.iX ["self","pair","orders","how","ring","side"] (Wx K t.aP):=by
 refine T.je.ok TV (fun vs H Q E h=>?_) (fun cdv A outer s H vs Q E hr h=>?_)
 . obtain ⟨o,dx,p,z,rfl,_⟩:=h
   rfl
 . obtain ⟨o,dx,p,z,rfl,h0,hp,k⟩:=h
   refine ⟨_,ak (ck (pv 0) (bV wW (pv 1) aN (fun _ _=>rfl)) rfl) (ak (ck (pv 0) (bV wW (pv 1) aN (fun _ _=>rfl)) rfl) (ak (ck (pv 0) (pv 2) rfl) (ak (ck (pv 0) (pv 3) rfl) (ak (ck (pv 0) (pv 4) rfl) (az (ck (pv 0) (pv 5) rfl)))))),?_⟩;have po:p ≠ o:=mX hp h0 (by intro z;cases z);refine ⟨_,rfl,XD (nU.of hp) rfl ⟨_,rfl,o,_,dx,_,rfl,h0,T.aZ,T.dw,(by show 0 < 1000;decide),?_⟩⟩;refine ⟨_,rfl,XD (nU.of (by rw [aq po];exact hp)) rfl ⟨_,rfl,o,_,dx,_,rfl,ai,T.aZ,T.dz,(by show 1 < 1000;decide),?_⟩⟩;refine ⟨_,rfl,_,rfl,o,_,dx,_,rfl,ai,T.aZ,T.cQ,(by show 2 < 1000;decide),?_⟩;refine ⟨_,rfl,_,rfl,o,_,dx,_,rfl,ai,T.aZ,T.jB,(by show 3 < 1000;decide),?_⟩;refine ⟨_,rfl,_,rfl,o,_,dx,_,rfl,ai,T.aZ,T.jj,(by show 4 < 1000;decide),?_⟩;refine ⟨_,rfl,_,rfl,o,_,dx,_,rfl,ai,T.aZ,T.cW,(by show 5 < 1000;decide),?_⟩;refine k _ ai fun b u e n=>?_;have nb:b ≠ o:=by simpa using n
   simp only [mW];rw [aq nb];exact e
end
abbrev ua (α:Type):=(Addr->Prop)->Hp->V->α->Prop
structure yh {α:Type} (Rep:ua α):Prop where
 stay:∀ {D:Addr->Prop} {H H':Hp} {v:V} {z:α},Rep D H v z->(∀ b o,D b->H b=some o->H' b=some o)->Rep D H' v z
 mono:∀ {D D':Addr->Prop} {H:Hp} {v:V} {z:α},Rep D H v z->(∀ b,D b->D' b)->Rep D' H v z
structure cR {α:Type} (Rep:ua α) (D:Addr->Prop) (H:Hp) (vs:List V) (zs:List α):Prop where
 len:vs.length=zs.length
 at_:∀ (i:Nat) (v:V) (z:α),vs[i]?=some v->zs[i]?=some z->Rep D H v z
theorem cR.nil {α:Type} {Rep:ua α} {D:Addr->Prop} {H:Hp}:cR Rep D H [] []:=⟨rfl,fun i v z h _=>by simp at h⟩
theorem cR.snoc {α:Type} {Rep:ua α} {D:Addr->Prop} {H:Hp} {vs:List V} {zs:List α} {v:V} {z:α} (R:cR Rep D H vs zs) (r:Rep D H v z):cR Rep D H (vs++[v]) (zs++[z]):=by
 refine ⟨by simp [R.len],fun i v' z' h1 h2=>?_⟩;rcases Nat.lt_trichotomy i vs.length with h | h | h
 . rw [List.getElem?_append_left h] at h1
   rw [List.getElem?_append_left (R.len ▸ h)] at h2;exact R.at_ i v' z' h1 h2
 . subst h
   rw [List.getElem?_append_right (Nat.le_refl _),Nat.sub_self] at h1;rw [R.len,List.getElem?_append_right (Nat.le_refl _),Nat.sub_self] at h2;cases h1;cases h2;exact r
 . have:(vs++[v])[i]?=none:=List.getElem?_eq_none (by simp;omega)
   rw [this] at h1;cases h1
theorem cR.stay {α:Type} {Rep:ua α} (ok:yh Rep) {D:Addr->Prop} {H H':Hp} {vs:List V} {zs:List α} (R:cR Rep D H vs zs) (k:∀ b o,D b->H b=some o->H' b=some o):cR Rep D H' vs zs:=
 ⟨R.len,fun i v z h1 h2=>ok.stay (R.at_ i v z h1 h2) k⟩
theorem cR.mono {α:Type} {Rep:ua α} (ok:yh Rep) {D D':Addr->Prop} {H:Hp} {vs:List V} {zs:List α} (R:cR Rep D H vs zs) (k:∀ b,D b->D' b):cR Rep D' H vs zs:=
 ⟨R.len,fun i v z h1 h2=>ok.mono (R.at_ i v z h1 h2) k⟩
def yi (C:Addr):ua (PBond×Nat):=fun D H v z=>∃ o dx,v=.ref o/\D o/\H o=some (.ins C dx (bfs z.1))
theorem yi.ok (C:Addr):yh (yi C):=⟨fun ⟨o,dx,e,d,h⟩ k=>⟨o,dx,e,d,k _ _ d h⟩,fun ⟨o,dx,e,d,h⟩ k=>⟨o,dx,e,k _ d,h⟩⟩
def afs (z:PAtom) (ln tc th tn tt:Addr):List (Str×V):=[("named",.ref ln),("isotope",.int (z.isotope:Int)),("charge",.ref tc),("hydrogens",.ref th),("neighbours",.ref tn),("total",.ref tt),("ring",.int (z.ring:Int)),("hand",.int (z.hand:Int))]
def vP (x:Nat×Nat):List V:=[.int (x.1:Int),.int (x.2:Int)]
structure aaJ (C:Addr) (D:Addr->Prop) (H:Hp) (z:PAtom) (o dx ln tc th tn tt:Addr):Prop where
 obj:H o=some (.ins C dx (afs z ln tc th tn tt))
 nam:H ln=some (.lst (vN z.elements))
 cha:H tc=some (.tup (vP z.charge))
 hyd:H th=some (.tup (vP z.hydrogens))
 bes:H tn=some (.tup (vP z.beside))
 sum:H tt=some (.tup (vP z.sum))
 do_:D o
 dn:D ln
 dc:D tc
 dh:D th
 db:D tn
 dt:D tt
def Bh (C:Addr):ua (PAtom×Nat):=fun D H v z=>∃ o dx ln tc th tn tt,v=.ref o/\aaJ C D H z.1 o dx ln tc th tn tt
theorem Bh.ok (C:Addr):yh (Bh C):=
 ⟨fun ⟨o,dx,ln,tc,th,tn,tt,e,r⟩ k=>⟨o,dx,ln,tc,th,tn,tt,e,k _ _ r.do_ r.obj,k _ _ r.dn r.nam,k _ _ r.dc r.cha,k _ _ r.dh r.hyd,k _ _ r.db r.bes,k _ _ r.dt r.sum,r.do_,r.dn,r.dc,r.dh,r.db,r.dt⟩,
  fun ⟨o,dx,ln,tc,th,tn,tt,e,r⟩ k=>⟨o,dx,ln,tc,th,tn,tt,e,r.obj,r.nam,r.cha,r.hyd,r.bes,r.sum,k _ r.do_,k _ r.dn,k _ r.dc,k _ r.dh,k _ r.db,k _ r.dt⟩⟩
def OT {α:Type} (K:Zqq) (CR CF:Addr) (one:Bytes->Nat->Except Fault (α×Bytes×Nat)) (Rep:ua α):Sp:=fun vs H Q E=>∃ (r:Addr) (x:FU),vs=[.ref r]/\fC K CR H r x /\
 mh CF x.w (one x.b x.p) (fun y=>∀ H' v,fC K CR H' r { x with b:=y.2.1,p:=y.2.2 }->jq [r] H H'->Rep (fun b=>H b=none) H' v y.1->Q v H') E
def JV {α:Type} (K:Zqq) (CR CF:Addr) (one:Nat×Nat->Bytes->Nat->Except Fault (α×Bytes×Nat)) (Rep:ua α):Sp:=fun vs H Q E=>∃ (r p:Addr) (q:Nat×Nat) (x:FU),vs=[.ref r,.ref p]/\fC K CR H r x/\H p=some (.tup (vP q)) /\
 mh CF x.w (one q x.b x.p) (fun y=>∀ H' v,fC K CR H' r { x with b:=y.2.1,p:=y.2.2 }->jq [r] H H'->Rep (fun b=>H b=none) H' v y.1->Q v H') E
section
theorem EY:aQ ["reader","pair","orders","how","ring","side"] ["reader","pair"] (aF lS):=lT (by decide +kernel)
theorem jq.made {H H1:Hp} {o dx C:Addr} {S:List Addr} (nx:H o=none) (nd:H dx=none) (k:jq [o] (upd (upd H dx (.own o)) o (.ins C dx [])) H1):jq S H H1:=fun b u e n=>
 k b u (by rw [aq (ay e nx),aq (ay e nd)];exact e) (by simpa using ay e nx)
theorem Zd (T:Txt K mg t):bF P w K mg base (uP P w) 6 t.bS t.gw ["reader","pair"] (JV K t.aG t.aH JM.qC (yi t.aP)):=by
 have GB:=@lD P w K mg base t T;have GI:=@TX P w K mg base t T;obtain ⟨NN,g1⟩:=T.A9;obtain ⟨XF,g2⟩:=T.oQ;obtain ⟨tk3,g3⟩:=T.xQ;obtain ⟨tk4,g4⟩:=T.tK;refine T.eW.K9 EY (fun vs H Q E h=>?_) (fun cdv A outer s H vs Q E hr h=>?_)
 . obtain ⟨r,p,q,x,rfl,_⟩:=h
   rfl
 . obtain ⟨r,p,q,x,rfl,R,hp,bD⟩:=h
   have hr2:dG 2 _:=hr.mono (by decide);refine ⟨_,ak (aR (i:=2) EY.nd rfl (Or.inl rfl) (aW (pv 0) T.aL T.aJ GB hr T.aI .nil c7 (af aN (af aN (af (aV rfl g1 (v:=.int 7) ⟨_,rfl⟩) au)))))
     (ak (aR (i:=3) EY.nd rfl (Or.inl rfl) (aW (pv 0) T.aL T.aJ GB hr T.aI .nil c7 (af aN (af aN (af (aV rfl g2 (v:=.int 1) ⟨_,rfl⟩) au)))))
     (ak (aR (i:=4) EY.nd rfl (Or.inl rfl) (aW (pv 0) T.aL T.aJ GB hr T.aI .nil c7 (af aN (af aN (af (aV rfl g3 (v:=.int 2) ⟨_,rfl⟩) au)))))
     (ak (aR (i:=5) EY.nd rfl (Or.inl rfl) (aW (pv 0) T.aL T.aJ GB hr T.aI .nil c7 (af aN (af aN (af (aV rfl g4 (v:=.int 3) ⟨_,rfl⟩) au)))))
     (az (bc (qz T.A1 GI hr2 rfl T.A0 T.tD .nil bE (af (pv 1) (af (pv 2) (af (pv 3) (af (pv 4) (af (pv 5) au))))))))))),?_⟩
   obtain ⟨d0,e0⟩:=R.obj;have pr:p ≠ r:=mX hp e0 (by intro z;cases z);refine ⟨_,rfl,r,d0,_,rfl,e0,rfl,?_⟩;refine ⟨r,1,1,7,_,rfl,R,.inl rfl,mh.good (g':=fun v=>decide (1<=v)&&decide (v<=7)) (fun v=>by rw [Bool.eq_iff_iff];simp only [Bool.and_eq_true,decide_eq_true_eq];omega) (bD.andThen'.mono fun y1 hy1 bD H1 R1 F1=>?_)⟩;obtain ⟨d1,e1⟩:=R1.obj;refine ⟨_,rfl,r,d1,_,rfl,e1,rfl,?_⟩;refine ⟨r,1,0,1,_,rfl,R1,.inl rfl,mh.good (g':=fun v=>decide (v<=1)) (fun v=>by rw [Bool.eq_iff_iff];simp only [Bool.and_eq_true,decide_eq_true_eq];omega) (bD.andThen'.mono fun y2 Ze bD H2 R2 F2=>?_)⟩;obtain ⟨d2,e2⟩:=R2.obj;refine ⟨_,rfl,r,d2,_,rfl,e2,rfl,?_⟩;refine ⟨r,1,0,2,_,rfl,R2,.inl rfl,mh.good (g':=fun v=>decide (v<=2)) (fun v=>by rw [Bool.eq_iff_iff];simp only [Bool.and_eq_true,decide_eq_true_eq];omega) (bD.andThen'.mono fun y3 hy3 bD H3 R3 F3=>?_)⟩;obtain ⟨d3,e3⟩:=R3.obj;refine ⟨_,rfl,r,d3,_,rfl,e3,rfl,?_⟩;refine ⟨r,1,0,3,_,rfl,R3,.inl rfl,mh.good (g':=fun v=>decide (v<=3)) (fun v=>by rw [Bool.eq_iff_iff];simp only [Bool.and_eq_true,decide_eq_true_eq];omega) (bD.andThen'.mono fun y4 hy4 bD H4 R4 F4=>?_)⟩;obtain ⟨d4,e4⟩:=R4.obj;have F:jq [r] H H4:=((F1.trans F2).trans F3).trans F4;have hp4:=F p _ hp (by simpa using pr);refine ⟨_,rfl,_,rfl,_,rfl,_,rfl,_,rfl,fun o dx no nd ne=>?_⟩;refine ⟨o,dx,p,⟨q.1,q.2,y1.1,y2.1,y3.1,y4.1⟩,rfl,ai,?_,fun H5 h5 F5=>⟨rfl,?_⟩⟩
   . rw [aq (ay hp4 no),aq (ay hp4 nd)];exact hp4
   . have F6:jq [] H4 H5:=jq.made no nd F5
     refine bD H5 (.ref o) (R4.stay F6 (by simp) (by simp) (by simp) (by simp)) (F.trans (F6.mono (by simp))) ⟨o,dx,rfl,F.fresh e4 no,h5⟩
def Wy (C:Addr):Sp:=fun vs H Q _=>∃ (o dx ln tc th tn tt:Addr) (z:PAtom),vs=[.ref o,.ref ln,.int (z.isotope:Int),.ref tc,.ref th,.ref tn,.ref tt,.int (z.ring:Int),.int (z.hand:Int)]/\H o=some (.ins C dx []) /\
 ∀ H',H' o=some (.ins C dx (afs z ln tc th tn tt))->jq [o] H H'->Q .non H'
theorem TY:aQ ["self","named","isotope","charge","hydrogens","neighbours","total","ring","hand"] ["self","named","isotope","charge","hydrogens","neighbours","total","ring","hand"] (aF ni):=lT (by decide +kernel)
theorem TZ (T:Txt K mg t):bF P w K mg base mL 1 t.cT t.iW ["self","named","isotope","charge","hydrogens","neighbours","total","ring","hand"] (Wy t.aO):=by
 refine T.jd.ok TY (fun vs H Q E h=>?_) (fun cdv A outer s H vs Q E hr h=>?_)
 . obtain ⟨o,dx,ln,tc,th,tn,tt,z,rfl,_⟩:=h
   rfl
 . obtain ⟨o,dx,ln,tc,th,tn,tt,z,rfl,h0,k⟩:=h
   refine ⟨_,ak (ck (pv 0) (pv 1) rfl) (ak (ck (pv 0) (pv 2) rfl) (ak (ck (pv 0) (pv 3) rfl) (ak (ck (pv 0) (pv 4) rfl) (ak (ck (pv 0) (pv 5) rfl) (ak (ck (pv 0) (pv 6) rfl) (ak (ck (pv 0) (pv 7) rfl) (az (ck (pv 0) (pv 8) rfl)))))))),?_⟩;refine ⟨_,rfl,_,rfl,o,_,dx,_,rfl,h0,T.b5,T.fH,(by show 0 < 1000;decide),?_⟩;refine ⟨_,rfl,_,rfl,o,_,dx,_,rfl,ai,T.b5,T.dQ,(by show 1 < 1000;decide),?_⟩;refine ⟨_,rfl,_,rfl,o,_,dx,_,rfl,ai,T.b5,T.gB,(by show 2 < 1000;decide),?_⟩;refine ⟨_,rfl,_,rfl,o,_,dx,_,rfl,ai,T.b5,T.eO,(by show 3 < 1000;decide),?_⟩;refine ⟨_,rfl,_,rfl,o,_,dx,_,rfl,ai,T.b5,T.dS,(by show 4 < 1000;decide),?_⟩;refine ⟨_,rfl,_,rfl,o,_,dx,_,rfl,ai,T.b5,T.iH,(by show 5 < 1000;decide),?_⟩;refine ⟨_,rfl,_,rfl,o,_,dx,_,rfl,ai,T.b5,T.ji,(by show 6 < 1000;decide),?_⟩;refine ⟨_,rfl,_,rfl,o,_,dx,_,rfl,ai,T.b5,T.cV,(by show 7 < 1000;decide),?_⟩;refine k _ ai fun b u e n=>?_;have nb:b ≠ o:=by simpa using n
   simp only [mW];rw [aq nb];exact e
theorem Hj (b:Bytes) (p:Nat):JM.qB b p=Fk.andThen (JU b p) fun e=>
  Fk.andThen (numIn 2 (fun v=>decide (v<=Fk.ANY)) e.2.1 e.2.2) fun i=>
  Fk.andThen (Fk.pairIn 1 8 i.2.1 i.2.2) fun q=>
  Fk.andThen (Fk.pairIn 1 7 q.2.1 q.2.2) fun h=>
  Fk.andThen (Fk.pairIn 1 Fk.MOSTBESIDE h.2.1 h.2.2) fun d=>
  Fk.andThen (Fk.pairIn 2 Fk.MOSTSUM d.2.1 d.2.2) fun s=>
  Fk.andThen (numIn 1 (fun v=>decide (v<=2)) s.2.1 s.2.2) fun r=>
  Fk.andThen (numIn 1 (fun v=>decide (v<=3)) r.2.1 r.2.2) fun g=>
  .ok ((⟨e.1,i.1,q.1,h.1,d.1,s.1,r.1,g.1⟩,r.2.2),g.2.1,g.2.2):=by
 unfold JM.qB JU;rw [JM.bq]
theorem vy:aQ ["reader","named","isotope","charge","hydrogens","neighbours","total","ring","hand"] ["reader"] (aF lR):=lT (by decide +kernel)
theorem Zf (T:Txt K mg t):bF P w K mg base (uP P w) 7 t.bR t.gu ["reader"] (OT K t.aG t.aH JM.qB (Bh t.aO)):=by
 have GB:=@lD P w K mg base t T;have GR:=@TQ P w K mg base t T;have GN:=@TU P w K mg base t T;have GI:=@TZ P w K mg base t T;obtain ⟨NN,g1⟩:=T.tY;obtain ⟨XF,g2⟩:=T.tX;obtain ⟨tk3,g3⟩:=T.oO;obtain ⟨tk4,g4⟩:=T.tH;obtain ⟨tk5,g5⟩:=T.E6;obtain ⟨tk6,g6⟩:=T.xQ;obtain ⟨tk7,g7⟩:=T.tK;refine T.eV.K9 vy (fun vs H Q E h=>?_) (fun cdv A outer s H vs Q E hr h=>?_)
 . obtain ⟨r,x,rfl,_⟩:=h
   rfl
 . obtain ⟨r,x,rfl,R,bD⟩:=h
   have hr2:dG 2 _:=hr.mono (by decide);have MX:dG 5 _:=hr.mono (by decide);refine ⟨_,ak (aR (i:=1) vy.nd rfl (Or.inl rfl) (b4 GN hr rfl T.Av T.lH.kp T.Ao .nil c7 (af (pv 0) au)))
     (ak (aR (i:=2) vy.nd rfl (Or.inl rfl) (aW (pv 0) T.aL T.aJ GB MX T.aI .nil c7 (af aN (af aN (af (aV rfl g1 (v:=.int 501) ⟨_,rfl⟩) au)))))
     (ak (aR (i:=3) vy.nd rfl (Or.inl rfl) (aW (pv 0) T.aL T.gA GR hr T.gz .nil c7 (af aN (af (aV rfl g2 (v:=.int 8) ⟨_,rfl⟩) au))))
     (ak (aR (i:=4) vy.nd rfl (Or.inl rfl) (aW (pv 0) T.aL T.gA GR hr T.gz .nil c7 (af aN (af (aV rfl g3 (v:=.int 7) ⟨_,rfl⟩) au))))
     (ak (aR (i:=5) vy.nd rfl (Or.inl rfl) (aW (pv 0) T.aL T.gA GR hr T.gz .nil c7 (af aN (af (aV rfl g4 (v:=.int 127) ⟨_,rfl⟩) au))))
     (ak (aR (i:=6) vy.nd rfl (Or.inl rfl) (aW (pv 0) T.aL T.gA GR hr T.gz .nil c7 (af aN (af (aV rfl g5 (v:=.int 381) ⟨_,rfl⟩) au))))
     (ak (aR (i:=7) vy.nd rfl (Or.inl rfl) (aW (pv 0) T.aL T.aJ GB MX T.aI .nil c7 (af aN (af aN (af (aV rfl g6 (v:=.int 2) ⟨_,rfl⟩) au)))))
     (ak (aR (i:=8) vy.nd rfl (Or.inl rfl) (aW (pv 0) T.aL T.aJ GB MX T.aI .nil c7 (af aN (af aN (af (aV rfl g7 (v:=.int 3) ⟨_,rfl⟩) au)))))
     (az (bc (qz T.Az GI hr2 rfl T.Ay T.t9 .nil bE (af (pv 1) (af (pv 2) (af (pv 3) (af (pv 4) (af (pv 5) (af (pv 6) (af (pv 7) (af (pv 8) au)))))))))))))))))),?_⟩
   rw [Hj] at bD;refine ⟨_,rfl,r,x,rfl,R,bD.andThen'.mono fun y0 hy0 bD H0 ln R0 F0 nn0 hn0=>?_⟩;obtain ⟨d0,e0⟩:=R0.obj;refine ⟨_,rfl,r,d0,_,rfl,e0,rfl,?_⟩;refine ⟨r,2,0,501,_,rfl,R0,.inr rfl,mh.good (g':=fun v=>decide (v<=Fk.ANY)) (fun v=>by rw [Bool.eq_iff_iff];simp only [Bool.and_eq_true,decide_eq_true_eq];unfold Fk.ANY;omega) (bD.andThen'.mono fun y1 hy1 bD H1 R1 F1=>?_)⟩;obtain ⟨d1,e1⟩:=R1.obj;refine ⟨_,rfl,r,d1,_,rfl,e1,rfl,?_⟩;refine ⟨r,1,8,_,rfl,R1,.inl rfl,bD.andThen'.mono fun y2 Ze bD H2 tc R2 F2 nc2 hc2=>?_⟩;obtain ⟨d2,e2⟩:=R2.obj;refine ⟨_,rfl,r,d2,_,rfl,e2,rfl,?_⟩;refine ⟨r,1,7,_,rfl,R2,.inl rfl,bD.andThen'.mono fun y3 hy3 bD H3 th R3 F3 nc3 hc3=>?_⟩;obtain ⟨d3,e3⟩:=R3.obj;refine ⟨_,rfl,r,d3,_,rfl,e3,rfl,?_⟩;refine ⟨r,1,127,_,rfl,R3,.inl rfl,bD.andThen'.mono fun y4 hy4 bD H4 tn R4 F4 nc4 hc4=>?_⟩;obtain ⟨d4,e4⟩:=R4.obj;refine ⟨_,rfl,r,d4,_,rfl,e4,rfl,?_⟩;refine ⟨r,2,381,_,rfl,R4,.inr rfl,bD.andThen'.mono fun y5 hy5 bD H5 tt R5 F5 nc5 hc5=>?_⟩;obtain ⟨d5,e5⟩:=R5.obj;refine ⟨_,rfl,r,d5,_,rfl,e5,rfl,?_⟩;refine ⟨r,1,0,2,_,rfl,R5,.inl rfl,mh.good (g':=fun v=>decide (v<=2)) (fun v=>by rw [Bool.eq_iff_iff];simp only [Bool.and_eq_true,decide_eq_true_eq];omega) (bD.andThen'.mono fun y6 hy6 bD H6 R6 F6=>?_)⟩;obtain ⟨d6,e6⟩:=R6.obj;refine ⟨_,rfl,r,d6,_,rfl,e6,rfl,?_⟩;refine ⟨r,1,0,3,_,rfl,R6,.inl rfl,mh.good (g':=fun v=>decide (v<=3)) (fun v=>by rw [Bool.eq_iff_iff];simp only [Bool.and_eq_true,decide_eq_true_eq];omega) (bD.andThen'.mono fun y7 hy7 bD H7 R7 F7=>?_)⟩;obtain ⟨d7,e7⟩:=R7.obj;refine ⟨_,rfl,_,rfl,_,rfl,_,rfl,_,rfl,_,rfl,_,rfl,_,rfl,fun o dx no nd ne=>?_⟩;refine ⟨o,dx,ln,tc,th,tn,tt,⟨y0.1,y1.1,y2.1,y3.1,y4.1,y5.1,y6.1,y7.1⟩,rfl,ai,fun H8 h8 F8=>⟨rfl,?_⟩⟩;have F9:jq [] H7 H8:=jq.made no nd F8;have nr:∀ {Hx:Hp} {b:Addr} {u:HO} {dd:Addr} {fs:List (Str×V)},Hx b=some u->Hx r=some (.ins t.aG dd fs)->(∀ d f,u ≠ .ins t.aG d f)->b ∉ [r]:=fun {Hx b u dd fs} h1 h2 n=>by
     simp;intro z;rw [z,h2] at h1;exact n _ _ (Option.some.inj h1).symm
   have F67:=F6.trans F7;have F57:=F5.trans F67;have F47:=F4.trans F57;have F37:=F3.trans F47;have F27:=F2.trans F37;have F17:=F1.trans F27;have F07:=F0.trans F17;have to8:∀ {b:Addr} {u:HO},H7 b=some u->H8 b=some u:=fun {b u} h=>F9 b u h (by simp);have fr:∀ {Hx:Hp} {b:Addr},jq [r] H Hx->(∃ o,Hx r=some o)->Hx b=none->H b=none:=fun {Hx b} f ⟨o,e⟩ h=>f.fresh e h;refine bD H8 (.ref o) (R7.stay F9 (by simp) (by simp) (by simp) (by simp)) (F07.trans (F9.mono (by simp))) ⟨o,dx,ln,tc,th,tn,tt,rfl,h8,?_,?_,?_,?_,?_,F07.fresh e7 no,nn0,?_,?_,?_,?_⟩
   . exact to8 (F17 ln _ hn0 (nr hn0 e0 (fun _ _ z=>by cases z)))
   . exact to8 (F37 tc _ hc2 (nr hc2 e2 (fun _ _ z=>by cases z)))
   . exact to8 (F47 th _ hc3 (nr hc3 e3 (fun _ _ z=>by cases z)))
   . exact to8 (F57 tn _ hc4 (nr hc4 e4 (fun _ _ z=>by cases z)))
   . exact to8 (F67 tt _ hc5 (nr hc5 e5 (fun _ _ z=>by cases z)))
   . exact fr (F0.trans F1) ⟨_,e1⟩ nc2
   . exact fr ((F0.trans F1).trans F2) ⟨_,e2⟩ nc3
   . exact fr (((F0.trans F1).trans F2).trans F3) ⟨_,e3⟩ nc4
   . exact fr ((((F0.trans F1).trans F2).trans F3).trans F4) ⟨_,e4⟩ nc5
def aaK (K:Zqq) (CR CF:Addr):Sp:=fun vs H Q E=>∃ (r:Addr) (x:FU),vs=[.ref r]/\fC K CR H r x/\mh CF x.w (need x.b.isEmpty 7 x.p) (fun _=>Q .non H) E
theorem Zg:aQ ["self"] ["self"] (aF nh):=lT (by decide +kernel)
theorem Zh (T:Txt K mg t):bF P w K mg base (uP P w) 4 t.cS t.iV ["self"] (aaK K t.aG t.aH):=by
 have GF:=@se P w K mg base t T;obtain ⟨tk5,g5⟩:=T.CL;refine T.jc.K9 Zg (fun vs H Q E h=>?_) (fun cdv A outer s H vs Q E hr h=>?_)
 . obtain ⟨r,x,rfl,_⟩:=h
   rfl
 . obtain ⟨r,x,rfl,R,bD⟩:=h
   obtain ⟨dx,e0⟩:=R.obj;refine ⟨_,az (kK (d9 X0 (aA (pv 0) rfl) (c6 bx (by rfl) T.kG PySem.boot_len (af (aA (pv 0) rfl) au)) (cg _))
       (az (dW (aW (pv 0) T.aL T.dj GF hr T.cZ .nil c7 (af (aV rfl g5 (v:=.int 7) ⟨_,rfl⟩) (af (aA (pv 0) rfl) au))))) ee),?_⟩
   have hf:=R.form.sq;have hlB:(vB x.B).length=x.B.length:=by simp [vB]
   have hlen:x.b.length=x.B.length - x.p:=by rw [R.rest,List.length_drop]
   have hle:=R.le;refine ⟨_,rfl,fld e0 T.aL T.bL rfl ?_⟩;refine ⟨_,rfl,fld e0 T.aL T.gO rfl ⟨x.a,_,rfl,.inl hf,_,_,rfl,rfl,_,rfl,?_⟩⟩;rw [hlB];refine zp (fun h=>?_) (fun h=>?_)
   . have h':(x.p:Int) < (x.B.length:Int):=of_decide_eq_true h
     have bad:need x.b.isEmpty 7 x.p=.error ⟨7,x.p⟩:=by
       cases hb:x.b with
       | nil=>rw [hb] at hlen;simp at hlen;omega
       | cons c b=>rfl
     rw [bad] at bD;refine ⟨_,rfl,r,dx,_,rfl,e0,rfl,_,rfl,fld e0 T.aL T.bL rfl ?_⟩;exact ⟨r,x.w,7,(x.p:Int),dx,_,rfl,e0,rfl,fun H' d' hF=>bD H' d' hF⟩
   . have h':¬ (x.p:Int) < (x.B.length:Int):=fun z=>h (decide_eq_true z)
     have good:need x.b.isEmpty 7 x.p=.ok ():=by
       cases hb:x.b with
       | nil=>rfl
       | cons c b=>rw [hb] at hlen;simp at hlen;omega
     rw [good] at bD;exact bD
def Zi:Option (Nat×Nat)->List V
 | none=>[.int (-1),.int (-1)]
 | some q=>vP q
def OU (had:Option (Nat×Nat)) (a b:Nat):Bool:=match had with
 | some (u,w)=>decide (u < a)||(u==a&&decide (w < b))
 | none=>true
theorem Zj (had:Option (Nat×Nat)) (a b:Nat):∃ ms:List Int,Zi had=ms.map V.int/\HT.lexLe [(a:Int),(b:Int)] ms=!OU had a b:=by
 cases had with
 | none=>
   refine ⟨[-1,-1],rfl,?_⟩;rw [HT.uV,if_neg (by omega),decide_eq_false (by omega)];rfl
 | some uw=>
   obtain ⟨u,w⟩:=uw;refine ⟨[(u:Int),(w:Int)],rfl,?_⟩;show _=!(decide (u < a)||(u==a&&decide (w < b)));rw [HT.uV];by_cases h1:(a:Int)=(u:Int)
   . rw [if_pos h1,HT.uV]
     have h1':u=a:=by omega
     by_cases h2:(b:Int)=(w:Int)
     . rw [if_pos h2,HT.HL]
       have:w=b:=by omega
       simp [h1',this]
     . rw [if_neg h2]
       have e1:decide (u < a)=false:=decide_eq_false (by omega);have e2:(u==a)=true:=by simp [h1']
       rw [e1,e2,Bool.false_or,Bool.true_and];by_cases h3:w < b
       . rw [decide_eq_true h3,decide_eq_false (by omega)];rfl
       . rw [decide_eq_false h3,decide_eq_true (by omega)];rfl
   . rw [if_neg h1]
     have e2:(u==a)=false:=by simp;omega
     rw [e2,Bool.false_and,Bool.or_false];by_cases h3:u < a
     . rw [decide_eq_true h3,decide_eq_false (by omega)];rfl
     . rw [decide_eq_false h3,decide_eq_true (by omega)];rfl
def Zk (K:Zqq) (CR CF:Addr):Sp:=fun vs H Q E=>∃ (r p:Addr) (n:Nat) (had:Option (Nat×Nat)) (x:FU),vs=[.ref r,.int (n:Int),.ref p]/\fC K CR H r x/\H p=some (.tup (Zi had)) /\
 mh CF x.w (JM.o8 n had x.b x.p) (fun y=>∀ H' q,fC K CR H' r { x with b:=y.2.1,p:=y.2.2 }->jq [r] H H'->H q=none->H' q=some (.tup (vP y.1))->Q (.ref q) H') E
theorem DJ:aQ ["self","n","before","start","a","b"] ["self","n","before"] (aF m7):=lT (by decide +kernel)
theorem Wz (T:Txt K mg t):bF P w K mg base (uP P w) 6 t.cB t.gX ["self","n","before"] (Zk K t.aG t.aH):=by
 have GF:=@se P w K mg base t T;have GB:=@lD P w K mg base t T;obtain ⟨tk3,g3⟩:=T.A4;refine T.i8.K9 DJ (fun vs H Q E h=>?_) (fun cdv A outer s H vs Q E hr h=>?_)
 . obtain ⟨r,p,n,had,x,rfl,_⟩:=h
   rfl
 . obtain ⟨r,p,n,had,x,rfl,R,hp,bD⟩:=h
   obtain ⟨d0,e0⟩:=R.obj;have Ma:dG 3 _:=hr.mono (by decide);have pr:p ≠ r:=mX hp e0 (by intro z;cases z);refine ⟨_,ak (aR (i:=3) DJ.nd rfl (Or.inl rfl) (aA (pv 0) rfl))
     (ak (aR (i:=4) DJ.nd rfl (Or.inl rfl) (aW (pv 0) T.aL T.aJ GB hr T.aI .nil c7 (af aN (af aN (af (gU wU (pv 1) aN) au)))))
     (ak (aR (i:=5) DJ.nd rfl (Or.inl rfl) (aW (pv 0) T.aL T.aJ GB hr T.aI .nil c7 (af aN (af (gU uS (pv 4) aN) (af (gU wU (pv 1) aN) au)))))
     (ak (kK (d9 (YQ hr.Y0) (mz (af (pv 4) (af (pv 5) au))) (pv 2) (cg _))
       (az (dW (aW (pv 0) T.aL T.dj GF Ma T.cZ .nil c7 (af (aV rfl g3 (v:=.int 3) ⟨_,rfl⟩) (af (pv 3) au))))) ee)
     (az (bc (mz (af (pv 4) (af (pv 5) au)))))))),?_⟩
   refine ⟨_,rfl,fld e0 T.aL T.bL rfl ?_⟩;refine ⟨_,rfl,r,d0,_,rfl,e0,rfl,_,rfl,_,_,rfl,rfl,?_⟩;refine ⟨r,1,0,(n:Int) - 1,_,rfl,R,.inl rfl,mh.good (g':=fun v=>decide (v < n)) (fun v=>by rw [Bool.eq_iff_iff];simp only [Bool.and_eq_true,decide_eq_true_eq];omega) (bD.andThen'.mono fun y1 hy1 bD H1 R1 F1=>?_)⟩;obtain ⟨d1,e1⟩:=R1.obj;refine ⟨_,rfl,r,d1,_,rfl,e1,rfl,_,rfl,_,_,rfl,rfl,_,rfl,_,_,rfl,rfl,?_⟩;refine ⟨r,1,(y1.1:Int)+1,(n:Int) - 1,_,rfl,R1,.inl rfl,mh.good (g':=fun v=>decide (y1.1 < v)&&decide (v < n)) (fun v=>by rw [Bool.eq_iff_iff];simp only [Bool.and_eq_true,decide_eq_true_eq];omega) (bD.andThen'.mono fun y2 Ze bD H2 R2 F2=>?_)⟩;obtain ⟨d2,e2⟩:=R2.obj;have F:=F1.trans F2;have hp2:=F p _ hp (by simpa using pr);refine ⟨_,rfl,_,rfl,(by show 2<=sizeLine;decide),fun q1 n1=>?_⟩;obtain ⟨ms,hms,hle⟩:=Zj had y1.1 y2.1;refine ⟨_,rfl,q1,p,[(y1.1:Int),(y2.1:Int)],ms,rfl,rfl,nU.of ai,nU.of (by rw [aq (ay hp2 n1),<- hms];exact hp2),_,rfl,?_⟩;rw [hle];have R3:=R2.laid (o:=.tup [.int (y1.1:Int),.int (y2.1:Int)]) n1;obtain ⟨d3,e3⟩:=R3.obj;have F3:jq [r] H (upd H2 q1 (.tup [.int (y1.1:Int),.int (y2.1:Int)])):=F.trans (jq.laid n1);have bD:mh t.aH x.w (need (OU had y1.1 y2.1) 3 x.p) _ E:=bD.andThen';refine zp (fun h=>?_) (fun h=>?_)
   . have hc:OU had y1.1 y2.1=false:=by simpa using h
     rw [hc] at bD;refine ⟨_,rfl,r,d3,_,rfl,e3,rfl,_,rfl,?_⟩;exact ⟨r,x.w,3,(x.p:Int),d3,_,rfl,e3,rfl,fun H' d' hF=>bD H' d' hF⟩
   . have hc:OU had y1.1 y2.1=true:=by simpa using h
     rw [hc] at bD;refine ⟨_,rfl,_,rfl,(by show 2<=sizeLine;decide),fun q2 n2=>?_⟩;exact bD _ q2 (R3.laid n2) (F3.trans (jq.laid n2)) (F3.fresh e3 n2) ai
end
theorem fC.hand {K:Zqq} {C:Addr} {H:Hp} {r:Addr} {x:FU} {z:Int} (R:fC K C H r x):fC K C (upd H x.hp (.lst (x.hps.map V.int++[.int z]))) r { x with hps:=x.hps++[z] }:=by
 obtain ⟨dx,e⟩:=R.obj;have n1:r ≠ x.hp:=mX e R.hpl (by intro q;cases q);refine ⟨⟨dx,by rw [aq n1];exact e⟩,?_,by rw [ai];simp,by rw [aq (Ne.symm R.ne)];exact R.JS,R.ne,R.rest,R.le,R.small⟩;rcases R.form with ⟨o,h⟩ | h
 . exact .inl ⟨o,by rw [aq (T8 h R.hpl (fun _ _ q=>by cases q))];exact h⟩
 . exact .inr h
theorem fC.side {K:Zqq} {C:Addr} {H:Hp} {r:Addr} {x:FU} {z:Int} (R:fC K C H r x):fC K C (upd H x.sp (.lst (x.T7.map V.int++[.int z]))) r { x with T7:=x.T7++[z] }:=by
 obtain ⟨dx,e⟩:=R.obj;have n1:r ≠ x.sp:=mX e R.JS (by intro q;cases q);refine ⟨⟨dx,by rw [aq n1];exact e⟩,?_,by rw [aq R.ne];exact R.hpl,by rw [ai];simp,R.ne,R.rest,R.le,R.small⟩;rcases R.form with ⟨o,h⟩ | h
 . exact .inl ⟨o,by rw [aq (T8 h R.JS (fun _ _ q=>by cases q))];exact h⟩
 . exact .inr h
theorem QS {α:Type} {one:Bytes->Nat->Except Fault (α×Bytes×Nat)} (k:Nat) (b:Bytes) (p:Nat) (pre:List α):Fk.andThen (JM.many one (k+1) b p) (fun l=>.ok (pre++l.1,l.2.1,l.2.2)) =
  Fk.andThen (one b p) fun x=>Fk.andThen (JM.many one k x.2.1 x.2.2) fun l=>.ok ((pre++[x.1])++l.1,l.2.1,l.2.2):=by
 rw [show JM.many one (k+1) b p=Fk.andThen (one b p) (fun x=>Fk.andThen (JM.many one k x.2.1 x.2.2) fun l=>.ok (x.1::l.1,l.2.1,l.2.2)) from rfl,JM.bq];congr 1;funext x;rw [JM.bq];congr 1;funext l;show Except.ok (pre++(x.1::l.1),l.2.1,l.2.2)=_;rw [List.append_assoc];rfl
theorem NP {α:Type} {n:Nat} {one:Nat×Nat->Bytes->Nat->Except Fault (α×Bytes×Nat)} (k:Nat) (had:Option (Nat×Nat)) (b:Bytes) (p:Nat) (pre:List α):Fk.andThen (JM.jy n one (k+1) had b p) (fun l=>.ok (pre++l.1,l.2.1,l.2.2)) =
  Fk.andThen (JM.o8 n had b p) fun q=>Fk.andThen (one q.1 q.2.1 q.2.2) fun x=>Fk.andThen (JM.jy n one k (some q.1) x.2.1 x.2.2) fun l=>.ok ((pre++[x.1])++l.1,l.2.1,l.2.2):=by
 rw [show JM.jy n one (k+1) had b p=Fk.andThen (JM.o8 n had b p) (fun q=>Fk.andThen (one q.1 q.2.1 q.2.2) fun x=>Fk.andThen (JM.jy n one k (some q.1) x.2.1 x.2.2) fun l=>.ok (x.1::l.1,l.2.1,l.2.2)) from rfl,JM.bq];congr 1;funext q;rw [JM.bq];congr 1;funext x;rw [JM.bq];congr 1;funext l;show Except.ok (pre++(x.1::l.1),l.2.1,l.2.2)=_;rw [List.append_assoc];rfl
theorem Mb {α:Type} (x:Except Fault (List α×Bytes×Nat)):(Fk.andThen x fun l=>Except.ok ([]++l.1,l.2.1,l.2.2))=x:=by cases x<;>rfl
section
variable {P:Program} {w:World} {K:Zqq} {mg:Str->Option Value} {base:Heap} {t:Ad} {α:Type}
def OV (K:Zqq) (CR CF f:Addr) (one:Bytes->Nat->Except Fault (α×Bytes×Nat)) (Rep:ua α) (pl:α->Nat):Sp:=fun vs H Q E=>∃ (r:Addr) (n:Nat) (x:FU),vs=[.ref r,.int (n:Int),.ref f]/\fC K CR H r x/\n<=1000/\x.hps=[] /\
 mh CF x.w (JM.many one n x.b x.p) (fun y=>∀ H' la us,fC K CR H' r { x with b:=y.2.1,p:=y.2.2,hps:=y.1.map fun z=>(pl z:Int) }->jq [r,x.hp] H H'->H la=none->H' la=some (.lst us)->
   cR Rep (fun b=>H b=none/\b ≠ la) H' us y.1->Q (.ref la) H') E
theorem EZ:aQ ["self","n","take_atom","atoms","k"] ["self","n","take_atom"] (aF lP):=lT (by decide +kernel)
theorem Ua (T:Txt K mg t) {kc:Nat} {f:Addr} {fd:FuncData} {one:Bytes->Nat->Except Fault (α×Bytes×Nat)} {Rep:ua α} {pl:α->Nat} (ok:yh Rep) (hpl:∀ b p y,one b p=.ok y->(pl y.1:Int)=(y.2.2:Int) - 1)
   (G:bF P w K mg base (uP P w) kc f fd ["reader"] (OT K t.aG t.aH one Rep)) (kp:PySem.W.keepIn K (.ref f)=true) (hb:Binds K fd ["reader"] []) :
   bF P w K mg base (uP P w) (kc+1) t.bP t.eT ["self","n","take_atom"] (OV K t.aG t.aH f one Rep pl):=by
 refine T.g8.K9 EZ (fun vs H Q E h=>?_) (fun cdv A outer s H vs Q E hr h=>?_)
 . obtain ⟨r,n,x,rfl,_⟩:=h
   rfl
 . obtain ⟨r,n,x,rfl,R,hn,Qm,bD⟩:=h
   refine ⟨_,ak (aR (i:=3) EZ.nd rfl (Or.inl rfl) (kC au))
     (ak (fj IU rfl (mK rfl T.oX (af (pv 1) au)) (bu (i:=4) EZ.nd rfl (Or.inl rfl))
       (ak (dW (uq PySem.F.plainAttrs_list PySem.F.slot_list_append PySem.F.type_list_append jt (pv 3) (af (Lj (i:=2) G hr kp hb c7 (af (pv 0) au)) au)))
       (az (dW (uq PySem.F.plainAttrs_list PySem.F.slot_list_append PySem.F.type_list_append jt (aA (pv 0) rfl) (af (gU wU (aA (pv 0) rfl) aN) au))))))
     (az (bc (pv 3)))),?_⟩
   refine ⟨Nat.zero_le _,fun l hl=>?_⟩;have R0:=R.laid (o:=.lst []) hl;have rl:r ≠ l:=fun z=>by obtain ⟨d,e⟩:=R.obj;rw [<- z,e] at hl;cases hl
   have hpl':x.hp ≠ l:=ay R.hpl hl;have W0:x.sp ≠ l:=ay R.JS hl;refine ⟨_,rfl,(n:Int),rfl,by omega,by omega,?_⟩;rw [Int.toNat_natCast];let wN:L2.Iv:=fun i σ H'=>∃ (b:Bytes) (p:Nat) (v:Option V) (us:List V) (pre:List α),i<=n/\us.length=i/\σ=[some (.ref r),some (.int (n:Int)),some (.ref f),some (.ref l),v] /\
       fC K t.aG H' r { x with b:=b,p:=p,hps:=pre.map fun z=>(pl z:Int) }/\jq [r,x.hp] H H'/\H' l=some (.lst us)/\cR Rep (fun b=>H b=none/\b ≠ l) H' us pre /\
       mh t.aH x.w (Fk.andThen (JM.many one (n - i) b p) fun l=>.ok (pre++l.1,l.2.1,l.2.2)) (fun y=>∀ H' la us,fC K t.aG H' r { x with b:=y.2.1,p:=y.2.2,hps:=y.1.map fun z=>(pl z:Int) }->jq [r,x.hp] H H'->H la=none->H' la=some (.lst us)->
         cR Rep (fun b=>H b=none/\b ≠ la) H' us y.1->Q (.ref la) H') E
   refine qI (n:=n) wN
     ⟨x.b,x.p,none,[],[],Nat.zero_le _,rfl,rfl,?_,jq.laid hl,ai,cR.nil,?_⟩ ?_ ?_
   . have:=R0
     rw [show x={ x with b:=x.b,p:=x.p,hps:=[] } by rw [<- Qm]] at this;exact this
   . rw [Nat.sub_zero,Mb];exact bD
   . rintro i σ H' hi ⟨b,p,v,us,pre,hin,Zl,rfl,R2,F2,hl2,RS,bD⟩
     obtain ⟨d2,e2⟩:=R2.obj;rw [show n - i=(n - (i+1))+1 by omega,QS] at bD;refine ⟨_,rfl,.inl ⟨rfl,_,bI.of hl2⟩,rfl,_,rfl,?_⟩;refine ⟨r,_,rfl,R2,bD.andThen'.mono fun y hy bD H3 u R3 F3 rep=>?_⟩;have hl3:H3 l=some (.lst us):=F3 l _ hl2 (by simpa using Ne.symm rl);obtain ⟨d3,e3⟩:=R3.obj;refine ⟨l,us,u,rfl,rfl,hl3,(by rw [Zl,sizeLine_eq];omega),?_⟩;have R4:=R3.wrote (o:=.lst (us++[u])) hl3 (Ne.symm rl) (Ne.symm hpl') (Ne.symm W0) (fun _ _ z=>by cases z);obtain ⟨d4,e4⟩:=R4.obj;refine ⟨_,rfl,fld e4 T.aL T.cM rfl ⟨.inl ⟨rfl,_,bI.of R4.hpl⟩,?_⟩⟩;refine ⟨_,rfl,fld e4 T.aL T.bL rfl ⟨_,_,rfl,rfl,?_⟩⟩;refine ⟨x.hp,_,_,rfl,rfl,R4.hpl,?_,?_⟩
     . have:=RS.len
       simp only [List.length_map];rw [sizeLine_eq];omega
     . have epl:=hpl _ _ _ hy
       have R5:=R4.hand (z:=((y.2.2:Nat):Int) - 1);refine ⟨y.2.1,y.2.2,some (.int (0+(i:Int))),us++[u],pre++[y.1],by omega,by simp [Zl],rfl,?_,?_,?_,?_,bD⟩
       . rw [List.map_append,List.map_cons,List.map_nil,epl]
         exact R5
       . intro b' o e n'
         have n'':b' ≠ r/\b' ≠ x.hp:=by simpa using n'
         rw [aq n''.2,aq (ay e hl)];exact F3 b' o (F2 b' o e n') (by simpa using n''.1)
       . rw [aq (Ne.symm hpl'),ai]
       . have old:∀ b' o,(H b'=none/\b' ≠ l)->H' b'=some o->b' ≠ r/\b' ≠ x.hp/\b' ≠ l:=fun b' o d _=>by
           refine ⟨fun q=>?_,fun q=>?_,d.2⟩
           . obtain ⟨d',e'⟩:=R.obj;rw [q,e'] at d;cases d.1
           . have:=R.hpl;rw [<- q,d.1] at this;cases this
         refine (RS.stay ok fun b' o d h=>?_).snoc (ok.stay (ok.mono rep fun b' d=>?_) fun b' o d h=>?_)
         . obtain ⟨q1,q2,q3⟩:=old b' o d h
           rw [aq q2,aq q3];exact F3 b' o h (by simpa using q1)
         . refine ⟨?_,fun q=>by rw [q,hl2] at d;cases d⟩
           cases q:H b' with
           | none=>rfl
           | some o=>
             by_cases z1:b'=r
             . rw [z1,e2] at d;cases d
             . by_cases z2:b'=x.hp
               . have:=R2.hpl;rw [<- show b'=x.hp from z2,d] at this;cases this
               . rw [F2 b' o q (by simp [z1,z2])] at d;cases d
         . have q2:b' ≠ x.hp:=fun q=>by have:=R.hpl;rw [<- q,d.1] at this;cases this
           rw [aq q2,aq d.2];exact h
   . rintro σ H' ⟨b,p,v,us,pre,_,Zl,rfl,R2,F2,hl2,RS,bD⟩
     rw [Nat.sub_self] at bD;have bD:∀ H' la us,_:=bD;refine ⟨_,rfl,?_⟩;have a2:=bD H' l us (by rw [List.append_nil];exact R2) F2 hl hl2;rw [List.append_nil] at a2;exact a2 RS
def OW (K:Zqq) (CR CF f:Addr) (one:Nat×Nat->Bytes->Nat->Except Fault (α×Bytes×Nat)) (Rep:ua α) (pl:α->Nat):Sp:=fun vs H Q E=>∃ (r:Addr) (n m:Nat) (x:FU),vs=[.ref r,.int (n:Int),.int (m:Int),.ref f]/\fC K CR H r x/\m<=1000/\x.T7=[] /\
 mh CF x.w (JM.jy n one m none x.b x.p) (fun y=>∀ H' la us,fC K CR H' r { x with b:=y.2.1,p:=y.2.2,T7:=y.1.map fun z=>(pl z:Int) }->jq [r,x.sp] H H'->H la=none->H' la=some (.lst us)->
   cR Rep (fun b=>H b=none/\b ≠ la) H' us y.1->Q (.ref la) H') E
theorem yj:aQ ["self","n","m","take_bond","bonds","before","k"] ["self","n","m","take_bond"] (aF lQ):=lT (by decide +kernel)
theorem Ub (T:Txt K mg t) {kc:Nat} (h6:6<=kc) {f:Addr} {fd:FuncData} {one:Nat×Nat->Bytes->Nat->Except Fault (α×Bytes×Nat)} {Rep:ua α} {pl:α->Nat} (ok:yh Rep) (hpl:∀ q b p y,one q b p=.ok y->(pl y.1:Int)=(y.2.2:Int) - 1)
   (G:bF P w K mg base (uP P w) kc f fd ["reader","pair"] (JV K t.aG t.aH one Rep)) (kp:PySem.W.keepIn K (.ref f)=true) (hb:Binds K fd ["reader","pair"] []) :
   bF P w K mg base (uP P w) (kc+1) t.bQ t.eU ["self","n","m","take_bond"] (OW K t.aG t.aH f one Rep pl):=by
 have GP:=@Wz P w K mg base t T;refine T.g9.K9 yj (fun vs H Q E h=>?_) (fun cdv A outer s H vs Q E hr h=>?_)
 . obtain ⟨r,n,m,x,rfl,_⟩:=h
   rfl
 . obtain ⟨r,n,m,x,rfl,R,hn,Qm,bD⟩:=h
   have hr6:dG 6 _:=hr.mono h6;refine ⟨_,ak (aR (i:=4) yj.nd rfl (Or.inl rfl) (kC au))
     (ak (aR (i:=5) yj.nd rfl (Or.inl rfl) (mz (af (Ov ID aN) (af (Ov ID aN) au))))
     (ak (fj IU rfl (mK rfl T.oX (af (pv 2) au)) (bu (i:=6) yj.nd rfl (Or.inl rfl))
       (ak (aR (i:=5) yj.nd rfl (Or.inl rfl) (aW (pv 0) T.aL T.rE GP hr6 T.qZ .nil c7 (af (pv 1) (af (pv 5) au))))
       (ak (dW (uq PySem.F.plainAttrs_list PySem.F.slot_list_append PySem.F.type_list_append jt (pv 4) (af (Lj (i:=3) G hr kp hb c7 (af (pv 0) (af (pv 5) au))) au)))
       (az (dW (uq PySem.F.plainAttrs_list PySem.F.slot_list_append PySem.F.type_list_append jt (aA (pv 0) rfl) (af (gU wU (aA (pv 0) rfl) aN) au)))))))
     (az (bc (pv 4))))),?_⟩
   refine ⟨Nat.zero_le _,fun l hl=>?_⟩;have R0:=R.laid (o:=.lst []) hl;have rl:r ≠ l:=fun z=>by obtain ⟨d,e⟩:=R.obj;rw [<- z,e] at hl;cases hl
   have hpl':x.hp ≠ l:=ay R.hpl hl;have W0:x.sp ≠ l:=ay R.JS hl;refine ⟨1,rfl,1,rfl,(by show 2<=sizeLine;decide),fun q0 hq0=>?_⟩;have R1:=R0.laid (o:=.tup [.int (-1),.int (-1)]) hq0;have lq:l ≠ q0:=ay ai hq0;refine ⟨_,rfl,(m:Int),rfl,by omega,by omega,?_⟩;rw [Int.toNat_natCast];let wN:L2.Iv:=fun i σ H'=>∃ (had:Option (Nat×Nat)) (qa:Addr) (b:Bytes) (p:Nat) (v:Option V) (us:List V) (pre:List α),i<=m/\us.length=i/\σ=[some (.ref r),some (.int (n:Int)),some (.int (m:Int)),some (.ref f),some (.ref l),some (.ref qa),v] /\
       fC K t.aG H' r { x with b:=b,p:=p,T7:=pre.map fun z=>(pl z:Int) }/\jq [r,x.sp] H H'/\H' l=some (.lst us)/\H' qa=some (.tup (Zi had))/\cR Rep (fun b=>H b=none/\b ≠ l) H' us pre /\
       mh t.aH x.w (Fk.andThen (JM.jy n one (m - i) had b p) fun l=>.ok (pre++l.1,l.2.1,l.2.2)) (fun y=>∀ H' la us,fC K t.aG H' r { x with b:=y.2.1,p:=y.2.2,T7:=y.1.map fun z=>(pl z:Int) }->jq [r,x.sp] H H'->H la=none->H' la=some (.lst us)->
         cR Rep (fun b=>H b=none/\b ≠ la) H' us y.1->Q (.ref la) H') E
   refine qI (n:=m) wN
     ⟨none,q0,x.b,x.p,none,[],[],Nat.zero_le _,rfl,rfl,?_,(jq.laid hl).trans (jq.laid hq0),by rw [aq lq,ai],ai,cR.nil,?_⟩ ?_ ?_
   . have:=R1
     rw [show x={ x with b:=x.b,p:=x.p,T7:=[] } by rw [<- Qm]] at this;exact this
   . rw [Nat.sub_zero,Mb];exact bD
   . rintro i σ H' hi ⟨had,qa,b,p,v,us,pre,hin,Zl,rfl,R2,F2,hl2,hqa,RS,bD⟩
     obtain ⟨d2,e2⟩:=R2.obj;rw [show m - i=(m - (i+1))+1 by omega,NP] at bD;refine ⟨_,rfl,r,d2,_,rfl,e2,rfl,_,rfl,_,rfl,?_⟩;refine ⟨r,qa,n,had,_,rfl,R2,hqa,bD.andThen'.mono fun q hq bD H3 qb R3 F3 nq XG=>?_⟩;have hl3:H3 l=some (.lst us):=F3 l _ hl2 (by simpa using Ne.symm rl);obtain ⟨d3,e3⟩:=R3.obj;refine ⟨_,rfl,.inl ⟨rfl,_,bI.of hl3⟩,rfl,_,rfl,_,rfl,?_⟩;refine ⟨r,qb,q.1,_,rfl,R3,XG,bD.andThen'.mono fun y hy bD H4 u R4 F4 rep=>?_⟩;have W2:H4 l=some (.lst us):=F4 l _ hl3 (by simpa using Ne.symm rl);have qbr:qb ≠ r:=mX XG e3 (by intro z;cases z);have Zm:=F4 qb _ XG (by simpa using qbr);have qbl:qb ≠ l:=mX Zm W2 (by intro z;cases z);refine ⟨l,us,u,rfl,rfl,W2,(by rw [Zl,sizeLine_eq];omega),?_⟩;have R5:=R4.wrote (o:=.lst (us++[u])) W2 (Ne.symm rl) (Ne.symm hpl') (Ne.symm W0) (fun _ _ z=>by cases z);obtain ⟨d5,e5⟩:=R5.obj;refine ⟨_,rfl,fld e5 T.aL T.cO rfl ⟨.inl ⟨rfl,_,bI.of R5.JS⟩,?_⟩⟩;refine ⟨_,rfl,fld e5 T.aL T.bL rfl ⟨_,_,rfl,rfl,?_⟩⟩;refine ⟨x.sp,_,_,rfl,rfl,R5.JS,?_,?_⟩
     . have:=RS.len
       simp only [List.length_map];rw [sizeLine_eq];omega
     . have epl:=hpl _ _ _ _ hy
       have R6:=R5.side (z:=((y.2.2:Nat):Int) - 1);have qbs:qb ≠ x.sp:=fun z=>by have h9:=R4.JS;rw [<- show qb=x.sp from z,Zm] at h9;cases h9
       have F34:jq [r] H' H4:=F3.trans F4;refine ⟨some q.1,qb,y.2.1,y.2.2,some (.int (0+(i:Int))),us++[u],pre++[y.1],by omega,by simp [Zl],rfl,?_,?_,?_,?_,?_,bD⟩
       . rw [List.map_append,List.map_cons,List.map_nil,epl]
         exact R6
       . intro b' o e n'
         have n'':b' ≠ r/\b' ≠ x.sp:=by simpa using n'
         rw [aq n''.2,aq (ay e hl)];exact F34 b' o (F2 b' o e n') (by simpa using n''.1)
       . rw [aq (Ne.symm W0),ai]
       . rw [aq qbs,aq qbl];exact Zm
       . have old:∀ b' o,(H b'=none/\b' ≠ l)->H' b'=some o->b' ≠ r/\b' ≠ x.sp/\b' ≠ l:=fun b' o d _=>by
           refine ⟨fun q=>?_,fun q=>?_,d.2⟩
           . obtain ⟨d',e'⟩:=R.obj;rw [q,e'] at d;cases d.1
           . have:=R.JS;rw [<- q,d.1] at this;cases this
         refine (RS.stay ok fun b' o d h=>?_).snoc (ok.stay (ok.mono rep fun b' d=>?_) fun b' o d h=>?_)
         . obtain ⟨q1,q2,q3⟩:=old b' o d h
           rw [aq q2,aq q3];exact F34 b' o h (by simpa using q1)
         . refine ⟨?_,fun q=>by rw [q,hl3] at d;cases d⟩
           have d':H' b'=none:=F3.fresh e3 d;cases q:H b' with
           | none=>rfl
           | some o=>
             by_cases z1:b'=r
             . rw [z1,e2] at d';cases d'
             . by_cases z2:b'=x.sp
               . have:=R2.JS;rw [<- show b'=x.sp from z2,d'] at this;cases this
               . rw [F2 b' o q (by simp [z1,z2])] at d';cases d'
         . have q2:b' ≠ x.sp:=fun q=>by have:=R.JS;rw [<- q,d.1] at this;cases this
           rw [aq q2,aq d.2];exact h
   . rintro σ H' ⟨had,qa,b,p,v,us,pre,_,Zl,rfl,R2,F2,hl2,hqa,RS,bD⟩
     rw [Nat.sub_self] at bD;have bD:∀ H' la us,_:=bD;refine ⟨_,rfl,?_⟩;have a2:=bD H' l us (by rw [List.append_nil];exact R2) F2 hl hl2;rw [List.append_nil] at a2;exact a2 RS
end
def sf (K:Zqq) (H:Hp) (v:V) (q:Nat×Nat):Prop:=∃ o C dx fs,v=.ref o/\H o=some (.ins C dx fs)/\D8 K C/\b6 K C "a"/\b6 K C "b"/\fs.lookup ("a":Str)=some (V.int (q.1:Int))/\fs.lookup ("b":Str)=some (V.int (q.2:Int))
structure iN (H:Hp) (lr:Addr) (rs:List Addr) (n:Nat) (row:Nat->List Nat):Prop where
 lst:H lr=some (.lst (rs.map V.ref))
 len:rs.length=n
 nd:rs.Nodup
 out:lr ∉ rs
 at_:∀ v a,rs[v]?=some a->H a=some (.lst (vN (row v)))
theorem QT (l:List (Nat×Nat)) (q:Nat×Nat) (v:Nat):JM.bG (l++[q]) v=JM.bG l v++(if q.1=v then [q.2] else if q.2=v then [q.1] else []):=by
 unfold JM.bG;rw [List.filterMap_append];congr 1;unfold JM.ux;by_cases h1:q.1=v
 . simp [h1]
 . by_cases h2:q.2=v<;>simp [h1,h2]
theorem take_snoc {α:Type}:∀ {l:List α} {i:Nat} {x:α},l[i]?=some x->l.take (i+1)=l.take i++[x]
 | [],i,x,h=>by simp at h
 | a::l,0,x,h=>by
  have e:a=x:=Option.some.inj h
  subst e
  rfl
 | a::l,i+1,x,h=>by
  have ih:=take_snoc (l:=l) (i:=i) (x:=x) h
  show a::l.take (i+1)=a::l.take i++[x]
  rw [ih]
  rfl
theorem sr (l:List (Nat×Nat)) (v:Nat):(JM.bG l v).length<=l.length:=List.length_filterMap_le _ _
section
def Zn (K:Zqq):Sp:=fun vs H Q _=>∃ (n:Nat) (lb:Addr) (us:List V) (l:List (Nat×Nat)),vs=[.int (n:Int),.ref lb]/\n<=1000/\l.length<=1000/\H lb=some (.lst us)/\us.length=l.length/\(∀ (i:Nat) v q,us[i]?=some v->l[i]?=some q->sf K H v q) /\
 (∀ q ∈ l,q.1 < q.2/\q.2 < n)/\∀ H' lr rs,aS H H'->H lr=none->(∀ a ∈ rs,H a=none)->iN H' lr rs n (JM.bG l)->Q (.ref lr) H'
theorem DK:aQ ["n","bonds","rows","bond","k"] ["n","bonds"] (aF oA):=lT (by decide +kernel)
theorem iN.push {H:Hp} {lr:Addr} {rs:List Addr} {n v:Nat} {a:Addr} {row:Nat->List Nat} {u:Nat} (R:iN H lr rs n row) (ha:rs[v]?=some a) :
   iN (upd H a (.lst (vN (row v)++[.int (u:Int)]))) lr rs n (fun x=>if x=v then row x++[u] else row x):=by
 have z:lr ≠ a:=fun q=>R.out (q ▸ List.mem_of_getElem? ha);refine ⟨by rw [aq z];exact R.lst,R.len,R.nd,R.out,fun x b hb=>?_⟩;by_cases hx:x=v
 . subst hx
   rw [ha] at hb;cases hb;rw [ai,if_pos rfl];simp [vN]
 . have:b ≠ a:=fun q=>hx (aa7 R.nd hb (q ▸ ha))
   rw [aq this,if_neg hx];exact R.at_ x b hb
theorem iN.eq {H:Hp} {lr:Addr} {rs:List Addr} {n:Nat} {row row':Nat->List Nat} (R:iN H lr rs n row) (h:∀ v,v < n->row v=row' v):iN H lr rs n row':=
 ⟨R.lst,R.len,R.nd,R.out,fun v a ha=>by
  have:=R.at_ v a ha
  rw [h v (by rw [<- R.len];exact (List.getElem?_eq_some_iff.mp ha).1)] at this
  exact this⟩
theorem W4 (T:Txt K mg t):bF P w K mg base mL 1 t.fD t.j0 ["n","bonds"] (Zn K):=by
 refine T.gR.ok DK (fun vs H Q E h=>?_) (fun cdv A outer s H vs Q E hr h=>?_)
 . obtain ⟨n,lb,us,l,rfl,_⟩:=h
   rfl
 . obtain ⟨n,lb,us,l,rfl,hn,hl,hlb,hlen,Mc,hbd,k⟩:=h
   refine ⟨_,ak (xg (i:=2) rfl DK.nd rfl rfl rfl (mK rfl T.oX (af (pv 0) au)) (jv (own:=[("k",4)]) rfl) (fun _ _ _ _ _=>bu (i:=4) DK.nd rfl (Or.inl rfl)) (fun _ _ _ _ _=>Ae) (fun _ _ _ _ _=>kC au))
     (ak (fj PassesOwn.never rfl (gD (pv 1)) (bu (i:=3) DK.nd rfl (Or.inl rfl))
       (ak (dW (uq PySem.F.plainAttrs_list PySem.F.slot_list_append PySem.F.type_list_append jt (bV b9 (pv 2) (aA (pv 3) rfl) (fun _ _=>rfl)) (af (aA (pv 3) rfl) au)))
       (az (dW (uq PySem.F.plainAttrs_list PySem.F.slot_list_append PySem.F.type_list_append jt (bV b9 (pv 2) (aA (pv 3) rfl) (fun _ _=>rfl)) (af (aA (pv 3) rfl) au))))))
     (az (bc (pv 2)))),?_⟩
   refine ⟨_,rfl,(n:Int),rfl,by omega,by omega,?_⟩;rw [Int.toNat_natCast];intro D hD;refine KW (n:=n) (fun i H'=>∃ rs:List Addr,rs.length=i/\rs.Nodup/\D ∉ rs/\(∀ a ∈ rs,H a=none)/\aS H H'/\H' D=some (.lst (rs.map V.ref))/\∀ a ∈ rs,H' a=some (.lst []))
     ⟨[],rfl,List.nodup_nil,by simp,by simp,fun b o e=>by rw [aq (ay e hD)];exact e,ai,by simp⟩ ?_ ?_
   . rintro i H' hi ⟨rs,hrs,nd,ZZ,hn0,sm,hD',hem⟩
     refine ⟨rfl,Nat.zero_le _,fun a ha=>⟨rs.map V.ref,?_,?_,rs++[a],?_,?_,?_,?_,?_,?_,?_⟩⟩
     . rw [aq (ay hD' ha)];exact hD'
     . simp only [List.length_map,hrs];rw [sizeLine_eq];omega
     . simp [hrs]
     . exact OG nd fun m=>by rw [hem a m] at ha;cases ha
     . simp only [List.mem_append,List.mem_singleton,not_or]
       exact ⟨ZZ,ay hD' ha⟩
     . intro b hb
       rcases List.mem_append.mp hb with m | m
       . exact hn0 b m
       . rw [List.mem_singleton.mp m];exact sm.free ha
     . intro b o e
       rw [aq (ay e hD),aq (ay (sm b o e) ha)];exact sm b o e
     . rw [ai];simp
     . intro b hb
       rcases List.mem_append.mp hb with m | m
       . have nb:b ≠ a:=fun q=>by rw [<- q,hem b m] at ha;cases ha
         have nD:b ≠ D:=fun q=>ZZ (q ▸ m);rw [aq nD,aq nb];exact hem b m
       . have e:=List.mem_singleton.mp m
         have nD:a ≠ D:=fun q=>by rw [q,hD'] at ha;cases ha
         rw [e,aq nD,ai]
   . rintro H1 ⟨rs,hrs,nd,ZZ,hn0,sm,hD',hem⟩
     have R0:iN H1 D rs n (JM.bG (l.take 0)):=⟨hD',hrs,nd,ZZ,fun v a ha=>hem a (List.mem_of_getElem? ha)⟩;refine ⟨_,rfl,lb,rfl,⟨_,bI.of (sm _ _ hlb)⟩,ph (K:=K) (a:=lb) (xs:=us) (fun i σ H'=>∃ v:Option V,σ=[some (.int (n:Int)),some (.ref lb),some (.ref D),v,none]/\aS H H'/\iN H' D rs n (JM.bG (l.take i)))
       ⟨none,rfl,sm,R0⟩ (fun i σ H' _ ⟨_,_,s5,_⟩=>bI.of (s5 _ _ hlb)) ?_ ?_⟩
     . rintro i y σ H' hi ⟨v,rfl,s5,R⟩
       have hil:i < l.length:=by rw [<- hlen];exact (List.getElem?_eq_some_iff.mp hi).1
       obtain ⟨q,hq⟩:∃ q,l[i]?=some q:=⟨_,List.getElem?_eq_getElem hil⟩;obtain ⟨o,C,dx,fs,rfl,ho,cl,na,nb,la,lb'⟩:=Mc i y q hi hq;obtain ⟨hq1,hq2⟩:=hbd q (List.mem_of_getElem? hq);obtain ⟨ra,zS⟩:∃ ra,rs[q.1]?=some ra:=⟨_,List.getElem?_eq_getElem (by omega)⟩;obtain ⟨rb,hrb⟩:∃ rb,rs[q.2]?=some rb:=⟨_,List.getElem?_eq_getElem (by omega)⟩;have ho':=s5 _ _ ho;have e1:(rs.map V.ref)[q.1]?=some (V.ref ra):=by rw [List.getElem?_map,zS];rfl
       have e2:(rs.map V.ref)[q.2]?=some (V.ref rb):=by rw [List.getElem?_map,hrb];rfl
       have hA:=R.at_ _ _ zS;have oa:o ≠ ra:=mX ho' hA (by intro z;cases z);have R1:=R.push (u:=q.2) zS;have acd:(vN (JM.bG (l.take i) q.1)).length < sizeLine:=by
         have:=sr (l.take i) q.1;simp only [vN,List.length_map,List.length_take] at this ⊢;rw [sizeLine_eq];omega
       refine ⟨_,rfl,_,rfl,o,C,dx,fs,_,rfl,ho',cl,na,la,tT (bI.of R.lst) (bw e1) ⟨.inl ⟨rfl,_,bI.of hA⟩,?_⟩⟩;refine ⟨_,rfl,o,C,dx,fs,_,rfl,ho',cl,nb,lb',ra,_,_,rfl,rfl,hA,acd,?_⟩;have hB:=R1.at_ _ _ hrb;have ho2:upd H' ra (.lst (vN (JM.bG (l.take i) q.1)++[.int (q.2:Int)])) o=some (.ins C dx fs):=by rw [aq oa];exact ho'
       have ace:(vN (if q.2=q.1 then JM.bG (l.take i) q.2++[q.2] else JM.bG (l.take i) q.2)).length < sizeLine:=by
         rw [if_neg (by omega)];have:=sr (l.take i) q.2;simp only [vN,List.length_map,List.length_take] at this ⊢;rw [sizeLine_eq];omega
       have R2:=R1.push (u:=q.1) hrb;refine ⟨_,rfl,_,rfl,o,C,dx,fs,_,rfl,ho2,cl,nb,lb',tT (bI.of R1.lst) (bw e2) ⟨.inl ⟨rfl,_,bI.of hB⟩,?_⟩⟩;refine ⟨_,rfl,o,C,dx,fs,_,rfl,ho2,cl,na,la,rb,_,_,rfl,rfl,hB,ace,?_⟩;refine ⟨_,rfl,fun b u e=>?_,R2.eq fun v hv=>?_⟩
       . have za:b ≠ ra:=fun z=>by rw [z,hn0 ra (List.mem_of_getElem? zS)] at e;cases e
         have zb:b ≠ rb:=fun z=>by rw [z,hn0 rb (List.mem_of_getElem? hrb)] at e;cases e
         rw [aq zb,aq za];exact s5 b u e
       . rw [take_snoc hq,QT]
         by_cases z1:q.1=v
         . subst z1
           rw [if_neg (by omega),if_pos rfl,if_pos rfl]
         . by_cases z2:q.2=v
           . subst z2
             rw [if_pos rfl,if_neg (Ne.symm z1),if_neg z1,if_pos rfl]
           . rw [if_neg (Ne.symm z2),if_neg (Ne.symm z1),if_neg z1,if_neg z2,List.append_nil]
     . rintro σ H' ⟨v,rfl,s5,R⟩
       rw [hlen,List.take_length] at R;exact ⟨_,rfl,k H' D rs s5 hD hn0 R⟩
end
def gfs (la lb lr:Addr):List (Str×V):=[("atoms",.ref la),("bonds",.ref lb),("neighbours",.ref lr)]
structure NQ (C:Addr) (H:Hp) (g la lb lr:Addr) (as us:List V) (rs:List Addr) (l:List (Nat×Nat)):Prop where
 obj:∃ dx,H g=some (.ins C dx (gfs la lb lr))
 atoms:H la=some (.lst as)
 bonds:H lb=some (.lst us)
 rows:iN H lr rs as.length (JM.bG l)
theorem iN.stay {H H':Hp} {lr:Addr} {rs:List Addr} {n:Nat} {row:Nat->List Nat} (R:iN H lr rs n row) (f:∀ b o,H b=some o->(b=lr\/b ∈ rs)->H' b=some o):iN H' lr rs n row:=
 ⟨f _ _ R.lst (.inl rfl),R.len,R.nd,R.out,fun v a ha=>f _ _ (R.at_ v a ha) (.inr (List.mem_of_getElem? ha))⟩
theorem aS.frm {S:List Addr} {H H':Hp} (s:aS H H'):jq S H H':=fun b o e _=>s b o e
section
def JW (K:Zqq) (C:Addr):Sp:=fun vs H Q _=>∃ (o dx la lb:Addr) (as us:List V) (l:List (Nat×Nat)),vs=[.ref o,.ref la,.ref lb]/\H o=some (.ins C dx [])/\H la=some (.lst as)/\H lb=some (.lst us)/\as.length<=1000/\l.length<=1000/\us.length=l.length /\
 (∀ (i:Nat) v q,us[i]?=some v->l[i]?=some q->sf K H v q/\v ≠ .ref o)/\(∀ q ∈ l,q.1 < q.2/\q.2 < as.length)/\∀ H' lr rs,NQ C H' o la lb lr as us rs l->jq [o] H H'->Q .non H'
theorem Uc:aQ ["self","atoms","bonds"] ["self","atoms","bonds"] (aF uX):=lT (by decide +kernel)
theorem Me (T:Txt K mg t) {C:Addr} (cl:D8 K C) (n1:b6 K C "atoms") (n2:b6 K C "bonds") (n3:b6 K C "neighbours"):bF P w K mg base mL 2 t.dB t.jL ["self","atoms","bonds"] (JW K C):=by
 have GR:=@W4 P w K mg base t T;refine T.nF.ok Uc (fun vs H Q E h=>?_) (fun cdv A outer s H vs Q E hr h=>?_)
 . obtain ⟨o,dx,la,lb,as,us,l,rfl,_⟩:=h
   rfl
 . obtain ⟨o,dx,la,lb,as,us,l,rfl,h0,ha,hb,hn,hl,hlen,Mc,hbd,k⟩:=h
   refine ⟨_,ak (ck (pv 0) (pv 1) rfl) (ak (ck (pv 0) (pv 2) rfl) (az (ck (pv 0) (b4 GR hr rfl T.u9 T.gR.kp T.u5 .nil bE (af (c6 bx (by rfl) T.kG PySem.boot_len (af (pv 1) au)) (af (pv 2) au))) rfl))),?_⟩;have ao:la ≠ o:=mX ha h0 (by intro z;cases z);have bo:lb ≠ o:=mX hb h0 (by intro z;cases z);refine ⟨_,rfl,_,rfl,o,C,dx,_,rfl,h0,cl,n1,(by show 0 < 1000;decide),?_⟩;refine ⟨_,rfl,_,rfl,o,C,dx,_,rfl,ai,cl,n2,(by show 1 < 1000;decide),?_⟩;rw [mW];have keep:∀ b u,H b=some u->b ≠ o->upd H o (.ins C dx (gf "bonds" (.ref lb) (gf "atoms" (.ref la) []))) b=some u:=fun b u e n=>by rw [aq n];exact e
   refine ⟨_,rfl,la,_,rfl,.inl (bI.of (keep _ _ ha ao)),_,rfl,?_⟩;refine ⟨as.length,lb,us,l,rfl,hn,hl,keep _ _ hb bo,hlen,fun i v q h1 h2=>?_,hbd,fun H1 lr rs sm nlr nrs R=>?_⟩
   . obtain ⟨⟨o',C',dx',fs,rfl,e1,e2⟩,ne⟩:=Mc i v q h1 h2
     exact ⟨o',C',dx',fs,rfl,keep _ _ e1 (fun z=>ne (by rw [z])),e2⟩
   . have e1:=sm o _ ai
     refine ⟨_,rfl,o,C,dx,_,rfl,e1,cl,n3,(by show 2 < 1000;decide),?_⟩;have F:jq [o] H (upd H1 o (.ins C dx (gf "neighbours" (.ref lr) (gf "bonds" (.ref lb) (gf "atoms" (.ref la) []))))):=fun b u e n=>by
       have nb:b ≠ o:=by simpa using n
       rw [aq nb];exact sm b u (keep b u e nb)
     refine k _ lr rs ⟨⟨dx,ai⟩,F _ _ ha (by simpa using ao),F _ _ hb (by simpa using bo),R.stay fun b u e hb'=>?_⟩ F;have nb:b ≠ o:=by
       rcases hb' with z | z
       . intro q;rw [<- z,q,ai] at nlr;cases nlr
       . intro q;have:=nrs b z;rw [q,ai] at this;cases this
     rw [aq nb];exact e
def tM {α β:Type} (M:Bytes) (Mf:Bytes->Nat->Except Fault (α×Bytes×Nat)) (JX:Nat×Nat->Bytes->Nat->Except Fault (β×Bytes×Nat)) (b:Bytes) (p:Nat):Except Fault (List α×List β):=
 Fk.andThen (JM.m5 M b p) fun m=>
 Fk.andThen (numIn 1 (fun v=>decide (v<=Fk.ATOMS)) m.1 m.2) fun n=>
 Fk.andThen (numIn 1 (fun v=>decide (v<=Fk.BONDS)) n.2.1 n.2.2) fun k=>
 Fk.andThen (JM.many Mf n.1 k.2.1 k.2.2) fun x=>
 Fk.andThen (JM.jy n.1 JX k.1 none x.2.1 x.2.2) fun y=>
 Fk.andThen (need y.2.1.isEmpty 7 y.2.2) fun _=>.ok (x.1,y.1)
def JY {α β:Type} (K:Zqq) (CR CF CG f1 f2:Addr) (Mf:Bytes->Nat->Except Fault (α×Bytes×Nat)) (JX:Nat×Nat->Bytes->Nat->Except Fault (β×Bytes×Nat)) (RA:ua α) (RB:ua β) (plA:α->Nat) (plB:β->Nat) (ends:β->Nat×Nat):Sp:=
 fun vs H Q E=>∃ (r m:Addr) (M:Bytes) (x:FU),vs=[.ref r,.ref m,.ref f1,.ref f2]/\fC K CR H r x/\x.hps=[]/\x.T7=[]/\(∀ H,nU K H m (vB M)) /\
   mh CF x.w (tM M Mf JX x.b x.p) (fun y=>∀ H' g la lb lr as us rs b p,fC K CR H' r { x with b:=b,p:=p,hps:=y.1.map fun z=>(plA z:Int),T7:=y.2.map fun z=>(plB z:Int) }->jq [r,x.hp,x.sp] H H'->
     NQ CG H' g la lb lr as us rs (y.2.map ends)->cR RA (fun b=>H b=none) H' as y.1->cR RB (fun b=>H b=none) H' us y.2->JM.ng as.length (y.2.map ends)->Q (.ref g) H') E
theorem yk:aQ ["reader","mark","take_atom","take_bond","n","m","atoms","bonds"] ["reader","mark","take_atom","take_bond"] (aF uY):=lT (by decide +kernel)
theorem Mg (T:Txt K mg t) {α β:Type} {f1 f2:Addr} {fd1 fd2:FuncData} {Mf:Bytes->Nat->Except Fault (α×Bytes×Nat)} {JX:Nat×Nat->Bytes->Nat->Except Fault (β×Bytes×Nat)} {RA:ua α} {RB:ua β} {plA:α->Nat} {plB:β->Nat} {ends:β->Nat×Nat}
   (W5:yh RA) (Vl:yh RB) (acf:∀ b p y,Mf b p=.ok y->(plA y.1:Int)=(y.2.2:Int) - 1) (acg:∀ q b p y,JX q b p=.ok y->(plB y.1:Int)=(y.2.2:Int) - 1) (Mc:∀ q b p x,JX q b p=.ok x->ends x.1=q)
   (hE:∀ {D:Addr->Prop} {H:Hp} {v:V} {z:β},RB D H v z->∃ o,v=.ref o/\D o/\sf K H v (ends z))
   (G1:bF P w K mg base (uP P w) 7 f1 fd1 ["reader"] (OT K t.aG t.aH Mf RA)) (kp1:PySem.W.keepIn K (.ref f1)=true) (hb1:Binds K fd1 ["reader"] [])
   (G2:bF P w K mg base (uP P w) 7 f2 fd2 ["reader","pair"] (JV K t.aG t.aH JX RB)) (kp2:PySem.W.keepIn K (.ref f2)=true) (hb2:Binds K fd2 ["reader","pair"] []) :
   bF P w K mg base (uP P w) 9 t.gF t.jM ["reader","mark","take_atom","take_bond"] (JY K t.aG t.aH t.bK f1 f2 Mf JX RA RB plA plB ends):=by
 have GM:=@Wv P w K mg base t T;have GB:=@lD P w K mg base t T;have GA:bF P w K mg base (uP P w) 8 t.bP t.eT ["self","n","take_atom"] (OV K t.aG t.aH f1 Mf RA plA):=Ua T W5 acf G1 kp1 hb1;have GO:bF P w K mg base (uP P w) 8 t.bQ t.eU ["self","n","m","take_bond"] (OW K t.aG t.aH f2 JX RB plB):=Ub T (by decide) Vl acg G2 kp2 hb2;have GE:=@Zh P w K mg base t T;have GI:bF P w K mg base mL 2 t.dB t.jL ["self","atoms","bonds"] (JW K t.bK):=Me T T.jg T.gK T.gM T.cK;obtain ⟨NN,g1⟩:=T.A6;obtain ⟨XF,g2⟩:=T.A7;refine T.jS.K9 yk (fun vs H Q E h=>?_) (fun cdv A outer s H vs Q E hr h=>?_)
 . obtain ⟨r,m,M,x,rfl,_⟩:=h
   rfl
 . obtain ⟨r,m,M,x,rfl,R,hx1,Ud,hM,bD⟩:=h
   have hr6:dG 6 _:=hr.mono (by decide);have MX:dG 5 _:=hr.mono (by decide);have hr4:dG 4 _:=hr.mono (by decide);have Ma:dG 3 _:=hr.mono (by decide);refine ⟨_,ak (dW (aW (pv 0) T.aL T.rD GM hr6 T.qY .nil c7 (af (pv 1) au)))
     (ak (aR (i:=4) yk.nd rfl (Or.inl rfl) (aW (pv 0) T.aL T.aJ GB MX T.aI .nil c7 (af aN (af aN (af (aV rfl g1 (v:=.int 128) ⟨_,rfl⟩) au)))))
     (ak (aR (i:=5) yk.nd rfl (Or.inl rfl) (aW (pv 0) T.aL T.aJ GB MX T.aI .nil c7 (af aN (af aN (af (aV rfl g2 (v:=.int 192) ⟨_,rfl⟩) au)))))
     (ak (aR (i:=6) yk.nd rfl (Or.inl rfl) (aW (pv 0) T.aL T.qt GA hr T.qi .nil c7 (af (pv 4) (af (pv 2) au))))
     (ak (aR (i:=7) yk.nd rfl (Or.inl rfl) (aW (pv 0) T.aL T.qu GO hr T.qj .nil c7 (af (pv 4) (af (pv 5) (af (pv 3) au)))))
     (ak (dW (Sj (pv 0) T.aL T.tG GE hr4 T.t8 .nil c7))
     (az (bc (qz T.OQ GI Ma rfl T.IZ T.vh .nil bE (af (pv 6) (af (pv 7) au)))))))))),?_⟩
   obtain ⟨d0,e0⟩:=R.obj;refine ⟨_,rfl,r,d0,_,rfl,e0,rfl,_,rfl,?_⟩;refine ⟨r,m,M,x,rfl,R,hM,bD.andThen'.mono fun y1 hy1 bD H1 R1 F1=>?_⟩;obtain ⟨d1,e1⟩:=R1.obj;refine ⟨_,rfl,r,d1,_,rfl,e1,rfl,?_⟩;refine ⟨r,1,0,128,_,rfl,R1,.inl rfl,mh.good (g':=fun v=>decide (v<=Fk.ATOMS)) (fun v=>by rw [Bool.eq_iff_iff];simp only [Bool.and_eq_true,decide_eq_true_eq];unfold Fk.ATOMS;omega) (bD.andThen'.mono fun n hn bD H2 R2 F2=>?_)⟩;obtain ⟨d2,e2⟩:=R2.obj;have aaL:n.1<=128:=of_decide_eq_true (JM.bA hn).2.1;refine ⟨_,rfl,r,d2,_,rfl,e2,rfl,?_⟩;refine ⟨r,1,0,192,_,rfl,R2,.inl rfl,mh.good (g':=fun v=>decide (v<=Fk.BONDS)) (fun v=>by rw [Bool.eq_iff_iff];simp only [Bool.and_eq_true,decide_eq_true_eq];unfold Fk.BONDS;omega) (bD.andThen'.mono fun mm hmm bD H3 R3 F3=>?_)⟩;obtain ⟨d3,e3⟩:=R3.obj;have ac4:mm.1<=192:=of_decide_eq_true (JM.bA hmm).2.1;refine ⟨_,rfl,r,d3,_,rfl,e3,rfl,_,rfl,_,rfl,?_⟩;refine ⟨r,n.1,_,rfl,R3,by omega,hx1,bD.andThen'.mono fun y4 hy4 bD H4 la as R4 F4 nla hla RAs=>?_⟩;obtain ⟨d4,e4⟩:=R4.obj;refine ⟨_,rfl,r,d4,_,rfl,e4,rfl,_,rfl,_,rfl,_,rfl,?_⟩;refine ⟨r,n.1,mm.1,_,rfl,R4,by omega,Ud,bD.andThen'.mono fun y5 hy5 bD H5 lb us R5 F5 nlb hlb RBs=>?_⟩;obtain ⟨d5,e5⟩:=R5.obj;refine ⟨_,rfl,r,d5,_,rfl,e5,rfl,?_⟩;refine ⟨r,_,rfl,R5,bD.andThen'.mono fun y6 hy6 bD=>?_⟩;have F13:jq [r] H H3:=(F1.trans F2).trans F3;have F14:jq [r,x.hp,x.sp] H H4:=(F13.mono (by simp)).trans (F4.mono (by simp));have F15:jq [r,x.hp,x.sp] H H5:=F14.trans (F5.mono (by simp));have Zo:∀ b,H3 b=none->H b=none:=fun b h=>F13.fresh e3 h;have aaM:∀ b,H4 b=none->H b=none:=fun b h=>by
     refine Zo b ?_;cases q:H3 b with
     | none=>rfl
     | some o=>
       by_cases z1:b=r
       . rw [z1,e4] at h;cases h
       . by_cases z2:b=x.hp
         . have:=R4.hpl;rw [<- show b=x.hp from z2,h] at this;cases this
         . rw [F4 b o q (by simp [z1];exact z2)] at h;cases h
   have aaN:∀ b,H b=none->b ≠ r/\b ≠ x.hp/\b ≠ x.sp:=fun b h=>by
     refine ⟨fun q=>?_,fun q=>?_,fun q=>?_⟩
     . rw [q,e0] at h;cases h
     . have:=R.hpl;rw [<- q,h] at this;cases this
     . have:=R.JS;rw [<- q,h] at this;cases this
   have ach:=Zo la nla;have ac5:=aaM lb nlb;have aci:H5 la=some (.lst as):=F5 la _ hla (by have:=aaN la ach;simp [this.1];exact this.2.2);have RA5:cR RA (fun b=>H b=none/\b ≠ la) H5 as y4.1:=(RAs.mono W5 (fun b d=>⟨Zo b d.1,d.2⟩)).stay W5 fun b o d h=>F5 b o h (by have:=aaN b d.1;simp [this.1];exact this.2.2);have RB5:cR RB (fun b=>H4 b=none/\b ≠ lb) H5 us y5.1:=RBs;have rise:=(JM.xq (ends:=ends) Mc hy5).1;have Fb:as.length=n.1:=RAs.len.trans (JM.t6 hy4);refine ⟨_,rfl,_,rfl,fun o dx no nd ne=>?_⟩;have Ue:∀ b u,H5 b=some u->upd (upd H5 dx (.own o)) o (.ins t.bK dx []) b=some u:=fun b u e=>by rw [aq (ay e no),aq (ay e nd)];exact e
   refine ⟨o,dx,la,lb,as,us,y5.1.map ends,rfl,ai,Ue _ _ aci,Ue _ _ hlb,by omega,?_,by rw [List.length_map];exact RB5.len,fun i v q h1 h2=>?_,fun q hq=>?_,fun H7 lr rs GR F7=>⟨rfl,?_⟩⟩
   . rw [List.length_map,JM.qD hy5];omega
   . rw [List.getElem?_map] at h2
     cases hz:y5.1[i]? with
     | none=>rw [hz] at h2;cases h2
     | some z=>
       rw [hz] at h2;cases h2;obtain ⟨o',rfl,_,o2,C2,dx2,fs2,e2',e3',rest⟩:=hE (RB5.at_ i v z h1 hz);cases e2';exact ⟨⟨o',C2,dx2,fs2,rfl,Ue _ _ e3',rest⟩,fun z=>by cases z;rw [no] at e3';cases e3'⟩
   . have:=rise.1 q hq
     rw [Fb];exact this
   . have F8:jq [] H5 H7:=jq.made no nd F7
     have rd7:=R5.stay F8 (by simp) (by simp) (by simp) (by simp);refine bD H7 o la lb lr as us rs _ _ rd7 (F15.trans (F8.mono (by simp))) GR ((RA5.mono W5 fun b d=>d.1).stay W5 fun b u _ h=>F8 b u h (by simp)) ((RB5.mono Vl fun b d=>aaM b d.1).stay Vl fun b u _ h=>F8 b u h (by simp)) ?_;rw [Fb];exact rise
end
theorem pQ {K:Zqq} {a:Addr} {xs:List V} {g:TG} {tb:TS} {D:Ends} {σ:L2.St} {H:Hp} (Pv:Nat->L2.St->Hp->Prop) (h0:Pv 0 σ H) (hl:∀ i σ H,i<=xs.length->Pv i σ H->bI K H a xs)
   (hs:∀ i x σ H T,xs[i]?=some x->Pv i σ H->H T=none->g (.ref T) σ (upd H T (.tup [.int (i:Nat),x])) fun σ2 H2=>tb { D with nx:=Pv (i+1),ct:=Pv (i+1),bk:=D.nx } σ2 H2) (hd:∀ σ H,Pv xs.length σ H->D.nx σ H) :
   ∃ W:Nat->Nat->L2.St->Hp->Prop,(∃ m,W 0 m σ H)/\∀ i m σ H,W i m σ H->
     ((Ite K a).stop i H/\D.nx σ H)\/((Ite K a).go i H/\∃ N:L2.St->Hp->Prop,(∀ σ' H',N σ' H'->∃ m',m' < m/\W (i+1) m' σ' H')/\∀ x H',(Ite K a).RY i H x H'->g x σ H' fun σ2 H2=>tb { D with nx:=N,ct:=N,bk:=D.nx } σ2 H2):=by
 refine ⟨fun i m σ H=>m=xs.length - i/\i<=xs.length/\Pv i σ H,⟨xs.length,by simp,Nat.zero_le _,h0⟩,?_⟩;rintro i m σ H ⟨rfl,hi,p⟩;have q:=hl i σ H hi p;by_cases hlt:i < xs.length
 . refine .inr ⟨⟨xs,xs[i],q,by simp [hlt]⟩,Pv (i+1),fun σ' H' p'=>⟨xs.length - (i+1),by omega,rfl,hlt,p'⟩,fun x H' y=>?_⟩
   obtain ⟨T,x',rfl,hT,rfl,y⟩:=y;exact hs i x' σ H T (y xs q) p hT
 . have e:i=xs.length:=by omega
   subst e;exact .inl ⟨⟨xs,q,Nat.le_refl _⟩,hd σ H p⟩
theorem Cr (h:Nat) (x y:Nat):KP (.int (h:Int)) [.int (x:Int),.int (y:Int)]=(h==x||h==y):=by
 rw [Bool.eq_iff_iff];simp [KP,RJ];omega
theorem aaO {n:Nat} (h:n<=1000):n < sizeLine:=by rw [sizeLine_eq];omega
section
theorem aK {H:Hp} {p:Addr} {o:HO} (hp:H p=none):aS H (upd H p o):=fun b u e=>by rw [aq (ay e hp)];exact e
def W6:Sp:=fun vs H Q _=>∃ h:Nat,vs=[.int (h:Int)]/\∀ H',aS H H'->Q (.bl (Fk.isOne h)) H'
theorem Ug:aQ ["hand_or_side"] ["hand_or_side"] (aF IX):=lT (by decide +kernel)
theorem Fc (T:Txt K mg t):bF P w K mg base mL 1 t.vg t.Am ["hand_or_side"] W6:=by
 refine T.qE.ok Ug (fun vs H Q E h=>?_) (fun cdv A outer s H vs Q E hr h=>?_)
 . obtain ⟨h,rfl,_⟩:=h
   rfl
 . obtain ⟨h,rfl,k⟩:=h
   refine ⟨_,az (bc (e9 uo (pv 0) (mz (af aN (af aN au))) rfl)),?_⟩;refine ⟨_,rfl,(by show 2<=sizeLine;decide),fun p hp=>⟨p,_,rfl,.inr (nU.of ai),rfl,rfl,?_⟩⟩;have e:KP (.int (h:Int)) [.int 1,.int 2]=Fk.isOne h:=Cr h 1 2;rw [if_neg Bool.false_ne_true,e];exact k _ (aK hp)
def uG (K:Zqq) (C:Addr):Sp:=fun vs H Q _=>∃ (g dx lr:Addr) (fs:List (Str×V)) (rs:List Addr) (n e o:Nat) (row:Nat->List Nat),vs=[.ref g,.int (e:Int),.int (o:Int)]/\H g=some (.ins C dx fs)/\fs.lookup ("neighbours":Str)=some (V.ref lr)/\iN H lr rs n row/\e < n/\(row e).length<=1000 /\
 ∀ H' l,aS H H'->H l=none->H' l=some (.lst (vN ((row e).filter fun x=>x != o)))->Q (.ref l) H'
theorem zU:aQ ["self","end","other","atom"] ["self","end","other"] (aF qc):=lT (by decide +kernel)
theorem vz (T:Txt K mg t) {C:Addr} (cl:D8 K C) (n3:b6 K C "neighbours"):bF P w K mg base mL 1 t.bH t.dF ["self","end","other"] (uG K C):=by
 refine T.kj.ok zU (fun vs H Q E h=>?_) (fun cdv A outer s H vs Q E hr h=>?_)
 . obtain ⟨g,dx,lr,fs,rs,n,e,o,row,rfl,_⟩:=h
   rfl
 . obtain ⟨g,dx,lr,fs,rs,n,e,o,row,rfl,hg,hl,R,he,hlen,k⟩:=h
   obtain ⟨ra,zS⟩:∃ ra,rs[e]?=some ra:=⟨_,List.getElem?_eq_getElem (by rw [R.len];exact he)⟩;have hA:=R.at_ _ _ zS;have e1:(rs.map V.ref)[e]?=some (V.ref ra):=by rw [List.getElem?_map,zS];rfl
   refine ⟨_,az (bc (C4 rfl zU.nd (gD (bV b9 (aA (pv 0) rfl) (pv 1) (fun _ _=>rfl))) (jv (own:=[("atom",3)]) rfl) (fun _ _ _ _ _=>bu (i:=3) zU.nd rfl (Or.inl rfl)) (fun _ _ _ _ _=>sY (d9 vU (pv 3) (pv 2) (cg _))) (fun _ _ _ _ _=>pv 3))),?_⟩;refine ⟨_,rfl,g,C,dx,fs,_,rfl,hg,cl,n3,hl,_,rfl,tT (bI.of R.lst) (bw e1) ⟨ra,rfl,⟨_,bI.of hA⟩,?_⟩⟩;intro D hD;refine mY (K:=K) (a:=ra) (xs:=vN (row e)) (fun i H'=>aS H H'/\H' D=some (.lst (vN (((row e).take i).filter fun x=>x != o)))) ⟨aK hD,ai⟩ (fun i H' _ h=>bI.of (h.1 _ _ hA)) ?_ ?_
   . rintro i x H' hx ⟨sm,hD'⟩
     obtain ⟨c,hc,rfl⟩:∃ c,(row e)[i]?=some c/\x=V.int (c:Int):=by
       unfold vN at hx;rw [List.getElem?_map] at hx;cases q:(row e)[i]? with
       | none=>rw [q] at hx;cases hx
       | some c=>rw [q] at hx;exact ⟨c,rfl,(Option.some.inj hx).symm⟩
     refine ⟨rfl,_,rfl,_,rfl,rfl,_,rfl,?_⟩;refine zp (fun h=>?_) (fun h=>?_)
     . have ne:(c != o)=true:=by simp at h ⊢;omega
       refine ⟨_,rfl,_,hD',?_,fun b u e'=>?_,?_⟩
       . have:(((row e).take i).filter fun x=>x != o).length<=(row e).length:=Nat.le_trans (List.length_filter_le _ _) (by rw [List.length_take];omega)
         simp only [vN,List.length_map];exact aaO (by omega)
       . rw [aq (ay e' hD)];exact sm b u e'
       . rw [ai,take_snoc hc,List.filter_append,List.filter_cons,if_pos ne]
         simp [vN]
     . have ne:¬ (c != o)=true:=by simp at h ⊢;omega
       refine ⟨sm,?_⟩;rw [take_snoc hc,List.filter_append,List.filter_cons,if_neg ne];simpa using hD'
   . rintro H' ⟨sm,hD'⟩
     rw [show (vN (row e)).length=(row e).length by simp [vN],List.take_length] at hD';exact k H' D sm hD hD'
def vA (n:Nat):Bool:=n==1||n==2
def Zp (K:Zqq) (C:Addr):Sp:=fun vs H Q _=>∃ (g o dx lr:Addr) (fs:List (Str×V)) (rs:List Addr) (n:Nat) (q:Nat×Nat) (row:Nat->List Nat),vs=[.ref g,.ref o]/\H g=some (.ins C dx fs)/\fs.lookup ("besides":Str)=none/\fs.lookup ("neighbours":Str)=some (V.ref lr)/\iN H lr rs n row /\
 sf K H (.ref o) q/\q.1 < n/\q.2 < n/\(∀ v,(row v).length<=1000)/\∀ H',aS H H'->Q (.bl (vA ((row q.1).filter fun x=>x != q.2).length&&vA ((row q.2).filter fun x=>x != q.1).length)) H'
theorem JZ:aQ ["pattern","bond","at_a","at_b"] ["pattern","bond"] (aF oB):=lT (by decide +kernel)
theorem iN.same {H H':Hp} {lr:Addr} {rs:List Addr} {n:Nat} {row:Nat->List Nat} (R:iN H lr rs n row) (f:aS H H'):iN H' lr rs n row:=R.stay fun b o e _=>f b o e
theorem sf.same {H H':Hp} {v:V} {q:Nat×Nat} (e:sf K H v q) (f:aS H H'):sf K H' v q:=let ⟨o,C,dx,fs,a,b,c⟩:=e;⟨o,C,dx,fs,a,f _ _ b,c⟩
theorem W7 (T:Txt K mg t):bF P w K mg base mL 2 t.fE t.j3 ["pattern","bond"] (Zp K t.bK):=by
 have GB:bF P w K mg base mL 1 t.bH t.dF ["self","end","other"] (uG K t.bK):=vz T T.jg T.cK;refine T.gS.ok JZ (fun vs H Q E h=>?_) (fun cdv A outer s H vs Q E hr h=>?_)
 . obtain ⟨g,o,dx,lr,fs,rs,n,q,row,rfl,_⟩:=h
   rfl
 . obtain ⟨g,o,dx,lr,fs,rs,n,q,row,rfl,hg,hbs,hl,R,hE,h1,h2,hlen,k⟩:=h
   obtain ⟨o',CB,db,fb,e0,hb,cl,na,nb,la,lb⟩:=hE;cases e0;refine ⟨_,ak (aR (i:=2) JZ.nd rfl (Or.inl rfl) (c6 bx (by rfl) T.kG PySem.boot_len (af (aW (pv 0) T.jg T.mq GB hr T.iO .nil bE (af (aA (pv 1) rfl) (af (aA (pv 1) rfl) au))) au)))
     (ak (aR (i:=3) JZ.nd rfl (Or.inl rfl) (c6 bx (by rfl) T.kG PySem.boot_len (af (aW (pv 0) T.jg T.mq GB hr T.iO .nil bE (af (aA (pv 1) rfl) (af (aA (pv 1) rfl) au))) au)))
     (az (bc (wO (e9 uo (pv 2) (mz (af aN (af aN au))) rfl) (uR (e9 uo (pv 3) (mz (af aN (af aN au))) rfl)))))),?_⟩
   refine ⟨_,rfl,g,dx,_,rfl,hg,hbs,_,rfl,o,CB,db,fb,_,rfl,hb,cl,na,la,_,rfl,o,CB,db,fb,_,rfl,hb,cl,nb,lb,?_⟩;refine ⟨g,dx,lr,fs,rs,n,q.1,q.2,row,rfl,hg,hl,R,h1,hlen _,fun H1 l1 s1 nl1 hl1=>?_⟩;refine ⟨l1,_,rfl,.inl (bI.of hl1),?_⟩;have hb1:=s1 _ _ hb;refine ⟨_,rfl,g,dx,_,rfl,s1 _ _ hg,hbs,_,rfl,o,CB,db,fb,_,rfl,hb1,cl,nb,lb,_,rfl,o,CB,db,fb,_,rfl,hb1,cl,na,la,?_⟩;refine ⟨g,dx,lr,fs,rs,n,q.2,q.1,row,rfl,s1 _ _ hg,hl,R.same s1,h2,hlen _,fun H2 l2 s2 nl2 hl2=>?_⟩;refine ⟨l2,_,rfl,.inl (bI.of hl2),?_⟩;refine ⟨_,rfl,(by show 2<=sizeLine;decide),fun p hp=>⟨p,_,rfl,.inr (nU.of ai),rfl,rfl,_,rfl,?_⟩⟩;have rO:∀ l:List Nat,(vN l).length=l.length:=fun l=>by simp [vN]
   have e1:KP (.int ((vN ((row q.1).filter fun x=>x != q.2)).length:Int)) [.int 1,.int 2]=vA ((row q.1).filter fun x=>x != q.2).length:=by rw [rO];exact Cr _ 1 2
   have e2:KP (.int ((vN ((row q.2).filter fun x=>x != q.1)).length:Int)) [.int 1,.int 2]=vA ((row q.2).filter fun x=>x != q.1).length:=by rw [rO];exact Cr _ 1 2
   rw [if_neg Bool.false_ne_true,e1];have s3:aS H (upd H2 p (.tup [.int 1,.int 2])):=(s1.trans s2).trans (aK hp);cases hA:vA ((row q.1).filter fun x=>x != q.2).length with
   | false=>
     rw [if_neg Bool.false_ne_true];have k1:=k _ s3;rw [hA,Bool.false_and] at k1;exact k1
   | true=>
     rw [if_pos rfl];refine ⟨_,rfl,(by show 2<=sizeLine;decide),fun p2 hp2=>⟨p2,_,rfl,.inr (nU.of ai),rfl,rfl,?_⟩⟩;rw [if_neg Bool.false_ne_true,e2];have k1:=k _ (s3.trans (aK (o:=.tup [.int 1,.int 2]) hp2));rw [hA,Bool.true_and] at k1;exact k1
end
end MP
namespace JM
open Fk
def wA (b:Bytes) (p:Nat):Except Fault ((Atom×Nat)×Bytes×Nat):=andThen (qR b p) fun y=>.ok ((y.1,y.2.2 - 1),y.2.1,y.2.2)
def sA (q:Nat×Nat) (b:Bytes) (p:Nat):Except Fault ((Bond×Nat)×Bytes×Nat):=andThen (p7 q b p) fun y=>.ok ((y.1,y.2.2 - 1),y.2.1,y.2.2)
theorem aM {α β:Type} {x:Except Fault α} {f:α->Except Fault β} {r:β} (h:andThen x f=.ok r):∃ a,x=.ok a/\f a=.ok r:=by
 cases x with
 | error e=>cases h
 | ok a=>exact ⟨a,rfl,h⟩
def XH {α:Type} (y:List (α×Nat)×Bytes×Nat):List α×Bytes×Nat:=(y.1.map fun z=>z.1,y.2.1,y.2.2)
theorem Mh {α:Type} {one:Bytes->Nat->Except Fault (α×Bytes×Nat)}:∀ (k:Nat) (b:Bytes) (p:Nat),
  many one k b p=andThen (many (fun b p=>andThen (one b p) fun y=>.ok ((y.1,y.2.2 - 1),y.2.1,y.2.2)) k b p) fun y=>.ok (XH y)
 | 0,b,p=>rfl
 | k+1,b,p=>by
  unfold many
  simp only [bq,bg]
  cases one b p with
  | error e=>rfl
  | ok x=>
   simp only [bg]
   rw [Mh k]
   simp only [bq,bg]
   rfl
theorem HU {α:Type} {n:Nat} {one:Nat×Nat->Bytes->Nat->Except Fault (α×Bytes×Nat)}:∀ (k:Nat) (had:Option (Nat×Nat)) (b:Bytes) (p:Nat),
  jy n one k had b p=andThen (jy n (fun q b p=>andThen (one q b p) fun y=>.ok ((y.1,y.2.2 - 1),y.2.1,y.2.2)) k had b p) fun y=>.ok (XH y)
 | 0,had,b,p=>rfl
 | k+1,had,b,p=>by
  unfold jy
  simp only [bq,bg]
  cases o8 n had b p with
  | error e=>rfl
  | ok q=>
   simp only [bg]
   cases one q.1 q.2.1 q.2.2 with
   | error e=>rfl
   | ok x=>
    simp only [bg]
    rw [HU k]
    simp only [bq,bg]
    rfl
theorem ym {b:Bytes} {p:Nat} {y:Atom×Bytes×Nat} (h:qR b p=.ok y):y.2.2=p+6:=by
 unfold qR at h;obtain ⟨a1,h1,h⟩:=aM h;obtain ⟨a2,h2,h⟩:=aM h;obtain ⟨a3,h3,h⟩:=aM h;obtain ⟨a4,h4,h⟩:=aM h;obtain ⟨a5,h5,h⟩:=aM h;cases h;have:=(bA h1).2.2.2.2;have:=(bA h2).2.2.2.2;have:=(bA h3).2.2.2.2;have:=(bA h4).2.2.2.2;have:=(bA h5).2.2.2.2;simp only;omega
theorem yp {q:Nat×Nat} {b:Bytes} {p:Nat} {y:Bond×Bytes×Nat} (h:p7 q b p=.ok y):y.2.2=p+2:=by
 unfold p7 at h;obtain ⟨a1,h1,h⟩:=aM h;obtain ⟨a2,h2,h⟩:=aM h;cases h;have:=(bA h1).2.2.2.2;have:=(bA h2).2.2.2.2;simp only;omega
theorem Ka {n:Nat} {had:Option (Nat×Nat)} {b:Bytes} {p:Nat} {y:(Nat×Nat)×Bytes×Nat} (h:o8 n had b p=.ok y):y.2.2=p+2:=by
 unfold o8 at h;obtain ⟨a1,h1,h⟩:=aM h;obtain ⟨a2,h2,h⟩:=aM h;obtain ⟨a3,h3,h⟩:=aM h;cases h;have:=(bA h1).2.2.2.2;have:=(bA h2).2.2.2.2;simp only;omega
theorem Bj:∀ {k:Nat} {b:Bytes} {p:Nat} {y:List (Atom×Nat)×Bytes×Nat},many wA k b p=.ok y->(∀ i z,y.1[i]?=some z->z.2=p+6 * i+5)/\y.2.2=p+6 * k
 | 0,b,p,y,h=>by
  cases h
  exact ⟨fun i z h=>by simp at h,rfl⟩
 | k+1,b,p,y,h=>by
  unfold many at h
  obtain ⟨x,h1,h⟩:=aM h
  obtain ⟨l,h2,h⟩:=aM h
  cases h
  unfold wA at h1
  obtain ⟨w,h3,h1⟩:=aM h1
  cases h1
  have e1:=ym h3
  obtain ⟨i1,i2⟩:=Bj h2
  simp only at i1 i2 ⊢
  refine ⟨fun i z hz=>?_,by omega⟩
  cases i with
  | zero=>
   cases hz
   simp only
   omega
  | succ i=>
   have:=i1 i z (by simpa using hz)
   omega
theorem Bk {n:Nat}:∀ {k:Nat} {had:Option (Nat×Nat)} {b:Bytes} {p:Nat} {y:List (Bond×Nat)×Bytes×Nat},jy n sA k had b p=.ok y->(∀ i z,y.1[i]?=some z->z.2=p+4 * i+3)
 | 0,had,b,p,y,h=>by
  cases h
  exact fun i z h=>by simp at h
 | k+1,had,b,p,y,h=>by
  unfold jy at h
  obtain ⟨q,h0,h⟩:=aM h
  obtain ⟨x,h1,h⟩:=aM h
  obtain ⟨l,h2,h⟩:=aM h
  cases h
  unfold sA at h1
  obtain ⟨w,h3,h1⟩:=aM h1
  cases h1
  have e0:=Ka h0
  have e1:=yp h3
  have i1:=Bk h2
  simp only at i1 ⊢
  intro i z hz
  cases i with
  | zero=>
   cases hz
   simp only
   omega
  | succ i=>
   have:=i1 i z (by simpa using hz)
   omega
theorem Bl:∀ {m b:Bytes} {p:Nat} {y:Bytes×Nat},m5 m b p=.ok y->y.2=p+m.length
 | [],b,p,y,h=>by cases h;rfl
 | c::m,b,p,y,h=>by
  unfold m5 at h
  obtain ⟨x,h1,h⟩:=aM h
  obtain ⟨u,h2,h⟩:=aM h
  have e:=Bl h
  have:=(bA h1).2.2.2.2
  simp only [List.length_cons]
  omega
abbrev aB:=List (Atom×Nat)×List (Bond×Nat)
def aE (y:aB):Mol:=⟨y.1.map fun z=>z.1,y.2.map fun z=>z.1⟩
def D0 (M:Mol) (z:(Atom×Nat)×Nat):Bool:=z.1.1.hand != 0&&!M.handed z.2
def D4 (M:Mol) (z:(Bond×Nat)×Nat):Bool:=z.1.1.side != 0&&!M.sided z.2
def HV (M:Mol) (l:List ((Bond×Nat)×Nat)):Except Fault Mol:=match l.find? (D4 M) with
 | some z=>.error ⟨6,z.1.2⟩
 | none=>.ok M
def Fd (M:Mol) (l:List ((Atom×Nat)×Nat)) (m:List ((Bond×Nat)×Nat)):Except Fault Mol:=match l.find? (D0 M) with
 | some z=>.error ⟨4,z.1.2⟩
 | none=>HV M m
theorem NR (M:Mol) (z:(Atom×Nat)×Nat) (l:List ((Atom×Nat)×Nat)) (m:List ((Bond×Nat)×Nat)):Fd M (z::l) m=if D0 M z=true then .error ⟨4,z.1.2⟩ else Fd M l m:=by
 unfold Fd;rw [List.find?_cons];cases D0 M z<;>rfl
theorem NS (M:Mol) (z:(Bond×Nat)×Nat) (l:List ((Bond×Nat)×Nat)):HV M (z::l)=if D4 M z=true then .error ⟨6,z.1.2⟩ else HV M l:=by
 unfold HV;rw [List.find?_cons];cases D4 M z<;>rfl
theorem Fe {α:Type} (l:List α) (f:Nat->Bool) (g:α×Nat->Bool) (h:∀ i x,l[i]?=some x->f i=g (x,i)):(List.range l.length).find? f=(l.zipIdx.find? g).map (·.2):=by
 have e:List.range l.length=l.zipIdx.map (·.2):=by
  rw [List.zipIdx_map_snd,List.range'_eq_map_range];simp
 rw [e,List.find?_map];congr 1;have:∀ m:List (α×Nat),(∀ z ∈ m,l[z.2]?=some z.1)->m.find? (f ∘ fun z=>z.2)=m.find? g:=by
  intro m;induction m with
  | nil=>intro _;rfl
  | cons z m ih=>
   intro hm;rw [List.find?_cons,List.find?_cons,ih fun w hw=>hm w (by simp [hw])];have:(f ∘ fun z:α×Nat=>z.2) z=g z:=h z.2 z.1 (hm z (by simp));rw [this]
 exact this _ fun z hz=>by
  have:=List.mem_zipIdx hz;simp at this;rw [List.getElem?_eq_getElem (by omega)];exact congrArg some this.2.symm
theorem Mi (b:Bytes):judgeMol b =
   andThen (m5 MOLMARK b 0) fun m=>
   andThen (numIn 1 (fun v=>decide (v<=ATOMS)) m.1 m.2) fun n=>
   andThen (numIn 1 (fun v=>decide (v<=BONDS)) n.2.1 n.2.2) fun k=>
   andThen (many wA n.1 k.2.1 k.2.2) fun x=>
   andThen (jy n.1 sA k.1 none x.2.1 x.2.2) fun y=>
   andThen (need y.2.1.isEmpty 7 y.2.2) fun _=>Fd (aE (x.1,y.1)) x.1.zipIdx y.1.zipIdx:=by
 unfold judgeMol;simp only [ON,Ex,Ey];refine k9 rfl fun m hm=>k9 rfl fun n hn=>k9 rfl fun k hk=>?_;rw [Mh,bq];refine k9 rfl fun x hx=>?_;rw [bg,HU,bq];show andThen (jy n.1 sA k.1 none x.2.1 x.2.2) _=_;refine k9 rfl fun y hy=>?_;rw [bg];refine k9 rfl fun _ _=>?_;have pl:k.2.2=6:=by
   have h1:=Bl hm;have h2:=(bA hn).2.2.2.2;have h3:=(bA hk).2.2.2.2;have:MOLMARK.length=4:=rfl;omega
 obtain ⟨pa,pe⟩:=Bj hx;have pb:=Bk hy;have hlen:=t6 hx;show (match (List.range (aE (x.1,y.1)).n).find? fun v=>((aE (x.1,y.1)).atom v).hand != 0&&!(aE (x.1,y.1)).handed v with
   | some v=>Except.error (⟨4,6+6 * v+5⟩:Fault)
   | none=>match (List.range (aE (x.1,y.1)).bonds.length).find? fun j=>((aE (x.1,y.1)).bonds[j]?.map Bond.side).getD 0 != 0&&!(aE (x.1,y.1)).sided j with
     | some j=>.error ⟨6,6+6 * (aE (x.1,y.1)).n+4 * j+3⟩
     | none=>.ok (aE (x.1,y.1)))=_
 have en:(aE (x.1,y.1)).n=x.1.length:=by simp [aE,Mol.n]
 have eb:(aE (x.1,y.1)).bonds.length=y.1.length:=by simp [aE]
 rw [en,eb,Fe x.1 _ (D0 (aE (x.1,y.1))) fun i z hz=>by
   have e:(aE (x.1,y.1)).atom i=z.1:=by simp [Mol.atom,aE,List.getD,hz]
   unfold D0;rw [e],Fe y.1 _ (D4 (aE (x.1,y.1))) fun i z hz=>by
   have e:(aE (x.1,y.1)).bonds[i]?=some z.1:=by simp [aE,hz]
   unfold D4;rw [e];rfl]
 unfold Fd HV;cases h1:x.1.zipIdx.find? (D0 (aE (x.1,y.1))) with
 | some z=>
   have hm:=List.mem_zipIdx (List.mem_of_find?_eq_some h1);simp at hm;have:=pa z.2 z.1 (by rw [List.getElem?_eq_getElem (by omega)];exact congrArg some hm.2.symm);simp only [Option.map_some];rw [this,pl]
 | none=>
   simp only [Option.map_none];cases h2:y.1.zipIdx.find? (D4 (aE (x.1,y.1))) with
   | some z=>
     have hm:=List.mem_zipIdx (List.mem_of_find?_eq_some h2);simp at hm;have:=pb z.2 z.1 (by rw [List.getElem?_eq_getElem (by omega)];exact congrArg some hm.2.symm);simp only [Option.map_some];rw [this,pe,pl,hlen]
   | none=>rfl
def aU (z:Bond×Nat):Nat×Nat:=(z.1.a,z.1.b)
theorem Ff (q:Nat×Nat) (b:Bytes) (p:Nat) (x:(Bond×Nat)×Bytes×Nat) (h:sA q b p=.ok x):aU x.1=q:=by
 unfold sA at h;obtain ⟨w,h3,h⟩:=aM h;cases h;unfold p7 at h3;obtain ⟨a1,h1,h3⟩:=aM h3;obtain ⟨a2,h2,h3⟩:=aM h3;cases h3;rfl
theorem Kc {M:Mol} (h:ng M.n (M.bonds.map fun x=>(x.a,x.b))) (v:Nat):M.beside v=bG (M.bonds.map fun x=>(x.a,x.b)) v:=by
 unfold Mol.beside;refine C6 h v _ fun w=>?_;rw [List.any_map];unfold Mol.joined Mol.bond;rw [Bool.eq_iff_iff,List.find?_isSome,List.any_eq_true];rfl
end JM
namespace JM
open Fk
abbrev vC:=List ((Nat×Nat)×Nat)
def iM (q:Nat×Nat) (v:Nat):Bool:=q.1==v||q.2==v
def nL (z:vC) (v:Nat):Nat:=(z.map fun x=>if iM x.1 v=true then x.2 else 0).sum
theorem Mj (v:Nat):nL [] v=0:=rfl
theorem qK (x:(Nat×Nat)×Nat) (z:vC) (v:Nat):nL (x::z) v=(if iM x.1 v=true then x.2 else 0)+nL z v:=by simp [nL]
theorem CO (y z:vC) (v:Nat):nL (y++z) v=nL y v+nL z v:=by simp [nL]
def uc (bs:List (Nat×Nat)) (v:Nat):Nat:=(bs.filter fun q=>iM q v).length
theorem Ml (q:Nat×Nat) (bs:List (Nat×Nat)) (v:Nat):uc (q::bs) v=(if iM q v=true then 1 else 0)+uc bs v:=by
 unfold uc;rw [List.filter_cons];cases iM q v<;>simp;omega
def Uh (z:vC):Prop:=∀ x ∈ z,1<=x.2/\x.2<=3
theorem tN:∀ {z:vC},Uh z->∀ v,uc (z.map fun x=>x.1) v<=nL z v/\nL z v<=3 * uc (z.map fun x=>x.1) v
 | [],_,v=>by simp [uc,nL]
 | x::z,h,v=>by
  have ih:=tN (z:=z) (fun y hy=>h y (by simp [hy])) v
  have hx:=h x (by simp)
  rw [List.map_cons,Ml,qK]
  cases iM x.1 v with
  | true=>simp only [if_true];omega
  | false=>simp only [Bool.false_eq_true,if_false];omega
def less (s:List Int) (q:Nat×Nat) (o:Nat):List Int:=(s.modify q.1 (· - (o:Int))).modify q.2 (· - (o:Int))
theorem Mm (s:List Int) (q:Nat×Nat) (o:Nat):(less s q o).length=s.length:=by simp [less]
theorem less_get {s:List Int} {q:Nat×Nat} (hq:q.1 < q.2) (o v:Nat):(less s q o)[v]?=(s[v]?).map fun x=>if iM q v=true then x - (o:Int) else x:=by
 unfold less iM;rw [List.getElem?_modify,List.getElem?_modify];by_cases h1:q.1=v
 . have h2:¬ q.2=v:=by omega
   cases s[v]?<;>simp [h1,h2]
 . by_cases h2:q.2=v
   . cases s[v]?<;>simp [h1,h2]
   . cases s[v]?<;>simp [h1,h2]
def run (s:List Int) (z:vC):List Int:=z.foldl (fun s x=>less s x.1 x.2) s
theorem sC (s:List Int) (y z:vC):run s (y++z)=run (run s y) z:=by simp [run]
theorem W8 (s:List Int) (z:vC):(run s z).length=s.length:=by
 induction z generalizing s with
 | nil=>rfl
 | cons x z ih=>exact (ih _).trans (Mm _ _ _)
theorem run_get:∀ {z:vC} {s:List Int} (_:∀ x ∈ z,x.1.1 < x.1.2) (v:Nat),(run s z)[v]?=(s[v]?).map fun x=>x - (nL z v:Int)
 | [],s,_,v=>by
  show s[v]?=_
  cases s[v]?<;>simp [nL]
 | x::z,s,h,v=>by
  have ih:=run_get (z:=z) (s:=less s x.1 x.2) (fun y hy=>h y (by simp [hy])) v
  show (run (less s x.1 x.2) z)[v]?=_
  rw [ih,less_get (h x (by simp)),qK]
  cases s[v]? with
  | none=>rfl
  | some u=>
   cases iM x.1 v with
   | true=>simp;omega
   | false=>simp
structure Valid (n:Nat) (S:List Int) (bs:List (Nat×Nat)) (z:vC):Prop where
 of:z.map (fun x=>x.1)=bs
 all:Uh z
 sum:∀ v,v < n->S[v]?=some (nL z v:Int)
def met (left:Int) (k:Nat):Bool:=decide ((k:Int)<=left)&&decide (left<=3 * (k:Int))
def Kd (S:List Int) (bs:List (Nat×Nat)):Nat->List Int->Prop
 | 0,s=>s=S
 | k+1,s'=>∃ s q o,Kd S bs k s/\bs[k]?=some q/\(1<=o/\o<=3)/\s'=less s q o/\met (s'.getD q.1 0) (uc (bs.drop (k+1)) q.1)=true/\met (s'.getD q.2 0) (uc (bs.drop (k+1)) q.2)=true
def NT (S:List Int) (bs:List (Nat×Nat)):Nat->List Int->Prop
 | 0,s=>Kd S bs bs.length s
 | j+1,s=>Kd S bs (bs.length - (j+1)) s/\∃ q o,bs[bs.length - (j+1)]?=some q/\(1<=o/\o<=3)/\NT S bs j (less s q o)
def Found (S:List Int) (bs:List (Nat×Nat)) (k o:Nat):Prop:=∃ s q,Kd S bs k s/\bs[k]?=some q/\NT S bs (bs.length - (k+1)) (less s q o)
section
variable {n:Nat} {S:List Int} {bs:List (Nat×Nat)}
theorem Kd.way:∀ {k:Nat} {s:List Int},Kd S bs k s->∃ z:vC,z.map (fun x=>x.1)=bs.take k/\Uh z/\s=run S z
 | 0,s,h=>⟨[],by simp,fun x hx=>by simp at hx,h⟩
 | k+1,s',⟨s,q,o,hL,hq,ho,hs,_⟩=>by
   obtain ⟨z,h1,h2,h3⟩:=hL.way
   refine ⟨z++[(q,o)],?_,?_,?_⟩
   . rw [List.map_append,h1,List.take_add_one,hq]
     rfl
   . intro x hx
     rcases List.mem_append.mp hx with hx | hx
     . exact h2 x hx
     . rw [List.mem_singleton.mp hx];exact ho
   . rw [sC,<- h3,hs]
     rfl
theorem Kd.len {k:Nat} {s:List Int} (h:Kd S bs k s):s.length=S.length:=by
 obtain ⟨z,_,_,rfl⟩:=h.way;exact W8 _ _
theorem vD {α:Type} {l:List α} {k:Nat} {x:α} (h:l[k]?=some x):l.drop k=x::l.drop (k+1):=by
 obtain ⟨hl,hg⟩:=List.getElem?_eq_some_iff.mp h;rw [List.drop_eq_getElem_cons hl,hg]
theorem Kd.zero (hr:∀ q ∈ bs,q.1 < q.2) (hS:∀ v x,S[v]?=some x->uc bs v=0->x=0):∀ {k:Nat} {s:List Int},Kd S bs k s->∀ v x,s[v]?=some x->uc (bs.drop k) v=0->x=0
 | 0,s,h,v,x,hx,hb=>by
   rw [show s=S from h] at hx
   exact hS v x hx (by simpa using hb)
 | k+1,s',⟨s,q,o,hL,hq,ho,hs,m1,m2⟩,v,x,hx,hb=>by
   have hlt:q.1 < q.2:=hr q (List.mem_of_getElem? hq)
   by_cases t1:q.1=v
   . have e:s'.getD q.1 0=x:=by rw [List.getD,t1,hx];rfl
     rw [e,t1,hb] at m1
     unfold met at m1
     simp only [Bool.and_eq_true,decide_eq_true_eq] at m1
     omega
   . by_cases t2:q.2=v
     . have e:s'.getD q.2 0=x:=by rw [List.getD,t2,hx];rfl
       rw [e,t2,hb] at m2
       unfold met at m2
       simp only [Bool.and_eq_true,decide_eq_true_eq] at m2
       omega
     . have ht:iM q v=false:=by simp [iM,t1,t2]
       rw [hs,less_get hlt,ht] at hx
       cases hy:s[v]? with
       | none=>rw [hy] at hx;cases hx
       | some y=>
         rw [hy] at hx
         have e:y=x:=by simpa using hx
         subst e
         refine Kd.zero hr hS hL v y hy ?_
         rw [vD hq,Ml,ht,hb]
         rfl
theorem NT.way:∀ {j:Nat} {s:List Int},j<=bs.length->NT S bs j s->∃ z:vC,z.map (fun x=>x.1)=bs.drop (bs.length - j)/\Uh z/\Kd S bs bs.length (run s z)
 | 0,s,_,h=>⟨[],by simp,fun x hx=>by simp at hx,h⟩
 | j+1,s,hj,⟨_,q,o,hq,ho,hW⟩=>by
   obtain ⟨z,h1,h2,h3⟩:=hW.way (by omega)
   refine ⟨(q,o)::z,?_,?_,h3⟩
   . rw [List.map_cons,h1,vD hq,show bs.length - (j+1)+1=bs.length - j by omega]
   . intro x hx
     rcases List.mem_cons.mp hx with hx | hx
     . rw [hx];exact ho
     . exact h2 x hx
theorem Mn (hr:∀ q ∈ bs,q.1 < q.2) (hn:S.length=n) (hS:∀ v x,S[v]?=some x->uc bs v=0->x=0) {k o:Nat} (ho:1<=o/\o<=3) (h:Found S bs k o):∃ z,Valid n S bs z/\(z[k]?).map (fun x=>x.2)=some o:=by
 obtain ⟨s,q,hL,hq,hW⟩:=h;have hk:k < bs.length:=(List.getElem?_eq_some_iff.mp hq).1;obtain ⟨y,y1,y2,y3⟩:=hL.way;obtain ⟨z,z1,z2,z3⟩:=hW.way (by omega);have yl:y.length=k:=by
   have:=congrArg List.length y1;simp at this;omega
 have e:(y++(q,o)::z).map (fun x=>x.1)=bs:=by
   rw [List.map_append,List.map_cons,y1,z1,show bs.length - (bs.length - (k+1))=k+1 by omega];show bs.take k++q::bs.drop (k+1)=bs;rw [<- vD hq,List.take_append_drop]
 have er:run S (y++(q,o)::z)=run (less s q o) z:=by
   rw [sC,<- y3];rfl
 have hlt:∀ x ∈ y++(q,o)::z,x.1.1 < x.1.2:=fun x hx=>hr x.1 (by rw [<- e];exact List.mem_map_of_mem hx);refine ⟨y++(q,o)::z,⟨e,?_,fun v hv=>?_⟩,?_⟩
 . intro x hx
   rcases List.mem_append.mp hx with hx | hx
   . exact y2 x hx
   . rcases List.mem_cons.mp hx with hx | hx
     . rw [hx];exact ho
     . exact z2 x hx
 . have g:=run_get (s:=S) hlt v
   have hSv:S[v]?=some S[v]:=List.getElem?_eq_getElem (by omega);rw [er,hSv] at g;have h0:S[v] - (nL (y++(q,o)::z) v:Int)=0:=z3.zero hr hS v _ g (by simp [uc]);rw [hSv];congr 1;omega
 . rw [List.getElem?_append_right (by omega),yl,Nat.sub_self]
   rfl
theorem Valid.at {z:vC} (h:Valid n S bs z) {k:Nat} {x:(Nat×Nat)×Nat} (hz:z[k]?=some x):bs[k]?=some x.1:=by
 have:=congrArg (fun l=>l[k]?) h.of;simp only [List.getElem?_map,hz] at this;exact this.symm
theorem yK (hr:∀ q ∈ bs,q.1 < q.2/\q.2 < n) (hn:S.length=n) {z:vC} (h:Valid n S bs z):∀ k,k<=bs.length->Kd S bs k (run S (z.take k))
 | 0,_=>rfl
 | k+1,hk=>by
  have ih:=yK hr hn h k (by omega)
  have zl:z.length=bs.length:=by rw [<- h.of];simp
  have hz:z[k]?=some z[k]:=List.getElem?_eq_getElem (by omega)
  have hq:bs[k]?=some z[k].1:=h.at hz
  have hlt:=hr _ (List.mem_of_getElem? hq)
  have e:run S (z.take (k+1))=less (run S (z.take k)) z[k].1 z[k].2:=by
   rw [List.take_add_one,hz,sC];rfl
  have a3:=h.all z[k] (List.getElem_mem _);have hm:∀ v,v < n->met ((run S (z.take (k+1))).getD v 0) (uc (bs.drop (k+1)) v)=true:=fun v hv=>by
   have g:=run_get (s:=S) (z:=z.take (k+1)) (fun x hx=>(hr x.1 (by rw [<- h.of];exact List.mem_map_of_mem (List.mem_of_mem_take hx))).1) v;rw [h.sum v hv] at g;have c:nL z v=nL (z.take (k+1)) v+nL (z.drop (k+1)) v:=by rw [<- CO,List.take_append_drop]
   have b:=tN (z:=z.drop (k+1)) (fun x hx=>h.all x (List.mem_of_mem_drop hx)) v;rw [List.map_drop,h.of] at b;have e:(run S (z.take (k+1))).getD v 0=(nL z v:Int) - (nL (z.take (k+1)) v:Int):=by
    rw [List.getD,g];rfl
   rw [e];unfold met;simp only [Bool.and_eq_true,decide_eq_true_eq];omega
  exact ⟨_,z[k].1,z[k].2,ih,hq,a3,e,hm _ (by omega),hm _ (by omega)⟩
theorem HW (hr:∀ q ∈ bs,q.1 < q.2/\q.2 < n) (hn:S.length=n) {z:vC} (h:Valid n S bs z):∀ j,j<=bs.length->NT S bs j (run S (z.take (bs.length - j)))
 | 0,_=>by
  have:=yK hr hn h bs.length (Nat.le_refl _)
  exact this
 | j+1,hj=>by
  have ih:=HW hr hn h j (by omega)
  have zl:z.length=bs.length:=by rw [<- h.of];simp
  have hz:z[bs.length - (j+1)]?=some z[bs.length - (j+1)]:=List.getElem?_eq_getElem (by omega)
  have hq:bs[bs.length - (j+1)]?=some z[bs.length - (j+1)].1:=h.at hz
  refine ⟨yK hr hn h _ (by omega),_,z[bs.length - (j+1)].2,hq,h.all _ (List.getElem_mem _),?_⟩
  have e:run S (z.take (bs.length - j))=less (run S (z.take (bs.length - (j+1)))) z[bs.length - (j+1)].1 z[bs.length - (j+1)].2:=by
   rw [show bs.length - j=bs.length - (j+1)+1 by omega,List.take_add_one,hz,sC];rfl
  rw [<- e];exact ih
theorem Mp (hr:∀ q ∈ bs,q.1 < q.2/\q.2 < n) (hn:S.length=n) {z:vC} (h:Valid n S bs z) {k o:Nat} (hk:(z[k]?).map (fun x=>x.2)=some o):Found S bs k o:=by
 have zl:z.length=bs.length:=by rw [<- h.of];simp
 cases hz:z[k]? with
 | none=>rw [hz] at hk;cases hk
 | some x=>
  rw [hz] at hk;have ho:x.2=o:=by simpa using hk
  have hlt:k < z.length:=(List.getElem?_eq_some_iff.mp hz).1;refine ⟨run S (z.take k),x.1,yK hr hn h k (by omega),by rw [<- h.of,List.getElem?_map,hz];rfl,?_⟩;have w:=HW hr hn h (bs.length - (k+1)) (by omega);rw [show bs.length - (bs.length - (k+1))=k+1 by omega,List.take_add_one,hz,sC] at w;rw [<- ho];exact w
end
end JM
namespace JM
open Fk
theorem HX (l:List Nat) (v n i:Nat):(addTo l v n)[i]?=(l[i]?).map fun x=>if i=v then x+n else x:=by
 unfold addTo;rw [List.getElem?_map,List.getElem?_zipIdx];cases l[i]?<;>simp
theorem HZ (l:List Nat) (v n:Nat):(addTo l v n).length=l.length:=by simp [addTo]
def yq (x:Bond):Nat×Nat:=(x.a,x.b)
theorem Mq {part:List Nat} {x:Bond} (hx:x.a < x.b) (o v:Nat) (hv:v < part.length):(addTo (addTo part x.a o) x.b o).getD v 0=part.getD v 0+(if iM (yq x) v=true then o else 0):=by
 have e:part[v]?=some part[v]:=List.getElem?_eq_getElem hv;rw [List.getD,List.getD,HX,HX,e];unfold iM yq;by_cases h1:x.a=v
 . have h2:¬ v=x.b:=by omega
   simp [h1,h2]
 . by_cases h2:x.b=v
   . have h3:¬ v=x.a:=by omega
     simp [h2,h3]
   . have h3:¬ v=x.a:=by omega
     have h4:¬ v=x.b:=by omega
     simp [h1,h2,h3,h4]
theorem DL {α β:Type}:∀ (l:List α) (r:List β),l.length=r.length->(l.zip r).map (fun x=>x.1)=l
 | [],[],_=>rfl
 | [],_::_,h=>by simp at h
 | _::_,[],h=>by simp at h
 | a::l,b::r,h=>by simp [DL l r (by simpa using h)]
theorem Bq {α β:Type}:∀ (l:List α) (r:List β),l.length=r.length->(l.zip r).map (fun x=>x.2)=r
 | [],[],_=>rfl
 | [],_::_,h=>by simp at h
 | _::_,[],h=>by simp at h
 | a::l,b::r,h=>by simp [Bq l r (by simpa using h)]
theorem Ke {l:List (Nat×Nat)} {r:List Nat} (h:∀ o ∈ r,1<=o/\o<=3):Uh (l.zip r):=fun x hx=>h x.2 (List.of_mem_zip hx).2
theorem Zq (l:List Bond) (v:Nat):uc (l.map yq) v=(l.filter fun x=>x.at_ v).length:=by
 unfold uc;rw [List.filter_map,List.length_map];rfl
theorem ud (want:List Nat):∀ (l:List Bond) (part:List Nat),part.length=want.length->(∀ x ∈ l,x.a < x.b/\x.b < want.length)->∀ r,r ∈ ordersFor want l part ↔
   (r.length=l.length/\(∀ o ∈ r,1<=o/\o<=3)/\∀ v,v < want.length->want.getD v 0=part.getD v 0+nL ((l.map yq).zip r) v)
 | [],part,hp,_,r=>by
   unfold ordersFor
   by_cases h:part=want
   . subst h
     simp [nL]
     rintro rfl
     simp
   . have:(part==want)=false:=by simpa using h
     rw [this]
     simp only [Bool.false_eq_true,if_false,List.not_mem_nil,false_iff]
     rintro ⟨h1,_,h3⟩
     have hr:r=[]:=List.eq_nil_of_length_eq_zero (by simpa using h1)
     subst hr
     refine h (List.ext_getElem? fun v=>?_)
     by_cases hv:v < want.length
     . have:=h3 v hv
       simp only [List.map_nil,List.zip_nil_left,Mj] at this
       rw [List.getElem?_eq_getElem hv,List.getElem?_eq_getElem (by omega)]
       rw [List.getD,List.getD,List.getElem?_eq_getElem hv,List.getElem?_eq_getElem (show v < part.length by omega)] at this
       simp only [Option.getD_some] at this
       rw [show part[v]=want[v] by omega]
     . rw [List.getElem?_eq_none (by omega),List.getElem?_eq_none (by omega)]
 | x::l,part,hp,hx,r=>by
   have hxa:=hx x (by simp)
   have hl:∀ y ∈ l,y.a < y.b/\y.b < want.length:=fun y hy=>hx y (by simp [hy])
   unfold ordersFor
   rw [List.mem_flatMap]
   have aaP:∀ o,(addTo (addTo part x.a o) x.b o).length=want.length:=fun o=>by rw [HZ,HZ,hp]
   constructor
   . rintro ⟨o,ho,hr⟩
     have ho':1<=o/\o<=3:=by
       simp at ho;omega
     simp only at hr;split at hr
     . obtain ⟨r',hr',rfl⟩:=List.mem_map.mp hr
       obtain ⟨h1,h2,h3⟩:=(ud want l _ (aaP o) hl r').mp hr';refine ⟨by simp [h1],fun y hy=>?_,fun v hv=>?_⟩
       . rcases List.mem_cons.mp hy with hy | hy
         . rw [hy];exact ho'
         . exact h2 y hy
       . have:=h3 v hv
         rw [Mq hxa.1 o v (by omega)] at this;rw [List.map_cons,List.zip_cons_cons,qK];dsimp only;omega
     . simp at hr
   . rintro ⟨h1,h2,h3⟩
     cases r with
     | nil=>simp at h1
     | cons o r'=>
       have ho:=h2 o (by simp);have h3':∀ v,v < want.length->want.getD v 0=(addTo (addTo part x.a o) x.b o).getD v 0+nL ((l.map yq).zip r') v:=fun v hv=>by
         have:=h3 v hv;rw [List.map_cons,List.zip_cons_cons,qK] at this;rw [Mq hxa.1 o v (by omega)];dsimp only at this;omega
       have hlen:r'.length=l.length:=by simpa using h1
       have a3:∀ y ∈ r',1<=y/\y<=3:=fun y hy=>h2 y (by simp [hy]);have can:∀ v,v < want.length->canStill (addTo (addTo part x.a o) x.b o) want l v=true:=fun v hv=>by
         have b:=tN (z:=(l.map yq).zip r') (Ke a3) v;rw [DL _ _ (by simp [hlen]),Zq] at b;have:=h3' v hv;unfold canStill;simp only [Bool.and_eq_true,decide_eq_true_eq];omega
       refine ⟨o,by simp;omega,?_⟩;simp only;rw [can x.a (by omega),can x.b hxa.2];simp only [Bool.and_self,if_true];exact List.mem_map.mpr ⟨r',(ud want l _ (aaP o) hl r').mpr ⟨hlen,a3,h3'⟩,rfl⟩
theorem Mr:∀ (l:List Nat) (a:Nat),l.foldl (· + ·) a=a+l.sum
 | [],a=>by simp
 | x::l,a=>by rw [List.foldl_cons,Mr l,List.sum_cons];omega
theorem OX:∀ (l:List Bond) (v:Nat),((l.filter fun x=>x.at_ v).map Bond.order).sum=nL ((l.map yq).zip (l.map Bond.order)) v
 | [],v=>rfl
 | x::l,v=>by
  have ih:=OX l v
  rw [List.map_cons,List.map_cons,List.zip_cons_cons,qK,<- ih,List.filter_cons]
  show _=(if x.at_ v=true then x.order else 0)+_
  cases x.at_ v<;>simp
section
variable {M:Mol}
def d8 (M:Mol):List (Nat×Nat):=M.bonds.map yq
def gQ (M:Mol):List Int:=M.sums.map fun (n:Nat)=>(n:Int)
theorem Ms (v:Nat):M.sum v=nL ((d8 M).zip M.orders) v:=by
 unfold Mol.sum;rw [Mr,Nat.zero_add];exact OX _ _
theorem mi {v:Nat} (hv:v < M.n):M.sums[v]?=some (M.sum v):=by
 unfold Mol.sums;rw [List.getElem?_map,List.getElem?_range hv];rfl
theorem Br:M.sums.length=M.n:=by simp [Mol.sums]
theorem yL:(gQ M).length=M.n:=by simp [gQ,Br]
theorem yM {v:Nat} (hv:v < M.n):(gQ M)[v]?=some (M.sum v:Int):=by
 unfold gQ;rw [List.getElem?_map,mi hv];rfl
structure lE (M:Mol):Prop where
 ends:∀ q ∈ d8 M,q.1 < q.2/\q.2 < M.n
 QU:∀ x ∈ M.bonds,1<=x.order/\x.order<=3
theorem lE.own (g:lE M):Valid M.n (gQ M) (d8 M) ((d8 M).zip M.orders):=by
 refine ⟨DL _ _ (by simp [d8,Mol.orders]),Ke fun o ho=>?_,fun v hv=>by rw [yM hv,Ms]⟩;obtain ⟨x,hx,rfl⟩:=List.mem_map.mp ho;exact g.QU x hx
theorem lE.zero (g:lE M):∀ v x,(gQ M)[v]?=some x->uc (d8 M) v=0->x=0:=fun v x hx hb=>by
 have hv:v < M.n:=by rw [<- yL];exact (List.getElem?_eq_some_iff.mp hx).1
 rw [g.own.sum v hv] at hx
 have b:=tN g.own.all v
 rw [g.own.of,hb] at b
 have:=Option.some.inj hx
 omega
def CP (M:Mol):List (List Nat):=M.redrawings.map Mol.orders
theorem yr {r:List Nat} (h:r.length=M.bonds.length):(M.ordered r).orders=r:=by
 unfold Mol.ordered Mol.orders;simp only [List.map_map];show (M.bonds.zip r).map (fun x=>x.2)=r;exact Bq _ _ h.symm
theorem lE.rows (g:lE M) (r:List Nat):r ∈ CP M ↔ r.length=M.bonds.length/\Valid M.n (gQ M) (d8 M) ((d8 M).zip r):=by
 have e:∀ r',r' ∈ ordersFor M.sums M.bonds (M.sums.map fun _=>0) ↔ (r'.length=M.bonds.length/\(∀ o ∈ r',1<=o/\o<=3)/\∀ v,v < M.sums.length->M.sums.getD v 0=(M.sums.map fun _=>0).getD v 0+nL ((M.bonds.map yq).zip r') v):=
   ud _ _ _ (by simp) fun x hx=>by rw [Br];exact g.ends (yq x) (List.mem_map_of_mem hx)
 have z:∀ v,(M.sums.map fun _=>0).getD v 0=0:=fun v=>by
   rw [List.getD,List.getElem?_map];cases M.sums[v]?<;>rfl
 constructor
 . intro h
   obtain ⟨N,hN,rfl⟩:=List.mem_map.mp h;obtain ⟨r',hr',rfl⟩:=List.mem_map.mp hN;obtain ⟨h1,h2,h3⟩:=(e r').mp hr';rw [yr h1];refine ⟨h1,DL _ _ (by simp [d8,h1]),Ke h2,fun v hv=>?_⟩;have:=h3 v (by rw [Br];exact hv);rw [z,List.getD,mi hv] at this;rw [yM hv];simp only [Option.getD_some] at this;rw [this];simp [d8]
 . rintro ⟨h1,h2⟩
   refine List.mem_map.mpr ⟨M.ordered r,List.mem_map.mpr ⟨r,(e r).mpr ⟨h1,fun o ho=>?_,fun v hv=>?_⟩,rfl⟩,yr h1⟩
   . have e2:=Bq (d8 M) r (by simp [d8,h1])
     rw [<- e2] at ho;obtain ⟨x,hx,rfl⟩:=List.mem_map.mp ho;exact h2.all x hx
   . rw [Br] at hv
     have:=h2.sum v hv;rw [yM hv] at this;rw [z,List.getD,mi hv];have:=Option.some.inj this;simp only [Option.getD_some];show M.sum v=0+nL ((d8 M).zip r) v;omega
theorem lE.found (g:lE M) {k o:Nat} (hk:k < M.bonds.length) (ho:1<=o/\o<=3):Found (gQ M) (d8 M) k o ↔ ∃ r ∈ CP M,r[k]?=some o:=by
 constructor
 . intro h
   obtain ⟨z,hz,hk'⟩:=Mn (fun q hq=>(g.ends q hq).1) yL g.zero ho h;have zl:z.length=M.bonds.length:=by
     have:=congrArg List.length hz.of;simpa [d8] using this
   have ez:(d8 M).zip (z.map fun x=>x.2)=z:=by
     rw [<- hz.of,List.zip_map'];simp
   refine ⟨z.map fun x=>x.2,(g.rows _).mpr ⟨by simp [zl],by rw [ez];exact hz⟩,?_⟩;rw [List.getElem?_map];exact hk'
 . rintro ⟨r,hr,hk'⟩
   obtain ⟨h1,h2⟩:=(g.rows r).mp hr;refine Mp g.ends yL h2 ?_;have e2:=Bq (d8 M) r (by simp [d8,h1]);rw [<- List.getElem?_map,e2];exact hk'
noncomputable def iI (P:Nat->Prop):Nat:=by
 classical exact (if P 1 then 1 else 0)+(if P 2 then 2 else 0)+(if P 3 then 4 else 0)
theorem QV (P:Nat->Prop):iI P=2 ↔ ¬ P 1/\P 2/\¬ P 3:=by
 unfold iI;by_cases h1:P 1<;>by_cases h2:P 2<;>by_cases h3:P 3<;>simp [h1,h2,h3]
theorem lE.fixed (g:lE M) {k:Nat} (hk:k < M.bonds.length):(M.fixedAt k==2)=decide (iI (Found (gQ M) (d8 M) k)=2):=by
 have hx:M.bonds[k]?=some M.bonds[k]:=List.getElem?_eq_getElem hk;have own:M.orders ∈ CP M:=(g.rows _).mpr ⟨by simp [Mol.orders],g.own⟩;have ok:M.orders[k]?=some M.bonds[k].order:=by unfold Mol.orders;rw [List.getElem?_map,hx];rfl
 have e:M.fixedAt k=if ((CP M).all fun r=>r[k]?==some M.bonds[k].order)=true then M.bonds[k].order else 0:=by
   unfold Mol.fixedAt Mol.fixed;simp only;rw [List.getD,List.getElem?_map,List.getElem?_zipIdx,hx];simp only [Option.map_some,Option.getD_some,Nat.zero_add];rfl
 rw [Bool.eq_iff_iff,beq_iff_eq,decide_eq_true_eq,QV,g.found hk (by omega),g.found hk (by omega),g.found hk (by omega),e];have b3:=g.QU _ (List.getElem_mem hk);constructor
 . intro h
   split at h
   . rename_i ha
     rw [List.all_eq_true] at ha;have ha':∀ r ∈ CP M,r[k]?=some 2:=fun r hr=>by
       have:=ha r hr;rw [h] at this;simpa using this
     have no:∀ o,o ≠ 2->¬ ∃ r,r ∈ CP M/\r[k]?=some o:=fun o ho ⟨r,hr,q⟩=>by
       rw [ha' r hr] at q;exact ho (Option.some.inj q).symm
     exact ⟨no 1 (by decide),⟨_,own,by rw [ok,h]⟩,no 3 (by decide)⟩
   . omega
 . rintro ⟨n1,_,n3⟩
   have all2:∀ r ∈ CP M,r[k]?=some 2:=fun r hr=>by
     obtain ⟨h1,h2⟩:=(g.rows r).mp hr;have hrk:r[k]?=some r[k]:=List.getElem?_eq_getElem (by omega);have:1<=r[k]/\r[k]<=3:=by
       have e2:=Bq (d8 M) r (by simp [d8,h1]);have hm:r[k] ∈ ((d8 M).zip r).map fun x=>x.2:=e2.symm ▸ List.getElem_mem (by omega);obtain ⟨x,hx',q⟩:=List.mem_map.mp hm;rw [<- q];exact h2.all x hx'
     have c1:r[k] ≠ 1:=fun q=>n1 ⟨r,hr,by rw [hrk,q]⟩;have c3:r[k] ≠ 3:=fun q=>n3 ⟨r,hr,by rw [hrk,q]⟩;rw [hrk,show r[k]=2 by omega]
   have o2:M.bonds[k].order=2:=by
     have:=all2 _ own;rw [ok] at this;exact Option.some.inj this
   rw [if_pos,o2];rw [List.all_eq_true];intro r hr;rw [all2 r hr,o2];rfl
end
end JM
namespace MP
open PySem PySem.Spec PyProof.Rows L2
open XL (gE)
open Fk (Fault Bytes numIn need andThen Atom Bond Mol)
def aaQ (a:Atom):List (Str×V):=[("element",.int (a.element:Int)),("isotope",.int (a.isotope:Int)),("charge",.int (a.charge+4)),("hydrogens",.int (a.hydrogens:Int)),("hand",.int (a.hand:Int))]
def aaR (x:Bond):List (Str×V):=[("a",.int (x.a:Int)),("b",.int (x.b:Int)),("order",.int (x.order:Int)),("side",.int (x.side:Int))]
def pR (C:Addr):ua (Atom×Nat):=fun D H v z=>∃ o dx,v=.ref o/\D o/\H o=some (.ins C dx (aaQ z.1))
theorem pR.ok (C:Addr):yh (pR C):=⟨fun ⟨o,dx,e,d,h⟩ k=>⟨o,dx,e,d,k _ _ d h⟩,fun ⟨o,dx,e,d,h⟩ k=>⟨o,dx,e,k _ d,h⟩⟩
def nM (C:Addr):ua (Bond×Nat):=fun D H v z=>∃ o dx,v=.ref o/\D o/\H o=some (.ins C dx (aaR z.1))
theorem nM.ok (C:Addr):yh (nM C):=⟨fun ⟨o,dx,e,d,h⟩ k=>⟨o,dx,e,d,k _ _ d h⟩,fun ⟨o,dx,e,d,h⟩ k=>⟨o,dx,e,k _ d,h⟩⟩
variable {P:Program} {w:World} {K:Zqq} {mg:Str->Option Value} {base:Heap} {t:Ad}
section
def Ui (C:Addr):Sp:=fun vs H Q _=>∃ (o dx:Addr) (a:Atom),vs=[.ref o,.int (a.element:Int),.int (a.isotope:Int),.int (a.charge+4),.int (a.hydrogens:Int),.int (a.hand:Int)]/\H o=some (.ins C dx []) /\
 ∀ H',H' o=some (.ins C dx (aaQ a))->jq [o] H H'->Q .non H'
theorem QW:aQ ["self","element","isotope","charge","hydrogens","hand"] ["self","element","isotope","charge","hydrogens","hand"] (aF xr):=lT (by decide +kernel)
theorem QX (T:Txt K mg t):bF P w K mg base mL 1 t.jG t.p8 ["self","element","isotope","charge","hydrogens","hand"] (Ui t.eB):=by
 refine T.pI.ok QW (fun vs H Q E h=>?_) (fun cdv A outer s H vs Q E hr h=>?_)
 . obtain ⟨o,dx,a,rfl,_⟩:=h
   rfl
 . obtain ⟨o,dx,a,rfl,h0,k⟩:=h
   refine ⟨_,ak (ck (pv 0) (pv 1) rfl) (ak (ck (pv 0) (pv 2) rfl) (ak (ck (pv 0) (pv 3) rfl) (ak (ck (pv 0) (pv 4) rfl) (az (ck (pv 0) (pv 5) rfl))))),?_⟩;refine ⟨_,rfl,_,rfl,o,_,dx,_,rfl,h0,T.mH,T.l9,(by show 0 < 1000;decide),?_⟩;refine ⟨_,rfl,_,rfl,o,_,dx,_,rfl,ai,T.mH,T.lA,(by show 1 < 1000;decide),?_⟩;refine ⟨_,rfl,_,rfl,o,_,dx,_,rfl,ai,T.mH,T.lZ,(by show 2 < 1000;decide),?_⟩;refine ⟨_,rfl,_,rfl,o,_,dx,_,rfl,ai,T.mH,T.fJ,(by show 3 < 1000;decide),?_⟩;refine ⟨_,rfl,_,rfl,o,_,dx,_,rfl,ai,T.mH,T.lB,(by show 4 < 1000;decide),?_⟩;refine k _ ai fun b u e n=>?_;have nb:b ≠ o:=by simpa using n
   simp only [mW];rw [aq nb];exact e
def Uj (C:Addr):Sp:=fun vs H Q _=>∃ (o dx p:Addr) (x:Bond),vs=[.ref o,.ref p,.int (x.order:Int),.int (x.side:Int)]/\H o=some (.ins C dx []) /\
 H p=some (.tup [.int (x.a:Int),.int (x.b:Int)])/\∀ H',H' o=some (.ins C dx (aaR x))->jq [o] H H'->Q .non H'
theorem QY:aQ ["self","pair","order","side"] ["self","pair","order","side"] (aF xu):=lT (by decide +kernel)
theorem QZ (T:Txt K mg t):bF P w K mg base mL 1 t.jH t.p9 ["self","pair","order","side"] (Uj t.eE):=by
 refine T.pJ.ok QY (fun vs H Q E h=>?_) (fun cdv A outer s H vs Q E hr h=>?_)
 . obtain ⟨o,dx,p,x,rfl,_⟩:=h
   rfl
 . obtain ⟨o,dx,p,z,rfl,h0,hp,k⟩:=h
   refine ⟨_,ak (ck (pv 0) (bV wW (pv 1) aN (fun _ _=>rfl)) rfl) (ak (ck (pv 0) (bV wW (pv 1) aN (fun _ _=>rfl)) rfl) (ak (ck (pv 0) (pv 2) rfl) (az (ck (pv 0) (pv 3) rfl)))),?_⟩;have po:p ≠ o:=mX hp h0 (by intro z;cases z);refine ⟨_,rfl,XD (nU.of hp) rfl ⟨_,rfl,o,_,dx,_,rfl,h0,T.gG,T.kr,(by show 0 < 1000;decide),?_⟩⟩;refine ⟨_,rfl,XD (nU.of (by rw [aq po];exact hp)) rfl ⟨_,rfl,o,_,dx,_,rfl,ai,T.gG,T.ku,(by show 1 < 1000;decide),?_⟩⟩;refine ⟨_,rfl,_,rfl,o,_,dx,_,rfl,ai,T.gG,T.lK,(by show 2 < 1000;decide),?_⟩;refine ⟨_,rfl,_,rfl,o,_,dx,_,rfl,ai,T.gG,T.lC,(by show 3 < 1000;decide),?_⟩;refine k _ ai fun b u e n=>?_;have nb:b ≠ o:=by simpa using n
   simp only [mW];rw [aq nb];exact e
theorem Cs:aQ ["reader","element","isotope","charge","hydrogens","hand"] ["reader"] (aF xy):=lT (by decide +kernel)
theorem Zr (T:Txt K mg t):bF P w K mg base (uP P w) 6 t.ja t.pF ["reader"] (OT K t.aG t.aH JM.wA (pR t.eB)):=by
 have GB:=@lD P w K mg base t T;have GI:=@QX P w K mg base t T;obtain ⟨NN,g1⟩:=T.rN;obtain ⟨XF,g2⟩:=T.xR;obtain ⟨tk3,g3⟩:=T.tX;obtain ⟨tk4,g4⟩:=T.oO;obtain ⟨tk5,g5⟩:=T.CM;refine T.mQ.K9 Cs (fun vs H Q E h=>?_) (fun cdv A outer s H vs Q E hr h=>?_)
 . obtain ⟨r,x,rfl,_⟩:=h
   rfl
 . obtain ⟨r,x,rfl,R,bD⟩:=h
   have hr2:dG 2 _:=hr.mono (by decide);have MX:dG 5 _:=hr.mono (by decide);refine ⟨_,ak (aR (i:=1) Cs.nd rfl (Or.inl rfl) (aW (pv 0) T.aL T.aJ GB MX T.aI .nil c7 (af aN (af aN (af (aV rfl g1 (v:=.int 118) ⟨_,rfl⟩) au)))))
     (ak (aR (i:=2) Cs.nd rfl (Or.inl rfl) (aW (pv 0) T.aL T.aJ GB MX T.aI .nil c7 (af aN (af aN (af (aV rfl g2 (v:=.int 500) ⟨_,rfl⟩) au)))))
     (ak (aR (i:=3) Cs.nd rfl (Or.inl rfl) (aW (pv 0) T.aL T.aJ GB MX T.aI .nil c7 (af aN (af aN (af (aV rfl g3 (v:=.int 8) ⟨_,rfl⟩) au)))))
     (ak (aR (i:=4) Cs.nd rfl (Or.inl rfl) (aW (pv 0) T.aL T.aJ GB MX T.aI .nil c7 (af aN (af aN (af (aV rfl g4 (v:=.int 7) ⟨_,rfl⟩) au)))))
     (ak (aR (i:=5) Cs.nd rfl (Or.inl rfl) (aW (pv 0) T.aL T.aJ GB MX T.aI .nil c7 (af aN (af aN (af (aV rfl g5 (v:=.int 2) ⟨_,rfl⟩) au)))))
     (az (bc (qz T.Te GI hr2 rfl T.Td T.C9 .nil bE (af (pv 1) (af (pv 2) (af (pv 3) (af (pv 4) (af (pv 5) au)))))))))))),?_⟩
   unfold JM.wA JM.qR at bD;simp only [JM.bq] at bD;obtain ⟨d0,e0⟩:=R.obj;refine ⟨_,rfl,r,d0,_,rfl,e0,rfl,?_⟩;refine ⟨r,1,1,118,_,rfl,R,.inl rfl,mh.good (g':=fun v=>decide (1<=v)&&decide (v<=Fk.ELEMENTS)) (fun v=>by rw [Bool.eq_iff_iff];simp only [Bool.and_eq_true,decide_eq_true_eq];unfold Fk.ELEMENTS;omega) (bD.andThen'.mono fun y1 hy1 bD H1 R1 F1=>?_)⟩;obtain ⟨d1,e1⟩:=R1.obj;refine ⟨_,rfl,r,d1,_,rfl,e1,rfl,?_⟩;refine ⟨r,2,0,500,_,rfl,R1,.inr rfl,mh.good (g':=fun v=>decide (v<=Fk.ISOTOPE)) (fun v=>by rw [Bool.eq_iff_iff];simp only [Bool.and_eq_true,decide_eq_true_eq];unfold Fk.ISOTOPE;omega) (bD.andThen'.mono fun y2 Ze bD H2 R2 F2=>?_)⟩;obtain ⟨d2,e2⟩:=R2.obj;refine ⟨_,rfl,r,d2,_,rfl,e2,rfl,?_⟩;refine ⟨r,1,0,8,_,rfl,R2,.inl rfl,mh.good (g':=fun v=>decide (v<=8)) (fun v=>by rw [Bool.eq_iff_iff];simp only [Bool.and_eq_true,decide_eq_true_eq];omega) (bD.andThen'.mono fun y3 hy3 bD H3 R3 F3=>?_)⟩;obtain ⟨d3,e3⟩:=R3.obj;refine ⟨_,rfl,r,d3,_,rfl,e3,rfl,?_⟩;refine ⟨r,1,0,7,_,rfl,R3,.inl rfl,mh.good (g':=fun v=>decide (v<=7)) (fun v=>by rw [Bool.eq_iff_iff];simp only [Bool.and_eq_true,decide_eq_true_eq];omega) (bD.andThen'.mono fun y4 hy4 bD H4 R4 F4=>?_)⟩;obtain ⟨d4,e4⟩:=R4.obj;refine ⟨_,rfl,r,d4,_,rfl,e4,rfl,?_⟩;refine ⟨r,1,0,2,_,rfl,R4,.inl rfl,mh.good (g':=fun v=>decide (v<=2)) (fun v=>by rw [Bool.eq_iff_iff];simp only [Bool.and_eq_true,decide_eq_true_eq];omega) (bD.andThen'.mono fun y5 hy5 bD H5 R5 F5=>?_)⟩;obtain ⟨d5,e5⟩:=R5.obj;have F:jq [r] H H5:=(((F1.trans F2).trans F3).trans F4).trans F5;refine ⟨_,rfl,_,rfl,_,rfl,_,rfl,_,rfl,fun o dx no nd ne=>?_⟩;refine ⟨o,dx,⟨y1.1,y2.1,(y3.1:Int) - 4,y4.1,y5.1⟩,?_,ai,fun H6 h6 F6=>⟨rfl,?_⟩⟩
   . simp
   . have F7:jq [] H5 H6:=jq.made no nd F6
     exact bD H6 (.ref o) (R5.stay F7 (by simp) (by simp) (by simp) (by simp)) (F.trans (F7.mono (by simp))) ⟨o,dx,rfl,F.fresh e5 no,h6⟩
theorem NU:aQ ["reader","pair","order","side"] ["reader","pair"] (aF x6):=lT (by decide +kernel)
theorem Zs (T:Txt K mg t):bF P w K mg base (uP P w) 6 t.jb t.pG ["reader","pair"] (JV K t.aG t.aH JM.sA (nM t.eE)):=by
 have GB:=@lD P w K mg base t T;have GI:=@QZ P w K mg base t T;obtain ⟨NN,g1⟩:=T.tZ;obtain ⟨XF,g2⟩:=T.oR;obtain ⟨tk3,g3⟩:=T.CN;refine T.mR.K9 NU (fun vs H Q E h=>?_) (fun cdv A outer s H vs Q E hr h=>?_)
 . obtain ⟨r,p,q,x,rfl,_⟩:=h
   rfl
 . obtain ⟨r,p,q,x,rfl,R,hp,bD⟩:=h
   have hr2:dG 2 _:=hr.mono (by decide);refine ⟨_,ak (aR (i:=2) NU.nd rfl (Or.inl rfl) (aW (pv 0) T.aL T.aJ GB hr T.aI .nil c7 (af aN (af (aV rfl g1 (v:=.int 1) ⟨_,rfl⟩) (af (aV rfl g2 (v:=.int 3) ⟨_,rfl⟩) au)))))
     (ak (aR (i:=3) NU.nd rfl (Or.inl rfl) (aW (pv 0) T.aL T.aJ GB hr T.aI .nil c7 (af aN (af aN (af (aV rfl g3 (v:=.int 2) ⟨_,rfl⟩) au)))))
     (az (bc (qz T.Tg GI hr2 rfl T.Tf T.CA .nil bE (af (pv 1) (af (pv 2) (af (pv 3) au))))))),?_⟩
   unfold JM.sA JM.p7 at bD;simp only [JM.bq] at bD;obtain ⟨d0,e0⟩:=R.obj;have pr:p ≠ r:=mX hp e0 (by intro z;cases z);refine ⟨_,rfl,r,d0,_,rfl,e0,rfl,?_⟩;refine ⟨r,1,1,3,_,rfl,R,.inl rfl,mh.good (g':=fun v=>decide (1<=v)&&decide (v<=3)) (fun v=>by rw [Bool.eq_iff_iff];simp only [Bool.and_eq_true,decide_eq_true_eq];omega) (bD.andThen'.mono fun y1 hy1 bD H1 R1 F1=>?_)⟩;obtain ⟨d1,e1⟩:=R1.obj;refine ⟨_,rfl,r,d1,_,rfl,e1,rfl,?_⟩;refine ⟨r,1,0,2,_,rfl,R1,.inl rfl,mh.good (g':=fun v=>decide (v<=2)) (fun v=>by rw [Bool.eq_iff_iff];simp only [Bool.and_eq_true,decide_eq_true_eq];omega) (bD.andThen'.mono fun y2 Ze bD H2 R2 F2=>?_)⟩;obtain ⟨d2,e2⟩:=R2.obj;have F:jq [r] H H2:=F1.trans F2;have hp2:=F p _ hp (by simpa using pr);refine ⟨_,rfl,_,rfl,_,rfl,fun o dx no nd ne=>?_⟩;refine ⟨o,dx,p,⟨q.1,q.2,y1.1,y2.1⟩,rfl,ai,?_,fun H5 h5 F5=>⟨rfl,?_⟩⟩
   . rw [aq (ay hp2 no),aq (ay hp2 nd)];exact hp2
   . have F6:jq [] H2 H5:=jq.made no nd F5
     exact bD H5 (.ref o) (R2.stay F6 (by simp) (by simp) (by simp) (by simp)) (F.trans (F6.mono (by simp))) ⟨o,dx,rfl,F.fresh e2 no,h5⟩
end
end MP
namespace L2
open PySem PySem.Spec PyProof.Rows
section
variable {X:Cx}
def aaS (K:Zqq):V->V->Hp->VK->Prop:=fun o i H Q=>∃ (p:Addr) (xs:List V) (j:Nat) (v:V),o=.ref p/\i=.int (j:Int)/\bI K H p xs/\xs[j]?=some v/\Q v H
theorem Bt:aah X (aaS X.K):=by
 intro pins s σ H o i ov iv Q I ro ri h;obtain ⟨p,xs,j,z,rfl,rfl,hq,he,q⟩:=h;cases ro;obtain ⟨t,rfl⟩:=ri;obtain ⟨its,r,pl,hz⟩:=I.list hq;obtain ⟨w,ew,rw'⟩:=r.get he;have hl:=r.length;have hn:=BE;have hj:j < xs.length:=(List.getElem?_eq_some_iff.mp he).1;exact wpAny_getItem_list pl.isList (by omega) (by omega) (by simpa using ew) ⟨z,H,I,rw',q⟩
theorem DM {K0:Zqq} {e:Expr} {f:Str} {pos:Pos} {ta:TE} (hK:X.K=K0) (he:PE X e ta) (hb:attributeBase e f X.env (eval e X.env)=eval e X.env):PE X (.Attribute e f pos) (aao K0 ta f):=by
 rw [<- hK];exact aA he hb
theorem Bu {n j:Nat} (h:j < n):V3 n (j:Int)=some j:=by
 unfold V3;rw [if_pos (by omega),if_pos (by omega)];simp
end
end L2
namespace MP
open PySem PySem.Spec PyProof.Rows L2
open XL (gE)
open Fk (Fault Bytes numIn need andThen Atom Bond Mol)
def vI (l:List Int):List V:=l.map V.int
variable {P:Program} {w:World} {K:Zqq} {mg:Str->Option Value} {base:Heap} {t:Ad}
section
def aaT:Sp:=fun vs H Q _=>∃ o:Nat,vs=[.int (o:Int)]/\1<=o/\o<=3/\Q (.int ((2 ^ (o - 1):Nat):Int)) H
theorem Zt:aQ ["order"] ["order"] (aF xx):=lT (by decide +kernel)
theorem Uk (T:Txt K mg t):bF P w K mg base mL 1 t.kR t.pC ["order"] aaT:=by
 refine T.ly.ok Zt (fun vs H Q E h=>?_) (fun cdv A outer s H vs Q E hr h=>?_)
 . obtain ⟨o,rfl,_⟩:=h
   rfl
 . obtain ⟨o,rfl,h1,h3,k⟩:=h
   refine ⟨_,az (bc (gU Sb aN (gU wU (pv 0) aN))),?_⟩;refine ⟨_,rfl,_,_,rfl,rfl,_,_,rfl,rfl,⟨by omega,by omega,by decide⟩,?_⟩;have e:(1:Int) * 2 ^ ((o:Int) - 1).toNat=((2 ^ (o - 1):Nat):Int):=by
     rw [show ((o:Int) - 1).toNat=o - 1 by omega];simp
   show Q (.int (1 * 2 ^ ((o:Int) - 1).toNat)) H;rw [e];exact k
def aaU:Sp:=fun vs H Q _=>∃ (l:Int) (k:Nat),vs=[.int l,.int (k:Int)]/\k < 1000/\Q (.bl (JM.met l k)) H
theorem Zu:aQ ["left","bonds"] ["left","bonds"] (aF vf):=lT (by decide +kernel)
theorem Zv (T:Txt K mg t):bF P w K mg base mL 1 t.jR t.nE ["left","bonds"] aaU:=by
 obtain ⟨NN,g1⟩:=T.tZ;obtain ⟨XF,g2⟩:=T.oR;refine T.jU.ok Zu (fun vs H Q E h=>?_) (fun cdv A outer s H vs Q E hr h=>?_)
 . obtain ⟨o,k,rfl,_⟩:=h
   rfl
 . obtain ⟨l,n,rfl,hn,k⟩:=h
   refine ⟨_,az (bc (KJ Ht Ht (gU Nj (aV rfl g1 (v:=.int 1) ⟨_,rfl⟩) (pv 1)) (pv 0) (gU Nj (aV rfl g2 (v:=.int 3) ⟨_,rfl⟩) (pv 1)))),?_⟩;refine ⟨_,rfl,_,_,rfl,rfl,.inl ⟨by decide,by decide⟩,_,rfl,_,_,rfl,rfl,_,rfl,?_⟩;have e:JM.met l n=(decide (1 * (n:Int)<=l)&&decide (l<=3 * (n:Int))):=by
     unfold JM.met;rw [Int.one_mul]
   rw [e] at k;refine zp (fun h=>?_) (fun h=>?_)
   . refine ⟨_,rfl,_,_,rfl,rfl,.inl ⟨by decide,by decide⟩,_,_,rfl,rfl,?_⟩
     rw [h,Bool.true_and] at k;exact k
   . rw [Bool.not_eq_true] at h
     rw [h,Bool.false_and] at k;exact k
def oY (K:Zqq) (H:Hp) (lb:Addr) (us:List V) (l:List (Nat×Nat)):Prop:=H lb=some (.lst us)/\us.length=l.length/\∀ (i:Nat) v q,us[i]?=some v->l[i]?=some q->sf K H v q
theorem oY.same {H H':Hp} {lb:Addr} {us:List V} {l:List (Nat×Nat)} (b:oY K H lb us l) (f:aS H H'):oY K H' lb us l:=
 ⟨f _ _ b.1,b.2.1,fun i v q h1 h2=>(b.2.2 i v q h1 h2).same f⟩
def Ul (K:Zqq):Sp:=fun vs H Q _=>∃ (lb:Addr) (k v:Nat) (us:List V) (l:List (Nat×Nat)),vs=[.ref lb,.int (k:Int),.int (v:Int)]/\oY K H lb us l/\k < l.length/\l.length<=1000 /\
 ∀ H',aS H H'->Q (.int (JM.uc (l.drop (k+1)) v:Int)) H'
theorem Ct:aQ ["bonds","k","atom","bond"] ["bonds","k","atom"] (aF qU):=lT (by decide +kernel)
theorem Um {xs:List V} {k:Nat} (h:k<=xs.length):IG xs (some (k:Int)) none=xs.drop k:=by
 unfold IG;rw [HT.V1,HT.Sm,Nat.min_eq_left h];exact List.take_of_length_le (by rw [List.length_drop];omega)
theorem Mt (l:List (Nat×Nat)) (q:Nat×Nat) (v:Nat):JM.uc (l++[q]) v=JM.uc l v+(if JM.iM q v=true then 1 else 0):=by
 unfold JM.uc;rw [List.filter_append,List.length_append];congr 1;cases h:JM.iM q v<;>simp [h]
theorem Ra (T:Txt K mg t):bF P w K mg base mL 1 t.iy t.kT ["bonds","k","atom"] (Ul K):=by
 refine T.iG.ok Ct (fun vs H Q E h=>?_) (fun cdv A outer s H vs Q E hr h=>?_)
 . obtain ⟨lb,k,v,us,l,rfl,_⟩:=h
   rfl
 . obtain ⟨lb,n,v,us,l,rfl,B,hn,hl,k⟩:=h
   refine ⟨_,az (bc (c6 bx (by rfl) T.kG PySem.boot_len (af (C4 rfl Ct.nd (gD (KN O7 (pv 0) (O4 (gU uS (pv 1) aN)) O3)) (jv (own:=[("bond",3)]) rfl) (fun _ _ _ _ _=>bu (i:=3) Ct.nd rfl (Or.inl rfl))
     (fun _ _ _ _ _=>sY (PW.pt (RQ (d9 nV (pv 2) (DM (K0:=K) rfl (pv 3) rfl) (cg _)) (Nc (d9 nV (pv 2) (DM (K0:=K) rfl (pv 3) rfl) (cg _)))))) (fun _ _ _ _ _=>pv 3)) au))),?_⟩
   refine ⟨_,rfl,_,rfl,_,_,rfl,rfl,_,rfl,lb,us,rfl,bI.of B.1,fun p hp=>?_⟩;have e:IG us (some ((n:Int)+1)) none=us.drop (n+1):=by
     rw [show (n:Int)+1=((n+1:Nat):Int) by omega];exact Um (by rw [B.2.1];omega)
   rw [e];have sp:aS H (upd H p (.lst (us.drop (n+1)))):=aK hp;refine ⟨p,rfl,⟨_,bI.of ai⟩,fun D hD=>?_⟩;have sD:aS H (upd (upd H p (.lst (us.drop (n+1)))) D (.lst [])):=sp.trans (aK hD);have pD:p ≠ D:=fun z=>by rw [<- z,ai] at hD;cases hD
   refine mY (K:=K) (a:=p) (xs:=us.drop (n+1)) (fun i H'=>aS H H'/\H' p=some (.lst (us.drop (n+1)))/\∃ acc,H' D=some (.lst acc)/\acc.length=JM.uc ((l.drop (n+1)).take i) v) ⟨sD,by rw [aq pD];exact ai,[],ai,rfl⟩ (fun i H' _ h=>bI.of h.2.1) ?_ ?_
   . rintro i x H' hx ⟨sm,hp',acc,hD',hacc⟩
     have hil:i < l.length - (n+1):=by
       have:=(List.getElem?_eq_some_iff.mp hx).1;rw [List.length_drop,B.2.1] at this;exact this
     obtain ⟨q,hq⟩:∃ q,(l.drop (n+1))[i]?=some q:=⟨_,List.getElem?_eq_getElem (by rw [List.length_drop];exact hil)⟩;have en:sf K H' x q:=((B.2.2 (n+1+i) x q (by rw [<- hx,List.getElem?_drop]) (by rw [<- hq,List.getElem?_drop]))).same sm;obtain ⟨o,C,dx,fs,rfl,e1,cl,na,nb,ea,eb⟩:=en;have tk:=MP.take_snoc hq;have ac:acc.length < sizeLine:=by
       have:acc.length<=l.length:=by
         rw [hacc];refine Nat.le_trans (List.length_filter_le _ _) ?_;rw [List.length_take,List.length_drop];omega
       rw [sizeLine_eq];omega
     have pd':D ≠ p:=Ne.symm pD;have aaV:∀ ys,aS H (upd H' D (.lst ys)):=fun ys b u e=>by
       have:b ≠ D:=fun z=>by
         have h1:=sp b u e;rw [z,hD] at h1;cases h1
       rw [aq this];exact sm b u e
     have go:JM.iM q v=true->∀ y,∃ acc,H' D=some (.lst acc)/\acc.length < sizeLine/\(aS H (upd H' D (.lst (acc++[y])))/\upd H' D (.lst (acc++[y])) p=some (.lst (us.drop (n+1)))/\∃ acc',upd H' D (.lst (acc++[y])) D=some (.lst acc')/\acc'.length=JM.uc ((l.drop (n+1)).take (i+1)) v):=fun ht y=>
       ⟨acc,hD',ac,aaV _,by rw [aq pD];exact hp',_,ai,by rw [tk,Mt,ht,<- hacc];simp⟩
     have no:JM.iM q v=false->(aS H H'/\H' p=some (.lst (us.drop (n+1)))/\∃ acc',H' D=some (.lst acc')/\acc'.length=JM.uc ((l.drop (n+1)).take (i+1)) v):=fun ht=>
       ⟨sm,hp',acc,hD',by rw [tk,Mt,ht,<- hacc];simp⟩
     refine ⟨rfl,_,rfl,_,rfl,o,C,dx,fs,_,rfl,e1,cl,na,ea,rfl,_,rfl,?_⟩;by_cases h1:q.1=v
     . have ht:JM.iM q v=true:=by simp [JM.iM,h1]
       rw [decide_eq_true (by rw [h1])];exact ⟨_,rfl,go ht _⟩
     . rw [decide_eq_false (fun z=>h1 (by injection z with z;omega))]
       refine ⟨_,rfl,_,rfl,o,C,dx,fs,_,rfl,e1,cl,nb,eb,rfl,_,rfl,?_⟩;by_cases h2:q.2=v
       . have ht:JM.iM q v=true:=by simp [JM.iM,h2]
         rw [decide_eq_true (by rw [h2])];exact ⟨_,rfl,go ht _⟩
       . have ht:JM.iM q v=false:=by simp [JM.iM,h1,h2]
         rw [decide_eq_false (fun z=>h2 (by injection z with z;omega))];exact no ht
   . rintro H' ⟨sm,hp',acc,hD',hacc⟩
     rw [List.length_drop,B.2.1,<- List.length_drop,List.take_length] at hacc;refine ⟨D,acc,rfl,.inl (bI.of hD'),?_⟩;rw [hacc];exact k H' sm
def Zw (K:Zqq):Sp:=fun vs H Q _=>∃ (st:Addr) (v:V) (o n:Nat) (s:List Int) (q:Nat×Nat),vs=[.ref st,v,.int (o:Int)]/\H st=some (.tup (vI s))/\sf K H v q/\q.1 < q.2/\q.2 < s.length/\s.length<=1000 /\
 ∀ H' p,aS H H'->H p=none->H' p=some (.tup (vI (JM.less s q o)))->Q (.ref p) H'
theorem OY:aQ ["state","bond","order","left"] ["state","bond","order"] (aF ve):=lT (by decide +kernel)
theorem Fg {l:List Int} {i:Nat} {x:Int} (f:Int->Int) (h:l[i]?=some x):l.set i (f x)=l.modify i f:=by
 refine List.ext_getElem? fun j=>?_;rw [List.getElem?_modify,List.getElem?_set];by_cases e:i=j
 . subst e
   obtain ⟨hl,rfl⟩:=List.getElem?_eq_some_iff.mp h;simp [hl]
 . simp [e]
theorem Fi (l:List Int) (i:Nat) (x:Int):(vI l).set i (.int x)=vI (l.set i x):=by
 unfold vI;rw [List.map_set]
theorem sE {l:List Int} {i:Nat} {x:Int} (h:l[i]?=some x):(vI l)[i]?=some (.int x):=by
 unfold vI;rw [List.getElem?_map,h];rfl
theorem OZ (T:Txt K mg t):bF P w K mg base mL 1 t.jQ t.nB ["state","bond","order"] (Zw K):=by
 refine T.jT.ok OY (fun vs H Q E h=>?_) (fun cdv A outer s H vs Q E hr h=>?_)
 . obtain ⟨st,v,o,n,s,q,rfl,_⟩:=h
   rfl
 . obtain ⟨st,v,o,n,Zx,q,rfl,hst,en,h12,h2n,hn,k⟩:=h
   refine ⟨_,ak (aR (i:=3) OY.nd rfl (Or.inl rfl) (yC IK (by rfl) T.ND PyProof.Rows.boot_list (af (pv 0) au)))
     (ak (D7 (pv 3) (aA (pv 1) rfl) Bt (pv 2) RW set_list)
     (ak (D7 (pv 3) (aA (pv 1) rfl) Bt (pv 2) RW set_list)
     (az (bc (yC tS (by rfl) T.DI PyProof.Rows.boot_tuple (af (pv 3) au)))))),?_⟩
   obtain ⟨b,C,dx,fs,rfl,e1,cl,na,nb,ea,eb⟩:=en;refine ⟨_,rfl,st,_,rfl,.inr (nU.of hst),fun l hl=>?_⟩;have s1:aS H (upd H l (.lst (vI Zx))):=aK hl;obtain ⟨x1,hx1⟩:∃ x,Zx[q.1]?=some x:=⟨_,List.getElem?_eq_getElem (by omega)⟩;have hlen:(vI Zx).length=Zx.length:=by simp [vI]
   refine ⟨_,rfl,_,rfl,b,C,dx,fs,_,rfl,s1 _ _ e1,cl,na,ea,l,_,q.1,_,rfl,rfl,bI.of ai,sE hx1,_,rfl,_,_,rfl,rfl,l,_,(q.1:Int),q.1,rfl,rfl,ai,Bu (by rw [hlen];omega),?_⟩;rw [Fi,mW,Fg (f:=fun x=>x - (o:Int)) hx1];obtain ⟨x2,Ud⟩:∃ x,(Zx.modify q.1 fun x=>x - (o:Int))[q.2]?=some x:=⟨_,List.getElem?_eq_getElem (by simp;omega)⟩;have s2:aS H (upd H l (.lst (vI (Zx.modify q.1 fun x=>x - (o:Int))))):=aK hl;refine ⟨_,rfl,_,rfl,b,C,dx,fs,_,rfl,s2 _ _ e1,cl,nb,eb,l,_,q.2,_,rfl,rfl,bI.of ai,sE Ud,_,rfl,_,_,rfl,rfl,l,_,(q.2:Int),q.2,rfl,rfl,ai,Bu (by simp [vI];omega),?_⟩;rw [Fi,mW,Fg (f:=fun x=>x - (o:Int)) Ud];refine ⟨_,rfl,l,_,rfl,.inl ⟨bI.of ai,fun p hp=>?_⟩⟩;have s3:aS H (upd H l (.lst (vI (JM.less Zx q o)))):=aK hl;exact k _ p (s3.trans (aK hp)) (s3.free hp) ai
def ways (ys:List (Bond×Nat)):JM.vC:=ys.map fun z=>(JM.aU z,z.1.order)
def sF (n:Nat) (z:JM.vC):List Int:=(List.range n).map fun v=>(JM.nL z v:Int)
def Zy (K:Zqq) (C:Addr):Sp:=fun vs H Q _=>∃ (n:Nat) (lb:Addr) (us:List V) (ys:List (Bond×Nat)) (D:Addr->Prop),vs=[.int (n:Int),.ref lb]/\n<=1000/\H lb=some (.lst us)/\cR (nM C) D H us ys /\
 (∀ q ∈ ys.map JM.aU,q.1 < q.2/\q.2 < n)/\∀ H' l,aS H H'->H l=none->H' l=some (.lst (vI (sF n (ways ys))))->Q (.ref l) H'
theorem Kf:aQ ["n","bonds","sums","bond"] ["n","bonds"] (aF vd):=lT (by decide +kernel)
theorem mi {n:Nat} {f:Nat->Int} {v:Nat} (h:v < n):((List.range n).map f)[v]?=some (f v):=by
 rw [List.getElem?_map,List.getElem?_range h];rfl
theorem Bv {n:Nat} {f:Nat->Int} {v:Nat} {x:Int}:((List.range n).map f).set v x=(List.range n).map fun u=>if u=v then x else f u:=by
 refine List.ext_getElem? fun j=>?_;rw [List.getElem?_set];by_cases hj:j < n
 . rw [mi hj]
   by_cases e:v=j
   . subst e
     simp [hj]
   . have e':¬ j=v:=fun z=>e z.symm
     simp [e,e',mi hj]
 . have e1:((List.range n).map fun u=>if u=v then x else f u)[j]?=none:=List.getElem?_eq_none (by simp;omega)
   rw [e1];by_cases e:v=j
   . subst e;simp [hj]
   . rw [if_neg e]
     exact List.getElem?_eq_none (by simp;omega)
theorem zeros (n:Nat):(List.replicate n [V.int 0]).flatten=vI (sF n []):=by
 unfold vI sF;rw [List.map_map];refine List.ext_getElem? fun j=>?_;have e:(List.replicate n [V.int 0]).flatten=List.replicate n (V.int 0):=by
   induction n with
   | zero=>rfl
   | succ n ih=>rw [List.replicate_succ,List.flatten_cons,ih];rfl
 rw [e,List.getElem?_replicate];by_cases hj:j < n
 . rw [if_pos hj,List.getElem?_map,List.getElem?_range hj]
   rfl
 . rw [if_neg hj]
   exact (List.getElem?_eq_none (by simp;omega)).symm
theorem W9 (T:Txt K mg t):bF P w K mg base mL 1 t.jP t.nA ["n","bonds"] (Zy K t.eE):=by
 refine T.lJ.ok Kf (fun vs H Q E h=>?_) (fun cdv A outer s H vs Q E hr h=>?_)
 . obtain ⟨n,lb,us,ys,D,rfl,_⟩:=h
   rfl
 . obtain ⟨n,lb,us,ys,D,rfl,hn,hlb,R,hq,k⟩:=h
   refine ⟨_,ak (aR (i:=2) Kf.nd rfl (Or.inl rfl) (gU Su (kC (af aN au)) (pv 0)))
     (ak (fj PassesOwn.never rfl (gD (pv 1)) (bu (i:=3) Kf.nd rfl (Or.inl rfl))
       (ak (D7 (pv 2) (aA (pv 3) rfl) Bt (aA (pv 3) rfl) IB set_list)
       (az (D7 (pv 2) (aA (pv 3) rfl) Bt (aA (pv 3) rfl) IB set_list))))
     (az (bc (pv 2)))),?_⟩
   refine ⟨by show 1<=sizeLine;decide,fun p0 hp0=>⟨_,rfl,p0,_,_,rfl,rfl,ai,by omega,by omega,by rw [sizeLine_eq];simp;omega,fun l hl=>?_⟩⟩;rw [Int.toNat_natCast,zeros];have s0:aS H (upd H p0 (.lst [V.int 0])):=aK hp0;have s1:aS H (upd (upd H p0 (.lst [V.int 0])) l (.lst (vI (sF n [])))):=s0.trans (aK hl);have XI:H l=none:=s0.free hl;refine ⟨_,rfl,lb,rfl,⟨_,bI.of (s1 _ _ hlb)⟩,?_⟩;let wN:L2.Iv:=fun i σ H'=>∃ vb,σ=[some (.int (n:Int)),some (.ref lb),some (.ref l),vb]/\aS H H'/\H' l=some (.lst (vI (sF n ((ways ys).take i))));refine ph (K:=K) (a:=lb) (xs:=us) wN ⟨none,rfl,s1,ai⟩ (fun i σ H' _ ⟨_,_,sm,_⟩=>bI.of (sm _ _ hlb)) ?_ ?_
   . rintro i x σ H' hx ⟨vb,rfl,sm,hl'⟩
     have hi:i < us.length:=(List.getElem?_eq_some_iff.mp hx).1;obtain ⟨z,hz⟩:∃ z,ys[i]?=some z:=⟨_,List.getElem?_eq_getElem (by rw [<- R.len];exact hi)⟩;obtain ⟨o,dx,rfl,_,rep⟩:=R.at_ i x z hx hz;have hqz:=hq (JM.aU z) (List.mem_map_of_mem (List.mem_of_getElem? hz));have ez:(ways ys)[i]?=some (JM.aU z,z.1.order):=by unfold ways;rw [List.getElem?_map,hz];rfl
     have ol:o ≠ l:=fun q=>by
       have:=sm _ _ rep;rw [q,hl'] at this;cases this
     have ln:∀ w:JM.vC,(vI (sF n w)).length=n:=fun w=>by simp [vI,sF]
     refine ⟨_,rfl,_,rfl,fld (sm _ _ rep) T.gG T.kr rfl ⟨l,_,z.1.a,_,rfl,rfl,bI.of hl',sE (mi (by have:z.1.a < z.1.b/\z.1.b < n:=hqz;omega)),?_⟩⟩;refine ⟨_,rfl,fld (sm _ _ rep) T.gG T.lK rfl ⟨_,_,rfl,rfl,l,_,(z.1.a:Int),z.1.a,rfl,rfl,hl',Bu (by rw [ln];have:z.1.a < z.1.b/\z.1.b < n:=hqz;omega),?_⟩⟩;have keep:∀ u,aS H (upd H' l u):=fun u b v e=>by
       rw [aq (ay e XI)];exact sm b v e
     rw [Fi];unfold sF;rw [Bv];refine ⟨_,rfl,_,rfl,fld (keep _ _ _ rep) T.gG T.ku rfl ⟨l,_,z.1.b,_,rfl,rfl,bI.of ai,sE (mi hqz.2),?_⟩⟩;refine ⟨_,rfl,fld (keep _ _ _ rep) T.gG T.lK rfl ⟨_,_,rfl,rfl,l,_,(z.1.b:Int),z.1.b,rfl,rfl,ai,Bu (by simp [vI];exact hqz.2),?_⟩⟩;rw [Fi,Bv,mW];refine ⟨_,rfl,keep _,?_⟩;rw [ai,take_snoc ez];congr 3;refine List.map_congr_left fun u hu=>?_;rw [JM.CO,JM.qK,JM.Mj];have hlt:z.1.a < z.1.b:=hqz.1;by_cases h1:u=z.1.a
     . have h2:¬ u=z.1.b:=by omega
       have ht:JM.iM (JM.aU z) u=true:=by simp [JM.iM,JM.aU,h1]
       rw [if_neg h2,if_pos h1,if_pos ht,h1];simp
     . by_cases h2:u=z.1.b
       . have ht:JM.iM (JM.aU z) u=true:=by simp [JM.iM,JM.aU,h2]
         have h3:¬ z.1.b=z.1.a:=by omega
         rw [if_pos h2,if_pos ht,if_neg h3,h2];simp
       . have ht:¬ JM.iM (JM.aU z) u=true:=by
           simp [JM.iM,JM.aU];omega
         rw [if_neg h2,if_neg h1,if_neg ht];simp
   . rintro σ H' ⟨vb,rfl,sm,hl'⟩
     have e:(ways ys).take us.length=ways ys:=List.take_of_length_le (by unfold ways;rw [List.length_map,R.len];exact Nat.le_refl _);rw [e] at hl';exact ⟨_,rfl,k H' l sm XI hl'⟩
end
def kI (s:List Int):List Key:=s.map Sum.inl
theorem D5 (s:List Int):(kI s).map kV=vI s:=by
 unfold kI vI;rw [List.map_map];rfl
theorem vE {s u:List Int} (h:kI s=kI u):s=u:=List.map_inj_right (fun a b e=>by injection e) |>.mp h
structure D6 (kvs:List (List Key×V)) (Pr:List Int->Prop):Prop where
 of:∀ kv ∈ kvs,∃ s,kv.1=kI s/\Pr s
 all:∀ s,Pr s->(jW kvs (kI s)).isSome=true
theorem yt {kvs:List (List Key×V)} {k:List Key} (h:(jW kvs k).isSome=true):∃ kv ∈ kvs,kv.1=k:=by
 rw [<- mZ,List.any_eq_true] at h;obtain ⟨kv,h1,h2⟩:=h;exact ⟨kv,h1,of_decide_eq_true h2⟩
theorem Uo {kvs:List (List Key×V)} {kv:List Key×V} (h:kv ∈ kvs):(jW kvs kv.1).isSome=true:=by
 rw [<- mZ,List.any_eq_true];exact ⟨kv,h,decide_eq_true rfl⟩
theorem D6.iff {kvs:List (List Key×V)} {Pr:List Int->Prop} (d:D6 kvs Pr) (s:List Int):(jW kvs (kI s)).isSome=true ↔ Pr s:=
 ⟨fun h=>by
  obtain ⟨kv,h1,h2⟩:=yt h
  obtain ⟨u,e,p⟩:=d.of kv h1
  rw [e] at h2
  rw [<- vE h2]
  exact p,d.all s⟩
theorem D6.nil:D6 [] fun _=>False:=⟨fun kv h=>by simp at h,fun _ h=>h.elim⟩
theorem D6.put {kvs:List (List Key×V)} {Pr:List Int->Prop} (d:D6 kvs Pr) (s:List Int) (v:V):D6 (putK kvs (kI s) v) fun u=>Pr u\/u=s:=by
 refine ⟨fun kv h=>?_,fun u hu=>?_⟩
 . have:=Uo h
   rw [Af] at this;by_cases e:kv.1=kI s
   . exact ⟨s,e,.inr rfl⟩
   . rw [if_neg e] at this
     obtain ⟨kv',h1,h2⟩:=yt this;obtain ⟨u,e',p⟩:=d.of kv' h1;exact ⟨u,h2 ▸ e',.inl p⟩
 . rw [Af]
   by_cases e:kI u=kI s
   . rw [if_pos e];rfl
   . rw [if_neg e]
     rcases hu with hu | hu
     . exact d.all u hu
     . exact absurd (by rw [hu]) e
theorem D6.eq {kvs:List (List Key×V)} {Pr Pr':List Int->Prop} (d:D6 kvs Pr) (h:∀ s,Pr s ↔ Pr' s):D6 kvs Pr':=
 ⟨fun kv hk=>let ⟨s,e,p⟩:=d.of kv hk;⟨s,e,(h s).mp p⟩,fun s p=>d.all s ((h s).mpr p)⟩
theorem Ia {d:Addr} {o:Obj} {kvs:List (List Key×V)} {g:TG} {tb:TS} {D:Ends} {σ:L2.St} {H:Hp} (Pv:Nat->L2.St->Hp->Prop) (h0:Pv 0 σ H) (hl:∀ i σ H,Pv i σ H->H d=some (.pZ o (.dT kvs)))
   (hs:∀ i k v b σ H,kvs[i]?=some (k,v)->Pv i σ H->H b=some (.tup (k.map kV))->g (.ref b) σ H fun σ2 H2=>tb { D with nx:=Pv (i+1),ct:=Pv (i+1),bk:=D.nx } σ2 H2) (hd:∀ σ H,Pv kvs.length σ H->D.nx σ H) :
   ∃ W:Nat->Nat->L2.St->Hp->Prop,(∃ m,W 0 m σ H)/\∀ i m σ H,W i m σ H->
     ((S6 d o kvs).stop i H/\D.nx σ H)\/((S6 d o kvs).go i H/\∃ N:L2.St->Hp->Prop,(∀ σ' H',N σ' H'->∃ m',m' < m/\W (i+1) m' σ' H')/\∀ x H',(S6 d o kvs).RY i H x H'->g x σ H' fun σ2 H2=>tb { D with nx:=N,ct:=N,bk:=D.nx } σ2 H2):=by
 refine ⟨fun i m σ H=>m=kvs.length - i/\i<=kvs.length/\Pv i σ H,⟨kvs.length,by simp,Nat.zero_le _,h0⟩,?_⟩;rintro i m σ H ⟨rfl,hi,p⟩;have q:=hl i σ H p;by_cases hlt:i < kvs.length
 . refine .inr ⟨⟨q,hlt⟩,Pv (i+1),fun σ' H' p'=>⟨kvs.length - (i+1),by omega,rfl,hlt,p'⟩,fun x H' y=>?_⟩
   obtain ⟨rfl,k,v,b,e,rfl,hb⟩:=y;exact hs i k v b σ _ e p hb
 . have e:i=kvs.length:=by omega
   subst e;exact .inl ⟨⟨q,Nat.le_refl _⟩,hd σ H p⟩
section
def Rch (q:Nat×Nat) (b1 b2:Nat) (s:List Int) (o:Nat) (s':List Int):Prop:=s'=JM.less s q o/\JM.met (s'.getD q.1 0) b1=true/\JM.met (s'.getD q.2 0) b2=true
def Up (K:Zqq):Sp:=fun vs H Q _=>∃ (d lb:Addr) (k n:Nat) (kvs:List (List Key×V)) (Pr:List Int->Prop) (us:List V) (l:List (Nat×Nat)) (q:Nat×Nat),vs=[.ref d,.ref lb,.int (k:Int)]/\H d=some (.dT kvs)/\D6 kvs Pr/\(∀ s,Pr s->s.length=n) /\
 oY K H lb us l/\l[k]?=some q/\l.length<=1000/\n<=1000/\q.1 < q.2/\q.2 < n/\3 * kvs.length<=10000000 /\
 ∀ H' d' kvs',aS H H'->H d'=none->H' d'=some (.dT kvs')->D6 kvs' (fun s'=>∃ s o,Pr s/\(1<=o/\o<=3)/\Rch q (JM.uc (l.drop (k+1)) q.1) (JM.uc (l.drop (k+1)) q.2) s o s')->kvs'.length<=3 * kvs.length->Q (.ref d') H'
theorem mU:aQ ["states","bonds","k","bond","at_a","at_b","found","state","order","left"] ["states","bonds","k"] (aF mj):=lT (by decide +kernel)
theorem Rc (T:Txt K mg t):bF P w K mg base mL 2 t.eZ t.jY ["states","bonds","k"] (Up K):=by
 have GB:=@Ra P w K mg base t T;have GL:=@OZ P w K mg base t T;have GM:=@Zv P w K mg base t T;refine T.iP.ok mU (fun vs H Q E h=>?_) (fun cdv A outer s H vs Q E hr h=>?_)
 . obtain ⟨d,lb,k,n,kvs,Pr,us,l,q,rfl,_⟩:=h
   rfl
 . obtain ⟨d,lb,n0,n,kvs,Pr,us,l,q,rfl,hd,SD,hPr,B,hq,hl,hn,h12,h2n,hsz,k⟩:=h
   have hu:=hr.un;have hu':(A.deeper (envOfC "states_behind" (aF mj) s.heap.objs.size t.eZ cdv)).units+1 < cLine:=by omega
   refine ⟨_,ak (aR (i:=3) mU.nd rfl (Or.inl rfl) (bV b9 (pv 1) (pv 2) (fun _ _=>rfl)))
     (ak (aR (i:=4) mU.nd rfl (Or.inl rfl) (b4 GB hr rfl T.rC T.iG.kp T.r9 .nil bE (af (pv 1) (af (pv 2) (af (aA (pv 3) rfl) au)))))
     (ak (aR (i:=5) mU.nd rfl (Or.inl rfl) (b4 GB hr rfl T.rC T.iG.kp T.r9 .nil bE (af (pv 1) (af (pv 2) (af (aA (pv 3) rfl) au)))))
     (ak (aR (i:=6) mU.nd rfl (Or.inl rfl) Ai)
     (ak (OD (fj PassesOwn.never rfl (OE (pv 0)) (bu (i:=7) mU.nd rfl (Or.inl rfl))
       (az (fj PassesOwn.never rfl (Nh (aV rfl T.E9 (v:=.ref t.ki) rfl)) (bu (i:=8) mU.nd rfl (Or.inl rfl))
         (ak (aR (i:=9) mU.nd rfl (Or.inl rfl) (b4 GL hr rfl T.vq T.jT.kp T.vm .nil bE (af (pv 7) (af (pv 3) (af (pv 8) au)))))
         (az (kK (PW.pt (o6 (jl (b4 GM hr rfl T.vt T.jU.kp T.vo .nil bE (af (bV wW (pv 9) (aA (pv 3) rfl) (fun _ _=>rfl)) (af (pv 4) au))))
             (lF (jl (b4 GM hr rfl T.vt T.jU.kp T.vo .nil bE (af (bV wW (pv 9) (aA (pv 3) rfl) (fun _ _=>rfl)) (af (pv 5) au)))))))
           (az (Ah hu' (pv 6) (pv 9) qN rfl)) ee)))))))
     (az (bc (pv 6))))))),?_⟩
   have hk:n0 < l.length:=(List.getElem?_eq_some_iff.mp hq).1;obtain ⟨bv,hbv⟩:∃ v,us[n0]?=some v:=⟨_,List.getElem?_eq_getElem (by rw [B.2.1];exact hk)⟩;have en:=B.2.2 n0 bv q hbv hq;obtain ⟨o,C,dx,fs,rfl,e1,cl,na,nb,ea,eb⟩:=id en;refine ⟨_,rfl,_,rfl,lb,us,_,_,rfl,rfl,bI.of B.1,bw hbv,?_⟩;refine ⟨_,rfl,_,rfl,_,rfl,o,C,dx,fs,_,rfl,e1,cl,na,ea,?_⟩;refine ⟨lb,n0,q.1,us,l,rfl,B,hk,hl,fun H1 s1=>?_⟩;refine ⟨_,rfl,_,rfl,_,rfl,o,C,dx,fs,_,rfl,s1 _ _ e1,cl,nb,eb,?_⟩;refine ⟨lb,n0,q.2,us,l,rfl,B.same s1,hk,hl,fun H2 s2=>?_⟩;intro fd hfd;have s12:aS H H2:=s1.trans s2;have s3:aS H (upd H2 fd (.dT [])):=s12.trans (aK hfd);have Uq:H fd=none:=s12.free hfd;have fdd:fd ≠ d:=fun z=>by rw [z,hd] at Uq;cases Uq
   have bd:∀ v,JM.uc (l.drop (n0+1)) v < 1000:=fun v=>by
     have:=List.length_filter_le (fun q=>JM.iM q v) (l.drop (n0+1));rw [List.length_drop] at this;unfold JM.uc;omega
   refine ⟨d,_,s3 _ _ hd,True.intro,fun od=>?_⟩;refine ⟨_,rfl,d,od,rfl,.inr ⟨kvs,ai,?_⟩⟩;let Zz:Nat->List Int->Prop:=fun i s'=>∃ i' kv s o,i' < i/\kvs[i']?=some kv/\kv.1=kI s/\(1<=o/\o<=3)/\Rch q (JM.uc (l.drop (n0+1)) q.1) (JM.uc (l.drop (n0+1)) q.2) s o s';let wN:L2.Iv:=fun i σ H'=>∃ v7 v8 v9 kv,σ=[some (.ref d),some (.ref lb),some (.int (n0:Int)),some (.ref o),some (.int (JM.uc (l.drop (n0+1)) q.1:Int)),some (.int (JM.uc (l.drop (n0+1)) q.2:Int)),some (.ref fd),v7,v8,v9] /\
     (∀ b u,H b=some u->b ≠ d->H' b=some u)/\H' d=some (.pZ od (.dT kvs))/\H' fd=some (.dT kv)/\D6 kv (Zz i)/\kv.length<=3 * i
   refine Ia (d:=d) (o:=od) (kvs:=kvs) wN
     ⟨none,none,none,[],rfl,fun b u e n=>by rw [aq n];exact s3 b u e,ai,by rw [aq fdd];exact ai,D6.nil.eq fun s=>⟨fun h=>h.elim,fun ⟨i',_,_,_,h,_⟩=>by omega⟩,Nat.zero_le _⟩ (fun i σ H' ⟨_,_,_,_,_,_,h,_⟩=>h) ?_ ?_
   . rintro i ky v b σ HY Ur ⟨v7,v8,v9,kv,rfl,kp,hdY,hfY,SY,lY⟩ hb
     have hi:i < kvs.length:=(List.getElem?_eq_some_iff.mp Ur).1;obtain ⟨si,ek,hsi⟩:=SD.of (ky,v) (List.mem_of_getElem? Ur);simp only at ek;subst ek;rw [D5] at hb;have sl:si.length=n:=hPr si hsi;refine ⟨t.ki,rfl,⟨_,T.xS HY⟩,?_⟩;let Us:L2.Iv:=fun j σ H'=>∃ v8 v9 kv,σ=[some (.ref d),some (.ref lb),some (.int (n0:Int)),some (.ref o),some (.int (JM.uc (l.drop (n0+1)) q.1:Int)),some (.int (JM.uc (l.drop (n0+1)) q.2:Int)),some (.ref fd),some (.ref b),v8,v9] /\
       (∀ b u,HY b=some u->b ≠ fd->H' b=some u)/\H' fd=some (.dT kv)/\D6 kv (fun s'=>Zz i s'\/∃ o,(1<=o/\o<=j)/\Rch q (JM.uc (l.drop (n0+1)) q.1) (JM.uc (l.drop (n0+1)) q.2) si o s')/\kv.length<=3 * i+j
     refine IC (K:=K) (a:=t.ki) (xs:=[.int 1,.int 2,.int 3]) Us
       ⟨v8,v9,kv,rfl,fun b u e _=>e,hfY,SY.eq fun s=>⟨.inl,fun h=>by rcases h with h | ⟨o,h,_⟩;exact h;omega⟩,by omega⟩ (fun j σ H' _ _=>T.xS H') ?_ ?_
     . rintro j x σ H' hx ⟨v8,v9,kv,rfl,kq,hf',S',l'⟩
       have hj:j < 3:=by simpa using (List.getElem?_eq_some_iff.mp hx).1
       obtain rfl:x=.int ((j+1:Nat):Int):=by
         have:j=0\/j=1\/j=2:=by omega
         rcases this with r | r | r<;>subst r<;>simp at hx<;>rw [<- hx]<;>rfl
       have bf:b ≠ fd:=fun z=>by rw [z,hfY] at hb;cases hb
       have oo:∀ u,H o=some u->H' o=some u:=fun u e=>kq _ _ (kp _ _ e (fun z=>by rw [z,hd] at e1;cases e1)) (fun z=>by rw [z,Uq] at e1;cases e1);refine ⟨_,rfl,_,rfl,_,rfl,?_⟩;refine ⟨b,.ref o,j+1,n,si,q,rfl,kq _ _ hb bf,⟨o,C,dx,fs,rfl,oo _ e1,cl,na,nb,ea,eb⟩,h12,by omega,by omega,fun H5 p s5 np hp=>?_⟩;have ll:(JM.less si q (j+1)).length=n:=(JM.Mm _ _ _).trans sl;obtain ⟨y1,hy1⟩:∃ y,(JM.less si q (j+1))[q.1]?=some y:=⟨_,List.getElem?_eq_getElem (by omega)⟩;obtain ⟨y2,Ze⟩:∃ y,(JM.less si q (j+1))[q.2]?=some y:=⟨_,List.getElem?_eq_getElem (by omega)⟩;have d1:(JM.less si q (j+1)).getD q.1 0=y1:=by rw [List.getD,hy1];rfl
       have d2:(JM.less si q (j+1)).getD q.2 0=y2:=by rw [List.getD,Ze];rfl
       have o5:=s5 _ _ (oo _ e1);have Z0:=s5 _ _ hf';have XJ:∀ b u,HY b=some u->b ≠ fd->H5 b=some u:=fun b u e n=>s5 _ _ (kq b u e n);have no:¬ Rch q (JM.uc (l.drop (n0+1)) q.1) (JM.uc (l.drop (n0+1)) q.2) si (j+1) (JM.less si q (j+1))->D6 kv (fun s'=>Zz i s'\/∃ o,(1<=o/\o<=j+1)/\Rch q (JM.uc (l.drop (n0+1)) q.1) (JM.uc (l.drop (n0+1)) q.2) si o s'):=fun hno=>S'.eq fun s'=>by
         constructor
         . rintro (h | ⟨o,h,r⟩)
           . exact .inl h
           . exact .inr ⟨o,⟨h.1,by omega⟩,r⟩
         . rintro (h | ⟨o,h,r⟩)
           . exact .inl h
           . by_cases e:o=j+1
             . subst e
               exact absurd (r.1 ▸ r) hno
             . exact .inr ⟨o,⟨h.1,by omega⟩,r⟩
       refine ⟨_,rfl,_,rfl,o,C,dx,fs,_,rfl,o5,cl,na,ea,XD (nU.of hp) (bw (sE hy1)) ⟨_,rfl,?_⟩⟩;refine ⟨y1,_,rfl,bd _,⟨_,rfl,?_⟩⟩;cases m1:JM.met y1 (JM.uc (l.drop (n0+1)) q.1) with
       | false=>exact ⟨_,_,kv,rfl,XJ,Z0,no (fun r=>by have z:=r.2.1;rw [d1,m1] at z;cases z),by omega⟩
       | true=>
         refine ⟨_,rfl,_,rfl,o,C,dx,fs,_,rfl,o5,cl,nb,eb,XD (nU.of hp) (bw (sE Ze)) ⟨_,rfl,?_⟩⟩;refine ⟨y2,_,rfl,bd _,⟨_,rfl,?_⟩⟩;cases m2:JM.met y2 (JM.uc (l.drop (n0+1)) q.2) with
         | false=>exact ⟨_,_,kv,rfl,XJ,Z0,no (fun r=>by have z:=r.2.2;rw [d2,m2] at z;cases z),by omega⟩
         | true=>
           have r:Rch q (JM.uc (l.drop (n0+1)) q.1) (JM.uc (l.drop (n0+1)) q.2) si (j+1) (JM.less si q (j+1)):=⟨rfl,by rw [d1];exact m1,by rw [d2];exact m2⟩;refine ⟨_,rfl,_,rfl,fd,_,rfl,Ek.t (k:=kI (JM.less si q (j+1))) Z0 (by rw [D5];exact hp) (by rw [sizeLine_eq];omega),?_⟩;refine ⟨_,_,_,rfl,fun b u e n=>by rw [aq n];exact XJ b u e n,ai,(S'.put _ _).eq fun s'=>?_,?_⟩
           . constructor
             . rintro ((h | ⟨o,h,r'⟩) | h)
               . exact .inl h
               . exact .inr ⟨o,⟨h.1,by omega⟩,r'⟩
               . subst h;exact .inr ⟨j+1,⟨by omega,by omega⟩,r⟩
             . rintro (h | ⟨o,h,r'⟩)
               . exact .inl (.inl h)
               . by_cases e:o=j+1
                 . subst e;exact .inr r'.1
                 . exact .inl (.inr ⟨o,⟨h.1,by omega⟩,r'⟩)
           . have:=jF kv (kI (JM.less si q (j+1))) (V.bl true)
             omega
     . rintro σ H' ⟨v8,v9,kv,rfl,kq,hf',S',l'⟩
       refine ⟨_,_,_,kv,rfl,fun b' u e n=>kq b' u (kp b' u e n) (fun z=>by rw [z,Uq] at e;cases e),kq _ _ hdY (Ne.symm fdd),hf',S'.eq fun s'=>?_,?_⟩
       . constructor
         . rintro (⟨i',kv',s,o,h1,h2,h3,h4,h5⟩ | ⟨o,h,r⟩)
           . exact ⟨i',kv',s,o,by omega,h2,h3,h4,h5⟩
           . exact ⟨i,_,si,o,by omega,Ur,rfl,⟨h.1,h.2⟩,r⟩
         . rintro ⟨i',kv',s,o,h1,h2,h3,h4,h5⟩
           by_cases e:i'=i
           . subst e
             rw [Ur] at h2;cases h2;have:=vE h3;subst this;exact .inr ⟨o,h4,h5⟩
           . exact .inl ⟨i',kv',s,o,by omega,h2,h3,h4,h5⟩
       . have:([V.int 1,V.int 2,V.int 3]:List V).length=3:=rfl
         omega
   . rintro σ H' ⟨v7,v8,v9,kv,rfl,kp,hd',hf',S',l'⟩
     refine ⟨hd',_,rfl,k _ fd kv (fun b u e=>?_) Uq (by rw [aq fdd];exact hf') (S'.eq fun s'=>?_) l'⟩
     . by_cases z:b=d
       . subst z
         rw [hd] at e;cases e;exact ai
       . rw [aq z]
         exact kp b u e z
     . constructor
       . rintro ⟨i',kv',s,o,h1,h2,h3,h4,h5⟩
         obtain ⟨s2',e,p⟩:=SD.of kv' (List.mem_of_getElem? h2);have:s=s2':=vE (h3.symm.trans e);subst this;exact ⟨s,o,p,h4,h5⟩
       . rintro ⟨s,o,p,h4,h5⟩
         obtain ⟨kv',h1,h2⟩:=yt (SD.all s p);obtain ⟨i',h3⟩:=List.getElem?_of_mem h1;exact ⟨i',kv',s,o,(List.getElem?_eq_some_iff.mp h3).1,h3,h2,h4,h5⟩
end
theorem Ut (P:Nat->Prop) {o:Nat} (h1:1<=o) (h3:o<=3):Builtin.bitOr (JM.iI P:Int) ((2 ^ (o - 1):Nat):Int)=(JM.iI (fun x=>P x\/x=o):Int):=by
 have:o=1\/o=2\/o=3:=by omega
 unfold JM.iI;by_cases p1:P 1<;>by_cases p2:P 2<;>by_cases p3:P 3<;>rcases this with r | r | r<;>subst r<;>simp [p1,p2,p3]<;>decide
theorem yu {P P':Nat->Prop} (h:∀ o,1<=o->o<=3->(P o ↔ P' o)):JM.iI P=JM.iI P':=by
 have h1:=h 1 (by decide) (by decide);have h2:=h 2 (by decide) (by decide);have h3:=h 3 (by decide) (by decide);have e1:=propext h1;have e2:=propext h2;have e3:=propext h3;unfold JM.iI;rw [e1,e2,e3]
theorem NV {P:Nat->Prop} (h:∀ o,¬ P o):JM.iI P=0:=by
 unfold JM.iI;simp [h]
section
noncomputable def Bw (S:List Int) (bs:List (Nat×Nat)):List Int:=(List.range bs.length).map fun k=>(JM.iI (JM.Found S bs k):Int)
def Rf (K:Zqq):Sp:=fun vs H Q _=>∃ (ls lb:Addr) (n:Nat) (S:List Int) (us:List V) (bs:List (Nat×Nat)),vs=[.ref ls,.ref lb]/\H ls=some (.lst (vI S))/\S.length=n/\n<=1000/\oY K H lb us bs/\bs.length<=12 /\
 (∀ q ∈ bs,q.1 < q.2/\q.2 < n)/\∀ H' l,aS H H'->H l=none->H' l=some (.lst (vI (Bw S bs)))->Q (.ref l) H'
theorem jn:aQ ["sums","bonds","levels","k","found","ending_well","ahead","state","order"] ["sums","bonds"] (aF lG):=lT (by decide +kernel)
theorem NW (T:Txt K mg t):bF P w K mg base mL 3 t.dJ t.j4 ["sums","bonds"] (Rf K):=by
 have GS:=@Rc P w K mg base t T;have GL:=@OZ P w K mg base t T;have GB:=@Uk P w K mg base t T;refine T.gT.ok jn (fun vs H Q E h=>?_) (fun cdv A outer s H vs Q E hr h=>?_)
 . obtain ⟨ls,lb,n,S,us,bs,rfl,_⟩:=h
   rfl
 . obtain ⟨ls,lb,n,S,us,bs,rfl,hls,hS,hn,B,hm,hbs,k⟩:=h
   have hu:=hr.un;have hu':(A.deeper (envOfC "redrawn_orders" (aF lG) s.heap.objs.size t.dJ cdv)).units+1 < cLine:=by omega
   have hr1:dG 1 _:=hr.mono (by decide);refine ⟨_,ak (aR (i:=2) jn.nd rfl (Or.inl rfl) (kC (af (SV hu' (yC tS (by rfl) T.DI PyProof.Rows.boot_tuple (af (pv 0) au)) qN) au)))
     (ak (fj PassesOwn.never rfl (mK rfl T.oX (af (c6 bx (by rfl) T.kG PySem.boot_len (af (pv 1) au)) au)) (bu (i:=3) jn.nd rfl (Or.inl rfl))
       (az (dW (uq PySem.F.plainAttrs_list PySem.F.slot_list_append PySem.F.type_list_append jt (pv 2) (af (b4 GS hr rfl T.wj T.iP.kp T.vY .nil bE (af (bV b9 (pv 2) (pv 3) (fun _ _=>rfl)) (af (pv 1) (af (pv 3) au)))) au)))))
     (ak (aR (i:=4) jn.nd rfl (Or.inl rfl) (gU Su (kC (af aN au)) (c6 bx (by rfl) T.kG PySem.boot_len (af (pv 1) au))))
     (ak (aR (i:=5) jn.nd rfl (Or.inl rfl) (bV b9 (pv 2) (c6 bx (by rfl) T.kG PySem.boot_len (af (pv 1) au)) (fun _ _=>rfl)))
     (ak (fj PassesOwn.never rfl (PY rfl T.oX (af (gU wU (c6 bx (by rfl) T.kG PySem.boot_len (af (pv 1) au)) aN) (af (Ov ID aN) (af (Ov ID aN) au)))) (bu (i:=3) jn.nd rfl (Or.inl rfl))
       (ak (aR (i:=6) jn.nd rfl (Or.inl rfl) Ai)
       (ak (OD (fj PassesOwn.never rfl (OE (bV b9 (pv 2) (pv 3) (fun _ _=>rfl))) (bu (i:=7) jn.nd rfl (Or.inl rfl))
         (az (fj PassesOwn.never rfl (Nh (aV rfl T.E9 (v:=.ref t.ki) rfl)) (bu (i:=8) jn.nd rfl (Or.inl rfl))
           (az (kK (IA (Sz hu' (b4 GL hr1 rfl T.vq T.jT.kp T.vm .nil bE (af (pv 7) (af (bV b9 (pv 1) (pv 3) (fun _ _=>rfl)) (af (pv 8) au)))) (pv 5)))
             (ak (Yr (gU Xz (bV b9 (pv 4) (pv 3) (fun _ _=>rfl)) (b4 GB hr1 rfl T.xK T.ly.kp T.xC .nil bE (af (pv 8) au))) (Yp (pv 4) (pv 3) set_list))
             (az (Ah hu' (pv 6) (pv 7) qN rfl))) ee))))))
       (az (aR (i:=5) jn.nd rfl (Or.inl rfl) (pv 6))))))
     (az (bc (pv 4))))))),?_⟩
   intro d0 hd0;have sa:aS H (upd H d0 (.dT [])):=aK hd0;refine ⟨_,rfl,ls,_,rfl,.inl ⟨bI.of (sa _ _ hls),fun pt hpt=>?_⟩⟩;have sb:aS H (upd (upd H d0 (.dT [])) pt (.tup (vI S))):=sa.trans (aK hpt);have acj:d0 ≠ pt:=fun z=>by rw [<- z,ai] at hpt;cases hpt
   refine ⟨by rw [aq acj];exact ai,kI S,pt,_,rfl,by rw [ai,D5],?_⟩;have sc:aS H (upd (upd (upd H d0 (.dT [])) pt (.tup (vI S))) d0 (.dT [(kI S,V.bl true)])):=fun b u e=>by rw [aq (ay e hd0)];exact sb b u e
   refine ⟨by show 1<=sizeLine;decide,fun ll hll=>?_⟩;have sd:aS H (upd (upd (upd (upd H d0 (.dT [])) pt (.tup (vI S))) d0 (.dT [(kI S,V.bl true)])) ll (.lst [.ref d0])):=sc.trans (aK hll);have ack:H ll=none:=sc.free hll;have Lv:∀ {H1 H2:Hp} {ds:List Addr},(∀ (j:Nat) d,ds[j]?=some d->∃ kvs,H1 d=some (.dT kvs)/\D6 kvs (JM.Kd S bs j)/\kvs.length<=3 ^ j)->(∀ b kvs,H1 b=some (.dT kvs)->H2 b=some (.dT kvs))->∀ (j:Nat) d,ds[j]?=some d->∃ kvs,H2 d=some (.dT kvs)/\D6 kvs (JM.Kd S bs j)/\kvs.length<=3 ^ j:=
     fun L f j d hd=>let ⟨kvs,a,b⟩:=L j d hd;⟨kvs,f _ _ a,b⟩
   have aaW:us.length=bs.length:=B.2.1;refine ⟨_,rfl,lb,us,rfl,.inl (bI.of (sd _ _ B.1)),(us.length:Int),rfl,by omega,by omega,?_⟩;rw [Int.toNat_natCast];let wN:L2.Iv:=fun i σ H'=>∃ vk,∃ ds:List Addr,σ=[some (.ref ls),some (.ref lb),some (.ref ll),vk,none,none,none,none,none]/\aS H H'/\H' ll=some (.lst (ds.map V.ref))/\ds.length=i+1 /\
     ∀ (j:Nat) d,ds[j]?=some d->∃ kvs,H' d=some (.dT kvs)/\D6 kvs (JM.Kd S bs j)/\kvs.length<=3 ^ j
   refine qI (n:=us.length) wN ⟨none,[d0],rfl,sd,ai,rfl,fun j d hd=>?_⟩ ?_ ?_
   . cases j with
     | succ j=>simp at hd
     | zero=>
       obtain rfl:d0=d:=by simpa using hd
       have dl:d0 ≠ ll:=fun z=>by rw [<- z,ai] at hll;cases hll
       refine ⟨[(kI S,V.bl true)],by rw [aq dl];exact ai,⟨fun kv hk=>⟨S,by rw [List.mem_singleton.mp hk],rfl⟩,fun s hs=>?_⟩,Nat.le_refl _⟩;rw [show s=S from hs,jw rfl];rfl
   . rintro i σ H' hi ⟨vk,ds,rfl,sm,hl',hds,L⟩
     obtain ⟨di,hdi⟩:∃ d,ds[i]?=some d:=⟨_,List.getElem?_eq_getElem (by omega)⟩;obtain ⟨kvs,hk,SD,hkl⟩:=L i di hdi;have hi':i < bs.length:=by omega
     obtain ⟨q,hq⟩:∃ q,bs[i]?=some q:=⟨_,List.getElem?_eq_getElem hi'⟩;have XG:=hbs q (List.mem_of_getElem? hq);have p3:3 ^ i<=3 ^ 11:=Nat.pow_le_pow_right (by decide) (by omega);have e1:(ds.map V.ref)[i]?=some (V.ref di):=by rw [List.getElem?_map,hdi];rfl
     rw [Int.zero_add];have p11:(3:Nat) ^ 11=177147:=by decide
     have pk:3 * kvs.length<=10000000:=by omega
     refine ⟨_,rfl,.inl ⟨rfl,_,bI.of hl'⟩,_,rfl,_,rfl,tT (bI.of hl') (bw e1) ⟨_,rfl,_,rfl,?_⟩⟩;refine ⟨di,lb,i,n,kvs,JM.Kd S bs i,us,bs,q,rfl,hk,SD,fun s hs=>hs.len.trans hS,B.same sm,hq,by omega,hn,XG.1,XG.2,pk,fun H2 d' kvs' s2 nd' hd' SD' hl2=>?_⟩;have hl2':=s2 _ _ hl';refine ⟨ll,_,_,rfl,rfl,hl2',by rw [sizeLine_eq,List.length_map];omega,?_⟩;have dl:∀ b kvs,H2 b=some (.dT kvs)->b ≠ ll:=fun b kvs e z=>by rw [z,hl2'] at e;cases e
     refine ⟨_,ds++[d'],rfl,fun b u e=>by rw [aq (ay e ack)];exact s2 _ _ (sm b u e),by rw [ai];simp,by simp [hds],fun j d hd=>?_⟩;rcases Nat.lt_or_ge j ds.length with hj | hj
     . rw [List.getElem?_append_left hj] at hd
       obtain ⟨kv2,a,b,c⟩:=L j d hd;exact ⟨kv2,by rw [aq (dl _ _ (s2 _ _ a))];exact s2 _ _ a,b,c⟩
     . have ej:j=ds.length:=by
         have:=(List.getElem?_eq_some_iff.mp hd).1;simp at this;omega
       subst ej;rw [List.getElem?_append_right (Nat.le_refl _),Nat.sub_self] at hd;obtain rfl:d'=d:=by simpa using hd
       refine ⟨kvs',by rw [aq (dl _ _ hd')];exact hd',?_,?_⟩
       . rw [hds]
         refine SD'.eq fun s'=>?_;constructor
         . rintro ⟨s,o,h1,h2,h3,h4,h5⟩
           exact ⟨s,q,o,h1,hq,h2,h3,h4,h5⟩
         . rintro ⟨s,q',o,h1,h6,h2,h3,h4,h5⟩
           rw [hq] at h6;cases h6;exact ⟨s,o,h1,h2,h3,h4,h5⟩
       . rw [hds,Nat.pow_succ]
         omega
   . rintro σ H1 ⟨vk,ds,rfl,sm,hl1,hds,L⟩
     refine ⟨by show 1<=sizeLine;decide,fun p0 hp0=>?_⟩;have s1:aS H1 (upd H1 p0 (.lst [V.int 0])):=aK hp0;refine ⟨_,rfl,lb,us,rfl,.inl (bI.of (s1 _ _ (sm _ _ B.1))),p0,_,_,rfl,rfl,ai,by omega,by omega,by rw [sizeLine_eq];simp;omega,fun lf hlf=>?_⟩;rw [Int.toNat_natCast,zeros];have s2:aS H1 (upd (upd H1 p0 (.lst [V.int 0])) lf (.lst (vI (sF us.length [])))):=s1.trans (aK hlf);have aaX:H1 lf=none:=s1.free hlf;have WA:H lf=none:=sm.free aaX;obtain ⟨dm,hdm⟩:∃ d,ds[us.length]?=some d:=⟨_,List.getElem?_eq_getElem (by omega)⟩;have em:(ds.map V.ref)[us.length]?=some (V.ref dm):=by rw [List.getElem?_map,hdm];rfl
     refine ⟨_,rfl,_,rfl,lb,us,rfl,.inl (bI.of (s2 _ _ (sm _ _ B.1))),tT (bI.of (s2 _ _ hl1)) (bw em) ?_⟩;obtain ⟨kvm,hkm,SDm,_⟩:=L us.length dm hdm;refine ⟨_,rfl,lb,us,rfl,.inl (bI.of (s2 _ _ (sm _ _ B.1))),_,_,rfl,rfl,_,rfl,_,rfl,_,_,_,_,rfl,RgC.neg (by omega) (by omega) (by omega) (by omega),?_⟩;rw [show ((us.length:Int) - 1 - -1).toNat=us.length by omega];let fl:Nat->Nat->Int:=fun i k=>if us.length - i<=k then (JM.iI (JM.Found S bs k):Int) else 0;let Us:L2.Iv:=fun i σ H'=>∃ vk v6 v7 v8 ew XM,σ=[some (.ref ls),some (.ref lb),some (.ref ll),vk,some (.ref lf),some (.ref ew),v6,v7,v8]/\aS H H'/\H' ll=some (.lst (ds.map V.ref)) /\
       (∀ (j:Nat) d,ds[j]?=some d->∃ kvs,H' d=some (.dT kvs)/\D6 kvs (JM.Kd S bs j)/\kvs.length<=3 ^ j)/\H' lf=some (.lst (vI ((List.range us.length).map (fl i))))/\H' ew=some (.dT XM)/\D6 XM (JM.NT S bs i)
     refine Nz (n:=us.length) Us
       ⟨_,none,none,none,dm,kvm,rfl,sm.trans s2,s2 _ _ hl1,Lv L (fun b kvs e=>s2 _ _ e),?_,s2 _ _ hkm,?_⟩ ?_ ?_
     . rw [ai]
       congr 3;refine List.map_congr_left fun u hu=>?_;have:u < us.length:=List.mem_range.mp hu;show (JM.nL [] u:Int)=if us.length - 0<=u then _ else _;rw [if_neg (by omega)];rfl
     . show D6 kvm (JM.Kd S bs bs.length)
       rw [<- aaW];exact SDm
     . rintro i σ H' hi ⟨vk,v6,v7,v8,ew,XM,rfl,sm',hl',L',hf',he',SE⟩
       rw [show (us.length:Int) - 1+(i:Nat) * -1=((us.length - 1 - i:Nat):Int) by omega];have hk:us.length - 1 - i < us.length:=by omega
       have hkb:us.length - 1 - i < bs.length:=by omega
       obtain ⟨d,hd⟩:∃ d,ds[us.length - 1 - i]?=some d:=⟨_,List.getElem?_eq_getElem (by omega)⟩;have ed:(ds.map V.ref)[us.length - 1 - i]?=some (V.ref d):=by rw [List.getElem?_map,hd];rfl
       obtain ⟨kvs,hkv,SD,hkl⟩:=L' _ d hd;have p3:3 ^ (us.length - 1 - i)<=3 ^ 12:=Nat.pow_le_pow_right (by decide) (by omega);have p12:(3:Nat) ^ 12=531441:=by decide
       obtain ⟨q,hq⟩:∃ q,bs[us.length - 1 - i]?=some q:=⟨_,List.getElem?_eq_getElem hkb⟩;have XG:=hbs q (List.mem_of_getElem? hq);obtain ⟨bv,hbv⟩:∃ v,us[us.length - 1 - i]?=some v:=⟨_,List.getElem?_eq_getElem hk⟩;have ek:bs.length - (i+1)=us.length - 1 - i:=by omega
       have ek2:bs.length - (us.length - 1 - i+1)=i:=by omega
       intro ah Z1;have sh:aS H' (upd H' ah (.dT [])):=aK Z1;have WB:∀ {b u},H' b=some u->(∀ kvs,u ≠ .dT kvs)->b ≠ d:=fun {b u} e n z=>by rw [z,hkv] at e;cases e;exact n _ rfl
       have ahd:ah ≠ d:=fun z=>by rw [z,hkv] at Z1;cases Z1
       have ahf:ah ≠ lf:=fun z=>by rw [z,hf'] at Z1;cases Z1
       have lfd:lf ≠ d:=WB hf' (fun _ z=>by cases z);have lld:ll ≠ d:=WB hl' (fun _ z=>by cases z);have llf:ll ≠ lf:=fun z=>by rw [z,aaX] at hl1;cases hl1
       have lbf:lb ≠ lf:=ay B.1 WA;have lbd:lb ≠ d:=WB (sm' _ _ B.1) (fun _ z=>by cases z);have ewf:ew ≠ lf:=fun z=>by rw [z,hf'] at he';cases he'
       refine ⟨d,_,sh _ _ hkv,True.intro,fun od=>?_⟩;refine ⟨_,rfl,_,rfl,tT (bI.of (by rw [aq lld];exact sh _ _ hl')) (bw ed) ⟨d,od,rfl,.inr ⟨kvs,ai,?_⟩⟩⟩;let FA:Nat->Nat->Prop:=fun a o=>∃ a' kv s,a' < a/\kvs[a']?=some kv/\kv.1=kI s/\JM.NT S bs i (JM.less s q o);let SA:Nat->List Int->Prop:=fun a s=>∃ a' kv,a' < a/\kvs[a']?=some kv/\kv.1=kI s/\∃ o,(1<=o/\o<=3)/\JM.NT S bs i (JM.less s q o);let Iv3:L2.Iv:=fun a σ H3=>∃ v7 v8 MY,σ=[some (.ref ls),some (.ref lb),some (.ref ll),some (.int ((us.length - 1 - i:Nat):Int)),some (.ref lf),some (.ref ew),some (.ref ah),v7,v8] /\
         (∀ b u,H' b=some u->b ≠ d->b ≠ lf->H3 b=some u)/\H3 d=some (.pZ od (.dT kvs))/\H3 lf=some (.lst (vI (((List.range us.length).map (fl i)).set (us.length - 1 - i) (JM.iI (FA a):Int))))/\H3 ah=some (.dT MY)/\D6 MY (SA a)/\MY.length<=3 * a
       refine Ia (d:=d) (o:=od) (kvs:=kvs) Iv3
         ⟨v7,v8,[],rfl,fun b u e n _=>by rw [aq n];exact sh _ _ e,ai,?_,by rw [aq ahd];exact ai,D6.nil.eq fun s=>⟨fun h=>h.elim,fun ⟨a',_,h,_⟩=>by omega⟩,Nat.zero_le _⟩ (fun a σ H3 ⟨_,_,_,_,_,h,_⟩=>h) ?_ ?_
       . rw [aq lfd,aq (Ne.symm ahf),hf',NV (P:=FA 0) (fun o ⟨a',_,_,h,_⟩=>by omega),Bv]
         congr 3;refine List.map_congr_left fun u hu=>?_;by_cases e:u=us.length - 1 - i
         . rw [if_pos e]
           show (if us.length - i<=u then _ else _)=_;rw [if_neg (by omega)];rfl
         . rw [if_neg e]
       . rintro a ky v b σ H3 Ur ⟨v7,v8,MY,rfl,kp,hd3,hf3,ha3,SA3,lA3⟩ hb
         have hal:a < kvs.length:=(List.getElem?_eq_some_iff.mp Ur).1;obtain ⟨si,esi,hsi⟩:=SD.of (ky,v) (List.mem_of_getElem? Ur);simp only at esi;subst esi;rw [D5] at hb;have sl:si.length=n:=hsi.len.trans hS;have bah:b ≠ ah:=fun z=>by rw [z,ha3] at hb;cases hb
         have blf:b ≠ lf:=fun z=>by rw [z,hf3] at hb;cases hb
         have dah:d ≠ ah:=Ne.symm ahd;have dlf:d ≠ lf:=Ne.symm lfd;refine ⟨t.ki,rfl,⟨_,T.xS H3⟩,?_⟩;let FJ:Nat->Nat->Prop:=fun j o=>FA a o\/((1<=o/\o<=j)/\JM.NT S bs i (JM.less si q o));let SJ:Nat->List Int->Prop:=fun j s=>SA a s\/(s=si/\∃ o,(1<=o/\o<=j)/\JM.NT S bs i (JM.less si q o));let Iv4:L2.Iv:=fun j σ H4=>∃ v8 MY,σ=[some (.ref ls),some (.ref lb),some (.ref ll),some (.int ((us.length - 1 - i:Nat):Int)),some (.ref lf),some (.ref ew),some (.ref ah),some (.ref b),v8] /\
           (∀ b u,H3 b=some u->b ≠ ah->b ≠ lf->H4 b=some u)/\H4 lf=some (.lst (vI (((List.range us.length).map (fl i)).set (us.length - 1 - i) (JM.iI (FJ j):Int))))/\H4 ah=some (.dT MY)/\D6 MY (SJ j)/\MY.length<=3 * a+j
         refine IC (K:=K) (a:=t.ki) (xs:=[.int 1,.int 2,.int 3]) Iv4
           ⟨v8,MY,rfl,fun b u e _ _=>e,?_,ha3,SA3.eq fun s=>⟨.inl,fun h=>by rcases h with h | ⟨_,o,h,_⟩;exact h;omega⟩,by omega⟩ (fun j σ H' _ _=>T.xS H') ?_ ?_
         . rw [hf3,yu (P:=FA a) (P':=FJ 0) fun o h1 _=>⟨.inl,fun h=>by rcases h with h | ⟨h,_⟩;exact h;omega⟩]
         . rintro j x σ H4 hx ⟨v8,MY,rfl,kq,hf4,ha4,S4,l4⟩
           have hj:j < 3:=by simpa using (List.getElem?_eq_some_iff.mp hx).1
           obtain rfl:x=.int ((j+1:Nat):Int):=by
             have:j=0\/j=1\/j=2:=by omega
             rcases this with r | r | r<;>subst r<;>simp at hx<;>rw [<- hx]<;>rfl
           have k4:∀ b u,H' b=some u->b ≠ d->b ≠ lf->H4 b=some u:=fun b u e n1 n2=>kq _ _ (kp b u e n1 n2) (ay e Z1) n2;have B4:H4 lb=some (.lst us):=k4 _ _ (sm' _ _ B.1) lbd lbf;have en:=B.2.2 _ bv q hbv hq;have en4:sf K H4 bv q:=by
             obtain ⟨o,C,dx,fs,e0,e1,rest⟩:=en;exact ⟨o,C,dx,fs,e0,k4 _ _ (sm' _ _ e1) (WB (sm' _ _ e1) (fun _ z=>by cases z)) (ay e1 WA),rest⟩
           refine ⟨_,rfl,_,rfl,_,rfl,lb,us,_,_,rfl,rfl,bI.of B4,bw hbv,_,rfl,?_⟩;refine ⟨b,bv,j+1,n,si,q,rfl,kq _ _ hb bah blf,en4,XG.1,by omega,by omega,fun H5 p s5 np hp=>?_⟩;have Z0:=s5 _ _ hf4;have ha5:=s5 _ _ ha4;have XJ:∀ b u,H3 b=some u->b ≠ ah->b ≠ lf->H5 b=some u:=fun b u e n1 n2=>s5 _ _ (kq b u e n1 n2);have rdE:Rd H5 ew (.dT XM):=by
             by_cases z:ew=d
             . have:XM=kvs:=by rw [z,hkv] at he';cases he';rfl
               rw [z,this];exact .inr ⟨od,XJ _ _ hd3 dah dlf⟩
             . exact .inl (s5 _ _ (k4 _ _ he' z ewf))
           refine ⟨_,rfl,ew,_,rfl,.inr ⟨XM,kI (JM.less si q (j+1)),p,rdE,rfl,by rw [D5];exact hp,rfl⟩,_,rfl,?_⟩;have aaY:=SE.iff (JM.less si q (j+1));have orJ:∀ (W:Prop),(W ↔ JM.NT S bs i (JM.less si q (j+1)))->∀ o,FJ (j+1) o ↔ (FJ j o\/(W/\o=j+1)):=fun W hW o=>by
             constructor
             . rintro (h | ⟨h,w⟩)
               . exact .inl (.inl h)
               . by_cases e:o=j+1
                 . subst e;exact .inr ⟨hW.mpr w,rfl⟩
                 . exact .inl (.inr ⟨⟨h.1,by omega⟩,w⟩)
             . rintro ((h | ⟨h,w⟩) | ⟨w,rfl⟩)
               . exact .inl h
               . exact .inr ⟨⟨h.1,by omega⟩,w⟩
               . exact .inr ⟨⟨by omega,by omega⟩,hW.mp w⟩
           have orS:∀ (W:Prop),(W ↔ JM.NT S bs i (JM.less si q (j+1)))->∀ s,SJ (j+1) s ↔ (SJ j s\/(W/\s=si)):=fun W hW s=>by
             constructor
             . rintro (h | ⟨h,o,h2,w⟩)
               . exact .inl (.inl h)
               . by_cases e:o=j+1
                 . subst e;exact .inr ⟨hW.mpr w,h⟩
                 . exact .inl (.inr ⟨h,o,⟨h2.1,by omega⟩,w⟩)
             . rintro ((h | ⟨h,o,h2,w⟩) | ⟨w,rfl⟩)
               . exact .inl h
               . exact .inr ⟨h,o,⟨h2.1,by omega⟩,w⟩
               . exact .inr ⟨rfl,j+1,⟨by omega,by omega⟩,hW.mp w⟩
           cases hin:(jW XM (kI (JM.less si q (j+1)))).isSome with
           | false=>
             have nW:¬ JM.NT S bs i (JM.less si q (j+1)):=fun w=>by rw [aaY.mpr w] at hin;cases hin
             have wF:False ↔ JM.NT S bs i (JM.less si q (j+1)):=⟨False.elim,nW⟩;refine ⟨_,MY,rfl,XJ,?_,ha5,S4.eq fun s=>?_,by omega⟩
             . rw [Z0,yu (P:=FJ j) (P':=FJ (j+1)) fun o _ _=>by rw [orJ False wF o];simp]
             . rw [orS False wF s];simp
           | true=>
             have hW:=aaY.mp hin;have wT:True ↔ JM.NT S bs i (JM.less si q (j+1)):=⟨fun _=>hW,fun _=>trivial⟩;have gk:(vI (((List.range us.length).map (fl i)).set (us.length - 1 - i) (JM.iI (FJ j):Int)))[us.length - 1 - i]?=some (.int (JM.iI (FJ j):Int)):=sE (by rw [List.getElem?_set_self (by simp;exact hk)]);refine ⟨_,rfl,_,rfl,tT (bI.of Z0) (bw gk) ⟨_,rfl,?_⟩⟩;refine ⟨j+1,rfl,by omega,by omega,_,_,rfl,rfl,?_⟩;refine ⟨_,rfl,_,rfl,lf,_,_,us.length - 1 - i,rfl,rfl,Z0,Bu (by simp [vI];omega),?_⟩;rw [Fi,Ut _ (by omega) (by omega),List.set_set];refine ⟨_,rfl,_,rfl,ah,_,rfl,Ek.t (k:=kI si) (by rw [aq ahf];exact ha5) (by rw [aq blf,D5];exact XJ _ _ hb bah blf) (by rw [sizeLine_eq];omega),?_⟩;refine ⟨_,_,rfl,fun b u e n1 n2=>by rw [aq n1,aq n2];exact XJ b u e n1 n2,?_,ai,(S4.put _ _).eq fun s=>?_,?_⟩
             . rw [aq (Ne.symm ahf),ai,yu (P:=fun x=>FJ j x\/x=j+1) (P':=FJ (j+1)) fun o _ _=>by rw [orJ True wT o];simp]
             . rw [orS True wT s];simp
             . have:=jF MY (kI si) (V.bl true)
               omega
         . rintro σ H4 ⟨v8,MY,rfl,kq,hf4,ha4,S4,l4⟩
           have l3:([V.int 1,V.int 2,V.int 3]:List V).length=3:=rfl;rw [l3] at hf4 S4 l4;refine ⟨_,_,MY,rfl,fun b' u e n1 n2=>kq _ _ (kp b' u e n1 n2) (ay e Z1) n2,kq _ _ hd3 dah dlf,?_,ha4,S4.eq fun s=>?_,by omega⟩
           . rw [hf4,yu (P:=FJ 3) (P':=FA (a+1)) fun o h1 h3=>?_]
             constructor
             . rintro (⟨a',kv,s,g1,g2,g3,g4⟩ | ⟨_,w⟩)
               . exact ⟨a',kv,s,by omega,g2,g3,g4⟩
               . exact ⟨a,_,si,by omega,Ur,rfl,w⟩
             . rintro ⟨a',kv,s,g1,g2,g3,g4⟩
               by_cases e:a'=a
               . subst e
                 rw [Ur] at g2;cases g2;have:=vE g3;subst this;exact .inr ⟨⟨h1,h3⟩,g4⟩
               . exact .inl ⟨a',kv,s,by omega,g2,g3,g4⟩
           . constructor
             . rintro (⟨a',kv,g1,g2,g3,g4⟩ | ⟨rfl,o,h,w⟩)
               . exact ⟨a',kv,by omega,g2,g3,g4⟩
               . exact ⟨a,_,by omega,Ur,rfl,o,h,w⟩
             . rintro ⟨a',kv,g1,g2,g3,o,h,w⟩
               by_cases e:a'=a
               . subst e
                 rw [Ur] at g2;cases g2;have:=vE g3;subst this;exact .inr ⟨rfl,o,h,w⟩
               . exact .inl ⟨a',kv,by omega,g2,g3,o,h,w⟩
       . rintro σ H3 ⟨v7,v8,MY,rfl,kp,hd3,hf3,ha3,SA3,lA3⟩
         refine ⟨hd3,_,rfl,?_⟩;have keep:∀ b u,H' b=some u->b ≠ lf->upd H3 d (.dT kvs) b=some u:=fun b u e n=>by
           by_cases z:b=d
           . subst z
             rw [hkv] at e;cases e;exact ai
           . rw [aq z]
             exact kp b u e z n
         refine ⟨_,_,_,_,ah,MY,rfl,fun b u e=>keep b u (sm' b u e) (ay e WA),keep _ _ hl' llf,Lv L' (fun b kvs e=>keep _ _ e (fun z=>by rw [z,hf'] at e;cases e)),?_,by rw [aq ahd];exact ha3,SA3.eq fun s=>?_⟩
         . rw [aq lfd,hf3,Bv]
           congr 3;refine List.map_congr_left fun u hu=>?_;show _=if us.length - (i+1)<=u then _ else _;by_cases e:u=us.length - 1 - i
           . rw [if_pos e,if_pos (by omega),e]
             congr 1;refine yu fun o _ _=>?_;constructor
             . rintro ⟨a',kv,s,_,h1,h2,h3⟩
               obtain ⟨s',e1,p⟩:=SD.of kv (List.mem_of_getElem? h1);have:=vE (h2.symm.trans e1);subst this;exact ⟨s,q,p,hq,by rw [ek2];exact h3⟩
             . rintro ⟨s,q',p,h1,h2⟩
               rw [hq] at h1;cases h1;rw [ek2] at h2;obtain ⟨kv,g1,g2⟩:=yt (SD.all s p);obtain ⟨a',g3⟩:=List.getElem?_of_mem g1;exact ⟨a',kv,s,(List.getElem?_eq_some_iff.mp g3).1,g3,g2,h2⟩
           . rw [if_neg e]
             show (if us.length - i<=u then _ else _)=_;by_cases e2:us.length - i<=u
             . rw [if_pos e2,if_pos (by omega)]
             . rw [if_neg e2,if_neg (by omega)]
         . constructor
           . rintro ⟨a',kv,_,h1,h2,o,h3,h4⟩
             obtain ⟨s',e1,p⟩:=SD.of kv (List.mem_of_getElem? h1);have:=vE (h2.symm.trans e1);subst this;exact ⟨by rw [ek];exact p,q,o,by rw [ek];exact hq,h3,h4⟩
           . rintro ⟨p,q',o,h1,h3,h4⟩
             rw [ek] at p h1;rw [hq] at h1;cases h1;obtain ⟨kv,g1,g2⟩:=yt (SD.all s p);obtain ⟨a',g3⟩:=List.getElem?_of_mem g1;exact ⟨a',kv,(List.getElem?_eq_some_iff.mp g3).1,g3,g2,o,h3,h4⟩
     . rintro σ H' ⟨vk,v6,v7,v8,ew,XM,rfl,sm',hl',L',hf',he',SE⟩
       refine ⟨_,rfl,k H' lf sm' WA ?_⟩;rw [hf'];congr 3;unfold Bw;rw [aaW];refine List.map_congr_left fun u hu=>?_;show (if us.length - bs.length<=u then _ else _)=_;rw [if_pos (by omega)]
end
def jC (v w:Nat) (q:Nat×Nat):Bool:=(q.1==v&&q.2==w)||(q.1==w&&q.2==v)
def Rg (kvs:List (List Key×V)) (l:List (Nat×Nat)):Prop:=∀ v w:Nat,jW kvs (kI [(v:Int),(w:Int)])=(l.findIdx? (jC v w)).map fun k=>V.int (k:Int)
theorem Uu {a b c d:Nat} (h:kI [(a:Int),(b:Int)]=kI [(c:Int),(d:Int)]):a=c/\b=d:=by
 have:=vE h;simp at this;omega
theorem Rg.snoc {kvs:List (List Key×V)} {l:List (Nat×Nat)} {q:Nat×Nat} (d:Rg kvs l) (hn:∀ p ∈ l,p ≠ q) (hl:∀ p ∈ l,p.1 < p.2) (hq:q.1 < q.2) :
   Rg (putK (putK kvs (kI [(q.1:Int),(q.2:Int)]) (V.int (l.length:Int))) (kI [(q.2:Int),(q.1:Int)]) (V.int (l.length:Int))) (l++[q]):=by
 intro v w;rw [Af,Af,List.findIdx?_append];have old:jC v w q=true->l.findIdx? (jC v w)=none:=fun h=>by
   rw [List.findIdx?_eq_none_iff];intro p hp;have h1:=hl p hp;have h2:=hn p hp;unfold jC at h ⊢;simp only [Bool.or_eq_true,Bool.and_eq_true,beq_iff_eq] at h;rw [Bool.eq_false_iff];intro hc;simp only [Bool.or_eq_true,Bool.and_eq_true,beq_iff_eq] at hc;refine h2 (Prod.ext ?_ ?_)<;>omega
 by_cases h1:kI [(v:Int),(w:Int)]=kI [(q.2:Int),(q.1:Int)]
 . obtain ⟨rfl,rfl⟩:=Uu h1
   have hj:jC q.2 q.1 q=true:=by simp [jC]
   rw [if_pos rfl,old hj];simp [List.findIdx?_cons,hj]
 . rw [if_neg h1]
   by_cases h2:kI [(v:Int),(w:Int)]=kI [(q.1:Int),(q.2:Int)]
   . obtain ⟨rfl,rfl⟩:=Uu h2
     have hj:jC q.1 q.2 q=true:=by simp [jC]
     rw [if_pos rfl,old hj];simp [List.findIdx?_cons,hj]
   . rw [if_neg h2,d v w]
     have hj:jC v w q=false:=by
       rw [Bool.eq_false_iff];intro h;unfold jC at h;simp only [Bool.or_eq_true,Bool.and_eq_true,beq_iff_eq] at h;rcases h with ⟨rfl,rfl⟩ | ⟨rfl,rfl⟩
       . exact h2 rfl
       . exact h1 rfl
     cases l.findIdx? (jC v w)<;>simp [List.findIdx?_cons,hj]
section
def WC (K:Zqq):Sp:=fun vs H Q _=>∃ (lb:Addr) (us:List V) (l:List (Nat×Nat)) (n:Nat),vs=[.ref lb]/\oY K H lb us l/\l.length<=1000/\JM.ng n l /\
 ∀ H' d kvs,aS H H'->H d=none->H' d=some (.dT kvs)->Rg kvs l->Q (.ref d) H'
theorem Bx:aQ ["bonds","numbers","k","bond"] ["bonds"] (aF ny):=lT (by decide +kernel)
theorem Uv (T:Txt K mg t):bF P w K mg base mL 1 t.fS t.kU ["bonds"] (WC K):=by
 refine T.j8.ok Bx (fun vs H Q E h=>?_) (fun cdv A outer s H vs Q E hr h=>?_)
 . obtain ⟨lb,us,l,n,rfl,_⟩:=h
   rfl
 . obtain ⟨lb,us,l,n,rfl,B,hl,Uw,k⟩:=h
   have hu:=hr.un;have hu':(A.deeper (envOfC "pair_numbers" (aF ny) s.heap.objs.size t.fS cdv)).units+1 < cLine:=by omega
   refine ⟨_,ak (aR (i:=1) Bx.nd rfl (Or.inl rfl) Ai)
     (ak (fj PassesOwn.never rfl (sZ rfl T.jk (af (pv 0) au)) (wR rfl (gn (bu (i:=2) Bx.nd rfl (Or.inl rfl)) (gn (bu (i:=3) Bx.nd rfl (Or.inl rfl)) sV)))
       (ak (Ah hu' (pv 1) (mz (af (aA (pv 3) rfl) (af (aA (pv 3) rfl) au))) (pv 2) rfl)
       (az (Ah hu' (pv 1) (mz (af (aA (pv 3) rfl) (af (aA (pv 3) rfl) au))) (pv 2) rfl))))
     (az (bc (pv 1)))),?_⟩
   intro d hd;have s1:aS H (upd H d (.dT [])):=aK hd;refine ⟨_,rfl,lb,us,rfl,bI.of (s1 _ _ B.1),?_⟩;let wN:L2.Iv:=fun i σ H'=>∃ v2 v3 kvs,σ=[some (.ref lb),some (.ref d),v2,v3]/\aS H H'/\H' d=some (.dT kvs)/\Rg kvs (l.take i)/\kvs.length<=2 * i;refine pQ (K:=K) (a:=lb) (xs:=us) wN ⟨none,none,[],rfl,s1,ai,fun v w=>rfl,Nat.zero_le _⟩ (fun i σ H' _ ⟨_,_,_,_,sm,_⟩=>bI.of (sm _ _ B.1)) ?_ ?_
   . rintro i x σ H' Tt hx ⟨v2,v3,kvs,rfl,sm,hd',N,hlen⟩ hT
     have hi:i < us.length:=(List.getElem?_eq_some_iff.mp hx).1;have hil:i < l.length:=by rw [<- B.2.1];exact hi
     obtain ⟨q,hq⟩:∃ q,l[i]?=some q:=⟨_,List.getElem?_eq_getElem hil⟩;obtain ⟨o,C,dx,fs,rfl,e1,cl,na,nb,ea,eb⟩:=B.2.2 i x q hx hq;have sT:aS H (upd H' Tt (.tup [.int (i:Int),.ref o])):=sm.trans (aK hT);have dT':d ≠ Tt:=fun z=>by rw [<- z,hd'] at hT;cases hT
     refine ⟨Tt,_,rfl,nU.of ai,rfl,_,_,rfl,_,_,rfl,rfl,?_⟩;refine ⟨_,rfl,_,rfl,_,rfl,o,C,dx,fs,_,rfl,sT _ _ e1,cl,na,ea,_,rfl,o,C,dx,fs,_,rfl,sT _ _ e1,cl,nb,eb,(by show 2<=sizeLine;decide),fun p1 hp1=>?_⟩;have hd1:upd (upd H' Tt (.tup [.int (i:Int),.ref o])) p1 (.tup [.int (q.1:Int),.int (q.2:Int)]) d=some (.dT kvs):=by
       have:upd H' Tt (.tup [.int (i:Int),.ref o]) d=some (.dT kvs):=by rw [aq dT'];exact hd'
       rw [aq (ay this hp1)];exact this
     have sp1:aS H (upd (upd H' Tt (.tup [.int (i:Int),.ref o])) p1 (.tup [.int (q.1:Int),.int (q.2:Int)])):=sT.trans (aK hp1);refine ⟨d,_,rfl,Ek.t (k:=kI [(q.1:Int),(q.2:Int)]) hd1 (by rw [D5];exact ai) (by rw [sizeLine_eq];omega),?_⟩;have sp2:aS H (upd (upd (upd H' Tt (.tup [.int (i:Int),.ref o])) p1 (.tup [.int (q.1:Int),.int (q.2:Int)])) d (.dT (putK kvs (kI [(q.1:Int),(q.2:Int)]) (.int (i:Int))))):=fun b u e=>by rw [aq (ay e hd)];exact sp1 b u e
     refine ⟨_,rfl,_,rfl,_,rfl,o,C,dx,fs,_,rfl,sp2 _ _ e1,cl,nb,eb,_,rfl,o,C,dx,fs,_,rfl,sp2 _ _ e1,cl,na,ea,(by show 2<=sizeLine;decide),fun p2 hp2=>?_⟩;have l1:=jF kvs (kI [(q.1:Int),(q.2:Int)]) (V.int (i:Int));have d2:d ≠ p2:=fun z=>by rw [<- z,ai] at hp2;cases hp2
     refine ⟨d,_,rfl,Ek.t (k:=kI [(q.2:Int),(q.1:Int)]) (by rw [aq d2];exact ai) (by rw [D5];exact ai) (by rw [sizeLine_eq];omega),?_⟩;have l2:=jF (putK kvs (kI [(q.1:Int),(q.2:Int)]) (V.int (i:Int))) (kI [(q.2:Int),(q.1:Int)]) (V.int (i:Int));refine ⟨_,_,_,rfl,fun b u e=>by rw [aq (ay e hd)];exact (sp2.trans (aK hp2)) b u e,ai,?_,by omega⟩;rw [take_snoc hq];have tl:(l.take i).length=i:=by rw [List.length_take];omega
     have:=N.snoc (q:=q) (fun p hp e=>?_) (fun p hp=>(Uw.1 p (List.mem_of_mem_take hp)).1) (Uw.1 q (List.mem_of_getElem? hq)).1
     . rw [tl] at this
       exact this
     . obtain ⟨j,hj⟩:=List.getElem?_of_mem hp
       have hji:j < i:=by
         have:=(List.getElem?_eq_some_iff.mp hj).1;rw [tl] at this;exact this
       rw [List.getElem?_take_of_lt hji] at hj;have pw:=List.pairwise_iff_getElem.mp Uw.2 j i (by omega) hil hji;rw [List.getElem?_eq_getElem (by omega)] at hj hq;have e1:=Option.some.inj hj;have e2:=Option.some.inj hq;rw [e1,e2,e] at pw;omega
   . rintro σ H' ⟨v2,v3,kvs,rfl,sm,hd',N,hlen⟩
     rw [B.2.1,List.take_length] at N;exact ⟨_,rfl,k H' d kvs sm hd hd' N⟩
end
open JM (aB aE gQ d8)
def mfs (la lb lr ls lo ln:Addr):List (Str×V):=[("atoms",.ref la),("bonds",.ref lb),("neighbours",.ref lr),("sums",.ref ls),("orders",.ref lo),("bond_numbers",.ref ln)]
structure kH where
 la:Addr
 lb:Addr
 lr:Addr
 ls:Addr
 lo:Addr
 ln:Addr
 as:List V
 us:List V
 rs:List Addr
 kvs:List (List Key×V)
structure mV (t:Ad) (D:Addr->Prop) (H:Hp) (g:Addr) (z:kH) (y:aB):Prop where
 obj:∃ dx,H g=some (.ins t.aT dx (mfs z.la z.lb z.lr z.ls z.lo z.ln))
 atoms:H z.la=some (.lst z.as)
 bonds:H z.lb=some (.lst z.us)
 rows:iN H z.lr z.rs z.as.length (JM.bG (y.2.map JM.aU))
 sums:H z.ls=some (.lst (vI (gQ (aE y))))
 orders:H z.lo=some (.lst (vI (Bw (gQ (aE y)) (d8 (aE y)))))
 nums:H z.ln=some (.dT z.kvs)
 num:Rg z.kvs (y.2.map JM.aU)
 ra:cR (pR t.eB) D H z.as y.1
 rb:cR (nM t.eE) D H z.us y.2
theorem uH (y:aB):d8 (aE y)=y.2.map JM.aU:=by
 unfold d8 aE JM.aU JM.yq;simp
theorem yw (y:aB):(aE y).n=y.1.length:=by simp [aE,Mol.n]
theorem Ux (y:aB):ways y.2=(d8 (aE y)).zip (aE y).orders:=by
 rw [uH];unfold ways Mol.orders aE;simp only [List.map_map];rw [List.zip_map'];rfl
theorem Uy (y:aB) {n:Nat} (hn:y.1.length=n):sF n (ways y.2)=gQ (aE y):=by
 unfold sF gQ Mol.sums;rw [yw,hn,List.map_map];refine List.map_congr_left fun v _=>?_;show _=(((aE y).sum v:Nat):Int);rw [JM.Ms,Ux]
section
theorem iN.same' {H H':Hp} {lr:Addr} {rs:List Addr} {n:Nat} {row:Nat->List Nat} (R:iN H lr rs n row) (f:aS H H'):iN H' lr rs n row:=R.stay fun b o e _=>f b o e
theorem mV.same {D:Addr->Prop} {H H':Hp} {g:Addr} {z:kH} {y:aB} (M:mV t D H g z y) (f:aS H H'):mV t D H' g z y:=
 ⟨let ⟨dx,e⟩:=M.obj;⟨dx,f _ _ e⟩,f _ _ M.atoms,f _ _ M.bonds,M.rows.same' f,f _ _ M.sums,f _ _ M.orders,f _ _ M.nums,M.num,M.ra.stay (pR.ok _) fun b o _ e=>f b o e,M.rb.stay (nM.ok _) fun b o _ e=>f b o e⟩
theorem Mu (T:Txt K mg t) {D:Addr->Prop} {H:Hp} {lb:Addr} {us:List V} {ys:List (Bond×Nat)} (hb:H lb=some (.lst us)) (R:cR (nM t.eE) D H us ys):oY K H lb us (ys.map JM.aU):=
 ⟨hb,by rw [List.length_map];exact R.len,fun i v q h1 h2=>by
  rw [List.getElem?_map] at h2
  cases hz:ys[i]? with
  | none=>rw [hz] at h2;cases h2
  | some z=>
   rw [hz] at h2
   cases h2
   obtain ⟨o,dx,rfl,_,e⟩:=R.at_ i v z h1 hz
   exact ⟨o,_,dx,_,rfl,e,T.gG,T.kr,T.ku,rfl,rfl⟩⟩
theorem cR.neB {C C':Addr} {D:Addr->Prop} {H:Hp} {us:List V} {ys:List (Bond×Nat)} {o dx:Addr} (R:cR (nM C) D H us ys) (h:H o=some (.ins C' dx [])):cR (nM C) (fun b=>D b/\b ≠ o) H us ys:=
 ⟨R.len,fun i v z h1 h2=>by
  obtain ⟨b,d,e,hd,hb⟩:=R.at_ i v z h1 h2
  exact ⟨b,d,e,⟨hd,fun q=>by rw [q,h] at hb;cases hb⟩,hb⟩⟩
theorem cR.neA {C C':Addr} {D:Addr->Prop} {H:Hp} {us:List V} {ys:List (Atom×Nat)} {o dx:Addr} (R:cR (pR C) D H us ys) (h:H o=some (.ins C' dx [])):cR (pR C) (fun b=>D b/\b ≠ o) H us ys:=
 ⟨R.len,fun i v z h1 h2=>by
  obtain ⟨b,d,e,hd,hb⟩:=R.at_ i v z h1 h2
  exact ⟨b,d,e,⟨hd,fun q=>by rw [q,h] at hb;cases hb⟩,hb⟩⟩
def Rh (t:Ad):Sp:=fun vs H Q _=>∃ (o dx la lb:Addr) (as us:List V) (y:aB) (D:Addr->Prop),vs=[.ref o,.ref la,.ref lb]/\H o=some (.ins t.aT dx [])/\H la=some (.lst as)/\H lb=some (.lst us) /\
 cR (pR t.eB) D H as y.1/\cR (nM t.eE) D H us y.2/\as.length<=1000/\y.2.length<=12/\JM.ng as.length (y.2.map JM.aU) /\
 ∀ H' z,z.la=la->z.lb=lb->z.as=as->z.us=us->mV t D H' o z y->jq [o] H H'->Q .non H'
theorem Uz:aQ ["self","atoms","bonds"] ["self","atoms","bonds"] (aF qd):=lT (by decide +kernel)
theorem U0 (T:Txt K mg t):bF P w K mg base mL 4 t.eY t.jX ["self","atoms","bonds"] (Rh t):=by
 have GI:bF P w K mg base mL 2 t.dB t.jL ["self","atoms","bonds"] (JW K t.aT):=Me T T.aY T.bT T.cP T.b8;have GS:=@W9 P w K mg base t T;have GR:=@NW P w K mg base t T;have GP:=@Uv P w K mg base t T;refine T.ko.ok Uz (fun vs H Q E h=>?_) (fun cdv A outer s H vs Q E hr h=>?_)
 . obtain ⟨o,dx,la,lb,as,us,y,D,rfl,_⟩:=h
   rfl
 . obtain ⟨o,dx,la,lb,as,us,y,D,rfl,h0,ha,hb,RA,RB,hn,hm,rise,k⟩:=h
   have hr2:dG 2 _:=hr.mono (by decide);have hr1:dG 1 _:=hr.mono (by decide);refine ⟨_,ak (dW (SS rfl T.IZ T.A2 GI hr2 T.vh bE (af (pv 0) (af (pv 1) (af (pv 2) au)))))
     (ak (ck (pv 0) (b4 GS hr1 rfl T.Ax T.lJ.kp T.As .nil bE (af (c6 bx (by rfl) T.kG PySem.boot_len (af (pv 1) au)) (af (pv 2) au))) rfl)
     (ak (ck (pv 0) (b4 GR hr rfl T.uB T.gT.kp T.u7 .nil bE (af (aA (pv 0) rfl) (af (pv 2) au))) rfl)
     (az (ck (pv 0) (b4 GP hr1 rfl T.xM T.j8.kp T.xD .nil bE (af (pv 2) au)) rfl)))),?_⟩
   have RA':=RA.neA h0;have RB':=RB.neB h0;have B0:=Mu T hb RB;have ao:la ≠ o:=mX ha h0 (by intro z;cases z);have bo:lb ≠ o:=mX hb h0 (by intro z;cases z);refine ⟨_,rfl,_,rfl,_,rfl,?_⟩;refine ⟨o,dx,la,lb,as,us,y.2.map JM.aU,rfl,h0,ha,hb,hn,by rw [List.length_map];omega,B0.2.1,fun i v q h1 h2=>⟨B0.2.2 i v q h1 h2,fun z=>?_⟩,rise.1,fun H1 lr rs G F1=>?_⟩
   . obtain ⟨o',C',dx',fs',e,e',_,_,_,e4,_⟩:=B0.2.2 i v q h1 h2
     rw [z] at e;cases e;rw [h0] at e';cases e';cases e4
   obtain ⟨d1,e1⟩:=G.obj;have RA1:cR (pR t.eB) (fun b=>D b/\b ≠ o) H1 as y.1:=RA'.stay (pR.ok _) fun b u hd h=>F1 b u h (by simpa using hd.2);have RB1:cR (nM t.eE) (fun b=>D b/\b ≠ o) H1 us y.2:=RB'.stay (nM.ok _) fun b u hd h=>F1 b u h (by simpa using hd.2);have Fb:y.1.length=as.length:=RA.len.symm;refine ⟨_,rfl,la,as,rfl,.inl (bI.of G.atoms),_,rfl,?_⟩;refine ⟨as.length,lb,us,y.2,_,rfl,hn,G.bonds,RB1,rise.1,fun H2 ls s2 nls hls=>?_⟩;rw [Uy y Fb] at hls;have e2:=s2 _ _ e1;refine ⟨_,rfl,o,_,d1,_,rfl,e2,T.aY,T.iT,(by show 3 < 1000;decide),?_⟩;have neO:∀ {Hx:Hp} {b:Addr} {u:HO} {C' d':Addr} {f':List (Str×V)},Hx b=some u->Hx o=some (.ins C' d' f')->(∀ x,u ≠ .ins C' d' x)->b ≠ o:=fun {Hx b u C' d' f'} h1 h2 n z=>by
     rw [z,h2] at h1;exact n _ (Option.some.inj h1).symm
   have lso:ls ≠ o:=fun z=>by rw [z,e1] at nls;cases nls
   have st:∀ {Hx:Hp} (b:Addr) (u v:HO),b ≠ o->Hx b=some u->upd Hx o v b=some u:=fun {Hx} b u v n e=>by rw [aq n];exact e
   have WD:∀ (i:Nat) v q,us[i]?=some v->(y.2.map JM.aU)[i]?=some q->∃ b,v=.ref b/\b ≠ o:=fun i v q h1 h2=>by
     rw [List.getElem?_map] at h2;cases hz:y.2[i]? with
     | none=>rw [hz] at h2;cases h2
     | some z=>
       obtain ⟨b,d,e,hd,_⟩:=RB'.at_ i v z h1 hz;exact ⟨b,e,hd.2⟩
   have B1:=Mu T G.bonds RB1;have Bo:∀ {Hx:Hp} (v:HO),oY K Hx lb us (y.2.map JM.aU)->oY K (upd Hx o v) lb us (y.2.map JM.aU):=fun {Hx} v b=>⟨st _ _ _ bo b.1,b.2.1,fun i x q h1 h2=>by
     obtain ⟨b',e,n⟩:=WD i x q h1 h2;obtain ⟨o',C',dx',fs',e0,e',rest⟩:=b.2.2 i x q h1 h2;rw [e] at e0;cases e0;exact ⟨b',C',dx',fs',e,st _ _ _ n e',rest⟩⟩
   have B3:=Bo (.ins t.aT d1 (gf "sums" (.ref ls) (gfs la lb lr))) (B1.same s2);refine ⟨_,rfl,fld ai T.aY T.iT rfl ⟨_,rfl,?_⟩⟩;refine ⟨ls,lb,as.length,gQ (aE y),us,y.2.map JM.aU,rfl,st _ _ _ lso hls,by rw [JM.yL,yw,Fb],hn,B3,by rw [List.length_map];exact hm,rise.1,fun H4 lo s4 nlo hlo=>?_⟩;have e4:=s4 _ _ ai;have loo:lo ≠ o:=fun z=>by rw [z,ai] at nlo;cases nlo
   refine ⟨_,rfl,o,_,d1,_,rfl,e4,T.aY,T.gb,(by show 4 < 1000;decide),?_⟩;have B5:=Bo (.ins t.aT d1 (gf "orders" (.ref lo) (gf "sums" (.ref ls) (gfs la lb lr)))) (B3.same s4);refine ⟨_,rfl,?_⟩;refine ⟨lb,us,y.2.map JM.aU,as.length,rfl,B5,by rw [List.length_map];omega,rise,fun H6 ln kvs s6 nln YU N=>?_⟩;have e6:=s6 _ _ ai;have lno:ln ≠ o:=fun z=>by rw [z,ai] at nln;cases nln
   refine ⟨_,rfl,o,_,d1,_,rfl,e6,T.aY,T.bU,(by show 5 < 1000;decide),?_⟩;have F26:∀ b u,b ≠ o->H2 b=some u->H6 b=some u:=fun b u n e=>s6 _ _ (st _ _ _ n (s4 _ _ (st _ _ _ n e)));have F16:∀ b u,b ≠ o->H1 b=some u->H6 b=some u:=fun b u n e=>F26 b u n (s2 _ _ e);have Fin:∀ b u,b ≠ o->H1 b=some u->upd H6 o (.ins t.aT d1 (gf "bond_numbers" (.ref ln) (gf "orders" (.ref lo) (gf "sums" (.ref ls) (gfs la lb lr))))) b=some u:=fun b u n e=>st _ _ _ n (F16 b u n e);refine k _ ⟨la,lb,lr,ls,lo,ln,as,us,rs,kvs⟩ rfl rfl rfl rfl ⟨⟨d1,ai⟩,Fin _ _ ao G.atoms,Fin _ _ bo G.bonds,G.rows.stay fun b u e hb'=>?_,st _ _ _ lso (F26 _ _ lso hls),?_,st _ _ _ lno YU,N,?_,?_⟩ ?_
   . refine Fin b u (fun z=>?_) e
     rw [z,e1] at e;cases e;rcases hb' with r | r
     . have:=G.rows.lst
       rw [<- r,z,e1] at this;cases this
     . obtain ⟨j,hj⟩:=List.getElem?_of_mem r
       have:=G.rows.at_ j b hj;rw [z,e1] at this;cases this
   . refine st _ _ _ loo (s6 _ _ (st _ _ _ loo ?_))
     rw [uH];exact hlo
   . exact (RA1.stay (pR.ok _) fun b u hd h=>Fin b u hd.2 h).mono (pR.ok _) fun b hd=>hd.1
   . exact (RB1.stay (nM.ok _) fun b u hd h=>Fin b u hd.2 h).mono (nM.ok _) fun b hd=>hd.1
   . intro b u e n
     have nb:b ≠ o:=by simpa using n
     exact Fin b u nb (F1 b u e n)
end
structure gc (y:aB):Prop where
 rise:JM.ng y.1.length (y.2.map JM.aU)
 few:y.2.length<=12
 small:y.1.length<=128
 QU:∀ z ∈ y.2,(1<=z.1.order/\z.1.order<=3)/\z.1.side<=2
 atm:∀ z ∈ y.1,z.1.element<=118/\z.1.isotope<=500/\(-4<=z.1.charge/\z.1.charge<=4)/\z.1.hydrogens<=7/\z.1.hand<=2
theorem gc.good {y:aB} (g:gc y):JM.lE (aE y):=by
 refine ⟨?_,fun x hx=>?_⟩
 . rw [uH,yw];exact g.rise.1
 . obtain ⟨z,hz,rfl⟩:=List.mem_map.mp (show x ∈ y.2.map fun z=>z.1 from hx)
   exact (g.QU z hz).1
theorem gc.beside {y:aB} (g:gc y) (v:Nat):(aE y).beside v=JM.bG (y.2.map JM.aU) v:=by
 have e:(aE y).bonds.map (fun x=>(x.a,x.b))=y.2.map JM.aU:=uH y;have:=JM.Kc (M:=aE y) (by rw [e,yw];exact g.rise) v;rw [this,e]
theorem Mv {y:aB} {v:Nat} {z:Atom×Nat} (h:y.1[v]?=some z):(aE y).atom v=z.1:=by simp [Mol.atom,aE,List.getD,h]
theorem gc.Ri {y:aB} (g:gc y) (v:Nat):(JM.bG (y.2.map JM.aU) v).length<=1000:=by
 have:=sr (y.2.map JM.aU) v;rw [List.length_map] at this;have:=g.few;omega
section
def Z2 (t:Ad):Sp:=fun vs H Q _=>∃ (g:Addr) (k:Nat) (z:kH) (y:aB) (D:Addr->Prop),vs=[.ref g,.int (k:Int)]/\mV t D H g z y/\gc y/\k < y.1.length/\∀ H',aS H H'->Q (.bl ((aE y).handed k)) H'
theorem Kg:aQ ["molecule","k","neighbours","hydrogens"] ["molecule","k"] (aF qf):=lT (by decide +kernel)
theorem WE (T:Txt K mg t):bF P w K mg base mL 1 t.gi t.kg ["molecule","k"] (Z2 t):=by
 refine T.iR.ok Kg (fun vs H Q E h=>?_) (fun cdv A outer s H vs Q E hr h=>?_)
 . obtain ⟨g,k,z,y,D,rfl,_⟩:=h
   rfl
 . obtain ⟨g,n,z,y,D,rfl,M,gy,hn,k⟩:=h
   refine ⟨_,ak (aR (i:=2) Kg.nd rfl (Or.inl rfl) (c6 bx (by rfl) T.kG PySem.boot_len (af (bV b9 (aA (pv 0) rfl) (pv 1) (fun _ _=>rfl)) au)))
     (ak (aR (i:=3) Kg.nd rfl (Or.inl rfl) (aA (bV b9 (aA (pv 0) rfl) (pv 1) (fun _ _=>rfl)) rfl))
     (az (bc (wO (e9 uo (pv 2) (mz (af aN (af aN au))) rfl) (uR (e9 Ht (gU uS (pv 2) (pv 3)) aN (cg _))))))),?_⟩
   obtain ⟨dg,eg⟩:=M.obj;obtain ⟨ra,zS⟩:∃ ra,z.rs[n]?=some ra:=⟨_,List.getElem?_eq_getElem (by rw [M.rows.len,M.ra.len];exact hn)⟩;have hA:=M.rows.at_ _ _ zS;have e1:(z.rs.map V.ref)[n]?=some (V.ref ra):=by rw [List.getElem?_map,zS];rfl
   obtain ⟨a,ha⟩:∃ a,y.1[n]?=some a:=⟨_,List.getElem?_eq_getElem hn⟩;obtain ⟨va,U1⟩:∃ v,z.as[n]?=some v:=⟨_,List.getElem?_eq_getElem (by rw [M.ra.len];exact hn)⟩;obtain ⟨o,dx,rfl,_,rep⟩:=M.ra.at_ n va a U1 ha;refine ⟨_,rfl,fld eg T.aY T.b8 rfl ⟨_,rfl,tT (bI.of M.rows.lst) (bw e1) ⟨ra,_,rfl,.inl (bI.of hA),?_⟩⟩⟩;refine ⟨_,rfl,fld eg T.aY T.bT rfl ⟨_,rfl,tT (bI.of M.atoms) (bw U1) (fld rep T.mH T.fJ rfl ?_)⟩⟩;refine ⟨_,rfl,(by show 2<=sizeLine;decide),fun p hp=>⟨p,_,rfl,.inr (nU.of ai),rfl,rfl,_,rfl,?_⟩⟩;have rO:∀ l:List Nat,(vN l).length=l.length:=fun l=>by simp [vN]
   have e2:KP (.int ((vN (JM.bG (y.2.map JM.aU) n)).length:Int)) [.int 3,.int 4]=((JM.bG (y.2.map JM.aU) n).length==3||(JM.bG (y.2.map JM.aU) n).length==4):=by rw [rO];exact Cr _ 3 4
   have s3:aS H (upd H p (.tup [.int 3,.int 4])):=aK hp;have kk:=k _ s3;have hd:(aE y).handed n=(decide (3<=(JM.bG (y.2.map JM.aU) n).length)&&(decide (a.1.hydrogens<=1)&&decide ((JM.bG (y.2.map JM.aU) n).length+a.1.hydrogens<=4))):=by
     unfold Mol.handed;rw [gy.beside,Mv ha]
   rw [if_neg Bool.false_ne_true,e2];refine zp (fun h=>?_) (fun h=>?_)
   . refine ⟨_,rfl,_,rfl,_,_,rfl,rfl,_,_,rfl,rfl,?_⟩
     simp only [Bool.or_eq_true,beq_iff_eq] at h;have e3:decide (((vN (JM.bG (y.2.map JM.aU) n)).length:Int)+(a.1.hydrogens:Int)<=4)=(aE y).handed n:=by
       rw [hd,rO,Bool.eq_iff_iff];simp only [Bool.and_eq_true,decide_eq_true_eq];omega
     rw [<- e3] at kk;exact kk
   . rw [Bool.not_eq_true] at h
     have e3:(aE y).handed n=false:=by
       rw [hd,Bool.eq_false_iff];intro hc;simp only [Bool.and_eq_true,decide_eq_true_eq] at hc;have:¬ (((JM.bG (y.2.map JM.aU) n).length==3||(JM.bG (y.2.map JM.aU) n).length==4)=true):=by rw [h];decide
       simp only [Bool.or_eq_true,beq_iff_eq] at this;omega
     rw [e3] at kk;exact kk
def Z3 (t:Ad):Sp:=fun vs H Q _=>∃ (g:Addr) (e o:Nat) (z:kH) (y:aB) (D:Addr->Prop),vs=[.ref g,.int (e:Int),.int (o:Int)]/\mV t D H g z y/\gc y/\e < y.1.length/\∀ H',aS H H'->Q (.bl ((aE y).endMay e o)) H'
theorem Pb:aQ ["molecule","end","other","others"] ["molecule","end","other"] (aF oE):=lT (by decide +kernel)
theorem WG (T:Txt K mg t):bF P w K mg base mL 2 t.fF t.j5 ["molecule","end","other"] (Z3 t):=by
 have GB:bF P w K mg base mL 1 t.bH t.dF ["self","end","other"] (uG K t.aT):=vz T T.aY T.b8;refine T.fG.ok Pb (fun vs H Q E h=>?_) (fun cdv A outer s H vs Q E hr h=>?_)
 . obtain ⟨g,e,o,z,y,D,rfl,_⟩:=h
   rfl
 . obtain ⟨g,n,o,z,y,D,rfl,M,gy,hn,k⟩:=h
   refine ⟨_,ak (aR (i:=3) Pb.nd rfl (Or.inl rfl) (c6 bx (by rfl) T.kG PySem.boot_len (af (aW (pv 0) T.aY T.mJ GB hr T.iO .nil bE (af (pv 1) (af (pv 2) au))) au)))
     (az (bc (wO (e9 uo (pv 3) (mz (af aN (af aN au))) rfl) (uR (e9 Ht (gU uS (pv 3) (aA (bV b9 (aA (pv 0) rfl) (pv 1) (fun _ _=>rfl)) rfl)) aN (cg _)))))),?_⟩
   obtain ⟨dg,eg⟩:=M.obj;obtain ⟨a,ha⟩:∃ a,y.1[n]?=some a:=⟨_,List.getElem?_eq_getElem hn⟩;obtain ⟨va,U1⟩:∃ v,z.as[n]?=some v:=⟨_,List.getElem?_eq_getElem (by rw [M.ra.len];exact hn)⟩;obtain ⟨b,dx,rfl,_,rep⟩:=M.ra.at_ n va a U1 ha;refine ⟨_,rfl,g,dg,_,rfl,eg,rfl,_,rfl,_,rfl,?_⟩;refine ⟨g,dg,z.lr,_,z.rs,z.as.length,n,o,_,rfl,eg,rfl,M.rows,by rw [M.ra.len];exact hn,gy.Ri _,fun H1 l1 s1 nl1 hl1=>?_⟩;refine ⟨l1,_,rfl,.inl (bI.of hl1),?_⟩;refine ⟨_,rfl,(by show 2<=sizeLine;decide),fun p hp=>⟨p,_,rfl,.inr (nU.of ai),rfl,rfl,_,rfl,?_⟩⟩;have s3:aS H (upd H1 p (.tup [.int 1,.int 2])):=s1.trans (aK hp);have kk:=k _ s3;have rO:∀ l:List Nat,(vN l).length=l.length:=fun l=>by simp [vN]
   have e2:KP (.int ((vN ((JM.bG (y.2.map JM.aU) n).filter fun x=>x != o)).length:Int)) [.int 1,.int 2]=(((JM.bG (y.2.map JM.aU) n).filter fun x=>x != o).length==1||((JM.bG (y.2.map JM.aU) n).filter fun x=>x != o).length==2):=by rw [rO];exact Cr _ 1 2
   have hd:(aE y).endMay n o=(decide (1<=((JM.bG (y.2.map JM.aU) n).filter fun x=>x != o).length)&&decide (((JM.bG (y.2.map JM.aU) n).filter fun x=>x != o).length+a.1.hydrogens<=2)):=by
     unfold Mol.endMay Mol.besides;rw [gy.beside,Mv ha]
   rw [if_neg Bool.false_ne_true,e2];refine zp (fun h=>?_) (fun h=>?_)
   . refine ⟨_,rfl,_,rfl,fld (s3 _ _ eg) T.aY T.bT rfl ⟨_,rfl,tT (bI.of (s3 _ _ M.atoms)) (bw U1) (fld (s3 _ _ rep) T.mH T.fJ rfl ⟨_,_,rfl,rfl,_,_,rfl,rfl,?_⟩)⟩⟩
     simp only [Bool.or_eq_true,beq_iff_eq] at h;have e3:decide (((vN ((JM.bG (y.2.map JM.aU) n).filter fun x=>x != o)).length:Int)+(a.1.hydrogens:Int)<=2)=(aE y).endMay n o:=by
       rw [hd,rO,Bool.eq_iff_iff];simp only [Bool.and_eq_true,decide_eq_true_eq];omega
     rw [<- e3] at kk;exact kk
   . rw [Bool.not_eq_true] at h
     have e3:(aE y).endMay n o=false:=by
       rw [hd,Bool.eq_false_iff];intro hc;simp only [Bool.and_eq_true,decide_eq_true_eq] at hc;have:¬ ((((JM.bG (y.2.map JM.aU) n).filter fun x=>x != o).length==1||((JM.bG (y.2.map JM.aU) n).filter fun x=>x != o).length==2)=true):=by rw [h];decide
       simp only [Bool.or_eq_true,beq_iff_eq] at this;omega
     rw [e3] at kk;exact kk
def Z4 (t:Ad):Sp:=fun vs H Q _=>∃ (g:Addr) (k:Nat) (z:kH) (y:aB) (D:Addr->Prop),vs=[.ref g,.int (k:Int)]/\mV t D H g z y/\gc y/\k < y.2.length/\∀ H',aS H H'->Q (.bl ((aE y).sided k)) H'
theorem Kh:aQ ["molecule","k","bond","fixed_double"] ["molecule","k"] (aF qg):=lT (by decide +kernel)
theorem WH (T:Txt K mg t):bF P w K mg base mL 3 t.gj t.kh ["molecule","k"] (Z4 t):=by
 have GE:=@WG P w K mg base t T;have GB:=@Uk P w K mg base t T;refine T.iS.ok Kh (fun vs H Q E h=>?_) (fun cdv A outer s H vs Q E hr h=>?_)
 . obtain ⟨g,k,z,y,D,rfl,_⟩:=h
   rfl
 . obtain ⟨g,n,z,y,D,rfl,M,gy,hn,k⟩:=h
   have hr1:dG 1 _:=hr.mono (by decide);refine ⟨_,ak (aR (i:=2) Kh.nd rfl (Or.inl rfl) (bV b9 (aA (pv 0) rfl) (pv 1) (fun _ _=>rfl)))
     (ak (aR (i:=3) Kh.nd rfl (Or.inl rfl) (e9 nV (bV b9 (aA (pv 0) rfl) (pv 1) (fun _ _=>rfl)) (b4 GB hr1 rfl T.xK T.ly.kp T.xC .nil bE (af aN au)) (cg _)))
     (az (bc (wO (pv 3) (wO (b4 GE hr rfl T.oK T.fG.kp T.oJ .nil bE (af (pv 0) (af (aA (pv 2) rfl) (af (aA (pv 2) rfl) au))))
       (uR (b4 GE hr rfl T.oK T.fG.kp T.oJ .nil bE (af (pv 0) (af (aA (pv 2) rfl) (af (aA (pv 2) rfl) au)))))))))),?_⟩
   obtain ⟨dg,eg⟩:=M.obj;obtain ⟨x,hx⟩:∃ x,y.2[n]?=some x:=⟨_,List.getElem?_eq_getElem hn⟩;obtain ⟨vb,XN⟩:∃ v,z.us[n]?=some v:=⟨_,List.getElem?_eq_getElem (by rw [M.rb.len];exact hn)⟩;obtain ⟨b,dx,rfl,_,rep⟩:=M.rb.at_ n vb x XN hx;have hq:x.1.a < x.1.b/\x.1.b < y.1.length:=gy.rise.1 (JM.aU x) (List.mem_map_of_mem (List.mem_of_getElem? hx));have hfo:(vI (Bw (gQ (aE y)) (d8 (aE y))))[n]?=some (.int (JM.iI (JM.Found (gQ (aE y)) (d8 (aE y)) n):Int)):=sE (mi (by rw [uH,List.length_map];exact hn));refine ⟨_,rfl,fld eg T.aY T.cP rfl ⟨_,rfl,tT (bI.of M.bonds) (bw XN) ?_⟩⟩;refine ⟨_,rfl,fld eg T.aY T.gb rfl ⟨_,rfl,tT (bI.of M.orders) (bw hfo) ?_⟩⟩;refine ⟨2,rfl,by decide,by decide,rfl,?_⟩;have hb:(aE y).bonds[n]?=some x.1:=by simp [aE,hx]
   have hnb:n < (aE y).bonds.length:=(List.getElem?_eq_some_iff.mp hb).1;have fx:=gy.good.fixed hnb;have sd:(aE y).sided n=(decide (JM.iI (JM.Found (gQ (aE y)) (d8 (aE y)) n)=2)&&((aE y).endMay x.1.a x.1.b&&(aE y).endMay x.1.b x.1.a)):=by
     unfold Mol.sided;rw [hb];simp only;rw [fx]
   have de:decide (V.int (JM.iI (JM.Found (gQ (aE y)) (d8 (aE y)) n):Int)=V.int ((2 ^ (2 - 1):Nat):Int))=decide (JM.iI (JM.Found (gQ (aE y)) (d8 (aE y)) n)=2):=by
     rw [Bool.eq_iff_iff];simp only [decide_eq_true_eq];constructor
     . intro h
       injection h with h;have:((2 ^ (2 - 1):Nat):Int)=2:=rfl;omega
     . intro h
       rw [h]
   rw [de];rw [sd] at k;refine ⟨_,rfl,_,rfl,?_⟩;cases h1:decide (JM.iI (JM.Found (gQ (aE y)) (d8 (aE y)) n)=2) with
   | false=>
     have kk:=k H (aS.refl _);rw [h1,Bool.false_and] at kk;exact kk
   | true=>
     rw [h1,Bool.true_and] at k;refine ⟨_,rfl,_,rfl,fld rep T.gG T.kr rfl ⟨_,rfl,fld rep T.gG T.ku rfl ?_⟩⟩;refine ⟨g,x.1.a,x.1.b,z,y,D,rfl,M,gy,by omega,fun H1 s1=>⟨_,rfl,?_⟩⟩;cases h2:(aE y).endMay x.1.a x.1.b with
     | false=>
       have kk:=k H1 s1;rw [h2,Bool.false_and] at kk;exact kk
     | true=>
       rw [h2,Bool.true_and] at k;refine ⟨_,rfl,_,rfl,fld (s1 _ _ rep) T.gG T.ku rfl ⟨_,rfl,fld (s1 _ _ rep) T.gG T.kr rfl ?_⟩⟩;exact ⟨g,x.1.b,x.1.a,z,y,D,rfl,M.same s1,gy,hq.2,fun H2 s2=>k H2 (s1.trans s2)⟩
end
theorem Kl (b:Bytes):Fk.judgeMol b=Fk.andThen (tM Fk.MOLMARK JM.wA JM.sA b 0) fun y=>JM.Fd (aE y) y.1.zipIdx y.2.zipIdx:=by
 rw [JM.Mi];unfold tM;simp only [JM.bq,JM.bg]
theorem Fj {α:Type} {l:List α} {i:Nat} {x:α} (h:l[i]?=some x):l.zipIdx.drop i=(x,i)::l.zipIdx.drop (i+1):=by
 obtain ⟨hl,hg⟩:=List.getElem?_eq_some_iff.mp h;rw [List.drop_eq_getElem_cons (by simpa using hl)];simp [hg]
theorem CQ:∀ {m b:Bytes} {p:Nat} {y:Bytes×Nat},JM.m5 m b p=.ok y->y.1=b.drop m.length
 | [],b,p,y,h=>by cases h;rfl
 | c::m,b,p,y,h=>by
  unfold JM.m5 at h
  obtain ⟨x,h1,h⟩:=JM.aM h
  obtain ⟨u,h2,h⟩:=JM.aM h
  have e:=CQ h
  have:=(JM.bA h1).2.2.2.1
  rw [e,this,List.drop_drop,List.length_cons,Nat.add_comm]
theorem Z5 {B:Bytes} {k:Nat} (h:1<=(B.drop k).length):Fk.num ((B.drop k).take 1)=(B.getD k 0).toNat:=by
 have hk:k < B.length:=by rw [List.length_drop] at h;omega
 rw [List.drop_eq_getElem_cons hk];show Fk.num [B[k]]=_;rw [JM.IV,List.getD,List.getElem?_eq_getElem hk];rfl
theorem Mw {α:Type} {one:Bytes->Nat->Except Fault (α×Bytes×Nat)} {Pr:α->Prop} (ho:∀ b p x,one b p=.ok x->Pr x.1):∀ {k:Nat} {b:Bytes} {p:Nat} {y:List α×Bytes×Nat},JM.many one k b p=.ok y->∀ z ∈ y.1,Pr z
 | 0,b,p,y,h=>by cases h;simp
 | k+1,b,p,y,h=>by
   unfold JM.many at h
   obtain ⟨x,h1,h⟩:=JM.aM h
   obtain ⟨l,h2,h⟩:=JM.aM h
   cases h
   intro z hz
   rcases List.mem_cons.mp hz with r | r
   . rw [r];exact ho _ _ _ h1
   . exact Mw ho h2 z r
theorem Ib {α:Type} {n:Nat} {one:Nat×Nat->Bytes->Nat->Except Fault (α×Bytes×Nat)} {Pr:α->Prop} (ho:∀ q b p x,one q b p=.ok x->Pr x.1):∀ {k:Nat} {had:Option (Nat×Nat)} {b:Bytes} {p:Nat} {y:List α×Bytes×Nat},JM.jy n one k had b p=.ok y->∀ z ∈ y.1,Pr z
 | 0,_,b,p,y,h=>by cases h;simp
 | k+1,had,b,p,y,h=>by
   unfold JM.jy at h
   obtain ⟨q,h0,h⟩:=JM.aM h
   obtain ⟨x,h1,h⟩:=JM.aM h
   obtain ⟨l,h2,h⟩:=JM.aM h
   cases h
   intro z hz
   rcases List.mem_cons.mp hz with r | r
   . rw [r];exact ho _ _ _ _ h1
   . exact Ib ho h2 z r
theorem Km (b:Bytes) (p:Nat) (x:(Atom×Nat)×Bytes×Nat) (h:JM.wA b p=.ok x):x.1.1.element<=118/\x.1.1.isotope<=500/\(-4<=x.1.1.charge/\x.1.1.charge<=4)/\x.1.1.hydrogens<=7/\x.1.1.hand<=2:=by
 unfold JM.wA JM.qR at h;obtain ⟨w,h0,hw⟩:=JM.aM h;cases hw;obtain ⟨a1,h1,h0⟩:=JM.aM h0;obtain ⟨a2,h2,h0⟩:=JM.aM h0;obtain ⟨a3,h3,h0⟩:=JM.aM h0;obtain ⟨a4,h4,h0⟩:=JM.aM h0;obtain ⟨a5,h5,h0⟩:=JM.aM h0;cases h0;have g1:=(JM.bA h1).2.1;have g2:=(JM.bA h2).2.1;have g3:=(JM.bA h3).2.1;have g4:=(JM.bA h4).2.1;have g5:=(JM.bA h5).2.1;simp only [Bool.and_eq_true,decide_eq_true_eq] at g1 g2 g3 g4 g5;unfold Fk.ELEMENTS at g1;unfold Fk.ISOTOPE at g2;simp only;omega
theorem Kn (q:Nat×Nat) (b:Bytes) (p:Nat) (x:(Bond×Nat)×Bytes×Nat) (h:JM.sA q b p=.ok x):(1<=x.1.1.order/\x.1.1.order<=3)/\x.1.1.side<=2:=by
 unfold JM.sA JM.p7 at h;obtain ⟨w,h0,hw⟩:=JM.aM h;cases hw;obtain ⟨a1,h1,h0⟩:=JM.aM h0;obtain ⟨a2,h2,h0⟩:=JM.aM h0;cases h0;have g1:=(JM.bA h1).2.1;have g2:=(JM.bA h2).2.1;simp only [Bool.and_eq_true,decide_eq_true_eq] at g1 g2;simp only;omega
theorem Mx {B:Bytes} {y:aB} (hy:tM Fk.MOLMARK JM.wA JM.sA B 0=.ok y) (few:(B.getD 5 0).toNat<=12):gc y:=by
 unfold tM at hy;obtain ⟨m,hm,hy⟩:=JM.aM hy;obtain ⟨n,hn,hy⟩:=JM.aM hy;obtain ⟨k,hk,hy⟩:=JM.aM hy;obtain ⟨x,hx,hy⟩:=JM.aM hy;obtain ⟨z,hz,hy⟩:=JM.aM hy;obtain ⟨_,_,hy⟩:=JM.aM hy;cases hy;have e1:=CQ hm;have e2:=(JM.bA hn).2.2.2.1;have e3:=(JM.bA hk).2.2.1;have e4:=(JM.bA hk).1;have aaL:=of_decide_eq_true (JM.bA hn).2.1;unfold Fk.ATOMS at aaL;have lx:=JM.t6 hx;have lz:=JM.qD hz;have e5:n.2.1=B.drop 5:=by rw [e2,e1,List.drop_drop];rfl
 rw [e5] at e3 e4;rw [Z5 e4] at e3;refine ⟨?_,by simp only;omega,by simp only;omega,Ib Kn hz,Mw Km hx⟩;have:=(JM.xq (ends:=JM.aU) JM.Ff hz).1;simp only;rw [lx];exact this
theorem acm (b:Bytes) (p:Nat) (y:(Atom×Nat)×Bytes×Nat) (h:JM.wA b p=.ok y):((y.1.2:Nat):Int)=(y.2.2:Int) - 1:=by
 unfold JM.wA at h;obtain ⟨w,h1,h⟩:=JM.aM h;cases h;have:=JM.ym h1;simp only;omega
theorem acn (q:Nat×Nat) (b:Bytes) (p:Nat) (y:(Bond×Nat)×Bytes×Nat) (h:JM.sA q b p=.ok y):((y.1.2:Nat):Int)=(y.2.2:Int) - 1:=by
 unfold JM.sA at h;obtain ⟨w,h1,h⟩:=JM.aM h;cases h;have:=JM.yp h1;simp only;omega
section
theorem fC.same {K:Zqq} {C:Addr} {H H':Hp} {r:Addr} {x:FU} (R:fC K C H r x) (f:aS H H'):fC K C H' r x:=R.stay (S:=[]) (aS.frm f) (by simp) (by simp) (by simp) (by simp)
def WI (K:Zqq) (t:Ad):Sp:=fun vs H Q E=>∃ (a:Addr) (w:Int) (B:Bytes),vs=[.ref a,.int w]/\rZ K H a B/\B.length<=6000/\(B.getD 5 0).toNat<=12 /\
 mh t.aH w (Fk.judgeMol B) (fun M=>∀ H' g z y,mV t (fun b=>H b=none) H' g z y->gc y->M=aE y->aS H H'->Q (.ref g) H') E
theorem pS:aQ ["form","which","reader","graph","molecule","k","atom","bond"] ["form","which"] (aF qe):=lT (by decide +kernel)
theorem U3 (T:Txt K mg t):bF P w K mg base (uP P w) 10 t.gg t.jZ ["form","which"] (WI K t):=by
 have GI:=@LZ P w K mg base t T;have GF:=@se P w K mg base t T;have GH:=@WE P w K mg base t T;have GS:=@WH P w K mg base t T;have GM:=@U0 P w K mg base t T;have GG:bF P w K mg base (uP P w) 9 t.gF t.jM ["reader","mark","take_atom","take_bond"] (JY K t.aG t.aH t.bK t.ja t.jb JM.wA JM.sA (pR t.eB) (nM t.eE) (fun z=>z.2) (fun z=>z.2) JM.aU):=
   Mg T (pR.ok _) (nM.ok _) acm acn JM.Ff (fun ⟨o,dx,e,d,h⟩=>⟨o,e,d,o,_,dx,_,e,h,T.gG,T.kr,T.ku,rfl,rfl⟩) ((Zr T).mono (by decide)) T.mQ.kp T.CD ((Zs T).mono (by decide)) T.mR.kp T.CH
 obtain ⟨tk4,g4⟩:=T.oM;obtain ⟨tk6,g6⟩:=T.oN;refine T.iQ.K9 pS (fun vs H Q E h=>?_) (fun cdv A outer s H vs Q E hr h=>?_)
 . obtain ⟨a,w,B,rfl,_⟩:=h
   rfl
 . obtain ⟨a,w,B,rfl,hB,hlen,few,bD⟩:=h
   have hr1:dG 1 _:=hr.mono (by decide);have hr2:dG 2 _:=hr.mono (by decide);have Ma:dG 3 _:=hr.mono (by decide);have MX:dG 5 _:=hr.mono (by decide);refine ⟨_,ak (aR (i:=2) pS.nd rfl (Or.inl rfl) (qz T.E3 GI hr2 rfl T.E2 T.tW .nil bE (af (pv 0) (af (pv 1) au))))
     (ak (aR (i:=3) pS.nd rfl (Or.inl rfl) (b4 GG hr rfl T.vp T.jS.kp T.vj .nil c7 (af (pv 2) (af (aV rfl T.uC (v:=.ref t.dM) rfl) (af (aV rfl T.CJ (v:=.ref t.ja) rfl) (af (aV rfl T.CK (v:=.ref t.jb) rfl) au))))))
     (ak (aR (i:=4) pS.nd rfl (Or.inl rfl) (qz T.E5 GM MX rfl T.E4 T.vX .nil bE (af (aA (pv 3) rfl) (af (aA (pv 3) rfl) au))))
     (ak (fj IU rfl (sZ rfl T.jk (af (aA (pv 4) rfl) au)) (wR rfl (gn (bu (i:=5) pS.nd rfl (Or.inl rfl)) (gn (bu (i:=6) pS.nd rfl (Or.inl rfl)) sV)))
       (az (kK (PW.pt (o6 (d9 vU (aA (pv 6) rfl) aN (cg _)) (lF (uQ (jl (b4 GH hr1 rfl T.wm T.iR.kp T.wc .nil bE (af (pv 4) (af (pv 5) au))))))))
         (az (dW (aW (pv 2) T.aL T.dj GF Ma T.cZ .nil c7 (af (aV rfl g4 (v:=.int 4) ⟨_,rfl⟩) (af (bV b9 (aA (pv 2) rfl) (pv 5) (fun _ _=>rfl)) au))))) ee)))
     (ak (fj IU rfl (sZ rfl T.jk (af (aA (pv 4) rfl) au)) (wR rfl (gn (bu (i:=5) pS.nd rfl (Or.inl rfl)) (gn (bu (i:=7) pS.nd rfl (Or.inl rfl)) sV)))
       (az (kK (PW.pt (o6 (d9 vU (aA (pv 7) rfl) aN (cg _)) (lF (uQ (jl (b4 GS Ma rfl T.wo T.iS.kp T.wg .nil bE (af (pv 4) (af (pv 5) au))))))))
         (az (dW (aW (pv 2) T.aL T.dj GF Ma T.cZ .nil c7 (af (aV rfl g6 (v:=.int 6) ⟨_,rfl⟩) (af (bV b9 (aA (pv 2) rfl) (pv 5) (fun _ _=>rfl)) au))))) ee)))
     (az (bc (pv 4))))))),?_⟩
   refine ⟨_,rfl,_,rfl,fun r dx nr nd ne=>?_⟩;have My:∀ b u,H b=some u->upd (upd H dx (.own r)) r (.ins t.aG dx []) b=some u:=fun b u e=>by rw [aq (ay e nr),aq (ay e nd)];exact e
   have hB':rZ K (upd (upd H dx (.own r)) r (.ins t.aG dx [])) a B:=by
     rcases hB with ⟨o,h⟩ | h
     . exact .inl ⟨o,My _ _ h⟩
     . exact .inr h
   refine ⟨r,dx,a,w,B,rfl,ai,hB',hlen,fun H1 hp sp nhp nsp R1 F1=>⟨rfl,?_⟩⟩;have S1:aS H H1:=fun b u e=>(jq.made (S:=[]) nr nd F1) b u e (by simp);have old:∀ b,upd (upd H dx (.own r)) r (.ins t.aG dx []) b=none->H b=none:=fun b h=>by
     cases q:H b with
     | none=>rfl
     | some u=>rw [My b u q] at h;cases h
   rw [Kl] at bD;refine ⟨_,rfl,?_⟩;refine ⟨r,t.dM,Fk.MOLMARK,_,rfl,R1,rfl,rfl,T.uD,bD.andThen'.mono fun y hy bD H2 g la lb lr as us rs b p R2 F2 G2 RA2 RB2 rise=>?_⟩;have S2:aS H H2:=fun c u e=>F2 c u (S1 c u e) (by
     have h1:c ≠ r:=ay e nr;have h2:c ≠ hp:=ay e (old hp nhp);have h3:c ≠ sp:=ay e (old sp nsp);simp [h1];exact ⟨h2,h3⟩)
   have gy:gc y:=Mx hy few;have nn:∀ b,H1 b=none->H b=none:=fun b d=>by
     cases q:H b with
     | none=>rfl
     | some u=>rw [S1 b u q] at d;cases d
   have Fb:y.1.length=as.length:=RA2.len.symm;obtain ⟨dg,eg⟩:=G2.obj;refine ⟨_,rfl,fld eg T.jg T.gK rfl ⟨_,rfl,fld eg T.jg T.gM rfl (fun o d3 no nd3 ne3=>?_)⟩⟩;have Pc:∀ b u,H2 b=some u->upd (upd H2 d3 (.own o)) o (.ins t.aT d3 []) b=some u:=fun b u e=>by rw [aq (ay e no),aq (ay e nd3)];exact e
   refine ⟨o,d3,la,lb,as,us,y,fun b=>H b=none,rfl,ai,Pc _ _ G2.atoms,Pc _ _ G2.bonds,(RA2.mono (pR.ok _) nn).stay (pR.ok _) (fun b u _ h=>Pc b u h),(RB2.mono (nM.ok _) nn).stay (nM.ok _) (fun b u _ h=>Pc b u h),by have:=gy.small;omega,gy.few,rise,fun H4 z hz1 hz2 hz3 hz4 M F4=>⟨rfl,?_⟩⟩;subst hz1 hz2 hz3 hz4;have S24:aS H2 H4:=fun b u e=>(jq.made (S:=[]) no nd3 F4) b u e (by simp);have R4:=R2.same S24;have S4:aS H H4:=S2.trans S24;obtain ⟨dm,em⟩:=M.obj;have aaZ:z.as.length=y.1.length:=M.ra.len;refine ⟨_,rfl,fld em T.aY T.bT rfl ⟨z.la,z.as,rfl,bI.of M.atoms,?_⟩⟩;let wN:L2.Iv:=fun i σ H'=>∃ vk va,σ=[some (.ref a),some (.int w),some (.ref r),some (.ref g),some (.ref o),vk,va,none]/\aS H4 H' /\
     mh t.aH w (JM.Fd (aE y) (y.1.zipIdx.drop i) y.2.zipIdx) (fun Mo=>∀ H' g z y,mV t (fun b=>H b=none) H' g z y->gc y->Mo=aE y->aS H H'->Q (.ref g) H') E
   refine pQ (K:=K) (a:=z.la) (xs:=z.as) wN
     ⟨none,none,rfl,aS.refl _,bD⟩ (fun i σ H' _ ⟨_,_,_,sm,_⟩=>bI.of (sm _ _ M.atoms)) ?_ ?_
   . rintro i x σ H' Tt hx ⟨vk,va,rfl,sm,bD⟩ hT
     have hi:i < z.as.length:=(List.getElem?_eq_some_iff.mp hx).1;obtain ⟨c,hc⟩:∃ c,y.1[i]?=some c:=⟨_,List.getElem?_eq_getElem (by omega)⟩;obtain ⟨q,dq,rfl,_,rep⟩:=M.ra.at_ i x c hx hc;rw [Fj hc,JM.NR] at bD;have sm':aS H4 (upd H' Tt (.tup [.int (i:Int),.ref q])):=sm.trans (aK hT);refine ⟨Tt,_,rfl,nU.of ai,rfl,_,_,rfl,_,_,rfl,rfl,?_⟩;refine ⟨_,rfl,fld (sm' _ _ rep) T.mH T.lB rfl ⟨rfl,_,rfl,?_⟩⟩;have de:(!decide (V.int (c.1.hand:Int)=V.int 0))=(c.1.hand != 0):=by
       rw [Bool.eq_iff_iff];simp
     rw [de];cases h1:(c.1.hand != 0) with
     | false=>
       have nb:¬ JM.D0 (aE y) (c,i)=true:=by simp [JM.D0,h1]
       rw [if_neg nb] at bD;exact ⟨_,_,rfl,sm',bD⟩
     | true=>
       refine ⟨_,rfl,_,rfl,?_⟩;refine ⟨o,i,z,y,_,rfl,M.same sm',gy,by omega,fun H5 s5=>⟨_,rfl,?_⟩⟩;have XQ:aS H4 H5:=sm'.trans s5;cases h2:(aE y).handed i with
       | true=>
         have nb:¬ JM.D0 (aE y) (c,i)=true:=by simp [JM.D0,h1,h2]
         rw [if_neg nb] at bD;exact ⟨_,_,rfl,XQ,bD⟩
       | false=>
         have nb:JM.D0 (aE y) (c,i)=true:=by simp [JM.D0,h1,h2]
         rw [if_pos nb] at bD;have R5:=R4.same XQ;obtain ⟨d5,e5⟩:=R5.obj;have e6:((y.1.map fun z=>((z.2:Nat):Int)).map V.int)[i]?=some (V.int (c.2:Int)):=by simp [hc]
         refine ⟨_,rfl,r,d5,_,rfl,e5,rfl,_,rfl,fld e5 T.aL T.cM rfl ⟨_,rfl,tT (bI.of R5.hpl) (bw e6) ?_⟩⟩;exact ⟨r,w,4,(c.2:Int),d5,_,rfl,e5,rfl,fun H' d' hF=>bD H' d' hF⟩
   . rintro σ H' ⟨vk,va,rfl,sm,bD⟩
     rw [aaZ,show y.1.zipIdx.drop y.1.length=[] from List.drop_eq_nil_of_le (by simp)] at bD;have M5:=M.same sm;obtain ⟨dm5,em5⟩:=M5.obj;refine ⟨_,rfl,fld em5 T.aY T.cP rfl ⟨z.lb,z.us,rfl,bI.of M5.bonds,?_⟩⟩;let Us:L2.Iv:=fun i σ H'=>∃ vk vb,σ=[some (.ref a),some (.int w),some (.ref r),some (.ref g),some (.ref o),vk,va,vb]/\aS H4 H' /\
       mh t.aH w (JM.HV (aE y) (y.2.zipIdx.drop i)) (fun Mo=>∀ H' g z y,mV t (fun b=>H b=none) H' g z y->gc y->Mo=aE y->aS H H'->Q (.ref g) H') E
     refine pQ (K:=K) (a:=z.lb) (xs:=z.us) Us
       ⟨vk,none,rfl,sm,bD⟩ (fun i σ H' _ ⟨_,_,_,sm,_⟩=>bI.of (sm _ _ M.bonds)) ?_ ?_
     . rintro i x σ H' Tt hx ⟨vk,vb,rfl,sm,bD⟩ hT
       have hi:i < z.us.length:=(List.getElem?_eq_some_iff.mp hx).1;have hi2:i < y.2.length:=by rw [<- M.rb.len];exact hi
       obtain ⟨c,hc⟩:∃ c,y.2[i]?=some c:=⟨_,List.getElem?_eq_getElem hi2⟩;obtain ⟨q,dq,rfl,_,rep⟩:=M.rb.at_ i x c hx hc;rw [Fj hc,JM.NS] at bD;have sm':aS H4 (upd H' Tt (.tup [.int (i:Int),.ref q])):=sm.trans (aK hT);refine ⟨Tt,_,rfl,nU.of ai,rfl,_,_,rfl,_,_,rfl,rfl,?_⟩;refine ⟨_,rfl,fld (sm' _ _ rep) T.gG T.lC rfl ⟨rfl,_,rfl,?_⟩⟩;have de:(!decide (V.int (c.1.side:Int)=V.int 0))=(c.1.side != 0):=by
         rw [Bool.eq_iff_iff];simp
       rw [de];cases h1:(c.1.side != 0) with
       | false=>
         have nb:¬ JM.D4 (aE y) (c,i)=true:=by simp [JM.D4,h1]
         rw [if_neg nb] at bD;exact ⟨_,_,rfl,sm',bD⟩
       | true=>
         refine ⟨_,rfl,_,rfl,?_⟩;refine ⟨o,i,z,y,_,rfl,M.same sm',gy,hi2,fun H5 s5=>⟨_,rfl,?_⟩⟩;have XQ:aS H4 H5:=sm'.trans s5;cases h2:(aE y).sided i with
         | true=>
           have nb:¬ JM.D4 (aE y) (c,i)=true:=by simp [JM.D4,h1,h2]
           rw [if_neg nb] at bD;exact ⟨_,_,rfl,XQ,bD⟩
         | false=>
           have nb:JM.D4 (aE y) (c,i)=true:=by simp [JM.D4,h1,h2]
           rw [if_pos nb] at bD;have R5:=R4.same XQ;obtain ⟨d5,e5⟩:=R5.obj;have e6:((y.2.map fun z=>((z.2:Nat):Int)).map V.int)[i]?=some (V.int (c.2:Int)):=by simp [hc]
           refine ⟨_,rfl,r,d5,_,rfl,e5,rfl,_,rfl,fld e5 T.aL T.cO rfl ⟨_,rfl,tT (bI.of R5.JS) (bw e6) ?_⟩⟩;exact ⟨r,w,6,(c.2:Int),d5,_,rfl,e5,rfl,fun H' d' hF=>bD H' d' hF⟩
     . rintro σ H' ⟨vk,vb,rfl,sm,bD⟩
       rw [M.rb.len,show y.2.zipIdx.drop y.2.length=[] from List.drop_eq_nil_of_le (by simp)] at bD;exact ⟨_,rfl,bD H' o z y (M.same sm) gy rfl (S4.trans sm)⟩
end
open Fk (Fault Bytes numIn need andThen Atom Bond Mol PAtom PBond Part)
open Fk (Fault Bytes numIn need andThen PAtom PBond Part)
abbrev bz:=List (PAtom×Nat)×List (PBond×Nat)
def br (y:bz):Part:=⟨y.1.map fun z=>z.1,y.2.map fun z=>z.1⟩
def Ko (P:Part) (z:(PAtom×Nat)×Nat):Bool:=Fk.isOne z.1.1.hand&&!P.handed z.2
def Kp (P:Part) (z:PBond×Nat):Bool:=Fk.isOne z.1.side&&!P.sided z.1
def Mz (P:Part) (l:List (PBond×Nat)):Except Fault Part:=match l.find? (Kp P) with
 | some z=>.error ⟨6,z.2⟩
 | none=>.ok P
def M0 (P:Part) (l:List ((PAtom×Nat)×Nat)) (m:List (PBond×Nat)):Except Fault Part:=match l.find? (Ko P) with
 | some z=>.error ⟨4,z.1.2⟩
 | none=>Mz P m
theorem M3 (b:Bytes):Fk.judgePart b=Fk.andThen (tM Fk.PARTMARK JM.qB JM.qC b 0) fun y=>M0 (br y) y.1.zipIdx y.2:=by
 unfold Fk.judgePart tM;simp only [JM.ON,JM.C7,JM.C8,JM.bq,JM.bg];rfl
theorem NX (P:Part) (z:(PAtom×Nat)×Nat) (l:List ((PAtom×Nat)×Nat)) (m:List (PBond×Nat)):M0 P (z::l) m=if Ko P z=true then .error ⟨4,z.1.2⟩ else M0 P l m:=by
 unfold M0;rw [List.find?_cons];cases Ko P z<;>rfl
theorem NY (P:Part) (z:PBond×Nat) (l:List (PBond×Nat)):Mz P (z::l)=if Kp P z=true then .error ⟨6,z.2⟩ else Mz P l:=by
 unfold Mz;rw [List.find?_cons];cases Kp P z<;>rfl
theorem M4 {α:Type} {l:List α} {i:Nat} {x:α} (h:l[i]?=some x):l.zipIdx.drop i=(x,i)::l.zipIdx.drop (i+1):=by
 obtain ⟨hl,hg⟩:=List.getElem?_eq_some_iff.mp h;rw [List.drop_eq_getElem_cons (by simpa using hl)];simp [hg]
theorem WJ {α:Type} {l:List α} {i:Nat} {x:α} (h:l[i]?=some x):l.drop i=x::l.drop (i+1):=by
 obtain ⟨hl,hg⟩:=List.getElem?_eq_some_iff.mp h;rw [List.drop_eq_getElem_cons hl,hg]
theorem Z7 (b:Bytes) (p:Nat) (y:(PAtom×Nat)×Bytes×Nat) (h:JM.qB b p=.ok y):((y.1.2:Nat):Int)=(y.2.2:Int) - 1:=by
 unfold JM.qB at h;have step:∀ {α β:Type} {x:Except Fault α} {f:α->Except Fault β} {r:β},Fk.andThen x f=.ok r->∃ a,x=.ok a/\f a=.ok r:=fun {α β x f r} h=>by
  cases x with
  | error e=>cases h
  | ok a=>exact ⟨a,rfl,h⟩
 obtain ⟨_,_,h⟩:=step h;obtain ⟨_,_,h⟩:=step h;obtain ⟨_,_,h⟩:=step h;obtain ⟨_,_,h⟩:=step h;obtain ⟨_,_,h⟩:=step h;obtain ⟨_,_,h⟩:=step h;obtain ⟨_,_,h⟩:=step h;obtain ⟨_,_,h⟩:=step h;obtain ⟨g,hg,h⟩:=step h;cases h;have:=(JM.bA hg).2.2.2.2;simp only;omega
theorem Z8 (q:Nat×Nat) (b:Bytes) (p:Nat) (y:(PBond×Nat)×Bytes×Nat) (h:JM.qC q b p=.ok y):((y.1.2:Nat):Int)=(y.2.2:Int) - 1:=by
 unfold JM.qC at h;have step:∀ {α β:Type} {x:Except Fault α} {f:α->Except Fault β} {r:β},Fk.andThen x f=.ok r->∃ a,x=.ok a/\f a=.ok r:=fun {α β x f r} h=>by
  cases x with
  | error e=>cases h
  | ok a=>exact ⟨a,rfl,h⟩
 obtain ⟨_,_,h⟩:=step h;obtain ⟨_,_,h⟩:=step h;obtain ⟨_,_,h⟩:=step h;obtain ⟨g,hg,h⟩:=step h;cases h;have:=(JM.bA hg).2.2.2.2;simp only;omega
section
structure By (K:Zqq) (t:Ad) (D:Addr->Prop) (H:Hp) (g la lb lr:Addr) (as us:List V) (rs:List Addr) (y:bz):Prop where
 gr:NQ t.bK H g la lb lr as us rs (y.2.map JM.c9)
 at_:cR (Bh t.aO) D H as y.1
 bo:cR (yi t.aP) D H us y.2
 rise:JM.ng as.length (y.2.map JM.c9)
 nb:y.2.length<=192
def Z9 (K:Zqq) (t:Ad):Sp:=fun vs H Q E=>∃ (a:Addr) (w:Int) (B:Bytes),vs=[.ref a,.int w]/\rZ K H a B/\B.length<=6000 /\
 mh t.aH w (Fk.judgePart B) (fun Pt=>∀ H' g la lb lr as us rs y,By K t (fun b=>H b=none) H' g la lb lr as us rs y->Pt=br y->aS H H'->Q (.ref g) H') E
theorem NQ.same {C:Addr} {H H':Hp} {g la lb lr:Addr} {as us:List V} {rs:List Addr} {l:List (Nat×Nat)} (G:NQ C H g la lb lr as us rs l) (f:aS H H'):NQ C H' g la lb lr as us rs l:=
 ⟨let ⟨dx,e⟩:=G.obj;⟨dx,f _ _ e⟩,f _ _ G.atoms,f _ _ G.bonds,G.rows.same f⟩
theorem By.same {D:Addr->Prop} {H H':Hp} {g la lb lr:Addr} {as us:List V} {rs:List Addr} {y:bz} (p:By K t D H g la lb lr as us rs y) (f:aS H H'):By K t D H' g la lb lr as us rs y:=
 ⟨p.gr.same f,p.at_.stay (Bh.ok _) fun b o _ e=>f b o e,p.bo.stay (yi.ok _) fun b o _ e=>f b o e,p.rise,p.nb⟩
theorem vF:aQ ["form","which","reader","pattern","k","atom","bond"] ["form","which"] (aF qT):=lT (by decide +kernel)
theorem M6 (y:bz):(br y).bonds.map (fun x=>(x.a,x.b))=y.2.map JM.c9:=by
 unfold br JM.c9;simp
theorem sG {n:Nat} {y:bz} (hn:y.1.length=n) (h:JM.ng n (y.2.map JM.c9)) (v:Nat):(br y).beside v=JM.bG (y.2.map JM.c9) v:=by
 have e:=JM.Lq (P:=br y) (by rw [M6];unfold Part.n br;simpa [hn] using h) v;rw [e,M6]
theorem WK (T:Txt K mg t):bF P w K mg base (uP P w) 10 t.iw t.kP ["form","which"] (Z9 K t):=by
 have GI:=@LZ P w K mg base t T;have GF:=@se P w K mg base t T;have GT:=@Fc P w K mg base t T;have GE:=@W7 P w K mg base t T;have GG:bF P w K mg base (uP P w) 9 t.gF t.jM ["reader","mark","take_atom","take_bond"] (JY K t.aG t.aH t.bK t.bR t.bS JM.qB JM.qC (Bh t.aO) (yi t.aP) (fun z=>z.2) (fun z=>z.2) JM.c9):=
   Mg T (Bh.ok _) (yi.ok _) Z7 Z8 JM.IW (fun ⟨o,dx,e,d,h⟩=>⟨o,e,d,o,_,dx,_,e,h,T.aZ,T.dw,T.dz,rfl,rfl⟩) (Zf T) T.eV.kp T.qk ((Zd T).mono (by decide)) T.eW.kp T.ql
 obtain ⟨tk4,g4⟩:=T.oM;obtain ⟨tk6,g6⟩:=T.oN;refine T.j7.K9 vF (fun vs H Q E h=>?_) (fun cdv A outer s H vs Q E hr h=>?_)
 . obtain ⟨a,w,B,rfl,_⟩:=h
   rfl
 . obtain ⟨a,w,B,rfl,hB,hlen,bD⟩:=h
   have hr1:dG 1 _:=hr.mono (by decide);have hr2:dG 2 _:=hr.mono (by decide);have Ma:dG 3 _:=hr.mono (by decide);refine ⟨_,ak (aR (i:=2) vF.nd rfl (Or.inl rfl) (qz T.E3 GI hr2 rfl T.E2 T.tW .nil bE (af (pv 0) (af (pv 1) au))))
     (ak (aR (i:=3) vF.nd rfl (Or.inl rfl) (b4 GG hr rfl T.vp T.jS.kp T.vj .nil c7 (af (pv 2) (af (aV rfl T.wz (v:=.ref t.fh) rfl) (af (aV rfl T.qo (v:=.ref t.bR) rfl) (af (aV rfl T.qp (v:=.ref t.bS) rfl) au))))))
     (ak (fj IU rfl (sZ rfl T.jk (af (aA (pv 3) rfl) au)) (wR rfl (gn (bu (i:=4) vF.nd rfl (Or.inl rfl)) (gn (bu (i:=5) vF.nd rfl (Or.inl rfl)) sV)))
       (az (kK (PW.pt (o6 (jl (b4 GT hr1 rfl T.Au T.qE.kp T.An .nil bE (af (aA (pv 5) rfl) au))) (lF (d9 qA (c6 bx (by rfl) T.kG PySem.boot_len (af (bV b9 (aA (pv 3) rfl) (pv 4) (fun _ _=>rfl)) au)) (mz (af aN (af aN au))) rfl))))
         (az (dW (aW (pv 2) T.aL T.dj GF Ma T.cZ .nil c7 (af (aV rfl g4 (v:=.int 4) ⟨_,rfl⟩) (af (bV b9 (aA (pv 2) rfl) (pv 4) (fun _ _=>rfl)) au))))) ee)))
     (ak (fj IU rfl (sZ rfl T.jk (af (aA (pv 3) rfl) au)) (wR rfl (gn (bu (i:=4) vF.nd rfl (Or.inl rfl)) (gn (bu (i:=6) vF.nd rfl (Or.inl rfl)) sV)))
       (az (kK (PW.pt (o6 (jl (b4 GT hr1 rfl T.Au T.qE.kp T.An .nil bE (af (aA (pv 6) rfl) au))) (lF (uQ (jl (b4 GE hr2 rfl T.uA T.gS.kp T.u6 .nil bE (af (pv 3) (af (pv 6) au))))))))
         (az (dW (aW (pv 2) T.aL T.dj GF Ma T.cZ .nil c7 (af (aV rfl g6 (v:=.int 6) ⟨_,rfl⟩) (af (bV b9 (aA (pv 2) rfl) (pv 4) (fun _ _=>rfl)) au))))) ee)))
     (az (bc (pv 3)))))),?_⟩
   refine ⟨_,rfl,_,rfl,fun r dx nr nd ne=>?_⟩;have My:∀ b u,H b=some u->upd (upd H dx (.own r)) r (.ins t.aG dx []) b=some u:=fun b u e=>by rw [aq (ay e nr),aq (ay e nd)];exact e
   have hB':rZ K (upd (upd H dx (.own r)) r (.ins t.aG dx [])) a B:=by
     rcases hB with ⟨o,h⟩ | h
     . exact .inl ⟨o,My _ _ h⟩
     . exact .inr h
   refine ⟨r,dx,a,w,B,rfl,ai,hB',hlen,fun H1 hp sp nhp nsp R1 F1=>⟨rfl,?_⟩⟩;have S1:aS H H1:=fun b u e=>(jq.made (S:=[]) nr nd F1) b u e (by simp);have old:∀ b,upd (upd H dx (.own r)) r (.ins t.aG dx []) b=none->H b=none:=fun b h=>by
     cases q:H b with
     | none=>rfl
     | some u=>rw [My b u q] at h;cases h
   rw [M3] at bD;refine ⟨_,rfl,?_⟩;refine ⟨r,t.fh,Fk.PARTMARK,_,rfl,R1,rfl,rfl,T.w6,bD.andThen'.mono fun y hy bD H2 g la lb lr as us rs b p R2 F2 G2 RA2 RB2 rise=>?_⟩;have S2:aS H H2:=fun c u e=>F2 c u (S1 c u e) (by
     have h1:c ≠ r:=ay e nr;have h2:c ≠ hp:=ay e (old hp nhp);have h3:c ≠ sp:=ay e (old sp nsp);simp [h1];exact ⟨h2,h3⟩)
   have nby:y.2.length<=192:=by
     unfold tM at hy;have step:∀ {α β:Type} {x:Except Fault α} {f:α->Except Fault β} {r:β},Fk.andThen x f=.ok r->∃ a,x=.ok a/\f a=.ok r:=fun {α β x f r} h=>by
       cases x with
       | error e=>cases h
       | ok a=>exact ⟨a,rfl,h⟩
     obtain ⟨_,_,hy⟩:=step hy;obtain ⟨_,_,hy⟩:=step hy;obtain ⟨kk,hk,hy⟩:=step hy;obtain ⟨_,_,hy⟩:=step hy;obtain ⟨yy,hyy,hy⟩:=step hy;obtain ⟨_,_,hy⟩:=step hy;cases hy;have h1:=of_decide_eq_true (JM.bA hk).2.1;have h2:=JM.qD hyy;simp only;unfold Fk.BONDS at h1;omega
   have nn:∀ b,H1 b=none->H b=none:=fun b d=>by
     cases q:H b with
     | none=>rfl
     | some u=>rw [S1 b u q] at d;cases d
   have pat:By K t (fun b=>H b=none) H2 g la lb lr as us rs y:=⟨G2,RA2.mono (Bh.ok _) nn,RB2.mono (yi.ok _) nn,rise,nby⟩;have Fb:y.1.length=as.length:=RA2.len.symm;have Ri:∀ v,(JM.bG (y.2.map JM.c9) v).length<=1000:=fun v=>by
     have:=sr (y.2.map JM.c9) v;rw [List.length_map] at this;omega
   obtain ⟨dg,eg⟩:=G2.obj;refine ⟨_,rfl,fld eg T.jg T.gK rfl ⟨la,as,rfl,bI.of G2.atoms,?_⟩⟩;let wN:L2.Iv:=fun i σ H'=>∃ vk va,σ=[some (.ref a),some (.int w),some (.ref r),some (.ref g),vk,va,none]/\aS H2 H' /\
     mh t.aH w (M0 (br y) (y.1.zipIdx.drop i) y.2) (fun Pt=>∀ H' g la lb lr as us rs y,By K t (fun b=>H b=none) H' g la lb lr as us rs y->Pt=br y->aS H H'->Q (.ref g) H') E
   refine pQ (K:=K) (a:=la) (xs:=as) wN
     ⟨none,none,rfl,aS.refl _,bD⟩ (fun i σ H' _ ⟨_,_,_,sm,_⟩=>bI.of (sm _ _ G2.atoms)) ?_ ?_
   . rintro i x σ H' Tt hx ⟨vk,va,rfl,sm,bD⟩ hT
     have hi:i < as.length:=(List.getElem?_eq_some_iff.mp hx).1;obtain ⟨z,hz⟩:∃ z,y.1[i]?=some z:=⟨_,List.getElem?_eq_getElem (by omega)⟩;obtain ⟨o,dxo,ln,tc,th,tn,tt,rfl,rep⟩:=RA2.at_ i x z hx hz;rw [M4 hz,NX] at bD;have sm':aS H2 (upd H' Tt (.tup [.int (i:Int),.ref o])):=sm.trans (aK hT);refine ⟨Tt,_,rfl,nU.of ai,rfl,_,_,rfl,_,_,rfl,rfl,?_⟩;refine ⟨_,rfl,fld (sm' _ _ rep.obj) T.b5 T.cV rfl ?_⟩;refine ⟨z.1.hand,rfl,fun H3 s3=>⟨_,rfl,?_⟩⟩;have MZ:aS H2 H3:=sm'.trans s3;cases h1:Fk.isOne z.1.hand with
     | false=>
       have nb:¬ Ko (br y) (z,i)=true:=by simp [Ko,h1]
       rw [if_neg nb] at bD;exact ⟨_,_,rfl,MZ,bD⟩
     | true=>
       have G3:=G2.same MZ;obtain ⟨dg3,eg3⟩:=G3.obj;obtain ⟨ra,zS⟩:∃ ra,rs[i]?=some ra:=⟨_,List.getElem?_eq_getElem (by rw [G3.rows.len];exact hi)⟩;have hA:=G3.rows.at_ _ _ zS;have e1:(rs.map V.ref)[i]?=some (V.ref ra):=by rw [List.getElem?_map,zS];rfl
       refine ⟨_,rfl,fld eg3 T.jg T.cK rfl ⟨_,rfl,tT (bI.of G3.rows.lst) (bw e1) ⟨ra,_,rfl,.inl (bI.of hA),?_⟩⟩⟩;refine ⟨(by show 2<=sizeLine;decide),fun pt hpt=>⟨pt,_,rfl,.inr (nU.of ai),rfl,rfl,_,rfl,?_⟩⟩;have e2:KP (.int ((vN (JM.bG (y.2.map JM.c9) i)).length:Int)) [.int 3,.int 4]=(br y).handed i:=by
         rw [show (vN (JM.bG (y.2.map JM.c9) i)).length=(JM.bG (y.2.map JM.c9) i).length by simp [vN]];unfold Fk.Part.handed;rw [sG Fb rise];exact Cr _ 3 4
       rw [if_pos rfl,e2];have sm4:aS H2 (upd H3 pt (.tup [.int 3,.int 4])):=MZ.trans (aK hpt);cases h2:(br y).handed i with
       | true=>
         have nb:¬ Ko (br y) (z,i)=true:=by simp [Ko,h1,h2]
         rw [if_neg nb] at bD;exact ⟨_,_,rfl,sm4,bD⟩
       | false=>
         have nb:Ko (br y) (z,i)=true:=by simp [Ko,h1,h2]
         rw [if_pos nb] at bD;have R4:=R2.same sm4;obtain ⟨d4,e4⟩:=R4.obj;have e5:((y.1.map fun z=>((z.2:Nat):Int)).map V.int)[i]?=some (V.int (z.2:Int)):=by simp [hz]
         refine ⟨_,rfl,r,d4,_,rfl,e4,rfl,_,rfl,fld e4 T.aL T.cM rfl ⟨_,rfl,tT (bI.of R4.hpl) (bw e5) ?_⟩⟩;exact ⟨r,w,4,(z.2:Int),d4,_,rfl,e4,rfl,fun H' d' hF=>bD H' d' hF⟩
   . rintro σ H' ⟨vk,va,rfl,sm,bD⟩
     rw [<- Fb,show y.1.zipIdx.drop y.1.length=[] from List.drop_eq_nil_of_le (by simp)] at bD;have G3:=G2.same sm;obtain ⟨dg3,eg3⟩:=G3.obj;refine ⟨_,rfl,fld eg3 T.jg T.gM rfl ⟨lb,us,rfl,bI.of G3.bonds,?_⟩⟩;let Us:L2.Iv:=fun i σ H'=>∃ vk vb,σ=[some (.ref a),some (.int w),some (.ref r),some (.ref g),vk,va,vb]/\aS H2 H' /\
       mh t.aH w (Mz (br y) (y.2.drop i)) (fun Pt=>∀ H' g la lb lr as us rs y,By K t (fun b=>H b=none) H' g la lb lr as us rs y->Pt=br y->aS H H'->Q (.ref g) H') E
     refine pQ (K:=K) (a:=lb) (xs:=us) Us
       ⟨vk,none,rfl,sm,bD⟩ (fun i σ H' _ ⟨_,_,_,sm,_⟩=>bI.of (sm _ _ G2.bonds)) ?_ ?_
     . rintro i x σ H' Tt hx ⟨vk,vb,rfl,sm,bD⟩ hT
       have hi:i < us.length:=(List.getElem?_eq_some_iff.mp hx).1;obtain ⟨z,hz⟩:∃ z,y.2[i]?=some z:=⟨_,List.getElem?_eq_getElem (by rw [<- RB2.len];exact hi)⟩;obtain ⟨o,dxo,rfl,_,rep⟩:=RB2.at_ i x z hx hz;rw [WJ hz,NY] at bD;have sm':aS H2 (upd H' Tt (.tup [.int (i:Int),.ref o])):=sm.trans (aK hT);refine ⟨Tt,_,rfl,nU.of ai,rfl,_,_,rfl,_,_,rfl,rfl,?_⟩;refine ⟨_,rfl,fld (sm' _ _ rep) T.aZ T.cW rfl ?_⟩;refine ⟨z.1.side,rfl,fun H3 s3=>⟨_,rfl,?_⟩⟩;have MZ:aS H2 H3:=sm'.trans s3;cases h1:Fk.isOne z.1.side with
       | false=>
         have nb:¬ Kp (br y) z=true:=by simp [Kp,h1]
         rw [if_neg nb] at bD;exact ⟨_,_,rfl,MZ,bD⟩
       | true=>
         have G4:=G2.same MZ;obtain ⟨dg4,eg4⟩:=G4.obj;have hq:=rise.1 (JM.c9 z) (List.mem_map_of_mem (List.mem_of_getElem? hz));refine ⟨_,rfl,_,rfl,?_⟩;refine ⟨g,o,dg4,lr,_,rs,as.length,JM.c9 z,JM.bG (y.2.map JM.c9),rfl,eg4,rfl,rfl,G4.rows,⟨o,_,dxo,_,rfl,MZ _ _ rep,T.aZ,T.dw,T.dz,rfl,rfl⟩,Nat.lt_trans hq.1 hq.2,hq.2,Ri,fun H5 s5=>⟨_,rfl,?_⟩⟩;have XQ:aS H2 H5:=MZ.trans s5;have e2:(vA ((JM.bG (y.2.map JM.c9) (JM.c9 z).1).filter fun x=>x != (JM.c9 z).2).length&&vA ((JM.bG (y.2.map JM.c9) (JM.c9 z).2).filter fun x=>x != (JM.c9 z).1).length)=(br y).sided z.1:=by
           unfold Fk.Part.sided Fk.Part.endMay Fk.Part.besides;rw [sG Fb rise,sG Fb rise];have one:∀ n:Nat,vA n=(decide (1<=n)&&decide (n<=2)):=fun n=>by
             rw [Bool.eq_iff_iff];simp [vA];omega
           rw [one,one];rfl
         rw [e2];cases h2:(br y).sided z.1 with
         | true=>
           have nb:¬ Kp (br y) z=true:=by simp [Kp,h1,h2]
           rw [if_neg nb] at bD;exact ⟨_,_,rfl,XQ,bD⟩
         | false=>
           have nb:Kp (br y) z=true:=by simp [Kp,h1,h2]
           rw [if_pos nb] at bD;have R4:=R2.same XQ;obtain ⟨d4,e4⟩:=R4.obj;have e5:((y.2.map fun z=>((z.2:Nat):Int)).map V.int)[i]?=some (V.int (z.2:Int)):=by simp [hz]
           refine ⟨_,rfl,r,d4,_,rfl,e4,rfl,_,rfl,fld e4 T.aL T.cO rfl ⟨_,rfl,tT (bI.of R4.JS) (bw e5) ?_⟩⟩;exact ⟨r,w,6,(z.2:Int),d4,_,rfl,e4,rfl,fun H' d' hF=>bD H' d' hF⟩
     . rintro σ H' ⟨vk,vb,rfl,sm,bD⟩
       rw [RB2.len,List.drop_length] at bD;exact ⟨_,rfl,bD H' g la lb lr as us rs y (pat.same sm) rfl (S2.trans sm)⟩
def aco (CF:Addr):Sp:=fun vs H Q _=>∃ (a dx:Addr) (w r p:Int),vs=[.ref a]/\H a=some (XR a CF dx)/\yJ H dx w r p/\∀ H' l,H' l=some (.lst ([-5,w,r,p].map V.int))->Q (.ref l) H'
theorem abb:aQ ["fault"] ["fault"] (aF qW):=lT (by decide +kernel)
theorem abc (T:Txt K mg t):SN P w K mg base 1 t.i6 t.kX ["fault"] (aco t.aH):=by
 obtain ⟨tk,g⟩:=T.zf;obtain ⟨oc,od,kV,doc,pm,an,cdv,ct,osl,e,lk,hcd⟩:=T.jA.ex;rw [e] at lk;rw [e];refine YS lk hcd abb (fun vs H Q E h=>?_) (fun A outer s H vs Q E hr h=>?_)
 . obtain ⟨a,dx,w,r,p,rfl,_⟩:=h
   rfl
 . obtain ⟨a,dx,w,r,p,rfl,ha,hf,k⟩:=h
   refine ⟨_,az (bc (kC (af (aV rfl g (v:=.int (-5)) ⟨_,rfl⟩) (af (SI T.jh (pv 0) (by simp) HR rfl) (af (SI T.jh (pv 0) (by simp) LY rfl) (af (SI T.jh (pv 0) (by simp) HS rfl) au)))))),?_⟩;exact ⟨_,rfl,a,dx,_,_,rfl,ha,hf,rfl,_,rfl,a,dx,_,_,rfl,ha,hf,rfl,_,rfl,a,dx,_,_,rfl,ha,hf,rfl,(by show 4<=sizeLine;decide),fun l hl=>k _ l ai⟩
end
theorem U4 {K:Zqq} {H:Hp} {a:Addr} {B:Bytes} (hO:HK H) (hs:bI K H a (vB B)):rZ K H a B:=by
 rcases hs with hs | hs
 . rcases hs with h | ⟨o,h⟩
   . rcases hO a with z | ⟨o,u,z⟩<;>(rw [z] at h;cases h)
   . exact .inl ⟨o,h⟩
 . exact .inr fun H'=>.inr hs
def bytesOf (l:List Int):Bytes:=l.map fun (z:Int)=>UInt8.ofNat z.toNat
theorem CS (l:List Int):(bytesOf l).length=l.length:=by simp [bytesOf]
theorem U5:∀ l:List Int,(∀ z ∈ l,0<=z/\z<=255)->l.map V.int=vB (bytesOf l)
 | [],_=>rfl
 | z::r,h=>by
  have hz:=h z (by simp)
  have ih:=U5 r fun y hy=>h y (by simp [hy])
  have e:((UInt8.ofNat z.toNat).toNat:Int)=z:=by
   rw [UInt8.toNat_ofNat',Nat.mod_eq_of_lt (by omega)];omega
  unfold vB bytesOf at ih ⊢;simp only [List.map_cons,e,ih]
theorem Fl (l:List Int) (h:∀ z ∈ l,0<=z/\z<=255):PartNeutral.bytes l=some (bytesOf l):=by
 have hb:NeutralIO.bytes l=true:=by
  unfold NeutralIO.bytes;rw [List.all_eq_true];intro z hz;have:=h z hz;simp [this]
 unfold PartNeutral.bytes;rw [if_pos hb];rfl
def WL (K:Zqq) (H:Hp) (a:Addr) (xs:List V):Prop:=(∃ o,H a=some (.pZ o (.lst xs)))\/∀ H',bI K H' a xs
theorem WL.same {K:Zqq} {H H':Hp} {a:Addr} {xs:List V} (h:WL K H a xs) (f:aS H H'):WL K H' a xs:=by
 rcases h with ⟨o,h⟩ | h
 . exact .inl ⟨o,f _ _ h⟩
 . exact .inr h
theorem Fo {l:List Nat} {i:Nat} {x:V} (h:(vN l)[i]?=some x):∃ v,l[i]?=some v/\x=.int (v:Int):=by
 have ev:(vN l)[i]?=(l[i]?).map (fun (v:Nat)=>V.int (v:Int)):=by simp [vN]
 rw [ev] at h;cases q:l[i]? with
 | none=>rw [q] at h;cases h
 | some v=>rw [q] at h;exact ⟨v,rfl,(Option.some.inj h).symm⟩
theorem zip_get {α:Type} {l:List α} {i:Nat} {c:α} (h:l[i]?=some c):l.zipIdx[i]?=some (c,i):=by
 rw [List.getElem?_zipIdx,h];simp
theorem Fp {X:Cx} {K0:Zqq} (hK:X.K=K0):IxR X (aas K0):=by
 subst hK;exact b9
theorem Rj {X:Cx} {K0:Zqq} (hK:X.K=K0):C1 X (compareOp .NotIn) (rIn K0 true):=by
 subst hK;exact qA
end MP
namespace JM
open Fk
def uI (l:List Nat) (v w:Nat):Prop:=∃ p s,l=p++v::w::s
theorem k6 {x:Nat} {l:List Nat} {v w:Nat}:uI (x::l) v w ↔ (x=v/\l.head?=some w)\/uI l v w:=by
 constructor
 . rintro ⟨p,s,e⟩
   cases p with
   | nil=>
     rw [List.nil_append,List.cons.injEq] at e;obtain ⟨e1,e2⟩:=e;exact .inl ⟨e1,by rw [e2];rfl⟩
   | cons y p=>
     rw [List.cons_append,List.cons.injEq] at e;exact .inr ⟨p,s,e.2⟩
 . rintro (⟨rfl,h⟩ | ⟨p,s,rfl⟩)
   . cases l with
     | nil=>cases h
     | cons y l=>
       cases h;exact ⟨[],l,rfl⟩
   . exact ⟨x::p,s,rfl⟩
theorem DN {v w:Nat}:¬ uI [] v w:=by
 rintro ⟨p,s,e⟩;cases p<;>cases e
theorem Kq {l:List Nat} {v w:Nat}:uI l.reverse v w ↔ uI l w v:=by
 constructor
 . rintro ⟨p,s,e⟩
   refine ⟨s.reverse,p.reverse,?_⟩;have:=congrArg List.reverse e;simpa using this
 . rintro ⟨p,s,rfl⟩
   exact ⟨s.reverse,p.reverse,by simp⟩
theorem uJ {l:List Nat} {x v w:Nat}:uI (l++[x]) v w ↔ uI l v w\/(l.getLast?=some v/\x=w):=by
 rw [<- Kq,List.reverse_append,List.reverse_singleton,List.singleton_append,k6,Kq,List.head?_reverse];constructor
 . rintro (⟨a,b⟩ | h)
   . exact .inr ⟨b,a⟩
   . exact .inl h
 . rintro (h | ⟨a,b⟩)
   . exact .inr h
   . exact .inl ⟨b,a⟩
theorem uI.mem {l:List Nat} {v w:Nat} (h:uI l v w):v ∈ l/\w ∈ l:=by
 obtain ⟨p,s,rfl⟩:=h;simp
def closed (r:List Nat):List Nat:=r++r.take 1
theorem jJ (x:Nat) (l:List Nat):closed (x::l)=x::(l++[x]):=by simp [closed]
theorem sH {r:List Nat} {v:Nat}:v ∈ closed r ↔ v ∈ r:=by
 cases r with
 | nil=>simp [closed]
 | cons x l=>rw [jJ];simp;grind
def Ed (r:List Nat) (v w:Nat):Prop:=uI (closed r) v w\/uI (closed r) w v
theorem Pd:∀ (t:List Nat) (x z v w:Nat),(v,w) ∈ (x::t).zip (t++[z]) ↔ uI (x::(t++[z])) v w
 | [],x,z,v,w=>by
   rw [k6]
   simp [uI,k6]
   constructor
   . rintro ⟨a,b⟩;exact .inl ⟨a.symm,b.symm⟩
   . rintro (⟨a,b⟩ | ⟨p,s,e⟩)
     . exact ⟨a.symm,b.symm⟩
     . cases p with
       | nil=>cases e
       | cons y p=>cases p<;>cases e
 | y::t,x,z,v,w=>by
   rw [k6,List.cons_append,List.zip_cons_cons,List.mem_cons,Pd t y z v w]
   simp
   constructor
   . rintro (⟨a,b⟩ | h)
     . exact .inl ⟨a.symm,b.symm⟩
     . exact .inr h
   . rintro (⟨a,b⟩ | h)
     . exact .inl ⟨a.symm,b.symm⟩
     . exact .inr h
theorem sI (r:List Nat) (v w:Nat):nextIn r v w=true ↔ Ed r v w:=by
 have key:∀ a b,(a,b) ∈ r.zip (r.drop 1++r.take 1) ↔ uI (closed r) a b:=fun a b=>by
   cases r with
   | nil=>
     constructor
     . intro h;simp at h
     . intro h;exact absurd h DN
   | cons x t=>
     rw [jJ];exact Pd t x x a b
 unfold nextIn Ed;rw [List.any_eq_true];constructor
 . rintro ⟨⟨a,b⟩,hm,h⟩
   simp only [Bool.or_eq_true,Bool.and_eq_true,beq_iff_eq] at h;rcases h with ⟨rfl,rfl⟩ | ⟨rfl,rfl⟩
   . exact .inl ((key _ _).mp hm)
   . exact .inr ((key _ _).mp hm)
 . rintro (h | h)
   . exact ⟨(v,w),(key _ _).mpr h,by simp⟩
   . exact ⟨(w,v),(key _ _).mpr h,by simp⟩
structure U6 (J:Nat->Nat->Prop) (r:List Nat):Prop where
 nd:r.Nodup
 three:3<=r.length
 adj:∀ v w,uI (closed r) v w->J v w
theorem WM (x y:Nat) (l:List Nat) (v w:Nat):uI (closed (x::y::l)) v w ↔ uI (closed (y::l++[x])) v w:=by
 rw [jJ,List.cons_append,jJ,k6];rw [show y::(l++[x]++[y])=(y::(l++[x]))++[y] by simp,uJ];have e1:(y::(l++[x])).head?=some y:=rfl;have e2:(y::(l++[x])).getLast?=some x:=by
   rw [show y::(l++[x])=(y::l)++[x] by simp,List.getLast?_concat]
 rw [e1,e2];simp;constructor
 . rintro (⟨a,b⟩ | h)
   . exact .inr ⟨a,b⟩
   . exact .inl h
 . rintro (h | ⟨a,b⟩)
   . exact .inr h
   . exact .inl ⟨a,b⟩
theorem rot {J:Nat->Nat->Prop}:∀ (p q:List Nat),q ≠ []->U6 J (p++q)->U6 J (q++p)/\∀ v w,uI (closed (q++p)) v w ↔ uI (closed (p++q)) v w
 | [],q,_,h=>by simpa using h
 | x::p,q,hq,h=>by
   have hne:p++q ≠ []:=by simp [hq]
   obtain ⟨y,l,e⟩:=List.exists_cons_of_ne_nil hne
   have step:∀ v w,uI (closed (p++(q++[x]))) v w ↔ uI (closed (x::p++q)) v w:=fun v w=>by
     rw [show p++(q++[x])=y::l++[x] by rw [<- e];simp,show x::p++q=x::y::l by rw [<- e];rfl]
     exact (WM x y l v w).symm
   have h1:U6 J (p++(q++[x])):=by
     refine ⟨?_,?_,fun v w a=>h.adj v w ((step v w).mp a)⟩
     . have pm:List.Perm (x::p++q) (p++(q++[x])):=by
         have a:List.Perm ([x]++(p++q)) ((p++q)++[x]):=List.perm_append_comm;simpa using a
       exact pm.nodup_iff.mp h.nd
     . have:=h.three
       simp at this ⊢;omega
   obtain ⟨h2,h3⟩:=rot p (q++[x]) (by simp) h1;rw [show q++[x]++p=q++x::p by simp] at h2 h3;exact ⟨h2,fun v w=>(h3 v w).trans (step v w)⟩
theorem vG (x:Nat) (t:List Nat) (v w:Nat):uI (closed (x::t.reverse)) v w ↔ uI (closed (x::t)) w v:=by
 rw [jJ,jJ,<- Kq];rw [show (x::(t.reverse++[x])).reverse=x::(t++[x]) by simp]
theorem U6.rev {J:Nat->Nat->Prop} (sy:∀ v w,J v w->J w v) {x:Nat} {t:List Nat} (h:U6 J (x::t)):U6 J (x::t.reverse):=by
 refine ⟨?_,by simpa using h.three,fun v w a=>sy _ _ (h.adj _ _ ((vG x t v w).mp a))⟩;have:=h.nd;rw [List.nodup_cons] at this ⊢;exact ⟨by simpa using this.1,(List.reverse_perm t).nodup_iff.mpr this.2⟩
theorem Ic:∀ l:List Nat,l ≠ []->∃ m ∈ l,∀ x ∈ l,m<=x
 | [x],_=>⟨x,by simp,by simp⟩
 | x::y::l,_=>by
   obtain ⟨m,hm,h⟩:=Ic (y::l) (by simp)
   by_cases c:x<=m
   . exact ⟨x,by simp,fun z hz=>by
       rcases List.mem_cons.mp hz with rfl | hz
       . omega
       . have:=h z hz;omega⟩
   . exact ⟨m,List.mem_cons_of_mem _ hm,fun z hz=>by
       rcases List.mem_cons.mp hz with rfl | hz
       . omega
       . exact h z hz⟩
theorem sJ (l:List Nat) (z:Nat):(l++[z]).getLastD 0=z:=by
 rw [List.getLastD_eq_getLast?,List.getLast?_concat];rfl
structure Canon (J:Nat->Nat->Prop) (r:List Nat):Prop where
 cyc:U6 J r
 least:∃ m t,r=m::t/\∀ x ∈ t,m < x
 turn:r.getD 1 0 < r.getLastD 0
theorem canon {J:Nat->Nat->Prop} (sy:∀ v w,J v w->J w v) {r:List Nat} (h:U6 J r):∃ r',Canon J r'/\(∀ v w,Ed r' v w ↔ Ed r v w)/\r'.length=r.length:=by
 have hne:r ≠ []:=fun e=>by have:=h.three;rw [e] at this;simp at this
 obtain ⟨m,hm,hl⟩:=Ic r hne;obtain ⟨p,s,rfl⟩:=List.append_of_mem hm;obtain ⟨h1,a1⟩:=rot p (m::s) (by simp) h;rw [List.cons_append] at h1 a1;have big:∀ x ∈ s++p,m < x:=fun x hx=>by
   have nd:=h1.nd;rw [List.nodup_cons] at nd;have:m<=x:=hl x (by simp at hx ⊢;grind);have:m ≠ x:=fun e=>nd.1 (e ▸ hx);omega
 have ed1:∀ v w,Ed (m::(s++p)) v w ↔ Ed (p++m::s) v w:=fun v w=>by
   unfold Ed;rw [a1,a1]
 obtain ⟨y,t,e⟩:∃ y t,s++p=y::t:=List.exists_cons_of_ne_nil fun e=>by
   have:=h1.three;rw [e] at this;simp at this
 have tne:t ≠ []:=fun q=>by
   have:=h1.three;rw [e,q] at this;simp at this
 obtain ⟨t',z,e2⟩:∃ t' z,t=t'++[z]:=⟨t.dropLast,t.getLast tne,(List.dropLast_concat_getLast tne).symm⟩;have len:(m::y::(t'++[z])).length=(p++m::s).length:=by
   have:=congrArg List.length e;rw [e2] at this;simp at this ⊢;omega
 rw [e,e2] at h1 ed1 big;have yz:y ≠ z:=fun q=>by
   have nd:=h1.nd;rw [List.nodup_cons,List.nodup_cons] at nd;exact nd.2.1 (by simp [q])
 by_cases c:y < z
 . exact ⟨_,⟨h1,⟨m,_,rfl,big⟩,by
     rw [show m::y::(t'++[z])=(m::y::t')++[z] by simp,sJ];exact c⟩,ed1,len⟩
 . refine ⟨m::(y::(t'++[z])).reverse,⟨h1.rev sy,⟨m,_,rfl,fun x hx=>big x (List.mem_reverse.mp hx)⟩,?_⟩,fun v w=>?_,by rw [<- len];simp⟩
   . have:z < y:=by omega
     rw [show m::(y::(t'++[z])).reverse=(m::z::t'.reverse)++[y] by simp,sJ];exact this
   . rw [<- ed1]
     unfold Ed;rw [vG,vG];exact Or.comm
end JM
namespace JM
open Fk
variable {M:Mol}
theorem oS (v w:Nat):M.joined v w=true ↔ ∃ x ∈ M.bonds,x.joins v w=true:=by
 unfold Mol.joined Mol.bond;rw [List.find?_isSome]
theorem Rk (x:Bond) (v w:Nat):x.joins v w=x.joins w v:=by
 unfold Bond.joins;exact Bool.or_comm _ _
theorem Fq (v w:Nat):M.joined v w=M.joined w v:=by
 rw [Bool.eq_iff_iff,oS,oS];constructor<;>(rintro ⟨x,h1,h2⟩;exact ⟨x,h1,by rw [Rk];exact h2⟩)
theorem qL (g:lE M) {v w:Nat} (h:M.joined v w=true):v < M.n/\w < M.n/\v ≠ w:=by
 obtain ⟨x,h1,h2⟩:=(oS v w).mp h;have e:=g.ends (x.a,x.b) (List.mem_map.mpr ⟨x,h1,rfl⟩);unfold Bond.joins at h2;simp only [Bool.or_eq_true,Bool.and_eq_true,beq_iff_eq] at h2;simp only at e;omega
theorem zV (v w:Nat):w ∈ M.beside v ↔ w < M.n/\M.joined v w=true:=by
 unfold Mol.beside;rw [List.mem_filter,List.mem_range]
abbrev Jn (M:Mol):Nat->Nat->Prop:=fun v w=>M.joined v w=true
def closes (M:Mol) (r:List Nat):Bool:=decide (3<=r.length)&&(M.joined (r.getLastD 0) (r.headD 0)&&decide (r.getD 1 0 < r.getLastD 0))
theorem Pe (r:List Nat):M.ringsFrom 0 r=if closes M r=true then [r] else []:=rfl
theorem Kr (k:Nat) (r:List Nat):M.ringsFrom (k+1) r=(if closes M r=true then [r] else [])++(M.beside (r.getLastD 0)).flatMap fun w=>if w<=r.headD 0\/r.contains w=true then [] else M.ringsFrom k (r++[w]):=rfl
theorem XS (g:lE M):∀ (k:Nat) (p s:List Nat),p ≠ []->s.length<=k->(∀ w ∈ s,p.headD 0 < w)->(p++s).Nodup->(∀ v w,uI (p++s) v w->Jn M v w)->closes M (p++s)=true->p++s ∈ M.ringsFrom k p
 | 0,p,[],_,_,_,_,_,c=>by
   rw [List.append_nil] at c ⊢
   rw [Pe,if_pos c]
   simp
 | 0,p,_::_,_,h,_,_,_,_=>by simp at h
 | k+1,p,[],_,_,_,_,_,c=>by
   rw [List.append_nil] at c ⊢
   rw [Kr,if_pos c]
   simp
 | k+1,p,w::s,hp,hl,hb,nd,aj,c=>by
   rw [Kr]
   refine List.mem_append_right _ (List.mem_flatMap.mpr ⟨w,?_,?_⟩)
   . have lw:uI (p++w::s) (p.getLastD 0) w:=by
       refine ⟨p.dropLast,s,?_⟩;have e:p.dropLast++[p.getLastD 0]=p:=by
         rw [List.getLastD_eq_getLast?,List.getLast?_eq_some_getLast hp];exact List.dropLast_concat_getLast hp
       calc p++w::s=(p.dropLast++[p.getLastD 0])++w::s:=by rw [e]
         _=_:=by simp
     have j:=aj _ _ lw;exact (zV _ _).mpr ⟨(qL g j).2.1,j⟩
   . have Vm:¬ (w<=p.headD 0\/p.contains w=true):=by
       rintro (h | h)
       . have:=hb w (by simp);omega
       . rw [List.contains_iff_mem] at h
         rw [List.nodup_append] at nd;exact nd.2.2 w h w (by simp) rfl
     rw [if_neg Vm];have e:p++w::s=p++[w]++s:=by simp
     rw [e] at nd aj c ⊢;have hd:(p++[w]).headD 0=p.headD 0:=by
       cases p with
       | nil=>exact absurd rfl hp
       | cons y p=>rfl
     exact XS g k (p++[w]) s (by simp) (by simpa using hl) (fun x hx=>by rw [hd];exact hb x (by simp [hx])) nd aj c
theorem U7:∀ (k:Nat) (p r:List Nat),p ≠ []->p.Nodup->(∀ v w,uI p v w->Jn M v w)->r ∈ M.ringsFrom k p->∃ s,r=p++s/\(∀ w ∈ s,p.headD 0 < w)/\r.Nodup/\(∀ v w,uI r v w->Jn M v w)/\closes M r=true
 | 0,p,r,_,nd,aj,h=>by
   rw [Pe] at h
   split at h
   . simp at h
     subst h
     exact ⟨[],by simp,by simp,nd,aj,by assumption⟩
   . simp at h
 | k+1,p,r,hp,nd,aj,h=>by
   rw [Kr] at h
   rcases List.mem_append.mp h with h | h
   . split at h
     . simp at h
       subst h
       exact ⟨[],by simp,by simp,nd,aj,by assumption⟩
     . simp at h
   . obtain ⟨w,hw,h⟩:=List.mem_flatMap.mp h
     split at h
     . simp at h
     . rename_i c
       have c1:p.headD 0 < w:=by
         have:¬ w<=p.headD 0:=fun q=>c (.inl q);omega
       have c2:w ∉ p:=fun q=>c (.inr (List.contains_iff_mem.mpr q));have nd':(p++[w]).Nodup:=by
         rw [List.nodup_append];exact ⟨nd,by simp,fun a ha b hb=>by
           simp at hb;subst hb;exact fun q=>c2 (q ▸ ha)⟩
       have aj':∀ v u,uI (p++[w]) v u->Jn M v u:=fun v u a=>by
         rcases uJ.mp a with a | ⟨a',rfl⟩
         . exact aj v u a
         . have e:p.getLastD 0=v:=by rw [List.getLastD_eq_getLast?,a'];rfl
           rw [e] at hw;exact ((zV _ _).mp hw).2
       obtain ⟨s,e,h1,h2,h3,h4⟩:=U7 k (p++[w]) r (by simp) nd' aj' h;have hd:(p++[w]).headD 0=p.headD 0:=by
         cases p with
         | nil=>exact absurd rfl hp
         | cons y p=>rfl
       refine ⟨w::s,by rw [e];simp,fun x hx=>?_,h2,h3,h4⟩;rcases List.mem_cons.mp hx with rfl | hx
       . exact c1
       . have:=h1 x hx
         rw [hd] at this;exact this
theorem tO:∀ (n:Nat) (l:List Nat),l.Nodup->(∀ x ∈ l,x < n)->l.length<=n
 | 0,[],_,_=>by simp
 | 0,x::l,_,h=>absurd (h x (by simp)) (by omega)
 | n+1,l,nd,h=>by
   have ih:=tO n (l.erase n) (nd.erase n) (fun x hx=>by
     have:=(nd.mem_erase_iff).mp hx
     have:=h x this.2
     omega)
   by_cases c:n ∈ l
   . have:=List.length_erase_of_mem c
     omega
   . rw [List.erase_of_not_mem c] at ih
     omega
theorem Ft (r:List Nat):closes M r=true ↔ 3<=r.length/\M.joined (r.getLastD 0) (r.headD 0)=true/\r.getD 1 0 < r.getLastD 0:=by
 unfold closes;simp [Bool.and_eq_true]
theorem jV {r:List Nat} (hr:r ≠ []) (v w:Nat):uI (closed r) v w ↔ uI r v w\/(r.getLastD 0=v/\r.headD 0=w):=by
 cases r with
 | nil=>exact absurd rfl hr
 | cons x t=>
  have:closed (x::t)=(x::t)++[x]:=by simp [closed]
  rw [this,uJ,List.getLastD_eq_getLast?,List.getLast?_eq_some_getLast hr];simp
theorem uK (g:lE M) (r:List Nat):r ∈ M.ringRows ↔ Canon (Jn M) r:=by
 have e:r ∈ M.ringRows ↔ r.length<=M.n/\∃ v < M.n,r ∈ M.ringsFrom M.n [v]:=by
   unfold Mol.ringRows;simp only [List.mem_flatMap,List.mem_filter,List.mem_range,beq_iff_eq];constructor
   . rintro ⟨k,hk,⟨v,hv,h⟩,rfl⟩
     exact ⟨by omega,v,hv,h⟩
   . rintro ⟨hk,v,hv,h⟩
     exact ⟨r.length,by omega,⟨v,hv,h⟩,rfl⟩
 rw [e];constructor
 . rintro ⟨_,v,hv,h⟩
   have na:∀ a b,¬ uI [v] a b:=fun a b q=>by
     rcases k6.mp q with ⟨_,q⟩ | q
     . cases q
     . exact DN q
   obtain ⟨s,rfl,h1,h2,h3,h4⟩:=U7 M.n [v] r (by simp) (by simp) (fun a b q=>absurd q (na a b)) h;obtain ⟨c1,c2,c3⟩:=(Ft _).mp h4;refine ⟨⟨h2,c1,fun a b q=>?_⟩,⟨v,s,rfl,h1⟩,c3⟩;rcases (jV (by simp) a b).mp q with q | ⟨rfl,rfl⟩
   . exact h3 a b q
   . exact c2
 . rintro ⟨⟨nd,l3,aj⟩,⟨m,t,rfl,lt⟩,tn⟩
   have ajr:∀ v w,uI (m::t) v w->Jn M v w:=fun v w q=>aj v w ((jV (by simp) v w).mpr (.inl q));have cl:M.joined ((m::t).getLastD 0) ((m::t).headD 0)=true:=aj _ _ ((jV (by simp) _ _).mpr (.inr ⟨rfl,rfl⟩));have lts:∀ x ∈ m::t,x < M.n:=by
     intro x hx;obtain ⟨p,s,e⟩:=List.append_of_mem hx;have:∃ w,uI (closed (m::t)) x w:=by
       cases s with
       | nil=>exact ⟨m,(jV (by simp) _ _).mpr (.inr ⟨by rw [e,sJ],rfl⟩)⟩
       | cons w s=>exact ⟨w,(jV (by simp) _ _).mpr (.inl ⟨p,s,e⟩)⟩
     obtain ⟨w,hw⟩:=this;exact (qL g (aj _ _ hw)).1
   have ln:=tO M.n (m::t) nd lts;refine ⟨ln,m,lts m (by simp),?_⟩;have:=XS g M.n [m] t (by simp) (by simp at ln;omega) lt nd ajr ((Ft _).mpr ⟨l3,cl,tn⟩);exact this
end JM
namespace JM
open Fk
inductive Wk (S:Nat->Nat->Prop) (x:Nat):Nat->Nat->Prop
 | refl:Wk S x 0 x
 | step {k y z:Nat}:Wk S x k y->S y z->Wk S x (k+1) z
theorem Wk.head {S:Nat->Nat->Prop} {x y z k:Nat} (h:S x y) (r:Wk S y k z):Wk S x (k+1) z:=by
 induction r with
 | refl=>exact .step .refl h
 | step _ s ih=>exact .step ih s
theorem Pf {S:Nat->Nat->Prop}:∀ (t:List Nat) (x:Nat),(∀ v w,uI (x::t) v w->S v w)->Wk S x t.length ((x::t).getLastD 0)
 | [],x,_=>.refl
 | y::t,x,h=>by
  have:=Pf t y fun v w a=>h v w (k6.mpr (.inr a))
  have e:(x::y::t).getLastD 0=(y::t).getLastD 0:=rfl
  rw [e]
  exact this.head (h x y (k6.mpr (.inl ⟨rfl,rfl⟩)))
theorem WN {p s:List Nat} {v w:Nat} (h:uI p v w):uI (p++s) v w:=by
 obtain ⟨a,b,rfl⟩:=h;exact ⟨a,b++s,by simp⟩
theorem WO {S:Nat->Nat->Prop} {x y k:Nat} (h:Wk S x k y):∃ l:List Nat,l.Nodup/\l.head?=some x/\l.getLast?=some y/\(∀ v w,uI l v w->S v w)/\l.length<=k+1:=by
 induction h with
 | refl=>exact ⟨[x],by simp,rfl,rfl,fun v w a=>by
     rcases k6.mp a with ⟨_,q⟩ | q
     . cases q
     . exact absurd q DN,by simp⟩
 | @step k y z _ s ih=>
   obtain ⟨l,nd,hd,la,aj,le⟩:=ih;by_cases c:z ∈ l
   . obtain ⟨p,s',rfl⟩:=List.append_of_mem c
     have e:p++z::s'=(p++[z])++s':=by simp
     refine ⟨p++[z],?_,?_,by simp,fun v w a=>aj v w (by rw [e];exact WN a),by simp at le ⊢;omega⟩
     . rw [e,List.nodup_append] at nd
       exact nd.1
     . cases p with
       | nil=>exact hd
       | cons u p=>exact hd
   . refine ⟨l++[z],?_,?_,by simp,fun v w a=>?_,by simp;exact le⟩
     . rw [List.nodup_append]
       exact ⟨nd,by simp,fun a ha b hb=>by
         simp at hb;subst hb;exact fun q=>c (q ▸ ha)⟩
     . cases l with
       | nil=>cases hd
       | cons u p=>exact hd
     . rcases uJ.mp a with a | ⟨a',rfl⟩
       . exact aj v w a
       . rw [la] at a'
         cases a';exact s
variable {M:Mol}
def pU (M:Mol) (a b v w:Nat):Prop:=M.joined v w=true/\¬ (v=a/\w=b)
theorem NZ (M:Mol):∀ v w,Jn M v w->Jn M w v:=fun v w h=>by
 show M.joined w v=true
 rw [Fq]
 exact h
theorem Ks {a b k:Nat} (ne:a ≠ b) (jo:M.joined a b=true) (h:Wk (pU M a b) a k b):∃ r,Canon (Jn M) r/\Ed r a b/\r.length<=k+1:=by
 obtain ⟨l,nd,hd,la,aj,le⟩:=WO h;cases l with
 | nil=>cases hd
 | cons u t=>
   cases hd;cases t with
   | nil=>
     have:a=b:=by simpa using la
     exact absurd this ne
   | cons y t=>
     cases t with
     | nil=>
       have e:y=b:=by simpa using la
       subst e;exact absurd ⟨rfl,rfl⟩ (aj a y ⟨[],[],rfl⟩).2
     | cons z t=>
       have last:(a::y::z::t).getLastD 0=b:=by rw [List.getLastD_eq_getLast?,la];rfl
       have cy:U6 (Jn M) (a::y::z::t):=⟨nd,by simp,fun v w q=>by
         rcases (jV (by simp) v w).mp q with q | ⟨e1,e2⟩
         . exact (aj v w q).1
         . rw [last] at e1
           cases e1;cases e2;exact NZ M _ _ jo⟩
       obtain ⟨r,hc,he,len⟩:=canon (NZ M) cy;exact ⟨r,hc,(he a b).mpr (.inr ((jV (by simp) _ _).mpr (.inr ⟨last,rfl⟩))),by rw [len];exact le⟩
theorem Fv {a b:Nat} {r:List Nat} (cy:U6 (Jn M) r) (h:uI (closed r) b a):Wk (pU M a b) a (r.length - 1) b:=by
 have hb:b ∈ r:=sH.mp h.mem.1;obtain ⟨p,s,rfl⟩:=List.append_of_mem hb;obtain ⟨c1,e1⟩:=rot p (b::s) (by simp) cy;have h1:=(e1 b a).mpr h;rw [List.cons_append] at c1 h1;have el:(p++b::s).length=(s++p).length+1:=by simp;omega
 rw [el];generalize s++p=t at c1 h1 ⊢;have nd:=c1.nd;rw [List.nodup_cons] at nd;have len:=c1.three;rw [jJ] at h1;have hh:(t++[b]).head?=some a:=by
   rcases k6.mp h1 with ⟨_,q⟩ | q
   . exact q
   . rcases uJ.mp q with q | ⟨q,_⟩
     . exact absurd q.mem.1 nd.1
     . exact absurd (List.mem_of_getLast? q) nd.1
 cases t with
 | nil=>simp at len
 | cons u t=>
   cases hh;cases t with
   | nil=>simp at len
   | cons y t=>
     have sub:∀ v w,uI (a::((y::t)++[b])) v w->uI (closed (b::a::y::t)) v w:=fun v w q=>by
       rw [jJ];exact k6.mpr (.inr q)
     have nd2:=nd.2;rw [List.nodup_cons] at nd2;have:=Pf (S:=pU M a b) ((y::t)++[b]) a fun v w q=>⟨c1.adj v w (sub v w q),fun ⟨ev,ew⟩=>by
       subst ev;subst ew;rcases k6.mp q with ⟨_,q⟩ | q
       . cases q
         exact nd.1 (by simp)
       . rcases uJ.mp q with q | ⟨q,_⟩
         . exact nd2.1 q.mem.1
         . exact nd2.1 (List.mem_of_getLast? q)⟩
     have e:(a::((y::t)++[b])).getLastD 0=b:=by
       rw [show a::((y::t)++[b])=(a::y::t)++[b] by simp,sJ]
     rw [e] at this;have el2:(a::y::t).length+1 - 1=((y::t)++[b]).length:=by simp
     rw [el2];exact this
theorem B6 {a b:Nat} {r:List Nat} (cy:U6 (Jn M) r) (h:Ed r a b):Wk (pU M a b) a (r.length - 1) b:=by
 rcases h with h | h
 . cases r with
   | nil=>exact absurd h DN
   | cons x t=>
     have:=Fv (cy.rev (NZ M)) ((vG x t b a).mpr h);simp only [List.length_cons,List.length_reverse] at this ⊢;exact this
 . exact Fv cy h
theorem M7 {α:Type} (f:α->Bool):∀ (l:List α) (j acc:Nat),acc < 2 ^ j->∀ i,(((l.zipIdx j).map fun x=>if f x.1=true then 2 ^ x.2 else 0).foldl (fun (a b:Nat)=>a+b) acc).testBit i=if i < j then acc.testBit i else ((l[i - j]?).map f).getD false
 | [],j,acc,h,i=>by
   show acc.testBit i=_
   split
   . rfl
   . rename_i c
     exact Nat.testBit_lt_two_pow (Nat.lt_of_lt_of_le h (Nat.pow_le_pow_right (by decide) (by omega)))
 | x::l,j,acc,h,i=>by
   rw [List.zipIdx_cons,List.map_cons,List.foldl_cons]
   simp only
   have p2:2 ^ (j+1)=2 ^ j+2 ^ j:=by rw [Nat.pow_succ];omega
   have hb:acc+(if f x=true then 2 ^ j else 0) < 2 ^ (j+1):=by
     split<;>omega
   rw [M7 f l (j+1) _ hb i];have bit:(acc+(if f x=true then 2 ^ j else 0)).testBit i=if i < j then acc.testBit i else if i=j then f x else (acc+(if f x=true then 2 ^ j else 0)).testBit i:=by
     cases hf:f x with
     | false=>
       simp only [Bool.false_eq_true,if_false,Nat.add_zero];split
       . rfl
       . split
         . rename_i c e
           rw [e];exact Nat.testBit_lt_two_pow h
         . rfl
     | true=>
       simp only [if_true];have e:acc+2 ^ j=2 ^ j * 1 ||| acc:=by
         rw [<- Nat.two_pow_add_eq_or_of_lt h 1];omega
       split
       . rename_i c
         rw [e,Nat.mul_one,Nat.testBit_or,Nat.testBit_two_pow];have:decide (j=i)=false:=decide_eq_false (by omega);simp [this]
       . split
         . rename_i c e'
           rw [e,e',Nat.mul_one,Nat.testBit_or,Nat.testBit_two_pow];simp
         . rfl
   by_cases c1:i < j
   . rw [if_pos (by omega),if_pos c1,bit,if_pos c1]
   . by_cases c2:i=j
     . rw [if_pos (show i < j+1 by omega),if_neg c1,bit,if_neg c1,if_pos c2,c2]
       simp
     . rw [if_neg (by omega),if_neg c1]
       rw [show i - j=(i - (j+1))+1 by omega];simp
theorem sL (M:Mol) (r:List Nat) {k:Nat} {x:Bond} (h:M.bonds[k]?=some x):(M.bitsOf r).testBit k=nextIn r x.a x.b:=by
 unfold Mol.bitsOf;have:=M7 (fun x:Bond=>nextIn r x.a x.b) M.bonds 0 0 (by decide) k;rw [if_neg (by omega),Nat.sub_zero,h] at this;exact this
theorem M8 {α:Type} {R:α->α->Prop} {p:α->Bool}:∀ {l:List α} {r q:α},l.Pairwise R->l.find? p=some r->q ∈ l->p q=true->r=q\/R r q
 | [],_,_,_,h,_,_=>by cases h
 | x::l,r,q,pw,h,hq,pq=>by
   rw [List.pairwise_cons] at pw
   cases px:p x with
   | true=>
     rw [List.find?_cons_of_pos px] at h
     cases h
     rcases List.mem_cons.mp hq with e | hq
     . exact .inl e.symm
     . exact .inr (pw.1 q hq)
   | false=>
     rw [List.find?_cons_of_neg (by rw [px];exact Bool.false_ne_true)] at h
     rcases List.mem_cons.mp hq with e | hq
     . rw [<- e,pq] at px
       cases px
     . exact M8 pw.2 h hq pq
theorem U8 (l:List (List Nat)):∀ m:Nat,((List.range m).flatMap fun k=>l.filter fun r=>r.length==k).Pairwise fun r q=>r.length<=q.length
 | 0=>.nil
 | m+1=>by
   rw [List.range_succ,List.flatMap_append,List.pairwise_append]
   refine ⟨U8 l m,?_,fun r hr q hq=>?_⟩
   . simp only [List.flatMap_cons,List.flatMap_nil,List.append_nil]
     rw [List.pairwise_filter]
     exact List.pairwise_of_forall fun a b ha hb=>by
       simp only [beq_iff_eq] at ha hb
       omega
   . simp only [List.mem_flatMap,List.mem_range,List.mem_filter,beq_iff_eq,List.mem_singleton] at hr hq
     obtain ⟨k,hk,_,h1⟩:=hr
     obtain ⟨k',hk',_,h2⟩:=hq
     omega
theorem U9 (M:Mol):M.ringRows.Pairwise fun r q=>r.length<=q.length:=U8 _ _
def tP (M:Mol) (p:List Nat->Bool):Nat:=((M.ringRows.find? p).map List.length).getD 0
theorem Fw {p:List Nat->Bool} (h:tP M p ≠ 0):∃ r ∈ M.ringRows,p r=true/\r.length=tP M p:=by
 unfold tP at h ⊢;cases e:M.ringRows.find? p with
 | none=>rw [e] at h;exact absurd rfl h
 | some r=>exact ⟨r,List.mem_of_find?_eq_some e,List.find?_some e,rfl⟩
theorem lo_le (g:lE M) {p:List Nat->Bool} {r:List Nat} (hr:r ∈ M.ringRows) (hp:p r=true):tP M p<=r.length/\tP M p ≠ 0:=by
 unfold tP;cases e:M.ringRows.find? p with
 | none=>exact absurd hp (List.find?_eq_none.mp e r hr)
 | some q=>
   have c3:=((uK g q).mp (List.mem_of_find?_eq_some e)).cyc.three;simp only [Option.map_some,Option.getD_some];rcases M8 (U9 M) e hr hp with rfl | h
   . exact ⟨Nat.le_refl _,by omega⟩
   . exact ⟨h,by omega⟩
theorem M9 {k:Nat} (hk:k < M.bonds.length):M.leastBonds.getD k 0=tP M fun r=>(M.bitsOf r).testBit k:=by
 unfold Mol.leastBonds;simp only;rw [List.getD,List.getElem?_map,List.getElem?_range hk];rfl
theorem XT {v:Nat} (hv:v < M.n):M.leastAtoms.getD v 0=tP M fun r=>r.contains v:=by
 unfold Mol.leastAtoms;simp only;rw [List.getD,List.getElem?_map,List.getElem?_range hv];rfl
theorem CT {k:Nat} {x:Bond} (h:M.bonds[k]?=some x):M.joined x.a x.b=true:=(oS _ _).mpr ⟨x,List.mem_of_getElem? h,by simp [Bond.joins]⟩
theorem Oa (g:lE M) {k:Nat} {x:Bond} (h:M.bonds[k]?=some x) {d:Nat} (hd:Wk (pU M x.a x.b) x.a d x.b) (le:∀ j,Wk (pU M x.a x.b) x.a j x.b->d<=j):M.leastBonds.getD k 0=d+1:=by
 rw [M9 (List.getElem?_eq_some_iff.mp h).1];have jo:=CT h;obtain ⟨r,hc,he,hl⟩:=Ks (qL g jo).2.2 jo hd;obtain ⟨l1,l2⟩:=lo_le g (p:=fun r=>(M.bitsOf r).testBit k) ((uK g r).mpr hc) (by rw [sL M r h];exact (sI r _ _).mpr he);obtain ⟨q,hq,pq,el⟩:=Fw l2;rw [sL M q h] at pq;have cq:=((uK g q).mp hq).cyc;have:=le _ (B6 cq ((sI q _ _).mp pq));have:=cq.three;omega
theorem WQ (g:lE M) {k:Nat} {x:Bond} (h:M.bonds[k]?=some x) (no:∀ j,¬ Wk (pU M x.a x.b) x.a j x.b):M.leastBonds.getD k 0=0:=by
 rw [M9 (List.getElem?_eq_some_iff.mp h).1];refine Classical.byContradiction fun c=>?_;obtain ⟨q,hq,pq,_⟩:=Fw c;rw [sL M q h] at pq;exact no _ (B6 ((uK g q).mp hq).cyc ((sI q _ _).mp pq))
theorem Pg (g:lE M) {r:List Nat} {v:Nat} (hr:r ∈ M.ringRows) (hv:v ∈ r):∃ (k:Nat) (x:Bond),M.bonds[k]?=some x/\(x.a=v\/x.b=v)/\(M.bitsOf r).testBit k=true:=by
 have cn:=(uK g r).mp hr;obtain ⟨p,s,e⟩:=List.append_of_mem hv;have hne:r ≠ []:=fun q=>by rw [q] at hv;simp at hv
 obtain ⟨w,hw⟩:∃ w,uI (closed r) v w:=by
   cases s with
   | nil=>exact ⟨r.headD 0,(jV hne _ _).mpr (.inr ⟨by rw [e,sJ],rfl⟩)⟩
   | cons w s=>exact ⟨w,(jV hne _ _).mpr (.inl ⟨p,s,e⟩)⟩
 obtain ⟨x,hx,hj⟩:=(oS v w).mp (cn.cyc.adj v w hw);obtain ⟨k,hk⟩:=List.getElem?_of_mem hx;unfold Bond.joins at hj;simp only [Bool.or_eq_true,Bool.and_eq_true,beq_iff_eq] at hj;refine ⟨k,x,hk,by omega,?_⟩;rw [sL M r hk,sI];rcases hj with ⟨rfl,rfl⟩ | ⟨rfl,rfl⟩
 . exact .inl hw
 . exact .inr hw
theorem WR {r:List Nat} {k:Nat} {x:Bond} (h:M.bonds[k]?=some x) (hb:(M.bitsOf r).testBit k=true):x.a ∈ r/\x.b ∈ r:=by
 rw [sL M r h,sI] at hb;rcases hb with q | q
 . exact ⟨sH.mp q.mem.1,sH.mp q.mem.2⟩
 . exact ⟨sH.mp q.mem.2,sH.mp q.mem.1⟩
theorem WS (g:lE M) {v:Nat} (hv:v < M.n) (no:∀ (k:Nat) (x:Bond),M.bonds[k]?=some x->(x.a=v\/x.b=v)->M.leastBonds.getD k 0=0):M.leastAtoms.getD v 0=0:=by
 rw [XT hv];refine Classical.byContradiction fun c=>?_;obtain ⟨r,hr,hp,_⟩:=Fw c;obtain ⟨k,x,hk,hx,hb⟩:=Pg g hr (List.contains_iff_mem.mp hp);have:=no k x hk hx;rw [M9 (List.getElem?_eq_some_iff.mp hk).1] at this;exact (lo_le g (p:=fun r=>(M.bitsOf r).testBit k) hr hb).2 this
theorem Ob (g:lE M) {v:Nat} (hv:v < M.n) {k:Nat} {x:Bond} (hk:M.bonds[k]?=some x) (hx:x.a=v\/x.b=v) (h0:M.leastBonds.getD k 0 ≠ 0)
   (le:∀ (j:Nat) (z:Bond),M.bonds[j]?=some z->(z.a=v\/z.b=v)->M.leastBonds.getD j 0 ≠ 0->M.leastBonds.getD k 0<=M.leastBonds.getD j 0):M.leastAtoms.getD v 0=M.leastBonds.getD k 0:=by
 have hk':=(List.getElem?_eq_some_iff.mp hk).1;rw [XT hv];have e:=M9 hk';obtain ⟨r,hr,hp,el⟩:=Fw (e ▸ h0);have hvr:v ∈ r:=by
   have:=WR hk hp;rcases hx with rfl | rfl
   . exact this.1
   . exact this.2
 obtain ⟨l1,l2⟩:=lo_le g (p:=fun r=>r.contains v) hr (List.contains_iff_mem.mpr hvr);obtain ⟨q,hq,pq,eq⟩:=Fw l2;obtain ⟨j,z,hj,hz,hb⟩:=Pg g hq (List.contains_iff_mem.mp pq);obtain ⟨l3,l4⟩:=lo_le g (p:=fun r=>(M.bitsOf r).testBit j) hq hb;have e2:=M9 (List.getElem?_eq_some_iff.mp hj).1;have:=le j z hj hz (e2 ▸ l4);rw [e] at this ⊢;rw [e2] at this;omega
end JM
namespace MP
open PySem PySem.Spec PyProof.Rows L2
open XL (gE)
open Fk (Fault Bytes numIn need andThen Atom Bond Mol PAtom PBond Part)
open JM (aB aE gQ d8)
def ds (L:List (Nat×Nat)):List (Key×V):=L.map fun p=>(Sum.inl (p.1:Int),V.int (p.2:Int))
theorem Ku {v:Nat}:∀ {L:List (Nat×Nat)},v ∉ L.map Prod.fst->jW (ds L) (Sum.inl (v:Int))=none
 | [],_=>rfl
 | x::L,h=>by
  simp only [List.map_cons,List.mem_cons,not_or] at h
  show jW ((Sum.inl (x.1:Int),V.int (x.2:Int))::ds L) _=_
  rw [jx (fun q=>h.1 (by have:=Sum.inl.inj q;omega))]
  exact Ku h.2
theorem MA {v d:Nat}:∀ {L:List (Nat×Nat)},(L.map Prod.fst).Nodup->(v,d) ∈ L->jW (ds L) (Sum.inl (v:Int))=some (.int (d:Int))
 | [],_,h=>by simp at h
 | x::L,nd,h=>by
   rw [List.map_cons,List.nodup_cons] at nd
   show jW ((Sum.inl (x.1:Int),V.int (x.2:Int))::ds L) _=_
   rcases List.mem_cons.mp h with rfl | h
   . exact jw rfl
   . have ne:x.1 ≠ v:=fun q=>nd.1 (q ▸ List.mem_map_of_mem h)
     rw [jx (fun q=>ne (by have:=Sum.inl.inj q;omega))]
     exact MA nd.2 h
theorem ZA {L:List (Nat×Nat)} {v d:Nat} (h:v ∉ L.map Prod.fst):putK (ds L) (Sum.inl (v:Int)) (.int (d:Int))=ds (L++[(v,d)]):=by
 unfold putK;have e:((ds L).any fun kv=>decide (kv.1=Sum.inl (v:Int)))=false:=by
  rw [mZ,Ku h];rfl
 rw [e];simp [ds]
theorem vH (l:List Nat) (v:Nat):vN (l++[v])=vN l++[.int (v:Int)]:=by simp [vN]
theorem Kv {c:Bool} (b2:Bool) {te:TE} {σ:L2.St} {H:Hp} {Qf:VK} (hx:∀ Qf:VK,Qf (.bl b2) H->te σ H Qf) (h:Qf (.bl (c&&b2)) H):if c=true then te σ H Qf else Qf (.bl false) H:=by
 cases c with
 | true=>exact qP (hx _ h)
 | false=>exact p6 h
structure XU (M:Mol) (a b:Nat) (L W:List (Nat×Nat)):Prop where
 nd:(L.map Prod.fst).Nodup
 lt:∀ p ∈ L,p.1 < M.n
 re:∀ p ∈ L,JM.Wk (JM.pU M a b) a p.2 p.1
 sub:∀ p ∈ W,p ∈ L
 st:(a,0) ∈ L
 rise:W.Pairwise fun p q=>p.2<=q.2
 few:2 * (M.n - L.length)+W.length<=2 * M.n
structure ZC (M:Mol) (a b:Nat) (L W:List (Nat×Nat)):Prop where
 Rl:XU M a b L W
 near:∀ p ∈ W,∀ q ∈ L,q.2<=p.2+1
 cl:∀ p ∈ L,p ∉ W->∀ u,JM.pU M a b p.1 u->∃ d,(u,d) ∈ L/\d<=p.2+1
theorem ZC.done {M:Mol} {a b:Nat} {L:List (Nat×Nat)} (s:ZC M a b L []) {k v:Nat} (h:JM.Wk (JM.pU M a b) a k v):∃ d,(v,d) ∈ L/\d<=k:=by
 induction h with
 | refl=>exact ⟨0,s.Rl.st,Nat.le_refl _⟩
 | step _ q ih=>
  obtain ⟨d,hd,le⟩:=ih;obtain ⟨d',hd',le'⟩:=s.cl _ hd (by simp) _ q;exact ⟨d',hd',by omega⟩
theorem XU.len {M:Mol} {a b:Nat} {L W:List (Nat×Nat)} (s:XU M a b L W):L.length<=M.n:=by
 have:=JM.tO M.n (L.map Prod.fst) s.nd fun x hx=>by
  obtain ⟨p,hp,rfl⟩:=List.mem_map.mp hx;exact s.lt p hp
 simpa using this
theorem XU.more {M:Mol} {a b u d:Nat} {L W:List (Nat×Nat)} (s:XU M a b L W) (hu:u < M.n) (Vm:u ∉ L.map Prod.fst) (w:JM.Wk (JM.pU M a b) a d u) (top:∀ q ∈ L,q.2<=d):XU M a b (L++[(u,d)]) (W++[(u,d)]):=by
 have nd2:((L++[(u,d)]).map Prod.fst).Nodup:=by
   rw [List.map_append,List.nodup_append];exact ⟨s.nd,by simp,fun x hx y hy=>by
     simp at hy;subst hy;exact fun q=>Vm (q ▸ hx)⟩
 have lt2:∀ p ∈ L++[(u,d)],p.1 < M.n:=fun p hp=>by
   rcases List.mem_append.mp hp with hp | hp
   . exact s.lt p hp
   . rw [List.mem_singleton.mp hp];exact hu
 have l2:=JM.tO M.n _ nd2 fun x hx=>by
   obtain ⟨p,hp,rfl⟩:=List.mem_map.mp hx;exact lt2 p hp
 rw [List.length_map,List.length_append,List.length_singleton] at l2;refine ⟨nd2,lt2,fun p hp=>?_,fun p hp=>?_,by simp [s.st],?_,?_⟩
 . rcases List.mem_append.mp hp with hp | hp
   . exact s.re p hp
   . rw [List.mem_singleton.mp hp];exact w
 . rcases List.mem_append.mp hp with hp | hp
   . exact List.mem_append_left _ (s.sub p hp)
   . exact List.mem_append_right _ hp
 . rw [List.pairwise_append]
   exact ⟨s.rise,by simp,fun p hp q hq=>by
     rw [List.mem_singleton.mp hq];exact top p (s.sub p hp)⟩
 . have:=s.few
   rw [List.length_append,List.length_append,List.length_singleton];omega
def FW (y:aB) (k:Nat):Nat:=(aE y).leastBonds.getD k 0
def UA (y:aB) (v:Nat):Nat:=(aE y).leastAtoms.getD v 0
variable {P:Program} {w:World} {K:Zqq} {mg:Str->Option Value} {base:Heap} {t:Ad}
section
theorem DP {y:aB} (gy:gc y) {v u:Nat}:u ∈ JM.bG (y.2.map JM.aU) v ↔ u < (aE y).n/\(aE y).joined v u=true:=by
 rw [<- gy.beside,JM.zV]
theorem qF {y:aB} {k:Nat} {c:Bond×Nat} (h:y.2[k]?=some c):(aE y).bonds[k]?=some c.1:=by
 show (y.2.map fun z=>z.1)[k]?=_;rw [List.getElem?_map,h];rfl
def WT (t:Ad):Sp:=fun vs H Q _=>∃ (g o:Addr) (k:Nat) (z:kH) (y:aB) (D:Addr->Prop) (c:Bond×Nat),vs=[.ref g,.ref o]/\mV t D H g z y/\gc y/\z.us[k]?=some (.ref o)/\y.2[k]?=some c /\
 ∀ H',aS H H'->Q (.int (FW y k:Int)) H'
theorem uL:aQ ["molecule","bond","steps","waiting","atom","other","is_bond_itself"] ["molecule","bond"] (aF iU):=lT (by decide +kernel)
theorem Rm (T:Txt K mg t):bF P w K mg base mL 1 t.bZ t.fR ["molecule","bond"] (WT t):=by
 obtain ⟨NN,g1⟩:=T.yI;refine T.dP.ok uL (fun vs H Q E h=>?_) (fun cdv A outer s H vs Q E hr h=>?_)
 . obtain ⟨g,o,k,z,y,D,c,rfl,_⟩:=h
   rfl
 . obtain ⟨g,o,n,z,y,D,c,rfl,M,gy,ho,hc,k⟩:=h
   have hu:=hr.un;have hu':(A.deeper (envOfC "least_through_bond" (aF iU) s.heap.objs.size t.bZ cdv)).units+1 < cLine:=by omega
   refine ⟨_,ak (aR (i:=2) uL.nd rfl (Or.inl rfl) (VC (Lb (aA (pv 1) rfl) aN OB) rfl rfl (by simp) (by decide)))
     (ak (aR (i:=3) uL.nd rfl (Or.inl rfl) (kC (af (aA (pv 1) rfl) au)))
     (ak (RX PassesOwn.never (Se (pv 3) (fun _=>rfl))
       (ak (aR (i:=4) uL.nd rfl (Or.inl rfl) (uq PySem.F.plainAttrs_list PySem.F.slot_list_pop PySem.F.type_list_pop Ss (pv 3) (af aN au)))
       (az (fj PassesOwn.never rfl (gD (bV b9 (aA (pv 0) rfl) (pv 4) (fun _ _=>rfl))) (bu (i:=5) uL.nd rfl (Or.inl rfl))
         (ak (aR (i:=6) uL.nd rfl (Or.inl rfl) (wO (e9 nV (pv 4) (aA (pv 1) rfl) (cg _)) (uR (e9 nV (pv 5) (aA (pv 1) rfl) (cg _)))))
         (az (kK (PW.pt (o6 (IA (PV hu' (pv 5) (pv 2))) (lF (uQ (jl (pv 6))))))
           (ak (Ah hu' (pv 2) (pv 5) (gU uS (D9 hu' (pv 2) (pv 4) (fun _ _=>rfl)) aN) rfl)
           (az (dW (uq PySem.F.plainAttrs_list PySem.F.slot_list_append PySem.F.type_list_append jt (pv 3) (af (pv 5) au)))))
           ee)))))))
     (az (bc (DV (IA (Sz hu' (aA (pv 1) rfl) (pv 2))) (gU uS (D9 hu' (pv 2) (aA (pv 1) rfl) (fun _ _=>rfl)) aN) (aV rfl g1 (v:=.int 0) ⟨_,rfl⟩)))))),?_⟩
   obtain ⟨dg,eg⟩:=M.obj;obtain ⟨o',dx,e0,_,rep⟩:=M.rb.at_ n _ c ho hc;cases e0;have gm:=gy.good;have XW:=qF hc;have hab:=JM.qL gm (JM.CT XW);have sml:=gy.small;have hn:(aE y).n=y.1.length:=yw y;intro d hd;have s0:aS H (upd H d (.dK [])):=aK hd;refine ⟨_,rfl,fld (s0 _ _ rep) T.gG T.kr rfl ⟨ai,[(Sum.inl (c.1.a:Int),.int 0)],rfl,by show 1<=15;decide,?_⟩⟩;have s1:aS H (upd (upd H d (.dK [])) d (.dK (BJ [] [(Sum.inl (c.1.a:Int),.int 0)]))):=fun b u e=>by rw [aq (ay e hd)];exact s0 b u e
   refine ⟨_,rfl,fld (s1 _ _ rep) T.gG T.kr rfl ⟨(by show 1<=sizeLine;decide),fun lw hlw=>?_⟩⟩;have dlw:d ≠ lw:=fun z=>by rw [<- z,ai] at hlw;cases hlw
   have lwd:lw ≠ d:=fun z=>dlw z.symm;have abd:H lw=none:=s1.free hlw;have s2:=s1.trans (aK (o:=.lst [.int (c.1.a:Int)]) hlw);dsimp only [Hq,Ym];show Nd _ _ _ _ _;let wN:L2.St->Hp->Prop:=fun σ H'=>∃ v4 v5 v6 L W,σ=[some (.ref g),some (.ref o),some (.ref d),some (.ref lw),v4,v5,v6]/\aS H H'/\H' d=some (.dK (ds L))/\H' lw=some (.lst (vN (W.map Prod.fst)))/\ZC (aE y) c.1.a c.1.b L W;refine Sa wN
     (fun σ H'=>match H' d,H' lw with | some (.dK kvs),some (.lst ws)=>2 * ((aE y).n - kvs.length)+ws.length | _,_=>0)
     ?_ ?_ ?_
   . refine ⟨none,none,none,[(c.1.a,0)],[(c.1.a,0)],rfl,s2,by rw [aq dlw,ai];rfl,ai,⟨by simp,fun p hp=>?_,fun p hp=>?_,fun p hp=>hp,by simp,by simp,by simp;omega⟩,fun p hp q hq=>?_,fun p hp hn=>absurd hp hn⟩
     . rw [List.mem_singleton.mp hp];exact hab.1
     . rw [List.mem_singleton.mp hp];exact .refl
     . rw [List.mem_singleton.mp hq];exact Nat.zero_le _
   rotate_left
   . exact fun σ H Q Q' h ⟨x,e,k,tv,q⟩=>⟨x,e,k,tv,h _ _ q⟩
   rintro σ H1 ⟨v4,v5,v6,L,W,rfl,s3,hd1,hw1,sh⟩;refine ⟨_,rfl,_,.inl ⟨_,bI.of hw1,rfl⟩,?_⟩;cases W with
   | nil=>
     refine p6 ?_;refine ⟨_,rfl,fld (s3 _ _ rep) T.gG T.ku rfl ⟨_,rfl,d,_,rfl,qO.k (k:=Sum.inl (c.1.b:Int)) hd1,_,rfl,?_⟩⟩;by_cases hb:c.1.b ∈ L.map Prod.fst
     . obtain ⟨⟨b',e⟩,hm,rfl⟩:=List.mem_map.mp hb
       have hv:=MA sh.Rl.nd hm;have ev:FW y n=e+1:=JM.Oa gm XW (sh.Rl.re _ hm) fun j hj=>by
         obtain ⟨d',hd',le⟩:=sh.done hj;have:=hv.symm.trans (MA sh.Rl.nd hd');cases this;exact le
       rw [hv];refine qP ?_;refine ⟨_,rfl,_,rfl,fld (s3 _ _ rep) T.gG T.ku rfl ⟨d,_,rfl,by have:=qO.k (k:=Sum.inl (c.1.b:Int)) hd1;rw [hv] at this;exact this,_,_,rfl,rfl,?_⟩⟩;have:=k _ s3;rw [ev] at this;exact this
     . have ev:FW y n=0:=JM.WQ gm XW fun j hj=>by
         obtain ⟨d',hd',_⟩:=sh.done hj;exact hb (List.mem_map_of_mem hd')
       rw [Ku hb];refine p6 ?_;have:=k _ s3;rw [ev] at this;exact this
   | cons pv W'=>
     obtain ⟨v,dv⟩:=pv;refine qP ?_;have vL:(v,dv) ∈ L:=sh.Rl.sub _ (by simp);have vn:=sh.Rl.lt _ vL;have hw1':H1 lw=some (.lst (.int (v:Int)::vN (W'.map Prod.fst))):=hw1;refine ⟨_,rfl,.inl ⟨rfl,_,bI.of hw1⟩,lw,_,0,0,.int (v:Int),rfl,rfl,hw1',by decide,by decide,by simp [seqIndex?],rfl,?_⟩;rw [List.eraseIdx_cons_zero];have s4:aS H (upd H1 lw (.lst (vN (W'.map Prod.fst)))):=fun b u e=>by rw [aq (ay e abd)];exact s3 b u e
     obtain ⟨ra,zS⟩:∃ ra,z.rs[v]?=some ra:=⟨_,List.getElem?_eq_getElem (by rw [M.rows.len,M.ra.len,<- hn];exact vn)⟩;have hA:=M.rows.at_ _ _ zS;have e1:(z.rs.map V.ref)[v]?=some (V.ref ra):=by rw [List.getElem?_map,zS];rfl
     refine ⟨_,rfl,fld (s4 _ _ eg) T.aY T.b8 rfl ⟨_,rfl,tT (bI.of (s4 _ _ M.rows.lst)) (bw e1) ⟨ra,rfl,⟨_,bI.of (s4 _ _ hA)⟩,?_⟩⟩⟩;have mu0:(match H1 d,H1 lw with | some (.dK kvs),some (.lst ws)=>2 * ((aE y).n - kvs.length)+ws.length | _,_=>0)=2 * ((aE y).n - L.length)+(W'.length+1):=by
       rw [hd1,hw1];simp [ds,vN]
     have rise:=sh.Rl.rise;rw [List.pairwise_cons] at rise;have few:=sh.Rl.few;rw [List.length_cons] at few;let Us:L2.Iv:=fun i σ H'=>∃ v5 v6 L' W'',σ=[some (.ref g),some (.ref o),some (.ref d),some (.ref lw),some (.int (v:Int)),v5,v6]/\aS H H'/\H' d=some (.dK (ds L'))/\H' lw=some (.lst (vN (W''.map Prod.fst)))/\XU (aE y) c.1.a c.1.b L' W''/\(v,dv) ∈ L'/\(∀ q ∈ L',q.2<=dv+1)/\(∀ p ∈ W'',dv<=p.2) /\
         (∀ p ∈ L',p ∉ W''->p ≠ (v,dv)->∀ u,JM.pU (aE y) c.1.a c.1.b p.1 u->∃ e,(u,e) ∈ L'/\e<=p.2+1)/\(∀ x ∈ (JM.bG (y.2.map JM.aU) v).take i,JM.pU (aE y) c.1.a c.1.b v x->∃ e,(x,e) ∈ L')/\2 * ((aE y).n - L'.length)+W''.length<=2 * ((aE y).n - L.length)+W'.length
     refine ph (K:=K) (a:=ra) (xs:=vN (JM.bG (y.2.map JM.aU) v)) Us
       ⟨v5,v6,L,W',rfl,s4,by rw [aq dlw];exact hd1,ai,⟨sh.Rl.nd,sh.Rl.lt,sh.Rl.re,fun u hu=>sh.Rl.sub u (by simp [hu]),sh.Rl.st,rise.2,by omega⟩,vL,fun q hq=>sh.near (v,dv) (by simp) q hq,fun p hp=>rise.1 p hp,fun p hp hn ne=>sh.cl p hp (by simp [hn,ne]),by simp,Nat.le_refl _⟩ (fun i σ H' _ ⟨_,_,_,_,_,sm,_⟩=>bI.of (sm _ _ hA)) ?_ ?_
     . rintro i x σ H2 hx ⟨v5,v6,L',W'',rfl,s5,hd2,hw2,fr,vL',top,low,cl,tk,mu⟩
       obtain ⟨u,hu0,rfl⟩:=Fo hx;have ju:=(DP gy).mp (List.mem_of_getElem? hu0);have stay:(JM.pU (aE y) c.1.a c.1.b v u->∃ e,(u,e) ∈ L')->∀ v5 v6,∃ v5' v6' L'' W3,[some (V.ref g),some (.ref o),some (.ref d),some (.ref lw),some (.int (v:Int)),v5,v6]=[some (.ref g),some (.ref o),some (.ref d),some (.ref lw),some (.int (v:Int)),v5',v6']/\aS H H2/\H2 d=some (.dK (ds L''))/\H2 lw=some (.lst (vN (W3.map Prod.fst)))/\XU (aE y) c.1.a c.1.b L'' W3/\(v,dv) ∈ L''/\(∀ q ∈ L'',q.2<=dv+1)/\(∀ p ∈ W3,dv<=p.2) /\
         (∀ p ∈ L'',p ∉ W3->p ≠ (v,dv)->∀ u,JM.pU (aE y) c.1.a c.1.b p.1 u->∃ e,(u,e) ∈ L''/\e<=p.2+1)/\(∀ x ∈ (JM.bG (y.2.map JM.aU) v).take (i+1),JM.pU (aE y) c.1.a c.1.b v x->∃ e,(x,e) ∈ L'')/\2 * ((aE y).n - L''.length)+W3.length<=2 * ((aE y).n - L.length)+W'.length:=fun hs v5 v6=>⟨v5,v6,L',W'',rfl,s5,hd2,hw2,fr,vL',top,low,cl,fun x hx sx=>by
           rw [take_snoc hu0] at hx
           rcases List.mem_append.mp hx with hx | hx
           . exact tk x hx sx
           . rw [List.mem_singleton.mp hx] at sx ⊢
             exact hs sx,mu⟩
       refine ⟨_,rfl,_,rfl,fld (s5 _ _ rep) T.gG T.kr rfl ⟨rfl,_,rfl,?_⟩⟩;refine Kv (decide (V.int (u:Int)=V.int (c.1.b:Int))) ?_ ?_
       . exact fun Qf q=>⟨_,rfl,_,rfl,fld (s5 _ _ rep) T.gG T.ku rfl ⟨rfl,q⟩⟩
       have ei:(decide (V.int (v:Int)=V.int (c.1.a:Int))&&decide (V.int (u:Int)=V.int (c.1.b:Int)))=true ↔ v=c.1.a/\u=c.1.b:=by
         rw [Bool.and_eq_true,decide_eq_true_eq,decide_eq_true_eq];constructor
         . rintro ⟨h1,h2⟩
           cases h1;cases h2;constructor<;>omega
         . rintro ⟨h1,h2⟩
           rw [h1,h2];exact ⟨rfl,rfl⟩
       generalize (decide (V.int (v:Int)=V.int (c.1.a:Int))&&decide (V.int (u:Int)=V.int (c.1.b:Int)))=is at ei;refine ⟨_,rfl,_,rfl,d,_,rfl,qO.k (k:=Sum.inl (u:Int)) hd2,_,rfl,?_⟩;by_cases Vm:u ∈ L'.map Prod.fst
       . obtain ⟨⟨u',e⟩,hm,rfl⟩:=List.mem_map.mp Vm
         rw [MA fr.nd hm];exact p6 (p6 (stay (fun _=>⟨e,hm⟩) _ _))
       . rw [Ku Vm]
         refine qP ?_;refine ⟨_,rfl,_,rfl,?_⟩;cases is with
         | true=>
           have:=ei.mp rfl;exact p6 (stay (fun q=>absurd this q.2) _ _)
         | false=>
           have su:JM.pU (aE y) c.1.a c.1.b v u:=⟨ju.2,fun q=>by have:=ei.mpr q;cases this⟩;have l1:(ds L').length=L'.length:=by simp [ds]
           have l2:=fr.len;have l5:=fr.few;have fr2:=fr.more ju.1 Vm (.step (fr.re _ vL') su) top;have l3:=fr2.len;rw [List.length_append,List.length_singleton] at l3;have gv:=qO.k (k:=Sum.inl (v:Int)) hd2;rw [MA fr.nd vL'] at gv;refine qP ?_;have pv:=Ek.k (k:=Sum.inl (u:Int)) (v:=.int ((dv+1:Nat):Int)) hd2 (by rw [sizeLine_eq];omega);rw [ZA Vm] at pv;refine ⟨_,rfl,_,rfl,d,_,rfl,gv,_,_,rfl,rfl,_,rfl,_,rfl,d,_,rfl,pv,?_⟩;have hw3:upd H2 d (.dK (ds (L'++[(u,dv+1)]))) lw=some (.lst (vN (W''.map Prod.fst))):=by rw [aq lwd];exact hw2
           have wl:(vN (W''.map Prod.fst)).length=W''.length:=by simp [vN]
           refine ⟨_,rfl,.inl ⟨rfl,_,bI.of hw3⟩,_,rfl,lw,_,_,rfl,rfl,hw3,by rw [sizeLine_eq];omega,?_⟩;refine ⟨_,_,L'++[(u,dv+1)],W''++[(u,dv+1)],rfl,fun b q e=>by rw [aq (ay e abd),aq (ay e hd)];exact s5 b q e,by rw [aq dlw,ai],by rw [ai,List.map_append];exact congrArg (fun l=>some (HO.lst l)) (vH _ u).symm,fr2,by simp [vL'],fun q hq=>?_,fun p hp=>?_,fun p hp hn ne z hz=>?_,fun x hx sx=>?_,?_⟩
           . rcases List.mem_append.mp hq with hq | hq
             . exact top q hq
             . rw [List.mem_singleton.mp hq];exact Nat.le_refl _
           . rcases List.mem_append.mp hp with hp | hp
             . exact low p hp
             . rw [List.mem_singleton.mp hp];exact Nat.le_succ _
           . rcases List.mem_append.mp hp with hp | hp
             . obtain ⟨e,he,le⟩:=cl p hp (fun q=>hn (List.mem_append_left _ q)) ne z hz
               exact ⟨e,List.mem_append_left _ he,le⟩
             . exact absurd (List.mem_append_right _ hp) hn
           . rw [take_snoc hu0] at hx
             rcases List.mem_append.mp hx with hx | hx
             . obtain ⟨e,he⟩:=tk x hx sx
               exact ⟨e,List.mem_append_left _ he⟩
             . rw [List.mem_singleton.mp hx]
               exact ⟨_,List.mem_append_right _ (List.mem_singleton.mpr rfl)⟩
           . simp only [List.length_append,List.length_singleton]
             omega
     . rintro σ H2 ⟨v5,v6,L',W'',rfl,s5,hd2,hw2,fr,vL',top,low,cl,tk,mu⟩
       rw [show (JM.bG (y.2.map JM.aU) v).take (vN (JM.bG (y.2.map JM.aU) v)).length=JM.bG (y.2.map JM.aU) v from List.take_of_length_le (by simp [vN])] at tk;refine ⟨⟨_,v5,v6,L',W'',rfl,s5,hd2,hw2,fr,fun p hp q hq=>?_,fun q hq hn x hx=>?_⟩,?_⟩
       . have:=top q hq
         have:=low p hp;omega
       . by_cases e:q=(v,dv)
         . subst e
           obtain ⟨e,he⟩:=tk x ((DP gy).mpr ⟨(JM.qL gm hx.1).2.1,hx.1⟩) hx;exact ⟨e,he,top _ he⟩
         . exact cl q hq hn e x hx
       . rw [mu0,hd2,hw2]
         simp [ds,vN];omega
end
theorem Kw (l:List Nat):(vN l).all sW=true:=by
 unfold vN;rw [List.all_map,List.all_eq_true];intro x _;rfl
theorem UB (e:Nat) (l:List Nat):KP (.int (e:Int)) (vN l)=l.contains e:=by
 unfold KP vN;rw [List.any_map,Bool.eq_iff_iff,List.any_eq_true,List.contains_iff_mem];constructor
 . rintro ⟨x,hx,h⟩
   have:(x:Int)=(e:Int):=beq_iff_eq.mp h;have:x=e:=by omega
   exact this ▸ hx
 . intro h
   exact ⟨e,h,by show ((e:Int)==(e:Int))=true;simp⟩
theorem CU {l:List Nat} {i v:Nat} (h:l[i]?=some v):(vN l)[i]?=some (.int (v:Int)):=by
 unfold vN;rw [List.getElem?_map,h];rfl
theorem zW (l:List Nat):(vN l).length=l.length:=by simp [vN]
def qG:ua (List Nat):=fun D H v f=>∃ a,v=.ref a/\D a/\H a=some (.lst (vN f))
theorem qG.ok:yh qG:=⟨fun ⟨a,e,d,h⟩ k=>⟨a,e,d,k _ _ d h⟩,fun ⟨a,e,d,h⟩ k=>⟨a,e,k _ d,h⟩⟩
def sM (l:List Nat):List Int:=l.map fun (n:Nat)=>(n:Int)
theorem Fx (l:List Nat):vN l=vI (sM l):=by simp [vN,vI,sM]
def rB (y:aB):List Nat:=(List.range y.2.length).map (FW y)
def rA (y:aB):List Nat:=(List.range y.1.length).map (UA y)
theorem Oc {y:aB} {k:Nat} (h:k < y.2.length):(vN (rB y))[k]?=some (.int (FW y k:Int)):=by
 unfold vN rB;simp [h]
theorem ZD {y:aB} {k:Nat} (h:k < y.1.length):(vN (rA y))[k]?=some (.int (UA y k:Int)):=by
 unfold vN rA;simp [h]
def Kx (y:aB) (v u:Nat):Nat:=((y.2.map JM.aU).findIdx? (jC v u)).getD 0
theorem vJ {v u:Nat} {q:Nat×Nat}:jC v u q=true ↔ (q.1=v/\q.2=u)\/(q.1=u/\q.2=v):=by
 unfold jC;simp
theorem Ph {y:aB} (gy:gc y) {v u k:Nat} {c:Bond×Nat} (hc:y.2[k]?=some c) (hj:jC v u (JM.aU c)=true):(y.2.map JM.aU).findIdx? (jC v u)=some k:=by
 have hk:k < y.2.length:=(List.getElem?_eq_some_iff.mp hc).1;have ek:y.2[k]=c:=(List.getElem?_eq_some_iff.mp hc).2;rw [List.findIdx?_eq_some_iff_getElem];refine ⟨by simp [hk],by simp only [List.getElem_map,ek];exact hj,fun j hjk hj2=>?_⟩;have pw:=List.pairwise_iff_getElem.mp gy.rise.2 j k (by simp;omega) (by simp [hk]) hjk;have b1:=gy.rise.1 _ (List.getElem_mem (l:=y.2.map JM.aU) (n:=j) (by simp;omega));have b2:=gy.rise.1 _ (List.getElem_mem (l:=y.2.map JM.aU) (n:=k) (by simp [hk]));simp only [List.getElem_map,ek] at pw b1 b2 hj2;rw [vJ] at hj hj2;omega
theorem Ky {y:aB} (gy:gc y) {v u k:Nat} {c:Bond×Nat} (hc:y.2[k]?=some c) (hj:jC v u (JM.aU c)=true):Kx y v u=k:=by
 unfold Kx;rw [Ph gy hc hj];rfl
theorem Kz {y:aB} (gy:gc y) {v u:Nat} (h:u ∈ JM.bG (y.2.map JM.aU) v):∃ c,y.2[Kx y v u]?=some c/\(c.1.a=v\/c.1.b=v)/\(y.2.map JM.aU).findIdx? (jC v u)=some (Kx y v u):=by
 obtain ⟨q,hq,hj⟩:=JM.xm.mp h;obtain ⟨c,hc,rfl⟩:=List.mem_map.mp hq;obtain ⟨k,hk⟩:=List.getElem?_of_mem hc;have hj':jC v u (JM.aU c)=true:=vJ.mpr (by omega);have e:=Ph gy hk hj';have eb:=Ky gy hk hj';rw [eb];refine ⟨c,hk,?_,e⟩;unfold JM.aU at hj;simp at hj;omega
theorem MB {y:aB} (gy:gc y) {v k:Nat} {x:Bond} (h:(aE y).bonds[k]?=some x) (hx:x.a=v\/x.b=v):∃ u ∈ JM.bG (y.2.map JM.aU) v,Kx y v u=k:=by
 have h':(y.2.map fun z=>z.1)[k]?=some x:=h;rw [List.getElem?_map] at h';cases hc:y.2[k]? with
 | none=>rw [hc] at h';cases h'
 | some c=>
   rw [hc] at h';cases h';have lt:=(gy.rise.1 _ (List.mem_map_of_mem (List.mem_of_getElem? hc))).1;unfold JM.aU at lt;simp at lt;rcases hx with rfl | rfl
   . exact ⟨c.1.b,JM.xm.mpr ⟨JM.aU c,List.mem_map_of_mem (List.mem_of_getElem? hc),.inl ⟨rfl,rfl⟩⟩,Ky gy hc (vJ.mpr (.inl ⟨rfl,rfl⟩))⟩
   . exact ⟨c.1.a,JM.xm.mpr ⟨JM.aU c,List.mem_map_of_mem (List.mem_of_getElem? hc),.inr ⟨by unfold JM.aU;simp;omega,rfl,rfl⟩⟩,Ky gy hc (vJ.mpr (.inr ⟨rfl,rfl⟩))⟩
def Od (y:aB) (v:Nat):List Nat:=(((JM.bG (y.2.map JM.aU) v).map (Kx y v)).filter fun k=>FW y k != 0).map (FW y)
theorem Rn {y:aB} (gy:gc y) {v:Nat} (hv:v < y.1.length) (h:Od y v=[]):UA y v=0:=by
 refine JM.WS gy.good (by rw [yw];exact hv) fun k x hk hx=>?_;obtain ⟨u,hu,e⟩:=MB gy hk hx;unfold Od at h;rw [List.map_eq_nil_iff,List.filter_eq_nil_iff] at h;have:=h k (List.mem_map.mpr ⟨u,hu,e⟩);show FW y k=0;simpa using this
theorem Oe {y:aB} (gy:gc y) {v m:Nat} (hv:v < y.1.length) (hm:m ∈ Od y v) (le:∀ x ∈ Od y v,m<=x):UA y v=m:=by
 obtain ⟨k,hk,rfl⟩:=List.mem_map.mp hm;obtain ⟨hk,h0⟩:=List.mem_filter.mp hk;obtain ⟨u,hu,rfl⟩:=List.mem_map.mp hk;obtain ⟨c,hc,hx,_⟩:=Kz gy hu;refine JM.Ob gy.good (by rw [yw];exact hv) (qF hc) hx (bne_iff_ne.mp h0) fun j z hj hz h1=>le _ ?_;obtain ⟨u',hu',rfl⟩:=MB gy hj hz;exact List.mem_map.mpr ⟨_,List.mem_filter.mpr ⟨List.mem_map.mpr ⟨u',hu',rfl⟩,bne_iff_ne.mpr h1⟩,rfl⟩
theorem ZE (l:List Nat):vN l=(l.map fun (n:Nat)=>(n:Int)).map V.int:=by
 unfold vN;rw [List.map_map];rfl
section
def acp (t:Ad):Sp:=fun vs H Q _=>∃ (g:Addr) (z:kH) (y:aB) (D:Addr->Prop),vs=[.ref g]/\mV t D H g z y/\gc y/\∀ H' l,aS H H'->H l=none->H' l=some (.lst (vN (rB y)))->Q (.ref l) H'
theorem UC:aQ ["molecule","bond"] ["molecule"] (aF kF):=lT (by decide +kernel)
theorem abe (T:Txt K mg t):bF P w K mg base mL 2 t.c5 t.f6 ["molecule"] (acp t):=by
 have GR:=@Rm P w K mg base t T;refine T.cX.ok UC (fun vs H Q E h=>?_) (fun cdv A outer s H vs Q E hr h=>?_)
 . obtain ⟨g,z,y,D,rfl,_⟩:=h
   rfl
 . obtain ⟨g,z,y,D,rfl,M,gy,k⟩:=h
   refine ⟨_,az (bc (C4 rfl UC.nd (gD (aA (pv 0) rfl)) (jv (own:=[("bond",1)]) rfl) (fun _ _ _ _ _=>bu (i:=1) UC.nd rfl (Or.inl rfl)) (fun _ _ _ _ _=>Ae)
     (fun _ _ _ _ _=>b4 GR hr rfl T.pL T.dP.kp T.pK .nil bE (af (pv 0) (af (pv 1) au))))),?_⟩
   obtain ⟨dg,eg⟩:=M.obj;have fw:=gy.few;refine ⟨_,rfl,fld eg T.aY T.cP rfl ⟨z.lb,rfl,⟨_,bI.of M.bonds⟩,fun l hl=>?_⟩⟩;refine mY (K:=K) (a:=z.lb) (xs:=z.us) (fun i H'=>aS H H'/\H' l=some (.lst (vN ((List.range i).map (FW y))))) ⟨aK hl,ai⟩ (fun i H' _ ⟨sm,_⟩=>bI.of (sm _ _ M.bonds)) ?_ ?_
   . rintro i x H' hx ⟨sm,hl'⟩
     have hi:i < z.us.length:=(List.getElem?_eq_some_iff.mp hx).1;obtain ⟨c,hc⟩:∃ c,y.2[i]?=some c:=⟨_,List.getElem?_eq_getElem (by rw [<- M.rb.len];exact hi)⟩;obtain ⟨o,dx,rfl,_,rep⟩:=M.rb.at_ i x c hx hc;refine ⟨rfl,_,rfl,_,rfl,?_⟩;refine ⟨g,o,i,z,y,D,c,rfl,M.same sm,gy,hx,hc,fun H2 s2=>?_⟩;refine ⟨_,s2 _ _ hl',?_,?_,?_⟩
     . have:=M.rb.len
       rw [sizeLine_eq];simp [vN];omega
     . intro b u e
       rw [aq (ay e hl)];exact s2 _ _ (sm b u e)
     . rw [ai,List.range_succ]
       simp [vN]
   . rintro H1 ⟨sm,hl'⟩
     rw [M.rb.len] at hl';exact k H1 l sm hl hl'
def acq (t:Ad):Sp:=fun vs H Q _=>∃ (g lb:Addr) (z:kH) (y:aB) (D:Addr->Prop),vs=[.ref g,.ref lb]/\mV t D H g z y/\gc y/\H lb=some (.lst (vN (rB y)))/\∀ H' l,aS H H'->H l=none->H' l=some (.lst (vN (rA y)))->Q (.ref l) H'
theorem Fy:aQ ["molecule","through_bonds","lengths","atom","numbers","other","through_atom","k"] ["molecule","through_bonds"] (aF iK):=lT (by decide +kernel)
theorem abf (T:Txt K mg t):bF P w K mg base mL 1 t.bO t.f7 ["molecule","through_bonds"] (acq t):=by
 obtain ⟨NN,g1⟩:=T.yI;refine T.cY.ok Fy (fun vs H Q E h=>?_) (fun cdv A outer s H vs Q E hr h=>?_)
 . obtain ⟨g,lb,z,y,D,rfl,_⟩:=h
   rfl
 . obtain ⟨g,lb,z,y,D,rfl,M,gy,hlb,k⟩:=h
   have hu:=hr.un;have hu':(A.deeper (envOfC "least_through_atoms" (aF iK) s.heap.objs.size t.bO cdv)).units+1 < cLine:=by omega
   refine ⟨_,ak (aR (i:=2) Fy.nd rfl (Or.inl rfl) (kC au))
     (ak (fj PassesOwn.never rfl (mK rfl T.oX (af (c6 bx (by rfl) T.kG PySem.boot_len (af (aA (pv 0) rfl) au)) au)) (bu (i:=3) Fy.nd rfl (Or.inr rfl))
       (ak (xg (i:=4) rfl Fy.nd rfl rfl rfl (gD (bV b9 (aA (pv 0) rfl) (pv 3) (fun _ _=>rfl))) (jv (own:=[("other",5)]) rfl) (fun _ _ _ _ _=>bu (i:=5) Fy.nd rfl (Or.inl rfl)) (fun _ _ _ _ _=>Ae)
         (fun _ _ _ _ _=>D9 hu' (DM (K0:=K) rfl (pv 0) rfl) (mz (af (pv 3) (af (pv 5) au))) (fun _ _=>rfl)))
       (ak (xg (i:=6) rfl Fy.nd rfl rfl rfl (gD (pv 4)) (jv (own:=[("k",7)]) rfl) (fun _ _ _ _ _=>bu (i:=7) Fy.nd rfl (Or.inl rfl))
         (fun _ _ _ _ _=>sY (d9 vU (bV (Fp (K0:=K) rfl) (pv 1) (pv 7) (fun _ _=>rfl)) (aV rfl g1 (v:=.int 0) ⟨_,rfl⟩) (cg _)))
         (fun _ _ _ _ _=>bV (Fp (K0:=K) rfl) (pv 1) (pv 7) (fun _ _=>rfl)))
       (az (dW (uq PySem.F.plainAttrs_list PySem.F.slot_list_append PySem.F.type_list_append jt (pv 2) (af (VN rfl (by rfl) T.XE rfl (pv 6) (aV rfl g1 (v:=.int 0) ⟨_,rfl⟩)) au)))))))
     (az (bc (pv 2)))),?_⟩
   obtain ⟨dg,eg⟩:=M.obj;have al:z.as.length=y.1.length:=M.ra.len;have sml:=gy.small;have fw:=gy.few;refine ⟨Nat.zero_le _,fun l hl=>?_⟩;have s1:aS H (upd H l (.lst [])):=aK hl;refine ⟨_,rfl,fld (s1 _ _ eg) T.aY T.bT rfl ⟨z.la,z.as,rfl,.inl (bI.of (s1 _ _ M.atoms)),?_⟩⟩;refine ⟨_,rfl,by omega,by omega,?_⟩;let wN:L2.Iv:=fun i σ H'=>∃ v3 v4 v6,i<=z.as.length/\σ=[some (.ref g),some (.ref lb),some (.ref l),v3,v4,none,v6,none]/\aS H H'/\H' l=some (.lst (vN ((List.range i).map (UA y))));refine qI (n:=z.as.length) wN ⟨none,none,none,Nat.zero_le _,rfl,s1,ai⟩ ?_ ?_
   . rintro i σ H1 hi ⟨v3,v4,v6,_,rfl,s2,hl1⟩
     rw [Int.zero_add];have hi':i < y.1.length:=by omega
     obtain ⟨ra,zS⟩:∃ ra,z.rs[i]?=some ra:=⟨_,List.getElem?_eq_getElem (by rw [M.rows.len];exact hi)⟩;have hA:=M.rows.at_ _ _ zS;have e1:(z.rs.map V.ref)[i]?=some (V.ref ra):=by rw [List.getElem?_map,zS];rfl
     have nl:(JM.bG (y.2.map JM.aU) i).length<=1000:=gy.Ri i;refine ⟨_,rfl,fld (s2 _ _ eg) T.aY T.b8 rfl ⟨_,rfl,tT (bI.of (s2 _ _ M.rows.lst)) (bw e1) ⟨ra,rfl,⟨_,bI.of (s2 _ _ hA)⟩,fun ln YU=>?_⟩⟩⟩;refine mY (K:=K) (a:=ra) (xs:=vN (JM.bG (y.2.map JM.aU) i)) (fun j H'=>aS H1 H'/\H' ln=some (.lst (vN (((JM.bG (y.2.map JM.aU) i).take j).map (Kx y i))))) ⟨aK YU,ai⟩ (fun j H' _ ⟨sm,_⟩=>bI.of (sm _ _ (s2 _ _ hA))) ?_ ?_
     . rintro j x H2 hx ⟨s3,hn2⟩
       obtain ⟨u,hu0,rfl⟩:=Fo hx;have sm:=s2.trans s3;obtain ⟨c,hc,_,hf⟩:=Kz gy (List.mem_of_getElem? hu0);refine ⟨rfl,_,rfl,fld (sm _ _ eg) T.aY T.bU rfl ⟨_,rfl,_,rfl,(by show 2<=sizeLine;decide),fun p1 hp1=>?_⟩⟩;have s4:aS H2 (upd H2 p1 (.tup [.int (i:Int),.int (u:Int)])):=aK hp1;have dg1:qO (upd H2 p1 (.tup [.int (i:Int),.int (u:Int)])) z.ln (.ref p1) (some (.int (Kx y i u:Int))):=by
         have:=qO.t (k:=kI [(i:Int),(u:Int)]) (s4 _ _ (sm _ _ M.nums)) (by rw [D5];exact ai);rw [M.num,hf] at this;exact this
       refine ⟨z.ln,_,rfl,dg1,_,s4 _ _ hn2,?_,fun b o e=>?_,?_⟩
       . rw [sizeLine_eq]
         simp [vN];omega
       . rw [aq (ay e YU)]
         exact s4 _ _ (s3 b o e)
       . rw [ai,take_snoc hu0,List.map_append,<- vH]
         rfl
     . rintro H2 ⟨s3,hn2⟩
       rw [List.take_of_length_le (by simp [vN])] at hn2;refine ⟨_,rfl,ln,rfl,⟨_,bI.of hn2⟩,fun l2 hl2=>?_⟩;have lne:l2 ≠ l:=fun q=>by
         have:=(s3 _ _ hl1);rw [<- q,hl2] at this;cases this
       generalize hnu:(JM.bG (y.2.map JM.aU) i).map (Kx y i)=nu at hn2;have nub:∀ n ∈ nu,n < y.2.length:=fun n hn=>by
         rw [<- hnu] at hn;obtain ⟨u,hu,rfl⟩:=List.mem_map.mp hn;obtain ⟨c,hc,_⟩:=Kz gy hu;exact (List.getElem?_eq_some_iff.mp hc).1
       have nul:nu.length<=1000:=by rw [<- hnu,List.length_map];exact nl
       refine mY (K:=K) (a:=ln) (xs:=vN nu) (fun j H'=>aS H2 H'/\H' l2=some (.lst (vN (((nu.take j).filter fun n=>FW y n != 0).map (FW y))))) ⟨aK hl2,ai⟩ (fun j H' _ ⟨sm,_⟩=>bI.of (sm _ _ hn2)) ?_ ?_
       . rintro j x H3 hx ⟨s5,hl3⟩
         obtain ⟨n,hn0,rfl⟩:=Fo hx;have sm:=(s2.trans s3).trans s5;have hn:=nub n (List.mem_of_getElem? hn0);refine ⟨rfl,_,rfl,_,rfl,tT (bI.of (sm _ _ hlb)) (bw (Oc hn)) ⟨rfl,_,rfl,?_⟩⟩;have ex:decide (V.int (FW y n:Int)=V.int 0)=!(FW y n != 0):=by
           by_cases c:FW y n=0
           . simp [c]
           . have:¬ V.int (FW y n:Int)=V.int 0:=fun q=>c (by have:=V.int.inj q;omega)
             simp [c,this]
         rw [ex,Bool.not_not,take_snoc hn0];cases hb:FW y n != 0 with
         | false=>
           refine p6 ⟨s5,?_⟩;rw [List.filter_append,List.filter_cons_of_neg (by rw [hb];exact Bool.false_ne_true),List.filter_nil,List.append_nil];exact hl3
         | true=>
           refine qP ?_;refine ⟨_,rfl,_,rfl,tT (bI.of (sm _ _ hlb)) (bw (Oc hn)) ⟨_,hl3,?_,fun b o e=>?_,?_⟩⟩
           . have:=List.length_filter_le (fun n=>FW y n != 0) (nu.take j)
             have:=List.length_take_le j nu;rw [sizeLine_eq];simp only [vN,List.length_map];have:(nu.take j).length<=nu.length:=List.length_take_le' j nu;omega
           . rw [aq (ay e hl2)]
             exact s5 b o e
           . rw [ai,List.filter_append,List.filter_cons_of_pos (p:=fun n=>FW y n != 0) hb,List.filter_nil,List.map_append,<- vH]
             rfl
       . rintro H3 ⟨s5,hl3⟩
         rw [List.take_of_length_le (by simp [vN])] at hl3;have et:((nu.filter fun n=>FW y n != 0).map (FW y))=Od y i:=by unfold Od;rw [hnu]
         rw [et] at hl3;have s6:=(s2.trans s3).trans s5;have W2:=s5 _ _ (s3 _ _ hl1);have ll:(vN ((List.range i).map (UA y))).length < sizeLine:=by
           rw [sizeLine_eq];simp [vN];omega
         have fin:∀ H',H'=upd H3 l (.lst (vN ((List.range i).map (UA y))++[.int (UA y i:Int)]))->aS H H'/\H' l=some (.lst (vN ((List.range (i+1)).map (UA y)))):=by
           rintro H' rfl;refine ⟨fun b o e=>?_,?_⟩
           . rw [aq (ay e hl)]
             exact s6 b o e
           . rw [ai,List.range_succ,List.map_append,<- vH]
             rfl
         refine ⟨_,rfl,.inl ⟨rfl,_,bI.of W2⟩,_,rfl,l2,(Od y i).map fun (n:Nat)=>(n:Int),0,rfl,rfl,(by rw [<- ZE];exact bI.of hl3),fun e=>?_,fun m hm le=>?_⟩
         . have e0:=Rn gy hi' (List.map_eq_nil_iff.mp e)
           refine ⟨l,_,_,rfl,rfl,W2,ll,_,_,_,hi,rfl,fin _ ?_⟩;rw [e0];rfl
         . obtain ⟨m',hm',rfl⟩:=List.mem_map.mp hm
           have e0:=Oe gy hi' hm' fun x hx=>by
             have:=le x (List.mem_map_of_mem hx);omega
           refine ⟨l,_,_,rfl,rfl,W2,ll,_,_,_,hi,rfl,fin _ ?_⟩;rw [e0]
   . rintro σ H1 ⟨v3,v4,v6,_,rfl,s2,hl1⟩
     rw [al] at hl1;exact ⟨_,rfl,k H1 l s2 hl hl1⟩
end
end MP
namespace JM
open Fk
variable {M:Mol}
theorem DQ (g:lE M) {k:Nat} (hk:k < M.bonds.length) (o:Nat):o ∈ M.mays.getD k [] ↔ (1<=o/\o<=3)/\Found (gQ M) (d8 M) k o:=by
 have e:M.mays.getD k []=[1,2,3].filter fun o=>(CP M).any fun r=>r[k]?==some o:=by
   unfold Mol.mays;simp only;rw [List.getD,List.getElem?_map,List.getElem?_range hk];rfl
 rw [e,List.mem_filter];constructor
 . rintro ⟨h1,h2⟩
   have ho:1<=o/\o<=3:=by simp at h1;omega
   refine ⟨ho,?_⟩;rw [g.found hk ho];rw [List.any_eq_true] at h2;simpa using h2
 . rintro ⟨ho,h2⟩
   refine ⟨by simp;omega,?_⟩;rw [g.found hk ho] at h2;rw [List.any_eq_true];simpa using h2
theorem yN (P:Nat->Prop) (i:Nat):(iI P).testBit i=true ↔ i < 3/\P (i+1):=by
 have big:∀ n i,n < 8->3<=i->n.testBit i=false:=fun n i hn hi=>Nat.testBit_lt_two_pow (Nat.lt_of_lt_of_le hn (Nat.pow_le_pow_right (n:=2) (by decide) hi));have le:iI P < 8:=by
   unfold iI;by_cases h1:P 1<;>by_cases h2:P 2<;>by_cases h3:P 3<;>simp [h1,h2,h3]
 by_cases hi:3<=i
 . rw [big _ _ le hi]
   constructor
   . intro h;cases h
   . intro h;omega
 . have:i=0\/i=1\/i=2:=by omega
   unfold iI;rcases this with rfl | rfl | rfl<;>(by_cases h1:P 1<;>by_cases h2:P 2<;>by_cases h3:P 3<;>simp [h1,h2,h3]<;>decide)
theorem WU (d x:Nat):d ||| x=x ↔ ∀ i,d.testBit i=true->x.testBit i=true:=by
 constructor
 . intro h i hi
   rw [<- h,Nat.testBit_or,hi];rfl
 . intro h
   refine Nat.eq_of_testBit_eq fun i=>?_;rw [Nat.testBit_or];cases hd:d.testBit i with
   | false=>rfl
   | true=>rw [h i hd];rfl
theorem UD (d x:Nat):d &&& x ≠ 0 ↔ ∃ i,d.testBit i=true/\x.testBit i=true:=by
 constructor
 . intro h
   obtain ⟨i,hi⟩:=Nat.exists_testBit_of_ne_zero h;rw [Nat.testBit_and,Bool.and_eq_true] at hi;exact ⟨i,hi⟩
 . rintro ⟨i,h1,h2⟩ e
   have:(d &&& x).testBit i=true:=by rw [Nat.testBit_and,h1,h2];rfl
   rw [e] at this;simp at this
theorem UE (g:lE M) {k:Nat} (hk:k < M.bonds.length) (y:PBond):(M.mays.getD k []).all y.has=decide (iI (Found (gQ M) (d8 M) k) ||| y.orders=y.orders):=by
 rw [Bool.eq_iff_iff,List.all_eq_true,decide_eq_true_eq,WU];constructor
 . intro h i hi
   obtain ⟨h1,h2⟩:=(yN _ i).mp hi;have:=h (i+1) ((DQ g hk _).mpr ⟨by omega,h2⟩);exact this
 . intro h o ho
   obtain ⟨h1,h2⟩:=(DQ g hk o).mp ho;exact h (o - 1) ((yN _ _).mpr ⟨by omega,by rw [show o - 1+1=o by omega];exact h2⟩)
theorem UG (g:lE M) {k:Nat} (hk:k < M.bonds.length) (y:PBond):(M.mays.getD k []).any y.has=decide (iI (Found (gQ M) (d8 M) k) &&& y.orders ≠ 0):=by
 rw [Bool.eq_iff_iff,List.any_eq_true,decide_eq_true_eq,UD];constructor
 . rintro ⟨o,ho,h⟩
   obtain ⟨h1,h2⟩:=(DQ g hk o).mp ho;exact ⟨o - 1,(yN _ _).mpr ⟨by omega,by rw [show o - 1+1=o by omega];exact h2⟩,h⟩
 . rintro ⟨i,hi,h⟩
   obtain ⟨h1,h2⟩:=(yN _ i).mp hi;exact ⟨i+1,(DQ g hk _).mpr ⟨by omega,h2⟩,h⟩
end JM
namespace MP
open PySem PySem.Spec PyProof.Rows L2
open XL (gE)
open Fk (Fault Bytes numIn need andThen Atom Bond Mol PAtom PBond Part)
open JM (aB aE gQ d8)
def abg (y:aB) (k:Nat):Bool:=FW y k != 0
def abh (y:aB) (v:Nat):Bool:=UA y v != 0
def iJ (s h:Nat):Bool:=s==0||((h==0)==(s==3))
theorem oU (a b:Nat):decide (V.int (a:Int)=V.int (b:Int))=(a==b):=by
 rw [Bool.eq_iff_iff,decide_eq_true_eq,beq_iff_eq];constructor
 . intro h;cases h;omega
 . intro h;rw [h]
theorem Cu (a b:Nat):(!decide (V.int (a:Int)=V.int (b:Int)))=(a != b):=by
 rw [oU];rfl
theorem UH (a b:Bool):decide (V.bl a=V.bl b)=(a==b):=by cases a<;>cases b<;>rfl
theorem UI {c:Bool} (b2:Bool) {te:TE} {σ:L2.St} {H:Hp} {Qf:VK} (hx:∀ Qf:VK,Qf (.bl b2) H->te σ H Qf) (h:Qf (.bl (c||b2)) H):if c=true then Qf (.bl true) H else te σ H Qf:=by
 cases c with
 | true=>exact qP h
 | false=>exact p6 (hx _ h)
variable {P:Program} {w:World} {K:Zqq} {mg:Str->Option Value} {base:Heap} {t:Ad}
section
def UJ:Sp:=fun vs H Q _=>∃ (n:Nat) (p:Addr) (x:Nat×Nat),vs=[.int (n:Int),.ref p]/\H p=some (.tup (vP x))/\Q (.bl (Fk.between x n)) H
theorem Ro:aQ ["number","bounds"] ["number","bounds"] (aF Ez):=lT (by decide +kernel)
theorem Rp (T:Txt K mg t):bF P w K mg base mL 1 t.qX t.x8 ["number","bounds"] UJ:=by
 refine T.nG.ok Ro (fun vs H Q E h=>?_) (fun cdv A outer s H vs Q E hr h=>?_)
 . obtain ⟨n,p,x,rfl,_⟩:=h
   rfl
 . obtain ⟨n,p,x,rfl,hp,k⟩:=h
   refine ⟨_,az (bc (KJ Ht Ht (bV wW (pv 1) aN (fun _ _=>rfl)) (pv 0) (bV wW (pv 1) aN (fun _ _=>rfl)))),?_⟩;have e:Fk.between x n=(decide ((x.1:Int)<=(n:Int))&&decide ((n:Int)<=(x.2:Int))):=by
     unfold Fk.between;rw [Bool.eq_iff_iff];simp
   rw [e] at k;refine ⟨_,rfl,XD (nU.of hp) (bw (j:=0) (v:=V.int (x.1:Int)) rfl) ⟨_,rfl,_,_,rfl,rfl,_,rfl,?_⟩⟩;refine zp (fun h=>?_) (fun h=>?_)
   . refine ⟨_,rfl,XD (nU.of hp) (bw (j:=1) (v:=V.int (x.2:Int)) rfl) ⟨_,_,rfl,rfl,?_⟩⟩
     rw [h,Bool.true_and] at k;exact k
   . rw [Bool.not_eq_true] at h
     rw [h,Bool.false_and] at k;exact k
def WV:Sp:=fun vs H Q _=>∃ (r m:Nat),vs=[.int (r:Int),.int (m:Int)]/\Q (.bl (Fk.ringFits r (m != 0))) H
theorem UK:aQ ["said","least_ring"] ["said","least_ring"] (aF xw):=lT (by decide +kernel)
theorem MC (T:Txt K mg t):bF P w K mg base mL 1 t.kQ t.pA ["said","least_ring"] WV:=by
 obtain ⟨tk0,g0⟩:=T.E7;obtain ⟨NN,g1⟩:=T.HP;obtain ⟨XF,g2⟩:=T.yI;refine T.lu.ok UK (fun vs H Q E h=>?_) (fun cdv A outer s H vs Q E hr h=>?_)
 . obtain ⟨r,b,rfl,_⟩:=h
   rfl
 . obtain ⟨r,m,rfl,k⟩:=h
   refine ⟨_,az (bc (Xw (e9 nV (pv 0) (aV rfl g0 (v:=.int 0) ⟨_,rfl⟩) (cg _)) (uR (e9 nV (e9 vU (pv 1) (aV rfl g2 (v:=.int 0) ⟨_,rfl⟩) (cg _)) (e9 nV (pv 0) (aV rfl g1 (v:=.int 1) ⟨_,rfl⟩) (cg _)) (cg _))))),?_⟩;refine ⟨_,rfl,rfl,_,rfl,?_⟩;refine UI (decide (V.bl (!decide (V.int (m:Int)=V.int 0))=V.bl (decide (V.int (r:Int)=V.int 1)))) ?_ ?_
   . exact fun Qf q=>⟨_,rfl,rfl,_,rfl,rfl,rfl,q⟩
   . have e:(decide (V.int (r:Int)=V.int 0)||decide (V.bl (!decide (V.int (m:Int)=V.int 0))=V.bl (decide (V.int (r:Int)=V.int 1))))=Fk.ringFits r (m != 0):=by
       rw [show (V.int 0)=V.int ((0:Nat):Int) from rfl,show (V.int 1)=V.int ((1:Nat):Int) from rfl,oU,Cu,oU,UH];unfold Fk.ringFits;cases (m != 0)<;>cases (r==1)<;>rfl
     rw [e];exact k
def UL:Sp:=fun vs H Q _=>∃ (s h:Nat),vs=[.int (s:Int),.int (h:Int)]/\Q (.bl (iJ s h)) H
theorem Rq:aQ ["said","told"] ["said","told"] (aF nt):=lT (by decide +kernel)
theorem Ie (T:Txt K mg t):bF P w K mg base mL 1 t.eG t.iY ["said","told"] UL:=by
 obtain ⟨tk0,g0⟩:=T.E7;obtain ⟨NN,g1⟩:=T.tK;refine T.eN.ok Rq (fun vs H Q E h=>?_) (fun cdv A outer s H vs Q E hr h=>?_)
 . obtain ⟨r,b,rfl,_⟩:=h
   rfl
 . obtain ⟨s,h,rfl,k⟩:=h
   refine ⟨_,az (bc (Xw (e9 nV (pv 0) (aV rfl g0 (v:=.int 0) ⟨_,rfl⟩) (cg _)) (uR (e9 nV (e9 nV (pv 1) aN (cg _)) (e9 nV (pv 0) (aV rfl g1 (v:=.int 3) ⟨_,rfl⟩) (cg _)) (cg _))))),?_⟩;refine ⟨_,rfl,rfl,_,rfl,?_⟩;refine UI (decide (V.bl (decide (V.int (h:Int)=V.int 0))=V.bl (decide (V.int (s:Int)=V.int 3)))) ?_ ?_
   . exact fun Qf q=>⟨_,rfl,rfl,_,rfl,rfl,rfl,q⟩
   . have e:(decide (V.int (s:Int)=V.int 0)||decide (V.bl (decide (V.int (h:Int)=V.int 0))=V.bl (decide (V.int (s:Int)=V.int 3))))=iJ s h:=by
       rw [show (V.int 0)=V.int ((0:Nat):Int) from rfl,show (V.int 3)=V.int ((3:Nat):Int) from rfl,oU,oU,oU,UH];rfl
     rw [e];exact k
def vK (h:Nat) (o:Bool):Nat:=if o=true then 3 - h else h
def UM:Sp:=fun vs H Q _=>∃ (h:Nat) (o:Bool),vs=[.int (h:Int),.bl o]/\h<=3/\Q (.int (vK h o:Int)) H
theorem Rr:aQ ["hand_or_side","other"] ["hand_or_side","other"] (aF BL):=lT (by decide +kernel)
theorem Ig (T:Txt K mg t):bF P w K mg base mL 1 t.oF t.uz ["hand_or_side","other"] UM:=by
 refine T.oH.ok Rr (fun vs H Q E h=>?_) (fun cdv A outer s H vs Q E hr h=>?_)
 . obtain ⟨r,b,rfl,_⟩:=h
   rfl
 . obtain ⟨h,o,rfl,hh,k⟩:=h
   refine ⟨_,az (bc (DV (jl (pv 1)) (gU wU aN (pv 0)) (pv 0))),?_⟩;refine ⟨_,rfl,_,rfl,?_⟩;cases o with
   | true=>
     refine qP ⟨_,rfl,_,_,rfl,rfl,?_⟩;have e:((vK h true:Nat):Int)=3 - (h:Int):=by unfold vK;simp;omega
     rw [e] at k;exact k
   | false=>exact p6 ⟨_,rfl,k⟩
end
theorem Of (a b:Nat):Builtin.bitAnd (a:Int) (b:Int)=((a &&& b:Nat):Int):=by
 unfold Builtin.bitAnd;rfl
theorem Rt (a b:Nat):Builtin.bitOr (a:Int) (b:Int)=((a ||| b:Nat):Int):=by
 have n1:∀ x:Int,Builtin.bitNot (Builtin.bitNot x)=x:=fun x=>by unfold Builtin.bitNot;omega
 have n2:∀ x:Nat,decide (0<=Builtin.bitNot (x:Int))=false:=fun x=>decide_eq_false (by unfold Builtin.bitNot;omega);unfold Builtin.bitOr Builtin.bitAnd;rw [n2,n2];simp only [n1];rfl
def Fz (z:PBond) (d:Nat):Bool:=if z.how=1 then decide (d ||| z.orders=z.orders) else decide (d &&& z.orders ≠ 0)
def fX:List Int->Nat
 | []=>0
 | x::l=>(l.filter fun y=>decide (y < x)).length+fX l
theorem CV:∀ (l:List Int) (z:Int),fX (l++[z])=fX l+(l.filter fun x=>decide (z < x)).length
 | [],z=>by simp [fX]
 | x::l,z=>by
   have ih:=CV l z
   rw [List.cons_append,fX,ih,fX,List.filter_append,List.length_append,List.filter_cons]
   by_cases h:z < x
   . simp [h];omega
   . simp [h];omega
theorem zX {f:Int->Int}:∀ (l:List Int),(∀ x ∈ l,∀ y ∈ l,f x < f y ↔ x < y)->fX (l.map f)=fX l
 | [],_=>rfl
 | x::l,h=>by
  rw [List.map_cons,fX,fX,zX l fun a ha b hb=>h a (by simp [ha]) b (by simp [hb]),List.filter_map,List.length_map]
  congr 2
  refine List.filter_congr fun y hy=>?_
  simp [h y (by simp [hy]) x (by simp)]
def placeOf (A:List Int) (x:Int):Nat:=(A.findIdx? fun z=>z==x).getD 0
theorem placeOf_some {A:List Int} {x:Int} (h:x ∈ A):∃ hlt:placeOf A x < A.length,A[placeOf A x]=x/\∀ m (hm:m < placeOf A x),A[m]'(Nat.lt_trans hm hlt) ≠ x:=by
 have hs:(A.findIdx? fun z=>z==x).isSome=true:=by
  rw [List.findIdx?_isSome,List.any_eq_true];exact ⟨x,h,by simp⟩
 obtain ⟨k,hk⟩:=Option.isSome_iff_exists.mp hs;have e:placeOf A x=k:=by unfold placeOf;rw [hk];rfl
 obtain ⟨h1,h2,h3⟩:=List.findIdx?_eq_some_iff_getElem.mp hk;subst e;exact ⟨h1,beq_iff_eq.mp h2,fun m hm q=>by
  have:=h3 m hm;simp [q] at this⟩
theorem K1 {A:List Int} (pw:A.Pairwise (· < ·)) {x y:Int} (hx:x ∈ A) (hy:y ∈ A):(placeOf A x:Int) < (placeOf A y:Int) ↔ x < y:=by
 obtain ⟨h1,e1,_⟩:=placeOf_some hx;obtain ⟨h2,e2,_⟩:=placeOf_some hy;have p:=List.pairwise_iff_getElem.mp pw;constructor
 . intro h
   have:=p _ _ h1 h2 (by omega);omega
 . intro h
   rcases Nat.lt_trichotomy (placeOf A x) (placeOf A y) with q | q | q
   . omega
   . have e3:A[placeOf A x]=A[placeOf A y]:=by simp only [q]
     omega
   . have:=p _ _ h2 h1 q
     omega
theorem Pj (a b:Int):RJ (.int a) (.int b)=(a==b):=rfl
theorem WW (l:List Int):(vI l).all sW=true:=by
 unfold vI;rw [List.all_map,List.all_eq_true];intro x _;rfl
theorem MD {l:List Int} {i:Nat} {x:V} (h:(vI l)[i]?=some x):∃ v,l[i]?=some v/\x=.int v:=by
 unfold vI at h;rw [List.getElem?_map] at h;cases q:l[i]? with
 | none=>rw [q] at h;cases h
 | some v=>rw [q] at h;exact ⟨v,rfl,(Option.some.inj h).symm⟩
theorem ue (l:List Int):(vI l).length=l.length:=by simp [vI]
theorem K2 (l:List Int) (x:Int):vI (l++[x])=vI l++[.int x]:=by simp [vI]
theorem UN {xs:List V} {k:Nat} (h:k<=xs.length):IG xs none (some (k:Int))=xs.take k:=by
 unfold IG HT.K8;have:¬ ((k:Int) < 0):=by omega
 simp [this,Nat.min_eq_left h]
section
theorem Ru {X:Cx} {K0:Zqq} (hK:X.K=K0):MtR X "list.index" (Sv K0):=by
 subst hK;exact Sw
def ZF (t:Ad):Sp:=fun vs H Q _=>∃ (o dx:Addr) (z:PBond) (d:Nat),vs=[.ref o,.int (d:Int)]/\H o=some (.ins t.aP dx (bfs z))/\Q (.bl (Fz z d)) H
theorem WX:aQ ["said","drawn"] ["said","drawn"] (aF vc):=lT (by decide +kernel)
theorem WY (T:Txt K mg t):bF P w K mg base mL 1 t.jO t.n8 ["said","drawn"] (ZF t):=by
 obtain ⟨NN,g1⟩:=T.oQ;refine T.lI.ok WX (fun vs H Q E h=>?_) (fun cdv A outer s H vs Q E hr h=>?_)
 . obtain ⟨o,dx,z,d,rfl,_⟩:=h
   rfl
 . obtain ⟨o,dx,z,d,rfl,ho,k⟩:=h
   refine ⟨_,ak (kK (d9 nV (aA (pv 0) rfl) (aV rfl g1 (v:=.int 1) ⟨_,rfl⟩) (cg _)) (az (bc (e9 nV (gU Xz (pv 1) (aA (pv 0) rfl)) (aA (pv 0) rfl) (cg _)))) ee)
     (az (bc (e9 vU (gU Yw (pv 1) (aA (pv 0) rfl)) aN (cg _)))),?_⟩
   refine ⟨_,rfl,fld ho T.aZ T.jB rfl ⟨rfl,_,rfl,?_⟩⟩;unfold Fz at k;refine zp (fun c=>?_) (fun c=>?_)
   . have h1:z.how=1:=by
       rw [show (V.int 1)=V.int ((1:Nat):Int) from rfl,oU] at c;exact beq_iff_eq.mp c
     rw [if_pos h1] at k;refine ⟨_,rfl,_,rfl,fld ho T.aZ T.cQ rfl ⟨_,_,rfl,rfl,_,rfl,fld ho T.aZ T.cQ rfl ⟨rfl,?_⟩⟩⟩;show Q (.bl (decide (V.int (Builtin.bitOr (d:Int) (z.orders:Int))=V.int (z.orders:Int)))) H;rw [Rt,oU];have e:((d ||| z.orders)==z.orders)=decide (d ||| z.orders=z.orders):=by rw [Bool.eq_iff_iff];simp
     rw [e];exact k
   . have h1:¬ z.how=1:=fun q=>c (by rw [show (V.int 1)=V.int ((1:Nat):Int) from rfl,oU,q];rfl)
     rw [if_neg h1] at k;refine ⟨_,rfl,_,rfl,fld ho T.aZ T.cQ rfl ⟨_,_,rfl,rfl,rfl,?_⟩⟩;show Q (.bl (!decide (V.int (Builtin.bitAnd (d:Int) (z.orders:Int))=V.int 0))) H;rw [Of,show (V.int 0)=V.int ((0:Nat):Int) from rfl,Cu];have e:((d &&& z.orders) != 0)=decide (d &&& z.orders ≠ 0):=by rw [Bool.eq_iff_iff];simp
     rw [e];exact k
def abi:Sp:=fun vs H Q _=>∃ (a b:Addr) (A B:List Int),vs=[.ref a,.ref b]/\H a=some (.lst (vI A))/\H b=some (.lst (vI B))/\A.Pairwise (· < ·)/\(∀ x ∈ B,x ∈ A)/\B.length<=1000/\∀ H',aS H H'->Q (.bl (fX B % 2==1)) H'
theorem vM:aQ ["row","exchanged","places","crossings","k","place","atom","before"] ["row","exchanged"] (aF nv):=lT (by decide +kernel)
theorem ZG {X:Cx} {K0:Zqq} (hK:X.K=K0) {T name id:String} {r:V->List V->Hp->VK->Prop} {o e:Expr} {es:List Expr} {apos cpos:Pos} {to:TE} {t:TA} (pa:PlainAttrs T) (slot:Slot T name id) (hty:typeOf (.builtin id)=pure (.type "method_descriptor")) (hm:MtR X id r) (ho:PE X o to) (ha:PA X (e::es) t)
   (hbase:attributeBase o name X.env (eval o X.env)=eval o X.env:=by rfl)
   (hfew:((backTo cpos (starEach (e::es) X.env)).all (fun x=>!x.1)&&(backToKw cpos (keywordEach [] X.env)).all (fun x=>x.1.isSome)
    &&decide ((e::es).length+([]:List Keyword).length+(if ([]:List Keyword).isEmpty then 0 else 1) < 30))=true:=by rfl)
   (hline:(apos.endLine==cpos.line)=true:=by rfl) (hs:starEach (e::es) X.env=(false,eval e X.env)::starEach es X.env:=by rfl) (hplain:(backTo cpos (starEach es X.env)).any (·.1)=false:=by rfl) :
   PE X (.Call (.Attribute o name apos) (e::es) [] cpos) (tBM K0 T r to t):=by
 subst hK;exact uq pa slot hty hm ho ha hbase hfew hline hs hplain
theorem ZH (T:Txt K mg t):bF P w K mg base mL 1 t.eK t.iZ ["row","exchanged"] abi:=by
 refine T.fZ.ok vM (fun vs H Q E h=>?_) (fun cdv A outer s H vs Q E hr h=>?_)
 . obtain ⟨a,b,A,B,rfl,_⟩:=h
   rfl
 . obtain ⟨a,b,R,B,rfl,ha,hb,pw,sub,hlen,k⟩:=h
   refine ⟨_,ak (xg (i:=2) rfl vM.nd rfl rfl rfl (gD (pv 1)) (jv (own:=[("atom",6)]) rfl) (fun _ _ _ _ _=>bu (i:=6) vM.nd rfl (Or.inl rfl)) (fun _ _ _ _ _=>Ae)
       (fun _ _ _ _ _=>ZG (K0:=K) rfl PySem.F.plainAttrs_list PySem.F.slot_list_index PySem.F.type_list_index (Ru (K0:=K) rfl) (pv 0) (af (pv 6) au)))
     (ak (aR (i:=3) vM.nd rfl (Or.inl rfl) aN)
     (ak (fj PassesOwn.never rfl (sZ rfl T.jk (af (pv 2) au)) (wR rfl (gn (bu (i:=4) vM.nd rfl (Or.inl rfl)) (gn (bu (i:=5) vM.nd rfl (Or.inr rfl)) sV)))
       (az (RU (i:=3) vM.nd rfl (Or.inl rfl) (c6 bx (by rfl) T.kG PySem.boot_len (af (C4 rfl vM.nd (gD (KN O7 (pv 2) O3 (O4 (pv 4)))) (jv (own:=[("before",7)]) rfl) (fun _ _ _ _ _=>bu (i:=7) vM.nd rfl (Or.inl rfl))
         (fun _ _ _ _ _=>sY (d9 O0 (pv 7) (pv 5) (cg _))) (fun _ _ _ _ _=>pv 7)) au)) IB)))
     (az (bc (e9 nV (gU Yv (pv 3) aN) aN (cg _)))))),?_⟩
   refine ⟨_,rfl,b,rfl,⟨_,bI.of hb⟩,fun l hl=>?_⟩;refine mY (K:=K) (a:=b) (xs:=vI B) (fun i H'=>aS H H'/\H' l=some (.lst (vI ((B.take i).map fun x=>(placeOf R x:Int))))) ⟨aK hl,ai⟩ (fun i H' _ ⟨sm,_⟩=>bI.of (sm _ _ hb)) ?_ ?_
   . rintro i x H' hx ⟨sm,hl'⟩
     obtain ⟨v,hv,rfl⟩:=MD hx;have hi:i < B.length:=(List.getElem?_eq_some_iff.mp hv).1;obtain ⟨h1,h2,h3⟩:=placeOf_some (sub v (List.mem_of_getElem? hv));refine ⟨rfl,_,rfl,.inl ⟨rfl,_,bI.of (sm _ _ ha)⟩,_,rfl,a,_,_,placeOf R v,.int v,rfl,rfl,bI.of (sm _ _ ha),rfl,WW R,sE (by rw [List.getElem?_eq_getElem h1,h2]),by rw [Pj];simp,fun m z' hm hz=>?_,?_⟩
     . obtain ⟨u,hu,rfl⟩:=MD hz
       obtain ⟨hm1,hm2⟩:=List.getElem?_eq_some_iff.mp hu;rw [Pj];have:=h3 m hm;rw [hm2] at this;exact beq_eq_false_iff_ne.mpr this
     . refine ⟨_,hl',by rw [ue,List.length_map,List.length_take,sizeLine_eq];omega,fun q u e=>by rw [aq (ay e hl)];exact sm q u e,?_⟩
       rw [ai,take_snoc hv,List.map_append,<- K2];rfl
   . rintro H1 ⟨s1,hl1⟩
     rw [ue,List.take_length] at hl1;generalize hL:(B.map fun x=>(placeOf R x:Int))=L at hl1;have Ll:L.length<=1000:=by rw [<- hL,List.length_map];exact hlen
     have eF:fX L=fX B:=by
       rw [<- hL];exact zX B fun x hx y hy=>K1 pw (sub x hx) (sub y hy)
     refine ⟨_,rfl,l,vI L,rfl,bI.of hl1,?_⟩;let wN:L2.Iv:=fun i σ H'=>∃ v4 v5,σ=[some (.ref a),some (.ref b),some (.ref l),some (.int (fX (L.take i):Int)),v4,v5,none,none]/\aS H1 H';refine pQ (K:=K) (a:=l) (xs:=vI L) wN ⟨none,none,rfl,aS.refl _⟩ (fun i σ H' _ ⟨_,_,_,sm⟩=>bI.of (sm _ _ hl1)) ?_ ?_
     . rintro i x σ H' Tt hx ⟨v4,v5,rfl,sm⟩ hT
       obtain ⟨v,hv,rfl⟩:=MD hx;have hi:i < L.length:=(List.getElem?_eq_some_iff.mp hv).1;have sT:aS H1 (upd H' Tt (.tup [.int (i:Int),.int v])):=sm.trans (aK hT);refine ⟨Tt,_,rfl,nU.of ai,rfl,_,_,rfl,_,_,rfl,rfl,?_⟩;refine ⟨_,rfl,_,rfl,_,rfl,_,rfl,l,_,rfl,bI.of (sT _ _ hl1),fun p hp=>?_⟩;rw [UN (by rw [ue];omega),show (vI L).take i=vI (L.take i) by unfold vI;rw [List.map_take]];have sp:aS H1 (upd (upd H' Tt (.tup [.int (i:Int),.int v])) p (.lst (vI (L.take i)))):=sT.trans (aK hp);refine ⟨p,rfl,⟨_,bI.of ai⟩,fun D hD=>?_⟩;have pD:p ≠ D:=fun z=>by rw [<- z,ai] at hD;cases hD
       have sD:=sp.trans (aK (o:=.lst []) hD);refine mY (K:=K) (a:=p) (xs:=vI (L.take i)) (fun j H2=>aS H1 H2/\H2 p=some (.lst (vI (L.take i)))/\H2 D=some (.lst (vI (((L.take i).take j).filter fun x=>decide (v < x))))) ⟨sD,by rw [aq pD];exact ai,ai⟩ (fun j H2 _ h=>bI.of h.2.1) ?_ ?_
       . rintro j x H2 Ud ⟨s2,hp2,UO⟩
         obtain ⟨u,hu,rfl⟩:=MD Ud;have nD:H1 D=none:=sp.free hD;refine ⟨rfl,_,rfl,_,rfl,_,_,rfl,rfl,_,rfl,?_⟩;refine zp (fun c=>?_) (fun c=>?_)
         . refine ⟨_,rfl,_,UO,?_,fun q z e=>by rw [aq (ay e nD)];exact s2 q z e,by rw [aq pD];exact hp2,?_⟩
           . have q1:=List.length_filter_le (fun x=>decide (v < x)) ((L.take i).take j)
             rw [List.length_take,List.length_take] at q1;rw [ue,sizeLine_eq];omega
           . rw [ai,take_snoc hu,List.filter_append,<- K2]
             simp only [List.filter_cons,c,if_true,List.filter_nil]
         . refine ⟨s2,hp2,?_⟩
           rw [take_snoc hu,List.filter_append,UO];simp [c]
       . rintro H2 ⟨s2,hp2,UO⟩
         rw [ue,List.take_length] at UO;refine ⟨D,_,rfl,.inl (bI.of UO),?_⟩;refine ⟨_,_,rfl,rfl,?_⟩;refine ⟨some (.int (i:Int)),some (.int v),?_,s2⟩;rw [take_snoc hv,CV,ue,Int.natCast_add];rfl
     . rintro σ H2 ⟨v4,v5,rfl,sm⟩
       rw [ue,List.take_length,eF];refine ⟨_,rfl,_,_,rfl,rfl,(by show (0:Int) < 2;decide),rfl,?_⟩;have e:decide (V.int ((fX B:Int) % 2)=V.int 1)=(fX B % 2==1):=by
         rw [show (fX B:Int) % 2=((fX B % 2:Nat):Int) by omega,show (V.int 1)=V.int ((1:Nat):Int) from rfl,oU]
       show Q (.bl (decide (V.int ((fX B:Int) % 2)=V.int 1))) H2;rw [e];exact k H2 (s1.trans sm)
end
def sfs (gp g lb la:Addr):List (Str×V):=[("pattern",.ref gp),("molecule",.ref g),("bond_rings",.ref lb),("atom_rings",.ref la)]
structure uM where
 la:Addr
 lb:Addr
 lr:Addr
 as:List V
 us:List V
 rs:List Addr
structure B7 (K:Zqq) (t:Ad) (D:Addr->Prop) (H:Hp) (q gp g lb la:Addr) (pz:uM) (p:bz) (z:kH) (y:aB):Prop where
 obj:∃ dx,H q=some (.ins t.aX dx (sfs gp g lb la))
 pat:By K t D H gp pz.la pz.lb pz.lr pz.as pz.us pz.rs p
 mol:mV t D H g z y
 good:gc y
 rb:H lb=some (.lst (vN (rB y)))
 ra:H la=some (.lst (vN (rA y)))
section
theorem B7.same {D:Addr->Prop} {H H':Hp} {q gp g lb la:Addr} {pz:uM} {p:bz} {z:kH} {y:aB} (S:B7 K t D H q gp g lb la pz p z y) (f:aS H H'):B7 K t D H' q gp g lb la pz p z y:=
 ⟨let ⟨dx,e⟩:=S.obj;⟨dx,f _ _ e⟩,S.pat.same f,S.mol.same f,S.good,f _ _ S.rb,f _ _ S.ra⟩
def WZ (t:Ad):Sp:=fun vs H Q _=>∃ (q dx gp g:Addr) (z:kH) (y:aB) (D:Addr->Prop) (H0:Hp),vs=[.ref q,.ref gp,.ref g]/\H q=some (.ins t.aX dx [])/\aS H0 H/\H0 q=none/\mV t D H0 g z y/\gc y /\
 ∀ H' lb la,aS H0 H'->H' q=some (.ins t.aX dx (sfs gp g lb la))->H' lb=some (.lst (vN (rB y)))->H' la=some (.lst (vN (rA y)))->Q .non H'
theorem UQ:aQ ["self","pattern","molecule"] ["self","pattern","molecule"] (aF tV):=lT (by decide +kernel)
theorem UR (T:Txt K mg t):bF P w K mg base mL 3 t.gJ t.lV ["self","pattern","molecule"] (WZ t):=by
 have GB:=@abe P w K mg base t T;have GA:=@abf P w K mg base t T;refine T.lX.ok UQ (fun vs H Q E h=>?_) (fun cdv A outer s H vs Q E hr h=>?_)
 . obtain ⟨q,dx,gp,g,z,y,D,H0,rfl,_⟩:=h
   rfl
 . obtain ⟨q,dx,gp,g,z,y,D,H0,rfl,h0,s0,nq,M,gy,k⟩:=h
   have hr1:dG 1 _:=hr.mono (by decide);refine ⟨_,ak (ck (pv 0) (pv 1) rfl) (ak (ck (pv 0) (pv 2) rfl) (ak (ck (pv 0) (b4 GB hr rfl T.oh T.cX.kp T.nY .nil bE (af (pv 2) au)) rfl)
     (az (ck (pv 0) (b4 GA hr1 rfl T.oj T.cY.kp T.nZ .nil bE (af (pv 2) (af (aA (pv 0) rfl) au))) rfl)))),?_⟩
   refine ⟨_,rfl,_,rfl,q,_,dx,_,rfl,h0,T.bB,T.dU,(by show 0 < 1000;decide),?_⟩;refine ⟨_,rfl,_,rfl,q,_,dx,_,rfl,ai,T.bB,T.bh,(by show 1 < 1000;decide),?_⟩;rw [mW];have keep:∀ {Hx:Hp} (u:HO),aS H0 Hx->aS H0 (upd Hx q u):=fun {Hx} u sm b v e=>by rw [aq (ay e nq)];exact sm b v e
   have s1:aS H0 (upd H q (.ins t.aX dx (gf "molecule" (.ref g) (gf "pattern" (.ref gp) [])))):=keep _ s0;refine ⟨_,rfl,?_⟩;refine ⟨g,z,y,D,rfl,M.same s1,gy,fun H2 lb s2 nlb hlb=>?_⟩;have e2:=s2 _ _ (ai (H:=H) (a:=q));refine ⟨_,rfl,q,_,dx,_,rfl,e2,T.bB,T.eX,(by show 2 < 1000;decide),?_⟩;have s3:=keep (.ins t.aX dx (gf "bond_rings" (.ref lb) (gf "molecule" (.ref g) (gf "pattern" (.ref gp) [])))) (s1.trans s2);have Xa:upd H2 q (.ins t.aX dx (gf "bond_rings" (.ref lb) (gf "molecule" (.ref g) (gf "pattern" (.ref gp) [])))) lb=some (.lst (vN (rB y))):=by
     rw [aq (fun z=>by rw [z,e2] at hlb;cases hlb)];exact hlb
   refine ⟨_,rfl,_,rfl,fld ai T.bB T.eX rfl ?_⟩;refine ⟨g,lb,z,y,D,rfl,M.same s3,gy,Xa,fun H4 la s4 nla hla=>?_⟩;have e4:=s4 _ _ (ai (H:=H2) (a:=q));refine ⟨_,rfl,q,_,dx,_,rfl,e4,T.bB,T.gC,(by show 3 < 1000;decide),?_⟩;refine k _ lb la (keep _ (s3.trans s4)) ai ?_ ?_
   . rw [aq (fun z=>by rw [z,ai] at Xa;cases Xa)]
     exact s4 _ _ Xa
   . rw [aq (fun z=>by rw [z,e4] at hla;cases hla)]
     exact hla
end
def Cv (y:aB) (x:PAtom) (v:Nat):Bool:=x.fits (aE y).sight v&&iJ x.hand ((aE y).atom v).hand
def nN (y:aB) (k:Nat):Nat:=match (aE y).bonds[k]? with
 | some x=>x.side
 | none=>0
def Rv (y:aB) (x:PBond) (k:Nat):Bool:=x.fits (aE y).sight k&&iJ x.side (nN y k)
theorem Xb {y:aB} (gy:gc y) {x:PBond} (hw:x.how<=1) {k:Nat} {c:Bond×Nat} (hc:y.2[k]?=some c) :
   Rv y x k=(Fz x (JM.iI (JM.Found (gQ (aE y)) (d8 (aE y)) k))&&(Fk.ringFits x.ring (abg y k)&&iJ x.side c.1.side)):=by
 have hk:k < (aE y).bonds.length:=(List.getElem?_eq_some_iff.mp (qF hc)).1;unfold Rv PBond.fits Fz nN;rw [qF hc,<- Bool.and_assoc];congr 2;show (if x.how=0 then ((aE y).mays.getD k []).any x.has else ((aE y).mays.getD k []).all x.has)=_;rw [JM.UG gy.good hk,JM.UE gy.good hk];by_cases h:x.how=0
 . rw [if_pos h,if_neg (by omega)]
 . rw [if_neg h,if_pos (by omega)]
theorem Cw {c:TT} (b:Bool) {t rest:TS} {D:Ends} {σ:L2.St} {H:Hp} (hc:∀ Q:Bool->Hp->Prop,Q b H->c σ H Q) (ht:b=true->t { D with nx:=rest D } σ H) (hu:b=false->rest D σ H):Ym (aae c t Xx) rest D σ H:=by
 refine hc _ ?_;cases b with
 | true=>exact qP (ht rfl)
 | false=>exact p6 (hu rfl)
section
def acr (K:Zqq) (t:Ad):Sp:=fun vs H Q _=>∃ (q o gp g lb la:Addr) (v:Nat) (pz:uM) (p:bz) (z:kH) (y:aB) (D D':Addr->Prop) (x:PAtom×Nat),vs=[.ref q,.ref o,.int (v:Int)]/\B7 K t D H q gp g lb la pz p z y/\Bh t.aO D' H (.ref o) x/\v < y.1.length/\Q (.bl (Cv y x.1 v)) H
theorem XX:aQ ["self","said","k","atom"] ["self","said","k"] (aF m8):=lT (by decide +kernel)
theorem abj (T:Txt K mg t):bF P w K mg base mL 2 t.cE t.gY ["self","said","k"] (acr K t):=by
 have GW:=@Rp P w K mg base t T;have GR:=@MC P w K mg base t T;have GT:=@Ie P w K mg base t T;obtain ⟨NN,g1⟩:=T.tY;refine T.i9.ok XX (fun vs H Q E h=>?_) (fun cdv A outer s H vs Q E hr h=>?_)
 . obtain ⟨q,o,gp,g,lb,la,v,pz,p,z,y,D,D',x,rfl,_⟩:=h
   rfl
 . obtain ⟨q,o,gp,g,lb,la,v,pz,p,z,y,D,D',x,rfl,S,rx,hv,k⟩:=h
   refine ⟨_,ak (aR (i:=3) XX.nd rfl (Or.inl rfl) (bV b9 (aA (aA (pv 0) rfl) rfl) (pv 2) (fun _ _=>rfl)))
     (ak (kK (PW.pt (o6 (d9 O0 (c6 bx (by rfl) T.kG PySem.boot_len (af (aA (pv 1) rfl) au)) aN (cg _)) (lF (d9 qA (aA (pv 3) rfl) (aA (pv 1) rfl) rfl)))) (az (bc qN)) ee)
     (ak (kK (PW.pt (o6 (d9 vU (aA (pv 1) rfl) (aV rfl g1 (v:=.int 501) ⟨_,rfl⟩) (cg _)) (lF (d9 vU (aA (pv 1) rfl) (aA (pv 3) rfl) (cg _))))) (az (bc qN)) ee)
     (ak (kK (uQ (PW.pt (o6 (jl (b4 GW hr rfl T.xH T.nG.kp T.xA .nil bE (af (aA (pv 3) rfl) (af (aA (pv 1) rfl) au)))) (lF (jl (b4 GW hr rfl T.xH T.nG.kp T.xA .nil bE (af (aA (pv 3) rfl) (af (aA (pv 1) rfl) au)))))))) (az (bc qN)) ee)
     (ak (kK (uQ (jl (b4 GW hr rfl T.xH T.nG.kp T.xA .nil bE (af (c6 bx (by rfl) T.kG PySem.boot_len (af (bV b9 (aA (aA (pv 0) rfl) rfl) (pv 2) (fun _ _=>rfl)) au)) (af (aA (pv 1) rfl) au))))) (az (bc qN)) ee)
     (ak (kK (uQ (jl (b4 GW hr rfl T.xH T.nG.kp T.xA .nil bE (af (bV b9 (aA (aA (pv 0) rfl) rfl) (pv 2) (fun _ _=>rfl)) (af (aA (pv 1) rfl) au))))) (az (bc qN)) ee)
     (az (bc (wO (b4 GR hr rfl T.xJ T.lu.kp T.xB .nil bE (af (aA (pv 1) rfl) (af (bV b9 (aA (pv 0) rfl) (pv 2) (fun _ _=>rfl)) au)))
       (uR (b4 GT hr rfl T.nJ T.eN.kp T.nI .nil bE (af (aA (pv 1) rfl) (af (aA (pv 3) rfl) au)))))))))))),?_⟩
   obtain ⟨dq,eq⟩:=S.obj;obtain ⟨dg,eg⟩:=S.mol.obj;have gy:=S.good;obtain ⟨a,ha⟩:∃ a,y.1[v]?=some a:=⟨_,List.getElem?_eq_getElem hv⟩;obtain ⟨va,U1⟩:∃ u,z.as[v]?=some u:=⟨_,List.getElem?_eq_getElem (by rw [S.mol.ra.len];exact hv)⟩;obtain ⟨oa,dxa,rfl,_,rep⟩:=S.mol.ra.at_ v va a U1 ha;obtain ⟨o',dx,ln,tc,th,tn,tt,e0,R⟩:=rx;cases e0;have ea:(aE y).atom v=a.1:=by
     unfold Mol.atom aE;simp [List.getD,ha]
   have bnd:=gy.atm a (List.mem_of_getElem? ha);obtain ⟨ra,zS⟩:∃ ra,z.rs[v]?=some ra:=⟨_,List.getElem?_eq_getElem (by rw [S.mol.rows.len,S.mol.ra.len];exact hv)⟩;have hA:=S.mol.rows.at_ _ _ zS;have e1:(z.rs.map V.ref)[v]?=some (V.ref ra):=by rw [List.getElem?_map,zS];rfl
   have ec:a.1.charge+4=(((a.1.charge+4).toNat:Nat):Int):=by omega
   have hsum:(vI (gQ (aE y)))[v]?=some (.int ((aE y).sum v:Int)):=sE (JM.yM (by rw [yw];exact hv));have rO:∀ l:List Nat,(vN l).length=l.length:=fun l=>by simp [vN]
   have fit:Cv y x.1 v=((x.1.elements.isEmpty||x.1.elements.contains a.1.element)&&((x.1.isotope==501||x.1.isotope==a.1.isotope)&&(Fk.between x.1.charge (a.1.charge+4).toNat&&(Fk.between x.1.hydrogens a.1.hydrogens&&(Fk.between x.1.beside ((aE y).beside v).length&&(Fk.between x.1.sum ((aE y).sum v)&&(Fk.ringFits x.1.ring (abh y v)&&iJ x.1.hand a.1.hand))))))):=by
     unfold Cv PAtom.fits;simp only [<- ea,Bool.and_assoc];rfl
   refine ⟨_,rfl,fld eq T.bB T.bh rfl (fld eg T.aY T.bT rfl ⟨_,rfl,tT (bI.of S.mol.atoms) (bw U1) ?_⟩)⟩;dsimp only [Hq];rw [fit] at k;refine Cw (!(x.1.elements.isEmpty||x.1.elements.contains a.1.element)) (fun Qf hq=>?_) (fun h=>?_) (fun h=>?_)
   . refine ⟨_,rfl,fld R.obj T.b5 T.fH rfl ⟨ln,_,rfl,.inl (bI.of R.nam),_,_,rfl,rfl,_,rfl,?_⟩⟩
     by_cases he:x.1.elements=[]
     . rw [he] at hq ⊢
       exact hq
     . have d0:decide ((0:Int) < ((vN x.1.elements).length:Int))=true:=decide_eq_true (by
         rw [rO];have:=List.length_pos_iff.mpr he;omega)
       rw [d0];refine qP ?_;refine ⟨_,rfl,fld rep T.mH T.l9 rfl ⟨_,rfl,fld R.obj T.b5 T.fH rfl ⟨ln,_,rfl,.inl (bI.of R.nam),rfl,Kw _,_,rfl,?_⟩⟩⟩;show Qf (!KP (.int (a.1.element:Int)) (vN x.1.elements)) H;rw [UB];have em:x.1.elements.isEmpty=false:=by
         cases hx:x.1.elements with
         | nil=>exact absurd hx he
         | cons _ _=>rfl
       rw [em,Bool.false_or] at hq;exact hq
   . rw [Bool.not_eq_true'] at h
     rw [h,Bool.false_and] at k;exact k
   rw [Bool.not_eq_false'] at h;rw [h,Bool.true_and] at k;refine Cw (!(x.1.isotope==501||x.1.isotope==a.1.isotope)) (fun Qf hq=>?_) (fun h=>?_) (fun h=>?_)
   . refine ⟨_,rfl,fld R.obj T.b5 T.dQ rfl ⟨rfl,_,rfl,?_⟩⟩
     rw [show (V.int 501)=V.int ((501:Nat):Int) from rfl,Cu];cases h5:(x.1.isotope==501) with
     | true=>
       rw [bne,h5];rw [h5] at hq;exact p6 hq
     | false=>
       rw [bne,h5];refine qP ?_;refine ⟨_,rfl,fld R.obj T.b5 T.dQ rfl ⟨_,rfl,fld rep T.mH T.lA rfl ⟨rfl,_,rfl,?_⟩⟩⟩;rw [Cu];rw [h5,Bool.false_or] at hq;exact hq
   . rw [Bool.not_eq_true'] at h
     rw [h,Bool.false_and] at k;exact k
   rw [Bool.not_eq_false'] at h;rw [h,Bool.true_and] at k;refine Cw (!(Fk.between x.1.charge (a.1.charge+4).toNat&&Fk.between x.1.hydrogens a.1.hydrogens)) (fun Qf hq=>?_) (fun h=>?_) (fun h=>?_)
   . refine ⟨_,rfl,fld rep T.mH T.lZ rfl ⟨_,rfl,fld R.obj T.b5 T.gB rfl ?_⟩⟩
     refine ⟨(a.1.charge+4).toNat,tc,x.1.charge,by rw [<- ec];rfl,R.cha,_,rfl,?_⟩;cases hb:Fk.between x.1.charge (a.1.charge+4).toNat with
     | false=>
       rw [hb,Bool.false_and] at hq;exact p6 hq
     | true=>
       rw [hb,Bool.true_and] at hq;refine qP ?_;refine ⟨_,rfl,fld rep T.mH T.fJ rfl ⟨_,rfl,fld R.obj T.b5 T.eO rfl ?_⟩⟩;exact ⟨a.1.hydrogens,th,x.1.hydrogens,rfl,R.hyd,_,rfl,hq⟩
   . rw [Bool.not_eq_true'] at h
     rw [<- Bool.and_assoc,h,Bool.false_and] at k;exact k
   rw [Bool.not_eq_false'] at h;rw [<- Bool.and_assoc,h,Bool.true_and] at k;refine Cw (!(Fk.between x.1.beside ((aE y).beside v).length)) (fun Qf hq=>?_) (fun h=>?_) (fun h=>?_)
   . refine ⟨_,rfl,fld eq T.bB T.bh rfl (fld eg T.aY T.b8 rfl ⟨_,rfl,tT (bI.of S.mol.rows.lst) (bw e1) ⟨ra,_,rfl,.inl (bI.of hA),_,rfl,fld R.obj T.b5 T.dS rfl ?_⟩⟩)⟩
     exact ⟨((aE y).beside v).length,tn,x.1.beside,by rw [gy.beside,rO];rfl,R.bes,_,rfl,hq⟩
   . rw [Bool.not_eq_true'] at h
     rw [h,Bool.false_and] at k;exact k
   rw [Bool.not_eq_false'] at h;rw [h,Bool.true_and] at k;refine Cw (!(Fk.between x.1.sum ((aE y).sum v))) (fun Qf hq=>?_) (fun h=>?_) (fun h=>?_)
   . refine ⟨_,rfl,fld eq T.bB T.bh rfl (fld eg T.aY T.iT rfl ⟨_,rfl,tT (bI.of S.mol.sums) (bw hsum) ⟨_,rfl,fld R.obj T.b5 T.iH rfl ?_⟩⟩)⟩
     exact ⟨(aE y).sum v,tt,x.1.sum,rfl,R.sum,_,rfl,hq⟩
   . rw [Bool.not_eq_true'] at h
     rw [h,Bool.false_and] at k;exact k
   rw [Bool.not_eq_false'] at h;rw [h,Bool.true_and] at k;refine ⟨_,rfl,fld R.obj T.b5 T.ji rfl ⟨_,rfl,fld eq T.bB T.gC rfl ⟨_,rfl,tT (bI.of S.ra) (bw (ZD hv)) ?_⟩⟩⟩;refine ⟨x.1.ring,UA y v,rfl,_,rfl,?_⟩;refine Kv (iJ x.1.hand a.1.hand) (fun Qf hq=>?_) k;refine ⟨_,rfl,fld R.obj T.b5 T.cV rfl ⟨_,rfl,fld rep T.mH T.lB rfl ?_⟩⟩;exact ⟨x.1.hand,a.1.hand,rfl,hq⟩
def acs (K:Zqq) (t:Ad):Sp:=fun vs H Q _=>∃ (q o gp g lb la:Addr) (k:Nat) (pz:uM) (p:bz) (z:kH) (y:aB) (D D':Addr->Prop) (x:PBond×Nat) (c:Bond×Nat),vs=[.ref q,.ref o,.int (k:Int)]/\B7 K t D H q gp g lb la pz p z y/\yi t.aP D' H (.ref o) x/\x.1.how<=1/\y.2[k]?=some c/\Q (.bl (Rv y x.1 k)) H
theorem abk:aQ ["self","said","k"] ["self","said","k"] (aF mC):=lT (by decide +kernel)
theorem abl (T:Txt K mg t):bF P w K mg base mL 2 t.cF t.gZ ["self","said","k"] (acs K t):=by
 have GO:=@WY P w K mg base t T;have GR:=@MC P w K mg base t T;have GT:=@Ie P w K mg base t T;refine T.iA.ok abk (fun vs H Q E h=>?_) (fun cdv A outer s H vs Q E hr h=>?_)
 . obtain ⟨q,o,gp,g,lb,la,v,pz,p,z,y,D,D',x,c,rfl,_⟩:=h
   rfl
 . obtain ⟨q,o,gp,g,lb,la,n,pz,p,z,y,D,D',x,c,rfl,S,rx,hw,hc,k⟩:=h
   refine ⟨_,ak (kK (uQ (jl (b4 GO hr rfl T.Aw T.lI.kp T.Aq .nil bE (af (pv 1) (af (bV b9 (aA (aA (pv 0) rfl) rfl) (pv 2) (fun _ _=>rfl)) au))))) (az (bc qN)) ee)
     (az (bc (wO (b4 GR hr rfl T.xJ T.lu.kp T.xB .nil bE (af (aA (pv 1) rfl) (af (bV b9 (aA (pv 0) rfl) (pv 2) (fun _ _=>rfl)) au)))
       (uR (b4 GT hr rfl T.nJ T.eN.kp T.nI .nil bE (af (aA (pv 1) rfl) (af (aA (bV b9 (aA (aA (pv 0) rfl) rfl) (pv 2) (fun _ _=>rfl)) rfl) au))))))),?_⟩
   obtain ⟨dq,eq⟩:=S.obj;obtain ⟨dg,eg⟩:=S.mol.obj;have gy:=S.good;obtain ⟨o',dx,e0,_,R⟩:=rx;cases e0;have hn:n < y.2.length:=(List.getElem?_eq_some_iff.mp hc).1;obtain ⟨vb,XN⟩:∃ u,z.us[n]?=some u:=⟨_,List.getElem?_eq_getElem (by rw [S.mol.rb.len];exact hn)⟩;obtain ⟨ob,dxb,rfl,_,rep⟩:=S.mol.rb.at_ n vb c XN hc;have hfo:(vI (Bw (gQ (aE y)) (d8 (aE y))))[n]?=some (.int (JM.iI (JM.Found (gQ (aE y)) (d8 (aE y)) n):Int)):=sE (mi (by rw [uH,List.length_map];exact hn));rw [Xb gy hw hc] at k;refine Cw (!(Fz x.1 (JM.iI (JM.Found (gQ (aE y)) (d8 (aE y)) n)))) (fun Qf hq=>?_) (fun h=>?_) (fun h=>?_)
   . refine ⟨_,rfl,_,rfl,fld eq T.bB T.bh rfl (fld eg T.aY T.gb rfl ⟨_,rfl,tT (bI.of S.mol.orders) (bw hfo) ?_⟩)⟩
     exact ⟨o,dx,x.1,_,rfl,R,_,rfl,hq⟩
   . rw [Bool.not_eq_true'] at h
     rw [h,Bool.false_and] at k;exact k
   rw [Bool.not_eq_false'] at h;rw [h,Bool.true_and] at k;refine ⟨_,rfl,fld R T.aZ T.jj rfl ⟨_,rfl,fld eq T.bB T.eX rfl ⟨_,rfl,tT (bI.of S.rb) (bw (Oc hn)) ?_⟩⟩⟩;refine ⟨x.1.ring,FW y n,rfl,_,rfl,?_⟩;refine Kv (iJ x.1.side c.1.side) (fun Qf hq=>?_) k;refine ⟨_,rfl,fld R T.aZ T.cW rfl ⟨_,rfl,fld eq T.bB T.bh rfl (fld eg T.aY T.cP rfl ⟨_,rfl,tT (bI.of S.mol.bonds) (bw XN) (fld rep T.gG T.lC rfl ?_)⟩)⟩⟩;exact ⟨x.1.side,c.1.side,rfl,hq⟩
def Hl (y:aB) (x:PAtom):List Nat:=(List.range y.1.length).filter (Cv y x)
def acu (K:Zqq) (t:Ad):Sp:=fun vs H Q _=>∃ (q o gp g lb la:Addr) (pz:uM) (p:bz) (z:kH) (y:aB) (D D':Addr->Prop) (x:PAtom×Nat),vs=[.ref q,.ref o]/\B7 K t D H q gp g lb la pz p z y/\Bh t.aO D' H (.ref o) x/\∀ H' l,aS H H'->H l=none->H' l=some (.lst (vN (Hl y x.1)))->Q (.ref l) H'
theorem US:aQ ["self","said","k"] ["self","said"] (aF mD):=lT (by decide +kernel)
theorem abm (T:Txt K mg t):bF P w K mg base mL 3 t.cG t.ic ["self","said"] (acu K t):=by
 have GA:=@abj P w K mg base t T;refine T.iB.ok US (fun vs H Q E h=>?_) (fun cdv A outer s H vs Q E hr h=>?_)
 . obtain ⟨q,o,gp,g,lb,la,pz,p,z,y,D,D',x,rfl,_⟩:=h
   rfl
 . obtain ⟨q,o,gp,g,lb,la,pz,p,z,y,D,D',x,rfl,S,rx,k⟩:=h
   refine ⟨_,az (bc (C4 rfl US.nd (mK rfl T.oX (af (c6 bx (by rfl) T.kG PySem.boot_len (af (aA (aA (pv 0) rfl) rfl) au)) au)) (jv (own:=[("k",2)]) rfl) (fun _ _ _ _ _=>bu (i:=2) US.nd rfl (Or.inl rfl))
     (fun _ _ _ _ _=>sY (jl (aW (pv 0) T.bB T.rF GA hr T.rf .nil bE (af (pv 1) (af (pv 2) au))))) (fun _ _ _ _ _=>pv 2))),?_⟩
   obtain ⟨dq,eq⟩:=S.obj;obtain ⟨dg,eg⟩:=S.mol.obj;have gy:=S.good;have sml:=gy.small;have al:z.as.length=y.1.length:=S.mol.ra.len;have W5:=Bh.ok t.aO;refine ⟨_,rfl,fld eq T.bB T.bh rfl (fld eg T.aY T.bT rfl ⟨z.la,z.as,rfl,.inl (bI.of S.mol.atoms),(z.as.length:Int),rfl,by omega,by omega,?_⟩)⟩;rw [Int.toNat_natCast];intro l hl;refine KW (n:=z.as.length) (fun i H'=>aS H H'/\H' l=some (.lst (vN ((List.range i).filter (Cv y x.1))))) ⟨aK hl,ai⟩ ?_ ?_
   . rintro i H' hi ⟨sm,hl'⟩
     rw [Int.zero_add];refine ⟨rfl,?_⟩;have eqS:=sm _ _ eq;refine ⟨_,rfl,q,dq,_,rfl,eqS,rfl,_,rfl,_,rfl,?_⟩;refine ⟨q,o,gp,g,lb,la,i,pz,p,z,y,D,D',x,rfl,S.same sm,W5.stay rx (fun b u _ e=>sm _ _ e),by omega,_,rfl,?_⟩;have ef:(List.range (i+1)).filter (Cv y x.1)=(List.range i).filter (Cv y x.1)++(if Cv y x.1 i=true then [i] else []):=by
       rw [List.range_succ,List.filter_append];simp [List.filter_cons]
     refine zp (fun c=>?_) (fun c=>?_)
     . refine ⟨_,rfl,_,hl',?_,fun b u e=>by rw [aq (ay e hl)];exact sm b u e,?_⟩
       . have q1:=List.length_filter_le (Cv y x.1) (List.range i)
         rw [List.length_range] at q1;rw [show (vN ((List.range i).filter (Cv y x.1))).length=((List.range i).filter (Cv y x.1)).length by simp [vN],sizeLine_eq];omega
       . rw [ai,ef,if_pos c,vH]
     . refine ⟨sm,?_⟩
       rw [ef,if_neg c,List.append_nil];exact hl'
   . rintro H1 ⟨sm,hl'⟩
     rw [al] at hl';exact k H1 l sm hl hl'
end
def tQ (y:aB) (f:List Nat) (w:Nat) (b:PBond):Bool:=match (aE y).bondAt (Fk.image f b.a) w with
 | some k=>Rv y b k
 | none=>false
def k7 (y:aB) (f:List Nat) (w:Nat) (bs:List (PBond×Nat)):Bool:=bs.all fun b=>tQ y f w b.1
theorem yO (y:aB) (v w:Nat):(aE y).bondAt v w=(y.2.map JM.aU).findIdx? (jC v w):=by
 show (y.2.map fun z=>z.1).findIdx? (fun x=>x.joins v w)=_;rw [List.findIdx?_map,List.findIdx?_map];rfl
theorem jD {f:List Nat} {v:Nat} (h:v < f.length):f[v]?=some (Fk.image f v):=by
 unfold Fk.image;rw [List.getD,List.getElem?_eq_getElem h];rfl
section
def ZI (K:Zqq) (t:Ad):Sp:=fun vs H Q _=>∃ (q r ME gp g lb la:Addr) (w:Nat) (f:List Nat) (us:List V) (bs:List (PBond×Nat)) (pz:uM) (p:bz) (z:kH) (y:aB) (D D':Addr->Prop),vs=[.ref q,.ref r,.int (w:Int),.ref ME]/\B7 K t D H q gp g lb la pz p z y /\
 H r=some (.lst (vN f))/\H ME=some (.lst us)/\cR (yi t.aP) D' H us bs/\(∀ b ∈ bs,b.1.how<=1/\b.1.a < f.length)/\∀ H',aS H H'->Q (.bl (k7 y f w bs)) H'
theorem K3:aQ ["self","row","image","bonds_back","said","k"] ["self","row","image","bonds_back"] (aF fY):=lT (by decide +kernel)
theorem Xc (T:Txt K mg t):bF P w K mg base mL 3 t.bC t.dI ["self","row","image","bonds_back"] (ZI K t):=by
 have GB:=@abl P w K mg base t T;refine T.dN.ok K3 (fun vs H Q E h=>?_) (fun cdv A outer s H vs Q E hr h=>?_)
 . obtain ⟨q,r,ME,gp,g,lb,la,w,f,us,bs,pz,p,z,y,D,D',rfl,_⟩:=h
   rfl
 . obtain ⟨q,r,ME,gp,g,lb,la,wi,f,us,bs,pz,p,z,y,D,D',rfl,S,hf,XW,R,ok,k⟩:=h
   have hu:=hr.un;have hu':(A.deeper (envOfC "Search.joined_as_said" (aF fY) s.heap.objs.size t.bC cdv)).units+1 < cLine:=by omega
   refine ⟨_,ak (fj PassesOwn.never rfl (gD (pv 3)) (bu (i:=4) K3.nd rfl (Or.inl rfl))
       (ak (aR (i:=5) K3.nd rfl (Or.inl rfl) (S3 hu' (aA (aA (pv 0) rfl) rfl) (mz (af (bV b9 (pv 1) (aA (pv 4) rfl) (fun _ _=>rfl)) (af (pv 2) au))) ⟨rfl,rfl,rfl,rfl⟩))
       (az (kK (PW.pt (RQ (IA (Yl (pv 5))) (Nc (uQ (jl (aW (pv 0) T.bB T.rG GB hr T.rg .nil bE (af (pv 4) (af (pv 5) au)))))))) (az (bc qN)) ee))))
     (az (bc qN)),?_⟩
   obtain ⟨dq,eq⟩:=S.obj;obtain ⟨dg,eg⟩:=S.mol.obj;have Vl:=yi.ok t.aP;refine ⟨_,rfl,ME,rfl,⟨_,bI.of XW⟩,?_⟩;let wN:L2.Iv:=fun i σ H'=>∃ v4 v5,σ=[some (.ref q),some (.ref r),some (.int (wi:Int)),some (.ref ME),v4,v5]/\aS H H'/\k7 y f wi (bs.drop i)=k7 y f wi bs;refine ph (K:=K) (a:=ME) (xs:=us) wN ⟨none,none,rfl,aS.refl _,rfl⟩ (fun i σ H' _ ⟨_,_,_,sm,_⟩=>bI.of (sm _ _ XW)) ?_ ?_
   . rintro i x σ H' hx ⟨v4,v5,rfl,sm,e⟩
     have hi:i < us.length:=(List.getElem?_eq_some_iff.mp hx).1;obtain ⟨b,hb⟩:∃ b,bs[i]?=some b:=⟨_,List.getElem?_eq_getElem (by rw [<- R.len];exact hi)⟩;obtain ⟨o,dx,rfl,dO,rep⟩:=R.at_ i x b hx hb;obtain ⟨hw,ha⟩:=ok b (List.mem_of_getElem? hb);have ed:bs.drop i=b::bs.drop (i+1):=by
       obtain ⟨hlt,hv'⟩:=List.getElem?_eq_some_iff.mp hb;rw [List.drop_eq_getElem_cons hlt,hv']
     rw [ed] at e;have e':(tQ y f wi b.1&&k7 y f wi (bs.drop (i+1)))=k7 y f wi bs:=e;have S1:=S.same sm;refine ⟨_,rfl,fld (sm _ _ eq) T.bB T.bh rfl (fld (sm _ _ eg) T.aY T.bU rfl ⟨z.ln,rfl,.inr ⟨_,.inl (sm _ _ S.mol.nums)⟩,?_⟩)⟩;refine ⟨_,rfl,_,rfl,fld (sm _ _ rep) T.aZ T.dw rfl (tT (bI.of (sm _ _ hf)) (bw (CU (jD ha))) ⟨_,rfl,(by show 2<=sizeLine;decide),fun p1 hp1=>?_⟩)⟩;have s2:aS H' (upd H' p1 (.tup [.int (Fk.image f b.1.a:Int),.int (wi:Int)])):=aK hp1;have Ih:=sm.trans s2;have dg1:qO (upd H' p1 (.tup [.int (Fk.image f b.1.a:Int),.int (wi:Int)])) z.ln (.ref p1) (((aE y).bondAt (Fk.image f b.1.a) wi).map fun k=>V.int (k:Int)):=by
       have:=qO.t (k:=kI [(Fk.image f b.1.a:Int),(wi:Int)]) (Ih _ _ S.mol.nums) (by rw [D5];exact ai);rw [S.mol.num,<- yO] at this;exact this
     refine ⟨_,dg1,?_⟩;cases hb2:(aE y).bondAt (Fk.image f b.1.a) wi with
     | none=>
       have jf:tQ y f wi b.1=false:=by unfold tQ;rw [hb2]
       rw [jf,Bool.false_and] at e';rw [<- e'] at k;refine ⟨_,rfl,_,rfl,?_⟩;exact qP (qP (k _ Ih))
     | some n=>
       have jf:tQ y f wi b.1=Rv y b.1 n:=by unfold tQ;rw [hb2]
       rw [jf] at e';obtain ⟨c,hc⟩:∃ c,y.2[n]?=some c:=by
         have hlt:=(List.findIdx?_eq_some_iff_getElem.mp (show (y.2.map JM.aU).findIdx? _=some n by rw [<- yO];exact hb2)).1;rw [List.length_map] at hlt;exact ⟨_,List.getElem?_eq_getElem hlt⟩
       refine ⟨_,rfl,_,rfl,?_⟩;refine p6 ?_;refine ⟨_,rfl,q,dq,_,rfl,Ih _ _ eq,rfl,_,rfl,_,rfl,?_⟩;refine ⟨q,o,gp,g,lb,la,n,pz,p,z,y,D,D',b,c,rfl,S.same Ih,⟨o,dx,rfl,dO,Ih _ _ rep⟩,hw,hc,_,rfl,?_⟩;cases hB:Rv y b.1 n with
       | false=>
         rw [hB,Bool.false_and] at e';rw [<- e'] at k;exact qP (k _ Ih)
       | true=>
         rw [hB,Bool.true_and] at e';exact p6 ⟨_,_,rfl,Ih,e'⟩
   . rintro σ H1 ⟨v4,v5,rfl,sm,e⟩
     rw [show bs.drop us.length=[] from List.drop_eq_nil_of_le (by rw [R.len];exact Nat.le_refl _)] at e;rw [<- e] at k;exact k _ sm
end
def more (y:aB) (bs:List (PBond×Nat)) (f:List Nat) (ws:List Nat):List (List Nat):=(ws.filter fun w=>!f.contains w&&k7 y f w bs).map fun w=>f++[w]
def longer (y:aB) (fs:List (List Nat)) (ws:List Nat) (bs:List (PBond×Nat)):List (List Nat):=fs.flatMap fun f=>more y bs f ws
theorem MF (y:aB) (bs:List (PBond×Nat)) (f:List Nat) (ws:List Nat):(more y bs f ws).length<=ws.length:=by
 unfold more;rw [List.length_map];exact List.length_filter_le _ _
theorem MG (y:aB) (fs:List (List Nat)) (f:List Nat) (ws:List Nat) (bs:List (PBond×Nat)):longer y (fs++[f]) ws bs=longer y fs ws bs++more y bs f ws:=by simp [longer]
theorem zY (y:aB) (ws:List Nat) (bs:List (PBond×Nat)):∀ fs:List (List Nat),(longer y fs ws bs).length<=fs.length * ws.length
 | []=>by simp [longer]
 | f::fs=>by
  have ih:=zY y ws bs fs
  have m:=MF y bs f ws
  have e:longer y (f::fs) ws bs=more y bs f ws++longer y fs ws bs:=by simp [longer]
  rw [e,List.length_append,List.length_cons,Nat.succ_mul]
  omega
theorem Ii (y:aB) (bs:List (PBond×Nat)) (f:List Nat) (ws:List Nat) (w:Nat):more y bs f (ws++[w])=more y bs f ws++(if (!f.contains w&&k7 y f w bs)=true then [f++[w]] else []):=by
 unfold more;rw [List.filter_append,List.map_append,List.filter_cons,List.filter_nil];split<;>simp
section
def ZJ (K:Zqq) (t:Ad):Sp:=fun vs H Q _=>∃ (q lr li ME gp g lb la:Addr) (rs us:List V) (fs:List (List Nat)) (ws:List Nat) (bs:List (PBond×Nat)) (pz:uM) (p:bz) (z:kH) (y:aB) (D D1 D':Addr->Prop),vs=[.ref q,.ref lr,.ref li,.ref ME]/\B7 K t D H q gp g lb la pz p z y /\
 H lr=some (.lst rs)/\cR qG D1 H rs fs/\H li=some (.lst (vN ws))/\H ME=some (.lst us)/\cR (yi t.aP) D' H us bs/\(∀ b ∈ bs,b.1.how<=1/\∀ f ∈ fs,b.1.a < f.length)/\(∀ f ∈ fs,f.length<=1000)/\fs.length * ws.length<=1000000 /\
 ∀ H' l rs',aS H H'->H l=none->H' l=some (.lst rs')->cR qG (fun b=>H b=none) H' rs' (longer y fs ws bs)->Q (.ref l) H'
theorem DR:aQ ["self","rows","images","bonds_back","longer","row","image"] ["self","rows","images","bonds_back"] (aF kM):=lT (by decide +kernel)
theorem Xd (T:Txt K mg t):bF P w K mg base mL 4 t.bX t.fP ["self","rows","images","bonds_back"] (ZJ K t):=by
 have GJ:=@Xc P w K mg base t T;refine T.fV.ok DR (fun vs H Q E h=>?_) (fun cdv A outer s H vs Q E hr h=>?_)
 . obtain ⟨q,lr,li,ME,gp,g,lb,la,rs,us,fs,ws,bs,pz,p,z,y,D,D1,D',rfl,_⟩:=h
   rfl
 . obtain ⟨q,lr,li,ME,gp,g,lb,la,rs,us,fs,ws,bs,pz,p,z,y,D,D1,D',rfl,S,hlr,R1,hli,XW,RB,ok,short,size,k⟩:=h
   refine ⟨_,ak (aR (i:=4) DR.nd rfl (Or.inl rfl) (kC au))
     (ak (fj PassesOwn.never rfl (gD (pv 1)) (bu (i:=5) DR.nd rfl (Or.inl rfl))
       (az (fj PassesOwn.never rfl (gD (pv 2)) (bu (i:=6) DR.nd rfl (Or.inl rfl))
         (az (kK (PW.pt (o6 (d9 qA (pv 6) (pv 5) rfl) (lF (jl (aW (pv 0) T.bB T.mS GJ hr T.mO .nil bE (af (pv 5) (af (pv 6) (af (pv 3) au))))))))
           (az (dW (uq PySem.F.plainAttrs_list PySem.F.slot_list_append PySem.F.type_list_append jt (pv 4) (af (gU Nr (pv 5) (kC (af (pv 6) au))) au)))) ee)))))
     (az (bc (pv 4)))),?_⟩
   obtain ⟨dq,eq⟩:=S.obj;have Vl:=yi.ok t.aP;have Pk:=qG.ok;refine ⟨Nat.zero_le _,fun l hl=>?_⟩;have s0:aS H (upd H l (.lst [])):=aK hl;refine ⟨_,rfl,lr,rfl,⟨_,bI.of (s0 _ _ hlr)⟩,?_⟩;let wN:L2.Iv:=fun i σ H'=>∃ v5 v6 rs',σ=[some (.ref q),some (.ref lr),some (.ref li),some (.ref ME),some (.ref l),v5,v6]/\aS H H'/\H' l=some (.lst rs')/\cR qG (fun b=>H b=none/\b ≠ l) H' rs' (longer y (fs.take i) ws bs);refine ph (K:=K) (a:=lr) (xs:=rs) wN ⟨none,none,[],rfl,s0,ai,cR.nil⟩ (fun i σ H' _ ⟨_,_,_,_,sm,_⟩=>bI.of (sm _ _ hlr)) ?_ ?_
   . rintro i x σ H' hx ⟨v5,v6,rs',rfl,sm,hl',R⟩
     have hi:i < rs.length:=(List.getElem?_eq_some_iff.mp hx).1;obtain ⟨f,hf⟩:∃ f,fs[i]?=some f:=⟨_,List.getElem?_eq_getElem (by rw [<- R1.len];exact hi)⟩;have hif:i < fs.length:=(List.getElem?_eq_some_iff.mp hf).1;have fm:=List.mem_of_getElem? hf;obtain ⟨ra,rfl,_,zS⟩:=R1.at_ i x f hx hf;have b1:=zY y ws bs (fs.take i);rw [List.length_take,Nat.min_eq_left (by omega)] at b1;have b2:i * ws.length+ws.length<=fs.length * ws.length:=by
       rw [<- Nat.succ_mul];exact Nat.mul_le_mul_right _ hif
     refine ⟨_,rfl,li,rfl,⟨_,bI.of (sm _ _ hli)⟩,?_⟩;let Us:L2.Iv:=fun j σ H'=>∃ v6 rs',σ=[some (.ref q),some (.ref lr),some (.ref li),some (.ref ME),some (.ref l),some (.ref ra),v6]/\aS H H'/\H' l=some (.lst rs')/\cR qG (fun b=>H b=none/\b ≠ l) H' rs' (longer y (fs.take i) ws bs++more y bs f (ws.take j));refine ph (K:=K) (a:=li) (xs:=vN ws) Us ⟨v6,rs',rfl,sm,hl',by simpa [more] using R⟩ (fun i σ H' _ ⟨_,_,_,sm,_⟩=>bI.of (sm _ _ hli)) ?_ ?_
     . rintro j x σ H2 Ud ⟨v6,rs2,rfl,s2,hl2,R2⟩
       obtain ⟨u,hu,rfl⟩:=Fo Ud;have hj:j < ws.length:=(List.getElem?_eq_some_iff.mp hu).1;have b3:=MF y bs f (ws.take j);rw [List.length_take,Nat.min_eq_left (by omega)] at b3;have rl2:=R2.len;rw [List.length_append] at rl2;have stay:∀ {H3:Hp},aS H2 H3->(!f.contains u&&k7 y f u bs)=false->∃ v6 rs',[some (V.ref q),some (.ref lr),some (.ref li),some (.ref ME),some (.ref l),some (.ref ra),some (.int (u:Int))]=[some (.ref q),some (.ref lr),some (.ref li),some (.ref ME),some (.ref l),some (.ref ra),v6]/\aS H H3/\H3 l=some (.lst rs')/\cR qG (fun b=>H b=none/\b ≠ l) H3 rs' (longer y (fs.take i) ws bs++more y bs f (ws.take (j+1))):=fun {H3} s3 hn=>⟨_,rs2,rfl,s2.trans s3,s3 _ _ hl2,by
         rw [take_snoc hu,Ii,hn];simpa using R2.stay Pk fun b o _ h=>s3 _ _ h⟩
       refine ⟨_,rfl,_,rfl,ra,_,rfl,.inl (bI.of (s2 _ _ zS)),rfl,Kw _,_,rfl,?_⟩;show if (!KP (.int (u:Int)) (vN f))=true then _ else _;rw [UB];cases hc:f.contains u with
       | true=>exact p6 (p6 (stay (aS.refl _) (by rw [hc];rfl)))
       | false=>
         refine qP ?_;refine ⟨_,rfl,q,dq,_,rfl,s2 _ _ eq,rfl,_,rfl,_,rfl,_,rfl,?_⟩;refine ⟨q,ra,ME,gp,g,lb,la,u,f,us,bs,pz,p,z,y,D,D',rfl,S.same s2,s2 _ _ zS,s2 _ _ XW,RB.stay Vl (fun b o _ h=>s2 _ _ h),fun b hb=>⟨(ok b hb).1,(ok b hb).2 f fm⟩,fun H3 s3=>⟨_,rfl,?_⟩⟩;cases hj2:k7 y f u bs with
         | false=>exact p6 (stay s3 (by rw [hc,hj2];rfl))
         | true=>
           refine qP ?_;refine ⟨_,rfl,.inl ⟨rfl,_,bI.of (s3 _ _ hl2)⟩,?_⟩;refine ⟨_,rfl,_,rfl,(by show 1<=sizeLine;decide),fun p1 hp1=>?_⟩;have s4:=aK (o:=.lst [V.int (u:Int)]) hp1;have fl:=short f fm;refine ⟨ra,p1,_,_,rfl,rfl,s4 _ _ (s3 _ _ (s2 _ _ zS)),ai,by rw [zW,sizeLine_eq];simp;omega,fun p2 hp2=>?_⟩;have s5:=aK (o:=.lst (vN f++[V.int (u:Int)])) hp2;have Xe:aS H2 _:=(s3.trans s4).trans s5;refine ⟨l,rs2,_,rfl,rfl,Xe _ _ hl2,by rw [rl2,sizeLine_eq];omega,?_⟩;refine ⟨_,rs2++[.ref p2],rfl,fun b o e=>by rw [aq (ay e hl)];exact Xe _ _ (s2 b o e),ai,?_⟩;rw [take_snoc hu,Ii,hc,hj2];have n2:H2 p2=none:=(s3.trans s4).free hp2;rw [show (!false&&true)=true from rfl,if_pos rfl,<- List.append_assoc];refine ((R2.stay Pk fun b o _ h=>Xe _ _ h).snoc ⟨p2,rfl,⟨s2.free n2,fun z=>by rw [z,hl2] at n2;cases n2⟩,?_⟩).stay Pk fun b o d h=>?_
           . rw [vH]
             exact ai
           . rw [aq d.2]
             exact h
     . rintro σ H2 ⟨v6,rs2,rfl,s2,hl2,R2⟩
       rw [zW,List.take_length] at R2;exact ⟨_,_,rs2,rfl,s2,hl2,by rw [take_snoc hf,MG];exact R2⟩
   . rintro σ H1 ⟨v5,v6,rs',rfl,sm,hl',R⟩
     rw [R1.len,List.take_length] at R;exact ⟨_,rfl,k H1 l rs' sm hl hl' (R.mono Pk fun b d=>d.1)⟩
end
theorem DS {l:List Nat} {x:Nat}:(x:Int) ∈ sM l ↔ x ∈ l:=by
 unfold sM;rw [List.mem_map];constructor
 . rintro ⟨a,ha,e⟩
   have:a=x:=by omega
   exact this ▸ ha
 . intro h
   exact ⟨x,h,rfl⟩
def iL (y:aB) (v:Nat):List Int:=if (JM.bG (y.2.map JM.aU) v).length=4 then sM (JM.bG (y.2.map JM.aU) v) else -1::sM (JM.bG (y.2.map JM.aU) v)
theorem K4 {y:aB} (gy:gc y) (v:Nat):(iL y v).Pairwise (· < ·):=by
 have h:=JM.uW gy.rise v;have h2:(sM (JM.bG (y.2.map JM.aU) v)).Pairwise (· < ·):=by
   unfold sM;rw [List.pairwise_map];exact h.imp fun {a b} h=>by omega
 unfold iL;split
 . exact h2
 . refine List.pairwise_cons.mpr ⟨fun x hx=>?_,h2⟩
   obtain ⟨a,_,rfl⟩:=List.mem_map.mp hx;omega
theorem Og {y:aB} {v u:Nat} (h:u ∈ JM.bG (y.2.map JM.aU) v):(u:Int) ∈ iL y v:=by
 unfold iL;split
 . exact DS.mpr h
 . exact List.mem_cons_of_mem _ (DS.mpr h)
def FD (p:bz) (f:List Nat) (k:Nat):List Nat:=(JM.bG (p.2.map JM.c9) k).map (Fk.image f)
def wB (y:aB) (p:bz) (f:List Nat) (k:Nat):List Int:=((iL y (Fk.image f k)).filter fun x=>!(sM (FD p f k)).contains x)++sM (FD p f k)
def pV (y:aB) (p:bz) (f:List Nat) (k:Nat):Nat:=vK ((aE y).atom (Fk.image f k)).hand (fX (wB y p f k) % 2==1)
theorem ZK (e:Int) (l:List Int):KP (.int e) (vI l)=l.contains e:=by
 unfold KP vI;rw [List.any_map,Bool.eq_iff_iff,List.any_eq_true,List.contains_iff_mem];constructor
 . rintro ⟨x,hx,h⟩
   have:x=e:=beq_iff_eq.mp h;exact this ▸ hx
 . intro h
   exact ⟨e,h,by show (e==e)=true;simp⟩
section
def UT (t:Ad):Sp:=fun vs H Q _=>∃ (g:Addr) (v:Nat) (z:kH) (y:aB) (D:Addr->Prop),vs=[.ref g,.int (v:Int)]/\mV t D H g z y/\gc y/\v < y.1.length/\∀ H' l,aS H H'->H' l=some (.lst (vI (iL y v)))->Q (.ref l) H'
theorem Ij:aQ ["self","atom","row"] ["self","atom"] (aF kE):=lT (by decide +kernel)
theorem Rw (T:Txt K mg t):bF P w K mg base mL 1 t.bN t.fz ["self","atom"] (UT t):=by
 obtain ⟨NN,g1⟩:=T.HQ;refine T.fB.ok Ij (fun vs H Q E h=>?_) (fun cdv A outer s H vs Q E hr h=>?_)
 . obtain ⟨g,v,z,y,D,rfl,_⟩:=h
   rfl
 . obtain ⟨g,v,z,y,D,rfl,M,gy,hv,k⟩:=h
   refine ⟨_,ak (aR (i:=2) Ij.nd rfl (Or.inl rfl) (bV b9 (aA (pv 0) rfl) (pv 1) (fun _ _=>rfl)))
     (az (bc (DV (d9 nV (c6 bx (by rfl) T.kG PySem.boot_len (af (pv 2) au)) aN (cg _)) (pv 2) (gU Nr (kC (af (aV rfl g1 (v:=.int (-1)) ⟨_,rfl⟩) au)) (pv 2))))),?_⟩
   obtain ⟨dg,eg⟩:=M.obj;obtain ⟨ra,zS⟩:∃ ra,z.rs[v]?=some ra:=⟨_,List.getElem?_eq_getElem (by rw [M.rows.len,M.ra.len];exact hv)⟩;have hA:=M.rows.at_ _ _ zS;have e1:(z.rs.map V.ref)[v]?=some (V.ref ra):=by rw [List.getElem?_map,zS];rfl
   have rl:=gy.Ri v;refine ⟨_,rfl,fld eg T.aY T.b8 rfl ⟨_,rfl,tT (bI.of M.rows.lst) (bw e1) ?_⟩⟩;refine ⟨_,rfl,ra,_,rfl,.inl (bI.of hA),rfl,_,rfl,?_⟩;rw [show (V.int 4)=V.int ((4:Nat):Int) from rfl,oU,zW];refine zp (fun c=>?_) (fun c=>?_)
   . have c':(JM.bG (y.2.map JM.aU) v).length=4:=beq_iff_eq.mp c
     refine ⟨_,rfl,k H ra (aS.refl _) ?_⟩;rw [hA,Fx];unfold iL;rw [if_pos c']
   . have c':¬ (JM.bG (y.2.map JM.aU) v).length=4:=fun q=>c (beq_iff_eq.mpr q)
     refine ⟨(by show 1<=sizeLine;decide),fun p1 hp1=>?_⟩;have s1:=aK (o:=.lst [V.int (-1)]) hp1;refine ⟨_,rfl,p1,ra,_,_,rfl,rfl,ai,s1 _ _ hA,by rw [zW,sizeLine_eq];simp;omega,fun p2 hp2=>?_⟩;refine k _ p2 (s1.trans (aK hp2)) ?_;rw [ai,Fx];unfold iL;rw [if_neg c'];rfl
theorem vO {n:Nat} {l:List (Nat×Nat)} (h:JM.ng n l) {v u:Nat} (hu:u ∈ JM.bG l v):u < n:=by
 unfold JM.bG at hu;obtain ⟨q,hq,e⟩:=List.mem_filterMap.mp hu;have:=h.1 q hq;unfold JM.ux at e;split at e
 . cases e;omega
 . split at e
   . cases e;omega
   . cases e
def K5 (y:aB) (p:bz) (f:List Nat) (k:Nat):Prop:=Fk.image f k < y.1.length/\∀ u ∈ FD p f k,u ∈ JM.bG (y.2.map JM.aU) (Fk.image f k)
def Xf (K:Zqq) (t:Ad):Sp:=fun vs H Q _=>∃ (q r gp g lb la:Addr) (k:Nat) (f:List Nat) (pz:uM) (p:bz) (z:kH) (y:aB) (D:Addr->Prop),vs=[.ref q,.ref r,.int (k:Int)]/\B7 K t D H q gp g lb la pz p z y/\H r=some (.lst (vN f))/\f.length=p.1.length/\k < p.1.length/\K5 y p f k/\∀ H',aS H H'->Q (.int (pV y p f k:Int)) H'
theorem pW:aQ ["self","row","k","around","images","seen","atom"] ["self","row","k"] (aF mF):=lT (by decide +kernel)
theorem UU (T:Txt K mg t):bF P w K mg base mL 2 t.cI t.ig ["self","row","k"] (Xf K t):=by
 have GA:=@Rw P w K mg base t T;have GR:=@Ig P w K mg base t T;have GO:=@ZH P w K mg base t T;refine T.iD.ok pW (fun vs H Q E h=>?_) (fun cdv A outer s H vs Q E hr h=>?_)
 . obtain ⟨q,r,gp,g,lb,la,n,f,pz,p,z,y,D,rfl,_⟩:=h
   rfl
 . obtain ⟨q,r,gp,g,lb,la,n,f,pz,p,z,y,D,rfl,S,hf,fl,hn,⟨hv,hsub⟩,k⟩:=h
   refine ⟨_,ak (aR (i:=3) pW.nd rfl (Or.inl rfl) (aW (aA (pv 0) rfl) T.aY T.om GA hr T.nX .nil bE (af (bV b9 (pv 1) (pv 2) (fun _ _=>rfl)) au)))
     (ak (aR (i:=4) pW.nd rfl (Or.inr rfl) (C4 rfl pW.nd (gD (bV b9 (aA (aA (pv 0) rfl) rfl) (pv 2) (fun _ _=>rfl))) (jv (own:=[("atom",6)]) rfl) (fun _ _ _ _ _=>bu (i:=6) pW.nd rfl (Or.inl rfl)) (fun _ _ _ _ _=>Ae) (fun _ _ _ _ _=>bV (Fp (K0:=K) rfl) (pv 1) (pv 6) (fun _ _=>rfl))))
     (ak (aR (i:=5) pW.nd rfl (Or.inl rfl) (gU Nr (C4 rfl pW.nd (gD (pv 3)) (jv (own:=[("atom",6)]) rfl) (fun _ _ _ _ _=>bu (i:=6) pW.nd rfl (Or.inl rfl)) (fun _ _ _ _ _=>sY (d9 (Rj (K0:=K) rfl) (pv 6) (pv 4) rfl)) (fun _ _ _ _ _=>pv 6)) (pv 4)))
     (az (bc (b4 GR hr rfl T.BP T.oH.kp T.BO .nil bE (af (aA (bV b9 (aA (aA (pv 0) rfl) rfl) (bV b9 (pv 1) (pv 2) (fun _ _=>rfl)) (fun _ _=>rfl)) rfl) (af (b4 GO hr rfl T.tF T.fZ.kp T.tE .nil bE (af (pv 3) (af (pv 5) au))) au))))))),?_⟩
   obtain ⟨dq,eq⟩:=S.obj;obtain ⟨dg,eg⟩:=S.mol.obj;obtain ⟨dp,ep⟩:=S.pat.gr.obj;have gy:=S.good;have pl:pz.as.length=p.1.length:=S.pat.at_.len;have abn:=bw (CU (jD (f:=f) (v:=n) (by omega)));obtain ⟨rp,hrp⟩:∃ a,pz.rs[n]?=some a:=⟨_,List.getElem?_eq_getElem (by rw [S.pat.gr.rows.len,pl];exact hn)⟩;have hP:=S.pat.gr.rows.at_ _ _ hrp;have e1:(pz.rs.map V.ref)[n]?=some (V.ref rp):=by rw [List.getElem?_map,hrp];rfl
   have pnl:(JM.bG (p.2.map JM.c9) n).length<=192:=by
     have:=sr (p.2.map JM.c9) n;rw [List.length_map] at this;have:=S.pat.nb;omega
   have iml:(FD p f n).length<=192:=by unfold FD;rw [List.length_map];exact pnl
   have anl:(iL y (Fk.image f n)).length<=13:=by
     have q0:=sr (y.2.map JM.aU) (Fk.image f n);rw [List.length_map] at q0;have:=gy.few;unfold iL sM;split<;>simp<;>omega
   refine ⟨_,rfl,fld eq T.bB T.bh rfl ⟨g,dg,_,rfl,eg,rfl,_,rfl,_,rfl,tT (bI.of hf) abn ?_⟩⟩;refine ⟨g,Fk.image f n,z,y,D,rfl,S.mol,gy,hv,fun H1 l1 s1 hl1=>?_⟩;refine ⟨_,rfl,fld (s1 _ _ eq) T.bB T.dU rfl (fld (s1 _ _ ep) T.jg T.cK rfl ⟨_,rfl,tT (bI.of (s1 _ _ S.pat.gr.rows.lst)) (bw e1) ⟨rp,rfl,⟨_,bI.of (s1 _ _ hP)⟩,fun D2 UO=>?_⟩⟩)⟩;refine mY (K:=K) (a:=rp) (xs:=vN (JM.bG (p.2.map JM.c9) n)) (fun i H'=>aS H1 H'/\H' D2=some (.lst (vN (((JM.bG (p.2.map JM.c9) n).take i).map (Fk.image f))))) ⟨aK UO,ai⟩ (fun i H' _ ⟨sm,_⟩=>bI.of (sm _ _ (s1 _ _ hP))) ?_ ?_
   . rintro i x H' hx ⟨sm,hD'⟩
     obtain ⟨u,hu,rfl⟩:=Fo hx;have hun:u < f.length:=by
       have:=vO S.pat.rise (List.mem_of_getElem? hu);omega
     refine ⟨rfl,_,rfl,_,rfl,tT (bI.of (sm _ _ (s1 _ _ hf))) (bw (CU (jD hun))) ?_⟩;refine ⟨_,hD',by rw [zW,List.length_map,List.length_take,sizeLine_eq];omega,fun b o e=>by rw [aq (ay e UO)];exact sm b o e,?_⟩;rw [ai,take_snoc hu,List.map_append,<- vH];rfl
   . rintro H2 ⟨s2,hD'⟩
     rw [zW,List.take_length] at hD';have him:H2 D2=some (.lst (vN (FD p f n))):=hD';have Na:=s1.trans s2;refine ⟨_,rfl,l1,rfl,⟨_,bI.of (s2 _ _ hl1)⟩,fun D3 ZL=>?_⟩;refine mY (K:=K) (a:=l1) (xs:=vI (iL y (Fk.image f n))) (fun i H'=>aS H2 H'/\H' D3=some (.lst (vI (((iL y (Fk.image f n)).take i).filter fun x=>!(sM (FD p f n)).contains x)))) ⟨aK ZL,ai⟩ (fun i H' _ ⟨sm,_⟩=>bI.of (sm _ _ (s2 _ _ hl1))) ?_ ?_
     . rintro i x H' hx ⟨sm,hD4⟩
       obtain ⟨u,hu,rfl⟩:=MD hx;have hi:i < (iL y (Fk.image f n)).length:=(List.getElem?_eq_some_iff.mp hu).1;refine ⟨rfl,_,rfl,_,rfl,D2,_,rfl,.inl (bI.of (sm _ _ him)),rfl,Kw _,_,rfl,?_⟩;show if (!KP (.int u) (vN (FD p f n)))=true then _ else _;rw [Fx,ZK];refine zp (fun c=>?_) (fun c=>?_)
       . refine ⟨_,rfl,_,hD4,?_,fun b o e=>by rw [aq (ay e ZL)];exact sm b o e,?_⟩
         . have q1:=List.length_filter_le (fun x=>!(sM (FD p f n)).contains x) ((iL y (Fk.image f n)).take i)
           rw [List.length_take] at q1;rw [ue,sizeLine_eq];omega
         . rw [ai,take_snoc hu,List.filter_append,<- K2]
           simp only [List.filter_cons,c,if_true,List.filter_nil]
       . refine ⟨sm,?_⟩
         rw [take_snoc hu,List.filter_append,hD4];simp only [List.filter_cons,c,if_false,List.filter_nil,List.append_nil,Bool.false_eq_true]
     . rintro H3 ⟨s3,hD4⟩
       rw [ue,List.take_length] at hD4;have q1:=List.length_filter_le (fun x=>!(sM (FD p f n)).contains x) (iL y (Fk.image f n));have tl:(sM (FD p f n)).length=(FD p f n).length:=by simp [sM]
       refine ⟨_,rfl,D3,D2,_,_,rfl,rfl,hD4,s3 _ _ him,by rw [ue,zW,sizeLine_eq];omega,fun p5 hp5=>?_⟩;rw [Fx,show vI ((iL y (Fk.image f n)).filter fun x=>!(sM (FD p f n)).contains x)++vI (sM (FD p f n))=vI (wB y p f n) by unfold wB vI;rw [List.map_append]];have s4:=aK (o:=.lst (vI (wB y p f n))) hp5;have s24:=s3.trans s4;have s04:=Na.trans s24;obtain ⟨a,ha⟩:∃ a,y.1[Fk.image f n]?=some a:=⟨_,List.getElem?_eq_getElem hv⟩;obtain ⟨va,U1⟩:∃ u,z.as[Fk.image f n]?=some u:=⟨_,List.getElem?_eq_getElem (by rw [S.mol.ra.len];exact hv)⟩;obtain ⟨oa,dxa,rfl,_,rep⟩:=S.mol.ra.at_ _ va a U1 ha;have ea:(aE y).atom (Fk.image f n)=a.1:=by
         unfold Mol.atom aE;simp [List.getD,ha]
       have bnd:=gy.atm a (List.mem_of_getElem? ha);refine ⟨_,rfl,fld (s04 _ _ eq) T.bB T.bh rfl (fld (s04 _ _ eg) T.aY T.bT rfl ⟨_,rfl,_,rfl,tT (bI.of (s04 _ _ hf)) abn (tT (bI.of (s04 _ _ S.mol.atoms)) (bw U1) (fld (s04 _ _ rep) T.mH T.lB rfl ⟨_,rfl,_,rfl,?_⟩))⟩)⟩;refine ⟨l1,p5,iL y (Fk.image f n),wB y p f n,rfl,s24 _ _ (s2 _ _ hl1),ai,K4 gy _,fun x hx=>?_,by unfold wB;rw [List.length_append];omega,fun H6 s6=>?_⟩
       . rcases List.mem_append.mp hx with hx | hx
         . exact (List.mem_filter.mp hx).1
         . obtain ⟨u,hu,rfl⟩:=List.mem_map.mp hx
           exact Og (hsub u hu)
       . refine ⟨a.1.hand,_,rfl,by omega,?_⟩
         have:=k H6 (s04.trans s6);unfold pV at this;rw [ea] at this;exact this
def mr (y:aB) (p:bz) (f:List Nat):Bool:=p.1.zipIdx.all fun z=>!(Fk.isOne z.1.1.hand&&pV y p f z.2 != z.1.1.hand)
def Xg (K:Zqq) (t:Ad):Sp:=fun vs H Q _=>∃ (q r gp g lb la:Addr) (f:List Nat) (pz:uM) (p:bz) (z:kH) (y:aB) (D:Addr->Prop),vs=[.ref q,.ref r]/\B7 K t D H q gp g lb la pz p z y/\H r=some (.lst (vN f))/\f.length=p.1.length/\(∀ k x,p.1[k]?=some x->Fk.isOne x.1.hand=true->K5 y p f k)/\∀ H',aS H H'->Q (.bl (mr y p f)) H'
theorem FE:aQ ["self","row","k","said"] ["self","row"] (aF mE):=lT (by decide +kernel)
theorem UW (T:Txt K mg t):bF P w K mg base mL 3 t.cH t.ie ["self","row"] (Xg K t):=by
 have GH:=@UU P w K mg base t T;have GT:=@Fc P w K mg base t T;refine T.iC.ok FE (fun vs H Q E h=>?_) (fun cdv A outer s H vs Q E hr h=>?_)
 . obtain ⟨q,r,gp,g,lb,la,f,pz,p,z,y,D,rfl,_⟩:=h
   rfl
 . obtain ⟨q,r,gp,g,lb,la,f,pz,p,z,y,D,rfl,S,hf,fl,ok,k⟩:=h
   have hr1:dG 1 _:=hr.mono (by decide);refine ⟨_,ak (fj PassesOwn.never rfl (sZ rfl T.jk (af (aA (aA (pv 0) rfl) rfl) au)) (wR rfl (gn (bu (i:=2) FE.nd rfl (Or.inl rfl)) (gn (bu (i:=3) FE.nd rfl (Or.inl rfl)) sV)))
       (az (kK (PW.pt (o6 (jl (b4 GT hr1 rfl T.Au T.qE.kp T.An .nil bE (af (aA (pv 3) rfl) au))) (lF (d9 vU (aW (pv 0) T.bB T.rK GH hr T.rq .nil bE (af (pv 1) (af (pv 2) au))) (aA (pv 3) rfl) (cg _))))) (az (bc qN)) ee)))
     (az (bc qN)),?_⟩
   obtain ⟨dq,eq⟩:=S.obj;obtain ⟨dp,ep⟩:=S.pat.gr.obj;have pl:pz.as.length=p.1.length:=S.pat.at_.len;refine ⟨_,rfl,fld eq T.bB T.dU rfl (fld ep T.jg T.gK rfl ⟨pz.la,pz.as,rfl,bI.of S.pat.gr.atoms,?_⟩)⟩;let wN:L2.Iv:=fun i σ H'=>∃ v2 v3,σ=[some (.ref q),some (.ref r),v2,v3]/\aS H H'/\((p.1.zipIdx.drop i).all fun z=>!(Fk.isOne z.1.1.hand&&pV y p f z.2 != z.1.1.hand))=mr y p f;refine pQ (K:=K) (a:=pz.la) (xs:=pz.as) wN ⟨none,none,rfl,aS.refl _,rfl⟩ (fun i σ H' _ ⟨_,_,_,sm,_⟩=>bI.of (sm _ _ S.pat.gr.atoms)) ?_ ?_
   . rintro i x σ H' Tt hx ⟨v2,v3,rfl,sm,e⟩ hT
     have hi:i < pz.as.length:=(List.getElem?_eq_some_iff.mp hx).1;obtain ⟨c,hc⟩:∃ c,p.1[i]?=some c:=⟨_,List.getElem?_eq_getElem (by omega)⟩;obtain ⟨o,dx,ln,tc,th,tn,tt,rfl,R⟩:=S.pat.at_.at_ i x c hx hc;rw [Fj hc,List.all_cons] at e;have sT:aS H (upd H' Tt (.tup [.int (i:Int),.ref o])):=sm.trans (aK hT);refine ⟨Tt,_,rfl,nU.of ai,rfl,_,_,rfl,_,_,rfl,rfl,?_⟩;refine ⟨_,rfl,fld (sT _ _ R.obj) T.b5 T.cV rfl ?_⟩;refine ⟨c.1.hand,rfl,fun H2 s2=>⟨_,rfl,?_⟩⟩;have Ih:=sT.trans s2;cases h1:Fk.isOne c.1.hand with
     | false=>
       rw [h1] at e;exact p6 (p6 ⟨_,_,rfl,Ih,e⟩)
     | true=>
       rw [h1] at e;refine qP ?_;refine ⟨_,rfl,q,dq,_,rfl,Ih _ _ eq,rfl,_,rfl,_,rfl,?_⟩;refine ⟨q,r,gp,g,lb,la,i,f,pz,p,z,y,D,rfl,S.same Ih,Ih _ _ hf,fl,by omega,ok i c hc h1,fun H3 s3=>?_⟩;have MZ:=Ih.trans s3;refine ⟨_,rfl,fld (MZ _ _ R.obj) T.b5 T.cV rfl ⟨rfl,_,rfl,?_⟩⟩;rw [Cu];cases h2:(pV y p f i != c.1.hand) with
       | true=>
         rw [h2] at e;have e':false=mr y p f:=e;rw [<- e'] at k;exact qP (k _ MZ)
       | false=>
         rw [h2] at e;exact p6 ⟨_,_,rfl,MZ,e⟩
   . rintro σ H1 ⟨v2,v3,rfl,sm,e⟩
     rw [show p.1.zipIdx.drop pz.as.length=[] from List.drop_eq_nil_of_le (by simp;omega)] at e;rw [<- e] at k;exact k _ sm
end
def Vn (p:bz) (a b:Nat):List Nat:=(JM.bG (p.2.map JM.c9) a).filter fun x=>x != b
def ZM (y:aB) (v u:Nat):List Nat:=(JM.bG (y.2.map JM.aU) v).filter fun x=>x != u
def keeps (y:aB) (p:bz) (f:List Nat) (a b:Nat):Bool:=((Vn p a b).head?.map (Fk.image f))==(ZM y (Fk.image f a) (Fk.image f b)).head?
structure UX (y:aB) (p:bz) (f:List Nat) (a b:Nat):Prop where
 la:a < p.1.length
 lb:b < p.1.length
 im:Fk.image f a < y.1.length
 pn:Vn p a b ≠ []
 mn:ZM y (Fk.image f a) (Fk.image f b) ≠ []
def pX (y:aB) (p:bz) (f:List Nat) (x:PBond):Nat:=vK (match (aE y).bondAt (Fk.image f x.a) (Fk.image f x.b) with
 | some k=>nN y k
 | none=>0) (keeps y p f x.a x.b != keeps y p f x.b x.a)
structure K6 (y:aB) (p:bz) (f:List Nat) (x:PBond):Prop where
 ea:UX y p f x.a x.b
 eb:UX y p f x.b x.a
 jo:∃ k,(aE y).bondAt (Fk.image f x.a) (Fk.image f x.b)=some k
section
def ZN (K:Zqq) (t:Ad):Sp:=fun vs H Q _=>∃ (q r gp g lb la:Addr) (a b:Nat) (f:List Nat) (pz:uM) (p:bz) (z:kH) (y:aB) (D:Addr->Prop),vs=[.ref q,.ref r,.int (a:Int),.int (b:Int)]/\B7 K t D H q gp g lb la pz p z y/\H r=some (.lst (vN f))/\f.length=p.1.length/\UX y p f a b/\∀ H',aS H H'->Q (.bl (keeps y p f a b)) H'
theorem Pn:aQ ["self","row","end","other","least_said"] ["self","row","end","other"] (aF kN):=lT (by decide +kernel)
theorem Xh (T:Txt K mg t):bF P w K mg base mL 2 t.bY t.fQ ["self","row","end","other"] (ZN K t):=by
 have GP:bF P w K mg base mL 1 t.bH t.dF ["self","end","other"] (uG K t.bK):=vz T T.jg T.cK;have GM:bF P w K mg base mL 1 t.bH t.dF ["self","end","other"] (uG K t.aT):=vz T T.aY T.b8;refine T.fW.ok Pn (fun vs H Q E h=>?_) (fun cdv A outer s H vs Q E hr h=>?_)
 . obtain ⟨q,r,gp,g,lb,la,a,b,f,pz,p,z,y,D,rfl,_⟩:=h
   rfl
 . obtain ⟨q,r,gp,g,lb,la,a,b,f,pz,p,z,y,D,rfl,S,hf,fl,ok,k⟩:=h
   refine ⟨_,ak (aR (i:=4) Pn.nd rfl (Or.inl rfl) (bV b9 (aW (aA (pv 0) rfl) T.jg T.mq GP hr T.iO .nil bE (af (pv 2) (af (pv 3) au))) aN (fun _ _=>rfl)))
     (az (bc (e9 nV (bV b9 (pv 1) (pv 4) (fun _ _=>rfl)) (bV b9 (aW (aA (pv 0) rfl) T.aY T.mJ GM hr T.iO .nil bE (af (bV b9 (pv 1) (pv 2) (fun _ _=>rfl)) (af (bV b9 (pv 1) (pv 3) (fun _ _=>rfl)) au))) aN (fun _ _=>rfl)) (cg _)))),?_⟩
   obtain ⟨dq,eq⟩:=S.obj;obtain ⟨dg,eg⟩:=S.mol.obj;obtain ⟨dp,ep⟩:=S.pat.gr.obj;have gy:=S.good;have pl:pz.as.length=p.1.length:=S.pat.at_.len;have h1:=ok.la;have h2:=ok.lb;have h3:=ok.im;obtain ⟨u,ul,eu⟩:=List.exists_cons_of_ne_nil ok.pn;obtain ⟨x,xl,ex⟩:=List.exists_cons_of_ne_nil ok.mn;have um:u ∈ JM.bG (p.2.map JM.c9) a:=(List.mem_filter.mp (show u ∈ Vn p a b by rw [eu];simp)).1;have hu:u < f.length:=by
     have:=vO S.pat.rise um;omega
   have pnl:(JM.bG (p.2.map JM.c9) a).length<=1000:=by
     have:=sr (p.2.map JM.c9) a;rw [List.length_map] at this;have:=S.pat.nb;omega
   refine ⟨_,rfl,fld eq T.bB T.dU rfl ⟨gp,dp,_,rfl,ep,rfl,_,rfl,_,rfl,?_⟩⟩;refine ⟨gp,dp,pz.lr,_,pz.rs,pz.as.length,a,b,_,rfl,ep,rfl,S.pat.gr.rows,by omega,pnl,fun H1 l1 s1 nl1 hl1=>?_⟩;have hl1':H1 l1=some (.lst (vN (Vn p a b))):=hl1;refine (tT (bI.of hl1') (bw (j:=0) (v:=V.int (u:Int)) (by rw [eu];rfl)) ?_);refine ⟨_,rfl,_,rfl,tT (bI.of (s1 _ _ hf)) (bw (CU (jD hu))) ?_⟩;refine ⟨_,rfl,fld (s1 _ _ eq) T.bB T.bh rfl ⟨g,dg,_,rfl,s1 _ _ eg,rfl,_,rfl,_,rfl,tT (bI.of (s1 _ _ hf)) (bw (CU (jD (v:=a) (by omega)))) ⟨_,rfl,_,rfl,tT (bI.of (s1 _ _ hf)) (bw (CU (jD (v:=b) (by omega)))) ?_⟩⟩⟩;refine ⟨g,dg,z.lr,_,z.rs,z.as.length,Fk.image f a,Fk.image f b,_,rfl,s1 _ _ eg,rfl,S.mol.rows.same' s1,by rw [S.mol.ra.len];exact h3,gy.Ri _,fun H2 l2 s2 nl2 hl2=>?_⟩;have hl2':H2 l2=some (.lst (vN (ZM y (Fk.image f a) (Fk.image f b)))):=hl2;refine (tT (bI.of hl2') (bw (j:=0) (v:=V.int (x:Int)) (by rw [ex];rfl)) ⟨rfl,?_⟩);rw [oU];have e:keeps y p f a b=(Fk.image f u==x):=by
     unfold keeps;rw [eu,ex];rfl
   rw [<- e];exact k H2 (s1.trans s2)
def Xi (K:Zqq) (t:Ad):Sp:=fun vs H Q _=>∃ (q r o gp g lb la:Addr) (f:List Nat) (pz:uM) (p:bz) (z:kH) (y:aB) (D D':Addr->Prop) (x:PBond×Nat),vs=[.ref q,.ref r,.ref o]/\B7 K t D H q gp g lb la pz p z y/\H r=some (.lst (vN f))/\f.length=p.1.length/\yi t.aP D' H (.ref o) x/\K6 y p f x.1/\∀ H',aS H H'->Q (.int (pX y p f x.1:Int)) H'
theorem B8:aQ ["self","row","said","k","at_a","at_b"] ["self","row","said"] (aF jK):=lT (by decide +kernel)
theorem UY (T:Txt K mg t):bF P w K mg base mL 3 t.cj t.iu ["self","row","said"] (Xi K t):=by
 have GK:=@Xh P w K mg base t T;have GR:=@Ig P w K mg base t T;refine T.iF.ok B8 (fun vs H Q E h=>?_) (fun cdv A outer s H vs Q E hr h=>?_)
 . obtain ⟨q,r,o,gp,g,lb,la,f,pz,p,z,y,D,D',x,rfl,_⟩:=h
   rfl
 . obtain ⟨q,r,o,gp,g,lb,la,f,pz,p,z,y,D,D',x,rfl,S,hf,fl,rx,ok,k⟩:=h
   have hr1:dG 1 _:=hr.mono (by decide);have hu:=hr.un;have hu':(A.deeper (envOfC "Search.side_read" (aF jK) s.heap.objs.size t.cj cdv)).units+1 < cLine:=by omega
   refine ⟨_,ak (aR (i:=3) B8.nd rfl (Or.inl rfl) (D9 hu' (aA (aA (pv 0) rfl) rfl) (mz (af (bV b9 (pv 1) (aA (pv 2) rfl) (fun _ _=>rfl)) (af (bV b9 (pv 1) (aA (pv 2) rfl) (fun _ _=>rfl)) au))) (fun _ _=>rfl)))
     (ak (aR (i:=4) B8.nd rfl (Or.inl rfl) (aW (pv 0) T.bB T.l8 GK hr T.lg .nil bE (af (pv 1) (af (aA (pv 2) rfl) (af (aA (pv 2) rfl) au)))))
     (ak (aR (i:=5) B8.nd rfl (Or.inl rfl) (aW (pv 0) T.bB T.l8 GK hr T.lg .nil bE (af (pv 1) (af (aA (pv 2) rfl) (af (aA (pv 2) rfl) au)))))
     (az (bc (b4 GR hr1 rfl T.BP T.oH.kp T.BO .nil bE (af (aA (bV b9 (aA (aA (pv 0) rfl) rfl) (pv 3) (fun _ _=>rfl)) rfl) (af (e9 vU (pv 4) (pv 5) (cg _)) au))))))),?_⟩
   obtain ⟨dq,eq⟩:=S.obj;obtain ⟨dg,eg⟩:=S.mol.obj;have gy:=S.good;obtain ⟨o',dx,e0,_,R⟩:=rx;cases e0;obtain ⟨n,hn⟩:=ok.jo;have a1:=ok.ea.la;have b1:=ok.eb.la;obtain ⟨c,hc⟩:∃ c,y.2[n]?=some c:=by
     have hlt:=(List.findIdx?_eq_some_iff_getElem.mp (show (y.2.map JM.aU).findIdx? _=some n by rw [<- yO];exact hn)).1;rw [List.length_map] at hlt;exact ⟨_,List.getElem?_eq_getElem hlt⟩
   have hlt:n < y.2.length:=(List.getElem?_eq_some_iff.mp hc).1;obtain ⟨vb,XN⟩:∃ u,z.us[n]?=some u:=⟨_,List.getElem?_eq_getElem (by rw [S.mol.rb.len];exact hlt)⟩;obtain ⟨ob,dxb,rfl,_,rep⟩:=S.mol.rb.at_ n vb c XN hc;have bnd:=gy.QU c (List.mem_of_getElem? hc);refine ⟨_,rfl,fld eq T.bB T.bh rfl (fld eg T.aY T.bU rfl ?_)⟩;refine ⟨_,rfl,_,rfl,fld R T.aZ T.dw rfl (tT (bI.of hf) (bw (CU (jD (v:=x.1.a) (by omega)))) ⟨_,rfl,_,rfl,fld R T.aZ T.dz rfl (tT (bI.of hf) (bw (CU (jD (v:=x.1.b) (by omega)))) ⟨(by show 2<=sizeLine;decide),fun p1 hp1=>?_⟩)⟩)⟩;have s1:aS H (upd H p1 (.tup [.int (Fk.image f x.1.a:Int),.int (Fk.image f x.1.b:Int)])):=aK hp1;have dg1:qO (upd H p1 (.tup [.int (Fk.image f x.1.a:Int),.int (Fk.image f x.1.b:Int)])) z.ln (.ref p1) (some (.int (n:Int))):=by
     have:=qO.t (k:=kI [(Fk.image f x.1.a:Int),(Fk.image f x.1.b:Int)]) (s1 _ _ S.mol.nums) (by rw [D5];exact ai);rw [S.mol.num,<- yO,hn] at this;exact this
   refine ⟨z.ln,_,rfl,dg1,?_⟩;refine ⟨_,rfl,q,dq,_,rfl,s1 _ _ eq,rfl,_,rfl,_,rfl,fld (s1 _ _ R) T.aZ T.dw rfl ⟨_,rfl,fld (s1 _ _ R) T.aZ T.dz rfl ?_⟩⟩;refine ⟨q,r,gp,g,lb,la,x.1.a,x.1.b,f,pz,p,z,y,D,rfl,S.same s1,s1 _ _ hf,fl,ok.ea,fun H2 s2=>?_⟩;have Na:=s1.trans s2;refine ⟨_,rfl,q,dq,_,rfl,Na _ _ eq,rfl,_,rfl,_,rfl,fld (Na _ _ R) T.aZ T.dz rfl ⟨_,rfl,fld (Na _ _ R) T.aZ T.dw rfl ?_⟩⟩;refine ⟨q,r,gp,g,lb,la,x.1.b,x.1.a,f,pz,p,z,y,D,rfl,S.same Na,Na _ _ hf,fl,ok.eb,fun H3 s3=>?_⟩;have XY:=Na.trans s3;refine ⟨_,rfl,fld (XY _ _ eq) T.bB T.bh rfl (fld (XY _ _ eg) T.aY T.cP rfl ⟨_,rfl,tT (bI.of (XY _ _ S.mol.bonds)) (bw XN) (fld (XY _ _ rep) T.gG T.lC rfl ⟨_,rfl,_,rfl,rfl,?_⟩)⟩)⟩;refine ⟨c.1.side,_,rfl,by omega,?_⟩;have:=k H3 XY;unfold pX nN at this;rw [hn] at this;simp only [qF hc] at this;rw [UH];exact this
def mw (y:aB) (p:bz) (f:List Nat):Bool:=p.2.all fun z=>!(Fk.isOne z.1.side&&pX y p f z.1 != z.1.side)
def Xj (K:Zqq) (t:Ad):Sp:=fun vs H Q _=>∃ (q r gp g lb la:Addr) (f:List Nat) (pz:uM) (p:bz) (z:kH) (y:aB) (D:Addr->Prop),vs=[.ref q,.ref r]/\B7 K t D H q gp g lb la pz p z y/\H r=some (.lst (vN f))/\f.length=p.1.length/\(∀ x ∈ p.2,Fk.isOne x.1.side=true->K6 y p f x.1)/\∀ H',aS H H'->Q (.bl (mw y p f)) H'
theorem MH:aQ ["self","row","said"] ["self","row"] (aF mG):=lT (by decide +kernel)
theorem UZ (T:Txt K mg t):bF P w K mg base mL 4 t.cJ t.ir ["self","row"] (Xj K t):=by
 have GS:=@UY P w K mg base t T;have GT:=@Fc P w K mg base t T;refine T.iE.ok MH (fun vs H Q E h=>?_) (fun cdv A outer s H vs Q E hr h=>?_)
 . obtain ⟨q,r,gp,g,lb,la,f,pz,p,z,y,D,rfl,_⟩:=h
   rfl
 . obtain ⟨q,r,gp,g,lb,la,f,pz,p,z,y,D,rfl,S,hf,fl,ok,k⟩:=h
   have hr1:dG 1 _:=hr.mono (by decide);refine ⟨_,ak (fj PassesOwn.never rfl (gD (aA (aA (pv 0) rfl) rfl)) (bu (i:=2) MH.nd rfl (Or.inl rfl))
       (az (kK (PW.pt (o6 (jl (b4 GT hr1 rfl T.Au T.qE.kp T.An .nil bE (af (aA (pv 2) rfl) au))) (lF (d9 vU (aW (pv 0) T.bB T.rM GS hr T.r8 .nil bE (af (pv 1) (af (pv 2) au))) (aA (pv 2) rfl) (cg _))))) (az (bc qN)) ee)))
     (az (bc qN)),?_⟩
   obtain ⟨dq,eq⟩:=S.obj;obtain ⟨dp,ep⟩:=S.pat.gr.obj;refine ⟨_,rfl,fld eq T.bB T.dU rfl (fld ep T.jg T.gM rfl ⟨pz.lb,rfl,⟨_,bI.of S.pat.gr.bonds⟩,?_⟩)⟩;let wN:L2.Iv:=fun i σ H'=>∃ v2,σ=[some (.ref q),some (.ref r),v2]/\aS H H'/\((p.2.drop i).all fun z=>!(Fk.isOne z.1.side&&pX y p f z.1 != z.1.side))=mw y p f;refine ph (K:=K) (a:=pz.lb) (xs:=pz.us) wN ⟨none,rfl,aS.refl _,rfl⟩ (fun i σ H' _ ⟨_,_,sm,_⟩=>bI.of (sm _ _ S.pat.gr.bonds)) ?_ ?_
   . rintro i x σ H' hx ⟨v2,rfl,sm,e⟩
     have hi:i < pz.us.length:=(List.getElem?_eq_some_iff.mp hx).1;obtain ⟨c,hc⟩:∃ c,p.2[i]?=some c:=⟨_,List.getElem?_eq_getElem (by rw [<- S.pat.bo.len];exact hi)⟩;obtain ⟨o,dx,rfl,dO,R⟩:=S.pat.bo.at_ i x c hx hc;have ed:p.2.drop i=c::p.2.drop (i+1):=by
       obtain ⟨hlt,hv'⟩:=List.getElem?_eq_some_iff.mp hc;rw [List.drop_eq_getElem_cons hlt,hv']
     rw [ed,List.all_cons] at e;refine ⟨_,rfl,fld (sm _ _ R) T.aZ T.cW rfl ?_⟩;refine ⟨c.1.side,rfl,fun H2 s2=>⟨_,rfl,?_⟩⟩;have Ih:=sm.trans s2;cases h1:Fk.isOne c.1.side with
     | false=>
       rw [h1] at e;exact p6 (p6 ⟨_,rfl,Ih,e⟩)
     | true=>
       rw [h1] at e;refine qP ?_;refine ⟨_,rfl,q,dq,_,rfl,Ih _ _ eq,rfl,_,rfl,_,rfl,?_⟩;refine ⟨q,r,o,gp,g,lb,la,f,pz,p,z,y,D,D,c,rfl,S.same Ih,Ih _ _ hf,fl,⟨o,dx,rfl,dO,Ih _ _ R⟩,ok c (List.mem_of_getElem? hc) h1,fun H3 s3=>?_⟩;have MZ:=Ih.trans s3;refine ⟨_,rfl,fld (MZ _ _ R) T.aZ T.cW rfl ⟨rfl,_,rfl,?_⟩⟩;rw [Cu];cases h2:(pX y p f c.1 != c.1.side) with
       | true=>
         rw [h2] at e;have e':false=mw y p f:=e;rw [<- e'] at k;exact qP (k _ MZ)
       | false=>
         rw [h2] at e;exact p6 ⟨_,rfl,MZ,e⟩
   . rintro σ H1 ⟨v2,rfl,sm,e⟩
     rw [show p.2.drop pz.us.length=[] from List.drop_eq_nil_of_le (by rw [S.pat.bo.len];exact Nat.le_refl _)] at e;rw [<- e] at k;exact k _ sm
end
def nO (p:bz) (k:Nat):List (PBond×Nat):=p.2.filter fun b=>b.1.b==k
def nP (y:aB) (p:bz) (i:Nat):List Nat:=match p.1[i]? with
 | some x=>Hl y x.1
 | none=>[]
def fK (y:aB) (p:bz):Nat->List (List Nat)
 | 0=>[[]]
 | i+1=>longer y (fK y p i) (nP y p i) (nO p i)
def uN (y:aB) (p:bz):List (List Nat):=(fK y p p.1.length).filter fun f=>mr y p f&&mw y p f
theorem MI (y:aB) (x:PAtom):(Hl y x).length<=y.1.length:=by
 unfold Hl;have:=List.length_filter_le (Cv y x) (List.range y.1.length);rw [List.length_range] at this;exact this
theorem Oh (y:aB) (p:bz) (i:Nat):(nP y p i).length<=y.1.length:=by
 unfold nP;cases p.1[i]? with
 | none=>simp
 | some x=>exact MI y x.1
theorem Oi {y:aB} {fs:List (List Nat)} {ws:List Nat} {bs:List (PBond×Nat)} {f:List Nat}:f ∈ longer y fs ws bs ↔ ∃ e ∈ fs,∃ w ∈ ws,e.contains w=false/\k7 y e w bs=true/\f=e++[w]:=by
 unfold longer more;rw [List.mem_flatMap];constructor
 . rintro ⟨e,he,h⟩
   obtain ⟨w,hw,rfl⟩:=List.mem_map.mp h;obtain ⟨h1,h2⟩:=List.mem_filter.mp hw;rw [Bool.and_eq_true,Bool.not_eq_true'] at h2;exact ⟨e,he,w,h1,h2.1,h2.2,rfl⟩
 . rintro ⟨e,he,w,hw,h1,h2,rfl⟩
   exact ⟨e,he,List.mem_map.mpr ⟨w,List.mem_filter.mpr ⟨hw,by rw [h1,h2];rfl⟩,rfl⟩⟩
theorem vQ {y:aB} {p:bz}:∀ (i:Nat) (f:List Nat),f ∈ fK y p i->f.length=i
 | 0,f,h=>by
  have:f=[]:=by simpa [fK] using h
  rw [this]
  rfl
 | i+1,f,h=>by
  obtain ⟨e,he,w,_,_,_,rfl⟩:=Oi.mp (show f ∈ longer y (fK y p i) (nP y p i) (nO p i) from h)
  rw [List.length_append,vQ i e he]
  rfl
theorem CW {y:aB} {p:bz} (h9:y.1.length<=9):∀ i,(fK y p i).length<=9 ^ i
 | 0=>by simp [fK]
 | i+1=>by
  have ih:=CW (p:=p) h9 i
  have a:=zY y (nP y p i) (nO p i) (fK y p i)
  have b:=Oh y p i
  have c:(fK y p i).length * (nP y p i).length<=9 ^ i * 9:=Nat.mul_le_mul ih (by omega)
  have e:fK y p (i+1)=longer y (fK y p i) (nP y p i) (nO p i):=rfl
  rw [e,Nat.pow_succ]
  omega
theorem vR {y:aB} {p:bz} (h9:y.1.length<=9) {i:Nat} (hi:i<=5):(fK y p i).length<=59049:=by
 have a:=CW (p:=p) h9 i;have b:9 ^ i<=9 ^ 5:=Nat.pow_le_pow_right (by decide) hi;have:9 ^ 5=59049:=by decide
 omega
structure Va (y:aB) (p:bz):Prop where
 n9:y.1.length<=9
 k5:p.1.length<=5
 how:∀ b ∈ p.2,b.1.how<=1
 abo:∀ f ∈ fK y p p.1.length,∀ k x,p.1[k]?=some x->Fk.isOne x.1.hand=true->K5 y p f k
 abp:∀ f ∈ fK y p p.1.length,∀ x ∈ p.2,Fk.isOne x.1.side=true->K6 y p f x.1
section
def ZO (K:Zqq) (t:Ad):Sp:=fun vs H Q _=>∃ (gp g:Addr) (pz:uM) (p:bz) (z:kH) (y:aB) (D:Addr->Prop),vs=[.ref gp,.ref g]/\By K t D H gp pz.la pz.lb pz.lr pz.as pz.us pz.rs p/\mV t D H g z y/\gc y/\Va y p /\
 ∀ H' l rs,aS H H'->H l=none->H' l=some (.lst rs)->cR qG (fun b=>H b=none) H' rs (uN y p)->Q (.ref l) H'
theorem oZ:aQ ["pattern","molecule","search","rows","k","said","bonds_back","bond","row"] ["pattern","molecule"] (aF BN):=lT (by decide +kernel)
theorem Xk (T:Txt K mg t):bF P w K mg base mL 5 t.oG t.u0 ["pattern","molecule"] (ZO K t):=by
 have GI:=@UR P w K mg base t T;have GL:=@Xd P w K mg base t T;have GM:=@abm P w K mg base t T;have GH:=@UW P w K mg base t T;have GS:=@UZ P w K mg base t T;refine T.qJ.ok oZ (fun vs H Q E h=>?_) (fun cdv A outer s H vs Q E hr h=>?_)
 . obtain ⟨gp,g,pz,p,z,y,D,rfl,_⟩:=h
   rfl
 . obtain ⟨gp,g,pz,p,z,y,D,rfl,Pa,M,gy,ok,k⟩:=h
   have Ma:dG 3 _:=hr.mono (by decide);refine ⟨_,ak (aR (i:=2) oZ.nd rfl (Or.inr rfl) (qz T.Ls GI hr rfl T.Lr T.ze .nil bE (af (pv 0) (af (pv 1) au))))
     (ak (aR (i:=3) oZ.nd rfl (Or.inl rfl) (kC (af (kC au) au)))
     (ak (fj PassesOwn.never rfl (sZ rfl T.jk (af (aA (pv 0) rfl) au)) (wR rfl (gn (bu (i:=4) oZ.nd rfl (Or.inr rfl)) (gn (bu (i:=5) oZ.nd rfl (Or.inl rfl)) sV)))
       (ak (xg (i:=6) rfl oZ.nd rfl rfl rfl (gD (aA (pv 0) rfl)) (jv (own:=[("bond",7)]) rfl) (fun _ _ _ _ _=>bu (i:=7) oZ.nd rfl (Or.inl rfl)) (fun _ _ _ _ _=>sY (d9 nV (DM (K0:=K) rfl (pv 7) rfl) (pv 4) (cg _))) (fun _ _ _ _ _=>pv 7))
       (az (aR (i:=3) oZ.nd rfl (Or.inl rfl) (aW (pv 2) T.bB T.pM GL hr T.pH .nil bE (af (pv 3) (af (aW (pv 2) T.bB T.rH GM Ma T.rj .nil bE (af (pv 5) au)) (af (pv 6) au))))))))
     (az (bc (C4 rfl oZ.nd (gD (pv 3)) (jv (own:=[("row",8)]) rfl) (fun _ _ _ _ _=>bu (i:=8) oZ.nd rfl (Or.inl rfl)) (fun _ _ _ _ _=>sY (PW.pt (o6 (jl (aW (pv 2) T.bB T.rJ GH Ma T.rm .nil bE (af (pv 8) au))) (lF (jl (aW (pv 2) T.bB T.rL GS hr T.r6 .nil bE (af (pv 8) au))))))) (fun _ _ _ _ _=>pv 8)))))),?_⟩
   obtain ⟨dp,ep⟩:=Pa.gr.obj;have pl:pz.as.length=p.1.length:=Pa.at_.len;have n9:=ok.n9;have k5:=ok.k5;have Pk:=qG.ok;have Vl:=yi.ok t.aP;have W5:=Bh.ok t.aO;refine ⟨_,rfl,_,rfl,fun q dq nq ndq ne=>?_⟩;have sm0:aS H (upd (upd H dq (.own q)) q (.ins t.aX dq [])):=fun b u e=>by rw [aq (ay e nq),aq (ay e ndq)];exact e
   refine ⟨q,dq,gp,g,z,y,D,H,rfl,ai,sm0,nq,M,gy,fun H1 lrb lra s1 eq hrb zS=>⟨rfl,?_⟩⟩;have S:B7 K t D H1 q gp g lrb lra pz p z y:=⟨⟨dq,eq⟩,Pa.same s1,M.same s1,gy,hrb,zS⟩;refine ⟨Nat.zero_le _,fun p0 hp0=>?_⟩;have s2:aS H1 (upd H1 p0 (.lst [])):=aK hp0;refine ⟨(by show 1<=sizeLine;decide),fun l0 XI=>?_⟩;have s3:=s2.trans (aK (o:=.lst [.ref p0]) XI);have p0l:p0 ≠ l0:=fun e=>by rw [<- e,ai] at XI;cases XI
   have R0:cR qG (fun b=>H b=none) (upd (upd H1 p0 (.lst [])) l0 (.lst [.ref p0])) [.ref p0] (fK y p 0):=by
     have:=cR.snoc (Rep:=qG) (D:=fun b=>H b=none) (H:=upd (upd H1 p0 (.lst [])) l0 (.lst [.ref p0])) (v:=.ref p0) (z:=[]) cR.nil ⟨p0,rfl,s1.free hp0,by rw [aq p0l];exact ai⟩;exact this
   refine ⟨_,rfl,fld (s3 _ _ (s1 _ _ ep)) T.jg T.gK rfl ⟨pz.la,pz.as,rfl,bI.of (s3 _ _ (s1 _ _ Pa.gr.atoms)),?_⟩⟩;let wN:L2.Iv:=fun i σ H'=>∃ v4 v5 v6 lr rs,σ=[some (.ref gp),some (.ref g),some (.ref q),some (.ref lr),v4,v5,v6,none,none]/\aS H1 H'/\H' lr=some (.lst rs)/\cR qG (fun b=>H b=none) H' rs (fK y p i);refine pQ (K:=K) (a:=pz.la) (xs:=pz.as) wN ⟨none,none,none,l0,_,rfl,s3,ai,R0⟩ (fun i σ H' _ ⟨_,_,_,_,_,_,sm,_⟩=>bI.of (sm _ _ (s1 _ _ Pa.gr.atoms))) ?_ ?_
   . rintro i x σ H' Tt hx ⟨v4,v5,v6,lr,rs,rfl,sm,hlr,R⟩ hT
     have hi:i < pz.as.length:=(List.getElem?_eq_some_iff.mp hx).1;obtain ⟨c,hc⟩:∃ c,p.1[i]?=some c:=⟨_,List.getElem?_eq_getElem (by omega)⟩;have rx:=Pa.at_.at_ i x c hx hc;obtain ⟨o,dx,ln,tc,th,tn,tt,rfl,Rx⟩:=rx;have rx':Bh t.aO D H (.ref o) c:=⟨o,dx,ln,tc,th,tn,tt,rfl,Rx⟩;have sT':aS H' (upd H' Tt (.tup [.int (i:Int),.ref o])):=aK hT;have sT:=sm.trans sT';refine ⟨Tt,_,rfl,nU.of ai,rfl,_,_,rfl,_,_,rfl,rfl,?_⟩;refine ⟨_,rfl,fld (sT _ _ (s1 _ _ ep)) T.jg T.gM rfl ⟨pz.lb,rfl,⟨_,bI.of (sT _ _ (s1 _ _ Pa.gr.bonds))⟩,fun D2 UO=>?_⟩⟩;refine mY (K:=K) (a:=pz.lb) (xs:=pz.us) (fun j H2=>aS (upd H' Tt (.tup [.int (i:Int),.ref o])) H2/\∃ XZ,H2 D2=some (.lst XZ)/\cR (yi t.aP) D H XZ ((p.2.take j).filter fun b=>b.1.b==i)) ⟨aK UO,[],ai,cR.nil⟩ (fun j H2 _ ⟨s2,_⟩=>bI.of (s2 _ _ (sT _ _ (s1 _ _ Pa.gr.bonds)))) ?_ ?_
     . rintro j x2 H2 Ud ⟨sj,XZ,ZL,R2⟩
       have hj:j < pz.us.length:=(List.getElem?_eq_some_iff.mp Ud).1;have ul:pz.us.length=p.2.length:=Pa.bo.len;obtain ⟨b,hb⟩:∃ b,p.2[j]?=some b:=⟨_,List.getElem?_eq_getElem (by omega)⟩;obtain ⟨ob,db,rfl,dO,Rb⟩:=Pa.bo.at_ j x2 b Ud hb;have nb:=Pa.nb;refine ⟨rfl,_,rfl,fld (sj _ _ (sT _ _ (s1 _ _ Rb))) T.aZ T.dz rfl ⟨_,rfl,rfl,_,rfl,?_⟩⟩;rw [oU];refine zp (fun hb2=>?_) (fun hb2=>?_)
       . refine ⟨_,rfl,XZ,ZL,?_,fun b' u e=>by rw [aq (ay e UO)];exact sj b' u e,XZ++[.ref ob],ai,?_⟩
         . have q1:=List.length_filter_le (fun b:PBond×Nat=>b.1.b==i) (p.2.take j)
           rw [List.length_take] at q1;rw [R2.len,sizeLine_eq];omega
         . rw [take_snoc hb,List.filter_append]
           simp only [List.filter_cons,hb2,if_true,List.filter_nil];exact R2.snoc ⟨ob,db,rfl,dO,Rb⟩
       . refine ⟨sj,XZ,ZL,?_⟩
         rw [take_snoc hb,List.filter_append];simp only [List.filter_cons,hb2,if_false,List.filter_nil,List.append_nil,Bool.false_eq_true];exact R2
     . rintro H2 ⟨sj,XZ,ZL,R2⟩
       rw [show p.2.take pz.us.length=p.2 from List.take_of_length_le (by rw [Pa.bo.len];exact Nat.le_refl _)] at R2;have s2':aS H1 H2:=sT.trans sj;have Na:=s1.trans s2';have R2':cR qG (fun b=>H b=none) H2 rs (fK y p i):=R.stay Pk fun b u _ h=>sj _ _ (sT' _ _ h);refine ⟨_,rfl,q,dq,_,rfl,s2' _ _ eq,rfl,_,rfl,_,rfl,q,dq,_,rfl,s2' _ _ eq,rfl,_,rfl,?_⟩;refine ⟨q,o,gp,g,lrb,lra,pz,p,z,y,D,D,c,rfl,S.same s2',W5.stay rx' (fun b u _ h=>Na _ _ h),fun H3 li s3 nli hli=>?_⟩;have ZP:=s2'.trans s3;have XY:=s1.trans ZP;have ei:nP y p i=Hl y c.1:=by unfold nP;rw [hc]
       have sz:=vR (p:=p) n9 (i:=i) (by omega);have il:=MI y c.1;refine ⟨_,rfl,?_⟩;refine ⟨q,lr,li,D2,gp,g,lrb,lra,rs,XZ,fK y p i,Hl y c.1,nO p i,pz,p,z,y,D,_,D,rfl,S.same ZP,s3 _ _ (sj _ _ (sT' _ _ hlr)),R2'.stay Pk (fun b u _ h=>s3 _ _ h),hli,s3 _ _ ZL,R2.stay Vl (fun b u _ h=>XY _ _ h),fun b hb=>?_,fun f hf=>?_,?_,fun H4 l4 rs4 s4 nl4 W2 R4=>?_⟩
       . obtain ⟨b1,b2⟩:=List.mem_filter.mp hb
         refine ⟨ok.how b b1,fun f hf=>?_⟩;rw [vQ i f hf];have:=(Pa.rise.1 (JM.c9 b) (List.mem_map_of_mem b1)).1;have e:b.1.b=i:=beq_iff_eq.mp b2;have q:b.1.a < b.1.b:=this;omega
       . rw [vQ i f hf]
         omega
       . have:(fK y p i).length * (Hl y c.1).length<=59049 * 9:=Nat.mul_le_mul sz (by omega)
         omega
       . refine ⟨_,_,_,l4,rs4,rfl,ZP.trans s4,W2,?_⟩
         have e:fK y p (i+1)=longer y (fK y p i) (Hl y c.1) (nO p i):=by
           rw [<- ei];rfl
         rw [e];exact R4.mono Pk fun b d=>XY.free d
   . rintro σ H2 ⟨v4,v5,v6,lr,rs,rfl,sm,hlr,R⟩
     rw [pl] at R;have Na:=s1.trans sm;have sz:=vR (p:=p) n9 (i:=p.1.length) k5;refine ⟨_,rfl,lr,rfl,⟨_,bI.of hlr⟩,fun l hl=>?_⟩;have XI:H l=none:=Na.free hl;refine mY (K:=K) (a:=lr) (xs:=rs) (fun j H3=>aS H2 H3/\∃ Ry,H3 l=some (.lst Ry)/\cR qG (fun b=>H b=none/\b ≠ l) H3 Ry (((fK y p p.1.length).take j).filter fun f=>mr y p f&&mw y p f)) ⟨aK hl,[],ai,cR.nil⟩ (fun j H3 _ ⟨s3,_⟩=>bI.of (s3 _ _ hlr)) ?_ ?_
     . rintro j x H3 hx ⟨s3,Ry,hl3,R3⟩
       have hj:j < rs.length:=(List.getElem?_eq_some_iff.mp hx).1;have rl:=R.len;obtain ⟨f,hf⟩:∃ f,(fK y p p.1.length)[j]?=some f:=⟨_,List.getElem?_eq_getElem (by omega)⟩;have fm:=List.mem_of_getElem? hf;obtain ⟨ra,rfl,dR,hR⟩:=R.at_ j x f hx hf;have ral:ra ≠ l:=fun e=>by rw [e,hl] at hR;cases hR
       have fl:f.length=p.1.length:=vQ _ f fm;have ZP:=sm.trans s3;refine ⟨rfl,?_⟩;refine ⟨_,rfl,q,dq,_,rfl,ZP _ _ eq,rfl,_,rfl,?_⟩;refine ⟨q,ra,gp,g,lrb,lra,f,pz,p,z,y,D,rfl,S.same ZP,s3 _ _ hR,fl,fun k x hk ho=>ok.abo f fm k x hk ho,fun H4 s4=>⟨_,rfl,?_⟩⟩;have stay:∀ {H5:Hp},aS H3 H5->(mr y p f&&mw y p f)=false->aS H2 H5/\∃ Ry,H5 l=some (.lst Ry)/\cR qG (fun b=>H b=none/\b ≠ l) H5 Ry (((fK y p p.1.length).take (j+1)).filter fun f=>mr y p f&&mw y p f):=fun {H5} s5 hn=>⟨s3.trans s5,Ry,s5 _ _ hl3,by
         rw [take_snoc hf,List.filter_append];simp only [List.filter_cons,hn,if_false,List.filter_nil,List.append_nil,Bool.false_eq_true];exact R3.stay Pk fun b u _ h=>s5 _ _ h⟩
       cases h1:mr y p f with
       | false=>exact p6 (p6 (stay s4 (by rw [h1];rfl)))
       | true=>
         refine qP ?_;have s14:=ZP.trans s4;refine ⟨_,rfl,q,dq,_,rfl,s14 _ _ eq,rfl,_,rfl,?_⟩;refine ⟨q,ra,gp,g,lrb,lra,f,pz,p,z,y,D,rfl,S.same s14,s4 _ _ (s3 _ _ hR),fl,fun x hx ho=>ok.abp f fm x hx ho,fun H5 s5=>⟨_,rfl,?_⟩⟩;have Xe:=s4.trans s5;cases h2:mw y p f with
         | false=>exact p6 (stay Xe (by rw [h1,h2];rfl))
         | true=>
           refine qP ?_;refine ⟨_,rfl,Ry,Xe _ _ hl3,?_,fun b u e=>by rw [aq (ay e hl)];exact Xe _ _ (s3 b u e),Ry++[.ref ra],ai,?_⟩
           . have q1:=List.length_filter_le (fun f=>mr y p f&&mw y p f) ((fK y p p.1.length).take j)
             rw [List.length_take] at q1;rw [R3.len,sizeLine_eq];omega
           . rw [take_snoc hf,List.filter_append]
             simp only [List.filter_cons,h1,h2,Bool.and_self,if_true,List.filter_nil];refine ((R3.stay Pk fun b u _ h=>Xe _ _ h).snoc ⟨ra,rfl,⟨dR,ral⟩,Xe _ _ (s3 _ _ hR)⟩).stay Pk fun b u d h=>?_;rw [aq d.2];exact h
     . rintro H3 ⟨s3,Ry,hl3,R3⟩
       rw [R.len,List.take_length] at R3;exact k H3 l Ry (Na.trans s3) XI hl3 (R3.mono Pk fun b d=>d.1)
end
open Fk (Fault Bytes Atom Bond Mol PAtom PBond Part)
theorem FF {α β:Type} {f g:α->List β}:∀ {l:List α},(∀ x ∈ l,f x=g x)->l.flatMap f=l.flatMap g
 | [],_=>rfl
 | x::l,h=>by rw [List.flatMap_cons,List.flatMap_cons,h x (by simp),FF fun y hy=>h y (by simp [hy])]
abbrev sg (y:aB):Fk.Sight:=(aE y).sight
def oz (y:aB) (p:bz) (f:List Nat):List (List Nat):=((List.range y.1.length).filter fun w=>!f.contains w&&Fk.goesOn (br p) (sg y) (f++[w])).map fun w=>f++[w]
def iter (y:aB) (p:bz):Nat->List (List Nat)->List (List Nat)
 | 0,fs=>fs
 | k+1,fs=>(iter y p k fs).flatMap (oz y p)
theorem Ik (y:aB) (p:bz):∀ (k:Nat) (fs:List (List Nat)),iter y p k fs=fs.flatMap fun g=>iter y p k [g]
 | 0,fs=>by simp [iter]
 | k+1,fs=>by
  show (iter y p k fs).flatMap (oz y p)=fs.flatMap fun g=>(iter y p k [g]).flatMap (oz y p)
  rw [Ik y p k fs,List.flatMap_assoc]
theorem Il (y:aB) (p:bz):∀ (k:Nat) (fs:List (List Nat)),iter y p (k+1) fs=iter y p k (fs.flatMap (oz y p))
 | 0,fs=>rfl
 | k+1,fs=>by
  show (iter y p (k+1) fs).flatMap (oz y p)=(iter y p k (fs.flatMap (oz y p))).flatMap (oz y p)
  rw [Il y p k fs]
theorem FG (y:aB) (p:bz):∀ (k:Nat) (f:List Nat),Fk.foundFrom (br p) (sg y) k f=(iter y p k [f]).filter (Fk.isPlace (br p) (sg y))
 | 0,f=>by
  show (if Fk.isPlace (br p) (sg y) f=true then [f] else [])=[f].filter _
  rw [List.filter_cons,List.filter_nil]
 | k+1,f=>by
  have e:(sg y).mol.n=y.1.length:=yw y
  have l:Fk.foundFrom (br p) (sg y) (k+1) f=(oz y p f).flatMap (Fk.foundFrom (br p) (sg y) k):=by
   show ((List.range (sg y).mol.n).flatMap fun (w:Nat)=>if f.contains w=true\/Fk.goesOn (br p) (sg y) (f++[w])=false then [] else Fk.foundFrom (br p) (sg y) k (f++[w]))=_;rw [e];unfold oz;generalize List.range y.1.length=R;induction R with
   | nil=>rfl
   | cons w R ih=>
    rw [List.flatMap_cons,ih,List.filter_cons];cases h1:f.contains w<;>cases h2:Fk.goesOn (br p) (sg y) (f++[w])<;>simp
  rw [l,Il,Ik,List.filter_flatMap];rw [show [f].flatMap (oz y p)=oz y p f by simp];exact FF fun g _=>FG y p k g
def uf (y:aB) (g:List Nat) (w:Nat) (b:PBond×Nat):Bool:=match (aE y).bondAt (Fk.image g b.1.a) w with
 | some k=>b.1.fits (sg y) k
 | none=>false
def sN (y:aB) (g:List Nat) (w:Nat) (b:PBond×Nat):Bool:=match (aE y).bondAt (Fk.image g b.1.a) w with
 | some k=>iJ b.1.side (nN y k)
 | none=>true
def nQ (y:aB) (p:bz) (i:Nat) (g:List Nat):Bool:=(match p.1[i]? with
 | some x=>iJ x.1.hand ((aE y).atom (Fk.image g i)).hand
 | none=>true)&&(nO p i).all (sN y g (Fk.image g i))
def nR (y:aB) (p:bz) (i:Nat) (g:List Nat):Bool:=(List.range i).all fun j=>nQ y p j g
theorem qM {f:List Nat} {w v:Nat} (h:v < f.length):Fk.image (f++[w]) v=Fk.image f v:=by
 unfold Fk.image;rw [List.getD,List.getD,List.getElem?_append_left h]
theorem oV (f:List Nat) (w:Nat):Fk.image (f++[w]) f.length=w:=by
 unfold Fk.image;rw [List.getD,List.getElem?_append_right (Nat.le_refl _)];simp
structure jE (p:bz):Prop where
 k5:p.1.length<=5
 rise:JM.ng p.1.length (p.2.map JM.c9)
 how:∀ b ∈ p.2,b.1.how<=1
 Vb:∀ x ∈ p.1,x.1.hand<=3
 abq:∀ b ∈ p.2,b.1.side<=3
 handed:∀ (k:Nat) x,p.1[k]?=some x->Fk.isOne x.1.hand=true->(JM.bG (p.2.map JM.c9) k).length=3\/(JM.bG (p.2.map JM.c9) k).length=4
 sided:∀ x ∈ p.2,Fk.isOne x.1.side=true->Vn p x.1.a x.1.b ≠ []/\Vn p x.1.b x.1.a ≠ []
structure pY (y:aB):Prop where
 good:gc y
 n9:y.1.length<=9
 handed:∀ (v:Nat) a,y.1[v]?=some a->a.1.hand ≠ 0->(JM.bG (y.2.map JM.aU) v).length=3\/(JM.bG (y.2.map JM.aU) v).length=4
 sided:∀ (k:Nat) c,y.2[k]?=some c->c.1.side ≠ 0->ZM y c.1.a c.1.b ≠ []/\ZM y c.1.b c.1.a ≠ []
theorem Cy {p:bz} (g:jE p) {i:Nat} {b:PBond×Nat} (h:b ∈ nO p i):b ∈ p.2/\b.1.b=i/\b.1.a < i:=by
 obtain ⟨h1,h2⟩:=List.mem_filter.mp h;have e:b.1.b=i:=beq_iff_eq.mp h2;have:b.1.a < b.1.b:=(g.rise.1 (JM.c9 b) (List.mem_map_of_mem h1)).1;exact ⟨h1,e,by omega⟩
theorem Vc {y:aB} {p:bz} (g:jE p) {f:List Nat} {w j:Nat} (h:j < f.length):nQ y p j (f++[w])=nQ y p j f:=by
 unfold nQ;rw [qM h];congr 1;rw [Bool.eq_iff_iff,List.all_eq_true,List.all_eq_true];refine forall_congr' fun b=>forall_congr' fun hb=>?_;unfold sN;rw [qM (by have:=Cy g hb;omega)]
theorem MJ {y:aB} {p:bz} (g:jE p) (f:List Nat) (w:Nat):nR y p (f.length+1) (f++[w])=(nR y p f.length f&&nQ y p f.length (f++[w])):=by
 unfold nR;rw [List.range_succ,List.all_append];congr 1
 . rw [Bool.eq_iff_iff,List.all_eq_true,List.all_eq_true]
   refine forall_congr' fun j=>forall_congr' fun hj=>?_;rw [Vc g (List.mem_range.mp hj)]
 . simp
theorem FI (p:bz):(br p).bonds=p.2.map fun z=>z.1:=rfl
theorem FL (p:bz):(br p).atoms=p.1.map fun z=>z.1:=rfl
theorem Po {y:aB} {p:bz} {f:List Nat} {w:Nat} {x:PAtom×Nat} (hx:p.1[f.length]?=some x):Fk.goesOn (br p) (sg y) (f++[w])=(x.1.fits (sg y) w&&(nO p f.length).all (uf y (f++[w]) w)):=by
 unfold Fk.goesOn;have e1:(f++[w]).length - 1=f.length:=by simp
 simp only [e1];rw [FL,List.getElem?_map,hx];simp only [Option.map_some,oV];congr 1;unfold nO;rw [FI,List.all_map,Bool.eq_iff_iff,List.all_eq_true,List.all_eq_true];constructor
 . intro h b hb
   obtain ⟨h1,h2⟩:=List.mem_filter.mp hb;have:=h b h1;have e:b.1.b=f.length:=beq_iff_eq.mp h2;simp only [Function.comp,e,oV,bne_self_eq_false,Bool.false_or] at this;exact this
 . intro h b hb
   by_cases e:b.1.b=f.length
   . have:=h b (List.mem_filter.mpr ⟨hb,beq_iff_eq.mpr e⟩)
     simp only [Function.comp,e,oV,bne_self_eq_false,Bool.false_or];exact this
   . have:(b.1.b != f.length)=true:=bne_iff_ne.mpr e
     simp only [Function.comp,this,Bool.true_or]
theorem step_eq {y:aB} {p:bz} (g:jE p) {f:List Nat} {x:PAtom×Nat} (hx:p.1[f.length]?=some x):more y (nO p f.length) f (nP y p f.length)=(oz y p f).filter (nQ y p f.length):=by
 have ei:nP y p f.length=Hl y x.1:=by unfold nP;rw [hx]
 rw [ei];unfold more Hl oz;rw [List.filter_filter,List.filter_map,List.filter_filter];congr 1;refine List.filter_congr fun w _=>?_;rw [Po hx];unfold nQ Cv;simp only [Function.comp,hx,oV];have ea:k7 y f w (nO p f.length)=((nO p f.length).all (uf y (f++[w]) w)&&(nO p f.length).all (sN y (f++[w]) w)):=by
   unfold k7;rw [Bool.eq_iff_iff,Bool.and_eq_true,List.all_eq_true,List.all_eq_true,List.all_eq_true];have one:∀ b ∈ nO p f.length,tQ y f w b.1=(uf y (f++[w]) w b&&sN y (f++[w]) w b):=fun b hb=>by
     unfold tQ uf sN;rw [qM (by have:=Cy g hb;omega)];cases (aE y).bondAt (Fk.image f b.1.a) w<;>rfl
   constructor
   . intro h
     constructor<;>intro b hb
     . have:=h b hb
       rw [one b hb,Bool.and_eq_true] at this;exact this.1
     . have:=h b hb
       rw [one b hb,Bool.and_eq_true] at this;exact this.2
   . rintro ⟨h1,h2⟩ b hb
     rw [one b hb,h1 b hb,h2 b hb];rfl
 rw [ea];generalize x.1.fits (sg y) w=q1;generalize iJ x.1.hand _=q2;generalize f.contains w=q3;generalize (nO p f.length).all (uf y (f++[w]) w)=q4;generalize (nO p f.length).all (sN y (f++[w]) w)=q5;cases q1<;>cases q2<;>cases q3<;>cases q4<;>cases q5<;>rfl
theorem MK {y:aB} {p:bz}:∀ (i:Nat) (f:List Nat),f ∈ iter y p i [[]]->f.length=i
 | 0,f,h=>by
  have:f=[]:=by simpa [iter] using h
  rw [this]
  rfl
 | i+1,f,h=>by
  obtain ⟨e,he,h2⟩:=List.mem_flatMap.mp (show f ∈ (iter y p i [[]]).flatMap (oz y p) from h)
  obtain ⟨w,_,rfl⟩:=List.mem_map.mp h2
  rw [List.length_append,MK i e he]
  rfl
theorem uO {y:aB} {p:bz} (g:jE p):∀ i,i<=p.1.length->fK y p i=(iter y p i [[]]).filter (nR y p i)
 | 0,_=>rfl
 | i+1,hi=>by
   have ih:=uO (y:=y) g i (by omega)
   show longer y (fK y p i) (nP y p i) (nO p i)=((iter y p i [[]]).flatMap (oz y p)).filter _
   unfold longer
   rw [ih,List.filter_flatMap]
   have hl:=MK (y:=y) (p:=p) i
   generalize iter y p i [[]]=fs at hl
   induction fs with
   | nil=>rfl
   | cons f fs ihf=>
     have fl:f.length=i:=hl f (by simp)
     obtain ⟨x,hx⟩:∃ x,p.1[f.length]?=some x:=⟨_,List.getElem?_eq_getElem (by omega)⟩
     rw [List.filter_cons,List.flatMap_cons,<- ihf fun e he=>hl e (by simp [he])]
     have es:(oz y p f).filter (nR y p (i+1))=if nR y p i f=true then more y (nO p i) f (nP y p i) else []:=by
       rw [<- fl,step_eq g hx];unfold oz;rw [List.filter_map,List.filter_map];have ec:∀ w,(nR y p (f.length+1) ∘ fun w=>f++[w]) w=(nR y p f.length f&&nQ y p f.length (f++[w])):=fun w=>MJ g f w;cases ht:nR y p f.length f with
       | true=>
         rw [if_pos rfl];congr 1;refine List.filter_congr fun w _=>?_;rw [ec,ht];rfl
       | false=>
         rw [if_neg (by simp)];have:(((List.range y.1.length).filter fun w=>!f.contains w&&Fk.goesOn (br p) (sg y) (f++[w])).filter (nR y p (f.length+1) ∘ fun w=>f++[w]))=[]:=by
           rw [List.filter_eq_nil_iff];intro w _;rw [ec,ht];simp
         rw [this];rfl
     rw [es];split
     . rw [List.flatMap_cons]
     . rfl
structure tR (y:aB) (p:bz) (i:Nat) (f:List Nat):Prop where
 len:f.length=i
 nd:f.Nodup
 lt:∀ v ∈ f,v < y.1.length
 at_:∀ (j:Nat) x,j < i->p.1[j]?=some x->x.1.fits (sg y) (Fk.image f j)=true
 bo:∀ b ∈ p.2,b.1.b < i->uf y f (Fk.image f b.1.b) b=true
theorem Oj {y:aB} {p:bz} (g:jE p) {f:List Nat} {w v:Nat} {b:PBond×Nat} (hb:b ∈ p.2) (h:b.1.b < f.length):uf y (f++[w]) v b=uf y f v b:=by
 unfold uf;have:b.1.a < b.1.b:=(g.rise.1 (JM.c9 b) (List.mem_map_of_mem hb)).1;rw [qM (by omega)]
theorem FN {y:aB} {p:bz} (g:jE p):∀ (i:Nat),i<=p.1.length->∀ f,f ∈ iter y p i [[]]->tR y p i f
 | 0,_,f,h=>by
   have:f=[]:=by simpa [iter] using h
   subst this
   exact ⟨rfl,by simp,by simp,fun j x hj=>by omega,fun b _ hb=>by omega⟩
 | i+1,hi,f,h=>by
   obtain ⟨e,he,h2⟩:=List.mem_flatMap.mp (show f ∈ (iter y p i [[]]).flatMap (oz y p) from h)
   obtain ⟨w,hw,rfl⟩:=List.mem_map.mp h2
   have ih:=FN (y:=y) g i (by omega) e he
   obtain ⟨h3,h4⟩:=List.mem_filter.mp hw
   rw [Bool.and_eq_true,Bool.not_eq_true'] at h4
   obtain ⟨h5,h6⟩:=h4
   have el:=ih.len
   obtain ⟨x,hx⟩:∃ x,p.1[e.length]?=some x:=⟨_,List.getElem?_eq_getElem (by omega)⟩
   rw [Po hx,Bool.and_eq_true] at h6
   have wn:w ∉ e:=fun q=>by rw [List.contains_iff_mem.mpr q] at h5;cases h5
   refine ⟨by rw [List.length_append,el];rfl,?_,fun v hv=>?_,fun j x' hj hx'=>?_,fun b hb hbi=>?_⟩
   . rw [List.nodup_append]
     exact ⟨ih.nd,by simp,fun a ha c hc=>by
       simp at hc
       subst hc
       exact fun q=>wn (q ▸ ha)⟩
   . rcases List.mem_append.mp hv with hv | hv
     . exact ih.lt v hv
     . simp at hv
       subst hv
       exact List.mem_range.mp h3
   . by_cases q:j < i
     . rw [qM (by omega)]
       exact ih.at_ j x' q hx'
     . have ej:j=e.length:=by omega
       subst ej
       rw [hx] at hx'
       cases hx'
       rw [oV]
       exact h6.1
   . by_cases q:b.1.b < i
     . rw [qM (by omega),Oj g hb (by omega)]
       exact ih.bo b hb q
     . have ej:b.1.b=e.length:=by omega
       rw [ej,oV]
       exact List.all_eq_true.mp h6.2 b (List.mem_filter.mpr ⟨hb,beq_iff_eq.mpr ej⟩)
theorem tR.bond {y:aB} {p:bz} {f:List Nat} (g:jE p) (r:tR y p p.1.length f) {b:PBond×Nat} (hb:b ∈ p.2):∃ k,(aE y).bondAt (Fk.image f b.1.a) (Fk.image f b.1.b)=some k/\b.1.fits (sg y) k=true:=by
 have hlt:b.1.b < p.1.length:=(g.rise.1 (JM.c9 b) (List.mem_map_of_mem hb)).2;have:=r.bo b hb hlt;unfold uf at this;cases q:(aE y).bondAt (Fk.image f b.1.a) (Fk.image f b.1.b) with
 | none=>rw [q] at this;cases this
 | some k=>rw [q] at this;exact ⟨k,rfl,this⟩
theorem tR.img {y:aB} {p:bz} {f:List Nat} {i:Nat} (r:tR y p i f) {v:Nat} (h:v < i):Fk.image f v < y.1.length:=by
 have e:=r.len;have:=jD (f:=f) (v:=v) (by omega);exact r.lt _ (List.mem_of_getElem? this)
theorem tR.inj {y:aB} {p:bz} {f:List Nat} {i:Nat} (r:tR y p i f) {u v:Nat} (hu:u < i) (hv:v < i) (e:Fk.image f u=Fk.image f v):u=v:=by
 have l:=r.len;have h1:=jD (f:=f) (v:=u) (by omega);have h2:=jD (f:=f) (v:=v) (by omega);rw [e] at h1;obtain ⟨a1,a2⟩:=List.getElem?_eq_some_iff.mp h1;obtain ⟨b1,b2⟩:=List.getElem?_eq_some_iff.mp h2;exact (List.getElem_inj r.nd).mp (a2.trans b2.symm)
theorem ug {y:aB} {v w k:Nat} (h:(aE y).bondAt v w=some k):∃ c,y.2[k]?=some c/\c.1.joins v w=true/\(aE y).joined v w=true:=by
 have h':(y.2.map fun z=>z.1).findIdx? (fun x=>x.joins v w)=some k:=h;rw [List.findIdx?_map] at h';obtain ⟨h1,h2,_⟩:=List.findIdx?_eq_some_iff_getElem.mp h';refine ⟨y.2[k],List.getElem?_eq_getElem h1,h2,(JM.oS v w).mpr ⟨y.2[k].1,?_,h2⟩⟩;show y.2[k].1 ∈ y.2.map fun z=>z.1;exact List.mem_map_of_mem (List.getElem_mem h1)
theorem Xl {y:aB} (m:pY y) {v w k:Nat} (h:(aE y).bondAt v w=some k):w ∈ JM.bG (y.2.map JM.aU) v/\v ∈ JM.bG (y.2.map JM.aU) w:=by
 obtain ⟨c,_,_,j⟩:=ug h;have lt:=JM.qL m.good.good j;refine ⟨(DP m.good).mpr ⟨lt.2.1,j⟩,(DP m.good).mpr ⟨lt.1,?_⟩⟩;rw [JM.Fq];exact j
theorem Pp {y:aB} {p:bz} (g:jE p) (m:pY y) {f:List Nat} (r:tR y p p.1.length f) {k:Nat}:∀ u ∈ FD p f k,u ∈ JM.bG (y.2.map JM.aU) (Fk.image f k):=by
 intro u hu;obtain ⟨j,hj,rfl⟩:=List.mem_map.mp hu;obtain ⟨q,hq,e⟩:=JM.xm.mp hj;obtain ⟨b,hb,rfl⟩:=List.mem_map.mp hq;obtain ⟨n,hn,_⟩:=r.bond g hb;have nn:=Xl m hn;rcases e with ⟨e1,e2⟩ | ⟨_,e2,e1⟩
 . rw [<- e1,<- e2]
   exact nn.1
 . rw [<- e1,<- e2]
   exact nn.2
theorem Xm {y:aB} {p:bz} (g:jE p) (m:pY y) {f:List Nat} (r:tR y p p.1.length f) {k:Nat} (hk:k < p.1.length):K5 y p f k:=⟨r.img hk,Pp g m r⟩
theorem ML {y:aB} {p:bz} (g:jE p) {f:List Nat}:nR y p p.1.length f=true ↔ (∀ (k:Nat) x,p.1[k]?=some x->iJ x.1.hand ((aE y).atom (Fk.image f k)).hand=true)/\∀ b ∈ p.2,sN y f (Fk.image f b.1.b) b=true:=by
 unfold nR;rw [List.all_eq_true];constructor
 . intro h
   constructor
   . intro k x hx
     have:=h k (List.mem_range.mpr (List.getElem?_eq_some_iff.mp hx).1);unfold nQ at this;rw [hx,Bool.and_eq_true] at this;exact this.1
   . intro b hb
     have hlt:b.1.b < p.1.length:=(g.rise.1 (JM.c9 b) (List.mem_map_of_mem hb)).2;have:=h b.1.b (List.mem_range.mpr hlt);unfold nQ at this;rw [Bool.and_eq_true,List.all_eq_true] at this;exact this.2 b (List.mem_filter.mpr ⟨hb,by simp⟩)
 . rintro ⟨h1,h2⟩ j hj
   unfold nQ;rw [Bool.and_eq_true,List.all_eq_true];obtain ⟨x,hx⟩:∃ x,p.1[j]?=some x:=⟨_,List.getElem?_eq_getElem (List.mem_range.mp hj)⟩;refine ⟨by rw [hx];exact h1 j x hx,fun b hb=>?_⟩;obtain ⟨b1,b2,_⟩:=Cy g hb;have:=h2 b b1;rw [b2] at this;exact this
theorem Pq {y:aB} {v:Nat} {a:Atom×Nat} (h:y.1[v]?=some a):(aE y).atom v=a.1:=by
 unfold Mol.atom aE;simp [List.getD,h]
theorem CY {y:aB} (gy:gc y) (v u:Nat):(aE y).besides v u=ZM y v u:=by
 unfold Mol.besides ZM;rw [gy.beside]
theorem Xn {y:aB} {p:bz} (g:jE p) (m:pY y) {f:List Nat} (r:tR y p p.1.length f) {x:PBond×Nat} (hx:x ∈ p.2) (ho:Fk.isOne x.1.side=true) (ht:sN y f (Fk.image f x.1.b) x=true):K6 y p f x.1:=by
 obtain ⟨n,hn,_⟩:=r.bond g hx;obtain ⟨c,hc,hj,_⟩:=ug hn;have ab:x.1.a < x.1.b/\x.1.b < p.1.length:=g.rise.1 (JM.c9 x) (List.mem_map_of_mem hx);have sd:c.1.side ≠ 0:=by
   unfold sN at ht;rw [hn] at ht;have ht':iJ x.1.side (nN y n)=true:=ht;have es:nN y n=c.1.side:=by unfold nN;rw [qF hc]
   rw [es] at ht';intro q;rw [q] at ht';unfold Fk.isOne at ho;simp only [Bool.or_eq_true,beq_iff_eq] at ho;unfold iJ at ht';rcases ho with o | o<;>rw [o] at ht'<;>revert ht'<;>decide
 obtain ⟨m1,m2⟩:=m.sided n c hc sd;obtain ⟨p1,p2⟩:=g.sided x hx ho;unfold Bond.joins at hj;simp only [Bool.or_eq_true,Bool.and_eq_true,beq_iff_eq] at hj;have ia:=r.img (v:=x.1.a) (by omega);have ib:=r.img (v:=x.1.b) ab.2;rcases hj with ⟨e1,e2⟩ | ⟨e1,e2⟩
 . rw [e1,e2] at m1 m2
   exact ⟨⟨by omega,ab.2,ia,p1,m1⟩,⟨ab.2,by omega,ib,p2,m2⟩,n,hn⟩
 . rw [e1,e2] at m1 m2
   exact ⟨⟨by omega,ab.2,ia,p1,m2⟩,⟨ab.2,by omega,ib,p2,m1⟩,n,hn⟩
theorem Xo {y:aB} {p:bz} (g:jE p) (m:pY y):Va y p:=by
 refine ⟨m.n9,g.k5,g.how,fun f hf k x hk _=>?_,fun f hf x hx ho=>?_⟩
 . rw [uO g _ (Nat.le_refl _)] at hf
   have r:=FN g _ (Nat.le_refl _) f (List.mem_filter.mp hf).1;exact Xm g m r (List.getElem?_eq_some_iff.mp hk).1
 . rw [uO g _ (Nat.le_refl _)] at hf
   obtain ⟨h1,h2⟩:=List.mem_filter.mp hf;have r:=FN g _ (Nat.le_refl _) f h1;exact Xn g m r hx ho (((ML g).mp h2).2 x hx)
theorem Im:∀ l:List Nat,Fk.falls l=fX (sM l)
 | []=>rfl
 | x::l=>by
  show (l.filter fun y=>decide (y < x)).length+Fk.falls l=((sM l).filter fun y=>decide (y < (x:Int))).length+fX (sM l)
  rw [Im l]
  unfold sM
  rw [List.filter_map,List.length_map]
  congr 2
  refine List.filter_congr fun y _=>?_
  simp
theorem CZ {p:bz} (g:jE p) (k:Nat):(br p).beside k=JM.bG (p.2.map JM.c9) k:=sG (n:=p.1.length) rfl g.rise k
theorem Ol {near im:List Nat} (n1:near.Nodup) (n2:im.Nodup) (sub:∀ u ∈ im,u ∈ near):(near.filter fun w=>!im.contains w).length+im.length=near.length:=by
 have pm:List.Perm (near.filter fun w=>im.contains w) im:=by
  refine (List.perm_ext_iff_of_nodup (n1.filter _) n2).mpr fun a=>?_;rw [List.mem_filter,List.contains_iff_mem];exact ⟨fun h=>h.2,fun h=>⟨sub a h,h⟩⟩
 have:=List.length_eq_countP_add_countP (l:=near) (p:=fun w=>im.contains w);rw [List.countP_eq_length_filter,List.countP_eq_length_filter,pm.length_eq] at this;have e:(near.filter fun a=>decide ¬(im.contains a=true))=near.filter fun w=>!im.contains w:=List.filter_congr fun w _=>by
  cases im.contains w<;>rfl
 rw [e] at this;omega
theorem FO (near im:List Nat):(sM near).filter (fun x=>!(sM im).contains x)=sM (near.filter fun w=>!im.contains w):=by
 unfold sM;rw [List.filter_map];congr 1;refine List.filter_congr fun w _=>?_;have:((im.map fun (n:Nat)=>(n:Int)).contains (w:Int))=im.contains w:=by
  rw [Bool.eq_iff_iff,List.contains_iff_mem,List.contains_iff_mem];exact DS (l:=im) (x:=w)
 simp only [Function.comp,this]
theorem Rz {near im:List Nat}:(near.filter fun w=>!im.contains w).head?=near.find? fun w=>!im.contains w:=List.head?_filter
theorem Vd {y:aB} {p:bz} (g:jE p) (m:pY y) {f:List Nat} (r:tR y p p.1.length f) {k:Nat} (hk:k < p.1.length)
   (hp:(JM.bG (p.2.map JM.c9) k).length=3\/(JM.bG (p.2.map JM.c9) k).length=4) (hm:(JM.bG (y.2.map JM.aU) (Fk.image f k)).length=3\/(JM.bG (y.2.map JM.aU) (Fk.image f k)).length=4) :
   sM (Fk.handRow (aE y) (br p) f k)=(wB y p f k).map fun x=>x+1:=by
 have e1:Fk.handRow (aE y) (br p) f k=(if (FD p f k).length=4 then [] else [if (JM.bG (y.2.map JM.aU) (Fk.image f k)).length=3 then 0 else (((JM.bG (y.2.map JM.aU) (Fk.image f k)).find? fun w=>!(FD p f k).contains w).getD 0)+1])++(FD p f k).map (·+1):=by
   unfold Fk.handRow;simp only [CZ g,m.good.beside];rfl
 have il:(FD p f k).length=(JM.bG (p.2.map JM.c9) k).length:=by unfold FD;rw [List.length_map]
 have sub:=Pp g m r (k:=k);have nn:(JM.bG (y.2.map JM.aU) (Fk.image f k)).Nodup:=(JM.uW m.good.rise _).imp fun {a b} h=>by omega
 have pn:(JM.bG (p.2.map JM.c9) k).Nodup:=(JM.uW g.rise _).imp fun {a b} h=>by omega
 have inn:(FD p f k).Nodup:=by
   unfold FD;rw [List.Nodup,List.pairwise_map];refine List.Pairwise.imp_of_mem (fun {a b} ha hb h=>?_) pn;intro e;exact h (r.inj (vO g.rise ha) (vO g.rise hb) e)
 have fl:=Ol nn inn sub;rw [e1];unfold wB iL;generalize FD p f k=im at *;generalize JM.bG (y.2.map JM.aU) (Fk.image f k)=near at *;have tail:sM (im.map (·+1))=(sM im).map fun x=>x+1:=by
   unfold sM;rw [List.map_map,List.map_map];refine List.map_congr_left fun x _=>?_;simp
 have app:∀ a b:List Nat,sM (a++b)=sM a++sM b:=fun a b=>by unfold sM;rw [List.map_append]
 rw [app,tail,List.map_append];congr 1;have nm:(sM im).contains (-1)=false:=by
   rw [<- Bool.not_eq_true,List.contains_iff_mem];intro h;obtain ⟨a,_,ha⟩:=List.mem_map.mp h;omega
 rcases hm with hm | hm
 . have i3:im.length=3:=by omega
   rw [if_neg (show ¬ im.length=4 by omega),if_pos hm,if_neg (show ¬ near.length=4 by omega),List.filter_cons,nm];have F:near.filter (fun w=>!im.contains w)=[]:=List.length_eq_zero_iff.mp (by omega);rw [FO,F];rfl
 . rw [if_pos hm,FO]
   by_cases i4:im.length=4
   . have F:near.filter (fun w=>!im.contains w)=[]:=List.length_eq_zero_iff.mp (by omega)
     rw [if_pos i4,F];rfl
   . rw [if_neg i4,if_neg (show ¬ near.length=3 by omega),<- Rz]
     obtain ⟨w,hw⟩:=List.length_eq_one_iff.mp (show (near.filter fun w=>!im.contains w).length=1 by omega);rw [hw];rfl
theorem R8 {y:aB} {p:bz} (g:jE p) (m:pY y) {f:List Nat} (r:tR y p p.1.length f) {k:Nat} {x:PAtom×Nat} (hx:p.1[k]?=some x) :
   Fk.handFits (aE y) (br p) f k x.1.hand=(iJ x.1.hand ((aE y).atom (Fk.image f k)).hand&&!(Fk.isOne x.1.hand&&pV y p f k != x.1.hand)):=by
 have hk:=(List.getElem?_eq_some_iff.mp hx).1;have h3:=g.Vb x (List.mem_of_getElem? hx);obtain ⟨a,ha⟩:∃ a,y.1[Fk.image f k]?=some a:=⟨_,List.getElem?_eq_getElem (r.img hk)⟩;have bnd:=m.good.atm a (List.mem_of_getElem? ha);unfold Fk.handFits pV;simp only [Pq ha];by_cases c0:x.1.hand=0
 . rw [c0];rfl
 . by_cases c3:x.1.hand=3
   . rw [c3]
     unfold iJ Fk.isOne;cases a.1.hand==0<;>rfl
   . have one:Fk.isOne x.1.hand=true:=by
       unfold Fk.isOne;simp only [Bool.or_eq_true,beq_iff_eq];omega
     rw [if_neg c0,if_neg c3,one,Bool.true_and];have tl:iJ x.1.hand a.1.hand=(a.1.hand != 0):=by
       unfold iJ;have e0:(x.1.hand==0)=false:=beq_eq_false_iff_ne.mpr c0;have e3:(x.1.hand==3)=false:=beq_eq_false_iff_ne.mpr c3;rw [e0,e3];unfold bne;cases a.1.hand==0<;>rfl
     rw [tl];by_cases ch:a.1.hand=0
     . rw [ch];rfl
     . have row:=Vd g m r hk (g.handed k x hx one) (m.handed _ a ha ch)
       have ef:Fk.falls (Fk.handRow (aE y) (br p) f k)=fX (wB y p f k):=by
         rw [Im,row];exact zX _ fun a _ b _=>by omega
       rw [ef];have er:(if fX (wB y p f k) % 2=1 then Fk.other a.1.hand else a.1.hand)=vK a.1.hand (fX (wB y p f k) % 2==1):=by
         unfold vK;have h12:a.1.hand=1\/a.1.hand=2:=by omega
         by_cases q:fX (wB y p f k) % 2=1
         . rw [if_pos q,if_pos (beq_iff_eq.mpr q)]
           rcases h12 with h | h<;>rw [h]<;>rfl
         . rw [if_neg q,if_neg (fun z=>q (beq_iff_eq.mp z))]
       rw [er];unfold bne;rw [Bool.not_not]
theorem Dc {y:aB} {p:bz} (g:jE p) (gy:gc y) (f:List Nat) (a b:Nat):Fk.turnsEnd (aE y) (br p) f a b=!keeps y p f a b:=by
 unfold Fk.turnsEnd keeps bne;have e:(br p).besides a b=Vn p a b:=by
  unfold Part.besides Vn;rw [CZ g]
 rw [e,CY gy]
theorem R9 {y:aB} {p:bz} (g:jE p) (m:pY y) {f:List Nat} {x:PBond×Nat} (hx:x ∈ p.2) {n:Nat} (hn:(aE y).bondAt (Fk.image f x.1.a) (Fk.image f x.1.b)=some n) :
   Fk.sideFits (aE y) (br p) f x.1 (nN y n)=(iJ x.1.side (nN y n)&&!(Fk.isOne x.1.side&&pX y p f x.1 != x.1.side)):=by
 have h3:=g.abq x hx;obtain ⟨c,hc,_,_⟩:=ug hn;have bnd:=m.good.QU c (List.mem_of_getElem? hc);have es:nN y n=c.1.side:=by unfold nN;rw [qF hc]
 unfold Fk.sideFits pX;rw [hn];simp only [es];by_cases c0:x.1.side=0
 . rw [c0];rfl
 . by_cases c3:x.1.side=3
   . rw [c3]
     unfold iJ Fk.isOne;cases c.1.side==0<;>rfl
   . have one:Fk.isOne x.1.side=true:=by
       unfold Fk.isOne;simp only [Bool.or_eq_true,beq_iff_eq];omega
     rw [if_neg c0,if_neg c3,one,Bool.true_and];have tl:iJ x.1.side c.1.side=(c.1.side != 0):=by
       unfold iJ;have e0:(x.1.side==0)=false:=beq_eq_false_iff_ne.mpr c0;have e3:(x.1.side==3)=false:=beq_eq_false_iff_ne.mpr c3;rw [e0,e3];unfold bne;cases c.1.side==0<;>rfl
     rw [tl];by_cases ch:c.1.side=0
     . rw [ch];rfl
     . have et:(Fk.turnsEnd (aE y) (br p) f x.1.a x.1.b != Fk.turnsEnd (aE y) (br p) f x.1.b x.1.a)=(keeps y p f x.1.a x.1.b != keeps y p f x.1.b x.1.a):=by
         rw [Dc g m.good,Dc g m.good];cases keeps y p f x.1.a x.1.b<;>cases keeps y p f x.1.b x.1.a<;>rfl
       rw [et];have er:(if (keeps y p f x.1.a x.1.b != keeps y p f x.1.b x.1.a)=true then Fk.other c.1.side else c.1.side)=vK c.1.side (keeps y p f x.1.a x.1.b != keeps y p f x.1.b x.1.a):=by
         unfold vK;have h12:c.1.side=1\/c.1.side=2:=by omega
         split
         . rcases h12 with h | h<;>rw [h]<;>rfl
         . rfl
       rw [er];unfold bne;rw [Bool.not_not]
theorem Ve {y:aB} {p:bz} (g:jE p) (m:pY y) {f:List Nat} (r:tR y p p.1.length f):Fk.isPlace (br p) (sg y) f=(nR y p p.1.length f&&(mr y p f&&mw y p f)):=by
 rw [Bool.eq_iff_iff,Bool.and_eq_true,Bool.and_eq_true,ML g];have eH:∀ (k:Nat) x,p.1[k]?=some x->(x.1.fits (sg y) (Fk.image f k)&&Fk.handFits (aE y) (br p) f k x.1.hand)=(iJ x.1.hand ((aE y).atom (Fk.image f k)).hand&&!(Fk.isOne x.1.hand&&pV y p f k != x.1.hand)):=fun k x hx=>by
   rw [r.at_ k x (List.getElem?_eq_some_iff.mp hx).1 hx,Bool.true_and,R8 g m r hx]
 have eS:∀ x ∈ p.2,(match (aE y).bondAt (Fk.image f x.1.a) (Fk.image f x.1.b) with | some k=>x.1.fits (sg y) k&&Fk.sideFits (aE y) (br p) f x.1 (nN y k) | none=>false)=(sN y f (Fk.image f x.1.b) x&&!(Fk.isOne x.1.side&&pX y p f x.1 != x.1.side)):=fun x hx=>by
   obtain ⟨n,hn,hf⟩:=r.bond g hx;unfold sN;rw [hn];simp only;rw [hf,Bool.true_and,R9 g m hx hn]
 have unf:Fk.isPlace (br p) (sg y) f=true ↔ (∀ (k:Nat) x,p.1[k]?=some x->(x.1.fits (sg y) (Fk.image f k)&&Fk.handFits (aE y) (br p) f k x.1.hand)=true)/\∀ x ∈ p.2,(match (aE y).bondAt (Fk.image f x.1.a) (Fk.image f x.1.b) with | some k=>x.1.fits (sg y) k&&Fk.sideFits (aE y) (br p) f x.1 (nN y k) | none=>false)=true:=by
   unfold Fk.isPlace;simp only;rw [Bool.and_eq_true,List.all_eq_true,List.all_eq_true,FL,FI];constructor
   . rintro ⟨h1,h2⟩
     refine ⟨fun k x hx=>?_,fun x hx=>?_⟩
     . exact h1 (x.1,k) (List.mem_of_getElem? (zip_get (by rw [List.getElem?_map,hx];rfl)))
     . have:=h2 x.1 (List.mem_map_of_mem hx)
       exact this
   . rintro ⟨h1,h2⟩
     refine ⟨fun z hz=>?_,fun x hx=>?_⟩
     . have hm:=List.mem_zipIdx hz
       simp at hm;obtain ⟨hlt,he⟩:=hm;have:=h1 z.2 p.1[z.2] (List.getElem?_eq_getElem hlt);rw [<- he] at this;exact this
     . obtain ⟨b,hb,rfl⟩:=List.mem_map.mp hx
       exact h2 b hb
 rw [unf];unfold mr mw;rw [List.all_eq_true,List.all_eq_true];constructor
 . rintro ⟨h1,h2⟩
   refine ⟨⟨fun k x hx=>?_,fun b hb=>?_⟩,fun z hz=>?_,fun x hx=>?_⟩
   . have:=h1 k x hx
     rw [eH k x hx,Bool.and_eq_true] at this;exact this.1
   . have:=h2 b hb
     rw [eS b hb,Bool.and_eq_true] at this;exact this.1
   . have hm:=List.mem_zipIdx hz
     simp at hm;obtain ⟨hlt,he⟩:=hm;have hx:p.1[z.2]?=some z.1:=by rw [List.getElem?_eq_getElem hlt,<- he]
     have:=h1 z.2 z.1 hx;rw [eH z.2 z.1 hx,Bool.and_eq_true] at this;exact this.2
   . have:=h2 x hx
     rw [eS x hx,Bool.and_eq_true] at this;exact this.2
 . rintro ⟨⟨h1,h2⟩,h3,h4⟩
   refine ⟨fun k x hx=>?_,fun x hx=>?_⟩
   . rw [eH k x hx,h1 k x hx,Bool.true_and]
     exact h3 (x,k) (List.mem_of_getElem? (zip_get hx))
   . rw [eS x hx,h2 x hx,Bool.true_and]
     exact h4 x hx
theorem FP {y:aB} {p:bz} (g:jE p) (m:pY y):uN y p=Fk.found (br p) (aE y):=by
 have n:(br p).n=p.1.length:=by unfold Part.n br;simp
 show _=Fk.foundFrom (br p) (sg y) (br p).n [];rw [n,FG];unfold uN;rw [uO g _ (Nat.le_refl _),List.filter_filter];refine List.filter_congr fun f hf=>?_;rw [Ve g m (FN g _ (Nat.le_refl _) f hf)];cases nR y p p.1.length f<;>cases mr y p f<;>cases mw y p f<;>rfl
end MP
namespace JM
open Fk
theorem Io {m b:Bytes} {y:Bytes×Nat} (h:mark m b=.ok y):y=(b.drop m.length,m.length):=by
 unfold mark at h;cases q:(List.range m.length).find? fun i=>b[i]? != m[i]? with
 | some i=>rw [q] at h;cases h
 | none=>rw [q] at h;cases h;rfl
theorem Ip {g:Nat->Bool} {b:Bytes} {p:Nat} {k:Nat} {y:Nat×Bytes×Nat} (h:numIn 1 g (b.drop k) p=.ok y):y.1=(b.getD k 0).toNat:=by
 obtain ⟨h1,_,h3,_⟩:=bA h;rw [h3];have hl:k < b.length:=by
  rw [List.length_drop] at h1;omega
 rw [List.drop_eq_getElem_cons hl,List.take_succ_cons,List.take_zero,IV,List.getD,List.getElem?_eq_getElem hl];rfl
theorem Iq:∀ {k:Nat} {b:Bytes} {p:Nat} {y:List (PAtom×Nat)×Bytes×Nat},patomsIn k b p=.ok y->y.1.length=k/\∀ z ∈ y.1,z.1.hand<=3
 | 0,b,p,y,h=>by
   cases h
   exact ⟨rfl,by simp⟩
 | k+1,b,p,y,h=>by
   unfold patomsIn at h
   obtain ⟨c,_,h⟩:=aM h
   obtain ⟨e,_,h⟩:=aM h
   obtain ⟨i,_,h⟩:=aM h
   obtain ⟨q,_,h⟩:=aM h
   obtain ⟨hy,_,h⟩:=aM h
   obtain ⟨d,_,h⟩:=aM h
   obtain ⟨s,_,h⟩:=aM h
   obtain ⟨r,_,h⟩:=aM h
   obtain ⟨g,hg,h⟩:=aM h
   obtain ⟨l,hl,h⟩:=aM h
   cases h
   have ih:=Iq hl
   have g3:=(bA hg).2.1
   refine ⟨by simp [ih.1],fun z hz=>?_⟩
   rcases List.mem_cons.mp hz with rfl | hz
   . exact of_decide_eq_true g3
   . exact ih.2 z hz
theorem Ir {n:Nat}:∀ {k:Nat} {had:Option (Nat×Nat)} {b:Bytes} {p:Nat} {y:List (PBond×Nat)×Bytes×Nat},pbondsIn n k had b p=.ok y->∀ z ∈ y.1,z.1.how<=1/\z.1.side<=3
 | 0,had,b,p,y,h=>by
   cases h
   simp
 | k+1,had,b,p,y,h=>by
   unfold pbondsIn at h
   obtain ⟨x,_,h⟩:=aM h
   obtain ⟨w,_,h⟩:=aM h
   obtain ⟨_,_,h⟩:=aM h
   obtain ⟨o,_,h⟩:=aM h
   obtain ⟨hw,hh,h⟩:=aM h
   obtain ⟨r,_,h⟩:=aM h
   obtain ⟨s,hs,h⟩:=aM h
   obtain ⟨l,hl,h⟩:=aM h
   cases h
   have ih:=Ir hl
   have g1:=(bA hh).2.1
   have g3:=(bA hs).2.1
   intro z hz
   rcases List.mem_cons.mp hz with rfl | hz
   . exact ⟨of_decide_eq_true g1,of_decide_eq_true g3⟩
   . exact ih z hz
structure abr (b:Bytes) (P:Part):Prop where
 n:P.n=(b.getD 4 0).toNat
 Vb:∀ x ∈ P.atoms,x.hand<=3
 bond:∀ x ∈ P.bonds,x.how<=1/\x.side<=3
 handed:∀ (k:Nat) x,P.atoms[k]?=some x->isOne x.hand=true->P.handed k=true
 sided:∀ x ∈ P.bonds,isOne x.side=true->P.sided x=true
theorem MN {b:Bytes} {P:Part} (h:judgePart b=.ok P):abr b P:=by
 unfold judgePart at h;obtain ⟨m,hm,h1⟩:=aM h;obtain ⟨n,hn,h2⟩:=aM h1;obtain ⟨k,hk,h3⟩:=aM h2;obtain ⟨x,hx,h4⟩:=aM h3;obtain ⟨y,hy,h5⟩:=aM h4;obtain ⟨_,_,h6⟩:=aM h5;clear h h1 h2 h3 h4 h5;have h:=h6;clear h6;rw [Io hm] at hn;have n4:=Ip hn;have xo:=Iq hx;have yo:=Ir hy;simp only at h;split at h
 . cases h
 . rename_i f1
   split at h
   . cases h
   . rename_i f2
     cases h;refine ⟨?_,fun z hz=>?_,fun z hz=>?_,fun j z hz ho=>?_,fun z hz ho=>?_⟩
     . show (x.1.map fun z=>z.1).length=_
       rw [List.length_map,xo.1,n4];rfl
     . obtain ⟨w,hw,rfl⟩:=List.mem_map.mp hz
       exact xo.2 w hw
     . obtain ⟨w,hw,rfl⟩:=List.mem_map.mp hz
       exact yo w hw
     . have hz':(x.1.map fun z=>z.1)[j]?=some z:=hz
       rw [List.getElem?_map] at hz';cases q:x.1[j]? with
       | none=>rw [q] at hz';cases hz'
       | some w=>
         rw [q] at hz';cases hz';rw [List.find?_eq_none] at f1;have:=f1 (w,j) (List.mem_of_getElem? (by rw [List.getElem?_zipIdx,q];simp));simp only [ho,Bool.true_and,Bool.not_eq_true',Bool.not_eq_false] at this;exact this
     . obtain ⟨w,hw,rfl⟩:=List.mem_map.mp hz
       rw [List.find?_eq_none] at f2;have:=f2 w hw;simp only [ho,Bool.true_and,Bool.not_eq_true',Bool.not_eq_false] at this;exact this
structure acv (b:Bytes) (M:Mol):Prop where
 n:M.n=(b.getD 4 0).toNat
 handed:∀ v,v < M.n->(M.atom v).hand ≠ 0->M.handed v=true
 sided:∀ j x,M.bonds[j]?=some x->x.side ≠ 0->M.sided j=true
theorem Iu:∀ {k:Nat} {b:Bytes} {p:Nat} {y:List Atom×Bytes×Nat},atomsIn k b p=.ok y->y.1.length=k
 | 0,b,p,y,h=>by
  cases h
  rfl
 | k+1,b,p,y,h=>by
  unfold atomsIn at h
  obtain ⟨c,_,h⟩:=aM h
  obtain ⟨e,_,h⟩:=aM h
  obtain ⟨i,_,h⟩:=aM h
  obtain ⟨q,_,h⟩:=aM h
  obtain ⟨hy,_,h⟩:=aM h
  obtain ⟨l,hl,h⟩:=aM h
  cases h
  simp [Iu hl]
theorem Om {b:Bytes} {M:Mol} (h:judgeMol b=.ok M):acv b M:=by
 unfold judgeMol at h;obtain ⟨m,hm,h1⟩:=aM h;obtain ⟨n,hn,h2⟩:=aM h1;obtain ⟨k,hk,h3⟩:=aM h2;obtain ⟨x,hx,h4⟩:=aM h3;obtain ⟨y,hy,h5⟩:=aM h4;obtain ⟨_,_,h6⟩:=aM h5;clear h h1 h2 h3 h4 h5;have h:=h6;clear h6;rw [Io hm] at hn;have n4:=Ip hn;have xo:=Iu hx;simp only at h;split at h
 . cases h
 . rename_i f1
   split at h
   . cases h
   . rename_i f2
     cases h;rw [List.find?_eq_none] at f1 f2;refine ⟨?_,fun v hv ho=>?_,fun j z hz ho=>?_⟩
     . show x.1.length=_
       rw [xo,n4];rfl
     . have:=f1 v (List.mem_range.mpr hv)
       have e:((⟨x.1,y.1⟩:Mol).atom v).hand != 0:=bne_iff_ne.mpr ho;simp only [e,Bool.true_and,Bool.not_eq_true',Bool.not_eq_false] at this;exact this
     . have hz':y.1[j]?=some z:=hz
       have:=f2 j (List.mem_range.mpr (List.getElem?_eq_some_iff.mp hz').1);have e:(((⟨x.1,y.1⟩:Mol).bonds[j]?.map Bond.side).getD 0 != 0)=true:=by
         rw [hz];exact bne_iff_ne.mpr ho
       rw [e] at this;simp only [Bool.true_and,Bool.not_eq_true',Bool.not_eq_false] at this;exact this
end JM
namespace MP
open PySem PySem.Spec PyProof.Rows L2
open XL (gE)
open Fk (Fault Bytes numIn need andThen Atom Bond Mol PAtom PBond Part)
open JM (aB aE gQ d8)
theorem ZQ {B:Bytes} {p:bz} (h:Fk.judgePart B=.ok (br p)) (hs:(B.getD 4 0).toNat<=5) (rise:JM.ng p.1.length (p.2.map JM.c9)):jE p:=by
 have J:=JM.MN h;have n:(br p).n=p.1.length:=by unfold Part.n br;simp
 have be:∀ k,(br p).beside k=JM.bG (p.2.map JM.c9) k:=fun k=>sG (n:=p.1.length) rfl rise k;refine ⟨by have:=J.n;omega,rise,fun b hb=>(J.bond b.1 (List.mem_map_of_mem hb)).1,fun x hx=>J.Vb x.1 (List.mem_map_of_mem hx),fun b hb=>(J.bond b.1 (List.mem_map_of_mem hb)).2,fun k x hx ho=>?_,fun x hx ho=>?_⟩
 . have:=J.handed k x.1 (by show (p.1.map fun z=>z.1)[k]?=_;rw [List.getElem?_map,hx];rfl) ho
   unfold Part.handed at this;rw [be] at this;simpa using this
 . have:=J.sided x.1 (List.mem_map_of_mem hx) ho
   unfold Part.sided Part.endMay Part.besides at this;rw [be,be] at this;simp only [Bool.and_eq_true,decide_eq_true_eq] at this;have l1:1<=(Vn p x.1.a x.1.b).length:=this.1.1;have l2:1<=(Vn p x.1.b x.1.a).length:=this.2.1;exact ⟨fun q=>by rw [q] at l1;simp at l1,fun q=>by rw [q] at l2;simp at l2⟩
theorem ZR {B:Bytes} {y:aB} (h:Fk.judgeMol B=.ok (aE y)) (h9:(B.getD 4 0).toNat<=9) (gy:gc y):pY y:=by
 have J:=JM.Om h;have n:=yw y;refine ⟨gy,by have:=J.n;omega,fun v a ha ho=>?_,fun k c hc ho=>?_⟩
 . have hv:v < (aE y).n:=by rw [n];exact (List.getElem?_eq_some_iff.mp ha).1
   have:=J.handed v hv (by rw [Pq ha];exact ho);unfold Mol.handed at this;simp only [Bool.and_eq_true,decide_eq_true_eq] at this;rw [gy.beside] at this;omega
 . have:=J.sided k c.1 (qF hc) ho
   unfold Mol.sided at this;rw [qF hc] at this;simp only [Bool.and_eq_true] at this;obtain ⟨_,h1,h2⟩:=this;unfold Mol.endMay at h1 h2;rw [CY gy] at h1 h2;simp only [Bool.and_eq_true,decide_eq_true_eq] at h1 h2;exact ⟨fun q=>by rw [q] at h1;simp at h1,fun q=>by rw [q] at h2;simp at h2⟩
theorem MO {y:aB} {p:bz} (g:jE p) (m:pY y):(uN y p).length<=59049:=by
 unfold uN;exact Nat.le_trans (List.length_filter_le _ _) (vR m.n9 g.k5)
theorem Oo {y:aB} {p:bz} (g:jE p) (m:pY y) {f:List Nat} (h:f ∈ uN y p):tR y p p.1.length f:=by
 unfold uN at h;have h1:=(List.mem_filter.mp h).1;rw [uO g _ (Nat.le_refl _)] at h1;exact FN g _ (Nat.le_refl _) f (List.mem_filter.mp h1).1
variable {P:Program} {w:World} {K:Zqq} {mg:Str->Option Value} {base:Heap} {t:Ad}
section
theorem mV.mono {D D':Addr->Prop} {H:Hp} {g:Addr} {z:kH} {y:aB} (M:mV t D H g z y) (f:∀ b,D b->D' b):mV t D' H g z y:=
 ⟨M.obj,M.atoms,M.bonds,M.rows,M.sums,M.orders,M.nums,M.num,M.ra.mono (pR.ok _) f,M.rb.mono (nM.ok _) f⟩
structure ZS (Bp Bm:Bytes) (p:bz) (y:aB):Prop where
 jp:Fk.judgePart Bp=.ok (br p)
 jm:Fk.judgeMol Bm=.ok (aE y)
 pat:jE p
 mol:pY y
def Oq (K:Zqq) (t:Ad):Sp:=fun vs H Q E=>∃ (a b:Addr) (Bp Bm:Bytes),vs=[.ref a,.ref b]/\rZ K H a Bp/\rZ K H b Bm/\Bp.length<=6000/\Bm.length<=6000/\(Bp.getD 4 0).toNat<=5/\(Bm.getD 4 0).toNat<=9/\(Bm.getD 5 0).toNat<=12 /\
 mh t.aH 0 (Fk.judgePart Bp) (fun Pt=>mh t.aH 1 (Fk.judgeMol Bm) (fun Mo=>∀ H' l rs p y,ZS Bp Bm p y->aS H H'->H' l=some (.lst rs)->cR qG (fun b=>H b=none) H' rs (uN y p)->Q (.ref l) H') E) E
theorem yx:aQ ["pattern","molecule","wanted","given"] ["pattern","molecule"] (aF qV):=lT (by decide +kernel)
theorem MQ (T:Txt K mg t):bF P w K mg base (uP P w) 11 t.iz t.kW ["pattern","molecule"] (Oq K t):=by
 have GP:=@WK P w K mg base t T;have GM:=@U3 P w K mg base t T;have GO:=@Xk P w K mg base t T;obtain ⟨tk0,g0⟩:=T.AA;obtain ⟨NN,g1⟩:=T.zg;refine T.j9.K9 yx (fun vs H Q E h=>?_) (fun cdv A outer s H vs Q E hr h=>?_)
 . obtain ⟨a,b,Bp,Bm,rfl,_⟩:=h
   rfl
 . obtain ⟨a,b,Bp,Bm,rfl,ha,hb,lp,lm,p5,m9,m12,k⟩:=h
   have MX:dG 5 _:=hr.mono (by decide);refine ⟨_,ak (aR (i:=2) yx.nd rfl (Or.inl rfl) (b4 GP hr rfl T.xG T.j7.kp T.x9 .nil c7 (af (pv 0) (af (aV rfl g0 (v:=.int 0) ⟨_,rfl⟩) au))))
     (ak (aR (i:=3) yx.nd rfl (Or.inl rfl) (b4 GM hr rfl T.wk T.iQ.kp T.vZ .nil c7 (af (pv 1) (af (aV rfl g1 (v:=.int 1) ⟨_,rfl⟩) au))))
     (az (bc (b4 GO MX rfl T.HN T.qJ.kp T.HM .nil bE (af (pv 2) (af (pv 3) au)))))),?_⟩
   refine ⟨_,rfl,a,0,Bp,rfl,ha,lp,?_⟩;cases hp:Fk.judgePart Bp with
   | error f=>
     rw [hp] at k;exact k
   | ok Pt=>
     rw [hp] at k;intro H1 gp la lb lr as us rs p Pa ep s1;refine ⟨_,rfl,b,1,Bm,rfl,WL.same (xs:=vB Bm) hb s1,lm,m12,?_⟩;have k1:mh t.aH 1 (Fk.judgeMol Bm) (fun Mo=>∀ H' l rs p y,ZS Bp Bm p y->aS H H'->H' l=some (.lst rs)->cR qG (fun b=>H b=none) H' rs (uN y p)->Q (.ref l) H') E:=k;cases hm:Fk.judgeMol Bm with
     | error f=>
       rw [hm] at k1;exact k1
     | ok Mo=>
       rw [hm] at k1;intro H2 g z y M gy em s2;have k2:∀ H' l rs p y,ZS Bp Bm p y->aS H H'->H' l=some (.lst rs)->cR qG (fun b=>H b=none) H' rs (uN y p)->Q (.ref l) H':=k1;rw [em] at hm;rw [ep] at hp;have al:as.length=p.1.length:=Pa.at_.len;have po:jE p:=ZQ hp p5 (by rw [<- al];exact Pa.rise);have mo:pY y:=ZR hm m9 gy;refine ⟨_,rfl,_,rfl,?_⟩;refine ⟨gp,g,⟨la,lb,lr,as,us,rs⟩,p,z,y,fun b=>H b=none,rfl,Pa.same s2,M.mono (fun b d=>s1.free d),gy,Xo po mo,fun H3 l Ry s3 nl hl R=>?_⟩;have Na:=s1.trans s2;exact k2 H3 l Ry p y ⟨hp,hm,po,mo⟩ (Na.trans s3) hl (R.mono qG.ok fun b d=>Na.free d)
end
theorem acw {c:PartNeutral.Call} {x:FkP.Call} (e:PartNeutral.callOf c=some x):PartNeutral.f c=PartNeutral.told (FkP.answer x):=by
 unfold PartNeutral.f;rw [e]
theorem RC {c:PartNeutral.Call} {x:FkP.Call} (e:PartNeutral.callOf c=some x) (h:PartNeutral.asked [c]=true):PartNeutral.moderate x=true:=by
 unfold PartNeutral.asked at h;simp only [Bool.and_eq_true,List.all_cons] at h;have q:=h.2.2.1.1;unfold PartNeutral.fits at q;rw [e] at q;simpa using q
theorem ZT {B:Bytes} (h:PartNeutral.few B=true):(B.getD 4 0).toNat<=9/\(B.getD 5 0).toNat<=12:=by
 unfold PartNeutral.few at h;simpa using h
def yP (Bp Bm:Bytes) (f:Part->Mol->List Int):List Int:=match Fk.judgePart Bp with
 | .error e=>[-5,0,(e.rule:Int),(e.place:Int)]
 | .ok P=>match Fk.judgeMol Bm with
   | .error e=>[-5,1,(e.rule:Int),(e.place:Int)]
   | .ok M=>f P M
theorem RD (Bp Bm:Bytes) (f:Part->Mol->FkP.Answer):PartNeutral.told (FkP.both Bp Bm f)=yP Bp Bm fun P M=>PartNeutral.told (f P M):=by
 unfold FkP.both FkP.judged yP;cases Fk.judgePart Bp with
 | error e=>rfl
 | ok P=>
  simp only;cases Fk.judgeMol Bm<;>rfl
theorem Vf {Bp Bm:Bytes} (h:(PartNeutral.short Bp&&PartNeutral.few Bm)=true):(Bp.getD 4 0).toNat<=5/\(Bm.getD 4 0).toNat<=9/\(Bm.getD 5 0).toNat<=12:=by
 rw [Bool.and_eq_true] at h;exact ⟨of_decide_eq_true h.1,ZT h.2⟩
def setOf (n:Nat) (f:List Nat):List Nat:=(List.range n).filter f.contains
def B9 (n:Nat) (z:List (List Nat)×List (List Nat)) (f:List Nat):List (List Nat)×List (List Nat):=if z.2.contains (setOf n f)=true then z else (z.1++[f],z.2++[setOf n f])
def jr (n:Nat) (fs:List (List Nat)):List (List Nat)×List (List Nat):=fs.foldl (B9 n) ([],[])
theorem qH (n:Nat) (fs:List (List Nat)) (f:List Nat):jr n (fs++[f])=B9 n (jr n fs) f:=by simp [jr]
theorem MR (n:Nat):∀ (fs:List (List Nat)) (z:List (List Nat)×List (List Nat)),z.2.length=z.1.length->(fs.foldl (B9 n) z).1.length<=z.1.length+fs.length/\(fs.foldl (B9 n) z).2.length=(fs.foldl (B9 n) z).1.length
 | [],z,h=>⟨Nat.le_refl _,h⟩
 | f::fs,z,h=>by
   rw [List.foldl_cons]
   have a:(B9 n z f).2.length=(B9 n z f).1.length/\(B9 n z f).1.length<=z.1.length+1:=by
     unfold B9;split
     . exact ⟨h,by omega⟩
     . simp [h]
   have ih:=MR n fs (B9 n z f) a.1;rw [List.length_cons];exact ⟨by have:=a.2;omega,ih.2⟩
theorem MS (n:Nat) (fs:List (List Nat)):(jr n fs).1.length<=fs.length/\(jr n fs).2.length=(jr n fs).1.length:=by
 have:=MR n fs ([],[]) rfl;simpa [jr] using this
theorem Ot {n:Nat} {f:List Nat} (nd:f.Nodup) (lt:∀ v ∈ f,v < n) {ns:List Int} (pm:ns.Perm (sM f)) (pw:ns.Pairwise (·<=·)):ns=sM (setOf n f):=by
 have tnd:(sM f).Nodup:=by
   unfold sM;rw [List.Nodup,List.pairwise_map];exact nd.imp fun {a b} h q=>h (by omega)
 have nnd:ns.Nodup:=pm.nodup_iff.mpr tnd;have pos:∀ x ∈ ns,∃ v ∈ f,x=(v:Int):=fun x hx=>by
   obtain ⟨v,hv,e⟩:=List.mem_map.mp (show x ∈ f.map fun (n:Nat)=>(n:Int) from pm.mem_iff.mp hx);exact ⟨v,hv,e.symm⟩
 have l1:(ns.map Int.toNat).Pairwise (· < ·):=by
   rw [List.pairwise_map];refine List.Pairwise.imp_of_mem (fun {a b} ha hb h=>?_) (List.pairwise_and_iff.mpr ⟨pw,nnd⟩);obtain ⟨u,_,rfl⟩:=pos a ha;obtain ⟨v,_,rfl⟩:=pos b hb;have h1:=h.1;have h2:=h.2;omega
 have e:ns.map Int.toNat=setOf n f:=by
   refine JM.zw l1 (JM.Al _) fun x=>?_;show x ∈ ns.map Int.toNat ↔ x ∈ (List.range n).filter f.contains;rw [List.mem_map,List.mem_filter,List.mem_range,List.contains_iff_mem];constructor
   . rintro ⟨a,ha,rfl⟩
     obtain ⟨v,hv,rfl⟩:=pos a ha;exact ⟨lt v hv,hv⟩
   . rintro ⟨_,hx⟩
     exact ⟨(x:Int),pm.mem_iff.mpr (DS.mpr hx),rfl⟩
 rw [<- e];unfold sM;rw [List.map_map];refine (List.map_id ns).symm.trans (List.map_congr_left fun x hx=>?_);obtain ⟨v,_,rfl⟩:=pos x hx;rfl
def Ho (s:List Nat):List Key:=kI (sM s)
theorem Vg {a b:List Nat} (h:Ho a=Ho b):a=b:=by
 have:=vE h;unfold sM at this;exact List.map_inj_right (f:=fun (n:Nat)=>(n:Int)) (fun x y q=>by omega) |>.mp this
theorem MT {kvs:List (List Key×V)} {ss:List (List Nat)} (hk:kvs.map (·.1)=ss.map Ho) (s:List Nat):(jW kvs (Ho s)).isSome=ss.contains s:=by
 rw [<- mZ,Bool.eq_iff_iff,List.any_eq_true,List.contains_iff_mem];constructor
 . rintro ⟨p,hp,e⟩
   have:Ho s ∈ ss.map Ho:=by
     rw [<- hk,<- of_decide_eq_true e];exact List.mem_map_of_mem hp
   obtain ⟨u,hu,q⟩:=List.mem_map.mp this;exact Vg q ▸ hu
 . intro h
   have:Ho s ∈ kvs.map (·.1):=by
     rw [hk];exact List.mem_map_of_mem h
   obtain ⟨p,hp,q⟩:=List.mem_map.mp this;exact ⟨p,hp,decide_eq_true q⟩
theorem Vh {kvs:List (List Key×V)} {k:List Key} {v:V} (h:jW kvs k=none):putK kvs k v=kvs++[(k,v)]:=by
 unfold putK;rw [mZ,h];rfl
section
def Vi (t:Ad):Sp:=fun vs H Q _=>∃ (l:Addr) (n:Nat) (rs:List V) (fs:List (List Nat)) (D:Addr->Prop),vs=[.ref l]/\H l=some (.lst rs)/\cR qG D H rs fs/\(∀ f ∈ fs,f.Nodup/\f.length < 64/\∀ v ∈ f,v < n)/\fs.length<=1000000 /\
 ∀ H' p qs,aS H H'->H' p=some (.lst qs)->cR qG D H' qs (jr n fs).1->Q (.ref p) H'
theorem Cz:aQ ["maps","first_maps","row"] ["maps"] (aF t7):=lT (by decide +kernel)
theorem RE (T:Txt K mg t):bF P w K mg base mL 1 t.jI t.pB ["maps"] (Vi t):=by
 refine T.mP.ok Cz (fun vs H Q E h=>?_) (fun cdv A outer s H vs Q E hr h=>?_)
 . obtain ⟨l,n,rs,fs,D,rfl,_⟩:=h
   rfl
 . obtain ⟨l,n,rs,fs,D,rfl,hl,R,ok,size,k⟩:=h
   have hu:=hr.un;have hu':(A.deeper (envOfC "places_of" (aF t7) s.heap.objs.size t.jI cdv)).units+1 < cLine:=by omega
   refine ⟨_,ak (aR (i:=1) Cz.nd rfl (Or.inl rfl) Ai)
     (ak (fj PassesOwn.never rfl (gD (pv 0)) (bu (i:=2) Cz.nd rfl (Or.inl rfl))
       (az (dW (SW hu' (pv 1) (yC tS (by rfl) T.DI PyProof.Rows.boot_tuple (af (c6 PM (by rfl) T.Lu boot_sorted (af (pv 2) au)) au)) (pv 2) ⟨rfl,rfl,rfl,rfl⟩))))
     (az (bc (Lm rfl rfl T.ND (pv 1))))),?_⟩
   have Pk:=qG.ok;intro d hd;have s0:aS H (upd H d (.dT [])):=aK hd;refine ⟨_,rfl,l,rfl,⟨_,bI.of (s0 _ _ hl)⟩,?_⟩;let wN:L2.Iv:=fun i σ H'=>∃ v2 kvs,σ=[some (.ref l),some (.ref d),v2]/\aS H H'/\H' d=some (.dT kvs)/\kvs.map (·.1)=(jr n (fs.take i)).2.map Ho/\cR qG D H (kvs.map (·.2)) (jr n (fs.take i)).1;refine ph (K:=K) (a:=l) (xs:=rs) wN ⟨none,[],rfl,s0,ai,rfl,cR.nil⟩ (fun i σ H' _ ⟨_,_,_,sm,_⟩=>bI.of (sm _ _ hl)) ?_ ?_
   . rintro i x σ H' hx ⟨v2,kvs,rfl,sm,hd',hk,RV⟩
     have hi:i < rs.length:=(List.getElem?_eq_some_iff.mp hx).1;obtain ⟨f,hf⟩:∃ f,fs[i]?=some f:=⟨_,List.getElem?_eq_getElem (by rw [<- R.len];exact hi)⟩;obtain ⟨nd,f64,Vo⟩:=ok f (List.mem_of_getElem? hf);obtain ⟨ra,rfl,dR,hR⟩:=R.at_ i x f hx hf;have hR':H' ra=some (.lst ((sM f).map V.int)):=by rw [sm _ _ hR,Fx];rfl
     refine ⟨_,rfl,d,rfl,.inr ⟨kvs,.inl hd'⟩,?_⟩;refine ⟨_,rfl,ra,sM f,rfl,bI.of hR',by unfold sM;rw [List.length_map];exact f64,fun ns p1 pm pw hp1=>?_⟩;have es:=Ot nd Vo pm pw;subst es;have s1:=aK (o:=.lst ((sM (setOf n f)).map V.int)) hp1;refine ⟨p1,_,rfl,.inl ⟨bI.of ai,fun p2 hp2=>?_⟩⟩;have s2:=s1.trans (aK (o:=.tup ((sM (setOf n f)).map V.int)) hp2);have lk:=(MS n (fs.take i));have kl:kvs.length=(jr n (fs.take i)).1.length:=by rw [<- RV.len,List.length_map]
     have tl:(fs.take i).length<=i:=by rw [List.length_take];omega
     have il:i < fs.length:=(List.getElem?_eq_some_iff.mp hf).1;refine ⟨_,rfl,kvs,Ho (setOf n f),p2,s2 _ _ hd',rfl,by unfold Ho;rw [D5];exact ai,by rw [sizeLine_eq];omega,fun v hv=>?_,fun hv=>?_⟩
     . have c:(jr n (fs.take i)).2.contains (setOf n f)=true:=by rw [<- MT hk,hv];rfl
       refine ⟨_,kvs,rfl,sm.trans s2,s2 _ _ hd',?_,?_⟩
       . rw [take_snoc hf,qH]
         unfold B9;rw [if_pos c];exact hk
       . rw [take_snoc hf,qH]
         unfold B9;rw [if_pos c];exact RV
     . have c:¬ (jr n (fs.take i)).2.contains (setOf n f)=true:=by rw [<- MT hk,hv];simp
       rw [Vh hv];refine ⟨_,_,rfl,fun b u e=>by rw [aq (ay e hd)];exact (sm.trans s2) b u e,ai,?_,?_⟩
       . rw [take_snoc hf,qH]
         unfold B9;rw [if_neg c,List.map_append,List.map_append,hk];rfl
       . rw [take_snoc hf,qH]
         unfold B9;rw [if_neg c,List.map_append];exact RV.snoc ⟨ra,rfl,dR,hR⟩
   . rintro σ H1 ⟨v2,kvs,rfl,sm,hd',hk,RV⟩
     rw [R.len,List.take_length] at RV;refine ⟨_,rfl,d,kvs,rfl,hd',fun p hp=>?_⟩;exact k _ p _ (sm.trans (aK hp)) ai (RV.stay Pk fun b u _ h=>(sm.trans (aK hp)) _ _ h)
end
theorem places_eq (P:Part) (M:Mol):Fk.places P M=(jr M.n (Fk.found P M)).1:=by
 unfold Fk.places jr;rfl
section
theorem RG {y:aB} {p:bz} (g:jE p) (m:pY y):∀ f ∈ uN y p,f.Nodup/\f.length < 64/\∀ v ∈ f,v < y.1.length:=fun f hf=>by
 have r:=Oo g m hf
 have:=r.len
 have:=g.k5
 exact ⟨r.nd,by omega,r.lt⟩
theorem K7 {y:aB} {p:bz} (g:jE p) (m:pY y):(jr y.1.length (uN y p)).1=Fk.places (br p) (aE y):=by
 rw [places_eq,FP g m,yw]
def BA (P:Part) (M:Mol):List Int:=[0,((Fk.found P M).length:Int),((Fk.places P M).length:Int)]
def Pu (K:Zqq):Sp:=fun vs H Q _=>∃ (a b:Addr) (Bp Bm:Bytes),vs=[.ref a,.ref b]/\rZ K H a Bp/\rZ K H b Bm/\Bp.length<=6000/\Bm.length<=6000/\(Bp.getD 4 0).toNat<=5/\(Bm.getD 4 0).toNat<=9/\(Bm.getD 5 0).toNat<=12/\∀ H' p,H' p=some (.lst (vI (yP Bp Bm BA)))->Q (.ref p) H'
theorem FQ:aQ ["pattern","molecule","maps","fault"] ["pattern","molecule"] (aF IY):=lT (by decide +kernel)
theorem Vj (T:Txt K mg t):bF P w K mg base mL 12 t.oW t.yG ["pattern","molecule"] (Pu K):=by
 have GR:=@MQ P w K mg base t T;have GA:=@abc P w K mg base t T;have GP:=@RE P w K mg base t T;obtain ⟨tk0,g0⟩:=T.E8;refine T.yH.ok FQ (fun vs H Q E h=>?_) (fun cdv A outer s H vs Q E hr h=>?_)
 . obtain ⟨a,b,Bp,Bm,rfl,_⟩:=h
   rfl
 . obtain ⟨a,b,Bp,Bm,rfl,ha,hb,lp,lm,p5,m9,m12,k⟩:=h
   have hr1:dG 1 _:=hr.mono (by decide);let E1:XK:=fun cls d H'=>cls=.ref t.aH/\∃ (dx:Addr) (u r p:Int),d=some dx/\yJ H' dx u r p/\∀ H'' l,H'' l=some (.lst ([-5,u,r,p].map V.int))->Q (.ref l) H'';refine ⟨_,ak (YT (E:=E1) (Qr:=Q) (i:=3) ⟨rfl,rfl⟩ rfl FQ.nd T.jh rfl T.xP rfl rfl rfl
       (fun pn Z c=>az (aR (i:=2) FQ.nd rfl (Or.inl rfl) (b4 GR hr rfl T.xN T.j9.kp T.xE .nil c (af (pv 0) (af (pv 1) au)))))
       (fun ea=>az (bc (SQ GA ⟨hr1.dp,hr1.un⟩ rfl T.xO T.jA.kp T.xF (af (pv 3) au)))) ?_)
     (az (bc (kC (af (aV rfl g0 (v:=.int 0) ⟨_,rfl⟩) (af (c6 bx (by rfl) T.kG PySem.boot_len (af (pv 2) au)) (af (c6 bx (by rfl) T.kG PySem.boot_len (af (b4 GP hr1 rfl T.CI T.mP.kp T.CC .nil bE (af (pv 2) au)) au)) au)))))),?_⟩
   . rintro C' dx H1 ⟨rfl,dx',u,r,p,e,hf,k'⟩
     cases e;refine ⟨rfl,fun ea hea=>?_⟩;refine ⟨_,rfl,ea,dx,u,r,p,rfl,ai,?_,k'⟩;show upd H1 ea _ dx=_;rw [aq (ay hf hea)];exact hf
   . refine ⟨fun v H' q=>q,?_⟩
     refine ⟨_,rfl,_,rfl,a,b,Bp,Bm,rfl,ha,hb,lp,lm,p5,m9,m12,?_⟩;unfold yP at k;cases hp:Fk.judgePart Bp with
     | error f=>
       rw [hp] at k;exact fun H' dx hf=>⟨rfl,dx,_,_,_,rfl,hf,k⟩
     | ok Pt=>
       rw [hp] at k;simp only at k;show mh t.aH 1 (Fk.judgeMol Bm) _ _;cases hm:Fk.judgeMol Bm with
       | error f=>
         rw [hm] at k;exact fun H' dx hf=>⟨rfl,dx,_,_,_,rfl,hf,k⟩
       | ok Mo=>
         rw [hm] at k;intro H' l rs p y B2 sm hl R;have e1:br p=Pt:=by have:=B2.jp;rw [hp] at this;exact (Except.ok.inj this).symm
         have e2:aE y=Mo:=by have:=B2.jm;rw [hm] at this;exact (Except.ok.inj this).symm
         simp only at k;unfold BA at k;rw [<- e1,<- e2,<- K7 B2.pat B2.mol,<- FP B2.pat B2.mol] at k;have sz:=MO B2.pat B2.mol;refine ⟨_,rfl,l,_,rfl,.inl (bI.of hl),_,rfl,?_⟩;refine ⟨l,y.1.length,rs,uN y p,_,rfl,hl,R,RG B2.pat B2.mol,by omega,fun H2 p2 qs s2 hp2 R2=>?_⟩;refine ⟨p2,_,rfl,.inl (bI.of hp2),(by show 3<=sizeLine;decide),fun p3 hp3=>?_⟩;refine k _ p3 ?_;rw [ai,R.len,R2.len];rfl
end
theorem FT {l m:List Int} (h:∀ z ∈ l,0<=z/\z<=255) (hm:∀ z ∈ m,0<=z/\z<=255):PartNeutral.callOf [[4],l,m]=some (.count (bytesOf l) (bytesOf m)):=by
 show ((PartNeutral.bytes l).bind fun p=>(PartNeutral.bytes m).bind fun q=>some (FkP.Call.count p q))=_;rw [Fl l h,Fl m hm];rfl
theorem RH (l m:List Int) (h:∀ z ∈ l,0<=z/\z<=255) (hm:∀ z ∈ m,0<=z/\z<=255):PyYqfkba.count l m=yP (bytesOf l) (bytesOf m) BA:=by
 unfold PyYqfkba.count;rw [acw (FT h hm)];refine (RD _ _ _).trans ?_;rfl
theorem RI (l m:List Int) (h:∀ z ∈ l,0<=z/\z<=255) (hm:∀ z ∈ m,0<=z/\z<=255) (ha:PyYqfkba.count_asked l m=true):((bytesOf l).getD 4 0).toNat<=5/\((bytesOf m).getD 4 0).toNat<=9/\((bytesOf m).getD 5 0).toNat<=12:=Vf (RC (FT h hm) ha)
end MP
structure PySem.W.Fast:Prop where
 (tw8630461674884630350 tw6670095354434637539 tw13013198532337901306 tw15157697502981738157 tw3776836605284875482 tw5863869195324326104 tw7673129714497825469 tw6902707976216706615 tw10125681767037184787 tw3116485743892620810 tw1413124064288069989 tw9880049634848523524 tw7654149319938976935 tw16914065032422993999 tw3065636708496344787 tw17021183297261592315 tw3155269207359098227 tw15266096288197402443 tw7781933270278854255 tw1545328881475725072 tw16389879987406744802 tw3540144022062192322 tw8201562784501512702 tw14264723978797344103 tw17158070664353516661 tw10588934671296177508 tw8593382027360678591 tw12124024435615334810 tw17579718220273599404 tw16343584072737312578 tw13453084547754541557 tw7028985823829334246 tw11791518614679558130 tw13306742594881686336 tw4395121615304513418 tw5841841151480230056 tw6412229038927571063 tw10767493189031108255 tw14487214028963878647 tw18040779219137460852 tw13244964732358474830 tw10926362043897228715 tw13767570853645154219 tw15551873709401728691 tw14391385722388586557 tw6600601793009674349 tw11530612323218700264 tw18097669061012657358 tw566391690418685973 tw13311386470162967877 tw14266140219427648027 tw11275797483120488442 tw4656834908035087525 tw9172926214744716819 tw18154258376633145830 tw7978558339904154447 tw5100155793002365484 tw4092451270755752120 tw2824722912425893267 tw16106697452541862759 tw16693853828107352125 tw15487477528424389886 tw13127324625696936449 tw13246968543940654551 tw8443213177828529267 tw6577746790009793200 tw12151766166432597674 tw2646679642150514762 tw6122396892093615582 tw1425156381940315275 tw1046663203618488205 tw7462800133058435260 tw4261682388942150807 tw15530442216410087661 tw12853197989676380462 tw15114841469741906443 tw1546845272072425416 tw3799181379161088468 tw10547935361411810985 tw2082490541397784561 tw15509817791389883315 tw18208086816434364371 tw8766847210196530346 tw4675071829970206933 tw9377446147120622668 tw16193580697563629624 tw5129014665489099422 tw3558071347115601026 tw12562512832798189600 tw15141295973609099014 tw3892611871506790918 tw11488474900944565771 tw15343989481691380382 tw67630105150365945 tw10185563854126137050 tw8865601195688816398 tw8938988736626721771 tw5874439403615939014 tw6884167333776848163 tw3250069621661356931 tw14581056912151285946 tw8702003018457096914 tw13556740723636008463 tw10207786043011904824 tw11925654482072265449 tw14273626761245055547 tw1112577012453569715 tw4527624602121528421 tw17271375109540497881 tw2723929760815097681 tw15945345886076115255 tw9451056831467435175 tw8369483836088909148 tw15758944226681530081 tw2354973640133838046 tw10357780189998176093 tw2821612978327369821 tw8029557525826254066 tw18029497570793087768 tw8817158795879616697 tw5273557192312664533 tw13021150556951809351 tw13566173580684371151 tw15053175101825508943 tw7963961670499438761 tw13488816219798050420 tw9564987116307834799 tw6717388027057059188 tw11932784535003420508 tw9759649739192209692 tw12848672093198630311 tw6621939957985782199 tw5281807304493920326 tw17738381917627038440 tw13583683892967799336 tw7335923291363179818 tw2270031624787608616 tw12076076015497426215 tw8940313300313266879 tw7156897551177310535 tw12148393289436308788 tw4089718679010478665 tw18051251748636110229 tw5486636149334658787 tw14535420641677828917 tw3378057674468964680 tw8461510888238867219 tw8846890369669163505 tw14462706391612629036 tw11805553219643420498 tw4031407806588918555 tw13829780135642442872 tw17298955929873462631 tw8586872739162739895 tw11444831217138084161 tw4452370257774006845 tw6318043489403187779 tw2588320139482766403 tw8364512013471578543 tw15404095851356373200 tw5714132754455182527 tw1675792362587551222 tw873986755338171723 tw6176065603135621379 tw5821827503126026540 tw9763262717510042385 tw10151877068231314999 tw17997305725679077945 tw11303478817112164502 tw9613971047680204963 tw16564200815857434081 tw10074911448997981380 tw12049512152236024565 tw12728461273948828 tw3568935297466491514 tw14449890484799314582 tw12846606183418461726 tw14384092398723548443 tw13321499303937516478 tw3538740702936515014 tw10551435348292633284 tw1850794907373475415 tw3344895922389484459 tw11200879152758282896 tw6464476370156628427 tw2472661974450311689 tw12694890018703000539 tw13809490498237927975 tw5022059265099877096 tw197894554959664242 tw14899442887866031717 tw15369295521626735997 tw6162804422094575170 tw14239649478858778782 tw3401713625055580547 tw11978117113426366548 tw12908137228092327537 tw11614630997569254175 tw8382384712291804643 tw1356818684945331147 tw6278079882480739662 tw9493654669601939982 tw16457444441460045170 tw7545871594947541074 tw3819382282140995622 tw8966936814903871402 tw10891652232830455576 tw14712141396093565937 tw5138702661698523215 tw427141594986615704 tw3675942315938515781 tw16555832366406312123 tw17009299786394913514 tw10258255088673571802 tw6224709314409433629 tw7041449145988688277 tw3405751552464909610 tw11043400549135202017 tw8135484294827886146 tw7370069693613210321 tw5769367836237788956 tw8808463130838116170 tw12492257992056427973 tw16451114680844268175 tw8540006118094929459 tw6427274276111579971 tw3205240874826291493 tw15370475127356804898 tw2432868471615209201 tw5480784139461445526 tw2123940185061851258 tw4211739748700856279 tw3680818508859963036 tw1961135603650799650 tw6001325669288928020 tw2229283328340664411 tw17383426500330987363 tw14115285988842673172 tw15172826127399744960 tw4746046922816236899 tw8472267517465153027 tw13046719195310069080 tw8456010361364092097 tw16146938421442178268 tw13325267216003553534 tw1085702797857176598 tw15440950305745937355 tw8698632124741327962 tw12471160920974685041 tw9609611885185168413 tw12786555429878251811 tw118717050774256976 tw14567605058951074536 tw16498166225549790934 tw8508324598803680130 tw1161749819928540339 tw1934099213759720298 tw7721894802609796196 tw4290871552841655409 tw8122990436374580978 tw13622441827063075528 tw5460458075722411415 tw17250197051776340053 tw17386586454849439483 tw14723216481918108443 tw2725841781682956721 tw17453112131803908292 tw14770553454548226708 tw1141503102944341120 tw6856295492940897522 tw13038437721813267433 tw7470975258972385168 tw12585761906501772428 tw8889477706668953482 tw5830153609112298019 tw2032475462432096740 tw11280897949282269143 tw13967429776420511619 tw3215381313794550577 tw12913737551704261397 tw1144524666149911575 tw15509626521366686420 tw79252926665535720 tw12509132848748546354 tw17078826483713701491 tw10940664245262197618 tw16347531140078196379 tw9901720175759145840 tw6608069290307940532 tw16883436719573381101 tw14986403581777284813 tw1250860135536493948 tw11160112388790487747 tw6808513236675085265 tw9943057841343320668 tw15492838231696473482 tw1431067879576967739 tw4938037561560310041 tw17504502599103590672 tw15645171810903927823 tw7274576559055828123 tw7919542151036946612 tw5591387133858133138 tw16048464782483458239 tw12704735405664372896 tw15652244912587573864 tw17515305612441466435 tw15712837635514172365 tw7640653888674932472 tw543062915517603760 tw2397450491289193528 tw7121802040798890128 tw10686941244682512758 tw11790388618441484987 tw8419798166027362184 tw12852505143966286092 tw10775269740013413948 tw10653951294198120030 tw4586877997487062622 tw6922904449790067124 tw10188174420243604086 tw2221957309693473546 tw10231064955815186274 tw3248779534275864715 tw12323056767648477658 tw12910033566248252247 tw18333364446927036305 tw11029044502790110614 tw17066444045857568945 tw4493376634170926128 tw14098036577878237777 tw4575957400559441798 tw3956750340567916859 tw231092682835820190 tw1281933778870756221 tw9161594031831609534 tw10597949664920041490 tw8822029299217324963 tw8921294906881295711 tw1631915623853015084 tw6465770458943806447 tw2485057879415806441 tw17607237841047867599 tw705030935778345433:True)
open PySem PySem.W PyProof.Rows
set_option maxRecDepth 100000 in
set_option maxHeartbeats 0 in
theorem PySem.Challenge.cw_moleculeparts_s04_count_holds : PySem.Challenge.rw_moleculeparts_s04_count.Holds := by
 w_on;k_headS;(case hw=>exact ⟨[.list [],.list []],by decide +kernel,by decide +kernel⟩)
 k_fillS
 refine L2.N3 (r:=PySem.Challenge.rw_moleculeparts_s04_count) (k:=12) (CX:=L2.mL) (ps:=["pattern","molecule"]) (sp:=MP.Pu) (by decide +kernel) rfl rfl ⟨rfl,by decide,by decide⟩ (fun w h Y=>PySem.W.kIn_of Y) ?F ?S (fun _ _ _ _ z=>z)
 case F=>
  intro w mg fa h Y KX G hmg;suffices TT:∃ (f:Addr) (t:MP.Ad),t.oW=f/\MP.Txt _ mg t by
   obtain ⟨f,t,e,T⟩:=TT;have e2:=hmg.symm.trans T.OP;cases e2;refine ⟨t.yG,fun s us hu=>?_,fun base _ _=>MP.Vj T⟩;obtain ⟨oc,od,kV,doc,pm,an,cdv,ct,osl,ed,lk,hcd⟩:=T.yH.ex;rw [ed];exact match us,hu with | [_,_],_=>.of_eq rfl
  refine' ⟨_,?TT⟩;rotate_left;refine' MP.YY KX G ?_ ?_ ?_ ?_ ?_ ?_ ?_ ?_ ?_ ?_ ?_ ?_ ?_ ?_ ?_ ?_ ?_ ?_ ?_ ?_ ?_ ?_ ?_ ?_ ?_ ?_ ?_ ?_ ?_ ?_ ?_ ?_ ?_ ?_ ?_ ?_ ?_ ?_ ?_ ?_ ?_ ?_ ?_ ?_ ?_ ?_ ?_ ?_ ?_ ?_ ?_ ?_ ?_ ?_ ?_ ?_ ?_ ?_ ?_ ?_ ?_ ?_ ?_ ?_ ?_ ?_ ?_ ?_ ?_ ?_ ?_ ?_ ?_ ?_ ?_ ?_ ?_ ?_ ?_ ?_ ?_ ?_ ?_ ?_ ?_ ?_ ?_ ?_ ?_ ?_ ?_ ?_ ?_ ?_ ?_ ?_ ?_ ?_ ?_ ?_ ?_ ?_ ?_ ?_ ?_ ?_ ?_ ?_ ?_ ?_ ?_ ?_ ?_ ?_ ?_ ?_ ?_ ?_ ?_ ?_ ?_ ?_ ?_ ?_ ?_ ?_ ?_ ?_ ?_ ?_ ?_ ?_ ?_ ?_ ?_ ?_ ?_ ?_ ?_ ?_ ?_ ?_ ?_ ?_ ?_ ?_ ?_ ?_ ?_ ?_ ?_ ?_ ?_ ?_ ?_ ?_ ?_ ?_ ?_ ?_ ?_ ?_ ?_ ?_ ?_ ?_ ?_ ?_ ?_ ?_ ?_ ?_ ?_ ?_ ?_ ?_ ?_ ?_ ?_ ?_ ?_ ?_ ?_ ?_ ?_ ?_ ?_ ?_ ?_ ?_ ?_ ?_ ?_ ?_ ?_ ?_ ?_ ?_ ?_ ?_ ?_ ?_ ?_ ?_ ?_ ?_ ?_ ?_ ?_ ?_ ?_ ?_ ?_ ?_ ?_ ?_ ?_ ?_ ?_ ?_ ?_ ?_ ?_ ?_ ?_ ?_ ?_ ?_ ?_ ?_ ?_ ?_ ?_ ?_ ?_ ?_ ?_ ?_ ?_ ?_ ?_ ?_ ?_ ?_ ?_ ?_ ?_ ?_ ?_ ?_ ?_ ?_ ?_ ?_ ?_ ?_ ?_ ?_ ?_ ?_ ?_ ?_ ?_ ?_ ?_ ?_ ?_ ?_ ?_ ?_ ?_ ?_ ?_ ?_ ?_ ?_ ?_ ?_ ?_ ?_ ?_ ?_ ?_ ?_ ?_ ?_ ?_ ?_ ?_ ?_ ?_ ?_ ?_ ?_ ?_ ?_ ?_ ?_ ?_ ?_ ?_ ?_ ?_ ?_ ?_ ?_ ?_ ?_ ?_ ?_ ?_ ?_ ?_ ?_ ?_ ?_ ?_ ?_ ?_ ?_ ?_ ?_ ?_ ?_ ?_ ?vv
  all_goals first | k_is | (apply MP.b7.mk<;>k_is) | skip
  (case vv=>(rw [<- Array.all_toList];rfl))
 case S=>
  intro K H xs a hO hwi acy hx;cases hx with
  | cons h1 h2=>
   cases h2 with
   | cons h3 h4=>
    cases h4;cases h1 with
    | lst hs ha=>
     cases h3 with
     | lst hs2 ha2=>
      have e:=L2.IP a.1 _ ha;subst e;have e2:=L2.IP a.2.1 _ ha2;subst e2;have q:((Codec.inLen 0 6000 a.1&&a.1.all (Codec.inInt 0 255))&&((Codec.inLen 0 6000 a.2.1&&a.2.1.all (Codec.inInt 0 255))&&true))=true:=hwi;rw [Bool.and_eq_true,Bool.and_eq_true,Bool.and_eq_true,Bool.and_eq_true,List.all_eq_true,List.all_eq_true] at q;have Xp:∀ z ∈ a.1,0<=z/\z<=255:=fun z hz=>Codec.inInt_iff.mp (q.1.2 z hz);have ZU:∀ z ∈ a.2.1,0<=z/\z<=255:=fun z hz=>Codec.inInt_iff.mp (q.2.1.2 z hz);have hlen:=(Codec.inNat_iff.mp q.1.1).2;have hlen2:=(Codec.inNat_iff.mp q.2.1.1).2;rw [MP.U5 a.1 Xp] at hs;rw [MP.U5 a.2.1 ZU] at hs2;have few:=MP.RI a.1 a.2.1 Xp ZU acy;refine ⟨_,_,MP.bytesOf a.1,MP.bytesOf a.2.1,rfl,MP.U4 hO hs,MP.U4 hO hs2,by rw [MP.CS];exact hlen,by rw [MP.CS];exact hlen2,few.1,few.2.1,few.2.2,fun H' p hp=>?_⟩;have due:Codec.app PySem.Challenge.rw_moleculeparts_s04_count.args PySem.Challenge.rw_moleculeparts_s04_count.f a=MP.yP (MP.bytesOf a.1) (MP.bytesOf a.2.1) MP.BA:=MP.RH a.1 a.2.1 Xp ZU;rw [due];exact .lst (L2.bI.of hp) (L2.OH _)
#print axioms PySem.Challenge.cw_moleculeparts_s04_count_holds
