import PyProof.Rows.All
import Wide.All
import OpenK.AllK
import Wide.FinOn
import PyProof.EqAt
import PyProof.EqKinds
import PyProof.TupleCall
import KE.BitLaws
import Open.SpecLaws
import KE.OsHead
import KE.OsGo
import PyProof.StationsW
import PyProof.RulesAs
import PyProof.PassesOwn
import PyProof.ExcClass
import PyProof.InstStoreFacts
import PyProof.InstLoad
import PyProof.ExcArgsOwn
import PyProof.ExcAttrAll.Exception
import PyProof.ExcBaseAll.Exception
import PyProof.ExcInit
import KE.KDictLaws
import KE.KDictList
import KE.KMinBuiltin
import PyProof.Rows.CallKwBuiltin
import PySem.Challenge.RW_moleculeparts_s11_least
set_option Elab.async false
set_option linter.all false
set_option maxRecDepth 100000
set_option maxHeartbeats 4000000
namespace L2
open PySem PySem.Spec PyProof.Rows
abbrev Key:=Sum Int Str
def Cm:Key->Value->Bool
 | .inl k,v=>Value.isInt k v
 | .inr x,v=>Value.isStrOf x v
def XS (w:World):Key->Int
 | .inl k=>hashInt k
 | .inr x=>hashStr w x
theorem ee:∀ {k:Key} {v:Value},Cm k v=true->(∃ i t,k=Sum.inl i/\v=Value.int i t)\/(∃ x t,k=Sum.inr x/\v=Value.str x t)
 | .inl i,v,h=>by
   obtain ⟨t,e⟩:=Value.isInt_shape (k:=i) (v:=v) h
   exact .inl ⟨i,t,rfl,e⟩
 | .inr x,v,h=>by
   obtain ⟨t,e⟩:=Value.isStrOf_shape (x:=x) (v:=v) h
   exact .inr ⟨x,t,rfl,e⟩
theorem MW (i:Int) (t:Tok):Cm (.inl i) (.int i t)=true:=by simp [Cm,Value.isInt]
theorem MX (x:Str) (t:Tok):Cm (.inr x) (.str x t)=true:=by simp [Cm,Value.isStrOf]
theorem TU (a b:Int):decide ((Sum.inl a:Key)=Sum.inl b)=(a==b):=by
 by_cases e:a=b
 . subst e;simp
 . have h:¬ (Sum.inl a:Key)=Sum.inl b:=fun q=>e (Sum.inl.inj q)
   rw [decide_eq_false h]
   exact (beq_eq_false_iff_ne.mpr e).symm
theorem TV (a b:Str):decide ((Sum.inr a:Key)=Sum.inr b)=decide (a=b):=by
 by_cases e:a=b
 . subst e;simp
 . have h:¬ (Sum.inr a:Key)=Sum.inr b:=fun q=>e (Sum.inr.inj q)
   rw [decide_eq_false h,decide_eq_false e]
theorem TX (a:Int) (b:Str):decide ((Sum.inl a:Key)=Sum.inr b)=false:=decide_eq_false (fun q=>nomatch q)
theorem TY (a:Str) (b:Int):decide ((Sum.inr a:Key)=Sum.inl b)=false:=decide_eq_false (fun q=>nomatch q)
def eU (prog:Program) (w:World):PySem.KeyKind prog w Key where
 is:=Cm
 hash:=XS w
 inj:=fun v a b ha hb=>by
   rcases ee ha with ⟨i,t,rfl,rfl⟩ | ⟨x,t,rfl,rfl⟩
   . rcases ee hb with ⟨j,u,rfl,e⟩ | ⟨y,u,rfl,e⟩
     . injection e with e1 _;rw [e1]
     . exact nomatch e
   . rcases ee hb with ⟨j,u,rfl,e⟩ | ⟨y,u,rfl,e⟩
     . exact nomatch e
     . injection e with e1 _;rw [e1]
 byValue:=fun k v h=>by
   rcases ee h with ⟨i,t,rfl,rfl⟩ | ⟨x,t,rfl,rfl⟩<;>rfl
 pyHash:=fun hv h=>by
   rcases ee hv with ⟨i,t,rfl,rfl⟩ | ⟨x,t,rfl,rfl⟩
   . exact wpAny_pyHash_int h
   . exact wpAny_pyHash_str h
 eqBool:=fun hu hv h=>by
   rcases ee hu with ⟨i,t,rfl,rfl⟩ | ⟨x,t,rfl,rfl⟩
   . rcases ee hv with ⟨j,u,rfl,rfl⟩ | ⟨y,u,rfl,rfl⟩
     . rw [TU] at h;exact wpAny_eqBool_int h
     . rw [TX] at h;exact SeqAt.EqAt.int_str i t y u _ _ _ _ h
   . rcases ee hv with ⟨j,u,rfl,rfl⟩ | ⟨y,u,rfl,rfl⟩
     . rw [TY] at h;exact SeqAt.EqAt.str_int x t j u _ _ _ _ h
     . rw [TV] at h;exact wpAny_eqBool_str h
 «strs»:=fun k x t v h=>by
   rcases ee h with ⟨i,u,rfl,e⟩ | ⟨y,u,rfl,e⟩
   . exact nomatch e
   . injection e with e1 _
     subst e1
     cases v<;>rfl
theorem Jd (prog:Program) (w:World) (i:Int) (t:Tok):(eU prog w).is (.inl i) (.int i t)=true:=MW i t
theorem Je (prog:Program) (w:World) (x:Str) (t:Tok):(eU prog w).is (.inr x) (.str x t)=true:=MX x t
end L2
namespace L2
open PySem PySem.Spec PyProof.Rows
inductive V where
 | non | bl (b:Bool) | int (i:Int) | str (x:Str) | Jc (b:Array UInt8) | V3 (b:UInt64) | ref (a:Addr) | ty (n:String)
 deriving DecidableEq
def RelV:V->Value->Prop
 | .non,u=>u=Value.none
 | .bl b,u=>u=Value.bool b
 | .int i,u=>∃ t,u=Value.int i t
 | .str x,u=>∃ t,u=Value.str x t
 | .Jc b,u=>∃ t,u=Value.bytes b t
 | .V3 b,u=>∃ t,u=Value.float b t
 | .ref a,u=>u=Value.ref a
 | .ty n,u=>u=Value.type n
abbrev Vals:List V->List Value->Prop:=Paired RelV
theorem Vals.length {xs:List V} {us:List Value} (r:Vals xs us):xs.length=us.length:=Paired.length r
theorem Vals.get:∀ {xs:List V} {us:List Value} {i:Nat} {x:V},Vals xs us->xs[i]?=some x->∃ u,us[i]?=some u/\RelV x u
 | _,_,_,_,.nil,e=>by simp at e
 | _,_,0,_,.cons r _,e=>by simp at e;subst e;exact ⟨_,rfl,r⟩
 | _,_,i+1,x,.cons _ t,e=>by
   obtain ⟨u,h1,h2⟩:=Vals.get (i:=i) (x:=x) t (by simpa using e)
   exact ⟨u,by simpa using h1,h2⟩
theorem Vals.set {x:V} {u:Value} (r:RelV x u):∀ {xs:List V} {us:List Value} (i:Nat),Vals xs us->Vals (xs.set i x) (us.set i u)
 | _,_,_,.nil=>.nil
 | _,_,0,.cons _ t=>.cons r t
 | _,_,i+1,.cons q t=>.cons q (Vals.set r i t)
theorem Vals.append:∀ {xs ys:List V} {us ws:List Value},Vals xs us->Vals ys ws->Vals (xs++ys) (us++ws)
 | _,_,_,_,.nil,s=>s
 | _,_,_,_,.cons r t,s=>.cons r (Vals.append t s)
theorem Vals.take:∀ {xs:List V} {us:List Value} (n:Nat),Vals xs us->Vals (xs.take n) (us.take n)
 | _,_,0,_=>.nil
 | _,_,_+1,.nil=>.nil
 | _,_,n+1,.cons r t=>.cons r (Vals.take n t)
theorem Vals.drop:∀ {xs:List V} {us:List Value} (n:Nat),Vals xs us->Vals (xs.drop n) (us.drop n)
 | _,_,0,r=>r
 | _,_,_+1,.nil=>.nil
 | _,_,n+1,.cons _ t=>Vals.drop n t
def pZ:Option V->Option Value->Prop
 | some v,some u=>RelV v u
 | none,none=>True
 | _,_=>False
def KV {κ:Type}:List (κ×V)->List (κ×Value)->Prop:=Paired fun (p:κ×V) (q:κ×Value)=>p.1=q.1/\RelV p.2 q.2
def kV:Key->V
 | .inl i=>.int i
 | .inr x=>.str x
inductive HO where
 | lst (xs:List V)
 | tup (xs:List V)
 | dK (kvs:List (Key×V)) | dT (kvs:List (List Key×V))
 | set (S:Int->Bool) (n:Nat)
 | ins (C dx:Addr) (fs:List (Str×V))
 | own (x:Addr)
 | xd (fs:List (Str×V))
 | met (f x:Addr)
 | QV (lo hi:Int)
 | l6 (o:Obj) (u:HO)
 | SW (ps:Array Value)
 | ext (φ:Heap->Prop)
abbrev Hp:=Addr->Option HO
def upd (H:Hp) (a:Addr) (o:HO):Hp:=fun b=>if b=a then some o else H b
theorem ai {H:Hp} {a:Addr} {o:HO}:upd H a o a=some o:=by unfold upd;rw [if_pos rfl]
theorem aq {H:Hp} {a b:Addr} {o:HO} (h:b ≠ a):upd H a o b=H b:=by unfold upd;rw [if_neg h]
theorem oq {H:Hp} {a:Addr} {o u:HO}:upd (upd H a o) a u=upd H a u:=by
 funext b;unfold upd;split<;>rfl
theorem lO {H:Hp} {a b:Addr} {o u:HO} (h:H a=some o) (h':H b=some u) (d:o ≠ u):a ≠ b:=by
 intro e;subst e;rw [h] at h';exact d (Option.some.inj h')
theorem ay {H:Hp} {a b:Addr} {o:HO} (h:H a=some o) (h':H b=none):a ≠ b:=by
 intro e;subst e;rw [h] at h';cases h'
section
variable (P:Program) (w:World)
def cS (H:Hp) (h:Heap) (a:Addr):HO->Prop
 | .lst xs=>xs.length<=sizeLine/\∃ (its:List Value) (n:Nat),Vals xs its/\h.get? a=some { cls:=.type "list",data:=.seq its.toArray n }
 | .tup xs=>xs.length<=sizeLine/\∃ its:List Value,Vals xs its/\IsTup h a its.toArray
 | .dK kvs=>kvs.length<=sizeLine/\(a==sysModules)=false/\∃ vs,KV kvs vs/\h.DictOf (eU P w) a vs
 | .dT kvs=>kvs.length<=sizeLine/\(a==sysModules)=false/\∃ xs:List (List Key×Addr×Value),
     Paired (fun (p:List Key×V) (q:List Key×Addr×Value)=>p.1=q.1/\H q.2.1=some (.tup (p.1.map kV))/\RelV p.2 q.2.2) kvs xs /\
     ∃ o es ep,h.get? a=some o/\o.ExactDict/\o.data=.dict es ep/\es.toList=xs.map (entryOfKey (tupleKind (eU P w)))/\(xs.map (·.1)).Nodup
 | .set S n=>h.SetOf (intKind P w) a S n
 | .ins C dx fs=>H dx=some (.own a)/\fs.length<=1000/\dx ≠ a/\h.get? a=some (PySem.W.instObj C dx) /\
     ∃ mA,h.Ns1 dx mA/\(∀ f,pZ (fs.lookup f) (mA f))/\PySem.Within mA (fs.map (·.1))
 | .own _=>∃ o,h.get? a=some o
 | .xd fs=>∃ mA,h.Ns1 a mA/\∀ f,pZ (fs.lookup f) (mA f)
 | .QV lo hi=>∃ t u v,h.get? a=some { cls:=.type "range",data:=.fields #[.int lo t,.int hi u,.int 1 v] }
 | .l6 o u=>h.get? a=some o/\cS H h a u
 | .SW ps=>h.get? a=some { cls:=.none,data:=.fields ps }
 | .met f x=>h.get? a=some (PySem.W.methodObj (.ref f) (.ref x))
 | .ext φ=>φ h/\(∃ o,h.get? a=some o)/\∀ h1 h2:Heap,φ h1->(∀ o,h1.get? a=some o->h2.get? a=some o)->φ h2
def tH (H:Hp) (h:Heap):Prop:=∀ a o,H a=some o->cS P w H h a o
end
section
variable {P:Program} {w:World} {H H':Hp} {h h':Heap} {a:Addr} {o:HO}
theorem cS.lt (x:cS P w H h a o):a < h.objs.size:=by
 cases o with
 | lst xs=>obtain ⟨_,_,_,_,e⟩:=x;exact Heap.lt_size e
 | tup xs=>obtain ⟨_,_,_,p⟩:=x;exact p.lt
 | dK kvs=>obtain ⟨_,_,_,_,o,_,_,e,_⟩:=x;exact Heap.lt_size e
 | dT kvs=>obtain ⟨_,_,_,_,o,_,_,e,_⟩:=x;exact Heap.lt_size e
 | set S n=>obtain ⟨o,_,_,_,e,_⟩:=x;exact Heap.lt_size e
 | ins C dx fs=>obtain ⟨_,_,_,e,_⟩:=x;exact Heap.lt_size e
 | own y=>obtain ⟨_,e⟩:=x;exact Heap.lt_size e
 | xd fs=>obtain ⟨_,⟨_,_,_,e,_⟩,_⟩:=x;exact Heap.lt_size e
 | QV lo hi=>obtain ⟨_,_,_,e⟩:=x;exact Heap.lt_size e
 | l6 ob u=>obtain ⟨e,_⟩:=x;exact Heap.lt_size e
 | SW ps=>exact Heap.lt_size (show h.get? a=some _ from x)
 | met f y=>exact Heap.lt_size (show h.get? a=some _ from x)
 | ext φ=>obtain ⟨_,⟨_,e⟩,_⟩:=x;exact Heap.lt_size e
theorem Paired.TZ {α β:Type} {F G:α->β->Prop}:∀ {l₁:List α} {l₂:List β},Paired F l₁ l₂->(∀ a b,F a b->G a b)->Paired G l₁ l₂
 | _,_,.nil,_=>.nil
 | _,_,.cons r t,f=>.cons (f _ _ r) (Paired.TZ t f)
theorem cS.stay (x:cS P w H h a o) (k:∀ b u,(b=a\/H b=some (.own a))->h.get? b=some u->h'.get? b=some u)
   (ho:∀ b,H b=some (.own a)->H' b=some (.own a)) (ht:∀ b xs,H b=some (.tup xs)->H' b=some (.tup xs)):cS P w H' h' a o:=by
 induction o with
 | lst xs=>obtain ⟨z,its,n,r,e⟩:=x;exact ⟨z,its,n,r,k _ _ (.inl rfl) e⟩
 | tup xs=>obtain ⟨z,its,r,ob,e,c⟩:=x;exact ⟨z,its,r,ob,k _ _ (.inl rfl) e,c⟩
 | dK kvs=>obtain ⟨z,y,vs,r,ob,es,ep,e,c⟩:=x;exact ⟨z,y,vs,r,ob,es,ep,k _ _ (.inl rfl) e,c⟩
 | dT kvs=>
   obtain ⟨z,y,xs,r,ob,es,ep,e,c⟩:=x
   exact ⟨z,y,xs,Paired.TZ r fun p q z=>⟨z.1,ht _ _ z.2.1,z.2.2⟩,ob,es,ep,k _ _ (.inl rfl) e,c⟩
 | set S n=>obtain ⟨ob,es,ep,t,e,c⟩:=x;exact ⟨ob,es,ep,t,k _ _ (.inl rfl) e,c⟩
 | ins C dx fs=>
   obtain ⟨d,z,ne,e,mA,⟨od,es,ep,e2,c⟩,r⟩:=x
   exact ⟨ho _ d,z,ne,k _ _ (.inl rfl) e,mA,⟨od,es,ep,k _ _ (.inr d) e2,c⟩,r⟩
 | own y=>obtain ⟨ob,e⟩:=x;exact ⟨ob,k _ _ (.inl rfl) e⟩
 | xd fs=>obtain ⟨mA,⟨od,es,ep,e,c⟩,r⟩:=x;exact ⟨mA,⟨od,es,ep,k _ _ (.inl rfl) e,c⟩,r⟩
 | QV lo hi=>obtain ⟨t,u,v,e⟩:=x;exact ⟨t,u,v,k _ _ (.inl rfl) e⟩
 | l6 ob u ih=>obtain ⟨e,q⟩:=x;exact ⟨k _ _ (.inl rfl) e,ih q⟩
 | SW ps=>
   have e:h.get? a=some { cls:=.none,data:=.fields ps }:=x
   show h'.get? a=some { cls:=.none,data:=.fields ps }
   exact k a _ (.inl rfl) e
 | met f y=>
   have e:h.get? a=some (PySem.W.methodObj (.ref f) (.ref y)):=x
   show h'.get? a=some (PySem.W.methodObj (.ref f) (.ref y))
   exact k a _ (.inl rfl) e
 | ext φ=>obtain ⟨p,⟨o,e⟩,st⟩:=x;exact ⟨st _ _ p fun o q=>k _ _ (.inl rfl) q,⟨o,k _ _ (.inl rfl) e⟩,st⟩
theorem tH.lt (x:tH P w H h) (e:H a=some o):a < h.objs.size:=(x a o e).lt
theorem tH.fresh (x:tH P w H h) (e:h.objs.size<=a):H a=none:=by
 cases q:H a with
 | none=>rfl
 | some u=>exact absurd (Nat.lt_of_lt_of_le (x.lt q) e) (Nat.lt_irrefl _)
theorem tH.kept (x:tH P w H h) (k:∀ b u,h.get? b=some u->h'.get? b=some u):tH P w H h':=fun a o e=>
 (x a o e).stay (fun b u _ q=>k b u q) (fun _ q=>q) fun _ _ q=>q
theorem tH.laid (x:tH P w H h) (k:∀ b u,h.get? b=some u->h'.get? b=some u) (hp:h.objs.size<=a) (new:cS P w (upd H a o) h' a o):tH P w (upd H a o) h':=fun b u e=>by
 have hn:=x.fresh hp
 by_cases hb:b=a
 . subst hb;rw [ai] at e;cases e;exact new
 . rw [aq hb] at e
   exact (x b u e).stay (fun c v _ q=>k c v q) (fun c q=>by rw [aq (ay q hn)];exact q) fun c xs q=>by rw [aq (ay q hn)];exact q
end
def Rd (H:Hp) (a:Addr) (u:HO):Prop:=H a=some u\/∃ o,H a=some (.l6 o u)
theorem Rd.ok {P:Program} {w:World} {H:Hp} {h:Heap} {a:Addr} {u:HO} (r:Rd H a u) (x:tH P w H h):cS P w H h a u:=by
 rcases r with r | ⟨o,r⟩
 . exact x a u r
 . obtain ⟨_,q⟩:=x a _ r
   exact q
def SX:Option HO->Prop
 | some (.lst _)=>True
 | some (.dK _)=>True
 | some (.dT _)=>True
 | some (.set _ _)=>True
 | some (.ins _ _ _)=>True
 | some (.ext _)=>True
 | _=>False
section
variable {P:Program} {w:World} {H:Hp} {h h':Heap} {x e:Addr} {o':HO}
theorem tH.write (ok:tH P w H h) (mu:SX (H x)) (he:e=x\/H e=some (.own x)) (k:∀ b u,b ≠ e->h.get? b=some u->h'.get? b=some u) (V4:∃ u,h'.get? e=some u)
   (new:cS P w (upd H x o') h' x o'):tH P w (upd H x o') h':=fun b u q=>by
 have VF:∀ c y,H c=some (.own y)->c ≠ x:=fun c y r z=>by subst z;rw [r] at mu;exact mu
 have XT:∀ c xs,H c=some (.tup xs)->c ≠ x:=fun c xs r z=>by subst z;rw [r] at mu;exact mu
 by_cases hb:b=x
 . subst hb;rw [ai] at q;cases q;exact new
 . rw [aq hb] at q
   by_cases Ua:b=e
   . have q':H b=some (.own x):=by
       rcases he with z | z
       . exact absurd (Ua.trans z) hb
       . rw [Ua];exact z
     rw [q] at q';cases q'
     obtain ⟨v,hv⟩:=V4
     exact ⟨v,by rw [Ua];exact hv⟩
   . refine (ok b u q).stay (fun c v hc r=>k c v ?_ r) (fun c r=>by rw [aq (VF c b r)];exact r) fun c xs r=>by rw [aq (XT c xs r)];exact r
     rcases hc with rfl | hc
     . exact Ua
     . rintro rfl
       rcases he with z | z
       . exact VF c b hc z
       . rw [hc] at z;cases z;exact hb rfl
end
structure Un (fs ex:List Addr) (H H':Hp) (h h':Heap):Prop where
 keep:∀ b o,h.get? b=some o->H b=none->b ∉ fs->b ∉ ex->h'.get? b=some o
 slot:∀ b o,h.get? b=some o->H b=none->b ∈ fs->b ∉ ex->∃ sl,h'.get? b=some { o with slots:=sl }
 free:∀ b o,h.get? b=some o->H b=none->b ∉ ex->H' b=none
 there:∀ b o,h.get? b=some o->b ∉ ex->∃ o',h'.get? b=some o'
 tups:∀ b xs,H b=some (.tup xs)->H' b=some (.tup xs)
 yX:∀ b o u,H b=some (.l6 o u)->H' b=some (.l6 o u)
 Bq:∀ b ps,H b=some (.SW ps)->∃ more,H' b=some (.SW (ps++more))
section
variable {fs fs' ex ex':List Addr} {H H1 H2:Hp} {h h1 h2 h':Heap} {a x e:Addr} {o:HO}
theorem Un.any (u:Un fs ex H H1 h h1) {b:Addr} {ob:Obj} (q:h.get? b=some ob) (n:H b=none) (hx:b ∉ ex):∃ sl,h1.get? b=some { ob with slots:=sl }:=by
 by_cases hb:b ∈ fs
 . exact u.slot b ob q n hb hx
 . exact ⟨ob.slots,u.keep b ob q n hb hx⟩
theorem Un.kept (k:∀ b u,h.get? b=some u->h'.get? b=some u):Un fs ex H H h h':=
 ⟨fun b ob q _ _ _=>k b ob q,fun b ob q _ _ _=>⟨ob.slots,k b ob q⟩,fun _ _ _ n _=>n,fun b ob q _=>⟨ob,k b ob q⟩,fun _ _ q=>q,fun _ _ _ q=>q,fun _ ps q=>⟨#[],by rw [q];simp⟩⟩
theorem Un.refl:Un fs ex H H h h:=Un.kept fun _ _ q=>q
theorem Un.laid (k:∀ b u,h.get? b=some u->h'.get? b=some u) (hp:h.objs.size<=a) (hn:H a=none):Un fs ex H (upd H a o) h h' where
 keep:=fun b u q _ _ _=>k b u q
 slot:=fun b u q _ _ _=>⟨u.slots,k b u q⟩
 free:=fun b u q n _=>by rw [aq (Nat.ne_of_lt (Nat.lt_of_lt_of_le (Heap.lt_size q) hp))];exact n
 there:=fun b u q _=>⟨u,k b u q⟩
 tups:=fun b xs q=>by rw [aq (ay q hn)];exact q
 yX:=fun b u xs q=>by rw [aq (ay q hn)];exact q
 Bq:=fun b ps q=>⟨#[],by rw [aq (ay q hn),q];simp⟩
theorem Un.write (mu:SX (H x)) (he:e=x\/H e=some (.own x)) (k:∀ b u,b ≠ e->h.get? b=some u->h'.get? b=some u) (V4:∃ u,h'.get? e=some u):Un fs ex H (upd H x o) h h':=by
 have hx:∀ b,H b=none->b ≠ x:=fun b n z=>by subst z;rw [n] at mu;exact mu
 have hb:∀ b,H b=none->b ≠ e:=fun b n z=>by
   subst z
   rcases he with r | r
   . exact hx b n r
   . rw [n] at r;cases r
 have hm:∀ b u,H b=some u->¬ SX (some u)->b ≠ x:=fun b u q nm z=>by subst z;rw [q] at mu;exact nm mu
 refine ⟨fun b u q n _ _=>k b u (hb b n) q,fun b u q n _ _=>⟨u.slots,k b u (hb b n) q⟩,fun b u q n _=>by rw [aq (hx b n)];exact n,fun b u q _=>?_,
   fun b xs q=>by rw [aq (hm b _ q fun z=>z)];exact q,fun b u xs q=>by rw [aq (hm b _ q fun z=>z)];exact q,fun b ps q=>⟨#[],by rw [aq (hm b _ q fun z=>z),q];simp⟩⟩
 by_cases Ua:b=e
 . subst Ua;exact V4
 . exact ⟨u,k b u Ua q⟩
end
def Xs (h:Heap) (H:Hp):List Addr:=(List.range h.objs.size).filter fun a=>(H a).isSome
def G0 (h:Heap) (H:Hp):Heap:=PySem.W.hideAll h (Xs h H)
theorem MY (h:Heap) (H:Hp):(G0 h H).objs.size=h.objs.size:=PySem.W.hideAll_size _ _
theorem Ot {h:Heap} {H:Hp} {b:Addr} {o:Obj} (e:h.get? b=some o) (n:H b=none):(G0 h H).get? b=some o:=
 PySem.W.hideAll_get _ e fun hm=>by
   have q:(H b).isSome=true:=(List.mem_filter.mp hm).2
   rw [n] at q;simp at q
theorem QW {h:Heap} {H:Hp} {b:Addr} {o:Obj} (e:(G0 h H).get? b=some o):h.get? b=some o/\H b=none:=by
 have e':h.get? b=some o:=PySem.W.of_hideAll (Xs h H) e
 refine ⟨e',?_⟩
 cases q:H b with
 | none=>rfl
 | some x=>
   have hm:b ∈ Xs h H:=List.mem_filter.mpr ⟨List.mem_range.mpr (Heap.lt_size e'),by simp [q]⟩
   have z:(G0 h H).get? b=none:=PySem.W.hideAll_none (Xs h H) hm
   rw [z] at e;cases e
end L2
namespace L2
open PySem PySem.Spec PyProof.Rows
structure Mod (K:PySem.W.Frag) (mg:Str->Option Value) (base:Heap):Prop where
 kin:K.In base
 glob:base.Ns mainGlobals mg
 blt:∃ mb,base.Ns builtinsNs mb/\∀ x:Str,x ≠ "__name__"->mb x=bootBuiltins x
 nolimit:base.NoLimit
structure Cx where
 prog:Program
 w:World
 K:PySem.W.Frag
 mg:Str->Option Value
 base:Heap
 A:Around
 N:List Str
 Bp:Shared
 Ub:Hp
 env:Env
 outer:List Env
 stack:List Env
 ex:List Addr
 fn:Str->Bool
 calm:Bool
 pn:List (Addr×Obj)
 xe:Value->Shared->Prop
def frs (l:List Env):List Addr:=l.filterMap (·.frame)
abbrev Cx.fs (X:Cx):List Addr:=frs X.outer
def Uc (sc:Scope) (x:Str):Prop:=sc.names.lookup x=some .local\/sc.names.lookup x=some .cell\/sc.names.lookup x=some .free
def Loc (sc:Scope) (x:Str):Prop:=sc.names.lookup x=some .local\/sc.names.lookup x=some .cell
def Look (env:Env) (h:Heap) (m:Str->Option Value) (x:Str) (u:Value):Prop:=
 (env.kindOf x=some .local/\m x=some u)\/((env.kindOf x=some .cell\/env.kindOf x=some .free)/\∃ c,env.cells.lookup x=some c/\h.IsCell c (some u))
structure Cx.Ok (X:Cx):Prop where
 mod:Mod X.K X.mg X.base
 kind:X.env.scope.kind=.function
 glob:X.env.globals=mainGlobals
 blt:X.env.builtins=builtinsNs
 above:X.Bp.heap.objs.size<=X.env.locals
 inj:∀ x y c,X.env.cells.lookup x=some c->X.env.cells.lookup y=some c->x=y
 has:∀ x,(X.env.kindOf x=some .cell\/X.env.kindOf x=some .free)->∃ c,X.env.cells.lookup x=some c
 Tc:∀ x c,X.fn x=true->X.env.cells.lookup x=some c->X.Bp.heap.objs.size<=c
 hd:X.calm=true->X.A.handled=none
 frames:X.A.frames=some X.stack
 QX:X.stack=X.outer\/(X.stack=X.env::X.outer/\X.env.frame=some X.env.locals)
 Ud:∀ b ∈ X.ex,b ≠ X.env.locals/\∀ x c,X.env.cells.lookup x=some c->c ≠ b
 bs:∀ b o,X.base.get? b=some o->X.Bp.heap.get? b=some o/\X.Ub b=none
 MZ:X.base.objs.size<=X.Bp.heap.objs.size
 Jf:∀ b o,X.base.get? b=some o->b ∉ X.ex
 Jg:∀ b ∈ X.ex,b ∉ X.fs
 xy:X.Bp.heap.FunFrames X.base X.outer
 Ou:∀ b ∈ X.fs,X.Ub b=none
structure Inv (X:Cx) (pins:List (Addr×Obj)) (σ:List (Option V)) (H:Hp) (s:Shared):Prop where
 ok:X.Ok
 os:s.os=X.Bp.os
 bare:AllBare s.gens
 base:Un X.fs X.ex X.Ub H X.Bp.heap s.heap
 loc:∃ m,s.heap.Ns X.env.locals m/\∀ (i:Nat) (x:Str) (v:V),X.N[i]?=some x->σ[i]?=some (some v)->Uc X.env.scope x->∃ u,RelV v u/\Look X.env s.heap m x u
 cell:∀ x c,X.env.cells.lookup x=some c->∃ v,s.heap.IsCell c v
 free:H X.env.locals=none
 g7:∀ x c,X.env.cells.lookup x=some c->H c=none
 pin:∀ p ∈ X.pn++pins,s.heap.get? p.1=some p.2/\H p.1=none/\p.1 ≠ X.env.locals/\p.1 ∉ X.fs/\∀ v,p.2.data ≠ .cell v
 hok:tH X.prog X.w H s.heap
 len:σ.length=X.N.length
section
variable {X:Cx} {pins:List (Addr×Obj)} {σ:List (Option V)} {H H':Hp} {s:Shared} {h':Heap}
theorem Cx.Ok.XU (ok:X.Ok) {b:Addr} {o:Obj} (e:X.base.get? b=some o):b ∉ X.fs:=fun hb=>by
 have:=(ok.xy.mem hb).1
 rw [e] at this;cases this
theorem Inv.bs (I:Inv X pins σ H s):∀ b o,X.base.get? b=some o->s.heap.get? b=some o/\H b=none:=fun b o e=>
 ⟨I.base.keep b o (I.ok.bs b o e).1 (I.ok.bs b o e).2 (I.ok.XU e) (I.ok.Jf b o e),I.base.free b o (I.ok.bs b o e).1 (I.ok.bs b o e).2 (I.ok.Jf b o e)⟩
theorem Inv.bk (I:Inv X pins σ H s):∀ b o,X.base.get? b=some o->s.heap.get? b=some o:=fun b o e=>(I.bs b o e).1
theorem Inv.mod (I:Inv X pins σ H s):Mod X.K X.mg X.base:=I.ok.mod
theorem Inv.yY (I:Inv X pins σ H s):X.K.In s.heap:=I.ok.mod.kin.keeps I.bk
theorem Inv.lt (I:Inv X pins σ H s):X.env.locals < s.heap.objs.size:=let ⟨_,hn,_⟩:=I.loc;hn.lt
theorem Inv.sz (I:Inv X pins σ H s):X.Bp.heap.objs.size<=s.heap.objs.size:=Nat.le_trans I.ok.above (Nat.le_of_lt I.lt)
theorem Inv.XW (I:Inv X pins σ H s) {a:Addr} (h:s.heap.objs.size<=a):a ∉ X.fs:=fun hb=>by
 obtain ⟨_,o,ho,_⟩:=I.ok.xy.mem hb
 exact absurd (Nat.lt_of_lt_of_le (Heap.lt_size ho) (Nat.le_trans I.sz h)) (Nat.lt_irrefl _)
theorem Inv.QT (I:Inv X pins σ H s):∀ x c,X.env.cells.lookup x=some c->c ≠ X.env.locals:=fun x c e z=>by
 obtain ⟨v,o,ho,hd⟩:=I.cell x c e
 obtain ⟨m,⟨o',es,ep,ho',hd',_⟩,_⟩:=I.loc
 rw [z,ho'] at ho;cases ho;rw [hd'] at hd;cases hd
theorem Inv.xy (I:Inv X pins σ H s):s.heap.FunFrames X.base X.outer:=by
 have all:∀ (l:List Env),(∀ b ∈ frs l,b ∈ X.fs)->X.Bp.heap.FunFrames X.base l->s.heap.FunFrames X.base l:=by
   intro l
   induction l with
   | nil=>intro _ _;trivial
   | cons env r ih=>
     intro hs hl
     obtain ⟨hk,⟨L,o,hf,hn,ho,hd⟩,hr⟩:=hl
     have hL:L ∈ X.fs:=hs L (by unfold frs;rw [List.filterMap_cons,hf];exact List.mem_cons_self)
     obtain ⟨sl,e⟩:=I.base.slot L o ho (I.ok.Ou L hL) hL fun z=>I.ok.Jg L z hL
     exact ⟨hk,⟨L,_,hf,hn,e,hd⟩,ih (fun b hb=>hs b (by unfold frs;rw [List.filterMap_cons,hf];exact List.mem_cons_of_mem _ hb)) hr⟩
 exact all X.outer (fun _ hb=>hb) I.ok.xy
theorem Inv.stack (I:Inv X pins σ H s):s.heap.FunFrames X.base X.stack:=by
 rcases I.ok.QX with e | ⟨e,hf⟩
 . rw [e];exact I.xy
 . rw [e]
   obtain ⟨m,hn,_⟩:=I.loc
   refine .cons (by rw [I.ok.kind];decide) hf hn ?_ I.xy
   exact Heap.get?_none_of_le (Nat.le_trans I.ok.MZ I.ok.above)
theorem Inv.Lh (I:Inv X pins σ H s):∀ b ∈ frs X.stack,b ∈ X.env.locals::X.fs:=fun b hb=>by
 rcases I.ok.QX with e | ⟨e,hf⟩
 . rw [e] at hb;exact List.mem_cons_of_mem _ hb
 . rw [e] at hb
   unfold frs at hb
   rw [List.filterMap_cons,hf] at hb
   exact hb
theorem Inv.G3 (I:Inv X pins σ H s):∀ b ∈ frs X.stack,H b=none:=fun b hb=>by
 rcases List.mem_cons.mp (I.Lh b hb) with e | hb
 . rw [e];exact I.free
 . obtain ⟨_,o,ho,_⟩:=I.ok.xy.mem hb
   exact I.base.free b o ho (I.ok.Ou b hb) fun z=>I.ok.Jg b z hb
theorem Inv.step {g':Array GenState} {t':Nat} {d':Drawn} {ch:List Addr} (I:Inv X pins σ H s)
   (hch:∀ b ∈ ch,(b ∈ X.ex\/X.Bp.heap.objs.size<=b)/\b ≠ X.env.locals/\(∀ x c,X.env.cells.lookup x=some c->c ≠ b)/\∀ p ∈ X.pn++pins,p.1 ≠ b)
   (keep:∀ b o,b ≠ X.env.locals->b ∉ X.fs->b ∉ ch->s.heap.get? b=some o->H b=none->h'.get? b=some o)
   (slot:∀ b o,b ≠ X.env.locals->b ∈ X.fs->b ∉ ch->s.heap.get? b=some o->H b=none->∃ sl,h'.get? b=some { o with slots:=sl }) (free:∀ b o,b ∉ ch->s.heap.get? b=some o->H b=none->H' b=none)
   (there:∀ b o,b ∉ ch->s.heap.get? b=some o->∃ o',h'.get? b=some o')
   (tups:∀ b xs,H b=some (.tup xs)->H' b=some (.tup xs)) (yX:∀ b o u,H b=some (.l6 o u)->H' b=some (.l6 o u)) (Bq:∀ b ps,H b=some (.SW ps)->∃ more,H' b=some (.SW (ps++more)))
   (ns:∀ m,s.heap.Ns X.env.locals m->h'.Ns X.env.locals m) (hok:tH X.prog X.w H' h') (hg:AllBare g') :
   Inv X pins σ H' { s with heap:=h',gens:=g',drawn:=d',toks:=t' }:=by
 have QY:∀ b o,X.Bp.heap.get? b=some o->b ≠ X.env.locals:=fun b o e=>Nat.ne_of_lt (Nat.lt_of_lt_of_le (Heap.lt_size e) I.ok.above)
 have Td:∀ b o,X.Bp.heap.get? b=some o->b ∉ X.ex->b ∉ ch:=fun b o e hx hb=>by
   rcases (hch b hb).1 with z | z
   . exact hx z
   . exact absurd (Nat.lt_of_lt_of_le (Heap.lt_size e) z) (Nat.lt_irrefl _)
 have cellK:∀ x c,X.env.cells.lookup x=some c->∀ v,s.heap.IsCell c v->h'.IsCell c v:=fun x c e v ⟨o,ho,hd⟩=>by
   have Te:c ∉ ch:=fun z=>(hch c z).2.2.1 x c e rfl
   by_cases hc:c ∈ X.fs
   . obtain ⟨sl,q⟩:=slot c o (I.QT x c e) hc Te ho (I.g7 x c e)
     exact ⟨_,q,hd⟩
   . exact ⟨o,keep c o (I.QT x c e) hc Te ho (I.g7 x c e),hd⟩
 refine ⟨I.ok,I.os,hg,⟨fun b o e n hb hx=>?_,fun b o e n hb hx=>?_,fun b o e n hx=>?_,fun b o e hx=>?_,fun b xs e=>tups b xs (I.base.tups b xs e),fun b o xs e=>yX b o xs (I.base.yX b o xs e),fun b ps e=>?_⟩,?_,fun x c e=>?_,?_,fun x c e=>?_,fun p hp=>?_,hok,I.len⟩
 . exact keep b o (QY b o e) hb (Td b o e hx) (I.base.keep b o e n hb hx) (I.base.free b o e n hx)
 . obtain ⟨sl,e1⟩:=I.base.slot b o e n hb hx
   obtain ⟨sl',e2⟩:=slot b _ (QY b o e) hb (Td b o e hx) e1 (I.base.free b o e n hx)
   exact ⟨sl',e2⟩
 . obtain ⟨o',e1⟩:=I.base.there b o e hx
   exact free b o' (Td b o e hx) e1 (I.base.free b o e n hx)
 . obtain ⟨o',e1⟩:=I.base.there b o e hx
   exact there b o' (Td b o e hx) e1
 . obtain ⟨m1,e1⟩:=I.base.Bq b ps e
   obtain ⟨m2,e2⟩:=Bq b _ e1
   exact ⟨m1++m2,by rw [e2,Array.append_assoc]⟩
 . obtain ⟨m,hn,hl⟩:=I.loc
   refine ⟨m,ns m hn,fun i x v e1 e2 e3=>?_⟩
   obtain ⟨u,r,l⟩:=hl i x v e1 e2 e3
   refine ⟨u,r,?_⟩
   rcases l with l | ⟨k,c,e,z⟩
   . exact .inl l
   . exact .inr ⟨k,c,e,cellK x c e _ z⟩
 . obtain ⟨v,z⟩:=I.cell x c e
   exact ⟨v,cellK x c e v z⟩
 . obtain ⟨m,⟨o,_,_,ho,_⟩,_⟩:=I.loc
   exact free _ o (fun z=>(hch _ z).2.1 rfl) ho I.free
 . obtain ⟨v,o,ho,hd⟩:=I.cell x c e
   exact free c o (fun z=>(hch c z).2.2.1 x c e rfl) ho (I.g7 x c e)
 . obtain ⟨e,n,ne,nf,d⟩:=I.pin p hp
   have Te:p.1 ∉ ch:=fun z=>(hch p.1 z).2.2.2 p hp rfl
   exact ⟨keep p.1 p.2 ne nf Te e n,free p.1 p.2 Te e n,ne,nf,d⟩
theorem Inv.un {t':Nat} (I:Inv X pins σ H s) (u:Un X.fs [] H H' s.heap h') (hok:tH X.prog X.w H' h'):Inv X pins σ H' { s with heap:=h',toks:=t' }:=by
 obtain ⟨m,⟨o,es,ep,ho,r⟩,_⟩:=id I.loc
 obtain ⟨sl,hL⟩:=u.any ho I.free (by simp)
 exact I.step (g':=s.gens) (d':=s.drawn) (ch:=[]) (fun _ z=>nomatch z) (fun b o _ hb _ e n=>u.keep b o e n hb (by simp)) (fun b o _ hb _ e n=>u.slot b o e n hb (by simp)) (fun b o _ e n=>u.free b o e n (by simp)) (fun b o _ e=>u.there b o e (by simp)) u.tups u.yX u.Bq (fun m' hm=>by
   obtain ⟨o',es',ep',ho',r'⟩:=hm
   rw [ho] at ho';cases ho'
   exact ⟨_,es',ep',hL,r'⟩) hok I.bare
theorem Inv.call {g':Array GenState} {t':Nat} {d':Drawn} {ch:List Addr} (I:Inv X pins σ H s) (u:Un (frs X.stack) ch H H' s.heap h') (hok:tH X.prog X.w H' h') (hg:AllBare g')
   (hch:∀ b ∈ ch,(b ∈ X.ex\/X.Bp.heap.objs.size<=b)/\b ≠ X.env.locals/\(∀ x c,X.env.cells.lookup x=some c->c ≠ b)/\∀ p ∈ X.pn++pins,p.1 ≠ b) :
   Inv X pins σ H' { s with heap:=h',gens:=g',drawn:=d',toks:=t' }:=by
 obtain ⟨m,⟨o,es,ep,ho,r⟩,_⟩:=id I.loc
 obtain ⟨sl,hL⟩:=u.any ho I.free fun z=>(hch _ z).2.1 rfl
 exact I.step (ch:=ch) hch (fun b o hL hb hc e n=>u.keep b o e n (fun z=>(List.mem_cons.mp (I.Lh b z)).elim hL hb) hc) (fun b o _ _ hc e n=>u.any e n hc) (fun b o hc e n=>u.free b o e n hc) (fun b o hc e=>u.there b o e hc) u.tups u.yX u.Bq (fun m' hm=>by
   obtain ⟨o',es',ep',ho',r'⟩:=hm
   rw [ho] at ho';cases ho'
   exact ⟨_,es',ep',hL,r'⟩) hok hg
theorem Inv.turned {t':Nat} {it:Addr} (I:Inv X pins σ H s) (k:∀ b o,b ≠ it->s.heap.get? b=some o->h'.get? b=some o) (hn:H it=none) (hL:it ≠ X.env.locals)
   (h1:it ∈ X.ex\/X.Bp.heap.objs.size<=it) (h2:∀ x c,X.env.cells.lookup x=some c->c ≠ it) (h3:∀ p ∈ X.pn++pins,p.1 ≠ it):Inv X pins σ H { s with heap:=h',toks:=t' }:=by
 have VG:∀ b u,H b=some u->b ≠ it:=fun b u e z=>by rw [z,hn] at e;cases e
 refine I.step (g':=s.gens) (d':=s.drawn) (ch:=[it]) (fun b hb=>?_) (fun b o _ _ hc e _=>k b o (fun z=>hc (by simp [z])) e) (fun b o _ _ hc e _=>⟨o.slots,k b o (fun z=>hc (by simp [z])) e⟩) (fun _ _ _ _ n=>n)
   (fun b o hc e=>⟨o,k b o (fun z=>hc (by simp [z])) e⟩) (fun _ _ e=>e) (fun _ _ _ e=>e) (fun b ps e=>⟨#[],by rw [e];simp⟩) (fun m hm=>?_) (fun b u e=>?_) I.bare
 . have e:b=it:=by simpa using hb
   subst e
   exact ⟨h1,hL,h2,h3⟩
 . obtain ⟨o,es,ep,ho,r⟩:=hm
   exact ⟨o,es,ep,k _ o (Ne.symm hL) ho,r⟩
 . refine (I.hok b u e).stay (fun c v hc q=>k c v ?_ q) (fun _ q=>q) fun _ _ q=>q
   rcases hc with z | z
   . rw [z];exact VG b u e
   . exact VG c _ z
theorem Inv.tok (I:Inv X pins σ H s) (t:Nat):Inv X pins σ H { s with toks:=t }:=I.un (h':=s.heap) (t':=t) Un.refl I.hok
theorem Inv.kept {t':Nat} (I:Inv X pins σ H s) (k:∀ b u,s.heap.get? b=some u->h'.get? b=some u):Inv X pins σ H { s with heap:=h',toks:=t' }:=I.un (Un.kept k) (I.hok.kept k)
theorem Inv.laid {a:Addr} {o:HO} {t':Nat} (I:Inv X pins σ H s) (k:∀ b u,s.heap.get? b=some u->h'.get? b=some u) (hp:s.heap.objs.size<=a) (new:cS X.prog X.w (upd H a o) h' a o) :
   Inv X pins σ (upd H a o) { s with heap:=h',toks:=t' }:=I.un (Un.laid k hp (I.hok.fresh hp)) (I.hok.laid k hp new)
theorem Inv.write {x e:Addr} {o:HO} {t':Nat} (I:Inv X pins σ H s) (mu:SX (H x)) (he:e=x\/H e=some (.own x)) (k:∀ b u,b ≠ e->s.heap.get? b=some u->h'.get? b=some u) (V4:∃ u,h'.get? e=some u)
   (new:cS X.prog X.w (upd H x o) h' x o):Inv X pins σ (upd H x o) { s with heap:=h',toks:=t' }:=I.un (Un.write mu he k V4) (I.hok.write mu he k V4 new)
theorem Inv.weak {σ':List (Option V)} (I:Inv X pins σ H s) (hl:σ'.length=σ.length) (w:∀ (i:Nat) v,σ'[i]?=some (some v)->σ[i]?=some (some v)):Inv X pins σ' H s:=
 ⟨I.ok,I.os,I.bare,I.base,let ⟨m,hn,hl'⟩:=I.loc;⟨m,hn,fun i x v e1 e2 e3=>hl' i x v e1 (w i v e2) e3⟩,I.cell,I.free,I.g7,I.pin,I.hok,hl.trans I.len⟩
theorem Inv.Mg {pins':List (Addr×Obj)} (I:Inv X pins σ H s) (h:∀ p ∈ pins',s.heap.get? p.1=some p.2/\H p.1=none/\p.1 ≠ X.env.locals/\p.1 ∉ X.fs/\∀ v,p.2.data ≠ .cell v):Inv X pins' σ H s:=
 ⟨I.ok,I.os,I.bare,I.base,I.loc,I.cell,I.free,I.g7,fun p hp=>(List.mem_append.mp hp).elim (fun z=>I.pin p (List.mem_append_left _ z)) (h p),I.hok,I.len⟩
theorem D8 {N:List Str} (hN:N.Nodup) {i j:Nat} {x:Str} (a:N[i]?=some x) (b:N[j]?=some x):i=j:=by
 obtain ⟨h1,e1⟩:=List.getElem?_eq_some_iff.mp a
 obtain ⟨h2,e2⟩:=List.getElem?_eq_some_iff.mp b
 exact (List.getElem_inj hN).mp (e1.trans e2.symm)
theorem Br {M:Model} {A:Around} {E:Value->Shared->Prop} {i:Nat} {x:Str} {v:V} {u:Value} {Q:Unit->Shared->Prop} (I:Inv X pins σ H s) (hN:X.N.Nodup) (hi:X.N[i]?=some x) (hx:Loc X.env.scope x) (r:RelV v u)
   (h:∀ s',Inv X pins (σ.set i (some v)) H s'->(∃ a,Heap.SameBut a s.heap s'.heap/\(a=X.env.locals\/X.env.cells.lookup x=some a))->Q () s') (hf:X.fn x=true\/X.env.scope.names.lookup x=some .local:=by first | exact .inl rfl | exact .inr rfl | assumption):wpAny M A (storeName X.env x u) Q E s:=by
 obtain ⟨m,hn,hl⟩:=id I.loc
 have hcls:(X.env.scope.kind==.class||(X.env.scope.kind==.module&&X.env.locals != X.env.globals))=false:=by rw [I.ok.kind];rfl
 have hiσ:i < σ.length:=by rw [I.len];exact (List.getElem?_eq_some_iff.mp hi).1
 have QT:=I.QT
 have tracked:∀ {a:Addr} {h':Heap},(∃ o,s.heap.get? a=some o/\H a=none)->Heap.SameBut a s.heap h'->tH X.prog X.w H h':=fun {a h'} ha hs b ob e=>by
   obtain ⟨_,_,hfree⟩:=ha
   refine (I.hok b ob e).stay (fun c w' hc q=>(hs.2 c ?_).trans q) (fun _ q=>q) fun _ _ q=>q
   rintro rfl
   rcases hc with rfl | hc
   . rw [hfree] at e;cases e
   . rw [hfree] at hc;cases hc
 rcases hx with hk | hk
 . refine wpAny_storeName_local hk hn (fun h' hn' hs=>?_) hcls
   obtain ⟨oL,_,_,hoL,_⟩:=id hn
   refine h _ ⟨I.ok,I.os,I.bare,⟨fun b o e n hb hx=>?_,fun b o e n hb hx=>?_,I.base.free,fun b o e hx=>?_,I.base.tups,I.base.yX,I.base.Bq⟩,⟨_,hn',fun j y v' e1 e2 e3=>?_⟩,fun y c e=>?_,I.free,I.g7,fun p hp=>?_,tracked ⟨oL,hoL,I.free⟩ hs,by simpa using I.len⟩ ⟨_,hs,.inl rfl⟩
   . exact (hs.2 b (Nat.ne_of_lt (Nat.lt_of_lt_of_le (Heap.lt_size e) I.ok.above))).trans (I.base.keep b o e n hb hx)
   . obtain ⟨sl,e1⟩:=I.base.slot b o e n hb hx
     exact ⟨sl,(hs.2 b (Nat.ne_of_lt (Nat.lt_of_lt_of_le (Heap.lt_size e) I.ok.above))).trans e1⟩
   . obtain ⟨o',e1⟩:=I.base.there b o e hx
     exact ⟨o',(hs.2 b (Nat.ne_of_lt (Nat.lt_of_lt_of_le (Heap.lt_size e) I.ok.above))).trans e1⟩
   . by_cases hj:j=i
     . subst hj
       rw [hi] at e1;cases e1
       rw [List.getElem?_set_self hiσ] at e2
       cases e2
       exact ⟨u,r,.inl ⟨hk,by simp⟩⟩
     . rw [List.getElem?_set_ne (Ne.symm hj)] at e2
       obtain ⟨u',r',q⟩:=hl j y v' e1 e2 e3
       refine ⟨u',r',?_⟩
       rcases q with ⟨k,e⟩ | ⟨k,c,e,z⟩
       . refine .inl ⟨k,?_⟩
         have:y ≠ x:=fun e=>hj (D8 hN e1 (e ▸ hi))
         simp [this,e]
       . exact .inr ⟨k,c,e,z.sameBut hs (QT y c e)⟩
   . obtain ⟨w',z⟩:=I.cell y c e
     exact ⟨w',z.sameBut hs (QT y c e)⟩
   . obtain ⟨e,n,ne,nf,d⟩:=I.pin p hp
     exact ⟨(hs.2 p.1 ne).trans e,n,ne,nf,d⟩
 . have hfn:X.fn x=true:=by
     rcases hf with z | z
     . exact z
     . rw [z] at hk;cases hk
   obtain ⟨c,hc⟩:=I.ok.has x (.inl hk)
   obtain ⟨w',z⟩:=I.cell x c hc
   refine wpAny_storeName_cell I.ok.kind hk hc z (fun h' hc' hs=>?_)
   obtain ⟨oc,hoc,XX⟩:=id z
   refine h { s with heap:=h' } ⟨I.ok,I.os,I.bare,⟨fun b o e n hb hx=>?_,fun b o e n hb hx=>?_,I.base.free,fun b o e hx=>?_,I.base.tups,I.base.yX,I.base.Bq⟩,⟨m,hn.sameBut hs (Ne.symm (QT x c hc)),fun j y v' e1 e2 e3=>?_⟩,fun y c' e=>?_,I.free,I.g7,fun p hp=>?_,tracked ⟨oc,hoc,I.g7 x c hc⟩ hs,by simpa using I.len⟩ ⟨c,hs,.inr hc⟩
   . exact (hs.2 b (Nat.ne_of_lt (Nat.lt_of_lt_of_le (Heap.lt_size e) (I.ok.Tc x c hfn hc)))).trans (I.base.keep b o e n hb hx)
   . obtain ⟨sl,e1⟩:=I.base.slot b o e n hb hx
     exact ⟨sl,(hs.2 b (Nat.ne_of_lt (Nat.lt_of_lt_of_le (Heap.lt_size e) (I.ok.Tc x c hfn hc)))).trans e1⟩
   . obtain ⟨o',e1⟩:=I.base.there b o e hx
     exact ⟨o',(hs.2 b (Nat.ne_of_lt (Nat.lt_of_lt_of_le (Heap.lt_size e) (I.ok.Tc x c hfn hc)))).trans e1⟩
   . by_cases hj:j=i
     . subst hj
       rw [hi] at e1;cases e1
       rw [List.getElem?_set_self hiσ] at e2
       cases e2
       exact ⟨u,r,.inr ⟨.inl hk,c,hc,hc'⟩⟩
     . rw [List.getElem?_set_ne (Ne.symm hj)] at e2
       obtain ⟨u',r',q⟩:=hl j y v' e1 e2 e3
       refine ⟨u',r',?_⟩
       rcases q with q | ⟨k,c',e,z'⟩
       . exact .inl q
       . refine .inr ⟨k,c',e,z'.sameBut hs ?_⟩
         rintro rfl
         exact hj (D8 hN e1 (I.ok.inj _ _ _ e hc ▸ hi))
   . by_cases hcc:c'=c
     . subst hcc;exact ⟨_,hc'⟩
     . obtain ⟨w2,z2⟩:=I.cell y c' e
       exact ⟨w2,z2.sameBut hs hcc⟩
   . obtain ⟨e,n,ne,nf,d⟩:=I.pin p hp
     refine ⟨(hs.2 p.1 ?_).trans e,n,ne,nf,d⟩
     intro q
     rw [q,hoc] at e
     have q':oc=p.2:=Option.some.inj e
     exact d w' (by rw [<- q'];exact XX)
theorem D9 {M:Model} {A:Around} {E:Value->Shared->Prop} {i:Nat} {x:Str} {v:V} {u:Value} {Q:Unit->Shared->Prop} (I:Inv X pins σ H s) (hN:X.N.Nodup) (hi:X.N[i]?=some x) (hx:Loc X.env.scope x) (r:RelV v u)
   (h:∀ s',Inv X pins (σ.set i (some v)) H s'->Q () s') (hf:X.fn x=true\/X.env.scope.names.lookup x=some .local:=by first | exact .inl rfl | exact .inr rfl | assumption):wpAny M A (storeName X.env x u) Q E s:=
 Br I hN hi hx r (fun s' I' _=>h s' I') hf
theorem Inv.call' {s':Shared} {ch:List Addr} (I:Inv X pins σ H s) (ho:s'.os=s.os) (u:Un (frs X.stack) ch H H' s.heap s'.heap) (hok:tH X.prog X.w H' s'.heap) (hg:AllBare s'.gens)
   (hch:∀ b ∈ ch,(b ∈ X.ex\/X.Bp.heap.objs.size<=b)/\b ≠ X.env.locals/\(∀ x c,X.env.cells.lookup x=some c->c ≠ b)/\∀ p ∈ X.pn++pins,p.1 ≠ b):Inv X pins σ H' s':=by
 obtain ⟨h',g',d',t',o'⟩:=s'
 have e:o'=s.os:=ho
 subst e
 exact I.call (g':=g') (t':=t') (d':=d') u hok hg hch
end
abbrev XK:=Value->Option Addr->Hp->Prop
abbrev St:=List (Option V)
abbrev VK:=V->Hp->Prop
abbrev TE:=St->Hp->VK->Prop
abbrev TT:=St->Hp->(Bool->Hp->Prop)->Prop
abbrev TA:=St->Hp->(List V->Hp->Prop)->Prop
structure Ends where
 nx:St->Hp->Prop
 rt:VK
 bk:St->Hp->Prop:=fun _ _=>False
 ct:St->Hp->Prop:=fun _ _=>False
abbrev TS:=Ends->St->Hp->Prop
def EP (X:Cx) (pins:List (Addr×Obj)) (σ:St) (Q:VK) (u:Value) (s':Shared):Prop:=∃ v H',Inv X pins σ H' s'/\RelV v u/\Q v H'
def TP (X:Cx) (pins:List (Addr×Obj)) (σ:St) (Q:Bool->Hp->Prop) (b:Bool) (s':Shared):Prop:=∃ H',Inv X pins σ H' s'/\Q b H'
def AP (X:Cx) (pins:List (Addr×Obj)) (σ:St) (Q:List V->Hp->Prop) (us:List Value) (s':Shared):Prop:=∃ vs H',Inv X pins σ H' s'/\Vals vs us/\Q vs H'
def SP (X:Cx) (pins:List (Addr×Obj)) (D:Ends) (f:Flow) (s':Shared):Prop:=
 match f with
 | .next=>∃ σ' H',Inv X pins σ' H' s'/\D.nx σ' H'
 | .brk=>∃ σ' H',Inv X pins σ' H' s'/\D.bk σ' H'
 | .cont=>∃ σ' H',Inv X pins σ' H' s'/\D.ct σ' H'
 | .ret u=>∃ v σ' H',Inv X pins σ' H' s'/\RelV v u/\D.rt v H'
def PE (X:Cx) (e:Expr) (t:TE):Prop:=
 ∀ (pins:List (Addr×Obj)) (s:Shared) (σ:St) (H:Hp) (Q:VK),Inv X pins σ H s->t σ H Q->wpAny (model X.prog X.w) X.A (eval e X.env) (EP X pins σ Q) X.xe s
def PT (X:Cx) (e:Expr) (t:TT):Prop:=
 ∀ (pins:List (Addr×Obj)) (s:Shared) (σ:St) (H:Hp) (Q:Bool->Hp->Prop),Inv X pins σ H s->t σ H Q->wpAny (model X.prog X.w) X.A (isTrue e X.env (eval e X.env)) (TP X pins σ Q) X.xe s
def PW (X:Cx) (e:Expr) (t:TT):Prop:=
 ∀ (whole:Sem Value) (pins:List (Addr×Obj)) (s:Shared) (σ:St) (H:Hp) (Q:Bool->Hp->Prop),Inv X pins σ H s->t σ H Q->wpAny (model X.prog X.w) X.A (isTrue e X.env whole) (TP X pins σ Q) X.xe s
theorem PW.pt {X:Cx} {e:Expr} {t:TT} (h:PW X e t):PT X e t:=h _
def PA (X:Cx) (es:List Expr) (t:TA):Prop:=
 ∀ (pos:Pos) (pins:List (Addr×Obj)) (s:Shared) (σ:St) (H:Hp) (Q:List V->Hp->Prop),Inv X pins σ H s->t σ H Q->wpAny (model X.prog X.w) X.A (spliced (backTo pos (starEach es X.env))) (AP X pins σ Q) X.xe s
def PS (X:Cx) (st:Stmt) (t:TS):Prop:=
 ∀ (pins:List (Addr×Obj)) (s:Shared) (σ:St) (H:Hp) (D:Ends),Inv X pins σ H s->t D σ H->wpAny (model X.prog X.w) X.A (exec st X.env) (SP X pins D) X.xe s
def Jh (X:Cx) (st:List Stmt) (t:TS):Prop:=
 ∀ (pins:List (Addr×Obj)) (s:Shared) (σ:St) (H:Hp) (D:Ends),Inv X pins σ H s->t D σ H->wpAny (model X.prog X.w) X.A (execs st X.env) (SP X pins D) X.xe s
theorem d7 {α:Type} {t:Sem α} {Q Q':α->Shared->Prop} {M:Model} {A:Around} {E:Value->Shared->Prop} {s:Shared} (h:wpAny M A t Q E s) (hQ:∀ a s,Q a s->Q' a s):wpAny M A t Q' E s:=wpAny_mono h hQ fun _ _ x=>x
end L2
namespace L2
open PySem PySem.Spec PyProof.Rows
section
variable {X:Cx}
def VH (i:Nat):TE:=fun σ H Q=>∃ v,σ[i]?=some (some v)/\Q v H
def tC (v:V):TE:=fun _ H Q=>Q v H
theorem Ov {i:Nat} {x:Str} {pos:Pos} (hN:X.N[i]?=some x) (hv:Uc X.env.scope x) (hd:(x==("__debug__":Str))=false:=by decide) (hcd:(x==("__classdict__":Str))=false:=by decide):PE X (.Name x pos) (VH i):=by
 intro pins s σ H Q I h
 obtain ⟨v,e,h⟩:=h
 obtain ⟨m,hn,hl⟩:=I.loc
 obtain ⟨u,r,l⟩:=hl i x v hN e hv
 have fin:EP X pins σ Q u s:=⟨v,H,I,r,h⟩
 rcases l with ⟨hk,hm⟩ | ⟨hk,c,hc,hcell⟩
 . exact wpAny_Name (wpAny_loadName_local I.ok.kind hk hn hm fin) hd
 . rcases hk with hk | hk
   . exact wpAny_Name (wpAny_loadName_cell I.ok.kind hk hc hcell fin) hd
   . exact wpAny_Name (wpAny_loadName_free I.ok.kind hk hc hcell fin hcd) hd
theorem aT {i j pos}:PE X (.Constant (.int i) j pos) (tC (.int i)):=fun _ _ _ H _ I h=>wpAny_Constant_int ⟨.int i,H,I.tok _,⟨_,rfl⟩,h⟩
theorem Ow {b j pos}:PE X (.Constant (.bool b) j pos) (tC (.bl b)):=fun _ _ _ H _ I h=>Constant_bool ⟨.bl b,H,I,rfl,h⟩
def Gl (X:Cx) (x:Str):Prop:=X.env.kindOf x=some .globalImplicit
theorem xo {E:Value->Shared->Prop} {pins:List (Addr×Obj)} {s:Shared} {σ:St} {H:Hp} {x:Str} {u:Value} {pos:Pos} {Q:Value->Shared->Prop} (I:Inv X pins σ H s) (hg:Gl X x) (hm:X.mg x=some u) (h:Q u s)
   (hd:(x==("__debug__":Str))=false:=by decide):wpAny (model X.prog X.w) X.A (eval (.Name x pos) X.env) Q E s:=
 Calls.Name_function_global I.ok.kind hg (Calls.loadGlobal_global (by rw [I.ok.glob];exact I.mod.glob.keeps I.bk) hm h) hd
theorem Bt {E:Value->Shared->Prop} {pins:List (Addr×Obj)} {s:Shared} {σ:St} {H:Hp} {x:Str} {u:Value} {pos:Pos} {Q:Value->Shared->Prop} (I:Inv X pins σ H s) (hg:Gl X x) (hm:X.mg x=none) (hv:bootBuiltins x=some u) (h:Q u s)
   (hn:x ≠ "__name__":=by decide) (hd:(x==("__debug__":Str))=false:=by decide):wpAny (model X.prog X.w) X.A (eval (.Name x pos) X.env) Q E s:=by
 obtain ⟨mb,h1,h2⟩:=I.mod.blt
 exact Calls.Name_function_global I.ok.kind hg (Calls.loadGlobal_builtin (by rw [I.ok.glob];exact I.mod.glob.keeps I.bk) hm (by rw [I.ok.blt];exact h1.keeps I.bk) ((h2 x hn).trans hv) h) hd
theorem bK {x:Str} {v:V} {u:Value} {pos:Pos} (hg:Gl X x) (hm:X.mg x=some u) (r:RelV v u) (hd:(x==("__debug__":Str))=false:=by decide):PE X (.Name x pos) (tC v):=
 fun _ _ _ H _ I h=>xo I hg hm ⟨v,H,I,r,h⟩ hd
variable {a b:Expr} {ta tb:TE} {pos:Pos}
def PC (X:Cx) (op:CmpOp) (a b:Expr) (t:TE):Prop:=
 ∀ (pins:List (Addr×Obj)) (s:Shared) (σ:St) (H:Hp) (Q:VK),Inv X pins σ H s->t σ H Q->
   wpAny (model X.prog X.w) X.A (eval a X.env) (fun v s₁=>wpAny (model X.prog X.w) X.A (eval b X.env) (fun u s₂=>wpAny (model X.prog X.w) X.A (compareOp op v u) (EP X pins σ Q) X.xe s₂) X.xe s₁) X.xe s
def tB (t:TE):TT:=fun σ H Q=>t σ H fun x H1=>∃ c,x=.bl c/\Q c H1
theorem Li {op:CmpOp} {t:TE} (h:PC X op a b t) (h1:behindInMarks op b=false:=by first | exact VI _ (by decide) (by decide) | rfl):PT X (.Compare a [op] [b] pos) (tB t):=by
 intro pins s σ H Q I hw
 refine wpAny_isTrue_Compare1 (d7 (h pins s σ H _ I hw) fun v s1 h1=>d7 h1 fun u s2 h2=>d7 h2 fun c s3 ⟨x,H1,I1,r1,q1⟩=>?_) h1
 obtain ⟨d,rfl,q⟩:=q1
 cases r1
 exact wpAny_truthy_bool ⟨H1,I1,q⟩
theorem DA {e:Expr} {t:TE} (h:PE X e t) (he:∀ whole,isTrue e X.env whole=(do let v <- whole;standAt e.pos;holding [v] (truthy v)):=by intro _;rfl):PT X e (tB t):=by
 intro pins s σ H Q I hw
 refine isTrue_plain (d7 (h pins s σ H _ I hw) fun v s1 ⟨x,H1,I1,r1,q1⟩=>?_) (he _)
 obtain ⟨d,rfl,q⟩:=q1
 cases r1
 exact wpAny_truthy_bool ⟨H1,I1,q⟩
variable {tA Xu:TT} {rest:List Expr}
def XY (t u:TT):TT:=fun σ H Q=>t σ H fun c H1=>if c=true then u σ H1 Q else Q false H1
def tOr (t u:TT):TT:=fun σ H Q=>t σ H fun c H1=>if c=true then Q true H1 else u σ H1 Q
def XZ (t:TT):TT:=fun σ H Q=>t σ H fun c H1=>Q (!c) H1
theorem Dm (ha:PT X a tA):PW X (.BoolOp .And [a] pos) tA:=by
 intro wh pins s σ H Q I h
 refine isTrue_and (d7 (ha pins s σ H Q I h) fun c s1 e=>?_)
 cases c with
 | true=>exact isTrue_and_nil e
 | false=>exact e
theorem Ox (ha:PT X a tA):PW X (.BoolOp .Or [a] pos) tA:=by
 intro wh pins s σ H Q I h
 refine isTrue_or (d7 (ha pins s σ H Q I h) fun c s1 e=>?_)
 cases c with
 | false=>exact isTrue_or_nil e
 | true=>exact e
theorem G4 (ha:PT X a tA) (hb:PW X (.BoolOp .And (b::rest) pos) Xu):PW X (.BoolOp .And (a::b::rest) pos) (XY tA Xu):=by
 intro wh pins s σ H Q I h
 refine isTrue_and (d7 (ha pins s σ H _ I h) fun c s1 ⟨H1,I1,q1⟩=>?_)
 cases c with
 | true=>exact hb wh pins s1 σ H1 Q I1 q1
 | false=>exact ⟨H1,I1,q1⟩
theorem Tf (ha:PT X a tA) (hb:PW X (.BoolOp .Or (b::rest) pos) Xu):PW X (.BoolOp .Or (a::b::rest) pos) (tOr tA Xu):=by
 intro wh pins s σ H Q I h
 refine isTrue_or (d7 (ha pins s σ H _ I h) fun c s1 ⟨H1,I1,q1⟩=>?_)
 cases c with
 | true=>exact ⟨H1,I1,q1⟩
 | false=>exact hb wh pins s1 σ H1 Q I1 q1
theorem Lj (ha:PT X a tA):PT X (.UnaryOp .Not a pos) (XZ tA):=by
 intro pins s σ H Q I h
 exact isTrue_not (ha pins s σ H (fun c H1=>Q (!c) H1) I h)
def VJ (ta tb:TE):TE:=fun σ H Q=>ta σ H fun x H1=>∃ c,x=.bl c/\if c=true then tb σ H1 Q else Q (.bl false) H1
theorem G5 {op} {t:TE} (h:PE X a t):PE X (.BoolOp op [a] pos) t:=fun pins s σ H Q I hw=>BoolOp_one (h pins s σ H Q I hw)
theorem DB (ha:PE X a ta) (hb:PE X (.BoolOp .And (b::rest) pos) tb):PE X (.BoolOp .And (a::b::rest) pos) (VJ ta tb):=by
 intro pins s σ H Q I h
 refine BoolOp_and (d7 (ha pins s σ H _ I h) fun v s1 ⟨x,H1,I1,r1,q1⟩=>?_)
 obtain ⟨c,rfl,q1⟩:=q1
 cases r1
 refine wpAny_truthy_bool ?_
 cases c with
 | true=>exact hb pins s1 σ H1 Q I1 q1
 | false=>exact ⟨.bl false,H1,I1,rfl,q1⟩
def tIf (t:TT) (ta tb:TE):TE:=fun σ H Q=>t σ H fun c H1=>if c=true then ta σ H1 Q else tb σ H1 Q
theorem Oz {c:Expr} (hc:PT X c tA) (ha:PE X a ta) (hb:PE X b tb):PE X (.IfExp c a b pos) (tIf tA ta tb):=by
 intro pins s σ H Q I h
 refine wpAny_IfExp (d7 (hc pins s σ H _ I h) fun d s1 ⟨H1,I1,q1⟩=>?_)
 cases d with
 | true=>exact ha pins s1 σ H1 Q I1 q1
 | false=>exact hb pins s1 σ H1 Q I1 q1
end
end L2
namespace L2
open PySem PySem.Spec PyProof.Rows
def dN (K:PySem.W.Frag) (H:Hp) (a:Addr) (xs:List V):Prop:=
 Rd H a (.lst xs) \/
   ∃ (o:Obj) (its:Array Value) (n:Nat),K.lookup a=some o/\o.cls=.type "list"/\o.dict=none/\o.data=.seq its n/\its.size<=sizeLine/\Vals xs its.toList
def rS (K:PySem.W.Frag) (H:Hp) (a:Addr) (xs:List V):Prop:=
 Rd H a (.tup xs) \/
   ∃ (o:Obj) (its:Array Value) (n:Nat),K.lookup a=some o/\o.cls=.type "tuple"/\o.data=.seq its n/\its.size<=sizeLine/\Vals xs its.toList
def Yb:Value->Option V
 | .none=>some .non
 | .bool b=>some (.bl b)
 | .int i _=>some (.int i)
 | .str x _=>some (.str x)
 | .bytes b _=>some (.Jc b)
 | .float b _=>some (.V3 b)
 | .ref a=>some (.ref a)
 | .type n=>some (.ty n)
 | _=>none
theorem RelV.abs {x:V} {u:Value} (r:RelV x u):Yb u=some x:=by
 cases x with
 | non=>cases r;rfl
 | bl _=>cases r;rfl
 | int _=>obtain ⟨t,rfl⟩:=r;rfl
 | str _=>obtain ⟨t,rfl⟩:=r;rfl
 | Jc _=>obtain ⟨t,rfl⟩:=r;rfl
 | V3 _=>obtain ⟨t,rfl⟩:=r;rfl
 | ref _=>cases r;rfl
 | ty _=>cases r;rfl
theorem RelV.inj {x y:V} {u:Value} (r:RelV x u) (q:RelV y u):x=y:=Option.some.inj (r.abs.symm.trans q.abs)
theorem Vals.inj:∀ {xs ys:List V} {us:List Value},Vals xs us->Vals ys us->xs=ys
 | _,_,_,.nil,.nil=>rfl
 | _,_,_,.cons r t,.cons r' t'=>by rw [r.inj r',Vals.inj t t']
section
variable {X:Cx} {pins:List (Addr×Obj)} {σ:St} {H:Hp} {s:Shared} {a:Addr} {xs ys:List V}
theorem dN.of {K:PySem.W.Frag} (h:H a=some (.lst xs)):dN K H a xs:=.inl (.inl h)
theorem rS.of {K:PySem.W.Frag} (h:H a=some (.tup xs)):rS K H a xs:=.inl (.inl h)
theorem Inv.list (I:Inv X pins σ H s) (h:dN X.K H a xs):∃ its:List Value,Vals xs its/\PlainL s.heap a its.toArray/\xs.length<=sizeLine:=by
 rcases h with h | ⟨o,its,n,hk,hc,hd,hs,hz,r⟩
 . obtain ⟨z,its,n,r,e⟩:=h.ok I.hok
   exact ⟨its,r,⟨_,n,e,rfl,rfl,rfl⟩,z⟩
 . refine ⟨its.toList,r,⟨o,n,I.yY a o hk,hc,hd,by simpa using hs⟩,?_⟩
   have e:=r.length
   simp only [Array.length_toList] at e
   omega
theorem Inv.tuple (I:Inv X pins σ H s) (h:rS X.K H a xs):∃ its:List Value,Vals xs its/\IsTup s.heap a its.toArray/\xs.length<=sizeLine:=by
 rcases h with h | ⟨o,its,n,hk,hc,hs,hz,r⟩
 . obtain ⟨z,its,r,p⟩:=h.ok I.hok
   exact ⟨its,r,p,z⟩
 . refine ⟨its.toList,r,⟨o,I.yY a o hk,hc,n,by simpa using hs⟩,?_⟩
   have e:=r.length
   simp only [Array.length_toList] at e
   omega
theorem Inv.Ji (I:Inv X pins σ H s) (h:dN X.K H a xs) (h':dN X.K H a ys):xs=ys:=by
 obtain ⟨its,r,⟨o,n,e,_,_,d⟩,_⟩:=I.list h
 obtain ⟨its',r',⟨o',n',e',_,_,d'⟩,_⟩:=I.list h'
 rw [e] at e';cases e'
 rw [d] at d'
 injection d' with d1 _
 have:its=its':=by simpa using congrArg Array.toList d1
 subst this
 exact r.inj r'
theorem Inv.Na (I:Inv X pins σ H s) (h:rS X.K H a xs) (h':rS X.K H a ys):xs=ys:=by
 obtain ⟨its,r,⟨o,e,_,n,d⟩,_⟩:=I.tuple h
 obtain ⟨its',r',⟨o',e',_,n',d'⟩,_⟩:=I.tuple h'
 rw [e] at e';cases e'
 rw [d] at d'
 injection d' with d1 _
 have:its=its':=by simpa using congrArg Array.toList d1
 subst this
 exact r.inj r'
end
abbrev Cx.DC (X:Cx) (E:Value->Shared->Prop):Cx:={ X with xe:=E }
abbrev Cx.VL (X:Cx):Cx:=X.DC fun _ _=>False
theorem Cx.Ok.DC {X:Cx} (ok:X.Ok) (E:Value->Shared->Prop):(X.DC E).Ok:=
 ⟨ok.mod,ok.kind,ok.glob,ok.blt,ok.above,ok.inj,ok.has,ok.Tc,ok.hd,ok.frames,ok.QX,ok.Ud,ok.bs,ok.MZ,ok.Jf,ok.Jg,ok.xy,ok.Ou⟩
theorem Cx.Ok.vf {X:Cx} {E:Value->Shared->Prop} (ok:(X.DC E).Ok):X.Ok:=
 ⟨ok.mod,ok.kind,ok.glob,ok.blt,ok.above,ok.inj,ok.has,ok.Tc,ok.hd,ok.frames,ok.QX,ok.Ud,ok.bs,ok.MZ,ok.Jf,ok.Jg,ok.xy,ok.Ou⟩
section
variable {X:Cx} {pins:List (Addr×Obj)} {σ:St} {H:Hp} {s:Shared} {E:Value->Shared->Prop}
theorem Inv.DC (I:Inv X pins σ H s) (E:Value->Shared->Prop):Inv (X.DC E) pins σ H s:=⟨I.ok.DC E,I.os,I.bare,I.base,I.loc,I.cell,I.free,I.g7,I.pin,I.hok,I.len⟩
theorem Inv.vf (I:Inv (X.DC E) pins σ H s):Inv X pins σ H s:=⟨I.ok.vf,I.os,I.bare,I.base,I.loc,I.cell,I.free,I.g7,I.pin,I.hok,I.len⟩
theorem SP.vf {D:Ends} {f:Flow} {s':Shared} (h:SP (X.DC E) pins D f s'):SP X pins D f s':=by
 cases f with
 | next=>obtain ⟨σ',H',I,q⟩:=h;exact ⟨σ',H',I.vf,q⟩
 | brk=>obtain ⟨σ',H',I,q⟩:=h;exact ⟨σ',H',I.vf,q⟩
 | cont=>obtain ⟨σ',H',I,q⟩:=h;exact ⟨σ',H',I.vf,q⟩
 | ret u=>obtain ⟨v,σ',H',I,r,q⟩:=h;exact ⟨v,σ',H',I.vf,r,q⟩
theorem Jh.VL {st:List Stmt} {t:TS} (h:Jh X.VL st t):Jh X st t:=fun pins s σ H D I hw=>
 wpAny_mono (h pins s σ H D (I.DC _) hw) (fun _ _ q=>q.vf) fun _ _ z=>False.elim z
end
section
variable {X:Cx} {st:Stmt} {rest:List Stmt} {t u:TS} {e:Expr} {te:TE} {pos:Pos}
def VM:TS:=fun D σ H=>D.nx σ H
def VN (t u:TS):TS:=fun D σ H=>t { D with nx:=u D } σ H
theorem ko:Jh X [] VM:=fun _ _ σ H _ I h=>wpAny_execs_nil ⟨σ,H,I,h⟩
theorem au (h1:PS X st t) (h2:Jh X rest u):Jh X (st::rest) (VN t u):=by
 intro pins s σ H D I h
 refine wpAny_execs_cons (d7 (h1 pins s σ H { D with nx:=u D } I h) fun f s1 q=>?_)
 cases f with
 | next=>
   obtain ⟨σ',H',I',q⟩:=q
   exact h2 pins s1 σ' H' D I' q
 | ret v=>exact q
 | brk=>exact q
 | cont=>exact q
theorem aH (h1:PS X st t):Jh X [st] t:=by
 intro pins s σ H D I h
 refine wpAny_execs_cons (d7 (h1 pins s σ H D I h) fun f s1 q=>?_)
 cases f with
 | next=>exact wpAny_execs_nil q
 | ret v=>exact q
 | brk=>exact q
 | cont=>exact q
theorem Inv.quiet {pins:List (Addr×Obj)} {σ:St} {H:Hp} {s:Shared} (I:Inv X pins σ H s):interactive X.env=false:=by simp [interactive,I.ok.kind]
def VO (te:TE):TS:=fun D σ H=>te σ H fun _ H1=>D.nx σ H1
theorem dY (he:PE X e te) (hs:swapsWith e none pos.line X.env=pure false:=by rfl):PS X (.Expr e pos) (VO te):=by
 intro pins s σ H D I h
 exact wpAny_Expr_any (d7 (he pins s σ H _ I h) fun v s1 ⟨x,H1,I1,r1,q1⟩=>⟨σ,H1,I1,q1⟩) I.quiet hs
def Yc (te:TE):TS:=fun D σ H=>te σ H D.rt
theorem cT (he:PE X e te):PS X (.Return (some e) pos) (Yc te):=by
 intro pins s σ H D I h
 exact wpAny_Return_some (d7 (he pins s σ H _ I h) fun v s1 ⟨x,H1,I1,r1,q1⟩=>⟨x,σ,H1,I1,r1,q1⟩)
def Yd (c:TT) (t u:TS):TS:=fun D σ H=>c σ H fun b H1=>if b=true then t D σ H1 else u D σ H1
theorem xP {c:Expr} {a b:List Stmt} {tc:TT} (hc:PT X c tc) (ha:Jh X a t) (hb:Jh X b u):PS X (.If c a b pos) (Yd tc t u):=by
 intro pins s σ H D I h
 refine wpAny_If (d7 (hc pins s σ H _ I h) fun d s1 ⟨H1,I1,q1⟩=>?_)
 cases d with
 | true=>exact ha pins s1 σ H1 D I1 q1
 | false=>exact hb pins s1 σ H1 D I1 q1
end
abbrev TG:=V->St->Hp->(St->Hp->Prop)->Prop
abbrev Ue:=List V->St->Hp->(St->Hp->Prop)->Prop
def PG (X:Cx) (target:Expr) (t:TG):Prop:=
 ∀ (pins:List (Addr×Obj)) (s:Shared) (σ:St) (H:Hp) (v:V) (u:Value) (Q:St->Hp->Prop),Inv X pins σ H s->RelV v u->t v σ H Q->
   wpAny (model X.prog X.w) X.A (assign target X.env u) (fun _ s'=>∃ σ' H',Inv X pins σ' H' s'/\Q σ' H') X.xe s
def Xv (X:Cx) (ts:List Expr) (t:Ue):Prop:=
 ∀ (pins:List (Addr×Obj)) (s:Shared) (σ:St) (H:Hp) (vs:List V) (us:List Value) (Q:St->Hp->Prop),Inv X pins σ H s->Vals vs us->t vs σ H Q->
   wpAny (model X.prog X.w) X.A (assignInOrder ((assignEach ts X.env).map (·.2)) us) (fun _ s'=>∃ σ' H',Inv X pins σ' H' s'/\Q σ' H') X.xe s
abbrev O0:=V->V->V->Hp->(Hp->Prop)->Prop
def Ug (X:Cx) (t:O0):Prop:=
 ∀ (pins:List (Addr×Obj)) (s:Shared) (σ:St) (H:Hp) (o i v:V) (ov iv u:Value) (Q:Hp->Prop),Inv X pins σ H s->RelV o ov->RelV i iv->RelV v u->t o i v H Q->
   wpAny (model X.prog X.w) X.A (setItem ov iv u) (fun _ s'=>∃ H',Inv X pins σ H' s'/\Q H') X.xe s
abbrev V5:=V->V->Hp->VK->Prop
def Xw (X:Cx) (op:Operator) (t:V5):Prop:=
 ∀ (pins:List (Addr×Obj)) (s:Shared) (σ:St) (H:Hp) (x y:V) (v u:Value) (Q:VK),Inv X pins σ H s->RelV x v->RelV y u->t x y H Q->
   wpAny (model X.prog X.w) X.A (inplaceOp op v u) (EP X pins σ Q) X.xe s
section
variable {X:Cx} {pos:Pos}
def Jj (i:Nat):TG:=fun v σ H Q=>Q (σ.set i (some v)) H
theorem c7 {i:Nat} {x:Str} (hN:X.N.Nodup) (hi:X.N[i]?=some x) (hx:Loc X.env.scope x) (hf:X.fn x=true\/X.env.scope.names.lookup x=some .local:=by first | exact .inl rfl | exact .inr rfl | assumption):PG X (.Name x pos) (Jj i):=by
 intro pins s σ H v u Q I r h
 exact wpAny_assign_Name (D9 I hN hi hx r (fun s' I'=>⟨_,H,I',h⟩) hf)
def Ye:Ue:=fun vs σ H Q=>vs=[]/\Q σ H
def VP (t:TG) (u:Ue):Ue:=fun vs σ H Q=>∃ v r,vs=v::r/\t v σ H fun σ' H'=>u r σ' H' Q
theorem G6:Xv X [] Ye:=by
 intro pins s σ H vs us Q I r h
 obtain ⟨e,h⟩:=h
 subst e
 cases r
 exact assignInOrder_nil ⟨σ,H,I,h⟩
theorem qc {e:Expr} {es:List Expr} {t:TG} {u:Ue} (h1:PG X e t) (h2:Xv X es u)
   (hs:(assignEach (e::es) X.env).map (·.2)=assign e X.env::(assignEach es X.env).map (·.2):=by rfl):Xv X (e::es) (VP t u):=by
 intro pins s σ H vs us Q I r h
 obtain ⟨v,vr,e1,h⟩:=h
 subst e1
 cases r with
 | cons r rr=>
   rw [hs]
   refine assignInOrder_cons (d7 (h1 pins s σ H _ _ _ I r h) fun _ s1 ⟨σ1,H1,I1,q1⟩=>?_)
   exact h2 pins s1 σ1 H1 _ _ Q I1 rr q1
def Yg (K:PySem.W.Frag) (n:Nat) (t:Ue):TG:=fun v σ H Q=>∃ a xs,v=.ref a/\rS K H a xs/\xs.length=n/\t xs σ H Q
theorem Lk {es:List Expr} {k:Nat} {t:Ue} {n:Nat} (hc:X.calm=true) (h:Xv X es t)
   (hn:(assignEach es X.env).length=n:=by rfl) (hst:(assignEach es X.env).findIdx? (·.1)=none:=by rfl):PG X (.Tuple es k pos) (Yg X.K n t):=by
 intro pins s σ H v u Q I r hw
 obtain ⟨a,xs,e1,hq,hl,hw⟩:=hw
 subst e1
 cases r
 obtain ⟨its,rv,ht,hz⟩:=I.tuple hq
 refine assign_Tuple_tuple (I.ok.hd hc) ht (by simp [hn,<- hl,rv.length]) hst fun h' hx=>?_
 have I1:Inv X pins σ H { s with heap:=h' }:=I.kept (t':=s.toks) fun b o e=>hx b o (Nat.ne_of_lt (Heap.lt_size e)) e
 exact h pins _ σ H xs _ Q I1 (by simpa using rv) hw
def Yh (to ti:TE) (t:O0):TG:=fun v σ H Q=>to σ H fun o H1=>ti σ H1 fun i H2=>t o i v H2 fun H3=>Q σ H3
theorem Uh {o i:Expr} {to ti:TE} {t:O0} (ho:PE X o to) (hi:PE X i ti) (hs:Ug X t)
   (ha:∀ v,assign (.Subscript o i pos) X.env v=(do
     let ov <- holding [v] (eval o X.env)
     let iv <- holding [v,ov] (eval i X.env)
     standAt pos
     holding [v,ov,iv] (setItem ov iv v)
     release [v,ov,iv] []):=by intro _;rfl):PG X (.Subscript o i pos) (Yh to ti t):=by
 intro pins s σ H v u Q I r h
 rw [ha]
 refine wpAny_bind (wpAny_holding (d7 (ho pins s σ H _ I h) fun ov s1 ⟨x,H1,I1,r1,q1⟩=>?_))
 refine wpAny_bind (wpAny_holding (d7 (hi pins s1 σ H1 _ I1 q1) fun iv s2 ⟨y,H2,I2,r2,q2⟩=>?_))
 refine wpAny_bind (wpAny_standAt (wpAny_bind (wpAny_holding (d7 (hs pins s2 σ H2 x y v ov iv u _ I2 r1 r2 r q2) fun _ s3 ⟨H3,I3,q3⟩=>?_))))
 exact wpAny_release ⟨σ,H3,I3,q3⟩
def Ui (te:TE) (g:TG):TS:=fun D σ H=>te σ H fun x H1=>g x σ H1 D.nx
theorem Uj {tg e:Expr} {te:TE} {g:TG} (he:PE X e te) (hg:PG X tg g) (hs:swapsWithSole [tg] e pos.line X.env=pure false:=by rfl) (hw:swappedStores [tg] e X.env=pure none:=by rfl)
   (h1:(assignEach [tg] X.env).map (·.2)=[assign tg X.env]:=by rfl):PS X (.Assign [tg] e pos) (Ui te g):=by
 intro pins s σ H D I h
 refine wpAny_Assign_stores (d7 (he pins s σ H _ I h) fun v s1 ⟨x,H1,I1,r1,q1⟩=>?_) hs hw
 rw [h1]
 exact d7 (hg pins s1 σ H1 x v _ I1 r1 q1) fun _ s2 q=>q
theorem aZ {i:Nat} {x:Str} {e:Expr} {te:TE} {pos':Pos} (hN:X.N.Nodup) (hi:X.N[i]?=some x) (hx:Loc X.env.scope x) (he:PE X e te) (hs:swapsWith e (some (.Name x pos')) pos.line X.env=pure false:=by rfl) (hf:X.fn x=true\/X.env.scope.names.lookup x=some .local:=by first | exact .inl rfl | exact .inr rfl | assumption) :
   PS X (.Assign [.Name x pos'] e pos) (Ui te (Jj i)):=by
 intro pins s σ H D I h
 refine wpAny_Assign_Name (d7 (he pins s σ H _ I h) fun v s1 ⟨y,H1,I1,r1,q1⟩=>?_) hs
 exact D9 I1 hN hi hx r1 (fun s2 I2=>⟨_,H1,I2,q1⟩) hf
def Yi (i:Nat) (te:TE) (ti:V5):TS:=fun D σ H=>∃ x,σ[i]?=some (some x)/\te σ H fun y H1=>ti x y H1 fun z H2=>D.nx (σ.set i (some z)) H2
theorem Uk {i:Nat} {x:Str} {e:Expr} {te:TE} {op:Operator} {ti:V5} {pos':Pos} (hN:X.N.Nodup) (hi:X.N[i]?=some x) (hx:Loc X.env.scope x) (he:PE X e te) (ho:Xw X op ti) (hf:X.fn x=true\/X.env.scope.names.lookup x=some .local:=by first | exact .inl rfl | exact .inr rfl | assumption) :
   PS X (.AugAssign (.Name x pos') op e pos) (Yi i te ti):=by
 intro pins s σ H D I h
 obtain ⟨v,e1,h⟩:=h
 obtain ⟨m,hn,hl⟩:=I.loc
 have vis:Uc X.env.scope x:=by rcases hx with k | k;exact .inl k;exact .inr (.inl k)
 obtain ⟨u,r,l⟩:=hl i x v hi e1 vis
 refine wpAny_AugAssign_Name ?_
 have go:wpAny (model X.prog X.w) X.A (eval e X.env) (fun w s₂=>wpAny (model X.prog X.w) X.A (inplaceOp op u w) (fun r s₃=>wpAny (model X.prog X.w) X.A (storeName X.env x r) (fun _=>SP X pins D .next) X.xe s₃) X.xe s₂) X.xe s:=by
   refine d7 (he pins s σ H _ I h) fun w s1 ⟨y,H1,I1,r1,q1⟩=>?_
   refine d7 (ho pins s1 σ H1 v y u w _ I1 r r1 q1) fun z s2 ⟨zv,H2,I2,r2,q2⟩=>?_
   exact D9 I2 hN hi hx r2 (fun s3 I3=>⟨_,H2,I3,q2⟩) hf
 rcases l with ⟨hk,hm⟩ | ⟨hk,c,hc,hcell⟩
 . exact wpAny_loadName_local I.ok.kind hk hn hm go
 . rcases hk with hk | hk
   . exact wpAny_loadName_cell I.ok.kind hk hc hcell go
   . rcases hx with k | k
     . have:X.env.scope.names.lookup x=some .free:=hk
       rw [k] at this;cases this
     . have:X.env.scope.names.lookup x=some .free:=hk
       rw [k] at this;cases this
def VQ (to ti te:TE) (QZ:V->V->Hp->VK->Prop) (Xx:V5) (Ra:O0):TS:=fun D σ H=>to σ H fun o H1=>ti σ H1 fun i H2=>QZ o i H2 fun x H3=>te σ H3 fun y H4=>Xx x y H4 fun z H5=>Ra o i z H5 fun H6=>D.nx σ H6
def VR (X:Cx) (t:V->V->Hp->VK->Prop):Prop:=
 ∀ (pins:List (Addr×Obj)) (s:Shared) (σ:St) (H:Hp) (o i:V) (ov iv:Value) (Q:VK),Inv X pins σ H s->RelV o ov->RelV i iv->t o i H Q->
   wpAny (model X.prog X.w) X.A (getItem ov iv) (EP X pins σ Q) X.xe s
theorem Dn {o i e:Expr} {to ti te:TE} {QZ:V->V->Hp->VK->Prop} {Xx:V5} {Ra:O0} {op:Operator} {tpos:Pos} (ho:PE X o to) (hi:PE X i ti) (hg:VR X QZ) (he:PE X e te) (hp:Xw X op Xx) (hs:Ug X Ra)
   (ha:∀ ov iv new,augStore i ov iv new=(do holding [new,ov,iv] (setItem ov iv new);release [new,ov,iv] [];pure .next):=by intros;rfl):PS X (.AugAssign (.Subscript o i tpos) op e pos) (VQ to ti te QZ Xx Ra):=by
 intro pins s σ H D I h
 refine wpAny_AugAssign_SubscriptAny (d7 (ho pins s σ H _ I h) fun ov s1 ⟨x1,H1,I1,r1,q1⟩=>?_) ha
 refine d7 (hi pins s1 σ H1 _ I1 q1) fun iv s2 ⟨x2,H2,I2,r2,q2⟩=>?_
 refine d7 (hg pins s2 σ H2 x1 x2 ov iv _ I2 r1 r2 q2) fun old s3 ⟨x3,H3,I3,r3,q3⟩=>?_
 refine d7 (he pins s3 σ H3 _ I3 q3) fun v s4 ⟨x4,H4,I4,r4,q4⟩=>?_
 refine d7 (hp pins s4 σ H4 x3 x4 old v _ I4 r3 r4 q4) fun new s5 ⟨x5,H5,I5,r5,q5⟩=>?_
 exact d7 (hs pins s5 σ H5 x1 x2 x5 ov iv new _ I5 r1 r2 r5 q5) fun _ s6 ⟨H6,I6,q6⟩=>⟨σ,H6,I6,q6⟩
def Zw (f:Int->Int->Int):V5:=fun x y H Q=>∃ i j,x=.int i/\y=.int j/\Q (.int (f i j)) H
theorem Ll:Xw X .Add (Zw fun i j=>i+j):=by
 intro pins s σ H x y v u Q I r1 r2 h
 obtain ⟨i,j,e1,e2,q⟩:=h
 subst e1;subst e2
 obtain ⟨t,rfl⟩:=r1
 obtain ⟨t',rfl⟩:=r2
 exact iadd_int ⟨.int _,H,I.tok _,⟨_,rfl⟩,q⟩
theorem O1:Xw X .Sub (Zw fun i j=>i - j):=by
 intro pins s σ H x y v u Q I r1 r2 h
 obtain ⟨i,j,e1,e2,q⟩:=h
 subst e1;subst e2
 obtain ⟨t,rfl⟩:=r1
 obtain ⟨t',rfl⟩:=r2
 exact isub_int ⟨.int _,H,I.tok _,⟨_,rfl⟩,q⟩
def Lm (c:TT) (tb:TS):TS:=fun D σ H=>∃ W:Nat->St->Hp->Prop,(∃ m,W m σ H)/\∀ m σ H,W m σ H->
 c σ H fun b H1=>if b=true then ∃ N:St->Hp->Prop,(∀ σ' H',N σ' H'->∃ m',m' < m/\W m' σ' H')/\tb { D with nx:=N,ct:=N,bk:=D.nx } σ H1 else D.nx σ H1
theorem O2 {c:Expr} {body:List Stmt} {tc:TT} {tb:TS} (hp:PassesOwn (model X.prog X.w) X.A X.env X.xe) (hc:PT X c tc) (hb:Jh X body tb):PS X (.While c body [] pos) (Lm tc tb):=by
 intro pins s σ H D I h
 obtain ⟨W,⟨m0,w0⟩,turn⟩:=h
 refine wpAny_While (codeAny_whileLoop (fun n s'=>∃ σ' H',Inv X pins σ' H' s'/\W n σ' H') ?_ m0 ⟨σ,H,I,w0⟩)
 rintro n s1 ⟨σ1,H1,I1,w1⟩
 refine wpAny_passesOwn hp (d7 (hc pins s1 σ1 H1 _ I1 (turn n σ1 H1 w1)) fun b s2 ⟨H2,I2,q2⟩=>?_)
 cases b with
 | true=>
   obtain ⟨N,hN,q2⟩:=q2
   rw [if_pos rfl]
   refine wpAny_passesOwn hp (d7 (hb pins s2 σ1 H2 _ I2 q2) fun f s3 q3=>?_)
   cases f with
   | next=>
     obtain ⟨σ3,H3,I3,n3⟩:=q3
     obtain ⟨m',hm,w3⟩:=hN σ3 H3 n3
     exact ⟨m',hm,σ3,H3,I3,w3⟩
   | cont=>
     obtain ⟨σ3,H3,I3,n3⟩:=q3
     obtain ⟨m',hm,w3⟩:=hN σ3 H3 n3
     exact ⟨m',hm,σ3,H3,I3,w3⟩
   | brk=>exact q3
   | ret v=>exact q3
 | false=>
   rw [if_neg Bool.false_ne_true]
   exact wpAny_execs_nil ⟨σ1,H2,I2,q2⟩
end
structure It where
 go:Nat->Hp->Prop
 O3:Nat->Hp->V->Hp->Prop
 stop:Nat->Hp->Prop
def DE (X:Cx) (pins:List (Addr×Obj)) (H:Hp) (b:Addr):Prop:=
 H b=none/\b ≠ X.env.locals/\b ∉ X.fs/\(b ∈ X.ex\/X.Bp.heap.objs.size<=b)/\(∀ x c,X.env.cells.lookup x=some c->c ≠ b)/\∀ p ∈ X.pn++pins,p.1 ≠ b
theorem Inv.Nb {X:Cx} {pins:List (Addr×Obj)} {σ:St} {H H':Hp} {s:Shared} {b:Addr} (I:Inv X pins σ H s) (hb:s.heap.objs.size<=b) (hn:H' b=none):DE X pins H' b:=by
 refine ⟨hn,Nat.ne_of_gt (Nat.lt_of_lt_of_le I.lt hb),I.XW hb,.inr (Nat.le_trans I.sz hb),fun x c e z=>?_,fun p hp z=>?_⟩
 . obtain ⟨v,q⟩:=I.cell x c e
   exact absurd (Nat.lt_of_lt_of_le q.lt (by rw [z];exact hb)) (Nat.lt_irrefl _)
 . exact absurd (Nat.lt_of_lt_of_le (Heap.lt_size (I.pin p hp).1) (by rw [z];exact hb)) (Nat.lt_irrefl _)
structure Turn (P:Program) (w:World) (K:PySem.W.Frag) (tg:Expr) (J:It) (fp:List Addr) (it:Addr) (tn:Nat->Heap->Prop):Prop where
 mem:it ∈ fp
 obj:∀ i h,tn i h->∀ b ∈ fp,∃ o,h.get? b=some o/\∀ v,o.data ≠ .cell v
 keep:∀ i h h',tn i h->(∀ b ∈ fp,∀ o,h.get? b=some o->h'.get? b=some o)->tn i h'
 item:∀ (X:Cx),X.prog=P->X.w=w->X.K=K->X.calm=true->∀ (i:Nat) (pins:List (Addr×Obj)) (s:Shared) (σ:St) (H:Hp) (E:Value->Shared->Prop),Inv X pins σ H s->(∀ b ∈ fp,DE X pins H b)->tn i s.heap->J.go i H->
   wpAny (model P w) X.A (pyNext (.ref it)) (fun r s1=>∃ u,r=some u /\
     wpAny (model P w) X.A (letOwnedTupleGo tg (.ref it) u) (fun _ s2=>∃ x H',Inv X pins σ H' s2/\RelV x u/\J.O3 i H x H'/\tn (i+1) s2.heap/\∀ b ∈ fp,H' b=none) E s1) E s
 done:∀ (X:Cx),X.prog=P->X.w=w->X.K=K->X.calm=true->∀ (i:Nat) (pins:List (Addr×Obj)) (s:Shared) (σ:St) (H:Hp) (E:Value->Shared->Prop),Inv X pins σ H s->(∀ b ∈ fp,DE X pins H b)->tn i s.heap->J.stop i H->
   wpAny (model P w) X.A (pyNext (.ref it)) (fun r s1=>r=none/\Inv X pins σ H s1) E s
 self:∀ (A:Around) (i:Nat) (s:Shared) (Q:Value->Shared->Prop) (E:Value->Shared->Prop),tn i s.heap->Q (.ref it) s->wpAny (model P w) A (pyIter (.ref it)) Q E s
abbrev TI:=St->Hp->(It->Hp->Prop)->Prop
def Yj (X:Cx) (pins:List (Addr×Obj)) (σ:St) (tg:Expr) (R:It->Hp->Prop) (itv:Value) (s2:Shared):Prop:=
 ∃ (it:Addr) (fp:List Addr) (tn:Nat->Heap->Prop) (J:It) (H':Hp),itv=.ref it/\Inv X pins σ H' s2/\Turn X.prog X.w X.K tg J fp it tn/\tn 0 s2.heap/\(∀ b ∈ fp,DE X pins H' b)/\R J H'
def PI (X:Cx) (tg iter:Expr) (wi:TI):Prop:=
 ∀ (pins:List (Addr×Obj)) (s:Shared) (σ:St) (H:Hp) (R:It->Hp->Prop),Inv X pins σ H s->wi σ H R->
   wpAny (model X.prog X.w) X.A (eval iter X.env) (fun v s1=>wpAny (model X.prog X.w) X.A (pyIter v) (Yj X pins σ tg R) X.xe s1) X.xe s
theorem FN {M:Model} {A:Around} {E:Value->Shared->Prop} {s:Shared} {tg:Expr} {it:Addr} {u:Value} {o:Obj} {n:String} {vs:Array Value} {Q:Unit->Shared->Prop} (ho:s.heap.get? it=some o) (hc:o.cls=.type n) (hd:o.data=.fields vs)
   (hn:["enumerate","zip","dict_itemiterator","dict_reverseitemiterator","odict_iterator","itertools.zip_longest","itertools.pairwise"].contains n=false) (hQ:Q () s):wpAny M A (letOwnedTupleGo tg (.ref it) u) Q E s:=by
 unfold letOwnedTupleGo
 cases tg<;>first
   | exact wpAny_pure hQ
   | (cases u<;>first
       | exact wpAny_pure hQ
       | (refine wpAny_bind (wpAny_load ho ?_)
          rw [hc,hd]
          show wpAny M A (if (["enumerate","zip","dict_itemiterator","dict_reverseitemiterator","odict_iterator","itertools.zip_longest","itertools.pairwise"].contains n&&vs[0]?==some (rawInt _))=true then _ else _) Q E s
          rw [if_neg (by intro h;rw [hn,Bool.false_and] at h;cases h)]
          exact wpAny_pure hQ))
def Tg (K:PySem.W.Frag) (a:Addr):It:=
 ⟨fun i H=>∃ xs x,dN K H a xs/\xs[i]?=some x,fun i H x H'=>H'=H/\∀ xs,dN K H a xs->xs[i]?=some x,fun i H=>∃ xs,dN K H a xs/\xs.length<=i⟩
def VT (K:PySem.W.Frag) (a:Addr):It:=
 ⟨fun i H=>∃ xs x,rS K H a xs/\xs[i]?=some x,fun i H x H'=>H'=H/\∀ xs,rS K H a xs->xs[i]?=some x,fun i H=>∃ xs,rS K H a xs/\xs.length<=i⟩
def Rb (lo:Int) (n:Nat):It:=⟨fun i _=>i < n,fun i H x H'=>H'=H/\x=.int (lo+i),fun i _=>n<=i⟩
theorem Nc {P:Program} {w:World} {K:PySem.W.Frag} {tg:Expr} (a it:Addr):Turn P w K tg (Tg K a) [it] it (fun i h=>h.IsListIter it a i) where
 mem:=by simp
 obj:=fun i h st b hb=>by
   have e:b=it:=by simpa using hb
   subst e
   obtain ⟨o,e,c,d⟩:=st
   exact ⟨o,e,fun v z=>by rw [d] at z;cases z⟩
 keep:=fun i h h' st k=>st.at fun o e=>k it (by simp) o e
 item:=by
   intro X hP hw hK hc i pins s σ H E I hf st hg
   subst hP hw hK
   obtain ⟨xs,x,hq,hx⟩:=hg
   obtain ⟨its,rv,p,hz⟩:=I.list hq
   obtain ⟨u,hu,ru⟩:=rv.get hx
   obtain ⟨f0,f1,f2,f3,f4,f5⟩:=hf it (by simp)
   refine wpAny_pyNext_list_item st p.isList (x:=u) (by simpa using hu) fun h' st' sb=>?_
   have I1:Inv X pins σ H { s with heap:=h' }:=I.turned (t':=s.toks) (fun b o hb e=>(sb.2 b hb).trans e) f0 f1 f3 f4 f5
   obtain ⟨o,e,c,d⟩:=id st'
   exact ⟨u,rfl,FN (s:={ s with heap:=h' }) e c d (by decide) ⟨x,H,I1,ru,⟨rfl,fun ys hy=>by rw [I.Ji hy hq];exact hx⟩,st',fun b hb=>(hf b hb).1⟩⟩
 done:=by
   intro X hP hw hK hc i pins s σ H E I hf st hg
   subst hP hw hK
   obtain ⟨xs,hq,hx⟩:=hg
   obtain ⟨its,rv,p,hz⟩:=I.list hq
   obtain ⟨f0,f1,f2,f3,f4,f5⟩:=hf it (by simp)
   have hl:=rv.length
   exact wpAny_pyNext_list_end (I.ok.hd hc) st p.isList (by simp;omega) fun h' eb=>⟨rfl,I.turned (t':=s.toks) (fun b o hb e=>eb b o hb e) f0 f1 f3 f4 f5⟩
 self:=fun _ _ _ _ _ st h=>wpAny_pyIter_listiter st h
theorem Ln {P:Program} {w:World} {K:PySem.W.Frag} {tg:Expr} (a it:Addr):Turn P w K tg (VT K a) [it] it (fun i h=>h.IsTupleIter it a i) where
 mem:=by simp
 obj:=fun i h st b hb=>by
   have e:b=it:=by simpa using hb
   subst e
   obtain ⟨o,e,c,d⟩:=st
   exact ⟨o,e,fun v z=>by rw [d] at z;cases z⟩
 keep:=fun i h h' st k=>st.at fun o e=>k it (by simp) o e
 item:=by
   intro X hP hw hK hc i pins s σ H E I hf st hg
   subst hP hw hK
   obtain ⟨xs,x,hq,hx⟩:=hg
   obtain ⟨its,rv,p,hz⟩:=I.tuple hq
   obtain ⟨u,hu,ru⟩:=rv.get hx
   obtain ⟨f0,f1,f2,f3,f4,f5⟩:=hf it (by simp)
   refine wpAny_pyNext_tuple_item st (show s.heap.IsTuple a its.toArray from p) (x:=u) (by simpa using hu) fun h' st' sb=>?_
   have I1:Inv X pins σ H { s with heap:=h' }:=I.turned (t':=s.toks) (fun b o hb e=>(sb.2 b hb).trans e) f0 f1 f3 f4 f5
   obtain ⟨o,e,c,d⟩:=id st'
   exact ⟨u,rfl,FN (s:={ s with heap:=h' }) e c d (by decide) ⟨x,H,I1,ru,⟨rfl,fun ys hy=>by rw [I.Na hy hq];exact hx⟩,st',fun b hb=>(hf b hb).1⟩⟩
 done:=by
   intro X hP hw hK hc i pins s σ H E I hf st hg
   subst hP hw hK
   obtain ⟨xs,hq,hx⟩:=hg
   obtain ⟨its,rv,p,hz⟩:=I.tuple hq
   obtain ⟨f0,f1,f2,f3,f4,f5⟩:=hf it (by simp)
   have hl:=rv.length
   exact wpAny_pyNext_tuple_end (I.ok.hd hc) st (show s.heap.IsTuple a its.toArray from p) (by simp;omega) fun h' eb=>⟨rfl,I.turned (t':=s.toks) (fun b o hb e=>eb b o hb e) f0 f1 f3 f4 f5⟩
 self:=fun _ _ _ _ _ st h=>wpAny_pyIter_tupleiter st h
theorem Lo {P:Program} {w:World} {K:PySem.W.Frag} {tg:Expr} (it:Addr) (lo:Int) (n:Nat):Turn P w K tg (Rb lo n) [it] it (fun i h=>IsRangeIter h it (lo+(i:Nat) * 1) ((n:Int) - (i:Nat)) 1) where
 mem:=by simp
 obj:=fun i h st b hb=>by
   have e:b=it:=by simpa using hb
   subst e
   exact ⟨_,st,fun v z=>by
     have z':Data.fields _=Data.cell v:=z
     cases z'⟩
 keep:=fun i h h' st k=>k it (by simp) _ st
 item:=by
   intro X hP hw hK hc i pins s σ H E I hf st hg
   subst hP hw hK
   obtain ⟨f0,f1,f2,f3,f4,f5⟩:=hf it (by simp)
   have W:=Walks.range (prog:=X.prog) (w:=X.w) (I.ok.hd hc) it lo 1 n
   refine W.item i s _ _ hg st fun v h' tk hv st' kk=>?_
   obtain ⟨t,rfl⟩:=hv
   have I1:Inv X pins σ H { s with heap:=h',toks:=tk }:=I.turned (fun b o hb e=>kk b o (by simpa using hb) e) f0 f1 f3 f4 f5
   refine ⟨_,rfl,FN (s:={ s with heap:=h',toks:=tk }) (n:="range_iterator") st' rfl rfl (by decide) ⟨.int (lo+i),H,I1,⟨t,?_⟩,⟨rfl,rfl⟩,st',fun b hb=>(hf b hb).1⟩⟩
   rw [Int.mul_one]
 done:=by
   intro X hP hw hK hc i pins s σ H E I hf st hg
   subst hP hw hK
   obtain ⟨f0,f1,f2,f3,f4,f5⟩:=hf it (by simp)
   exact wpAny_pyNext_range_end (I.ok.hd hc) st (by have:n<=i:=hg;omega) fun h' eb=>⟨rfl,I.turned (t':=s.toks) (fun b o hb e=>eb b o hb e) f0 f1 f3 f4 f5⟩
 self:=fun _ _ _ _ _ st h=>wpAny_pyIter_rangeiter st h
end L2
namespace L2
open PySem PySem.Spec PyProof.Rows
section
variable {X:Cx} {tg:Expr}
def VU (K:PySem.W.Frag) (tl:TE):TI:=fun σ H R=>tl σ H fun x H1=>∃ a,x=.ref a/\(∃ xs,dN K H1 a xs)/\R (Tg K a) H1
def Yk (K:PySem.W.Frag) (tl:TE):TI:=fun σ H R=>tl σ H fun x H1=>∃ a,x=.ref a/\(∃ xs,rS K H1 a xs)/\R (VT K a) H1
theorem ow {l:Expr} {tl:TE} (hl:PE X l tl):PI X tg l (VU X.K tl):=by
 intro pins s σ H R I h
 refine d7 (hl pins s σ H _ I h) fun v s1 ⟨x,H1,I1,r1,q1⟩=>?_
 obtain ⟨a,e,⟨xs,hq⟩,q⟩:=q1
 subst e
 cases r1
 obtain ⟨its,rv,p,hz⟩:=I1.list hq
 refine wpAny_pyIter_list p.isList ?_
 refine ⟨s1.heap.objs.size,[s1.heap.objs.size],_,_,H1,rfl,I1.kept (t':=s1.toks) fun b o e=>Heap.get?_push_of_some _ e,Nc a _,⟨_,Heap.get?_push_size _ rfl,rfl,rfl⟩,fun b hb=>?_,q⟩
 have e:b=s1.heap.objs.size:=by simpa using hb
 subst e
 exact I1.Nb (Nat.le_refl _) (I1.hok.fresh (Nat.le_refl _))
theorem Lp {l:Expr} {tl:TE} (hl:PE X l tl):PI X tg l (Yk X.K tl):=by
 intro pins s σ H R I h
 refine d7 (hl pins s σ H _ I h) fun v s1 ⟨x,H1,I1,r1,q1⟩=>?_
 obtain ⟨a,e,⟨xs,hq⟩,q⟩:=q1
 subst e
 cases r1
 obtain ⟨its,rv,p,hz⟩:=I1.tuple hq
 refine wpAny_pyIter_tuple (show s1.heap.IsTuple a its.toArray from p) ?_
 refine ⟨s1.heap.objs.size,[s1.heap.objs.size],_,_,H1,rfl,I1.kept (t':=s1.toks) fun b o e=>Heap.get?_push_of_some _ e,Ln a _,⟨_,Heap.get?_push_size _ rfl,rfl,rfl⟩,fun b hb=>?_,q⟩
 have e:b=s1.heap.objs.size:=by simpa using hb
 subst e
 exact I1.Nb (Nat.le_refl _) (I1.hok.fresh (Nat.le_refl _))
theorem O4 {pins:List (Addr×Obj)} {σ:St} {H:Hp} {s:Shared} {R:It->Hp->Prop} {E:Value->Shared->Prop} {lo hi:Int} {t u v:Tok} {tk:Nat} (I:Inv X pins σ H s) (h1:-(2 ^ 62)<=lo) (h2:lo < 2 ^ 62) (h3:-(2 ^ 62)<=hi) (h4:hi < 2 ^ 62)
   (q:R (Rb lo (hi - lo).toNat) H):wpAny (model X.prog X.w) X.A (pyIter (.ref s.heap.objs.size)) (Yj X pins σ tg R) E { s with heap:=s.heap.push { cls:=.type "range",data:=.fields #[.int lo t,.int hi u,.int 1 v] },toks:=tk }:=by
 refine wpAny_pyIter_range (IsRange.new ..) (small_one h1 h2 h3 h4) ?_
 have I1:Inv X pins σ H { s with heap:=s.heap.push { cls:=.type "range",data:=.fields #[.int lo t,.int hi u,.int 1 v] },toks:=tk }:=I.kept fun b o e=>Heap.get?_push_of_some _ e
 refine ⟨(s.heap.push { cls:=.type "range",data:=.fields #[.int lo t,.int hi u,.int 1 v] }).objs.size,[(s.heap.push { cls:=.type "range",data:=.fields #[.int lo t,.int hi u,.int 1 v] }).objs.size],_,_,H,rfl,
   I1.kept (t':=tk) fun b o e=>Heap.get?_push_of_some _ e,Lo _ lo (hi - lo).toNat,?_,fun b hb=>?_,q⟩
 . have e1:lo+((0:Nat):Int) * 1=lo:=by simp
   have e2:(((hi - lo).toNat:Nat):Int) - ((0:Nat):Int)=Builtin.Range.rangeSize lo hi 1:=by rw [rangeSize_one];split<;>omega
   show IsRangeIter _ _ (lo+((0:Nat):Int) * 1) ((((hi - lo).toNat:Nat):Int) - ((0:Nat):Int)) 1
   rw [e1,e2]
   exact Heap.get?_push_size _ rfl
 . have e:b=(s.heap.push { cls:=.type "range",data:=.fields #[.int lo t,.int hi u,.int 1 v] }).objs.size:=by simpa using hb
   subst e
   exact I1.Nb (Nat.le_refl _) (I1.hok.fresh (Nat.le_refl _))
def VW (ta:TA):TI:=fun σ H R=>ta σ H fun vs H1=>∃ j:Int,vs=[.int j]/\-(2 ^ 62)<=j/\j < 2 ^ 62/\R (Rb 0 j.toNat) H1
theorem mJ {a:Expr} {ta:TA} {p pos:Pos} (hg:Gl X "range") (hm:X.mg "range"=none) (ha:PA X [a] ta) (hs:starEach [a] X.env=[(false,eval a X.env)]:=by rfl):PI X tg (.Call (.Name "range" p) [a] [] pos) (VW ta):=by
 intro pins s σ H R I h
 refine Call_ (Bt I hg hm boot_range (PyProof.Rows.callWith_type1 (d7 (ha pos pins s σ H _ I h) fun us s1 ⟨vs,H1,I1,r1,q1⟩=>?_) hs rfl))
 obtain ⟨j,e,q1,q2,q⟩:=q1
 subst e
 cases r1 with
 | cons r rr=>
   cases rr
   obtain ⟨t,rfl⟩:=r
   exact call_range_1 (O4 I1 (by omega) (by omega) q1 q2 (by simpa using q))
def Yl (wi:TI) (g:TG) (tb:TS):TS:=fun D σ H=>wi σ H fun J H1=>∃ W:Nat->Nat->St->Hp->Prop,(∃ m,W 0 m σ H1)/\∀ i m σ H,W i m σ H->
 (J.stop i H/\D.nx σ H)\/(J.go i H/\∃ N:St->Hp->Prop,(∀ σ' H',N σ' H'->∃ m',m' < m/\W (i+1) m' σ' H')/\∀ x H',J.O3 i H x H'->g x σ H' fun σ2 H2=>tb { D with nx:=N,ct:=N,bk:=D.nx } σ2 H2)
def DF (fp:List Addr) (h:Heap):List (Addr×Obj):=fp.filterMap fun b=>(h.get? b).map fun o=>(b,o)
theorem yZ {fp:List Addr} {h:Heap} {b:Addr} {o:Obj} (hb:b ∈ fp) (e:h.get? b=some o):(b,o) ∈ DF fp h:=List.mem_filterMap.mpr ⟨b,hb,by rw [e];rfl⟩
theorem Nd {fp:List Addr} {h:Heap} {p:Addr×Obj} (hp:p ∈ DF fp h):p.1 ∈ fp/\h.get? p.1=some p.2:=by
 obtain ⟨b,hb,e⟩:=List.mem_filterMap.mp hp
 cases q:h.get? b with
 | none=>rw [q] at e;cases e
 | some o=>
   rw [q] at e
   have e':(b,o)=p:=Option.some.inj e
   subst e'
   exact ⟨hb,q⟩
theorem Inv.pinned {pins:List (Addr×Obj)} {σ:St} {H:Hp} {s:Shared} {fp:List Addr} (I:Inv X pins σ H s) (hf:∀ b ∈ fp,DE X pins H b) (ho:∀ b ∈ fp,∃ o,s.heap.get? b=some o/\∀ v,o.data ≠ .cell v):Inv X (pins++DF fp s.heap) σ H s:=
 I.Mg fun p hp=>(List.mem_append.mp hp).elim (fun z=>I.pin p (List.mem_append_right _ z)) fun z=>by
   obtain ⟨hb,e⟩:=Nd z
   obtain ⟨f0,f1,f2,_⟩:=hf p.1 hb
   obtain ⟨o,e',d⟩:=ho p.1 hb
   rw [e] at e';cases e'
   exact ⟨e,f0,f1,f2,d⟩
theorem Inv.z6 {pins pl:List (Addr×Obj)} {σ:St} {H:Hp} {s:Shared} (I:Inv X (pins++pl) σ H s):Inv X pins σ H s:=I.Mg fun p hp=>I.pin p (List.mem_append_right _ (List.mem_append_left _ hp))
theorem g8 {iter:Expr} {body:List Stmt} {wi:TI} {g:TG} {tb:TS} {pos:Pos} (hp:PassesOwn (model X.prog X.w) X.A X.env X.xe) (hc:X.calm=true) (hi:PI X tg iter wi) (hg:PG X tg g) (hb:Jh X body tb)
   (hs:∀ x,foldedSetIterable iter X.env x=pure x:=by intro _;rfl):PS X (.For tg iter body [] pos) (Yl wi g tb):=by
 intro pins s σ H D I h
 refine wpAny_For (d7 (hi pins s σ H _ I h) fun v s1 h1=>d7 h1 fun itv s2 h2=>?_) hs
 obtain ⟨it,fp,tn,J,H2,e,I2,T,st2,f2,W,⟨m0,w0⟩,turn⟩:=h2
 subst e
 have Lq:∀ {H':Hp},(∀ b ∈ fp,H' b=none)->∀ b ∈ fp,DE X pins H' b:=fun hn b hb=>⟨hn b hb,(f2 b hb).2⟩
 refine codeAny_forLoop_any (fun n s'=>∃ i σ' H',Inv X pins σ' H' s'/\tn i s'.heap/\(∀ b ∈ fp,H' b=none)/\W i n σ' H') ?_ m0 ⟨0,σ,H2,I2,st2,fun b hb=>(f2 b hb).1,w0⟩
 rintro n s3 ⟨i,σ3,H3,I3,st3,Zx,w3⟩
 rcases turn i n σ3 H3 w3 with ⟨stop,qn⟩ | ⟨go,N,hN,step⟩
 . refine wpAny_passesOwn hp (d7 (T.done X rfl rfl rfl hc i pins s3 σ3 H3 X.xe I3 (Lq Zx) st3 stop) fun r s4 ⟨hr,I4⟩=>?_)
   subst hr
   exact wpAny_execs_nil ⟨σ3,H3,I4,qn⟩
 . refine wpAny_passesOwn hp (d7 (T.item X rfl rfl rfl hc i pins s3 σ3 H3 X.xe I3 (Lq Zx) st3 go) fun r s4 ⟨u,hr,h4⟩=>?_)
   subst hr
   refine wpAny_passesOwn hp (d7 h4 fun _ s5 ⟨x,H5,I5,r5,y5,V6,fr5⟩=>?_)
   have I5':=I5.pinned (Lq fr5) (T.obj _ _ V6)
   refine wpAny_passesOwn hp (d7 (hg _ s5 σ3 H5 x u _ I5' r5 (step x H5 y5)) fun _ s6 ⟨σ6,H6,I6,q6⟩=>?_)
   refine wpAny_passesOwn hp (d7 (hb _ s6 σ6 H6 _ I6 q6) fun f s7 q7=>?_)
   have again:∀ {σ7:St} {H7:Hp},Inv X (pins++DF fp s5.heap) σ7 H7 s7->N σ7 H7->∃ m,m < n/\∃ i σ' H',Inv X pins σ' H' s7/\tn i s7.heap/\(∀ b ∈ fp,H' b=none)/\W i m σ' H':=fun {σ7 H7} I7 n7=>by
     obtain ⟨m',hm,w7⟩:=hN σ7 H7 n7
     refine ⟨m',hm,i+1,σ7,H7,I7.z6,T.keep _ _ _ V6 fun b hb o e=>(I7.pin (b,o) (List.mem_append_right _ (List.mem_append_right _ (yZ hb e)))).1,fun b hb=>?_,w7⟩
     obtain ⟨o,e,d⟩:=T.obj _ _ V6 b hb
     exact (I7.pin (b,o) (List.mem_append_right _ (List.mem_append_right _ (yZ hb e)))).2.1
   cases f with
   | next=>obtain ⟨σ7,H7,I7,n7⟩:=q7;exact again I7 n7
   | cont=>obtain ⟨σ7,H7,I7,n7⟩:=q7;exact again I7 n7
   | brk=>obtain ⟨σ7,H7,I7,q7⟩:=q7;exact ⟨σ7,H7,I7.z6,q7⟩
   | ret v=>obtain ⟨x7,σ7,H7,I7,r7,q7⟩:=q7;exact ⟨x7,σ7,H7,I7.z6,r7,q7⟩
end
theorem DG {K:PySem.W.Frag} {a:Addr} {xs:List V} {g:TG} {tb:TS} {D:Ends} {σ:St} {H:Hp} (Pv:Nat->St->Hp->Prop) (h0:Pv 0 σ H) (hl:∀ i σ H,i<=xs.length->Pv i σ H->dN K H a xs)
   (hs:∀ i x σ H,xs[i]?=some x->Pv i σ H->g x σ H fun σ2 H2=>tb { D with nx:=Pv (i+1),ct:=Pv (i+1),bk:=D.nx } σ2 H2) (hd:∀ σ H,Pv xs.length σ H->D.nx σ H) :
   ∃ W:Nat->Nat->St->Hp->Prop,(∃ m,W 0 m σ H)/\∀ i m σ H,W i m σ H->
     ((Tg K a).stop i H/\D.nx σ H)\/((Tg K a).go i H/\∃ N:St->Hp->Prop,(∀ σ' H',N σ' H'->∃ m',m' < m/\W (i+1) m' σ' H')/\∀ x H',(Tg K a).O3 i H x H'->g x σ H' fun σ2 H2=>tb { D with nx:=N,ct:=N,bk:=D.nx } σ2 H2):=by
 refine ⟨fun i m σ H=>m=xs.length - i/\i<=xs.length/\Pv i σ H,⟨xs.length,by simp,Nat.zero_le _,h0⟩,?_⟩
 rintro i m σ H ⟨rfl,hi,p⟩
 have q:=hl i σ H hi p
 by_cases hlt:i < xs.length
 . refine .inr ⟨⟨xs,xs[i],q,by simp [hlt]⟩,Pv (i+1),fun σ' H' p'=>⟨xs.length - (i+1),by omega,rfl,hlt,p'⟩,fun x H' y=>?_⟩
   obtain ⟨e,y⟩:=y
   subst e
   exact hs i x σ _ (y xs q) p
 . have e:i=xs.length:=by omega
   subst e
   exact .inl ⟨⟨xs,q,Nat.le_refl _⟩,hd σ H p⟩
theorem G7 {K:PySem.W.Frag} {a:Addr} {xs:List V} {g:TG} {tb:TS} {D:Ends} {σ:St} {H:Hp} (Pv:Nat->St->Hp->Prop) (h0:Pv 0 σ H) (hl:∀ i σ H,i<=xs.length->Pv i σ H->rS K H a xs)
   (hs:∀ i x σ H,xs[i]?=some x->Pv i σ H->g x σ H fun σ2 H2=>tb { D with nx:=Pv (i+1),ct:=Pv (i+1),bk:=D.nx } σ2 H2) (hd:∀ σ H,Pv xs.length σ H->D.nx σ H) :
   ∃ W:Nat->Nat->St->Hp->Prop,(∃ m,W 0 m σ H)/\∀ i m σ H,W i m σ H->
     ((VT K a).stop i H/\D.nx σ H)\/((VT K a).go i H/\∃ N:St->Hp->Prop,(∀ σ' H',N σ' H'->∃ m',m' < m/\W (i+1) m' σ' H')/\∀ x H',(VT K a).O3 i H x H'->g x σ H' fun σ2 H2=>tb { D with nx:=N,ct:=N,bk:=D.nx } σ2 H2):=by
 refine ⟨fun i m σ H=>m=xs.length - i/\i<=xs.length/\Pv i σ H,⟨xs.length,by simp,Nat.zero_le _,h0⟩,?_⟩
 rintro i m σ H ⟨rfl,hi,p⟩
 have q:=hl i σ H hi p
 by_cases hlt:i < xs.length
 . refine .inr ⟨⟨xs,xs[i],q,by simp [hlt]⟩,Pv (i+1),fun σ' H' p'=>⟨xs.length - (i+1),by omega,rfl,hlt,p'⟩,fun x H' y=>?_⟩
   obtain ⟨e,y⟩:=y
   subst e
   exact hs i x σ _ (y xs q) p
 . have e:i=xs.length:=by omega
   subst e
   exact .inl ⟨⟨xs,q,Nat.le_refl _⟩,hd σ H p⟩
theorem qd {lo:Int} {n:Nat} {g:TG} {tb:TS} {D:Ends} {σ:St} {H:Hp} (Pv:Nat->St->Hp->Prop) (h0:Pv 0 σ H)
   (hs:∀ i σ H,i < n->Pv i σ H->g (.int (lo+i)) σ H fun σ2 H2=>tb { D with nx:=Pv (i+1),ct:=Pv (i+1),bk:=D.nx } σ2 H2) (hd:∀ σ H,Pv n σ H->D.nx σ H) :
   ∃ W:Nat->Nat->St->Hp->Prop,(∃ m,W 0 m σ H)/\∀ i m σ H,W i m σ H->
     ((Rb lo n).stop i H/\D.nx σ H)\/((Rb lo n).go i H/\∃ N:St->Hp->Prop,(∀ σ' H',N σ' H'->∃ m',m' < m/\W (i+1) m' σ' H')/\∀ x H',(Rb lo n).O3 i H x H'->g x σ H' fun σ2 H2=>tb { D with nx:=N,ct:=N,bk:=D.nx } σ2 H2):=by
 refine ⟨fun i m σ H=>m=n - i/\i<=n/\Pv i σ H,⟨n,by simp,Nat.zero_le _,h0⟩,?_⟩
 rintro i m σ H ⟨rfl,hi,p⟩
 by_cases hlt:i < n
 . refine .inr ⟨hlt,Pv (i+1),fun σ' H' p'=>⟨n - (i+1),by omega,rfl,hlt,p'⟩,fun x H' y=>?_⟩
   obtain ⟨e,y⟩:=y
   subst e y
   exact hs i σ _ hlt p
 . have e:i=n:=by omega
   subst e
   exact .inl ⟨Nat.le_refl _,hd σ H p⟩
theorem O5 {c:TT} {tb:TS} {D:Ends} {σ:St} {H:Hp} (Pv:St->Hp->Prop) (μ:St->Hp->Nat) (h0:Pv σ H)
   (hs:∀ σ H,Pv σ H->c σ H fun b H1=>if b=true then tb { D with nx:=fun σ' H'=>Pv σ' H'/\μ σ' H' < μ σ H,ct:=fun σ' H'=>Pv σ' H'/\μ σ' H' < μ σ H,bk:=D.nx } σ H1 else D.nx σ H1)
   (mono:∀ σ H Q Q',(∀ b H1,Q b H1->Q' b H1)->c σ H Q->c σ H Q'):Lm c tb D σ H:=by
 refine ⟨fun m σ H=>m=μ σ H/\Pv σ H,⟨_,rfl,h0⟩,?_⟩
 rintro m σ H ⟨rfl,p⟩
 refine mono σ H _ _ (fun b H1 q=>?_) (hs σ H p)
 cases b with
 | true=>exact ⟨_,fun σ' H' ⟨p',l⟩=>⟨_,l,rfl,p'⟩,q⟩
 | false=>exact q
end L2
namespace L2
open PySem PySem.Spec PyProof.Rows
abbrev R2:=V->V->Hp->VK->Prop
def EI (X:Cx) (f:Value->Value->Sem Value) (r:R2):Prop:=
 ∀ (pins:List (Addr×Obj)) (s:Shared) (σ:St) (H:Hp) (x y:V) (v u:Value) (Q:VK),Inv X pins σ H s->RelV x v->RelV y u->r x y H Q->
   wpAny (model X.prog X.w) X.A (f v u) (EP X pins σ Q) X.xe s
def Ym (X:Cx) (f:Value->Sem Value) (r:V->Hp->VK->Prop):Prop:=
 ∀ (pins:List (Addr×Obj)) (s:Shared) (σ:St) (H:Hp) (x:V) (v:Value) (Q:VK),Inv X pins σ H s->RelV x v->r x H Q->
   wpAny (model X.prog X.w) X.A (f v) (EP X pins σ Q) X.xe s
def Jk (X:Cx) (f:Value) (r:List V->Hp->VK->Prop):Prop:=
 ∀ (pins:List (Addr×Obj)) (s:Shared) (σ:St) (H:Hp) (xs:List V) (us:List Value) (Q:VK),Inv X pins σ H s->Vals xs us->r xs H Q->
   wpAny (model X.prog X.w) X.A (call f us) (EP X pins σ Q) X.xe s
def Yn (X:Cx) (r:V->Hp->(Bool->Hp->Prop)->Prop):Prop:=
 ∀ (pins:List (Addr×Obj)) (s:Shared) (σ:St) (H:Hp) (x:V) (v:Value) (Q:Bool->Hp->Prop),Inv X pins σ H s->RelV x v->r x H Q->
   wpAny (model X.prog X.w) X.A (truthy v) (TP X pins σ Q) X.xe s
def Xy (r:R2) (ta tb:TE):TE:=fun σ H Q=>ta σ H fun x H1=>tb σ H1 fun y H2=>r x y H2 Q
def tUn (r:V->Hp->VK->Prop) (ta:TE):TE:=fun σ H Q=>ta σ H fun x H1=>r x H1 Q
def rI (C:Int->Int->Prop) (g:Int->Int->V):R2:=fun x y H Q=>∃ i j,x=.int i/\y=.int j/\C i j/\Q (g i j) H
def Th (g:Int->Int->V):R2:=fun x y H Q=>∃ i j,x=.int i/\y=.int j/\Q (g i j) H
def rU (g:Int->V):V->Hp->VK->Prop:=fun x H Q=>∃ i,x=.int i/\Q (g i) H
section
variable {X:Cx} {a b c:Expr} {ta tb tc:TE} {pos:Pos}
theorem Ul (ha:PE X a ta) (hb:PE X b tb) {pins:List (Addr×Obj)} {s:Shared} {σ:St} {H:Hp} {R:V->V->Hp->Prop} (I:Inv X pins σ H s)
   (h:ta σ H fun x H1=>tb σ H1 fun y H2=>R x y H2) {Q:Value->Shared->Prop} {f:Value->Value->Sem Value}
   (hf:∀ v u s2 x y H2,Inv X pins σ H2 s2->RelV x v->RelV y u->R x y H2->wpAny (model X.prog X.w) X.A (f v u) Q X.xe s2) :
   wpAny (model X.prog X.w) X.A (eval a X.env) (fun v s₁=>wpAny (model X.prog X.w) X.A (eval b X.env) (fun u s₂=>wpAny (model X.prog X.w) X.A (f v u) Q X.xe s₂) X.xe s₁) X.xe s:=by
 refine d7 (ha pins s σ H _ I h) fun v s1 ⟨x,H1,I1,r1,q1⟩=>?_
 refine d7 (hb pins s1 σ H1 _ I1 q1) fun u s2 ⟨y,H2,I2,r2,q2⟩=>?_
 exact hf v u s2 x y H2 I2 r1 r2 q2
theorem fU {op:Operator} {r:R2} (ho:EI X (binaryOp op) r) (ha:PE X a ta) (hb:PE X b tb):PE X (.BinOp a op b pos) (Xy r ta tb):=by
 intro pins s σ H Q I h
 exact wpAny_BinOp (Ul ha hb I h fun v u s2 x y H2 I2 rx ry q=>ho pins s2 σ H2 x y v u Q I2 rx ry q)
theorem Mh {op:UnaryOp} {r:V->Hp->VK->Prop} (ho:Ym X (unaryOp op) r) (ha:PE X a ta):PE X (.UnaryOp op a pos) (tUn r ta):=by
 intro pins s σ H Q I h
 exact UnaryOp_ (d7 (ha pins s σ H _ I h) fun v s1 ⟨x,H1,I1,r1,q1⟩=>ho pins s1 σ H1 x v Q I1 r1 q1)
theorem Zy {f:Value->Value->Sem Value} {C:Int->Int->Prop} {g:Int->Int->Int}
   (rule:∀ (i j:Int) (t u:Tok) (s:Shared) (Q:Value->Shared->Prop) (E:Value->Shared->Prop),C i j->Q (.int (g i j) s.toks) { s with toks:=s.toks+1 }->wpAny (model X.prog X.w) X.A (f (.int i t) (.int j u)) Q E s) :
   EI X f (rI C fun i j=>.int (g i j)):=by
 intro pins s σ H x y v u Q I rx ry h
 obtain ⟨i,j,rfl,rfl,hc,q⟩:=h
 obtain ⟨t,rfl⟩:=rx
 obtain ⟨t',rfl⟩:=ry
 exact rule i j t t' s _ _ hc ⟨.int (g i j),H,I.tok _,⟨_,rfl⟩,q⟩
theorem Um {f:Value->Value->Sem Value} {g:Int->Int->Int}
   (rule:∀ (i j:Int) (t u:Tok) (s:Shared) (Q:Value->Shared->Prop) (E:Value->Shared->Prop),Q (.int (g i j) s.toks) { s with toks:=s.toks+1 }->wpAny (model X.prog X.w) X.A (f (.int i t) (.int j u)) Q E s) :
   EI X f (Th fun i j=>.int (g i j)):=by
 intro pins s σ H x y v u Q I rx ry h
 obtain ⟨i,j,rfl,rfl,q⟩:=h
 obtain ⟨t,rfl⟩:=rx
 obtain ⟨t',rfl⟩:=ry
 exact rule i j t t' s _ _ ⟨.int (g i j),H,I.tok _,⟨_,rfl⟩,q⟩
theorem Uo {f:Value->Value->Sem Value} {g:Int->Int->Bool}
   (rule:∀ (i j:Int) (t u:Tok) (s:Shared) (Q:Value->Shared->Prop) (E:Value->Shared->Prop),Q (.bool (g i j)) s->wpAny (model X.prog X.w) X.A (f (.int i t) (.int j u)) Q E s) :
   EI X f (Th fun i j=>.bl (g i j)):=by
 intro pins s σ H x y v u Q I rx ry h
 obtain ⟨i,j,rfl,rfl,q⟩:=h
 obtain ⟨t,rfl⟩:=rx
 obtain ⟨t',rfl⟩:=ry
 exact rule i j t t' s _ _ ⟨.bl (g i j),H,I,rfl,q⟩
def Yo (i j:Int):Prop:=0<=j/\j<=1000000/\i.natAbs < 2 ^ 64
def Up (i j:Int):Prop:=(-(2 ^ 64) < i/\i < 2 ^ 64)\/(-(2 ^ 64) < j/\j < 2 ^ 64)
theorem Up.ok {i j:Int} (h:Up i j):IntMulOk i j:=by
 rcases h with ⟨h1,h2⟩ | ⟨h1,h2⟩
 . exact .of_left (intBits_le_64 h1 h2)
 . exact .of_right (intBits_le_64 h1 h2)
theorem vg:EI X (binaryOp .Add) (Th fun i j=>.int (i+j)):=Um fun _ _ _ _ _ _ _ q=>add_int q
theorem zc:EI X (binaryOp .Sub) (Th fun i j=>.int (i - j)):=Um fun _ _ _ _ _ _ _ q=>sub_int q
theorem Lr:EI X (binaryOp .Mult) (rI Up fun i j=>.int (i * j)):=Zy fun _ _ _ _ _ _ _ hc q=>mul_int q hc.ok
theorem O6:EI X (binaryOp .LShift) (rI Yo fun i j=>.int (i * 2 ^ j.toNat)):=Zy fun _ _ _ _ _ _ _ hc q=>lshift_int_small hc.1 hc.2.1 hc.2.2 q
theorem VX:EI X (binaryOp .BitOr) (Th fun i j=>.int (Builtin.bitOr i j)):=Um fun _ _ _ _ _ _ _ q=>or_int q
theorem unI {f:Value->Sem Value} {g:Int->Int}
   (rule:∀ (i:Int) (t:Tok) (s:Shared) (Q:Value->Shared->Prop) (E:Value->Shared->Prop),Q (.int (g i) s.toks) { s with toks:=s.toks+1 }->wpAny (model X.prog X.w) X.A (f (.int i t)) Q E s) :
   Ym X f (rU fun i=>.int (g i)):=by
 intro pins s σ H x v Q I rx h
 obtain ⟨i,rfl,q⟩:=h
 obtain ⟨t,rfl⟩:=rx
 exact rule i t s _ _ ⟨.int (g i),H,I.tok _,⟨_,rfl⟩,q⟩
theorem G8:Ym X (unaryOp .USub) (rU fun i=>.int (-i)):=unI fun _ _ _ _ _ q=>neg_int q
end
def VY:V->V->Bool
 | .non,.non=>true | .non,.int _=>true | .int _,.non=>true | .non,.bl _=>true | .bl _,.non=>true | .non,.str _=>true | .str _,.non=>true
 | .int _,.int _=>true | .bl _,.bl _=>true | .str _,.str _=>true | .Jc _,.Jc _=>true
 | .int _,.str _=>true | .str _,.int _=>true | .bl _,.str _=>true | .str _,.bl _=>true
 | _,_=>false
def rEq:R2:=fun x y H Q=>VY x y=true/\Q (.bl (decide (x=y))) H
def rNe:R2:=fun x y H Q=>VY x y=true/\Q (.bl (!decide (x=y))) H
theorem Mi {i j:Int}:decide (V.int i=V.int j)=(i==j):=by
 rw [Bool.eq_iff_iff]
 simp
theorem O7 {i j:Bool}:decide (V.bl i=V.bl j)=(i==j):=by
 rw [Bool.eq_iff_iff]
 simp
theorem Mj {i j:Str}:decide (V.str i=V.str j)=(i==j):=by
 rw [Bool.eq_iff_iff]
 simp
theorem Ml {i j:Array UInt8}:decide (V.Jc i=V.Jc j)=(i.toList==j.toList):=by
 rw [Bool.eq_iff_iff]
 cases i
 cases j
 simp
section
variable {X:Cx} {a b c:Expr} {ta tb tc:TE} {pos:Pos}
theorem cQ {pins:List (Addr×Obj)} {σ:St} {H:Hp} {s:Shared} {Q:VK} {k k':Bool} (I:Inv X pins σ H s) (q:Q (.bl k) H) (e:k=k'):EP X pins σ Q (.bool k') s:=by
 subst e
 exact ⟨.bl k,H,I,rfl,q⟩
theorem Jl:EI X (compareOp .Eq) rEq:=by
 intro pins s σ H x y v u Q I rx ry h
 obtain ⟨hs,q⟩:=h
 cases x with
 | non=>
   cases rx
   cases y with
   | non=>cases ry;exact PySem.EqNone.eq_none_none (cQ I q (by simp))
   | bl j=>cases ry;exact PySem.EqNone.eq_none_bool (cQ I q (by simp))
   | int j=>obtain ⟨t',rfl⟩:=ry;exact PySem.EqNone.eq_none_int (cQ I q (by simp))
   | str j=>obtain ⟨t',rfl⟩:=ry;exact PySem.EqNone.eq_none_str (cQ I q (by simp))
   | _=>exact absurd (show false=true from hs) Bool.false_ne_true
 | bl i=>
   cases rx
   cases y with
   | non=>cases ry;exact PySem.EqNone.eq_bool_none (cQ I q (by simp))
   | bl j=>cases ry;exact eq_bool (cQ I q O7)
   | str j=>obtain ⟨t',rfl⟩:=ry;exact PySem.EqMixed.eq_bool_str (cQ I q (by simp))
   | _=>exact absurd (show false=true from hs) Bool.false_ne_true
 | int i=>
   obtain ⟨t,rfl⟩:=rx
   cases y with
   | non=>cases ry;exact PySem.EqNone.eq_int_none (cQ I q (by simp))
   | int j=>obtain ⟨t',rfl⟩:=ry;exact eq_int (cQ I q Mi)
   | str j=>obtain ⟨t',rfl⟩:=ry;exact PySem.EqMixed.eq_int_str (cQ I q (by simp))
   | _=>exact absurd (show false=true from hs) Bool.false_ne_true
 | str i=>
   obtain ⟨t,rfl⟩:=rx
   cases y with
   | non=>cases ry;exact PySem.EqNone.eq_str_none (cQ I q (by simp))
   | bl j=>cases ry;exact PySem.EqMixed.eq_str_bool (cQ I q (by simp))
   | int j=>obtain ⟨t',rfl⟩:=ry;exact PySem.EqMixed.eq_str_int (cQ I q (by simp))
   | str j=>obtain ⟨t',rfl⟩:=ry;exact eq_str (cQ I q Mj)
   | _=>exact absurd (show false=true from hs) Bool.false_ne_true
 | Jc i=>
   obtain ⟨t,rfl⟩:=rx
   cases y with
   | Jc j=>obtain ⟨t',rfl⟩:=ry;exact PySem.W.eq_bytes (cQ I q Ml)
   | _=>exact absurd (show false=true from hs) Bool.false_ne_true
 | _=>cases y<;>exact absurd (show false=true from hs) Bool.false_ne_true
theorem Jm:EI X (compareOp .NotEq) rNe:=by
 intro pins s σ H x y v u Q I rx ry h
 obtain ⟨hs,q⟩:=h
 cases x with
 | non=>
   cases rx
   cases y with
   | non=>cases ry;exact PySem.EqNone.ne_none_none (cQ I q (by simp))
   | bl j=>cases ry;exact PySem.EqNone.ne_none_bool (cQ I q (by simp))
   | int j=>obtain ⟨t',rfl⟩:=ry;exact PySem.EqNone.ne_none_int (cQ I q (by simp))
   | str j=>obtain ⟨t',rfl⟩:=ry;exact PySem.EqNone.ne_none_str (cQ I q (by simp))
   | _=>exact absurd (show false=true from hs) Bool.false_ne_true
 | bl i=>
   cases rx
   cases y with
   | non=>cases ry;exact PySem.EqNone.ne_bool_none (cQ I q (by simp))
   | bl j=>cases ry;exact ne_bool (cQ I q (congrArg not O7))
   | str j=>obtain ⟨t',rfl⟩:=ry;exact PySem.EqMixed.ne_bool_str (cQ I q (by simp))
   | _=>exact absurd (show false=true from hs) Bool.false_ne_true
 | int i=>
   obtain ⟨t,rfl⟩:=rx
   cases y with
   | non=>cases ry;exact PySem.EqNone.ne_int_none (cQ I q (by simp))
   | int j=>obtain ⟨t',rfl⟩:=ry;exact ne_int (cQ I q (congrArg not Mi))
   | str j=>obtain ⟨t',rfl⟩:=ry;exact PySem.EqMixed.ne_int_str (cQ I q (by simp))
   | _=>exact absurd (show false=true from hs) Bool.false_ne_true
 | str i=>
   obtain ⟨t,rfl⟩:=rx
   cases y with
   | non=>cases ry;exact PySem.EqNone.ne_str_none (cQ I q (by simp))
   | bl j=>cases ry;exact PySem.EqMixed.ne_str_bool (cQ I q (by simp))
   | int j=>obtain ⟨t',rfl⟩:=ry;exact PySem.EqMixed.ne_str_int (cQ I q (by simp))
   | str j=>obtain ⟨t',rfl⟩:=ry;exact ne_str (cQ I q (congrArg not Mj))
   | _=>exact absurd (show false=true from hs) Bool.false_ne_true
 | Jc i=>
   obtain ⟨t,rfl⟩:=rx
   cases y with
   | Jc j=>obtain ⟨t',rfl⟩:=ry;exact PySem.W.ne_bytes (cQ I q (congrArg not Ml))
   | _=>exact absurd (show false=true from hs) Bool.false_ne_true
 | _=>cases y<;>exact absurd (show false=true from hs) Bool.false_ne_true
theorem Ti:EI X (compareOp .Lt) (Th fun i j=>.bl (decide (i < j))):=Uo fun _ _ _ _ _ _ _ q=>lt_int q
theorem Mm:EI X (compareOp .LtE) (Th fun i j=>.bl (decide (i<=j))):=Uo fun _ _ _ _ _ _ _ q=>le_int q
theorem Tj:EI X (compareOp .Gt) (Th fun i j=>.bl (decide (j < i))):=Uo fun _ _ _ _ _ _ _ q=>gt_int q
theorem g9 (b:Expr) {op:CmpOp} (h:op ≠ .In:=by decide) (h2:op ≠ .NotIn:=by decide):behindInMarks op b=false:=by
 have e1:(op==CmpOp.In)=false:=by cases op<;>first | rfl | exact absurd rfl h
 have e2:(op==CmpOp.NotIn)=false:=by cases op<;>first | rfl | exact absurd rfl h2
 cases b<;>simp [behindInMarks,e1,e2]
theorem rT {op:CmpOp} {r:R2} (ho:EI X (compareOp op) r) (ha:PE X a ta) (hb:PE X b tb) (hm:behindInMarks op b=false):PE X (.Compare a [op] [b] pos) (Xy r ta tb):=by
 intro pins s σ H Q I h
 exact wpAny_Compare1 (Ul ha hb I h fun v u s2 x y H2 I2 rx ry q=>ho pins s2 σ H2 x y v u Q I2 rx ry q) hm
def VZ (t:TE):TT:=fun σ H Q=>t σ H fun x H'=>∃ k,x=.bl k/\Q k H'
theorem i8 {op:CmpOp} {r:R2} (ho:EI X (compareOp op) r) (ha:PE X a ta) (hb:PE X b tb) (hm:behindInMarks op b=false):PT X (.Compare a [op] [b] pos) (VZ (Xy r ta tb)):=by
 intro pins s σ H Q I h
 refine wpAny_isTrue_Compare1 (d7 (ha pins s σ H _ I h) fun v s1 ⟨x,H1,I1,r1,q1⟩=>d7 (hb pins s1 σ H1 _ I1 q1) fun u s2 ⟨y,H2,I2,r2,q2⟩=>
   d7 (ho pins s2 σ H2 x y v u _ I2 r1 r2 q2) fun c s3 ⟨z,H3,I3,r3,k,e,q3⟩=>?_) hm
 subst e
 cases r3
 exact wpAny_truthy_bool ⟨H3,I3,q3⟩
def Uq (r r':R2) (ta tb tc:TE):TE:=fun σ H Q=>ta σ H fun x H1=>tb σ H1 fun y H2=>r x y H2 fun z H3=>∃ k,z=.bl k /\
 (if k=true then tc σ H3 fun w' H4=>r' y w' H4 Q else Q (.bl false) H3)
theorem O8 {op op':CmpOp} {r r':R2} (ho:EI X (compareOp op) r) (ho':EI X (compareOp op') r') (ha:PE X a ta) (hb:PE X b tb) (hc:PE X c tc)
   (hm:lastMarks [op,op'] [b,c]=false:=by with_unfolding_all rfl):PE X (.Compare a [op,op'] [b,c] pos) (Uq r r' ta tb tc):=by
 intro pins s σ H Q I h
 refine Compare_chain (d7 (ha pins s σ H _ I h) fun v s1 ⟨x,H1,I1,r1,q1⟩=>chain_link (d7 (hb pins s1 σ H1 _ I1 q1) fun u s2 ⟨y,H2,I2,r2,q2⟩=>
   d7 (ho pins s2 σ H2 x y v u _ I2 r1 r2 q2) fun d s3 ⟨z,H3,I3,r3,k,e,q3⟩=>?_)) hm
 subst e
 cases r3
 refine wpAny_truthy_bool ?_
 cases k with
 | false=>exact ite_ff ⟨.bl false,H3,I3,rfl,q3⟩
 | true=>exact ite_tt (chain_last (d7 (hc pins s3 σ H3 _ I3 q3) fun w' s4 ⟨z',H4,I4,r4,q4⟩=>ho' pins s4 σ H4 y z' u w' Q I4 r2 r4 q4))
def Wa (K:PySem.W.Frag) (x:V) (H:Hp) (k:Bool):Prop:=
 match x with
 | .non=>k=false
 | .bl b=>k=b
 | .int i=>k=(i != 0)
 | .str y=>y.length<=sizeLine/\k=((y.length:Int) != 0)
 | .Jc y=>y.size<=sizeLine/\k=((y.size:Int) != 0)
 | .ref p=>(∃ xs,dN K H p xs/\k=!xs.isEmpty)\/(∃ xs,rS K H p xs/\k=!xs.isEmpty)\/∃ kvs,H p=some (.dK kvs)/\k=!kvs.isEmpty
 | _=>False
theorem Ls {κ:Type} {kvs:List (κ×V)} {vs:List (κ×Value)} (r:KV kvs vs):(!vs.isEmpty)=!kvs.isEmpty:=by
 cases r<;>rfl
theorem DH {xs:List V} {its:List Value} (r:Vals xs its):(!its.toArray.isEmpty)=!xs.isEmpty:=by
 cases r<;>simp
theorem Bu:(sizeLine:Nat) < 2 ^ 63:=by rw [sizeLine_eq];decide
theorem Ur:Yn X (fun x H Q=>∃ k,Wa X.K x H k/\Q k H):=by
 intro pins s σ H x v Q I rx h
 obtain ⟨k,e,q⟩:=h
 have hl:=Bu
 have hs:sizeLine=16777216:=sizeLine_eq
 cases x with
 | non=>
   cases rx
   have e':k=false:=e
   subst e'
   exact truthy_none ⟨H,I,q⟩
 | bl b=>
   cases rx
   have e':k=b:=e
   subst e'
   exact wpAny_truthy_bool ⟨H,I,q⟩
 | int i=>
   obtain ⟨t,rfl⟩:=rx
   have e':k=(i != 0):=e
   subst e'
   exact PySem.P.truthy_int ⟨H,I,q⟩
 | str y=>
   obtain ⟨t,rfl⟩:=rx
   obtain ⟨hy,e'⟩:y.length<=sizeLine/\k=((y.length:Int) != 0):=e
   subst e'
   exact PySem.P.truthy_str (by omega) ⟨H,I.tok _,q⟩
 | Jc y=>
   obtain ⟨t,rfl⟩:=rx
   obtain ⟨hy,e'⟩:y.size<=sizeLine/\k=((y.size:Int) != 0):=e
   subst e'
   exact PySem.W.truthy_bytes (by omega) ⟨H,I.tok _,q⟩
 | ref p=>
   cases rx
   have e':(∃ xs,dN X.K H p xs/\k=!xs.isEmpty)\/(∃ xs,rS X.K H p xs/\k=!xs.isEmpty)\/∃ kvs,H p=some (.dK kvs)/\k=!kvs.isEmpty:=e
   rcases e' with ⟨xs,hx,e'⟩ | ⟨xs,hx,e'⟩ | ⟨kvs,hx,e'⟩
   . subst e'
     obtain ⟨its,r,pl,hz⟩:=I.list hx
     have hlen:=r.length
     exact wpAny_truthy_list pl.isList (by simp only [List.size_toArray];omega) ⟨H,I.tok _,by rw [DH r];exact q⟩
   . subst e'
     obtain ⟨its,r,pl,hz⟩:=I.tuple hx
     have hlen:=r.length
     exact truthy_tuple pl (by simp only [List.size_toArray];omega) ⟨H,I.tok _,by rw [DH r];exact q⟩
   . subst e'
     obtain ⟨hz,hS,vs,r,m⟩:kvs.length<=sizeLine/\(p==sysModules)=false/\∃ vs,KV kvs vs/\s.heap.DictOf (eU X.prog X.w) p vs:=I.hok p _ hx
     have hlen:kvs.length=vs.length:=Paired.length r
     exact wpAny_truthy_dict hS m (by omega) ⟨H,I.tok _,by rw [Ls r];exact q⟩
 | _=>exact (show False from e).elim
theorem O9 (ha:PE X a ta) (he:∀ whole,isTrue a X.env whole=(do let v <- whole;standAt a.pos;holding [v] (truthy v))) :
   PT X a (fun σ H Q=>ta σ H fun x H'=>∃ k,Wa X.K x H' k/\Q k H'):=by
 intro pins s σ H Q I h
 exact isTrue_plain (d7 (ha pins s σ H _ I h) fun v s1 ⟨x,H1,I1,r1,q1⟩=>Ur pins s1 σ H1 x v Q I1 r1 q1) (he _)
theorem vals1 {x:V} {us:List Value} (r:Vals [x] us):∃ u,us=[u]/\RelV x u:=by
 cases r with
 | cons r1 r2=>cases r2;exact ⟨_,rfl,r1⟩
end
end L2
namespace L2
open PySem PySem.Spec PyProof.Rows
structure Lu (h:Heap) (x dx C:Addr) (mA:Str->Option Value):Prop where
 obj:h.get? x=some (PySem.W.instObj C dx)
 ns:h.Ns1 dx mA
 ne:dx ≠ x
theorem Nf {h:Heap} {dx:Addr} {mA:Str->Option Value} (n:h.Ns1 dx mA):∃ od,h.get? dx=some od/\∀ name,PySem.W.lookIn name od=some (mA name):=by
 obtain ⟨o,es,ep,ho,hd,hk,_,hm⟩:=n
 refine ⟨o,ho,fun name=>?_⟩
 have e:=hm name
 unfold nsFind findBy at e
 rw [<- Array.find?_toList] at e
 unfold PySem.W.lookIn
 rw [hd]
 dsimp only
 split
 . rename_i y q
   rw [q] at e
   exact congrArg some e
 . rename_i q
   rw [q] at e
   have a:es.toList.any (·.refKey)=false:=by
     rw [List.any_eq_false]
     intro y hy
     obtain ⟨z,t,hkey⟩:=hk y (Array.mem_toList_iff.mp hy)
     simp [DictEntry.refKey,hkey]
   have a':¬ es.toList.any (·.refKey)=true:=by rw [a];exact Bool.false_ne_true
   rw [if_neg a']
   exact congrArg some e
theorem Lu.look {h:Heap} {x dx C:Addr} {mA:Str->Option Value} (I:Lu h x dx C mA):∃ od,PySem.W.InstAt h x (PySem.W.instObj C dx) C (some od)/\∀ name,PySem.W.lookIn name od=some (mA name):=
 let ⟨od,ho,hl⟩:=Nf I.ns
 ⟨od,⟨I.obj,rfl,rfl,ho⟩,hl⟩
section
variable {prog:Program} {w:World} {A:Around} {E:Value->Shared->Prop} {s:Shared} {K:PySem.W.Frag} {x dx C f:Addr} {mA:Str->Option Value} {name:Str} {v:Value}
theorem get_map {expr:Bool} {Q:Value->Shared->Prop} (X:K.In s.heap) (I:Lu s.heap x dx C mA) (hg:PySem.W.plainGet K C name=true) (hh:PySem.W.hasDictIn K C=true)
   (ha:PySem.W.findIn K (.ref C) name=some none) (hv:mA name=some v) (hv':PySem.W.handedIn v=true) (h:Q v { s with toks:=s.toks+1 }) :
   wpAny (model prog w) A (getAttr (.ref x) name expr) Q E s:=by
 obtain ⟨od,J,hl⟩:=I.look
 exact PySem.W.get_value X J (PySem.W.plainGet_of hg).1 (PySem.W.findObj_own hh ha rfl (by rw [hl,hv])) hv' h
theorem OA {pl:Sem Bool} {Q:Value×List Value->Shared->Prop} (X:K.In s.heap) (I:Lu s.heap x dx C mA) (hg:PySem.W.plainGet K C name=true)
   (hf:PySem.W.findIn K (.ref C) name=some (some (.ref f))) (ht:PySem.W.isFn K (.ref f)=true) (hv:mA name=none) (h:Q (.ref f,[.ref x]) s) :
   wpAny (model prog w) A (getMethod (.ref x) name pl) Q E s:=by
 obtain ⟨od,J,hl⟩:=I.look
 exact PySem.W.method_fn X J (PySem.W.plainGet_of hg).1 (PySem.W.plainGet_of hg).2 hf (beq_iff_eq.mp ht) (by show (PySem.W.lookIn name od).map (·.isSome)=some false;rw [hl,hv];rfl) h
theorem Rc {ns:List Str} {Q:Unit->Shared->Prop} (X:K.In s.heap) (I:Lu s.heap x dx C mA)
   (hs:PySem.W.findIn K (.ref C) "__setattr__"=some (some (.builtin "object.__setattr__"))) (hp:PySem.W.plainOver K C=true) (ht:PySem.W.takerIn K C name=some none) (hh:PySem.W.hasDictIn K C=true)
   (hw:PySem.Within mA ns) (hsz:ns.length<=sizeLine)
   (h:∀ h',Lu h' x dx C (fun y=>if y=name then some v else mA y)->Heap.SameBut dx s.heap h'->Q () { s with heap:=h',toks:=s.toks+2 }) :
   wpAny (model prog w) A (setAttr (.ref x) name v) Q E s:=by
 obtain ⟨od,J,hl⟩:=I.look
 refine PySem.W.set_plain X J hs (PySem.W.osa_open (s:={ s with toks:=s.toks+1 }) (r:=none) X J hp ht fun b=>?_)
 obtain ⟨cd,hc,hd'⟩:=PySem.W.any_some hh
 have hx:s.heap.get? x=some ⟨.ref C,some dx,.plain,#[]⟩:=I.obj
 refine wpAny_bind (wpAny_pure (wpAny_bind (wpAny_bind (wpAny_loadPart hx (wpAny_bind (PySem.W.Looks.here (s:={ s with toks:=s.toks+1 }) (PySem.W.looks_clsIn X hc) ?_))))))
 rw [hd']
 refine wpAny_pure (a:=some dx) (wpAny_bind (wpAny_pure (wpAny_bind ?_)))
 refine wpAny_nsSet1 (s:={ s with toks:=s.toks+1 }) I.ns fun h' hn2 hs2=>?_
 obtain ⟨oD,esD,epD,hoD,hdD,hcD⟩:=hn2.count (PySem.Within.cons name v hw)
 refine wpAny_bind (wpAny_lookBehind hoD (by rw [hdD];exact pastItsLine_dict (Nat.le_trans hcD (by rw [List.length_cons];omega))) ?_)
 exact wpAny_pure (h _ ⟨(hs2.2 _ (Ne.symm I.ne)).trans I.obj,hn2,I.ne⟩ hs2)
theorem OB {R:Result->Shared->Prop} {vs:List Value} {kw:List (Str×Value)} (X:K.In s.heap) (hm:PySem.W.makesIn K C=true)
   (hi:PySem.W.findIn K (.ref C) "__init__"=some (some (.ref f))) (hf:PySem.W.typeIn K (.ref f)=some (.type "function"))
   (h:codeAny (model prog w) (A.under (.builtin "type.__call__" ⟨.ref C::vs,kw⟩)) (.call (.ref f) ⟨.ref (s.heap.objs.size+1)::vs,kw⟩) (PySem.W.InitBack (s.heap.objs.size+1) R)
     { s with heap:=(s.heap.push PySem.W.emptyDict).push (PySem.W.instObj C s.heap.objs.size) }) :
   codeAny (model prog w) A (.call (.ref C) ⟨vs,kw⟩) R s:=by
 obtain ⟨hh,g,d,t,os⟩:=s
 exact PySem.W.make_core (PySem.W.makes_of X hm) (PySem.W.looks_findIn X hi) (fun self=>PySem.W.bind_fn X self hf) (.inl rfl) h
end
def f6 (f:Str) (v:V):List (Str×V)->List (Str×V)
 | []=>[(f,v)]
 | (g,x)::r=>if g=f then (g,v)::r else (g,x)::f6 f v r
theorem vh (f g:Str) (v:V):∀ fs:List (Str×V),(f6 f v fs).lookup g=if g=f then some v else fs.lookup g
 | []=>by
   show List.lookup g [(f,v)]=_
   by_cases h:g=f
   . have hb:(g==f)=true:=beq_iff_eq.mpr h
     simp only [List.lookup,hb,if_pos h]
   . have hb:(g==f)=false:=beq_eq_false_iff_ne.mpr h
     simp only [List.lookup,hb,if_neg h]
 | (k,x)::r=>by
   have ih:=vh f g v r
   rw [show f6 f v ((k,x)::r)=(if k=f then (k,v)::r else (k,x)::f6 f v r) from rfl]
   by_cases hk:k=f
   . rw [if_pos hk]
     by_cases h:g=k
     . have hb:(g==k)=true:=beq_iff_eq.mpr h
       simp only [List.lookup,hb,if_pos (h.trans hk)]
     . have hb:(g==k)=false:=beq_eq_false_iff_ne.mpr h
       simp only [List.lookup,hb,if_neg (fun e:g=f=>h (e.trans hk.symm))]
   . rw [if_neg hk]
     by_cases h:g=k
     . have hb:(g==k)=true:=beq_iff_eq.mpr h
       simp only [List.lookup,hb,if_neg (fun e:g=f=>hk (h.symm.trans e))]
     . have hb:(g==k)=false:=beq_eq_false_iff_ne.mpr h
       simp only [List.lookup,hb]
       exact ih
theorem Bv (f:Str) (v:V):∀ fs:List (Str×V),f ∈ (f6 f v fs).map (·.1)/\∀ g,g ∈ fs.map (·.1)->g ∈ (f6 f v fs).map (·.1)
 | []=>⟨by simp [f6],fun g h=>by simp at h⟩
 | (k,x)::r=>by
   obtain ⟨i1,i2⟩:=Bv f v r
   rw [show f6 f v ((k,x)::r)=(if k=f then (k,v)::r else (k,x)::f6 f v r) from rfl]
   by_cases hk:k=f
   . rw [if_pos hk]
     subst hk
     exact ⟨by simp,fun g h=>by simpa using h⟩
   . rw [if_neg hk]
     refine ⟨?_,fun g h=>?_⟩
     . rw [List.map_cons]
       exact List.mem_cons_of_mem _ i1
     . rw [List.map_cons] at h ⊢
       rcases List.mem_cons.mp h with e | e
       . exact List.mem_cons.mpr (.inl e)
       . exact List.mem_cons_of_mem _ (i2 g e)
theorem Cn (f:Str) (v:V):∀ fs:List (Str×V),(f6 f v fs).length<=fs.length+1
 | []=>by simp [f6]
 | (k,x)::r=>by
   have ih:=Cn f v r
   rw [show f6 f v ((k,x)::r)=(if k=f then (k,v)::r else (k,x)::f6 f v r) from rfl]
   by_cases hk:k=f
   . rw [if_pos hk,List.length_cons,List.length_cons];omega
   . rw [if_neg hk,List.length_cons,List.length_cons];omega
theorem pZ.some_of {v:V} {o:Option Value} (r:pZ (some v) o):∃ u,o=some u/\RelV v u:=by
 cases o with
 | none=>exact (show False from r).elim
 | some u=>exact ⟨u,rfl,r⟩
theorem pZ.none_of {o:Option Value} (r:pZ none o):o=none:=by
 cases o with
 | none=>rfl
 | some u=>exact (show False from r).elim
theorem FO {v:V} {u:Value} (r:RelV v u):PySem.W.handedIn u=true:=by
 cases v with
 | non=>cases (show u=Value.none from r);rfl
 | bl b=>cases (show u=Value.bool b from r);rfl
 | int i=>obtain ⟨t,e⟩:=(show ∃ t,u=Value.int i t from r);cases e;rfl
 | str x=>obtain ⟨t,e⟩:=(show ∃ t,u=Value.str x t from r);cases e;rfl
 | Jc b=>obtain ⟨t,e⟩:=(show ∃ t,u=Value.bytes b t from r);cases e;rfl
 | V3 b=>obtain ⟨t,e⟩:=(show ∃ t,u=Value.float b t from r);cases e;rfl
 | ref a=>cases (show u=Value.ref a from r);rfl
 | ty n=>cases (show u=Value.type n from r);rfl
section
variable {P:Program} {w:World} {H H':Hp} {h h':Heap} {a C dx:Addr} {fs fs':List (Str×V)}
theorem G9 (hok:tH P w H h) (e:H a=some (.ins C dx fs)):∃ mA,Lu h a dx C mA/\(∀ f,pZ (fs.lookup f) (mA f))/\PySem.Within mA (fs.map (·.1))/\fs.length<=1000/\H dx=some (.own a):=by
 obtain ⟨d,z,ne,ob,mA,n,r,q⟩:=(show cS P w H h a (.ins C dx fs) from hok a _ e)
 exact ⟨mA,⟨ob,n,ne⟩,r,q,z,d⟩
end
structure GD (K:PySem.W.Frag) (C:Addr):Prop where
 pg:PySem.W.plainGet K C Str.empty=true
 hd:PySem.W.hasDictIn K C=true
 po:PySem.W.plainOver K C=true
 sa:PySem.W.findIn K (.ref C) "__setattr__"=some (some (.builtin "object.__setattr__"))
theorem GD.get {K:PySem.W.Frag} {C:Addr} (c:GD K C) (f:Str):PySem.W.plainGet K C f=true:=c.pg
def bW (K:PySem.W.Frag) (C:Addr) (f:Str):Prop:=PySem.W.findIn K (.ref C) f=some none
theorem bW.Wb {K:PySem.W.Frag} {C:Addr} {f:Str} (n:bW K C f):PySem.W.takerIn K C f=some none:=by
 unfold PySem.W.takerIn
 rw [show PySem.W.findIn K (.ref C) f=some none from n]
 rfl
structure Meth (K:PySem.W.Frag) (C:Addr) (m:Str) (f:Addr):Prop where
 at_:PySem.W.findIn K (.ref C) m=some (some (.ref f))
 fn:PySem.W.isFn K (.ref f)=true
 kp:PySem.W.keepIn K (.ref f)=true
section
variable {X:Cx} {pins:List (Addr×Obj)} {σ:St} {H:Hp} {s:Shared} {a C dx:Addr} {fs:List (Str×V)} {f:Str} {v:V} {A:Around} {E:Value->Shared->Prop}
theorem DI {b:Bool} {Q:Value->Shared->Prop} (I:Inv X pins σ H s) (e:H a=some (.ins C dx fs)) (c:GD X.K C) (n:bW X.K C f) (l:fs.lookup f=some v)
   (h:∀ u s',Inv X pins σ H s'->RelV v u->Q u s'):wpAny (model X.prog X.w) A (getAttr (.ref a) f b) Q E s:=by
 obtain ⟨mA,O,r,_,_,_⟩:=G9 I.hok e
 obtain ⟨u,hu,ru⟩:=pZ.some_of (v:=v) (o:=mA f) (by rw [<- l];exact r f)
 exact get_map I.yY O (c.get f) c.hd n hu (FO ru) (h u _ (I.tok _) ru)
theorem DJ {m:Str} {g:Addr} {pl:Sem Bool} {Q:Value×List Value->Shared->Prop} (I:Inv X pins σ H s) (e:H a=some (.ins C dx fs)) (c:GD X.K C) (k:Meth X.K C m g) (l:fs.lookup m=none)
   (h:Q (.ref g,[.ref a]) s):wpAny (model X.prog X.w) A (getMethod (.ref a) m pl) Q E s:=by
 obtain ⟨mA,O,r,_,_,_⟩:=G9 I.hok e
 have hn:mA m=none:=pZ.none_of (by rw [<- l];exact r m)
 exact OA I.yY O (c.get m) k.at_ k.fn hn h
theorem DK {y:V} {u:Value} {Q:Unit->Shared->Prop} (I:Inv X pins σ H s) (e:H a=some (.ins C dx fs)) (c:GD X.K C) (n:bW X.K C f) (hl:fs.length < 1000) (ry:RelV y u)
   (h:∀ s',Inv X pins σ (upd H a (.ins C dx (f6 f y fs))) s'->Q () s'):wpAny (model X.prog X.w) A (setAttr (.ref a) f u) Q E s:=by
 obtain ⟨mA,O,r,wi,_,ho⟩:=G9 I.hok e
 have hz:(fs.map (·.1)).length<=sizeLine:=by rw [List.length_map,sizeLine_eq];omega
 refine Rc I.yY O c.sa c.po n.Wb c.hd wi hz fun h' O' sb=>h _ ?_
 have hd:∃ o,h'.get? dx=some o:=let ⟨o,_,_,e',_⟩:=O'.ns;⟨o,e'⟩
 refine I.write (x:=a) (e:=dx) (by rw [e];exact True.intro) (.inr ho) (fun b q hb z=>(sb.2 b hb).trans z) hd ?_
 refine ⟨by rw [aq O.ne];exact ho,?_,O.ne,O'.obj,_,O'.ns,fun g=>?_,fun g hg=>?_⟩
 . have:=Cn f y fs;omega
 . show pZ ((f6 f y fs).lookup g) (if g=f then some u else mA g)
   rw [vh]
   by_cases q:g=f
   . rw [if_pos q,if_pos q];exact ry
   . rw [if_neg q,if_neg q];exact r g
 . by_cases q:g=f
   . rw [q];exact (Bv f y fs).1
   . refine (Bv f y fs).2 g (wi g fun z=>hg ?_)
     show (if g=f then some u else mA g)=none
     rw [if_neg q];exact z
theorem Inv.made (I:Inv X pins σ H s):Inv X pins σ (upd (upd H s.heap.objs.size (.own (s.heap.objs.size+1))) (s.heap.objs.size+1) (.ins C s.heap.objs.size []))
   { s with heap:=(s.heap.push PySem.W.emptyDict).push (PySem.W.instObj C s.heap.objs.size) }:=by
 have e1:(s.heap.push PySem.W.emptyDict).get? s.heap.objs.size=some PySem.W.emptyDict:=Heap.get?_push_size s.heap rfl
 have e2:((s.heap.push PySem.W.emptyDict).push (PySem.W.instObj C s.heap.objs.size)).get? (s.heap.objs.size+1)=some (PySem.W.instObj C s.heap.objs.size):=by
   have:=Heap.get?_push_size (s.heap.push PySem.W.emptyDict) (o:=PySem.W.instObj C s.heap.objs.size) rfl
   rwa [Heap.size_push] at this
 have e3:(s.heap.push PySem.W.emptyDict).Ns s.heap.objs.size (fun _=>none):=⟨PySem.W.emptyDict,#[],_,e1,rfl,(fun e he=>absurd he (by simp)),fun _=>rfl⟩
 have I1:=I.laid (a:=s.heap.objs.size) (o:=.own (s.heap.objs.size+1)) (h':=s.heap.push PySem.W.emptyDict) (t':=s.toks) (fun b u q=>Heap.get?_push_of_some _ q) (Nat.le_refl _) ⟨_,e1⟩
 refine I1.laid (a:=s.heap.objs.size+1) (o:=.ins C s.heap.objs.size []) (t':=s.toks) (fun b u q=>Heap.get?_push_of_some _ q) (Nat.le_of_eq (Heap.size_push _ _)) ?_
 have ne:s.heap.objs.size ≠ s.heap.objs.size+1:=Nat.ne_of_lt (Nat.lt_succ_self _)
 refine ⟨by rw [aq ne,ai],Nat.zero_le _,ne,e2,fun _=>none,(Heap.Ns1.of_empty e3).at fun o q=>Heap.get?_push_of_some _ q,fun _=>True.intro,fun y hy=>absurd rfl hy⟩
theorem Mn {prog:Program} {w:World} {env:Env} {e:Expr} {f:Str} {pos:Pos} {s:Shared} {Q:Value->Shared->Prop} (hb:attributeBase e f env (eval e env)=eval e env)
   (h:wpAny (model prog w) A (eval e env) (fun o s₁=>wpAny (model prog w) A (getAttr o f true) Q E s₁) E s):wpAny (model prog w) A (eval (.Attribute e f pos) env) Q E s:=
 Attribute_any_ h (by rw [arm_eval_Attribute,hb])
end
def Wc (K:PySem.W.Frag) (ta:TE) (f:Str):TE:=fun σ H Q=>ta σ H fun x H1=>∃ a C dx fs v,x=.ref a/\H1 a=some (.ins C dx fs)/\GD K C/\bW K C f/\fs.lookup f=some v/\Q v H1
def Yp (K:PySem.W.Frag) (ta tv:TE) (f:Str):TS:=fun D σ H=>tv σ H fun y H1=>ta σ H1 fun x H2=>∃ a C dx fs,x=.ref a/\H2 a=some (.ins C dx fs)/\GD K C/\bW K C f/\fs.length < 1000 /\
 D.nx σ (upd H2 a (.ins C dx (f6 f y fs)))
def We (X:Cx) (op:Operator) (rd:V->V->Hp->VK->Prop):Prop:=
 ∀ (pins:List (Addr×Obj)) (s:Shared) (σ:St) (H:Hp) (x y:V) (u v:Value) (Q:VK),Inv X pins σ H s->RelV x u->RelV y v->rd x y H Q->wpAny (model X.prog X.w) X.A (inplaceOp op u v) (EP X pins σ Q) X.xe s
def Rf (K:PySem.W.Frag) (ta tv:TE) (rd:V->V->Hp->VK->Prop) (f:Str):TS:=fun D σ H=>ta σ H fun x H1=>∃ a C dx fs v,x=.ref a/\H1 a=some (.ins C dx fs)/\GD K C/\bW K C f/\fs.lookup f=some v /\
 tv σ H1 fun y H2=>rd v y H2 fun z H3=>∃ dx' fs',H3 a=some (.ins C dx' fs')/\fs'.length < 1000/\D.nx σ (upd H3 a (.ins C dx' (f6 f z fs')))
section
variable {X:Cx} {o e value:Expr} {f:Str} {pos pos' tpos:Pos} {ta tv:TE}
theorem aL (he:PE X e ta) (hb:attributeBase e f X.env (eval e X.env)=eval e X.env):PE X (.Attribute e f pos) (Wc X.K ta f):=by
 intro pins s σ H Q I h
 refine Mn hb (d7 (he pins s σ H _ I h) fun u s1 ⟨x,H1,I1,rx,a,C,dx,fs,v,ex,ea,c,n,l,q⟩=>?_)
 subst ex
 obtain rfl:u=Value.ref a:=rx
 exact DI I1 ea c n l fun u' s2 I2 ru=>⟨v,H1,I2,ru,q⟩
theorem fE (ha:PE X o ta) (hv:PE X value tv) (hs:swapsWith value (some (.Attribute o f pos')) pos.line X.env=pure false):PS X (.Assign [.Attribute o f pos'] value pos) (Yp X.K ta tv f):=by
 intro pins s σ H D I h
 refine plainObj_wpAny_Assign_Attribute (d7 (hv pins s σ H _ I h) fun u s1 ⟨y,H1,I1,ry,q⟩=>d7 (ha pins s1 σ H1 _ I1 q) fun ov s2 ⟨x,H2,I2,rx,a,C,dx,fs,ex,ea,c,n,l,q2⟩=>?_) hs
 subst ex
 obtain rfl:ov=Value.ref a:=rx
 exact DK I2 ea c n l ry fun s3 I3=>⟨σ,_,I3,q2⟩
theorem Ng {op:Operator} {rd:V->V->Hp->VK->Prop} (ha:PE X o ta) (hv:PE X value tv) (hop:We X op rd):PS X (.AugAssign (.Attribute o f tpos) op value pos) (Rf X.K ta tv rd f):=by
 intro pins s σ H D I h
 refine wpAny_AugAssign_AttributeAny (d7 (ha pins s σ H _ I h) fun ov s1 ⟨x,H1,I1,rx,a,C,dx,fs,v,ex,ea,c,n,l,q⟩=>?_)
 subst ex
 obtain rfl:ov=Value.ref a:=rx
 refine DI I1 ea c n l fun u s2 I2 ru=>d7 (hv pins s2 σ H1 _ I2 q) fun w3 s3 ⟨y,H2,I3,ry,q3⟩=>d7 (hop pins s3 σ H2 v y u w3 _ I3 ru ry q3) fun w4 s4 ⟨z,H3,I4,rz,dx',fs',ea',l',q4⟩=>?_
 exact DK I4 ea' c n l' rz fun s5 I5=>⟨σ,_,I5,q4⟩
def Yq:V->V->Hp->VK->Prop:=fun x y H Q=>∃ i j,x=.int i/\y=.int j/\Q (.int (i+j)) H
theorem Us:We X .Add Yq:=by
 rintro pins s σ H x y u v Q I rx ry ⟨i,j,rfl,rfl,q⟩
 obtain ⟨t,rfl⟩:=(show ∃ t,u=Value.int i t from rx)
 obtain ⟨t',rfl⟩:=(show ∃ t',v=Value.int j t' from ry)
 exact PyProof.Rows.iadd_int ⟨.int (i+j),H,I.tok _,⟨_,rfl⟩,q⟩
end
section
variable {X:Cx} {pins:List (Addr×Obj)} {σ:St} {H:Hp} {s:Shared} {A:Around} {E:Value->Shared->Prop} {Q:Value->Shared->Prop} {c:Value} {b:Bool}
end
end L2
namespace L2
open PySem PySem.Spec PyProof.Rows
structure dW (k:Nat) (A:Around):Prop where
 hd:A.handled=none
 dp:A.depth+3 * k+5 < recursionLimit
 un:A.units+16 * k+200 < cLine
theorem dW.mono {j k:Nat} {A:Around} (r:dW k A) (h:j<=k):dW j A:=⟨r.hd,by have:=r.dp;omega,by have:=r.un;omega⟩
theorem dW.deeper {k:Nat} {A:Around} (r:dW (k+1) A) (env:Env):dW k (A.deeper env):=
 ⟨r.hd,by have:=r.dp;show A.depth+1+3 * k+5 < _;omega,by have:=r.un;show A.units+3+16 * k+200 < _;omega⟩
theorem Lw {A:Around} {C:Addr} {us:List Value} {kw:List (Str×Value)}:(A.under (.builtin "type.__call__" ⟨.ref C::us,kw⟩)).depth=A.depth+1:=by
 first | rfl | simp [Around.under,Code.weight,Code.isCreation,Code.isGuard,Code.isCaller,Code.frames,Code.isFrame,guardIds]
theorem Lx {A:Around} {C:Addr} {us:List Value} {kw:List (Str×Value)}:(A.under (.builtin "type.__call__" ⟨.ref C::us,kw⟩)).units=A.units+1:=by
 first | rfl | simp [Around.under,Code.cUnits,Code.frames,Code.isFrame]
theorem dW.make {k:Nat} {A:Around} (r:dW (k+1) A) (C:Addr) (us:List Value) (kw:List (Str×Value)):dW k (A.under (.builtin "type.__call__" ⟨.ref C::us,kw⟩)):=
 ⟨r.hd,by have:=r.dp;rw [Lw];omega,by have:=r.un;rw [Lx];omega⟩
theorem dW.depth {k:Nat} {A:Around} (r:dW k A):A.depth < recursionLimit:=by have:=r.dp;omega
theorem dW.Ut {k:Nat} {A:Around} (r:dW k A):A.units < cLine:=by have:=r.un;omega
def OC:TA:=fun _ H Q=>Q [] H
def Mp (ta:TE) (tr:TA):TA:=fun σ H Q=>ta σ H fun x H1=>tr σ H1 fun xs H2=>Q (x::xs) H2
section
variable {X:Cx} {e:Expr} {es:List Expr} {te:TE} {t:TA} {pos:Pos}
theorem az:PA X [] OC:=fun _ _ _ _ H Q I h=>Calls.spliced_nil ⟨[],H,I,.nil,h⟩
theorem af (ha:PE X e te) (hr:PA X es t) (hs:starEach (e::es) X.env=(false,eval e X.env)::starEach es X.env:=by rfl):PA X (e::es) (Mp te t):=by
 intro pos pins s σ H Q I h
 rw [hs]
 show wpAny _ _ (spliced ((false,eval e X.env)::backTo pos (starEach es X.env))) _ _ s
 refine Calls.spliced_cons (d7 (ha pins s σ H _ I h) fun u s1 ⟨x,H1,I1,r1,q1⟩=>?_)
 exact d7 (hr pos pins s1 σ H1 _ I1 q1) fun us s2 ⟨xs,H2,I2,r2,q2⟩=>⟨x::xs,H2,I2,.cons r1 r2,q2⟩
def Yr (t:TA):TE:=fun σ H Q=>t σ H fun xs H1=>xs.length<=sizeLine/\∀ p,H1 p=none->Q (.ref p) (upd H1 p (.tup xs))
def Ys (t:TA):TE:=fun σ H Q=>t σ H fun xs H1=>xs.length<=sizeLine/\∀ p,H1 p=none->Q (.ref p) (upd H1 p (.lst xs))
theorem vj {x1} (h:PA X es t):PE X (.Tuple es x1 pos) (Yr t):=by
 intro pins s σ H Q I hq
 refine wpAny_Tuple_spliced (d7 (h pos pins s σ H _ I hq) fun us s1 ⟨xs,H1,I1,r,z,q⟩=>⟨by rw [<- r.length];exact z,?_⟩)
 have hf:H1 s1.heap.objs.size=none:=I1.hok.fresh (Nat.le_refl _)
 refine ⟨.ref s1.heap.objs.size,upd H1 s1.heap.objs.size (.tup xs),I1.laid (t':=s1.toks) (fun b u e=>Heap.get?_push_of_some _ e) (Nat.le_refl _) ?_,rfl,q _ hf⟩
 exact ⟨z,us,r,⟨_,Heap.get?_push_size _ rfl,rfl,_,rfl⟩⟩
theorem l7 (h:PA X es t):PE X (.List es pos) (Ys t):=by
 intro pins s σ H Q I hq
 refine wpAny_List_spliced (d7 (h pos pins s σ H _ I hq) fun us s1 ⟨xs,H1,I1,r,z,q⟩=>⟨by rw [<- r.length];exact z,?_⟩)
 have hf:H1 s1.heap.objs.size=none:=I1.hok.fresh (Nat.le_refl _)
 refine ⟨.ref s1.heap.objs.size,upd H1 s1.heap.objs.size (.lst xs),I1.laid (t':=s1.toks) (fun b u e=>Heap.get?_push_of_some _ e) (Nat.le_refl _) ?_,rfl,q _ hf⟩
 exact ⟨z,us,0,r,Heap.get?_push_size _ rfl⟩
end
abbrev Sp:=List V->Hp->VK->XK->Prop
abbrev Lc:=List Env->Hp->Shared->XK->Value->Shared->Prop
structure GJ (P:Program) (w:World) (K:PySem.W.Frag) (mg:Str->Option Value) (base:Heap) (A:Around) (outer:List Env) (s:Shared) (H:Hp):Prop where
 frames:A.frames=some outer
 mod:Mod K mg base
 bs:∀ b o,base.get? b=some o->s.heap.get? b=some o/\H b=none
 MZ:base.objs.size<=s.heap.objs.size
 xy:s.heap.FunFrames base outer
 Ou:∀ b ∈ frs outer,H b=none
 hok:tH P w H s.heap
 bare:AllBare s.gens
def CE (outer:List Env) (P:Program) (w:World) (H:Hp) (s:Shared) (Q:VK) (u:Value) (s':Shared):Prop:=
 ∃ v H',s'.os=s.os/\AllBare s'.gens/\Un (frs outer) [] H H' s.heap s'.heap/\tH P w H' s'.heap/\RelV v u/\Q v H'
def CR (CX:Lc) (outer:List Env) (P:Program) (w:World) (H:Hp) (s:Shared) (Q:VK) (E:XK) (r:Result) (s':Shared):Prop:=
 match r with
 | .ok (.ret u)=>CE outer P w H s Q u s'
 | .ok _=>False
 | .error e=>CX outer H s E e s'
structure cE (P:Program) (w:World) (K:PySem.W.Frag) (mg:Str->Option Value) (base:Heap) (CX:Lc) (k:Nat) (f:Addr) (fd:FuncData) (ps:List Str) (sp:Sp):Prop where
 len:∀ vs H Q E,sp vs H Q E->vs.length=ps.length
 run:∀ (A:Around) (outer:List Env) (s:Shared) (H:Hp) (args:Args) (us:List Value) (vs:List V) (Q:VK) (E:XK),dW k A->GJ P w K mg base A outer s H->BindsTo s fd args (ps.zip us)->Vals vs us->sp vs H Q E->
   codeAny (model P w) A (.call (.ref f) args) (CR CX outer P w H s Q E) s
theorem cE.mono {P:Program} {w:World} {K:PySem.W.Frag} {mg:Str->Option Value} {base:Heap} {CX:Lc} {j k:Nat} {f:Addr} {fd:FuncData} {ps:List Str} {sp:Sp} (F:cE P w K mg base CX j f fd ps sp) (h:j<=k) :
   cE P w K mg base CX k f fd ps sp:=⟨F.len,fun A outer s H args us vs Q E hr=>F.run A outer s H args us vs Q E (hr.mono h)⟩
theorem GJ.make {P:Program} {w:World} {K:PySem.W.Frag} {mg:Str->Option Value} {base:Heap} {A:Around} {outer:List Env} {s:Shared} {H:Hp} (e:GJ P w K mg base A outer s H) (C:Addr) (us:List Value) (kw:List (Str×Value)) :
   GJ P w K mg base (A.under (.builtin "type.__call__" ⟨.ref C::us,kw⟩)) outer s H:=⟨by first | exact e.frames | (simpa [Around.under,Code.envs,Code.isFrame,pushEnvs] using e.frames),e.mod,e.bs,e.MZ,e.xy,e.Ou,e.hok,e.bare⟩
section
variable {X:Cx} {pins:List (Addr×Obj)} {σ:St} {H:Hp} {s s':Shared}
theorem Inv.Rg (I:Inv X pins σ H s):GJ X.prog X.w X.K X.mg X.base X.A X.stack s H:=
 ⟨I.ok.frames,I.ok.mod,I.bs,Nat.le_trans I.ok.MZ I.sz,I.stack,I.G3,I.hok,I.bare⟩
theorem Inv.after {Q:VK} {u:Value} (I:Inv X pins σ H s) (h:CE X.stack X.prog X.w H s Q u s'):EP X pins σ Q u s':=by
 obtain ⟨v,H',os,bare,un,hok,r,q⟩:=h
 obtain ⟨hh,g,d,t,os'⟩:=s'
 obtain rfl:os'=s.os:=os
 exact ⟨v,H',I.call (h':=hh) (g':=g) (d':=d) (t':=t) (ch:=[]) un hok bare (fun b z=>absurd z (by simp)),r,q⟩
end
def OD (sp:Sp) (EJ:List V) (E:XK) (t:TA):TE:=fun σ H Q=>t σ H fun vs H1=>sp (vs++EJ) H1 Q E
def Tn (C:Addr) (m:Str) (sp:Sp) (EJ:List V) (E:XK) (ta:TE) (t:TA):TE:=fun σ H Q=>ta σ H fun x H1=>∃ a dx fs,x=.ref a/\H1 a=some (.ins C dx fs)/\fs.lookup m=none /\
 t σ H1 fun vs H2=>sp (x::(vs++EJ)) H2 Q E
def Wf (C:Addr) (sp:Sp) (EJ:List V) (E:XK) (t:TA):TE:=fun σ H Q=>t σ H fun vs H1=>∀ x dx,H1 x=none->H1 dx=none->dx ≠ x->
 sp (.ref x::(vs++EJ)) (upd (upd H1 dx (.own x)) x (.ins C dx [])) (fun v H2=>v=.non/\Q (.ref x) H2) E
def Binds (K:PySem.W.Frag) (fd:FuncData) (ps:List Str) (ds:List Value):Prop:=
 ∀ (s:Shared) (us:List Value),K.In s.heap->(us++ds).length=ps.length->BindsTo s fd ⟨us,[]⟩ (ps.zip (us++ds))
theorem Binds.all {K:PySem.W.Frag} {fd:FuncData} {ps:List Str} (h:∀ us:List Value,us.length=ps.length->bindArgs fd ⟨us,[]⟩=pure (ps.zip us)):Binds K fd ps []:=fun s us _ hl=>by
 rw [List.append_nil] at hl ⊢
 exact .of_eq (h us hl)
def Passes (CX:Lc) (X:Cx) (E:XK):Prop:=∀ (pins:List (Addr×Obj)) (σ:St) (H:Hp) (s:Shared) (e:Value) (s':Shared),Inv X pins σ H s->CX X.stack H s E e s'->X.xe e s'
section
variable {X:Cx} {CX:Lc} {k:Nat} {f C:Addr} {fd:FuncData} {ps:List Str} {sp:Sp} {EJ:List V} {ds:List Value} {E:XK} {x m:Str} {p pos apos:Pos} {e o:Expr} {es:List Expr} {ta:TE} {t:TA}
theorem DM {pins:List (Addr×Obj)} {σ:St} {H:Hp} {s:Shared} {Q:VK} {us:List Value} {vs:List V} (F:cE X.prog X.w X.K X.mg X.base CX k f fd ps sp) (hr:dW k X.A) (hb:Binds X.K fd ps ds) (hd:Vals EJ ds) (hx:Passes CX X E)
   (I:Inv X pins σ H s) (r:Vals vs us) (h:sp (vs++EJ) H Q E):wpAny (model X.prog X.w) X.A (call (.ref f) us) (EP X pins σ Q) X.xe s:=by
 have r2:Vals (vs++EJ) (us++ds):=r.append hd
 have hl:(us++ds).length=ps.length:=by rw [<- r2.length];exact F.len _ _ _ _ h
 refine wpAny_call (codeAny_mono (F.run X.A X.stack s H ⟨us,[]⟩ (us++ds) (vs++EJ) Q E hr I.Rg (hb s us I.yY hl) r2 h) fun r s' hq=>?_)
 cases r with
 | error e=>exact hx pins σ H s e s' I hq
 | ok fl=>
   cases fl with
   | ret u=>exact I.after hq
   | next=>exact False.elim hq
   | brk=>exact False.elim hq
   | cont=>exact False.elim hq
theorem cU (F:cE X.prog X.w X.K X.mg X.base CX k f fd ps sp) (hr:dW k X.A) (hg:Gl X x) (hm:X.mg x=some (.ref f)) (hk:PySem.W.keepIn X.K (.ref f)=true) (hb:Binds X.K fd ps ds) (hd:Vals EJ ds) (hx:Passes CX X E)
   (ha:PA X (e::es) t) (hdb:(x==("__debug__":Str))=false:=by decide) (he:starEach (e::es) X.env=(false,eval e X.env)::starEach es X.env:=by rfl) (hpl:(backTo pos (starEach es X.env)).any (·.1)=false:=by rfl) :
   PE X (.Call (.Name x p) (e::es) [] pos) (OD sp EJ E t):=by
 intro pins s σ H Q I h
 refine wpAny_Call_Name_kw (xo I hg hm ?_ hdb)
 refine PySem.W.callWith_K (h₀:=X.base) I.ok.mod.kin hk (d7 (ha pos pins s σ H _ I h) fun us s1 ⟨vs,H1,I1,r,q⟩=>⟨I1.yY,?_⟩) he hpl
 exact DM F hr hb hd hx I1 r q
theorem cF {pl:Sem Bool} (he:PE X o ta) (c:GD X.K C) (hm:Meth X.K C m f) (F:cE X.prog X.w X.K X.mg X.base CX k f fd ps sp) (hr:dW k X.A) (hb:Binds X.K fd ps ds) (hd:Vals EJ ds) (hx:Passes CX X E) (ha:PA X (e::es) t)
   (hst:starEach (e::es) X.env=(false,eval e X.env)::starEach es X.env:=by rfl) (hpl:(backTo pos (starEach es X.env)).any (·.1)=false:=by rfl)
   (ht:eval (.Call (.Attribute o m apos) (e::es) [] pos) X.env=(do
     let ov <- eval o X.env
     standAt apos.atName
     let (f,first) <- holding [ov] (getMethod ov m pl)
     callWith pos f first (backTo pos (starEach (e::es) X.env)) (backToKw pos (keywordEach [] X.env))):=by rfl) :
   PE X (.Call (.Attribute o m apos) (e::es) [] pos) (Tn C m sp EJ E ta t):=by
 intro pins s σ H Q I h
 refine PySem.W.methodCall_KW (pl:=pl) (d7 (he pins s σ H _ I h) fun u s1 ⟨x,H1,I1,rx,a,dx,fs,ex,ea,l,q⟩=>?_) ht
 subst ex
 obtain rfl:u=Value.ref a:=rx
 refine DJ I1 ea c hm l ?_
 refine PySem.W.callWith_K (first:=[.ref a]) (h₀:=X.base) I.ok.mod.kin hm.kp (d7 (ha pos pins s1 σ H1 _ I1 q) fun us s2 ⟨vs,H2,I2,r,q2⟩=>⟨I2.yY,?_⟩) hst hpl
 exact DM (us:=.ref a::us) (vs:=.ref a::vs) F hr hb hd hx I2 (.cons rfl r) q2
theorem OE {pl:Sem Bool} (he:PE X o ta) (c:GD X.K C) (hm:Meth X.K C m f) (F:cE X.prog X.w X.K X.mg X.base CX k f fd ps sp) (hr:dW k X.A) (hb:Binds X.K fd ps ds) (hd:Vals EJ ds) (hx:Passes CX X E)
   (ht:eval (.Call (.Attribute o m apos) [] [] pos) X.env=(do
     let ov <- eval o X.env
     standAt apos.atName
     let (f,first) <- holding [ov] (getMethod ov m pl)
     callWith pos f first (backTo pos (starEach [] X.env)) (backToKw pos (keywordEach [] X.env))):=by rfl) :
   PE X (.Call (.Attribute o m apos) [] [] pos) (Tn C m sp EJ E ta OC):=by
 intro pins s σ H Q I h
 refine PySem.W.methodCall_KW (pl:=pl) (d7 (he pins s σ H _ I h) fun u s1 ⟨x,H1,I1,rx,a,dx,fs,ex,ea,l,q⟩=>?_) ht
 subst ex
 obtain rfl:u=Value.ref a:=rx
 refine DJ I1 ea c hm l ?_
 exact PySem.W.callWith_K0 (first:=[.ref a]) I1.yY hm.kp (DM (us:=[.ref a]) (vs:=[.ref a]) F hr hb hd hx I1 (.cons rfl .nil) q)
structure Mk (K:PySem.W.Frag) (C f:Addr):Prop where
 makes:PySem.W.makesIn K C=true
 init:PySem.W.findIn K (.ref C) "__init__"=some (some (.ref f))
 fn:PySem.W.isFn K (.ref f)=true
 kp:PySem.W.keepIn K (.ref C)=true
theorem OG {pins:List (Addr×Obj)} {σ:St} {H:Hp} {s:Shared} {Q:VK} {us:List Value} {vs:List V} (M:Mk X.K C f) (F:cE X.prog X.w X.K X.mg X.base CX k f fd ps sp) (hr:dW (k+1) X.A) (hb:Binds X.K fd ps ds) (hd:Vals EJ ds)
   (hx:Passes CX X E) (I:Inv X pins σ H s) (r:Vals vs us)
   (h:∀ x dx,H x=none->H dx=none->dx ≠ x->sp (.ref x::(vs++EJ)) (upd (upd H dx (.own x)) x (.ins C dx [])) (fun v H2=>v=.non/\Q (.ref x) H2) E) :
   wpAny (model X.prog X.w) X.A (call (.ref C) us) (EP X pins σ Q) X.xe s:=by
 have hq:=h (s.heap.objs.size+1) s.heap.objs.size (I.hok.fresh (Nat.le_succ _)) (I.hok.fresh (Nat.le_refl _)) (Nat.ne_of_lt (Nat.lt_succ_self _))
 have I2:=Inv.made (C:=C) I
 have r2:Vals (V.ref (s.heap.objs.size+1)::(vs++EJ)) (Value.ref (s.heap.objs.size+1)::(us++ds)):=.cons rfl (r.append hd)
 have hl:(Value.ref (s.heap.objs.size+1)::us++ds).length=ps.length:=by
   have e:=r2.length
   rw [F.len _ _ _ _ hq] at e
   exact e.symm
 refine wpAny_call (OB (f:=f) I.yY M.makes M.init (beq_iff_eq.mp M.fn) (codeAny_mono (F.run _ X.stack _ _ ⟨Value.ref (s.heap.objs.size+1)::us,[]⟩ (Value.ref (s.heap.objs.size+1)::(us++ds)) _ _ E (hr.make C us [])
   (I2.Rg.make C us []) (hb _ (Value.ref (s.heap.objs.size+1)::us) I2.yY hl) r2 hq) fun r s' hq'=>?_))
 cases r with
 | error e=>exact hx pins σ _ _ e s' I2 hq'
 | ok fl=>
   cases fl with
   | ret u=>
     obtain ⟨v,H',I3,rv,ev,q3⟩:=I2.after hq'
     subst ev
     exact ⟨rv,⟨V.ref (s.heap.objs.size+1),H',I3,rfl,q3⟩⟩
   | next=>exact False.elim hq'
   | brk=>exact False.elim hq'
   | cont=>exact False.elim hq'
theorem z7 (M:Mk X.K C f) (F:cE X.prog X.w X.K X.mg X.base CX k f fd ps sp) (hr:dW (k+1) X.A) (hg:Gl X x) (hm:X.mg x=some (.ref C)) (hb:Binds X.K fd ps ds) (hd:Vals EJ ds) (hx:Passes CX X E)
   (ha:PA X (e::es) t) (hdb:(x==("__debug__":Str))=false:=by decide) (he:starEach (e::es) X.env=(false,eval e X.env)::starEach es X.env:=by rfl) (hpl:(backTo pos (starEach es X.env)).any (·.1)=false:=by rfl) :
   PE X (.Call (.Name x p) (e::es) [] pos) (Wf C sp EJ E t):=by
 intro pins s σ H Q I h
 refine wpAny_Call_Name_kw (xo I hg hm ?_ hdb)
 refine PySem.W.callWith_K (h₀:=X.base) I.ok.mod.kin M.kp (d7 (ha pos pins s σ H _ I h) fun us s1 ⟨vs,H1,I1,r,q⟩=>⟨I1.yY,?_⟩) he hpl
 exact OG M F hr hb hd hx I1 r q
end
def PK (X:Cx) (kws:List Keyword) (t:TA):Prop:=
 ∀ (pos:Pos) (pins:List (Addr×Obj)) (s:Shared) (σ:St) (H:Hp) (Q:List V->Hp->Prop),Inv X pins σ H s->t σ H Q->wpAny (model X.prog X.w) X.A (evalAll ((backToKw pos (keywordEach kws X.env)).map (·.2))) (AP X pins σ Q) X.xe s
section
variable {X:Cx} {CX:Lc} {k:Nat} {f C:Addr} {fd:FuncData} {ps ks:List Str} {sp:Sp} {E:XK} {x m:Str} {p pos apos kpos:Pos} {e o:Expr} {es:List Expr} {kws:List Keyword} {te ta:TE} {t tk:TA} {nm:Option Str}
theorem Uu:PK X [] OC:=fun _ _ _ _ H Q I h=>wpAny_evalAll_nil ⟨[],H,I,.nil,h⟩
theorem Rh (ha:PE X e te) (hr:PK X kws t):PK X (⟨nm,e,kpos⟩::kws) (Mp te t):=by
 intro pos pins s σ H Q I h
 show wpAny _ _ (evalAll ((do let v <- eval e X.env;standAt pos;pure v)::(backToKw pos (keywordEach kws X.env)).map (·.2))) _ _ s
 refine wpAny_evalAll_cons (wpAny_bind (d7 (ha pins s σ H _ I h) fun u s1 ⟨x,H1,I1,r1,q1⟩=>wpAny_bind (wpAny_standAt (wpAny_pure ?_))))
 exact d7 (hr pos pins s1 σ H1 _ I1 q1) fun us s2 ⟨xs,H2,I2,r2,q2⟩=>⟨x::xs,H2,I2,.cons r1 r2,q2⟩
variable {g:List Value->List Value->List Value} {gV:List V->List V->List V}
end
structure aU (N P:List Str) (sc:Scope):Prop where
 kind:sc.kind=.function
 co:sc.isCoroutine=false
 gen:sc.isGenerator=false
 nd:N.Nodup
 pre:N.take P.length=P
 par:∀ x ∈ P,sc.names.lookup x=some .local\/sc.names.lookup x=some .cell
 Uv:∀ y ∈ sc.names,y.2 ≠ .free
theorem FP {kindOf:Str->Option NameKind} {x:Str}:∀ {binds:List (Str×Value)} {m:Str->Option Value},(∀ v,(x,v) ∉ binds)->bindL kindOf binds m x=m x
 | [],_,_=>rfl
 | (n,v)::r,m,h=>by
   unfold bindL
   rw [FP fun w hw=>h w (List.mem_cons_of_mem _ hw)]
   split
   . have:x ≠ n:=by rintro rfl;exact h v List.mem_cons_self
     simp [this]
   . rfl
theorem FQ {kindOf:Str->Option NameKind} {x:Str}:∀ {binds:List (Str×Value)} {m:Str->Option Value},(∀ v,(x,v) ∉ binds)->bindC kindOf binds m x=m x
 | [],_,_=>rfl
 | (n,v)::r,m,h=>by
   unfold bindC
   rw [FQ fun w hw=>h w (List.mem_cons_of_mem _ hw)]
   split
   . rfl
   . have:x ≠ n:=by rintro rfl;exact h v List.mem_cons_self
     simp [this]
theorem FT {kindOf:Str->Option NameKind} {x:Str} {v:Value}:∀ {P:List Str} {vs:List Value} {i:Nat} {m:Str->Option Value},P.Nodup->P[i]?=some x->vs[i]?=some v->kindOf x=some .local->
   bindL kindOf (P.zip vs) m x=some v
 | [],_,_,_,_,h,_,_=>by simp at h
 | _::_,[],_,_,_,_,h,_=>by simp at h
 | p::P,w::vs,0,m,nd,h1,h2,hk=>by
   simp at h1 h2;subst h1;subst h2
   show bindL kindOf ((p,w)::P.zip vs) m p=_
   unfold bindL
   rw [FP fun v hv=>(List.nodup_cons.mp nd).1 (List.of_mem_zip hv).1,if_pos hk]
   simp
 | p::P,w::vs,i+1,m,nd,h1,h2,hk=>by
   show bindL kindOf ((p,w)::P.zip vs) m x=_
   unfold bindL
   exact FT (i:=i) (List.nodup_cons.mp nd).2 (by simpa using h1) (by simpa using h2) hk
theorem FU {kindOf:Str->Option NameKind} {x:Str} {v:Value}:∀ {P:List Str} {vs:List Value} {i:Nat} {m:Str->Option Value},P.Nodup->P[i]?=some x->vs[i]?=some v->kindOf x ≠ some .local->
   bindC kindOf (P.zip vs) m x=some v
 | [],_,_,_,_,h,_,_=>by simp at h
 | _::_,[],_,_,_,_,h,_=>by simp at h
 | p::P,w::vs,0,m,nd,h1,h2,hk=>by
   simp at h1 h2;subst h1;subst h2
   show bindC kindOf ((p,w)::P.zip vs) m p=_
   unfold bindC
   rw [FQ fun v hv=>(List.nodup_cons.mp nd).1 (List.of_mem_zip hv).1,if_neg hk]
   simp
 | p::P,w::vs,i+1,m,nd,h1,h2,hk=>by
   show bindC kindOf ((p,w)::P.zip vs) m x=_
   unfold bindC
   exact FU (i:=i) (List.nodup_cons.mp nd).2 (by simpa using h1) (by simpa using h2) hk
def start (N:List Str) (vs:List V):St:=vs.map some++List.replicate (N.length - vs.length) none
def rV (CX:Lc) (P:Program) (w:World) (K:PySem.W.Frag) (mg:Str->Option Value) (base:Heap) (N:List Str) (qual:Str) (scope:Scope) (f:Addr) (cd:Value) (A:Around) (outer:List Env) (s:Shared) (H:Hp) (E:XK):Cx where
 prog:=P
 w:=w
 K:=K
 mg:=mg
 base:=base
 A:=A.deeper (envOfC qual scope s.heap.objs.size f cd)
 N:=N
 Bp:=s
 Ub:=H
 env:=envOfC qual scope s.heap.objs.size f cd
 outer:=outer
 stack:=envOfC qual scope s.heap.objs.size f cd::outer
 ex:=[]
 calm:=true
 fn:=fun _=>true
 pn:=[]
 xe:=fun e s'=>wpAny (model P w) (A.deeper (envOfC qual scope s.heap.objs.size f cd)) (leaving (envOfC qual scope s.heap.objs.size f cd) e) (fun _ s''=>CX outer H s E e s'') (fun e' s''=>CX outer H s E e' s'') s'
theorem Jo {sc:Scope} {n:Nat} {x:Str} (h:sc.names.lookup x=some .cell):∃ c,(cellsFrom n sc.names []).lookup x=some c:=by
 have q:=PySem.W.cellsFrom_some sc.names n [] (.inl h)
 exact Option.isSome_iff_exists.mp q
theorem FW {CX:Lc} {P:Program} {w:World} {K:PySem.W.Frag} {mg:Str->Option Value} {base:Heap} {N ps:List Str} {qual:Str} {scope:Scope} {f:Addr} {cd:Value} {A:Around} {outer:List Env} {s s1:Shared} {H:Hp} {E:XK} {us:List Value} {vs:List V}
   (S:aU N ps scope) (hd:A.handled=none) (e0:GJ P w K mg base A outer s H) (hl:vs.length=ps.length) (r:Vals vs us)
   (x:InCallC s s.heap.objs.size (bindL (envOfC qual scope s.heap.objs.size f cd).kindOf (ps.zip us) fun _=>none) (cellsFrom (s.heap.objs.size+1) scope.names []) (bindC (envOfC qual scope s.heap.objs.size f cd).kindOf (ps.zip us) fun _=>none) s1) :
   Inv (rV CX P w K mg base N qual scope f cd A outer s H E) [] (start N vs) H s1:=by
 have hpl:ps.length<=N.length:=by have:=congrArg List.length S.pre;rw [List.length_take] at this;omega
 obtain ⟨h1,tk,rfl,hk⟩:=x.done
 have V7:∀ b:Addr,b ∉ (rV CX P w K mg base N qual scope f cd A outer s H E).ex:=fun b z=>absurd (show b ∈ ([]:List Addr) from z) (by simp)
 refine ⟨⟨e0.mod,S.kind,rfl,rfl,Nat.le_refl _,fun y z c h1 h2=>?_,fun y hy=>?_,fun y c _ h=>?_,fun _=>hd,Around.frames_deeper e0.frames,.inr ⟨rfl,rfl⟩,fun b z=>absurd z (V7 b),e0.bs,e0.MZ,fun b _ _=>V7 b,fun b z=>absurd z (V7 b),e0.xy,e0.Ou⟩,
   rfl,e0.bare,Un.kept hk,⟨_,x.toInCall.ns,fun i y v h1 h2 h3=>?_⟩,fun y c h=>⟨_,x.cell y c h⟩,e0.hok.fresh (Nat.le_refl _),fun y c h=>?_,fun p hp=>absurd (show p ∈ ([]:List (Addr×Obj)) from hp) (by simp),e0.hok.kept hk,?_⟩
 . exact name_of_addr x.apart (PySem.mem_of_lookup h1) (PySem.mem_of_lookup h2)
 . have hy:scope.names.lookup y=some .cell\/scope.names.lookup y=some .free:=hy
   rcases hy with hy | hy
   . exact Jo hy
   . exact absurd rfl (S.Uv _ (PySem.mem_of_lookup hy))
 . exact Nat.le_of_lt (x.above y c (PySem.mem_of_lookup h))
 . have hi:i < vs.length:=by
     unfold start at h2
     by_cases hi:i < vs.length
     . exact hi
     . rw [List.getElem?_append_right (by simpa using hi)] at h2
       rw [List.getElem?_replicate] at h2
       split at h2<;>cases h2
   have ha:vs[i]?=some v:=by
     unfold start at h2
     rw [List.getElem?_append_left (by simpa using hi),List.getElem?_map] at h2
     cases e:vs[i]? with
     | none=>rw [e] at h2;cases h2
     | some a=>rw [e] at h2;cases h2;rfl
   obtain ⟨u,hu,rv⟩:=r.get ha
   have hp:ps[i]?=some y:=by
     rw [<- S.pre,List.getElem?_take_of_lt (by omega)];exact h1
   have Zz:ps.Nodup:=by rw [<- S.pre];exact S.nd.sublist (List.take_sublist _ _)
   refine ⟨u,rv,?_⟩
   rcases S.par y (List.mem_of_getElem? hp) with k | k
   . exact .inl ⟨k,FT Zz hp hu k⟩
   . obtain ⟨c,e⟩:=Jo (n:=s.heap.objs.size+1) k
     refine .inr ⟨.inl k,c,e,?_⟩
     have q:=x.cell y c e
     rw [FU Zz hp hu (by show scope.names.lookup y ≠ _;rw [k];decide)] at q
     exact q
 . exact e0.hok.fresh (Nat.le_of_lt (x.above y c (PySem.mem_of_lookup h)))
 . unfold start
   show _=N.length
   rw [List.length_append,List.length_map,List.length_replicate]
   omega
theorem Tp {CX:Lc} {P:Program} {w:World} {K:PySem.W.Frag} {mg:Str->Option Value} {base:Heap} {k:Nat} {f:Addr} {name qual:Str} {params:Arguments} {body:List Stmt} {scope:Scope} {dV kV doc pm cdv ct oc:Value} {an od:Option Addr}
   {osl:Array (Option Value)} {N ps:List Str} {sp:Sp} (lk:K.lookup f=some ⟨oc,od,.func (PySem.W.fnOf name qual params body scope dV kV doc pm an cdv ct),osl⟩) (hcd:PySem.W.codeIn K cdv qual=true) (S:aU N ps scope)
   (len:∀ vs H Q E,sp vs H Q E->vs.length=ps.length)
   (hbody:∀ (A:Around) (outer:List Env) (s:Shared) (H:Hp) (vs:List V) (Q:VK) (E:XK),dW k (A.deeper (envOfC qual scope s.heap.objs.size f cdv))->sp vs H Q E->
     ∃ t,Jh (rV CX P w K mg base N qual scope f cdv A outer s H E) body t/\t { nx:=fun _ H'=>Q .non H',rt:=Q } (start N vs) H) :
   cE P w K mg base CX (k+1) f (PySem.W.fnOf name qual params body scope dV kV doc pm an cdv ct) ps sp:=by
 refine ⟨len,fun A outer s H args us vs Q E hr e0 hb r Ly=>?_⟩
 have hl:=len _ _ _ _ Ly
 have KX:K.In s.heap:=e0.mod.kin.keeps fun b o e=>(e0.bs b o e).1
 have lim:s.heap.NoLimit:=e0.mod.nolimit.keeps fun b o e=>(e0.bs b o e).1
 have hkind:∀ y ∈ ps.zip us,scope.names.lookup y.1=some .local\/(scope.names.lookup y.1=some .cell/\((cellsFrom (s.heap.objs.size+1) scope.names []).lookup y.1).isSome=true):=fun ⟨n,v⟩ hy=>by
   rcases S.par n (List.of_mem_zip hy).1 with q | q
   . exact .inl q
   . exact .inr ⟨q,PySem.W.cellsFrom_some _ _ _ (.inl q)⟩
 refine codeAny_call_function hr.depth (KX _ _ lk) rfl S.co S.gen rfl (PySem.W.codeRec_of KX hcd) (hb _ _ _ _ ?_)
 refine wpAny_newFunctionEnv_cells S.kind hkind fun env he s1 x=>?_
 subst he
 refine ⟨lim.keeps x.toInCall.keep,codeAny_func ?_⟩
 obtain ⟨t,ht,hq⟩:=hbody A outer s H vs Q E (hr.deeper _) Ly
 have I:Inv (rV CX P w K mg base N qual scope f cdv A outer s H E) [] (start N vs) H s1:=FW S hr.hd e0 hl r x
 refine wpAny_mono (ht [] s1 (start N vs) H _ I hq) (fun fl s' hs=>?_) fun e s' hs=>hs
 have fin:∀ {σ':St} {H':Hp} {v:V} {u:Value},Inv (rV CX P w K mg base N qual scope f cdv A outer s H E) [] σ' H' s'->RelV v u->Q v H'->CE outer P w H s Q u s':=
   fun {σ' H' v u} J rv q=>⟨v,H',J.os,J.bare,J.base,J.hok,rv,q⟩
 cases fl with
 | ret u=>
   obtain ⟨v,σ',H',J,rv,q⟩:=hs
   exact fin J rv q
 | next=>
   obtain ⟨σ',H',J,q⟩:=hs
   exact fin (v:=V.non) (u:=Value.none) J rfl q
 | brk=>
   obtain ⟨_,_,_,q⟩:=hs
   exact False.elim q
 | cont=>
   obtain ⟨_,_,_,q⟩:=hs
   exact False.elim q
end L2
namespace L2
open PySem PySem.Spec PyProof.Rows
section
variable {X:Cx} {x:Str} {p pos:Pos} {e:Expr} {es:List Expr} {t:TA} {id T:String} {r:List V->Hp->VK->Prop}
def Z0 (r:List V->Hp->VK->Prop) (t:TA):TE:=fun σ H Q=>t σ H fun vs H1=>r vs H1 Q
theorem eX (hc:Jk X (.builtin id) r) (hg:Gl X x) (hm:X.mg x=none) (hv:bootBuiltins x=some (.builtin id)) (ha:PA X (e::es) t) (hn:x ≠ "__name__":=by decide) (hdb:(x==("__debug__":Str))=false:=by decide)
   (he:starEach (e::es) X.env=(false,eval e X.env)::starEach es X.env:=by rfl) (hpl:(backTo pos (starEach es X.env)).any (·.1)=false:=by rfl):PE X (.Call (.Name x p) (e::es) [] pos) (Z0 r t):=by
 intro pins s σ H Q I h
 refine wpAny_Call_Name_kw (Bt I hg hm hv ?_ hn hdb)
 exact PyProof.Rows.callWith_builtin1 (d7 (ha pos pins s σ H _ I h) fun us s1 ⟨vs,H1,I1,r1,q1⟩=>hc pins s1 σ H1 vs us Q I1 r1 q1) he hpl
theorem Bw (hc:Jk X (.type T) r) (hg:Gl X x) (hm:X.mg x=none) (hv:bootBuiltins x=some (.type T)) (ha:PA X (e::es) t) (hn:x ≠ "__name__":=by decide) (hdb:(x==("__debug__":Str))=false:=by decide)
   (he:starEach (e::es) X.env=(false,eval e X.env)::starEach es X.env:=by rfl) (hpl:(backTo pos (starEach es X.env)).any (·.1)=false:=by rfl):PE X (.Call (.Name x p) (e::es) [] pos) (Z0 r t):=by
 intro pins s σ H Q I h
 refine wpAny_Call_Name_kw (Bt I hg hm hv ?_ hn hdb)
 exact PyProof.Rows.callWith_type1 (d7 (ha pos pins s σ H _ I h) fun us s1 ⟨vs,H1,I1,r1,q1⟩=>hc pins s1 σ H1 vs us Q I1 r1 q1) he hpl
end
end L2
namespace HT
open PySem PyProof.Rows
theorem OH (A:Around) (s:Shared) (a:Int) (t:Tok) (c:Int) (u:Tok):∃ e,SeqAt.EqAt A s (.int a t) (.int c u) e/\(e=true ↔ a=c):=
 ⟨(a==c),SeqAt.EqAt.int_int a t c u,by simp⟩
section
open PySem.SeqAt
open PySem.AutoSeq1 (wpAny_loadPart')
open PySem.MeetsSeq PySem.MeetsSeq2 PySem.MeetsSeq3
end
section
variable {prog:Program} {w:World} {A:Around} {E:Value->Shared->Prop} {s:Shared}
def Jp (n d:Nat):Option Int->Nat
 | none=>d
 | some v=>if v < 0 then (v+(n:Int)).toNat else min v.toNat n
theorem OI (n d:Nat):Jp n d none=d:=rfl
theorem Ri (n d k:Nat):Jp n d (some (k:Int))=min k n:=by
 show (if (k:Int) < 0 then ((k:Int)+(n:Int)).toNat else min (k:Int).toNat n)=min k n
 rw [if_neg (by omega),Int.toNat_natCast]
end
end HT
namespace L2
open PySem PySem.Spec PyProof.Rows
abbrev TO:=St->Hp->(Option Int->Hp->Prop)->Prop
def PO (X:Cx) (e:Option Expr) (t:TO):Prop:=
 ∀ (pins:List (Addr×Obj)) (s:Shared) (σ:St) (H:Hp) (Q:Option Int->Hp->Prop),Inv X pins σ H s->t σ H Q->
   wpAny (model X.prog X.w) X.A (evalPart e X.env) (fun u s'=>∃ o H',Inv X pins σ H' s'/\IsPart u o/\Q o H') X.xe s
def Rj:TO:=fun _ H Q=>Q none H
def Wg (t:TE):TO:=fun σ H Q=>t σ H fun x H1=>∃ i,x=.int i/\Q (some i) H1
theorem intsAre_of {ns:List Int}:∀ {us:List Value},Vals (ns.map V.int) us->IntsAre us ns:=by
 induction ns with
 | nil=>intro us r;rw [List.map_nil] at r;cases r;exact .nil
 | cons n ns ih=>
   intro us r
   rw [List.map_cons] at r
   cases r with
   | cons r1 r2=>
     obtain ⟨t,e⟩:=r1
     subst e
     exact .cons n t (ih r2)
section
variable {X:Cx} {e:Expr} {te:TE} {lo hi:Option Expr} {tl th:TO} {pos p2:Pos}
theorem Rk:PO X none Rj:=by
 intro pins s σ H Q I h
 rw [evalPart_none]
 exact wpAny_pure ⟨none,H,I,.none,h⟩
theorem Rl (h:PE X e te):PO X (some e) (Wg te):=by
 intro pins s σ H Q I hw
 rw [evalPart_some]
 refine d7 (h pins s σ H _ I hw) fun u s1 ⟨x,H1,I1,r1,q1⟩=>?_
 obtain ⟨i,rfl,q⟩:=q1
 obtain ⟨t,rfl⟩:=r1
 exact ⟨some i,H1,I1,.int i t,q⟩
def Z1 (X:Cx) (r:V->Option Int->Option Int->Hp->VK->Prop):Prop:=
 ∀ (pins:List (Addr×Obj)) (s:Shared) (σ:St) (H:Hp) (x:V) (v vl vu:Value) (lo hi:Option Int) (sl:Addr) (Q:VK),Inv X pins σ H s->RelV x v->s.heap.IsSliceOf sl vl vu .none->IsPart vl lo->IsPart vu hi->r x lo hi H Q->
   ∃ T id,typeLookup (.type T) "__getitem__"=pure (some (.builtin id))/\s.TypeIs v T/\wpAny (model X.prog X.w) X.A (getItem v (.ref sl)) (EP X pins σ Q) X.xe s
def tSl (r:V->Option Int->Option Int->Hp->VK->Prop) (te:TE) (tl th:TO):TE:=fun σ H Q=>te σ H fun x H1=>tl σ H1 fun l H2=>th σ H2 fun u H3=>r x l u H3 Q
theorem OJ {r:V->Option Int->Option Int->Hp->VK->Prop} (hr:Z1 X r) (he:PE X e te) (hl:PO X lo tl) (hu:PO X hi th):PE X (.Subscript e (.Slice lo hi none p2) pos) (tSl r te tl th):=by
 intro pins s σ H Q I h
 refine Subscript_ (d7 (he pins s σ H _ I h) fun v s1 ⟨x,H1,I1,r1,q1⟩=>?_)
 refine wpAny_Slice (d7 (hl pins s1 σ H1 _ I1 q1) fun vl s2 ⟨l,H2,I2,pl,q2⟩=>d7 (hu pins s2 σ H2 _ I2 q2) fun vu s3 ⟨u,H3,I3,pu,q3⟩=>?_)
 rw [evalPart_none]
 refine wpAny_pure ?_
 have I4:Inv X pins σ H3 { s3 with heap:=s3.heap.push { cls:=.type "slice",data:=.fields #[vl,vu,.none] } }:=I3.kept (t':=s3.toks) fun b ob q=>Heap.get?_push_of_some _ q
 obtain ⟨T,id,hT,ht,hg⟩:=hr pins { s3 with heap:=s3.heap.push { cls:=.type "slice",data:=.fields #[vl,vu,.none] } } σ H3 x v vl vu l u s3.heap.objs.size Q I4 r1 (Heap.IsSliceOf.new ..) pl pu q3
 show wpAny (model X.prog X.w) X.A (subscriptTail e (.Slice lo hi none p2) v (.ref s3.heap.objs.size)) (EP X pins σ Q) X.xe { s3 with heap:=s3.heap.push { cls:=.type "slice",data:=.fields #[vl,vu,.none] } }
 exact tail_any (ops:=[.ref s3.heap.objs.size,v]) ht hT hg (by with_unfolding_all rfl)
def Lz (xs:List V) (lo hi:Option Int):List V:=(xs.drop (HT.Jp xs.length 0 lo)).take (HT.Jp xs.length xs.length hi - HT.Jp xs.length 0 lo)
theorem Jq (xs:List V) (lo hi:Option Int):(Lz xs lo hi).length<=xs.length:=by
 unfold Lz
 rw [List.length_take,List.length_drop]
 omega
end
end L2
namespace L2
open PySem PySem.Spec PyProof.Rows
def Rm (n:Nat) (i:Int):Option Nat:=if 0<=i then (if i < n then some i.toNat else none) else if -(n:Int)<=i then some (i+n).toNat else none
def Uw {α:Type} (xs:List α) (i:Int):Option α:=(Rm xs.length i).bind fun j=>xs[j]?
theorem Mq {n:Nat} {i:Int} {j:Nat} (h:Rm n i=some j):seqIndex? i n=some j/\j < n/\-(n:Int)<=i/\i < n:=by
 unfold Rm at h
 by_cases h0:0<=i
 . rw [if_pos h0] at h
   by_cases h1:i < n
   . rw [if_pos h1] at h
     have e:i.toNat=j:=Option.some.inj h
     exact ⟨by rw [seqIndex_of h0 h1,e],by omega,by omega,h1⟩
   . rw [if_neg h1] at h;cases h
 . rw [if_neg h0] at h
   by_cases h1:-(n:Int)<=i
   . rw [if_pos h1] at h
     have e:(i+n).toNat=j:=Option.some.inj h
     exact ⟨by rw [seqIndex_neg (by omega) h1,e],by omega,h1,by omega⟩
   . rw [if_neg h1] at h;cases h
theorem Mr {α:Type} {xs:List α} {i:Int} {v:α} (h:Uw xs i=some v):∃ j,seqIndex? i xs.length=some j/\xs[j]?=some v/\j < xs.length/\-(xs.length:Int)<=i/\i < xs.length:=by
 unfold Uw at h
 cases e:Rm xs.length i with
 | none=>rw [e] at h;cases h
 | some j=>
   rw [e] at h
   obtain ⟨h1,h2,h3,h4⟩:=Mq e
   exact ⟨j,h1,h,h2,h3,h4⟩
theorem cV {α:Type} {xs:List α} {j:Nat} {v:α} (h:xs[j]?=some v):Uw xs (j:Int)=some v:=by
 have hj:j < xs.length:=(List.getElem?_eq_some_iff.mp h).1
 have e:Rm xs.length (j:Int)=some j:=by
   unfold Rm
   rw [if_pos (by omega),if_pos (by omega)];simp
 unfold Uw;rw [e];exact h
def Rn (b:Expr):Prop:=∀ o i,subscripted b false o i=operate [o,i] (getItem o i)
def Xz (X:Cx) (r:R2):Prop:=
 ∀ (value slice:Expr) (pins:List (Addr×Obj)) (s:Shared) (σ:St) (H:Hp) (x y:V) (v u:Value) (Q:VK),Inv X pins σ H s->RelV x v->RelV y u->r x y H Q->
   subscripted slice false v u=operate [v,u] (getItem v u)->wpAny (model X.prog X.w) X.A (subscriptTail value slice v u) (EP X pins σ Q) X.xe s
def MtR (X:Cx) (id:String) (r:V->List V->Hp->VK->Prop):Prop:=
 ∀ (pins:List (Addr×Obj)) (s:Shared) (σ:St) (H:Hp) (x:V) (xs:List V) (v:Value) (us:List Value) (Q:VK),Inv X pins σ H s->RelV x v->Vals xs us->r x xs H Q->
   wpAny (model X.prog X.w) X.A (call (.builtin id) (v::us)) (EP X pins σ Q) X.xe s
section
variable {X:Cx} {a b:Expr} {ta tb:TE} {pos:Pos}
theorem fV {r:R2} (hr:Xz X r) (ha:PE X a ta) (hb:PE X b tb) (hs:Rn b):PE X (.Subscript a b pos) (Xy r ta tb):=by
 intro pins s σ H Q I h
 exact Subscript_ (Ul ha hb I h fun v u s2 x y H2 I2 rx ry q=>hr a b pins s2 σ H2 x y v u Q I2 rx ry q (hs _ _))
def Wh (K:PySem.W.Frag):R2:=fun x y H Q=>∃ p xs i v,x=.ref p/\y=.int i/\dN K H p xs/\Uw xs i=some v/\Q v H
def Yu (K:PySem.W.Frag):R2:=fun x y H Q=>∃ p xs i v,x=.ref p/\y=.int i/\rS K H p xs/\Uw xs i=some v/\Q v H
theorem dS:Xz X (Wh X.K):=by
 intro value slice pins s σ H x y v u Q I rx ry h hs
 obtain ⟨p,xs,i,z,rfl,rfl,hq,he,q⟩:=h
 cases rx
 obtain ⟨t,rfl⟩:=ry
 obtain ⟨its,r,pl,hz⟩:=I.list hq
 obtain ⟨j,h1,h2,h3,h4,h5⟩:=Mr he
 obtain ⟨w,ew,rw'⟩:=r.get h2
 have hl:=r.length
 have hn:=Bu
 have fin:EP X pins σ Q w s:=⟨z,H,I,rw',q⟩
 by_cases h0:0<=i
 . have hj:i.toNat=j:=by
     rw [seqIndex_of h0 h5] at h1
     exact Option.some.inj h1
   exact item_listR pl.isList h0 (by omega) (by rw [hj];simpa using ew) fin hs
 . have hj:(i+(its.toArray.size:Int)).toNat=j:=by
     rw [seqIndex_neg (by omega) h4] at h1
     rw [List.size_toArray,<- hl]
     exact Option.some.inj h1
   exact subscriptTail_builtinR (x:=w) pl.isList.typeIs slot_list_getitem.lookup
     (wpAny_getItem_list_neg (Q:=fun r s'=>r=w/\EP X pins σ Q r s') pl.isList (by omega) (by rw [List.size_toArray]<;>omega) (by omega) (by rw [hj];simpa using ew) ⟨rfl,fin⟩) hs
theorem GK:Xz X (Yu X.K):=by
 intro value slice pins s σ H x y v u Q I rx ry h hs
 obtain ⟨p,xs,i,z,rfl,rfl,hq,he,q⟩:=h
 cases rx
 obtain ⟨t,rfl⟩:=ry
 obtain ⟨its,r,pl,hz⟩:=I.tuple hq
 obtain ⟨j,h1,h2,h3,h4,h5⟩:=Mr he
 obtain ⟨w,ew,rw'⟩:=r.get h2
 have hl:=r.length
 have hn:=Bu
 have fin:EP X pins σ Q w s:=⟨z,H,I,rw',q⟩
 exact subscriptTail_builtinR (x:=w) pl.typeIs slot_tuple_getitem.lookup
   (getItem_tuple (j:=j) (Q:=fun r s'=>r=w/\EP X pins σ Q r s') pl (by omega) (by omega) (by rw [List.size_toArray,<- hl];exact h1) (by simpa using ew) ⟨rfl,fin⟩) hs
theorem L0 (its:List Value) (n j:Nat) (u:Value):Obj.mapSeq (·.setIfInBounds j u) { cls:=.type "list",data:=.seq its.toArray n }={ cls:=.type "list",data:=.seq (its.set j u).toArray n }:=by
 simp [Obj.mapSeq]
theorem Inv.lst {pins:List (Addr×Obj)} {σ:St} {H:Hp} {s:Shared} {p:Addr} {xs:List V} (I:Inv X pins σ H s) (h:H p=some (.lst xs)) :
   ∃ (its:List Value) (n:Nat),Vals xs its/\s.heap.get? p=some { cls:=.type "list",data:=.seq its.toArray n }/\xs.length<=sizeLine:=by
 obtain ⟨z,its,n,r,e⟩:=I.hok p _ h
 exact ⟨its,n,r,e,z⟩
theorem Inv.Ux {pins:List (Addr×Obj)} {σ:St} {H:Hp} {s:Shared} {p:Addr} {xs ys:List V} {its its':List Value} {n n':Nat} {f:Obj->Obj} (I:Inv X pins σ H s) (h:H p=some (.lst xs))
   (ho:s.heap.get? p=some { cls:=.type "list",data:=.seq its.toArray n }) (hf:f { cls:=.type "list",data:=.seq its.toArray n }={ cls:=.type "list",data:=.seq its'.toArray n' }) (r:Vals ys its') (hz:ys.length<=sizeLine) (t:Nat) :
   Inv X pins σ (upd H p (.lst ys)) { s with heap:=s.heap.update p f,toks:=t }:=by
 have e:(s.heap.update p f).get? p=some { cls:=.type "list",data:=.seq its'.toArray n' }:=by
   rw [Heap.get?_update_self f ho (by rw [hf]<;>rfl),hf]
 refine I.write (x:=p) (e:=p) (by rw [h];trivial) (.inl rfl) (fun b u hb q=>(Heap.get?_update_other _ _ (Ne.symm hb)).trans q) ⟨_,e⟩ ?_
 exact ⟨hz,its',n',r,e⟩
def Wi:V->V->V->Hp->(Hp->Prop)->Prop:=fun o i v H Q=>∃ p xs k j,o=.ref p/\i=.int k/\H p=some (.lst xs)/\Rm xs.length k=some j/\Q (upd H p (.lst (xs.set j v)))
theorem set_list:Ug X Wi:=by
 intro pins s σ H o i v ov iv u Q I ro ri rv h
 obtain ⟨p,xs,k,j,rfl,rfl,hp,hj,q⟩:=h
 cases ro
 obtain ⟨t,rfl⟩:=ri
 obtain ⟨its,n,r,ho,hz⟩:=I.lst hp
 obtain ⟨h1,h2,h3,h4⟩:=Mq hj
 have hl:=r.length
 have hn:=Bu
 have I':Inv X pins σ (upd H p (.lst (xs.set j v))) { s with heap:=s.heap.update p (Obj.mapSeq (·.setIfInBounds j u)) }:=
   I.Ux hp ho (L0 its n j u) (r.set rv j) (by rw [List.length_set];exact hz) s.toks
 by_cases h0:0<=k
 . have hk:k.toNat=j:=by
     rw [seqIndex_of h0 h4] at h1
     exact Option.some.inj h1
   exact PySem.W.ki_setAt ho h0 (by omega) (by rw [List.size_toArray,<- hl];exact h4) (by rw [hk];exact ⟨_,I',q⟩)
 . have hk:(k+(its.toArray.size:Int)).toNat=j:=by
     rw [seqIndex_neg (by omega) h3] at h1
     rw [List.size_toArray,<- hl]
     exact Option.some.inj h1
   exact PySem.W.ki_setBack ho (by omega) (by rw [List.size_toArray,<- hl];exact h3) (by omega) (by rw [hk];exact ⟨_,I',q⟩)
theorem GQ (lo hi:Option Int) (n:Nat):(sliceBounds lo hi none n).1=((HT.Jp n 0 lo:Nat):Int)/\(sliceBounds lo hi none n).2.1=((HT.Jp n n hi:Nat):Int)/\(sliceBounds lo hi none n).2.2=1:=by
 refine ⟨?_,?_,rfl⟩
 . cases lo with
   | none=>simp [sliceBounds,HT.Jp]
   | some i=>
     simp only [sliceBounds,HT.Jp,Option.getD_none,show (1:Int) > 0 by decide,if_true]
     by_cases h:i < 0
     . simp only [h,if_true]<;>omega
     . simp only [h,if_false]<;>omega
 . cases hi with
   | none=>simp [sliceBounds,HT.Jp]
   | some i=>
     simp only [sliceBounds,HT.Jp,Option.getD_none,show (1:Int) > 0 by decide,if_true]
     by_cases h:i < 0
     . simp only [h,if_true]<;>omega
     . simp only [h,if_false]<;>omega
theorem EK (its:List Value) (lo hi:Option Int):slicePick its.toArray lo hi none=((its.drop (HT.Jp its.length 0 lo)).take (HT.Jp its.length its.length hi - HT.Jp its.length 0 lo)).toArray:=by
 obtain ⟨h1,h2,h3⟩:=GQ lo hi its.toArray.size
 unfold slicePick
 rw [h1,h2,h3]
 simp only [sliceRange_one,pick_run,List.size_toArray]<;>rfl
def Yv (K:PySem.W.Frag):V->Option Int->Option Int->Hp->VK->Prop:=fun x lo hi H Q=>∃ a xs,x=.ref a/\dN K H a xs/\∀ p,H p=none->Q (.ref p) (upd H p (.lst (Lz xs lo hi)))
theorem Ro:Z1 X (Yv X.K):=by
 intro pins s σ H x v vl vu lo hi sl Q I rx hs pl pu h
 obtain ⟨a,xs,rfl,hx,q⟩:=h
 cases rx
 obtain ⟨its,r,ht,hz⟩:=I.list hx
 have hlen:=r.length
 refine ⟨"list",_,slot_list_getitem.lookup,ht.isList.typeIs,?_⟩
 refine wpAny_getItem_list_slice ht.isList hs pl pu .none (by simp) ?_ (by rw [List.size_toArray]<;>omega)
 rw [EK,<- hlen]
 refine ⟨.ref s.heap.objs.size,_,I.laid (t':=s.toks) (o:=.lst (Lz xs lo hi)) (fun b ob q=>Heap.get?_push_of_some _ q) (Nat.le_refl _) ?_,rfl,q _ (I.hok.fresh (Nat.le_refl _))⟩
 exact ⟨Nat.le_trans (Jq xs lo hi) hz,_,0,(r.drop (HT.Jp xs.length 0 lo)).take (HT.Jp xs.length xs.length hi - HT.Jp xs.length 0 lo),Heap.get?_push_size _ rfl⟩
def Co:V->Bool
 | .non=>true
 | .bl _=>true
 | .int _=>true
 | .str _=>true
 | _=>false
def Rp:V->V->Bool
 | .non,.non=>true
 | .bl a,.bl b=>a==b
 | .bl a,.int b=>(if a then 1 else 0)==b
 | .int a,.bl b=>a==(if b then 1 else 0)
 | .int a,.int b=>a==b
 | .str a,.str b=>a==b
 | _,_=>false
theorem Uy {A:Around} {s:Shared} {y x:V} {u v:Value} (ry:RelV y u) (rx:RelV x v) (fy:Co y=true) (fx:Co x=true):SeqAt.EqAt A s u v (Rp y x):=by
 cases y with
 | non=>
   cases ry
   cases x with
   | non=>cases rx;exact SeqAt.EqAt.same _
   | bl b=>cases rx;exact SeqAt.EqAt.none_bool b
   | int b=>obtain ⟨t,rfl⟩:=rx;exact SeqAt.EqAt.none_int b t
   | str b=>obtain ⟨t,rfl⟩:=rx;exact SeqAt.EqAt.none_str b t
   | _=>exact absurd (show false=true from fx) Bool.false_ne_true
 | bl a=>
   cases ry
   cases x with
   | non=>cases rx;exact SeqAt.EqAt.bool_none a
   | bl b=>cases rx;exact SeqAt.EqAt.bool_bool a b
   | int b=>obtain ⟨t,rfl⟩:=rx;exact SeqAt.EqAt.bool_int a b t
   | str b=>obtain ⟨t,rfl⟩:=rx;exact SeqAt.EqAt.bool_str a b t
   | _=>exact absurd (show false=true from fx) Bool.false_ne_true
 | int a=>
   obtain ⟨t',rfl⟩:=ry
   cases x with
   | non=>cases rx;exact SeqAt.EqAt.int_none a t'
   | bl b=>cases rx;exact SeqAt.EqAt.int_bool a t' b
   | int b=>obtain ⟨t,rfl⟩:=rx;exact SeqAt.EqAt.int_int a t' b t
   | str b=>obtain ⟨t,rfl⟩:=rx;exact SeqAt.EqAt.int_str a t' b t
   | _=>exact absurd (show false=true from fx) Bool.false_ne_true
 | str a=>
   obtain ⟨t',rfl⟩:=ry
   cases x with
   | non=>cases rx;exact SeqAt.EqAt.str_none a t'
   | bl b=>cases rx;exact SeqAt.EqAt.str_bool a t' b
   | int b=>obtain ⟨t,rfl⟩:=rx;exact SeqAt.EqAt.str_int a t' b t
   | str b=>obtain ⟨t,rfl⟩:=rx;exact SeqAt.EqAt.str_str a t' b t
   | _=>exact absurd (show false=true from fx) Bool.false_ne_true
 | _=>exact absurd (show false=true from fy) Bool.false_ne_true
def Rq (x:V) (u:Value):Bool:=match u with
 | .none=>Rp .non x
 | .bool b=>Rp (.bl b) x
 | .int i _=>Rp (.int i) x
 | .str z _=>Rp (.str z) x
 | _=>false
theorem OL {x y:V} {u:Value} (r:RelV y u) (f:Co y=true):Rq x u=Rp y x:=by
 cases y with
 | non=>cases r;rfl
 | bl b=>cases r;rfl
 | int i=>obtain ⟨t,rfl⟩:=r;rfl
 | str z=>obtain ⟨t,rfl⟩:=r;rfl
 | _=>exact absurd (show false=true from f) Bool.false_ne_true
theorem GU {x:V}:∀ {xs:List V} {us:List Value},Vals xs us->xs.all Co=true->us.any (Rq x)=xs.any fun y=>Rp y x
 | _,_,.nil,_=>rfl
 | y::xs,u::us,.cons r t,f=>by
   rw [List.all_cons,Bool.and_eq_true] at f
   rw [List.any_cons,List.any_cons,OL r f.1,GU t f.2]
theorem DN {A:Around} {s:Shared} {x:V} {v:Value} (rx:RelV x v) (fx:Co x=true):∀ {xs:List V} {us:List Value},Vals xs us->xs.all Co=true->∀ u ∈ us,SeqAt.EqAt A s u v (Rq x u)
 | _,_,.nil,_=>fun u hu=>by cases hu
 | y::xs,u::us,.cons r t,f=>fun u' hu=>by
   rw [List.all_cons,Bool.and_eq_true] at f
   rcases List.mem_cons.mp hu with rfl | hu
   . rw [OL r f.1];exact Uy r rx f.1 fx
   . exact DN rx fx t f.2 u' hu
def V8 (x:V) (xs:List V):Bool:=xs.any fun y=>Rp y x
def rIn (K:PySem.W.Frag) (neg:Bool):R2:=fun x y H Q=>∃ p xs,y=.ref p/\(dN K H p xs\/rS K H p xs)/\Co x=true/\xs.all Co=true/\Q (.bl (if neg then !V8 x xs else V8 x xs)) H
theorem FY:EI X (compareOp .In) (rIn X.K false):=by
 intro pins s σ H x y v u Q I rx ry h
 obtain ⟨p,xs,rfl,hq,fx,fs,q⟩:=h
 cases ry
 rcases hq with hq | hq
 . obtain ⟨its,r,pl,hz⟩:=I.list hq
   refine SeqAt.in_listAt (Rq x) pl.isList (fun w hw=>DN rx fx r fs w (by simpa using hw)) ⟨.bl _,H,I,rfl,?_⟩
   rw [show its.toArray.any (Rq x)=its.any (Rq x) by simp,GU r fs]
   exact q
 . obtain ⟨its,r,pl,hz⟩:=I.tuple hq
   refine SeqAt.in_tupleAt (Rq x) pl (fun w hw=>DN rx fx r fs w (by simpa using hw)) ⟨.bl _,H,I,rfl,?_⟩
   rw [show its.toArray.any (Rq x)=its.any (Rq x) by simp,GU r fs]
   exact q
theorem bT:Jk X (.builtin "len") (fun xs H Q=>∃ p ys,xs=[.ref p]/\(dN X.K H p ys\/rS X.K H p ys)/\Q (.int ys.length) H):=by
 intro pins s σ H xs us Q I r h
 obtain ⟨p,ys,rfl,hq,q⟩:=h
 obtain ⟨u,rfl,rx⟩:=vals1 r
 cases rx
 have hn:=Bu
 rcases hq with hq | hq
 . obtain ⟨its,r',pl,hz⟩:=I.list hq
   have hlen:=r'.length
   exact Calls.call_len_list pl.isList (by simp only [List.size_toArray]<;>omega) ⟨.int ys.length,H,I.tok _,⟨s.toks+1,by rw [List.size_toArray,hlen]⟩,q⟩
 . obtain ⟨its,r',pl,hz⟩:=I.tuple hq
   have hlen:=r'.length
   exact len_tuple pl (by simp only [List.size_toArray]<;>omega) ⟨.int ys.length,H,I.tok _,⟨s.toks+1,by rw [List.size_toArray,hlen]⟩,q⟩
theorem GV:Jk X (.type "list") (fun xs H Q=>∃ p ys,xs=[.ref p]/\(dN X.K H p ys\/rS X.K H p ys)/\∀ l,H l=none->Q (.ref l) (upd H l (.lst ys))):=by
 intro pins s σ H xs us Q I r h
 obtain ⟨p,ys,rfl,hq,q⟩:=h
 obtain ⟨u,rfl,rx⟩:=vals1 r
 cases rx
 have fin:∀ (its:List Value),Vals ys its->ys.length<=sizeLine->∀ (h':Heap) (c':Nat),(∀ b o',s.heap.get? b=some o'->h'.get? b=some o')->
     h'.get? s.heap.objs.size=some { cls:=.type "list",dict:=none,data:=.seq its.toArray c',slots:=#[] }->EP X pins σ Q (.ref s.heap.objs.size) { s with heap:=h' }:=fun its r' hz h' c' kp e=>
   ⟨.ref s.heap.objs.size,_,I.laid (t':=s.toks) kp (Nat.le_refl _) (show cS X.prog X.w _ h' _ (.lst ys) from ⟨hz,its,c',r',e⟩),rfl,q _ (I.hok.fresh (Nat.le_refl _))⟩
 rcases hq with hq | hq
 . obtain ⟨its,r',pl,hz⟩:=I.list hq
   have hlen:=r'.length
   obtain ⟨o,ho,hc,n,hd⟩:=pl.isList
   exact call_list_seq p (.inl rfl) ho hc hd (fun h' c' kp e=>fin its r' hz h' c' kp e) (by simp only [List.size_toArray]<;>omega)
 . obtain ⟨its,r',pl,hz⟩:=I.tuple hq
   have hlen:=r'.length
   obtain ⟨o,ho,hc,n,hd⟩:=pl
   exact call_list_seq p (.inr rfl) ho hc hd (fun h' c' kp e=>fin its r' hz h' c' kp e) (by simp only [List.size_toArray]<;>omega)
theorem xQ:Jk X (.type "tuple") (fun xs H Q=>∃ p ys,xs=[.ref p]/\((dN X.K H p ys/\∀ l,H l=none->Q (.ref l) (upd H l (.tup ys)))\/(rS X.K H p ys/\Q (.ref p) H))):=by
 intro pins s σ H xs us Q I r h
 obtain ⟨p,ys,rfl,h⟩:=h
 obtain ⟨u,rfl,rx⟩:=vals1 r
 cases rx
 rcases h with ⟨hq,q⟩ | ⟨hq,q⟩
 . obtain ⟨its,r',pl,hz⟩:=I.list hq
   have hlen:=r'.length
   refine call_tuple_list pl.isList (fun h' kp=>?_) (by simp only [List.size_toArray]<;>omega)
   have I1:Inv X pins σ H { s with heap:=h' }:=I.kept (t':=s.toks) kp
   have I2:Inv X pins σ (upd H h'.objs.size (.tup ys)) { s with heap:=h'.push { cls:=.type "tuple",data:=.seq its.toArray } }:=
     I1.laid (t':=s.toks) (fun b o e=>Heap.get?_push_of_some _ e) (Nat.le_refl _) (show cS X.prog X.w _ _ _ (.tup ys) from ⟨hz,its,r',IsTup.new _ _⟩)
   exact ⟨.ref h'.objs.size,_,I2,rfl,q _ (I1.hok.fresh (Nat.le_refl _))⟩
 . obtain ⟨its,r',pl,hz⟩:=I.tuple hq
   exact call_tuple_same pl ⟨.ref p,H,I,rfl,q⟩
def Z2 (K:PySem.W.Frag) (T:String) (x:V) (H:Hp):Prop:=match x with
 | .str _=>T = "str"
 | .int _=>T = "int"
 | .ref p=>(T = "list"/\∃ xs,dN K H p xs)\/(T = "tuple"/\∃ o,K.lookup p=some o/\o.cls=.type "tuple"/\o.dict=none) \/
     (T = "dict"/\((∃ kvs,H p=some (.dK kvs))\/∃ kvs,H p=some (.dT kvs)))\/(T = "set"/\∃ S n,H p=some (.set S n))
 | _=>False
theorem Uz {pins:List (Addr×Obj)} {σ:St} {H:Hp} {s:Shared} {T:String} {x:V} {v:Value} (I:Inv X pins σ H s) (r:RelV x v) (ty:Z2 X.K T x H) :
   s.TypeIs v T/\∀ a,v=.ref a->∃ ob,s.heap.get? a=some ob/\ob.dict=none:=by
 cases x with
 | str z=>
   obtain ⟨t,rfl⟩:=r
   cases (show T = "str" from ty)
   exact ⟨typeIs_str s z t,fun _ e=>nomatch e⟩
 | int i=>
   obtain ⟨t,rfl⟩:=r
   cases (show T = "int" from ty)
   exact ⟨typeIs_int s i t,fun _ e=>nomatch e⟩
 | ref p=>
   cases r
   rcases ty with ⟨rfl,xs,hq⟩ | ⟨rfl,o,hk,hc,hd⟩ | ⟨rfl,hk⟩ | ⟨rfl,S,n,hk⟩
   . obtain ⟨its,_,pl,_⟩:=I.list hq
     refine ⟨pl.isList.typeIs,fun a e=>?_⟩
     cases e
     obtain ⟨o,n,e,c,hd,_⟩:=pl
     exact ⟨o,e,hd⟩
   . refine ⟨⟨o,I.yY p o hk,hc⟩,fun a e=>?_⟩
     cases e
     exact ⟨o,I.yY _ o hk,hd⟩
   . have z:∃ o,s.heap.get? p=some o/\o.ExactDict:=by
       rcases hk with ⟨kvs,hk⟩ | ⟨kvs,hk⟩
       . obtain ⟨_,_,_,_,o,_,_,e,ex,_⟩:=I.hok p _ hk
         exact ⟨o,e,ex⟩
       . obtain ⟨_,_,_,_,o,_,_,e,ex,_⟩:=I.hok p _ hk
         exact ⟨o,e,ex⟩
     obtain ⟨o,e,ex⟩:=z
     refine ⟨⟨o,e,ex.1⟩,fun a e2=>?_⟩
     cases e2
     exact ⟨o,e,ex.2.1⟩
   . obtain ⟨o,_,_,_,e,ex,_⟩:=I.hok p _ hk
     refine ⟨⟨o,e,ex.1⟩,fun a e2=>?_⟩
     cases e2
     exact ⟨o,e,ex.2.1⟩
 | _=>exact False.elim ty
def tBM (K:PySem.W.Frag) (T:String) (r:V->List V->Hp->VK->Prop) (to:TE) (t:TA):TE:=fun σ H Q=>to σ H fun x H1=>Z2 K T x H1/\t σ H1 fun xs H2=>r x xs H2 Q
variable {o e:Expr} {es:List Expr} {to:TE} {t:TA} {name:Str} {apos cpos:Pos} {T id:String} {r:V->List V->Hp->VK->Prop}
theorem xR (pa:PlainAttrs T) (slot:Slot T name id) (hty:typeOf (.builtin id)=pure (.type "method_descriptor")) (hm:MtR X id r) (ho:PE X o to) (ha:PA X (e::es) t)
   (hbase:attributeBase o name X.env (eval o X.env)=eval o X.env:=by rfl)
   (hfew:((backTo cpos (starEach (e::es) X.env)).all (fun x=>!x.1)&&(backToKw cpos (keywordEach [] X.env)).all (fun x=>x.1.isSome)
    &&decide ((e::es).length+([]:List Keyword).length+(if ([]:List Keyword).isEmpty then 0 else 1) < 30))=true:=by rfl)
   (hline:(apos.endLine==cpos.line)=true:=by rfl) (hs:starEach (e::es) X.env=(false,eval e X.env)::starEach es X.env:=by rfl) (hplain:(backTo cpos (starEach es X.env)).any (·.1)=false:=by rfl) :
   PE X (.Call (.Attribute o name apos) (e::es) [] cpos) (tBM X.K T r to t):=by
 intro pins s σ H Q I h
 refine wpAny_Call_method_late hbase hfew hline rfl (d7 (ho pins s σ H _ I h) fun v s1 ⟨x,H1,I1,r1,ty,q1⟩=>?_)
 obtain ⟨h1,h2⟩:=Uz I1 r1 ty
 refine ⟨T,id,pa,slot,hty,h1,h2,?_⟩
 have hA:=ha cpos pins s1 σ H1 _ I1 q1
 rw [hs] at hA ⊢
 refine Calls.callWith_builtin (by show (false||(backTo cpos (starEach es X.env)).any (·.1))=false;rw [hplain]<;>rfl) (Calls.evalArgs_plain ?_)
 exact d7 hA fun us s2 ⟨vs,H2,I2,r2,q2⟩=>hm pins s2 σ H2 x vs v us Q I2 r1 r2 q2
end
end L2
namespace L2
open PySem PySem.Spec PyProof.Rows
def Z3 (X:Cx) (id:String) (r:V->List V->Hp->VK->Prop):Prop:=
 ∀ (pins:List (Addr×Obj)) (s:Shared) (σ:St) (H:Hp) (x:V) (xs:List V) (v:Value) (us:List Value) (Q:VK),Inv X pins σ H s->RelV x v->Vals xs us->r x xs H Q->
   wpAny (model X.prog X.w) X.A (call (.builtin id) (v::us)) (EP X pins σ Q) X.xe s
theorem Vals.one:∀ {x:V} {us:List Value},Vals [x] us->∃ u,us=[u]/\RelV x u
 | _,_,.cons r .nil=>⟨_,rfl,r⟩
theorem Vals.eraseIdx:∀ {xs:List V} {us:List Value} (i:Nat),Vals xs us->Vals (xs.eraseIdx i) (us.eraseIdx i)
 | _,_,_,.nil=>.nil
 | _,_,0,.cons _ t=>t
 | _,_,i+1,.cons r t=>.cons r (Vals.eraseIdx i t)
theorem Vals.rep {xs:List V} {us:List Value} (h:Vals xs us):∀ k:Nat,Vals (List.replicate k xs).flatten (List.replicate k us).flatten
 | 0=>.nil
 | k+1=>by
   rw [List.replicate_succ,List.replicate_succ,List.flatten_cons,List.flatten_cons]
   exact Vals.append h (Vals.rep h k)
theorem FZ {α:Type}:∀ (l:List α) (i:Nat),(l.eraseIdx i).length<=l.length
 | [],_=>Nat.le_refl _
 | _::_,0=>Nat.le_succ _
 | _::r,i+1=>Nat.succ_le_succ (FZ r i)
theorem foldl_rep (its:List Value):∀ (k:Nat) (acc:List Value),
   List.foldl (fun x1 x2=>x1++x2) acc.toArray (List.replicate k its.toArray)=(acc++(List.replicate k its).flatten).toArray
 | 0,acc=>by simp
 | k+1,acc=>by
   have e:acc.toArray++its.toArray=(acc++its).toArray:=by simp
   have e2:(acc++its)++(List.replicate k its).flatten=acc++(List.replicate (k+1) its).flatten:=by
     rw [List.replicate_succ,List.flatten_cons,List.append_assoc]
   rw [<- e2,<- foldl_rep its k (acc++its),<- e,List.replicate_succ,List.foldl_cons]
section
variable {X:Cx} {pins:List (Addr×Obj)} {σ:St} {H:Hp} {s:Shared} {l b:Addr} {xs ys zs:List V}
theorem Inv.Wj {its its':List Value} {n:Nat} {f:Array Value->Array Value} {t':Nat} (I:Inv X pins σ H s) (hH:H l=some (.lst xs))
   (e:s.heap.get? l=some { cls:=.type "list",data:=.seq its.toArray n }) (hf:f its.toArray=its'.toArray) (hv:Vals ys its') (hz:ys.length<=sizeLine) :
   Inv X pins σ (upd H l (.lst ys)) { s with heap:=s.heap.update l (Obj.mapSeq f),toks:=t' }:=by
 have q:=PySem.IsL.update e f
 rw [hf] at q
 refine I.write (x:=l) (e:=l) (by rw [hH];exact trivial) (.inl rfl) (fun b' u hb hu=>(Heap.get?_update_other s.heap (Obj.mapSeq f) (Ne.symm hb)).trans hu) ⟨_,q⟩ ?_
 exact ⟨hz,its',_,hv,q⟩
theorem Inv.Wl {its:List Value} {t':Nat} (I:Inv X pins σ H s) (hv:Vals ys its) (hz:ys.length<=sizeLine) :
   Inv X pins σ (upd H s.heap.objs.size (.lst ys)) { s with heap:=s.heap.push { cls:=.type "list",data:=.seq its.toArray },toks:=t' }:=
 I.laid (fun _ _ q=>Heap.get?_push_of_some _ q) (Nat.le_refl _) ⟨hz,its,0,hv,Heap.get?_push_size _ rfl⟩
theorem Inv.fresh (I:Inv X pins σ H s):H s.heap.objs.size=none:=I.hok.fresh (Nat.le_refl _)
theorem Inv.OM (I:Inv X pins σ H s) (hH:H l=some (.lst xs)):xs.length<=sizeLine/\∃ (its:List Value) (n:Nat),Vals xs its/\xs.length=its.length/\s.heap.get? l=some { cls:=.type "list",data:=.seq its.toArray n }:=by
 obtain ⟨z,its,n,r,e⟩:=I.hok l _ hH
 exact ⟨z,its,n,r,r.length,e⟩
theorem ON {n:Nat} (h:n<=sizeLine):Builtin.List.listTooLong n=false:=by
 unfold Builtin.List.listTooLong
 exact decide_eq_false (by omega)
end
section
variable {X:Cx}
def Rr:V->List V->Hp->VK->Prop:=fun x vs H Q=>∃ l xs y,x=.ref l/\vs=[y]/\H l=some (.lst xs)/\xs.length < sizeLine/\Q .non (upd H l (.lst (xs++[y])))
theorem gW:Z3 X "list.append" Rr:=by
 intro pins s σ H x vs v us Q I rx rv h
 obtain ⟨l,xs,y,rfl,rfl,hH,hz,q⟩:=h
 cases rx
 obtain ⟨u,rfl,ru⟩:=rv.one
 obtain ⟨z,its,n,r,hl,e⟩:=I.OM hH
 refine call_meets F.slot_list_append ⟨_,e,rfl⟩ F.entry_list_append (F.args_list_append_2 _ _) (PySem.list_append l its.toArray n u (by rw [List.size_toArray];omega)) ⟨e,?_⟩
 refine ⟨.non,_,I.Wj (its':=its++[u]) hH e (by simp) (r.append (.cons ru .nil)) ?_,rfl,q⟩
 rw [List.length_append,List.length_singleton]
 omega
def U0:V->List V->Hp->VK->Prop:=fun x vs H Q=>∃ l xs i k y,x=.ref l/\vs=[.int i]/\H l=some (.lst xs)/\-(2 ^ 63)<=i/\i < 2 ^ 63/\seqIndex? i xs.length=some k/\xs[k]?=some y/\Q y (upd H l (.lst (xs.eraseIdx k)))
theorem OO:Z3 X "list.pop" U0:=by
 intro pins s σ H x vs v us Q I rx rv h
 obtain ⟨l,xs,i,k,y,rfl,rfl,hH,h1,h2,hk,hy,q⟩:=h
 cases rx
 obtain ⟨u,rfl,ru⟩:=rv.one
 obtain ⟨t,rfl⟩:=ru
 obtain ⟨z,its,n,r,hl,e⟩:=I.OM hH
 obtain ⟨w,hw,rw'⟩:=r.get hy
 refine call_meets F.slot_list_pop ⟨_,e,rfl⟩ F.entry_list_pop (F.args_list_pop_2 _ _)
   (MeetsSeq.list_pop_at l its.toArray n i t k w (fitsIndex_both h1 h2) (by rw [List.size_toArray,<- hl];exact hk) (by rw [<- Array.getElem?_toList];exact hw) (by rw [List.size_toArray];omega)) ⟨e,?_⟩
 refine ⟨y,_,I.Wj (its':=its.eraseIdx k) hH e ?_ (r.eraseIdx k) ?_,rw',q⟩
 . show its.toArray.eraseIdxIfInBounds k=(its.eraseIdx k).toArray
   rw [List.eraseIdxIfInBounds_toArray]
 . have:=FZ xs k
   omega
def Yw:R2:=fun x y H Q=>∃ l b xs zs,x=.ref l/\y=.ref b/\H l=some (.lst xs)/\H b=some (.lst zs)/\xs.length+zs.length<=sizeLine/\∀ p,H p=none->Q (.ref p) (upd H p (.lst (xs++zs)))
theorem OP:EI X (binaryOp .Add) Yw:=by
 intro pins s σ H x y v u Q I rx ry h
 obtain ⟨l,b,xs,zs,rfl,rfl,hH,hB,hz,q⟩:=h
 cases rx
 cases ry
 obtain ⟨z,its,n,r,hl,e⟩:=I.OM hH
 obtain ⟨z2,its2,n2,r2,hl2,e2⟩:=I.OM hB
 refine PySem.P.add_list e e2 ?_ (by rw [List.size_toArray,List.size_toArray];omega)
 have ea:its.toArray++its2.toArray=(its++its2).toArray:=by simp
 rw [ea]
 exact ⟨.ref _,_,I.Wl (t':=s.toks) (r.append r2) (by rw [List.length_append];omega),rfl,q _ I.fresh⟩
def Yx:R2:=fun x y H Q=>∃ l k xs,x=.ref l/\y=.int k/\H l=some (.lst xs)/\-(2 ^ 63)<=k/\k < 2 ^ 63/\xs.length * k.toNat<=sizeLine /\
 ∀ p,H p=none->Q (.ref p) (upd H p (.lst (List.replicate k.toNat xs).flatten))
theorem len_rep {α:Type} (xs:List α) (k:Nat):(List.replicate k xs).flatten.length=k * xs.length:=by
 induction k with
 | zero=>simp
 | succ k ih=>rw [List.replicate_succ,List.flatten_cons,List.length_append,ih,Nat.succ_mul,Nat.add_comm]
theorem OQ:EI X (binaryOp .Mult) Yx:=by
 intro pins s σ H x y v u Q I rx ry h
 obtain ⟨l,k,xs,rfl,rfl,hH,h1,h2,hz,q⟩:=h
 cases rx
 obtain ⟨t,rfl⟩:=ry
 obtain ⟨z,its,n,r,hl,e⟩:=I.OM hH
 have hlen:its.toArray.size * k.toNat<=sizeLine:=by rw [List.size_toArray,<- hl];exact hz
 have hcap:¬ its.toArray.size * k.toNat > (2 ^ 63 - 1) / 8:=by
   have:(sizeLine:Nat)<=(2 ^ 63 - 1) / 8:=by decide
   omega
 have hfit:¬ (!Builtin.List.listFitsIndex k)=true:=by
   rw [fitsIndex_both h1 h2]
   exact Bool.false_ne_true
 have Wm:¬ Builtin.List.listTooLong (its.toArray.size * k.toNat)=true:=by
   rw [ON hlen]
   exact Bool.false_ne_true
 have hnew:List.foldl (fun x1 x2=>x1++x2) #[] (List.replicate (if its.toArray.isEmpty=true then 0 else k.toNat) its.toArray)=(List.replicate k.toNat its).flatten.toArray:=by
   have f0:∀ m:Nat,List.foldl (fun x1 x2=>x1++x2) #[] (List.replicate m its.toArray)=(List.replicate m its).flatten.toArray:=fun m=>by
     have:=foldl_rep its m []
     rw [List.nil_append] at this
     exact this
   rw [f0]
   cases its with
   | nil=>simp
   | cons a r'=>rw [if_neg (by simp)]
 refine wpAny_binaryOp_repeat_ref (T:="list") (U:="int") (by decide) ⟨_,e,rfl⟩ (fun s'=>typeIs_int s' k t) noFill_list_mul F.fills_int_mul F.slot_int_rmul repeat_list F.slot_int_index.lookup
   (call_meets F.slot_int_rmul (typeIs_int s k t) F.entry_int_rmul (F.args_int_rmul_2 _ _) (int___rmul___int_list k t l its.toArray n)
     ⟨e,rfl,⟨_,e,rfl⟩,call_meets F.slot_list_mul ⟨_,e,rfl⟩ F.entry_list_mul (F.args_list_mul_2 _ _) (AutoListH.list___mul___list_int_3 l its.toArray n k t hfit hcap Wm) ⟨e,?_⟩⟩)
 rw [hnew]
 exact ⟨.ref _,_,I.Wl (t':=s.toks) (r.rep k.toNat) (by rw [len_rep,Nat.mul_comm];exact hz),rfl,q _ I.fresh⟩
end
section
variable {prog:Program} {w:World} {A:Around} {E:Value->Shared->Prop} {s:Shared}
end
section
variable {X:Cx}
end
end L2
namespace L2
open PySem PySem.Spec PyProof.Rows
theorem Vals.ints:∀ {ns:List Int} {us:List Value},Vals (ns.map V.int) us->IntsAre us ns
 | [],us,h=>by
   rw [List.map_nil] at h
   cases h
   exact IntsAre.nil
 | n::ns,us,h=>by
   rw [List.map_cons] at h
   cases h with
   | cons r t=>
     obtain ⟨k,rfl⟩:=r
     exact IntsAre.cons n k (Vals.ints t)
theorem Vals.Yy {a:Addr} {us:List Value} (r:Vals [V.ref a] us):us=[Value.ref a]:=by
 cases r with
 | cons r t=>
   cases t
   cases r
   rfl
section
variable {prog:Program} {w:World} {A:Around} {E:Value->Shared->Prop} {s:Shared} {l:Addr} {its:List Value} {ns:List Int} {Q:Value->Shared->Prop}
end
section
variable {X:Cx}
end
mutual
inductive Dp (K:PySem.W.Frag) (H:Hp):V->PyData->Prop
 | non:Dp K H .non .none
 | bl (b:Bool):Dp K H (.bl b) (.bool b)
 | int (i:Int):Dp K H (.int i) (.int i)
 | str (x:Str):Dp K H (.str x) (.str x)
 | lst {a:Addr} {xs:List V} {ds:List PyData}:dN K H a xs->Ga K H xs ds->Dp K H (.ref a) (.list ds)
 | tup {a:Addr} {xs:List V} {ds:List PyData}:rS K H a xs->Ga K H xs ds->Dp K H (.ref a) (.tuple ds)
inductive Ga (K:PySem.W.Frag) (H:Hp):List V->List PyData->Prop
 | nil:Ga K H [] []
 | cons {v:V} {vs:List V} {d:PyData} {ds:List PyData}:Dp K H v d->Ga K H vs ds->Ga K H (v::vs) (d::ds)
end
section
variable {X:Cx} {pins:List (Addr×Obj)} {σ:St} {H:Hp} {s:Shared}
mutual
theorem Dp.reads (I:Inv X pins σ H s):∀ (d:PyData) (v:V) (u:Value),Dp X.K H v d->RelV v u->∃ as,Reads s.heap u d as
 | .none,_,_,h,r=>by
   cases h
   cases r
   exact ⟨_,Reads.none⟩
 | .bool b,_,_,h,r=>by
   cases h
   cases r
   exact ⟨_,Reads.bool b⟩
 | .int i,_,_,h,r=>by
   cases h
   obtain ⟨t,rfl⟩:=r
   exact ⟨_,Reads.int i t⟩
 | .str x,_,_,h,r=>by
   cases h
   obtain ⟨t,rfl⟩:=r
   exact ⟨_,Reads.str x t⟩
 | .list ds,_,_,h,r=>by
   cases h with
   | lst hs ha=>
     cases r
     obtain ⟨its,rv,⟨o,n,ho,hc,_,hd⟩,_⟩:=I.list hs
     obtain ⟨as,hr⟩:=Dp.readsAll I ds _ its ha rv
     exact ⟨_,Reads.list ho hc hd hr⟩
 | .tuple ds,_,_,h,r=>by
   cases h with
   | tup hs ha=>
     cases r
     obtain ⟨its,rv,⟨o,ho,hc,n,hd⟩,_⟩:=I.tuple hs
     obtain ⟨as,hr⟩:=Dp.readsAll I ds _ its ha rv
     exact ⟨_,Reads.tuple ho hc hd hr⟩
 | .dict _,_,_,h,_=>by cases h
theorem Dp.readsAll (I:Inv X pins σ H s):∀ (ds:List PyData) (vs:List V) (us:List Value),Ga X.K H vs ds->Vals vs us->∃ as,ReadsAll s.heap us ds as
 | [],_,_,h,r=>by
   cases h
   cases r
   exact ⟨_,ReadsAll.nil⟩
 | d::ds,_,_,h,r=>by
   cases h with
   | cons h1 h2=>
     cases r with
     | cons r1 r2=>
       obtain ⟨as,q1⟩:=Dp.reads I d _ _ h1 r1
       obtain ⟨bs,q2⟩:=Dp.readsAll I ds _ _ h2 r2
       exact ⟨_,ReadsAll.cons q1 q2⟩
end
end
section
variable {X:Cx}
end
end L2
namespace L2
open PySem PySem.Spec PyProof.Rows
abbrev OS (h:Heap) (c:Addr) (v:Option Value):Prop:=h.IsCell c v
def Yz (scope sc:Scope):Scope:=
 { scope with names:=scope.names.map fun (n,k)=>if (k==.free&&sc.kind==.function&&sc.names.lookup n==some .cell) then (n,.cell) else (n,k) }
def d9 (cells:List (Str×Addr)):List (Str×NameKind)->List (Str×Addr)->List (Str×Addr)
 | [],acc=>acc
 | (n,k)::r,acc=>if k==.free then d9 cells r ((n,(cells.lookup n).getD 0)::acc) else d9 cells r acc
theorem z8 (env:Env) (f:Str×NameKind->List (Str×Addr)->Sem (ForInStep (List (Str×Addr))))
   (hf:∀ n k c,f (n,k) c=if k==.free then (do let a <- cellOf env n;pure (.yield ((n,a)::c))) else pure (.yield c)) :
   ∀ (names:List (Str×NameKind)) (acc:List (Str×Addr)),(∀ y ∈ names,y.2=.free->∃ c,env.cells.lookup y.1=some c)->forIn names acc f=pure (d9 env.cells names acc)
 | [],acc,_=>by rw [List.forIn_nil];rfl
 | (n,k)::r,acc,h=>by
   rw [List.forIn_cons,hf]
   have ih:=fun acc=>z8 env f hf r acc fun y hy=>h y (List.mem_cons_of_mem _ hy)
   unfold d9
   by_cases hk:(k==NameKind.free)=true
   . rw [if_pos hk,if_pos hk]
     obtain ⟨c,hc⟩:=h (n,k) List.mem_cons_self (by simpa using hk)
     have e:cellOf env n=pure c:=by unfold cellOf;rw [hc]
     rw [e]
     have e2:(env.cells.lookup n).getD 0=c:=by rw [hc];rfl
     rw [e2]
     exact ih _
   . rw [if_neg hk,if_neg hk]
     exact ih _
theorem L1 {scope:Scope} {env:Env} (h:∀ y ∈ scope.names,y.2=.free->∃ c,env.cells.lookup y.1=some c):closureFor scope env=pure (d9 env.cells scope.names []):=by
 simp only [closureFor]
 rw [z8 env _ (fun n k c=>rfl) scope.names [] h]
 rfl
theorem mem_lookup {α:Type}:∀ {l:List (Str×α)} {n:Str} {c:α},(n,c) ∈ l->∃ c',l.lookup n=some c'
 | (k,v)::r,n,c,h=>by
   rw [List.lookup_cons]
   cases hb:n==k with
   | true=>exact ⟨_,rfl⟩
   | false=>
     rcases List.mem_cons.mp h with e | h
     . cases e;simp at hb
     . exact mem_lookup h
theorem oz {cells:List (Str×Addr)}:∀ {names:List (Str×NameKind)} {acc:List (Str×Addr)} {n:Str} {c:Addr},(n,c) ∈ d9 cells names acc->(n,c) ∈ acc\/((n,.free) ∈ names/\c=(cells.lookup n).getD 0)
 | [],_,_,_,h=>.inl h
 | (m,k)::r,acc,n,c,h=>by
   unfold d9 at h
   split at h
   . rename_i hk
     have hk:k=.free:=by simpa using hk
     rcases oz h with h | ⟨h1,h2⟩
     . rcases List.mem_cons.mp h with e | h
       . cases e;exact .inr ⟨hk ▸ List.mem_cons_self,rfl⟩
       . exact .inl h
     . exact .inr ⟨List.mem_cons_of_mem _ h1,h2⟩
   . rcases oz h with h | ⟨h1,h2⟩
     . exact .inl h
     . exact .inr ⟨List.mem_cons_of_mem _ h1,h2⟩
theorem vm {cells:List (Str×Addr)}:∀ {names:List (Str×NameKind)} {acc:List (Str×Addr)} {p:Str×Addr},p ∈ acc->p ∈ d9 cells names acc
 | [],_,_,h=>h
 | (m,k)::r,acc,p,h=>by
   unfold d9
   split
   . exact vm (List.mem_cons_of_mem _ h)
   . exact vm h
theorem vo {cells:List (Str×Addr)}:∀ {names:List (Str×NameKind)} {acc:List (Str×Addr)} {n:Str},(n,.free) ∈ names->(n,(cells.lookup n).getD 0) ∈ d9 cells names acc
 | (m,k)::r,acc,n,h=>by
   unfold d9
   rcases List.mem_cons.mp h with e | h
   . cases e
     exact vm List.mem_cons_self
   . split
     . exact vo h
     . exact vo h
theorem qe:∀ {names:List (Str×NameKind)} {h:Heap} {acc:List (Str×Addr)} {x:Str} {c:Addr},(x,c) ∈ cellsFrom h.objs.size names acc->
   (x,c) ∈ acc\/((x,.cell) ∈ names/\h.objs.size<=c/\OS (pushCells h names) c none)
 | [],_,_,_,_,h=>.inl h
 | (n,k)::r,h,acc,x,c,hm=>by
   unfold cellsFrom at hm
   unfold pushCells
   split at hm
   . rename_i hk
     rw [if_pos hk]
     have hk:k=.cell:=by simpa using hk
     rw [<- Heap.size_push h { cls:=.type "cell",data:=.cell none }] at hm
     rcases qe hm with hm | ⟨h1,h2,h3⟩
     . rcases List.mem_cons.mp hm with e | hm
       . cases e
         exact .inr ⟨hk ▸ List.mem_cons_self,Nat.le_refl _,_,pushCells_keeps r _ _ _ (Heap.get?_push_size _ rfl),rfl⟩
       . exact .inl hm
     . rw [Heap.size_push] at h2
       exact .inr ⟨List.mem_cons_of_mem _ h1,Nat.le_of_succ_le h2,h3⟩
   . rename_i hk
     rw [if_neg hk]
     rcases qe hm with hm | ⟨h1,h2,h3⟩
     . exact .inl hm
     . exact .inr ⟨List.mem_cons_of_mem _ h1,h2,h3⟩
theorem xq:∀ {names:List (Str×NameKind)} {n:Nat} {acc:List (Str×Addr)} {p:Str×Addr},p ∈ acc->p ∈ cellsFrom n names acc
 | [],_,_,_,h=>h
 | (m,k)::r,n,acc,p,h=>by
   unfold cellsFrom
   split
   . exact xq (List.mem_cons_of_mem _ h)
   . exact xq h
theorem Bx:∀ {names:List (Str×NameKind)} {n:Nat} {acc:List (Str×Addr)} {x:Str},(x,.cell) ∈ names->∃ c,(x,c) ∈ cellsFrom n names acc
 | (m,k)::r,n,acc,x,h=>by
   unfold cellsFrom
   rcases List.mem_cons.mp h with e | h
   . cases e
     exact ⟨n,xq List.mem_cons_self⟩
   . split
     . exact Bx h
     . exact Bx h
theorem By:∀ {names:List (Str×NameKind)} {h:Heap} {acc:List (Str×Addr)} {x y:Str} {c:Addr},(∀ p ∈ acc,p.2 < h.objs.size)->(∀ x y c,(x,c) ∈ acc->(y,c) ∈ acc->x=y)->
   (x,c) ∈ cellsFrom h.objs.size names acc->(y,c) ∈ cellsFrom h.objs.size names acc->x=y
 | [],_,_,_,_,_,_,hi,h1,h2=>hi _ _ _ h1 h2
 | (n,k)::r,h,acc,x,y,c,hl,hi,h1,h2=>by
   unfold cellsFrom at h1 h2
   split at h1
   . rename_i hk
     rw [if_pos hk] at h2
     rw [<- Heap.size_push h { cls:=.type "cell",data:=.cell none }] at h1 h2
     refine By (h:=h.push _) (fun p hp=>?_) (fun x y c a b=>?_) h1 h2
     . rw [Heap.size_push]
       rcases List.mem_cons.mp hp with rfl | hp
       . exact Nat.lt_succ_self _
       . exact Nat.lt_succ_of_lt (hl p hp)
     . rcases List.mem_cons.mp a with e | a<;>rcases List.mem_cons.mp b with e' | b
       . cases e;cases e';rfl
       . cases e;exact absurd (hl _ b) (Nat.lt_irrefl _)
       . cases e';exact absurd (hl _ a) (Nat.lt_irrefl _)
       . exact hi _ _ _ a b
   . rename_i hk
     rw [if_neg hk] at h2
     exact By hl hi h1 h2
theorem Jr {M:Model} {A:Around} {E:Value->Shared->Prop} {s:Shared} {scope:Scope} {globals:Addr} {closure:List (Str×Addr)} {qual:Str} {func:Option Addr} {code:Value} {around:Env} {builtins:Addr} {Q:Env->Shared->Prop}
   (h:Q (newEnv scope s.heap.objs.size globals (cellsFrom (s.heap.objs.size+1) scope.names closure) qual func code (some around) builtins)
     { s with heap:=pushCells (s.heap.push { cls:=.type "dict",data:=.dict #[] }) scope.names }) :
   wpAny M A (newFunctionEnv scope globals closure [] qual func code (some around) builtins) Q E s:=by
 simp only [newFunctionEnv,Option.isSome_some,if_true]
 refine wpAny_bind (wpAny_alloc ?_)
 refine wpAny_bind (wpAny_layCells _ (fun n k c=>rfl) scope.names closure _ _ ?_)
 rw [show ({ s with heap:=s.heap.push { cls:=.type "dict",data:=.dict #[] } }:Shared).heap.objs.size=s.heap.objs.size+1 from Heap.size_push ..]
 rw [List.forIn_nil]
 exact wpAny_bind (wpAny_pure (wpAny_pure h))
theorem vp {sc:Scope}:∀ {names:List (Str×NameKind)} {x:Str} {k:NameKind},
   (names.map fun (n,k)=>if (k==NameKind.free&&sc.kind==.function&&sc.names.lookup n==some .cell) then (n,NameKind.cell) else (n,k)).lookup x=some k->
   ∃ k',names.lookup x=some k'/\(k=k'\/(k'=.free/\k=.cell))
 | [],_,_,h=>by simp at h
 | (n,k₀)::r,x,k,h=>by
   have ih:=@vp sc r x k
   have h':List.lookup x ((if (k₀==NameKind.free&&sc.kind==.function&&sc.names.lookup n==some .cell)=true then (n,NameKind.cell) else (n,k₀))::(r.map _))=some k:=h
   cases hx:x==n with
   | true=>
     simp only [List.lookup_cons,hx]
     by_cases hc:(k₀==NameKind.free&&sc.kind==.function&&sc.names.lookup n==some .cell)=true
     . rw [if_pos hc] at h'
       simp only [List.lookup_cons,hx] at h'
       cases h'
       simp only [Bool.and_eq_true,beq_iff_eq] at hc
       exact ⟨k₀,rfl,.inr ⟨hc.1.1,rfl⟩⟩
     . rw [if_neg hc] at h'
       simp only [List.lookup_cons,hx] at h'
       cases h'
       exact ⟨_,rfl,.inl rfl⟩
   | false=>
     simp only [List.lookup_cons,hx]
     by_cases hc:(k₀==NameKind.free&&sc.kind==.function&&sc.names.lookup n==some .cell)=true
     . rw [if_pos hc] at h'
       simp only [List.lookup_cons,hx] at h'
       exact ih h'
     . rw [if_neg hc] at h'
       simp only [List.lookup_cons,hx] at h'
       exact ih h'
structure Js (N:List Str) (sc scope:Scope) (own:List (Str×Nat)):Prop where
 kind:scope.kind=.function
 uniq:∀ y ∈ scope.names,scope.names.lookup y.1=some y.2
 ix:∀ p ∈ own,N[p.2]?=some p.1
 free:∀ y ∈ scope.names,y.2=.free->sc.names.lookup y.1=some .cell\/sc.names.lookup y.1=some .free
 own:∀ y ∈ scope.names,y.2=.local\/y.2=.cell->y.1 ∈ own.map (·.1)\/y.1 ∉ N
def wipe (σ:St):List Nat->St
 | []=>σ
 | v::vs=>(wipe σ vs).set v none
theorem vq (σ:St):∀ vs:List Nat,(wipe σ vs).length=σ.length
 | []=>rfl
 | v::vs=>by unfold wipe;rw [List.length_set,vq σ vs]
theorem B6 {σ:St} {i:Nat} {x:V}:∀ {vs:List Nat},(wipe σ vs)[i]?=some (some x)->σ[i]?=some (some x)/\i ∉ vs
 | [],h=>⟨h,by simp⟩
 | v::vs,h=>by
   unfold wipe at h
   by_cases hi:v=i
   . subst hi
     by_cases hv:v < (wipe σ vs).length
     . rw [List.getElem?_set_self hv] at h;cases h
     . rw [List.getElem?_eq_none (by simpa using hv)] at h;cases h
   . rw [List.getElem?_set_ne hi] at h
     obtain ⟨h1,h2⟩:=B6 h
     exact ⟨h1,by simp only [List.mem_cons,not_or];exact ⟨fun e=>hi e.symm,h2⟩⟩
abbrev Cx.GX (X:Cx) (s:Shared) (H:Hp) (scope:Scope) (cenv:Env) (fp:List Addr):Cx:={ X with Bp:=s,Ub:=H,env:=cenv,outer:=X.stack,ex:=fp,fn:=fun x=>scope.names.lookup x==some .cell,pn:=[],xe:=fun _ _=>False }
section
variable {X:Cx} {pins:List (Addr×Obj)} {σ:St} {H:Hp} {s:Shared}
theorem Jt {scope:Scope} {own:List (Str×Nat)} {fp:List Addr} (I:Inv X pins σ H s) (ok:Js X.N X.env.scope scope own) (hN:X.N.Nodup) (hfp:∀ b ∈ fp,DE X pins H b/\b < s.heap.objs.size) :
   Inv (X.GX s H scope (compEnvC scope (cellsFrom (s.heap.objs.size+1) scope.names (d9 X.env.cells scope.names [])) s.heap.objs.size X.env) fp) [] (wipe σ (own.map (·.2))) H { s with heap:=pushCells (s.heap.push { cls:=.type "dict",data:=.dict #[] }) scope.names }:=by
 have hfree:∀ y ∈ scope.names,y.2=.free->∃ c,X.env.cells.lookup y.1=some c:=fun y hy e=>by
   rcases ok.free y hy e with k | k
   . exact I.ok.has _ (.inl k)
   . exact I.ok.has _ (.inr k)
 generalize Ju:compEnvC scope (cellsFrom (s.heap.objs.size+1) scope.names (d9 X.env.cells scope.names [])) s.heap.objs.size X.env=cenv
 have kp:∀ b o,s.heap.get? b=some o->(pushCells (s.heap.push { cls:=.type "dict",data:=.dict #[] }) scope.names).get? b=some o:=fun b o e=>pushCells_keeps _ _ _ _ (Heap.get?_push_of_some _ e)
 have hL:cenv.locals=s.heap.objs.size:=by rw [<- Ju];rfl
 have hcl:cenv.cells=cellsFrom (s.heap.objs.size+1) scope.names (d9 X.env.cells scope.names []):=by rw [<- Ju];rfl
 have hsc:cenv.scope=Yz scope X.env.scope:=by rw [<- Ju];rfl
 rw [<- Heap.size_push s.heap { cls:=.type "dict",data:=.dict #[] }] at hcl
 have cm:∀ {y c},(y,c) ∈ d9 X.env.cells scope.names []->X.env.cells.lookup y=some c/\c < s.heap.objs.size:=fun {y c} hm=>by
   rcases oz hm with hm | ⟨h1,rfl⟩
   . cases hm
   . obtain ⟨c,hc⟩:=hfree _ h1 rfl
     rw [hc]
     obtain ⟨w,z⟩:=I.cell _ _ hc
     exact ⟨rfl,z.lt⟩
 have mem:∀ {y c},cenv.cells.lookup y=some c->(X.env.cells.lookup y=some c/\c < s.heap.objs.size)\/(s.heap.objs.size+1<=c/\OS (pushCells (s.heap.push { cls:=.type "dict",data:=.dict #[] }) scope.names) c none):=fun {y c} e=>by
   rw [hcl] at e
   rcases qe (PySem.mem_of_lookup e) with hm | ⟨_,h2,h3⟩
   . exact .inl (cm hm)
   . rw [Heap.size_push] at h2;exact .inr ⟨h2,h3⟩
 have look:∀ {y},scope.names.lookup y=some .free->∃ c,cenv.cells.lookup y=some c/\X.env.cells.lookup y=some c:=fun {y} hl=>by
   have hy:(y,NameKind.free) ∈ scope.names:=PySem.mem_of_lookup hl
   obtain ⟨c',e'⟩:=mem_lookup (xq (names:=scope.names) (n:=(s.heap.push { cls:=.type "dict",data:=.dict #[] }).objs.size) (vo (cells:=X.env.cells) (acc:=[]) hy))
   rw [<- hcl] at e'
   refine ⟨c',e',?_⟩
   rw [hcl] at e'
   rcases qe (PySem.mem_of_lookup e') with hm | ⟨h1,_,_⟩
   . exact (cm hm).1
   . have:=ok.uniq _ h1
     rw [hl] at this;cases this
 have Wn:(X.GX s H scope cenv fp).Ok:=by
   refine ⟨I.ok.mod,by show cenv.scope.kind=_;rw [hsc];exact ok.kind,by show cenv.globals=_;rw [<- Ju];exact I.ok.glob,by show cenv.builtins=_;rw [<- Ju];exact I.ok.blt,by show s.heap.objs.size<=cenv.locals;rw [hL];exact Nat.le_refl _,
     fun y z c e1 e2=>?_,fun y hy=>?_,fun y c z e=>?_,I.ok.hd,I.ok.frames,.inl rfl,fun b hb=>⟨?_,fun y c e z=>?_⟩,I.bs,Nat.le_trans I.ok.MZ I.sz,fun b o e hb=>?_,fun b hb z=>?_,I.stack,I.G3⟩
   . have e1:cenv.cells.lookup y=some c:=e1
     have e2:cenv.cells.lookup z=some c:=e2
     rw [hcl] at e1 e2
     refine By (fun p hp=>?_) (fun y z c a b=>I.ok.inj y z c (cm a).1 (cm b).1) (PySem.mem_of_lookup e1) (PySem.mem_of_lookup e2)
     rw [Heap.size_push]
     exact Nat.lt_succ_of_lt (cm (y:=p.1) (c:=p.2) hp).2
   . show ∃ c,cenv.cells.lookup y=some c
     have key:∀ k,cenv.kindOf y=some k->(k=.cell\/k=.free)->∃ c,cenv.cells.lookup y=some c:=fun k hk hk'=>by
       unfold Env.kindOf at hk
       rw [hsc] at hk
       obtain ⟨k',e,r⟩:=vp hk
       have:k'=.cell\/k'=.free:=by
         rcases r with rfl | ⟨rfl,_⟩
         . exact hk'
         . exact .inr rfl
       rcases this with rfl | rfl
       . obtain ⟨c,hm⟩:=Bx (n:=(s.heap.push { cls:=.type "dict",data:=.dict #[] }).objs.size) (acc:=d9 X.env.cells scope.names []) (PySem.mem_of_lookup e)
         obtain ⟨c',e'⟩:=mem_lookup hm
         exact ⟨c',by rw [hcl];exact e'⟩
       . obtain ⟨c,h1,_⟩:=look e
         exact ⟨c,h1⟩
     rcases hy with hy | hy
     . exact key _ hy (.inl rfl)
     . exact key _ hy (.inr rfl)
   . have z:(scope.names.lookup y==some NameKind.cell)=true:=z
     have z:scope.names.lookup y=some .cell:=by simpa using z
     have e:cenv.cells.lookup y=some c:=e
     rw [hcl] at e
     rcases qe (PySem.mem_of_lookup e) with hm | ⟨_,h2,_⟩
     . rcases oz hm with hm | ⟨h1,_⟩
       . cases hm
       . have q:=ok.uniq _ h1
         rw [z] at q;cases q
     . rw [Heap.size_push] at h2
       exact Nat.le_of_succ_le h2
   . show b ≠ cenv.locals
     rw [hL];exact Nat.ne_of_lt (hfp b hb).2
   . have e:cenv.cells.lookup y=some c:=e
     rcases mem e with ⟨h1,_⟩ | ⟨h1,_⟩
     . exact (hfp b hb).1.2.2.2.2.1 y c h1 z
     . have h2:s.heap.objs.size+1<=b:=by rw [<- z];exact h1
       exact absurd (Nat.lt_of_lt_of_le (hfp b hb).2 (Nat.le_of_succ_le h2)) (Nat.lt_irrefl _)
   . rcases (hfp b hb).1.2.2.2.1 with z | z
     . exact I.ok.Jf b o e z
     . exact absurd (Nat.lt_of_lt_of_le (Heap.lt_size e) (Nat.le_trans I.ok.MZ z)) (Nat.lt_irrefl _)
   . rcases List.mem_cons.mp (I.Lh b z) with z | z
     . exact (hfp b hb).1.2.1 z
     . exact (hfp b hb).1.2.2.1 z
 refine ⟨Wn,rfl,I.bare,Un.kept kp,⟨fun _=>none,?_,fun i y av e1 e2 e3=>?_⟩,fun y c e=>?_,?_,fun y c e=>?_,fun p hp=>?_,I.hok.kept kp,by rw [vq];exact I.len⟩
 . show Heap.Ns _ cenv.locals _
   rw [hL]
   exact Heap.Ns.keeps (Heap.Ns.new ..) fun b o e=>pushCells_keeps _ _ _ _ e
 . obtain ⟨e2,hne⟩:=B6 e2
   have hfr:scope.names.lookup y=some .free/\(cenv.kindOf y=some .cell\/cenv.kindOf y=some .free):=by
     have key:∀ k,cenv.scope.names.lookup y=some k->k=.local\/k=.cell\/k=.free->scope.names.lookup y=some .free/\(cenv.kindOf y=some .cell\/cenv.kindOf y=some .free):=fun k hk hk'=>by
       have hk0:=hk
       rw [hsc] at hk
       obtain ⟨k',e,r⟩:=vp hk
       have no:¬ (k'=.local\/k'=.cell):=fun hh=>by
         rcases ok.own _ (PySem.mem_of_lookup e) hh with e' | e'
         . obtain ⟨p,hp,hpy⟩:=List.mem_map.mp e'
           have e3:=ok.ix p hp
           have:p.1=y:=hpy
           rw [this] at e3
           exact hne (List.mem_map.mpr ⟨p,hp,D8 hN e3 e1⟩)
         . exact e' (List.mem_of_getElem? e1)
       rcases r with rfl | ⟨rfl,rfl⟩
       . rcases hk' with rfl | rfl | rfl
         . exact absurd (.inl rfl) no
         . exact absurd (.inr rfl) no
         . exact ⟨e,.inr hk0⟩
       . exact ⟨e,.inl hk0⟩
     have e3:Uc cenv.scope y:=e3
     rcases e3 with e3 | e3 | e3
     . exact key _ e3 (.inl rfl)
     . exact key _ e3 (.inr (.inl rfl))
     . exact key _ e3 (.inr (.inr rfl))
   obtain ⟨m,hn,hl⟩:=I.loc
   have Y0:Uc X.env.scope y:=(ok.free _ (PySem.mem_of_lookup hfr.1) rfl).elim (fun k=>.inr (.inl k)) (fun k=>.inr (.inr k))
   obtain ⟨w,r,q⟩:=hl i y av e1 e2 Y0
   refine ⟨w,r,.inr ⟨hfr.2,?_⟩⟩
   obtain ⟨c,h1,h2⟩:=look hfr.1
   rcases q with ⟨k,_⟩ | ⟨_,c',e',z⟩
   . have k:X.env.scope.names.lookup y=some .local:=k
     rcases ok.free _ (PySem.mem_of_lookup hfr.1) rfl with k' | k'<;>rw [show X.env.scope.names.lookup y=_ from k'] at k<;>cases k
   . rw [h2] at e';cases e'
     exact ⟨c,h1,z.keeps kp⟩
 . have e:cenv.cells.lookup y=some c:=e
   rcases mem e with ⟨h1,_⟩ | ⟨_,z⟩
   . obtain ⟨w,z⟩:=I.cell y c h1
     exact ⟨w,z.keeps kp⟩
   . exact ⟨_,z⟩
 . show H cenv.locals=none
   rw [hL];exact I.hok.fresh (Nat.le_refl _)
 . have e:cenv.cells.lookup y=some c:=e
   rcases mem e with ⟨h1,_⟩ | ⟨h1,_⟩
   . exact I.g7 y c h1
   . exact I.hok.fresh (Nat.le_of_succ_le h1)
 . exact absurd (show p ∈ ([]:List (Addr×Obj))++[] from hp) (by simp)
theorem U1 {E:Value->Shared->Prop} {D:Addr} {xs:List V} {y:V} {v:Value} {Q:Value->Shared->Prop} (I:Inv X pins σ H s) (hD:H D=some (.lst xs)) (hz:xs.length < sizeLine) (r:RelV y v)
   (h:∀ s',Inv X pins σ (upd H D (.lst (xs++[y]))) s'->Q .none s'):wpAny (model X.prog X.w) X.A (call (.builtin "list.append") [.ref D,v]) Q E s:=by
 obtain ⟨hz',its,n,ri,e⟩:=I.hok D _ hD
 have hl:=ri.length
 refine append_at (hsz:=by rw [List.size_toArray];omega) e fun h' sb ho'=>?_
 refine h { s with heap:=h' } (I.write (t':=s.toks) (by rw [hD];trivial) (.inl rfl) (fun b u hb q=>(sb.2 b hb).trans q) ⟨_,ho'⟩ ⟨by rw [List.length_append];exact hz,its++[v],n+1,ri.append (.cons r .nil),?_⟩)
 rw [ho']
 simp
def Wo (X:Cx) (ifs:List Expr) (t:TT):Prop:=
 ∀ (pins:List (Addr×Obj)) (s:Shared) (σ:St) (H:Hp) (Q:Bool->Hp->Prop),Inv X pins σ H s->t σ H Q->
   wpAny (model X.prog X.w) X.A (forIn ifs true fun c r=>if r=true then do let ok <- isTrue c X.env (eval c X.env);pure (ForInStep.yield ok) else pure (ForInStep.yield r)) (TP X pins σ Q) X.xe s
def Y3:TT:=fun _ H Q=>Q true H
theorem GY:Wo X [] Y3:=fun _ _ _ H _ I h=>wpAny_tests_nil ⟨H,I,h⟩
theorem GZ {c:Expr} {t:TT} (h:PT X c t):Wo X [c] t:=fun pins s σ H Q I hw=>wpAny_tests_one (h pins s σ H Q I hw)
end
theorem Nh {α:Type} {t:Sem α} {Q Q':α->Shared->Prop} {M:Model} {A:Around} {E:Value->Shared->Prop} {s:Shared} (h:wpAny M A t Q (fun _ _=>False) s) (hQ:∀ a s,Q a s->Q' a s):wpAny M A t Q' E s:=wpAny_mono h hQ fun _ _ z=>False.elim z
theorem Hf {prog:Program} {w:World} {A:Around} {R:Result->Shared->Prop} {s:Shared} {elt target iter:Expr} {ifs:List Expr} {scope:Scope} {pos:Pos} {it acc:Value} {env:Env} (I:Nat->Shared->Prop)
   (turn:∀ n s,I n s->wpAny (model prog w) A (pyNext it) (fun r s₁=>match r with
     | none=>R (.ok .next) s₁
     | some v=>wpAny (model prog w) A (letOwnedTupleGo target it v) (fun _ s₁'=>wpAny (model prog w) A (assign target env v) (fun _ s₂=>
         wpAny (model prog w) A (forIn ifs true fun c r=>if r=true then do let ok <- isTrue c env (eval c env);pure (ForInStep.yield ok) else pure (ForInStep.yield r)) (fun ok s₃=>
           if ok=true then wpAny (model prog w) A (eval elt env) (fun x s₄=>
             wpAny (model prog w) A (call (.builtin "list.append") [acc,x]) (fun _ s₅=>∃ m,m < n/\I m s₅) (notedBy (model prog w) A env fun e s'=>R (.error e) s') s₄) (notedBy (model prog w) A env fun e s'=>R (.error e) s') s₃
           else ∃ m,m < n/\I m s₃) (notedBy (model prog w) A env fun e s'=>R (.error e) s') s₂) (notedBy (model prog w) A env fun e s'=>R (.error e) s') s₁') (notedBy (model prog w) A env fun e s'=>R (.error e) s') s₁) (notedBy (model prog w) A env fun e s'=>R (.error e) s') s)
   (n:Nat) (h:I n s) :
   codeAny (model prog w) A (.compLoop (.ListComp elt [⟨target,iter,ifs,0⟩] scope pos) 0 it acc env) R s:=by
 refine codeAny_loop rfl I (fun n s hI=>?_) n h
 show wpAny _ A ((compTurn (.ListComp elt [⟨target,iter,ifs,0⟩] scope pos) 0 it acc env).onRaise (fun x=>do noteFrame x env;theTreesLotGoes x)) _ _ s
 refine wpAny_noted ?_
 rw [compTurn_list]
 refine wpAny_bind (wpAny_standAt (wpAny_bind (wpAny_mono (turn n s hI) (fun r s₁ h₁=>?_) fun _ _ h'=>h')))
 cases r with
 | none=>exact wpAny_pure h₁
 | some v=>
   refine wpAny_bind (wpAny_mono h₁ (fun _ s₁' h₁'=>?_) fun _ _ h'=>h')
   refine wpAny_bind (wpAny_mono h₁' (fun _ s₂ h₂=>wpAny_bind (wpAny_mono h₂ (fun ok s₃ h₃=>?_) fun _ _ h'=>h')) fun _ _ h'=>h')
   cases ok with
   | false=>exact wpAny_pure ⟨rfl,h₃⟩
   | true=>
     exact wpAny_bind (wpAny_bind (wpAny_mono h₃ (fun x s₄ h₄=>wpAny_bind (wpAny_mono h₄ (fun _ s₅ h₅=>wpAny_pure (wpAny_pure ⟨rfl,h₅⟩)) fun _ _ h'=>h')) fun _ _ h'=>h'))
section
variable {X:Cx}
def X0 (wi:TI) (g:TG) (tt:TT) (te:TE) (vs:List Nat):TE:=fun σ H Q=>wi σ H fun J H1=>∀ D,H1 D=none->∃ W:Nat->Nat->Hp->Prop,(∃ m,W 0 m (upd H1 D (.lst [])))/\∀ i m H,W i m H->
 (J.stop i H/\Q (.ref D) H)\/(J.go i H/\∃ Nx:Hp->Prop,(∀ H',Nx H'->∃ m',m' < m/\W (i+1) m' H')/\∀ x H',J.O3 i H x H'->g x (wipe σ vs) H' fun σ2 H2=>wipe σ2 vs=wipe σ vs/\tt σ2 H2 fun b H3=>
   if b=true then te σ2 H3 fun y H4=>∃ acc,H4 D=some (.lst acc)/\acc.length < sizeLine/\Nx (upd H4 D (.lst (acc++[y]))) else Nx H3)
theorem Ms {pins:List (Addr×Obj)} {s:Shared} {σ:St} {H:Hp} {Q:VK} {elt tg iter:Expr} {ifs:List Expr} {scope:Scope} {own:List (Str×Nat)} {pos pos':Pos} {wi:TI} {g:TG} {tt:TT} {te:TE} {use:Option (Value->Sem Unit)} {Qf:Value->Shared->Prop}
   (hc:X.calm=true) (hN:X.N.Nodup) (I:Inv X pins σ H s) (hi:PI X tg iter wi) (ok:Js X.N X.env.scope scope own)
   (hg:∀ (s:Shared) (H:Hp) (C:Addr) (cl:List (Str×Addr)) (fp:List Addr),PG (X.GX s H scope (compEnvC scope cl C X.env) fp) tg g) (ht:∀ (s:Shared) (H:Hp) (C:Addr) (cl:List (Str×Addr)) (fp:List Addr),Wo (X.GX s H scope (compEnvC scope cl C X.env) fp) ifs tt)
   (he:∀ (s:Shared) (H:Hp) (C:Addr) (cl:List (Str×Addr)) (fp:List Addr),PE (X.GX s H scope (compEnvC scope cl C X.env) fp) elt te) (hs:∀ x,foldedSetIterable iter X.env x=pure x)
   (h:X0 wi g tt te (own.map (·.2)) σ H Q)
   (hRR:∀ D C s' m H',Inv X pins σ H' s'->Q (.ref D) H'->s'.heap.Ns C m->DE X pins H' C->compPost (model X.prog X.w) X.A X.xe use Qf (.ref D) C (.ok .next) s') :
   wpAny (model X.prog X.w) X.A (comprehension (.ListComp elt [⟨tg,iter,ifs,0⟩] scope pos) scope X.env pos' (newList []) false (eval iter X.env) use) Qf X.xe s:=by
 have hfree:∀ y ∈ scope.names,y.2=.free->∃ c,X.env.cells.lookup y.1=some c:=fun y hy e=>by
   rcases ok.free y hy e with k | k
   . exact I.ok.has _ (.inl k)
   . exact I.ok.has _ (.inr k)
 refine wpAny_comprehension_free (use:=use) rfl hs (L1 hfree) ok.kind (fun y hy e=>by rw [ok.uniq y hy,e])
   (d7 (hi pins s σ H _ I h) fun xv s1 hx=>d7 hx fun itv s2 h2=>?_)
 obtain ⟨it,fp,tn,J,H2,e,I2,T,st2,f2,q⟩:=h2
 subst e
 refine wpAny_newObj_type (Jr ?_) (by show 0<=sizeLine;decide)
 generalize hD:s2.heap.objs.size=D
 have V9:H2 D=none:=I2.hok.fresh (Nat.le_of_eq hD)
 obtain ⟨W,⟨m0,w0⟩,turn⟩:=q D V9
 generalize Z4:({ s2 with heap:=s2.heap.push { cls:=.type "list",data:=.seq ([]:List Value).toArray } }:Shared)=s3
 have I3:Inv X pins σ (upd H2 D (.lst [])) s3:=by
   rw [<- Z4]
   refine I2.laid (t':=s2.toks) (fun b o e=>Heap.get?_push_of_some _ e) (Nat.le_of_eq hD) ⟨Nat.zero_le _,[],0,.nil,?_⟩
   rw [<- hD]
   exact Heap.get?_push_size _ rfl
 have h3:s3.heap=s2.heap.push { cls:=.type "list",data:=.seq ([]:List Value).toArray }:=by rw [<- Z4]
 have sz:∀ b ∈ fp,b < s2.heap.objs.size:=fun b hb=>by
   obtain ⟨o,e,_⟩:=T.obj _ _ st2 b hb
   exact Heap.lt_size e
 have f3:∀ b ∈ fp,DE X pins (upd H2 D (.lst [])) b/\b < s3.heap.objs.size:=fun b hb=>by
   have hlt:=sz b hb
   refine ⟨⟨?_,(f2 b hb).2⟩,by rw [h3,Heap.size_push];exact Nat.lt_succ_of_lt hlt⟩
   rw [aq (by rw [<- hD];exact Nat.ne_of_lt hlt)]
   exact (f2 b hb).1
 have st3:tn 0 s3.heap:=T.keep _ _ _ st2 fun b _ o e=>by rw [h3];exact Heap.get?_push_of_some _ e
 have I4:=Jt I3 ok hN f3
 have pg:=hg s3 (upd H2 D (.lst [])) s3.heap.objs.size (cellsFrom (s3.heap.objs.size+1) scope.names (d9 X.env.cells scope.names [])) fp
 have pt:=ht s3 (upd H2 D (.lst [])) s3.heap.objs.size (cellsFrom (s3.heap.objs.size+1) scope.names (d9 X.env.cells scope.names [])) fp
 have pe:=he s3 (upd H2 D (.lst [])) s3.heap.objs.size (cellsFrom (s3.heap.objs.size+1) scope.names (d9 X.env.cells scope.names [])) fp
 show codeAny _ _ (.compStart (.ListComp elt [⟨tg,iter,ifs,0⟩] scope pos) 0 (.ref it) (.ref D) (compEnvC scope (cellsFrom (s3.heap.objs.size+1) scope.names (d9 X.env.cells scope.names [])) s3.heap.objs.size X.env)) (compPost (model X.prog X.w) X.A X.xe use Qf (.ref D) s3.heap.objs.size) { s3 with heap:=pushCells (s3.heap.push { cls:=.type "dict",data:=.dict #[] }) scope.names }
 have Z5:∀ b ∈ fp,(upd H2 D (.lst [])) b=none:=fun b hb=>(f3 b hb).1.1
 generalize hce:compEnvC scope (cellsFrom (s3.heap.objs.size+1) scope.names (d9 X.env.cells scope.names [])) s3.heap.objs.size X.env=ce at I4 pg pt pe ⊢
 have cL:ce.locals=s3.heap.objs.size:=by subst hce;rfl
 generalize hH3:upd H2 D (.lst [])=H3 at I3 I4 pg pt pe w0 Z5 f3
 generalize hs4:({ s3 with heap:=pushCells (s3.heap.push { cls:=.type "dict",data:=.dict #[] }) scope.names }:Shared)=s4 at I4 ⊢
 have Z6:tn 0 s4.heap:=T.keep _ _ _ st3 fun b _ o e=>by rw [<- hs4];exact pushCells_keeps _ _ _ _ (Heap.get?_push_of_some _ e)
 have Lq:∀ {σ':St} {H':Hp} {s':Shared},Inv (X.GX s3 H3 scope ce fp) [] σ' H' s'->(∀ b ∈ fp,H' b=none)->∀ b ∈ fp,DE (X.GX s3 H3 scope ce fp) [] H' b:=fun {σ' H' s'} I' hn b hb=>
   ⟨hn b hb,(I'.ok.Ud b hb).1,I'.ok.Jg b hb,.inl hb,fun x c e=>(I'.ok.Ud b hb).2 x c e,fun p hp=>absurd (show p ∈ ([]:List (Addr×Obj))++[] from hp) (by simp)⟩
 have loop:codeAny (model X.prog X.w) X.A (.compLoop (.ListComp elt [⟨tg,iter,ifs,0⟩] scope pos) 0 (.ref it) (.ref D) ce) (compPost (model X.prog X.w) X.A X.xe use Qf (.ref D) s3.heap.objs.size) s4:=by
   refine Hf (fun n s'=>∃ i H',Inv (X.GX s3 H3 scope ce fp) [] (wipe σ (own.map (·.2))) H' s'/\tn i s'.heap/\(∀ b ∈ fp,H' b=none)/\W i n H') ?_ m0 ⟨0,H3,I4,Z6,Z5,w0⟩
   rintro n s5 ⟨i,H5,I5,V6,n5,w5⟩
   rcases turn i n H5 w5 with ⟨stop,qq⟩ | ⟨go,Nx,hNx,step⟩
   . have td:=T.done (X.GX s3 H3 scope ce fp) rfl rfl rfl hc i [] s5 _ H5 (fun _ _=>False) I5 (Lq I5 n5) V6 stop
     refine Nh td fun r s6 ⟨hr,I6⟩=>?_
     subst hr
     have I7:Inv X pins σ H5 s6:=I3.call' (ch:=fp) I6.os I6.base I6.hok I6.bare fun b hb=>⟨(f3 b hb).1.2.2.2.1,(f3 b hb).1.2.1,(f3 b hb).1.2.2.2.2.1,(f3 b hb).1.2.2.2.2.2⟩
     have nC:H5 s3.heap.objs.size=none:=by
       have z:H5 ce.locals=none:=I6.free
       rw [cL] at z
       exact z
     obtain ⟨m,hn,_⟩:=I6.loc
     have hn:s6.heap.Ns ce.locals m:=hn
     rw [cL] at hn
     exact hRR D s3.heap.objs.size s6 m H5 I7 qq hn (I3.Nb (Nat.le_refl _) nC)
   . have ti:=T.item (X.GX s3 H3 scope ce fp) rfl rfl rfl hc i [] s5 _ H5 (fun _ _=>False) I5 (Lq I5 n5) V6 go
     refine Nh ti fun r s6 ⟨u,hr,h6⟩=>?_
     subst hr
     refine Nh h6 fun _ s7 ⟨x,H7,I7,r7,y7,Y4,n7⟩=>?_
     have I7':=I7.pinned (Lq I7 n7) (T.obj _ _ Y4)
     refine Nh (pg _ s7 _ H7 x u _ I7' r7 (step x H7 y7)) fun _ s8 ⟨σ8,H8,I8,Z7,q8⟩=>?_
     refine Nh (pt _ s8 σ8 H8 _ I8 q8) fun b s9 ⟨H9,I9,q9⟩=>?_
     have fin:∀ {s':Shared} {H':Hp},Inv (X.GX s3 H3 scope ce fp) ([]++DF fp s7.heap) σ8 H' s'->Nx H'->∃ m,m < n/\∃ i H',Inv (X.GX s3 H3 scope ce fp) [] (wipe σ (own.map (·.2))) H' s'/\tn i s'.heap/\(∀ b ∈ fp,H' b=none)/\W i m H':=fun {s' H'} I' nx=>by
       obtain ⟨m',hm,w'⟩:=hNx H' nx
       have pin':∀ b ∈ fp,∀ o,s7.heap.get? b=some o->s'.heap.get? b=some o/\H' b=none:=fun b hb o e=>
         let z:=I'.pin (b,o) (List.mem_append_right _ (List.mem_append_right _ (yZ hb e)))
         ⟨z.1,z.2.1⟩
       have hl:(wipe σ (own.map (·.2))).length=σ8.length:=by rw [<- Z7,vq]
       refine ⟨m',hm,i+1,H',(I'.z6 (pins:=[])).weak hl (fun j v e=>?_),T.keep _ _ _ Y4 fun b hb o e=>(pin' b hb o e).1,fun b hb=>?_,w'⟩
       . rw [<- Z7] at e
         exact (B6 e).1
       . obtain ⟨o,e,_⟩:=T.obj _ _ Y4 b hb
         exact (pin' b hb o e).2
     cases b with
     | false=>
       simp only [Bool.false_eq_true,if_false] at q9 ⊢
       exact fin I9 q9
     | true=>
       simp only [if_true] at q9 ⊢
       refine Nh (pe _ s9 σ8 H9 _ I9 q9) fun z s10 ⟨yv,H10,I10,r10,acc,Y5,Y6,nx⟩=>?_
       exact U1 (X:=X.GX s3 H3 scope ce fp) I10 Y5 Y6 r10 fun s11 I11=>fin I11 nx
 exact codeAny_compStart_list loop (T.self X.A 0 _ _ _ Z6 loop)
theorem OT {elt tg iter:Expr} {ifs:List Expr} {scope:Scope} {own:List (Str×Nat)} {pos:Pos} {wi:TI} {g:TG} {tt:TT} {te:TE} (hc:X.calm=true) (hN:X.N.Nodup) (hi:PI X tg iter wi) (ok:Js X.N X.env.scope scope own)
   (hg:∀ (s:Shared) (H:Hp) (C:Addr) (cl:List (Str×Addr)) (fp:List Addr),PG (X.GX s H scope (compEnvC scope cl C X.env) fp) tg g) (ht:∀ (s:Shared) (H:Hp) (C:Addr) (cl:List (Str×Addr)) (fp:List Addr),Wo (X.GX s H scope (compEnvC scope cl C X.env) fp) ifs tt)
   (he:∀ (s:Shared) (H:Hp) (C:Addr) (cl:List (Str×Addr)) (fp:List Addr),PE (X.GX s H scope (compEnvC scope cl C X.env) fp) elt te) (hs:∀ x,foldedSetIterable iter X.env x=pure x:=by intro _;rfl) :
   PE X (.ListComp elt [⟨tg,iter,ifs,0⟩] scope pos) (X0 wi g tt te (own.map (·.2))):=by
 intro pins s σ H Q I h
 rw [eval_ListComp]
 refine Ms hc hN I hi ok hg ht he hs h fun D C s' m H' I' q hn f=>⟨m,hn,fun h'' sb=>?_⟩
 obtain ⟨f0,f1,f2,f3,f4,f5⟩:=f
 exact ⟨.ref D,H',I'.turned (t':=s'.toks) (fun b o hb e=>(sb.2 b hb).trans e) f0 f1 f3 f4 f5,rfl,q⟩
theorem DP {i:Nat} {y:Str} {py:Pos} {elt tg iter:Expr} {ifs:List Expr} {scope:Scope} {own:List (Str×Nat)} {pos spos:Pos} {wi:TI} {g:TG} {tt:TT} {te:TE} (hc:X.calm=true) (hN:X.N.Nodup) (hy:X.N[i]?=some y) (hyl:X.env.scope.names.lookup y=some .local)
   (hsw:swapsWith (.ListComp elt [⟨tg,iter,ifs,0⟩] scope pos) (some (.Name y py)) spos.line X.env=pure true) (hi:PI X tg iter wi) (ok:Js X.N X.env.scope scope own)
   (hg:∀ (s:Shared) (H:Hp) (C:Addr) (cl:List (Str×Addr)) (fp:List Addr),PG (X.GX s H scope (compEnvC scope cl C X.env) fp) tg g) (ht:∀ (s:Shared) (H:Hp) (C:Addr) (cl:List (Str×Addr)) (fp:List Addr),Wo (X.GX s H scope (compEnvC scope cl C X.env) fp) ifs tt)
   (he:∀ (s:Shared) (H:Hp) (C:Addr) (cl:List (Str×Addr)) (fp:List Addr),PE (X.GX s H scope (compEnvC scope cl C X.env) fp) elt te) (hs:∀ x,foldedSetIterable iter X.env x=pure x:=by intro _;rfl) :
   PS X (.Assign [.Name y py] (.ListComp elt [⟨tg,iter,ifs,0⟩] scope pos) spos) (Ui (X0 wi g tt te (own.map (·.2))) (Jj i)):=by
 intro pins s σ H D I h
 rw [exec_Assign_Name_used _ _ _ _ hsw]
 refine wpAny_bind (wpAny_standAt (wpAny_bind ?_))
 show wpAny _ X.A (do let _ <- comprehension (.ListComp elt [⟨tg,iter,ifs,0⟩] scope pos) scope X.env (firstIterPos [⟨tg,iter,ifs,0⟩] pos) (newList []) false (eval iter X.env) (some (assign (.Name y py) X.env))) _ _ s
 have h:X0 wi g tt te (own.map (·.2)) σ H (fun x H1=>Jj i x σ H1 D.nx):=h
 refine wpAny_bind (d7 (Ms (Qf:=fun _ s'=>SP X pins D .next s') hc hN I hi ok hg ht he hs h fun L C s' m H' I' q hn f=>?_) fun _ s' hq=>wpAny_pure (wpAny_pure hq))
 show wpAny _ _ (assign (.Name y py) X.env (.ref L)) _ _ _
 refine wpAny_assign_Name (Br (v:=V.ref L) I' hN hy (.inl hyl) rfl (fun s2 I2 ⟨a,sb,ha⟩=>?_) (.inr hyl))
 obtain ⟨f0,f1,f2,f3,f4,f5⟩:=f
 have haC:C ≠ a:=by
   rcases ha with z | z
   . rw [z];exact f1
   . exact fun e=>f4 y a z e.symm
 refine ⟨m,hn.sameBut sb haC,fun h3 sb3=>?_⟩
 exact ⟨_,H',I2.turned (t':=s2.toks) (fun b o hb e=>(sb3.2 b hb).trans e) f0 f1 f3 f4 f5,q⟩
end
theorem OU {lo:Int} {n:Nat} {g:TG} {tt:TT} {te:TE} {vs:List Nat} {σ:St} {H1:Hp} {D:Addr} {Qd:Hp->Prop} (Pv:Nat->Hp->Prop) (h0:Pv 0 (upd H1 D (.lst [])))
   (hs:∀ i H,i < n->Pv i H->g (.int (lo+i)) (wipe σ vs) H fun σ2 H2=>wipe σ2 vs=wipe σ vs/\tt σ2 H2 fun b H3=>
     if b=true then te σ2 H3 fun y H4=>∃ acc,H4 D=some (.lst acc)/\acc.length < sizeLine/\Pv (i+1) (upd H4 D (.lst (acc++[y]))) else Pv (i+1) H3) (hd:∀ H,Pv n H->Qd H) :
   ∃ W:Nat->Nat->Hp->Prop,(∃ m,W 0 m (upd H1 D (.lst [])))/\∀ i m H,W i m H->
     ((Rb lo n).stop i H/\Qd H)\/((Rb lo n).go i H/\∃ Nx:Hp->Prop,(∀ H',Nx H'->∃ m',m' < m/\W (i+1) m' H')/\∀ x H',(Rb lo n).O3 i H x H'->g x (wipe σ vs) H' fun σ2 H2=>wipe σ2 vs=wipe σ vs/\tt σ2 H2 fun b H3=>
       if b=true then te σ2 H3 fun y H4=>∃ acc,H4 D=some (.lst acc)/\acc.length < sizeLine/\Nx (upd H4 D (.lst (acc++[y]))) else Nx H3):=by
 refine ⟨fun i m H=>m=n - i/\i<=n/\Pv i H,⟨n,by simp,Nat.zero_le _,h0⟩,?_⟩
 rintro i m H ⟨rfl,hi,p⟩
 by_cases hlt:i < n
 . refine .inr ⟨hlt,Pv (i+1),fun H' p'=>⟨n - (i+1),by omega,rfl,hlt,p'⟩,fun x H' y=>?_⟩
   obtain ⟨e,y⟩:=y
   subst e y
   exact hs i _ hlt p
 . have e:i=n:=by omega
   subst e
   exact .inl ⟨Nat.le_refl _,hd H p⟩
theorem z9 {K:PySem.W.Frag} {a:Addr} {xs:List V} {g:TG} {tt:TT} {te:TE} {vs:List Nat} {σ:St} {H1:Hp} {D:Addr} {Qd:Hp->Prop} (Pv:Nat->Hp->Prop) (h0:Pv 0 (upd H1 D (.lst []))) (hl:∀ i H,i<=xs.length->Pv i H->dN K H a xs)
   (hs:∀ i x H,xs[i]?=some x->Pv i H->g x (wipe σ vs) H fun σ2 H2=>wipe σ2 vs=wipe σ vs/\tt σ2 H2 fun b H3=>
     if b=true then te σ2 H3 fun y H4=>∃ acc,H4 D=some (.lst acc)/\acc.length < sizeLine/\Pv (i+1) (upd H4 D (.lst (acc++[y]))) else Pv (i+1) H3) (hd:∀ H,Pv xs.length H->Qd H) :
   ∃ W:Nat->Nat->Hp->Prop,(∃ m,W 0 m (upd H1 D (.lst [])))/\∀ i m H,W i m H->
     ((Tg K a).stop i H/\Qd H)\/((Tg K a).go i H/\∃ Nx:Hp->Prop,(∀ H',Nx H'->∃ m',m' < m/\W (i+1) m' H')/\∀ x H',(Tg K a).O3 i H x H'->g x (wipe σ vs) H' fun σ2 H2=>wipe σ2 vs=wipe σ vs/\tt σ2 H2 fun b H3=>
       if b=true then te σ2 H3 fun y H4=>∃ acc,H4 D=some (.lst acc)/\acc.length < sizeLine/\Nx (upd H4 D (.lst (acc++[y]))) else Nx H3):=by
 refine ⟨fun i m H=>m=xs.length - i/\i<=xs.length/\Pv i H,⟨xs.length,by simp,Nat.zero_le _,h0⟩,?_⟩
 rintro i m H ⟨rfl,hi,p⟩
 have q:=hl i H hi p
 by_cases hlt:i < xs.length
 . refine .inr ⟨⟨xs,xs[i],q,by simp [hlt]⟩,Pv (i+1),fun H' p'=>⟨xs.length - (i+1),by omega,rfl,hlt,p'⟩,fun x H' y=>?_⟩
   obtain ⟨e,y⟩:=y
   subst e
   exact hs i x _ (y xs q) p
 . have e:i=xs.length:=by omega
   subst e
   exact .inl ⟨⟨xs,q,Nat.le_refl _⟩,hd H p⟩
def Wq (N:List Str) (sc scope:Scope) (own:List (Str×Nat)):Bool:=
 (match scope.kind with | .function=>true | _=>false)&&(scope.names.all fun y=>decide (scope.names.lookup y.1=some y.2))&&(own.all fun p=>decide (N[p.2]?=some p.1)) &&
   (scope.names.all fun y=>match y.2 with
     | .free=>(match sc.names.lookup y.1 with | some .cell=>true | some .free=>true | _=>false)
     | .local=>decide (y.1 ∈ own.map (·.1))||decide (y.1 ∉ N)
     | .cell=>decide (y.1 ∈ own.map (·.1))||decide (y.1 ∉ N)
     | _=>true)
theorem qf {N:List Str} {sc scope:Scope} {own:List (Str×Nat)} (h:Wq N sc scope own=true):Js N sc scope own:=by
 unfold Wq at h
 simp only [Bool.and_eq_true,List.all_eq_true,decide_eq_true_eq] at h
 obtain ⟨⟨⟨h1,h2⟩,h3⟩,h4⟩:=h
 refine ⟨?_,h2,h3,fun y hy e=>?_,fun y hy e=>?_⟩
 . split at h1
   . assumption
   . cases h1
 . have q:=h4 y hy
   simp only [e] at q
   split at q<;>first | exact .inl (by assumption) | exact .inr (by assumption) | cases q
 . have q:=h4 y hy
   rcases e with e | e<;>(simp only [e,Bool.or_eq_true,decide_eq_true_eq] at q;exact q)
end L2
namespace L2
open PySem PySem.Spec PyProof.Rows
section
variable {prog:Program} {w:World} {A:Around} {R:Result->Shared->Prop} {s:Shared} {elt t0 i0 t1 i1:Expr} {aad aae:List Expr} {scope:Scope} {pos:Pos} {it acc:Value} {env:Env}
end
section
variable {X:Cx}
end
end L2
namespace L2
open PySem PySem.Spec PyProof.Rows
section
variable {κ:Type} [DecidableEq κ]
def iA (kvs:List (κ×V)) (k:κ):Option V:=(kvs.find? fun kv=>decide (kv.1=k)).map (·.2)
def putK (kvs:List (κ×V)) (k:κ) (v:V):List (κ×V):=
 if (kvs.any fun kv=>decide (kv.1=k))=true then kvs.map (fun kv=>if kv.1=k then (kv.1,v) else kv) else kvs++[(k,v)]
theorem fF {p:κ×V} {r:List (κ×V)} {k:κ} (e:p.1=k):iA (p::r) k=some p.2:=by simp [iA,List.find?_cons,e]
theorem fG {p:κ×V} {r:List (κ×V)} {k:κ} (e:¬ p.1=k):iA (p::r) k=iA r k:=by simp [iA,List.find?_cons,e]
theorem mO (k:κ):∀ kvs:List (κ×V),(kvs.any fun kv=>decide (kv.1=k))=(iA kvs k).isSome
 | []=>rfl
 | p::r=>by
   rw [List.any_cons]
   by_cases e:p.1=k
   . simp only [fF e,decide_eq_true e,Bool.true_or,Option.isSome_some]
   . rw [fG e,decide_eq_false e,Bool.false_or];exact mO k r
theorem Jv (k j:κ) (y:V):∀ kvs:List (κ×V),iA (kvs.map fun kv=>if kv.1=k then (kv.1,y) else kv) j=(iA kvs j).map fun x=>if j=k then y else x
 | []=>rfl
 | p::r=>by
   have ih:=Jv k j y r
   rw [List.map_cons]
   by_cases h:p.1=k
   . rw [if_pos h]
     by_cases e:p.1=j
     . rw [fF (p:=(p.1,y)) e,fF e,Option.map_some,if_pos (e.symm.trans h)]
     . rw [fG (p:=(p.1,y)) e,fG e,ih]
   . rw [if_neg h]
     by_cases e:p.1=j
     . rw [fF (p:=p) e,fF e,Option.map_some,if_neg (fun z=>h (e.trans z))]
     . rw [fG (p:=p) e,fG e,ih]
theorem Gb (k j:κ) (y:V):∀ kvs:List (κ×V),iA kvs k=none->iA (kvs++[(k,y)]) j=if j=k then some y else iA kvs j
 | [],_=>by
   by_cases e:k=j
   . rw [if_pos e.symm];exact fF (p:=(k,y)) e
   . rw [if_neg (fun z=>e z.symm)];exact fG (p:=(k,y)) e
 | p::r,hn=>by
   rw [List.cons_append]
   have hk:¬ p.1=k:=fun z=>by rw [fF z] at hn;cases hn
   rw [fG hk] at hn
   have ih:=Gb k j y r hn
   by_cases e:p.1=j
   . rw [fF e,fF e,if_neg (fun z=>hk (e.trans z))]
   . rw [fG e,fG e,ih]
theorem zA (kvs:List (κ×V)) (k j:κ) (y:V):iA (putK kvs k y) j=if j=k then some y else iA kvs j:=by
 unfold putK
 by_cases a:(kvs.any fun kv=>decide (kv.1=k))=true
 . rw [if_pos a,Jv]
   rw [mO] at a
   by_cases e:j=k
   . obtain ⟨x,hx⟩:=Option.isSome_iff_exists.mp a
     rw [if_pos e,e,hx,Option.map_some,if_pos rfl]
   . rw [if_neg e]
     cases iA kvs j with
     | none=>rfl
     | some x=>rw [Option.map_some,if_neg e]
 . rw [if_neg a]
   refine Gb k j y kvs ?_
   rw [mO] at a
   cases q:iA kvs k with
   | none=>rfl
   | some x=>rw [q] at a;exact (a rfl).elim
theorem gA (kvs:List (κ×V)) (k:κ) (v:V):(putK kvs k v).length<=kvs.length+1:=by
 unfold putK
 split
 . rw [List.length_map];omega
 . rw [List.length_append,List.length_cons,List.length_nil];omega
theorem pZ.qg {o:Option V} {u:Option Value} (r:pZ o u):o.isSome=u.isSome:=by
 cases o with
 | none=>cases u with
   | none=>rfl
   | some _=>exact (show False from r).elim
 | some _=>cases u with
   | none=>exact (show False from r).elim
   | some _=>rfl
theorem KV.val {kvs:List (κ×V)} {vs:List (κ×Value)} (r:KV kvs vs) (k:κ):pZ (iA kvs k) (valueAt vs k):=by
 unfold KV at r
 induction r with
 | nil=>exact True.intro
 | @cons p q ps qs h t ih=>
   obtain ⟨h1,h2⟩:=h
   by_cases e:p.1=k
   . have e':q.1=k:=h1.symm.trans e
     have b:valueAt (q::qs) k=some q.2:=by simp [valueAt,List.find?_cons,e']
     rw [fF e,b];exact h2
   . have e':¬ q.1=k:=fun z=>e (h1.trans z)
     have b:valueAt (q::qs) k=valueAt qs k:=by simp [valueAt,List.find?_cons,e']
     rw [fG e,b];exact ih
theorem KV.any {kvs:List (κ×V)} {vs:List (κ×Value)} (r:KV kvs vs) (k:κ):(kvs.any fun kv=>decide (kv.1=k))=vs.any fun kv=>decide (kv.1=k):=by
 unfold KV at r
 induction r with
 | nil=>rfl
 | cons h t ih=>rw [List.any_cons,List.any_cons,ih,h.1]
theorem KV.repl {kvs:List (κ×V)} {vs:List (κ×Value)} (r:KV kvs vs) (k:κ) {y:V} {u:Value} (ry:RelV y u) :
   KV (kvs.map fun kv=>if kv.1=k then (kv.1,y) else kv) (vs.map fun kv=>if kv.1=k then (kv.1,u) else kv):=by
 unfold KV at r ⊢
 induction r with
 | nil=>exact .nil
 | @cons p q ps qs h t ih=>
   rw [List.map_cons,List.map_cons]
   refine .cons ?_ ih
   obtain ⟨h1,h2⟩:=h
   by_cases e:p.1=k
   . rw [if_pos e,if_pos (h1.symm.trans e)];exact ⟨h1,ry⟩
   . rw [if_neg e,if_neg (fun z=>e (h1.trans z))];exact ⟨h1,h2⟩
theorem KV.put {kvs:List (κ×V)} {vs:List (κ×Value)} (r:KV kvs vs) (k:κ) {y:V} {u:Value} (ry:RelV y u):KV (putK kvs k y) (stored vs k u):=by
 unfold putK stored
 rw [r.any k]
 by_cases e:(vs.any fun kv=>decide (kv.1=k))=true
 . rw [if_pos e,if_pos e];exact r.repl k ry
 . rw [if_neg e,if_neg e];exact Paired.snoc r ⟨rfl,ry⟩
theorem KV.length {kvs:List (κ×V)} {vs:List (κ×Value)} (r:KV kvs vs):kvs.length=vs.length:=Paired.length r
end
theorem Gd {P:Program} {w:World} {k:Key} {u:Value} (r:RelV (kV k) u):(eU P w).is k u=true:=by
 cases k with
 | inl i=>obtain ⟨t,e⟩:=(show ∃ t,u=Value.int i t from r);subst e;exact Jd P w i t
 | inr x=>obtain ⟨t,e⟩:=(show ∃ t,u=Value.str x t from r);subst e;exact Je P w x t
theorem Ge {P:Program} {w:World}:∀ {ks:List Key} {us:List Value},Vals (ks.map kV) us->ItemsAre (eU P w) ks us
 | [],_,r=>by rw [List.map_nil] at r;cases r;exact .nil
 | k::ks,_,r=>by
   rw [List.map_cons] at r
   cases r with
   | cons h t=>exact .cons (Gd h) (Ge t)
abbrev KT (H:Hp):List (List Key×V)->List (List Key×Addr×Value)->Prop:=Paired fun p q=>p.1=q.1/\H q.2.1=some (.tup (p.1.map kV))/\RelV p.2 q.2.2
theorem KT.val {H:Hp} {kvs:List (List Key×V)} {xs:List (List Key×Addr×Value)} (r:KT H kvs xs) (k:List Key):pZ (iA kvs k) ((atKey xs k).map (·.2)):=by
 induction r with
 | nil=>exact True.intro
 | @cons p q ps qs h t ih=>
   obtain ⟨h1,_,h2⟩:=h
   by_cases e:p.1=k
   . have e':q.1=k:=h1.symm.trans e
     have b:atKey (q::qs) k=some q.2:=by simp [atKey,List.find?_cons,e']
     rw [fF e,b];exact h2
   . have e':¬ q.1=k:=fun z=>e (h1.trans z)
     have b:atKey (q::qs) k=atKey qs k:=by simp [atKey,List.find?_cons,e']
     rw [fG e,b];exact ih
theorem KT.repl {H:Hp} {kvs:List (List Key×V)} {xs:List (List Key×Addr×Value)} (r:KT H kvs xs) (k:List Key) {y:V} {u:Value} (ry:RelV y u) :
   KT H (kvs.map fun kv=>if kv.1=k then (kv.1,y) else kv) (xs.map (putAt k u)):=by
 induction r with
 | nil=>exact .nil
 | @cons p q ps qs h t ih=>
   rw [List.map_cons,List.map_cons]
   refine .cons ?_ ih
   obtain ⟨h1,h2,h3⟩:=h
   unfold putAt
   by_cases e:p.1=k
   . rw [if_pos e,if_pos (h1.symm.trans e)];exact ⟨h1,h2,ry⟩
   . rw [if_neg e,if_neg (fun z=>e (h1.trans z))];exact ⟨h1,h2,h3⟩
theorem KT.put {H:Hp} {kvs:List (List Key×V)} {xs:List (List Key×Addr×Value)} (r:KT H kvs xs) (k:List Key) {b:Addr} {y:V} {u:Value} (hb:H b=some (.tup (k.map kV))) (ry:RelV y u) :
   KT H (putK kvs k y) (storedH xs k b u):=by
 have e:(kvs.any fun kv=>decide (kv.1=k))=(atKey xs k).isSome:=by
   rw [mO,(r.val k).qg,Option.isSome_map]
 unfold putK storedH
 rw [e]
 by_cases q:(atKey xs k).isSome=true
 . rw [if_pos q,if_pos q];exact r.repl k ry
 . rw [if_neg q,if_neg q];exact Paired.snoc r ⟨rfl,hb,ry⟩
theorem KT.keeps {H H':Hp} {kvs:List (List Key×V)} {xs:List (List Key×Addr×Value)} (r:KT H kvs xs) (ht:∀ b ys,H b=some (.tup ys)->H' b=some (.tup ys)):KT H' kvs xs:=
 Paired.TZ r fun _ _ z=>⟨z.1,ht _ _ z.2.1,z.2.2⟩
section
variable {P:Program} {w:World} {H:Hp} {h:Heap} {a:Addr}
theorem Tq {u:HO} (ok:tH P w H h) (e:Rd H a u):cS P w H h a u:=e.ok ok
theorem Jw {kvs:List (Key×V)} (ok:tH P w H h) (e:Rd H a (.dK kvs)):kvs.length<=sizeLine/\(a==sysModules)=false/\∃ vs,KV kvs vs/\h.DictOf (eU P w) a vs:=
 show cS P w H h a (.dK kvs) from Tq ok e
theorem Tr {kvs:List (Key×V)} (ok:tH P w H h) (e:H a=some (.dK kvs)):kvs.length<=sizeLine/\(a==sysModules)=false/\∃ vs,KV kvs vs/\h.DictOf (eU P w) a vs:=Jw ok (.inl e)
theorem B7 {ks:List Key} (ok:tH P w H h) (e:H a=some (.tup (ks.map kV))):(tupleKind (eU P w)).is h ks a:=by
 obtain ⟨_,its,r,o,h1,h2,n,h3⟩:=(show cS P w H h a (.tup (ks.map kV)) from ok a _ e)
 exact ⟨o,its.toArray,n,h1,h2,h3,by simpa using Ge r⟩
theorem Jx {kvs:List (List Key×V)} (ok:tH P w H h) (e:Rd H a (.dT kvs)):kvs.length<=sizeLine/\(a==sysModules)=false /\
   ∃ xs,KT H kvs xs/\h.DictOfH (tupleKind (eU P w)) a xs:=by
 obtain ⟨z,y,xs,r,o,es,ep,h1,h2,h3,h4,h5⟩:=(show cS P w H h a (.dT kvs) from Tq ok e)
 refine ⟨z,y,xs,r,o,es,ep,h1,h2,h3,h4,fun x hx=>?_,h5⟩
 have all:∀ {l:List (List Key×V)} {m:List (List Key×Addr×Value)},KT H l m->∀ x ∈ m,(tupleKind (eU P w)).is h x.1 x.2.1:=by
   intro l m q
   induction q with
   | nil=>intro x hx;exact nomatch hx
   | @cons p q ps qs hq t ih=>
     intro x hx
     rcases List.mem_cons.mp hx with e | hx
     . subst e
       exact B7 ok (by rw [<- hq.1];exact hq.2.1)
     . exact ih x hx
 exact all r x hx
theorem Tu {kvs:List (List Key×V)} (ok:tH P w H h) (e:H a=some (.dT kvs)):kvs.length<=sizeLine/\(a==sysModules)=false /\
   ∃ xs,KT H kvs xs/\h.DictOfH (tupleKind (eU P w)) a xs:=Jx ok (.inl e)
end
def vt (H:Hp) (a:Addr) (y:V) (r:Option V):Prop:=
 (∃ kvs k,Rd H a (.dK kvs)/\y=kV k/\r=iA kvs k)\/∃ kvs k b,Rd H a (.dT kvs)/\y=.ref b/\H b=some (.tup (k.map kV))/\r=iA kvs k
def DQ (H:Hp) (a:Addr) (y v:V) (H':Hp):Prop:=
 (∃ kvs k,H a=some (.dK kvs)/\y=kV k/\kvs.length < sizeLine/\H'=upd H a (.dK (putK kvs k v))) \/
 ∃ kvs k b,H a=some (.dT kvs)/\y=.ref b/\H b=some (.tup (k.map kV))/\kvs.length < sizeLine/\H'=upd H a (.dT (putK kvs k v))
theorem vt.k {H:Hp} {a:Addr} {kvs:List (Key×V)} {k:Key} (e:H a=some (.dK kvs)):vt H a (kV k) (iA kvs k):=.inl ⟨kvs,k,.inl e,rfl,rfl⟩
theorem vt.t {H:Hp} {a b:Addr} {kvs:List (List Key×V)} {k:List Key} (e:H a=some (.dT kvs)) (eb:H b=some (.tup (k.map kV))):vt H a (.ref b) (iA kvs k):=.inr ⟨kvs,k,b,.inl e,rfl,eb,rfl⟩
theorem DQ.k {H:Hp} {a:Addr} {kvs:List (Key×V)} {k:Key} {v:V} (e:H a=some (.dK kvs)) (hl:kvs.length < sizeLine):DQ H a (kV k) v (upd H a (.dK (putK kvs k v))):=.inl ⟨kvs,k,e,rfl,hl,rfl⟩
theorem DQ.t {H:Hp} {a b:Addr} {kvs:List (List Key×V)} {k:List Key} {v:V} (e:H a=some (.dT kvs)) (eb:H b=some (.tup (k.map kV))) (hl:kvs.length < sizeLine) :
   DQ H a (.ref b) v (upd H a (.dT (putK kvs k v))):=.inr ⟨kvs,k,b,e,rfl,eb,hl,rfl⟩
section
variable {X:Cx} {pins:List (Addr×Obj)} {σ:St} {H:Hp} {s:Shared} {a:Addr} {y v:V} {u r:Value} {o:Option V} {A:Around} {E:Value->Shared->Prop}
theorem Inv.big (I:Inv X pins σ H s):sysModules < s.heap.objs.size:=by
 have h:mainGlobals < s.heap.objs.size:=(I.mod.glob.keeps I.bk).lt
 exact Nat.lt_trans (by decide) h
theorem Ni {Q:Value->Shared->Prop} (hu:A.units+1 < cLine) (I:Inv X pins σ H s) (g:vt H a y (some v)) (ry:RelV y u) (h:∀ w' s',Inv X pins σ H s'->RelV v w'->Q w' s') :
   wpAny (model X.prog X.w) A (getItem (.ref a) u) Q E s:=by
 rcases g with ⟨kvs,k,e,ey,l⟩ | ⟨kvs,k,b,e,ey,eb,l⟩
 . subst ey
   obtain ⟨z,hd,vs,rel,dd⟩:=Jw I.hok e
   obtain ⟨w',hw,rw'⟩:=pZ.some_of (v:=v) (o:=valueAt vs k) (by rw [l];exact rel.val k)
   exact wpAny_getItem_of (Gd ry) dd.mapOf hw (h w' _ (I.tok _) rw')
 . subst ey
   cases (show u=Value.ref b from ry)
   obtain ⟨z,hd,xs,rel,dd⟩:=Jx I.hok e
   obtain ⟨w',hw,rw'⟩:=pZ.some_of (v:=v) (o:=(atKey xs k).map (·.2)) (by rw [l];exact rel.val k)
   obtain ⟨p,hp,hp2⟩:=Option.map_eq_some_iff.mp hw
   refine wpAny_getItem_heap (tupleKind_room_in1 hu) (B7 I.hok eb) dd hp ?_
   rw [hp2]
   exact h w' _ (I.tok _) rw'
theorem Y7 {Q:Value->Shared->Prop} (hu:A.units+1 < cLine) (I:Inv X pins σ H s) (g:vt H a y o) (ry:RelV y u) (h:∀ s',Inv X pins σ H s'->Q (.bool o.isSome) s') :
   wpAny (model X.prog X.w) A (compareOp .In u (.ref a)) Q E s:=by
 rcases g with ⟨kvs,k,e,ey,l⟩ | ⟨kvs,k,b,e,ey,eb,l⟩
 . subst ey
   obtain ⟨z,hd,vs,rel,dd⟩:=Jw I.hok e
   refine wpAny_in_of (Gd ry) hd dd.mapOf ?_
   rw [<- (rel.val k).qg,<- l]
   exact h _ (I.tok _)
 . subst ey
   cases (show u=Value.ref b from ry)
   obtain ⟨z,hd,xs,rel,dd⟩:=Jx I.hok e
   refine wpAny_in_heap (tupleKind_room_in1 hu) (B7 I.hok eb) hd dd ?_
   have q:=(rel.val k).qg
   rw [Option.isSome_map] at q
   rw [<- q,<- l]
   exact h _ (I.tok _)
theorem Rt {Q:Value->Shared->Prop} (hu:A.units+1 < cLine) (I:Inv X pins σ H s) (g:vt H a y o) (ry:RelV y u) (h:∀ s',Inv X pins σ H s'->Q (.bool (!o.isSome)) s') :
   wpAny (model X.prog X.w) A (compareOp .NotIn u (.ref a)) Q E s:=by
 rcases g with ⟨kvs,k,e,ey,l⟩ | ⟨kvs,k,b,e,ey,eb,l⟩
 . subst ey
   obtain ⟨z,hd,vs,rel,dd⟩:=Jw I.hok e
   refine wpAny_notIn_of (Gd ry) hd dd.mapOf ?_
   rw [<- (rel.val k).qg,<- l]
   exact h _ (I.tok _)
 . subst ey
   cases (show u=Value.ref b from ry)
   obtain ⟨z,hd,xs,rel,dd⟩:=Jx I.hok e
   refine wpAny_notIn_heap (tupleKind_room_in1 hu) (B7 I.hok eb) hd dd ?_
   have q:=(rel.val k).qg
   rw [Option.isSome_map] at q
   rw [<- q,<- l]
   exact h _ (I.tok _)
theorem Dq {h':Heap} {t':Nat} {ob:HO} (I:Inv X pins σ H s) (mu:SX (H a)) (hs:Heap.SameBut a s.heap h') (he:∃ q,h'.get? a=some q) (new:cS X.prog X.w (upd H a ob) h' a ob) :
   Inv X pins σ (upd H a ob) { s with heap:=h',toks:=t' }:=
 I.write (x:=a) (e:=a) mu (.inl rfl) (fun b q hb z=>(hs.2 b hb).trans z) he new
theorem OV {P:Program} {w:World} {H':Hp} {h':Heap} {kvs:List (Key×V)} {vs:List (Key×Value)} (z:kvs.length<=sizeLine) (hd:(a==sysModules)=false) (rel:KV kvs vs) (dd:h'.DictOf (eU P w) a vs) :
   cS P w H' h' a (.dK kvs):=⟨z,hd,vs,rel,dd⟩
theorem Nj {H':Hp} {Q:Unit->Shared->Prop} (hu:A.units+1 < cLine) (I:Inv X pins σ H s) (g:DQ H a y v H') (ry:RelV y u) (rv:RelV v r) (h:∀ s',Inv X pins σ H' s'->Q () s') :
   wpAny (model X.prog X.w) A (setItem (.ref a) u r) Q E s:=by
 rcases g with ⟨kvs,k,e,ey,l,eH⟩ | ⟨kvs,k,b,e,ey,eb,l,eH⟩
 . subst ey eH
   obtain ⟨z,hd,vs,rel,dd⟩:=Tr I.hok e
   have hz:vs.length<=sizeLine:=by rw [<- rel.length];exact z
   have hl:(putK kvs k v).length<=sizeLine:=by have:=gA kvs k v;omega
   refine wpAny_setItem_pairs (hsz:=hz) (Gd ry) dd fun h' dd' hs=>h _ ?_
   have he:∃ q,h'.get? a=some q:=let ⟨q,_,_,hq,_⟩:=dd';⟨q,hq⟩
   exact Dq I (by rw [e];exact True.intro) hs he (OV hl hd (rel.put k rv) dd')
 . subst ey eH
   cases (show u=Value.ref b from ry)
   obtain ⟨z,hd,xs,rel,dd⟩:=Tu I.hok e
   have hz:xs.length<=sizeLine:=by rw [<- Paired.length rel];exact z
   have hl:(putK kvs k v).length<=sizeLine:=by have:=gA kvs k v;omega
   refine wpAny_setItem_heap (hsz:=hz) (tupleKind_room_in1 hu) (B7 I.hok eb) dd fun h' dd' hs=>h _ ?_
   obtain ⟨q,es,ep,hq,h2,h3,h4,_,h5⟩:=dd'
   refine Dq I (by rw [e];exact True.intro) hs ⟨q,hq⟩ ⟨hl,hd,_,(rel.put k eb rv).keeps fun c ys ec=>?_,q,es,ep,hq,h2,h3,h4,h5⟩
   rw [aq (lO ec e (fun z=>nomatch z))]
   exact ec
end
section
variable {X:Cx} {pins:List (Addr×Obj)} {σ:St} {H:Hp} {s:Shared} {a:Addr} {kvs:List (Key×V)} {k:Key} {u:Value} {A:Around} {E:Value->Shared->Prop}
end
def Wr (i:Expr):Prop:=∀ ov iv,subscripted i false ov iv=operate [ov,iv] (getItem ov iv)
theorem Ru {prog:Program} {w:World} {A:Around} {E:Value->Shared->Prop} {s:Shared} {env:Env} {value slice:Expr} {pos:Pos} {T id:String} {Q:Value->Shared->Prop}
   (hl:typeLookup (.type T) "__getitem__"=pure (some (.builtin id))) (hs:Wr slice)
   (h:wpAny (model prog w) A (eval value env) (fun o s₁=>wpAny (model prog w) A (eval slice env) (fun i s₂=>s₂.TypeIs o T/\wpAny (model prog w) A (getItem o i) Q E s₂) E s₁) E s) :
   wpAny (model prog w) A (eval (.Subscript value slice pos) env) Q E s:=by
 refine Subscript_ (wpAny_mono h (fun o s₁ h₁=>wpAny_mono h₁ (fun i s₂ h₂=>?_) fun _ _ x=>x) fun _ _ x=>x)
 obtain ⟨hT,h₂⟩:=h₂
 unfold subscriptTail
 refine wpAny_bind ?_
 rw [getitemInPython_of_ne hT.not_modules]
 refine wpAny_bind (wpAny_specialOf hT hl ?_)
 have fin:wpAny (model prog w) A (subscripted slice false o i) (fun r s₃=>wpAny (model prog w) A (letTemporaryGo value o r >>= fun _=>pure r) Q E s₃) E s₂:=by
   rw [hs o i]
   exact wpAny_operating (wpAny_mono h₂ (fun r s₃ h₃=>wpAny_bind (wpAny_letTemporaryGo (wpAny_pure h₃))) fun _ _ x=>x)
 first
   | exact wpAny_pure (wpAny_bind fin)
   | exact wpAny_bind (wpAny_pure (wpAny_bind fin))
   | exact wpAny_bind fin
theorem Jy {X:Cx} {pins:List (Addr×Obj)} {σ:St} {H:Hp} {s:Shared} {a:Addr} {y:V} {o:Option V} (I:Inv X pins σ H s) (g:vt H a y o):s.TypeIs (.ref a) "dict":=by
 rcases g with ⟨kvs,k,e,_,_⟩ | ⟨kvs,k,b,e,_,_,_⟩
 . obtain ⟨_,_,vs,_,dd⟩:=Jw I.hok e
   exact dd.typeIs
 . obtain ⟨_,_,xs,_,dd⟩:=Jx I.hok e
   exact dd.typeIs
def Ws (td ty:TE):TE:=fun σ H Q=>td σ H fun x H1=>ty σ H1 fun y H2=>∃ a v,x=.ref a/\vt H2 a y (some v)/\Q v H2
def Y8 (ty td:TE):TE:=fun σ H Q=>ty σ H fun y H1=>td σ H1 fun x H2=>∃ a o,x=.ref a/\vt H2 a y o/\Q (.bl o.isSome) H2
def Rv (ty td:TE):TE:=fun σ H Q=>ty σ H fun y H1=>td σ H1 fun x H2=>∃ a o,x=.ref a/\vt H2 a y o/\Q (.bl (!o.isSome)) H2
def Wt (td ty tv:TE):TS:=fun D σ H=>tv σ H fun v H1=>td σ H1 fun x H2=>ty σ H2 fun y H3=>∃ a H4,x=.ref a/\DQ H3 a y v H4/\D.nx σ H4
section
variable {X:Cx} {o i e value:Expr} {pos pos' tpos:Pos} {td ty tv:TE}
theorem Hg (hu:X.A.units+1 < cLine) (ho:PE X o td) (hi:PE X i ty) (hs:Wr i):PE X (.Subscript o i pos) (Ws td ty):=by
 intro pins s σ H Q I h
 refine Ru PySem.F.slot_dict_getitem.lookup hs (d7 (ho pins s σ H _ I h) fun u s1 ⟨x,H1,I1,rx,q1⟩=>d7 (hi pins s1 σ H1 _ I1 q1) fun iv s2 ⟨y,H2,I2,ry,a,v,ex,g,q2⟩=>?_)
 subst ex
 obtain rfl:u=Value.ref a:=rx
 exact ⟨Jy I2 g,Ni hu I2 g ry fun w' s3 I3 rw'=>⟨v,H2,I3,rw',q2⟩⟩
theorem OW (hu:X.A.units+1 < cLine) (hi:PE X i ty) (ho:PE X o td):PC X .In i o (Y8 ty td):=by
 intro pins s σ H Q I h
 refine d7 (hi pins s σ H _ I h) fun iv s1 ⟨y,H1,I1,ry,q1⟩=>d7 (ho pins s1 σ H1 _ I1 q1) fun u s2 ⟨x,H2,I2,rx,a,ov,ex,g,q2⟩=>?_
 subst ex
 obtain rfl:u=Value.ref a:=rx
 exact Y7 hu I2 g ry fun s3 I3=>⟨.bl ov.isSome,H2,I3,rfl,q2⟩
theorem Nk (hu:X.A.units+1 < cLine) (hi:PE X i ty) (ho:PE X o td):PC X .NotIn i o (Rv ty td):=by
 intro pins s σ H Q I h
 refine d7 (hi pins s σ H _ I h) fun iv s1 ⟨y,H1,I1,ry,q1⟩=>d7 (ho pins s1 σ H1 _ I1 q1) fun u s2 ⟨x,H2,I2,rx,a,ov,ex,g,q2⟩=>?_
 subst ex
 obtain rfl:u=Value.ref a:=rx
 exact Rt hu I2 g ry fun s3 I3=>⟨.bl (!ov.isSome),H2,I3,rfl,q2⟩
theorem zB (hu:X.A.units+1 < cLine) (ho:PE X o td) (hi:PE X i ty) (hv:PE X value tv) (hs:swapsWith value (some (.Subscript o i pos')) pos.line X.env=pure false) :
   PS X (.Assign [.Subscript o i pos'] value pos) (Wt td ty tv):=by
 intro pins s σ H D I h
 refine wpAny_Assign_Subscript (d7 (hv pins s σ H _ I h) fun r s1 ⟨v,H1,I1,rv,q1⟩=>d7 (ho pins s1 σ H1 _ I1 q1) fun u s2 ⟨x,H2,I2,rx,q2⟩=>d7 (hi pins s2 σ H2 _ I2 q2) fun iv s3 ⟨y,H3,I3,ry,a,H4,ex,g,q3⟩=>?_) hs
 subst ex
 obtain rfl:u=Value.ref a:=rx
 exact Nj hu I3 g ry rv fun s4 I4=>⟨σ,H4,I4,q3⟩
end
theorem OX {P:Program} {w:World} {H:Hp} (h:Heap) (hb:sysModules < h.objs.size):cS P w H (h.push { cls:=.type "dict",data:=.dict #[] }) h.objs.size (.dK []):=
 ⟨Nat.zero_le _,beq_eq_false_iff_ne.mpr (Ne.symm (Nat.ne_of_lt hb)),[],.nil,Heap.DictOf.new h⟩
theorem Jz {P:Program} {w:World} {H:Hp} (h:Heap) (hb:sysModules < h.objs.size):cS P w H (h.push { cls:=.type "dict",data:=.dict #[] }) h.objs.size (.dT []):=
 ⟨Nat.zero_le _,beq_eq_false_iff_ne.mpr (Ne.symm (Nat.ne_of_lt hb)),[],.nil,_,#[],0,Heap.get?_push_size _ rfl,⟨rfl,rfl,rfl⟩,rfl,rfl,List.nodup_nil⟩
def U3:TE:=fun _ H Q=>∀ p,H p=none->Q (.ref p) (upd H p (.dT []))
section
variable {X:Cx} {pos:Pos}
theorem DR:PE X (.Dict [] [] pos) U3:=fun pins s σ H Q I h=>
 wpAny_Dict_empty ⟨.ref s.heap.objs.size,_,I.laid (a:=s.heap.objs.size) (o:=.dT []) (t':=s.toks) (fun _ _ q=>Heap.get?_push_of_some _ q) (Nat.le_refl _) (Jz s.heap I.big),rfl,h _ (I.hok.fresh (Nat.le_refl _))⟩
end
def L3:List (TE×TE)->St->Hp->(List (V×V)->Hp->Prop)->Prop
 | [],_,H,Q=>Q [] H
 | (tk,tv)::r,σ,H,Q=>tk σ H fun x H1=>tv σ H1 fun y H2=>L3 r σ H2 fun ps H3=>Q ((x,y)::ps) H3
abbrev VV:List (V×V)->List (Value×Value)->Prop:=Paired fun p q=>RelV p.1 q.1/\RelV p.2 q.2
def X3 (X:Cx) (pos:Pos) (keys:List (Option Expr)) (values:List Expr) (Rw:List (TE×TE)):Prop:=
 ∀ (pins:List (Addr×Obj)) (s:Shared) (σ:St) (H:Hp) (Q:List (V×V)->Hp->Prop),Inv X pins σ H s->L3 Rw σ H Q->
   wpAny (model X.prog X.w) X.A (evalPairs (pairTrees keys values X.env pos)) (fun vs s'=>∃ ps H',Inv X pins σ H' s'/\VV ps vs/\Q ps H') X.xe s
theorem Mt {X:Cx} {pos:Pos}:X3 X pos [] [] []:=fun pins s σ H Q I h=>pairTrees_nil_walk ⟨[],H,I,.nil,h⟩
theorem J0 {X:Cx} {pos:Pos} {k v:Expr} {ks:List (Option Expr)} {vs:List Expr} {tk tv:TE} {Rw:List (TE×TE)} (hk:PE X k tk) (hv:PE X v tv) (hr:X3 X pos ks vs Rw) :
   X3 X pos (some k::ks) (v::vs) ((tk,tv)::Rw):=fun pins s σ H Q I h=>
 pairTrees_cons_walk (d7 (hk pins s σ H _ I h) fun u s1 ⟨x,H1,I1,rx,q1⟩=>d7 (hv pins s1 σ H1 _ I1 q1) fun w2 s2 ⟨y,H2,I2,ry,q2⟩=>
   d7 (hr pins s2 σ H2 _ I2 q2) fun ws s3 ⟨ps,H3,I3,rel,q3⟩=>⟨(x,y)::ps,H3,I3,.cons ⟨rx,ry⟩ rel,q3⟩)
def B8 (kvs more:List (Key×V)):List (Key×V):=more.foldl (fun acc kv=>putK acc kv.1 kv.2) kvs
theorem KV.merge:∀ {more:List (Key×V)} {rs:List (Key×Value)} {kvs:List (Key×V)} {vs:List (Key×Value)},KV more rs->KV kvs vs->KV (B8 kvs more) (merged vs rs):=by
 intro more rs kvs vs r
 unfold KV at r
 induction r generalizing kvs vs with
 | nil=>intro q;exact q
 | @cons p q ps qs h t ih=>
   intro r0
   have e:KV (putK kvs p.1 p.2) (stored vs q.1 q.2):=by
     have:=r0.put p.1 h.2
     rw [<- h.1];exact this
   exact ih e
theorem xS:∀ (more kvs:List (Key×V)),(B8 kvs more).length<=kvs.length+more.length
 | [],kvs=>by show kvs.length<=kvs.length+0;omega
 | p::r,kvs=>by
   have h1:=xS r (putK kvs p.1 p.2)
   have h2:=gA kvs p.1 p.2
   show (B8 (putK kvs p.1 p.2) r).length<=_
   rw [List.length_cons];omega
theorem DS {P:Program} {w:World}:∀ {kvs:List (Key×V)} {ws:List (Value×Value)},VV (kvs.map fun kv=>(kV kv.1,kv.2)) ws->∃ rs,Carries (eU P w) ws rs/\KV kvs rs
 | [],_,r=>by rw [List.map_nil] at r;cases r;exact ⟨[],True.intro,.nil⟩
 | p::kvs,_,r=>by
   rw [List.map_cons] at r
   cases r with
   | @cons a b as bs h t=>
     obtain ⟨rs,c,q⟩:=DS (P:=P) (w:=w) t
     obtain ⟨b1,b2⟩:=b
     exact ⟨(p.1,b2)::rs,⟨Gd h.1,rfl,c⟩,.cons ⟨rfl,h.2⟩ q⟩
def Wu (Rw:List (TE×TE)):TE:=fun σ H Q=>∀ p,H p=none->L3 Rw σ (upd H p (.dK [])) fun ps H2=>H2 p=some (.dK [])/\∃ kvs:List (Key×V),ps=kvs.map (fun kv=>(kV kv.1,kv.2))/\kvs.length<=15/\Q (.ref p) (upd H2 p (.dK (B8 [] kvs)))
theorem Rx {X:Cx} {pos:Pos} {keys:List (Option Expr)} {values:List Expr} {Rw:List (TE×TE)} (h:X3 X pos keys values Rw) (hall:keys.all (·.isSome)=true) (hl:keys.length=values.length) (h0:keys ≠ [])
   (h15:keys.length<=15):PE X (.Dict keys values pos) (Wu Rw):=by
 intro pins s σ H Q I q
 have hn:=I.hok.fresh (Nat.le_refl s.heap.objs.size)
 have I1:=I.laid (a:=s.heap.objs.size) (o:=.dK []) (h':=s.heap.push { cls:=.type "dict",data:=.dict #[] }) (t':=s.toks) (fun _ _ q=>Heap.get?_push_of_some _ q) (Nat.le_refl _) (OX s.heap I.big)
 refine wpAny_Dict_walk (knd:=eU X.prog X.w) hall hl h0 h15 (d7 (h pins _ σ _ _ I1 (q _ hn)) fun ws s2 ⟨ps,H2,I2,rel,e,kvs,ep,lk,q2⟩=>?_)
 subst ep
 obtain ⟨rs,c,rk⟩:=DS (P:=X.prog) (w:=X.w) rel
 obtain ⟨z,hd,vs0,r0,dd⟩:=Tr I2.hok e
 cases r0
 refine ⟨rs,c,dd,fun h' dd' hs=>⟨.ref s.heap.objs.size,_,?_,rfl,q2⟩⟩
 have hz:(B8 [] kvs).length<=sizeLine:=by
   have h1:=xS kvs []
   rw [List.length_nil] at h1
   rw [sizeLine_eq];omega
 have he:∃ q,h'.get? s.heap.objs.size=some q:=let ⟨q,_,_,hq,_⟩:=dd';⟨q,hq⟩
 exact Dq I2 (by rw [e];exact True.intro) hs he (OV hz hd (rk.merge .nil) dd')
section
variable {X:Cx} {pins:List (Addr×Obj)} {σ:St} {H:Hp} {s:Shared} {a:Addr} {y d:V} {u r:Value} {o:Option V} {A:Around} {E:Value->Shared->Prop}
end
section
variable {X:Cx} {o e f:Expr} {apos cpos:Pos} {td ty tx:TE}
end
section
variable {X:Cx} {pins:List (Addr×Obj)} {σ:St} {H:Hp} {s:Shared} {a:Addr} {kvs:List (Key×V)} {A:Around} {E:Value->Shared->Prop}
end
section
variable {X:Cx} {pins:List (Addr×Obj)} {σ:St} {H:Hp} {s:Shared} {a:Addr} {y:V} {u:Value} {A:Around} {E:Value->Shared->Prop}
end
end L2
namespace L2
open PySem PySem.Spec PyProof.Rows
section
variable {prog:Program} {w:World} {A:Around} {E:Value->Shared->Prop}
end
section
variable {X:Cx}
end
end L2
namespace L2
open PySem PySem.Spec PyProof.Rows
section
variable {X:Cx} {pins:List (Addr×Obj)} {σ:St} {H:Hp} {s:Shared} {h':Heap}
theorem Inv.Nl {t':Nat} {ch:List Addr} {T:Addr} {ob:HO} (I:Inv X pins σ H s) (k:∀ b o,b ∉ ch->s.heap.get? b=some o->h'.get? b=some o) (hf:∀ b ∈ ch,DE X pins H b) (hT:s.heap.objs.size<=T)
   (new:cS X.prog X.w (upd H T ob) h' T ob):Inv X pins σ (upd H T ob) { s with heap:=h',toks:=t' }:=by
 have hn:H T=none:=I.hok.fresh hT
 have VG:∀ b u,H b=some u->b ∉ ch:=fun b u e z=>by
   have q:=(hf b z).1
   rw [q] at e;cases e
 refine I.step (g':=s.gens) (d':=s.drawn) (ch:=ch) (fun b hb=>⟨(hf b hb).2.2.2.1,(hf b hb).2.1,(hf b hb).2.2.2.2.1,(hf b hb).2.2.2.2.2⟩) (fun b o _ _ hc e _=>k b o hc e) (fun b o _ _ hc e _=>⟨o.slots,k b o hc e⟩)
   (fun b o _ e n=>?_) (fun b o hc e=>⟨o,k b o hc e⟩) (fun b xs e=>?_) (fun b o u e=>?_) (fun b ps e=>⟨#[],?_⟩) (fun m hm=>?_) (fun b u e=>?_) I.bare
 . rw [aq (Nat.ne_of_lt (Nat.lt_of_lt_of_le (Heap.lt_size e) hT))];exact n
 . rw [aq (ay e hn)];exact e
 . rw [aq (ay e hn)];exact e
 . rw [aq (ay e hn),e];simp
 . obtain ⟨o,es,ep,ho,r⟩:=hm
   exact ⟨o,es,ep,k _ o (fun z=>(hf _ z).2.1 rfl) ho,r⟩
 . by_cases hb:b=T
   . subst hb
     rw [ai] at e
     cases e
     exact new
   . rw [aq hb] at e
     refine (I.hok b u e).stay (fun c v hc q=>k c v ?_ q) (fun c q=>by rw [aq (ay q hn)];exact q) fun c xs q=>by rw [aq (ay q hn)];exact q
     rcases hc with z | z
     . rw [z];exact VG b u e
     . exact VG c _ z
theorem Inv.lock {d:Addr} {u:HO} (I:Inv X pins σ H s) (h:H d=some u) (mu:SX (some u)):∃ od,Inv X pins σ (upd H d (.l6 od u)) s:=by
 have x:=I.hok d u h
 have ex:∃ od,s.heap.get? d=some od:=by
   cases u with
   | lst xs=>obtain ⟨_,_,_,_,e⟩:=x;exact ⟨_,e⟩
   | dK kvs=>obtain ⟨_,_,_,_,o,_,_,e,_⟩:=x;exact ⟨o,e⟩
   | dT kvs=>obtain ⟨_,_,_,_,o,_,_,e,_⟩:=x;exact ⟨o,e⟩
   | set S n=>obtain ⟨o,_,_,_,e,_⟩:=x;exact ⟨o,e⟩
   | ins C dx fs=>obtain ⟨_,_,_,e,_⟩:=x;exact ⟨_,e⟩
   | ext φ=>obtain ⟨_,⟨_,e⟩,_⟩:=x;exact ⟨_,e⟩
   | _=>exact False.elim mu
 obtain ⟨od,e⟩:=ex
 have new:cS X.prog X.w (upd H d (.l6 od u)) s.heap d (.l6 od u):=by
   refine ⟨e,x.stay (fun b v _ q=>q) (fun b q=>?_) fun b xs q=>?_⟩
   . rw [aq (fun z=>by rw [z,h] at q;cases q;exact mu)];exact q
   . rw [aq (fun z=>by rw [z,h] at q;cases q;exact mu)];exact q
 exact ⟨od,I.write (x:=d) (e:=d) (t':=s.toks) (h':=s.heap) (by rw [h];exact mu) (.inl rfl) (fun b v _ q=>q) ⟨od,e⟩ new⟩
theorem Inv.Mu {d:Addr} {u:HO} (I:Inv X pins σ H s) (h:H d=some u) (mu:SX (some u)):∀ o' u',X.Ub d ≠ some (.l6 o' u'):=fun o' u' e=>by
 have q:=I.base.yX d o' u' e
 rw [h] at q
 cases q
 exact mu
theorem Inv.unlock {d:Addr} {od:Obj} {u:HO} (I:Inv X pins σ H s) (h:H d=some (.l6 od u)) (hn:∀ o' u',X.Ub d ≠ some (.l6 o' u')):Inv X pins σ (upd H d u) s:=by
 have VA:∀ b o,H b=some o->(∀ o' u',o ≠ .l6 o' u')->b ≠ d:=fun b o e hne z=>by
   rw [z,h] at e
   cases e
   exact hne _ _ rfl
 have neN:∀ b,H b=none->b ≠ d:=fun b e z=>by rw [z,h] at e;cases e
 refine ⟨I.ok,I.os,I.bare,⟨I.base.keep,I.base.slot,fun b o e n hx=>?_,I.base.there,fun b xs e=>?_,fun b o x e=>?_,fun b ps e=>?_⟩,I.loc,I.cell,?_,fun x c e=>?_,fun p hp=>?_,fun b o e=>?_,I.len⟩
 . rw [aq (neN b (I.base.free b o e n hx))];exact I.base.free b o e n hx
 . have q:=I.base.tups b xs e
   rw [aq (VA b _ q (fun _ _ z=>nomatch z))];exact q
 . have q:=I.base.yX b o x e
   rw [aq (fun z=>by rw [z] at e;exact hn _ _ e)];exact q
 . obtain ⟨m,q⟩:=I.base.Bq b ps e
   exact ⟨m,by rw [aq (VA b _ q (fun _ _ z=>nomatch z))];exact q⟩
 . rw [aq (neN _ I.free)];exact I.free
 . rw [aq (neN c (I.g7 x c e))];exact I.g7 x c e
 . obtain ⟨e,n,r⟩:=I.pin p hp
   exact ⟨e,by rw [aq (neN _ n)];exact n,r⟩
 . by_cases hb:b=d
   . rw [hb,ai] at e
     cases e
     rw [hb]
     obtain ⟨_,x⟩:=I.hok d _ h
     exact x.stay (fun c v _ q=>q) (fun c q=>by rw [aq (VA c _ q (fun _ _ z=>nomatch z))];exact q) fun c xs q=>by rw [aq (VA c _ q (fun _ _ z=>nomatch z))];exact q
   . rw [aq hb] at e
     exact (I.hok b o e).stay (fun c v _ q=>q) (fun c q=>by rw [aq (VA c _ q (fun _ _ z=>nomatch z))];exact q) fun c xs q=>by rw [aq (VA c _ q (fun _ _ z=>nomatch z))];exact q
end
def Wv (t:TS):TS:=fun D σ H=>∃ d u,H d=some u/\SX (some u)/\∀ od,t ⟨fun σ' H'=>H' d=some (.l6 od u)/\D.nx σ' (upd H' d u),fun v H'=>H' d=some (.l6 od u)/\D.rt v (upd H' d u),fun σ' H'=>H' d=some (.l6 od u)/\D.bk σ' (upd H' d u),fun σ' H'=>H' d=some (.l6 od u)/\D.ct σ' (upd H' d u)⟩ σ (upd H d (.l6 od u))
section
variable {X:Cx}
theorem Mv {st:Stmt} {t:TS} (h:PS X st t):PS X st (Wv t):=by
 intro pins s σ H D I hw
 obtain ⟨d,u,hd,mu,hw⟩:=hw
 obtain ⟨od,I1⟩:=I.lock hd mu
 refine d7 (h pins s σ _ _ I1 (hw od)) fun f s1 q=>?_
 cases f with
 | next=>obtain ⟨σ',H',I2,e,q⟩:=q;exact ⟨σ',_,I2.unlock e (I.Mu hd mu),q⟩
 | brk=>obtain ⟨σ',H',I2,e,q⟩:=q;exact ⟨σ',_,I2.unlock e (I.Mu hd mu),q⟩
 | cont=>obtain ⟨σ',H',I2,e,q⟩:=q;exact ⟨σ',_,I2.unlock e (I.Mu hd mu),q⟩
 | ret v=>obtain ⟨x,σ',H',I2,r,e,q⟩:=q;exact ⟨x,σ',_,I2.unlock e (I.Mu hd mu),r,q⟩
theorem L4 {tg:Expr} {pins:List (Addr×Obj)} {σ:St} {H:Hp} {s:Shared} {R:It->Hp->Prop} {J:It} {tn:Nat->Heap->Prop} {tk:Nat} (I:Inv X pins σ H s) (o:Obj)
   (T:Turn X.prog X.w X.K tg J [s.heap.objs.size] s.heap.objs.size tn) (st:tn 0 (s.heap.push o)) (q:R J H):Yj X pins σ tg R (.ref s.heap.objs.size) { s with heap:=s.heap.push o,toks:=tk }:=by
 refine ⟨s.heap.objs.size,[s.heap.objs.size],tn,J,H,rfl,I.kept fun b ob e=>Heap.get?_push_of_some _ e,T,st,fun b hb=>?_,q⟩
 have e:b=s.heap.objs.size:=by simpa using hb
 subst e
 exact I.Nb (Nat.le_refl _) (I.hok.fresh (Nat.le_refl _))
end
def Ww (lo c:Int) (n:Nat):It:=⟨fun i _=>i < n,fun i H x H'=>H'=H/\x=.int (lo+(i:Nat) * c),fun i _=>n<=i⟩
theorem J1 {P:Program} {w:World} {K:PySem.W.Frag} {tg:Expr} (it:Addr) (lo c:Int) (n:Nat):Turn P w K tg (Ww lo c n) [it] it (fun i h=>IsRangeIter h it (lo+(i:Nat) * c) ((n:Int) - (i:Nat)) c) where
 mem:=by simp
 obj:=fun i h st b hb=>by
   have e:b=it:=by simpa using hb
   subst e
   exact ⟨_,st,fun v z=>nomatch z⟩
 keep:=fun i h h' st k=>k it (by simp) _ st
 item:=by
   intro X hP hw hK hc i pins s σ H E I hf st hg
   subst hP hw hK
   obtain ⟨f0,f1,f2,f3,f4,f5⟩:=hf it (by simp)
   have W:=Walks.range (prog:=X.prog) (w:=X.w) (I.ok.hd hc) it lo c n
   refine W.item i s _ _ hg st fun v h' tk hv st' kk=>?_
   obtain ⟨t,rfl⟩:=hv
   have I1:Inv X pins σ H { s with heap:=h',toks:=tk }:=I.turned (fun b o hb e=>kk b o (by simpa using hb) e) f0 f1 f3 f4 f5
   exact ⟨_,rfl,FN (s:={ s with heap:=h',toks:=tk }) (n:="range_iterator") st' rfl rfl (by decide) ⟨.int (lo+(i:Nat) * c),H,I1,⟨t,rfl⟩,⟨rfl,rfl⟩,st',fun b hb=>(hf b hb).1⟩⟩
 done:=by
   intro X hP hw hK hc i pins s σ H E I hf st hg
   subst hP hw hK
   obtain ⟨f0,f1,f2,f3,f4,f5⟩:=hf it (by simp)
   exact wpAny_pyNext_range_end (I.ok.hd hc) st (by have:n<=i:=hg;omega) fun h' eb=>⟨rfl,I.turned (t':=s.toks) (fun b o hb e=>eb b o hb e) f0 f1 f3 f4 f5⟩
 self:=fun A i s Q E st h=>wpAny_pyIter_rangeiter st h
def X4 (i j c:Int) (n:Nat):Prop:=c ≠ 0/\c.natAbs < 1073741824/\Builtin.Range.small i j c=true/\Builtin.Range.rangeSize i j c=n
theorem X4.neg {i j:Int} (ha:-(2 ^ 62)<=i) (ha':i < 2 ^ 62) (hb:-(2 ^ 62)<=j) (hb':j < 2 ^ 62):X4 i j (-1) (i - j).toNat:=
 ⟨by decide,by decide,PySem.W.small_down ha ha' hb hb',PySem.W.rangeSize_downNat i j⟩
def Wx (ta:TA):TI:=fun σ H R=>ta σ H fun vs H1=>∃ (i j c:Int) (n:Nat),vs=[.int i,.int j,.int c]/\X4 i j c n/\R (Ww i c n) H1
section
variable {X:Cx} {tg:Expr}
theorem Nm {a b c:Expr} {ta:TA} {p pos:Pos} (hg:Gl X "range") (hm:X.mg "range"=none) (ha:PA X [a,b,c] ta)
   (hs:starEach [a,b,c] X.env=(false,eval a X.env)::starEach [b,c] X.env:=by rfl) (hpl:(backTo pos (starEach [b,c] X.env)).any (·.1)=false:=by rfl) :
   PI X tg (.Call (.Name "range" p) [a,b,c] [] pos) (Wx ta):=by
 intro pins s σ H R I h
 refine Call_ (Bt I hg hm boot_range (PyProof.Rows.callWith_type1 (d7 (ha pos pins s σ H _ I h) fun us s1 ⟨vs,H1,I1,r1,q1⟩=>?_) hs hpl))
 obtain ⟨i,j,k,n,e,⟨c0,c1,c2,c3⟩,q⟩:=q1
 subst e
 cases r1 with
 | cons r rr=>
   cases rr with
   | cons r' rr=>
     cases rr with
     | cons r'' rr=>
       cases rr
       obtain ⟨t,rfl⟩:=r
       obtain ⟨t',rfl⟩:=r'
       obtain ⟨t'',rfl⟩:=r''
       refine call_range_3 c0 ?_ (.inl (PyProof.noPylong_small c1))
       refine wpAny_pyIter_range (IsRange.new ..) c2 ?_
       have I2:Inv X pins σ H1 { s1 with heap:=s1.heap.push { cls:=.type "range",data:=.fields #[.int i t,.int j t',.int k t''] } }:=I1.kept (t':=s1.toks) fun b o e=>Heap.get?_push_of_some _ e
       refine L4 (tk:=s1.toks) I2 _ (J1 _ i k n) ?_ q
       have e1:i+((0:Nat):Int) * k=i:=by simp
       have e2:(n:Int) - ((0:Nat):Int)=Builtin.Range.rangeSize i j k:=by rw [c3];simp
       show IsRangeIter _ _ (i+((0:Nat):Int) * k) ((n:Int) - ((0:Nat):Int)) k
       rw [e1,e2]
       exact Heap.get?_push_size _ rfl
end
theorem L5 {lo c:Int} {n:Nat} {g:TG} {tb:TS} {D:Ends} {σ:St} {H:Hp} (Pv:Nat->St->Hp->Prop) (h0:Pv 0 σ H)
   (hs:∀ i σ H,i < n->Pv i σ H->g (.int (lo+(i:Nat) * c)) σ H fun σ2 H2=>tb { D with nx:=Pv (i+1),ct:=Pv (i+1),bk:=D.nx } σ2 H2) (hd:∀ σ H,Pv n σ H->D.nx σ H) :
   ∃ W:Nat->Nat->St->Hp->Prop,(∃ m,W 0 m σ H)/\∀ i m σ H,W i m σ H->
     ((Ww lo c n).stop i H/\D.nx σ H)\/((Ww lo c n).go i H/\∃ N:St->Hp->Prop,(∀ σ' H',N σ' H'->∃ m',m' < m/\W (i+1) m' σ' H')/\∀ x H',(Ww lo c n).O3 i H x H'->g x σ H' fun σ2 H2=>tb { D with nx:=N,ct:=N,bk:=D.nx } σ2 H2):=by
 refine ⟨fun i m σ H=>m=n - i/\i<=n/\Pv i σ H,⟨n,by simp,Nat.zero_le _,h0⟩,?_⟩
 rintro i m σ H ⟨rfl,hi,p⟩
 by_cases hlt:i < n
 . refine .inr ⟨hlt,Pv (i+1),fun σ' H' p'=>⟨n - (i+1),by omega,rfl,hlt,p'⟩,fun x H' y=>?_⟩
   obtain ⟨e,y⟩:=y
   subst e y
   exact hs i σ _ hlt p
 . have e:i=n:=by omega
   subst e
   exact .inl ⟨Nat.le_refl _,hd σ H p⟩
section
variable {X:Cx} {tg:Expr}
end
section
variable {prog:Program} {w:World} {A:Around} {E:Value->Shared->Prop} {s:Shared}
theorem Gf {d:Addr} {o:Obj} {es:Array DictEntry} {ep:Nat} {Q:Value->Shared->Prop} (hd:(d==sysModules)=false) (ho:s.heap.get? d=some o) (hc:o.ExactDict) (hdat:o.data=.dict es ep)
   (hQ:Q (.ref s.heap.objs.size) { s with heap:=s.heap.push { cls:=.type "dict_keyiterator",data:=.fields #[.ref d,.int 0 0,.int es.size 0,.int ep 0] } }) :
   wpAny (model prog w) A (pyIter (.ref d)) Q E s:=by
 have hT:s.TypeIs (.ref d) "dict":=⟨o,ho,hc.1⟩
 refine wpAny_pyIter_slot hT F.slot_dict_iter (wpAny_call_entry F.slot_dict_iter hT F.entry_dict_iter ?_ (F.args_dict_iter_1 _))
 unfold Builtin.«dict.__iter__»
 refine wpAny_bind ?_
 unfold Builtin.Dict.dictSlotNone
 refine wpAny_bind (wpAny_notOrdered_dict hT ?_)
 show wpAny _ _ (pure (Value.ref d)) _ _ s
 refine wpAny_pure ?_
 show wpAny _ _ (Builtin.Dict.showsAll d >>= _) _ _ s
 unfold Builtin.Dict.showsAll
 rw [if_neg (by rw [hd];exact Bool.false_ne_true)]
 refine wpAny_bind (wpAny_pure ?_)
 refine wpAny_bind (wpAny_dictEntries ho hdat ?_)
 refine wpAny_bind (wpAny_dictEpoch ho hdat ?_)
 refine wpAny_bind (wpAny_newObj_type (wpAny_pure ⟨_,rfl,"dict_keyiterator",_,⟨_,Heap.get?_push_size _ rfl,rfl⟩,F.slot_dict_keyiterator_next.lookup,?_⟩))
 simpa [rawInt] using hQ
theorem EL {it d:Addr} {i n ep:Nat} {od:Obj} {es:Array DictEntry} {en:DictEntry} {Q:Option Value->Shared->Prop} (hit:s.heap.IsKeyIter it d i n ep) (hod:s.heap.get? d=some od) (Wy:od.data=.dict es ep)
   (hsz:es.size=n) (hx:es[i]?=some en) (hQ:∀ h',h'.IsKeyIter it d (i+1) n ep->Heap.SameBut it s.heap h'->Q (some en.key) { s with heap:=h' }):wpAny (model prog w) A (pyNext (.ref it)) Q E s:=by
 obtain ⟨o,ho,hc,hd⟩:=id hit
 unfold pyNext
 refine wpAny_bind (wpAny_attempt (wpAny_callSpecial?_slot (name:=Str.ofString "__next__") hit.typeIs F.slot_dict_keyiterator_next
   (wpAny_call_entry F.slot_dict_keyiterator_next hit.typeIs F.entry_dict_keyiterator_next ?_ (F.args_dict_keyiterator_next_1 _))))
 refine wpAny_bind (wpAny_pure ?_)
 refine wpAny_bind ?_
 refine wpAny_bind ?_
 first | refine wpAny_bind (wpAny_typeNameOfWhole_keyiter hit.typeIs (wpAny_pure ?_)) | refine wpAny_bind (wpAny_typeNameOf_keyiter hit.typeIs (wpAny_pure ?_))
 refine wpAny_bind (wpAny_fieldsOf ho hd ?_)
 have hown:Builtin.Dict_items.ownsTuple "dict_keyiterator"=false:=by decide
 simp only [hown,Bool.false_eq_true,if_false]
 show wpAny _ _ (if (Value.ref d==Value.none)=true then _ else _) _ _ s
 rw [if_neg (show ¬ ((Value.ref d==Value.none)=true) from Bool.false_ne_true)]
 refine wpAny_bind (wpAny_pure ?_)
 refine wpAny_bind (wpAny_dictEntries hod Wy ?_)
 rw [if_neg (by rw [hsz];simp)]
 refine wpAny_bind (wpAny_pure ?_)
 refine wpAny_bind (wpAny_dictEpoch hod Wy ?_)
 rw [if_neg (by simp)]
 refine wpAny_pure ?_
 obtain ⟨hlt',hen⟩:=Array.getElem?_eq_some_iff.mp hx
 simp only [show ¬ ((i:Int) < 0) from by omega,if_false,Int.toNat_natCast,Array.getElem?_eq_getElem hlt']
 refine wpAny_bind ?_
 first | refine wpAny_bind (wpAny_typeNameOfWhole_keyiter hit.typeIs (wpAny_pure ?_)) | refine wpAny_bind (wpAny_typeNameOf_keyiter hit.typeIs (wpAny_pure ?_))
 refine wpAny_bind (wpAny_isOneOf_keyiter hit.typeIs ?_)
 show wpAny _ _ (setField (.ref it) 1 (rawInt ((i:Int)+1)) >>= _) _ _ s
 refine wpAny_bind (wpAny_setField ho hd (by simp) ?_)
 have hit':(s.heap.update it (Obj.mapFields (·.setIfInBounds 1 (rawInt ((i:Int)+1))))).IsKeyIter it d (i+1) n ep:=
   ⟨_,Heap.get?_update_self _ ho (Obj.isFreed_of_fields (Obj.data_mapFields hd _)),(Obj.cls_mapFields ..).trans hc,by rw [Obj.data_mapFields hd];simp [rawInt]⟩
 refine wpAny_bind (wpAny_holding ?_)
 refine wpAny_bind (wpAny_isOneOf_keyiter (s:={ s with heap:=s.heap.update it (Obj.mapFields (·.setIfInBounds 1 (rawInt ((i:Int)+1)))) }) hit'.typeIs ?_)
 show wpAny _ _ (pure es[i].key) _ _ _
 rw [hen]
 exact wpAny_pure (wpAny_pure ⟨_,rfl,wpAny_pure (hQ _ hit' (Heap.SameBut.update ..))⟩)
theorem zC {it d:Addr} {i n ep:Nat} {od:Obj} {es:Array DictEntry} {Q:Option Value->Shared->Prop} (hh:A.handled=none) (hit:s.heap.IsKeyIter it d i n ep) (hod:s.heap.get? d=some od) (Wy:od.data=.dict es ep)
   (hsz:es.size=n) (hge:n<=i) (hQ:∀ h',Heap.ExtBut it s.heap h'->Q none { s with heap:=h' }):wpAny (model prog w) A (pyNext (.ref it)) Q E s:=by
 obtain ⟨o,ho,hc,hd⟩:=id hit
 unfold pyNext
 refine wpAny_bind (wpAny_attempt (wpAny_callSpecial?_slot (name:=Str.ofString "__next__") hit.typeIs F.slot_dict_keyiterator_next
   (wpAny_call_entry F.slot_dict_keyiterator_next hit.typeIs F.entry_dict_keyiterator_next ?_ (F.args_dict_keyiterator_next_1 _))))
 refine wpAny_bind (wpAny_pure ?_)
 refine wpAny_bind ?_
 refine wpAny_bind ?_
 first | refine wpAny_bind (wpAny_typeNameOfWhole_keyiter hit.typeIs (wpAny_pure ?_)) | refine wpAny_bind (wpAny_typeNameOf_keyiter hit.typeIs (wpAny_pure ?_))
 refine wpAny_bind (wpAny_fieldsOf ho hd ?_)
 have hown:Builtin.Dict_items.ownsTuple "dict_keyiterator"=false:=by decide
 simp only [hown,Bool.false_eq_true,if_false]
 show wpAny _ _ (if (Value.ref d==Value.none)=true then _ else _) _ _ s
 rw [if_neg (show ¬ ((Value.ref d==Value.none)=true) from Bool.false_ne_true)]
 refine wpAny_bind (wpAny_pure ?_)
 refine wpAny_bind (wpAny_dictEntries hod Wy ?_)
 rw [if_neg (by rw [hsz];simp)]
 refine wpAny_bind (wpAny_pure ?_)
 refine wpAny_bind (wpAny_dictEpoch hod Wy ?_)
 rw [if_neg (by simp)]
 refine wpAny_pure ?_
 have hge':es.size<=i:=by rw [hsz];exact hge
 simp only [show ¬ ((i:Int) < 0) from by omega,if_false,Int.toNat_natCast,Array.getElem?_eq_none hge']
 refine wpAny_bind ?_
 first | refine wpAny_bind (wpAny_typeNameOfWhole_keyiter hit.typeIs (wpAny_pure ?_)) | refine wpAny_bind (wpAny_typeNameOf_keyiter hit.typeIs (wpAny_pure ?_))
 show wpAny _ _ (setField (.ref it) 0 .none >>= _) _ _ s
 refine wpAny_bind (wpAny_setField ho hd (by simp) ?_)
 show wpAny _ _ (newExc (.type "StopIteration") [] >>= _) _ _ _
 refine wpAny_bind ?_
 simp only [newExc,newTuple]
 refine wpAny_bind (wpAny_newObj_type ?_ (by size_fits))
 refine wpAny_bind (m:=firstArgMember _ _) (wpAny_of_eq (a:=Value.none) (by first | rfl | (simp only [firstArgMember];rfl)) ?_)
 refine wpAny_newObj_type ?_ (by size_fits)
 simp only [raiseNew]
 refine wpAny_bind (wpAny_handled ?_)
 rw [show A.in1.handled=none from hh]
 refine wpAny_bind (wpAny_pure (wpAny_throw ?_))
 refine wpAny_bind (wpAny_isInstance (T:="StopIteration") (b:=true) ⟨_,Heap.get?_push_size _ rfl,rfl⟩ isSubtype_stop ?_)
 exact wpAny_pure (hQ _ (((Heap.SameBut.update ..).extBut.push _).push _))
end
theorem U4 {κ:Type} {kvs:List (κ×V)} {vs:List (κ×Value)} (h:KV kvs vs):∀ {i:Nat} {k:κ} {v:V},kvs[i]?=some (k,v)->∃ u,vs[i]?=some (k,u)/\RelV v u:=by
 unfold KV at h
 induction h with
 | nil=>intro i k v e;simp at e
 | @cons a b l₁ l₂ r t ih=>
   intro i k v e
   cases i with
   | zero=>
     simp only [List.getElem?_cons_zero,Option.some.injEq] at e
     subst e
     refine ⟨b.2,?_,r.2⟩
     simp only [List.getElem?_cons_zero]
     exact congrArg some (Prod.ext r.1.symm rfl)
   | succ j=>
     simp only [List.getElem?_cons_succ] at e ⊢
     exact ih e
theorem L6 {α β:Type} {G:α->β->Prop} {l₁:List α} {l₂:List β} (h:Paired G l₁ l₂):∀ {i:Nat} {a:α},l₁[i]?=some a->∃ b,l₂[i]?=some b/\G a b:=by
 induction h with
 | nil=>intro i a e;simp at e
 | @cons a b l₁ l₂ r t ih=>
   intro i a' e
   cases i with
   | zero=>
     simp only [List.getElem?_cons_zero,Option.some.injEq] at e
     subst e
     exact ⟨b,rfl,r⟩
   | succ j=>
     simp only [List.getElem?_cons_succ] at e ⊢
     exact ih e
theorem OY {k:Key} {u:Value} (h:Cm k u=true):RelV (kV k) u:=by
 rcases ee h with ⟨i,t,rfl,rfl⟩ | ⟨x,t,rfl,rfl⟩
 . exact ⟨t,rfl⟩
 . exact ⟨t,rfl⟩
section
variable {X:Cx} {pins:List (Addr×Obj)} {σ:St} {H:Hp} {s:Shared} {d:Addr} {o:Obj}
theorem Inv.U5 {kvs:List (Key×V)} (I:Inv X pins σ H s) (h:H d=some (.l6 o (.dK kvs))) :
   (d==sysModules)=false/\s.heap.get? d=some o/\o.ExactDict/\∃ (es:Array DictEntry) (ep:Nat) (vs:List (Key×Value)),o.data=.dict es ep/\es.size=kvs.length/\KV kvs vs/\s.heap.DictAt (eU X.prog X.w) d vs ep:=by
 obtain ⟨hd,z,hs,vs,kv,o',es,ep,ho,hx,hdt,r⟩:=I.hok d _ h
 rw [hd] at ho
 cases ho
 refine ⟨hs,hd,hx,es,ep,vs,hdt,?_,kv,o,es,hd,hx,hdt,r⟩
 have l1:=r.2.1.length
 have l2:kvs.length=vs.length:=Paired.length kv
 rw [Array.length_toList] at l1
 omega
theorem Inv.U6 {kvs:List (List Key×V)} (I:Inv X pins σ H s) (h:H d=some (.l6 o (.dT kvs))) :
   (d==sysModules)=false/\s.heap.get? d=some o/\o.ExactDict/\∃ (es:Array DictEntry) (ep:Nat),o.data=.dict es ep/\es.size=kvs.length /\
     ∀ (i:Nat) (k:List Key) (v:V),kvs[i]?=some (k,v)->∃ (en:DictEntry) (q:Addr),es[i]?=some en/\en.key=.ref q/\H q=some (.tup (k.map kV)):=by
 obtain ⟨hd,z,hs,xs,pr,o',es,ep,ho,hx,hdt,he,_⟩:=I.hok d _ h
 rw [hd] at ho
 cases ho
 refine ⟨hs,hd,hx,es,ep,hdt,?_,fun i k v e=>?_⟩
 . have l1:es.size=xs.length:=size_of_entries he
   have l2:kvs.length=xs.length:=Paired.length pr
   omega
 . obtain ⟨b,hb,e1,e2,_⟩:=L6 pr e
   have q:=entry_at he i
   rw [hb] at q
   exact ⟨_,b.2.1,q,rfl,e2⟩
end
def Z8 (d:Addr) (o:Obj) (kvs:List (Key×V)):It:=
 ⟨fun i H=>H d=some (.l6 o (.dK kvs))/\i < kvs.length,fun i H x H'=>H'=H/\∃ k v,kvs[i]?=some (k,v)/\x=kV k,fun i H=>H d=some (.l6 o (.dK kvs))/\kvs.length<=i⟩
def OZ (d:Addr) (o:Obj) (kvs:List (List Key×V)):It:=
 ⟨fun i H=>H d=some (.l6 o (.dT kvs))/\i < kvs.length,fun i H x H'=>H'=H/\∃ (k:List Key) (v:V) (q:Addr),kvs[i]?=some (k,v)/\x=.ref q/\H q=some (.tup (k.map kV)),fun i H=>H d=some (.l6 o (.dT kvs))/\kvs.length<=i⟩
theorem Dr {o:Obj} {es es':Array DictEntry} {ep ep':Nat} (h:o.data=.dict es ep) (h':o.data=.dict es' ep'):es'=es/\ep'=ep:=by
 rw [h] at h'
 cases h'
 exact ⟨rfl,rfl⟩
section
variable {P:Program} {w:World} {K:PySem.W.Frag} {tg:Expr} {d:Addr} {o:Obj} {es:Array DictEntry} {ep:Nat}
theorem Nn {kvs:List (Key×V)} (it:Addr) (hod:o.data=.dict es ep):Turn P w K tg (Z8 d o kvs) [it] it (fun i h=>h.IsKeyIter it d i kvs.length ep) where
 mem:=by simp
 obj:=fun i h st b hb=>by
   have e:b=it:=by simpa using hb
   subst e
   obtain ⟨oi,e,c,dd⟩:=st
   exact ⟨oi,e,fun v z=>by rw [dd] at z;cases z⟩
 keep:=fun i h h' st k=>st.at fun oi e=>k it (by simp) oi e
 item:=by
   intro X hP hw hK hc i pins s σ H E I hf st hg
   subst hP hw hK
   obtain ⟨hd,hi⟩:=hg
   obtain ⟨f0,f1,f2,f3,f4,f5⟩:=hf it (by simp)
   obtain ⟨hs,hgd,hx,es',ep',vs,hdt,hsz,kv,hm⟩:=I.U5 hd
   obtain ⟨rfl,rfl⟩:=Dr hod hdt
   obtain ⟨⟨k,v⟩,hkv⟩:∃ p,kvs[i]?=some p:=⟨kvs[i],List.getElem?_eq_getElem hi⟩
   obtain ⟨u,hu,ru⟩:=U4 kv hkv
   have hl:kvs.length=vs.length:=Paired.length kv
   rw [hl] at st
   refine wpAny_pyNext_dict_item st hm hu fun key h' hkey st' sb=>?_
   have I1:Inv X pins σ H { s with heap:=h' }:=I.turned (t':=s.toks) (fun b ob hb e=>(sb.2 b hb).trans e) f0 f1 f3 f4 f5
   obtain ⟨oi,e,c,dd⟩:=id st'
   refine ⟨key,rfl,FN (s:={ s with heap:=h' }) e c dd (by decide) ⟨kV k,H,I1,OY (show Cm k key=true from hkey),⟨rfl,k,v,hkv,rfl⟩,?_,fun b hb=>(hf b hb).1⟩⟩
   show h'.IsKeyIter it d (i+1) kvs.length _
   rw [hl]
   exact st'
 done:=by
   intro X hP hw hK hc i pins s σ H E I hf st hg
   subst hP hw hK
   obtain ⟨hd,hi⟩:=hg
   obtain ⟨f0,f1,f2,f3,f4,f5⟩:=hf it (by simp)
   obtain ⟨hs,hgd,hx,es',ep',vs,hdt,hsz,kv,hm⟩:=I.U5 hd
   obtain ⟨rfl,rfl⟩:=Dr hod hdt
   exact zC (I.ok.hd hc) st hgd hdt hsz hi fun h' eb=>⟨rfl,I.turned (t':=s.toks) (fun b ob hb e=>eb b ob hb e) f0 f1 f3 f4 f5⟩
 self:=fun A i s Q E st h=>wpAny_pyIter_keyiter st h
theorem L7 {kvs:List (List Key×V)} (it:Addr) (hod:o.data=.dict es ep):Turn P w K tg (OZ d o kvs) [it] it (fun i h=>h.IsKeyIter it d i kvs.length ep) where
 mem:=by simp
 obj:=fun i h st b hb=>by
   have e:b=it:=by simpa using hb
   subst e
   obtain ⟨oi,e,c,dd⟩:=st
   exact ⟨oi,e,fun v z=>by rw [dd] at z;cases z⟩
 keep:=fun i h h' st k=>st.at fun oi e=>k it (by simp) oi e
 item:=by
   intro X hP hw hK hc i pins s σ H E I hf st hg
   subst hP hw hK
   obtain ⟨hd,hi⟩:=hg
   obtain ⟨f0,f1,f2,f3,f4,f5⟩:=hf it (by simp)
   obtain ⟨hs,hgd,hx,es',ep',hdt,hsz,ent⟩:=I.U6 hd
   obtain ⟨rfl,rfl⟩:=Dr hod hdt
   obtain ⟨⟨k,v⟩,hkv⟩:∃ p,kvs[i]?=some p:=⟨kvs[i],List.getElem?_eq_getElem hi⟩
   obtain ⟨en,q,hen,hkey,hq⟩:=ent i k v hkv
   refine EL st hgd hdt hsz hen fun h' st' sb=>?_
   have I1:Inv X pins σ H { s with heap:=h' }:=I.turned (t':=s.toks) (fun b ob hb e=>(sb.2 b hb).trans e) f0 f1 f3 f4 f5
   obtain ⟨oi,e,c,dd⟩:=id st'
   exact ⟨en.key,rfl,FN (s:={ s with heap:=h' }) e c dd (by decide) ⟨.ref q,H,I1,hkey,⟨rfl,k,v,q,hkv,rfl,hq⟩,st',fun b hb=>(hf b hb).1⟩⟩
 done:=by
   intro X hP hw hK hc i pins s σ H E I hf st hg
   subst hP hw hK
   obtain ⟨hd,hi⟩:=hg
   obtain ⟨f0,f1,f2,f3,f4,f5⟩:=hf it (by simp)
   obtain ⟨hs,hgd,hx,es',ep',hdt,hsz,ent⟩:=I.U6 hd
   obtain ⟨rfl,rfl⟩:=Dr hod hdt
   exact zC (I.ok.hd hc) st hgd hdt hsz hi fun h' eb=>⟨rfl,I.turned (t':=s.toks) (fun b ob hb e=>eb b ob hb e) f0 f1 f3 f4 f5⟩
 self:=fun A i s Q E st h=>by
   refine wpAny_pyIter_slot st.typeIs F.slot_dict_keyiterator_iter (wpAny_call_entry F.slot_dict_keyiterator_iter st.typeIs F.entry_dict_keyiterator_iter ?_ (F.args_dict_keyiterator_iter_1 _))
   show wpAny _ _ (ret (.ref it)) _ _ s
   exact wpAny_pure ⟨_,rfl,"dict_keyiterator",_,st.typeIs,F.slot_dict_keyiterator_next.lookup,h⟩
end
def Wz (td:TE):TI:=fun σ H R=>td σ H fun x H1=>∃ d o,x=.ref d/\((∃ kvs,H1 d=some (.l6 o (.dK kvs))/\R (Z8 d o kvs) H1)\/∃ kvs,H1 d=some (.l6 o (.dT kvs))/\R (OZ d o kvs) H1)
section
variable {X:Cx} {tg e:Expr} {td:TE} {apos cpos:Pos}
theorem Mw (he:PE X e td):PI X tg e (Wz td):=by
 intro pins s σ H R I h
 refine d7 (he pins s σ H _ I h) fun u s1 ⟨x,H1,I1,rx,d,o,ex,q⟩=>?_
 subst ex
 obtain rfl:u=Value.ref d:=rx
 rcases q with ⟨kvs,hd,q⟩ | ⟨kvs,hd,q⟩
 . obtain ⟨hs,hgd,hx,es,ep,vs,hdt,hsz,kv,hm⟩:=I1.U5 hd
   refine Gf hs hgd hx hdt (L4 (tk:=s1.toks) I1 _ (Nn _ hdt) ⟨_,Heap.get?_push_size _ rfl,rfl,?_⟩ q)
   rw [hsz]<;>rfl
 . obtain ⟨hs,hgd,hx,es,ep,hdt,hsz,ent⟩:=I1.U6 hd
   refine Gf hs hgd hx hdt (L4 (tk:=s1.toks) I1 _ (L7 _ hdt) ⟨_,Heap.get?_push_size _ rfl,rfl,?_⟩ q)
   rw [hsz]<;>rfl
end
def W0 (K:PySem.W.Frag) (a:Addr):It:=
 ⟨fun i H=>∃ (xs:List V) (x:V),dN K H a xs/\xs[i]?=some x,fun i H v H'=>∃ T x,v=.ref T/\H T=none/\H'=upd H T (.tup [.int (i:Nat),x])/\∀ xs,dN K H a xs->xs[i]?=some x,fun i H=>∃ xs:List V,dN K H a xs/\xs.length<=i⟩
theorem Np {P:Program} {w:World} {K:PySem.W.Frag} {elts:List Expr} {kk:Nat} {tpos:Pos} (a e it:Addr) :
   Turn P w K (.Tuple elts kk tpos) (W0 K a) [e,it] e (fun i h=>(∃ old,IsEnum h e it ((i:Nat):Int) old)/\h.IsListIter it a i/\e ≠ it) where
 mem:=by simp
 obj:=fun i h st b hb=>by
   obtain ⟨⟨old,he⟩,⟨o,ho,hc,hd⟩,_⟩:=st
   have e':b=e\/b=it:=by simpa using hb
   rcases e' with z | z
   . rw [z];exact ⟨_,he,fun v q=>nomatch q⟩
   . rw [z];exact ⟨o,ho,fun v q=>by rw [hd] at q;cases q⟩
 keep:=fun i h h' st k=>let ⟨⟨old,he⟩,hi,hne⟩:=st;⟨⟨old,k e (by simp) _ he⟩,hi.at fun o q=>k it (by simp) o q,hne⟩
 item:=by
   intro X hP hw hK hc i pins s σ H E I hf st hg
   subst hP hw hK
   obtain ⟨⟨old,he⟩,hit,hne⟩:=st
   obtain ⟨xs,x,hq,hx⟩:=hg
   obtain ⟨its,rv,p,hz⟩:=I.list hq
   obtain ⟨u,hu,ru⟩:=rv.get hx
   have hel:e < s.heap.objs.size:=Heap.lt_size he
   have hil:it < s.heap.objs.size:=by obtain ⟨_,q,_⟩:=hit;exact Heap.lt_size q
   refine wpAny_pyNext_enum_item he hit p.isList (x:=u) (by simpa using hu) hne fun h' ho hit' hT hsz hk=>?_
   refine ⟨_,rfl,wpAny_letOwnedTupleGo_enum (s:={ s with heap:=h',toks:=s.toks+1 }) ho fun h'' he' sb=>?_⟩
   have hT2:h''.get? s.heap.objs.size=some { cls:=.type "tuple",data:=.seq #[.int i s.toks,u] }:=(sb.2 _ (Nat.ne_of_gt hel)).trans hT
   have new:cS X.prog X.w (upd H s.heap.objs.size (.tup [.int (i:Nat),x])) h'' s.heap.objs.size (.tup [.int (i:Nat),x]):=
     ⟨by show 2<=sizeLine;decide,[.int i s.toks,u],.cons ⟨_,rfl⟩ (.cons ru .nil),⟨_,hT2,rfl,_,rfl⟩⟩
   have I1:Inv X pins σ (upd H s.heap.objs.size (.tup [.int (i:Nat),x])) { s with heap:=h'',toks:=s.toks+1 }:=
     I.Nl (ch:=[e,it]) (fun b ob hb q=>(sb.2 b (fun z=>hb (by simp [z]))).trans (hk b ob (fun z=>hb (by simp [z])) (fun z=>hb (by simp [z])) q)) hf (Nat.le_refl _) new
   refine ⟨.ref s.heap.objs.size,_,I1,rfl,⟨_,x,rfl,I.hok.fresh (Nat.le_refl _),rfl,fun ys hy=>by rw [I.Ji hy hq];exact hx⟩,⟨⟨u,?_⟩,hit'.at fun o q=>(sb.2 it (Ne.symm hne)).trans q,hne⟩,fun b hb=>?_⟩
   . have e1:((i+1:Nat):Int)=(i:Int)+1:=by omega
     rw [e1];exact he'
   . have hb':b < s.heap.objs.size:=by
       have e':b=e\/b=it:=by simpa using hb
       rcases e' with z | z
       . rw [z];exact hel
       . rw [z];exact hil
     rw [aq (Nat.ne_of_lt hb')]
     exact (hf b hb).1
 done:=by
   intro X hP hw hK hc i pins s σ H E I hf st hg
   subst hP hw hK
   obtain ⟨⟨old,he⟩,hit,hne⟩:=st
   obtain ⟨xs,hq,hx⟩:=hg
   obtain ⟨its,rv,p,hz⟩:=I.list hq
   obtain ⟨f0,f1,f2,f3,f4,f5⟩:=hf it (by simp)
   have hl:=rv.length
   exact wpAny_pyNext_enum_end (I.ok.hd hc) he hit p.isList (by simp;omega) fun h' eb=>⟨rfl,I.turned (t':=s.toks) (fun b o hb q=>eb b o hb q) f0 f1 f3 f4 f5⟩
 self:=fun A i s Q E st h=>let ⟨⟨_,he⟩,_⟩:=st;wpAny_pyIter_enum he h
def W2 (K:PySem.W.Frag) (ta:TA):TI:=fun σ H R=>ta σ H fun vs H1=>∃ a xs,vs=[.ref a]/\dN K H1 a xs/\R (W0 K a) H1
theorem Hh {X:Cx} {e:Expr} {ta:TA} {p pos tpos:Pos} {elts:List Expr} {kk:Nat} (hg:Gl X "enumerate") (hm:X.mg "enumerate"=none) (ha:PA X [e] ta) (hs:starEach [e] X.env=[(false,eval e X.env)]:=by rfl) :
   PI X (.Tuple elts kk tpos) (.Call (.Name "enumerate" p) [e] [] pos) (W2 X.K ta):=by
 intro pins s σ H R I h
 refine Call_ (Bt I hg hm boot_enumerate (PyProof.Rows.callWith_type1 (d7 (ha pos pins s σ H _ I h) fun us s1 ⟨vs,H1,I1,r1,q1⟩=>?_) hs rfl))
 obtain ⟨a,xs,ex,hq,q⟩:=q1
 subst ex
 cases r1 with
 | cons r rr=>
   cases rr
   cases r
   obtain ⟨its,rv,p',hz⟩:=I1.list hq
   refine call_enumerate_list p'.isList fun h' he hit hsz hk=>wpAny_pyIter_enum he ?_
   have I2:Inv X pins σ H1 { s1 with heap:=h' }:=I1.kept (t':=s1.toks) hk
   refine ⟨s1.heap.objs.size+1,[s1.heap.objs.size+1,s1.heap.objs.size],_,_,H1,rfl,I2,Np a (s1.heap.objs.size+1) s1.heap.objs.size,⟨⟨.none,he⟩,hit,Nat.succ_ne_self _⟩,fun b hb=>?_,q⟩
   have e':b=s1.heap.objs.size+1\/b=s1.heap.objs.size:=by simpa using hb
   have hle:s1.heap.objs.size<=b:=by
     rcases e' with z | z
     . rw [z];exact Nat.le_add_right _ _
     . rw [z];exact Nat.le_refl _
   exact I1.Nb hle (I1.hok.fresh hle)
end L2
section
namespace Y9
open PySem PyProof.Rows
end Y9
end
section
namespace TL
open PySem PySem.Builtin PySem.Builtin.Str PySem.StrLaws
end TL
end
namespace L2
open PySem PySem.Spec PyProof.Rows
section
variable {X:Cx} {pins:List (Addr×Obj)} {σ:St} {H:Hp} {s:Shared} {Q:VK}
end
section
variable {X:Cx}
end
section
variable {X:Cx} {o e:Expr} {to te:TE}
end
end L2
namespace L2
open PySem PySem.Spec PyProof.Rows
section
variable {X:Cx}
end
end L2
namespace Att
open PySem PySem.W PySem.Calls PyProof.Rows
section
variable {prog:Program} {w:World} {A:Around} {E:Value->Shared->Prop} {s:Shared} {K:Frag}
end
end Att
namespace L2
open PySem PySem.Spec PyProof.Rows
end L2
namespace L2
open PySem PySem.Spec PyProof.Rows
end L2
namespace L2
open PySem PySem.Spec PyProof.Rows
def inClass (s:Stmt) (j:Nat):Stmt:=match s with
 | .ClassDef _ _ _ body _ _ _ _ _ _ _=>body.getD j (.Pass ⟨0,0,0,0⟩)
 | _=>.Pass ⟨0,0,0,0⟩
def aE (s:Stmt):Arguments:=match s with
 | .FunctionDef _ a _ _ _ _ _ _ _ _=>a
 | _=>{ posonlyargs:=[],args:=[],vararg:=none,kwonlyargs:=[],kw_defaults:=[],kwarg:=none,defaults:=[] }
def aB (s:Stmt):List Stmt:=match s with
 | .FunctionDef _ _ b _ _ _ _ _ _ _=>b
 | _=>[]
def ak (s:Stmt):Scope:=match s with
 | .FunctionDef _ _ _ _ _ _ sc _ _ _=>sc
 | _=>{ kind:=.function,names:=[],isGenerator:=false,isCoroutine:=false }
abbrev ve:Lc:=fun _ _ _ _ _ _=>False
abbrev E0:XK:=fun _ _ _=>False
theorem f9 {X:Cx}:Passes ve X E0:=fun _ _ _ _ _ _ _ h=>h.elim
structure mK (K:PySem.W.Frag) (x qual:Str) (st:Stmt) (f:Addr) (fd:FuncData):Prop where
 ex:∃ (oc:Value) (od:Option Addr) (kV doc pm:Value) (an:Option Addr) (cdv ct:Value) (osl:Array (Option Value)),
   fd=PySem.W.fnOf x qual (aE st) (aB st) (ak st) .none kV doc pm an cdv ct/\K.lookup f=some ⟨oc,od,.func fd,osl⟩/\PySem.W.codeIn K cdv qual=true
 kp:PySem.W.keepIn K (.ref f)=true
section
variable {P:Program} {w:World} {K:PySem.W.Frag} {mg:Str->Option Value} {base:Heap}
theorem mK.ok {x qual:Str} {st:Stmt} {f:Addr} {fd:FuncData} {N ps:List Str} {k:Nat} {sp:Sp} (F:mK K x qual st f fd) (S:aU N ps (ak st)) (len:∀ vs H Q E,sp vs H Q E->vs.length=ps.length)
   (hbody:∀ (cdv:Value) (A:Around) (outer:List Env) (s:Shared) (H:Hp) (vs:List V) (Q:VK) (E:XK),dW k (A.deeper (envOfC qual (ak st) s.heap.objs.size f cdv))->sp vs H Q E->
     ∃ t,Jh (rV ve P w K mg base N qual (ak st) f cdv A outer s H E).VL (aB st) t/\t { nx:=fun _ H'=>Q .non H',rt:=Q } (start N vs) H):cE P w K mg base ve (k+1) f fd ps sp:=by
 obtain ⟨oc,od,kV,doc,pm,an,cdv,ct,osl,rfl,lk,hcd⟩:=F.ex
 refine Tp lk hcd S len fun A outer s H vs Q E hr Ly=>?_
 obtain ⟨t,h,q⟩:=hbody cdv A outer s H vs Q E hr Ly
 exact ⟨t,h.VL,q⟩
theorem mK.binds {x qual:Str} {st:Stmt} {f:Addr} {fd:FuncData} {ps:List Str} (F:mK K x qual st f fd)
   (h:∀ (kV doc pm:Value) (an:Option Addr) (cdv ct:Value) (us:List Value),us.length=ps.length->bindArgs (PySem.W.fnOf x qual (aE st) (aB st) (ak st) .none kV doc pm an cdv ct) ⟨us,[]⟩=pure (ps.zip us)):Binds K fd ps []:=by
 obtain ⟨oc,od,kV,doc,pm,an,cdv,ct,osl,rfl,lk,hcd⟩:=F.ex
 exact .all (h kV doc pm an cdv ct)
theorem aI {x qual:Str} {st:Stmt} {f:Addr} {oc:Value} {od an:Option Addr} {osl:Array (Option Value)} {kV doc pm cdv ct:Value} (l:K.lookup f=some ⟨oc,od,.func (PySem.W.fnOf x qual (aE st) (aB st) (ak st) .none kV doc pm an cdv ct),osl⟩)
   (c:PySem.W.codeIn K cdv qual=true) (k:PySem.W.keepIn K (.ref f)=true):mK K x qual st f (PySem.W.fnOf x qual (aE st) (aB st) (ak st) .none kV doc pm an cdv ct):=⟨⟨oc,od,kV,doc,pm,an,cdv,ct,osl,rfl,l,c⟩,k⟩
end
section
variable {X:Cx}
theorem pv (i:Nat) {x:Str} {pos:Pos} (hN:X.N[i]?=some x:=by rfl) (hv:Uc X.env.scope x:=by first | exact Or.inl rfl | exact Or.inr (Or.inl rfl) | exact Or.inr (Or.inr rfl)) (hd:(x==("__debug__":Str))=false:=by decide)
   (hcd:(x==("__classdict__":Str))=false:=by decide):PE X (.Name x pos) (VH i):=Ov hN hv hd hcd
end
theorem L8 {A B:Prop} (h:B):if false=true then A else B:=by
 rw [if_neg Bool.false_ne_true]
 exact h
theorem Nq {A B:Prop} (h:A):if true=true then A else B:=by
 rw [if_pos rfl]
 exact h
theorem J2 {c A B:Prop} [Decidable c] (h1:c->A) (h2:¬ c->B):if c then A else B:=by
 by_cases h:c
 . rw [if_pos h]
   exact h1 h
 . rw [if_neg h]
   exact h2 h
def bu (H H':Hp):Prop:=∀ b o,H b=some o->H' b=some o
theorem bu.refl (H:Hp):bu H H:=fun _ _ h=>h
theorem bu.trans {H H1 H2:Hp} (a:bu H H1) (b:bu H1 H2):bu H H2:=fun c o h=>b c o (a c o h)
theorem bu.free {H H':Hp} (e:bu H H') {l:Addr} (h:H' l=Option.none):H l=Option.none:=by
 cases q:H l with
 | none=>rfl
 | some o=>
   rw [e l o q] at h
   cases h
section
variable {κ:Type} [DecidableEq κ]
theorem Mx:∀ {l:List κ} {k:κ},l.Nodup->¬ k ∈ l->(l++[k]).Nodup
 | [],k,_,_=>by simp
 | a::r,k,h,hk=>by
   obtain ⟨h1,h2⟩:=List.nodup_cons.mp h
   show (a::(r++[k])).Nodup
   refine List.nodup_cons.mpr ⟨fun m=>?_,Mx h2 fun m=>hk (List.mem_cons.mpr (Or.inr m))⟩
   rcases List.mem_append.mp m with q | q
   . exact h1 q
   . exact hk (List.mem_cons.mpr (Or.inl (List.mem_singleton.mp q).symm))
end
theorem at_of {xs:List V} {z:Int} {j:Nat} {v:V} (e:z=(j:Int)) (h:xs[j]?=some v):Uw xs z=some v:=by
 rw [e]
 exact cV h
theorem W4 {α:Type} {l:List α} (hN:l.Nodup) {i j:Nat} {x:α} (a:l[i]?=some x) (b:l[j]?=some x):i=j:=by
 obtain ⟨h1,e1⟩:=List.getElem?_eq_some_iff.mp a
 obtain ⟨h2,e2⟩:=List.getElem?_eq_some_iff.mp b
 exact (List.getElem_inj hN).mp (e1.trans e2.symm)
end L2
section
namespace L2
open PySem PySem.Spec PyProof.Rows
open PySem.W (WData Codec OpenSpec Well WellAll ReadsW ReadsAllW)
mutual
inductive Dw (K:PySem.W.Frag) (H:Hp):V->WData->Prop
 | non:Dw K H .non .none
 | bl (b:Bool):Dw K H (.bl b) (.bool b)
 | int (i:Int):Dw K H (.int i) (.int i)
 | str (x:Str):Dw K H (.str x) (.str x)
 | Jc (b:Array UInt8):Dw K H (.Jc b) (.bytes b.toList)
 | lst {a:Addr} {xs:List V} {ds:List WData}:dN K H a xs->tK K H xs ds->Dw K H (.ref a) (.list ds)
 | tup {a:Addr} {xs:List V} {ds:List WData}:rS K H a xs->tK K H xs ds->Dw K H (.ref a) (.tuple ds)
inductive tK (K:PySem.W.Frag) (H:Hp):List V->List WData->Prop
 | nil:tK K H [] []
 | cons {v:V} {vs:List V} {d:WData} {ds:List WData}:Dw K H v d->tK K H vs ds->tK K H (v::vs) (d::ds)
end
theorem My {K:PySem.W.Frag} {H:Hp}:∀ ns:List Int,tK K H (ns.map V.int) (ns.map WData.int)
 | []=>.nil
 | n::r=>.cons (.int n) (My r)
theorem Mz {K:PySem.W.Frag} {H:Hp}:∀ (ns:List Int) (xs:List V),tK K H xs (ns.map WData.int)->xs=ns.map V.int
 | [],xs,h=>by
   cases h
   rfl
 | n::r,xs,h=>by
   cases h with
   | cons h1 h2=>
     cases h1
     rw [Mz r _ h2]<;>rfl
section
variable {P:Program} {w:World} {K:PySem.W.Frag} {H:Hp} {h:Heap} {R:PySem.W.WRecords} {cl:Str->Option Addr}
theorem U7 {a:Addr} {xs:List V} (hok:tH P w H h) (KX:K.In h) (q:dN K H a xs):∃ (its:List Value) (o:Obj) (n:Nat),Vals xs its/\h.get? a=some o/\o.cls=.type "list"/\o.data=.seq its.toArray n:=by
 rcases q with q | ⟨o,its,n,e,hc,_,hd,_,hv⟩
 . obtain ⟨_,its,n,hv,e⟩:=(show cS P w H h a (.lst xs) from q.ok hok)
   exact ⟨its,_,n,hv,e,rfl,rfl⟩
 . exact ⟨its.toList,o,n,hv,KX _ _ e,hc,by simp [hd]⟩
theorem U8 {a:Addr} {xs:List V} (hok:tH P w H h) (KX:K.In h) (q:rS K H a xs):∃ (its:List Value) (o:Obj) (n:Nat),Vals xs its/\h.get? a=some o/\o.cls=.type "tuple"/\o.data=.seq its.toArray n:=by
 rcases q with q | ⟨o,its,n,e,hc,hd,_,hv⟩
 . obtain ⟨_,its,hv,o,e,hc,n,hd⟩:=(show cS P w H h a (.tup xs) from q.ok hok)
   exact ⟨its,o,n,hv,e,hc,hd⟩
 . exact ⟨its.toList,o,n,hv,KX _ _ e,hc,by simp [hd]⟩
mutual
theorem Dw.reads (hok:tH P w H h) (KX:K.In h):∀ (d:WData) (v:V) (u:Value),Dw K H v d->RelV v u->∃ as,ReadsW R cl h u d as
 | .none,_,_,x,r=>by
   cases x
   cases r
   exact ⟨_,ReadsW.none⟩
 | .bool b,_,_,x,r=>by
   cases x
   cases r
   exact ⟨_,ReadsW.bool b⟩
 | .int i,_,_,x,r=>by
   cases x
   obtain ⟨t,rfl⟩:=r
   exact ⟨_,ReadsW.int i t⟩
 | .str s,_,_,x,r=>by
   cases x
   obtain ⟨t,rfl⟩:=r
   exact ⟨_,ReadsW.str s t⟩
 | .bytes b,_,_,x,r=>by
   cases x
   obtain ⟨t,rfl⟩:=r
   exact ⟨_,ReadsW.bytes _ t⟩
 | .list ds,_,_,x,r=>by
   cases x with
   | lst hs ha=>
     cases r
     obtain ⟨its,o,n,rv,ho,hc,hd⟩:=U7 hok KX hs
     obtain ⟨as,hr⟩:=Dw.readsAll hok KX ds _ its ha rv
     exact ⟨_,ReadsW.list ho hc hd hr⟩
 | .tuple ds,_,_,x,r=>by
   cases x with
   | tup hs ha=>
     cases r
     obtain ⟨its,o,n,rv,ho,hc,hd⟩:=U8 hok KX hs
     obtain ⟨as,hr⟩:=Dw.readsAll hok KX ds _ its ha rv
     exact ⟨_,ReadsW.tuple ho hc hd hr⟩
 | .float _,_,_,x,_=>by cases x
 | .dict _,_,_,x,_=>by cases x
 | .bytearray _,_,_,x,_=>by cases x
 | .set _,_,_,x,_=>by cases x
 | .frozenset _,_,_,x,_=>by cases x
 | .obj _ _,_,_,x,_=>by cases x
theorem Dw.readsAll (hok:tH P w H h) (KX:K.In h):∀ (ds:List WData) (vs:List V) (us:List Value),tK K H vs ds->Vals vs us->∃ as,ReadsAllW R cl h us ds as
 | [],_,_,x,r=>by
   cases x
   cases r
   exact ⟨_,ReadsAllW.nil⟩
 | d::ds,_,_,x,r=>by
   cases x with
   | cons h1 h2=>
     cases r with
     | cons r1 r2=>
       obtain ⟨as,q1⟩:=Dw.reads hok KX d _ _ h1 r1
       obtain ⟨bs,q2⟩:=Dw.readsAll hok KX ds _ _ h2 r2
       exact ⟨_,ReadsAllW.cons q1 q2⟩
end
end
mutual
def M0:WData->Bool
 | .none=>true
 | .bool _=>true
 | .int _=>true
 | .str _=>true
 | .bytes _=>true
 | .list xs=>CH xs
 | .tuple xs=>CH xs
 | _=>false
def CH:List WData->Bool
 | []=>true
 | x::r=>M0 x&&CH r
end
theorem J3 {α:Type} {f:α->WData} (h:∀ a,M0 (f a)=true):∀ l:List α,CH (l.map f)=true
 | []=>rfl
 | x::r=>by
   show (M0 (f x)&&CH (r.map f))=true
   rw [h x,J3 h r]<;>rfl
theorem vv:∀ (c:Codec) (a:c.denote),M0 (c.enc a)=true
 | .unit,_=>rfl
 | .bool,_=>rfl
 | .int _ _,_=>rfl
 | .nat _ _,_=>rfl
 | .u8,_=>rfl
 | .bytes _ _,_=>rfl
 | .text _ _ _ _,_=>rfl
 | .list _ _ c,a=>J3 (fun x=>vv c x) a
 | .pair c d,a=>by
   show (M0 (c.enc a.1)&&(M0 (d.enc a.2)&&true))=true
   rw [vv c a.1,vv d a.2]<;>rfl
 | .triple c d e,a=>by
   show (M0 (c.enc a.1)&&(M0 (d.enc a.2.1)&&(M0 (e.enc a.2.2)&&true)))=true
   rw [vv c a.1,vv d a.2.1,vv e a.2.2]<;>rfl
 | .option c,none=>rfl
 | .option c,some x=>vv c x
theorem Gg:∀ (cs:List Codec) (a:Codec.denoteAll cs),CH (Codec.encAll cs a)=true
 | [],_=>rfl
 | c::cs,a=>by
   show (M0 (c.enc a.1)&&CH (Codec.encAll cs a.2))=true
   rw [vv c a.1,Gg cs a.2]<;>rfl
theorem zd:∀ {xs:List WData} {d:WData},d ∈ xs->d.weight<=WData.weightAll xs
 | [],d,h=>absurd h (by simp)
 | x::r,d,h=>by
   show d.weight<=x.weight+1+WData.weightAll r
   rcases List.mem_cons.mp h with e | m
   . rw [e]
     omega
   . have z:=zd m
     omega
def toV:Value->V
 | .none=>.non
 | .bool b=>.bl b
 | .int i _=>.int i
 | .str x _=>.str x
 | .bytes b _=>.Jc b
 | .ref a=>.ref a
 | _=>.non
def Nr (A:List Addr):Value->Prop
 | .none=>True
 | .bool _=>True
 | .int _ _=>True
 | .str _ _=>True
 | .bytes _ _=>True
 | .ref a=>a ∈ A
 | _=>False
theorem Nr.mono {A B:List Addr} (h:∀ a ∈ A,a ∈ B):∀ {u:Value},Nr A u->Nr B u:=fun {u} x=>by
 cases u with
 | ref a=>exact h a x
 | none=>trivial
 | bool b=>trivial
 | int i t=>trivial
 | str s t=>trivial
 | bytes b t=>trivial
 | _=>exact False.elim x
theorem Pa {A:List Addr} {u:Value} (x:Nr A u):RelV (toV u) u:=by
 cases u with
 | ref a=>rfl
 | none=>rfl
 | bool b=>rfl
 | int i t=>exact ⟨t,rfl⟩
 | str s t=>exact ⟨t,rfl⟩
 | bytes b t=>exact ⟨t,rfl⟩
 | _=>exact False.elim x
theorem qh {A:List Addr}:∀ {vs:List Value},(∀ u ∈ vs,Nr A u)->Vals (vs.map toV) vs
 | [],_=>.nil
 | u::r,h=>.cons (Pa (h u (List.mem_cons_self ..))) (qh fun x hx=>h x (List.mem_cons_of_mem _ hx))
def tL (h:Heap) (A:List Addr) (a:Addr):Prop:=∃ vs:List Value,vs.length<=sizeLine/\(∀ u ∈ vs,Nr A u) /\
 (h.get? a=some { cls:=.type "list",data:=.seq vs.toArray }\/h.get? a=some { cls:=.type "tuple",data:=.seq vs.toArray })
theorem tL.mono {h:Heap} {A B:List Addr} {a:Addr} (k:∀ a ∈ A,a ∈ B) (x:tL h A a):tL h B a:=by
 obtain ⟨vs,h1,h2,h3⟩:=x
 exact ⟨vs,h1,fun u hu=>(h2 u hu).mono k,h3⟩
theorem o4 {P:Params} {h:Heap}:∀ {vs:List Value} {ds:List WData},WellAll P h vs ds->vs.length=ds.length
 | _,_,.nil=>rfl
 | _,_,.cons _ b=>by
   show _+1=_+1
   rw [o4 b]
theorem Gh {P:Params} {h:Heap} {v:Value} {ds:List WData} (x:Well P h v (.list ds)):∃ (a:Addr) (vs:List Value),v=.ref a/\h.get? a=some { cls:=.type "list",data:=.seq vs.toArray }/\WellAll P h vs ds:=by
 cases x with
 | list ho hall=>exact ⟨_,_,rfl,ho,hall⟩
theorem DT {P:Params} {h:Heap} {v:Value} {ds:List WData} (x:Well P h v (.tuple ds)):∃ (a:Addr) (vs:List Value),v=.ref a/\h.get? a=some { cls:=.type "tuple",data:=.seq vs.toArray }/\WellAll P h vs ds:=by
 cases x with
 | tuple ho hall=>exact ⟨_,_,rfl,ho,hall⟩
theorem Gi {P:Params} {h:Heap} {us:List Value} {d:WData} {ds:List WData} (x:WellAll P h us (d::ds)):∃ (v:Value) (vs:List Value),us=v::vs/\Well P h v d/\WellAll P h vs ds:=by
 cases x with
 | cons a b=>exact ⟨_,_,rfl,a,b⟩
theorem M3 {n:Nat} (h:n<=1048576):n<=sizeLine:=Nat.le_trans h (by decide)
section
variable {P:Params} {h:Heap}
mutual
theorem Pb:∀ (d:WData) (v:Value),Well P h v d->M0 d=true->d.weight<=1048576->∃ A:List Addr,Nr A v/\∀ a ∈ A,tL h A a
 | .none,_,x,_,_=>by
   cases x
   exact ⟨[],trivial,fun a m=>absurd m (by simp)⟩
 | .bool b,_,x,_,_=>by
   cases x
   exact ⟨[],trivial,fun a m=>absurd m (by simp)⟩
 | .int i,_,x,_,_=>by
   cases x
   exact ⟨[],trivial,fun a m=>absurd m (by simp)⟩
 | .str s,_,x,_,_=>by
   cases x
   exact ⟨[],trivial,fun a m=>absurd m (by simp)⟩
 | .bytes b,_,x,_,_=>by
   cases x
   exact ⟨[],trivial,fun a m=>absurd m (by simp)⟩
 | .list ds,_,x,p,z=>by
   obtain ⟨a,vs,rfl,ho,hall⟩:=Gh x
   have z2:WData.weightAll ds<=1048576:=z
   obtain ⟨A,h1,h2⟩:=zD ds _ hall p fun d hd=>Nat.le_trans (zd hd) z2
   have k:∀ b ∈ A,b ∈ a::A:=fun b hb=>List.mem_cons_of_mem _ hb
   refine ⟨a::A,List.mem_cons_self ..,fun b hb=>?_⟩
   rcases List.mem_cons.mp hb with e | m
   . rw [e]
     exact ⟨vs,M3 (by rw [o4 hall];exact Nat.le_trans (PySem.W.length_le_weightAllW ds) z2),fun u hu=>(h1 u hu).mono k,.inl ho⟩
   . exact (h2 b m).mono k
 | .tuple ds,_,x,p,z=>by
   obtain ⟨a,vs,rfl,ho,hall⟩:=DT x
   have z2:WData.weightAll ds<=1048576:=z
   obtain ⟨A,h1,h2⟩:=zD ds _ hall p fun d hd=>Nat.le_trans (zd hd) z2
   have k:∀ b ∈ A,b ∈ a::A:=fun b hb=>List.mem_cons_of_mem _ hb
   refine ⟨a::A,List.mem_cons_self ..,fun b hb=>?_⟩
   rcases List.mem_cons.mp hb with e | m
   . rw [e]
     exact ⟨vs,M3 (by rw [o4 hall];exact Nat.le_trans (PySem.W.length_le_weightAllW ds) z2),fun u hu=>(h1 u hu).mono k,.inr ho⟩
   . exact (h2 b m).mono k
 | .float _,_,_,p,_=>Bool.noConfusion (show false=true from p)
 | .dict _,_,_,p,_=>Bool.noConfusion (show false=true from p)
 | .bytearray _,_,_,p,_=>Bool.noConfusion (show false=true from p)
 | .set _,_,_,p,_=>Bool.noConfusion (show false=true from p)
 | .frozenset _,_,_,p,_=>Bool.noConfusion (show false=true from p)
 | .obj _ _,_,_,p,_=>Bool.noConfusion (show false=true from p)
theorem zD:∀ (ds:List WData) (vs:List Value),WellAll P h vs ds->CH ds=true->(∀ d ∈ ds,d.weight<=1048576)->∃ A:List Addr,(∀ u ∈ vs,Nr A u)/\∀ a ∈ A,tL h A a
 | [],_,x,_,_=>by
   cases x
   exact ⟨[],fun u m=>absurd m (by simp),fun a m=>absurd m (by simp)⟩
 | d::ds,_,x,p,z=>by
   obtain ⟨v,vs,rfl,x1,x2⟩:=Gi x
   have q:M0 d=true/\CH ds=true:=Bool.and_eq_true_iff.mp p
   obtain ⟨A,a1,a2⟩:=Pb d v x1 q.1 (z d (List.mem_cons_self ..))
   obtain ⟨B,b1,b2⟩:=zD ds vs x2 q.2 fun e he=>z e (List.mem_cons_of_mem _ he)
   have kA:∀ b ∈ A,b ∈ A++B:=fun b hb=>List.mem_append.mpr (.inl hb)
   have kB:∀ b ∈ B,b ∈ A++B:=fun b hb=>List.mem_append.mpr (.inr hb)
   refine ⟨A++B,fun u hu=>?_,fun b hb=>?_⟩
   . rcases List.mem_cons.mp hu with e | m
     . rw [e]
       exact a1.mono kA
     . exact (b1 u m).mono kB
   . rcases List.mem_append.mp hb with m | m
     . exact (a2 b m).mono kA
     . exact (b2 b m).mono kB
end
end
def Ry (o:Obj):Option HO:=match o.data with
 | .seq vs _=>if (o.cls==Value.type "list")=true then some (.l6 o (.lst (vs.toList.map toV))) else some (.l6 o (.tup (vs.toList.map toV)))
 | _=>none
def rW (K:PySem.W.Frag) (h:Heap) (A:List Addr):Hp:=fun b=>if b ∈ A then (if (K.lookup b).isNone=true then (h.get? b).bind Ry else none) else none
def Gj (H:Hp):Prop:=∀ b,H b=none\/∃ o u,H b=some (.l6 o u)
theorem J9 (vs:List Value):Ry { cls:=.type "list",data:=.seq vs.toArray }=some (.l6 { cls:=.type "list",data:=.seq vs.toArray } (.lst (vs.map toV))):=by
 show (if (Value.type "list"==Value.type "list")=true then some (HO.l6 { cls:=.type "list",data:=.seq vs.toArray } (.lst (vs.toArray.toList.map toV))) else some (HO.l6 { cls:=.type "list",data:=.seq vs.toArray } (.tup (vs.toArray.toList.map toV))))=_
 rw [if_pos (beq_self_eq_true _)]
theorem JA (vs:List Value):Ry { cls:=.type "tuple",data:=.seq vs.toArray }=some (.l6 { cls:=.type "tuple",data:=.seq vs.toArray } (.tup (vs.map toV))):=by
 show (if (Value.type "tuple"==Value.type "list")=true then some (HO.l6 { cls:=.type "tuple",data:=.seq vs.toArray } (.lst (vs.toArray.toList.map toV))) else some (HO.l6 { cls:=.type "tuple",data:=.seq vs.toArray } (.tup (vs.toArray.toList.map toV))))=_
 rw [if_neg (by decide)]
section
variable {P:Program} {w:World} {K:PySem.W.Frag} {h:Heap} {A:List Addr}
theorem Ds {b:Addr} {o:Obj} (hb:b ∈ A) (hk:K.lookup b=none) (e:h.get? b=some o):rW K h A b=Ry o:=by
 unfold rW
 rw [if_pos hb,hk,if_pos (show (none:Option Obj).isNone=true from rfl),e]<;>rfl
theorem Rz {b:Addr} {u:HO} (q:rW K h A b=some u):b ∈ A/\K.lookup b=none:=by
 unfold rW at q
 by_cases hb:b ∈ A
 . rw [if_pos hb] at q
   cases hk:K.lookup b with
   | none=>exact ⟨hb,rfl⟩
   | some o=>
     rw [hk,if_neg (by simp)] at q
     cases q
 . rw [if_neg hb] at q
   cases q
theorem Dt (ar:∀ a ∈ A,tL h A a) {b:Addr} {u:HO} (q:rW K h A b=some u):K.lookup b=none/\∃ vs:List Value,vs.length<=sizeLine/\(∀ u ∈ vs,Nr A u) /\
   ((h.get? b=some { cls:=.type "list",data:=.seq vs.toArray }/\u=.l6 { cls:=.type "list",data:=.seq vs.toArray } (.lst (vs.map toV))) \/
    (h.get? b=some { cls:=.type "tuple",data:=.seq vs.toArray }/\u=.l6 { cls:=.type "tuple",data:=.seq vs.toArray } (.tup (vs.map toV)))):=by
 obtain ⟨hb,hk⟩:=Rz q
 obtain ⟨vs,h1,h2,h3⟩:=ar b hb
 refine ⟨hk,vs,h1,h2,?_⟩
 rcases h3 with e | e
 . rw [Ds hb hk e,J9] at q
   exact .inl ⟨e,(Option.some.inj q).symm⟩
 . rw [Ds hb hk e,JA] at q
   exact .inr ⟨e,(Option.some.inj q).symm⟩
theorem Nt (ar:∀ a ∈ A,tL h A a):Gj (rW K h A):=fun b=>by
 cases q:rW K h A b with
 | none=>exact .inl rfl
 | some u=>
   obtain ⟨_,vs,_,_,⟨_,e⟩ | ⟨_,e⟩⟩:=Dt ar q
   . exact .inr ⟨_,_,by rw [e]⟩
   . exact .inr ⟨_,_,by rw [e]⟩
theorem R7 (ar:∀ a ∈ A,tL h A a):tH P w (rW K h A) h:=fun b u q=>by
 obtain ⟨_,vs,h1,h2,⟨e,rfl⟩ | ⟨e,rfl⟩⟩:=Dt ar q
 . exact ⟨e,by rw [List.length_map];exact h1,vs,_,qh h2,e⟩
 . exact ⟨e,by rw [List.length_map];exact h1,vs,qh h2,_,e,rfl,_,rfl⟩
theorem Du {c c':Value} {vs us:List Value} (e:(some { cls:=c,data:=.seq vs.toArray }:Option Obj)=some { cls:=c',data:=.seq us.toArray }):c=c'/\vs=us:=by
 have e1:=Option.some.inj e
 have e2:c=c':=congrArg Obj.cls e1
 have e3:Data.seq vs.toArray=Data.seq us.toArray:=congrArg Obj.data e1
 injection e3 with e4
 refine ⟨e2,?_⟩
 have e5:=congrArg Array.toList e4
 simpa using e5
theorem YA (KX:K.In h) (ar:∀ a ∈ A,tL h A a) {a:Addr} {vs:List Value} (ha:a ∈ A) (e:h.get? a=some { cls:=.type "list",data:=.seq vs.toArray }):(∀ u ∈ vs,Nr A u)/\dN K (rW K h A) a (vs.map toV):=by
 obtain ⟨us,h1,h2,h3⟩:=ar a ha
 have hu:us=vs:=by
   rcases h3 with q | q
   . rw [e] at q
     exact (Du q).2.symm
   . rw [e] at q
     exact absurd (Value.type.inj (Du q).1) (by decide)
 subst hu
 refine ⟨h2,?_⟩
 cases hk:K.lookup a with
 | none=>exact .inl (.inr ⟨_,by rw [Ds ha hk e,J9]⟩)
 | some o=>
   have e2:=KX a o hk
   rw [e] at e2
   obtain rfl:=Option.some.inj e2
   exact .inr ⟨_,us.toArray,_,hk,rfl,rfl,rfl,by rw [List.size_toArray];exact h1,by simpa using qh h2⟩
theorem YB (KX:K.In h) (ar:∀ a ∈ A,tL h A a) {a:Addr} {vs:List Value} (ha:a ∈ A) (e:h.get? a=some { cls:=.type "tuple",data:=.seq vs.toArray }):(∀ u ∈ vs,Nr A u)/\rS K (rW K h A) a (vs.map toV):=by
 obtain ⟨us,h1,h2,h3⟩:=ar a ha
 have hu:us=vs:=by
   rcases h3 with q | q
   . rw [e] at q
     exact absurd (Value.type.inj (Du q).1) (by decide)
   . rw [e] at q
     exact (Du q).2.symm
 subst hu
 refine ⟨h2,?_⟩
 cases hk:K.lookup a with
 | none=>exact .inl (.inr ⟨_,by rw [Ds ha hk e,JA]⟩)
 | some o=>
   have e2:=KX a o hk
   rw [e] at e2
   obtain rfl:=Option.some.inj e2
   exact .inr ⟨_,us.toArray,_,hk,rfl,rfl,by rw [List.size_toArray];exact h1,by simpa using qh h2⟩
mutual
theorem U9 {Pm:Params} (KX:K.In h) (ar:∀ a ∈ A,tL h A a):∀ (d:WData) (v:Value),Well Pm h v d->M0 d=true->Nr A v->Dw K (rW K h A) (toV v) d
 | .none,_,x,_,_=>by
   cases x
   exact .non
 | .bool b,_,x,_,_=>by
   cases x
   exact .bl b
 | .int i,_,x,_,_=>by
   cases x
   exact .int i
 | .str s,_,x,_,_=>by
   cases x
   exact .str s
 | .bytes b,_,x,_,_=>by
   cases x
   have z:=Dw.Jc (K:=K) (H:=rW K h A) b.toArray
   exact z
 | .list ds,_,x,p,hu=>by
   obtain ⟨a,vs,rfl,ho,hall⟩:=Gh x
   obtain ⟨h2,hs⟩:=YA KX ar hu ho
   exact .lst hs (Hi KX ar ds _ hall p h2)
 | .tuple ds,_,x,p,hu=>by
   obtain ⟨a,vs,rfl,ho,hall⟩:=DT x
   obtain ⟨h2,hs⟩:=YB KX ar hu ho
   exact .tup hs (Hi KX ar ds _ hall p h2)
 | .float _,_,_,p,_=>Bool.noConfusion (show false=true from p)
 | .dict _,_,_,p,_=>Bool.noConfusion (show false=true from p)
 | .bytearray _,_,_,p,_=>Bool.noConfusion (show false=true from p)
 | .set _,_,_,p,_=>Bool.noConfusion (show false=true from p)
 | .frozenset _,_,_,p,_=>Bool.noConfusion (show false=true from p)
 | .obj _ _,_,_,p,_=>Bool.noConfusion (show false=true from p)
theorem Hi {Pm:Params} (KX:K.In h) (ar:∀ a ∈ A,tL h A a):∀ (ds:List WData) (vs:List Value),WellAll Pm h vs ds->CH ds=true->(∀ u ∈ vs,Nr A u)->tK K (rW K h A) (vs.map toV) ds
 | [],_,x,_,_=>by
   cases x
   exact .nil
 | d::ds,_,x,p,hu=>by
   obtain ⟨v,vs,rfl,x1,x2⟩:=Gi x
   have q:M0 d=true/\CH ds=true:=Bool.and_eq_true_iff.mp p
   exact .cons (U9 KX ar d v x1 q.1 (hu _ (List.mem_cons_self ..))) (Hi KX ar ds vs x2 q.2 fun u m=>hu u (List.mem_cons_of_mem _ m))
end
end
theorem Nu {P:Program} {w:World} {K:PySem.W.Frag} {mg mb:Str->Option Value} {CX:Lc} {k:Nat} {fa:Addr} {fd:FuncData} {ps:List Str} {sp:Sp} {s₁:Shared} {vals:List Value} {ds:List WData} {R:PySem.W.WRecords} {cl:Str->Option Addr} {d0:WData}
   (KX:K.In s₁.heap) (hns:s₁.heap.Ns mainGlobals mg) (hb:s₁.heap.Ns builtinsNs mb) (hbb:∀ x:Str,x ≠ "__name__"->mb x=bootBuiltins x) (hlim:s₁.heap.NoLimit) (hg:s₁.gens=#[])
   (hwl:WellAll w.params s₁.heap vals ds) (hpl:CH ds=true) (hwt:∀ d ∈ ds,d.weight<=1048576) (hr:dW k callerA)
   (F:∀ base:Heap,K.In base->base.Ns mainGlobals mg->cE P w K mg base CX k fa fd ps sp) (hbind:∀ (s:Shared) (us:List Value),us.length=ps.length->BindsTo s fd ⟨us,[]⟩ (ps.zip us)) (hlen:ds.length=ps.length)
   (Ly:∀ (H:Hp) (xs:List V),Gj H->tK K H xs ds->sp xs H (fun v H'=>Dw K H' v d0) fun _ _ _=>False)
   (W5:∀ H e s',CX [] H s₁ (fun _ _ _=>False) e s'->False) :
   codeAny (model P w) callerA (.call (.ref fa) ⟨vals,[]⟩) (fun r s'=>∃ u as,r=.ok (.ret u)/\ReadsW R cl s'.heap u d0 as/\OldK s₁.heap s'.heap/\s'.os=s₁.os/\AllBare s'.gens) s₁:=by
 obtain ⟨A,ho,ar⟩:=zD ds vals hwl hpl hwt
 have hO:Gj (rW K s₁.heap A):=Nt ar
 have hok:tH P w (rW K s₁.heap A) s₁.heap:=R7 ar
 have hS:=Hi KX ar ds vals hwl hpl ho
 have hV:=qh ho
 have hK:∀ b u,rW K s₁.heap A b=some u->K.lookup b=none:=fun b u q=>(Dt ar q).1
 have V7:∀ {b:Addr} {o:Obj} {es:Array DictEntry} {ep:Nat},s₁.heap.get? b=some o->o.data=.dict es ep->rW K s₁.heap A b=none:=fun {b o es ep} e d=>by
   cases q:rW K s₁.heap A b with
   | none=>rfl
   | some u=>
     obtain ⟨_,vs,_,_,⟨e2,_⟩ | ⟨e2,_⟩⟩:=Dt ar q
     . rw [e2] at e
       cases e
       have d':Data.seq vs.toArray _=Data.dict es ep:=d
       cases d'
     . rw [e2] at e
       cases e
       have d':Data.seq vs.toArray _=Data.dict es ep:=d
       cases d'
 generalize rW K s₁.heap A=H at hO hok hS hK V7
 have M4:∀ {b:Addr} {o:Obj},s₁.heap.get? b=some o->H b=none->(G0 s₁.heap H).get? b=some o:=fun e n=>Ot e n
 have X5:∀ {b:Addr} {m:Str->Option Value},s₁.heap.Ns b m->(G0 s₁.heap H).Ns b m:=fun {b m} ⟨o,es,ep,e,d,r⟩=>⟨o,es,ep,M4 e (V7 e d),d,r⟩
 have nK:∀ b o,K.lookup b=some o->H b=none:=fun b o e=>by
   cases q:H b with
   | none=>rfl
   | some u=>
     rw [hK b u q] at e
     cases e
 have Z9:K.In (G0 s₁.heap H):=fun b o e=>M4 (KX b o e) (nK b o e)
 have hM:Mod K mg (G0 s₁.heap H):=⟨Z9,X5 hns,⟨mb,X5 hb,hbb⟩,let ⟨mc,h1,h2⟩:=hlim;⟨mc,X5 h1,h2⟩⟩
 have e0:GJ P w K mg (G0 s₁.heap H) callerA [] s₁ H:=⟨rfl,hM,fun b o e=>QW e,Nat.le_of_eq (MY _ _),trivial,fun b hb=>absurd (show b ∈ ([]:List Addr) from hb) (by simp),hok,.of_eq hg⟩
 have hl:vals.length=ps.length:=by rw [o4 hwl];exact hlen
 refine codeAny_mono ((F _ Z9 (X5 hns)).run callerA [] s₁ H ⟨vals,[]⟩ vals (vals.map toV) _ _ hr e0 (hbind s₁ vals hl) hV (Ly H _ hO hS)) fun r s' x=>?_
 cases r with
 | error e=>exact (W5 H e s' x).elim
 | ok fl=>
   cases fl with
   | next=>exact False.elim x
   | brk=>exact False.elim x
   | cont=>exact False.elim x
   | ret u=>
     obtain ⟨v,H',os,bare,un,hok',r',q⟩:=x
     have kept:∀ b o,s₁.heap.get? b=some o->s'.heap.get? b=some o:=fun b o e=>by
       cases q2:H b with
       | none=>exact un.keep b o e q2 (by intro z;exact absurd (show b ∈ ([]:List Addr) from z) (by simp)) (by simp)
       | some u2=>
         rcases hO b with z | ⟨ob,u3,z⟩
         . rw [q2] at z
           cases z
         . have z2:=un.yX b ob _ z
           obtain ⟨e1,_⟩:=hok b _ z
           obtain ⟨e2,_⟩:=hok' b _ z2
           rw [e] at e1
           cases e1
           exact e2
     have KX':K.In s'.heap:=fun b o e=>kept b o (KX b o e)
     obtain ⟨as,hrd⟩:=Dw.reads (R:=R) (cl:=cl) hok' KX' d0 v u q r'
     exact ⟨u,as,rfl,hrd,OldK.of_keep kept,os,bare⟩
theorem DU {ds:List WData} (h:WData.layableAll ds=true):∀ d ∈ ds,d.weight<=1048576:=fun d hd=>
 (PySem.W.layableW_iff.mp (List.all_eq_true.mp h d hd)).2.2
theorem DV:∀ (cs:List Codec) (a:Codec.denoteAll cs),(Codec.encAll cs a).length=cs.length
 | [],_=>rfl
 | c::cs,a=>by
   show (Codec.encAll cs a.2).length+1=cs.length+1
   rw [DV cs a.2]
theorem Nv {r:OpenSpec} {k:Nat} {q:Program} {loose:List Str} {XP:(Str->Option Value)->Heap->Prop} {YP:World->Heap->Prop} {d:DefRec} {K:Params->PySem.W.Frag} {CX:World->Lc} {ps:List Str} {sp:World->Sp}
   (Pc:r.wellSaid=true) (hdf:d.params.defaults=[]) (hlen:r.args.length=ps.length) (hr:dW k callerA)
   (hY:∀ (w:World) (h:Heap),YP w h->(K w.params).In h)
   (F:∀ (w:World) (mg:Str->Option Value) (fa:Addr) (h:Heap),YP w h->(K w.params).In h->h.Ns mainGlobals mg->mg d.name=some (.ref fa)->
     ∃ fd:FuncData,(∀ (s:Shared) (us:List Value),us.length=ps.length->BindsTo s fd ⟨us,[]⟩ (ps.zip us)) /\
       ∀ base:Heap,(K w.params).In base->base.Ns mainGlobals mg->cE r.prog w (K w.params) mg base (CX w) k fa fd ps (sp w))
   (Ly:∀ (w:World) (H:Hp) (xs:List V) (a:Codec.denoteAll r.args),Gj H->Codec.withinAll r.args a=true->Codec.app r.args r.asked a=true->tK (K w.params) H xs (Codec.encAll r.args a)->
     sp w xs H (fun v H'=>Dw (K w.params) H' v (r.ret.enc (Codec.app r.args r.f a))) fun _ _ _=>False)
   (W5:∀ (w:World) (H:Hp) (s:Shared) (e:Value) (s':Shared),CX w [] H s (fun _ _ _=>False) e s'->False) :
   PySem.W.WalkOS q loose XP YP r d [] (fun f vs=>PySem.call f vs):=by
 intro w Bp s₁ mg mb G Y fa o pm cd doc dV kV ho hd hcd hD hmg hg args vals as hpre hlay hrd hwl hlo
 obtain ⟨a,e1,e2⟩:=PySem.W.os_pre_some hpre
 obtain ⟨e3,hwi⟩:=Codec.encAll_of_decAll r.args args a e1
 subst e3
 have KX:=hY w _ Y
 obtain ⟨fd,hb,hF⟩:=F w mg fa _ Y KX G.T.g hmg
 refine PySem.W.enter_call (codeAny_mono (Nu (R:=[]) (cl:=classAt Bp.heap) (d0:=r.ret.enc (Codec.app r.args r.f a)) KX G.T.g G.T.b G.T.builtins G.T.nolimit hg hwl (Gg _ _) (DU hlay) hr hF hb (by rw [DV];exact hlen)
   (fun H xs hO hS=>Ly w H xs a hO hwi e2 hS) fun H e s'=>W5 w H s₁ e s') fun r' s' hq=>?_)
 obtain ⟨u,as',rfl,h1,h2,h3,h4⟩:=hq
 exact ⟨.inl ⟨u,_,as',rfl,fun _=>rfl,h1,(OpenSpec.post_iff Pc hwi _ _).mpr rfl,fun z=>Bool.noConfusion (show false=true from z)⟩,h2,h3,h4⟩
theorem LA {r:OpenSpec} {k:Nat} {q:Program} {loose:List Str} {XP:(Str->Option Value)->Heap->Prop} {YP:World->Heap->Prop} {d:DefRec} {K:Params->PySem.W.Frag} {CX:Lc} {ps:List Str} {sp:PySem.W.Frag->Sp}
   (Pc:r.wellSaid=true) (hdf:d.params.defaults=[]) (hlen:r.args.length=ps.length) (hr:dW k callerA)
   (hY:∀ (w:World) (h:Heap),YP w h->(K w.params).In h)
   (F:∀ (w:World) (mg:Str->Option Value) (fa:Addr) (h:Heap),YP w h->(K w.params).In h->h.Ns mainGlobals mg->mg d.name=some (.ref fa)->
     ∃ fd:FuncData,(∀ (s:Shared) (us:List Value),us.length=ps.length->BindsTo s fd ⟨us,[]⟩ (ps.zip us)) /\
       ∀ base:Heap,(K w.params).In base->base.Ns mainGlobals mg->cE r.prog w (K w.params) mg base CX k fa fd ps (sp (K w.params)))
   (Ly:∀ (K:PySem.W.Frag) (H:Hp) (xs:List V) (a:Codec.denoteAll r.args),Gj H->Codec.withinAll r.args a=true->Codec.app r.args r.asked a=true->tK K H xs (Codec.encAll r.args a)->
     sp K xs H (fun v H'=>Dw K H' v (r.ret.enc (Codec.app r.args r.f a))) fun _ _ _=>False)
   (W5:∀ (H:Hp) (s:Shared) (e:Value) (s':Shared),CX [] H s (fun _ _ _=>False) e s'->False) :
   PySem.W.WalkOS q loose XP YP r d [] (fun f vs=>PySem.call f vs):=
 Nv (K:=K) (CX:=fun _=>CX) (sp:=fun w=>sp (K w.params)) Pc hdf hlen hr hY F (fun w H xs a h1 h2 h3 h4=>Ly (K w.params) H xs a h1 h2 h3 h4) fun _ H s e s'=>W5 H s e s'
end L2
end
namespace XL
open PySem
def Ld (h:Heap) (e:Addr) (cls:Value) (dx:Option Addr) (t:Option (Addr×Value)):Prop:=
 ∃ oe vs,h.get? e=some oe/\oe.cls=cls/\oe.dict=dx/\oe.data=.fields vs /\
   match t with
   | none=>vs[1]?=some .none
   | some (T,fl)=>vs[1]?=some (.ref T)/\T ≠ e/\∃ oT ts,h.get? T=some oT/\oT.data=.fields ts/\ts[3]?=some fl
def heads (e:Addr) (t:Option (Addr×Value)):List Addr:=match t with
 | none=>[e]
 | some (T,_)=>[e,T]
theorem Ny {e:Addr} {t:Option (Addr×Value)}:e ∈ heads e t:=by cases t<;>simp [heads]
theorem DW (o:Obj) (f:Array Value->Array Value):(o.mapFields f).dict=o.dict:=by
 obtain ⟨c,d,dt,sl⟩:=o
 cases dt<;>rfl
theorem Ld.rec {h:Heap} {e:Addr} {cls:Value} {dx:Option Addr} {t:Option (Addr×Value)} (x:Ld h e cls dx t):∀ b ∈ heads e t,∃ o ws,h.get? b=some o/\o.data=.fields ws:=by
 obtain ⟨oe,vs,he,_,_,hd,r⟩:=x
 intro b hb
 cases t with
 | none=>rw [show b=e by simpa [heads] using hb];exact ⟨oe,vs,he,hd⟩
 | some p=>
   obtain ⟨_,_,oT,ts,hT,Oo,_⟩:=r
   rcases (show b=e\/b=p.1 by simpa [heads] using hb) with q | q
   . rw [q];exact ⟨oe,vs,he,hd⟩
   . rw [q];exact ⟨oT,ts,hT,Oo⟩
structure M6 (fr ch:List Addr) (h h':Heap):Prop where
 keep:∀ b o,b ∉ fr->b ∉ ch->h.get? b=some o->h'.get? b=some o
 slot:∀ b o,b ∈ fr->h.get? b=some o->∃ sl,h'.get? b=some { o with slots:=sl }
 there:∀ b o,h.get? b=some o->∃ o',h'.get? b=some o'
 size:h.objs.size<=h'.objs.size
theorem M6.refl {fr ch:List Addr} {h:Heap}:M6 fr ch h h:=⟨fun _ _ _ _ e=>e,fun _ o _ e=>⟨o.slots,e⟩,fun _ o e=>⟨o,e⟩,Nat.le_refl _⟩
theorem jO {h:Heap} {a b:Addr} (f:Obj->Obj) (n:b ≠ a):(h.update a f).get? b=h.get? b:=Heap.get?_update_other _ _ fun q=>n q.symm
theorem DX {h:Heap} {a:Addr} {o:Obj} {ws:Array Value} (ho:h.get? a=some o) (hw:o.data=.fields ws) (i:Nat) (v:Value) :
   (h.update a (Obj.mapFields (·.setIfInBounds i v))).get? a=some (o.mapFields (·.setIfInBounds i v)):=Heap.get?_update_self _ ho (Obj.isFreed_of_fields (Obj.data_mapFields hw _))
theorem YC {h:Heap} {e:Addr} {oe ob:Obj} {vs ts:Array Value} {fl:Value} (he:h.get? e=some oe) (hd:oe.data=.fields vs) (n1:1 < vs.size) (hb:ob.data=.fields ts) (h3:ts[3]?=some fl) :
   Ld ((h.push ob).update e (Obj.mapFields (·.setIfInBounds 1 (.ref h.objs.size)))) e oe.cls oe.dict (some (h.objs.size,fl)) /\
     (∀ b o,b ≠ e->h.get? b=some o->((h.push ob).update e (Obj.mapFields (·.setIfInBounds 1 (.ref h.objs.size)))).get? b=some o):=by
 have up:∀ b o,h.get? b=some o->(h.push ob).get? b=some o:=fun b o q=>Heap.get?_push_of_some ob q
 have ne:h.objs.size ≠ e:=Nat.ne_of_gt (Heap.lt_size he)
 have nf:ob.isFreed=false:=Obj.isFreed_of_fields hb
 refine ⟨⟨_,_,DX (up e oe he) hd 1 _,Obj.cls_mapFields _ _,DW _ _,Obj.data_mapFields hd _,by simp [n1],ne,ob,ts,?_,hb,h3⟩,fun b o q z=>?_⟩
 . rw [jO _ ne]
   exact Heap.get?_push_size h nf
 . rw [jO _ q]
   exact up b o z
section
variable {M:Model} {A:Around} {E:Value->Shared->Prop} {s:Shared}
theorem entry_at {base:Heap} {env:Env} {outer:List Env} {L e:Addr} {oe:Obj} {vs:Array Value} {head:Value} {more:Bool} {Q:Unit->Shared->Prop}
   (fr:A.frames=some (env::outer)) (ff:s.heap.FunFrames base (env::outer)) (lf:env.frame=some L) (he:s.heap.get? e=some oe) (hd:oe.data=.fields vs) (n1:1 < vs.size)
   (k:∀ h' T,Ld h' e oe.cls oe.dict (some (T,rawInt L))->s.heap.objs.size<=T->M6 ((env::outer).filterMap (·.frame)) [e] s.heap h'->Q () { s with heap:=h' }) :
   wpAny M A (do let a <- frameOf env;let pl <- entryPlaceOf L more;let b <- EntryCells.newEntry head a .none (rawInt L) .none pl;setField (.ref e) 1 b) Q E s:=by
 have ef:e ∉ (env::outer).filterMap (·.frame):=fun m=>let ⟨_,o,ho,no⟩:=ff.mem m;no vs (by rw [he] at ho;cases ho;exact hd)
 refine wpAny_bind (wpAny_frameOf_fun fr ff lf fun g sg=>wpAny_bind (wpAny_entryPlaceOf fun pl ip=>?_))
 have ge:g.get? e=some oe:=by rw [sg.2.1 e ef];exact he
 unfold EntryCells.newEntry newFields
 refine wpAny_bind (wpAny_newObj_type ?_ (ip.sizeOk5 _ _ _ _ _))
 refine wpAny_setField (Heap.get?_push_of_some _ ge) hd n1 ?_
 obtain ⟨x,kp⟩:=YC (fl:=rawInt L) (ob:={ cls:=.type "traceback",dict:=none,data:=.fields ([head,.ref L,.none,rawInt L,.none]++(if pl.isEmpty then List.replicate 6 Value.none else pl)).toArray }) ge hd n1 rfl (by simp)
 refine k _ _ x (by rw [sg.1];exact Nat.le_refl _) ⟨fun b o hb hc ho=>kp b o (fun q=>hc (by simp [q])) (by rw [sg.2.1 b hb];exact ho),fun b o hb ho=>?_,fun b o ho=>?_,?_⟩
 . obtain ⟨sl,q⟩:=sg.2.2 b o ho
   exact ⟨sl,kp b _ (fun z=>ef (z ▸ hb)) q⟩
 . by_cases z:b=e
   . obtain ⟨ox,_,q,_⟩:=x
     exact ⟨ox,z ▸ q⟩
   . obtain ⟨sl,q⟩:=sg.2.2 b o ho
     exact ⟨_,kp b _ z q⟩
 . rw [Heap.size_after_update,Heap.size_push,sg.1]
   exact Nat.le_succ _
theorem R8 {base:Heap} {env:Env} {outer:List Env} {L e:Addr} {cls:Value} {dx:Option Addr} {t:Option (Addr×Value)} {Q:Unit->Shared->Prop}
   (fr:A.frames=some (env::outer)) (ff:s.heap.FunFrames base (env::outer)) (lf:env.frame=some L) (hx:Ld s.heap e cls dx t) (hfl:∀ T fl,t=some (T,fl)->fl=.none\/fl=rawInt L)
   (k:∀ h' T,Ld h' e cls dx (some (T,rawInt L))->(T ∈ heads e t\/s.heap.objs.size<=T)->M6 ((env::outer).filterMap (·.frame)) (heads e t) s.heap h'->Q () { s with heap:=h' }) :
   wpAny M A (noteFrame (.ref e) env) Q E s:=by
 have rc:=hx.rec
 obtain ⟨oe,vs,he,rfl,rfl,hd,r⟩:=id hx
 unfold noteFrame
 simp only [lf]
 cases t with
 | none=>
   refine wpAny_bind (wpAny_field he hd r ?_)
   rw [if_neg (by decide)]
   exact entry_at fr ff lf he hd (Array.getElem?_eq_some_iff.mp r).1 fun h' T x1 x2 x3=>k h' T x1 (.inr x2) x3
 | some p=>
   obtain ⟨T,fl⟩:=p
   obtain ⟨h1,X6,oT,ts,hT,Oo,h3⟩:=r
   have l3:=(Array.getElem?_eq_some_iff.mp h3).1
   refine wpAny_bind (wpAny_field he hd h1 ?_)
   rw [if_pos (by simp)]
   refine wpAny_bind (wpAny_field hT Oo h3 ?_)
   rcases hfl T fl rfl with rfl | rfl
   . rw [if_neg (by simp [rawInt])]
     refine wpAny_bind (wpAny_setField hT Oo l3 ?_)
     have off:∀ b o,s.heap.get? b=some o->b ≠ T->(s.heap.update T (Obj.mapFields (·.setIfInBounds 3 Value.none))).get? b=some o:=fun b o q n=>by rw [jO _ n];exact q
     have ZA:∀ b o,s.heap.get? b=some o->(∀ ws,o.data ≠ .fields ws)->b ≠ T:=fun b o q n z=>n ts (by rw [z,hT] at q;cases q;exact Oo)
     have fT:T ∉ (env::outer).filterMap (·.frame):=fun m=>let ⟨_,o,ho,no⟩:=ff.mem m;ZA T o ho no rfl
     refine entry_at (s:={ s with heap:=s.heap.update T (Obj.mapFields (·.setIfInBounds 3 Value.none)) }) fr (ff.of_keeps fun b o q n=>⟨o,off b o q (ZA b o q n),rfl⟩) lf (off e oe he (Ne.symm X6)) hd (Array.getElem?_eq_some_iff.mp h1).1 fun h' T' x1 x2 x3=>?_
     have x2:s.heap.objs.size<=T':=by rw [Heap.size_after_update] at x2;exact x2
     have x4:s.heap.objs.size<=h'.objs.size:=by have:=x3.size;rw [Heap.size_after_update] at this;exact this
     refine k h' T' x1 (.inr x2) ⟨fun b o hb hc ho=>?_,fun b o hb ho=>?_,fun b o ho=>?_,x4⟩
     . have hc:b ≠ e/\b ≠ T:=by simpa [heads] using hc
       exact x3.keep b o hb (by simpa using hc.1) (off b o ho hc.2)
     . exact x3.slot b o hb (off b o ho fun z=>fT (z ▸ hb))
     . by_cases z:b=T
       . rw [z];exact x3.there T _ (DX hT Oo 3 _)
       . exact x3.there b o (off b o ho z)
   . rw [if_pos (by simp)]
     exact wpAny_pure (k s.heap T hx (.inl (by simp [heads])) .refl)
theorem Nz {e T:Addr} {cls fl:Value} {dx:Option Addr} {fr:Option Addr} {Q:Unit->Shared->Prop} (hx:Ld s.heap e cls dx (some (T,fl)))
   (k:∀ h',Ld h' e cls dx (some (T,fr.elim Value.none fun f=>rawInt f))->(∀ b,b ≠ T->h'.get? b=s.heap.get? b)->h'.objs.size=s.heap.objs.size->(∃ o,h'.get? T=some o)->Q () { s with heap:=h' }) :
   wpAny M A (setFlight (.ref e) fr) Q E s:=by
 obtain ⟨oe,vs,he,hc,hx,hd,h1,X6,oT,ts,hT,Oo,h3⟩:=hx
 have l3:=(Array.getElem?_eq_some_iff.mp h3).1
 have me:=DX hT Oo 3 (fr.elim Value.none fun f=>rawInt f)
 unfold setFlight
 refine wpAny_bind (wpAny_field he hd h1 ?_)
 rw [if_pos (by simp)]
 refine wpAny_setField hT Oo l3 (k _ ⟨oe,vs,?_,hc,hx,hd,h1,X6,_,_,me,Obj.data_mapFields Oo _,by simp [l3]⟩ (fun b n=>jO _ n) (Heap.size_after_update ..) ⟨_,me⟩)
 rw [jO _ (Ne.symm X6)]
 exact he
end
end XL
namespace XL
open PySem
section
variable {M:Model} {A:Around} {E:Value->Shared->Prop} {env:Env}
variable {nm q:Str} {C N:Addr} {bs bm:List Value} {hdct:Bool} {sn:List Str} {sub:List Value} {ab:Bool} {col:Option Bool} {dd:Option Addr} {k0 k1 k2 k3 k5:Option Value} {newId:String}
theorem N1 {s:Shared} {x:Sem Value} {Q:Flow->Shared->Prop} (isB:bm.contains (.type "BaseException")=true) (calm:A.handled=none)
   (k:wpAny M A x (fun v s'=>∃ e t dx sl,v=.ref e/\s'.heap.get? C=some (excClassObj nm q C N bs bm hdct sn sub ab col dd k0 k1 k2 k3 k5 newId) /\
     s'.heap.get? e=some ⟨.ref C,dx,.fields #[.ref t,.none,.none,.none,.bool false,.none],sl⟩/\E (.ref e) s') E s):wpAny M A (raiseStmt env (some x) none) Q E s:=by
 have up:(Value.ref C::bm).contains (.type "BaseException")=true:=by simp only [List.contains_cons,isB,Bool.or_true]
 unfold raiseStmt
 refine wpAny_bind (wpAny_mono k ?_ fun _ _ z=>z)
 rintro v ⟨hp,gs,dr,tk,os⟩ ⟨e,t,dx,sl,rfl,cC,ce,last⟩
 repeat (first | (with_reducible refine wpAny_isSubtype_exc cC ?_;rw [up]) | with_reducible refine wpAny_loadPart_at cC ?_ | with_reducible refine wpAny_loadPart_at ce ?_ | wp_step)
 exact wpAny_raiseNew_none calm last
end
end XL
namespace XL
open PySem
open Builtin Builtin.ObjectAttr
abbrev eY:List Value:=[.type "Exception",.type "BaseException",.type "object"]
section
variable {prog:Program} {w:World} {A:Around} {E:Value->Shared->Prop} {h:Heap} {g:Array GenState} {d:Drawn} {t:Nat} {os:OsState}
variable {nm q:Str} {C N x:Addr} {bs:List Value} {sn:List Str} {sub:List Value} {ab:Bool} {col:Option Bool} {dd:Option Addr} {k0 k1 k2 k3 k5:Option Value} {newId:String}
 {mN mA:Str->Option Value} {name:Str} {v:Value}
theorem R9 {tk:Tok} {Q:Fin->Shared->Prop} (cC:h.get? C=some (excClassObj nm q C N bs eY true sn sub ab col dd k0 k1 k2 k3 k5 newId)) (cN:h.Ns N mN) (no:mN name=none)
   (EM:typeLookup (.type "Exception") name=pure none) (I:h.Inst x C mA) (hv:mA name=some v) (k:Q (.done (.ret v)) ⟨h,g,d,t,os⟩) :
   wpAny (model prog w) A (Builtin.«object.__getattribute__» ⟨[.ref x,.str name tk],[]⟩) Q E ⟨h,g,d,t,os⟩:=by
 obtain ⟨o,cx,oC,DY,⟨_,z⟩ | ⟨dx,odx,_,at_⟩⟩:=I
 . exact absurd hv (by simp [z])
 . unfold Builtin.«object.__getattribute__»
   repeat (first | (refine wpAny_typeLookup_exc cC cN PySem.F.excBase_Exception.mroIs EM ?_;rw [no]) | (with_reducible refine wpAny_loadPart_at cx ?_;rw [oC]) | wp_step)
   split
   . exact absurd (by assumption) (DY _)
   . unfold instanceDict
     repeat (first | with_reducible refine wpAny_loadPart_at cC ?_ | (with_reducible refine wpAny_loadPart_at cx ?_;rw [oC]) | wp_step)
     rw [odx]
     repeat (first | (with_reducible refine wpAny_nsGet at_.ns ?_;rw [hv]) | wp_step)
     exact k
theorem Pd {expr:Bool} {Q:Value->Shared->Prop} (cC:h.get? C=some (excClassObj nm q C N bs eY true sn sub ab col dd k0 k1 k2 k3 k5 newId)) (cN:h.Ns N mN)
   (n1:mN "__getattribute__"=none) (n2:mN "__getattr__"=none) (no:mN name=none) (EM:typeLookup (.type "Exception") name=pure none) (I:h.Inst x C mA) (hv:mA name=some v) (hh:handedOut v=pure v)
   (k:Q v ⟨h,g,d,t+1,os⟩):wpAny (model prog w) A (getAttr (.ref x) name expr) Q E ⟨h,g,d,t,os⟩:=by
 obtain ⟨o,cx,oC,_⟩:=id I
 have bd:=PySem.F.attr_Exception.ga.bind (.ref x)
 have e0:(expr&&onTheHeap (Value.builtin "BaseException.__getattribute__"))=false:=by cases expr<;>rfl
 unfold getAttr getAttrBy
 repeat (first | (with_reducible refine wpAny_typeLookup_exc cC cN PySem.F.excBase_Exception.mroIs PySem.F.attr_Exception.ga.lookup ?_;rw [n1]) | (with_reducible refine wpAny_loadPart_at cx ?_;rw [oC]) | wp_step)
 repeat (first | (with_reducible refine wpAny_typeLookup_exc cC cN PySem.F.excBase_Exception.mroIs PySem.F.attrBase_Exception.noGetattr ?_;rw [n2]) | wp_step)
 refine codeAny_call_builtin PySem.F.attr_Exception.ga.plain F.entry_bexc_ga (wpAny_check_ga_own PySem.F.attrBase_Exception cC .base cx oC (R9 cC cN no EM I hv ?_))
 show wpAny _ _ (handedOut v) _ _ _
 rw [hh]
 exact wpAny_pure k
theorem JB {tk:Tok} {o:Obj} {Q:Fin->Shared->Prop} (cC:h.get? C=some (excClassObj nm q C N bs eY true sn sub ab col dd k0 k1 k2 k3 k5 newId)) (cN:h.Ns N mN) (no:mN name=none)
   (EM:typeLookup (.type "Exception") name=pure none) (cx:h.get? x=some o) (oC:o.cls=.ref C) (DY:∀ c,o.data ≠ .cls c) (od:o.dict=none)
   (k:∀ h' tk',h'.get? x=some { o with dict:=some h.objs.size }->h'.Ns1 h.objs.size (fun y=>if y=name then some v else none)->(∀ b u,b ≠ x->h.get? b=some u->h'.get? b=some u)->Q (.done (.ret .none)) ⟨h',g,d,tk',os⟩) :
   wpAny (model prog w) A (Builtin.«object.__setattr__» ⟨[.ref x,.str name tk,v],[]⟩) Q E ⟨h,g,d,t,os⟩:=by
 have ok:=PySem.F.store_Exception.passes (.ref x)
 have nx:h.objs.size ≠ x:=Nat.ne_of_gt (Heap.lt_size cx)
 have ou:({ o with dict:=some h.objs.size }:Obj).isFreed=false:=by
   have z:=(Heap.get?_some_iff.mp cx).2
   obtain ⟨c,dc,dt,sl⟩:=o
   cases dt<;>first | rfl | exact z
 unfold Builtin.«object.__setattr__»
 repeat (first | (rw [refuseLoop_ref,ok]) | rw [refuse_eq] | (refine wpAny_typeLookup_exc cC cN PySem.F.store_Exception.mro EM ?_;rw [no]) | with_reducible refine wpAny_mroOf_exc cC ?_ | (with_reducible refine wpAny_loadPart_at cx ?_;rw [oC]) | wp_step)
 rw [od,if_neg (by simp [typeHasDict])]
 split
 . exact absurd (by assumption) (by intro q;cases q)
 . split
   . exact absurd (by assumption) (DY _)
   . refine wpAny_bind (wpAny_alloc' (wpAny_bind (wpAny_update' (Heap.get?_push_of_some _ cx) (wpAny_pure ?_))))
     show wpAny _ _ (storeInDict h.objs.size (.str name tk) name v) _ _ _
     unfold storeInDict newKeyGuard
     have em:((h.push { cls:=.type "dict",data:=.dict #[] }).update x fun o=>{ cls:=o.cls,dict:=some h.objs.size,data:=o.data,slots:=o.slots }).Ns h.objs.size (fun _=>none):=by
       refine ⟨{ cls:=.type "dict",data:=.dict #[] },#[],_,?_,rfl,fun e he=>absurd he (by simp),fun _=>rfl⟩
       rw [jO _ nx]
       exact Heap.get?_push_size h rfl
     refine wpAny_bind (wpAny_pure (wpAny_bind (wpAny_nsSet1 (Heap.Ns1.of_empty em) fun h' n' sb=>?_)))
     obtain ⟨oD,esD,epD,aD,dD,cD⟩:=n'.count (Within.cons name v Within.nil)
     refine wpAny_bind (wpAny_lookBehind aD (by rw [dD];exact pastItsLine_dict (Nat.le_trans cD (by rw [sizeLine_eq];simp))) ?_)
     wp_walk
     refine k h' _ ?_ n' fun b u n z=>?_
     . rw [sb.2 x (Ne.symm nx)]
       exact Heap.get?_update_self _ (Heap.get?_push_of_some _ cx) ou
     . rw [sb.2 b (Nat.ne_of_lt (Heap.lt_size z)),jO _ n]
       exact Heap.get?_push_of_some _ z
theorem LB {tk:Tok} {o:Obj} {sa owner:String} {R:Result->Shared->Prop} (SF:StoreFacts "Exception" eY sa owner) (cC:h.get? C=some (excClassObj nm q C N bs eY true sn sub ab col dd k0 k1 k2 k3 k5 newId)) (cN:h.Ns N mN) (no:mN name=none)
   (EM:typeLookup (.type "Exception") name=pure none) (cx:h.get? x=some o) (oC:o.cls=.ref C) (DY:∀ c,o.data ≠ .cls c) (od:o.dict=none)
   (k:∀ h' tk',h'.get? x=some { o with dict:=some h.objs.size }->h'.Ns1 h.objs.size (fun y=>if y=name then some v else none)->(∀ b u,b ≠ x->h.get? b=some u->h'.get? b=some u)->R (.ok (.ret .none)) ⟨h',g,d,tk',os⟩) :
   codeAny (model prog w) A (.call (.builtin sa) ⟨[.ref x,.str name tk,v],[]⟩) R ⟨h,g,d,t,os⟩:=by
 refine codeAny_call_builtin SF.slot.plain SF.entry (wpAny_check_sa SF cC cx oC ?_)
 exact JB cC cN no EM cx oC DY od k
theorem LC {o:Obj} {sa owner:String} {Q:Unit->Shared->Prop} (SF:StoreFacts "Exception" eY sa owner) (cC:h.get? C=some (excClassObj nm q C N bs eY true sn sub ab col dd k0 k1 k2 k3 k5 newId)) (cN:h.Ns N mN) (ns:mN "__setattr__"=none) (no:mN name=none)
   (EM:typeLookup (.type "Exception") name=pure none) (cx:h.get? x=some o) (oC:o.cls=.ref C) (DY:∀ c,o.data ≠ .cls c) (od:o.dict=none)
   (k:∀ h' tk',h'.get? x=some { o with dict:=some h.objs.size }->h'.Ns1 h.objs.size (fun y=>if y=name then some v else none)->(∀ b u,b ≠ x->h.get? b=some u->h'.get? b=some u)->Q () ⟨h',g,d,tk',os⟩) :
   wpAny (model prog w) A (setAttr (.ref x) name v) Q E ⟨h,g,d,t,os⟩:=by
 have bd:=SF.slot.bind (.ref x)
 unfold setAttr callSpecial? specialOf
 repeat (any_goals (first | (with_reducible refine wpAny_typeLookup_exc cC cN SF.mro SF.slot.lookup ?_;rw [ns]) | (with_reducible refine wpAny_loadPart_at cx ?_;rw [oC]) | assumption | wp_step))
 refine LB SF cC cN no EM cx oC DY od fun h' tk' x1 x2 x3=>?_
 have z:=k h' tk' x1 x2 x3
 repeat (any_goals (first | assumption | wp_step))
end
end XL
namespace L2
open PySem PySem.Spec PyProof.Rows XL
def x6 (P:Program) (w:World):Lc:=fun outer H s E e s'=>
 ∃ (a T:Addr) (C dx:Addr) (H':Hp),e=.ref a/\s'.os=s.os/\AllBare s'.gens/\Un (frs outer) [] H H' s.heap s'.heap/\tH P w H' s'.heap /\
   Ld s'.heap a (.ref C) (some dx) (some (T,.none))/\(∀ b ∈ [a,T],H' b=none/\s.heap.get? b=none)/\E (.ref C) (some dx) H'
structure Own (X:Cx):Prop where
 QX:X.stack=X.env::X.outer
 fr:X.env.frame=some X.env.locals
def N2 (X:Cx) (pins:List (Addr×Obj)) (H:Hp) (l:List Addr):Prop:=∀ b ∈ l,H b=none/\X.Bp.heap.get? b=none/\∀ p ∈ X.pn++pins,p.1 ≠ b
section
variable {X:Cx} {pins:List (Addr×Obj)} {σ:St} {H H':Hp} {s:Shared} {h':Heap} {a:Addr} {cls:Value} {dx:Option Addr} {E:Value->Shared->Prop} {Q:Unit->Shared->Prop}
theorem Inv.Tv {g':Array GenState} {t':Nat} {d':Drawn} {ch:List Addr} (I:Inv X pins σ H s)
   (hch:∀ b ∈ ch,X.Bp.heap.get? b=none/\b ≠ X.env.locals/\(∀ x c,X.env.cells.lookup x=some c->c ≠ b)/\∀ p ∈ X.pn++pins,p.1 ≠ b)
   (keep:∀ b o,b ≠ X.env.locals->b ∉ X.fs->b ∉ ch->s.heap.get? b=some o->H b=none->h'.get? b=some o)
   (slot:∀ b o,b ≠ X.env.locals->b ∈ X.fs->b ∉ ch->s.heap.get? b=some o->H b=none->∃ sl,h'.get? b=some { o with slots:=sl })
   (there:∀ b o,b ∉ ch->s.heap.get? b=some o->∃ o',h'.get? b=some o')
   (ns:∀ m,s.heap.Ns X.env.locals m->h'.Ns X.env.locals m) (hok:tH X.prog X.w H h') (hg:AllBare g') :
   Inv X pins σ H { s with heap:=h',gens:=g',drawn:=d',toks:=t' }:=by
 have QY:∀ b o,X.Bp.heap.get? b=some o->b ≠ X.env.locals:=fun b o e=>Nat.ne_of_lt (Nat.lt_of_lt_of_le (Heap.lt_size e) I.ok.above)
 have Td:∀ b o,X.Bp.heap.get? b=some o->b ∉ ch:=fun b o e hb=>by rw [(hch b hb).1] at e;cases e
 have cellK:∀ x c,X.env.cells.lookup x=some c->∀ v,s.heap.IsCell c v->h'.IsCell c v:=fun x c e v ⟨o,ho,hd⟩=>by
   have Te:c ∉ ch:=fun z=>(hch c z).2.2.1 x c e rfl
   by_cases hc:c ∈ X.fs
   . obtain ⟨sl,q⟩:=slot c o (I.QT x c e) hc Te ho (I.g7 x c e)
     exact ⟨_,q,hd⟩
   . exact ⟨o,keep c o (I.QT x c e) hc Te ho (I.g7 x c e),hd⟩
 refine ⟨I.ok,I.os,hg,⟨fun b o e n hb hx=>?_,fun b o e n hb hx=>?_,I.base.free,fun b o e hx=>?_,I.base.tups,I.base.yX,I.base.Bq⟩,?_,fun x c e=>?_,I.free,I.g7,fun p hp=>?_,hok,I.len⟩
 . exact keep b o (QY b o e) hb (Td b o e) (I.base.keep b o e n hb hx) (I.base.free b o e n hx)
 . obtain ⟨sl,e1⟩:=I.base.slot b o e n hb hx
   obtain ⟨sl',e2⟩:=slot b _ (QY b o e) hb (Td b o e) e1 (I.base.free b o e n hx)
   exact ⟨sl',e2⟩
 . obtain ⟨o',e1⟩:=I.base.there b o e hx
   exact there b o' (Td b o e) e1
 . obtain ⟨m,hn,hl⟩:=I.loc
   refine ⟨m,ns m hn,fun i x v e1 e2 e3=>?_⟩
   obtain ⟨u,r,l⟩:=hl i x v e1 e2 e3
   refine ⟨u,r,?_⟩
   rcases l with l | ⟨k,c,e,z⟩
   . exact .inl l
   . exact .inr ⟨k,c,e,cellK x c e _ z⟩
 . obtain ⟨v,z⟩:=I.cell x c e
   exact ⟨v,cellK x c e v z⟩
 . obtain ⟨e,n,ne,nf,d⟩:=I.pin p hp
   exact ⟨keep p.1 p.2 ne nf (fun z=>(hch p.1 z).2.2.2 p hp rfl) e n,n,ne,nf,d⟩
theorem Inv.apart (I:Inv X pins σ H s) {b:Addr} {o:Obj} {ws:Array Value} (ho:s.heap.get? b=some o) (hd:o.data=.fields ws):b ≠ X.env.locals/\∀ x c,X.env.cells.lookup x=some c->c ≠ b:=by
 refine ⟨fun q=>?_,fun x c e q=>?_⟩
 . obtain ⟨m,⟨ol,es,ep,hl,hdl,_⟩,_⟩:=I.loc
   rw [q,hl] at ho
   cases ho
   rw [hdl] at hd
   cases hd
 . obtain ⟨v,oc,hc,hdc⟩:=I.cell x c e
   rw [q,ho] at hc
   cases hc
   rw [hd] at hdc
   cases hdc
theorem JC {h h':Heap} {L:Addr} {m:Str->Option Value} (k:∀ o,h.get? L=some o->∃ sl,h'.get? L=some { o with slots:=sl }) (n:h.Ns L m):h'.Ns L m:=by
 obtain ⟨o,es,ep,ho,hd,r⟩:=n
 obtain ⟨sl,q⟩:=k o ho
 exact ⟨_,es,ep,q,hd,r⟩
theorem Inv.UA (I:Inv X pins σ H s) {b:Addr} (h:s.heap.get? b=none) (hx:X.ex=[]):X.Bp.heap.get? b=none/\∀ p ∈ X.pn++pins,p.1 ≠ b:=by
 refine ⟨?_,fun p hp q=>?_⟩
 . cases q:X.Bp.heap.get? b with
   | none=>rfl
   | some o=>
     obtain ⟨o',e⟩:=I.base.there b o q (by rw [hx];simp)
     rw [h] at e
     cases e
 . have e:=(I.pin p hp).1
   rw [q,h] at e
   cases e
theorem Inv.noted (I:Inv X pins σ H s) (W:Own X) (N3:X.ex=[]) {t:Option (Addr×Value)} (hx:Ld s.heap a cls dx t) (hfl:∀ T fl,t=some (T,fl)->fl=.none\/fl=rawInt X.env.locals) (hH:N2 X pins H (heads a t))
   (k:∀ h' T,Inv X pins σ H { s with heap:=h' }->Ld h' a cls dx (some (T,rawInt X.env.locals))->N2 X pins H [a,T]->Q () { s with heap:=h' }) :
   wpAny (model X.prog X.w) X.A (noteFrame (.ref a) X.env) Q E s:=by
 have hst:=I.stack
 have hfr:=I.ok.frames
 have hfree:=I.G3
 rw [W.QX] at hst hfr hfree
 refine R8 hfr hst W.fr hx hfl fun h' T x1 x2 x3=>?_
 have hL:X.env.locals ∈ (X.env::X.outer).filterMap (·.frame):=by rw [List.filterMap_cons,W.fr];exact List.mem_cons_self
 have hfs:∀ b,b ∈ (X.env::X.outer).filterMap (·.frame) ↔ b=X.env.locals\/b ∈ X.fs:=fun b=>by rw [List.filterMap_cons,W.fr];exact List.mem_cons
 have tr:∀ b u,H b=some u->b ∉ (X.env::X.outer).filterMap (·.frame)/\b ∉ heads a t:=fun b u e=>⟨fun m=>(by rw [hfree b m] at e;cases e),fun m=>(by rw [(hH b m).1] at e;cases e)⟩
 have hok:tH X.prog X.w H h':=fun b u e=>(I.hok b u e).stay (fun c v hc q=>by
   have z:∃ w,H c=some w:=by
     rcases hc with hc | hc
     . exact ⟨u,hc ▸ e⟩
     . exact ⟨_,hc⟩
   obtain ⟨w',z⟩:=z
   exact x3.keep c v (tr c w' z).1 (tr c w' z).2 q) (fun _ q=>q) fun _ _ q=>q
 have I':Inv X pins σ H { s with heap:=h' }:=by
   refine I.Tv (g':=s.gens) (t':=s.toks) (d':=s.drawn) (ch:=heads a t) (fun b hb=>?_) (fun b o n1 n2 n3 e _=>?_) (fun b o n1 n2 _ e _=>?_) (fun b o _ e=>x3.there b o e)
     (fun m hm=>JC (fun o q=>x3.slot _ o hL q) hm) hok I.bare
   . obtain ⟨o,ws,ho,hd⟩:=hx.rec b hb
     obtain ⟨z1,z2⟩:=I.apart ho hd
     exact ⟨(hH b hb).2.1,z1,z2,(hH b hb).2.2⟩
   . exact x3.keep b o (fun m=>by rcases (hfs b).mp m with q | q;exact n1 q;exact n2 q) n3 e
   . exact x3.slot b o ((hfs b).mpr (.inr n2)) e
 refine k h' T I' x1 fun b hb=>?_
 rcases (show b=a\/b=T by simpa using hb) with q | q
 . rw [q];exact hH a Ny
 . rw [q]
   rcases x2 with m | m
   . exact hH T m
   . have z:=Heap.get?_none_of_le m
     obtain ⟨z1,z2⟩:=I.UA z N3
     exact ⟨I.hok.fresh m,z1,z2⟩
theorem Inv.flown (I:Inv X pins σ H s) {T:Addr} {fl:Value} {fr:Option Addr} (hx:Ld s.heap a cls dx (some (T,fl))) (hN:N2 X pins H [a,T])
   (k:∀ h',Inv X pins σ H { s with heap:=h' }->Ld h' a cls dx (some (T,fr.elim Value.none fun f=>rawInt f))->Q () { s with heap:=h' }) :
   wpAny (model X.prog X.w) X.A (setFlight (.ref a) fr) Q E s:=by
 obtain ⟨oT,ts,hoT,Oo⟩:=hx.rec T (by simp [heads])
 obtain ⟨nT,zT,pT⟩:=hN T (by simp)
 refine Nz hx fun h' x1 x2 x3 x4=>k h' ?_ x1
 have ap:=I.apart hoT Oo
 have kp:∀ b o,b ≠ T->s.heap.get? b=some o->h'.get? b=some o:=fun b o n e=>by rw [x2 b n];exact e
 have tr:∀ b u,H b=some u->b ≠ T:=fun b u e q=>by rw [q,nT] at e;cases e
 refine I.Tv (g':=s.gens) (t':=s.toks) (d':=s.drawn) (ch:=[T]) (fun b hb=>?_) (fun b o _ _ n e _=>kp b o (fun q=>n (by simp [q])) e) (fun b o _ _ n e _=>⟨o.slots,kp b o (fun q=>n (by simp [q])) e⟩)
   (fun b o n e=>⟨o,kp b o (fun q=>n (by simp [q])) e⟩) (fun m hm=>JC (fun o q=>⟨o.slots,kp _ o (Ne.symm ap.1) q⟩) hm) (fun b u e=>?_) I.bare
 . rw [show b=T by simpa using hb]
   exact ⟨zT,ap.1,ap.2,pT⟩
 . refine (I.hok b u e).stay (fun c v hc q=>kp c v ?_ q) (fun _ q=>q) fun _ _ q=>q
   rcases hc with hc | hc
   . exact tr c u (hc ▸ e)
   . exact tr c _ hc
theorem Inv.back {P:Program} {w:World} {EX:XK} {e:Value} {s':Shared} (I:Inv X pins σ H s) (N3:X.ex=[]) (h:x6 X.prog X.w X.stack H s EX e s') :
   ∃ a T C dx H',e=.ref a/\Inv X pins σ H' s'/\Ld s'.heap a (.ref C) (some dx) (some (T,.none))/\N2 X pins H' [a,T]/\EX (.ref C) (some dx) H':=by
 obtain ⟨a,T,C,dx,H',rfl,ho,hb,un,hok,x,hH,hE⟩:=h
 obtain ⟨hh,g,d,tk,os⟩:=s'
 obtain rfl:os=s.os:=ho
 refine ⟨a,T,C,dx,H',rfl,I.call (h':=hh) (g':=g) (d':=d) (t':=tk) (ch:=[]) un hok hb (fun b z=>absurd z (by simp)),x,fun b hb=>?_,hE⟩
 obtain ⟨z1,z2⟩:=I.UA (hH b hb).2 N3
 exact ⟨(hH b hb).1,z1,z2⟩
end
section
variable {P:Program} {w:World} {K:PySem.W.Frag} {mg:Str->Option Value} {base:Heap} {N:List Str} {qual:Str} {scope:Scope} {f:Addr} {cd:Value} {A:Around} {outer:List Env} {s0:Shared} {H0:Hp} {E:XK}
theorem UB:Own (rV (x6 P w) P w K mg base N qual scope f cd A outer s0 H0 E):=⟨rfl,rfl⟩
theorem Pe {pins:List (Addr×Obj)} {σ:St} {H:Hp} {s:Shared} {a C dx:Addr} {t:Option (Addr×Value)} (I:Inv (rV (x6 P w) P w K mg base N qual scope f cd A outer s0 H0 E) pins σ H s) (hx:Ld s.heap a (.ref C) (some dx) t)
   (hfl:∀ T fl,t=some (T,fl)->fl=.none) (hH:N2 (rV (x6 P w) P w K mg base N qual scope f cd A outer s0 H0 E) pins H (heads a t)) (hE:E (.ref C) (some dx) H) :
   (rV (x6 P w) P w K mg base N qual scope f cd A outer s0 H0 E).xe (.ref a) s:=by
 show wpAny _ _ (leaving _ _) _ _ s
 unfold leaving
 refine wpAny_bind (I.noted UB rfl hx (fun T fl e=>.inl (hfl T fl e)) hH fun h1 T I1 x1 nw=>?_)
 refine I1.flown (fr:=none) x1 nw fun h2 I2 x2=>?_
 exact ⟨a,T,C,dx,H,rfl,I2.os,I2.bare,I2.base,I2.hok,x2,fun b hb=>⟨(nw b hb).1,(nw b hb).2.1⟩,hE⟩
theorem fB:Passes (x6 P w) (rV (x6 P w) P w K mg base N qual scope f cd A outer s0 H0 E) E:=by
 intro pins σ H s e s' I h
 obtain ⟨a,T,C,dx,H',rfl,I',x,nw,hE⟩:=I.back (P:=P) (w:=w) rfl h
 exact Pe I' x (fun T fl e=>by cases e;rfl) nw hE
theorem N4:PassesOwn (model P w) (rV (x6 P w) P w K mg base N qual scope f cd A outer s0 H0 E).A (rV (x6 P w) P w K mg base N qual scope f cd A outer s0 H0 E).env (rV (x6 P w) P w K mg base N qual scope f cd A outer s0 H0 E).xe:=PassesOwn.leaving
theorem mK.Oq {x qual:Str} {st:Stmt} {f:Addr} {fd:FuncData} {N ps:List Str} {k:Nat} {sp:Sp} (F:mK K x qual st f fd) (S:aU N ps (ak st)) (len:∀ vs H Q E,sp vs H Q E->vs.length=ps.length)
   (hbody:∀ (cdv:Value) (A:Around) (outer:List Env) (s:Shared) (H:Hp) (vs:List V) (Q:VK) (E:XK),dW k (A.deeper (envOfC qual (ak st) s.heap.objs.size f cdv))->sp vs H Q E->
     ∃ t,Jh (rV (x6 P w) P w K mg base N qual (ak st) f cdv A outer s H E) (aB st) t/\t { nx:=fun _ H'=>Q .non H',rt:=Q } (start N vs) H):cE P w K mg base (x6 P w) (k+1) f fd ps sp:=by
 obtain ⟨oc,od,kV,doc,pm,an,cdv,ct,osl,rfl,lk,hcd⟩:=F.ex
 exact Tp lk hcd S len fun A outer s H vs Q E hr Ly=>hbody cdv A outer s H vs Q E hr Ly
end
end L2
namespace L2
open PySem PySem.Spec PyProof.Rows XL
theorem cS.there {P:Program} {w:World} {H:Hp} {h:Heap} {a:Addr} {o:HO} (x:cS P w H h a o):∃ ob,h.get? a=some ob:=by
 cases o with
 | lst xs=>obtain ⟨_,_,_,_,e⟩:=x;exact ⟨_,e⟩
 | tup xs=>obtain ⟨_,_,_,_,e,_⟩:=x;exact ⟨_,e⟩
 | dK kvs=>obtain ⟨_,_,_,_,o,_,_,e,_⟩:=x;exact ⟨_,e⟩
 | dT kvs=>obtain ⟨_,_,_,_,o,_,_,e,_⟩:=x;exact ⟨_,e⟩
 | set S n=>obtain ⟨o,_,_,_,e,_⟩:=x;exact ⟨_,e⟩
 | ins C dx fs=>obtain ⟨_,_,_,e,_⟩:=x;exact ⟨_,e⟩
 | own y=>exact x
 | xd fs=>obtain ⟨_,⟨_,_,_,e,_⟩,_⟩:=x;exact ⟨_,e⟩
 | QV lo hi=>obtain ⟨_,_,_,e⟩:=x;exact ⟨_,e⟩
 | l6 ob u=>obtain ⟨e,_⟩:=x;exact ⟨_,e⟩
 | SW ps=>exact ⟨_,(show h.get? a=some _ from x)⟩
 | met f y=>exact ⟨_,(show h.get? a=some _ from x)⟩
 | ext φ=>obtain ⟨_,e,_⟩:=x;exact e
structure N5 (K:PySem.W.Frag) (C fI:Addr) (names:List Str):Prop where
 ex:∃ (nm q:Str) (N:Addr) (bs:List Value) (sn:List Str) (sub:List Value) (ab:Bool) (col:Option Bool) (dd:Option Addr) (k0 k1 k2 k3 k5:Option Value),
   K.lookup C=some (excClassObj nm q C N bs eY true sn sub ab col dd k0 k1 k2 k3 k5 "Exception.__new__")/\PySem.W.nsOkIn K N=true/\PySem.W.nsIn K N "__init__"=some (some (.ref fI))/\∀ x ∈ names,PySem.W.nsIn K N x=some none
 fn:PySem.W.isFn K (.ref fI)=true
 kp:PySem.W.keepIn K (.ref C)=true
 sa:PySem.W.findIn K (.ref C) "__setattr__"=some (some (.builtin "object.__setattr__"))
 ga:("__getattribute__":Str) ∈ names
 gh:("__getattr__":Str) ∈ names
 ss:("__setattr__":Str) ∈ names
theorem LD {K:PySem.W.Frag} {h:Heap} {N:Addr} {m:Str->Option Value} {x:Str} {v:Value} (X:K.In h) (G:h.Ns N m) (e:PySem.W.nsIn K N x=some (some v)):m x=some v:=by
 obtain ⟨o,es,ep,ho,hd,_,hf⟩:=G
 cases hk:K.lookup N with
 | none=>simp [PySem.W.nsIn,hk] at e
 | some ob=>
   have z:=X _ _ hk
   rw [ho] at z
   cases z
   obtain ⟨c,dd,dt,sl⟩:=o
   have hd:dt=.dict es ep:=hd
   subst hd
   simp only [PySem.W.nsIn,hk] at e
   cases hq:es.toList.find? (·.key.isStr x) with
   | none=>rw [hq] at e;split at e<;>simp_all
   | some en=>
     rw [hq] at e
     have e:en.val=v:=by simpa using e
     rw [<- hf]
     unfold nsFind findBy
     rw [<- Array.find?_toList,hq]
     exact congrArg some e
theorem N5.at {K:PySem.W.Frag} {C fI:Addr} {names:List Str} (c:N5 K C fI names) {h:Heap} (X:K.In h) :
   ∃ (nm q:Str) (N:Addr) (bs:List Value) (sn:List Str) (sub:List Value) (ab:Bool) (col:Option Bool) (dd:Option Addr) (k0 k1 k2 k3 k5:Option Value) (mN:Str->Option Value),
     h.get? C=some (excClassObj nm q C N bs eY true sn sub ab col dd k0 k1 k2 k3 k5 "Exception.__new__")/\h.Ns N mN/\mN "__init__"=some (.ref fI)/\∀ x ∈ names,mN x=none:=by
 obtain ⟨nm,q,N,bs,sn,sub,ab,col,dd,k0,k1,k2,k3,k5,l,ok,hi,hn⟩:=c.ex
 have G:h.Ns N (h.nsMap N):=.of_isNs (PySem.W.isNs_of_in X ok)
 exact ⟨nm,q,N,bs,sn,sub,ab,col,dd,k0,k1,k2,k3,k5,_,X _ _ l,G,LD X G hi,fun x hx=>PySem.W.ns_none_of X G (hn x hx)⟩
theorem N5.init {K:PySem.W.Frag} {C fI:Addr} {names:List Str} (c:N5 K C fI names) {h:Heap} (X:K.In h):∃ o,h.get? fI=some o/\o.cls=.type "function":=by
 have f:=c.fn
 unfold PySem.W.isFn PySem.W.typeIn at f
 dsimp only at f
 cases hk:K.lookup fI with
 | none=>rw [hk] at f;simp at f
 | some o=>
   rw [hk] at f
   exact ⟨o,X _ _ hk,by simpa using f⟩
def XO (a C:Addr) (d:Option Addr):HO:=.ext fun h=>∃ t,h.get? a=some ⟨.ref C,d,.fields #[.ref t,.none,.none,.none,.bool false,.none],#[]⟩
def XR (a C dx:Addr):HO:=.ext fun h=>∃ oe,h.get? a=some oe/\oe.cls=.ref C/\oe.dict=some dx/\∀ c,oe.data ≠ .cls c
section
variable {P:Program} {w:World} {H:Hp} {h:Heap} {a C dx:Addr} {d:Option Addr}
theorem XO.ok {t:Addr} (e:h.get? a=some ⟨.ref C,d,.fields #[.ref t,.none,.none,.none,.bool false,.none],#[]⟩):cS P w H h a (XO a C d):=
 ⟨⟨t,e⟩,⟨_,e⟩,fun h1 h2 ⟨t,q⟩ k=>⟨t,k _ q⟩⟩
theorem XR.ok {oe:Obj} (e:h.get? a=some oe) (h1:oe.cls=.ref C) (h2:oe.dict=some dx) (h3:∀ c,oe.data ≠ .cls c):cS P w H h a (XR a C dx):=
 ⟨⟨oe,e,h1,h2,h3⟩,⟨_,e⟩,fun g1 g2 ⟨o,q,r⟩ k=>⟨o,k _ q,r⟩⟩
end
def drop (H:Hp) (a:Addr):Hp:=fun b=>if b=a then none else H b
theorem Dv {H:Hp} {a b:Addr} (h:b ≠ a):drop H a b=H b:=if_neg h
theorem B9 {H:Hp} {a:Addr}:drop H a a=none:=if_pos rfl
section
variable {X:Cx} {pins:List (Addr×Obj)} {σ:St} {H:Hp} {s:Shared} {a C dx fI:Addr} {names:List Str} {E:Value->Shared->Prop} {Q:Unit->Shared->Prop} {A:Around}
theorem Inv.dropped {φ:Heap->Prop} (I:Inv X pins σ H s) (e:H a=some (.ext φ)):Inv X pins σ (drop H a) s:=by
 have sub:∀ b u,drop H a b=some u->H b=some u/\b ≠ a:=fun b u q=>by
   by_cases z:b=a
   . rw [z,B9] at q;cases q
   . rw [Dv z] at q;exact ⟨q,z⟩
 have no:∀ b,H b=none->drop H a b=none:=fun b q=>by
   by_cases z:b=a
   . rw [z,B9]
   . rw [Dv z];exact q
 have kp:∀ b u,H b=some u->(∀ φ,u ≠ .ext φ)->drop H a b=some u:=fun b u q n=>by
   rw [Dv (fun z=>by rw [z,e] at q;cases q;exact n φ rfl)];exact q
 refine ⟨I.ok,I.os,I.bare,⟨I.base.keep,I.base.slot,fun b o q n hx=>no b (I.base.free b o q n hx),I.base.there,fun b xs q=>kp b _ (I.base.tups b xs q) (fun _ z=>by cases z),fun b o u q=>kp b _ (I.base.yX b o u q) (fun _ z=>by cases z),
   fun b ps q=>?_⟩,I.loc,I.cell,no _ I.free,fun x c q=>no c (I.g7 x c q),fun p hp=>?_,fun b u q=>?_,I.len⟩
 . obtain ⟨more,z⟩:=I.base.Bq b ps q
   exact ⟨more,kp b _ z (fun _ z=>by cases z)⟩
 . obtain ⟨z1,z2,z3⟩:=I.pin p hp
   exact ⟨z1,no _ z2,z3⟩
 . obtain ⟨q1,q2⟩:=sub b u q
   exact (I.hok b u q1).stay (fun _ _ _ z=>z) (fun c z=>kp c _ z (fun _ z=>by cases z)) fun c xs z=>kp c _ z (fun _ z=>by cases z)
theorem Inv.tracked {φ:Heap->Prop} (I:Inv X pins σ H s) (n:H a=none) (nw:X.Bp.heap.get? a=none) (nl:a ≠ X.env.locals) (nc:∀ x c,X.env.cells.lookup x=some c->c ≠ a) (np:∀ p ∈ X.pn++pins,p.1 ≠ a)
   (ok:cS X.prog X.w (upd H a (.ext φ)) s.heap a (.ext φ)):Inv X pins σ (upd H a (.ext φ)) s:=by
 have kp:∀ b u,H b=some u->upd H a (.ext φ) b=some u:=fun b u q=>by rw [aq (ay q n)];exact q
 have no:∀ b,H b=none->b ≠ a->upd H a (.ext φ) b=none:=fun b q z=>by rw [aq z];exact q
 refine ⟨I.ok,I.os,I.bare,⟨I.base.keep,I.base.slot,fun b o q m hx=>no b (I.base.free b o q m hx) (fun z=>by rw [z,nw] at q;cases q),I.base.there,fun b xs q=>kp b _ (I.base.tups b xs q),fun b o u q=>kp b _ (I.base.yX b o u q),
   fun b ps q=>?_⟩,I.loc,I.cell,no _ I.free (Ne.symm nl),fun x c q=>no c (I.g7 x c q) (nc x c q),fun p hp=>?_,fun b u q=>?_,I.len⟩
 . obtain ⟨more,z⟩:=I.base.Bq b ps q
   exact ⟨more,kp b _ z⟩
 . obtain ⟨z1,z2,z3⟩:=I.pin p hp
   exact ⟨z1,no _ z2 (np p hp),z3⟩
 . by_cases z:b=a
   . subst z;rw [ai] at q;cases q;exact ok
   . rw [aq z] at q
     exact (I.hok b u q).stay (fun _ _ _ z=>z) (fun c z=>kp c _ z) fun c xs z=>kp c _ z
theorem JD {fs:List (Str×V)} {mA:Str->Option Value} (r:∀ f,pZ (fs.lookup f) (mA f)):PySem.Within mA (fs.map (·.1)):=fun f hf=>by
 cases q:fs.lookup f with
 | none=>
   have z:=r f
   rw [q] at z
   exact absurd (pZ.none_of z) hf
 | some v=>exact List.mem_map.mpr ⟨(f,v),PySem.mem_of_lookup q,rfl⟩
theorem UC {f:Str} {y:V} {u:Value} (I:Inv X pins σ H s) (c:N5 X.K C fI names) (e:H a=some (XO a C none)) (hf:f ∈ names) (EM:typeLookup (.type "Exception") f=pure none) (ry:RelV y u)
   (k:∀ dx s',H dx=none->Inv X pins σ (upd (upd H dx (.xd [(f,y)])) a (XO a C (some dx))) s'->Q () s'):wpAny (model X.prog X.w) A (setAttr (.ref a) f u) Q E s:=by
 obtain ⟨⟨t,ea⟩,_,_⟩:=(show cS X.prog X.w H s.heap a (XO a C none) from I.hok a _ e)
 obtain ⟨nm,q,N,bs,sn,sub,ab,col,dd,k0,k1,k2,k3,k5,mN,cC,cN,_,hn⟩:=c.at I.yY
 obtain ⟨hh,g,d,tk,os⟩:=s
 have ea:hh.get? a=some ⟨.ref C,none,.fields #[.ref t,.none,.none,.none,.bool false,.none],#[]⟩:=ea
 refine LC PySem.F.store_Exception cC cN (hn _ c.ss) (hn f hf) EM ea rfl (fun _ z=>by cases z) rfl fun h' tk' x1 x2 x3=>?_
 have nd:H hh.objs.size=none:=I.hok.fresh (Nat.le_refl _)
 have na:hh.objs.size ≠ a:=Nat.ne_of_gt (Heap.lt_size ea)
 refine k hh.objs.size _ nd (I.un (h':=h') (t':=tk') ⟨fun b o z n _ _=>x3 b o (fun w=>by rw [w,e] at n;cases n) z,fun b o z n _ _=>⟨o.slots,x3 b o (fun w=>by rw [w,e] at n;cases n) z⟩,fun b o z n _=>?_,fun b o z _=>?_,fun b xs z=>?_,fun b o v z=>?_,fun b ps z=>?_⟩ ?_)
 . rw [aq (fun w=>by rw [w,e] at n;cases n),aq (Nat.ne_of_lt (Heap.lt_size z))];exact n
 . by_cases w:b=a
   . rw [w];exact ⟨_,x1⟩
   . exact ⟨o,x3 b o w z⟩
 . rw [aq (fun w=>by rw [w,e] at z;cases z),aq (ay z nd)];exact z
 . rw [aq (fun w=>by rw [w,e] at z;cases z),aq (ay z nd)];exact z
 . exact ⟨#[],by rw [aq (fun w=>by rw [w,e] at z;cases z),aq (ay z nd),z];simp⟩
 . intro b v z
   by_cases wa:b=a
   . subst wa;rw [ai] at z;cases z;exact XO.ok x1
   . rw [aq wa] at z
     by_cases wd:b=hh.objs.size
     . subst wd
       rw [ai] at z
       cases z
       refine ⟨_,x2,fun g=>?_⟩
       by_cases w:g=f
       . subst w;simp [pZ];exact ry
       . rw [if_neg w]
         have:([(f,y)]:List (Str×V)).lookup g=none:=by
           rw [List.lookup_cons]
           have:(g==f)=false:=by simpa using w
           rw [this];rfl
         rw [this];trivial
     . rw [aq wd] at z
       refine (I.hok b v z).stay (fun c' v' hc q'=>x3 c' v' (fun w=>?_) q') (fun c' q'=>?_) fun c' xs q'=>?_
       . rcases hc with hc | hc
         . exact wa (hc ▸ w)
         . rw [w,e] at hc;cases hc
       . rw [aq (fun w=>by rw [w,e] at q';cases q'),aq (ay q' nd)];exact q'
       . rw [aq (fun w=>by rw [w,e] at q';cases q'),aq (ay q' nd)];exact q'
theorem UD {f:Str} {y:V} {u:Value} {fs:List (Str×V)} (I:Inv X pins σ H s) (c:N5 X.K C fI names) (e:H a=some (XO a C (some dx))) (ed:H dx=some (.xd fs)) (hl:fs.length < 1000) (hf:f ∈ names) (EM:typeLookup (.type "Exception") f=pure none) (ry:RelV y u)
   (k:∀ s',Inv X pins σ (upd H dx (.xd (f6 f y fs))) s'->Q () s'):wpAny (model X.prog X.w) A (setAttr (.ref a) f u) Q E s:=by
 obtain ⟨⟨t,ea⟩,_,_⟩:=(show cS X.prog X.w H s.heap a (XO a C (some dx)) from I.hok a _ e)
 obtain ⟨mA,n1,rl⟩:=(show cS X.prog X.w H s.heap dx (.xd fs) from I.hok dx _ ed)
 obtain ⟨nm,q,N,bs,sn,sub,ab,col,dd,k0,k1,k2,k3,k5,mN,cC,cN,_,hn⟩:=c.at I.yY
 have da:dx ≠ a:=fun w=>by rw [w,e] at ed;cases ed
 have aC:a ≠ C:=fun w=>by rw [w,cC] at ea;cases ea
 obtain ⟨hh,g,d,tk,os⟩:=s
 refine store_attr PySem.F.store_Exception cC cN (hn _ c.ss) (hn f hf) EM aC ⟨_,ea,rfl,(fun _ z=>by cases z),.inr ⟨dx,rfl,da,n1⟩⟩ (fun h' tk' x1 x2 x3=>?_) (JD rl) (by rw [List.length_map,sizeLine_eq];omega)
 obtain ⟨o1,y1,y2,y3,y4,y5⟩:=x3 _ ea
 have y6:=y5 dx rfl
 have eo:o1=⟨.ref C,some dx,.fields #[.ref t,.none,.none,.none,.bool false,.none],#[]⟩:=by
   obtain ⟨c1,d1,t1,s1⟩:=o1
   dsimp only at y2 y3 y4 y6
   rw [y2,y3,y4,y6]
 subst eo
 have n2:h'.Ns1 dx (fun y'=>if y'=f then some u else mA y'):=by
   obtain ⟨o2,z1,z2,z3,z4⟩:=x1
   rw [y1] at z1
   cases z1
   rcases z4 with ⟨z,_⟩ | ⟨d2,z,_,z5⟩
   . cases z
   . cases z;exact z5
 have kp:∀ b o,b ≠ dx->hh.get? b=some o->h'.get? b=some o:=fun b o nd z=>by
   by_cases w:b=a
   . rw [w] at z ⊢
     rw [ea] at z;cases z;exact y1
   . exact x2 b o w (fun o0 d0 q1 q2=>by rw [ea] at q1;cases q1;cases q2;exact nd) z
 have thr:∃ o,h'.get? dx=some o:=let ⟨o,_,_,z,_⟩:=n2;⟨o,z⟩
 refine k _ (I.un (h':=h') (t':=tk') ⟨fun b o z n _ _=>kp b o (fun w=>by rw [w,ed] at n;cases n) z,fun b o z n _ _=>⟨o.slots,kp b o (fun w=>by rw [w,ed] at n;cases n) z⟩,fun b o z n _=>?_,fun b o z _=>?_,fun b xs z=>?_,fun b o v z=>?_,fun b ps z=>?_⟩ ?_)
 . rw [aq (fun w=>by rw [w,ed] at n;cases n)];exact n
 . by_cases w:b=dx
   . rw [w];exact thr
   . exact ⟨o,kp b o w z⟩
 . rw [aq (fun w=>by rw [w,ed] at z;cases z)];exact z
 . rw [aq (fun w=>by rw [w,ed] at z;cases z)];exact z
 . exact ⟨#[],by rw [aq (fun w=>by rw [w,ed] at z;cases z),z];simp⟩
 . intro b v z
   by_cases wd:b=dx
   . subst wd
     rw [ai] at z
     cases z
     refine ⟨_,n2,fun g=>?_⟩
     rw [vh]
     by_cases w:g=f
     . rw [if_pos w,if_pos w];exact ry
     . rw [if_neg w,if_neg w];exact rl g
   . rw [aq wd] at z
     refine (I.hok b v z).stay (fun c' v' hc q'=>kp c' v' (fun w=>?_) q') (fun c' q'=>?_) fun c' xs q'=>?_
     . rcases hc with hc | hc
       . exact wd (hc ▸ w)
       . rw [w,ed] at hc;cases hc
     . rw [aq (fun w=>by rw [w,ed] at q';cases q')];exact q'
     . rw [aq (fun w=>by rw [w,ed] at q';cases q')];exact q'
theorem W6 {f:Str} {v:V} {b:Bool} {fs:List (Str×V)} {Q:Value->Shared->Prop} (I:Inv X pins σ H s) (c:N5 X.K C fI names) (e:H a=some (XR a C dx)) (ed:H dx=some (.xd fs)) (l:fs.lookup f=some v) (hf:f ∈ names) (EM:typeLookup (.type "Exception") f=pure none)
   (k:∀ u s',Inv X pins σ H s'->RelV v u->Q u s'):wpAny (model X.prog X.w) A (getAttr (.ref a) f b) Q E s:=by
 obtain ⟨⟨oe,ea,e1,e2,e3⟩,_,_⟩:=(show cS X.prog X.w H s.heap a (XR a C dx) from I.hok a _ e)
 obtain ⟨mA,n1,rl⟩:=(show cS X.prog X.w H s.heap dx (.xd fs) from I.hok dx _ ed)
 obtain ⟨nm,q,N,bs,sn,sub,ab,col,dd,k0,k1,k2,k3,k5,mN,cC,cN,_,hn⟩:=c.at I.yY
 have da:dx ≠ a:=fun w=>by rw [w,e] at ed;cases ed
 obtain ⟨u,hu,ru⟩:=pZ.some_of (v:=v) (o:=mA f) (by rw [<- l];exact rl f)
 obtain ⟨hh,g,d,tk,os⟩:=s
 exact Pd cC cN (hn _ c.ga) (hn _ c.gh) (hn f hf) EM ⟨oe,ea,e1,e3,.inr ⟨dx,e2,da,n1⟩⟩ hu (PySem.W.handedOut_of (FO ru)) (k u _ (I.tok _) ru)
end
section
variable {X:Cx} {C fI:Addr} {names:List Str} {o e value:Expr} {es:List Expr} {f:Str} {pos pos' np cpos:Pos} {ta tv:TE}
def sX0 (C:Addr) (ta tv:TE) (f:Str):TS:=fun D σ H=>tv σ H fun y H1=>ta σ H1 fun x H2=>∃ a,x=.ref a/\H2 a=some (XO a C none)/\∀ dx,H2 dx=none->D.nx σ (upd (upd H2 dx (.xd [(f,y)])) a (XO a C (some dx)))
def sX1 (C:Addr) (ta tv:TE) (f:Str):TS:=fun D σ H=>tv σ H fun y H1=>ta σ H1 fun x H2=>∃ a dx fs,x=.ref a/\H2 a=some (XO a C (some dx))/\H2 dx=some (.xd fs)/\fs.length < 1000/\D.nx σ (upd H2 dx (.xd (f6 f y fs)))
theorem W7 (c:N5 X.K C fI names) (ha:PE X o ta) (hv:PE X value tv) (hf:f ∈ names) (EM:typeLookup (.type "Exception") f=pure none) (hs:swapsWith value (some (.Attribute o f pos')) pos.line X.env=pure false) :
   PS X (.Assign [.Attribute o f pos'] value pos) (sX0 C ta tv f):=by
 intro pins s σ H D I h
 refine plainObj_wpAny_Assign_Attribute (d7 (hv pins s σ H _ I h) fun u s1 ⟨y,H1,I1,ry,q⟩=>d7 (ha pins s1 σ H1 _ I1 q) fun ov s2 ⟨x,H2,I2,rx,a,ex,e1,q2⟩=>?_) hs
 subst ex
 obtain rfl:ov=Value.ref a:=rx
 exact UC I2 c e1 hf EM ry fun dx s3 nd I3=>⟨σ,_,I3,q2 dx nd⟩
theorem Tw (c:N5 X.K C fI names) (ha:PE X o ta) (hv:PE X value tv) (hf:f ∈ names) (EM:typeLookup (.type "Exception") f=pure none) (hs:swapsWith value (some (.Attribute o f pos')) pos.line X.env=pure false) :
   PS X (.Assign [.Attribute o f pos'] value pos) (sX1 C ta tv f):=by
 intro pins s σ H D I h
 refine plainObj_wpAny_Assign_Attribute (d7 (hv pins s σ H _ I h) fun u s1 ⟨y,H1,I1,ry,q⟩=>d7 (ha pins s1 σ H1 _ I1 q) fun ov s2 ⟨x,H2,I2,rx,a,dx,fs,ex,e1,e2,l,q2⟩=>?_) hs
 subst ex
 obtain rfl:ov=Value.ref a:=rx
 exact UD I2 c e1 e2 l hf EM ry fun s3 I3=>⟨σ,_,I3,q2⟩
def tXf (C:Addr) (ta:TE) (f:Str):TE:=fun σ H Q=>ta σ H fun x H1=>∃ a dx fs v,x=.ref a/\H1 a=some (XR a C dx)/\H1 dx=some (.xd fs)/\fs.lookup f=some v/\Q v H1
theorem Pf (c:N5 X.K C fI names) (he:PE X e ta) (hf:f ∈ names) (EM:typeLookup (.type "Exception") f=pure none) (hb:attributeBase e f X.env (eval e X.env)=eval e X.env):PE X (.Attribute e f pos) (tXf C ta f):=by
 intro pins s σ H Q I h
 refine Mn hb (d7 (he pins s σ H _ I h) fun u s1 ⟨x,H1,I1,rx,a,dx,fs,v,ex,e1,e2,l,q⟩=>?_)
 subst ex
 obtain rfl:u=Value.ref a:=rx
 exact W6 I1 c e1 e2 l hf EM fun u' s2 I2 ru=>⟨v,H1,I2,ru,q⟩
def UE (C:Addr) (sp:Sp) (E:XK) (t:TA):TS:=fun _ σ H=>t σ H fun vs H1=>vs.length<=sizeLine/\∀ a,H1 a=none->
 sp (.ref a::vs) (upd H1 a (XO a C none)) (fun v H2=>v=.non/\∃ dx,H2 a=some (XO a C (some dx))/\E (.ref C) (some dx) (drop H2 a)) E0
def Raises (X:Cx) (E:XK):Prop:=∀ (pins:List (Addr×Obj)) (σ:St) (H:Hp) (s:Shared) (a C dx:Addr),Inv X pins σ H s->Ld s.heap a (.ref C) (some dx) none->N2 X pins H [a]->E (.ref C) (some dx) H->X.xe (.ref a) s
theorem Pg {k:Nat} {fd:FuncData} {ps:List Str} {sp:Sp} {x:Str} {t:TA} {E:XK} (N3:X.ex=[]) (c:N5 X.K C fI names) (F:cE X.prog X.w X.K X.mg X.base ve k fI fd ps sp) (hr:dW (k+1) X.A) (hg:Gl X x) (hm:X.mg x=some (.ref C))
   (hb:Binds X.K fd ps []) (hR:Raises X E) (ha:PA X (e::es) t) (hdb:(x==("__debug__":Str))=false:=by decide) (he:starEach (e::es) X.env=(false,eval e X.env)::starEach es X.env:=by rfl) (hpl:(backTo cpos (starEach es X.env)).any (·.1)=false:=by rfl) :
   PS X (.Raise (some (.Call (.Name x np) (e::es) [] cpos)) none pos) (UE C sp E t):=by
 intro pins s σ H D I h
 rw [arm_exec_Raise]
 obtain ⟨nm,q,N,bs,sn,sub,ab,col,dd,k0,k1,k2,k3,k5,mN,cC,_,_,_⟩:=c.at I.yY
 refine wpAny_bind (wpAny_standAt (N1 (C:=C) (nm:=nm) (q:=q) (N:=N) (bs:=bs) (bm:=eY) (hdct:=true) (sn:=sn) (sub:=sub) (ab:=ab) (col:=col) (dd:=dd) (k0:=k0) (k1:=k1) (k2:=k2) (k3:=k3) (k5:=k5) (newId:="Exception.__new__") (by decide) hr.hd ?_))
 refine wpAny_bind (d7 (Q:=fun v s1=>∃ e t dx sl,v=.ref e/\s1.heap.get? C=some (excClassObj nm q C N bs eY true sn sub ab col dd k0 k1 k2 k3 k5 "Exception.__new__")/\s1.heap.get? e=some ⟨.ref C,dx,.fields #[.ref t,.none,.none,.none,.bool false,.none],sl⟩/\X.xe (.ref e) s1) ?_ fun v s1 z=>wpAny_bind (wpAny_standAt (wpAny_pure z)))
 refine wpAny_Call_Name_kw (xo I hg hm ?_ hdb)
 refine PySem.W.callWith_K (h₀:=X.base) I.ok.mod.kin c.kp (d7 (ha cpos pins s σ H _ I h) fun us s1 ⟨vs,H1,I1,r,hz,q1⟩=>⟨I1.yY,?_⟩) he hpl
 obtain ⟨nm',q',N',bs',sn',sub',ab',col',dd',k0',k1',k2',k3',k5',mN,cC1,cN,ci,hn⟩:=c.at I1.yY
 have same:∀ s':Shared,X.K.In s'.heap->s'.heap.get? C=some (excClassObj nm q C N bs eY true sn sub ab col dd k0 k1 k2 k3 k5 "Exception.__new__"):=fun s' z=>by
   obtain ⟨_,_,_,_,_,_,_,_,_,_,_,_,_,_,l,_⟩:=c.ex
   have z1:=I.yY _ _ l
   rw [cC] at z1
   rw [Option.some.inj z1]
   exact z _ _ l
 obtain ⟨oI,fi,fc⟩:=c.init I1.yY
 obtain ⟨hh,g,d,tk,os⟩:=s1
 show wpAny _ _ (call (.ref C) us) _ _ _
 refine wpAny_call_exc_init PySem.F.excBase_Exception cC1 cN ci fi fc (fun h' ea made=>?_) (by rw [<- r.length];exact hz)
 obtain ⟨t0,t1,t2,t3⟩:=made.there
 have nH:H1 ea=none:=by
   cases z:H1 ea with
   | none=>rfl
   | some u=>
     obtain ⟨o,w⟩:=(I1.hok ea u z).there
     have w':hh.get? ea=some o:=w
     rw [made.new] at w'
     cases w'
 obtain ⟨nw,np⟩:=I1.UA (b:=ea) made.new N3
 have e3:ea ≠ X.env.locals:=fun z=>by
   obtain ⟨m,⟨o,_,_,ho,_⟩,_⟩:=I1.loc
   have ho':hh.get? X.env.locals=some o:=ho
   rw [<- z,made.new] at ho'
   cases ho'
 have e4:∀ x c,X.env.cells.lookup x=some c->c ≠ ea:=fun x c hc z=>by
   obtain ⟨v,o,ho,_⟩:=I1.cell x c hc
   have ho':hh.get? c=some o:=ho
   rw [z,made.new] at ho'
   cases ho'
 have I2:Inv X pins σ H1 ⟨h',g,d,tk,os⟩:=I1.kept (h':=h') (t':=tk) made.keeps
 have I3:Inv X pins σ (upd H1 ea (XO ea C none)) ⟨h',g,d,tk,os⟩:=I2.tracked nH nw e3 e4 np (XO.ok t1)
 have hq:=q1 ea nH
 have r2:Vals (V.ref ea::vs) (Value.ref ea::us):=.cons rfl r
 have hl:(Value.ref ea::us++[]).length=ps.length:=by
   rw [List.append_nil,<- r2.length]
   exact F.len _ _ _ _ hq
 have hbn:=hb _ (Value.ref ea::us) I3.yY hl
 rw [List.append_nil] at hbn
 refine wpAny_call (codeAny_mono (F.run _ X.stack _ _ ⟨Value.ref ea::us,[]⟩ (Value.ref ea::us) _ _ E0 (hr.make C us []) (I3.Rg.make C us []) hbn r2 hq) fun r s' hq'=>?_)
 cases r with
 | error e=>exact False.elim hq'
 | ok fl=>
   cases fl with
   | next=>exact False.elim hq'
   | brk=>exact False.elim hq'
   | cont=>exact False.elim hq'
   | ret u=>
     obtain ⟨v,H',I4,rv,ev,dx,ex,hE⟩:=I3.after hq'
     subst ev
     obtain ⟨⟨tt,ea'⟩,_,_⟩:=(show cS X.prog X.w H' s'.heap ea (XO ea C (some dx)) from I4.hok ea _ ex)
     have I5:=I4.dropped ex
     refine ⟨rv,ea,tt,some dx,#[],rfl,same s' I4.yY,ea',?_⟩
     exact hR pins σ _ s' ea C dx I5 ⟨_,_,ea',rfl,rfl,rfl,rfl⟩ (fun b hb=>by rw [show b=ea by simpa using hb];exact ⟨B9,nw,np⟩) hE
end
section
variable {P:Program} {w:World} {K:PySem.W.Frag} {mg:Str->Option Value} {base:Heap} {N:List Str} {qual:Str} {scope:Scope} {f:Addr} {cd:Value} {A:Around} {outer:List Env} {s0:Shared} {H0:Hp} {E:XK}
theorem RC:Raises (rV (x6 P w) P w K mg base N qual scope f cd A outer s0 H0 E) E:=fun pins σ H s a C dx I x nw hE=>Pe I x (fun _ _ z=>by cases z) nw hE
end
end L2
namespace HT
open PySem PyProof.Rows
def lexLe:List Int->List Int->Bool
 | [],_=>true
 | _::_,[]=>false
 | x::xs,y::ys=>if x=y then lexLe xs ys else decide (x<=y)
theorem rX (x y:Int) (xs ys:List Int):lexLe (x::xs) (y::ys)=if x=y then lexLe xs ys else decide (x<=y):=rfl
theorem Gk (ys:List Int):lexLe [] ys=true:=by cases ys<;>rfl
theorem DZ (x:Int) (xs:List Int):lexLe (x::xs) []=false:=rfl
theorem Ph (A:Around) (s:Shared) (a:Int) (t:Tok) (c:Int) (u:Tok) (prog:Program) (w:World) (E:Value->Shared->Prop) (Q:Value->Shared->Prop) (h:Q (.bool (decide (a<=c))) s) :
   wpAny (model prog w) A (richCompare .LtE (.int a t) (.int c u)) Q E s:=
 (PyProof.Rows.le_int h:wpAny (model prog w) A (compareOp .LtE (.int a t) (.int c u)) Q E s)
section
open PySem.SeqAt
open PySem.AutoSeq1 (wpAny_loadPart')
open PySem.MeetsSeq PySem.MeetsSeq2 PySem.MeetsSeq3
theorem EN (l b:Addr) (items items2:Array Value) (n n2:Nat) (dd dd2:Option Addr) (sl sl2:Array (Option Value)) (ns ms:List Int) (hi:IntsAre items.toList ns) (hj:IntsAre items2.toList ms) :
   Meets (Builtin.«tuple.__le__» ⟨[.ref l,.ref b],[]⟩)
     (fun _ R s=>s.heap.get? l=some { cls:=.type "tuple",dict:=dd,data:=.seq items n,slots:=sl }/\s.heap.get? b=some { cls:=.type "tuple",dict:=dd2,data:=.seq items2 n2,slots:=sl2 } /\
       R (.ok (.ret (.bool (lexLe ns ms)))) s):=
 .of_wp fun prog w A R s h=>by
   obtain ⟨hp,g,d,tk,os⟩:=s;obtain ⟨hl,hb,h⟩:=h
   have f2:=AutoSeq1.sub_tuple_tuple
   have z1:items.size=ns.length:=by rw [<- hi.length];simp
   have z2:items2.size=ms.length:=by rw [<- hj.length];simp
   wp_walk using wpAny_loadPart' hl,wpAny_loadPart' hb,wpAny_forIn_list _ (fun rest b s'=>b.1=none/\s'=⟨hp,g,d,tk,os⟩/\∃ (vs ws:List Value) (ns' ms':List Int),rest=vs.zip ws /\
     IntsAre vs ns'/\IntsAre ws ms'/\ns'.length+items2.size=ms'.length+items.size/\R (.ok (.ret (.bool (lexLe ns' ms')))) ⟨hp,g,d,tk,os⟩) _
   case turn=>
     rintro ⟨y,x⟩ rest b s' ⟨hb',rfl,vs,ws,ns',ms',hz,YD,hwi,hlen,hR⟩
     cases YD with
     | nil=>rw [List.zip_nil_left] at hz;cases hz
     | cons a t YE=>
       cases hwi with
       | nil=>rw [List.zip_nil_right] at hz;cases hz
       | cons c u hwi'=>
         rw [List.zip_cons_cons] at hz
         injection hz with hyx hrest
         injection hyx with hy hx
         subst hy hx
         rw [rX] at hR
         simp only [List.length_cons] at hlen
         obtain ⟨e,he,hiff⟩:=OH A.in1 ⟨hp,g,d,tk,os⟩ a t c u
         refine wpAny_bind (he prog w _ _ ?_)
         cases e with
         | true=>
           rw [if_pos (hiff.mp rfl)] at hR
           wp_walk
           exact ⟨rfl,rfl,_,_,_,_,hrest,YE,hwi',by omega,hR⟩
         | false=>
           rw [if_neg (fun q=>absurd (hiff.mpr q) Bool.false_ne_true)] at hR
           have hri:=Ph A.in1 ⟨hp,g,d,tk,os⟩ a t c u prog w
           wp_walk using hri
           exact ⟨_,rfl,by simpa using hR⟩
   case fin=>
     rintro ⟨b1,b2⟩ s' ⟨hb',rfl,vs,ws,ns',ms',hz,YD,hwi,hlen,hR⟩
     simp only at hb'
     subst hb'
     have hv:lexLe ns' ms'=decide (items.size<=items2.size):=by
       cases YD with
       | nil=>
         have:ms'.length=ms'.length:=rfl
         simp only [List.length_nil] at hlen
         rw [Gk]
         exact (decide_eq_true (by omega)).symm
       | cons a t hv=>
         cases hwi with
         | nil=>
           simp only [List.length_nil,List.length_cons] at hlen
           rw [DZ]
           exact (decide_eq_false (by omega)).symm
         | cons c u hw=>
           rw [List.zip_cons_cons] at hz
           cases hz
     rw [hv] at hR
     wp_walk
     exact ⟨_,rfl,by simpa [Builtin.Tuple.tupleCompareSizes] using hR⟩
   case h=>
     exact ⟨rfl,rfl,items.toList,items2.toList,ns,ms,rfl,hi,hj,by omega,h⟩
end
section
variable {prog:Program} {w:World} {A:Around} {E:Value->Shared->Prop} {s:Shared}
theorem LF {l b:Addr} {items items2:Array Value} {ns ms:List Int} {Q:Value->Shared->Prop} (hl:IsTup s.heap l items) (hb:IsTup s.heap b items2) (hi:IntsAre items.toList ns) (hj:IntsAre items2.toList ms)
   (hu:A.units < cLine) (h:Q (.bool (lexLe ns ms)) s):wpAny (model prog w) A (compareOp .LtE (.ref l) (.ref b)) Q E s:=by
 obtain ⟨⟨cls,dd,data,sl⟩,ho,hc,n,hd⟩:=id hl
 obtain ⟨⟨aaf,dd2,data2,sl2⟩,ho2,hc2,n2,hd2⟩:=id hb
 simp only at hc hd hc2 hd2
 subst hc hd hc2 hd2
 exact richCompare_meets_room (op:=.LtE) ⟨_,ho,rfl⟩ ⟨_,ho2,rfl⟩ PySem.F.slot_tuple_le PySem.F.entry_tuple_le (PySem.F.args_tuple_le_2 _ _) (EN l b items items2 n n2 dd dd2 sl sl2 ns ms hi hj)
   ⟨ho,ho2,show Value.bool (lexLe ns ms) ≠ Value.notImplemented/\Q (.bool (lexLe ns ms)) s from ⟨(fun x=>nomatch x),h⟩⟩ hu
end
end HT
namespace L2
open PySem PySem.Spec PyProof.Rows XL
section
variable {X:Cx}
def YF (K:PySem.W.Frag):R2:=fun x y H Q=>∃ a b ns ms,x=.ref a/\y=.ref b/\rS K H a (ns.map V.int)/\rS K H b (ms.map V.int)/\Q (.bl (HT.lexLe ns ms)) H
theorem UG (hu:X.A.units < cLine):EI X (compareOp .LtE) (YF X.K):=by
 intro pins s σ H x y v u Q I rx ry h
 obtain ⟨a,b,ns,ms,rfl,rfl,ha,hb,q⟩:=h
 cases rx
 cases ry
 obtain ⟨its,r1,p1,_⟩:=I.tuple ha
 obtain ⟨its2,r2,p2,_⟩:=I.tuple hb
 have i1:IntsAre its.toArray.toList ns:=intsAre_of r1
 have i2:IntsAre its2.toArray.toList ms:=intsAre_of r2
 exact HT.LF p1 p2 i1 i2 hu ⟨.bl (HT.lexLe ns ms),H,I,rfl,q⟩
def UH (i:Nat) (f:Addr) (sp:Sp) (E:XK) (t:TA):TE:=fun σ H Q=>σ[i]?=some (some (.ref f))/\t σ H fun vs H1=>sp vs H1 Q E
theorem JE {CX:Lc} {k i:Nat} {f:Addr} {fd:FuncData} {ps:List Str} {sp:Sp} {E:XK} {x:Str} {p pos:Pos} {e:Expr} {es:List Expr} {t:TA} (F:cE X.prog X.w X.K X.mg X.base CX k f fd ps sp) (hr:dW k X.A)
   (hk:PySem.W.keepIn X.K (.ref f)=true) (hb:Binds X.K fd ps []) (hx:Passes CX X E) (ha:PA X (e::es) t) (hN:X.N[i]?=some x:=by rfl)
   (hv:Uc X.env.scope x:=by first | exact Or.inl rfl | exact Or.inr (Or.inl rfl) | exact Or.inr (Or.inr rfl)) (hdb:(x==("__debug__":Str))=false:=by decide) (hcd:(x==("__classdict__":Str))=false:=by decide)
   (he:starEach (e::es) X.env=(false,eval e X.env)::starEach es X.env:=by rfl) (hpl:(backTo pos (starEach es X.env)).any (·.1)=false:=by rfl) :
   PE X (.Call (.Name x p) (e::es) [] pos) (UH i f sp E t):=by
 intro pins s σ H Q I h
 obtain ⟨h1,h⟩:=h
 refine wpAny_Call_Name_kw (d7 (Ov (X:=X) (i:=i) (x:=x) (pos:=p) hN hv hdb hcd pins s σ H (fun v H1=>v=.ref f/\H1=H) I ⟨_,h1,rfl,rfl⟩) fun u s1 ⟨v,H1,I1,rv,ev,eH⟩=>?_)
 subst ev eH
 obtain rfl:u=Value.ref f:=rv
 refine PySem.W.callWith_K (h₀:=X.base) I.ok.mod.kin hk (d7 (ha pos pins s1 σ H1 _ I1 h) fun us s2 ⟨vs,H2,I2,r,q⟩=>⟨I2.yY,?_⟩) he hpl
 exact DM F hr hb .nil hx I2 r (by rw [List.append_nil];exact q)
end
structure Cp (k:Nat) (A:Around):Prop where
 dp:A.depth+3 * k+5 < recursionLimit
 un:A.units+16 * k+200 < cLine
theorem Cp.deeper {k:Nat} {A:Around} (r:Cp (k+1) A) (env:Env):Cp k (A.deeper env):=
 ⟨by have:=r.dp;show A.depth+1+3 * k+5 < _;omega,by have:=r.un;show A.units+3+16 * k+200 < _;omega⟩
theorem Cp.depth {k:Nat} {A:Around} (r:Cp k A):A.depth < recursionLimit:=by have:=r.dp;omega
structure Pj (P:Program) (w:World) (K:PySem.W.Frag) (mg:Str->Option Value) (base:Heap) (k:Nat) (f:Addr) (fd:FuncData) (ps:List Str) (sp:Sp):Prop where
 len:∀ vs H Q E,sp vs H Q E->vs.length=ps.length
 run:∀ (A:Around) (outer:List Env) (s:Shared) (H:Hp) (args:Args) (us:List Value) (vs:List V) (Q:VK) (E:XK),Cp k A->GJ P w K mg base A outer s H->BindsTo s fd args (ps.zip us)->Vals vs us->sp vs H Q E->
   codeAny (model P w) A (.call (.ref f) args) (CR ve outer P w H s Q E) s
abbrev Cx.W8 (X:Cx):Cx:={ X with calm:=false }
theorem LG {P:Program} {w:World} {K:PySem.W.Frag} {mg:Str->Option Value} {base:Heap} {N ps:List Str} {qual:Str} {scope:Scope} {f:Addr} {cd:Value} {A:Around} {outer:List Env} {s s1:Shared} {H:Hp} {E:XK} {us:List Value} {vs:List V}
   (S:aU N ps scope) (e0:GJ P w K mg base A outer s H) (hl:vs.length=ps.length) (r:Vals vs us)
   (x:InCallC s s.heap.objs.size (bindL (envOfC qual scope s.heap.objs.size f cd).kindOf (ps.zip us) fun _=>none) (cellsFrom (s.heap.objs.size+1) scope.names []) (bindC (envOfC qual scope s.heap.objs.size f cd).kindOf (ps.zip us) fun _=>none) s1) :
   Inv (rV ve P w K mg base N qual scope f cd A outer s H E).W8 [] (start N vs) H s1:=by
 have I:Inv (rV ve P w K mg base N qual scope f cd { A with handled:=none } outer s H E) [] (start N vs) H s1:=FW S rfl ⟨e0.frames,e0.mod,e0.bs,e0.MZ,e0.xy,e0.Ou,e0.hok,e0.bare⟩ hl r x
 exact ⟨⟨I.ok.mod,I.ok.kind,I.ok.glob,I.ok.blt,I.ok.above,I.ok.inj,I.ok.has,I.ok.Tc,(fun z=>Bool.noConfusion z),I.ok.frames,I.ok.QX,I.ok.Ud,I.ok.bs,I.ok.MZ,I.ok.Jf,I.ok.Jg,I.ok.xy,I.ok.Ou⟩,I.os,I.bare,I.base,I.loc,I.cell,I.free,I.g7,I.pin,I.hok,I.len⟩
theorem UI {P:Program} {w:World} {K:PySem.W.Frag} {mg:Str->Option Value} {base:Heap} {k:Nat} {f:Addr} {name qual:Str} {params:Arguments} {body:List Stmt} {scope:Scope} {dV kV doc pm cdv ct oc:Value} {an od:Option Addr}
   {osl:Array (Option Value)} {N ps:List Str} {sp:Sp} (lk:K.lookup f=some ⟨oc,od,.func (PySem.W.fnOf name qual params body scope dV kV doc pm an cdv ct),osl⟩) (hcd:PySem.W.codeIn K cdv qual=true) (S:aU N ps scope)
   (len:∀ vs H Q E,sp vs H Q E->vs.length=ps.length)
   (hbody:∀ (A:Around) (outer:List Env) (s:Shared) (H:Hp) (vs:List V) (Q:VK) (E:XK),Cp k (A.deeper (envOfC qual scope s.heap.objs.size f cdv))->sp vs H Q E->
     ∃ t,Jh (rV ve P w K mg base N qual scope f cdv A outer s H E).W8.VL body t/\t { nx:=fun _ H'=>Q .non H',rt:=Q } (start N vs) H) :
   Pj P w K mg base (k+1) f (PySem.W.fnOf name qual params body scope dV kV doc pm an cdv ct) ps sp:=by
 refine ⟨len,fun A outer s H args us vs Q E hr e0 hb r Ly=>?_⟩
 have hl:=len _ _ _ _ Ly
 have KX:K.In s.heap:=e0.mod.kin.keeps fun b o e=>(e0.bs b o e).1
 have lim:s.heap.NoLimit:=e0.mod.nolimit.keeps fun b o e=>(e0.bs b o e).1
 have hkind:∀ y ∈ ps.zip us,scope.names.lookup y.1=some .local\/(scope.names.lookup y.1=some .cell/\((cellsFrom (s.heap.objs.size+1) scope.names []).lookup y.1).isSome=true):=fun ⟨n,v⟩ hy=>by
   rcases S.par n (List.of_mem_zip hy).1 with q | q
   . exact .inl q
   . exact .inr ⟨q,PySem.W.cellsFrom_some _ _ _ (.inl q)⟩
 refine codeAny_call_function hr.depth (KX _ _ lk) rfl S.co S.gen rfl (PySem.W.codeRec_of KX hcd) (hb _ _ _ _ ?_)
 refine wpAny_newFunctionEnv_cells S.kind hkind fun env he s1 x=>?_
 subst he
 refine ⟨lim.keeps x.toInCall.keep,codeAny_func ?_⟩
 obtain ⟨t,ht,hq⟩:=hbody A outer s H vs Q E (hr.deeper _) Ly
 have I:=LG (E:=E) S e0 hl r x
 refine wpAny_mono (ht [] s1 (start N vs) H _ (I.DC _) hq) (fun fl s' hs=>?_) fun e s' hs=>False.elim hs
 cases fl with
 | ret u=>
   obtain ⟨v,σ',H',J,rv,q⟩:=hs
   exact ⟨v,H',J.os,J.bare,J.base,J.hok,rv,q⟩
 | next=>
   obtain ⟨σ',H',J,q⟩:=hs
   exact ⟨.non,H',J.os,J.bare,J.base,J.hok,rfl,q⟩
 | brk=>
   obtain ⟨_,_,_,q⟩:=hs
   exact False.elim q
 | cont=>
   obtain ⟨_,_,_,q⟩:=hs
   exact False.elim q
section
variable {X:Cx}
theorem Pk {k:Nat} {f:Addr} {fd:FuncData} {ps:List Str} {sp:Sp} {x:Str} {p pos:Pos} {e:Expr} {es:List Expr} {t:TA} (F:Pj X.prog X.w X.K X.mg X.base k f fd ps sp) (hr:Cp k X.A) (hg:Gl X x) (hm:X.mg x=some (.ref f))
   (hk:PySem.W.keepIn X.K (.ref f)=true) (hb:Binds X.K fd ps []) (ha:PA X (e::es) t) (hdb:(x==("__debug__":Str))=false:=by decide)
   (he:starEach (e::es) X.env=(false,eval e X.env)::starEach es X.env:=by rfl) (hpl:(backTo pos (starEach es X.env)).any (·.1)=false:=by rfl):PE X (.Call (.Name x p) (e::es) [] pos) (OD sp [] E0 t):=by
 intro pins s σ H Q I h
 refine wpAny_Call_Name_kw (xo I hg hm ?_ hdb)
 refine PySem.W.callWith_K (h₀:=X.base) I.ok.mod.kin hk (d7 (ha pos pins s σ H _ I h) fun us s1 ⟨vs,H1,I1,r,q⟩=>⟨I1.yY,?_⟩) he hpl
 have q:sp (vs++[]) H1 Q E0:=q
 rw [List.append_nil] at q
 have hl:(us++[]).length=ps.length:=by rw [List.append_nil,<- r.length];exact F.len _ _ _ _ q
 have hbn:=hb s1 us I1.yY hl
 rw [List.append_nil] at hbn
 refine wpAny_call (codeAny_mono (F.run X.A X.stack s1 H1 ⟨us,[]⟩ us vs Q E0 hr I1.Rg hbn r q) fun r s' hq=>?_)
 cases r with
 | error e=>exact False.elim hq
 | ok fl=>
   cases fl with
   | ret u=>exact I1.after hq
   | next=>exact False.elim hq
   | brk=>exact False.elim hq
   | cont=>exact False.elim hq
end
abbrev Cx.hand (X:Cx) (ea:Addr):Cx:={ X with A:=X.A.mark (some (.ref ea)),calm:=false,xe:=fun _ _=>False }
section
variable {X:Cx} {pins:List (Addr×Obj)} {σ:St} {H:Hp} {s:Shared}
theorem Inv.hand (I:Inv X pins σ H s) (ea:Addr):Inv (X.hand ea) pins σ H s:=
 ⟨⟨I.ok.mod,I.ok.kind,I.ok.glob,I.ok.blt,I.ok.above,I.ok.inj,I.ok.has,I.ok.Tc,(fun z=>Bool.noConfusion z),I.ok.frames,I.ok.QX,I.ok.Ud,I.ok.bs,I.ok.MZ,I.ok.Jf,I.ok.Jg,I.ok.xy,I.ok.Ou⟩,I.os,I.bare,I.base,I.loc,I.cell,I.free,I.g7,I.pin,I.hok,I.len⟩
theorem Inv.Pn {ea:Addr} {h':Heap} {t':Nat} {m':Str->Option Value} (ok:X.Ok) (hxe:X.ex=[]) (I:Inv (X.hand ea) pins σ H s) (n:h'.Ns X.env.locals m') (sb:Heap.SameBut X.env.locals s.heap h') :
   Inv X pins (List.replicate X.N.length none) H { s with heap:=h',toks:=t' }:=by
 have kp:∀ b o,b ≠ X.env.locals->s.heap.get? b=some o->h'.get? b=some o:=fun b o n q=>by rw [sb.2 b n];exact q
 have QY:∀ b o,X.Bp.heap.get? b=some o->b ≠ X.env.locals:=fun b o e=>Nat.ne_of_lt (Nat.lt_of_lt_of_le (Heap.lt_size e) ok.above)
 have fr:H X.env.locals=none:=I.free
 refine ⟨ok,I.os,I.bare,⟨fun b o e n hb hx=>kp b o (QY b o e) (I.base.keep b o e n hb hx),fun b o e n hb hx=>?_,I.base.free,fun b o e hx=>?_,I.base.tups,I.base.yX,I.base.Bq⟩,⟨m',n,fun i x v _ e2 _=>?_⟩,fun x c e=>?_,I.free,I.g7,fun p hp=>?_,fun b u e=>?_,by simp⟩
 . obtain ⟨sl,q⟩:=I.base.slot b o e n hb hx
   exact ⟨sl,kp b _ (QY b o e) q⟩
 . obtain ⟨o',q⟩:=I.base.there b o e hx
   exact ⟨o',kp b o' (QY b o e) q⟩
 . rw [List.getElem?_replicate] at e2
   split at e2<;>cases e2
 . obtain ⟨v,o,ho,hd⟩:=I.cell x c e
   exact ⟨v,o,kp c o (I.QT x c e) ho,hd⟩
 . obtain ⟨z1,z2,z3,z4⟩:=I.pin p hp
   exact ⟨kp _ _ z3 z1,z2,z3,z4⟩
 . refine (I.hok b u e).stay (fun c v hc q=>kp c v (fun z=>?_) q) (fun _ q=>q) fun _ _ q=>q
   rcases hc with hc | hc
   . rw [z] at hc;rw [<- hc,fr] at e;cases e
   . rw [z,fr] at hc;cases hc
end
abbrev Cx.N6 (X:Cx) (pn:List (Addr×Obj)) (Z:Value->Shared->Prop):Cx:={ X with pn:=pn,xe:=Z }
def RD (X:Cx) (pn:List (Addr×Obj)) (Z:Value->Shared->Prop) (E:XK):Prop:=Passes (x6 X.prog X.w) (X.N6 pn Z) E
section
variable {X:Cx} {pins Tz:List (Addr×Obj)} {σ:St} {H:Hp} {s:Shared} {Z:Value->Shared->Prop}
theorem Inv.N6 (I:Inv X pins σ H s):Inv (X.N6 (X.pn++pins) Z) [] σ H s:=
 ⟨⟨I.ok.mod,I.ok.kind,I.ok.glob,I.ok.blt,I.ok.above,I.ok.inj,I.ok.has,I.ok.Tc,I.ok.hd,I.ok.frames,I.ok.QX,I.ok.Ud,I.ok.bs,I.ok.MZ,I.ok.Jf,I.ok.Jg,I.ok.xy,I.ok.Ou⟩,I.os,I.bare,I.base,I.loc,I.cell,I.free,I.g7,
   fun p hp=>I.pin p (by simpa using hp),I.hok,I.len⟩
theorem Inv.JF (ok:X.Ok) (I:Inv (X.N6 (X.pn++pins) Z) Tz σ H s):Inv X pins σ H s:=
 ⟨ok,I.os,I.bare,I.base,I.loc,I.cell,I.free,I.g7,fun p hp=>I.pin p (List.mem_append_left _ hp),I.hok,I.len⟩
end
section
variable {X:Cx} {C fI:Addr} {names:List Str} {xc n:Str} {np hpos pos:Pos} {body suite:List Stmt} {b0:Stmt} {tb th:TS} {E:XK} {i:Nat} {Qr:VK}
def YG (tb:TS) (Qr:VK):TS:=fun D σ H=>(∀ v H',Qr v H'->D.rt v H')/\tb D σ H
theorem UJ (W:Own X) (N3:X.ex=[]) (hN:X.N.Nodup) (c:N5 X.K C fI names) (hg:Gl X xc) (hm:X.mg xc=some (.ref C)) (hi:X.N[i]?=some n) (hl:X.env.kindOf n=some .local) (UK:X.env.scope.names.lookup n=some .local)
   (hb:∀ pn Z,RD X pn Z E->Jh (X.N6 pn Z) body tb) (hs:∀ ea,Jh (X.hand ea) (b0::suite) th)
   (hE:∀ C' dx H,E C' (some dx) H->C'=.ref C/\∀ a,H a=none->th { nx:=fun _ _=>False,rt:=Qr } ((List.replicate X.N.length none).set i (some (.ref a))) (upd H a (XR a C dx))) (hdb:(xc==("__debug__":Str))=false:=by decide) :
   PS X (.Try body [.ExceptHandler (some (.Name xc np)) (some n) (b0::suite) hpos] [] [] pos) (YG tb Qr):=by
 intro pins s σ H D I h
 obtain ⟨hQ,h⟩:=h
 have VB:=I.ok
 have hcls:(X.env.scope.kind==.class||(X.env.scope.kind==.module&&X.env.locals != X.env.globals))=false:=by rw [I.ok.kind];rfl
 refine wpAny_Try_except (wpAny_mono (hb (X.pn++pins) (fun e s1=>wpAny (model X.prog X.w) X.A (noteFrame e X.env) (fun _ s2=>wpAny (model X.prog X.w) X.A (setFlight e none) (fun _ s3=>
   wpAny (model X.prog X.w) X.A (handleBy e X.env [.ExceptHandler (some (.Name xc np)) (some n) (b0::suite) hpos]) (SP X pins D) X.xe s3) X.xe s2) X.xe s1) ?_ [] s σ H D I.N6 h) (fun f s1 q=>?_) fun e s1 q=>q)
 rotate_left
 . cases f with
   | next=>obtain ⟨σ',H',I',q⟩:=q;exact wpAny_execs_nil ⟨σ',H',I'.JF VB,q⟩
   | ret u=>obtain ⟨v,σ',H',I',r,q⟩:=q;exact ⟨v,σ',H',I'.JF VB,r,q⟩
   | brk=>obtain ⟨σ',H',I',q⟩:=q;exact ⟨σ',H',I'.JF VB,q⟩
   | cont=>obtain ⟨σ',H',I',q⟩:=q;exact ⟨σ',H',I'.JF VB,q⟩
 intro Tz σ1 H1 s1 e s2 I1 hx
 have I1':Inv X pins σ1 H1 s1:=I1.JF VB
 obtain ⟨a,T,C',dx,H',rfl,I2,x2,nw,hE2⟩:=I1'.back (P:=X.prog) (w:=X.w) N3 hx
 obtain ⟨eC,hsuite⟩:=hE _ _ _ hE2
 cases eC
 show wpAny _ _ (noteFrame (.ref a) X.env) _ _ s2
 refine I2.noted W N3 x2 (fun T fl e=>by cases e;exact .inl rfl) nw fun h3 T3 I3 x3 YH=>?_
 refine I3.flown (fr:=none) x3 YH fun h4 I4 x4=>?_
 have J4:=I4.hand a
 obtain ⟨nm,q,N,bs,sn,sub,ab,col,dd,k0,k1,k2,k3,k5,mN,cC,_,_,_⟩:=c.at I4.yY
 obtain ⟨oe,vs,ce,e1,e2,e3,_⟩:=id x4
 refine wpAny_handleBy_cons (codeAny_handlers_test (xo (X:=X.hand a) J4 hg hm ?_ hdb)) (by intro q;cases q)
 refine wpAny_excMatches_sub_self cC ce e1 (by decide) ?_
 refine codeAny_handlers_suite_as ?_
 refine Inv.flown (X:=X.hand a) (fr:=none) J4 x4 YH fun h5 J5 x5=>?_
 obtain ⟨oe5,vs5,ZC,d1,d2,d3,_⟩:=id x5
 obtain ⟨nl,nc⟩:=J5.apart ZC d3
 obtain ⟨nH,nz,np'⟩:=YH a (by simp)
 refine Br (X:=X.hand a) J5 hN hi (.inl UK) (v:=.ref a) rfl (fun s6 J6 ⟨ad,sb,hor⟩=>?_) (.inr UK)
 have ne6:a ≠ ad:=fun z=>by
   rcases hor with w | w
   . exact nl (z.trans w)
   . exact nc _ _ w z.symm
 have ce6:s6.heap.get? a=some oe5:=by rw [sb.2 a ne6];exact ZC
 have ZD:i < X.N.length:=(List.getElem?_eq_some_iff.mp hi).1
 have J6':Inv (X.hand a) pins ((List.replicate X.N.length none).set i (some (.ref a))) H' s6:=J6.weak (by
   have:=J5.len
   simp only [List.length_set,List.length_replicate]
   exact this.symm) fun j v ej=>by
     by_cases z:j=i
     . subst z
       rw [List.getElem?_set_self (by simpa using ZD)] at ej
       have hl5:σ1.length=X.N.length:=J5.len
       rw [List.getElem?_set_self (by rw [hl5];exact ZD)]
       exact ej
     . rw [List.getElem?_set_ne (Ne.symm z),List.getElem?_replicate] at ej
       split at ej<;>cases ej
 have J7:=J6'.tracked (a:=a) nH nz nl nc np' (XR.ok (dx:=dx) ce6 d1 d2 fun cc z=>by rw [d3] at z;cases z)
 refine wpAny_mono (hs a pins s6 _ _ _ J7 (hsuite a nH)) (fun f s7 q=>?_) fun _ _ z=>z.elim
 cases f with
 | ret u=>
   obtain ⟨v,σ7,H7,J8,rv,qv⟩:=q
   obtain ⟨m,hn,_⟩:=J8.loc
   refine wpAny_nameGoes (env:=X.env) hl hn hcls fun h9 m9 n9 sb9=>?_
   exact ⟨v,_,H7,J8.Pn VB N3 n9 sb9,rv,hQ _ _ qv⟩
 | next=>obtain ⟨_,_,_,q⟩:=q;exact q.elim
 | brk=>obtain ⟨_,_,_,q⟩:=q;exact q.elim
 | cont=>obtain ⟨_,_,_,q⟩:=q;exact q.elim
end
end L2
namespace L2
open PySem PySem.Spec PyProof.Rows XL
structure T4 (K:PySem.W.Frag) (C:Addr) (m:Str) (f:Addr):Prop where
 sp:PySem.W.specialIn K (.ref C) "__getattribute__"=some (some (.builtin "type.__getattribute__"))
 rd:PySem.W.readsIn K C (.type "type")=true
 fc:PySem.W.findCls K (.ref C) (.type "type") m=some (.val (.ref f))
 kp:PySem.W.keepIn K (.ref f)=true
section
variable {X:Cx} {CX:Lc} {k:Nat} {C f:Addr} {fd:FuncData} {ps:List Str} {sp:Sp} {E:XK} {x m:Str} {p apos pos:Pos} {e:Expr} {es:List Expr} {t:TA}
theorem Po {pl:Sem Bool} (hg:Gl X x) (hm:X.mg x=some (.ref C)) (c:T4 X.K C m f) (F:cE X.prog X.w X.K X.mg X.base CX k f fd ps sp) (hr:dW k X.A) (hb:Binds X.K fd ps []) (hx:Passes CX X E) (ha:PA X (e::es) t)
   (hdb:(x==("__debug__":Str))=false:=by decide) (hst:starEach (e::es) X.env=(false,eval e X.env)::starEach es X.env:=by rfl) (hpl:(backTo pos (starEach es X.env)).any (·.1)=false:=by rfl)
   (ht:eval (.Call (.Attribute (.Name x p) m apos) (e::es) [] pos) X.env=(do
     let ov <- eval (.Name x p) X.env
     standAt apos.atName
     let (f,first) <- holding [ov] (getMethod ov m pl)
     callWith pos f first (backTo pos (starEach (e::es) X.env)) (backToKw pos (keywordEach [] X.env))):=by rfl) :
   PE X (.Call (.Attribute (.Name x p) m apos) (e::es) [] pos) (OD sp [] E t):=by
 intro pins s σ H Q I h
 refine PySem.W.methodCall_KW (pl:=pl) (d7 (bK (X:=X) (x:=x) (v:=.ref C) (pos:=p) hg hm rfl hdb pins s σ H (fun v H1=>v=.ref C/\H1=H) I ⟨rfl,rfl⟩) fun u s1 ⟨v,H1,I1,rv,ev,eH⟩=>?_) ht
 subst ev eH
 obtain rfl:u=Value.ref C:=rv
 refine PySem.W.method_cls I1.yY c.sp (PySem.W.cls_value I1.yY c.rd c.fc rfl ?_)
 have I2:=I1.tok (s1.toks+1)
 refine PySem.W.callWith_K (first:=[]) (h₀:=X.base) I.ok.mod.kin c.kp (d7 (ha pos pins _ σ H1 _ I2 h) fun us s2 ⟨vs,H2,I3,r,q⟩=>⟨I3.yY,?_⟩) hst hpl
 exact DM F hr hb .nil hx I3 r q
end
end L2
namespace JM
open Fk
theorem bc {α β:Type} (y:α) (f:α->Except Fault β):andThen (.ok y) f=f y:=rfl
theorem bw {α β γ:Type} (x:Except Fault α) (f:α->Except Fault β) (g:β->Except Fault γ):andThen (andThen x f) g=andThen x fun y=>andThen (f y) g:=by
 cases x<;>rfl
theorem gf {α β:Type} {x x':Except Fault α} {f f':α->Except Fault β} (h:x=x') (hf:∀ y,x=.ok y->f y=f' y):andThen x f=andThen x' f':=by
 subst h
 cases x with
 | error e=>rfl
 | ok y=>exact hf y rfl
theorem JG {k:Nat} {g g':Nat->Bool} (h:∀ v,g v=g' v) (b:Bytes) (p:Nat):numIn k g b p=numIn k g' b p:=by
 have e:g=g':=funext h
 rw [e]
theorem bB {k:Nat} {g:Nat->Bool} {b:Bytes} {p:Nat} {y:Nat×Bytes×Nat} (h:numIn k g b p=.ok y):k<=b.length/\g y.1=true/\y.1=num (b.take k)/\y.2.1=b.drop k/\y.2.2=p+k:=by
 unfold numIn at h
 split at h
 . cases h
 . rename_i h1
   split at h
   . rename_i h2
     cases h
     exact ⟨by omega,h2,rfl,rfl,rfl⟩
   . cases h
def many {α:Type} (one:Bytes->Nat->Except Fault (α×Bytes×Nat)):Nat->Bytes->Nat->Except Fault (List α×Bytes×Nat)
 | 0,b,p=>.ok ([],b,p)
 | k+1,b,p=>andThen (one b p) fun x=>andThen (many one k x.2.1 x.2.2) fun l=>.ok (x.1::l.1,l.2.1,l.2.2)
def iB:Bytes->Bytes->Nat->Except Fault (Bytes×Nat)
 | [],b,p=>.ok (b,p)
 | c::m,b,p=>andThen (numIn 1 (fun _=>true) b p) fun x=>andThen (need (decide (x.1=c.toNat)) 1 p) fun _=>iB m x.2.1 x.2.2
theorem M7 (c:UInt8):num [c]=c.toNat:=by
 simp [num]
theorem JH:∀ (m b:Bytes) (p:Nat),iB m b p=match (List.range m.length).find? fun i=>b[i]? != m[i]? with
   | some i=>.error ⟨if i < b.length then 1 else 5,p+min i b.length⟩
   | none=>.ok (b.drop m.length,p+m.length)
 | [],b,p=>by simp [iB]
 | c::m,[],p=>by
   have e:(List.range (c::m).length).find? (fun i=>([]:Bytes)[i]? != (c::m)[i]?)=some 0:=by
     rw [List.length_cons,List.range_succ_eq_map,List.find?_cons]
     have q:(([]:Bytes)[0]? != (c::m)[0]?)=true:=by simp
     rw [q]
   rw [e]
   simp [iB,numIn,andThen]
 | c::m,x::b,p=>by
   have ih:=JH m b (p+1)
   rw [List.length_cons,List.range_succ_eq_map,List.find?_cons,List.find?_map]
   have e1:numIn 1 (fun _=>true) (x::b) p=.ok (x.toNat,b,p+1):=by
     simp [numIn,M7]
   unfold iB
   rw [e1,bc]
   show andThen (need (decide (x.toNat=c.toNat)) 1 p) (fun _=>iB m b (p+1))=_
   by_cases hx:x=c
   . subst hx
     have e2:((x::b)[0]? != (x::m)[0]?)=false:=by simp
     rw [e2]
     have e3:(fun i=>(x::b)[i]? != (x::m)[i]?) ∘ Nat.succ=fun i=>b[i]? != m[i]?:=by
       funext i
       simp
     rw [e3]
     have e4:need (decide (x.toNat=x.toNat)) 1 p=.ok ():=by simp [need]
     rw [e4,bc,ih]
     cases (List.range m.length).find? fun i=>b[i]? != m[i]? with
     | none=>simp;omega
     | some i=>
       simp only [Option.map_some]
       by_cases hi:i < b.length
       . have:i.succ < (x::b).length:=by simp;omega
         simp [hi]
         omega
       . have:¬ i.succ < (x::b).length:=by simp;omega
         simp [hi]
         omega
   . have e2:((x::b)[0]? != (c::m)[0]?)=true:=by simp [hx]
     rw [e2]
     have e4:need (decide (x.toNat=c.toNat)) 1 p=.error ⟨1,p⟩:=by
       have:¬ x.toNat=c.toNat:=fun q=>hx (UInt8.toNat_inj.mp q)
       simp [need,this]
     rw [e4]
     simp [andThen]
theorem RE (m b:Bytes):mark m b=iB m b 0:=by
 rw [JH]
 unfold mark
 cases (List.range m.length).find? fun i=>b[i]? != m[i]?<;>simp
theorem Ea:∀ {l m:List Nat},l.Pairwise (· < ·)->m.Pairwise (· < ·)->(∀ x,x ∈ l ↔ x ∈ m)->l=m
 | [],[],_,_,_=>rfl
 | [],y::m,_,_,h=>by have:=(h y).mpr (by simp);simp at this
 | x::l,[],_,_,h=>by have:=(h x).mp (by simp);simp at this
 | x::l,y::m,hl,hm,h=>by
   obtain ⟨hx,hl'⟩:=List.pairwise_cons.mp hl
   obtain ⟨hy,hm'⟩:=List.pairwise_cons.mp hm
   have e:x=y:=by
     rcases List.mem_cons.mp ((h x).mp (by simp)) with q | q
     . exact q
     . rcases List.mem_cons.mp ((h y).mpr (by simp)) with r | r
       . exact r.symm
       . have a:=hx y r
         have b:=hy x q
         omega
   subst e
   have ih:l=m:=Ea hl' hm' fun z=>by
     constructor
     . intro hz
       rcases List.mem_cons.mp ((h z).mp (List.mem_cons.mpr (.inr hz))) with q | q
       . subst q;have:=hx z hz;omega
       . exact q
     . intro hz
       rcases List.mem_cons.mp ((h z).mpr (List.mem_cons.mpr (.inr hz))) with q | q
       . subst q;have:=hy z hz;omega
       . exact q
   rw [ih]
theorem JI (n:Nat):(List.range n).Pairwise (· < ·):=List.pairwise_lt_range
theorem Hj {n:Nat} (p:Nat->Bool):((List.range n).filter p).Pairwise (· < ·):=(JI n).filter p
def vy (n:Nat) (l:List (Nat×Nat)):Prop:=(∀ x ∈ l,x.1 < x.2/\x.2 < n)/\l.Pairwise fun x y=>x.1 < y.1\/(x.1=y.1/\x.2 < y.2)
def vz (v:Nat) (x:Nat×Nat):Option Nat:=if x.1=v then some x.2 else if x.2=v then some x.1 else none
def dX (l:List (Nat×Nat)) (v:Nat):List Nat:=l.filterMap (vz v)
theorem LH {n:Nat} {l:List (Nat×Nat)} (h:vy n l) (v:Nat):(dX l v).Pairwise (· < ·):=by
 obtain ⟨h1,h2⟩:=h
 unfold dX
 rw [List.pairwise_filterMap]
 have h3:l.Pairwise fun x y=>(x.1 < x.2/\y.1 < y.2)/\(x.1 < y.1\/(x.1=y.1/\x.2 < y.2)):=by
   refine List.Pairwise.imp_of_mem ?_ h2
   intro a b ha hb hab
   exact ⟨⟨(h1 a ha).1,(h1 b hb).1⟩,hab⟩
 refine h3.imp ?_
 rintro ⟨xa,xb⟩ ⟨ya,yb⟩ ⟨⟨p1,p2⟩,p3⟩ u hu w hw
 unfold vz at hu hw
 simp only at p1 p2 p3 hu hw
 have cu:(xa=v/\xb=u)\/(xa ≠ v/\xb=v/\xa=u):=by
   by_cases q:xa=v
   . rw [if_pos q] at hu;exact .inl ⟨q,Option.some.inj hu⟩
   . rw [if_neg q] at hu
     by_cases q2:xb=v
     . rw [if_pos q2] at hu;exact .inr ⟨q,q2,Option.some.inj hu⟩
     . rw [if_neg q2] at hu;cases hu
 have cw:(ya=v/\yb=w)\/(ya ≠ v/\yb=v/\ya=w):=by
   by_cases q:ya=v
   . rw [if_pos q] at hw;exact .inl ⟨q,Option.some.inj hw⟩
   . rw [if_neg q] at hw
     by_cases q2:yb=v
     . rw [if_pos q2] at hw;exact .inr ⟨q,q2,Option.some.inj hw⟩
     . rw [if_neg q2] at hw;cases hw
 omega
theorem zE {l:List (Nat×Nat)} {v w:Nat}:w ∈ dX l v ↔ ∃ x ∈ l,(x.1=v/\x.2=w)\/(x.1 ≠ v/\x.2=v/\x.1=w):=by
 unfold dX
 rw [List.mem_filterMap]
 constructor
 . rintro ⟨x,hx,e⟩
   refine ⟨x,hx,?_⟩
   unfold vz at e
   split at e
   . rename_i q;exact .inl ⟨q,Option.some.inj e⟩
   . rename_i q
     split at e
     . rename_i q2;exact .inr ⟨q,q2,Option.some.inj e⟩
     . cases e
 . rintro ⟨x,hx,e⟩
   refine ⟨x,hx,?_⟩
   unfold vz
   rcases e with ⟨q1,q2⟩ | ⟨q1,q2,q3⟩
   . rw [if_pos q1,q2]
   . rw [if_neg q1,if_pos q2,q3]
theorem JJ {n:Nat} {l:List (Nat×Nat)} (h:vy n l) (v:Nat) (j:Nat->Bool) (hj:∀ w,j w=l.any fun x=>(x.1==v&&x.2==w)||(x.1==w&&x.2==v)):(List.range n).filter j=dX l v:=by
 refine Ea (Hj j) (LH h v) fun w=>?_
 rw [List.mem_filter,zE,hj,List.mem_range,List.any_eq_true]
 constructor
 . rintro ⟨_,x,hx,e⟩
   refine ⟨x,hx,?_⟩
   have:=h.1 x hx
   simp only [Bool.or_eq_true,Bool.and_eq_true,beq_iff_eq] at e
   omega
 . rintro ⟨x,hx,e⟩
   have:=h.1 x hx
   refine ⟨by omega,x,hx,?_⟩
   simp only [Bool.or_eq_true,Bool.and_eq_true,beq_iff_eq]
   omega
end JM
namespace JM
open Fk
def l8 (n:Nat) (had:Option (Nat×Nat)) (b:Bytes) (p:Nat):Except Fault ((Nat×Nat)×Bytes×Nat):=
   andThen (numIn 1 (fun v=>decide (v < n)) b p) fun x=>
   andThen (numIn 1 (fun v=>decide (x.1 < v)&&decide (v < n)) x.2.1 x.2.2) fun y=>
   andThen (need (match had with
     | some (u,w)=>decide (u < x.1)||(u==x.1&&decide (w < y.1))
     | none=>true) 3 p) fun _=>
   .ok ((x.1,y.1),y.2.1,y.2.2)
def fW {α:Type} (n:Nat) (one:Nat×Nat->Bytes->Nat->Except Fault (α×Bytes×Nat)):Nat->Option (Nat×Nat)->Bytes->Nat->Except Fault (List α×Bytes×Nat)
 | 0,_,b,p=>.ok ([],b,p)
 | k+1,had,b,p=>
   andThen (l8 n had b p) fun q=>andThen (one q.1 q.2.1 q.2.2) fun x=>andThen (fW n one k (some q.1) x.2.1 x.2.2) fun l=>.ok (x.1::l.1,l.2.1,l.2.2)
def mP (b:Bytes) (p:Nat):Except Fault (Atom×Bytes×Nat):=
   andThen (numIn 1 (fun v=>decide (1<=v)&&decide (v<=ELEMENTS)) b p) fun e=>
   andThen (numIn 2 (fun v=>decide (v<=ISOTOPE)) e.2.1 e.2.2) fun i=>
   andThen (numIn 1 (fun v=>decide (v<=8)) i.2.1 i.2.2) fun c=>
   andThen (numIn 1 (fun v=>decide (v<=7)) c.2.1 c.2.2) fun h=>
   andThen (numIn 1 (fun v=>decide (v<=2)) h.2.1 h.2.2) fun s=>
   .ok (⟨e.1,i.1,(c.1:Int) - 4,h.1,s.1⟩,s.2.1,s.2.2)
theorem Eb:∀ (k:Nat) (b:Bytes) (p:Nat),atomsIn k b p=many mP k b p
 | 0,b,p=>rfl
 | k+1,b,p=>by
   unfold atomsIn many mP
   simp only [bw,bc,Eb k]
   rfl
def k7 (q:Nat×Nat) (b:Bytes) (p:Nat):Except Fault (Bond×Bytes×Nat):=
   andThen (numIn 1 (fun v=>decide (1<=v)&&decide (v<=3)) b p) fun o=>
   andThen (numIn 1 (fun v=>decide (v<=2)) o.2.1 o.2.2) fun s=>
   .ok (⟨q.1,q.2,o.1,s.1⟩,s.2.1,s.2.2)
theorem Ec (n:Nat):∀ (k:Nat) (had:Option (Nat×Nat)) (b:Bytes) (p:Nat),bondsIn n k had b p=fW n k7 k had b p
 | 0,had,b,p=>rfl
 | k+1,had,b,p=>by
   unfold bondsIn fW k7 l8
   simp only [bw,bc,Ec n k]
   rfl
theorem o6 {α:Type} {one:Bytes->Nat->Except Fault (α×Bytes×Nat)}:∀ {k:Nat} {b:Bytes} {p:Nat} {y:List α×Bytes×Nat},many one k b p=.ok y->y.1.length=k
 | 0,b,p,y,h=>by cases h;rfl
 | k+1,b,p,y,h=>by
   unfold many at h
   cases h1:one b p with
   | error e=>rw [h1] at h;cases h
   | ok x=>
     rw [h1,bc] at h
     cases h2:many one k x.2.1 x.2.2 with
     | error e=>rw [h2] at h;cases h
     | ok l=>
       rw [h2,bc] at h
       cases h
       simp [o6 h2]
theorem rY {α:Type} {n:Nat} {one:Nat×Nat->Bytes->Nat->Except Fault (α×Bytes×Nat)}:∀ {k:Nat} {had:Option (Nat×Nat)} {b:Bytes} {p:Nat} {y:List α×Bytes×Nat},fW n one k had b p=.ok y->y.1.length=k
 | 0,_,b,p,y,h=>by cases h;rfl
 | k+1,had,b,p,y,h=>by
   unfold fW at h
   cases h0:l8 n had b p with
   | error e=>rw [h0] at h;cases h
   | ok q=>
     rw [h0,bc] at h
     cases h1:one q.1 q.2.1 q.2.2 with
     | error e=>rw [h1] at h;cases h
     | ok x=>
       rw [h1,bc] at h
       cases h2:fW n one k (some q.1) x.2.1 x.2.2 with
       | error e=>rw [h2] at h;cases h
       | ok l=>
         rw [h2,bc] at h
         cases h
         simp [rY h2]
theorem N7 {n:Nat} {had:Option (Nat×Nat)} {b:Bytes} {p:Nat} {q:(Nat×Nat)×Bytes×Nat} (h:l8 n had b p=.ok q) :
   q.1.1 < q.1.2/\q.1.2 < n/\∀ u,had=some u->u.1 < q.1.1\/(u.1=q.1.1/\u.2 < q.1.2):=by
 unfold l8 at h
 cases h1:numIn 1 (fun v=>decide (v < n)) b p with
 | error e=>rw [h1] at h;cases h
 | ok x=>
   rw [h1,bc] at h
   cases h2:numIn 1 (fun v=>decide (x.1 < v)&&decide (v < n)) x.2.1 x.2.2 with
   | error e=>rw [h2] at h;cases h
   | ok y=>
     rw [h2,bc] at h
     have g2:=(bB h2).2.1
     simp only [Bool.and_eq_true,decide_eq_true_eq] at g2
     cases had with
     | none=>
       cases h
       exact ⟨g2.1,g2.2,fun u hu=>by cases hu⟩
     | some uw=>
       obtain ⟨u,w⟩:=uw
       have h:andThen (need (decide (u < x.1)||(u==x.1&&decide (w < y.1))) 3 p) (fun _=>Except.ok ((x.1,y.1),y.2.1,y.2.2))=Except.ok q:=h
       cases hc:(decide (u < x.1)||(u==x.1&&decide (w < y.1))) with
       | false=>
         rw [hc] at h
         cases h
       | true=>
         rw [hc] at h
         cases h
         refine ⟨g2.1,g2.2,fun u' hu=>?_⟩
         cases hu
         simp only [Bool.or_eq_true,Bool.and_eq_true,beq_iff_eq,decide_eq_true_eq] at hc
         exact hc
theorem vA {α:Type} {n:Nat} {one:Nat×Nat->Bytes->Nat->Except Fault (α×Bytes×Nat)} {ends:α->Nat×Nat} (ho:∀ q b p x,one q b p=.ok x->ends x.1=q) :
   ∀ {k:Nat} {had:Option (Nat×Nat)} {b:Bytes} {p:Nat} {y:List α×Bytes×Nat},fW n one k had b p=.ok y->
     vy n (y.1.map ends)/\∀ u,had=some u->∀ x ∈ y.1.map ends,u.1 < x.1\/(u.1=x.1/\u.2 < x.2)
 | 0,_,b,p,y,h=>by
   cases h
   exact ⟨⟨by simp,by simp⟩,by simp⟩
 | k+1,had,b,p,y,h=>by
   unfold fW at h
   cases h0:l8 n had b p with
   | error e=>rw [h0] at h;cases h
   | ok q=>
     rw [h0,bc] at h
     obtain ⟨g1,g2,g3⟩:=N7 h0
     cases h1:one q.1 q.2.1 q.2.2 with
     | error e=>rw [h1] at h;cases h
     | ok x=>
       rw [h1,bc] at h
       have ex:=ho _ _ _ _ h1
       cases h2:fW n one k (some q.1) x.2.1 x.2.2 with
       | error e=>rw [h2] at h;cases h
       | ok l=>
         rw [h2,bc] at h
         cases h
         obtain ⟨⟨i1,i2⟩,i3⟩:=vA ho h2
         have i3:=i3 _ rfl
         simp only [List.map_cons,ex]
         refine ⟨⟨fun z hz=>?_,List.pairwise_cons.mpr ⟨fun z hz=>i3 z hz,i2⟩⟩,fun u hu z hz=>?_⟩
         . rcases List.mem_cons.mp hz with r | r
           . subst r;exact ⟨g1,g2⟩
           . exact i1 z r
         . have g:=g3 u hu
           rcases List.mem_cons.mp hz with r | r
           . subst r;exact g
           . have:=i3 z r
             omega
end JM
namespace MP
open PySem PySem.Spec PyProof.Rows L2
def top (i:Nat):Stmt:=PySem.Challenge.pw_moleculeparts_s11_least.main.body.getD i (.Pass ⟨0,0,0,0⟩)
abbrev dB:Stmt:=inClass (top 2) 0
abbrev bY:Stmt:=inClass (top 2) 1
abbrev bP:Stmt:=inClass (top 17) 0
abbrev cR:Stmt:=inClass (top 18) 0
abbrev c9:Stmt:=inClass (top 18) 1
abbrev bg:Stmt:=inClass (top 18) 2
abbrev aW:Stmt:=inClass (top 18) 3
abbrev bF:Stmt:=inClass (top 18) 4
abbrev b9:Stmt:=inClass (top 18) 5
abbrev bx:Stmt:=inClass (top 18) 6
abbrev bA:Stmt:=inClass (top 18) 7
abbrev bz:Stmt:=inClass (top 18) 8
abbrev bJ:Stmt:=inClass (top 18) 9
abbrev eu:Stmt:=inClass (top 41) 0
abbrev e7:Stmt:=inClass (top 42) 0
abbrev bZ:Stmt:=inClass (top 43) 0
abbrev bh:Stmt:=inClass (top 43) 1
abbrev aQ:Stmt:=inClass (top 43) 2
abbrev mE:Stmt:=top 0
abbrev bQ:Stmt:=top 3
abbrev dF:Stmt:=top 19
abbrev aX:Stmt:=top 22
abbrev aV:Stmt:=top 23
abbrev aR:Stmt:=top 24
abbrev e9:Stmt:=top 29
abbrev dG:Stmt:=top 30
abbrev bH:Stmt:=top 31
abbrev bN:Stmt:=top 32
abbrev dH:Stmt:=top 33
abbrev cA:Stmt:=top 34
abbrev dI:Stmt:=top 35
abbrev bX:Stmt:=top 44
abbrev cg:Stmt:=top 45
abbrev eB:Stmt:=top 46
abbrev eE:Stmt:=top 47
abbrev cj:Stmt:=top 48
abbrev ck:Stmt:=top 49
abbrev bR:Stmt:=top 50
abbrev kr:Stmt:=top 55
abbrev cB:Stmt:=top 56
abbrev dJ:Stmt:=top 57
set_option genInjectivity false in
set_option genSizeOf false in
structure Ad where
 bU:Addr
 aF:Addr
 aA:Addr
 cW:Addr
 cX:Addr
 aJ:Addr
 cz:Addr
 iI:FuncData
 bG:Addr
 i9:FuncData
 c5:Addr
 jP:FuncData
 dM:Addr
 pM:FuncData
 cY:Addr
 mQ:FuncData
 b6:Addr
 gB:FuncData
 bq:Addr
 gg:FuncData
 bS:Addr
 lP:FuncData
 bL:Addr
 iC:FuncData
 b4:Addr
 fC:FuncData
 bM:Addr
 iD:FuncData
 b5:Addr
 fD:FuncData
 bV:Addr
 iJ:FuncData
 eZ:Addr
 vC:FuncData
 fh:Addr
 vD:FuncData
 cG:Addr
 l9:FuncData
 bC:Addr
 jy:FuncData
 aY:Addr
 ia:FuncData
 rZ:Addr
 M8:FuncData
 cI:Addr
 jQ:FuncData
 dZ:Addr
 mF:FuncData
 bD:Addr
 gi:FuncData
 b7:Addr
 gC:FuncData
 br:Addr
 gj:FuncData
 fH:Addr
 vE:FuncData
 fj:Addr
 se:FuncData
 c6:Addr
 jR:FuncData
 cH:Addr
 lA:FuncData
 fk:Addr
 sf:FuncData
 dO:Addr
 mR:FuncData
 fm:Addr
 sj:FuncData
 cZ:Addr
 mS:FuncData
 dj:Addr
 lB:FuncData
 eF:Addr
 vF:FuncData
 eG:Addr
 vG:FuncData
 dw:Addr
 lC:FuncData
 dz:Addr
 lD:FuncData
 cJ:Addr
 jS:FuncData
 iK:Addr
 Dy:FuncData
 dP:Addr
 mT:FuncData
 fq:Addr
 sr:FuncData
 fX:Addr
 vH:Addr
structure Txt (K:PySem.W.Frag) (mg:Str->Option Value) (t:Ad):Prop where
 zF:mK K "__init__" "Graph.__init__" dB t.cz t.iI
 sA:Binds K t.iI ["self","atoms","bonds"] []
 tM:mK K "besides" "Graph.besides" bY t.bG t.i9
 tN:Binds K t.i9 ["self","end","other"] []
 qi:mK K "__init__" "FormFault.__init__" bP t.c5 t.jP
 qj:Binds K t.jP ["self","which","rule","place"] []
 xT:mK K "__init__" "Reader.__init__" cR t.dM t.pM
 xU:Binds K t.pM ["self","form","which"] []
 vJ:mK K "fault" "Reader.fault" c9 t.cY t.mQ
 dQ:Binds K t.mQ ["self","rule","place"] []
 k8:mK K "take_number" "Reader.take_number" bg t.b6 t.gB
 gD:Binds K t.gB ["self","size"] []
 jz:mK K "take_between" "Reader.take_between" aW t.bq t.gg
 aM:Binds K t.gg ["self","size","least","greatest"] []
 x8:mK K "take_range" "Reader.take_range" bF t.bS t.lP
 x9:Binds K t.lP ["self","size","most"] []
 mU:mK K "take_mark" "Reader.take_mark" b9 t.bL t.iC
 mV:Binds K t.iC ["self","mark"] []
 lQ:mK K "take_atoms" "Reader.take_atoms" bx t.b4 t.fC
 lR:Binds K t.fC ["self","n","take_atom"] []
 mW:mK K "take_pair" "Reader.take_pair" bA t.bM t.iD
 mX:Binds K t.iD ["self","n","before"] []
 lS:mK K "take_bonds" "Reader.take_bonds" bz t.b5 t.fD
 lT:Binds K t.fD ["self","n","m","take_bond"] []
 o7:mK K "take_end" "Reader.take_end" bJ t.bV t.iJ
 o8:Binds K t.iJ ["self"] []
 Cq:mK K "__init__" "Atom.__init__" eu t.eZ t.vC
 Cr:Binds K t.vC ["self","element","isotope","charge","hydrogens","hand"] []
 Cs:mK K "__init__" "Bond.__init__" e7 t.fh t.vD
 Ct:Binds K t.vD ["self","pair","order","side"] []
 tO:mK K "__init__" "Molecule.__init__" bZ t.cG t.l9
 tP:Binds K t.l9 ["self","atoms","bonds"] []
 uM:mK K "row_around" "Molecule.row_around" bh t.bC t.jy
 uN:Binds K t.jy ["self","atom"] []
 nX:mK K "orders_between" "Molecule.orders_between" aQ t.aY t.ia
 nY:Binds K t.ia ["self","atom","other"] []
 RG:mK K "_wall" "_wall" mE t.rZ t.M8
 RH:Binds K t.M8 ["k"] []
 jT:mK K "neighbour_rows" "neighbour_rows" bQ t.cI t.jQ
 qk:Binds K t.jQ ["n","bonds"] []
 sC:mK K "take_graph" "take_graph" dF t.dZ t.mF
 zG:Binds K t.mF ["reader","mark","take_atom","take_bond"] []
 gn:mK K "least_through_bonds" "least_through_bonds" aX t.bD t.gi
 j0:Binds K t.gi ["molecule"] []
 gE:mK K "least_through_bond" "least_through_bond" aV t.b7 t.gC
 k9:Binds K t.gC ["molecule","bond"] []
 gp:mK K "least_through_atoms" "least_through_atoms" aR t.br t.gj
 j3:Binds K t.gj ["molecule","through_bonds"] []
 o9:mK K "order_bit" "order_bit" e9 t.fH t.vE
 vK:Binds K t.vE ["order"] []
 sE:mK K "order_sums" "order_sums" dG t.fj t.se
 zH:Binds K t.se ["n","bonds"] []
 jU:mK K "redrawn_orders" "redrawn_orders" bH t.c6 t.jR
 ql:Binds K t.jR ["sums","bonds"] []
 lE:mK K "states_behind" "states_behind" bN t.cH t.lA
 tQ:Binds K t.lA ["states","bonds","k"] []
 mG:mK K "less_order" "less_order" dH t.fk t.sf
 sF:Binds K t.sf ["state","bond","order"] []
 iL:mK K "bonds_behind" "bonds_behind" cA t.dO t.mR
 mY:Binds K t.mR ["bonds","k","atom"] []
 mH:mK K "can_be_met" "can_be_met" dI t.fm t.sj
 sG:Binds K t.sj ["left","bonds"] []
 mZ:mK K "pair_numbers" "pair_numbers" bX t.cZ t.mS
 vM:Binds K t.mS ["bonds"] []
 lF:mK K "read_molecule" "read_molecule" cg t.dj t.lB
 tR:Binds K t.lB ["form","which"] []
 vO:mK K "take_atom" "take_atom" eB t.eF t.vF
 Cu:Binds K t.vF ["reader"] []
 vQ:mK K "take_bond" "take_bond" eE t.eG t.vG
 Cv:Binds K t.vG ["reader","pair"] []
 lG:mK K "may_have_hand" "may_have_hand" cj t.dw t.lC
 tS:Binds K t.lC ["molecule","k"] []
 lH:mK K "may_have_side" "may_have_side" ck t.dz t.lD
 tT:Binds K t.lD ["molecule","k"] []
 gX:mK K "end_takes_side" "end_takes_side" bR t.cJ t.jS
 jV:Binds K t.jS ["molecule","end","other"] []
 Hl:mK K "least" "least" kr t.iK t.Dy
 RI:Binds K t.Dy ["molecule"] []
 ng:mK K "fault_answer" "fault_answer" cB t.dP t.mT
 vR:Binds K t.mT ["fault"] []
 sH:mK K "row_answer" "row_answer" dJ t.fq t.sr
 zI:Binds K t.sr ["row"] []
 RJ:mg "_wall"=some (.ref t.rZ)
 qo:mg "neighbour_rows"=some (.ref t.cI)
 zJ:mg "take_graph"=some (.ref t.dZ)
 j4:mg "least_through_bonds"=some (.ref t.bD)
 kC:mg "least_through_bond"=some (.ref t.b7)
 j5:mg "least_through_atoms"=some (.ref t.br)
 vS:mg "order_bit"=some (.ref t.fH)
 zK:mg "order_sums"=some (.ref t.fj)
 qp:mg "redrawn_orders"=some (.ref t.c6)
 tU:mg "states_behind"=some (.ref t.cH)
 sI:mg "less_order"=some (.ref t.fk)
 nh:mg "bonds_behind"=some (.ref t.dO)
 sJ:mg "can_be_met"=some (.ref t.fm)
 vU:mg "pair_numbers"=some (.ref t.cZ)
 tV:mg "read_molecule"=some (.ref t.dj)
 Cw:mg "take_atom"=some (.ref t.eF)
 Cy:mg "take_bond"=some (.ref t.eG)
 tW:mg "may_have_hand"=some (.ref t.dw)
 tX:mg "may_have_side"=some (.ref t.dz)
 jW:mg "end_takes_side"=some (.ref t.cJ)
 M9:mg "least"=some (.ref t.iK)
 vV:mg "fault_answer"=some (.ref t.dP)
 zL:mg "row_answer"=some (.ref t.fq)
 Ho:mg "Graph"=some (.ref t.bU)
 Dz:GD K t.bU
 MA:Mk K t.bU t.cz
 CI:Meth K t.bU "besides" t.bG
 i6:bW K t.bU "atoms"
 i7:bW K t.bU "bonds"
 fK:bW K t.bU "neighbours"
 vW:mg "FormFault"=some (.ref t.aF)
 fu:N5 K t.aF t.c5 ["__getattribute__","__getattr__","__setattr__","which","rule","place"]
 JK:mg "Reader"=some (.ref t.aA)
 aK:GD K t.aA
 JL:Mk K t.aA t.dM
 dR:Meth K t.aA "fault" t.cY
 gF:Meth K t.aA "take_number" t.b6
 aN:Meth K t.aA "take_between" t.bq
 xA:Meth K t.aA "take_range" t.bS
 ni:Meth K t.aA "take_mark" t.bL
 lU:Meth K t.aA "take_atoms" t.b4
 nj:Meth K t.aA "take_pair" t.bM
 lV:Meth K t.aA "take_bonds" t.b5
 oA:Meth K t.aA "take_end" t.bV
 eK:bW K t.aA "form"
 gG:bW K t.aA "which"
 b8:bW K t.aA "place"
 cK:bW K t.aA "hand_places"
 cM:bW K t.aA "side_places"
 Pp:mg "Atom"=some (.ref t.cW)
 sL:GD K t.cW
 Pq:Mk K t.cW t.eZ
 iM:bW K t.cW "element"
 iN:bW K t.cW "isotope"
 ku:bW K t.cW "charge"
 eN:bW K t.cW "hydrogens"
 kD:bW K t.cW "hand"
 Pu:mg "Bond"=some (.ref t.cX)
 eW:GD K t.cX
 Pw:Mk K t.cX t.fh
 fY:bW K t.cX "a"
 fZ:bW K t.cX "b"
 gY:bW K t.cX "order"
 kE:bW K t.cX "side"
 Ef:mg "Molecule"=some (.ref t.aJ)
 bI:GD K t.aJ
 Eg:Mk K t.aJ t.cG
 uO:Meth K t.aJ "row_around" t.bC
 nZ:Meth K t.aJ "orders_between" t.aY
 nt:Meth K t.aJ "besides" t.bG
 cO:bW K t.aJ "atoms"
 d8:bW K t.aJ "bonds"
 bE:bW K t.aJ "neighbours"
 gb:bW K t.aJ "sums"
 fz:bW K t.aJ "orders"
 cP:bW K t.aJ "bond_numbers"
 zM:T4 K t.bU "__init__" t.cz
 zN:∃ tk,mg "WRONG_MARK"=some (.int (1) tk)
 tY:∃ tk,mg "OUT_OF_BOUNDS"=some (.int (2) tk)
 zO:∃ tk,mg "NOT_BEHIND"=some (.int (3) tk)
 qt:∃ tk,mg "HAND_MISPLACED"=some (.int (4) tk)
 zP:∃ tk,mg "ENDS_EARLY"=some (.int (5) tk)
 qu:∃ tk,mg "SIDE_MISPLACED"=some (.int (6) tk)
 Cz:∃ tk,mg "LEFT_OVER"=some (.int (7) tk)
 zQ:∃ tk,mg "MOST_ATOMS"=some (.int (128) tk)
 zR:∃ tk,mg "MOST_BONDS"=some (.int (192) tk)
 vX:∃ tk,mg "MOST_ELEMENT"=some (.int (118) tk)
 xV:∃ tk,mg "MOST_CHARGE"=some (.int (8) tk)
 qw:∃ tk,mg "MOST_HYDROGENS"=some (.int (7) tk)
 BA:∃ tk,mg "NO_RING"=some (.int (0) tk)
 pN:∃ tk,mg "LEAST_ORDER"=some (.int (1) tk)
 jX:∃ tk,mg "GREATEST_ORDER"=some (.int (3) tk)
 vY:∃ tk,mg "MOST_ISOTOPE"=some (.int (500) tk)
 C0:∃ tk,mg "MOST_HAND"=some (.int (2) tk)
 C1:∃ tk,mg "MOST_SIDE"=some (.int (2) tk)
 Eh:∃ tk,mg "ANSWERED"=some (.int (0) tk)
 xW:∃ tk,mg "FAULTY_FORM"=some (.int (-5) tk)
 zS:∃ tk,mg "FIRST_FORM"=some (.int (0) tk)
 Ei:mg "ORDERS"=some (.ref t.fX)
 vZ:∀ H,rS K H t.fX [.int 1,.int 2,.int 3]
 Px:mg "MARK"=some (.ref t.vH)
 Py:∀ H,rS K H t.vH [.int 70,.int 75,.int 77,.int 49]
 oB:mg "enumerate"=none
 nv:mg "len"=none
 Pz:mg "list"=none
 T5:mg "min"=none
 oE:mg "range"=none
 Hq:mg "tuple"=none
theorem ze {α:Type} {P:List α->Prop} (h:∀ a0,P [a0]) (us:List α) (hl:us.length=1):P us:=match us,hl with | [a0],_=>h a0
theorem BB {α:Type} {P:List α->Prop} (h:∀ a0 a1,P [a0,a1]) (us:List α) (hl:us.length=2):P us:=match us,hl with | [a0,a1],_=>h a0 a1
theorem BC {α:Type} {P:List α->Prop} (h:∀ a0 a1 a2,P [a0,a1,a2]) (us:List α) (hl:us.length=3):P us:=match us,hl with | [a0,a1,a2],_=>h a0 a1 a2
theorem P0 {α:Type} {P:List α->Prop} (h:∀ a0 a1 a2 a3,P [a0,a1,a2,a3]) (us:List α) (hl:us.length=4):P us:=match us,hl with | [a0,a1,a2,a3],_=>h a0 a1 a2 a3
theorem YI {α:Type} {P:List α->Prop} (h:∀ a0 a1 a2 a3 a4 a5,P [a0,a1,a2,a3,a4,a5]) (us:List α) (hl:us.length=6):P us:=match us,hl with | [a0,a1,a2,a3,a4,a5],_=>h a0 a1 a2 a3 a4 a5
open PySem.W in
set_option maxHeartbeats 4000000 in
theorem UL {K:PySem.W.Frag} {h:Heap} {mg:Str->Option Value} (X:K.In h) (G:h.Ns mainGlobals mg)
   {bU aF aA cW cX aJ cz bG c5 dM cY b6 bq bS bL b4 bM b5 bV eZ fh cG bC aY rZ cI dZ bD b7 br fH fj c6 cH fk dO fm cZ dj eF eG dw dz cJ iK dP fq fX vH:Addr}
   {Hr JN:Str} {eL:Addr} {Hs EO:List Value} {Ht:List Str} {Hu:Bool} {ER:Option Bool} {Hv Hw:Option Addr} {Hy Hz HA HB HC:Option Value} {HD:Value} {xX:Array DictEntry} {HE:Nat} {ES:Array (Option Value)}
   {ET:Tok}
   {BD:Tok}
   {EU:Tok}
   {zU:Tok}
   {EV:Tok}
   {zV:Tok}
   {HF:Tok}
   {EW:Tok}
   {EY:Tok}
   {CJ:Tok}
   {Ej:Tok}
   {zW:Tok}
   {LI:Tok}
   {Ek:Tok}
   {zX:Tok}
   {CK:Tok}
   {HG:Tok}
   {HH:Tok}
   {JO:Tok}
   {El:Tok}
   {EZ:Tok}
   {N8:Option Addr} {N9:Nat} {LJ:Array (Option Value)} {NB NC ND:Tok}
   {RK:Option Addr} {RL:Nat} {PB:Array (Option Value)} {RM RN RO RP:Tok}
   {Fb xY xZ yc pO yd BE qx qy qz jY qA zY oF oG oH iO oJ Em wc wg wj ny wk CL tZ ua uc lI ud uP j6 j7 j8 gq j9 sM iP iQ iR fL iS wm kF kG kH gH kJ xB lW lX lZ ir mh wo kK kL kM gI kN xC mi mj mq iu mr wu kO kP kQ gJ kR zf n6 n8 nA iE nB HJ zZ Aa Ab sN Ac HK Ae Af Ag sO Ah BF qB qC qD jZ qE sP iT iU iV fM iW nE gK gM gO eO gP PD JP JQ JR En JS Ai oK oM oN iX oO Fc ye yf yg pP yh sQ iY iZ ja fN jb uQ jA jB jC gr jD sR jc jd je fO jf HL Aj Ak Al sS Am Fd yi yj yk pQ ym An oQ oR oS jg oU BG qF qG qH kg qI Fe yo yp yq pR yr CM ue uf ug lJ uh Ff yt yu yw pS yx CN um uo uq lK ur BH qJ qK qL kh qM HM Ao Aq As sU Au HN Av Aw Ax sV Ay BI qN qO qP ki qQ BJ qR qS qT kj qU Az oV oW oX jh oY PF JT JU JV Eo JW CO uu uv ux lM uy Fg yy y9 yC pU yD:Value} {Fi yE BK qV A0 oZ Ep wz CP uz uR jE sW ji w6 kT xD mw w9 kU xE mz wA kW zg nF HP A1 HQ A2 BL qW sX jj nG gQ PJ JX A3 ph Fj yF sY jk uS jF sZ jl HR A4 Fl yG A5 p5 BN qX Fo yH CQ u0 Fp yI CS u4 BO qY HS A6 HU A7 BP qZ BQ rf A8 p6 PL JY CT u5 Fq yJ:Option Addr} {Ft BR A9 Es CU uT tu wB xF wC xG wD zh HV HW BS tw nI PM AA Fv t6 uU t7 HX Fw AB BU Fx CV Fy CW BV HZ Ia BW BX AD PN CY Fz:Array (Option Value)}
   (RQ:nsIn K mainGlobals "Graph"=some (some (.ref bU)))
   (PR:plainGet K bU Str.empty=true)
   (PU:hasDictIn K bU=true)
   (PV:plainOver K bU=true)
   (PX:findIn K (.ref bU) "__setattr__"=some (some (.builtin "object.__setattr__")))
   (Ib:findIn K (.ref bU) "__init__"=some (some (.ref cz)))
   (Ic:isFn K (.ref cz)=true)
   (CZ:findIn K (.ref bU) "besides"=some (some (.ref bG)))
   (u6:isFn K (.ref bG)=true)
   (PY:makesIn K bU=true)
   (PZ:keepIn K (.ref bU)=true)
   (i6:findIn K (.ref bU) "atoms"=some none)
   (i7:findIn K (.ref bU) "bonds"=some none)
   (fK:findIn K (.ref bU) "neighbours"=some none)
   (JZ:nsIn K mainGlobals "FormFault"=some (some (.ref aF)))
   (Ka:K.lookup aF=some (excClassObj Hr JN aF eL Hs XL.eY true Ht EO Hu ER Hv Hy Hz HA HB HC "Exception.__new__"))
   (Ie:K.lookup eL=some ⟨HD,Hw,.dict xX HE,ES⟩)
   (Ig:nsIn K eL "__init__"=some (some (.ref c5)))
   (Ih:isFn K (.ref c5)=true)
   (Ii:keepIn K (.ref aF)=true)
   (Ij:findIn K (.ref aF) "__setattr__"=some (some (.builtin "object.__setattr__")))
   (oh:nsIn K eL "__getattribute__"=some none)
   (wG:nsIn K eL "__getattr__"=some none)
   (wH:nsIn K eL "__setattr__"=some none)
   (zj:nsIn K eL "which"=some none)
   (AE:nsIn K eL "rule"=some none)
   (zk:nsIn K eL "place"=some none)
   (Qa:nsIn K mainGlobals "Reader"=some (some (.ref aA)))
   (NF:plainGet K aA Str.empty=true)
   (NG:hasDictIn K aA=true)
   (NH:plainOver K aA=true)
   (NI:findIn K (.ref aA) "__setattr__"=some (some (.builtin "object.__setattr__")))
   (F0:findIn K (.ref aA) "__init__"=some (some (.ref dM)))
   (F9:isFn K (.ref dM)=true)
   (Et:findIn K (.ref aA) "fault"=some (some (.ref cY)))
   (Eu:isFn K (.ref cY)=true)
   (wI:findIn K (.ref aA) "take_number"=some (some (.ref b6)))
   (wJ:isFn K (.ref b6)=true)
   (uV:findIn K (.ref aA) "take_between"=some (some (.ref bq)))
   (uW:isFn K (.ref bq)=true)
   (xH:findIn K (.ref aA) "take_range"=some (some (.ref bS)))
   (xJ:isFn K (.ref bS)=true)
   (zm:findIn K (.ref aA) "take_mark"=some (some (.ref bL)))
   (zo:isFn K (.ref bL)=true)
   (xK:findIn K (.ref aA) "take_atoms"=some (some (.ref b4)))
   (xM:isFn K (.ref b4)=true)
   (zp:findIn K (.ref aA) "take_pair"=some (some (.ref bM)))
   (zq:isFn K (.ref bM)=true)
   (xN:findIn K (.ref aA) "take_bonds"=some (some (.ref b5)))
   (xO:isFn K (.ref b5)=true)
   (AF:findIn K (.ref aA) "take_end"=some (some (.ref bV)))
   (AG:isFn K (.ref bV)=true)
   (NJ:makesIn K aA=true)
   (NK:keepIn K (.ref aA)=true)
   (eK:findIn K (.ref aA) "form"=some none)
   (gG:findIn K (.ref aA) "which"=some none)
   (b8:findIn K (.ref aA) "place"=some none)
   (cK:findIn K (.ref aA) "hand_places"=some none)
   (cM:findIn K (.ref aA) "side_places"=some none)
   (UM:nsIn K mainGlobals "Atom"=some (some (.ref cW)))
   (RT:plainGet K cW Str.empty=true)
   (RU:hasDictIn K cW=true)
   (RV:plainOver K cW=true)
   (RW:findIn K (.ref cW) "__setattr__"=some (some (.builtin "object.__setattr__")))
   (Kc:findIn K (.ref cW) "__init__"=some (some (.ref eZ)))
   (Kd:isFn K (.ref eZ)=true)
   (RX:makesIn K cW=true)
   (RY:keepIn K (.ref cW)=true)
   (iM:findIn K (.ref cW) "element"=some none)
   (iN:findIn K (.ref cW) "isotope"=some none)
   (ku:findIn K (.ref cW) "charge"=some none)
   (eN:findIn K (.ref cW) "hydrogens"=some none)
   (kD:findIn K (.ref cW) "hand"=some none)
   (UN:nsIn K mainGlobals "Bond"=some (some (.ref cX)))
   (RZ:plainGet K cX Str.empty=true)
   (Sa:hasDictIn K cX=true)
   (Sb:plainOver K cX=true)
   (Sd:findIn K (.ref cX) "__setattr__"=some (some (.builtin "object.__setattr__")))
   (Ke:findIn K (.ref cX) "__init__"=some (some (.ref fh)))
   (Kf:isFn K (.ref fh)=true)
   (Se:makesIn K cX=true)
   (Sf:keepIn K (.ref cX)=true)
   (fY:findIn K (.ref cX) "a"=some none)
   (fZ:findIn K (.ref cX) "b"=some none)
   (gY:findIn K (.ref cX) "order"=some none)
   (kE:findIn K (.ref cX) "side"=some none)
   (LK:nsIn K mainGlobals "Molecule"=some (some (.ref aJ)))
   (Kg:plainGet K aJ Str.empty=true)
   (Kh:hasDictIn K aJ=true)
   (Kl:plainOver K aJ=true)
   (Km:findIn K (.ref aJ) "__setattr__"=some (some (.builtin "object.__setattr__")))
   (Dc:findIn K (.ref aJ) "__init__"=some (some (.ref cG)))
   (Dd:isFn K (.ref cG)=true)
   (uX:findIn K (.ref aJ) "row_around"=some (some (.ref bC)))
   (uY:isFn K (.ref bC)=true)
   (oj:findIn K (.ref aJ) "orders_between"=some (some (.ref aY)))
   (om:isFn K (.ref aY)=true)
   (Kn:makesIn K aJ=true)
   (Ko:keepIn K (.ref aJ)=true)
   (zu:findIn K (.ref aJ) "besides"=some (some (.ref bG)))
   (cO:findIn K (.ref aJ) "atoms"=some none)
   (d8:findIn K (.ref aJ) "bonds"=some none)
   (bE:findIn K (.ref aJ) "neighbours"=some none)
   (gb:findIn K (.ref aJ) "sums"=some none)
   (fz:findIn K (.ref aJ) "orders"=some none)
   (cP:findIn K (.ref aJ) "bond_numbers"=some none)
   (FD:specialIn K (.ref bU) "__getattribute__"=some (some (.builtin "type.__getattribute__")))
   (FE:readsIn K bU (.type "type")=true)
   (FF:findCls K (.ref bU) (.type "type") "__init__"=some (.val (.ref cz)))
   (Sg:nsIn K mainGlobals "_wall"=some (some (.ref rZ)))
   (BZ:nsIn K mainGlobals "neighbour_rows"=some (some (.ref cI)))
   (Ik:nsIn K mainGlobals "take_graph"=some (some (.ref dZ)))
   (uZ:nsIn K mainGlobals "least_through_bonds"=some (some (.ref bD)))
   (wK:nsIn K mainGlobals "least_through_bond"=some (some (.ref b7)))
   (vc:nsIn K mainGlobals "least_through_atoms"=some (some (.ref br)))
   (Kp:nsIn K mainGlobals "order_bit"=some (some (.ref fH)))
   (Il:nsIn K mainGlobals "order_sums"=some (some (.ref fj)))
   (Ca:nsIn K mainGlobals "redrawn_orders"=some (some (.ref c6)))
   (De:nsIn K mainGlobals "states_behind"=some (some (.ref cH)))
   (Im:nsIn K mainGlobals "less_order"=some (some (.ref fk)))
   (Ew:nsIn K mainGlobals "bonds_behind"=some (some (.ref dO)))
   (Io:nsIn K mainGlobals "can_be_met"=some (some (.ref fm)))
   (Ex:nsIn K mainGlobals "pair_numbers"=some (some (.ref cZ)))
   (Df:nsIn K mainGlobals "read_molecule"=some (some (.ref dj)))
   (Kq:nsIn K mainGlobals "take_atom"=some (some (.ref eF)))
   (Kr:nsIn K mainGlobals "take_bond"=some (some (.ref eG)))
   (Dg:nsIn K mainGlobals "may_have_hand"=some (some (.ref dw)))
   (Dh:nsIn K mainGlobals "may_have_side"=some (some (.ref dz)))
   (Cb:nsIn K mainGlobals "end_takes_side"=some (some (.ref cJ)))
   (Sh:nsIn K mainGlobals "least"=some (some (.ref iK)))
   (Ey:nsIn K mainGlobals "fault_answer"=some (some (.ref dP)))
   (Ip:nsIn K mainGlobals "row_answer"=some (some (.ref fq)))
   (AH:K.lookup cz=some ⟨Fb,Fi,.func (fnOf "__init__" "Graph.__init__" (aE dB) (aB dB) (ak dB) .none xY xZ yc yE pO yd),Ft⟩)
   (yK:codeIn K pO "Graph.__init__"=true)
   (pV:keepIn K (.ref cz)=true)
   (u7:K.lookup bG=some ⟨BE,BK,.func (fnOf "besides" "Graph.besides" (aE bY) (aB bY) (ak bY) .none qx qy qz qV jY qA),BR⟩)
   (rg:codeIn K jY "Graph.besides"=true)
   (gZ:keepIn K (.ref bG)=true)
   (rj:K.lookup c5=some ⟨zY,A0,.func (fnOf "__init__" "FormFault.__init__" (aE bP) (aB bP) (ak bP) .none oF oG oH oZ iO oJ),A9⟩)
   (p7:codeIn K iO "FormFault.__init__"=true)
   (p8:keepIn K (.ref c5)=true)
   (yL:K.lookup dM=some ⟨Em,Ep,.func (fnOf "__init__" "Reader.__init__" (aE cR) (aB cR) (ak cR) .none wc wg wj wz ny wk),Es⟩)
   (wL:codeIn K ny "Reader.__init__"=true)
   (wM:keepIn K (.ref dM)=true)
   (wN:K.lookup cY=some ⟨CL,CP,.func (fnOf "fault" "Reader.fault" (aE c9) (aB c9) (ak c9) .none tZ ua uc uz lI ud),CU⟩)
   (u9:codeIn K lI "Reader.fault"=true)
   (lN:keepIn K (.ref cY)=true)
   (kX:K.lookup b6=some ⟨uP,uR,.func (fnOf "take_number" "Reader.take_number" (aE bg) (aB bg) (ak bg) .none j6 j7 j8 jE gq j9),uT⟩)
   (jG:codeIn K gq "Reader.take_number"=true)
   (gu:keepIn K (.ref b6)=true)
   (jH:K.lookup bq=some ⟨sM,sW,.func (fnOf "take_between" "Reader.take_between" (aE aW) (aB aW) (ak aW) .none iP iQ iR ji fL iS),tu⟩)
   (jm:codeIn K fL "Reader.take_between"=true)
   (fP:keepIn K (.ref bq)=true)
   (m5:K.lookup bS=some ⟨wm,w6,.func (fnOf "take_range" "Reader.take_range" (aE bF) (aB bF) (ak bF) .none kF kG kH kT gH kJ),wB⟩)
   (kY:codeIn K gH "Reader.take_range"=true)
   (gR:keepIn K (.ref bS)=true)
   (nJ:K.lookup bL=some ⟨xB,xD,.func (fnOf "take_mark" "Reader.take_mark" (aE b9) (aB b9) (ak b9) .none lW lX lZ mw ir mh),xF⟩)
   (m6:codeIn K ir "Reader.take_mark"=true)
   (iw:keepIn K (.ref bL)=true)
   (m7:K.lookup b4=some ⟨wo,w9,.func (fnOf "take_atoms" "Reader.take_atoms" (aE bx) (aB bx) (ak bx) .none kK kL kM kU gI kN),wC⟩)
   (kZ:codeIn K gI "Reader.take_atoms"=true)
   (gS:keepIn K (.ref b4)=true)
   (nL:K.lookup bM=some ⟨xC,xE,.func (fnOf "take_pair" "Reader.take_pair" (aE bA) (aB bA) (ak bA) .none mi mj mq mz iu mr),xG⟩)
   (m8:codeIn K iu "Reader.take_pair"=true)
   (iy:keepIn K (.ref bM)=true)
   (mC:K.lookup b5=some ⟨wu,wA,.func (fnOf "take_bonds" "Reader.take_bonds" (aE bz) (aB bz) (ak bz) .none kO kP kQ kW gJ kR),wD⟩)
   (lg:codeIn K gJ "Reader.take_bonds"=true)
   (gT:keepIn K (.ref b5)=true)
   (p9:K.lookup bV=some ⟨zf,zg,.func (fnOf "take_end" "Reader.take_end" (aE bJ) (aB bJ) (ak bJ) .none n6 n8 nA nF iE nB),zh⟩)
   (nM:codeIn K iE "Reader.take_end"=true)
   (iF:keepIn K (.ref bV)=true)
   (C3:K.lookup eZ=some ⟨HJ,HP,.func (fnOf "__init__" "Atom.__init__" (aE eu) (aB eu) (ak eu) .none zZ Aa Ab A1 sN Ac),HV⟩)
   (AI:codeIn K sN "Atom.__init__"=true)
   (AJ:keepIn K (.ref eZ)=true)
   (C4:K.lookup fh=some ⟨HK,HQ,.func (fnOf "__init__" "Bond.__init__" (aE e7) (aB e7) (ak e7) .none Ae Af Ag A2 sO Ah),HW⟩)
   (AK:codeIn K sO "Bond.__init__"=true)
   (AL:keepIn K (.ref fh)=true)
   (uA:K.lookup cG=some ⟨BF,BL,.func (fnOf "__init__" "Molecule.__init__" (aE bZ) (aB bZ) (ak bZ) .none qB qC qD qW jZ qE),BS⟩)
   (rm:codeIn K jZ "Molecule.__init__"=true)
   (rq:keepIn K (.ref cG)=true)
   (jI:K.lookup bC=some ⟨sP,sX,.func (fnOf "row_around" "Molecule.row_around" (aE bh) (aB bh) (ak bh) .none iT iU iV jj fM iW),tw⟩)
   (jn:codeIn K fM "Molecule.row_around"=true)
   (fQ:keepIn K (.ref bC)=true)
   (ic:K.lookup aY=some ⟨nE,nG,.func (fnOf "orders_between" "Molecule.orders_between" (aE aQ) (aB aQ) (ak aQ) .none gK gM gO gQ eO gP),nI⟩)
   (gU:codeIn K eO "Molecule.orders_between"=true)
   (eS:keepIn K (.ref aY)=true)
   (MB:K.lookup rZ=some ⟨PD,PJ,.func (fnOf "_wall" "_wall" (aE mE) (aB mE) (ak mE) .none JP JQ JR JX En JS),PM⟩)
   (Ks:codeIn K En "_wall"=true)
   (Ku:keepIn K (.ref rZ)=true)
   (r6:K.lookup cI=some ⟨Ai,A3,.func (fnOf "neighbour_rows" "neighbour_rows" (aE bQ) (aB bQ) (ak bQ) .none oK oM oN ph iX oO),AA⟩)
   (pA:codeIn K iX "neighbour_rows"=true)
   (pB:keepIn K (.ref cI)=true)
   (AM:K.lookup dZ=some ⟨Fc,Fj,.func (fnOf "take_graph" "take_graph" (aE dF) (aB dF) (ak dF) .none ye yf yg yF pP yh),Fv⟩)
   (yM:codeIn K pP "take_graph"=true)
   (yN:keepIn K (.ref dZ)=true)
   (jJ:K.lookup bD=some ⟨sQ,sY,.func (fnOf "least_through_bonds" "least_through_bonds" (aE aX) (aB aX) (ak aX) .none iY iZ ja jk fN jb),t6⟩)
   (jq:codeIn K fN "least_through_bonds"=true)
   (jr:keepIn K (.ref bD)=true)
   (lu:K.lookup b7=some ⟨uQ,uS,.func (fnOf "least_through_bond" "least_through_bond" (aE aV) (aB aV) (ak aV) .none jA jB jC jF gr jD),uU⟩)
   (jK:codeIn K gr "least_through_bond"=true)
   (jL:keepIn K (.ref b7)=true)
   (jM:K.lookup br=some ⟨sR,sZ,.func (fnOf "least_through_atoms" "least_through_atoms" (aE aR) (aB aR) (ak aR) .none jc jd je jl fO jf),t7⟩)
   (jt:codeIn K fO "least_through_atoms"=true)
   (jv:keepIn K (.ref br)=true)
   (C5:K.lookup fH=some ⟨HL,HR,.func (fnOf "order_bit" "order_bit" (aE e9) (aB e9) (ak e9) .none Aj Ak Al A4 sS Am),HX⟩)
   (AO:codeIn K sS "order_bit"=true)
   (AQ:keepIn K (.ref fH)=true)
   (AR:K.lookup fj=some ⟨Fd,Fl,.func (fnOf "order_sums" "order_sums" (aE dG) (aB dG) (ak dG) .none yi yj yk yG pQ ym),Fw⟩)
   (yO:codeIn K pQ "order_sums"=true)
   (yP:keepIn K (.ref fj)=true)
   (r8:K.lookup c6=some ⟨An,A5,.func (fnOf "redrawn_orders" "redrawn_orders" (aE bH) (aB bH) (ak bH) .none oQ oR oS p5 jg oU),AB⟩)
   (pC:codeIn K jg "redrawn_orders"=true)
   (pF:keepIn K (.ref c6)=true)
   (uB:K.lookup cH=some ⟨BG,BN,.func (fnOf "states_behind" "states_behind" (aE bN) (aB bN) (ak bN) .none qF qG qH qX kg qI),BU⟩)
   (r9:codeIn K kg "states_behind"=true)
   (rC:keepIn K (.ref cH)=true)
   (AU:K.lookup fk=some ⟨Fe,Fo,.func (fnOf "less_order" "less_order" (aE dH) (aB dH) (ak dH) .none yo yp yq yH pR yr),Fx⟩)
   (yQ:codeIn K pR "less_order"=true)
   (yR:keepIn K (.ref fk)=true)
   (wO:K.lookup dO=some ⟨CM,CQ,.func (fnOf "bonds_behind" "bonds_behind" (aE cA) (aB cA) (ak cA) .none ue uf ug u0 lJ uh),CV⟩)
   (uC:codeIn K lJ "bonds_behind"=true)
   (uD:keepIn K (.ref dO)=true)
   (AV:K.lookup fm=some ⟨Ff,Fp,.func (fnOf "can_be_met" "can_be_met" (aE dI) (aB dI) (ak dI) .none yt yu yw yI pS yx),Fy⟩)
   (yS:codeIn K pS "can_be_met"=true)
   (yT:keepIn K (.ref fm)=true)
   (wQ:K.lookup cZ=some ⟨CN,CS,.func (fnOf "pair_numbers" "pair_numbers" (aE bX) (aB bX) (ak bX) .none um uo uq u4 lK ur),CW⟩)
   (uE:codeIn K lK "pair_numbers"=true)
   (uF:keepIn K (.ref cZ)=true)
   (uG:K.lookup dj=some ⟨BH,BO,.func (fnOf "read_molecule" "read_molecule" (aE cg) (aB cg) (ak cg) .none qJ qK qL qY kh qM),BV⟩)
   (rD:codeIn K kh "read_molecule"=true)
   (rE:keepIn K (.ref dj)=true)
   (C6:K.lookup eF=some ⟨HM,HS,.func (fnOf "take_atom" "take_atom" (aE eB) (aB eB) (ak eB) .none Ao Aq As A6 sU Au),HZ⟩)
   (AW:codeIn K sU "take_atom"=true)
   (AX:keepIn K (.ref eF)=true)
   (C7:K.lookup eG=some ⟨HN,HU,.func (fnOf "take_bond" "take_bond" (aE eE) (aB eE) (ak eE) .none Av Aw Ax A7 sV Ay),Ia⟩)
   (AY:codeIn K sV "take_bond"=true)
   (AZ:keepIn K (.ref eG)=true)
   (uH:K.lookup dw=some ⟨BI,BP,.func (fnOf "may_have_hand" "may_have_hand" (aE cj) (aB cj) (ak cj) .none qN qO qP qZ ki qQ),BW⟩)
   (rF:codeIn K ki "may_have_hand"=true)
   (rG:keepIn K (.ref dw)=true)
   (uI:K.lookup dz=some ⟨BJ,BQ,.func (fnOf "may_have_side" "may_have_side" (aE ck) (aB ck) (ak ck) .none qR qS qT rf kj qU),BX⟩)
   (rH:codeIn K kj "may_have_side"=true)
   (rJ:keepIn K (.ref dz)=true)
   (rK:K.lookup cJ=some ⟨Az,A8,.func (fnOf "end_takes_side" "end_takes_side" (aE bR) (aB bR) (ak bR) .none oV oW oX p6 jh oY),AD⟩)
   (pG:codeIn K jh "end_takes_side"=true)
   (pH:keepIn K (.ref cJ)=true)
   (MC:K.lookup iK=some ⟨PF,PL,.func (fnOf "least" "least" (aE kr) (aB kr) (ak kr) .none JT JU JV JY Eo JW),PN⟩)
   (Kv:codeIn K Eo "least"=true)
   (Kw:keepIn K (.ref iK)=true)
   (wR:K.lookup dP=some ⟨CO,CT,.func (fnOf "fault_answer" "fault_answer" (aE cB) (aB cB) (ak cB) .none uu uv ux u5 lM uy),CY⟩)
   (uJ:codeIn K lM "fault_answer"=true)
   (uK:keepIn K (.ref dP)=true)
   (Ba:K.lookup fq=some ⟨Fg,Fq,.func (fnOf "row_answer" "row_answer" (aE dJ) (aB dJ) (ak dJ) .none yy y9 yC yJ pU yD),Fz⟩)
   (yU:codeIn K pU "row_answer"=true)
   (yV:keepIn K (.ref fq)=true)
   (Iq:nsIn K mainGlobals "WRONG_MARK"=some (some (.int (1) ET)))
   (Di:nsIn K mainGlobals "OUT_OF_BOUNDS"=some (some (.int (2) BD)))
   (Ir:nsIn K mainGlobals "NOT_BEHIND"=some (some (.int (3) EU)))
   (Cc:nsIn K mainGlobals "HAND_MISPLACED"=some (some (.int (4) zU)))
   (Iu:nsIn K mainGlobals "ENDS_EARLY"=some (some (.int (5) EV)))
   (Cd:nsIn K mainGlobals "SIDE_MISPLACED"=some (some (.int (6) zV)))
   (Kx:nsIn K mainGlobals "LEFT_OVER"=some (some (.int (7) HF)))
   (Iv:nsIn K mainGlobals "MOST_ATOMS"=some (some (.int (128) EW)))
   (Iw:nsIn K mainGlobals "MOST_BONDS"=some (some (.int (192) EY)))
   (Ez:nsIn K mainGlobals "MOST_ELEMENT"=some (some (.int (118) CJ)))
   (FG:nsIn K mainGlobals "MOST_CHARGE"=some (some (.int (8) Ej)))
   (Ce:nsIn K mainGlobals "MOST_HYDROGENS"=some (some (.int (7) zW)))
   (NL:nsIn K mainGlobals "NO_RING"=some (some (.int (0) LI)))
   (FH:nsIn K mainGlobals "LEAST_ORDER"=some (some (.int (1) Ek)))
   (Cf:nsIn K mainGlobals "GREATEST_ORDER"=some (some (.int (3) zX)))
   (E2:nsIn K mainGlobals "MOST_ISOTOPE"=some (some (.int (500) CK)))
   (Ky:nsIn K mainGlobals "MOST_HAND"=some (some (.int (2) HG)))
   (Kz:nsIn K mainGlobals "MOST_SIDE"=some (some (.int (2) HH)))
   (LL:nsIn K mainGlobals "ANSWERED"=some (some (.int (0) JO)))
   (FI:nsIn K mainGlobals "FAULTY_FORM"=some (some (.int (-5) El)))
   (Iz:nsIn K mainGlobals "FIRST_FORM"=some (some (.int (0) EZ)))
   (Qc:nsIn K mainGlobals "ORDERS"=some (some (.ref fX)))
   (Qe:K.lookup fX=some ⟨.type "tuple",N8,.seq #[.int 1 NB,.int 2 NC,.int 3 ND] N9,LJ⟩)
   (UO:nsIn K mainGlobals "MARK"=some (some (.ref vH)))
   (UQ:K.lookup vH=some ⟨.type "tuple",RK,.seq #[.int 70 RM,.int 75 RN,.int 77 RO,.int 49 RP] RL,PB⟩)
   (K1:nsIn K mainGlobals "enumerate"=some none)
   (W9:nsIn K mainGlobals "len"=some none)
   (UR:nsIn K mainGlobals "list"=some none)
   (WA:nsIn K mainGlobals "min"=some none)
   (Si:nsIn K mainGlobals "range"=some none)
   (Sj:nsIn K mainGlobals "tuple"=some none)
   (t8:(xX.all fun e=>match e.key with | .str _ _=>true | _=>false)=true)
  :∃ t:Ad,t.iK=iK/\Txt K mg t:=by
 have E3:nsOkIn K eL=true:=by unfold nsOkIn;rw [Ie];exact t8
 refine ⟨⟨bU,aF,aA,cW,cX,aJ,cz,fnOf "__init__" "Graph.__init__" (aE dB) (aB dB) (ak dB) .none xY xZ yc yE pO yd,bG,fnOf "besides" "Graph.besides" (aE bY) (aB bY) (ak bY) .none qx qy qz qV jY qA,c5,fnOf "__init__" "FormFault.__init__" (aE bP) (aB bP) (ak bP) .none oF oG oH oZ iO oJ,dM,fnOf "__init__" "Reader.__init__" (aE cR) (aB cR) (ak cR) .none wc wg wj wz ny wk,cY,fnOf "fault" "Reader.fault" (aE c9) (aB c9) (ak c9) .none tZ ua uc uz lI ud,b6,fnOf "take_number" "Reader.take_number" (aE bg) (aB bg) (ak bg) .none j6 j7 j8 jE gq j9,bq,fnOf "take_between" "Reader.take_between" (aE aW) (aB aW) (ak aW) .none iP iQ iR ji fL iS,bS,fnOf "take_range" "Reader.take_range" (aE bF) (aB bF) (ak bF) .none kF kG kH kT gH kJ,bL,fnOf "take_mark" "Reader.take_mark" (aE b9) (aB b9) (ak b9) .none lW lX lZ mw ir mh,b4,fnOf "take_atoms" "Reader.take_atoms" (aE bx) (aB bx) (ak bx) .none kK kL kM kU gI kN,bM,fnOf "take_pair" "Reader.take_pair" (aE bA) (aB bA) (ak bA) .none mi mj mq mz iu mr,b5,fnOf "take_bonds" "Reader.take_bonds" (aE bz) (aB bz) (ak bz) .none kO kP kQ kW gJ kR,bV,fnOf "take_end" "Reader.take_end" (aE bJ) (aB bJ) (ak bJ) .none n6 n8 nA nF iE nB,eZ,fnOf "__init__" "Atom.__init__" (aE eu) (aB eu) (ak eu) .none zZ Aa Ab A1 sN Ac,fh,fnOf "__init__" "Bond.__init__" (aE e7) (aB e7) (ak e7) .none Ae Af Ag A2 sO Ah,cG,fnOf "__init__" "Molecule.__init__" (aE bZ) (aB bZ) (ak bZ) .none qB qC qD qW jZ qE,bC,fnOf "row_around" "Molecule.row_around" (aE bh) (aB bh) (ak bh) .none iT iU iV jj fM iW,aY,fnOf "orders_between" "Molecule.orders_between" (aE aQ) (aB aQ) (ak aQ) .none gK gM gO gQ eO gP,rZ,fnOf "_wall" "_wall" (aE mE) (aB mE) (ak mE) .none JP JQ JR JX En JS,cI,fnOf "neighbour_rows" "neighbour_rows" (aE bQ) (aB bQ) (ak bQ) .none oK oM oN ph iX oO,dZ,fnOf "take_graph" "take_graph" (aE dF) (aB dF) (ak dF) .none ye yf yg yF pP yh,bD,fnOf "least_through_bonds" "least_through_bonds" (aE aX) (aB aX) (ak aX) .none iY iZ ja jk fN jb,b7,fnOf "least_through_bond" "least_through_bond" (aE aV) (aB aV) (ak aV) .none jA jB jC jF gr jD,br,fnOf "least_through_atoms" "least_through_atoms" (aE aR) (aB aR) (ak aR) .none jc jd je jl fO jf,fH,fnOf "order_bit" "order_bit" (aE e9) (aB e9) (ak e9) .none Aj Ak Al A4 sS Am,fj,fnOf "order_sums" "order_sums" (aE dG) (aB dG) (ak dG) .none yi yj yk yG pQ ym,c6,fnOf "redrawn_orders" "redrawn_orders" (aE bH) (aB bH) (ak bH) .none oQ oR oS p5 jg oU,cH,fnOf "states_behind" "states_behind" (aE bN) (aB bN) (ak bN) .none qF qG qH qX kg qI,fk,fnOf "less_order" "less_order" (aE dH) (aB dH) (ak dH) .none yo yp yq yH pR yr,dO,fnOf "bonds_behind" "bonds_behind" (aE cA) (aB cA) (ak cA) .none ue uf ug u0 lJ uh,fm,fnOf "can_be_met" "can_be_met" (aE dI) (aB dI) (ak dI) .none yt yu yw yI pS yx,cZ,fnOf "pair_numbers" "pair_numbers" (aE bX) (aB bX) (ak bX) .none um uo uq u4 lK ur,dj,fnOf "read_molecule" "read_molecule" (aE cg) (aB cg) (ak cg) .none qJ qK qL qY kh qM,eF,fnOf "take_atom" "take_atom" (aE eB) (aB eB) (ak eB) .none Ao Aq As A6 sU Au,eG,fnOf "take_bond" "take_bond" (aE eE) (aB eE) (ak eE) .none Av Aw Ax A7 sV Ay,dw,fnOf "may_have_hand" "may_have_hand" (aE cj) (aB cj) (ak cj) .none qN qO qP qZ ki qQ,dz,fnOf "may_have_side" "may_have_side" (aE ck) (aB ck) (ak ck) .none qR qS qT rf kj qU,cJ,fnOf "end_takes_side" "end_takes_side" (aE bR) (aB bR) (ak bR) .none oV oW oX p6 jh oY,iK,fnOf "least" "least" (aE kr) (aB kr) (ak kr) .none JT JU JV JY Eo JW,dP,fnOf "fault_answer" "fault_answer" (aE cB) (aB cB) (ak cB) .none uu uv ux u5 lM uy,fq,fnOf "row_answer" "row_answer" (aE dJ) (aB dJ) (ak dJ) .none yy y9 yC yJ pU yD,fX,vH⟩,rfl,?_⟩
 exact {
   zF:=aI (st:=dB) AH yK pV,
   sA:=(aI (st:=dB) AH yK pV).binds (ps:=["self","atoms","bonds"]) fun _ _ _ _ _ _=>BC fun _ _ _=>rfl,
   tM:=aI (st:=bY) u7 rg gZ,
   tN:=(aI (st:=bY) u7 rg gZ).binds (ps:=["self","end","other"]) fun _ _ _ _ _ _=>BC fun _ _ _=>rfl,
   qi:=aI (st:=bP) rj p7 p8,
   qj:=(aI (st:=bP) rj p7 p8).binds (ps:=["self","which","rule","place"]) fun _ _ _ _ _ _=>P0 fun _ _ _ _=>rfl,
   xT:=aI (st:=cR) yL wL wM,
   xU:=(aI (st:=cR) yL wL wM).binds (ps:=["self","form","which"]) fun _ _ _ _ _ _=>BC fun _ _ _=>rfl,
   vJ:=aI (st:=c9) wN u9 lN,
   dQ:=(aI (st:=c9) wN u9 lN).binds (ps:=["self","rule","place"]) fun _ _ _ _ _ _=>BC fun _ _ _=>rfl,
   k8:=aI (st:=bg) kX jG gu,
   gD:=(aI (st:=bg) kX jG gu).binds (ps:=["self","size"]) fun _ _ _ _ _ _=>BB fun _ _=>rfl,
   jz:=aI (st:=aW) jH jm fP,
   aM:=(aI (st:=aW) jH jm fP).binds (ps:=["self","size","least","greatest"]) fun _ _ _ _ _ _=>P0 fun _ _ _ _=>rfl,
   x8:=aI (st:=bF) m5 kY gR,
   x9:=(aI (st:=bF) m5 kY gR).binds (ps:=["self","size","most"]) fun _ _ _ _ _ _=>BC fun _ _ _=>rfl,
   mU:=aI (st:=b9) nJ m6 iw,
   mV:=(aI (st:=b9) nJ m6 iw).binds (ps:=["self","mark"]) fun _ _ _ _ _ _=>BB fun _ _=>rfl,
   lQ:=aI (st:=bx) m7 kZ gS,
   lR:=(aI (st:=bx) m7 kZ gS).binds (ps:=["self","n","take_atom"]) fun _ _ _ _ _ _=>BC fun _ _ _=>rfl,
   mW:=aI (st:=bA) nL m8 iy,
   mX:=(aI (st:=bA) nL m8 iy).binds (ps:=["self","n","before"]) fun _ _ _ _ _ _=>BC fun _ _ _=>rfl,
   lS:=aI (st:=bz) mC lg gT,
   lT:=(aI (st:=bz) mC lg gT).binds (ps:=["self","n","m","take_bond"]) fun _ _ _ _ _ _=>P0 fun _ _ _ _=>rfl,
   o7:=aI (st:=bJ) p9 nM iF,
   o8:=(aI (st:=bJ) p9 nM iF).binds (ps:=["self"]) fun _ _ _ _ _ _=>ze fun _=>rfl,
   Cq:=aI (st:=eu) C3 AI AJ,
   Cr:=(aI (st:=eu) C3 AI AJ).binds (ps:=["self","element","isotope","charge","hydrogens","hand"]) fun _ _ _ _ _ _=>YI fun _ _ _ _ _ _=>rfl,
   Cs:=aI (st:=e7) C4 AK AL,
   Ct:=(aI (st:=e7) C4 AK AL).binds (ps:=["self","pair","order","side"]) fun _ _ _ _ _ _=>P0 fun _ _ _ _=>rfl,
   tO:=aI (st:=bZ) uA rm rq,
   tP:=(aI (st:=bZ) uA rm rq).binds (ps:=["self","atoms","bonds"]) fun _ _ _ _ _ _=>BC fun _ _ _=>rfl,
   uM:=aI (st:=bh) jI jn fQ,
   uN:=(aI (st:=bh) jI jn fQ).binds (ps:=["self","atom"]) fun _ _ _ _ _ _=>BB fun _ _=>rfl,
   nX:=aI (st:=aQ) ic gU eS,
   nY:=(aI (st:=aQ) ic gU eS).binds (ps:=["self","atom","other"]) fun _ _ _ _ _ _=>BC fun _ _ _=>rfl,
   RG:=aI (st:=mE) MB Ks Ku,
   RH:=(aI (st:=mE) MB Ks Ku).binds (ps:=["k"]) fun _ _ _ _ _ _=>ze fun _=>rfl,
   RJ:=mg_of X G Sg,
   jT:=aI (st:=bQ) r6 pA pB,
   qk:=(aI (st:=bQ) r6 pA pB).binds (ps:=["n","bonds"]) fun _ _ _ _ _ _=>BB fun _ _=>rfl,
   qo:=mg_of X G BZ,
   sC:=aI (st:=dF) AM yM yN,
   zG:=(aI (st:=dF) AM yM yN).binds (ps:=["reader","mark","take_atom","take_bond"]) fun _ _ _ _ _ _=>P0 fun _ _ _ _=>rfl,
   zJ:=mg_of X G Ik,
   gn:=aI (st:=aX) jJ jq jr,
   j0:=(aI (st:=aX) jJ jq jr).binds (ps:=["molecule"]) fun _ _ _ _ _ _=>ze fun _=>rfl,
   j4:=mg_of X G uZ,
   gE:=aI (st:=aV) lu jK jL,
   k9:=(aI (st:=aV) lu jK jL).binds (ps:=["molecule","bond"]) fun _ _ _ _ _ _=>BB fun _ _=>rfl,
   kC:=mg_of X G wK,
   gp:=aI (st:=aR) jM jt jv,
   j3:=(aI (st:=aR) jM jt jv).binds (ps:=["molecule","through_bonds"]) fun _ _ _ _ _ _=>BB fun _ _=>rfl,
   j5:=mg_of X G vc,
   o9:=aI (st:=e9) C5 AO AQ,
   vK:=(aI (st:=e9) C5 AO AQ).binds (ps:=["order"]) fun _ _ _ _ _ _=>ze fun _=>rfl,
   vS:=mg_of X G Kp,
   sE:=aI (st:=dG) AR yO yP,
   zH:=(aI (st:=dG) AR yO yP).binds (ps:=["n","bonds"]) fun _ _ _ _ _ _=>BB fun _ _=>rfl,
   zK:=mg_of X G Il,
   jU:=aI (st:=bH) r8 pC pF,
   ql:=(aI (st:=bH) r8 pC pF).binds (ps:=["sums","bonds"]) fun _ _ _ _ _ _=>BB fun _ _=>rfl,
   qp:=mg_of X G Ca,
   lE:=aI (st:=bN) uB r9 rC,
   tQ:=(aI (st:=bN) uB r9 rC).binds (ps:=["states","bonds","k"]) fun _ _ _ _ _ _=>BC fun _ _ _=>rfl,
   tU:=mg_of X G De,
   mG:=aI (st:=dH) AU yQ yR,
   sF:=(aI (st:=dH) AU yQ yR).binds (ps:=["state","bond","order"]) fun _ _ _ _ _ _=>BC fun _ _ _=>rfl,
   sI:=mg_of X G Im,
   iL:=aI (st:=cA) wO uC uD,
   mY:=(aI (st:=cA) wO uC uD).binds (ps:=["bonds","k","atom"]) fun _ _ _ _ _ _=>BC fun _ _ _=>rfl,
   nh:=mg_of X G Ew,
   mH:=aI (st:=dI) AV yS yT,
   sG:=(aI (st:=dI) AV yS yT).binds (ps:=["left","bonds"]) fun _ _ _ _ _ _=>BB fun _ _=>rfl,
   sJ:=mg_of X G Io,
   mZ:=aI (st:=bX) wQ uE uF,
   vM:=(aI (st:=bX) wQ uE uF).binds (ps:=["bonds"]) fun _ _ _ _ _ _=>ze fun _=>rfl,
   vU:=mg_of X G Ex,
   lF:=aI (st:=cg) uG rD rE,
   tR:=(aI (st:=cg) uG rD rE).binds (ps:=["form","which"]) fun _ _ _ _ _ _=>BB fun _ _=>rfl,
   tV:=mg_of X G Df,
   vO:=aI (st:=eB) C6 AW AX,
   Cu:=(aI (st:=eB) C6 AW AX).binds (ps:=["reader"]) fun _ _ _ _ _ _=>ze fun _=>rfl,
   Cw:=mg_of X G Kq,
   vQ:=aI (st:=eE) C7 AY AZ,
   Cv:=(aI (st:=eE) C7 AY AZ).binds (ps:=["reader","pair"]) fun _ _ _ _ _ _=>BB fun _ _=>rfl,
   Cy:=mg_of X G Kr,
   lG:=aI (st:=cj) uH rF rG,
   tS:=(aI (st:=cj) uH rF rG).binds (ps:=["molecule","k"]) fun _ _ _ _ _ _=>BB fun _ _=>rfl,
   tW:=mg_of X G Dg,
   lH:=aI (st:=ck) uI rH rJ,
   tT:=(aI (st:=ck) uI rH rJ).binds (ps:=["molecule","k"]) fun _ _ _ _ _ _=>BB fun _ _=>rfl,
   tX:=mg_of X G Dh,
   gX:=aI (st:=bR) rK pG pH,
   jV:=(aI (st:=bR) rK pG pH).binds (ps:=["molecule","end","other"]) fun _ _ _ _ _ _=>BC fun _ _ _=>rfl,
   jW:=mg_of X G Cb,
   Hl:=aI (st:=kr) MC Kv Kw,
   RI:=(aI (st:=kr) MC Kv Kw).binds (ps:=["molecule"]) fun _ _ _ _ _ _=>ze fun _=>rfl,
   M9:=mg_of X G Sh,
   ng:=aI (st:=cB) wR uJ uK,
   vR:=(aI (st:=cB) wR uJ uK).binds (ps:=["fault"]) fun _ _ _ _ _ _=>ze fun _=>rfl,
   vV:=mg_of X G Ey,
   sH:=aI (st:=dJ) Ba yU yV,
   zI:=(aI (st:=dJ) Ba yU yV).binds (ps:=["row"]) fun _ _ _ _ _ _=>ze fun _=>rfl,
   zL:=mg_of X G Ip,
   Ho:=mg_of X G RQ,
   Dz:=⟨PR,PU,PV,PX⟩,
   MA:=⟨PY,Ib,Ic,PZ⟩,
   CI:=⟨CZ,u6,gZ⟩,
   i6:=i6,
   i7:=i7,
   fK:=fK,
   vW:=mg_of X G JZ,
   fu:=⟨⟨_,_,_,_,_,_,_,_,_,_,_,_,_,_,Ka,E3,Ig,fun x hx=>by simp only [List.mem_cons,List.mem_nil_iff,or_false] at hx;rcases hx with rfl | rfl | rfl | rfl | rfl | rfl<;>first | exact oh | exact wG | exact wH | exact zj | exact AE | exact zk⟩,Ih,Ii,Ij,by simp,by simp,by simp⟩,
   JK:=mg_of X G Qa,
   aK:=⟨NF,NG,NH,NI⟩,
   JL:=⟨NJ,F0,F9,NK⟩,
   dR:=⟨Et,Eu,lN⟩,
   gF:=⟨wI,wJ,gu⟩,
   aN:=⟨uV,uW,fP⟩,
   xA:=⟨xH,xJ,gR⟩,
   ni:=⟨zm,zo,iw⟩,
   lU:=⟨xK,xM,gS⟩,
   nj:=⟨zp,zq,iy⟩,
   lV:=⟨xN,xO,gT⟩,
   oA:=⟨AF,AG,iF⟩,
   eK:=eK,
   gG:=gG,
   b8:=b8,
   cK:=cK,
   cM:=cM,
   Pp:=mg_of X G UM,
   sL:=⟨RT,RU,RV,RW⟩,
   Pq:=⟨RX,Kc,Kd,RY⟩,
   iM:=iM,
   iN:=iN,
   ku:=ku,
   eN:=eN,
   kD:=kD,
   Pu:=mg_of X G UN,
   eW:=⟨RZ,Sa,Sb,Sd⟩,
   Pw:=⟨Se,Ke,Kf,Sf⟩,
   fY:=fY,
   fZ:=fZ,
   gY:=gY,
   kE:=kE,
   Ef:=mg_of X G LK,
   bI:=⟨Kg,Kh,Kl,Km⟩,
   Eg:=⟨Kn,Dc,Dd,Ko⟩,
   uO:=⟨uX,uY,fQ⟩,
   nZ:=⟨oj,om,eS⟩,
   nt:=⟨zu,u6,gZ⟩,
   cO:=cO,
   d8:=d8,
   bE:=bE,
   gb:=gb,
   fz:=fz,
   cP:=cP,
   zM:=⟨FD,FE,FF,pV⟩,
   zN:=⟨_,mg_of X G Iq⟩,
   tY:=⟨_,mg_of X G Di⟩,
   zO:=⟨_,mg_of X G Ir⟩,
   qt:=⟨_,mg_of X G Cc⟩,
   zP:=⟨_,mg_of X G Iu⟩,
   qu:=⟨_,mg_of X G Cd⟩,
   Cz:=⟨_,mg_of X G Kx⟩,
   zQ:=⟨_,mg_of X G Iv⟩,
   zR:=⟨_,mg_of X G Iw⟩,
   vX:=⟨_,mg_of X G Ez⟩,
   xV:=⟨_,mg_of X G FG⟩,
   qw:=⟨_,mg_of X G Ce⟩,
   BA:=⟨_,mg_of X G NL⟩,
   pN:=⟨_,mg_of X G FH⟩,
   jX:=⟨_,mg_of X G Cf⟩,
   vY:=⟨_,mg_of X G E2⟩,
   C0:=⟨_,mg_of X G Ky⟩,
   C1:=⟨_,mg_of X G Kz⟩,
   Eh:=⟨_,mg_of X G LL⟩,
   xW:=⟨_,mg_of X G FI⟩,
   zS:=⟨_,mg_of X G Iz⟩,
   Ei:=mg_of X G Qc,
   vZ:=fun H=>.inr ⟨_,_,_,Qe,rfl,rfl,(by show 3<=sizeLine;decide),.cons ⟨_,rfl⟩ (.cons ⟨_,rfl⟩ (.cons ⟨_,rfl⟩ (.nil)))⟩,
   Px:=mg_of X G UO,
   Py:=fun H=>.inr ⟨_,_,_,UQ,rfl,rfl,(by show 4<=sizeLine;decide),.cons ⟨_,rfl⟩ (.cons ⟨_,rfl⟩ (.cons ⟨_,rfl⟩ (.cons ⟨_,rfl⟩ (.nil))))⟩,
   oB:=ns_none_of X G K1,
   nv:=ns_none_of X G W9,
   Pz:=ns_none_of X G UR,
   T5:=ns_none_of X G WA,
   oE:=ns_none_of X G Si,
   Hq:=ns_none_of X G Sj }
open XL (eY)
open Fk (Fault Bytes numIn need andThen)
def xr (H:Hp) (dx:Addr) (w r p:Int):Prop:=H dx=some (.xd [("which",.int w),("rule",.int r),("place",.int p)])
def pI {α:Type} (C:Addr) (w:Int) (x:Except Fault α) (k:α->Prop) (E:XK):Prop:=match x with
 | .ok y=>k y
 | .error f=>∀ H dx,xr H dx w f.rule f.place->E (.ref C) (some dx) H
theorem pI.andThen {α β:Type} {C:Addr} {w:Int} {x:Except Fault α} {f:α->Except Fault β} {k:β->Prop} {E:XK}:pI C w (Fk.andThen x f) k E ↔ pI C w x (fun y=>pI C w (f y) k E) E:=by cases x<;>exact Iff.rfl
theorem pI.mono {α:Type} {C:Addr} {w:Int} {x:Except Fault α} {k k':α->Prop} {E:XK} (h:pI C w x k E) (f:∀ y,x=.ok y->k y->k' y):pI C w x k' E:=by
 cases x with
 | ok y=>exact f y rfl h
 | error e=>exact h
def vB (B:Bytes):List V:=B.map fun c=>V.int (c.toNat:Int)
def yW (K:PySem.W.Frag) (H:Hp) (a:Addr) (B:Bytes):Prop:=(∃ o,H a=some (.l6 o (.lst (vB B))))\/∀ H',dN K H' a (vB B)
theorem yW.sq {K:PySem.W.Frag} {H:Hp} {a:Addr} {B:Bytes} (h:yW K H a B):dN K H a (vB B):=by
 rcases h with ⟨o,h⟩ | h
 . exact .inl (.inr ⟨o,h⟩)
 . exact h H
def iz (S:List Addr) (H H':Hp):Prop:=∀ b o,H b=some o->b ∉ S->H' b=some o
theorem iz.refl {S:List Addr} {H:Hp}:iz S H H:=fun _ _ h _=>h
theorem iz.trans {S:List Addr} {H H1 H2:Hp} (a:iz S H H1) (b:iz S H1 H2):iz S H H2:=fun c o h n=>b c o (a c o h n) n
theorem iz.mono {S S':List Addr} {H H1:Hp} (a:iz S H H1) (h:∀ b ∈ S,b ∈ S'):iz S' H H1:=fun c o q n=>a c o q fun z=>n (h c z)
theorem iz.WB {K:PySem.W.Frag} {S:List Addr} {H H':Hp} {a:Addr} {B:Bytes} (e:iz S H H') (h:yW K H a B) (n:∀ o xs,H a=some (.l6 o xs)->a ∉ S):yW K H' a B:=by
 rcases h with ⟨o,h⟩ | h
 . exact .inl ⟨o,e a _ h (n _ _ h)⟩
 . exact .inr h
structure I0 where
 a:Addr
 w:Int
 B:Bytes
 b:Bytes
 p:Nat
 hp:Addr
 hps:List Int
 sp:Addr
 Qg:List Int
def YJ (x:I0):List (Str×V):=[("form",.ref x.a),("which",.int x.w),("place",.int x.p),("hand_places",.ref x.hp),("side_places",.ref x.sp)]
structure eT (K:PySem.W.Frag) (C:Addr) (H:Hp) (r:Addr) (x:I0):Prop where
 obj:∃ dx,H r=some (.ins C dx (YJ x))
 form:yW K H x.a x.B
 hpl:H x.hp=some (.lst (x.hps.map V.int))
 Le:H x.sp=some (.lst (x.Qg.map V.int))
 ne:x.hp ≠ x.sp
 rest:x.b=x.B.drop x.p
 le:x.p<=x.B.length
 small:x.B.length<=6000
theorem Qh {H:Hp} {a b:Addr} {o:Obj} {u v:HO} (h:H a=some (.l6 o u)) (h':H b=some v) (n:∀ o u,v ≠ .l6 o u):a ≠ b:=fun e=>by rw [e,h'] at h;exact n _ _ (Option.some.inj h)
theorem eT.stay {K:PySem.W.Frag} {C:Addr} {H H':Hp} {r:Addr} {x:I0} {S:List Addr} (R:eT K C H r x) (f:iz S H H') (n1:r ∉ S) (n2:x.hp ∉ S) (n3:x.sp ∉ S) (n4:∀ b ∈ S,∀ o u,H b ≠ some (.l6 o u)):eT K C H' r x:=by
 obtain ⟨dx,e⟩:=R.obj
 exact ⟨⟨dx,f r _ e n1⟩,f.WB R.form fun o xs h hm=>n4 _ hm o xs h,f _ _ R.hpl n2,f _ _ R.Le n3,R.ne,R.rest,R.le,R.small⟩
theorem eT.place {K:PySem.W.Frag} {C:Addr} {H H':Hp} {r dx:Addr} {x:I0} {b:Bytes} {p:Nat} (R:eT K C H r x) (f:iz [r] H H') (e:H' r=some (.ins C dx (YJ { x with b:=b,p:=p }))) (hb:b=x.B.drop p) (hp:p<=x.B.length) :
   eT K C H' r { x with b:=b,p:=p }:=by
 obtain ⟨d0,e0⟩:=R.obj
 exact ⟨⟨dx,e⟩,f.WB R.form (fun o xs h hm=>by
   rw [show x.a=r by simpa using hm,e0] at h;cases h),f _ _ R.hpl (by simp;exact lO R.hpl e0 (by intro z;cases z)),f _ _ R.Le (by simp;exact lO R.Le e0 (by intro z;cases z)),R.ne,hb,hp,R.small⟩
def Sk (C:Addr):Sp:=fun vs H Q _=>∃ (a:Addr) (w r p:Int),vs=[.ref a,.int w,.int r,.int p]/\H a=some (XO a C none)/\∀ (H':Hp) (dx:Addr),dx ≠ a->H' a=some (XO a C (some dx))->xr H' dx w r p->Q .non H'
def Sl (CR CF:Addr):Sp:=fun vs H _ E=>∃ (r:Addr) (w ru pl:Int) (dx:Addr) (fs:List (Str×V)),vs=[.ref r,.int ru,.int pl]/\H r=some (.ins CR dx fs)/\fs.lookup ("which":Str)=some (V.int w)/\∀ H' dx,xr H' dx w ru pl->E (.ref CF) (some dx) H'
def WC (K:PySem.W.Frag) (CR CF:Addr):Sp:=fun vs H Q E=>∃ (r:Addr) (k:Nat) (x:I0),vs=[.ref r,.int (k:Int)]/\eT K CR H r x/\(k=1\/k=2) /\
 pI CF x.w (numIn k (fun _=>true) x.b x.p) (fun y=>∀ H',eT K CR H' r { x with b:=y.2.1,p:=y.2.2 }->iz [r] H H'->Q (.int (y.1:Int)) H') E
def NN (K:PySem.W.Frag) (CR CF:Addr):Sp:=fun vs H Q E=>∃ (r:Addr) (k:Nat) (lo hi:Int) (x:I0),vs=[.ref r,.int (k:Int),.int lo,.int hi]/\eT K CR H r x/\(k=1\/k=2) /\
 pI CF x.w (numIn k (fun v=>decide (lo<=(v:Int))&&decide ((v:Int)<=hi)) x.b x.p) (fun y=>∀ H',eT K CR H' r { x with b:=y.2.1,p:=y.2.2 }->iz [r] H H'->Q (.int (y.1:Int)) H') E
section
variable {P:Program} {w:World} {K:PySem.W.Frag} {mg:Str->Option Value} {base:Heap} {t:Ad}
theorem Gm:typeLookup (.type "Exception") "which"=pure none:=by rw [typeLookup_type,builtinLookup_eq_fast];kernel_rfl
theorem K2:typeLookup (.type "Exception") "rule"=pure none:=by rw [typeLookup_type,builtinLookup_eq_fast];kernel_rfl
theorem Gn:typeLookup (.type "Exception") "place"=pure none:=by rw [typeLookup_type,builtinLookup_eq_fast];kernel_rfl
theorem Qi:aU ["self","which","rule","place"] ["self","which","rule","place"] (ak bP):=⟨rfl,rfl,rfl,by decide +kernel,rfl,by decide +kernel,by decide +kernel⟩
theorem Qj (T:Txt K mg t):cE P w K mg base ve 1 t.c5 t.jP ["self","which","rule","place"] (Sk t.aF):=by
 refine T.qi.ok Qi (fun vs H Q E h=>?_) (fun cdv A outer s H vs Q E hr h=>?_)
 . obtain ⟨a,w,r,p,rfl,_⟩:=h
   rfl
 . obtain ⟨a,w,r,p,rfl,ha,k⟩:=h
   refine ⟨_,au (W7 T.fu (pv 0) (pv 1) (by simp) Gm rfl) (au (Tw T.fu (pv 0) (pv 2) (by simp) K2 rfl) (aH (Tw T.fu (pv 0) (pv 3) (by simp) Gn rfl))),?_⟩
   refine ⟨_,rfl,_,rfl,a,rfl,ha,fun dx hd=>?_⟩
   have da:dx ≠ a:=fun z=>by rw [z,ha] at hd;cases hd
   have e1:upd (upd H dx (.xd [("which",V.int w)])) a (XO a t.aF (some dx)) dx=some (.xd [("which",V.int w)]):=by rw [aq da,ai]
   refine ⟨_,rfl,_,rfl,a,dx,_,rfl,ai,e1,(by show 1 < 1000;decide),?_⟩
   refine ⟨_,rfl,_,rfl,a,dx,_,rfl,?_,ai,(by show 2 < 1000;decide),?_⟩
   . rw [aq (Ne.symm da)];exact ai
   . refine k _ dx da ?_ ai
     rw [aq (Ne.symm da),aq (Ne.symm da)];exact ai
theorem Qk:aU ["self","rule","place"] ["self","rule","place"] (ak c9):=⟨rfl,rfl,rfl,by decide +kernel,rfl,by decide +kernel,by decide +kernel⟩
theorem rL (T:Txt K mg t):cE P w K mg base (x6 P w) 3 t.cY t.mQ ["self","rule","place"] (Sl t.aA t.aF):=by
 have GI:=@Qj P w K mg base t T
 refine T.vJ.Oq Qk (fun vs H Q E h=>?_) (fun cdv A outer s H vs Q E hr h=>?_)
 . obtain ⟨r,w,ru,pl,dx,fs,rfl,_⟩:=h
   rfl
 . obtain ⟨r,w,ru,pl,dx,fs,rfl,hr0,hw,k⟩:=h
   refine ⟨_,aH (Pg rfl T.fu GI hr rfl T.vW T.qj RC (af (aL (pv 0) rfl) (af (pv 1) (af (pv 2) az)))),?_⟩
   refine ⟨_,rfl,r,t.aA,dx,fs,_,rfl,hr0,T.aK,T.gG,hw,_,rfl,_,rfl,(by show 3<=sizeLine;decide),fun a ha=>?_⟩
   refine ⟨a,w,ru,pl,rfl,ai,fun H' dx' da h1 h2=>⟨rfl,dx',h1,k _ _ ?_⟩⟩
   show drop H' a dx'=_
   rw [Dv da]
   exact h2
def Sm (K:PySem.W.Frag) (C:Addr):Sp:=fun vs H Q _=>∃ (r dx a:Addr) (w:Int) (B:Bytes),vs=[.ref r,.ref a,.int w]/\H r=some (.ins C dx [])/\yW K H a B/\B.length<=6000 /\
 ∀ (H':Hp) (hp sp:Addr),H hp=none->H sp=none->eT K C H' r ⟨a,w,B,B,0,hp,[],sp,[]⟩->iz [r] H H'->Q .non H'
theorem Ql:aU ["self","form","which"] ["self","form","which"] (ak cR):=⟨rfl,rfl,rfl,by decide +kernel,rfl,by decide +kernel,by decide +kernel⟩
theorem Qm (T:Txt K mg t):cE P w K mg base ve 1 t.dM t.pM ["self","form","which"] (Sm K t.aA):=by
 refine T.xT.ok Ql (fun vs H Q E h=>?_) (fun cdv A outer s H vs Q E hr h=>?_)
 . obtain ⟨r,dx,a,w,B,rfl,_⟩:=h
   rfl
 . obtain ⟨r,dx,a,w,B,rfl,h0,hf,hB,k⟩:=h
   refine ⟨_,au (fE (pv 0) (pv 1) rfl) (au (fE (pv 0) (pv 2) rfl) (au (fE (pv 0) aT rfl) (au (fE (pv 0) (l7 az) rfl) (aH (fE (pv 0) (l7 az) rfl))))),?_⟩
   refine ⟨_,rfl,_,rfl,r,_,dx,_,rfl,h0,T.aK,T.eK,(by show 0 < 1000;decide),?_⟩
   refine ⟨_,rfl,_,rfl,r,_,dx,_,rfl,ai,T.aK,T.gG,(by show 1 < 1000;decide),?_⟩
   rw [oq]
   refine ⟨_,rfl,r,_,dx,_,rfl,ai,T.aK,T.b8,(by show 2 < 1000;decide),?_⟩
   rw [oq]
   refine ⟨Nat.zero_le _,fun l1 n1=>?_⟩
   have r1:r ≠ l1:=fun z=>by rw [<- z,ai] at n1;cases n1
   have n1':H l1=none:=by rw [aq (Ne.symm r1)] at n1;exact n1
   refine ⟨_,rfl,r,_,dx,_,rfl,(by rw [aq r1];exact ai),T.aK,T.cK,(by show 3 < 1000;decide),?_⟩
   refine ⟨Nat.zero_le _,fun l2 n2=>?_⟩
   have r2:r ≠ l2:=fun z=>by rw [<- z,ai] at n2;cases n2
   have WD:=n2
   rw [aq (Ne.symm r2)] at WD
   have YK:l1 ≠ l2:=fun z=>by rw [<- z,ai] at WD;cases WD
   have n2':H l2=none:=by rw [aq (Ne.symm YK),aq (Ne.symm r2)] at WD;exact WD
   refine ⟨_,rfl,r,_,dx,_,rfl,(by rw [aq r2];exact ai),T.aK,T.cM,(by show 4 < 1000;decide),?_⟩
   have F:iz [r] H (upd (upd (upd (upd (upd H r (.ins t.aA dx (f6 "place" (.int 0) (f6 "which" (.int w) (f6 "form" (.ref a) []))))) l1 (.lst [])) r (.ins t.aA dx (f6 "hand_places" (.ref l1) (f6 "place" (.int 0) (f6 "which" (.int w) (f6 "form" (.ref a) [])))))) l2 (.lst []))
     r (.ins t.aA dx (f6 "side_places" (.ref l2) (f6 "hand_places" (.ref l1) (f6 "place" (.int 0) (f6 "which" (.int w) (f6 "form" (.ref a) []))))))):=fun b o e n=>by
     have nb:b ≠ r:=by simpa using n
     rw [aq nb,aq (ay e n2'),aq nb,aq (ay e n1'),aq nb]
     exact e
   refine k _ l1 l2 n1' n2' ⟨⟨dx,ai⟩,F.WB hf (fun o xs h hm=>?_),?_,?_,YK,rfl,Nat.zero_le _,hB⟩ F
   . rw [show a=r by simpa using hm,h0] at h;cases h
   . rw [aq (Ne.symm r1),aq YK,aq (Ne.symm r1)];exact ai
   . rw [aq (Ne.symm r2)];exact ai
theorem IA:aU ["self","size","number","k"] ["self","size"] (ak bg):=⟨rfl,rfl,rfl,by decide +kernel,rfl,by decide +kernel,by decide +kernel⟩
theorem Qn {b:Bytes} {k:Nat} {c:UInt8} (hk:k < 2) (hc:b[k]?=some c):(Fk.num (b.take (k+1)):Int)=(Fk.num (b.take k):Int)+(c.toNat:Int) * 2 ^ (8 * (k:Int)).toNat:=by
 match k,b,hk,hc with
 | 0,x::b,_,hc=>
   cases hc
   simp [Fk.num]
 | 1,x::y::b,_,hc=>
   cases hc
   simp [Fk.num]
   omega
 | 0,[],_,hc=>cases hc
 | 1,[],_,hc=>cases hc
 | 1,[x],_,hc=>cases hc
theorem Qo (T:Txt K mg t):cE P w K mg base (x6 P w) 4 t.b6 t.gB ["self","size"] (WC K t.aA t.aF):=by
 have GF:=@rL P w K mg base t T
 obtain ⟨ZE,g5⟩:=T.zP
 refine T.k8.Oq IA (fun vs H Q E h=>?_) (fun cdv A outer s H vs Q E hr h=>?_)
 . obtain ⟨r,k,x,rfl,_⟩:=h
   rfl
 . obtain ⟨r,k,x,rfl,R,hk,c8⟩:=h
   obtain ⟨dx,e0⟩:=R.obj
   refine ⟨_,au (xP (i8 Tj (fU vg (aL (pv 0) rfl) (pv 1)) (eX bT (by rfl) T.nv PySem.boot_len (af (aL (pv 0) rfl) az)) (g9 _))
       (aH (dY (cF (pv 0) T.aK T.dR GF hr T.dQ .nil fB (af (bK rfl g5 (v:=.int 5) ⟨_,rfl⟩) (af (eX bT (by rfl) T.nv PySem.boot_len (af (aL (pv 0) rfl) az)) az))))) ko)
     (au (aZ (i:=2) IA.nd rfl (Or.inl rfl) aT)
     (au (g8 N4 rfl (mJ rfl T.oE (af (pv 1) az)) (c7 (i:=3) IA.nd rfl (Or.inl rfl))
       (aH (Uk (i:=2) IA.nd rfl (Or.inl rfl) (fU O6 (fV dS (aL (pv 0) rfl) (fU vg (aL (pv 0) rfl) (pv 3)) (fun _ _=>rfl)) (fU Lr aT (pv 3))) Ll)))
     (au (Ng (pv 0) (pv 1) Us) (aH (cT (pv 2)))))),?_⟩
   have hf:=R.form.sq
   have X7:(vB x.B).length=x.B.length:=by simp [vB]
   refine ⟨_,rfl,r,_,dx,_,_,rfl,e0,T.aK,T.b8,rfl,_,rfl,_,_,rfl,rfl,?_⟩
   refine ⟨_,rfl,r,_,dx,_,_,rfl,e0,T.aK,T.eK,rfl,x.a,_,rfl,.inl hf,_,_,rfl,rfl,_,rfl,?_⟩
   rw [X7]
   have hlen:x.b.length=x.B.length - x.p:=by rw [R.rest,List.length_drop]
   have hle:=R.le
   refine J2 (fun h=>?_) (fun h=>?_)
   . have h':(x.B.length:Int) < (x.p:Int)+(k:Int):=of_decide_eq_true h
     have e1:numIn k (fun _=>true) x.b x.p=.error ⟨5,x.p+x.b.length⟩:=if_pos (by omega)
     rw [e1] at c8
     refine ⟨_,rfl,r,dx,_,rfl,e0,rfl,?_⟩
     refine ⟨_,rfl,r,_,dx,_,_,rfl,e0,T.aK,T.eK,rfl,x.a,_,rfl,.inl hf,?_⟩
     refine ⟨r,x.w,5,((vB x.B).length:Int),dx,_,rfl,e0,rfl,fun H' d' hF=>c8 H' d' ?_⟩
     rw [X7] at hF
     have e2:x.p+x.b.length=x.B.length:=by omega
     show xr H' d' x.w 5 ((x.p+x.b.length:Nat):Int)
     rw [e2]
     exact hF
   . have h':¬ (x.B.length:Int) < (x.p:Int)+(k:Int):=fun z=>h (decide_eq_true z)
     have e1:numIn k (fun _=>true) x.b x.p=.ok (Fk.num (x.b.take k),x.b.drop k,x.p+k):=by
       unfold numIn
       rw [if_neg (by omega),if_pos rfl]
     rw [e1] at c8
     refine ⟨_,rfl,(k:Int),rfl,by omega,by omega,?_⟩
     rw [Int.toNat_natCast]
     refine qd (n:=k) (fun i σ H'=>∃ v,H'=H/\σ=[some (.ref r),some (.int (k:Int)),some (.int (Fk.num (x.b.take i):Int)),v]) ⟨none,rfl,rfl⟩ ?_ ?_
     . rintro i σ H' hi ⟨v,rfl,rfl⟩
       obtain ⟨c,hc⟩:∃ c,x.b[i]?=some c:=⟨_,List.getElem?_eq_getElem (by omega)⟩
       have hcB:x.B[x.p+i]?=some c:=by
         rw [R.rest,List.getElem?_drop] at hc
         exact hc
       have hcV:(vB x.B)[x.p+i]?=some (V.int (c.toNat:Int)):=by
         unfold vB
         rw [List.getElem?_map,hcB]
         rfl
       refine ⟨_,rfl,?_⟩
       refine ⟨_,rfl,r,_,dx,_,_,rfl,e0,T.aK,T.eK,rfl,_,rfl,r,_,dx,_,_,rfl,e0,T.aK,T.b8,rfl,_,rfl,_,_,rfl,rfl,x.a,_,_,_,rfl,rfl,hf,at_of (j:=x.p+i) (by simp) hcV,?_⟩
       refine ⟨_,rfl,_,_,rfl,rfl,.inl ⟨by decide,by decide⟩,_,_,rfl,rfl,⟨by omega,by omega,?_⟩,?_⟩
       . have:=c.toNat_lt
         have e:((c.toNat:Int)).natAbs=c.toNat:=Int.natAbs_natCast _
         rw [e]
         omega
       . refine ⟨_,_,rfl,rfl,some (.int (0+(i:Int))),rfl,?_⟩
         have e8:(8 * (0+(i:Int))).toNat=(8 * (i:Int)).toNat:=by rw [Int.zero_add]
         rw [Qn (by omega) hc,<- e8]
         rfl
     . rintro σ H' ⟨v,rfl,rfl⟩
       refine ⟨_,rfl,r,_,dx,_,_,rfl,e0,T.aK,T.b8,rfl,_,rfl,_,_,rfl,rfl,dx,_,e0,(by show 5 < 1000;decide),?_⟩
       refine ⟨_,rfl,?_⟩
       have F:iz [r] H' (upd H' r (.ins t.aA dx (f6 "place" (V.int ((x.p:Int)+(k:Int))) (YJ x)))):=fun b o e n=>by rw [aq (by simpa using n)];exact e
       exact c8 _ (R.place F (dx:=dx) ai (by rw [R.rest,List.drop_drop]) (by show x.p+k<=_;omega)) F
theorem zw:aU ["self","size","least","greatest","start","number"] ["self","size","least","greatest"] (ak aW):=⟨rfl,rfl,rfl,by decide +kernel,rfl,by decide +kernel,by decide +kernel⟩
theorem t9 (T:Txt K mg t):cE P w K mg base (x6 P w) 5 t.bq t.gg ["self","size","least","greatest"] (NN K t.aA t.aF):=by
 have GF:=@rL P w K mg base t T
 have GN:=@Qo P w K mg base t T
 obtain ⟨X8,g2⟩:=T.tY
 refine T.jz.Oq zw (fun vs H Q E h=>?_) (fun cdv A outer s H vs Q E hr h=>?_)
 . obtain ⟨r,k,lo,hi,x,rfl,_⟩:=h
   rfl
 . obtain ⟨r,k,lo,hi,x,rfl,R,hk,c8⟩:=h
   obtain ⟨dx,e0⟩:=R.obj
   have Qp:dW 3 _:=hr.mono (by decide)
   refine ⟨_,au (aZ (i:=4) zw.nd rfl (Or.inl rfl) (aL (pv 0) rfl))
     (au (aZ (i:=5) zw.nd rfl (Or.inl rfl) (cF (pv 0) T.aK T.gF GN hr T.gD .nil fB (af (pv 1) az)))
     (au (xP (Tf (i8 Ti (pv 5) (pv 2) (g9 _)) (Ox (i8 Tj (pv 5) (pv 3) (g9 _)))).pt
       (aH (dY (cF (pv 0) T.aK T.dR GF Qp T.dQ .nil fB (af (bK rfl g2 (v:=.int 2) ⟨_,rfl⟩) (af (pv 4) az))))) ko)
     (aH (cT (pv 5))))),?_⟩
   refine ⟨_,rfl,r,_,dx,_,_,rfl,e0,T.aK,T.b8,rfl,?_⟩
   refine ⟨_,rfl,r,dx,_,rfl,e0,rfl,_,rfl,?_⟩
   refine ⟨r,k,x,rfl,R,hk,?_⟩
   have split:numIn k (fun v=>decide (lo<=(v:Int))&&decide ((v:Int)<=hi)) x.b x.p=Fk.andThen (numIn k (fun _=>true) x.b x.p) fun y=>Fk.andThen (need (decide (lo<=(y.1:Int))&&decide ((y.1:Int)<=hi)) 2 x.p) fun _=>.ok y:=by
     unfold numIn
     split
     . rfl
     . rw [if_pos rfl]
       show _=Fk.andThen (need _ 2 x.p) _
       unfold need
       split<;>rfl
   rw [split,pI.andThen] at c8
   refine c8.mono fun y hy c8 H1 R1 F1=>?_
   obtain ⟨d1,e1⟩:=R1.obj
   have hw:x.w=x.w:=rfl
   refine ⟨_,rfl,_,rfl,_,_,rfl,rfl,_,rfl,?_⟩
   by_cases h1:(y.1:Int) < lo
   . have bad:need (decide (lo<=(y.1:Int))&&decide ((y.1:Int)<=hi)) 2 x.p=.error ⟨2,x.p⟩:=by simp [need];omega
     rw [bad] at c8
     rw [decide_eq_true h1]
     refine ⟨_,rfl,r,d1,_,rfl,e1,rfl,_,rfl,?_⟩
     exact ⟨r,x.w,2,(x.p:Int),d1,_,rfl,e1,rfl,fun H' d' hF=>c8 H' d' hF⟩
   . rw [decide_eq_false h1]
     refine ⟨_,rfl,_,rfl,_,_,rfl,rfl,_,rfl,?_⟩
     by_cases h2:hi < (y.1:Int)
     . have bad:need (decide (lo<=(y.1:Int))&&decide ((y.1:Int)<=hi)) 2 x.p=.error ⟨2,x.p⟩:=by simp [need];omega
       rw [bad] at c8
       rw [decide_eq_true h2]
       refine ⟨_,rfl,r,d1,_,rfl,e1,rfl,_,rfl,?_⟩
       exact ⟨r,x.w,2,(x.p:Int),d1,_,rfl,e1,rfl,fun H' d' hF=>c8 H' d' hF⟩
     . have good:need (decide (lo<=(y.1:Int))&&decide ((y.1:Int)<=hi)) 2 x.p=.ok ():=by simp [need];omega
       rw [good] at c8
       rw [decide_eq_false h2]
       exact ⟨_,rfl,c8 H1 R1 F1⟩
end
open Fk (Fault Bytes numIn need andThen PAtom PBond)
theorem pI.good {C:Addr} {w:Int} {k:Nat} {g g':Nat->Bool} {b:Bytes} {p:Nat} {kk:Nat×Bytes×Nat->Prop} {E:XK} (h:∀ v,g v=g' v) (a:pI C w (numIn k g' b p) kk E):pI C w (numIn k g b p) kk E:=by
 rw [JM.JG h];exact a
theorem pI.andThen' {α β:Type} {C:Addr} {w:Int} {x:Except Fault α} {f:α->Except Fault β} {k:β->Prop} {E:XK} (h:pI C w (Fk.andThen x f) k E):pI C w x (fun y=>pI C w (f y) k E) E:=pI.andThen.mp h
section
variable {P:Program} {w:World} {K:PySem.W.Frag} {mg:Str->Option Value} {base:Heap} {t:Ad}
def US (K:PySem.W.Frag) (CR CF:Addr):Sp:=fun vs H Q E=>∃ (r m:Addr) (M:Bytes) (x:I0),vs=[.ref r,.ref m]/\eT K CR H r x/\(∀ H,rS K H m (vB M)) /\
 pI CF x.w (JM.iB M x.b x.p) (fun y=>∀ H',eT K CR H' r { x with b:=y.1,p:=y.2 }->iz [r] H H'->Q .non H') E
theorem MD:aU ["self","mark","byte"] ["self","mark"] (ak b9):=⟨rfl,rfl,rfl,by decide +kernel,rfl,by decide +kernel,by decide +kernel⟩
theorem Sn (T:Txt K mg t):cE P w K mg base (x6 P w) 6 t.bL t.iC ["self","mark"] (US K t.aA t.aF):=by
 have GF:=@rL P w K mg base t T
 have GN:=@Qo P w K mg base t T
 obtain ⟨UT,g1⟩:=T.zN
 refine T.mU.Oq MD (fun vs H Q E h=>?_) (fun cdv A outer s H vs Q E hr h=>?_)
 . obtain ⟨r,m,M,x,rfl,_⟩:=h
   rfl
 . obtain ⟨r,m,M,x,rfl,R,hM,c8⟩:=h
   have Qp:dW 3 _:=hr.mono (by decide)
   have YL:dW 4 _:=hr.mono (by decide)
   refine ⟨_,aH (g8 N4 rfl (Lp (pv 1)) (c7 (i:=2) MD.nd rfl (Or.inl rfl))
     (aH (xP (i8 Jm (cF (pv 0) T.aK T.gF GN YL T.gD .nil fB (af aT az)) (pv 2) (g9 _))
       (aH (dY (cF (pv 0) T.aK T.dR GF Qp T.dQ .nil fB (af (bK rfl g1 (v:=.int 1) ⟨_,rfl⟩) (af (fU zc (aL (pv 0) rfl) aT) az))))) ko))),?_⟩
   refine ⟨_,rfl,m,rfl,⟨_,hM H⟩,G7 (K:=K) (a:=m) (xs:=vB M) (fun i σ H'=>∃ (b:Bytes) (p:Nat) (v:Option V),σ=[some (.ref r),some (.ref m),v]/\eT K t.aA H' r { x with b:=b,p:=p }/\iz [r] H H' /\
     pI t.aF x.w (JM.iB (M.drop i) b p) (fun y=>∀ H',eT K t.aA H' r { x with b:=y.1,p:=y.2 }->iz [r] H H'->Q .non H') E) ⟨x.b,x.p,none,rfl,R,iz.refl,c8⟩ (fun i σ H' _ _=>hM H') ?_ ?_⟩
   . rintro i y σ H' hi ⟨b,p,v,rfl,R1,F1,c8⟩
     obtain ⟨c,hc,rfl⟩:∃ c,M[i]?=some c/\y=V.int (c.toNat:Int):=by
       unfold vB at hi
       rw [List.getElem?_map] at hi
       cases e:M[i]? with
       | none=>rw [e] at hi;cases hi
       | some c=>rw [e] at hi;exact ⟨c,rfl,(Option.some.inj hi).symm⟩
     have hd:M.drop i=c::M.drop (i+1):=by
       obtain ⟨hl,hg⟩:=List.getElem?_eq_some_iff.mp hc
       rw [List.drop_eq_getElem_cons hl,hg]
     rw [hd] at c8
     obtain ⟨dx,e0⟩:=R1.obj
     refine ⟨_,rfl,r,dx,_,rfl,e0,rfl,?_⟩
     refine ⟨r,1,_,rfl,R1,.inl rfl,c8.andThen'.mono fun z hz c8 H2 R2 F2=>?_⟩
     refine ⟨_,rfl,rfl,_,rfl,?_⟩
     obtain ⟨d2,e2⟩:=R2.obj
     obtain ⟨_,_,_,z1,z2⟩:=JM.bB hz
     refine J2 (fun h=>?_) (fun h=>?_)
     . have ne:¬ z.1=c.toNat:=fun q=>by rw [q] at h;simp at h
       have bad:need (decide (z.1=c.toNat)) 1 p=.error ⟨1,p⟩:=by simp [need,ne]
       rw [bad] at c8
       refine ⟨_,rfl,r,d2,_,rfl,e2,rfl,_,rfl,r,_,d2,_,_,rfl,e2,T.aK,T.b8,rfl,_,_,rfl,rfl,?_⟩
       refine ⟨r,x.w,1,((z.2.2:Nat):Int) - 1,d2,_,rfl,e2,rfl,fun H' d' hF=>c8 H' d' ?_⟩
       have e3:((z.2.2:Nat):Int) - 1=(p:Int):=by omega
       rw [e3] at hF
       exact hF
     . have eq:z.1=c.toNat:=by
         by_cases q:z.1=c.toNat
         . exact q
         . exact absurd (by simp;omega) h
       have good:need (decide (z.1=c.toNat)) 1 p=.ok ():=by simp [need,eq]
       rw [good] at c8
       exact ⟨_,_,_,rfl,R2,F1.trans F2,c8⟩
   . rintro σ H' ⟨b,p,v,rfl,R1,F1,c8⟩
     rw [show (vB M).length=M.length by simp [vB],List.drop_length] at c8
     exact c8 H' R1 F1
end
theorem iz.fresh {r:Addr} {H H1:Hp} {p:Addr} (F:iz [r] H H1) {o:HO} (e:H1 r=some o) (hp:H1 p=none):H p=none:=by
 cases q:H p with
 | none=>rfl
 | some u=>
   by_cases z:p=r
   . rw [z,e] at hp;cases hp
   . rw [F p u q (by simpa using z)] at hp;cases hp
theorem iz.laid {S:List Addr} {H:Hp} {p:Addr} {o:HO} (hp:H p=none):iz S H (upd H p o):=fun b u e n=>by rw [aq (ay e hp)];exact e
theorem eT.laid {K:PySem.W.Frag} {C:Addr} {H:Hp} {r p:Addr} {x:I0} {o:HO} (R:eT K C H r x) (hp:H p=none):eT K C (upd H p o) r x:=by
 obtain ⟨dx,e⟩:=R.obj
 exact R.stay (S:=[]) (iz.laid hp) (by simp) (by simp) (by simp) (by simp)
theorem eT.wrote {K:PySem.W.Frag} {C:Addr} {H:Hp} {r p:Addr} {x:I0} {o u:HO} (R:eT K C H r x) (hp:H p=some u) (n1:p ≠ r) (n2:p ≠ x.hp) (n3:p ≠ x.sp) (n4:∀ o v,u ≠ .l6 o v):eT K C (upd H p o) r x:=
 R.stay (S:=[p]) (fun b o e n=>by rw [aq (by simpa using n)];exact e) (by simpa using Ne.symm n1) (by simpa using Ne.symm n2) (by simpa using Ne.symm n3) (fun b hb o v z=>by
   rw [show b=p by simpa using hb,hp] at z;exact n4 _ _ (Option.some.inj z))
section
variable {P:Program} {w:World} {K:PySem.W.Frag} {mg:Str->Option Value} {base:Heap} {t:Ad}
def vN (l:List Nat):List V:=l.map fun (n:Nat)=>V.int (n:Int)
end
abbrev vd (α:Type):=(Addr->Prop)->Hp->V->α->Prop
structure C8 {α:Type} (Rep:vd α):Prop where
 stay:∀ {D:Addr->Prop} {H H':Hp} {v:V} {z:α},Rep D H v z->(∀ b o,D b->H b=some o->H' b=some o)->Rep D H' v z
 mono:∀ {D D':Addr->Prop} {H:Hp} {v:V} {z:α},Rep D H v z->(∀ b,D b->D' b)->Rep D' H v z
structure gw {α:Type} (Rep:vd α) (D:Addr->Prop) (H:Hp) (vs:List V) (zs:List α):Prop where
 len:vs.length=zs.length
 at_:∀ (i:Nat) (v:V) (z:α),vs[i]?=some v->zs[i]?=some z->Rep D H v z
theorem gw.nil {α:Type} {Rep:vd α} {D:Addr->Prop} {H:Hp}:gw Rep D H [] []:=⟨rfl,fun i v z h _=>by simp at h⟩
theorem gw.snoc {α:Type} {Rep:vd α} {D:Addr->Prop} {H:Hp} {vs:List V} {zs:List α} {v:V} {z:α} (R:gw Rep D H vs zs) (r:Rep D H v z):gw Rep D H (vs++[v]) (zs++[z]):=by
 refine ⟨by simp [R.len],fun i v' z' h1 h2=>?_⟩
 rcases Nat.lt_trichotomy i vs.length with h | h | h
 . rw [List.getElem?_append_left h] at h1
   rw [List.getElem?_append_left (R.len ▸ h)] at h2
   exact R.at_ i v' z' h1 h2
 . subst h
   rw [List.getElem?_append_right (Nat.le_refl _),Nat.sub_self] at h1
   rw [R.len,List.getElem?_append_right (Nat.le_refl _),Nat.sub_self] at h2
   cases h1;cases h2;exact r
 . have:(vs++[v])[i]?=none:=List.getElem?_eq_none (by simp;omega)
   rw [this] at h1;cases h1
theorem gw.stay {α:Type} {Rep:vd α} (ok:C8 Rep) {D:Addr->Prop} {H H':Hp} {vs:List V} {zs:List α} (R:gw Rep D H vs zs) (k:∀ b o,D b->H b=some o->H' b=some o):gw Rep D H' vs zs:=
 ⟨R.len,fun i v z h1 h2=>ok.stay (R.at_ i v z h1 h2) k⟩
theorem gw.mono {α:Type} {Rep:vd α} (ok:C8 Rep) {D D':Addr->Prop} {H:Hp} {vs:List V} {zs:List α} (R:gw Rep D H vs zs) (k:∀ b,D b->D' b):gw Rep D' H vs zs:=
 ⟨R.len,fun i v z h1 h2=>ok.mono (R.at_ i v z h1 h2) k⟩
def vP (x:Nat×Nat):List V:=[.int (x.1:Int),.int (x.2:Int)]
def Qq {α:Type} (K:PySem.W.Frag) (CR CF:Addr) (one:Bytes->Nat->Except Fault (α×Bytes×Nat)) (Rep:vd α):Sp:=fun vs H Q E=>∃ (r:Addr) (x:I0),vs=[.ref r]/\eT K CR H r x /\
 pI CF x.w (one x.b x.p) (fun y=>∀ H' v,eT K CR H' r { x with b:=y.2.1,p:=y.2.2 }->iz [r] H H'->Rep (fun b=>H b=none) H' v y.1->Q v H') E
def LM {α:Type} (K:PySem.W.Frag) (CR CF:Addr) (one:Nat×Nat->Bytes->Nat->Except Fault (α×Bytes×Nat)) (Rep:vd α):Sp:=fun vs H Q E=>∃ (r p:Addr) (q:Nat×Nat) (x:I0),vs=[.ref r,.ref p]/\eT K CR H r x/\H p=some (.tup (vP q)) /\
 pI CF x.w (one q x.b x.p) (fun y=>∀ H' v,eT K CR H' r { x with b:=y.2.1,p:=y.2.2 }->iz [r] H H'->Rep (fun b=>H b=none) H' v y.1->Q v H') E
section
variable {P:Program} {w:World} {K:PySem.W.Frag} {mg:Str->Option Value} {base:Heap} {t:Ad}
theorem iz.made {H H1:Hp} {o dx C:Addr} {S:List Addr} (nx:H o=none) (nd:H dx=none) (k:iz [o] (upd (upd H dx (.own o)) o (.ins C dx [])) H1):iz S H H1:=fun b u e n=>
 k b u (by rw [aq (ay e nx),aq (ay e nd)];exact e) (by simpa using ay e nx)
def WE (K:PySem.W.Frag) (CR CF:Addr):Sp:=fun vs H Q E=>∃ (r:Addr) (x:I0),vs=[.ref r]/\eT K CR H r x/\pI CF x.w (need x.b.isEmpty 7 x.p) (fun _=>Q .non H) E
theorem UU:aU ["self"] ["self"] (ak bJ):=⟨rfl,rfl,rfl,by decide +kernel,rfl,by decide +kernel,by decide +kernel⟩
theorem UW (T:Txt K mg t):cE P w K mg base (x6 P w) 4 t.bV t.iJ ["self"] (WE K t.aA t.aF):=by
 have GF:=@rL P w K mg base t T
 obtain ⟨ZE,g5⟩:=T.Cz
 refine T.o7.Oq UU (fun vs H Q E h=>?_) (fun cdv A outer s H vs Q E hr h=>?_)
 . obtain ⟨r,x,rfl,_⟩:=h
   rfl
 . obtain ⟨r,x,rfl,R,c8⟩:=h
   obtain ⟨dx,e0⟩:=R.obj
   refine ⟨_,aH (xP (i8 Ti (aL (pv 0) rfl) (eX bT (by rfl) T.nv PySem.boot_len (af (aL (pv 0) rfl) az)) (g9 _))
       (aH (dY (cF (pv 0) T.aK T.dR GF hr T.dQ .nil fB (af (bK rfl g5 (v:=.int 7) ⟨_,rfl⟩) (af (aL (pv 0) rfl) az))))) ko),?_⟩
   have hf:=R.form.sq
   have X7:(vB x.B).length=x.B.length:=by simp [vB]
   have hlen:x.b.length=x.B.length - x.p:=by rw [R.rest,List.length_drop]
   have hle:=R.le
   refine ⟨_,rfl,r,_,dx,_,_,rfl,e0,T.aK,T.b8,rfl,?_⟩
   refine ⟨_,rfl,r,_,dx,_,_,rfl,e0,T.aK,T.eK,rfl,x.a,_,rfl,.inl hf,_,_,rfl,rfl,_,rfl,?_⟩
   rw [X7]
   refine J2 (fun h=>?_) (fun h=>?_)
   . have h':(x.p:Int) < (x.B.length:Int):=of_decide_eq_true h
     have bad:need x.b.isEmpty 7 x.p=.error ⟨7,x.p⟩:=by
       cases hb:x.b with
       | nil=>rw [hb] at hlen;simp at hlen;omega
       | cons c b=>rfl
     rw [bad] at c8
     refine ⟨_,rfl,r,dx,_,rfl,e0,rfl,_,rfl,r,_,dx,_,_,rfl,e0,T.aK,T.b8,rfl,?_⟩
     exact ⟨r,x.w,7,(x.p:Int),dx,_,rfl,e0,rfl,fun H' d' hF=>c8 H' d' hF⟩
   . have h':¬ (x.p:Int) < (x.B.length:Int):=fun z=>h (decide_eq_true z)
     have good:need x.b.isEmpty 7 x.p=.ok ():=by
       cases hb:x.b with
       | nil=>rfl
       | cons c b=>rw [hb] at hlen;simp at hlen;omega
     rw [good] at c8
     exact c8
def UX:Option (Nat×Nat)->List V
 | none=>[.int (-1),.int (-1)]
 | some q=>vP q
def ME (had:Option (Nat×Nat)) (a b:Nat):Bool:=match had with
 | some (u,w)=>decide (u < a)||(u==a&&decide (w < b))
 | none=>true
theorem UY (had:Option (Nat×Nat)) (a b:Nat):∃ ms:List Int,UX had=ms.map V.int/\HT.lexLe [(a:Int),(b:Int)] ms=!ME had a b:=by
 cases had with
 | none=>
   refine ⟨[-1,-1],rfl,?_⟩
   rw [HT.rX,if_neg (by omega),decide_eq_false (by omega)]
   rfl
 | some uw=>
   obtain ⟨u,w⟩:=uw
   refine ⟨[(u:Int),(w:Int)],rfl,?_⟩
   show _=!(decide (u < a)||(u==a&&decide (w < b)))
   rw [HT.rX]
   by_cases h1:(a:Int)=(u:Int)
   . rw [if_pos h1,HT.rX]
     have h1':u=a:=by omega
     by_cases h2:(b:Int)=(w:Int)
     . rw [if_pos h2,HT.Gk]
       have:w=b:=by omega
       simp [h1',this]
     . rw [if_neg h2]
       have e1:decide (u < a)=false:=decide_eq_false (by omega)
       have e2:(u==a)=true:=by simp [h1']
       rw [e1,e2,Bool.false_or,Bool.true_and]
       by_cases h3:w < b
       . rw [decide_eq_true h3,decide_eq_false (by omega)];rfl
       . rw [decide_eq_false h3,decide_eq_true (by omega)];rfl
   . rw [if_neg h1]
     have e2:(u==a)=false:=by simp;omega
     rw [e2,Bool.false_and,Bool.or_false]
     by_cases h3:u < a
     . rw [decide_eq_true h3,decide_eq_false (by omega)];rfl
     . rw [decide_eq_false h3,decide_eq_true (by omega)];rfl
def UZ (K:PySem.W.Frag) (CR CF:Addr):Sp:=fun vs H Q E=>∃ (r p:Addr) (n:Nat) (had:Option (Nat×Nat)) (x:I0),vs=[.ref r,.int (n:Int),.ref p]/\eT K CR H r x/\H p=some (.tup (UX had)) /\
 pI CF x.w (JM.l8 n had x.b x.p) (fun y=>∀ H' q,eT K CR H' r { x with b:=y.2.1,p:=y.2.2 }->iz [r] H H'->H q=none->H' q=some (.tup (vP y.1))->Q (.ref q) H') E
theorem D0:aU ["self","n","before","start","a","b"] ["self","n","before"] (ak bA):=⟨rfl,rfl,rfl,by decide +kernel,rfl,by decide +kernel,by decide +kernel⟩
theorem So (T:Txt K mg t):cE P w K mg base (x6 P w) 6 t.bM t.iD ["self","n","before"] (UZ K t.aA t.aF):=by
 have GF:=@rL P w K mg base t T
 have GB:=@t9 P w K mg base t T
 obtain ⟨ZG,g3⟩:=T.zO
 refine T.mW.Oq D0 (fun vs H Q E h=>?_) (fun cdv A outer s H vs Q E hr h=>?_)
 . obtain ⟨r,p,n,had,x,rfl,_⟩:=h
   rfl
 . obtain ⟨r,p,n,had,x,rfl,R,hp,c8⟩:=h
   obtain ⟨d0,e0⟩:=R.obj
   have Qp:dW 3 _:=hr.mono (by decide)
   have pr:p ≠ r:=lO hp e0 (by intro z;cases z)
   refine ⟨_,au (aZ (i:=3) D0.nd rfl (Or.inl rfl) (aL (pv 0) rfl))
     (au (aZ (i:=4) D0.nd rfl (Or.inl rfl) (cF (pv 0) T.aK T.aN GB hr T.aM .nil fB (af aT (af aT (af (fU zc (pv 1) aT) az)))))
     (au (aZ (i:=5) D0.nd rfl (Or.inl rfl) (cF (pv 0) T.aK T.aN GB hr T.aM .nil fB (af aT (af (fU vg (pv 4) aT) (af (fU zc (pv 1) aT) az)))))
     (au (xP (i8 (UG hr.Ut) (vj (af (pv 4) (af (pv 5) az))) (pv 2) (g9 _))
       (aH (dY (cF (pv 0) T.aK T.dR GF Qp T.dQ .nil fB (af (bK rfl g3 (v:=.int 3) ⟨_,rfl⟩) (af (pv 3) az))))) ko)
     (aH (cT (vj (af (pv 4) (af (pv 5) az)))))))),?_⟩
   refine ⟨_,rfl,r,_,d0,_,_,rfl,e0,T.aK,T.b8,rfl,?_⟩
   refine ⟨_,rfl,r,d0,_,rfl,e0,rfl,_,rfl,_,_,rfl,rfl,?_⟩
   refine ⟨r,1,0,(n:Int) - 1,_,rfl,R,.inl rfl,pI.good (g':=fun v=>decide (v < n)) (fun v=>by rw [Bool.eq_iff_iff];simp only [Bool.and_eq_true,decide_eq_true_eq];omega) (c8.andThen'.mono fun y1 hy1 c8 H1 R1 F1=>?_)⟩
   obtain ⟨d1,e1⟩:=R1.obj
   refine ⟨_,rfl,r,d1,_,rfl,e1,rfl,_,rfl,_,_,rfl,rfl,_,rfl,_,_,rfl,rfl,?_⟩
   refine ⟨r,1,(y1.1:Int)+1,(n:Int) - 1,_,rfl,R1,.inl rfl,pI.good (g':=fun v=>decide (y1.1 < v)&&decide (v < n)) (fun v=>by rw [Bool.eq_iff_iff];simp only [Bool.and_eq_true,decide_eq_true_eq];omega) (c8.andThen'.mono fun y2 WG c8 H2 R2 F2=>?_)⟩
   obtain ⟨d2,e2⟩:=R2.obj
   have F:=F1.trans F2
   have hp2:=F p _ hp (by simpa using pr)
   refine ⟨_,rfl,_,rfl,(by show 2<=sizeLine;decide),fun q1 n1=>?_⟩
   obtain ⟨ms,hms,hle⟩:=UY had y1.1 y2.1
   refine ⟨_,rfl,q1,p,[(y1.1:Int),(y2.1:Int)],ms,rfl,rfl,rS.of ai,rS.of (by rw [aq (ay hp2 n1),<- hms];exact hp2),_,rfl,?_⟩
   rw [hle]
   have R3:=R2.laid (o:=.tup [.int (y1.1:Int),.int (y2.1:Int)]) n1
   obtain ⟨d3,e3⟩:=R3.obj
   have F3:iz [r] H (upd H2 q1 (.tup [.int (y1.1:Int),.int (y2.1:Int)])):=F.trans (iz.laid n1)
   have c8:pI t.aF x.w (need (ME had y1.1 y2.1) 3 x.p) _ E:=c8.andThen'
   refine J2 (fun h=>?_) (fun h=>?_)
   . have hc:ME had y1.1 y2.1=false:=by simpa using h
     rw [hc] at c8
     refine ⟨_,rfl,r,d3,_,rfl,e3,rfl,_,rfl,?_⟩
     exact ⟨r,x.w,3,(x.p:Int),d3,_,rfl,e3,rfl,fun H' d' hF=>c8 H' d' hF⟩
   . have hc:ME had y1.1 y2.1=true:=by simpa using h
     rw [hc] at c8
     refine ⟨_,rfl,_,rfl,(by show 2<=sizeLine;decide),fun q2 n2=>?_⟩
     exact c8 _ q2 (R3.laid n2) (F3.trans (iz.laid n2)) (F3.fresh e3 n2) ai
end
theorem eT.hand {K:PySem.W.Frag} {C:Addr} {H:Hp} {r:Addr} {x:I0} {z:Int} (R:eT K C H r x):eT K C (upd H x.hp (.lst (x.hps.map V.int++[.int z]))) r { x with hps:=x.hps++[z] }:=by
 obtain ⟨dx,e⟩:=R.obj
 have n1:r ≠ x.hp:=lO e R.hpl (by intro q;cases q)
 refine ⟨⟨dx,by rw [aq n1];exact e⟩,?_,by rw [ai];simp,by rw [aq (Ne.symm R.ne)];exact R.Le,R.ne,R.rest,R.le,R.small⟩
 rcases R.form with ⟨o,h⟩ | h
 . exact .inl ⟨o,by rw [aq (Qh h R.hpl (fun _ _ q=>by cases q))];exact h⟩
 . exact .inr h
theorem eT.side {K:PySem.W.Frag} {C:Addr} {H:Hp} {r:Addr} {x:I0} {z:Int} (R:eT K C H r x):eT K C (upd H x.sp (.lst (x.Qg.map V.int++[.int z]))) r { x with Qg:=x.Qg++[z] }:=by
 obtain ⟨dx,e⟩:=R.obj
 have n1:r ≠ x.sp:=lO e R.Le (by intro q;cases q)
 refine ⟨⟨dx,by rw [aq n1];exact e⟩,?_,by rw [aq R.ne];exact R.hpl,by rw [ai];simp,R.ne,R.rest,R.le,R.small⟩
 rcases R.form with ⟨o,h⟩ | h
 . exact .inl ⟨o,by rw [aq (Qh h R.Le (fun _ _ q=>by cases q))];exact h⟩
 . exact .inr h
theorem NP {α:Type} {one:Bytes->Nat->Except Fault (α×Bytes×Nat)} (k:Nat) (b:Bytes) (p:Nat) (pre:List α):Fk.andThen (JM.many one (k+1) b p) (fun l=>.ok (pre++l.1,l.2.1,l.2.2)) =
   Fk.andThen (one b p) fun x=>Fk.andThen (JM.many one k x.2.1 x.2.2) fun l=>.ok ((pre++[x.1])++l.1,l.2.1,l.2.2):=by
 rw [show JM.many one (k+1) b p=Fk.andThen (one b p) (fun x=>Fk.andThen (JM.many one k x.2.1 x.2.2) fun l=>.ok (x.1::l.1,l.2.1,l.2.2)) from rfl,JM.bw]
 congr 1
 funext x
 rw [JM.bw]
 congr 1
 funext l
 show Except.ok (pre++(x.1::l.1),l.2.1,l.2.2)=_
 rw [List.append_assoc]
 rfl
theorem LN {α:Type} {n:Nat} {one:Nat×Nat->Bytes->Nat->Except Fault (α×Bytes×Nat)} (k:Nat) (had:Option (Nat×Nat)) (b:Bytes) (p:Nat) (pre:List α):Fk.andThen (JM.fW n one (k+1) had b p) (fun l=>.ok (pre++l.1,l.2.1,l.2.2)) =
   Fk.andThen (JM.l8 n had b p) fun q=>Fk.andThen (one q.1 q.2.1 q.2.2) fun x=>Fk.andThen (JM.fW n one k (some q.1) x.2.1 x.2.2) fun l=>.ok ((pre++[x.1])++l.1,l.2.1,l.2.2):=by
 rw [show JM.fW n one (k+1) had b p=Fk.andThen (JM.l8 n had b p) (fun q=>Fk.andThen (one q.1 q.2.1 q.2.2) fun x=>Fk.andThen (JM.fW n one k (some q.1) x.2.1 x.2.2) fun l=>.ok (x.1::l.1,l.2.1,l.2.2)) from rfl,JM.bw]
 congr 1
 funext q
 rw [JM.bw]
 congr 1
 funext x
 rw [JM.bw]
 congr 1
 funext l
 show Except.ok (pre++(x.1::l.1),l.2.1,l.2.2)=_
 rw [List.append_assoc]
 rfl
theorem K3 {α:Type} (x:Except Fault (List α×Bytes×Nat)):(Fk.andThen x fun l=>Except.ok ([]++l.1,l.2.1,l.2.2))=x:=by cases x<;>rfl
section
variable {P:Program} {w:World} {K:PySem.W.Frag} {mg:Str->Option Value} {base:Heap} {t:Ad} {α:Type}
def MF (K:PySem.W.Frag) (CR CF f:Addr) (one:Bytes->Nat->Except Fault (α×Bytes×Nat)) (Rep:vd α) (pl:α->Nat):Sp:=fun vs H Q E=>∃ (r:Addr) (n:Nat) (x:I0),vs=[.ref r,.int (n:Int),.ref f]/\eT K CR H r x/\n<=1000/\x.hps=[] /\
 pI CF x.w (JM.many one n x.b x.p) (fun y=>∀ H' la us,eT K CR H' r { x with b:=y.2.1,p:=y.2.2,hps:=y.1.map fun z=>(pl z:Int) }->iz [r,x.hp] H H'->H la=none->H' la=some (.lst us)->
   gw Rep (fun b=>H b=none/\b ≠ la) H' us y.1->Q (.ref la) H') E
theorem E4:aU ["self","n","take_atom","atoms","k"] ["self","n","take_atom"] (ak bx):=⟨rfl,rfl,rfl,by decide +kernel,rfl,by decide +kernel,by decide +kernel⟩
theorem Qs (T:Txt K mg t) {kc:Nat} {f:Addr} {fd:FuncData} {one:Bytes->Nat->Except Fault (α×Bytes×Nat)} {Rep:vd α} {pl:α->Nat} (ok:C8 Rep) (hpl:∀ b p y,one b p=.ok y->(pl y.1:Int)=(y.2.2:Int) - 1)
   (G:cE P w K mg base (x6 P w) kc f fd ["reader"] (Qq K t.aA t.aF one Rep)) (kp:PySem.W.keepIn K (.ref f)=true) (hb:Binds K fd ["reader"] []) :
   cE P w K mg base (x6 P w) (kc+1) t.b4 t.fC ["self","n","take_atom"] (MF K t.aA t.aF f one Rep pl):=by
 refine T.lQ.Oq E4 (fun vs H Q E h=>?_) (fun cdv A outer s H vs Q E hr h=>?_)
 . obtain ⟨r,n,x,rfl,_⟩:=h
   rfl
 . obtain ⟨r,n,x,rfl,R,hn,N3,c8⟩:=h
   refine ⟨_,au (aZ (i:=3) E4.nd rfl (Or.inl rfl) (l7 az))
     (au (g8 N4 rfl (mJ rfl T.oE (af (pv 1) az)) (c7 (i:=4) E4.nd rfl (Or.inl rfl))
       (au (dY (xR PySem.F.plainAttrs_list PySem.F.slot_list_append PySem.F.type_list_append gW (pv 3) (af (JE (i:=2) G hr kp hb fB (af (pv 0) az)) az)))
       (aH (dY (xR PySem.F.plainAttrs_list PySem.F.slot_list_append PySem.F.type_list_append gW (aL (pv 0) rfl) (af (fU zc (aL (pv 0) rfl) aT) az))))))
     (aH (cT (pv 3)))),?_⟩
   refine ⟨Nat.zero_le _,fun l hl=>?_⟩
   have R0:=R.laid (o:=.lst []) hl
   have rl:r ≠ l:=fun z=>by obtain ⟨d,e⟩:=R.obj;rw [<- z,e] at hl;cases hl
   have hpl':x.hp ≠ l:=ay R.hpl hl
   have Sq:x.sp ≠ l:=ay R.Le hl
   refine ⟨_,rfl,(n:Int),rfl,by omega,by omega,?_⟩
   rw [Int.toNat_natCast]
   refine qd (n:=n) (fun i σ H'=>∃ (b:Bytes) (p:Nat) (v:Option V) (us:List V) (pre:List α),i<=n/\us.length=i/\σ=[some (.ref r),some (.int (n:Int)),some (.ref f),some (.ref l),v] /\
       eT K t.aA H' r { x with b:=b,p:=p,hps:=pre.map fun z=>(pl z:Int) }/\iz [r,x.hp] H H'/\H' l=some (.lst us)/\gw Rep (fun b=>H b=none/\b ≠ l) H' us pre /\
       pI t.aF x.w (Fk.andThen (JM.many one (n - i) b p) fun l=>.ok (pre++l.1,l.2.1,l.2.2)) (fun y=>∀ H' la us,eT K t.aA H' r { x with b:=y.2.1,p:=y.2.2,hps:=y.1.map fun z=>(pl z:Int) }->iz [r,x.hp] H H'->H la=none->H' la=some (.lst us)->
         gw Rep (fun b=>H b=none/\b ≠ la) H' us y.1->Q (.ref la) H') E)
     ⟨x.b,x.p,none,[],[],Nat.zero_le _,rfl,rfl,?_,iz.laid hl,ai,gw.nil,?_⟩ ?_ ?_
   . have:=R0
     rw [show x={ x with b:=x.b,p:=x.p,hps:=[] } by rw [<- N3]] at this
     exact this
   . rw [Nat.sub_zero,K3];exact c8
   . rintro i σ H' hi ⟨b,p,v,us,pre,hin,Va,rfl,R2,F2,hl2,RS,c8⟩
     obtain ⟨d2,e2⟩:=R2.obj
     rw [show n - i=(n - (i+1))+1 by omega,NP] at c8
     refine ⟨_,rfl,.inl ⟨rfl,_,dN.of hl2⟩,rfl,_,rfl,?_⟩
     refine ⟨r,_,rfl,R2,c8.andThen'.mono fun y hy c8 H3 u R3 F3 rep=>?_⟩
     have hl3:H3 l=some (.lst us):=F3 l _ hl2 (by simpa using Ne.symm rl)
     obtain ⟨d3,e3⟩:=R3.obj
     refine ⟨l,us,u,rfl,rfl,hl3,(by rw [Va,sizeLine_eq];omega),?_⟩
     have R4:=R3.wrote (o:=.lst (us++[u])) hl3 (Ne.symm rl) (Ne.symm hpl') (Ne.symm Sq) (fun _ _ z=>by cases z)
     obtain ⟨d4,e4⟩:=R4.obj
     refine ⟨_,rfl,r,_,d4,_,_,rfl,e4,T.aK,T.cK,rfl,.inl ⟨rfl,_,dN.of R4.hpl⟩,?_⟩
     refine ⟨_,rfl,r,_,d4,_,_,rfl,e4,T.aK,T.b8,rfl,_,_,rfl,rfl,?_⟩
     refine ⟨x.hp,_,_,rfl,rfl,R4.hpl,?_,?_⟩
     . have:=RS.len
       simp only [List.length_map]
       rw [sizeLine_eq]
       omega
     . have YM:=hpl _ _ _ hy
       have R5:=R4.hand (z:=((y.2.2:Nat):Int) - 1)
       refine ⟨y.2.1,y.2.2,some (.int (0+(i:Int))),us++[u],pre++[y.1],by omega,by simp [Va],rfl,?_,?_,?_,?_,c8⟩
       . rw [List.map_append,List.map_cons,List.map_nil,YM]
         exact R5
       . intro b' o e n'
         have n'':b' ≠ r/\b' ≠ x.hp:=by simpa using n'
         rw [aq n''.2,aq (ay e hl)]
         exact F3 b' o (F2 b' o e n') (by simpa using n''.1)
       . rw [aq (Ne.symm hpl'),ai]
       . have old:∀ b' o,(H b'=none/\b' ≠ l)->H' b'=some o->b' ≠ r/\b' ≠ x.hp/\b' ≠ l:=fun b' o d _=>by
           refine ⟨fun q=>?_,fun q=>?_,d.2⟩
           . obtain ⟨d',e'⟩:=R.obj;rw [q,e'] at d;cases d.1
           . have:=R.hpl;rw [<- q,d.1] at this;cases this
         refine (RS.stay ok fun b' o d h=>?_).snoc (ok.stay (ok.mono rep fun b' d=>?_) fun b' o d h=>?_)
         . obtain ⟨q1,q2,q3⟩:=old b' o d h
           rw [aq q2,aq q3]
           exact F3 b' o h (by simpa using q1)
         . refine ⟨?_,fun q=>by rw [q,hl2] at d;cases d⟩
           cases q:H b' with
           | none=>rfl
           | some o=>
             by_cases z1:b'=r
             . rw [z1,e2] at d;cases d
             . by_cases z2:b'=x.hp
               . have:=R2.hpl;rw [<- show b'=x.hp from z2,d] at this;cases this
               . rw [F2 b' o q (by simp [z1,z2])] at d;cases d
         . have q2:b' ≠ x.hp:=fun q=>by have:=R.hpl;rw [<- q,d.1] at this;cases this
           rw [aq q2,aq d.2]
           exact h
   . rintro σ H' ⟨b,p,v,us,pre,_,Va,rfl,R2,F2,hl2,RS,c8⟩
     rw [Nat.sub_self] at c8
     have c8:∀ H' la us,_:=c8
     refine ⟨_,rfl,?_⟩
     have a2:=c8 H' l us (by rw [List.append_nil];exact R2) F2 hl hl2
     rw [List.append_nil] at a2
     exact a2 RS
def MG (K:PySem.W.Frag) (CR CF f:Addr) (one:Nat×Nat->Bytes->Nat->Except Fault (α×Bytes×Nat)) (Rep:vd α) (pl:α->Nat):Sp:=fun vs H Q E=>∃ (r:Addr) (n m:Nat) (x:I0),vs=[.ref r,.int (n:Int),.int (m:Int),.ref f]/\eT K CR H r x/\m<=1000/\x.Qg=[] /\
 pI CF x.w (JM.fW n one m none x.b x.p) (fun y=>∀ H' la us,eT K CR H' r { x with b:=y.2.1,p:=y.2.2,Qg:=y.1.map fun z=>(pl z:Int) }->iz [r,x.sp] H H'->H la=none->H' la=some (.lst us)->
   gw Rep (fun b=>H b=none/\b ≠ la) H' us y.1->Q (.ref la) H') E
theorem wU:aU ["self","n","m","take_bond","bonds","before","k"] ["self","n","m","take_bond"] (ak bz):=⟨rfl,rfl,rfl,by decide +kernel,rfl,by decide +kernel,by decide +kernel⟩
theorem Qt (T:Txt K mg t) {kc:Nat} (h6:6<=kc) {f:Addr} {fd:FuncData} {one:Nat×Nat->Bytes->Nat->Except Fault (α×Bytes×Nat)} {Rep:vd α} {pl:α->Nat} (ok:C8 Rep) (hpl:∀ q b p y,one q b p=.ok y->(pl y.1:Int)=(y.2.2:Int) - 1)
   (G:cE P w K mg base (x6 P w) kc f fd ["reader","pair"] (LM K t.aA t.aF one Rep)) (kp:PySem.W.keepIn K (.ref f)=true) (hb:Binds K fd ["reader","pair"] []) :
   cE P w K mg base (x6 P w) (kc+1) t.b5 t.fD ["self","n","m","take_bond"] (MG K t.aA t.aF f one Rep pl):=by
 have GP:=@So P w K mg base t T
 refine T.lS.Oq wU (fun vs H Q E h=>?_) (fun cdv A outer s H vs Q E hr h=>?_)
 . obtain ⟨r,n,m,x,rfl,_⟩:=h
   rfl
 . obtain ⟨r,n,m,x,rfl,R,hn,N3,c8⟩:=h
   have YN:dW 6 _:=hr.mono h6
   refine ⟨_,au (aZ (i:=4) wU.nd rfl (Or.inl rfl) (l7 az))
     (au (aZ (i:=5) wU.nd rfl (Or.inl rfl) (vj (af (Mh G8 aT) (af (Mh G8 aT) az))))
     (au (g8 N4 rfl (mJ rfl T.oE (af (pv 2) az)) (c7 (i:=6) wU.nd rfl (Or.inl rfl))
       (au (aZ (i:=5) wU.nd rfl (Or.inl rfl) (cF (pv 0) T.aK T.nj GP YN T.mX .nil fB (af (pv 1) (af (pv 5) az))))
       (au (dY (xR PySem.F.plainAttrs_list PySem.F.slot_list_append PySem.F.type_list_append gW (pv 4) (af (JE (i:=3) G hr kp hb fB (af (pv 0) (af (pv 5) az))) az)))
       (aH (dY (xR PySem.F.plainAttrs_list PySem.F.slot_list_append PySem.F.type_list_append gW (aL (pv 0) rfl) (af (fU zc (aL (pv 0) rfl) aT) az)))))))
     (aH (cT (pv 4))))),?_⟩
   refine ⟨Nat.zero_le _,fun l hl=>?_⟩
   have R0:=R.laid (o:=.lst []) hl
   have rl:r ≠ l:=fun z=>by obtain ⟨d,e⟩:=R.obj;rw [<- z,e] at hl;cases hl
   have hpl':x.hp ≠ l:=ay R.hpl hl
   have Sq:x.sp ≠ l:=ay R.Le hl
   refine ⟨1,rfl,1,rfl,(by show 2<=sizeLine;decide),fun q0 YO=>?_⟩
   have R1:=R0.laid (o:=.tup [.int (-1),.int (-1)]) YO
   have lq:l ≠ q0:=ay ai YO
   refine ⟨_,rfl,(m:Int),rfl,by omega,by omega,?_⟩
   rw [Int.toNat_natCast]
   refine qd (n:=m) (fun i σ H'=>∃ (had:Option (Nat×Nat)) (qa:Addr) (b:Bytes) (p:Nat) (v:Option V) (us:List V) (pre:List α),i<=m/\us.length=i/\σ=[some (.ref r),some (.int (n:Int)),some (.int (m:Int)),some (.ref f),some (.ref l),some (.ref qa),v] /\
       eT K t.aA H' r { x with b:=b,p:=p,Qg:=pre.map fun z=>(pl z:Int) }/\iz [r,x.sp] H H'/\H' l=some (.lst us)/\H' qa=some (.tup (UX had))/\gw Rep (fun b=>H b=none/\b ≠ l) H' us pre /\
       pI t.aF x.w (Fk.andThen (JM.fW n one (m - i) had b p) fun l=>.ok (pre++l.1,l.2.1,l.2.2)) (fun y=>∀ H' la us,eT K t.aA H' r { x with b:=y.2.1,p:=y.2.2,Qg:=y.1.map fun z=>(pl z:Int) }->iz [r,x.sp] H H'->H la=none->H' la=some (.lst us)->
         gw Rep (fun b=>H b=none/\b ≠ la) H' us y.1->Q (.ref la) H') E)
     ⟨none,q0,x.b,x.p,none,[],[],Nat.zero_le _,rfl,rfl,?_,(iz.laid hl).trans (iz.laid YO),by rw [aq lq,ai],ai,gw.nil,?_⟩ ?_ ?_
   . have:=R1
     rw [show x={ x with b:=x.b,p:=x.p,Qg:=[] } by rw [<- N3]] at this
     exact this
   . rw [Nat.sub_zero,K3];exact c8
   . rintro i σ H' hi ⟨had,qa,b,p,v,us,pre,hin,Va,rfl,R2,F2,hl2,ZH,RS,c8⟩
     obtain ⟨d2,e2⟩:=R2.obj
     rw [show m - i=(m - (i+1))+1 by omega,LN] at c8
     refine ⟨_,rfl,r,d2,_,rfl,e2,rfl,_,rfl,_,rfl,?_⟩
     refine ⟨r,qa,n,had,_,rfl,R2,ZH,c8.andThen'.mono fun q hq c8 H3 qb R3 F3 nq T6=>?_⟩
     have hl3:H3 l=some (.lst us):=F3 l _ hl2 (by simpa using Ne.symm rl)
     obtain ⟨d3,e3⟩:=R3.obj
     refine ⟨_,rfl,.inl ⟨rfl,_,dN.of hl3⟩,rfl,_,rfl,_,rfl,?_⟩
     refine ⟨r,qb,q.1,_,rfl,R3,T6,c8.andThen'.mono fun y hy c8 H4 u R4 F4 rep=>?_⟩
     have Vb:H4 l=some (.lst us):=F4 l _ hl3 (by simpa using Ne.symm rl)
     have qbr:qb ≠ r:=lO T6 e3 (by intro z;cases z)
     have Vc:=F4 qb _ T6 (by simpa using qbr)
     have qbl:qb ≠ l:=lO Vc Vb (by intro z;cases z)
     refine ⟨l,us,u,rfl,rfl,Vb,(by rw [Va,sizeLine_eq];omega),?_⟩
     have R5:=R4.wrote (o:=.lst (us++[u])) Vb (Ne.symm rl) (Ne.symm hpl') (Ne.symm Sq) (fun _ _ z=>by cases z)
     obtain ⟨d5,e5⟩:=R5.obj
     refine ⟨_,rfl,r,_,d5,_,_,rfl,e5,T.aK,T.cM,rfl,.inl ⟨rfl,_,dN.of R5.Le⟩,?_⟩
     refine ⟨_,rfl,r,_,d5,_,_,rfl,e5,T.aK,T.b8,rfl,_,_,rfl,rfl,?_⟩
     refine ⟨x.sp,_,_,rfl,rfl,R5.Le,?_,?_⟩
     . have:=RS.len
       simp only [List.length_map]
       rw [sizeLine_eq]
       omega
     . have YM:=hpl _ _ _ _ hy
       have R6:=R5.side (z:=((y.2.2:Nat):Int) - 1)
       have qbs:qb ≠ x.sp:=fun z=>by have h9:=R4.Le;rw [<- show qb=x.sp from z,Vc] at h9;cases h9
       have ZI:iz [r] H' H4:=F3.trans F4
       refine ⟨some q.1,qb,y.2.1,y.2.2,some (.int (0+(i:Int))),us++[u],pre++[y.1],by omega,by simp [Va],rfl,?_,?_,?_,?_,?_,c8⟩
       . rw [List.map_append,List.map_cons,List.map_nil,YM]
         exact R6
       . intro b' o e n'
         have n'':b' ≠ r/\b' ≠ x.sp:=by simpa using n'
         rw [aq n''.2,aq (ay e hl)]
         exact ZI b' o (F2 b' o e n') (by simpa using n''.1)
       . rw [aq (Ne.symm Sq),ai]
       . rw [aq qbs,aq qbl];exact Vc
       . have old:∀ b' o,(H b'=none/\b' ≠ l)->H' b'=some o->b' ≠ r/\b' ≠ x.sp/\b' ≠ l:=fun b' o d _=>by
           refine ⟨fun q=>?_,fun q=>?_,d.2⟩
           . obtain ⟨d',e'⟩:=R.obj;rw [q,e'] at d;cases d.1
           . have:=R.Le;rw [<- q,d.1] at this;cases this
         refine (RS.stay ok fun b' o d h=>?_).snoc (ok.stay (ok.mono rep fun b' d=>?_) fun b' o d h=>?_)
         . obtain ⟨q1,q2,q3⟩:=old b' o d h
           rw [aq q2,aq q3]
           exact ZI b' o h (by simpa using q1)
         . refine ⟨?_,fun q=>by rw [q,hl3] at d;cases d⟩
           have d':H' b'=none:=F3.fresh e3 d
           cases q:H b' with
           | none=>rfl
           | some o=>
             by_cases z1:b'=r
             . rw [z1,e2] at d';cases d'
             . by_cases z2:b'=x.sp
               . have:=R2.Le;rw [<- show b'=x.sp from z2,d'] at this;cases this
               . rw [F2 b' o q (by simp [z1,z2])] at d';cases d'
         . have q2:b' ≠ x.sp:=fun q=>by have:=R.Le;rw [<- q,d.1] at this;cases this
           rw [aq q2,aq d.2]
           exact h
   . rintro σ H' ⟨had,qa,b,p,v,us,pre,_,Va,rfl,R2,F2,hl2,ZH,RS,c8⟩
     rw [Nat.sub_self] at c8
     have c8:∀ H' la us,_:=c8
     refine ⟨_,rfl,?_⟩
     have a2:=c8 H' l us (by rw [List.append_nil];exact R2) F2 hl hl2
     rw [List.append_nil] at a2
     exact a2 RS
end
def pW (K:PySem.W.Frag) (H:Hp) (v:V) (q:Nat×Nat):Prop:=∃ o C dx fs,v=.ref o/\H o=some (.ins C dx fs)/\GD K C/\bW K C "a"/\bW K C "b"/\fs.lookup ("a":Str)=some (V.int (q.1:Int))/\fs.lookup ("b":Str)=some (V.int (q.2:Int))
structure gx (H:Hp) (lr:Addr) (rs:List Addr) (n:Nat) (row:Nat->List Nat):Prop where
 lst:H lr=some (.lst (rs.map V.ref))
 len:rs.length=n
 nd:rs.Nodup
 out:lr ∉ rs
 at_:∀ v a,rs[v]?=some a->H a=some (.lst (vN (row v)))
theorem NQ (l:List (Nat×Nat)) (q:Nat×Nat) (v:Nat):JM.dX (l++[q]) v=JM.dX l v++(if q.1=v then [q.2] else if q.2=v then [q.1] else []):=by
 unfold JM.dX
 rw [List.filterMap_append]
 congr 1
 unfold JM.vz
 by_cases h1:q.1=v
 . simp [h1]
 . by_cases h2:q.2=v<;>simp [h1,h2]
theorem take_snoc {α:Type}:∀ {l:List α} {i:Nat} {x:α},l[i]?=some x->l.take (i+1)=l.take i++[x]
 | [],i,x,h=>by simp at h
 | a::l,0,x,h=>by
   have e:a=x:=Option.some.inj h
   subst e
   rfl
 | a::l,i+1,x,h=>by
   have ih:=take_snoc (l:=l) (i:=i) (x:=x) h
   show a::l.take (i+1)=a::l.take i++[x]
   rw [ih]
   rfl
theorem E5 (l:List (Nat×Nat)) (v:Nat):(JM.dX l v).length<=l.length:=List.length_filterMap_le _ _
section
variable {P:Program} {w:World} {K:PySem.W.Frag} {mg:Str->Option Value} {base:Heap} {t:Ad}
def Vd (K:PySem.W.Frag):Sp:=fun vs H Q _=>∃ (n:Nat) (lb:Addr) (us:List V) (l:List (Nat×Nat)),vs=[.int (n:Int),.ref lb]/\n<=1000/\l.length<=1000/\H lb=some (.lst us)/\us.length=l.length/\(∀ (i:Nat) v q,us[i]?=some v->l[i]?=some q->pW K H v q) /\
 (∀ q ∈ l,q.1 < q.2/\q.2 < n)/\∀ H' lr rs,bu H H'->H lr=none->(∀ a ∈ rs,H a=none)->gx H' lr rs n (JM.dX l)->Q (.ref lr) H'
theorem D3:aU ["n","bonds","rows","bond","k"] ["n","bonds"] (ak bQ):=⟨rfl,rfl,rfl,by decide +kernel,rfl,by decide +kernel,by decide +kernel⟩
theorem gx.push {H:Hp} {lr:Addr} {rs:List Addr} {n v:Nat} {a:Addr} {row:Nat->List Nat} {u:Nat} (R:gx H lr rs n row) (ha:rs[v]?=some a) :
   gx (upd H a (.lst (vN (row v)++[.int (u:Int)]))) lr rs n (fun x=>if x=v then row x++[u] else row x):=by
 have z:lr ≠ a:=fun q=>R.out (q ▸ List.mem_of_getElem? ha)
 refine ⟨by rw [aq z];exact R.lst,R.len,R.nd,R.out,fun x b hb=>?_⟩
 by_cases hx:x=v
 . subst hx
   rw [ha] at hb
   cases hb
   rw [ai,if_pos rfl]
   simp [vN]
 . have:b ≠ a:=fun q=>hx (W4 R.nd hb (q ▸ ha))
   rw [aq this,if_neg hx]
   exact R.at_ x b hb
theorem gx.eq {H:Hp} {lr:Addr} {rs:List Addr} {n:Nat} {row row':Nat->List Nat} (R:gx H lr rs n row) (h:∀ v,v < n->row v=row' v):gx H lr rs n row':=
 ⟨R.lst,R.len,R.nd,R.out,fun v a ha=>by
   have:=R.at_ v a ha
   rw [h v (by rw [<- R.len];exact (List.getElem?_eq_some_iff.mp ha).1)] at this
   exact this⟩
theorem Ss (T:Txt K mg t):cE P w K mg base ve 1 t.cI t.jQ ["n","bonds"] (Vd K):=by
 refine T.jT.ok D3 (fun vs H Q E h=>?_) (fun cdv A outer s H vs Q E hr h=>?_)
 . obtain ⟨n,lb,us,l,rfl,_⟩:=h
   rfl
 . obtain ⟨n,lb,us,l,rfl,hn,hl,hlb,hlen,K4,hbd,k⟩:=h
   refine ⟨_,au (DP (i:=2) rfl D3.nd rfl rfl rfl (mJ rfl T.oE (af (pv 0) az)) (qf (own:=[("k",4)]) rfl) (fun _ _ _ _ _=>c7 (i:=4) D3.nd rfl (Or.inl rfl)) (fun _ _ _ _ _=>GY) (fun _ _ _ _ _=>l7 az))
     (au (g8 PassesOwn.never rfl (ow (pv 1)) (c7 (i:=3) D3.nd rfl (Or.inl rfl))
       (au (dY (xR PySem.F.plainAttrs_list PySem.F.slot_list_append PySem.F.type_list_append gW (fV dS (pv 2) (aL (pv 3) rfl) (fun _ _=>rfl)) (af (aL (pv 3) rfl) az)))
       (aH (dY (xR PySem.F.plainAttrs_list PySem.F.slot_list_append PySem.F.type_list_append gW (fV dS (pv 2) (aL (pv 3) rfl) (fun _ _=>rfl)) (af (aL (pv 3) rfl) az))))))
     (aH (cT (pv 2)))),?_⟩
   refine ⟨_,rfl,(n:Int),rfl,by omega,by omega,?_⟩
   rw [Int.toNat_natCast]
   intro D hD
   refine OU (n:=n) (fun i H'=>∃ rs:List Addr,rs.length=i/\rs.Nodup/\D ∉ rs/\(∀ a ∈ rs,H a=none)/\bu H H'/\H' D=some (.lst (rs.map V.ref))/\∀ a ∈ rs,H' a=some (.lst []))
     ⟨[],rfl,List.nodup_nil,by simp,by simp,fun b o e=>by rw [aq (ay e hD)];exact e,ai,by simp⟩ ?_ ?_
   . rintro i H' hi ⟨rs,hrs,nd,V9,hn0,sm,hD',hem⟩
     refine ⟨rfl,Nat.zero_le _,fun a ha=>⟨rs.map V.ref,?_,?_,rs++[a],?_,?_,?_,?_,?_,?_,?_⟩⟩
     . rw [aq (ay hD' ha)];exact hD'
     . simp only [List.length_map,hrs];rw [sizeLine_eq];omega
     . simp [hrs]
     . exact Mx nd fun m=>by rw [hem a m] at ha;cases ha
     . simp only [List.mem_append,List.mem_singleton,not_or]
       exact ⟨V9,ay hD' ha⟩
     . intro b hb
       rcases List.mem_append.mp hb with m | m
       . exact hn0 b m
       . rw [List.mem_singleton.mp m];exact sm.free ha
     . intro b o e
       rw [aq (ay e hD),aq (ay (sm b o e) ha)]
       exact sm b o e
     . rw [ai];simp
     . intro b hb
       rcases List.mem_append.mp hb with m | m
       . have nb:b ≠ a:=fun q=>by rw [<- q,hem b m] at ha;cases ha
         have nD:b ≠ D:=fun q=>V9 (q ▸ m)
         rw [aq nD,aq nb]
         exact hem b m
       . have e:=List.mem_singleton.mp m
         have nD:a ≠ D:=fun q=>by rw [q,hD'] at ha;cases ha
         rw [e,aq nD,ai]
   . rintro H1 ⟨rs,hrs,nd,V9,hn0,sm,hD',hem⟩
     have R0:gx H1 D rs n (JM.dX (l.take 0)):=⟨hD',hrs,nd,V9,fun v a ha=>hem a (List.mem_of_getElem? ha)⟩
     refine ⟨_,rfl,lb,rfl,⟨_,dN.of (sm _ _ hlb)⟩,DG (K:=K) (a:=lb) (xs:=us) (fun i σ H'=>∃ v:Option V,σ=[some (.int (n:Int)),some (.ref lb),some (.ref D),v,none]/\bu H H'/\gx H' D rs n (JM.dX (l.take i)))
       ⟨none,rfl,sm,R0⟩ (fun i σ H' _ ⟨_,_,s5,_⟩=>dN.of (s5 _ _ hlb)) ?_ ?_⟩
     . rintro i y σ H' hi ⟨v,rfl,s5,R⟩
       have hil:i < l.length:=by rw [<- hlen];exact (List.getElem?_eq_some_iff.mp hi).1
       obtain ⟨q,hq⟩:∃ q,l[i]?=some q:=⟨_,List.getElem?_eq_getElem hil⟩
       obtain ⟨o,C,dx,fs,rfl,ho,cl,na,nb,la,lb'⟩:=K4 i y q hi hq
       obtain ⟨hq1,hq2⟩:=hbd q (List.mem_of_getElem? hq)
       obtain ⟨ra,Lf⟩:∃ ra,rs[q.1]?=some ra:=⟨_,List.getElem?_eq_getElem (by omega)⟩
       obtain ⟨rb,hrb⟩:∃ rb,rs[q.2]?=some rb:=⟨_,List.getElem?_eq_getElem (by omega)⟩
       have ho':=s5 _ _ ho
       have e1:(rs.map V.ref)[q.1]?=some (V.ref ra):=by rw [List.getElem?_map,Lf];rfl
       have e2:(rs.map V.ref)[q.2]?=some (V.ref rb):=by rw [List.getElem?_map,hrb];rfl
       have hA:=R.at_ _ _ Lf
       have oa:o ≠ ra:=lO ho' hA (by intro z;cases z)
       have R1:=R.push (u:=q.2) Lf
       have YQ:(vN (JM.dX (l.take i) q.1)).length < sizeLine:=by
         have:=E5 (l.take i) q.1
         simp only [vN,List.length_map,List.length_take] at this ⊢
         rw [sizeLine_eq]
         omega
       refine ⟨_,rfl,_,rfl,o,C,dx,fs,_,rfl,ho',cl,na,la,D,_,_,_,rfl,rfl,dN.of R.lst,cV e1,.inl ⟨rfl,_,dN.of hA⟩,?_⟩
       refine ⟨_,rfl,o,C,dx,fs,_,rfl,ho',cl,nb,lb',ra,_,_,rfl,rfl,hA,YQ,?_⟩
       have hB:=R1.at_ _ _ hrb
       have ho2:upd H' ra (.lst (vN (JM.dX (l.take i) q.1)++[.int (q.2:Int)])) o=some (.ins C dx fs):=by rw [aq oa];exact ho'
       have YR:(vN (if q.2=q.1 then JM.dX (l.take i) q.2++[q.2] else JM.dX (l.take i) q.2)).length < sizeLine:=by
         rw [if_neg (by omega)]
         have:=E5 (l.take i) q.2
         simp only [vN,List.length_map,List.length_take] at this ⊢
         rw [sizeLine_eq]
         omega
       have R2:=R1.push (u:=q.1) hrb
       refine ⟨_,rfl,_,rfl,o,C,dx,fs,_,rfl,ho2,cl,nb,lb',D,_,_,_,rfl,rfl,dN.of R1.lst,cV e2,.inl ⟨rfl,_,dN.of hB⟩,?_⟩
       refine ⟨_,rfl,o,C,dx,fs,_,rfl,ho2,cl,na,la,rb,_,_,rfl,rfl,hB,YR,?_⟩
       refine ⟨_,rfl,fun b u e=>?_,R2.eq fun v hv=>?_⟩
       . have za:b ≠ ra:=fun z=>by rw [z,hn0 ra (List.mem_of_getElem? Lf)] at e;cases e
         have zb:b ≠ rb:=fun z=>by rw [z,hn0 rb (List.mem_of_getElem? hrb)] at e;cases e
         rw [aq zb,aq za]
         exact s5 b u e
       . rw [take_snoc hq,NQ]
         by_cases z1:q.1=v
         . subst z1
           rw [if_neg (by omega),if_pos rfl,if_pos rfl]
         . by_cases z2:q.2=v
           . subst z2
             rw [if_pos rfl,if_neg (Ne.symm z1),if_neg z1,if_pos rfl]
           . rw [if_neg (Ne.symm z2),if_neg (Ne.symm z1),if_neg z1,if_neg z2,List.append_nil]
     . rintro σ H' ⟨v,rfl,s5,R⟩
       rw [hlen,List.take_length] at R
       exact ⟨_,rfl,k H' D rs s5 hD hn0 R⟩
end
def X9 (la lb lr:Addr):List (Str×V):=[("atoms",.ref la),("bonds",.ref lb),("neighbours",.ref lr)]
structure WH (C:Addr) (H:Hp) (g la lb lr:Addr) (as us:List V) (rs:List Addr) (l:List (Nat×Nat)):Prop where
 obj:∃ dx,H g=some (.ins C dx (X9 la lb lr))
 atoms:H la=some (.lst as)
 bonds:H lb=some (.lst us)
 rows:gx H lr rs as.length (JM.dX l)
theorem gx.stay {H H':Hp} {lr:Addr} {rs:List Addr} {n:Nat} {row:Nat->List Nat} (R:gx H lr rs n row) (f:∀ b o,H b=some o->(b=lr\/b ∈ rs)->H' b=some o):gx H' lr rs n row:=
 ⟨f _ _ R.lst (.inl rfl),R.len,R.nd,R.out,fun v a ha=>f _ _ (R.at_ v a ha) (.inr (List.mem_of_getElem? ha))⟩
theorem bu.WB {S:List Addr} {H H':Hp} (s:bu H H'):iz S H H':=fun b o e _=>s b o e
section
variable {P:Program} {w:World} {K:PySem.W.Frag} {mg:Str->Option Value} {base:Heap} {t:Ad}
def IB (K:PySem.W.Frag) (C:Addr):Sp:=fun vs H Q _=>∃ (o dx la lb:Addr) (as us:List V) (l:List (Nat×Nat)),vs=[.ref o,.ref la,.ref lb]/\H o=some (.ins C dx [])/\H la=some (.lst as)/\H lb=some (.lst us)/\as.length<=1000/\l.length<=1000/\us.length=l.length /\
 (∀ (i:Nat) v q,us[i]?=some v->l[i]?=some q->pW K H v q/\v ≠ .ref o)/\(∀ q ∈ l,q.1 < q.2/\q.2 < as.length)/\∀ H' lr rs,WH C H' o la lb lr as us rs l->iz [o] H H'->Q .non H'
theorem Qu:aU ["self","atoms","bonds"] ["self","atoms","bonds"] (ak dB):=⟨rfl,rfl,rfl,by decide +kernel,rfl,by decide +kernel,by decide +kernel⟩
theorem K5 (T:Txt K mg t) {C:Addr} (cl:GD K C) (n1:bW K C "atoms") (n2:bW K C "bonds") (n3:bW K C "neighbours"):cE P w K mg base ve 2 t.cz t.iI ["self","atoms","bonds"] (IB K C):=by
 have GR:=@Ss P w K mg base t T
 refine T.zF.ok Qu (fun vs H Q E h=>?_) (fun cdv A outer s H vs Q E hr h=>?_)
 . obtain ⟨o,dx,la,lb,as,us,l,rfl,_⟩:=h
   rfl
 . obtain ⟨o,dx,la,lb,as,us,l,rfl,h0,ha,hb,hn,hl,hlen,K4,hbd,k⟩:=h
   refine ⟨_,au (fE (pv 0) (pv 1) rfl) (au (fE (pv 0) (pv 2) rfl) (aH (fE (pv 0) (cU GR hr rfl T.qo T.jT.kp T.qk .nil f9 (af (eX bT (by rfl) T.nv PySem.boot_len (af (pv 1) az)) (af (pv 2) az))) rfl))),?_⟩
   have ao:la ≠ o:=lO ha h0 (by intro z;cases z)
   have bo:lb ≠ o:=lO hb h0 (by intro z;cases z)
   refine ⟨_,rfl,_,rfl,o,C,dx,_,rfl,h0,cl,n1,(by show 0 < 1000;decide),?_⟩
   refine ⟨_,rfl,_,rfl,o,C,dx,_,rfl,ai,cl,n2,(by show 1 < 1000;decide),?_⟩
   rw [oq]
   have keep:∀ b u,H b=some u->b ≠ o->upd H o (.ins C dx (f6 "bonds" (.ref lb) (f6 "atoms" (.ref la) []))) b=some u:=fun b u e n=>by rw [aq n];exact e
   refine ⟨_,rfl,la,_,rfl,.inl (dN.of (keep _ _ ha ao)),_,rfl,?_⟩
   refine ⟨as.length,lb,us,l,rfl,hn,hl,keep _ _ hb bo,hlen,fun i v q h1 h2=>?_,hbd,fun H1 lr rs sm ZJ nrs R=>?_⟩
   . obtain ⟨⟨o',C',dx',fs,rfl,e1,e2⟩,ne⟩:=K4 i v q h1 h2
     exact ⟨o',C',dx',fs,rfl,keep _ _ e1 (fun z=>ne (by rw [z])),e2⟩
   . have e1:=sm o _ ai
     refine ⟨_,rfl,o,C,dx,_,rfl,e1,cl,n3,(by show 2 < 1000;decide),?_⟩
     have F:iz [o] H (upd H1 o (.ins C dx (f6 "neighbours" (.ref lr) (f6 "bonds" (.ref lb) (f6 "atoms" (.ref la) []))))):=fun b u e n=>by
       have nb:b ≠ o:=by simpa using n
       rw [aq nb]
       exact sm b u (keep b u e nb)
     refine k _ lr rs ⟨⟨dx,ai⟩,F _ _ ha (by simpa using ao),F _ _ hb (by simpa using bo),R.stay fun b u e hb'=>?_⟩ F
     have nb:b ≠ o:=by
       rcases hb' with z | z
       . intro q;rw [<- z,q,ai] at ZJ;cases ZJ
       . intro q;have:=nrs b z;rw [q,ai] at this;cases this
     rw [aq nb]
     exact e
def Bb {α β:Type} (M:Bytes) (K6:Bytes->Nat->Except Fault (α×Bytes×Nat)) (IC:Nat×Nat->Bytes->Nat->Except Fault (β×Bytes×Nat)) (b:Bytes) (p:Nat):Except Fault (List α×List β):=
 Fk.andThen (JM.iB M b p) fun m=>
 Fk.andThen (numIn 1 (fun v=>decide (v<=Fk.ATOMS)) m.1 m.2) fun n=>
 Fk.andThen (numIn 1 (fun v=>decide (v<=Fk.BONDS)) n.2.1 n.2.2) fun k=>
 Fk.andThen (JM.many K6 n.1 k.2.1 k.2.2) fun x=>
 Fk.andThen (JM.fW n.1 IC k.1 none x.2.1 x.2.2) fun y=>
 Fk.andThen (need y.2.1.isEmpty 7 y.2.2) fun _=>.ok (x.1,y.1)
def MH {α β:Type} (K:PySem.W.Frag) (CR CF CG f1 f2:Addr) (K6:Bytes->Nat->Except Fault (α×Bytes×Nat)) (IC:Nat×Nat->Bytes->Nat->Except Fault (β×Bytes×Nat)) (RA:vd α) (RB:vd β) (WI:α->Nat) (WJ:β->Nat) (ends:β->Nat×Nat):Sp:=
 fun vs H Q E=>∃ (r m:Addr) (M:Bytes) (x:I0),vs=[.ref r,.ref m,.ref f1,.ref f2]/\eT K CR H r x/\x.hps=[]/\x.Qg=[]/\(∀ H,rS K H m (vB M)) /\
   pI CF x.w (Bb M K6 IC x.b x.p) (fun y=>∀ H' g la lb lr as us rs b p,eT K CR H' r { x with b:=b,p:=p,hps:=y.1.map fun z=>(WI z:Int),Qg:=y.2.map fun z=>(WJ z:Int) }->iz [r,x.hp,x.sp] H H'->
     WH CG H' g la lb lr as us rs (y.2.map ends)->gw RA (fun b=>H b=none) H' as y.1->gw RB (fun b=>H b=none) H' us y.2->JM.vy as.length (y.2.map ends)->Q (.ref g) H') E
theorem wV:aU ["reader","mark","take_atom","take_bond","n","m","atoms","bonds"] ["reader","mark","take_atom","take_bond"] (ak dF):=⟨rfl,rfl,rfl,by decide +kernel,rfl,by decide +kernel,by decide +kernel⟩
theorem Qw (T:Txt K mg t) {α β:Type} {f1 f2:Addr} {ZK ZL:FuncData} {K6:Bytes->Nat->Except Fault (α×Bytes×Nat)} {IC:Nat×Nat->Bytes->Nat->Except Fault (β×Bytes×Nat)} {RA:vd α} {RB:vd β} {WI:α->Nat} {WJ:β->Nat} {ends:β->Nat×Nat}
   (WK:C8 RA) (Wn:C8 RB) (YS:∀ b p y,K6 b p=.ok y->(WI y.1:Int)=(y.2.2:Int) - 1) (YT:∀ q b p y,IC q b p=.ok y->(WJ y.1:Int)=(y.2.2:Int) - 1) (K4:∀ q b p x,IC q b p=.ok x->ends x.1=q)
   (hE:∀ {D:Addr->Prop} {H:Hp} {v:V} {z:β},RB D H v z->∃ o,v=.ref o/\D o/\pW K H v (ends z))
   (G1:cE P w K mg base (x6 P w) 7 f1 ZK ["reader"] (Qq K t.aA t.aF K6 RA)) (kp1:PySem.W.keepIn K (.ref f1)=true) (hb1:Binds K ZK ["reader"] [])
   (G2:cE P w K mg base (x6 P w) 7 f2 ZL ["reader","pair"] (LM K t.aA t.aF IC RB)) (kp2:PySem.W.keepIn K (.ref f2)=true) (hb2:Binds K ZL ["reader","pair"] []) :
   cE P w K mg base (x6 P w) 9 t.dZ t.mF ["reader","mark","take_atom","take_bond"] (MH K t.aA t.aF t.bU f1 f2 K6 IC RA RB WI WJ ends):=by
 have GM:=@Sn P w K mg base t T
 have GB:=@t9 P w K mg base t T
 have GA:cE P w K mg base (x6 P w) 8 t.b4 t.fC ["self","n","take_atom"] (MF K t.aA t.aF f1 K6 RA WI):=Qs T WK YS G1 kp1 hb1
 have GO:cE P w K mg base (x6 P w) 8 t.b5 t.fD ["self","n","m","take_bond"] (MG K t.aA t.aF f2 IC RB WJ):=Qt T (by decide) Wn YT G2 kp2 hb2
 have GE:=@UW P w K mg base t T
 have GI:cE P w K mg base ve 2 t.cz t.iI ["self","atoms","bonds"] (IB K t.bU):=K5 T T.Dz T.i6 T.i7 T.fK
 obtain ⟨UT,g1⟩:=T.zQ
 obtain ⟨X8,g2⟩:=T.zR
 refine T.sC.Oq wV (fun vs H Q E h=>?_) (fun cdv A outer s H vs Q E hr h=>?_)
 . obtain ⟨r,m,M,x,rfl,_⟩:=h
   rfl
 . obtain ⟨r,m,M,x,rfl,R,XA,XC,hM,c8⟩:=h
   have YN:dW 6 _:=hr.mono (by decide)
   have QU:dW 5 _:=hr.mono (by decide)
   have YL:dW 4 _:=hr.mono (by decide)
   have Qp:dW 3 _:=hr.mono (by decide)
   refine ⟨_,au (dY (cF (pv 0) T.aK T.ni GM YN T.mV .nil fB (af (pv 1) az)))
     (au (aZ (i:=4) wV.nd rfl (Or.inl rfl) (cF (pv 0) T.aK T.aN GB QU T.aM .nil fB (af aT (af aT (af (bK rfl g1 (v:=.int 128) ⟨_,rfl⟩) az)))))
     (au (aZ (i:=5) wV.nd rfl (Or.inl rfl) (cF (pv 0) T.aK T.aN GB QU T.aM .nil fB (af aT (af aT (af (bK rfl g2 (v:=.int 192) ⟨_,rfl⟩) az)))))
     (au (aZ (i:=6) wV.nd rfl (Or.inl rfl) (cF (pv 0) T.aK T.lU GA hr T.lR .nil fB (af (pv 4) (af (pv 2) az))))
     (au (aZ (i:=7) wV.nd rfl (Or.inl rfl) (cF (pv 0) T.aK T.lV GO hr T.lT .nil fB (af (pv 4) (af (pv 5) (af (pv 3) az)))))
     (au (dY (OE (pv 0) T.aK T.oA GE YL T.o8 .nil fB))
     (aH (cT (z7 T.MA GI Qp rfl T.Ho T.sA .nil f9 (af (pv 6) (af (pv 7) az)))))))))),?_⟩
   obtain ⟨d0,e0⟩:=R.obj
   refine ⟨_,rfl,r,d0,_,rfl,e0,rfl,_,rfl,?_⟩
   refine ⟨r,m,M,x,rfl,R,hM,c8.andThen'.mono fun y1 hy1 c8 H1 R1 F1=>?_⟩
   obtain ⟨d1,e1⟩:=R1.obj
   refine ⟨_,rfl,r,d1,_,rfl,e1,rfl,?_⟩
   refine ⟨r,1,0,128,_,rfl,R1,.inl rfl,pI.good (g':=fun v=>decide (v<=Fk.ATOMS)) (fun v=>by rw [Bool.eq_iff_iff];simp only [Bool.and_eq_true,decide_eq_true_eq];unfold Fk.ATOMS;omega) (c8.andThen'.mono fun n hn c8 H2 R2 F2=>?_)⟩
   obtain ⟨d2,e2⟩:=R2.obj
   have WL:n.1<=128:=of_decide_eq_true (JM.bB hn).2.1
   refine ⟨_,rfl,r,d2,_,rfl,e2,rfl,?_⟩
   refine ⟨r,1,0,192,_,rfl,R2,.inl rfl,pI.good (g':=fun v=>decide (v<=Fk.BONDS)) (fun v=>by rw [Bool.eq_iff_iff];simp only [Bool.and_eq_true,decide_eq_true_eq];unfold Fk.BONDS;omega) (c8.andThen'.mono fun mm hmm c8 H3 R3 F3=>?_)⟩
   obtain ⟨d3,e3⟩:=R3.obj
   have aag:mm.1<=192:=of_decide_eq_true (JM.bB hmm).2.1
   refine ⟨_,rfl,r,d3,_,rfl,e3,rfl,_,rfl,_,rfl,?_⟩
   refine ⟨r,n.1,_,rfl,R3,by omega,XA,c8.andThen'.mono fun y4 ZM c8 H4 la as R4 F4 nla hla ZN=>?_⟩
   obtain ⟨d4,e4⟩:=R4.obj
   refine ⟨_,rfl,r,d4,_,rfl,e4,rfl,_,rfl,_,rfl,_,rfl,?_⟩
   refine ⟨r,n.1,mm.1,_,rfl,R4,by omega,XC,c8.andThen'.mono fun y5 YU c8 H5 lb us R5 F5 nlb hlb RBs=>?_⟩
   obtain ⟨d5,e5⟩:=R5.obj
   refine ⟨_,rfl,r,d5,_,rfl,e5,rfl,?_⟩
   refine ⟨r,_,rfl,R5,c8.andThen'.mono fun y6 hy6 c8=>?_⟩
   have ZO:iz [r] H H3:=(F1.trans F2).trans F3
   have F14:iz [r,x.hp,x.sp] H H4:=(ZO.mono (by simp)).trans (F4.mono (by simp))
   have F15:iz [r,x.hp,x.sp] H H5:=F14.trans (F5.mono (by simp))
   have Ve:∀ b,H3 b=none->H b=none:=fun b h=>ZO.fresh e3 h
   have WM:∀ b,H4 b=none->H b=none:=fun b h=>by
     refine Ve b ?_
     cases q:H3 b with
     | none=>rfl
     | some o=>
       by_cases z1:b=r
       . rw [z1,e4] at h;cases h
       . by_cases z2:b=x.hp
         . have:=R4.hpl;rw [<- show b=x.hp from z2,h] at this;cases this
         . rw [F4 b o q (by simp [z1];exact z2)] at h;cases h
   have WN:∀ b,H b=none->b ≠ r/\b ≠ x.hp/\b ≠ x.sp:=fun b h=>by
     refine ⟨fun q=>?_,fun q=>?_,fun q=>?_⟩
     . rw [q,e0] at h;cases h
     . have:=R.hpl;rw [<- q,h] at this;cases this
     . have:=R.Le;rw [<- q,h] at this;cases this
   have YV:=Ve la nla
   have aah:=WM lb nlb
   have YW:H5 la=some (.lst as):=F5 la _ hla (by have:=WN la YV;simp [this.1];exact this.2.2)
   have RA5:gw RA (fun b=>H b=none/\b ≠ la) H5 as y4.1:=(ZN.mono WK (fun b d=>⟨Ve b d.1,d.2⟩)).stay WK fun b o d h=>F5 b o h (by have:=WN b d.1;simp [this.1];exact this.2.2)
   have YX:gw RB (fun b=>H4 b=none/\b ≠ lb) H5 us y5.1:=RBs
   have rise:=(JM.vA (ends:=ends) K4 YU).1
   have NR:as.length=n.1:=ZN.len.trans (JM.o6 ZM)
   refine ⟨_,rfl,_,rfl,fun o dx no nd ne=>?_⟩
   have Qx:∀ b u,H5 b=some u->upd (upd H5 dx (.own o)) o (.ins t.bU dx []) b=some u:=fun b u e=>by rw [aq (ay e no),aq (ay e nd)];exact e
   refine ⟨o,dx,la,lb,as,us,y5.1.map ends,rfl,ai,Qx _ _ YW,Qx _ _ hlb,by omega,?_,by rw [List.length_map];exact YX.len,fun i v q h1 h2=>?_,fun q hq=>?_,fun H7 lr rs GR F7=>⟨rfl,?_⟩⟩
   . rw [List.length_map,JM.rY YU];omega
   . rw [List.getElem?_map] at h2
     cases hz:y5.1[i]? with
     | none=>rw [hz] at h2;cases h2
     | some z=>
       rw [hz] at h2
       cases h2
       obtain ⟨o',rfl,_,o2,C2,dx2,fs2,e2',e3',rest⟩:=hE (YX.at_ i v z h1 hz)
       cases e2'
       exact ⟨⟨o',C2,dx2,fs2,rfl,Qx _ _ e3',rest⟩,fun z=>by cases z;rw [no] at e3';cases e3'⟩
   . have:=rise.1 q hq
     rw [NR]
     exact this
   . have F8:iz [] H5 H7:=iz.made no nd F7
     have rd7:=R5.stay F8 (by simp) (by simp) (by simp) (by simp)
     refine c8 H7 o la lb lr as us rs _ _ rd7 (F15.trans (F8.mono (by simp))) GR ((RA5.mono WK fun b d=>d.1).stay WK fun b u _ h=>F8 b u h (by simp)) ((YX.mono Wn fun b d=>WM b d.1).stay Wn fun b u _ h=>F8 b u h (by simp)) ?_
     rw [NR]
     exact rise
end
theorem E6 {K:PySem.W.Frag} {a:Addr} {xs:List V} {g:TG} {tb:TS} {D:Ends} {σ:L2.St} {H:Hp} (Pv:Nat->L2.St->Hp->Prop) (h0:Pv 0 σ H) (hl:∀ i σ H,i<=xs.length->Pv i σ H->dN K H a xs)
   (hs:∀ i x σ H T,xs[i]?=some x->Pv i σ H->H T=none->g (.ref T) σ (upd H T (.tup [.int (i:Nat),x])) fun σ2 H2=>tb { D with nx:=Pv (i+1),ct:=Pv (i+1),bk:=D.nx } σ2 H2) (hd:∀ σ H,Pv xs.length σ H->D.nx σ H) :
   ∃ W:Nat->Nat->L2.St->Hp->Prop,(∃ m,W 0 m σ H)/\∀ i m σ H,W i m σ H->
     ((W0 K a).stop i H/\D.nx σ H)\/((W0 K a).go i H/\∃ N:L2.St->Hp->Prop,(∀ σ' H',N σ' H'->∃ m',m' < m/\W (i+1) m' σ' H')/\∀ x H',(W0 K a).O3 i H x H'->g x σ H' fun σ2 H2=>tb { D with nx:=N,ct:=N,bk:=D.nx } σ2 H2):=by
 refine ⟨fun i m σ H=>m=xs.length - i/\i<=xs.length/\Pv i σ H,⟨xs.length,by simp,Nat.zero_le _,h0⟩,?_⟩
 rintro i m σ H ⟨rfl,hi,p⟩
 have q:=hl i σ H hi p
 by_cases hlt:i < xs.length
 . refine .inr ⟨⟨xs,xs[i],q,by simp [hlt]⟩,Pv (i+1),fun σ' H' p'=>⟨xs.length - (i+1),by omega,rfl,hlt,p'⟩,fun x H' y=>?_⟩
   obtain ⟨T,x',rfl,hT,rfl,y⟩:=y
   exact hs i x' σ H T (y xs q) p hT
 . have e:i=xs.length:=by omega
   subst e
   exact .inl ⟨⟨xs,q,Nat.le_refl _⟩,hd σ H p⟩
theorem Qy (h:Nat) (x y:Nat):V8 (.int (h:Int)) [.int (x:Int),.int (y:Int)]=(h==x||h==y):=by
 rw [Bool.eq_iff_iff]
 simp [V8,Rp]
 omega
theorem WO {n:Nat} (h:n<=1000):n < sizeLine:=by rw [sizeLine_eq];omega
section
variable {P:Program} {w:World} {K:PySem.W.Frag} {mg:Str->Option Value} {base:Heap} {t:Ad}
theorem aP {H:Hp} {p:Addr} {o:HO} (hp:H p=none):bu H (upd H p o):=fun b u e=>by rw [aq (ay e hp)];exact e
def Gp (K:PySem.W.Frag) (C:Addr):Sp:=fun vs H Q _=>∃ (g dx lr:Addr) (fs:List (Str×V)) (rs:List Addr) (n e o:Nat) (row:Nat->List Nat),vs=[.ref g,.int (e:Int),.int (o:Int)]/\H g=some (.ins C dx fs)/\fs.lookup ("neighbours":Str)=some (V.ref lr)/\gx H lr rs n row/\e < n/\(row e).length<=1000 /\
 ∀ H' l,bu H H'->H l=none->H' l=some (.lst (vN ((row e).filter fun x=>x != o)))->Q (.ref l) H'
theorem zx:aU ["self","end","other","atom"] ["self","end","other"] (ak bY):=⟨rfl,rfl,rfl,by decide +kernel,rfl,by decide +kernel,by decide +kernel⟩
theorem LO (T:Txt K mg t) {C:Addr} (cl:GD K C) (n3:bW K C "neighbours"):cE P w K mg base ve 1 t.bG t.i9 ["self","end","other"] (Gp K C):=by
 refine T.tM.ok zx (fun vs H Q E h=>?_) (fun cdv A outer s H vs Q E hr h=>?_)
 . obtain ⟨g,dx,lr,fs,rs,n,e,o,row,rfl,_⟩:=h
   rfl
 . obtain ⟨g,dx,lr,fs,rs,n,e,o,row,rfl,hg,hl,R,he,hlen,k⟩:=h
   obtain ⟨ra,Lf⟩:∃ ra,rs[e]?=some ra:=⟨_,List.getElem?_eq_getElem (by rw [R.len];exact he)⟩
   have hA:=R.at_ _ _ Lf
   have e1:(rs.map V.ref)[e]?=some (V.ref ra):=by rw [List.getElem?_map,Lf];rfl
   refine ⟨_,aH (cT (OT rfl zx.nd (ow (fV dS (aL (pv 0) rfl) (pv 1) (fun _ _=>rfl))) (qf (own:=[("atom",3)]) rfl) (fun _ _ _ _ _=>c7 (i:=3) zx.nd rfl (Or.inl rfl)) (fun _ _ _ _ _=>GZ (i8 Jm (pv 3) (pv 2) (g9 _))) (fun _ _ _ _ _=>pv 3))),?_⟩
   refine ⟨_,rfl,g,C,dx,fs,_,rfl,hg,cl,n3,hl,_,rfl,lr,_,_,_,rfl,rfl,dN.of R.lst,cV e1,ra,rfl,⟨_,dN.of hA⟩,?_⟩
   intro D hD
   refine z9 (K:=K) (a:=ra) (xs:=vN (row e)) (fun i H'=>bu H H'/\H' D=some (.lst (vN (((row e).take i).filter fun x=>x != o)))) ⟨aP hD,ai⟩ (fun i H' _ h=>dN.of (h.1 _ _ hA)) ?_ ?_
   . rintro i x H' hx ⟨sm,hD'⟩
     obtain ⟨c,hc,rfl⟩:∃ c,(row e)[i]?=some c/\x=V.int (c:Int):=by
       unfold vN at hx
       rw [List.getElem?_map] at hx
       cases q:(row e)[i]? with
       | none=>rw [q] at hx;cases hx
       | some c=>rw [q] at hx;exact ⟨c,rfl,(Option.some.inj hx).symm⟩
     refine ⟨rfl,_,rfl,_,rfl,rfl,_,rfl,?_⟩
     refine J2 (fun h=>?_) (fun h=>?_)
     . have ne:(c != o)=true:=by simp at h ⊢;omega
       refine ⟨_,rfl,_,hD',?_,fun b u e'=>?_,?_⟩
       . have:(((row e).take i).filter fun x=>x != o).length<=(row e).length:=Nat.le_trans (List.length_filter_le _ _) (by rw [List.length_take];omega)
         simp only [vN,List.length_map]
         exact WO (by omega)
       . rw [aq (ay e' hD)];exact sm b u e'
       . rw [ai,take_snoc hc,List.filter_append,List.filter_cons,if_pos ne]
         simp [vN]
     . have ne:¬ (c != o)=true:=by simp at h ⊢;omega
       refine ⟨sm,?_⟩
       rw [take_snoc hc,List.filter_append,List.filter_cons,if_neg ne]
       simpa using hD'
   . rintro H' ⟨sm,hD'⟩
     rw [show (vN (row e)).length=(row e).length by simp [vN],List.take_length] at hD'
     exact k H' D sm hD hD'
theorem pW.same {H H':Hp} {v:V} {q:Nat×Nat} (e:pW K H v q) (f:bu H H'):pW K H' v q:=let ⟨o,C,dx,fs,a,b,c⟩:=e;⟨o,C,dx,fs,a,f _ _ b,c⟩
end
end MP
namespace JM
open Fk
def uL (b:Bytes) (p:Nat):Except Fault ((Atom×Nat)×Bytes×Nat):=andThen (mP b p) fun y=>.ok ((y.1,y.2.2 - 1),y.2.1,y.2.2)
def nN (q:Nat×Nat) (b:Bytes) (p:Nat):Except Fault ((Bond×Nat)×Bytes×Nat):=andThen (k7 q b p) fun y=>.ok ((y.1,y.2.2 - 1),y.2.1,y.2.2)
theorem aO {α β:Type} {x:Except Fault α} {f:α->Except Fault β} {r:β} (h:andThen x f=.ok r):∃ a,x=.ok a/\f a=.ok r:=by
 cases x with
 | error e=>cases h
 | ok a=>exact ⟨a,rfl,h⟩
def T7 {α:Type} (y:List (α×Nat)×Bytes×Nat):List α×Bytes×Nat:=(y.1.map fun z=>z.1,y.2.1,y.2.2)
theorem K7 {α:Type} {one:Bytes->Nat->Except Fault (α×Bytes×Nat)}:∀ (k:Nat) (b:Bytes) (p:Nat),
   many one k b p=andThen (many (fun b p=>andThen (one b p) fun y=>.ok ((y.1,y.2.2 - 1),y.2.1,y.2.2)) k b p) fun y=>.ok (T7 y)
 | 0,b,p=>rfl
 | k+1,b,p=>by
   unfold many
   simp only [bw,bc]
   cases one b p with
   | error e=>rfl
   | ok x=>
     simp only [bc]
     rw [K7 k]
     simp only [bw,bc]
     rfl
theorem Gq {α:Type} {n:Nat} {one:Nat×Nat->Bytes->Nat->Except Fault (α×Bytes×Nat)}:∀ (k:Nat) (had:Option (Nat×Nat)) (b:Bytes) (p:Nat),
   fW n one k had b p=andThen (fW n (fun q b p=>andThen (one q b p) fun y=>.ok ((y.1,y.2.2 - 1),y.2.1,y.2.2)) k had b p) fun y=>.ok (T7 y)
 | 0,had,b,p=>rfl
 | k+1,had,b,p=>by
   unfold fW
   simp only [bw,bc]
   cases l8 n had b p with
   | error e=>rfl
   | ok q=>
     simp only [bc]
     cases one q.1 q.2.1 q.2.2 with
     | error e=>rfl
     | ok x=>
       simp only [bc]
       rw [Gq k]
       simp only [bw,bc]
       rfl
theorem wW {b:Bytes} {p:Nat} {y:Atom×Bytes×Nat} (h:mP b p=.ok y):y.2.2=p+6:=by
 unfold mP at h
 obtain ⟨a1,h1,h⟩:=aO h
 obtain ⟨a2,h2,h⟩:=aO h
 obtain ⟨a3,h3,h⟩:=aO h
 obtain ⟨a4,h4,h⟩:=aO h
 obtain ⟨a5,h5,h⟩:=aO h
 cases h
 have:=(bB h1).2.2.2.2
 have:=(bB h2).2.2.2.2
 have:=(bB h3).2.2.2.2
 have:=(bB h4).2.2.2.2
 have:=(bB h5).2.2.2.2
 simp only
 omega
theorem wX {q:Nat×Nat} {b:Bytes} {p:Nat} {y:Bond×Bytes×Nat} (h:k7 q b p=.ok y):y.2.2=p+2:=by
 unfold k7 at h
 obtain ⟨a1,h1,h⟩:=aO h
 obtain ⟨a2,h2,h⟩:=aO h
 cases h
 have:=(bB h1).2.2.2.2
 have:=(bB h2).2.2.2.2
 simp only
 omega
theorem ID {n:Nat} {had:Option (Nat×Nat)} {b:Bytes} {p:Nat} {y:(Nat×Nat)×Bytes×Nat} (h:l8 n had b p=.ok y):y.2.2=p+2:=by
 unfold l8 at h
 obtain ⟨a1,h1,h⟩:=aO h
 obtain ⟨a2,h2,h⟩:=aO h
 obtain ⟨a3,h3,h⟩:=aO h
 cases h
 have:=(bB h1).2.2.2.2
 have:=(bB h2).2.2.2.2
 simp only
 omega
theorem Bc:∀ {k:Nat} {b:Bytes} {p:Nat} {y:List (Atom×Nat)×Bytes×Nat},many uL k b p=.ok y->(∀ i z,y.1[i]?=some z->z.2=p+6 * i+5)/\y.2.2=p+6 * k
 | 0,b,p,y,h=>by
   cases h
   exact ⟨fun i z h=>by simp at h,rfl⟩
 | k+1,b,p,y,h=>by
   unfold many at h
   obtain ⟨x,h1,h⟩:=aO h
   obtain ⟨l,h2,h⟩:=aO h
   cases h
   unfold uL at h1
   obtain ⟨w,h3,h1⟩:=aO h1
   cases h1
   have e1:=wW h3
   obtain ⟨i1,i2⟩:=Bc h2
   simp only at i1 i2 ⊢
   refine ⟨fun i z hz=>?_,by omega⟩
   cases i with
   | zero=>
     cases hz
     simp only
     omega
   | succ i=>
     have:=i1 i z (by simpa using hz)
     omega
theorem Bd {n:Nat}:∀ {k:Nat} {had:Option (Nat×Nat)} {b:Bytes} {p:Nat} {y:List (Bond×Nat)×Bytes×Nat},fW n nN k had b p=.ok y->(∀ i z,y.1[i]?=some z->z.2=p+4 * i+3)
 | 0,had,b,p,y,h=>by
   cases h
   exact fun i z h=>by simp at h
 | k+1,had,b,p,y,h=>by
   unfold fW at h
   obtain ⟨q,h0,h⟩:=aO h
   obtain ⟨x,h1,h⟩:=aO h
   obtain ⟨l,h2,h⟩:=aO h
   cases h
   unfold nN at h1
   obtain ⟨w,h3,h1⟩:=aO h1
   cases h1
   have e0:=ID h0
   have e1:=wX h3
   have i1:=Bd h2
   simp only at i1 ⊢
   intro i z hz
   cases i with
   | zero=>
     cases hz
     simp only
     omega
   | succ i=>
     have:=i1 i z (by simpa using hz)
     omega
theorem Be:∀ {m b:Bytes} {p:Nat} {y:Bytes×Nat},iB m b p=.ok y->y.2=p+m.length
 | [],b,p,y,h=>by cases h;rfl
 | c::m,b,p,y,h=>by
   unfold iB at h
   obtain ⟨x,h1,h⟩:=aO h
   obtain ⟨u,h2,h⟩:=aO h
   have e:=Be h
   have:=(bB h1).2.2.2.2
   simp only [List.length_cons]
   omega
abbrev bO:=List (Atom×Nat)×List (Bond×Nat)
def aG (y:bO):Mol:=⟨y.1.map fun z=>z.1,y.2.map fun z=>z.1⟩
def Dj (M:Mol) (z:(Atom×Nat)×Nat):Bool:=z.1.1.hand != 0&&!M.handed z.2
def Dk (M:Mol) (z:(Bond×Nat)×Nat):Bool:=z.1.1.side != 0&&!M.sided z.2
def Gr (M:Mol) (l:List ((Bond×Nat)×Nat)):Except Fault Mol:=match l.find? (Dk M) with
 | some z=>.error ⟨6,z.1.2⟩
 | none=>.ok M
def E7 (M:Mol) (l:List ((Atom×Nat)×Nat)) (m:List ((Bond×Nat)×Nat)):Except Fault Mol:=match l.find? (Dj M) with
 | some z=>.error ⟨4,z.1.2⟩
 | none=>Gr M m
theorem LP (M:Mol) (z:(Atom×Nat)×Nat) (l:List ((Atom×Nat)×Nat)) (m:List ((Bond×Nat)×Nat)):E7 M (z::l) m=if Dj M z=true then .error ⟨4,z.1.2⟩ else E7 M l m:=by
 unfold E7
 rw [List.find?_cons]
 cases Dj M z<;>rfl
theorem LQ (M:Mol) (z:(Bond×Nat)×Nat) (l:List ((Bond×Nat)×Nat)):Gr M (z::l)=if Dk M z=true then .error ⟨6,z.1.2⟩ else Gr M l:=by
 unfold Gr
 rw [List.find?_cons]
 cases Dk M z<;>rfl
theorem E8 {α:Type} (l:List α) (f:Nat->Bool) (g:α×Nat->Bool) (h:∀ i x,l[i]?=some x->f i=g (x,i)):(List.range l.length).find? f=(l.zipIdx.find? g).map (·.2):=by
 have e:List.range l.length=l.zipIdx.map (·.2):=by
   rw [List.zipIdx_map_snd,List.range'_eq_map_range]
   simp
 rw [e,List.find?_map]
 congr 1
 have:∀ m:List (α×Nat),(∀ z ∈ m,l[z.2]?=some z.1)->m.find? (f ∘ fun z=>z.2)=m.find? g:=by
   intro m
   induction m with
   | nil=>intro _;rfl
   | cons z m ih=>
     intro hm
     rw [List.find?_cons,List.find?_cons,ih fun w hw=>hm w (by simp [hw])]
     have:(f ∘ fun z:α×Nat=>z.2) z=g z:=h z.2 z.1 (hm z (by simp))
     rw [this]
 exact this _ fun z hz=>by
   have:=List.mem_zipIdx hz
   simp at this
   rw [List.getElem?_eq_getElem (by omega)]
   exact congrArg some this.2.symm
theorem K8 (b:Bytes):judgeMol b =
   andThen (iB MOLMARK b 0) fun m=>
   andThen (numIn 1 (fun v=>decide (v<=ATOMS)) m.1 m.2) fun n=>
   andThen (numIn 1 (fun v=>decide (v<=BONDS)) n.2.1 n.2.2) fun k=>
   andThen (many uL n.1 k.2.1 k.2.2) fun x=>
   andThen (fW n.1 nN k.1 none x.2.1 x.2.2) fun y=>
   andThen (need y.2.1.isEmpty 7 y.2.2) fun _=>E7 (aG (x.1,y.1)) x.1.zipIdx y.1.zipIdx:=by
 unfold judgeMol
 simp only [RE,Eb,Ec]
 refine gf rfl fun m hm=>gf rfl fun n hn=>gf rfl fun k hk=>?_
 rw [K7,bw]
 refine gf rfl fun x hx=>?_
 rw [bc,Gq,bw]
 show andThen (fW n.1 nN k.1 none x.2.1 x.2.2) _=_
 refine gf rfl fun y hy=>?_
 rw [bc]
 refine gf rfl fun _ _=>?_
 have pl:k.2.2=6:=by
   have h1:=Be hm
   have h2:=(bB hn).2.2.2.2
   have h3:=(bB hk).2.2.2.2
   have:MOLMARK.length=4:=rfl
   omega
 obtain ⟨pa,pe⟩:=Bc hx
 have pb:=Bd hy
 have hlen:=o6 hx
 show (match (List.range (aG (x.1,y.1)).n).find? fun v=>((aG (x.1,y.1)).atom v).hand != 0&&!(aG (x.1,y.1)).handed v with
   | some v=>Except.error (⟨4,6+6 * v+5⟩:Fault)
   | none=>match (List.range (aG (x.1,y.1)).bonds.length).find? fun j=>((aG (x.1,y.1)).bonds[j]?.map Bond.side).getD 0 != 0&&!(aG (x.1,y.1)).sided j with
     | some j=>.error ⟨6,6+6 * (aG (x.1,y.1)).n+4 * j+3⟩
     | none=>.ok (aG (x.1,y.1)))=_
 have en:(aG (x.1,y.1)).n=x.1.length:=by simp [aG,Mol.n]
 have eb:(aG (x.1,y.1)).bonds.length=y.1.length:=by simp [aG]
 rw [en,eb,E8 x.1 _ (Dj (aG (x.1,y.1))) fun i z hz=>by
   have e:(aG (x.1,y.1)).atom i=z.1:=by simp [Mol.atom,aG,List.getD,hz]
   unfold Dj
   rw [e],E8 y.1 _ (Dk (aG (x.1,y.1))) fun i z hz=>by
   have e:(aG (x.1,y.1)).bonds[i]?=some z.1:=by simp [aG,hz]
   unfold Dk
   rw [e]
   rfl]
 unfold E7 Gr
 cases h1:x.1.zipIdx.find? (Dj (aG (x.1,y.1))) with
 | some z=>
   have hm:=List.mem_zipIdx (List.mem_of_find?_eq_some h1)
   simp at hm
   have:=pa z.2 z.1 (by rw [List.getElem?_eq_getElem (by omega)];exact congrArg some hm.2.symm)
   simp only [Option.map_some]
   rw [this,pl]
 | none=>
   simp only [Option.map_none]
   cases h2:y.1.zipIdx.find? (Dk (aG (x.1,y.1))) with
   | some z=>
     have hm:=List.mem_zipIdx (List.mem_of_find?_eq_some h2)
     simp at hm
     have:=pb z.2 z.1 (by rw [List.getElem?_eq_getElem (by omega)];exact congrArg some hm.2.symm)
     simp only [Option.map_some]
     rw [this,pe,pl,hlen]
   | none=>rfl
def aS (z:Bond×Nat):Nat×Nat:=(z.1.a,z.1.b)
theorem E9 (q:Nat×Nat) (b:Bytes) (p:Nat) (x:(Bond×Nat)×Bytes×Nat) (h:nN q b p=.ok x):aS x.1=q:=by
 unfold nN at h
 obtain ⟨w,h3,h⟩:=aO h
 cases h
 unfold k7 at h3
 obtain ⟨a1,h1,h3⟩:=aO h3
 obtain ⟨a2,h2,h3⟩:=aO h3
 cases h3
 rfl
theorem IE {M:Mol} (h:vy M.n (M.bonds.map fun x=>(x.a,x.b))) (v:Nat):M.beside v=dX (M.bonds.map fun x=>(x.a,x.b)) v:=by
 unfold Mol.beside
 refine JJ h v _ fun w=>?_
 rw [List.any_map]
 unfold Mol.joined Mol.bond
 rw [Bool.eq_iff_iff,List.find?_isSome,List.any_eq_true]
 rfl
end JM
namespace JM
open Fk
abbrev tD:=List ((Nat×Nat)×Nat)
def eV (q:Nat×Nat) (v:Nat):Bool:=q.1==v||q.2==v
def jw (z:tD) (v:Nat):Nat:=(z.map fun x=>if eV x.1 v=true then x.2 else 0).sum
theorem K9 (v:Nat):jw [] v=0:=rfl
theorem mL (x:(Nat×Nat)×Nat) (z:tD) (v:Nat):jw (x::z) v=(if eV x.1 v=true then x.2 else 0)+jw z v:=by simp [jw]
theorem C9 (y z:tD) (v:Nat):jw (y++z) v=jw y v+jw z v:=by simp [jw]
def pX (bs:List (Nat×Nat)) (v:Nat):Nat:=(bs.filter fun q=>eV q v).length
theorem KA (q:Nat×Nat) (bs:List (Nat×Nat)) (v:Nat):pX (q::bs) v=(if eV q v=true then 1 else 0)+pX bs v:=by
 unfold pX
 rw [List.filter_cons]
 cases eV q v<;>simp
 omega
def Qz (z:tD):Prop:=∀ x ∈ z,1<=x.2/\x.2<=3
theorem pJ:∀ {z:tD},Qz z->∀ v,pX (z.map fun x=>x.1) v<=jw z v/\jw z v<=3 * pX (z.map fun x=>x.1) v
 | [],_,v=>by simp [pX,jw]
 | x::z,h,v=>by
   have ih:=pJ (z:=z) (fun y hy=>h y (by simp [hy])) v
   have hx:=h x (by simp)
   rw [List.map_cons,KA,mL]
   cases eV x.1 v with
   | true=>simp only [if_true];omega
   | false=>simp only [Bool.false_eq_true,if_false];omega
def less (s:List Int) (q:Nat×Nat) (o:Nat):List Int:=(s.modify q.1 (· - (o:Int))).modify q.2 (· - (o:Int))
theorem KC (s:List Int) (q:Nat×Nat) (o:Nat):(less s q o).length=s.length:=by simp [less]
theorem less_get {s:List Int} {q:Nat×Nat} (hq:q.1 < q.2) (o v:Nat):(less s q o)[v]?=(s[v]?).map fun x=>if eV q v=true then x - (o:Int) else x:=by
 unfold less eV
 rw [List.getElem?_modify,List.getElem?_modify]
 by_cases h1:q.1=v
 . have h2:¬ q.2=v:=by omega
   cases s[v]?<;>simp [h1,h2]
 . by_cases h2:q.2=v
   . cases s[v]?<;>simp [h1,h2]
   . cases s[v]?<;>simp [h1,h2]
def run (s:List Int) (z:tD):List Int:=z.foldl (fun s x=>less s x.1 x.2) s
theorem nO (s:List Int) (y z:tD):run s (y++z)=run (run s y) z:=by simp [run]
theorem Su (s:List Int) (z:tD):(run s z).length=s.length:=by
 induction z generalizing s with
 | nil=>rfl
 | cons x z ih=>exact (ih _).trans (KC _ _ _)
theorem run_get:∀ {z:tD} {s:List Int} (_:∀ x ∈ z,x.1.1 < x.1.2) (v:Nat),(run s z)[v]?=(s[v]?).map fun x=>x - (jw z v:Int)
 | [],s,_,v=>by
   show s[v]?=_
   cases s[v]?<;>simp [jw]
 | x::z,s,h,v=>by
   have ih:=run_get (z:=z) (s:=less s x.1 x.2) (fun y hy=>h y (by simp [hy])) v
   show (run (less s x.1 x.2) z)[v]?=_
   rw [ih,less_get (h x (by simp)),mL]
   cases s[v]? with
   | none=>rfl
   | some u=>
     cases eV x.1 v with
     | true=>simp;omega
     | false=>simp
structure Valid (n:Nat) (S:List Int) (bs:List (Nat×Nat)) (z:tD):Prop where
 of:z.map (fun x=>x.1)=bs
 all:Qz z
 sum:∀ v,v < n->S[v]?=some (jw z v:Int)
def met (left:Int) (k:Nat):Bool:=decide ((k:Int)<=left)&&decide (left<=3 * (k:Int))
def IF (S:List Int) (bs:List (Nat×Nat)):Nat->List Int->Prop
 | 0,s=>s=S
 | k+1,s'=>∃ s q o,IF S bs k s/\bs[k]?=some q/\(1<=o/\o<=3)/\s'=less s q o/\met (s'.getD q.1 0) (pX (bs.drop (k+1)) q.1)=true/\met (s'.getD q.2 0) (pX (bs.drop (k+1)) q.2)=true
def LR (S:List Int) (bs:List (Nat×Nat)):Nat->List Int->Prop
 | 0,s=>IF S bs bs.length s
 | j+1,s=>IF S bs (bs.length - (j+1)) s/\∃ q o,bs[bs.length - (j+1)]?=some q/\(1<=o/\o<=3)/\LR S bs j (less s q o)
def Found (S:List Int) (bs:List (Nat×Nat)) (k o:Nat):Prop:=∃ s q,IF S bs k s/\bs[k]?=some q/\LR S bs (bs.length - (k+1)) (less s q o)
section
variable {n:Nat} {S:List Int} {bs:List (Nat×Nat)}
theorem IF.way:∀ {k:Nat} {s:List Int},IF S bs k s->∃ z:tD,z.map (fun x=>x.1)=bs.take k/\Qz z/\s=run S z
 | 0,s,h=>⟨[],by simp,fun x hx=>by simp at hx,h⟩
 | k+1,s',⟨s,q,o,hL,hq,ho,hs,_⟩=>by
   obtain ⟨z,h1,h2,h3⟩:=hL.way
   refine ⟨z++[(q,o)],?_,?_,?_⟩
   . rw [List.map_append,h1,List.take_add_one,hq]
     rfl
   . intro x hx
     rcases List.mem_append.mp hx with hx | hx
     . exact h2 x hx
     . rw [List.mem_singleton.mp hx];exact ho
   . rw [nO,<- h3,hs]
     rfl
theorem IF.len {k:Nat} {s:List Int} (h:IF S bs k s):s.length=S.length:=by
 obtain ⟨z,_,_,rfl⟩:=h.way
 exact Su _ _
theorem tE {α:Type} {l:List α} {k:Nat} {x:α} (h:l[k]?=some x):l.drop k=x::l.drop (k+1):=by
 obtain ⟨hl,hg⟩:=List.getElem?_eq_some_iff.mp h
 rw [List.drop_eq_getElem_cons hl,hg]
theorem IF.zero (hr:∀ q ∈ bs,q.1 < q.2) (hS:∀ v x,S[v]?=some x->pX bs v=0->x=0):∀ {k:Nat} {s:List Int},IF S bs k s->∀ v x,s[v]?=some x->pX (bs.drop k) v=0->x=0
 | 0,s,h,v,x,hx,hb=>by
   rw [show s=S from h] at hx
   exact hS v x hx (by simpa using hb)
 | k+1,s',⟨s,q,o,hL,hq,ho,hs,m1,m2⟩,v,x,hx,hb=>by
   have hlt:q.1 < q.2:=hr q (List.mem_of_getElem? hq)
   by_cases t1:q.1=v
   . have e:s'.getD q.1 0=x:=by rw [List.getD,t1,hx];rfl
     rw [e,t1,hb] at m1
     unfold met at m1
     simp only [Bool.and_eq_true,decide_eq_true_eq] at m1
     omega
   . by_cases t2:q.2=v
     . have e:s'.getD q.2 0=x:=by rw [List.getD,t2,hx];rfl
       rw [e,t2,hb] at m2
       unfold met at m2
       simp only [Bool.and_eq_true,decide_eq_true_eq] at m2
       omega
     . have ht:eV q v=false:=by simp [eV,t1,t2]
       rw [hs,less_get hlt,ht] at hx
       cases hy:s[v]? with
       | none=>rw [hy] at hx;cases hx
       | some y=>
         rw [hy] at hx
         have e:y=x:=by simpa using hx
         subst e
         refine IF.zero hr hS hL v y hy ?_
         rw [tE hq,KA,ht,hb]
         rfl
theorem LR.way:∀ {j:Nat} {s:List Int},j<=bs.length->LR S bs j s->∃ z:tD,z.map (fun x=>x.1)=bs.drop (bs.length - j)/\Qz z/\IF S bs bs.length (run s z)
 | 0,s,_,h=>⟨[],by simp,fun x hx=>by simp at hx,h⟩
 | j+1,s,hj,⟨_,q,o,hq,ho,hW⟩=>by
   obtain ⟨z,h1,h2,h3⟩:=hW.way (by omega)
   refine ⟨(q,o)::z,?_,?_,h3⟩
   . rw [List.map_cons,h1,tE hq,show bs.length - (j+1)+1=bs.length - j by omega]
   . intro x hx
     rcases List.mem_cons.mp hx with hx | hx
     . rw [hx];exact ho
     . exact h2 x hx
theorem KD (hr:∀ q ∈ bs,q.1 < q.2) (hn:S.length=n) (hS:∀ v x,S[v]?=some x->pX bs v=0->x=0) {k o:Nat} (ho:1<=o/\o<=3) (h:Found S bs k o):∃ z,Valid n S bs z/\(z[k]?).map (fun x=>x.2)=some o:=by
 obtain ⟨s,q,hL,hq,hW⟩:=h
 have hk:k < bs.length:=(List.getElem?_eq_some_iff.mp hq).1
 obtain ⟨y,y1,y2,y3⟩:=hL.way
 obtain ⟨z,z1,z2,z3⟩:=hW.way (by omega)
 have yl:y.length=k:=by
   have:=congrArg List.length y1
   simp at this
   omega
 have e:(y++(q,o)::z).map (fun x=>x.1)=bs:=by
   rw [List.map_append,List.map_cons,y1,z1,show bs.length - (bs.length - (k+1))=k+1 by omega]
   show bs.take k++q::bs.drop (k+1)=bs
   rw [<- tE hq,List.take_append_drop]
 have er:run S (y++(q,o)::z)=run (less s q o) z:=by
   rw [nO,<- y3]
   rfl
 have hlt:∀ x ∈ y++(q,o)::z,x.1.1 < x.1.2:=fun x hx=>hr x.1 (by rw [<- e];exact List.mem_map_of_mem hx)
 refine ⟨y++(q,o)::z,⟨e,?_,fun v hv=>?_⟩,?_⟩
 . intro x hx
   rcases List.mem_append.mp hx with hx | hx
   . exact y2 x hx
   . rcases List.mem_cons.mp hx with hx | hx
     . rw [hx];exact ho
     . exact z2 x hx
 . have g:=run_get (s:=S) hlt v
   have ZP:S[v]?=some S[v]:=List.getElem?_eq_getElem (by omega)
   rw [er,ZP] at g
   have h0:S[v] - (jw (y++(q,o)::z) v:Int)=0:=z3.zero hr hS v _ g (by simp [pX])
   rw [ZP]
   congr 1
   omega
 . rw [List.getElem?_append_right (by omega),yl,Nat.sub_self]
   rfl
theorem Valid.at {z:tD} (h:Valid n S bs z) {k:Nat} {x:(Nat×Nat)×Nat} (hz:z[k]?=some x):bs[k]?=some x.1:=by
 have:=congrArg (fun l=>l[k]?) h.of
 simp only [List.getElem?_map,hz] at this
 exact this.symm
theorem xu (hr:∀ q ∈ bs,q.1 < q.2/\q.2 < n) (hn:S.length=n) {z:tD} (h:Valid n S bs z):∀ k,k<=bs.length->IF S bs k (run S (z.take k))
 | 0,_=>rfl
 | k+1,hk=>by
   have ih:=xu hr hn h k (by omega)
   have zl:z.length=bs.length:=by rw [<- h.of];simp
   have hz:z[k]?=some z[k]:=List.getElem?_eq_getElem (by omega)
   have hq:bs[k]?=some z[k].1:=h.at hz
   have hlt:=hr _ (List.mem_of_getElem? hq)
   have e:run S (z.take (k+1))=less (run S (z.take k)) z[k].1 z[k].2:=by
     rw [List.take_add_one,hz,nO]
     rfl
   have a3:=h.all z[k] (List.getElem_mem _)
   have hm:∀ v,v < n->met ((run S (z.take (k+1))).getD v 0) (pX (bs.drop (k+1)) v)=true:=fun v hv=>by
     have g:=run_get (s:=S) (z:=z.take (k+1)) (fun x hx=>(hr x.1 (by rw [<- h.of];exact List.mem_map_of_mem (List.mem_of_mem_take hx))).1) v
     rw [h.sum v hv] at g
     have c:jw z v=jw (z.take (k+1)) v+jw (z.drop (k+1)) v:=by rw [<- C9,List.take_append_drop]
     have b:=pJ (z:=z.drop (k+1)) (fun x hx=>h.all x (List.mem_of_mem_drop hx)) v
     rw [List.map_drop,h.of] at b
     have e:(run S (z.take (k+1))).getD v 0=(jw z v:Int) - (jw (z.take (k+1)) v:Int):=by
       rw [List.getD,g];rfl
     rw [e]
     unfold met
     simp only [Bool.and_eq_true,decide_eq_true_eq]
     omega
   exact ⟨_,z[k].1,z[k].2,ih,hq,a3,e,hm _ (by omega),hm _ (by omega)⟩
theorem Gs (hr:∀ q ∈ bs,q.1 < q.2/\q.2 < n) (hn:S.length=n) {z:tD} (h:Valid n S bs z):∀ j,j<=bs.length->LR S bs j (run S (z.take (bs.length - j)))
 | 0,_=>by
   have:=xu hr hn h bs.length (Nat.le_refl _)
   exact this
 | j+1,hj=>by
   have ih:=Gs hr hn h j (by omega)
   have zl:z.length=bs.length:=by rw [<- h.of];simp
   have hz:z[bs.length - (j+1)]?=some z[bs.length - (j+1)]:=List.getElem?_eq_getElem (by omega)
   have hq:bs[bs.length - (j+1)]?=some z[bs.length - (j+1)].1:=h.at hz
   refine ⟨xu hr hn h _ (by omega),_,z[bs.length - (j+1)].2,hq,h.all _ (List.getElem_mem _),?_⟩
   have e:run S (z.take (bs.length - j))=less (run S (z.take (bs.length - (j+1)))) z[bs.length - (j+1)].1 z[bs.length - (j+1)].2:=by
     rw [show bs.length - j=bs.length - (j+1)+1 by omega,List.take_add_one,hz,nO]
     rfl
   rw [<- e]
   exact ih
theorem KG (hr:∀ q ∈ bs,q.1 < q.2/\q.2 < n) (hn:S.length=n) {z:tD} (h:Valid n S bs z) {k o:Nat} (hk:(z[k]?).map (fun x=>x.2)=some o):Found S bs k o:=by
 have zl:z.length=bs.length:=by rw [<- h.of];simp
 cases hz:z[k]? with
 | none=>rw [hz] at hk;cases hk
 | some x=>
   rw [hz] at hk
   have ho:x.2=o:=by simpa using hk
   have hlt:k < z.length:=(List.getElem?_eq_some_iff.mp hz).1
   refine ⟨run S (z.take k),x.1,xu hr hn h k (by omega),by rw [<- h.of,List.getElem?_map,hz];rfl,?_⟩
   have w:=Gs hr hn h (bs.length - (k+1)) (by omega)
   rw [show bs.length - (bs.length - (k+1))=k+1 by omega,List.take_add_one,hz,nO] at w
   rw [<- ho]
   exact w
end
end JM
namespace JM
open Fk
theorem Gu (l:List Nat) (v n i:Nat):(addTo l v n)[i]?=(l[i]?).map fun x=>if i=v then x+n else x:=by
 unfold addTo
 rw [List.getElem?_map,List.getElem?_zipIdx]
 cases l[i]?<;>simp
theorem Gv (l:List Nat) (v n:Nat):(addTo l v n).length=l.length:=by simp [addTo]
def wY (x:Bond):Nat×Nat:=(x.a,x.b)
theorem KH {part:List Nat} {x:Bond} (hx:x.a < x.b) (o v:Nat) (hv:v < part.length):(addTo (addTo part x.a o) x.b o).getD v 0=part.getD v 0+(if eV (wY x) v=true then o else 0):=by
 have e:part[v]?=some part[v]:=List.getElem?_eq_getElem hv
 rw [List.getD,List.getD,Gu,Gu,e]
 unfold eV wY
 by_cases h1:x.a=v
 . have h2:¬ v=x.b:=by omega
   simp [h1,h2]
 . by_cases h2:x.b=v
   . have h3:¬ v=x.a:=by omega
     simp [h2,h3]
   . have h3:¬ v=x.a:=by omega
     have h4:¬ v=x.b:=by omega
     simp [h1,h2,h3,h4]
theorem D4 {α β:Type}:∀ (l:List α) (r:List β),l.length=r.length->(l.zip r).map (fun x=>x.1)=l
 | [],[],_=>rfl
 | [],_::_,h=>by simp at h
 | _::_,[],h=>by simp at h
 | a::l,b::r,h=>by simp [D4 l r (by simpa using h)]
theorem Bf {α β:Type}:∀ (l:List α) (r:List β),l.length=r.length->(l.zip r).map (fun x=>x.2)=r
 | [],[],_=>rfl
 | [],_::_,h=>by simp at h
 | _::_,[],h=>by simp at h
 | a::l,b::r,h=>by simp [Bf l r (by simpa using h)]
theorem IG {l:List (Nat×Nat)} {r:List Nat} (h:∀ o ∈ r,1<=o/\o<=3):Qz (l.zip r):=fun x hx=>h x.2 (List.of_mem_zip hx).2
theorem Vf (l:List Bond) (v:Nat):pX (l.map wY) v=(l.filter fun x=>x.at_ v).length:=by
 unfold pX
 rw [List.filter_map,List.length_map]
 rfl
theorem pY (want:List Nat):∀ (l:List Bond) (part:List Nat),part.length=want.length->(∀ x ∈ l,x.a < x.b/\x.b < want.length)->∀ r,r ∈ ordersFor want l part ↔
   (r.length=l.length/\(∀ o ∈ r,1<=o/\o<=3)/\∀ v,v < want.length->want.getD v 0=part.getD v 0+jw ((l.map wY).zip r) v)
 | [],part,hp,_,r=>by
   unfold ordersFor
   by_cases h:part=want
   . subst h
     simp [jw]
     rintro rfl
     simp
   . have:(part==want)=false:=by simpa using h
     rw [this]
     simp only [Bool.false_eq_true,if_false,List.not_mem_nil,false_iff]
     rintro ⟨h1,_,h3⟩
     have hr:r=[]:=List.eq_nil_of_length_eq_zero (by simpa using h1)
     subst hr
     refine h (List.ext_getElem? fun v=>?_)
     by_cases hv:v < want.length
     . have:=h3 v hv
       simp only [List.map_nil,List.zip_nil_left,K9] at this
       rw [List.getElem?_eq_getElem hv,List.getElem?_eq_getElem (by omega)]
       rw [List.getD,List.getD,List.getElem?_eq_getElem hv,List.getElem?_eq_getElem (show v < part.length by omega)] at this
       simp only [Option.getD_some] at this
       rw [show part[v]=want[v] by omega]
     . rw [List.getElem?_eq_none (by omega),List.getElem?_eq_none (by omega)]
 | x::l,part,hp,hx,r=>by
   have hxa:=hx x (by simp)
   have hl:∀ y ∈ l,y.a < y.b/\y.b < want.length:=fun y hy=>hx y (by simp [hy])
   unfold ordersFor
   rw [List.mem_flatMap]
   have WQ:∀ o,(addTo (addTo part x.a o) x.b o).length=want.length:=fun o=>by rw [Gv,Gv,hp]
   constructor
   . rintro ⟨o,ho,hr⟩
     have ho':1<=o/\o<=3:=by
       simp at ho
       omega
     simp only at hr
     split at hr
     . obtain ⟨r',hr',rfl⟩:=List.mem_map.mp hr
       obtain ⟨h1,h2,h3⟩:=(pY want l _ (WQ o) hl r').mp hr'
       refine ⟨by simp [h1],fun y hy=>?_,fun v hv=>?_⟩
       . rcases List.mem_cons.mp hy with hy | hy
         . rw [hy];exact ho'
         . exact h2 y hy
       . have:=h3 v hv
         rw [KH hxa.1 o v (by omega)] at this
         rw [List.map_cons,List.zip_cons_cons,mL]
         dsimp only
         omega
     . simp at hr
   . rintro ⟨h1,h2,h3⟩
     cases r with
     | nil=>simp at h1
     | cons o r'=>
       have ho:=h2 o (by simp)
       have h3':∀ v,v < want.length->want.getD v 0=(addTo (addTo part x.a o) x.b o).getD v 0+jw ((l.map wY).zip r') v:=fun v hv=>by
         have:=h3 v hv
         rw [List.map_cons,List.zip_cons_cons,mL] at this
         rw [KH hxa.1 o v (by omega)]
         dsimp only at this
         omega
       have hlen:r'.length=l.length:=by simpa using h1
       have a3:∀ y ∈ r',1<=y/\y<=3:=fun y hy=>h2 y (by simp [hy])
       have can:∀ v,v < want.length->canStill (addTo (addTo part x.a o) x.b o) want l v=true:=fun v hv=>by
         have b:=pJ (z:=(l.map wY).zip r') (IG a3) v
         rw [D4 _ _ (by simp [hlen]),Vf] at b
         have:=h3' v hv
         unfold canStill
         simp only [Bool.and_eq_true,decide_eq_true_eq]
         omega
       refine ⟨o,by simp;omega,?_⟩
       simp only
       rw [can x.a (by omega),can x.b hxa.2]
       simp only [Bool.and_self,if_true]
       exact List.mem_map.mpr ⟨r',(pY want l _ (WQ o) hl r').mpr ⟨hlen,a3,h3'⟩,rfl⟩
theorem KI:∀ (l:List Nat) (a:Nat),l.foldl (· + ·) a=a+l.sum
 | [],a=>by simp
 | x::l,a=>by rw [List.foldl_cons,KI l,List.sum_cons];omega
theorem MI:∀ (l:List Bond) (v:Nat),((l.filter fun x=>x.at_ v).map Bond.order).sum=jw ((l.map wY).zip (l.map Bond.order)) v
 | [],v=>rfl
 | x::l,v=>by
   have ih:=MI l v
   rw [List.map_cons,List.map_cons,List.zip_cons_cons,mL,<- ih,List.filter_cons]
   show _=(if x.at_ v=true then x.order else 0)+_
   cases x.at_ v<;>simp
section
variable {M:Mol}
def dU (M:Mol):List (Nat×Nat):=M.bonds.map wY
def ie (M:Mol):List Int:=M.sums.map fun (n:Nat)=>(n:Int)
theorem KJ (v:Nat):M.sum v=jw ((dU M).zip M.orders) v:=by
 unfold Mol.sum
 rw [KI,Nat.zero_add]
 exact MI _ _
theorem jx {v:Nat} (hv:v < M.n):M.sums[v]?=some (M.sum v):=by
 unfold Mol.sums
 rw [List.getElem?_map,List.getElem?_range hv]
 rfl
theorem Bg:M.sums.length=M.n:=by simp [Mol.sums]
theorem xw:(ie M).length=M.n:=by simp [ie,Bg]
theorem Cg {v:Nat} (hv:v < M.n):(ie M)[v]?=some (M.sum v:Int):=by
 unfold ie
 rw [List.getElem?_map,jx hv]
 rfl
structure iG (M:Mol):Prop where
 ends:∀ q ∈ dU M,q.1 < q.2/\q.2 < M.n
 Sv:∀ x ∈ M.bonds,1<=x.order/\x.order<=3
theorem iG.own (g:iG M):Valid M.n (ie M) (dU M) ((dU M).zip M.orders):=by
 refine ⟨D4 _ _ (by simp [dU,Mol.orders]),IG fun o ho=>?_,fun v hv=>by rw [Cg hv,KJ]⟩
 obtain ⟨x,hx,rfl⟩:=List.mem_map.mp ho
 exact g.Sv x hx
theorem iG.zero (g:iG M):∀ v x,(ie M)[v]?=some x->pX (dU M) v=0->x=0:=fun v x hx hb=>by
 have hv:v < M.n:=by rw [<- xw];exact (List.getElem?_eq_some_iff.mp hx).1
 rw [g.own.sum v hv] at hx
 have b:=pJ g.own.all v
 rw [g.own.of,hb] at b
 have:=Option.some.inj hx
 omega
def EA (M:Mol):List (List Nat):=M.redrawings.map Mol.orders
theorem wZ {r:List Nat} (h:r.length=M.bonds.length):(M.ordered r).orders=r:=by
 unfold Mol.ordered Mol.orders
 simp only [List.map_map]
 show (M.bonds.zip r).map (fun x=>x.2)=r
 exact Bf _ _ h.symm
theorem iG.rows (g:iG M) (r:List Nat):r ∈ EA M ↔ r.length=M.bonds.length/\Valid M.n (ie M) (dU M) ((dU M).zip r):=by
 have e:∀ r',r' ∈ ordersFor M.sums M.bonds (M.sums.map fun _=>0) ↔ (r'.length=M.bonds.length/\(∀ o ∈ r',1<=o/\o<=3)/\∀ v,v < M.sums.length->M.sums.getD v 0=(M.sums.map fun _=>0).getD v 0+jw ((M.bonds.map wY).zip r') v):=
   pY _ _ _ (by simp) fun x hx=>by rw [Bg];exact g.ends (wY x) (List.mem_map_of_mem hx)
 have z:∀ v,(M.sums.map fun _=>0).getD v 0=0:=fun v=>by
   rw [List.getD,List.getElem?_map]
   cases M.sums[v]?<;>rfl
 constructor
 . intro h
   obtain ⟨N,hN,rfl⟩:=List.mem_map.mp h
   obtain ⟨r',hr',rfl⟩:=List.mem_map.mp hN
   obtain ⟨h1,h2,h3⟩:=(e r').mp hr'
   rw [wZ h1]
   refine ⟨h1,D4 _ _ (by simp [dU,h1]),IG h2,fun v hv=>?_⟩
   have:=h3 v (by rw [Bg];exact hv)
   rw [z,List.getD,jx hv] at this
   rw [Cg hv]
   simp only [Option.getD_some] at this
   rw [this]
   simp [dU]
 . rintro ⟨h1,h2⟩
   refine List.mem_map.mpr ⟨M.ordered r,List.mem_map.mpr ⟨r,(e r).mpr ⟨h1,fun o ho=>?_,fun v hv=>?_⟩,rfl⟩,wZ h1⟩
   . have e2:=Bf (dU M) r (by simp [dU,h1])
     rw [<- e2] at ho
     obtain ⟨x,hx,rfl⟩:=List.mem_map.mp ho
     exact h2.all x hx
   . rw [Bg] at hv
     have:=h2.sum v hv
     rw [Cg hv] at this
     rw [z,List.getD,jx hv]
     have:=Option.some.inj this
     simp only [Option.getD_some]
     show M.sum v=0+jw ((dU M).zip r) v
     omega
theorem iG.found (g:iG M) {k o:Nat} (hk:k < M.bonds.length) (ho:1<=o/\o<=3):Found (ie M) (dU M) k o ↔ ∃ r ∈ EA M,r[k]?=some o:=by
 constructor
 . intro h
   obtain ⟨z,hz,hk'⟩:=KD (fun q hq=>(g.ends q hq).1) xw g.zero ho h
   have zl:z.length=M.bonds.length:=by
     have:=congrArg List.length hz.of
     simpa [dU] using this
   have ez:(dU M).zip (z.map fun x=>x.2)=z:=by
     rw [<- hz.of,List.zip_map']
     simp
   refine ⟨z.map fun x=>x.2,(g.rows _).mpr ⟨by simp [zl],by rw [ez];exact hz⟩,?_⟩
   rw [List.getElem?_map]
   exact hk'
 . rintro ⟨r,hr,hk'⟩
   obtain ⟨h1,h2⟩:=(g.rows r).mp hr
   refine KG g.ends xw h2 ?_
   have e2:=Bf (dU M) r (by simp [dU,h1])
   rw [<- List.getElem?_map,e2]
   exact hk'
noncomputable def ig (P:Nat->Prop):Nat:=by
 classical exact (if P 1 then 1 else 0)+(if P 2 then 2 else 0)+(if P 3 then 4 else 0)
theorem NS (P:Nat->Prop):ig P=2 ↔ ¬ P 1/\P 2/\¬ P 3:=by
 unfold ig
 by_cases h1:P 1<;>by_cases h2:P 2<;>by_cases h3:P 3<;>simp [h1,h2,h3]
theorem iG.fixed (g:iG M) {k:Nat} (hk:k < M.bonds.length):(M.fixedAt k==2)=decide (ig (Found (ie M) (dU M) k)=2):=by
 have hx:M.bonds[k]?=some M.bonds[k]:=List.getElem?_eq_getElem hk
 have own:M.orders ∈ EA M:=(g.rows _).mpr ⟨by simp [Mol.orders],g.own⟩
 have ok:M.orders[k]?=some M.bonds[k].order:=by unfold Mol.orders;rw [List.getElem?_map,hx];rfl
 have e:M.fixedAt k=if ((EA M).all fun r=>r[k]?==some M.bonds[k].order)=true then M.bonds[k].order else 0:=by
   unfold Mol.fixedAt Mol.fixed
   simp only
   rw [List.getD,List.getElem?_map,List.getElem?_zipIdx,hx]
   simp only [Option.map_some,Option.getD_some,Nat.zero_add]
   rfl
 rw [Bool.eq_iff_iff,beq_iff_eq,decide_eq_true_eq,NS,g.found hk (by omega),g.found hk (by omega),g.found hk (by omega),e]
 have b3:=g.Sv _ (List.getElem_mem hk)
 constructor
 . intro h
   split at h
   . rename_i ha
     rw [List.all_eq_true] at ha
     have ha':∀ r ∈ EA M,r[k]?=some 2:=fun r hr=>by
       have:=ha r hr
       rw [h] at this
       simpa using this
     have no:∀ o,o ≠ 2->¬ ∃ r,r ∈ EA M/\r[k]?=some o:=fun o ho ⟨r,hr,q⟩=>by
       rw [ha' r hr] at q
       exact ho (Option.some.inj q).symm
     exact ⟨no 1 (by decide),⟨_,own,by rw [ok,h]⟩,no 3 (by decide)⟩
   . omega
 . rintro ⟨n1,_,n3⟩
   have all2:∀ r ∈ EA M,r[k]?=some 2:=fun r hr=>by
     obtain ⟨h1,h2⟩:=(g.rows r).mp hr
     have hrk:r[k]?=some r[k]:=List.getElem?_eq_getElem (by omega)
     have:1<=r[k]/\r[k]<=3:=by
       have e2:=Bf (dU M) r (by simp [dU,h1])
       have hm:r[k] ∈ ((dU M).zip r).map fun x=>x.2:=e2.symm ▸ List.getElem_mem (by omega)
       obtain ⟨x,hx',q⟩:=List.mem_map.mp hm
       rw [<- q]
       exact h2.all x hx'
     have c1:r[k] ≠ 1:=fun q=>n1 ⟨r,hr,by rw [hrk,q]⟩
     have c3:r[k] ≠ 3:=fun q=>n3 ⟨r,hr,by rw [hrk,q]⟩
     rw [hrk,show r[k]=2 by omega]
   have o2:M.bonds[k].order=2:=by
     have:=all2 _ own
     rw [ok] at this
     exact Option.some.inj this
   rw [if_pos,o2]
   rw [List.all_eq_true]
   intro r hr
   rw [all2 r hr,o2]
   rfl
end
end JM
namespace MP
open PySem PySem.Spec PyProof.Rows L2
open XL (eY)
open Fk (Fault Bytes numIn need andThen Atom Bond Mol)
def WR (a:Atom):List (Str×V):=[("element",.int (a.element:Int)),("isotope",.int (a.isotope:Int)),("charge",.int (a.charge+4)),("hydrogens",.int (a.hydrogens:Int)),("hand",.int (a.hand:Int))]
def WS (x:Bond):List (Str×V):=[("a",.int (x.a:Int)),("b",.int (x.b:Int)),("order",.int (x.order:Int)),("side",.int (x.side:Int))]
def mD (C:Addr):vd (Atom×Nat):=fun D H v z=>∃ o dx,v=.ref o/\D o/\H o=some (.ins C dx (WR z.1))
theorem mD.ok (C:Addr):C8 (mD C):=⟨fun ⟨o,dx,e,d,h⟩ k=>⟨o,dx,e,d,k _ _ d h⟩,fun ⟨o,dx,e,d,h⟩ k=>⟨o,dx,e,k _ d,h⟩⟩
def jN (C:Addr):vd (Bond×Nat):=fun D H v z=>∃ o dx,v=.ref o/\D o/\H o=some (.ins C dx (WS z.1))
theorem jN.ok (C:Addr):C8 (jN C):=⟨fun ⟨o,dx,e,d,h⟩ k=>⟨o,dx,e,d,k _ _ d h⟩,fun ⟨o,dx,e,d,h⟩ k=>⟨o,dx,e,k _ d,h⟩⟩
section
variable {P:Program} {w:World} {K:PySem.W.Frag} {mg:Str->Option Value} {base:Heap} {t:Ad}
def Q0 (C:Addr):Sp:=fun vs H Q _=>∃ (o dx:Addr) (a:Atom),vs=[.ref o,.int (a.element:Int),.int (a.isotope:Int),.int (a.charge+4),.int (a.hydrogens:Int),.int (a.hand:Int)]/\H o=some (.ins C dx []) /\
 ∀ H',H' o=some (.ins C dx (WR a))->iz [o] H H'->Q .non H'
theorem NT:aU ["self","element","isotope","charge","hydrogens","hand"] ["self","element","isotope","charge","hydrogens","hand"] (ak eu):=⟨rfl,rfl,rfl,by decide +kernel,rfl,by decide +kernel,by decide +kernel⟩
theorem NU (T:Txt K mg t):cE P w K mg base ve 1 t.eZ t.vC ["self","element","isotope","charge","hydrogens","hand"] (Q0 t.cW):=by
 refine T.Cq.ok NT (fun vs H Q E h=>?_) (fun cdv A outer s H vs Q E hr h=>?_)
 . obtain ⟨o,dx,a,rfl,_⟩:=h
   rfl
 . obtain ⟨o,dx,a,rfl,h0,k⟩:=h
   refine ⟨_,au (fE (pv 0) (pv 1) rfl) (au (fE (pv 0) (pv 2) rfl) (au (fE (pv 0) (pv 3) rfl) (au (fE (pv 0) (pv 4) rfl) (aH (fE (pv 0) (pv 5) rfl))))),?_⟩
   refine ⟨_,rfl,_,rfl,o,_,dx,_,rfl,h0,T.sL,T.iM,(by show 0 < 1000;decide),?_⟩
   refine ⟨_,rfl,_,rfl,o,_,dx,_,rfl,ai,T.sL,T.iN,(by show 1 < 1000;decide),?_⟩
   refine ⟨_,rfl,_,rfl,o,_,dx,_,rfl,ai,T.sL,T.ku,(by show 2 < 1000;decide),?_⟩
   refine ⟨_,rfl,_,rfl,o,_,dx,_,rfl,ai,T.sL,T.eN,(by show 3 < 1000;decide),?_⟩
   refine ⟨_,rfl,_,rfl,o,_,dx,_,rfl,ai,T.sL,T.kD,(by show 4 < 1000;decide),?_⟩
   refine k _ ai fun b u e n=>?_
   have nb:b ≠ o:=by simpa using n
   simp only [oq]
   rw [aq nb]
   exact e
def Q2 (C:Addr):Sp:=fun vs H Q _=>∃ (o dx p:Addr) (x:Bond),vs=[.ref o,.ref p,.int (x.order:Int),.int (x.side:Int)]/\H o=some (.ins C dx []) /\
 H p=some (.tup [.int (x.a:Int),.int (x.b:Int)])/\∀ H',H' o=some (.ins C dx (WS x))->iz [o] H H'->Q .non H'
theorem NV:aU ["self","pair","order","side"] ["self","pair","order","side"] (ak e7):=⟨rfl,rfl,rfl,by decide +kernel,rfl,by decide +kernel,by decide +kernel⟩
theorem NW (T:Txt K mg t):cE P w K mg base ve 1 t.fh t.vD ["self","pair","order","side"] (Q2 t.cX):=by
 refine T.Cs.ok NV (fun vs H Q E h=>?_) (fun cdv A outer s H vs Q E hr h=>?_)
 . obtain ⟨o,dx,p,x,rfl,_⟩:=h
   rfl
 . obtain ⟨o,dx,p,z,rfl,h0,hp,k⟩:=h
   refine ⟨_,au (fE (pv 0) (fV GK (pv 1) aT (fun _ _=>rfl)) rfl) (au (fE (pv 0) (fV GK (pv 1) aT (fun _ _=>rfl)) rfl) (au (fE (pv 0) (pv 2) rfl) (aH (fE (pv 0) (pv 3) rfl)))),?_⟩
   have po:p ≠ o:=lO hp h0 (by intro z;cases z)
   refine ⟨_,rfl,p,_,_,_,rfl,rfl,rS.of hp,rfl,_,rfl,o,_,dx,_,rfl,h0,T.eW,T.fY,(by show 0 < 1000;decide),?_⟩
   refine ⟨_,rfl,p,_,_,_,rfl,rfl,rS.of (by rw [aq po];exact hp),rfl,_,rfl,o,_,dx,_,rfl,ai,T.eW,T.fZ,(by show 1 < 1000;decide),?_⟩
   refine ⟨_,rfl,_,rfl,o,_,dx,_,rfl,ai,T.eW,T.gY,(by show 2 < 1000;decide),?_⟩
   refine ⟨_,rfl,_,rfl,o,_,dx,_,rfl,ai,T.eW,T.kE,(by show 3 < 1000;decide),?_⟩
   refine k _ ai fun b u e n=>?_
   have nb:b ≠ o:=by simpa using n
   simp only [oq]
   rw [aq nb]
   exact e
theorem Ci:aU ["reader","element","isotope","charge","hydrogens","hand"] ["reader"] (ak eB):=⟨rfl,rfl,rfl,by decide +kernel,rfl,by decide +kernel,by decide +kernel⟩
theorem Vg (T:Txt K mg t):cE P w K mg base (x6 P w) 6 t.eF t.vF ["reader"] (Qq K t.aA t.aF JM.uL (mD t.cW)):=by
 have GB:=@t9 P w K mg base t T
 have GI:=@NU P w K mg base t T
 obtain ⟨UT,g1⟩:=T.vX
 obtain ⟨X8,g2⟩:=T.vY
 obtain ⟨ZG,g3⟩:=T.xV
 obtain ⟨tk4,g4⟩:=T.qw
 obtain ⟨ZE,g5⟩:=T.C0
 refine T.vO.Oq Ci (fun vs H Q E h=>?_) (fun cdv A outer s H vs Q E hr h=>?_)
 . obtain ⟨r,x,rfl,_⟩:=h
   rfl
 . obtain ⟨r,x,rfl,R,c8⟩:=h
   have hr2:dW 2 _:=hr.mono (by decide)
   have QU:dW 5 _:=hr.mono (by decide)
   refine ⟨_,au (aZ (i:=1) Ci.nd rfl (Or.inl rfl) (cF (pv 0) T.aK T.aN GB QU T.aM .nil fB (af aT (af aT (af (bK rfl g1 (v:=.int 118) ⟨_,rfl⟩) az)))))
     (au (aZ (i:=2) Ci.nd rfl (Or.inl rfl) (cF (pv 0) T.aK T.aN GB QU T.aM .nil fB (af aT (af aT (af (bK rfl g2 (v:=.int 500) ⟨_,rfl⟩) az)))))
     (au (aZ (i:=3) Ci.nd rfl (Or.inl rfl) (cF (pv 0) T.aK T.aN GB QU T.aM .nil fB (af aT (af aT (af (bK rfl g3 (v:=.int 8) ⟨_,rfl⟩) az)))))
     (au (aZ (i:=4) Ci.nd rfl (Or.inl rfl) (cF (pv 0) T.aK T.aN GB QU T.aM .nil fB (af aT (af aT (af (bK rfl g4 (v:=.int 7) ⟨_,rfl⟩) az)))))
     (au (aZ (i:=5) Ci.nd rfl (Or.inl rfl) (cF (pv 0) T.aK T.aN GB QU T.aM .nil fB (af aT (af aT (af (bK rfl g5 (v:=.int 2) ⟨_,rfl⟩) az)))))
     (aH (cT (z7 T.Pq GI hr2 rfl T.Pp T.Cr .nil f9 (af (pv 1) (af (pv 2) (af (pv 3) (af (pv 4) (af (pv 5) az)))))))))))),?_⟩
   unfold JM.uL JM.mP at c8
   simp only [JM.bw] at c8
   obtain ⟨d0,e0⟩:=R.obj
   refine ⟨_,rfl,r,d0,_,rfl,e0,rfl,?_⟩
   refine ⟨r,1,1,118,_,rfl,R,.inl rfl,pI.good (g':=fun v=>decide (1<=v)&&decide (v<=Fk.ELEMENTS)) (fun v=>by rw [Bool.eq_iff_iff];simp only [Bool.and_eq_true,decide_eq_true_eq];unfold Fk.ELEMENTS;omega) (c8.andThen'.mono fun y1 hy1 c8 H1 R1 F1=>?_)⟩
   obtain ⟨d1,e1⟩:=R1.obj
   refine ⟨_,rfl,r,d1,_,rfl,e1,rfl,?_⟩
   refine ⟨r,2,0,500,_,rfl,R1,.inr rfl,pI.good (g':=fun v=>decide (v<=Fk.ISOTOPE)) (fun v=>by rw [Bool.eq_iff_iff];simp only [Bool.and_eq_true,decide_eq_true_eq];unfold Fk.ISOTOPE;omega) (c8.andThen'.mono fun y2 WG c8 H2 R2 F2=>?_)⟩
   obtain ⟨d2,e2⟩:=R2.obj
   refine ⟨_,rfl,r,d2,_,rfl,e2,rfl,?_⟩
   refine ⟨r,1,0,8,_,rfl,R2,.inl rfl,pI.good (g':=fun v=>decide (v<=8)) (fun v=>by rw [Bool.eq_iff_iff];simp only [Bool.and_eq_true,decide_eq_true_eq];omega) (c8.andThen'.mono fun y3 hy3 c8 H3 R3 F3=>?_)⟩
   obtain ⟨d3,e3⟩:=R3.obj
   refine ⟨_,rfl,r,d3,_,rfl,e3,rfl,?_⟩
   refine ⟨r,1,0,7,_,rfl,R3,.inl rfl,pI.good (g':=fun v=>decide (v<=7)) (fun v=>by rw [Bool.eq_iff_iff];simp only [Bool.and_eq_true,decide_eq_true_eq];omega) (c8.andThen'.mono fun y4 ZM c8 H4 R4 F4=>?_)⟩
   obtain ⟨d4,e4⟩:=R4.obj
   refine ⟨_,rfl,r,d4,_,rfl,e4,rfl,?_⟩
   refine ⟨r,1,0,2,_,rfl,R4,.inl rfl,pI.good (g':=fun v=>decide (v<=2)) (fun v=>by rw [Bool.eq_iff_iff];simp only [Bool.and_eq_true,decide_eq_true_eq];omega) (c8.andThen'.mono fun y5 YU c8 H5 R5 F5=>?_)⟩
   obtain ⟨d5,e5⟩:=R5.obj
   have F:iz [r] H H5:=(((F1.trans F2).trans F3).trans F4).trans F5
   refine ⟨_,rfl,_,rfl,_,rfl,_,rfl,_,rfl,fun o dx no nd ne=>?_⟩
   refine ⟨o,dx,⟨y1.1,y2.1,(y3.1:Int) - 4,y4.1,y5.1⟩,?_,ai,fun H6 h6 F6=>⟨rfl,?_⟩⟩
   . simp
   . have F7:iz [] H5 H6:=iz.made no nd F6
     exact c8 H6 (.ref o) (R5.stay F7 (by simp) (by simp) (by simp) (by simp)) (F.trans (F7.mono (by simp))) ⟨o,dx,rfl,F.fresh e5 no,h6⟩
theorem LS:aU ["reader","pair","order","side"] ["reader","pair"] (ak eE):=⟨rfl,rfl,rfl,by decide +kernel,rfl,by decide +kernel,by decide +kernel⟩
theorem Vh (T:Txt K mg t):cE P w K mg base (x6 P w) 6 t.eG t.vG ["reader","pair"] (LM K t.aA t.aF JM.nN (jN t.cX)):=by
 have GB:=@t9 P w K mg base t T
 have GI:=@NW P w K mg base t T
 obtain ⟨UT,g1⟩:=T.pN
 obtain ⟨X8,g2⟩:=T.jX
 obtain ⟨ZG,g3⟩:=T.C1
 refine T.vQ.Oq LS (fun vs H Q E h=>?_) (fun cdv A outer s H vs Q E hr h=>?_)
 . obtain ⟨r,p,q,x,rfl,_⟩:=h
   rfl
 . obtain ⟨r,p,q,x,rfl,R,hp,c8⟩:=h
   have hr2:dW 2 _:=hr.mono (by decide)
   refine ⟨_,au (aZ (i:=2) LS.nd rfl (Or.inl rfl) (cF (pv 0) T.aK T.aN GB hr T.aM .nil fB (af aT (af (bK rfl g1 (v:=.int 1) ⟨_,rfl⟩) (af (bK rfl g2 (v:=.int 3) ⟨_,rfl⟩) az)))))
     (au (aZ (i:=3) LS.nd rfl (Or.inl rfl) (cF (pv 0) T.aK T.aN GB hr T.aM .nil fB (af aT (af aT (af (bK rfl g3 (v:=.int 2) ⟨_,rfl⟩) az)))))
     (aH (cT (z7 T.Pw GI hr2 rfl T.Pu T.Ct .nil f9 (af (pv 1) (af (pv 2) (af (pv 3) az))))))),?_⟩
   unfold JM.nN JM.k7 at c8
   simp only [JM.bw] at c8
   obtain ⟨d0,e0⟩:=R.obj
   have pr:p ≠ r:=lO hp e0 (by intro z;cases z)
   refine ⟨_,rfl,r,d0,_,rfl,e0,rfl,?_⟩
   refine ⟨r,1,1,3,_,rfl,R,.inl rfl,pI.good (g':=fun v=>decide (1<=v)&&decide (v<=3)) (fun v=>by rw [Bool.eq_iff_iff];simp only [Bool.and_eq_true,decide_eq_true_eq];omega) (c8.andThen'.mono fun y1 hy1 c8 H1 R1 F1=>?_)⟩
   obtain ⟨d1,e1⟩:=R1.obj
   refine ⟨_,rfl,r,d1,_,rfl,e1,rfl,?_⟩
   refine ⟨r,1,0,2,_,rfl,R1,.inl rfl,pI.good (g':=fun v=>decide (v<=2)) (fun v=>by rw [Bool.eq_iff_iff];simp only [Bool.and_eq_true,decide_eq_true_eq];omega) (c8.andThen'.mono fun y2 WG c8 H2 R2 F2=>?_)⟩
   obtain ⟨d2,e2⟩:=R2.obj
   have F:iz [r] H H2:=F1.trans F2
   have hp2:=F p _ hp (by simpa using pr)
   refine ⟨_,rfl,_,rfl,_,rfl,fun o dx no nd ne=>?_⟩
   refine ⟨o,dx,p,⟨q.1,q.2,y1.1,y2.1⟩,rfl,ai,?_,fun H5 h5 F5=>⟨rfl,?_⟩⟩
   . rw [aq (ay hp2 no),aq (ay hp2 nd)];exact hp2
   . have F6:iz [] H2 H5:=iz.made no nd F5
     exact c8 H5 (.ref o) (R2.stay F6 (by simp) (by simp) (by simp) (by simp)) (F.trans (F6.mono (by simp))) ⟨o,dx,rfl,F.fresh e2 no,h5⟩
end
end MP
namespace L2
open PySem PySem.Spec PyProof.Rows XL
def T8 (p:Addr) (Q:VK) (ps:List (V×V)) (H2:Hp):Prop:=H2 p=some (.dT [])/\∃ (k:List Key) (b:Addr) (y:V),ps=[(.ref b,y)]/\H2 b=some (.tup (k.map kV))/\Q (.ref p) (upd H2 p (.dT [(k,y)]))
def Vi (tk tv:TE):TE:=fun σ H Q=>∀ p,H p=none->tk σ (upd H p (.dT [])) fun x H1=>tv σ H1 fun y H2=>T8 p Q [(x,y)] H2
theorem Q3 {X:Cx} {pos:Pos} {e v:Expr} {tk tv:TE} (hu:X.A.units+1 < cLine) (hk:PE X e tk) (hv:PE X v tv):PE X (.Dict [some e] [v] pos) (Vi tk tv):=by
 intro pins s σ H Q I q
 have hn:=I.hok.fresh (Nat.le_refl s.heap.objs.size)
 have I1:=I.laid (a:=s.heap.objs.size) (o:=.dT []) (h':=s.heap.push { cls:=.type "dict",data:=.dict #[] }) (t':=s.toks) (fun _ _ q=>Heap.get?_push_of_some _ q) (Nat.le_refl _) (Jz s.heap I.big)
 have pp:=J0 (pos:=pos) hk hv Mt
 refine wpAny_Dict_any rfl rfl (by simp) (by simp) (d7 (pp pins _ σ _ (T8 s.heap.objs.size Q) I1 (q _ hn)) fun ws s2 ⟨ps,H2,I2,rel,e2,k,b,y,ep,eb,q2⟩=>?_)
 subst ep
 cases rel with
 | @cons p' w' as bs h t=>
   cases t
   obtain ⟨w1,w2⟩:=w'
   obtain ⟨h1,h2⟩:=h
   cases (show w1=Value.ref b from h1)
   obtain ⟨z,hd,xs,rl,dd⟩:=Tu I2.hok e2
   cases rl
   unfold storeAll
   rw [List.forIn_cons]
   refine wpAny_bind (wpAny_bind (wpAny_dictSet_heap (hsz:=Nat.zero_le _) (knd:=tupleKind (eU X.prog X.w)) ?_ (B7 I2.hok eb) dd fun h' dd' hs=>wpAny_pure ?_))
   . exact (by show X.A.units < cLine;omega)
   . show wpAny _ _ (forIn [] PUnit.unit _) _ _ _
     rw [List.forIn_nil]
     refine wpAny_pure ⟨.ref s.heap.objs.size,_,?_,rfl,q2⟩
     obtain ⟨q,es,ep,hq,g2,g3,g4,_,g5⟩:=dd'
     refine Dq I2 (by rw [e2];exact True.intro) hs ⟨q,hq⟩ ⟨by show 1<=sizeLine;decide,hd,[(k,b,w2)],.cons ⟨rfl,?_,h2⟩ .nil,q,es,ep,hq,g2,g3,g4,g5⟩
     rw [aq (lO eb e2 (fun z=>nomatch z))]
     exact eb
end L2
namespace L2
open PySem PySem.Spec PyProof.Rows
section
variable {X:Cx}
def WT (K:PySem.W.Frag):V->V->Hp->VK->Prop:=fun o i H Q=>∃ (p:Addr) (xs:List V) (j:Nat) (v:V),o=.ref p/\i=.int (j:Int)/\dN K H p xs/\xs[j]?=some v/\Q v H
theorem Bh:VR X (WT X.K):=by
 intro pins s σ H o i ov iv Q I ro ri h
 obtain ⟨p,xs,j,z,rfl,rfl,hq,he,q⟩:=h
 cases ro
 obtain ⟨t,rfl⟩:=ri
 obtain ⟨its,r,pl,hz⟩:=I.list hq
 obtain ⟨w,ew,rw'⟩:=r.get he
 have hl:=r.length
 have hn:=Bu
 have hj:j < xs.length:=(List.getElem?_eq_some_iff.mp he).1
 exact wpAny_getItem_list pl.isList (by omega) (by omega) (by simpa using ew) ⟨z,H,I,rw',q⟩
theorem II {K0:PySem.W.Frag} {e:Expr} {f:Str} {pos:Pos} {ta:TE} (hK:X.K=K0) (he:PE X e ta) (hb:attributeBase e f X.env (eval e X.env)=eval e X.env):PE X (.Attribute e f pos) (Wc K0 ta f):=by
 rw [<- hK]
 exact aL he hb
theorem Bj {n j:Nat} (h:j < n):Rm n (j:Int)=some j:=by
 unfold Rm
 rw [if_pos (by omega),if_pos (by omega)]
 simp
end
end L2
namespace MP
open PySem PySem.Spec PyProof.Rows L2
open XL (eY)
open Fk (Fault Bytes numIn need andThen Atom Bond Mol)
def vI (l:List Int):List V:=l.map V.int
section
variable {P:Program} {w:World} {K:PySem.W.Frag} {mg:Str->Option Value} {base:Heap} {t:Ad}
def WU:Sp:=fun vs H Q _=>∃ o:Nat,vs=[.int (o:Int)]/\1<=o/\o<=3/\Q (.int ((2 ^ (o - 1):Nat):Int)) H
theorem Vj:aU ["order"] ["order"] (ak e9):=⟨rfl,rfl,rfl,by decide +kernel,rfl,by decide +kernel,by decide +kernel⟩
theorem Q4 (T:Txt K mg t):cE P w K mg base ve 1 t.fH t.vE ["order"] WU:=by
 refine T.o9.ok Vj (fun vs H Q E h=>?_) (fun cdv A outer s H vs Q E hr h=>?_)
 . obtain ⟨o,rfl,_⟩:=h
   rfl
 . obtain ⟨o,rfl,h1,h3,k⟩:=h
   refine ⟨_,aH (cT (fU O6 aT (fU zc (pv 0) aT))),?_⟩
   refine ⟨_,rfl,_,_,rfl,rfl,_,_,rfl,rfl,⟨by omega,by omega,by decide⟩,?_⟩
   have e:(1:Int) * 2 ^ ((o:Int) - 1).toNat=((2 ^ (o - 1):Nat):Int):=by
     rw [show ((o:Int) - 1).toNat=o - 1 by omega]
     simp
   show Q (.int (1 * 2 ^ ((o:Int) - 1).toNat)) H
   rw [e]
   exact k
def WV:Sp:=fun vs H Q _=>∃ (l:Int) (k:Nat),vs=[.int l,.int (k:Int)]/\k < 1000/\Q (.bl (JM.met l k)) H
theorem Vk:aU ["left","bonds"] ["left","bonds"] (ak dI):=⟨rfl,rfl,rfl,by decide +kernel,rfl,by decide +kernel,by decide +kernel⟩
theorem Vl (T:Txt K mg t):cE P w K mg base ve 1 t.fm t.sj ["left","bonds"] WV:=by
 obtain ⟨UT,g1⟩:=T.pN
 obtain ⟨X8,g2⟩:=T.jX
 refine T.mH.ok Vk (fun vs H Q E h=>?_) (fun cdv A outer s H vs Q E hr h=>?_)
 . obtain ⟨o,k,rfl,_⟩:=h
   rfl
 . obtain ⟨l,n,rfl,hn,k⟩:=h
   refine ⟨_,aH (cT (O8 Mm Mm (fU Lr (bK rfl g1 (v:=.int 1) ⟨_,rfl⟩) (pv 1)) (pv 0) (fU Lr (bK rfl g2 (v:=.int 3) ⟨_,rfl⟩) (pv 1)))),?_⟩
   refine ⟨_,rfl,_,_,rfl,rfl,.inl ⟨by decide,by decide⟩,_,rfl,_,_,rfl,rfl,_,rfl,?_⟩
   have e:JM.met l n=(decide (1 * (n:Int)<=l)&&decide (l<=3 * (n:Int))):=by
     unfold JM.met
     rw [Int.one_mul]
   rw [e] at k
   refine J2 (fun h=>?_) (fun h=>?_)
   . refine ⟨_,rfl,_,_,rfl,rfl,.inl ⟨by decide,by decide⟩,_,_,rfl,rfl,?_⟩
     rw [h,Bool.true_and] at k
     exact k
   . rw [Bool.not_eq_true] at h
     rw [h,Bool.false_and] at k
     exact k
def k6 (K:PySem.W.Frag) (H:Hp) (lb:Addr) (us:List V) (l:List (Nat×Nat)):Prop:=H lb=some (.lst us)/\us.length=l.length/\∀ (i:Nat) v q,us[i]?=some v->l[i]?=some q->pW K H v q
theorem k6.same {H H':Hp} {lb:Addr} {us:List V} {l:List (Nat×Nat)} (b:k6 K H lb us l) (f:bu H H'):k6 K H' lb us l:=
 ⟨f _ _ b.1,b.2.1,fun i v q h1 h2=>(b.2.2 i v q h1 h2).same f⟩
def Q5 (K:PySem.W.Frag):Sp:=fun vs H Q _=>∃ (lb:Addr) (k v:Nat) (us:List V) (l:List (Nat×Nat)),vs=[.ref lb,.int (k:Int),.int (v:Int)]/\k6 K H lb us l/\k < l.length/\l.length<=1000 /\
 ∀ H',bu H H'->Q (.int (JM.pX (l.drop (k+1)) v:Int)) H'
theorem Cj:aU ["bonds","k","atom","bond"] ["bonds","k","atom"] (ak cA):=⟨rfl,rfl,rfl,by decide +kernel,rfl,by decide +kernel,by decide +kernel⟩
theorem Q6 {xs:List V} {k:Nat} (h:k<=xs.length):Lz xs (some (k:Int)) none=xs.drop k:=by
 unfold Lz
 rw [HT.Ri,HT.OI,Nat.min_eq_left h]
 exact List.take_of_length_le (by rw [List.length_drop];omega)
theorem KL (l:List (Nat×Nat)) (q:Nat×Nat) (v:Nat):JM.pX (l++[q]) v=JM.pX l v+(if JM.eV q v=true then 1 else 0):=by
 unfold JM.pX
 rw [List.filter_append,List.length_append]
 congr 1
 cases h:JM.eV q v<;>simp [h]
theorem NX (T:Txt K mg t):cE P w K mg base ve 1 t.dO t.mR ["bonds","k","atom"] (Q5 K):=by
 refine T.iL.ok Cj (fun vs H Q E h=>?_) (fun cdv A outer s H vs Q E hr h=>?_)
 . obtain ⟨lb,k,v,us,l,rfl,_⟩:=h
   rfl
 . obtain ⟨lb,n,v,us,l,rfl,B,hn,hl,k⟩:=h
   refine ⟨_,aH (cT (eX bT (by rfl) T.nv PySem.boot_len (af (OT rfl Cj.nd (ow (OJ Ro (pv 0) (Rl (fU vg (pv 1) aT)) Rk)) (qf (own:=[("bond",3)]) rfl) (fun _ _ _ _ _=>c7 (i:=3) Cj.nd rfl (Or.inl rfl))
     (fun _ _ _ _ _=>GZ (PW.pt (Tf (i8 Jl (pv 2) (II (K0:=K) rfl (pv 3) rfl) (g9 _)) (Ox (i8 Jl (pv 2) (II (K0:=K) rfl (pv 3) rfl) (g9 _)))))) (fun _ _ _ _ _=>pv 3)) az))),?_⟩
   refine ⟨_,rfl,_,rfl,_,_,rfl,rfl,_,rfl,lb,us,rfl,dN.of B.1,fun p hp=>?_⟩
   have e:Lz us (some ((n:Int)+1)) none=us.drop (n+1):=by
     rw [show (n:Int)+1=((n+1:Nat):Int) by omega]
     exact Q6 (by rw [B.2.1];omega)
   rw [e]
   have sp:bu H (upd H p (.lst (us.drop (n+1)))):=aP hp
   refine ⟨p,rfl,⟨_,dN.of ai⟩,fun D hD=>?_⟩
   have sD:bu H (upd (upd H p (.lst (us.drop (n+1)))) D (.lst [])):=sp.trans (aP hD)
   have pD:p ≠ D:=fun z=>by rw [<- z,ai] at hD;cases hD
   refine z9 (K:=K) (a:=p) (xs:=us.drop (n+1)) (fun i H'=>bu H H'/\H' p=some (.lst (us.drop (n+1)))/\∃ acc,H' D=some (.lst acc)/\acc.length=JM.pX ((l.drop (n+1)).take i) v) ⟨sD,by rw [aq pD];exact ai,[],ai,rfl⟩ (fun i H' _ h=>dN.of h.2.1) ?_ ?_
   . rintro i x H' hx ⟨sm,hp',acc,hD',hacc⟩
     have hil:i < l.length - (n+1):=by
       have:=(List.getElem?_eq_some_iff.mp hx).1
       rw [List.length_drop,B.2.1] at this
       exact this
     obtain ⟨q,hq⟩:∃ q,(l.drop (n+1))[i]?=some q:=⟨_,List.getElem?_eq_getElem (by rw [List.length_drop];exact hil)⟩
     have en:pW K H' x q:=((B.2.2 (n+1+i) x q (by rw [<- hx,List.getElem?_drop]) (by rw [<- hq,List.getElem?_drop]))).same sm
     obtain ⟨o,C,dx,fs,rfl,e1,cl,na,nb,ea,eb⟩:=en
     have tk:=MP.take_snoc hq
     have ac:acc.length < sizeLine:=by
       have:acc.length<=l.length:=by
         rw [hacc]
         refine Nat.le_trans (List.length_filter_le _ _) ?_
         rw [List.length_take,List.length_drop]
         omega
       rw [sizeLine_eq];omega
     have pd':D ≠ p:=Ne.symm pD
     have WW:∀ ys,bu H (upd H' D (.lst ys)):=fun ys b u e=>by
       have:b ≠ D:=fun z=>by
         have h1:=sp b u e
         rw [z,hD] at h1;cases h1
       rw [aq this];exact sm b u e
     have go:JM.eV q v=true->∀ y,∃ acc,H' D=some (.lst acc)/\acc.length < sizeLine/\(bu H (upd H' D (.lst (acc++[y])))/\upd H' D (.lst (acc++[y])) p=some (.lst (us.drop (n+1)))/\∃ acc',upd H' D (.lst (acc++[y])) D=some (.lst acc')/\acc'.length=JM.pX ((l.drop (n+1)).take (i+1)) v):=fun ht y=>
       ⟨acc,hD',ac,WW _,by rw [aq pD];exact hp',_,ai,by rw [tk,KL,ht,<- hacc];simp⟩
     have no:JM.eV q v=false->(bu H H'/\H' p=some (.lst (us.drop (n+1)))/\∃ acc',H' D=some (.lst acc')/\acc'.length=JM.pX ((l.drop (n+1)).take (i+1)) v):=fun ht=>
       ⟨sm,hp',acc,hD',by rw [tk,KL,ht,<- hacc];simp⟩
     refine ⟨rfl,_,rfl,_,rfl,o,C,dx,fs,_,rfl,e1,cl,na,ea,rfl,_,rfl,?_⟩
     by_cases h1:q.1=v
     . have ht:JM.eV q v=true:=by simp [JM.eV,h1]
       rw [decide_eq_true (by rw [h1])]
       exact ⟨_,rfl,go ht _⟩
     . rw [decide_eq_false (fun z=>h1 (by injection z with z;omega))]
       refine ⟨_,rfl,_,rfl,o,C,dx,fs,_,rfl,e1,cl,nb,eb,rfl,_,rfl,?_⟩
       by_cases h2:q.2=v
       . have ht:JM.eV q v=true:=by simp [JM.eV,h2]
         rw [decide_eq_true (by rw [h2])]
         exact ⟨_,rfl,go ht _⟩
       . have ht:JM.eV q v=false:=by simp [JM.eV,h1,h2]
         rw [decide_eq_false (fun z=>h2 (by injection z with z;omega))]
         exact no ht
   . rintro H' ⟨sm,hp',acc,hD',hacc⟩
     rw [List.length_drop,B.2.1,<- List.length_drop,List.take_length] at hacc
     refine ⟨D,acc,rfl,.inl (dN.of hD'),?_⟩
     rw [hacc]
     exact k H' sm
def Vm (K:PySem.W.Frag):Sp:=fun vs H Q _=>∃ (st:Addr) (v:V) (o n:Nat) (s:List Int) (q:Nat×Nat),vs=[.ref st,v,.int (o:Int)]/\H st=some (.tup (vI s))/\pW K H v q/\q.1 < q.2/\q.2 < s.length/\s.length<=1000 /\
 ∀ H' p,bu H H'->H p=none->H' p=some (.tup (vI (JM.less s q o)))->Q (.ref p) H'
theorem MJ:aU ["state","bond","order","left"] ["state","bond","order"] (ak dH):=⟨rfl,rfl,rfl,by decide +kernel,rfl,by decide +kernel,by decide +kernel⟩
theorem EB {l:List Int} {i:Nat} {x:Int} (f:Int->Int) (h:l[i]?=some x):l.set i (f x)=l.modify i f:=by
 refine List.ext_getElem? fun j=>?_
 rw [List.getElem?_modify,List.getElem?_set]
 by_cases e:i=j
 . subst e
   obtain ⟨hl,rfl⟩:=List.getElem?_eq_some_iff.mp h
   simp [hl]
 . simp [e]
theorem EC (l:List Int) (i:Nat) (x:Int):(vI l).set i (.int x)=vI (l.set i x):=by
 unfold vI
 rw [List.map_set]
theorem xf {l:List Int} {i:Nat} {x:Int} (h:l[i]?=some x):(vI l)[i]?=some (.int x):=by
 unfold vI
 rw [List.getElem?_map,h]
 rfl
theorem MK (T:Txt K mg t):cE P w K mg base ve 1 t.fk t.sf ["state","bond","order"] (Vm K):=by
 refine T.mG.ok MJ (fun vs H Q E h=>?_) (fun cdv A outer s H vs Q E hr h=>?_)
 . obtain ⟨st,v,o,n,s,q,rfl,_⟩:=h
   rfl
 . obtain ⟨st,v,o,n,Vn,q,rfl,hst,en,h12,h2n,hn,k⟩:=h
   refine ⟨_,au (aZ (i:=3) MJ.nd rfl (Or.inl rfl) (Bw GV (by rfl) T.Pz PyProof.Rows.boot_list (af (pv 0) az)))
     (au (Dn (pv 3) (aL (pv 1) rfl) Bh (pv 2) O1 set_list)
     (au (Dn (pv 3) (aL (pv 1) rfl) Bh (pv 2) O1 set_list)
     (aH (cT (Bw xQ (by rfl) T.Hq PyProof.Rows.boot_tuple (af (pv 3) az)))))),?_⟩
   obtain ⟨b,C,dx,fs,rfl,e1,cl,na,nb,ea,eb⟩:=en
   refine ⟨_,rfl,st,_,rfl,.inr (rS.of hst),fun l hl=>?_⟩
   have s1:bu H (upd H l (.lst (vI Vn))):=aP hl
   obtain ⟨x1,XA⟩:∃ x,Vn[q.1]?=some x:=⟨_,List.getElem?_eq_getElem (by omega)⟩
   have hlen:(vI Vn).length=Vn.length:=by simp [vI]
   refine ⟨_,rfl,_,rfl,b,C,dx,fs,_,rfl,s1 _ _ e1,cl,na,ea,l,_,q.1,_,rfl,rfl,dN.of ai,xf XA,_,rfl,_,_,rfl,rfl,l,_,(q.1:Int),q.1,rfl,rfl,ai,Bj (by rw [hlen];omega),?_⟩
   rw [EC,oq,EB (f:=fun x=>x - (o:Int)) XA]
   obtain ⟨x2,XC⟩:∃ x,(Vn.modify q.1 fun x=>x - (o:Int))[q.2]?=some x:=⟨_,List.getElem?_eq_getElem (by simp;omega)⟩
   have s2:bu H (upd H l (.lst (vI (Vn.modify q.1 fun x=>x - (o:Int))))):=aP hl
   refine ⟨_,rfl,_,rfl,b,C,dx,fs,_,rfl,s2 _ _ e1,cl,nb,eb,l,_,q.2,_,rfl,rfl,dN.of ai,xf XC,_,rfl,_,_,rfl,rfl,l,_,(q.2:Int),q.2,rfl,rfl,ai,Bj (by simp [vI];omega),?_⟩
   rw [EC,oq,EB (f:=fun x=>x - (o:Int)) XC]
   refine ⟨_,rfl,l,_,rfl,.inl ⟨dN.of ai,fun p hp=>?_⟩⟩
   have s3:bu H (upd H l (.lst (vI (JM.less Vn q o)))):=aP hl
   exact k _ p (s3.trans (aP hp)) (s3.free hp) ai
def ways (ys:List (Bond×Nat)):JM.tD:=ys.map fun z=>(JM.aS z,z.1.order)
def nP (n:Nat) (z:JM.tD):List Int:=(List.range n).map fun v=>(JM.jw z v:Int)
def Vo (K:PySem.W.Frag) (C:Addr):Sp:=fun vs H Q _=>∃ (n:Nat) (lb:Addr) (us:List V) (ys:List (Bond×Nat)) (D:Addr->Prop),vs=[.int (n:Int),.ref lb]/\n<=1000/\H lb=some (.lst us)/\gw (jN C) D H us ys /\
 (∀ q ∈ ys.map JM.aS,q.1 < q.2/\q.2 < n)/\∀ H' l,bu H H'->H l=none->H' l=some (.lst (vI (nP n (ways ys))))->Q (.ref l) H'
theorem IJ:aU ["n","bonds","sums","bond"] ["n","bonds"] (ak dG):=⟨rfl,rfl,rfl,by decide +kernel,rfl,by decide +kernel,by decide +kernel⟩
theorem jx {n:Nat} {f:Nat->Int} {v:Nat} (h:v < n):((List.range n).map f)[v]?=some (f v):=by
 rw [List.getElem?_map,List.getElem?_range h]
 rfl
theorem Bk {n:Nat} {f:Nat->Int} {v:Nat} {x:Int}:((List.range n).map f).set v x=(List.range n).map fun u=>if u=v then x else f u:=by
 refine List.ext_getElem? fun j=>?_
 rw [List.getElem?_set]
 by_cases hj:j < n
 . rw [jx hj]
   by_cases e:v=j
   . subst e
     simp [hj]
   . have e':¬ j=v:=fun z=>e z.symm
     simp [e,e',jx hj]
 . have e1:((List.range n).map fun u=>if u=v then x else f u)[j]?=none:=List.getElem?_eq_none (by simp;omega)
   rw [e1]
   by_cases e:v=j
   . subst e;simp [hj]
   . rw [if_neg e]
     exact List.getElem?_eq_none (by simp;omega)
theorem zeros (n:Nat):(List.replicate n [V.int 0]).flatten=vI (nP n []):=by
 unfold vI nP
 rw [List.map_map]
 refine List.ext_getElem? fun j=>?_
 have e:(List.replicate n [V.int 0]).flatten=List.replicate n (V.int 0):=by
   induction n with
   | zero=>rfl
   | succ n ih=>rw [List.replicate_succ,List.flatten_cons,ih];rfl
 rw [e,List.getElem?_replicate]
 by_cases hj:j < n
 . rw [if_pos hj,List.getElem?_map,List.getElem?_range hj]
   rfl
 . rw [if_neg hj]
   exact (List.getElem?_eq_none (by simp;omega)).symm
theorem Sw (T:Txt K mg t):cE P w K mg base ve 1 t.fj t.se ["n","bonds"] (Vo K t.cX):=by
 refine T.sE.ok IJ (fun vs H Q E h=>?_) (fun cdv A outer s H vs Q E hr h=>?_)
 . obtain ⟨n,lb,us,ys,D,rfl,_⟩:=h
   rfl
 . obtain ⟨n,lb,us,ys,D,rfl,hn,hlb,R,hq,k⟩:=h
   refine ⟨_,au (aZ (i:=2) IJ.nd rfl (Or.inl rfl) (fU OQ (l7 (af aT az)) (pv 0)))
     (au (g8 PassesOwn.never rfl (ow (pv 1)) (c7 (i:=3) IJ.nd rfl (Or.inl rfl))
       (au (Dn (pv 2) (aL (pv 3) rfl) Bh (aL (pv 3) rfl) Ll set_list)
       (aH (Dn (pv 2) (aL (pv 3) rfl) Bh (aL (pv 3) rfl) Ll set_list))))
     (aH (cT (pv 2)))),?_⟩
   refine ⟨by show 1<=sizeLine;decide,fun p0 hp0=>⟨_,rfl,p0,_,_,rfl,rfl,ai,by omega,by omega,by rw [sizeLine_eq];simp;omega,fun l hl=>?_⟩⟩
   rw [Int.toNat_natCast,zeros]
   have s0:bu H (upd H p0 (.lst [V.int 0])):=aP hp0
   have s1:bu H (upd (upd H p0 (.lst [V.int 0])) l (.lst (vI (nP n [])))):=s0.trans (aP hl)
   have ZQ:H l=none:=s0.free hl
   refine ⟨_,rfl,lb,rfl,⟨_,dN.of (s1 _ _ hlb)⟩,?_⟩
   refine DG (K:=K) (a:=lb) (xs:=us) (fun i σ H'=>∃ vb,σ=[some (.int (n:Int)),some (.ref lb),some (.ref l),vb]/\bu H H'/\H' l=some (.lst (vI (nP n ((ways ys).take i))))) ⟨none,rfl,s1,ai⟩ (fun i σ H' _ ⟨_,_,sm,_⟩=>dN.of (sm _ _ hlb)) ?_ ?_
   . rintro i x σ H' hx ⟨vb,rfl,sm,hl'⟩
     have hi:i < us.length:=(List.getElem?_eq_some_iff.mp hx).1
     obtain ⟨z,hz⟩:∃ z,ys[i]?=some z:=⟨_,List.getElem?_eq_getElem (by rw [<- R.len];exact hi)⟩
     obtain ⟨o,dx,rfl,_,rep⟩:=R.at_ i x z hx hz
     have WX:=hq (JM.aS z) (List.mem_map_of_mem (List.mem_of_getElem? hz))
     have ez:(ways ys)[i]?=some (JM.aS z,z.1.order):=by unfold ways;rw [List.getElem?_map,hz];rfl
     have ol:o ≠ l:=fun q=>by
       have:=sm _ _ rep
       rw [q,hl'] at this;cases this
     have ln:∀ w:JM.tD,(vI (nP n w)).length=n:=fun w=>by simp [vI,nP]
     refine ⟨_,rfl,_,rfl,o,_,dx,_,_,rfl,sm _ _ rep,T.eW,T.fY,rfl,l,_,z.1.a,_,rfl,rfl,dN.of hl',xf (jx (by have:z.1.a < z.1.b/\z.1.b < n:=WX;omega)),?_⟩
     refine ⟨_,rfl,o,_,dx,_,_,rfl,sm _ _ rep,T.eW,T.gY,rfl,_,_,rfl,rfl,l,_,(z.1.a:Int),z.1.a,rfl,rfl,hl',Bj (by rw [ln];have:z.1.a < z.1.b/\z.1.b < n:=WX;omega),?_⟩
     have keep:∀ u,bu H (upd H' l u):=fun u b v e=>by
       rw [aq (ay e ZQ)];exact sm b v e
     rw [EC]
     unfold nP
     rw [Bk]
     refine ⟨_,rfl,_,rfl,o,_,dx,_,_,rfl,keep _ _ _ rep,T.eW,T.fZ,rfl,l,_,z.1.b,_,rfl,rfl,dN.of ai,xf (jx WX.2),?_⟩
     refine ⟨_,rfl,o,_,dx,_,_,rfl,keep _ _ _ rep,T.eW,T.gY,rfl,_,_,rfl,rfl,l,_,(z.1.b:Int),z.1.b,rfl,rfl,ai,Bj (by simp [vI];exact WX.2),?_⟩
     rw [EC,Bk,oq]
     refine ⟨_,rfl,keep _,?_⟩
     rw [ai,take_snoc ez]
     congr 3
     refine List.map_congr_left fun u hu=>?_
     rw [JM.C9,JM.mL,JM.K9]
     have hlt:z.1.a < z.1.b:=WX.1
     by_cases h1:u=z.1.a
     . have h2:¬ u=z.1.b:=by omega
       have ht:JM.eV (JM.aS z) u=true:=by simp [JM.eV,JM.aS,h1]
       rw [if_neg h2,if_pos h1,if_pos ht,h1]
       simp
     . by_cases h2:u=z.1.b
       . have ht:JM.eV (JM.aS z) u=true:=by simp [JM.eV,JM.aS,h2]
         have h3:¬ z.1.b=z.1.a:=by omega
         rw [if_pos h2,if_pos ht,if_neg h3,h2]
         simp
       . have ht:¬ JM.eV (JM.aS z) u=true:=by
           simp [JM.eV,JM.aS]
           omega
         rw [if_neg h2,if_neg h1,if_neg ht]
         simp
   . rintro σ H' ⟨vb,rfl,sm,hl'⟩
     have e:(ways ys).take us.length=ways ys:=List.take_of_length_le (by unfold ways;rw [List.length_map,R.len];exact Nat.le_refl _)
     rw [e] at hl'
     exact ⟨_,rfl,k H' l sm ZQ hl'⟩
end
def kI (s:List Int):List Key:=s.map Sum.inl
theorem IK (s:List Int):(kI s).map kV=vI s:=by
 unfold kI vI
 rw [List.map_map]
 rfl
theorem xg {s u:List Int} (h:kI s=kI u):s=u:=List.map_inj_right (fun a b e=>by injection e) |>.mp h
structure Dl (kvs:List (List Key×V)) (Pr:List Int->Prop):Prop where
 of:∀ kv ∈ kvs,∃ s,kv.1=kI s/\Pr s
 all:∀ s,Pr s->(iA kvs (kI s)).isSome=true
theorem xh {kvs:List (List Key×V)} {k:List Key} (h:(iA kvs k).isSome=true):∃ kv ∈ kvs,kv.1=k:=by
 rw [<- mO,List.any_eq_true] at h
 obtain ⟨kv,h1,h2⟩:=h
 exact ⟨kv,h1,of_decide_eq_true h2⟩
theorem Q7 {kvs:List (List Key×V)} {kv:List Key×V} (h:kv ∈ kvs):(iA kvs kv.1).isSome=true:=by
 rw [<- mO,List.any_eq_true]
 exact ⟨kv,h,decide_eq_true rfl⟩
theorem Dl.iff {kvs:List (List Key×V)} {Pr:List Int->Prop} (d:Dl kvs Pr) (s:List Int):(iA kvs (kI s)).isSome=true ↔ Pr s:=
 ⟨fun h=>by
   obtain ⟨kv,h1,h2⟩:=xh h
   obtain ⟨u,e,p⟩:=d.of kv h1
   rw [e] at h2
   rw [<- xg h2]
   exact p,d.all s⟩
theorem Dl.nil:Dl [] fun _=>False:=⟨fun kv h=>by simp at h,fun _ h=>h.elim⟩
theorem Dl.put {kvs:List (List Key×V)} {Pr:List Int->Prop} (d:Dl kvs Pr) (s:List Int) (v:V):Dl (putK kvs (kI s) v) fun u=>Pr u\/u=s:=by
 refine ⟨fun kv h=>?_,fun u hu=>?_⟩
 . have:=Q7 h
   rw [zA] at this
   by_cases e:kv.1=kI s
   . exact ⟨s,e,.inr rfl⟩
   . rw [if_neg e] at this
     obtain ⟨kv',h1,h2⟩:=xh this
     obtain ⟨u,e',p⟩:=d.of kv' h1
     exact ⟨u,h2 ▸ e',.inl p⟩
 . rw [zA]
   by_cases e:kI u=kI s
   . rw [if_pos e];rfl
   . rw [if_neg e]
     rcases hu with hu | hu
     . exact d.all u hu
     . exact absurd (by rw [hu]) e
theorem Dl.eq {kvs:List (List Key×V)} {Pr ZR:List Int->Prop} (d:Dl kvs Pr) (h:∀ s,Pr s ↔ ZR s):Dl kvs ZR:=
 ⟨fun kv hk=>let ⟨s,e,p⟩:=d.of kv hk;⟨s,e,(h s).mp p⟩,fun s p=>d.all s ((h s).mpr p)⟩
theorem Gw {d:Addr} {o:Obj} {kvs:List (List Key×V)} {g:TG} {tb:TS} {D:Ends} {σ:L2.St} {H:Hp} (Pv:Nat->L2.St->Hp->Prop) (h0:Pv 0 σ H) (hl:∀ i σ H,Pv i σ H->H d=some (.l6 o (.dT kvs)))
   (hs:∀ i k v b σ H,kvs[i]?=some (k,v)->Pv i σ H->H b=some (.tup (k.map kV))->g (.ref b) σ H fun σ2 H2=>tb { D with nx:=Pv (i+1),ct:=Pv (i+1),bk:=D.nx } σ2 H2) (hd:∀ σ H,Pv kvs.length σ H->D.nx σ H) :
   ∃ W:Nat->Nat->L2.St->Hp->Prop,(∃ m,W 0 m σ H)/\∀ i m σ H,W i m σ H->
     ((OZ d o kvs).stop i H/\D.nx σ H)\/((OZ d o kvs).go i H/\∃ N:L2.St->Hp->Prop,(∀ σ' H',N σ' H'->∃ m',m' < m/\W (i+1) m' σ' H')/\∀ x H',(OZ d o kvs).O3 i H x H'->g x σ H' fun σ2 H2=>tb { D with nx:=N,ct:=N,bk:=D.nx } σ2 H2):=by
 refine ⟨fun i m σ H=>m=kvs.length - i/\i<=kvs.length/\Pv i σ H,⟨kvs.length,by simp,Nat.zero_le _,h0⟩,?_⟩
 rintro i m σ H ⟨rfl,hi,p⟩
 have q:=hl i σ H p
 by_cases hlt:i < kvs.length
 . refine .inr ⟨⟨q,hlt⟩,Pv (i+1),fun σ' H' p'=>⟨kvs.length - (i+1),by omega,rfl,hlt,p'⟩,fun x H' y=>?_⟩
   obtain ⟨rfl,k,v,b,e,rfl,hb⟩:=y
   exact hs i k v b σ _ e p hb
 . have e:i=kvs.length:=by omega
   subst e
   exact .inl ⟨⟨q,Nat.le_refl _⟩,hd σ H p⟩
section
variable {P:Program} {w:World} {K:PySem.W.Frag} {mg:Str->Option Value} {base:Heap} {t:Ad}
def VC (q:Nat×Nat) (b1 b2:Nat) (s:List Int) (o:Nat) (s':List Int):Prop:=s'=JM.less s q o/\JM.met (s'.getD q.1 0) b1=true/\JM.met (s'.getD q.2 0) b2=true
def Q8 (K:PySem.W.Frag):Sp:=fun vs H Q _=>∃ (d lb:Addr) (k n:Nat) (kvs:List (List Key×V)) (Pr:List Int->Prop) (us:List V) (l:List (Nat×Nat)) (q:Nat×Nat),vs=[.ref d,.ref lb,.int (k:Int)]/\H d=some (.dT kvs)/\Dl kvs Pr/\(∀ s,Pr s->s.length=n) /\
 k6 K H lb us l/\l[k]?=some q/\l.length<=1000/\n<=1000/\q.1 < q.2/\q.2 < n/\3 * kvs.length<=10000000 /\
 ∀ H' d' kvs',bu H H'->H d'=none->H' d'=some (.dT kvs')->Dl kvs' (fun s'=>∃ s o,Pr s/\(1<=o/\o<=3)/\VC q (JM.pX (l.drop (k+1)) q.1) (JM.pX (l.drop (k+1)) q.2) s o s')->kvs'.length<=3 * kvs.length->Q (.ref d') H'
theorem iH:aU ["states","bonds","k","bond","at_a","at_b","found","state","order","left"] ["states","bonds","k"] (ak bN):=⟨rfl,rfl,rfl,by decide +kernel,rfl,by decide +kernel,by decide +kernel⟩
theorem NY (T:Txt K mg t):cE P w K mg base ve 2 t.cH t.lA ["states","bonds","k"] (Q8 K):=by
 have GB:=@NX P w K mg base t T
 have GL:=@MK P w K mg base t T
 have GM:=@Vl P w K mg base t T
 refine T.lE.ok iH (fun vs H Q E h=>?_) (fun cdv A outer s H vs Q E hr h=>?_)
 . obtain ⟨d,lb,k,n,kvs,Pr,us,l,q,rfl,_⟩:=h
   rfl
 . obtain ⟨d,lb,n0,n,kvs,Pr,us,l,q,rfl,hd,SD,hPr,B,hq,hl,hn,h12,h2n,hsz,k⟩:=h
   have hu:=hr.un
   have hu':(A.deeper (envOfC "states_behind" (ak bN) s.heap.objs.size t.cH cdv)).units+1 < cLine:=by omega
   refine ⟨_,au (aZ (i:=3) iH.nd rfl (Or.inl rfl) (fV dS (pv 1) (pv 2) (fun _ _=>rfl)))
     (au (aZ (i:=4) iH.nd rfl (Or.inl rfl) (cU GB hr rfl T.nh T.iL.kp T.mY .nil f9 (af (pv 1) (af (pv 2) (af (aL (pv 3) rfl) az)))))
     (au (aZ (i:=5) iH.nd rfl (Or.inl rfl) (cU GB hr rfl T.nh T.iL.kp T.mY .nil f9 (af (pv 1) (af (pv 2) (af (aL (pv 3) rfl) az)))))
     (au (aZ (i:=6) iH.nd rfl (Or.inl rfl) DR)
     (au (Mv (g8 PassesOwn.never rfl (Mw (pv 0)) (c7 (i:=7) iH.nd rfl (Or.inl rfl))
       (aH (g8 PassesOwn.never rfl (Lp (bK rfl T.Ei (v:=.ref t.fX) rfl)) (c7 (i:=8) iH.nd rfl (Or.inl rfl))
         (au (aZ (i:=9) iH.nd rfl (Or.inl rfl) (cU GL hr rfl T.sI T.mG.kp T.sF .nil f9 (af (pv 7) (af (pv 3) (af (pv 8) az)))))
         (aH (xP (PW.pt (G4 (DA (cU GM hr rfl T.sJ T.mH.kp T.sG .nil f9 (af (fV GK (pv 9) (aL (pv 3) rfl) (fun _ _=>rfl)) (af (pv 4) az))))
             (Dm (DA (cU GM hr rfl T.sJ T.mH.kp T.sG .nil f9 (af (fV GK (pv 9) (aL (pv 3) rfl) (fun _ _=>rfl)) (af (pv 5) az)))))))
           (aH (zB hu' (pv 6) (pv 9) Ow rfl)) ko)))))))
     (aH (cT (pv 6))))))),?_⟩
   have hk:n0 < l.length:=(List.getElem?_eq_some_iff.mp hq).1
   obtain ⟨bv,hbv⟩:∃ v,us[n0]?=some v:=⟨_,List.getElem?_eq_getElem (by rw [B.2.1];exact hk)⟩
   have en:=B.2.2 n0 bv q hbv hq
   obtain ⟨o,C,dx,fs,rfl,e1,cl,na,nb,ea,eb⟩:=id en
   refine ⟨_,rfl,_,rfl,lb,us,_,_,rfl,rfl,dN.of B.1,cV hbv,?_⟩
   refine ⟨_,rfl,_,rfl,_,rfl,o,C,dx,fs,_,rfl,e1,cl,na,ea,?_⟩
   refine ⟨lb,n0,q.1,us,l,rfl,B,hk,hl,fun H1 s1=>?_⟩
   refine ⟨_,rfl,_,rfl,_,rfl,o,C,dx,fs,_,rfl,s1 _ _ e1,cl,nb,eb,?_⟩
   refine ⟨lb,n0,q.2,us,l,rfl,B.same s1,hk,hl,fun H2 s2=>?_⟩
   intro fd hfd
   have s12:bu H H2:=s1.trans s2
   have s3:bu H (upd H2 fd (.dT [])):=s12.trans (aP hfd)
   have Q9:H fd=none:=s12.free hfd
   have YY:fd ≠ d:=fun z=>by rw [z,hd] at Q9;cases Q9
   have bd:∀ v,JM.pX (l.drop (n0+1)) v < 1000:=fun v=>by
     have:=List.length_filter_le (fun q=>JM.eV q v) (l.drop (n0+1))
     rw [List.length_drop] at this
     unfold JM.pX
     omega
   refine ⟨d,_,s3 _ _ hd,True.intro,fun od=>?_⟩
   refine ⟨_,rfl,d,od,rfl,.inr ⟨kvs,ai,?_⟩⟩
   let Vp:Nat->List Int->Prop:=fun i s'=>∃ i' kv s o,i' < i/\kvs[i']?=some kv/\kv.1=kI s/\(1<=o/\o<=3)/\VC q (JM.pX (l.drop (n0+1)) q.1) (JM.pX (l.drop (n0+1)) q.2) s o s'
   refine Gw (d:=d) (o:=od) (kvs:=kvs) (fun i σ H'=>∃ v7 v8 v9 kv,σ=[some (.ref d),some (.ref lb),some (.int (n0:Int)),some (.ref o),some (.int (JM.pX (l.drop (n0+1)) q.1:Int)),some (.int (JM.pX (l.drop (n0+1)) q.2:Int)),some (.ref fd),v7,v8,v9] /\
     (∀ b u,H b=some u->b ≠ d->H' b=some u)/\H' d=some (.l6 od (.dT kvs))/\H' fd=some (.dT kv)/\Dl kv (Vp i)/\kv.length<=3 * i)
     ⟨none,none,none,[],rfl,fun b u e n=>by rw [aq n];exact s3 b u e,ai,by rw [aq YY];exact ai,Dl.nil.eq fun s=>⟨fun h=>h.elim,fun ⟨i',_,_,_,h,_⟩=>by omega⟩,Nat.zero_le _⟩ (fun i σ H' ⟨_,_,_,_,_,_,h,_⟩=>h) ?_ ?_
   . rintro i ky v b σ HY QA ⟨v7,v8,v9,kv,rfl,kp,hdY,ZS,SY,lY⟩ hb
     have hi:i < kvs.length:=(List.getElem?_eq_some_iff.mp QA).1
     obtain ⟨si,ek,hsi⟩:=SD.of (ky,v) (List.mem_of_getElem? QA)
     simp only at ek
     subst ek
     rw [IK] at hb
     have sl:si.length=n:=hPr si hsi
     refine ⟨t.fX,rfl,⟨_,T.vZ HY⟩,?_⟩
     refine G7 (K:=K) (a:=t.fX) (xs:=[.int 1,.int 2,.int 3]) (fun j σ H'=>∃ v8 v9 kv,σ=[some (.ref d),some (.ref lb),some (.int (n0:Int)),some (.ref o),some (.int (JM.pX (l.drop (n0+1)) q.1:Int)),some (.int (JM.pX (l.drop (n0+1)) q.2:Int)),some (.ref fd),some (.ref b),v8,v9] /\
       (∀ b u,HY b=some u->b ≠ fd->H' b=some u)/\H' fd=some (.dT kv)/\Dl kv (fun s'=>Vp i s'\/∃ o,(1<=o/\o<=j)/\VC q (JM.pX (l.drop (n0+1)) q.1) (JM.pX (l.drop (n0+1)) q.2) si o s')/\kv.length<=3 * i+j)
       ⟨v8,v9,kv,rfl,fun b u e _=>e,ZS,SY.eq fun s=>⟨.inl,fun h=>by rcases h with h | ⟨o,h,_⟩;exact h;omega⟩,by omega⟩ (fun j σ H' _ _=>T.vZ H') ?_ ?_
     . rintro j x σ H' hx ⟨v8,v9,kv,rfl,kq,hf',S',l'⟩
       have hj:j < 3:=by simpa using (List.getElem?_eq_some_iff.mp hx).1
       obtain rfl:x=.int ((j+1:Nat):Int):=by
         have:j=0\/j=1\/j=2:=by omega
         rcases this with r | r | r<;>subst r<;>simp at hx<;>rw [<- hx]<;>rfl
       have bf:b ≠ fd:=fun z=>by rw [z,ZS] at hb;cases hb
       have oo:∀ u,H o=some u->H' o=some u:=fun u e=>kq _ _ (kp _ _ e (fun z=>by rw [z,hd] at e1;cases e1)) (fun z=>by rw [z,Q9] at e1;cases e1)
       refine ⟨_,rfl,_,rfl,_,rfl,?_⟩
       refine ⟨b,.ref o,j+1,n,si,q,rfl,kq _ _ hb bf,⟨o,C,dx,fs,rfl,oo _ e1,cl,na,nb,ea,eb⟩,h12,by omega,by omega,fun H5 p s5 np hp=>?_⟩
       have ll:(JM.less si q (j+1)).length=n:=(JM.KC _ _ _).trans sl
       obtain ⟨y1,hy1⟩:∃ y,(JM.less si q (j+1))[q.1]?=some y:=⟨_,List.getElem?_eq_getElem (by omega)⟩
       obtain ⟨y2,WG⟩:∃ y,(JM.less si q (j+1))[q.2]?=some y:=⟨_,List.getElem?_eq_getElem (by omega)⟩
       have d1:(JM.less si q (j+1)).getD q.1 0=y1:=by rw [List.getD,hy1];rfl
       have d2:(JM.less si q (j+1)).getD q.2 0=y2:=by rw [List.getD,WG];rfl
       have o5:=s5 _ _ (oo _ e1)
       have Vq:=s5 _ _ hf'
       have T9:∀ b u,HY b=some u->b ≠ fd->H5 b=some u:=fun b u e n=>s5 _ _ (kq b u e n)
       have no:¬ VC q (JM.pX (l.drop (n0+1)) q.1) (JM.pX (l.drop (n0+1)) q.2) si (j+1) (JM.less si q (j+1))->Dl kv (fun s'=>Vp i s'\/∃ o,(1<=o/\o<=j+1)/\VC q (JM.pX (l.drop (n0+1)) q.1) (JM.pX (l.drop (n0+1)) q.2) si o s'):=fun hno=>S'.eq fun s'=>by
         constructor
         . rintro (h | ⟨o,h,r⟩)
           . exact .inl h
           . exact .inr ⟨o,⟨h.1,by omega⟩,r⟩
         . rintro (h | ⟨o,h,r⟩)
           . exact .inl h
           . by_cases e:o=j+1
             . subst e
               exact absurd (r.1 ▸ r) hno
             . exact .inr ⟨o,⟨h.1,by omega⟩,r⟩
       refine ⟨_,rfl,_,rfl,o,C,dx,fs,_,rfl,o5,cl,na,ea,p,_,_,_,rfl,rfl,rS.of hp,cV (xf hy1),_,rfl,?_⟩
       refine ⟨y1,_,rfl,bd _,⟨_,rfl,?_⟩⟩
       cases m1:JM.met y1 (JM.pX (l.drop (n0+1)) q.1) with
       | false=>exact ⟨_,_,kv,rfl,T9,Vq,no (fun r=>by have z:=r.2.1;rw [d1,m1] at z;cases z),by omega⟩
       | true=>
         refine ⟨_,rfl,_,rfl,o,C,dx,fs,_,rfl,o5,cl,nb,eb,p,_,_,_,rfl,rfl,rS.of hp,cV (xf WG),_,rfl,?_⟩
         refine ⟨y2,_,rfl,bd _,⟨_,rfl,?_⟩⟩
         cases m2:JM.met y2 (JM.pX (l.drop (n0+1)) q.2) with
         | false=>exact ⟨_,_,kv,rfl,T9,Vq,no (fun r=>by have z:=r.2.2;rw [d2,m2] at z;cases z),by omega⟩
         | true=>
           have r:VC q (JM.pX (l.drop (n0+1)) q.1) (JM.pX (l.drop (n0+1)) q.2) si (j+1) (JM.less si q (j+1)):=⟨rfl,by rw [d1];exact m1,by rw [d2];exact m2⟩
           refine ⟨_,rfl,_,rfl,fd,_,rfl,DQ.t (k:=kI (JM.less si q (j+1))) Vq (by rw [IK];exact hp) (by rw [sizeLine_eq];omega),?_⟩
           refine ⟨_,_,_,rfl,fun b u e n=>by rw [aq n];exact T9 b u e n,ai,(S'.put _ _).eq fun s'=>?_,?_⟩
           . constructor
             . rintro ((h | ⟨o,h,r'⟩) | h)
               . exact .inl h
               . exact .inr ⟨o,⟨h.1,by omega⟩,r'⟩
               . subst h;exact .inr ⟨j+1,⟨by omega,by omega⟩,r⟩
             . rintro (h | ⟨o,h,r'⟩)
               . exact .inl (.inl h)
               . by_cases e:o=j+1
                 . subst e;exact .inr r'.1
                 . exact .inl (.inr ⟨o,⟨h.1,by omega⟩,r'⟩)
           . have:=gA kv (kI (JM.less si q (j+1))) (V.bl true)
             omega
     . rintro σ H' ⟨v8,v9,kv,rfl,kq,hf',S',l'⟩
       refine ⟨_,_,_,kv,rfl,fun b' u e n=>kq b' u (kp b' u e n) (fun z=>by rw [z,Q9] at e;cases e),kq _ _ hdY (Ne.symm YY),hf',S'.eq fun s'=>?_,?_⟩
       . constructor
         . rintro (⟨i',kv',s,o,h1,h2,h3,h4,h5⟩ | ⟨o,h,r⟩)
           . exact ⟨i',kv',s,o,by omega,h2,h3,h4,h5⟩
           . exact ⟨i,_,si,o,by omega,QA,rfl,⟨h.1,h.2⟩,r⟩
         . rintro ⟨i',kv',s,o,h1,h2,h3,h4,h5⟩
           by_cases e:i'=i
           . subst e
             rw [QA] at h2
             cases h2
             have:=xg h3
             subst this
             exact .inr ⟨o,h4,h5⟩
           . exact .inl ⟨i',kv',s,o,by omega,h2,h3,h4,h5⟩
       . have:([V.int 1,V.int 2,V.int 3]:List V).length=3:=rfl
         omega
   . rintro σ H' ⟨v7,v8,v9,kv,rfl,kp,hd',hf',S',l'⟩
     refine ⟨hd',_,rfl,k _ fd kv (fun b u e=>?_) Q9 (by rw [aq YY];exact hf') (S'.eq fun s'=>?_) l'⟩
     . by_cases z:b=d
       . subst z
         rw [hd] at e
         cases e
         exact ai
       . rw [aq z]
         exact kp b u e z
     . constructor
       . rintro ⟨i',kv',s,o,h1,h2,h3,h4,h5⟩
         obtain ⟨s2',e,p⟩:=SD.of kv' (List.mem_of_getElem? h2)
         have:s=s2':=xg (h3.symm.trans e)
         subst this
         exact ⟨s,o,p,h4,h5⟩
       . rintro ⟨s,o,p,h4,h5⟩
         obtain ⟨kv',h1,h2⟩:=xh (SD.all s p)
         obtain ⟨i',h3⟩:=List.getElem?_of_mem h1
         exact ⟨i',kv',s,o,(List.getElem?_eq_some_iff.mp h3).1,h3,h2,h4,h5⟩
end
theorem QB (P:Nat->Prop) {o:Nat} (h1:1<=o) (h3:o<=3):Builtin.bitOr (JM.ig P:Int) ((2 ^ (o - 1):Nat):Int)=(JM.ig (fun x=>P x\/x=o):Int):=by
 have:o=1\/o=2\/o=3:=by omega
 unfold JM.ig
 by_cases p1:P 1<;>by_cases p2:P 2<;>by_cases p3:P 3<;>rcases this with r | r | r<;>subst r<;>simp [p1,p2,p3]<;>decide
theorem xj {P P':Nat->Prop} (h:∀ o,1<=o->o<=3->(P o ↔ P' o)):JM.ig P=JM.ig P':=by
 have h1:=h 1 (by decide) (by decide)
 have h2:=h 2 (by decide) (by decide)
 have h3:=h 3 (by decide) (by decide)
 have e1:=propext h1
 have e2:=propext h2
 have e3:=propext h3
 unfold JM.ig
 rw [e1,e2,e3]
theorem LU {P:Nat->Prop} (h:∀ o,¬ P o):JM.ig P=0:=by
 unfold JM.ig
 simp [h]
section
variable {P:Program} {w:World} {K:PySem.W.Frag} {mg:Str->Option Value} {base:Heap} {t:Ad}
noncomputable def D5 (S:List Int) (bs:List (Nat×Nat)):List Int:=(List.range bs.length).map fun k=>(JM.ig (JM.Found S bs k):Int)
def NZ (K:PySem.W.Frag):Sp:=fun vs H Q _=>∃ (ls lb:Addr) (n:Nat) (S:List Int) (us:List V) (bs:List (Nat×Nat)),vs=[.ref ls,.ref lb]/\H ls=some (.lst (vI S))/\S.length=n/\n<=1000/\k6 K H lb us bs/\bs.length<=12 /\
 (∀ q ∈ bs,q.1 < q.2/\q.2 < n)/\∀ H' l,bu H H'->H l=none->H' l=some (.lst (vI (D5 S bs)))->Q (.ref l) H'
theorem f7:aU ["sums","bonds","levels","k","found","ending_well","ahead","state","order"] ["sums","bonds"] (ak bH):=⟨rfl,rfl,rfl,by decide +kernel,rfl,by decide +kernel,by decide +kernel⟩
theorem LV (T:Txt K mg t):cE P w K mg base ve 3 t.c6 t.jR ["sums","bonds"] (NZ K):=by
 have GS:=@NY P w K mg base t T
 have GL:=@MK P w K mg base t T
 have GB:=@Q4 P w K mg base t T
 refine T.jU.ok f7 (fun vs H Q E h=>?_) (fun cdv A outer s H vs Q E hr h=>?_)
 . obtain ⟨ls,lb,n,S,us,bs,rfl,_⟩:=h
   rfl
 . obtain ⟨ls,lb,n,S,us,bs,rfl,hls,hS,hn,B,hm,ZT,k⟩:=h
   have hu:=hr.un
   have hu':(A.deeper (envOfC "redrawn_orders" (ak bH) s.heap.objs.size t.c6 cdv)).units+1 < cLine:=by omega
   have hr1:dW 1 _:=hr.mono (by decide)
   refine ⟨_,au (aZ (i:=2) f7.nd rfl (Or.inl rfl) (l7 (af (Q3 hu' (Bw xQ (by rfl) T.Hq PyProof.Rows.boot_tuple (af (pv 0) az)) Ow) az)))
     (au (g8 PassesOwn.never rfl (mJ rfl T.oE (af (eX bT (by rfl) T.nv PySem.boot_len (af (pv 1) az)) az)) (c7 (i:=3) f7.nd rfl (Or.inl rfl))
       (aH (dY (xR PySem.F.plainAttrs_list PySem.F.slot_list_append PySem.F.type_list_append gW (pv 2) (af (cU GS hr rfl T.tU T.lE.kp T.tQ .nil f9 (af (fV dS (pv 2) (pv 3) (fun _ _=>rfl)) (af (pv 1) (af (pv 3) az)))) az)))))
     (au (aZ (i:=4) f7.nd rfl (Or.inl rfl) (fU OQ (l7 (af aT az)) (eX bT (by rfl) T.nv PySem.boot_len (af (pv 1) az))))
     (au (aZ (i:=5) f7.nd rfl (Or.inl rfl) (fV dS (pv 2) (eX bT (by rfl) T.nv PySem.boot_len (af (pv 1) az)) (fun _ _=>rfl)))
     (au (g8 PassesOwn.never rfl (Nm rfl T.oE (af (fU zc (eX bT (by rfl) T.nv PySem.boot_len (af (pv 1) az)) aT) (af (Mh G8 aT) (af (Mh G8 aT) az)))) (c7 (i:=3) f7.nd rfl (Or.inl rfl))
       (au (aZ (i:=6) f7.nd rfl (Or.inl rfl) DR)
       (au (Mv (g8 PassesOwn.never rfl (Mw (fV dS (pv 2) (pv 3) (fun _ _=>rfl))) (c7 (i:=7) f7.nd rfl (Or.inl rfl))
         (aH (g8 PassesOwn.never rfl (Lp (bK rfl T.Ei (v:=.ref t.fX) rfl)) (c7 (i:=8) f7.nd rfl (Or.inl rfl))
           (aH (xP (Li (OW hu' (cU GL hr1 rfl T.sI T.mG.kp T.sF .nil f9 (af (pv 7) (af (fV dS (pv 1) (pv 3) (fun _ _=>rfl)) (af (pv 8) az)))) (pv 5)))
             (au (Uj (fU VX (fV dS (pv 4) (pv 3) (fun _ _=>rfl)) (cU GB hr1 rfl T.vS T.o9.kp T.vK .nil f9 (af (pv 8) az))) (Uh (pv 4) (pv 3) set_list))
             (aH (zB hu' (pv 6) (pv 7) Ow rfl))) ko))))))
       (aH (aZ (i:=5) f7.nd rfl (Or.inl rfl) (pv 6))))))
     (aH (cT (pv 4))))))),?_⟩
   intro d0 hd0
   have sa:bu H (upd H d0 (.dT [])):=aP hd0
   refine ⟨_,rfl,ls,_,rfl,.inl ⟨dN.of (sa _ _ hls),fun pt YZ=>?_⟩⟩
   have sb:bu H (upd (upd H d0 (.dT [])) pt (.tup (vI S))):=sa.trans (aP YZ)
   have Za:d0 ≠ pt:=fun z=>by rw [<- z,ai] at YZ;cases YZ
   refine ⟨by rw [aq Za];exact ai,kI S,pt,_,rfl,by rw [ai,IK],?_⟩
   have sc:bu H (upd (upd (upd H d0 (.dT [])) pt (.tup (vI S))) d0 (.dT [(kI S,V.bl true)])):=fun b u e=>by rw [aq (ay e hd0)];exact sb b u e
   refine ⟨by show 1<=sizeLine;decide,fun ll XD=>?_⟩
   have sd:bu H (upd (upd (upd (upd H d0 (.dT [])) pt (.tup (vI S))) d0 (.dT [(kI S,V.bl true)])) ll (.lst [.ref d0])):=sc.trans (aP XD)
   have Zb:H ll=none:=sc.free XD
   have Lv:∀ {H1 H2:Hp} {ds:List Addr},(∀ (j:Nat) d,ds[j]?=some d->∃ kvs,H1 d=some (.dT kvs)/\Dl kvs (JM.IF S bs j)/\kvs.length<=3 ^ j)->(∀ b kvs,H1 b=some (.dT kvs)->H2 b=some (.dT kvs))->∀ (j:Nat) d,ds[j]?=some d->∃ kvs,H2 d=some (.dT kvs)/\Dl kvs (JM.IF S bs j)/\kvs.length<=3 ^ j:=
     fun L f j d hd=>let ⟨kvs,a,b⟩:=L j d hd;⟨kvs,f _ _ a,b⟩
   have WY:us.length=bs.length:=B.2.1
   refine ⟨_,rfl,lb,us,rfl,.inl (dN.of (sd _ _ B.1)),(us.length:Int),rfl,by omega,by omega,?_⟩
   rw [Int.toNat_natCast]
   refine qd (n:=us.length) (fun i σ H'=>∃ vk ds,σ=[some (.ref ls),some (.ref lb),some (.ref ll),vk,none,none,none,none,none]/\bu H H'/\H' ll=some (.lst (ds.map V.ref))/\ds.length=i+1 /\
     ∀ (j:Nat) d,ds[j]?=some d->∃ kvs,H' d=some (.dT kvs)/\Dl kvs (JM.IF S bs j)/\kvs.length<=3 ^ j) ⟨none,[d0],rfl,sd,ai,rfl,fun j d hd=>?_⟩ ?_ ?_
   . cases j with
     | succ j=>simp at hd
     | zero=>
       obtain rfl:d0=d:=by simpa using hd
       have dl:d0 ≠ ll:=fun z=>by rw [<- z,ai] at XD;cases XD
       refine ⟨[(kI S,V.bl true)],by rw [aq dl];exact ai,⟨fun kv hk=>⟨S,by rw [List.mem_singleton.mp hk],rfl⟩,fun s hs=>?_⟩,Nat.le_refl _⟩
       rw [show s=S from hs,fF rfl]
       rfl
   . rintro i σ H' hi ⟨vk,ds,rfl,sm,hl',hds,L⟩
     obtain ⟨di,hdi⟩:∃ d,ds[i]?=some d:=⟨_,List.getElem?_eq_getElem (by omega)⟩
     obtain ⟨kvs,hk,SD,hkl⟩:=L i di hdi
     have hi':i < bs.length:=by omega
     obtain ⟨q,hq⟩:∃ q,bs[i]?=some q:=⟨_,List.getElem?_eq_getElem hi'⟩
     have T6:=ZT q (List.mem_of_getElem? hq)
     have p3:3 ^ i<=3 ^ 11:=Nat.pow_le_pow_right (by decide) (by omega)
     have e1:(ds.map V.ref)[i]?=some (V.ref di):=by rw [List.getElem?_map,hdi];rfl
     rw [Int.zero_add]
     have p11:(3:Nat) ^ 11=177147:=by decide
     have pk:3 * kvs.length<=10000000:=by omega
     refine ⟨_,rfl,.inl ⟨rfl,_,dN.of hl'⟩,_,rfl,_,rfl,ll,_,_,_,rfl,rfl,dN.of hl',cV e1,_,rfl,_,rfl,?_⟩
     refine ⟨di,lb,i,n,kvs,JM.IF S bs i,us,bs,q,rfl,hk,SD,fun s hs=>hs.len.trans hS,B.same sm,hq,by omega,hn,T6.1,T6.2,pk,fun H2 d' kvs' s2 nd' hd' SD' hl2=>?_⟩
     have hl2':=s2 _ _ hl'
     refine ⟨ll,_,_,rfl,rfl,hl2',by rw [sizeLine_eq,List.length_map];omega,?_⟩
     have dl:∀ b kvs,H2 b=some (.dT kvs)->b ≠ ll:=fun b kvs e z=>by rw [z,hl2'] at e;cases e
     refine ⟨_,ds++[d'],rfl,fun b u e=>by rw [aq (ay e Zb)];exact s2 _ _ (sm b u e),by rw [ai];simp,by simp [hds],fun j d hd=>?_⟩
     rcases Nat.lt_or_ge j ds.length with hj | hj
     . rw [List.getElem?_append_left hj] at hd
       obtain ⟨kv2,a,b,c⟩:=L j d hd
       exact ⟨kv2,by rw [aq (dl _ _ (s2 _ _ a))];exact s2 _ _ a,b,c⟩
     . have ej:j=ds.length:=by
         have:=(List.getElem?_eq_some_iff.mp hd).1
         simp at this
         omega
       subst ej
       rw [List.getElem?_append_right (Nat.le_refl _),Nat.sub_self] at hd
       obtain rfl:d'=d:=by simpa using hd
       refine ⟨kvs',by rw [aq (dl _ _ hd')];exact hd',?_,?_⟩
       . rw [hds]
         refine SD'.eq fun s'=>?_
         constructor
         . rintro ⟨s,o,h1,h2,h3,h4,h5⟩
           exact ⟨s,q,o,h1,hq,h2,h3,h4,h5⟩
         . rintro ⟨s,q',o,h1,h6,h2,h3,h4,h5⟩
           rw [hq] at h6
           cases h6
           exact ⟨s,o,h1,h2,h3,h4,h5⟩
       . rw [hds,Nat.pow_succ]
         omega
   . rintro σ H1 ⟨vk,ds,rfl,sm,hl1,hds,L⟩
     refine ⟨by show 1<=sizeLine;decide,fun p0 hp0=>?_⟩
     have s1:bu H1 (upd H1 p0 (.lst [V.int 0])):=aP hp0
     refine ⟨_,rfl,lb,us,rfl,.inl (dN.of (s1 _ _ (sm _ _ B.1))),p0,_,_,rfl,rfl,ai,by omega,by omega,by rw [sizeLine_eq];simp;omega,fun lf ZU=>?_⟩
     rw [Int.toNat_natCast,zeros]
     have s2:bu H1 (upd (upd H1 p0 (.lst [V.int 0])) lf (.lst (vI (nP us.length [])))):=s1.trans (aP ZU)
     have WZ:H1 lf=none:=s1.free ZU
     have Sx:H lf=none:=sm.free WZ
     obtain ⟨dm,ZV⟩:∃ d,ds[us.length]?=some d:=⟨_,List.getElem?_eq_getElem (by omega)⟩
     have em:(ds.map V.ref)[us.length]?=some (V.ref dm):=by rw [List.getElem?_map,ZV];rfl
     refine ⟨_,rfl,_,rfl,lb,us,rfl,.inl (dN.of (s2 _ _ (sm _ _ B.1))),ll,_,_,_,rfl,rfl,dN.of (s2 _ _ hl1),cV em,?_⟩
     obtain ⟨ZW,hkm,SDm,_⟩:=L us.length dm ZV
     refine ⟨_,rfl,lb,us,rfl,.inl (dN.of (s2 _ _ (sm _ _ B.1))),_,_,rfl,rfl,_,rfl,_,rfl,_,_,_,_,rfl,X4.neg (by omega) (by omega) (by omega) (by omega),?_⟩
     rw [show ((us.length:Int) - 1 - -1).toNat=us.length by omega]
     let fl:Nat->Nat->Int:=fun i k=>if us.length - i<=k then (JM.ig (JM.Found S bs k):Int) else 0
     refine L5 (n:=us.length) (fun i σ H'=>∃ vk v6 v7 v8 ew TF,σ=[some (.ref ls),some (.ref lb),some (.ref ll),vk,some (.ref lf),some (.ref ew),v6,v7,v8]/\bu H H'/\H' ll=some (.lst (ds.map V.ref)) /\
       (∀ (j:Nat) d,ds[j]?=some d->∃ kvs,H' d=some (.dT kvs)/\Dl kvs (JM.IF S bs j)/\kvs.length<=3 ^ j)/\H' lf=some (.lst (vI ((List.range us.length).map (fl i))))/\H' ew=some (.dT TF)/\Dl TF (JM.LR S bs i))
       ⟨_,none,none,none,dm,ZW,rfl,sm.trans s2,s2 _ _ hl1,Lv L (fun b kvs e=>s2 _ _ e),?_,s2 _ _ hkm,?_⟩ ?_ ?_
     . rw [ai]
       congr 3
       refine List.map_congr_left fun u hu=>?_
       have:u < us.length:=List.mem_range.mp hu
       show (JM.jw [] u:Int)=if us.length - 0<=u then _ else _
       rw [if_neg (by omega)]
       rfl
     . show Dl ZW (JM.IF S bs bs.length)
       rw [<- WY]
       exact SDm
     . rintro i σ H' hi ⟨vk,v6,v7,v8,ew,TF,rfl,sm',hl',L',hf',he',SE⟩
       rw [show (us.length:Int) - 1+(i:Nat) * -1=((us.length - 1 - i:Nat):Int) by omega]
       have hk:us.length - 1 - i < us.length:=by omega
       have hkb:us.length - 1 - i < bs.length:=by omega
       obtain ⟨d,hd⟩:∃ d,ds[us.length - 1 - i]?=some d:=⟨_,List.getElem?_eq_getElem (by omega)⟩
       have ed:(ds.map V.ref)[us.length - 1 - i]?=some (V.ref d):=by rw [List.getElem?_map,hd];rfl
       obtain ⟨kvs,hkv,SD,hkl⟩:=L' _ d hd
       have p3:3 ^ (us.length - 1 - i)<=3 ^ 12:=Nat.pow_le_pow_right (by decide) (by omega)
       have p12:(3:Nat) ^ 12=531441:=by decide
       obtain ⟨q,hq⟩:∃ q,bs[us.length - 1 - i]?=some q:=⟨_,List.getElem?_eq_getElem hkb⟩
       have T6:=ZT q (List.mem_of_getElem? hq)
       obtain ⟨bv,hbv⟩:∃ v,us[us.length - 1 - i]?=some v:=⟨_,List.getElem?_eq_getElem hk⟩
       have ek:bs.length - (i+1)=us.length - 1 - i:=by omega
       have ZX:bs.length - (us.length - 1 - i+1)=i:=by omega
       intro ah Vr
       have sh:bu H' (upd H' ah (.dT [])):=aP Vr
       have Sy:∀ {b u},H' b=some u->(∀ kvs,u ≠ .dT kvs)->b ≠ d:=fun {b u} e n z=>by rw [z,hkv] at e;cases e;exact n _ rfl
       have Zc:ah ≠ d:=fun z=>by rw [z,hkv] at Vr;cases Vr
       have Zd:ah ≠ lf:=fun z=>by rw [z,hf'] at Vr;cases Vr
       have Ze:lf ≠ d:=Sy hf' (fun _ z=>by cases z)
       have lld:ll ≠ d:=Sy hl' (fun _ z=>by cases z)
       have llf:ll ≠ lf:=fun z=>by rw [z,WZ] at hl1;cases hl1
       have lbf:lb ≠ lf:=ay B.1 Sx
       have lbd:lb ≠ d:=Sy (sm' _ _ B.1) (fun _ z=>by cases z)
       have ewf:ew ≠ lf:=fun z=>by rw [z,hf'] at he';cases he'
       refine ⟨d,_,sh _ _ hkv,True.intro,fun od=>?_⟩
       refine ⟨_,rfl,_,rfl,ll,_,_,_,rfl,rfl,dN.of (by rw [aq lld];exact sh _ _ hl'),cV ed,d,od,rfl,.inr ⟨kvs,ai,?_⟩⟩
       let FA:Nat->Nat->Prop:=fun a o=>∃ a' kv s,a' < a/\kvs[a']?=some kv/\kv.1=kI s/\JM.LR S bs i (JM.less s q o)
       let SA:Nat->List Int->Prop:=fun a s=>∃ a' kv,a' < a/\kvs[a']?=some kv/\kv.1=kI s/\∃ o,(1<=o/\o<=3)/\JM.LR S bs i (JM.less s q o)
       refine Gw (d:=d) (o:=od) (kvs:=kvs) (fun a σ H3=>∃ v7 v8 Lg,σ=[some (.ref ls),some (.ref lb),some (.ref ll),some (.int ((us.length - 1 - i:Nat):Int)),some (.ref lf),some (.ref ew),some (.ref ah),v7,v8] /\
         (∀ b u,H' b=some u->b ≠ d->b ≠ lf->H3 b=some u)/\H3 d=some (.l6 od (.dT kvs))/\H3 lf=some (.lst (vI (((List.range us.length).map (fl i)).set (us.length - 1 - i) (JM.ig (FA a):Int))))/\H3 ah=some (.dT Lg)/\Dl Lg (SA a)/\Lg.length<=3 * a)
         ⟨v7,v8,[],rfl,fun b u e n _=>by rw [aq n];exact sh _ _ e,ai,?_,by rw [aq Zc];exact ai,Dl.nil.eq fun s=>⟨fun h=>h.elim,fun ⟨a',_,h,_⟩=>by omega⟩,Nat.zero_le _⟩ (fun a σ H3 ⟨_,_,_,_,_,h,_⟩=>h) ?_ ?_
       . rw [aq Ze,aq (Ne.symm Zd),hf',LU (P:=FA 0) (fun o ⟨a',_,_,h,_⟩=>by omega),Bk]
         congr 3
         refine List.map_congr_left fun u hu=>?_
         by_cases e:u=us.length - 1 - i
         . rw [if_pos e]
           show (if us.length - i<=u then _ else _)=_
           rw [if_neg (by omega)]
           rfl
         . rw [if_neg e]
       . rintro a ky v b σ H3 QA ⟨v7,v8,Lg,rfl,kp,XE,XF,XG,Zf,lA3⟩ hb
         have hal:a < kvs.length:=(List.getElem?_eq_some_iff.mp QA).1
         obtain ⟨si,ZY,hsi⟩:=SD.of (ky,v) (List.mem_of_getElem? QA)
         simp only at ZY
         subst ZY
         rw [IK] at hb
         have sl:si.length=n:=hsi.len.trans hS
         have ZZ:b ≠ ah:=fun z=>by rw [z,XG] at hb;cases hb
         have Zg:b ≠ lf:=fun z=>by rw [z,XF] at hb;cases hb
         have dah:d ≠ ah:=Ne.symm Zc
         have dlf:d ≠ lf:=Ne.symm Ze
         refine ⟨t.fX,rfl,⟨_,T.vZ H3⟩,?_⟩
         let FJ:Nat->Nat->Prop:=fun j o=>FA a o\/((1<=o/\o<=j)/\JM.LR S bs i (JM.less si q o))
         let SJ:Nat->List Int->Prop:=fun j s=>SA a s\/(s=si/\∃ o,(1<=o/\o<=j)/\JM.LR S bs i (JM.less si q o))
         refine G7 (K:=K) (a:=t.fX) (xs:=[.int 1,.int 2,.int 3]) (fun j σ H4=>∃ v8 Lg,σ=[some (.ref ls),some (.ref lb),some (.ref ll),some (.int ((us.length - 1 - i:Nat):Int)),some (.ref lf),some (.ref ew),some (.ref ah),some (.ref b),v8] /\
           (∀ b u,H3 b=some u->b ≠ ah->b ≠ lf->H4 b=some u)/\H4 lf=some (.lst (vI (((List.range us.length).map (fl i)).set (us.length - 1 - i) (JM.ig (FJ j):Int))))/\H4 ah=some (.dT Lg)/\Dl Lg (SJ j)/\Lg.length<=3 * a+j)
           ⟨v8,Lg,rfl,fun b u e _ _=>e,?_,XG,Zf.eq fun s=>⟨.inl,fun h=>by rcases h with h | ⟨_,o,h,_⟩;exact h;omega⟩,by omega⟩ (fun j σ H' _ _=>T.vZ H') ?_ ?_
         . rw [XF,xj (P:=FA a) (P':=FJ 0) fun o h1 _=>⟨.inl,fun h=>by rcases h with h | ⟨h,_⟩;exact h;omega⟩]
         . rintro j x σ H4 hx ⟨v8,Lg,rfl,kq,XH,Zh,S4,l4⟩
           have hj:j < 3:=by simpa using (List.getElem?_eq_some_iff.mp hx).1
           obtain rfl:x=.int ((j+1:Nat):Int):=by
             have:j=0\/j=1\/j=2:=by omega
             rcases this with r | r | r<;>subst r<;>simp at hx<;>rw [<- hx]<;>rfl
           have k4:∀ b u,H' b=some u->b ≠ d->b ≠ lf->H4 b=some u:=fun b u e n1 n2=>kq _ _ (kp b u e n1 n2) (ay e Vr) n2
           have B4:H4 lb=some (.lst us):=k4 _ _ (sm' _ _ B.1) lbd lbf
           have en:=B.2.2 _ bv q hbv hq
           have en4:pW K H4 bv q:=by
             obtain ⟨o,C,dx,fs,e0,e1,rest⟩:=en
             exact ⟨o,C,dx,fs,e0,k4 _ _ (sm' _ _ e1) (Sy (sm' _ _ e1) (fun _ z=>by cases z)) (ay e1 Sx),rest⟩
           refine ⟨_,rfl,_,rfl,_,rfl,lb,us,_,_,rfl,rfl,dN.of B4,cV hbv,_,rfl,?_⟩
           refine ⟨b,bv,j+1,n,si,q,rfl,kq _ _ hb ZZ Zg,en4,T6.1,by omega,by omega,fun H5 p s5 np hp=>?_⟩
           have Vq:=s5 _ _ XH
           have ha5:=s5 _ _ Zh
           have T9:∀ b u,H3 b=some u->b ≠ ah->b ≠ lf->H5 b=some u:=fun b u e n1 n2=>s5 _ _ (kq b u e n1 n2)
           have rdE:Rd H5 ew (.dT TF):=by
             by_cases z:ew=d
             . have:TF=kvs:=by rw [z,hkv] at he';cases he';rfl
               rw [z,this]
               exact .inr ⟨od,T9 _ _ XE dah dlf⟩
             . exact .inl (s5 _ _ (k4 _ _ he' z ewf))
           refine ⟨_,rfl,ew,_,rfl,.inr ⟨TF,kI (JM.less si q (j+1)),p,rdE,rfl,by rw [IK];exact hp,rfl⟩,_,rfl,?_⟩
           have Xa:=SE.iff (JM.less si q (j+1))
           have orJ:∀ (W:Prop),(W ↔ JM.LR S bs i (JM.less si q (j+1)))->∀ o,FJ (j+1) o ↔ (FJ j o\/(W/\o=j+1)):=fun W hW o=>by
             constructor
             . rintro (h | ⟨h,w⟩)
               . exact .inl (.inl h)
               . by_cases e:o=j+1
                 . subst e;exact .inr ⟨hW.mpr w,rfl⟩
                 . exact .inl (.inr ⟨⟨h.1,by omega⟩,w⟩)
             . rintro ((h | ⟨h,w⟩) | ⟨w,rfl⟩)
               . exact .inl h
               . exact .inr ⟨⟨h.1,by omega⟩,w⟩
               . exact .inr ⟨⟨by omega,by omega⟩,hW.mp w⟩
           have orS:∀ (W:Prop),(W ↔ JM.LR S bs i (JM.less si q (j+1)))->∀ s,SJ (j+1) s ↔ (SJ j s\/(W/\s=si)):=fun W hW s=>by
             constructor
             . rintro (h | ⟨h,o,h2,w⟩)
               . exact .inl (.inl h)
               . by_cases e:o=j+1
                 . subst e;exact .inr ⟨hW.mpr w,h⟩
                 . exact .inl (.inr ⟨h,o,⟨h2.1,by omega⟩,w⟩)
             . rintro ((h | ⟨h,o,h2,w⟩) | ⟨w,rfl⟩)
               . exact .inl h
               . exact .inr ⟨h,o,⟨h2.1,by omega⟩,w⟩
               . exact .inr ⟨rfl,j+1,⟨by omega,by omega⟩,hW.mp w⟩
           cases hin:(iA TF (kI (JM.less si q (j+1)))).isSome with
           | false=>
             have nW:¬ JM.LR S bs i (JM.less si q (j+1)):=fun w=>by rw [Xa.mpr w] at hin;cases hin
             have wF:False ↔ JM.LR S bs i (JM.less si q (j+1)):=⟨False.elim,nW⟩
             refine ⟨_,Lg,rfl,T9,?_,ha5,S4.eq fun s=>?_,by omega⟩
             . rw [Vq,xj (P:=FJ j) (P':=FJ (j+1)) fun o _ _=>by rw [orJ False wF o];simp]
             . rw [orS False wF s];simp
           | true=>
             have hW:=Xa.mp hin
             have wT:True ↔ JM.LR S bs i (JM.less si q (j+1)):=⟨fun _=>hW,fun _=>trivial⟩
             have gk:(vI (((List.range us.length).map (fl i)).set (us.length - 1 - i) (JM.ig (FJ j):Int)))[us.length - 1 - i]?=some (.int (JM.ig (FJ j):Int)):=xf (by rw [List.getElem?_set_self (by simp;exact hk)])
             refine ⟨_,rfl,_,rfl,lf,_,_,_,rfl,rfl,dN.of Vq,cV gk,_,rfl,?_⟩
             refine ⟨j+1,rfl,by omega,by omega,_,_,rfl,rfl,?_⟩
             refine ⟨_,rfl,_,rfl,lf,_,_,us.length - 1 - i,rfl,rfl,Vq,Bj (by simp [vI];omega),?_⟩
             rw [EC,QB _ (by omega) (by omega),List.set_set]
             refine ⟨_,rfl,_,rfl,ah,_,rfl,DQ.t (k:=kI si) (by rw [aq Zd];exact ha5) (by rw [aq Zg,IK];exact T9 _ _ hb ZZ Zg) (by rw [sizeLine_eq];omega),?_⟩
             refine ⟨_,_,rfl,fun b u e n1 n2=>by rw [aq n1,aq n2];exact T9 b u e n1 n2,?_,ai,(S4.put _ _).eq fun s=>?_,?_⟩
             . rw [aq (Ne.symm Zd),ai,xj (P:=fun x=>FJ j x\/x=j+1) (P':=FJ (j+1)) fun o _ _=>by rw [orJ True wT o];simp]
             . rw [orS True wT s];simp
             . have:=gA Lg (kI si) (V.bl true)
               omega
         . rintro σ H4 ⟨v8,Lg,rfl,kq,XH,Zh,S4,l4⟩
           have l3:([V.int 1,V.int 2,V.int 3]:List V).length=3:=rfl
           rw [l3] at XH S4 l4
           refine ⟨_,_,Lg,rfl,fun b' u e n1 n2=>kq _ _ (kp b' u e n1 n2) (ay e Vr) n2,kq _ _ XE dah dlf,?_,Zh,S4.eq fun s=>?_,by omega⟩
           . rw [XH,xj (P:=FJ 3) (P':=FA (a+1)) fun o h1 h3=>?_]
             constructor
             . rintro (⟨a',kv,s,g1,g2,g3,g4⟩ | ⟨_,w⟩)
               . exact ⟨a',kv,s,by omega,g2,g3,g4⟩
               . exact ⟨a,_,si,by omega,QA,rfl,w⟩
             . rintro ⟨a',kv,s,g1,g2,g3,g4⟩
               by_cases e:a'=a
               . subst e
                 rw [QA] at g2
                 cases g2
                 have:=xg g3
                 subst this
                 exact .inr ⟨⟨h1,h3⟩,g4⟩
               . exact .inl ⟨a',kv,s,by omega,g2,g3,g4⟩
           . constructor
             . rintro (⟨a',kv,g1,g2,g3,g4⟩ | ⟨rfl,o,h,w⟩)
               . exact ⟨a',kv,by omega,g2,g3,g4⟩
               . exact ⟨a,_,by omega,QA,rfl,o,h,w⟩
             . rintro ⟨a',kv,g1,g2,g3,o,h,w⟩
               by_cases e:a'=a
               . subst e
                 rw [QA] at g2
                 cases g2
                 have:=xg g3
                 subst this
                 exact .inr ⟨rfl,o,h,w⟩
               . exact .inl ⟨a',kv,by omega,g2,g3,o,h,w⟩
       . rintro σ H3 ⟨v7,v8,Lg,rfl,kp,XE,XF,XG,Zf,lA3⟩
         refine ⟨XE,_,rfl,?_⟩
         have keep:∀ b u,H' b=some u->b ≠ lf->upd H3 d (.dT kvs) b=some u:=fun b u e n=>by
           by_cases z:b=d
           . subst z
             rw [hkv] at e
             cases e
             exact ai
           . rw [aq z]
             exact kp b u e z n
         refine ⟨_,_,_,_,ah,Lg,rfl,fun b u e=>keep b u (sm' b u e) (ay e Sx),keep _ _ hl' llf,Lv L' (fun b kvs e=>keep _ _ e (fun z=>by rw [z,hf'] at e;cases e)),?_,by rw [aq Zc];exact XG,Zf.eq fun s=>?_⟩
         . rw [aq Ze,XF,Bk]
           congr 3
           refine List.map_congr_left fun u hu=>?_
           show _=if us.length - (i+1)<=u then _ else _
           by_cases e:u=us.length - 1 - i
           . rw [if_pos e,if_pos (by omega),e]
             congr 1
             refine xj fun o _ _=>?_
             constructor
             . rintro ⟨a',kv,s,_,h1,h2,h3⟩
               obtain ⟨s',e1,p⟩:=SD.of kv (List.mem_of_getElem? h1)
               have:=xg (h2.symm.trans e1)
               subst this
               exact ⟨s,q,p,hq,by rw [ZX];exact h3⟩
             . rintro ⟨s,q',p,h1,h2⟩
               rw [hq] at h1
               cases h1
               rw [ZX] at h2
               obtain ⟨kv,g1,g2⟩:=xh (SD.all s p)
               obtain ⟨a',g3⟩:=List.getElem?_of_mem g1
               exact ⟨a',kv,s,(List.getElem?_eq_some_iff.mp g3).1,g3,g2,h2⟩
           . rw [if_neg e]
             show (if us.length - i<=u then _ else _)=_
             by_cases e2:us.length - i<=u
             . rw [if_pos e2,if_pos (by omega)]
             . rw [if_neg e2,if_neg (by omega)]
         . constructor
           . rintro ⟨a',kv,_,h1,h2,o,h3,h4⟩
             obtain ⟨s',e1,p⟩:=SD.of kv (List.mem_of_getElem? h1)
             have:=xg (h2.symm.trans e1)
             subst this
             exact ⟨by rw [ek];exact p,q,o,by rw [ek];exact hq,h3,h4⟩
           . rintro ⟨p,q',o,h1,h3,h4⟩
             rw [ek] at p h1
             rw [hq] at h1
             cases h1
             obtain ⟨kv,g1,g2⟩:=xh (SD.all s p)
             obtain ⟨a',g3⟩:=List.getElem?_of_mem g1
             exact ⟨a',kv,(List.getElem?_eq_some_iff.mp g3).1,g3,g2,o,h3,h4⟩
     . rintro σ H' ⟨vk,v6,v7,v8,ew,TF,rfl,sm',hl',L',hf',he',SE⟩
       refine ⟨_,rfl,k H' lf sm' Sx ?_⟩
       rw [hf']
       congr 3
       unfold D5
       rw [WY]
       refine List.map_congr_left fun u hu=>?_
       show (if us.length - bs.length<=u then _ else _)=_
       rw [if_pos (by omega)]
end
def fR (v w:Nat) (q:Nat×Nat):Bool:=(q.1==v&&q.2==w)||(q.1==w&&q.2==v)
def Oa (kvs:List (List Key×V)) (l:List (Nat×Nat)):Prop:=∀ v w:Nat,iA kvs (kI [(v:Int),(w:Int)])=(l.findIdx? (fR v w)).map fun k=>V.int (k:Int)
theorem QC {a b c d:Nat} (h:kI [(a:Int),(b:Int)]=kI [(c:Int),(d:Int)]):a=c/\b=d:=by
 have:=xg h
 simp at this
 omega
theorem Oa.snoc {kvs:List (List Key×V)} {l:List (Nat×Nat)} {q:Nat×Nat} (d:Oa kvs l) (hn:∀ p ∈ l,p ≠ q) (hl:∀ p ∈ l,p.1 < p.2) (hq:q.1 < q.2) :
   Oa (putK (putK kvs (kI [(q.1:Int),(q.2:Int)]) (V.int (l.length:Int))) (kI [(q.2:Int),(q.1:Int)]) (V.int (l.length:Int))) (l++[q]):=by
 intro v w
 rw [zA,zA,List.findIdx?_append]
 have old:fR v w q=true->l.findIdx? (fR v w)=none:=fun h=>by
   rw [List.findIdx?_eq_none_iff]
   intro p hp
   have h1:=hl p hp
   have h2:=hn p hp
   unfold fR at h ⊢
   simp only [Bool.or_eq_true,Bool.and_eq_true,beq_iff_eq] at h
   rw [Bool.eq_false_iff]
   intro hc
   simp only [Bool.or_eq_true,Bool.and_eq_true,beq_iff_eq] at hc
   refine h2 (Prod.ext ?_ ?_)<;>omega
 by_cases h1:kI [(v:Int),(w:Int)]=kI [(q.2:Int),(q.1:Int)]
 . obtain ⟨rfl,rfl⟩:=QC h1
   have hj:fR q.2 q.1 q=true:=by simp [fR]
   rw [if_pos rfl,old hj]
   simp [List.findIdx?_cons,hj]
 . rw [if_neg h1]
   by_cases h2:kI [(v:Int),(w:Int)]=kI [(q.1:Int),(q.2:Int)]
   . obtain ⟨rfl,rfl⟩:=QC h2
     have hj:fR q.1 q.2 q=true:=by simp [fR]
     rw [if_pos rfl,old hj]
     simp [List.findIdx?_cons,hj]
   . rw [if_neg h2,d v w]
     have hj:fR v w q=false:=by
       rw [Bool.eq_false_iff]
       intro h
       unfold fR at h
       simp only [Bool.or_eq_true,Bool.and_eq_true,beq_iff_eq] at h
       rcases h with ⟨rfl,rfl⟩ | ⟨rfl,rfl⟩
       . exact h2 rfl
       . exact h1 rfl
     cases l.findIdx? (fR v w)<;>simp [List.findIdx?_cons,hj]
section
variable {P:Program} {w:World} {K:PySem.W.Frag} {mg:Str->Option Value} {base:Heap} {t:Ad}
def Sz (K:PySem.W.Frag):Sp:=fun vs H Q _=>∃ (lb:Addr) (us:List V) (l:List (Nat×Nat)) (n:Nat),vs=[.ref lb]/\k6 K H lb us l/\l.length<=1000/\JM.vy n l /\
 ∀ H' d kvs,bu H H'->H d=none->H' d=some (.dT kvs)->Oa kvs l->Q (.ref d) H'
theorem Bl:aU ["bonds","numbers","k","bond"] ["bonds"] (ak bX):=⟨rfl,rfl,rfl,by decide +kernel,rfl,by decide +kernel,by decide +kernel⟩
theorem QD (T:Txt K mg t):cE P w K mg base ve 1 t.cZ t.mS ["bonds"] (Sz K):=by
 refine T.mZ.ok Bl (fun vs H Q E h=>?_) (fun cdv A outer s H vs Q E hr h=>?_)
 . obtain ⟨lb,us,l,n,rfl,_⟩:=h
   rfl
 . obtain ⟨lb,us,l,n,rfl,B,hl,QE,k⟩:=h
   have hu:=hr.un
   have hu':(A.deeper (envOfC "pair_numbers" (ak bX) s.heap.objs.size t.cZ cdv)).units+1 < cLine:=by omega
   refine ⟨_,au (aZ (i:=1) Bl.nd rfl (Or.inl rfl) DR)
     (au (g8 PassesOwn.never rfl (Hh rfl T.oB (af (pv 0) az)) (Lk rfl (qc (c7 (i:=2) Bl.nd rfl (Or.inl rfl)) (qc (c7 (i:=3) Bl.nd rfl (Or.inl rfl)) G6)))
       (au (zB hu' (pv 1) (vj (af (aL (pv 3) rfl) (af (aL (pv 3) rfl) az))) (pv 2) rfl)
       (aH (zB hu' (pv 1) (vj (af (aL (pv 3) rfl) (af (aL (pv 3) rfl) az))) (pv 2) rfl))))
     (aH (cT (pv 1)))),?_⟩
   intro d hd
   have s1:bu H (upd H d (.dT [])):=aP hd
   refine ⟨_,rfl,lb,us,rfl,dN.of (s1 _ _ B.1),?_⟩
   refine E6 (K:=K) (a:=lb) (xs:=us) (fun i σ H'=>∃ v2 v3 kvs,σ=[some (.ref lb),some (.ref d),v2,v3]/\bu H H'/\H' d=some (.dT kvs)/\Oa kvs (l.take i)/\kvs.length<=2 * i) ⟨none,none,[],rfl,s1,ai,fun v w=>rfl,Nat.zero_le _⟩ (fun i σ H' _ ⟨_,_,_,_,sm,_⟩=>dN.of (sm _ _ B.1)) ?_ ?_
   . rintro i x σ H' Tt hx ⟨v2,v3,kvs,rfl,sm,hd',N,hlen⟩ hT
     have hi:i < us.length:=(List.getElem?_eq_some_iff.mp hx).1
     have hil:i < l.length:=by rw [<- B.2.1];exact hi
     obtain ⟨q,hq⟩:∃ q,l[i]?=some q:=⟨_,List.getElem?_eq_getElem hil⟩
     obtain ⟨o,C,dx,fs,rfl,e1,cl,na,nb,ea,eb⟩:=B.2.2 i x q hx hq
     have sT:bu H (upd H' Tt (.tup [.int (i:Int),.ref o])):=sm.trans (aP hT)
     have dT':d ≠ Tt:=fun z=>by rw [<- z,hd'] at hT;cases hT
     refine ⟨Tt,_,rfl,rS.of ai,rfl,_,_,rfl,_,_,rfl,rfl,?_⟩
     refine ⟨_,rfl,_,rfl,_,rfl,o,C,dx,fs,_,rfl,sT _ _ e1,cl,na,ea,_,rfl,o,C,dx,fs,_,rfl,sT _ _ e1,cl,nb,eb,(by show 2<=sizeLine;decide),fun p1 hp1=>?_⟩
     have hd1:upd (upd H' Tt (.tup [.int (i:Int),.ref o])) p1 (.tup [.int (q.1:Int),.int (q.2:Int)]) d=some (.dT kvs):=by
       have:upd H' Tt (.tup [.int (i:Int),.ref o]) d=some (.dT kvs):=by rw [aq dT'];exact hd'
       rw [aq (ay this hp1)];exact this
     have XI:bu H (upd (upd H' Tt (.tup [.int (i:Int),.ref o])) p1 (.tup [.int (q.1:Int),.int (q.2:Int)])):=sT.trans (aP hp1)
     refine ⟨d,_,rfl,DQ.t (k:=kI [(q.1:Int),(q.2:Int)]) hd1 (by rw [IK];exact ai) (by rw [sizeLine_eq];omega),?_⟩
     have Zi:bu H (upd (upd (upd H' Tt (.tup [.int (i:Int),.ref o])) p1 (.tup [.int (q.1:Int),.int (q.2:Int)])) d (.dT (putK kvs (kI [(q.1:Int),(q.2:Int)]) (.int (i:Int))))):=fun b u e=>by rw [aq (ay e hd)];exact XI b u e
     refine ⟨_,rfl,_,rfl,_,rfl,o,C,dx,fs,_,rfl,Zi _ _ e1,cl,nb,eb,_,rfl,o,C,dx,fs,_,rfl,Zi _ _ e1,cl,na,ea,(by show 2<=sizeLine;decide),fun p2 hp2=>?_⟩
     have l1:=gA kvs (kI [(q.1:Int),(q.2:Int)]) (V.int (i:Int))
     have d2:d ≠ p2:=fun z=>by rw [<- z,ai] at hp2;cases hp2
     refine ⟨d,_,rfl,DQ.t (k:=kI [(q.2:Int),(q.1:Int)]) (by rw [aq d2];exact ai) (by rw [IK];exact ai) (by rw [sizeLine_eq];omega),?_⟩
     have l2:=gA (putK kvs (kI [(q.1:Int),(q.2:Int)]) (V.int (i:Int))) (kI [(q.2:Int),(q.1:Int)]) (V.int (i:Int))
     refine ⟨_,_,_,rfl,fun b u e=>by rw [aq (ay e hd)];exact (Zi.trans (aP hp2)) b u e,ai,?_,by omega⟩
     rw [take_snoc hq]
     have tl:(l.take i).length=i:=by rw [List.length_take];omega
     have:=N.snoc (q:=q) (fun p hp e=>?_) (fun p hp=>(QE.1 p (List.mem_of_mem_take hp)).1) (QE.1 q (List.mem_of_getElem? hq)).1
     . rw [tl] at this
       exact this
     . obtain ⟨j,hj⟩:=List.getElem?_of_mem hp
       have hji:j < i:=by
         have:=(List.getElem?_eq_some_iff.mp hj).1
         rw [tl] at this;exact this
       rw [List.getElem?_take_of_lt hji] at hj
       have pw:=List.pairwise_iff_getElem.mp QE.2 j i (by omega) hil hji
       rw [List.getElem?_eq_getElem (by omega)] at hj hq
       have e1:=Option.some.inj hj
       have e2:=Option.some.inj hq
       rw [e1,e2,e] at pw
       omega
   . rintro σ H' ⟨v2,v3,kvs,rfl,sm,hd',N,hlen⟩
     rw [B.2.1,List.take_length] at N
     exact ⟨_,rfl,k H' d kvs sm hd hd' N⟩
end
open JM (bO aG ie dU)
def mfs (la lb lr ls lo ln:Addr):List (Str×V):=[("atoms",.ref la),("bonds",.ref lb),("neighbours",.ref lr),("sums",.ref ls),("orders",.ref lo),("bond_numbers",.ref ln)]
structure CA where
 la:Addr
 lb:Addr
 lr:Addr
 ls:Addr
 lo:Addr
 ln:Addr
 as:List V
 us:List V
 rs:List Addr
 kvs:List (List Key×V)
structure rM (t:Ad) (D:Addr->Prop) (H:Hp) (g:Addr) (z:CA) (y:bO):Prop where
 obj:∃ dx,H g=some (.ins t.aJ dx (mfs z.la z.lb z.lr z.ls z.lo z.ln))
 atoms:H z.la=some (.lst z.as)
 bonds:H z.lb=some (.lst z.us)
 rows:gx H z.lr z.rs z.as.length (JM.dX (y.2.map JM.aS))
 sums:H z.ls=some (.lst (vI (ie (aG y))))
 orders:H z.lo=some (.lst (vI (D5 (ie (aG y)) (dU (aG y)))))
 nums:H z.ln=some (.dT z.kvs)
 num:Oa z.kvs (y.2.map JM.aS)
 ra:gw (mD t.cW) D H z.as y.1
 rb:gw (jN t.cX) D H z.us y.2
theorem xm (y:bO):dU (aG y)=y.2.map JM.aS:=by
 unfold dU aG JM.aS JM.wY
 simp
theorem CB (y:bO):(aG y).n=y.1.length:=by simp [aG,Mol.n]
theorem QF (y:bO):ways y.2=(dU (aG y)).zip (aG y).orders:=by
 rw [xm]
 unfold ways Mol.orders aG
 simp only [List.map_map]
 rw [List.zip_map']
 rfl
theorem QG (y:bO) {n:Nat} (hn:y.1.length=n):nP n (ways y.2)=ie (aG y):=by
 unfold nP ie Mol.sums
 rw [CB,hn,List.map_map]
 refine List.map_congr_left fun v _=>?_
 show _=(((aG y).sum v:Nat):Int)
 rw [JM.KJ,QF]
section
variable {P:Program} {w:World} {K:PySem.W.Frag} {mg:Str->Option Value} {base:Heap} {t:Ad}
theorem gx.same' {H H':Hp} {lr:Addr} {rs:List Addr} {n:Nat} {row:Nat->List Nat} (R:gx H lr rs n row) (f:bu H H'):gx H' lr rs n row:=R.stay fun b o e _=>f b o e
theorem rM.same {D:Addr->Prop} {H H':Hp} {g:Addr} {z:CA} {y:bO} (M:rM t D H g z y) (f:bu H H'):rM t D H' g z y:=
 ⟨let ⟨dx,e⟩:=M.obj;⟨dx,f _ _ e⟩,f _ _ M.atoms,f _ _ M.bonds,M.rows.same' f,f _ _ M.sums,f _ _ M.orders,f _ _ M.nums,M.num,M.ra.stay (mD.ok _) fun b o _ e=>f b o e,M.rb.stay (jN.ok _) fun b o _ e=>f b o e⟩
theorem KN (T:Txt K mg t) {D:Addr->Prop} {H:Hp} {lb:Addr} {us:List V} {ys:List (Bond×Nat)} (hb:H lb=some (.lst us)) (R:gw (jN t.cX) D H us ys):k6 K H lb us (ys.map JM.aS):=
 ⟨hb,by rw [List.length_map];exact R.len,fun i v q h1 h2=>by
   rw [List.getElem?_map] at h2
   cases hz:ys[i]? with
   | none=>rw [hz] at h2;cases h2
   | some z=>
     rw [hz] at h2
     cases h2
     obtain ⟨o,dx,rfl,_,e⟩:=R.at_ i v z h1 hz
     exact ⟨o,_,dx,_,rfl,e,T.eW,T.fY,T.fZ,rfl,rfl⟩⟩
theorem gw.neB {C C':Addr} {D:Addr->Prop} {H:Hp} {us:List V} {ys:List (Bond×Nat)} {o dx:Addr} (R:gw (jN C) D H us ys) (h:H o=some (.ins C' dx [])):gw (jN C) (fun b=>D b/\b ≠ o) H us ys:=
 ⟨R.len,fun i v z h1 h2=>by
   obtain ⟨b,d,e,hd,hb⟩:=R.at_ i v z h1 h2
   exact ⟨b,d,e,⟨hd,fun q=>by rw [q,h] at hb;cases hb⟩,hb⟩⟩
theorem gw.neA {C C':Addr} {D:Addr->Prop} {H:Hp} {us:List V} {ys:List (Atom×Nat)} {o dx:Addr} (R:gw (mD C) D H us ys) (h:H o=some (.ins C' dx [])):gw (mD C) (fun b=>D b/\b ≠ o) H us ys:=
 ⟨R.len,fun i v z h1 h2=>by
   obtain ⟨b,d,e,hd,hb⟩:=R.at_ i v z h1 h2
   exact ⟨b,d,e,⟨hd,fun q=>by rw [q,h] at hb;cases hb⟩,hb⟩⟩
def Ob (t:Ad):Sp:=fun vs H Q _=>∃ (o dx la lb:Addr) (as us:List V) (y:bO) (D:Addr->Prop),vs=[.ref o,.ref la,.ref lb]/\H o=some (.ins t.aJ dx [])/\H la=some (.lst as)/\H lb=some (.lst us) /\
 gw (mD t.cW) D H as y.1/\gw (jN t.cX) D H us y.2/\as.length<=1000/\y.2.length<=12/\JM.vy as.length (y.2.map JM.aS) /\
 ∀ H' z,z.la=la->z.lb=lb->z.as=as->z.us=us->rM t D H' o z y->iz [o] H H'->Q .non H'
theorem QH:aU ["self","atoms","bonds"] ["self","atoms","bonds"] (ak bZ):=⟨rfl,rfl,rfl,by decide +kernel,rfl,by decide +kernel,by decide +kernel⟩
theorem QI (T:Txt K mg t):cE P w K mg base ve 4 t.cG t.l9 ["self","atoms","bonds"] (Ob t):=by
 have GI:cE P w K mg base ve 2 t.cz t.iI ["self","atoms","bonds"] (IB K t.aJ):=K5 T T.bI T.cO T.d8 T.bE
 have GS:=@Sw P w K mg base t T
 have GR:=@LV P w K mg base t T
 have GP:=@QD P w K mg base t T
 refine T.tO.ok QH (fun vs H Q E h=>?_) (fun cdv A outer s H vs Q E hr h=>?_)
 . obtain ⟨o,dx,la,lb,as,us,y,D,rfl,_⟩:=h
   rfl
 . obtain ⟨o,dx,la,lb,as,us,y,D,rfl,h0,ha,hb,RA,RB,hn,hm,rise,k⟩:=h
   have hr2:dW 2 _:=hr.mono (by decide)
   have hr1:dW 1 _:=hr.mono (by decide)
   refine ⟨_,au (dY (Po rfl T.Ho T.zM GI hr2 T.sA f9 (af (pv 0) (af (pv 1) (af (pv 2) az)))))
     (au (fE (pv 0) (cU GS hr1 rfl T.zK T.sE.kp T.zH .nil f9 (af (eX bT (by rfl) T.nv PySem.boot_len (af (pv 1) az)) (af (pv 2) az))) rfl)
     (au (fE (pv 0) (cU GR hr rfl T.qp T.jU.kp T.ql .nil f9 (af (aL (pv 0) rfl) (af (pv 2) az))) rfl)
     (aH (fE (pv 0) (cU GP hr1 rfl T.vU T.mZ.kp T.vM .nil f9 (af (pv 2) az)) rfl)))),?_⟩
   have RA':=RA.neA h0
   have RB':=RB.neB h0
   have B0:=KN T hb RB
   have ao:la ≠ o:=lO ha h0 (by intro z;cases z)
   have bo:lb ≠ o:=lO hb h0 (by intro z;cases z)
   refine ⟨_,rfl,_,rfl,_,rfl,?_⟩
   refine ⟨o,dx,la,lb,as,us,y.2.map JM.aS,rfl,h0,ha,hb,hn,by rw [List.length_map];omega,B0.2.1,fun i v q h1 h2=>⟨B0.2.2 i v q h1 h2,fun z=>?_⟩,rise.1,fun H1 lr rs G F1=>?_⟩
   . obtain ⟨o',C',dx',fs',e,e',_,_,_,e4,_⟩:=B0.2.2 i v q h1 h2
     rw [z] at e
     cases e
     rw [h0] at e'
     cases e'
     cases e4
   obtain ⟨d1,e1⟩:=G.obj
   have RA1:gw (mD t.cW) (fun b=>D b/\b ≠ o) H1 as y.1:=RA'.stay (mD.ok _) fun b u hd h=>F1 b u h (by simpa using hd.2)
   have Zj:gw (jN t.cX) (fun b=>D b/\b ≠ o) H1 us y.2:=RB'.stay (jN.ok _) fun b u hd h=>F1 b u h (by simpa using hd.2)
   have NR:y.1.length=as.length:=RA.len.symm
   refine ⟨_,rfl,la,as,rfl,.inl (dN.of G.atoms),_,rfl,?_⟩
   refine ⟨as.length,lb,us,y.2,_,rfl,hn,G.bonds,Zj,rise.1,fun H2 ls s2 nls hls=>?_⟩
   rw [QG y NR] at hls
   have e2:=s2 _ _ e1
   refine ⟨_,rfl,o,_,d1,_,rfl,e2,T.bI,T.gb,(by show 3 < 1000;decide),?_⟩
   have neO:∀ {Hx:Hp} {b:Addr} {u:HO} {C' d':Addr} {f':List (Str×V)},Hx b=some u->Hx o=some (.ins C' d' f')->(∀ x,u ≠ .ins C' d' x)->b ≠ o:=fun {Hx b u C' d' f'} h1 h2 n z=>by
     rw [z,h2] at h1
     exact n _ (Option.some.inj h1).symm
   have Zk:ls ≠ o:=fun z=>by rw [z,e1] at nls;cases nls
   have st:∀ {Hx:Hp} (b:Addr) (u v:HO),b ≠ o->Hx b=some u->upd Hx o v b=some u:=fun {Hx} b u v n e=>by rw [aq n];exact e
   have S0:∀ (i:Nat) v q,us[i]?=some v->(y.2.map JM.aS)[i]?=some q->∃ b,v=.ref b/\b ≠ o:=fun i v q h1 h2=>by
     rw [List.getElem?_map] at h2
     cases hz:y.2[i]? with
     | none=>rw [hz] at h2;cases h2
     | some z=>
       obtain ⟨b,d,e,hd,_⟩:=RB'.at_ i v z h1 hz
       exact ⟨b,e,hd.2⟩
   have B1:=KN T G.bonds Zj
   have Bo:∀ {Hx:Hp} (v:HO),k6 K Hx lb us (y.2.map JM.aS)->k6 K (upd Hx o v) lb us (y.2.map JM.aS):=fun {Hx} v b=>⟨st _ _ _ bo b.1,b.2.1,fun i x q h1 h2=>by
     obtain ⟨b',e,n⟩:=S0 i x q h1 h2
     obtain ⟨o',C',dx',fs',e0,e',rest⟩:=b.2.2 i x q h1 h2
     rw [e] at e0
     cases e0
     exact ⟨b',C',dx',fs',e,st _ _ _ n e',rest⟩⟩
   have B3:=Bo (.ins t.aJ d1 (f6 "sums" (.ref ls) (X9 la lb lr))) (B1.same s2)
   refine ⟨_,rfl,o,_,d1,_,_,rfl,ai,T.bI,T.gb,rfl,_,rfl,?_⟩
   refine ⟨ls,lb,as.length,ie (aG y),us,y.2.map JM.aS,rfl,st _ _ _ Zk hls,by rw [JM.xw,CB,NR],hn,B3,by rw [List.length_map];exact hm,rise.1,fun H4 lo s4 nlo hlo=>?_⟩
   have e4:=s4 _ _ ai
   have loo:lo ≠ o:=fun z=>by rw [z,ai] at nlo;cases nlo
   refine ⟨_,rfl,o,_,d1,_,rfl,e4,T.bI,T.fz,(by show 4 < 1000;decide),?_⟩
   have B5:=Bo (.ins t.aJ d1 (f6 "orders" (.ref lo) (f6 "sums" (.ref ls) (X9 la lb lr)))) (B3.same s4)
   refine ⟨_,rfl,?_⟩
   refine ⟨lb,us,y.2.map JM.aS,as.length,rfl,B5,by rw [List.length_map];omega,rise,fun H6 ln kvs s6 nln UK N=>?_⟩
   have e6:=s6 _ _ ai
   have lno:ln ≠ o:=fun z=>by rw [z,ai] at nln;cases nln
   refine ⟨_,rfl,o,_,d1,_,rfl,e6,T.bI,T.cP,(by show 5 < 1000;decide),?_⟩
   have F26:∀ b u,b ≠ o->H2 b=some u->H6 b=some u:=fun b u n e=>s6 _ _ (st _ _ _ n (s4 _ _ (st _ _ _ n e)))
   have F16:∀ b u,b ≠ o->H1 b=some u->H6 b=some u:=fun b u n e=>F26 b u n (s2 _ _ e)
   have Fin:∀ b u,b ≠ o->H1 b=some u->upd H6 o (.ins t.aJ d1 (f6 "bond_numbers" (.ref ln) (f6 "orders" (.ref lo) (f6 "sums" (.ref ls) (X9 la lb lr))))) b=some u:=fun b u n e=>st _ _ _ n (F16 b u n e)
   refine k _ ⟨la,lb,lr,ls,lo,ln,as,us,rs,kvs⟩ rfl rfl rfl rfl ⟨⟨d1,ai⟩,Fin _ _ ao G.atoms,Fin _ _ bo G.bonds,G.rows.stay fun b u e hb'=>?_,st _ _ _ Zk (F26 _ _ Zk hls),?_,st _ _ _ lno UK,N,?_,?_⟩ ?_
   . refine Fin b u (fun z=>?_) e
     rw [z,e1] at e
     cases e
     rcases hb' with r | r
     . have:=G.rows.lst
       rw [<- r,z,e1] at this;cases this
     . obtain ⟨j,hj⟩:=List.getElem?_of_mem r
       have:=G.rows.at_ j b hj
       rw [z,e1] at this;cases this
   . refine st _ _ _ loo (s6 _ _ (st _ _ _ loo ?_))
     rw [xm]
     exact hlo
   . exact (RA1.stay (mD.ok _) fun b u hd h=>Fin b u hd.2 h).mono (mD.ok _) fun b hd=>hd.1
   . exact (Zj.stay (jN.ok _) fun b u hd h=>Fin b u hd.2 h).mono (jN.ok _) fun b hd=>hd.1
   . intro b u e n
     have nb:b ≠ o:=by simpa using n
     exact Fin b u nb (F1 b u e n)
end
structure gz (y:bO):Prop where
 rise:JM.vy y.1.length (y.2.map JM.aS)
 few:y.2.length<=12
 small:y.1.length<=128
 Sv:∀ z ∈ y.2,(1<=z.1.order/\z.1.order<=3)/\z.1.side<=2
 atm:∀ z ∈ y.1,z.1.element<=118/\z.1.isotope<=500/\(-4<=z.1.charge/\z.1.charge<=4)/\z.1.hydrogens<=7/\z.1.hand<=2
theorem gz.good {y:bO} (g:gz y):JM.iG (aG y):=by
 refine ⟨?_,fun x hx=>?_⟩
 . rw [xm,CB];exact g.rise.1
 . obtain ⟨z,hz,rfl⟩:=List.mem_map.mp (show x ∈ y.2.map fun z=>z.1 from hx)
   exact (g.Sv z hz).1
theorem gz.beside {y:bO} (g:gz y) (v:Nat):(aG y).beside v=JM.dX (y.2.map JM.aS) v:=by
 have e:(aG y).bonds.map (fun x=>(x.a,x.b))=y.2.map JM.aS:=xm y
 have:=JM.IE (M:=aG y) (by rw [e,CB];exact g.rise) v
 rw [this,e]
theorem KO {y:bO} {v:Nat} {z:Atom×Nat} (h:y.1[v]?=some z):(aG y).atom v=z.1:=by simp [Mol.atom,aG,List.getD,h]
theorem gz.Xb {y:bO} (g:gz y) (v:Nat):(JM.dX (y.2.map JM.aS) v).length<=1000:=by
 have:=E5 (y.2.map JM.aS) v
 rw [List.length_map] at this
 have:=g.few
 omega
section
variable {P:Program} {w:World} {K:PySem.W.Frag} {mg:Str->Option Value} {base:Heap} {t:Ad}
def Vs (t:Ad):Sp:=fun vs H Q _=>∃ (g:Addr) (k:Nat) (z:CA) (y:bO) (D:Addr->Prop),vs=[.ref g,.int (k:Int)]/\rM t D H g z y/\gz y/\k < y.1.length/\∀ H',bu H H'->Q (.bl ((aG y).handed k)) H'
theorem IL:aU ["molecule","k","neighbours","hydrogens"] ["molecule","k"] (ak cj):=⟨rfl,rfl,rfl,by decide +kernel,rfl,by decide +kernel,by decide +kernel⟩
theorem S3 (T:Txt K mg t):cE P w K mg base ve 1 t.dw t.lC ["molecule","k"] (Vs t):=by
 refine T.lG.ok IL (fun vs H Q E h=>?_) (fun cdv A outer s H vs Q E hr h=>?_)
 . obtain ⟨g,k,z,y,D,rfl,_⟩:=h
   rfl
 . obtain ⟨g,n,z,y,D,rfl,M,gy,hn,k⟩:=h
   refine ⟨_,au (aZ (i:=2) IL.nd rfl (Or.inl rfl) (eX bT (by rfl) T.nv PySem.boot_len (af (fV dS (aL (pv 0) rfl) (pv 1) (fun _ _=>rfl)) az)))
     (au (aZ (i:=3) IL.nd rfl (Or.inl rfl) (aL (fV dS (aL (pv 0) rfl) (pv 1) (fun _ _=>rfl)) rfl))
     (aH (cT (DB (rT FY (pv 2) (vj (af aT (af aT az))) rfl) (G5 (rT Mm (fU vg (pv 2) (pv 3)) aT (g9 _))))))),?_⟩
   obtain ⟨dg,eg⟩:=M.obj
   obtain ⟨ra,Lf⟩:∃ ra,z.rs[n]?=some ra:=⟨_,List.getElem?_eq_getElem (by rw [M.rows.len,M.ra.len];exact hn)⟩
   have hA:=M.rows.at_ _ _ Lf
   have e1:(z.rs.map V.ref)[n]?=some (V.ref ra):=by rw [List.getElem?_map,Lf];rfl
   obtain ⟨a,ha⟩:∃ a,y.1[n]?=some a:=⟨_,List.getElem?_eq_getElem hn⟩
   obtain ⟨va,Xc⟩:∃ v,z.as[n]?=some v:=⟨_,List.getElem?_eq_getElem (by rw [M.ra.len];exact hn)⟩
   obtain ⟨o,dx,rfl,_,rep⟩:=M.ra.at_ n va a Xc ha
   refine ⟨_,rfl,g,_,dg,_,_,rfl,eg,T.bI,T.bE,rfl,_,rfl,z.lr,_,_,_,rfl,rfl,dN.of M.rows.lst,cV e1,ra,_,rfl,.inl (dN.of hA),?_⟩
   refine ⟨_,rfl,g,_,dg,_,_,rfl,eg,T.bI,T.cO,rfl,_,rfl,z.la,_,_,_,rfl,rfl,dN.of M.atoms,cV Xc,o,_,dx,_,_,rfl,rep,T.sL,T.eN,rfl,?_⟩
   refine ⟨_,rfl,(by show 2<=sizeLine;decide),fun p hp=>⟨p,_,rfl,.inr (rS.of ai),rfl,rfl,_,rfl,?_⟩⟩
   have ze:∀ l:List Nat,(vN l).length=l.length:=fun l=>by simp [vN]
   have e2:V8 (.int ((vN (JM.dX (y.2.map JM.aS) n)).length:Int)) [.int 3,.int 4]=((JM.dX (y.2.map JM.aS) n).length==3||(JM.dX (y.2.map JM.aS) n).length==4):=by rw [ze];exact Qy _ 3 4
   have s3:bu H (upd H p (.tup [.int 3,.int 4])):=aP hp
   have kk:=k _ s3
   have hd:(aG y).handed n=(decide (3<=(JM.dX (y.2.map JM.aS) n).length)&&(decide (a.1.hydrogens<=1)&&decide ((JM.dX (y.2.map JM.aS) n).length+a.1.hydrogens<=4))):=by
     unfold Mol.handed
     rw [gy.beside,KO ha]
   rw [if_neg Bool.false_ne_true,e2]
   refine J2 (fun h=>?_) (fun h=>?_)
   . refine ⟨_,rfl,_,rfl,_,_,rfl,rfl,_,_,rfl,rfl,?_⟩
     simp only [Bool.or_eq_true,beq_iff_eq] at h
     have e3:decide (((vN (JM.dX (y.2.map JM.aS) n)).length:Int)+(a.1.hydrogens:Int)<=4)=(aG y).handed n:=by
       rw [hd,ze,Bool.eq_iff_iff]
       simp only [Bool.and_eq_true,decide_eq_true_eq]
       omega
     rw [<- e3] at kk
     exact kk
   . rw [Bool.not_eq_true] at h
     have e3:(aG y).handed n=false:=by
       rw [hd,Bool.eq_false_iff]
       intro hc
       simp only [Bool.and_eq_true,decide_eq_true_eq] at hc
       have:¬ (((JM.dX (y.2.map JM.aS) n).length==3||(JM.dX (y.2.map JM.aS) n).length==4)=true):=by rw [h];decide
       simp only [Bool.or_eq_true,beq_iff_eq] at this
       omega
     rw [e3] at kk
     exact kk
def Vt (t:Ad):Sp:=fun vs H Q _=>∃ (g:Addr) (e o:Nat) (z:CA) (y:bO) (D:Addr->Prop),vs=[.ref g,.int (e:Int),.int (o:Int)]/\rM t D H g z y/\gz y/\e < y.1.length/\∀ H',bu H H'->Q (.bl ((aG y).endMay e o)) H'
theorem ML:aU ["molecule","end","other","others"] ["molecule","end","other"] (ak bR):=⟨rfl,rfl,rfl,by decide +kernel,rfl,by decide +kernel,by decide +kernel⟩
theorem S5 (T:Txt K mg t):cE P w K mg base ve 2 t.cJ t.jS ["molecule","end","other"] (Vt t):=by
 have GB:cE P w K mg base ve 1 t.bG t.i9 ["self","end","other"] (Gp K t.aJ):=LO T T.bI T.bE
 refine T.gX.ok ML (fun vs H Q E h=>?_) (fun cdv A outer s H vs Q E hr h=>?_)
 . obtain ⟨g,e,o,z,y,D,rfl,_⟩:=h
   rfl
 . obtain ⟨g,n,o,z,y,D,rfl,M,gy,hn,k⟩:=h
   refine ⟨_,au (aZ (i:=3) ML.nd rfl (Or.inl rfl) (eX bT (by rfl) T.nv PySem.boot_len (af (cF (pv 0) T.bI T.nt GB hr T.tN .nil f9 (af (pv 1) (af (pv 2) az))) az)))
     (aH (cT (DB (rT FY (pv 3) (vj (af aT (af aT az))) rfl) (G5 (rT Mm (fU vg (pv 3) (aL (fV dS (aL (pv 0) rfl) (pv 1) (fun _ _=>rfl)) rfl)) aT (g9 _)))))),?_⟩
   obtain ⟨dg,eg⟩:=M.obj
   obtain ⟨a,ha⟩:∃ a,y.1[n]?=some a:=⟨_,List.getElem?_eq_getElem hn⟩
   obtain ⟨va,Xc⟩:∃ v,z.as[n]?=some v:=⟨_,List.getElem?_eq_getElem (by rw [M.ra.len];exact hn)⟩
   obtain ⟨b,dx,rfl,_,rep⟩:=M.ra.at_ n va a Xc ha
   refine ⟨_,rfl,g,dg,_,rfl,eg,rfl,_,rfl,_,rfl,?_⟩
   refine ⟨g,dg,z.lr,_,z.rs,z.as.length,n,o,_,rfl,eg,rfl,M.rows,by rw [M.ra.len];exact hn,gy.Xb _,fun H1 l1 s1 nl1 hl1=>?_⟩
   refine ⟨l1,_,rfl,.inl (dN.of hl1),?_⟩
   refine ⟨_,rfl,(by show 2<=sizeLine;decide),fun p hp=>⟨p,_,rfl,.inr (rS.of ai),rfl,rfl,_,rfl,?_⟩⟩
   have s3:bu H (upd H1 p (.tup [.int 1,.int 2])):=s1.trans (aP hp)
   have kk:=k _ s3
   have ze:∀ l:List Nat,(vN l).length=l.length:=fun l=>by simp [vN]
   have e2:V8 (.int ((vN ((JM.dX (y.2.map JM.aS) n).filter fun x=>x != o)).length:Int)) [.int 1,.int 2]=(((JM.dX (y.2.map JM.aS) n).filter fun x=>x != o).length==1||((JM.dX (y.2.map JM.aS) n).filter fun x=>x != o).length==2):=by rw [ze];exact Qy _ 1 2
   have hd:(aG y).endMay n o=(decide (1<=((JM.dX (y.2.map JM.aS) n).filter fun x=>x != o).length)&&decide (((JM.dX (y.2.map JM.aS) n).filter fun x=>x != o).length+a.1.hydrogens<=2)):=by
     unfold Mol.endMay Mol.besides
     rw [gy.beside,KO ha]
   rw [if_neg Bool.false_ne_true,e2]
   refine J2 (fun h=>?_) (fun h=>?_)
   . refine ⟨_,rfl,_,rfl,g,_,dg,_,_,rfl,s3 _ _ eg,T.bI,T.cO,rfl,_,rfl,z.la,_,_,_,rfl,rfl,dN.of (s3 _ _ M.atoms),cV Xc,b,_,dx,_,_,rfl,s3 _ _ rep,T.sL,T.eN,rfl,_,_,rfl,rfl,_,_,rfl,rfl,?_⟩
     simp only [Bool.or_eq_true,beq_iff_eq] at h
     have e3:decide (((vN ((JM.dX (y.2.map JM.aS) n).filter fun x=>x != o)).length:Int)+(a.1.hydrogens:Int)<=2)=(aG y).endMay n o:=by
       rw [hd,ze,Bool.eq_iff_iff]
       simp only [Bool.and_eq_true,decide_eq_true_eq]
       omega
     rw [<- e3] at kk
     exact kk
   . rw [Bool.not_eq_true] at h
     have e3:(aG y).endMay n o=false:=by
       rw [hd,Bool.eq_false_iff]
       intro hc
       simp only [Bool.and_eq_true,decide_eq_true_eq] at hc
       have:¬ ((((JM.dX (y.2.map JM.aS) n).filter fun x=>x != o).length==1||((JM.dX (y.2.map JM.aS) n).filter fun x=>x != o).length==2)=true):=by rw [h];decide
       simp only [Bool.or_eq_true,beq_iff_eq] at this
       omega
     rw [e3] at kk
     exact kk
def Vu (t:Ad):Sp:=fun vs H Q _=>∃ (g:Addr) (k:Nat) (z:CA) (y:bO) (D:Addr->Prop),vs=[.ref g,.int (k:Int)]/\rM t D H g z y/\gz y/\k < y.2.length/\∀ H',bu H H'->Q (.bl ((aG y).sided k)) H'
theorem IM:aU ["molecule","k","bond","fixed_double"] ["molecule","k"] (ak ck):=⟨rfl,rfl,rfl,by decide +kernel,rfl,by decide +kernel,by decide +kernel⟩
theorem S6 (T:Txt K mg t):cE P w K mg base ve 3 t.dz t.lD ["molecule","k"] (Vu t):=by
 have GE:=@S5 P w K mg base t T
 have GB:=@Q4 P w K mg base t T
 refine T.lH.ok IM (fun vs H Q E h=>?_) (fun cdv A outer s H vs Q E hr h=>?_)
 . obtain ⟨g,k,z,y,D,rfl,_⟩:=h
   rfl
 . obtain ⟨g,n,z,y,D,rfl,M,gy,hn,k⟩:=h
   have hr1:dW 1 _:=hr.mono (by decide)
   refine ⟨_,au (aZ (i:=2) IM.nd rfl (Or.inl rfl) (fV dS (aL (pv 0) rfl) (pv 1) (fun _ _=>rfl)))
     (au (aZ (i:=3) IM.nd rfl (Or.inl rfl) (rT Jl (fV dS (aL (pv 0) rfl) (pv 1) (fun _ _=>rfl)) (cU GB hr1 rfl T.vS T.o9.kp T.vK .nil f9 (af aT az)) (g9 _)))
     (aH (cT (DB (pv 3) (DB (cU GE hr rfl T.jW T.gX.kp T.jV .nil f9 (af (pv 0) (af (aL (pv 2) rfl) (af (aL (pv 2) rfl) az))))
       (G5 (cU GE hr rfl T.jW T.gX.kp T.jV .nil f9 (af (pv 0) (af (aL (pv 2) rfl) (af (aL (pv 2) rfl) az)))))))))),?_⟩
   obtain ⟨dg,eg⟩:=M.obj
   obtain ⟨x,hx⟩:∃ x,y.2[n]?=some x:=⟨_,List.getElem?_eq_getElem hn⟩
   obtain ⟨vb,hvb⟩:∃ v,z.us[n]?=some v:=⟨_,List.getElem?_eq_getElem (by rw [M.rb.len];exact hn)⟩
   obtain ⟨b,dx,rfl,_,rep⟩:=M.rb.at_ n vb x hvb hx
   have hq:x.1.a < x.1.b/\x.1.b < y.1.length:=gy.rise.1 (JM.aS x) (List.mem_map_of_mem (List.mem_of_getElem? hx))
   have hfo:(vI (D5 (ie (aG y)) (dU (aG y))))[n]?=some (.int (JM.ig (JM.Found (ie (aG y)) (dU (aG y)) n):Int)):=xf (jx (by rw [xm,List.length_map];exact hn))
   refine ⟨_,rfl,g,_,dg,_,_,rfl,eg,T.bI,T.d8,rfl,_,rfl,z.lb,_,_,_,rfl,rfl,dN.of M.bonds,cV hvb,?_⟩
   refine ⟨_,rfl,g,_,dg,_,_,rfl,eg,T.bI,T.fz,rfl,_,rfl,z.lo,_,_,_,rfl,rfl,dN.of M.orders,cV hfo,?_⟩
   refine ⟨2,rfl,by decide,by decide,rfl,?_⟩
   have hb:(aG y).bonds[n]?=some x.1:=by simp [aG,hx]
   have hnb:n < (aG y).bonds.length:=(List.getElem?_eq_some_iff.mp hb).1
   have fx:=gy.good.fixed hnb
   have sd:(aG y).sided n=(decide (JM.ig (JM.Found (ie (aG y)) (dU (aG y)) n)=2)&&((aG y).endMay x.1.a x.1.b&&(aG y).endMay x.1.b x.1.a)):=by
     unfold Mol.sided
     rw [hb]
     simp only
     rw [fx]
   have de:decide (V.int (JM.ig (JM.Found (ie (aG y)) (dU (aG y)) n):Int)=V.int ((2 ^ (2 - 1):Nat):Int))=decide (JM.ig (JM.Found (ie (aG y)) (dU (aG y)) n)=2):=by
     rw [Bool.eq_iff_iff]
     simp only [decide_eq_true_eq]
     constructor
     . intro h
       injection h with h
       have:((2 ^ (2 - 1):Nat):Int)=2:=rfl
       omega
     . intro h
       rw [h]
   rw [de]
   rw [sd] at k
   refine ⟨_,rfl,_,rfl,?_⟩
   cases h1:decide (JM.ig (JM.Found (ie (aG y)) (dU (aG y)) n)=2) with
   | false=>
     have kk:=k H (bu.refl _)
     rw [h1,Bool.false_and] at kk
     exact kk
   | true=>
     rw [h1,Bool.true_and] at k
     refine ⟨_,rfl,_,rfl,b,_,dx,_,_,rfl,rep,T.eW,T.fY,rfl,_,rfl,b,_,dx,_,_,rfl,rep,T.eW,T.fZ,rfl,?_⟩
     refine ⟨g,x.1.a,x.1.b,z,y,D,rfl,M,gy,by omega,fun H1 s1=>⟨_,rfl,?_⟩⟩
     cases h2:(aG y).endMay x.1.a x.1.b with
     | false=>
       have kk:=k H1 s1
       rw [h2,Bool.false_and] at kk
       exact kk
     | true=>
       rw [h2,Bool.true_and] at k
       refine ⟨_,rfl,_,rfl,b,_,dx,_,_,rfl,s1 _ _ rep,T.eW,T.fZ,rfl,_,rfl,b,_,dx,_,_,rfl,s1 _ _ rep,T.eW,T.fY,rfl,?_⟩
       exact ⟨g,x.1.b,x.1.a,z,y,D,rfl,M.same s1,gy,hq.2,fun H2 s2=>k H2 (s1.trans s2)⟩
end
theorem IP (b:Bytes):Fk.judgeMol b=Fk.andThen (Bb Fk.MOLMARK JM.uL JM.nN b 0) fun y=>JM.E7 (aG y) y.1.zipIdx y.2.zipIdx:=by
 rw [JM.K8]
 unfold Bb
 simp only [JM.bw,JM.bc]
theorem KP {α:Type} {l:List α} {i:Nat} {x:α} (h:l[i]?=some x):l.zipIdx.drop i=(x,i)::l.zipIdx.drop (i+1):=by
 obtain ⟨hl,hg⟩:=List.getElem?_eq_some_iff.mp h
 rw [List.drop_eq_getElem_cons (by simpa using hl)]
 simp [hg]
theorem CC:∀ {m b:Bytes} {p:Nat} {y:Bytes×Nat},JM.iB m b p=.ok y->y.1=b.drop m.length
 | [],b,p,y,h=>by cases h;rfl
 | c::m,b,p,y,h=>by
   unfold JM.iB at h
   obtain ⟨x,h1,h⟩:=JM.aO h
   obtain ⟨u,h2,h⟩:=JM.aO h
   have e:=CC h
   have:=(JM.bB h1).2.2.2.1
   rw [e,this,List.drop_drop,List.length_cons,Nat.add_comm]
theorem Vv {B:Bytes} {k:Nat} (h:1<=(B.drop k).length):Fk.num ((B.drop k).take 1)=(B.getD k 0).toNat:=by
 have hk:k < B.length:=by rw [List.length_drop] at h;omega
 rw [List.drop_eq_getElem_cons hk]
 show Fk.num [B[k]]=_
 rw [JM.M7,List.getD,List.getElem?_eq_getElem hk]
 rfl
theorem KQ {α:Type} {one:Bytes->Nat->Except Fault (α×Bytes×Nat)} {Pr:α->Prop} (ho:∀ b p x,one b p=.ok x->Pr x.1):∀ {k:Nat} {b:Bytes} {p:Nat} {y:List α×Bytes×Nat},JM.many one k b p=.ok y->∀ z ∈ y.1,Pr z
 | 0,b,p,y,h=>by cases h;simp
 | k+1,b,p,y,h=>by
   unfold JM.many at h
   obtain ⟨x,h1,h⟩:=JM.aO h
   obtain ⟨l,h2,h⟩:=JM.aO h
   cases h
   intro z hz
   rcases List.mem_cons.mp hz with r | r
   . rw [r];exact ho _ _ _ h1
   . exact KQ ho h2 z r
theorem Gx {α:Type} {n:Nat} {one:Nat×Nat->Bytes->Nat->Except Fault (α×Bytes×Nat)} {Pr:α->Prop} (ho:∀ q b p x,one q b p=.ok x->Pr x.1):∀ {k:Nat} {had:Option (Nat×Nat)} {b:Bytes} {p:Nat} {y:List α×Bytes×Nat},JM.fW n one k had b p=.ok y->∀ z ∈ y.1,Pr z
 | 0,_,b,p,y,h=>by cases h;simp
 | k+1,had,b,p,y,h=>by
   unfold JM.fW at h
   obtain ⟨q,h0,h⟩:=JM.aO h
   obtain ⟨x,h1,h⟩:=JM.aO h
   obtain ⟨l,h2,h⟩:=JM.aO h
   cases h
   intro z hz
   rcases List.mem_cons.mp hz with r | r
   . rw [r];exact ho _ _ _ _ h1
   . exact Gx ho h2 z r
theorem IQ (b:Bytes) (p:Nat) (x:(Atom×Nat)×Bytes×Nat) (h:JM.uL b p=.ok x):x.1.1.element<=118/\x.1.1.isotope<=500/\(-4<=x.1.1.charge/\x.1.1.charge<=4)/\x.1.1.hydrogens<=7/\x.1.1.hand<=2:=by
 unfold JM.uL JM.mP at h
 obtain ⟨w,h0,hw⟩:=JM.aO h
 cases hw
 obtain ⟨a1,h1,h0⟩:=JM.aO h0
 obtain ⟨a2,h2,h0⟩:=JM.aO h0
 obtain ⟨a3,h3,h0⟩:=JM.aO h0
 obtain ⟨a4,h4,h0⟩:=JM.aO h0
 obtain ⟨a5,h5,h0⟩:=JM.aO h0
 cases h0
 have g1:=(JM.bB h1).2.1
 have g2:=(JM.bB h2).2.1
 have g3:=(JM.bB h3).2.1
 have g4:=(JM.bB h4).2.1
 have g5:=(JM.bB h5).2.1
 simp only [Bool.and_eq_true,decide_eq_true_eq] at g1 g2 g3 g4 g5
 unfold Fk.ELEMENTS at g1
 unfold Fk.ISOTOPE at g2
 simp only
 omega
theorem IU (q:Nat×Nat) (b:Bytes) (p:Nat) (x:(Bond×Nat)×Bytes×Nat) (h:JM.nN q b p=.ok x):(1<=x.1.1.order/\x.1.1.order<=3)/\x.1.1.side<=2:=by
 unfold JM.nN JM.k7 at h
 obtain ⟨w,h0,hw⟩:=JM.aO h
 cases hw
 obtain ⟨a1,h1,h0⟩:=JM.aO h0
 obtain ⟨a2,h2,h0⟩:=JM.aO h0
 cases h0
 have g1:=(JM.bB h1).2.1
 have g2:=(JM.bB h2).2.1
 simp only [Bool.and_eq_true,decide_eq_true_eq] at g1 g2
 simp only
 omega
theorem KR {B:Bytes} {y:bO} (hy:Bb Fk.MOLMARK JM.uL JM.nN B 0=.ok y) (few:(B.getD 5 0).toNat<=12):gz y:=by
 unfold Bb at hy
 obtain ⟨m,hm,hy⟩:=JM.aO hy
 obtain ⟨n,hn,hy⟩:=JM.aO hy
 obtain ⟨k,hk,hy⟩:=JM.aO hy
 obtain ⟨x,hx,hy⟩:=JM.aO hy
 obtain ⟨z,hz,hy⟩:=JM.aO hy
 obtain ⟨_,_,hy⟩:=JM.aO hy
 cases hy
 have e1:=CC hm
 have e2:=(JM.bB hn).2.2.2.1
 have e3:=(JM.bB hk).2.2.1
 have e4:=(JM.bB hk).1
 have WL:=of_decide_eq_true (JM.bB hn).2.1
 unfold Fk.ATOMS at WL
 have lx:=JM.o6 hx
 have lz:=JM.rY hz
 have e5:n.2.1=B.drop 5:=by rw [e2,e1,List.drop_drop];rfl
 rw [e5] at e3 e4
 rw [Vv e4] at e3
 refine ⟨?_,by simp only;omega,by simp only;omega,Gx IU hz,KQ IQ hx⟩
 have:=(JM.vA (ends:=JM.aS) JM.E9 hz).1
 simp only
 rw [lx]
 exact this
theorem Zl (b:Bytes) (p:Nat) (y:(Atom×Nat)×Bytes×Nat) (h:JM.uL b p=.ok y):((y.1.2:Nat):Int)=(y.2.2:Int) - 1:=by
 unfold JM.uL at h
 obtain ⟨w,h1,h⟩:=JM.aO h
 cases h
 have:=JM.wW h1
 simp only
 omega
theorem Zm (q:Nat×Nat) (b:Bytes) (p:Nat) (y:(Bond×Nat)×Bytes×Nat) (h:JM.nN q b p=.ok y):((y.1.2:Nat):Int)=(y.2.2:Int) - 1:=by
 unfold JM.nN at h
 obtain ⟨w,h1,h⟩:=JM.aO h
 cases h
 have:=JM.wX h1
 simp only
 omega
section
variable {P:Program} {w:World} {K:PySem.W.Frag} {mg:Str->Option Value} {base:Heap} {t:Ad}
theorem eT.same {K:PySem.W.Frag} {C:Addr} {H H':Hp} {r:Addr} {x:I0} (R:eT K C H r x) (f:bu H H'):eT K C H' r x:=R.stay (S:=[]) (bu.WB f) (by simp) (by simp) (by simp) (by simp)
def S7 (K:PySem.W.Frag) (t:Ad):Sp:=fun vs H Q E=>∃ (a:Addr) (w:Int) (B:Bytes),vs=[.ref a,.int w]/\yW K H a B/\B.length<=6000/\(B.getD 5 0).toNat<=12 /\
 pI t.aF w (Fk.judgeMol B) (fun M=>∀ H' g z y,rM t (fun b=>H b=none) H' g z y->gz y->M=aG y->bu H H'->Q (.ref g) H') E
theorem ly:aU ["form","which","reader","graph","molecule","k","atom","bond"] ["form","which"] (ak cg):=⟨rfl,rfl,rfl,by decide +kernel,rfl,by decide +kernel,by decide +kernel⟩
theorem QJ (T:Txt K mg t):cE P w K mg base (x6 P w) 10 t.dj t.lB ["form","which"] (S7 K t):=by
 have GI:=@Qm P w K mg base t T
 have GF:=@rL P w K mg base t T
 have GH:=@S3 P w K mg base t T
 have GS:=@S6 P w K mg base t T
 have GM:=@QI P w K mg base t T
 have GG:cE P w K mg base (x6 P w) 9 t.dZ t.mF ["reader","mark","take_atom","take_bond"] (MH K t.aA t.aF t.bU t.eF t.eG JM.uL JM.nN (mD t.cW) (jN t.cX) (fun z=>z.2) (fun z=>z.2) JM.aS):=
   Qw T (mD.ok _) (jN.ok _) Zl Zm JM.E9 (fun ⟨o,dx,e,d,h⟩=>⟨o,e,d,o,_,dx,_,e,h,T.eW,T.fY,T.fZ,rfl,rfl⟩) ((Vg T).mono (by decide)) T.vO.kp T.Cu ((Vh T).mono (by decide)) T.vQ.kp T.Cv
 obtain ⟨tk4,g4⟩:=T.qt
 obtain ⟨tk6,g6⟩:=T.qu
 refine T.lF.Oq ly (fun vs H Q E h=>?_) (fun cdv A outer s H vs Q E hr h=>?_)
 . obtain ⟨a,w,B,rfl,_⟩:=h
   rfl
 . obtain ⟨a,w,B,rfl,hB,hlen,few,c8⟩:=h
   have hr1:dW 1 _:=hr.mono (by decide)
   have hr2:dW 2 _:=hr.mono (by decide)
   have Qp:dW 3 _:=hr.mono (by decide)
   have QU:dW 5 _:=hr.mono (by decide)
   refine ⟨_,au (aZ (i:=2) ly.nd rfl (Or.inl rfl) (z7 T.JL GI hr2 rfl T.JK T.xU .nil f9 (af (pv 0) (af (pv 1) az))))
     (au (aZ (i:=3) ly.nd rfl (Or.inl rfl) (cU GG hr rfl T.zJ T.sC.kp T.zG .nil fB (af (pv 2) (af (bK rfl T.Px (v:=.ref t.vH) rfl) (af (bK rfl T.Cw (v:=.ref t.eF) rfl) (af (bK rfl T.Cy (v:=.ref t.eG) rfl) az))))))
     (au (aZ (i:=4) ly.nd rfl (Or.inl rfl) (z7 T.Eg GM QU rfl T.Ef T.tP .nil f9 (af (aL (pv 3) rfl) (af (aL (pv 3) rfl) az))))
     (au (g8 N4 rfl (Hh rfl T.oB (af (aL (pv 4) rfl) az)) (Lk rfl (qc (c7 (i:=5) ly.nd rfl (Or.inl rfl)) (qc (c7 (i:=6) ly.nd rfl (Or.inl rfl)) G6)))
       (aH (xP (PW.pt (G4 (i8 Jm (aL (pv 6) rfl) aT (g9 _)) (Dm (Lj (DA (cU GH hr1 rfl T.tW T.lG.kp T.tS .nil f9 (af (pv 4) (af (pv 5) az))))))))
         (aH (dY (cF (pv 2) T.aK T.dR GF Qp T.dQ .nil fB (af (bK rfl g4 (v:=.int 4) ⟨_,rfl⟩) (af (fV dS (aL (pv 2) rfl) (pv 5) (fun _ _=>rfl)) az))))) ko)))
     (au (g8 N4 rfl (Hh rfl T.oB (af (aL (pv 4) rfl) az)) (Lk rfl (qc (c7 (i:=5) ly.nd rfl (Or.inl rfl)) (qc (c7 (i:=7) ly.nd rfl (Or.inl rfl)) G6)))
       (aH (xP (PW.pt (G4 (i8 Jm (aL (pv 7) rfl) aT (g9 _)) (Dm (Lj (DA (cU GS Qp rfl T.tX T.lH.kp T.tT .nil f9 (af (pv 4) (af (pv 5) az))))))))
         (aH (dY (cF (pv 2) T.aK T.dR GF Qp T.dQ .nil fB (af (bK rfl g6 (v:=.int 6) ⟨_,rfl⟩) (af (fV dS (aL (pv 2) rfl) (pv 5) (fun _ _=>rfl)) az))))) ko)))
     (aH (cT (pv 4))))))),?_⟩
   refine ⟨_,rfl,_,rfl,fun r dx nr nd ne=>?_⟩
   have TH:∀ b u,H b=some u->upd (upd H dx (.own r)) r (.ins t.aA dx []) b=some u:=fun b u e=>by rw [aq (ay e nr),aq (ay e nd)];exact e
   have hB':yW K (upd (upd H dx (.own r)) r (.ins t.aA dx [])) a B:=by
     rcases hB with ⟨o,h⟩ | h
     . exact .inl ⟨o,TH _ _ h⟩
     . exact .inr h
   refine ⟨r,dx,a,w,B,rfl,ai,hB',hlen,fun H1 hp sp nhp nsp R1 F1=>⟨rfl,?_⟩⟩
   have S1:bu H H1:=fun b u e=>(iz.made (S:=[]) nr nd F1) b u e (by simp)
   have old:∀ b,upd (upd H dx (.own r)) r (.ins t.aA dx []) b=none->H b=none:=fun b h=>by
     cases q:H b with
     | none=>rfl
     | some u=>rw [TH b u q] at h;cases h
   rw [IP] at c8
   refine ⟨_,rfl,?_⟩
   refine ⟨r,t.vH,Fk.MOLMARK,_,rfl,R1,rfl,rfl,T.Py,c8.andThen'.mono fun y hy c8 H2 g la lb lr as us rs b p R2 F2 G2 RA2 RB2 rise=>?_⟩
   have S2:bu H H2:=fun c u e=>F2 c u (S1 c u e) (by
     have h1:c ≠ r:=ay e nr
     have h2:c ≠ hp:=ay e (old hp nhp)
     have h3:c ≠ sp:=ay e (old sp nsp)
     simp [h1]
     exact ⟨h2,h3⟩)
   have gy:gz y:=KR hy few
   have nn:∀ b,H1 b=none->H b=none:=fun b d=>by
     cases q:H b with
     | none=>rfl
     | some u=>rw [S1 b u q] at d;cases d
   have NR:y.1.length=as.length:=RA2.len.symm
   obtain ⟨dg,eg⟩:=G2.obj
   refine ⟨_,rfl,g,_,dg,_,_,rfl,eg,T.Dz,T.i6,rfl,_,rfl,g,_,dg,_,_,rfl,eg,T.Dz,T.i7,rfl,fun o d3 no nd3 ne3=>?_⟩
   have MN:∀ b u,H2 b=some u->upd (upd H2 d3 (.own o)) o (.ins t.aJ d3 []) b=some u:=fun b u e=>by rw [aq (ay e no),aq (ay e nd3)];exact e
   refine ⟨o,d3,la,lb,as,us,y,fun b=>H b=none,rfl,ai,MN _ _ G2.atoms,MN _ _ G2.bonds,(RA2.mono (mD.ok _) nn).stay (mD.ok _) (fun b u _ h=>MN b u h),(RB2.mono (jN.ok _) nn).stay (jN.ok _) (fun b u _ h=>MN b u h),by have:=gy.small;omega,gy.few,rise,fun H4 z hz1 hz2 hz3 hz4 M F4=>⟨rfl,?_⟩⟩
   subst hz1 hz2 hz3 hz4
   have S24:bu H2 H4:=fun b u e=>(iz.made (S:=[]) no nd3 F4) b u e (by simp)
   have R4:=R2.same S24
   have S4:bu H H4:=S2.trans S24
   obtain ⟨dm,em⟩:=M.obj
   have Xd:z.as.length=y.1.length:=M.ra.len
   refine ⟨_,rfl,o,_,dm,_,_,rfl,em,T.bI,T.cO,rfl,z.la,z.as,rfl,dN.of M.atoms,?_⟩
   refine E6 (K:=K) (a:=z.la) (xs:=z.as) (fun i σ H'=>∃ vk va,σ=[some (.ref a),some (.int w),some (.ref r),some (.ref g),some (.ref o),vk,va,none]/\bu H4 H' /\
     pI t.aF w (JM.E7 (aG y) (y.1.zipIdx.drop i) y.2.zipIdx) (fun Mo=>∀ H' g z y,rM t (fun b=>H b=none) H' g z y->gz y->Mo=aG y->bu H H'->Q (.ref g) H') E)
     ⟨none,none,rfl,bu.refl _,c8⟩ (fun i σ H' _ ⟨_,_,_,sm,_⟩=>dN.of (sm _ _ M.atoms)) ?_ ?_
   . rintro i x σ H' Tt hx ⟨vk,va,rfl,sm,c8⟩ hT
     have hi:i < z.as.length:=(List.getElem?_eq_some_iff.mp hx).1
     obtain ⟨c,hc⟩:∃ c,y.1[i]?=some c:=⟨_,List.getElem?_eq_getElem (by omega)⟩
     obtain ⟨q,dq,rfl,_,rep⟩:=M.ra.at_ i x c hx hc
     rw [KP hc,JM.LP] at c8
     have sm':bu H4 (upd H' Tt (.tup [.int (i:Int),.ref q])):=sm.trans (aP hT)
     refine ⟨Tt,_,rfl,rS.of ai,rfl,_,_,rfl,_,_,rfl,rfl,?_⟩
     refine ⟨_,rfl,q,_,dq,_,_,rfl,sm' _ _ rep,T.sL,T.kD,rfl,rfl,_,rfl,?_⟩
     have de:(!decide (V.int (c.1.hand:Int)=V.int 0))=(c.1.hand != 0):=by
       rw [Bool.eq_iff_iff]
       simp
     rw [de]
     cases h1:(c.1.hand != 0) with
     | false=>
       have nb:¬ JM.Dj (aG y) (c,i)=true:=by simp [JM.Dj,h1]
       rw [if_neg nb] at c8
       exact ⟨_,_,rfl,sm',c8⟩
     | true=>
       refine ⟨_,rfl,_,rfl,?_⟩
       refine ⟨o,i,z,y,_,rfl,M.same sm',gy,by omega,fun H5 s5=>⟨_,rfl,?_⟩⟩
       have Xe:bu H4 H5:=sm'.trans s5
       cases h2:(aG y).handed i with
       | true=>
         have nb:¬ JM.Dj (aG y) (c,i)=true:=by simp [JM.Dj,h1,h2]
         rw [if_neg nb] at c8
         exact ⟨_,_,rfl,Xe,c8⟩
       | false=>
         have nb:JM.Dj (aG y) (c,i)=true:=by simp [JM.Dj,h1,h2]
         rw [if_pos nb] at c8
         have R5:=R4.same Xe
         obtain ⟨d5,e5⟩:=R5.obj
         have e6:((y.1.map fun z=>((z.2:Nat):Int)).map V.int)[i]?=some (V.int (c.2:Int)):=by simp [hc]
         refine ⟨_,rfl,r,d5,_,rfl,e5,rfl,_,rfl,r,_,d5,_,_,rfl,e5,T.aK,T.cK,rfl,_,rfl,hp,_,_,_,rfl,rfl,dN.of R5.hpl,cV e6,?_⟩
         exact ⟨r,w,4,(c.2:Int),d5,_,rfl,e5,rfl,fun H' d' hF=>c8 H' d' hF⟩
   . rintro σ H' ⟨vk,va,rfl,sm,c8⟩
     rw [Xd,show y.1.zipIdx.drop y.1.length=[] from List.drop_eq_nil_of_le (by simp)] at c8
     have M5:=M.same sm
     obtain ⟨dm5,em5⟩:=M5.obj
     refine ⟨_,rfl,o,_,dm5,_,_,rfl,em5,T.bI,T.d8,rfl,z.lb,z.us,rfl,dN.of M5.bonds,?_⟩
     refine E6 (K:=K) (a:=z.lb) (xs:=z.us) (fun i σ H'=>∃ vk vb,σ=[some (.ref a),some (.int w),some (.ref r),some (.ref g),some (.ref o),vk,va,vb]/\bu H4 H' /\
       pI t.aF w (JM.Gr (aG y) (y.2.zipIdx.drop i)) (fun Mo=>∀ H' g z y,rM t (fun b=>H b=none) H' g z y->gz y->Mo=aG y->bu H H'->Q (.ref g) H') E)
       ⟨vk,none,rfl,sm,c8⟩ (fun i σ H' _ ⟨_,_,_,sm,_⟩=>dN.of (sm _ _ M.bonds)) ?_ ?_
     . rintro i x σ H' Tt hx ⟨vk,vb,rfl,sm,c8⟩ hT
       have hi:i < z.us.length:=(List.getElem?_eq_some_iff.mp hx).1
       have hi2:i < y.2.length:=by rw [<- M.rb.len];exact hi
       obtain ⟨c,hc⟩:∃ c,y.2[i]?=some c:=⟨_,List.getElem?_eq_getElem hi2⟩
       obtain ⟨q,dq,rfl,_,rep⟩:=M.rb.at_ i x c hx hc
       rw [KP hc,JM.LQ] at c8
       have sm':bu H4 (upd H' Tt (.tup [.int (i:Int),.ref q])):=sm.trans (aP hT)
       refine ⟨Tt,_,rfl,rS.of ai,rfl,_,_,rfl,_,_,rfl,rfl,?_⟩
       refine ⟨_,rfl,q,_,dq,_,_,rfl,sm' _ _ rep,T.eW,T.kE,rfl,rfl,_,rfl,?_⟩
       have de:(!decide (V.int (c.1.side:Int)=V.int 0))=(c.1.side != 0):=by
         rw [Bool.eq_iff_iff]
         simp
       rw [de]
       cases h1:(c.1.side != 0) with
       | false=>
         have nb:¬ JM.Dk (aG y) (c,i)=true:=by simp [JM.Dk,h1]
         rw [if_neg nb] at c8
         exact ⟨_,_,rfl,sm',c8⟩
       | true=>
         refine ⟨_,rfl,_,rfl,?_⟩
         refine ⟨o,i,z,y,_,rfl,M.same sm',gy,hi2,fun H5 s5=>⟨_,rfl,?_⟩⟩
         have Xe:bu H4 H5:=sm'.trans s5
         cases h2:(aG y).sided i with
         | true=>
           have nb:¬ JM.Dk (aG y) (c,i)=true:=by simp [JM.Dk,h1,h2]
           rw [if_neg nb] at c8
           exact ⟨_,_,rfl,Xe,c8⟩
         | false=>
           have nb:JM.Dk (aG y) (c,i)=true:=by simp [JM.Dk,h1,h2]
           rw [if_pos nb] at c8
           have R5:=R4.same Xe
           obtain ⟨d5,e5⟩:=R5.obj
           have e6:((y.2.map fun z=>((z.2:Nat):Int)).map V.int)[i]?=some (V.int (c.2:Int)):=by simp [hc]
           refine ⟨_,rfl,r,d5,_,rfl,e5,rfl,_,rfl,r,_,d5,_,_,rfl,e5,T.aK,T.cM,rfl,_,rfl,sp,_,_,_,rfl,rfl,dN.of R5.Le,cV e6,?_⟩
           exact ⟨r,w,6,(c.2:Int),d5,_,rfl,e5,rfl,fun H' d' hF=>c8 H' d' hF⟩
     . rintro σ H' ⟨vk,vb,rfl,sm,c8⟩
       rw [M.rb.len,show y.2.zipIdx.drop y.2.length=[] from List.drop_eq_nil_of_le (by simp)] at c8
       exact ⟨_,rfl,c8 H' o z y (M.same sm) gy rfl (S4.trans sm)⟩
end
open Fk (Fault Bytes numIn need andThen Atom Bond Mol PAtom PBond Part)
section
variable {P:Program} {w:World} {K:PySem.W.Frag} {mg:Str->Option Value} {base:Heap} {t:Ad}
end
section
variable {P:Program} {w:World} {K:PySem.W.Frag} {mg:Str->Option Value} {base:Heap} {t:Ad}
end
open Fk (Fault Bytes numIn need andThen PAtom PBond Part)
section
variable {P:Program} {w:World} {K:PySem.W.Frag} {mg:Str->Option Value} {base:Heap} {t:Ad}
def Zn (CF:Addr):Sp:=fun vs H Q _=>∃ (a dx:Addr) (w r p:Int),vs=[.ref a]/\H a=some (XR a CF dx)/\xr H dx w r p/\∀ H' l,H' l=some (.lst ([-5,w,r,p].map V.int))->Q (.ref l) H'
theorem Xg:aU ["fault"] ["fault"] (ak cB):=⟨rfl,rfl,rfl,by decide +kernel,rfl,by decide +kernel,by decide +kernel⟩
theorem Xh (T:Txt K mg t):Pj P w K mg base 1 t.dP t.mT ["fault"] (Zn t.aF):=by
 obtain ⟨tk,g⟩:=T.xW
 obtain ⟨oc,od,kV,doc,pm,an,cdv,ct,osl,e,lk,hcd⟩:=T.ng.ex
 rw [e] at lk
 rw [e]
 refine UI lk hcd Xg (fun vs H Q E h=>?_) (fun A outer s H vs Q E hr h=>?_)
 . obtain ⟨a,dx,w,r,p,rfl,_⟩:=h
   rfl
 . obtain ⟨a,dx,w,r,p,rfl,ha,hf,k⟩:=h
   refine ⟨_,aH (cT (l7 (af (bK rfl g (v:=.int (-5)) ⟨_,rfl⟩) (af (Pf T.fu (pv 0) (by simp) Gm rfl) (af (Pf T.fu (pv 0) (by simp) K2 rfl) (af (Pf T.fu (pv 0) (by simp) Gn rfl) az)))))),?_⟩
   exact ⟨_,rfl,a,dx,_,_,rfl,ha,hf,rfl,_,rfl,a,dx,_,_,rfl,ha,hf,rfl,_,rfl,a,dx,_,_,rfl,ha,hf,rfl,(by show 4<=sizeLine;decide),fun l hl=>k _ l ai⟩
end
section
variable {P:Program} {w:World} {K:PySem.W.Frag} {mg:Str->Option Value} {base:Heap} {t:Ad}
def Xi:Sp:=fun vs H Q _=>∃ (l:Addr) (r:List Int),vs=[.ref l]/\H l=some (.lst (vI r))/\r.length<=200000/\∀ H' p,H' p=some (.lst (vI (0::(r.length:Int)::r)))->Q (.ref p) H'
theorem Vw:aU ["row"] ["row"] (ak dJ):=⟨rfl,rfl,rfl,by decide +kernel,rfl,by decide +kernel,by decide +kernel⟩
theorem Vx (T:Txt K mg t):cE P w K mg base ve 1 t.fq t.sr ["row"] Xi:=by
 obtain ⟨tk,g⟩:=T.Eh
 refine T.sH.ok Vw (fun vs H Q E h=>?_) (fun cdv A outer s H vs Q E hr h=>?_)
 . obtain ⟨l,r,rfl,_⟩:=h
   rfl
 . obtain ⟨l,r,rfl,hl,hr0,k⟩:=h
   refine ⟨_,aH (cT (fU OP (l7 (af (bK rfl g (v:=.int 0) ⟨_,rfl⟩) (af (eX bT (by rfl) T.nv PySem.boot_len (af (pv 0) az)) az))) (pv 0))),?_⟩
   have ln:(vI r).length=r.length:=by simp [vI]
   refine ⟨_,rfl,l,_,rfl,.inl (dN.of hl),(by show 2<=sizeLine;decide),fun p1 hp1=>?_⟩
   have s1:=aP (o:=.lst [V.int 0,V.int ((vI r).length:Int)]) hp1
   refine ⟨_,rfl,p1,l,_,_,rfl,rfl,ai,s1 _ _ hl,by rw [sizeLine_eq];simp [ln];omega,fun p2 hp2=>k _ p2 ?_⟩
   rw [ai,ln]
   rfl
end
theorem Vy {K:PySem.W.Frag} {H:Hp} {a:Addr} {B:Bytes} (hO:Gj H) (hs:dN K H a (vB B)):yW K H a B:=by
 rcases hs with hs | hs
 . rcases hs with h | ⟨o,h⟩
   . rcases hO a with z | ⟨o,u,z⟩<;>(rw [z] at h;cases h)
   . exact .inl ⟨o,h⟩
 . exact .inr fun H'=>.inr hs
def bytesOf (l:List Int):Bytes:=l.map fun (z:Int)=>UInt8.ofNat z.toNat
theorem KS (l:List Int):(bytesOf l).length=l.length:=by simp [bytesOf]
theorem TJ:∀ l:List Int,(∀ z ∈ l,0<=z/\z<=255)->l.map V.int=vB (bytesOf l)
 | [],_=>rfl
 | z::r,h=>by
   have hz:=h z (by simp)
   have ih:=TJ r fun y hy=>h y (by simp [hy])
   have e:((UInt8.ofNat z.toNat).toNat:Int)=z:=by
     rw [UInt8.toNat_ofNat',Nat.mod_eq_of_lt (by omega)]
     omega
   unfold vB bytesOf at ih ⊢
   simp only [List.map_cons,e,ih]
theorem LW (l:List Int) (h:∀ z ∈ l,0<=z/\z<=255):PartNeutral.bytes l=some (bytesOf l):=by
 have hb:NeutralIO.bytes l=true:=by
   unfold NeutralIO.bytes
   rw [List.all_eq_true]
   intro z hz
   have:=h z hz
   simp [this]
 unfold PartNeutral.bytes
 rw [if_pos hb]
 rfl
theorem LX {l:List Nat} {i:Nat} {x:V} (h:(vN l)[i]?=some x):∃ v,l[i]?=some v/\x=.int (v:Int):=by
 have ev:(vN l)[i]?=(l[i]?).map (fun (v:Nat)=>V.int (v:Int)):=by simp [vN]
 rw [ev] at h
 cases q:l[i]? with
 | none=>rw [q] at h;cases h
 | some v=>rw [q] at h;exact ⟨v,rfl,(Option.some.inj h).symm⟩
theorem KU {X:Cx} {K0:PySem.W.Frag} (hK:X.K=K0):Xz X (Wh K0):=by
 subst hK
 exact dS
section
variable {P:Program} {w:World} {K:PySem.W.Frag} {mg:Str->Option Value} {base:Heap} {t:Ad}
end
end MP
namespace JM
open Fk
def rN (l:List Nat) (v w:Nat):Prop:=∃ p s,l=p++v::w::s
theorem gc {x:Nat} {l:List Nat} {v w:Nat}:rN (x::l) v w ↔ (x=v/\l.head?=some w)\/rN l v w:=by
 constructor
 . rintro ⟨p,s,e⟩
   cases p with
   | nil=>
     rw [List.nil_append,List.cons.injEq] at e
     obtain ⟨e1,e2⟩:=e
     exact .inl ⟨e1,by rw [e2];rfl⟩
   | cons y p=>
     rw [List.cons_append,List.cons.injEq] at e
     exact .inr ⟨p,s,e.2⟩
 . rintro (⟨rfl,h⟩ | ⟨p,s,rfl⟩)
   . cases l with
     | nil=>cases h
     | cons y l=>
       cases h
       exact ⟨[],l,rfl⟩
   . exact ⟨x::p,s,rfl⟩
theorem D6 {v w:Nat}:¬ rN [] v w:=by
 rintro ⟨p,s,e⟩
 cases p<;>cases e
theorem IV {l:List Nat} {v w:Nat}:rN l.reverse v w ↔ rN l w v:=by
 constructor
 . rintro ⟨p,s,e⟩
   refine ⟨s.reverse,p.reverse,?_⟩
   have:=congrArg List.reverse e
   simpa using this
 . rintro ⟨p,s,rfl⟩
   exact ⟨s.reverse,p.reverse,by simp⟩
theorem rO {l:List Nat} {x v w:Nat}:rN (l++[x]) v w ↔ rN l v w\/(l.getLast?=some v/\x=w):=by
 rw [<- IV,List.reverse_append,List.reverse_singleton,List.singleton_append,gc,IV,List.head?_reverse]
 constructor
 . rintro (⟨a,b⟩ | h)
   . exact .inr ⟨b,a⟩
   . exact .inl h
 . rintro (h | ⟨a,b⟩)
   . exact .inr h
   . exact .inl ⟨b,a⟩
theorem rN.mem {l:List Nat} {v w:Nat} (h:rN l v w):v ∈ l/\w ∈ l:=by
 obtain ⟨p,s,rfl⟩:=h
 simp
def closed (r:List Nat):List Nat:=r++r.take 1
theorem fJ (x:Nat) (l:List Nat):closed (x::l)=x::(l++[x]):=by simp [closed]
theorem nQ {r:List Nat} {v:Nat}:v ∈ closed r ↔ v ∈ r:=by
 cases r with
 | nil=>simp [closed]
 | cons x l=>rw [fJ];simp;grind
def Ed (r:List Nat) (v w:Nat):Prop:=rN (closed r) v w\/rN (closed r) w v
theorem MO:∀ (t:List Nat) (x z v w:Nat),(v,w) ∈ (x::t).zip (t++[z]) ↔ rN (x::(t++[z])) v w
 | [],x,z,v,w=>by
   rw [gc]
   simp [rN,gc]
   constructor
   . rintro ⟨a,b⟩;exact .inl ⟨a.symm,b.symm⟩
   . rintro (⟨a,b⟩ | ⟨p,s,e⟩)
     . exact ⟨a.symm,b.symm⟩
     . cases p with
       | nil=>cases e
       | cons y p=>cases p<;>cases e
 | y::t,x,z,v,w=>by
   rw [gc,List.cons_append,List.zip_cons_cons,List.mem_cons,MO t y z v w]
   simp
   constructor
   . rintro (⟨a,b⟩ | h)
     . exact .inl ⟨a.symm,b.symm⟩
     . exact .inr h
   . rintro (⟨a,b⟩ | h)
     . exact .inl ⟨a.symm,b.symm⟩
     . exact .inr h
theorem nR (r:List Nat) (v w:Nat):nextIn r v w=true ↔ Ed r v w:=by
 have key:∀ a b,(a,b) ∈ r.zip (r.drop 1++r.take 1) ↔ rN (closed r) a b:=fun a b=>by
   cases r with
   | nil=>
     constructor
     . intro h;simp at h
     . intro h;exact absurd h D6
   | cons x t=>
     rw [fJ]
     exact MO t x x a b
 unfold nextIn Ed
 rw [List.any_eq_true]
 constructor
 . rintro ⟨⟨a,b⟩,hm,h⟩
   simp only [Bool.or_eq_true,Bool.and_eq_true,beq_iff_eq] at h
   rcases h with ⟨rfl,rfl⟩ | ⟨rfl,rfl⟩
   . exact .inl ((key _ _).mp hm)
   . exact .inr ((key _ _).mp hm)
 . rintro (h | h)
   . exact ⟨(v,w),(key _ _).mpr h,by simp⟩
   . exact ⟨(w,v),(key _ _).mpr h,by simp⟩
structure QK (J:Nat->Nat->Prop) (r:List Nat):Prop where
 nd:r.Nodup
 three:3<=r.length
 XJ:∀ v w,rN (closed r) v w->J v w
theorem S8 (x y:Nat) (l:List Nat) (v w:Nat):rN (closed (x::y::l)) v w ↔ rN (closed (y::l++[x])) v w:=by
 rw [fJ,List.cons_append,fJ,gc]
 rw [show y::(l++[x]++[y])=(y::(l++[x]))++[y] by simp,rO]
 have e1:(y::(l++[x])).head?=some y:=rfl
 have e2:(y::(l++[x])).getLast?=some x:=by
   rw [show y::(l++[x])=(y::l)++[x] by simp,List.getLast?_concat]
 rw [e1,e2]
 simp
 constructor
 . rintro (⟨a,b⟩ | h)
   . exact .inr ⟨a,b⟩
   . exact .inl h
 . rintro (h | ⟨a,b⟩)
   . exact .inr h
   . exact .inl ⟨a,b⟩
theorem Zp {J:Nat->Nat->Prop}:∀ (p q:List Nat),q ≠ []->QK J (p++q)->QK J (q++p)/\∀ v w,rN (closed (q++p)) v w ↔ rN (closed (p++q)) v w
 | [],q,_,h=>by simpa using h
 | x::p,q,hq,h=>by
   have hne:p++q ≠ []:=by simp [hq]
   obtain ⟨y,l,e⟩:=List.exists_cons_of_ne_nil hne
   have step:∀ v w,rN (closed (p++(q++[x]))) v w ↔ rN (closed (x::p++q)) v w:=fun v w=>by
     rw [show p++(q++[x])=y::l++[x] by rw [<- e];simp,show x::p++q=x::y::l by rw [<- e];rfl]
     exact (S8 x y l v w).symm
   have h1:QK J (p++(q++[x])):=by
     refine ⟨?_,?_,fun v w a=>h.XJ v w ((step v w).mp a)⟩
     . have pm:List.Perm (x::p++q) (p++(q++[x])):=by
         have a:List.Perm ([x]++(p++q)) ((p++q)++[x]):=List.perm_append_comm
         simpa using a
       exact pm.nodup_iff.mp h.nd
     . have:=h.three
       simp at this ⊢
       omega
   obtain ⟨h2,h3⟩:=Zp p (q++[x]) (by simp) h1
   rw [show q++[x]++p=q++x::p by simp] at h2 h3
   exact ⟨h2,fun v w=>(h3 v w).trans (step v w)⟩
theorem tF (x:Nat) (t:List Nat) (v w:Nat):rN (closed (x::t.reverse)) v w ↔ rN (closed (x::t)) w v:=by
 rw [fJ,fJ,<- IV]
 rw [show (x::(t.reverse++[x])).reverse=x::(t++[x]) by simp]
theorem QK.rev {J:Nat->Nat->Prop} (sy:∀ v w,J v w->J w v) {x:Nat} {t:List Nat} (h:QK J (x::t)):QK J (x::t.reverse):=by
 refine ⟨?_,by simpa using h.three,fun v w a=>sy _ _ (h.XJ _ _ ((tF x t v w).mp a))⟩
 have:=h.nd
 rw [List.nodup_cons] at this ⊢
 exact ⟨by simpa using this.1,(List.reverse_perm t).nodup_iff.mpr this.2⟩
theorem Gy:∀ l:List Nat,l ≠ []->∃ m ∈ l,∀ x ∈ l,m<=x
 | [x],_=>⟨x,by simp,by simp⟩
 | x::y::l,_=>by
   obtain ⟨m,hm,h⟩:=Gy (y::l) (by simp)
   by_cases c:x<=m
   . exact ⟨x,by simp,fun z hz=>by
       rcases List.mem_cons.mp hz with rfl | hz
       . omega
       . have:=h z hz;omega⟩
   . exact ⟨m,List.mem_cons_of_mem _ hm,fun z hz=>by
       rcases List.mem_cons.mp hz with rfl | hz
       . omega
       . exact h z hz⟩
theorem nS (l:List Nat) (z:Nat):(l++[z]).getLastD 0=z:=by
 rw [List.getLastD_eq_getLast?,List.getLast?_concat]
 rfl
structure Canon (J:Nat->Nat->Prop) (r:List Nat):Prop where
 XM:QK J r
 least:∃ m t,r=m::t/\∀ x ∈ t,m < x
 turn:r.getD 1 0 < r.getLastD 0
theorem canon {J:Nat->Nat->Prop} (sy:∀ v w,J v w->J w v) {r:List Nat} (h:QK J r):∃ r',Canon J r'/\(∀ v w,Ed r' v w ↔ Ed r v w)/\r'.length=r.length:=by
 have hne:r ≠ []:=fun e=>by have:=h.three;rw [e] at this;simp at this
 obtain ⟨m,hm,hl⟩:=Gy r hne
 obtain ⟨p,s,rfl⟩:=List.append_of_mem hm
 obtain ⟨h1,a1⟩:=Zp p (m::s) (by simp) h
 rw [List.cons_append] at h1 a1
 have big:∀ x ∈ s++p,m < x:=fun x hx=>by
   have nd:=h1.nd
   rw [List.nodup_cons] at nd
   have:m<=x:=hl x (by simp at hx ⊢;grind)
   have:m ≠ x:=fun e=>nd.1 (e ▸ hx)
   omega
 have Zq:∀ v w,Ed (m::(s++p)) v w ↔ Ed (p++m::s) v w:=fun v w=>by
   unfold Ed
   rw [a1,a1]
 obtain ⟨y,t,e⟩:∃ y t,s++p=y::t:=List.exists_cons_of_ne_nil fun e=>by
   have:=h1.three
   rw [e] at this
   simp at this
 have tne:t ≠ []:=fun q=>by
   have:=h1.three
   rw [e,q] at this
   simp at this
 obtain ⟨t',z,e2⟩:∃ t' z,t=t'++[z]:=⟨t.dropLast,t.getLast tne,(List.dropLast_concat_getLast tne).symm⟩
 have len:(m::y::(t'++[z])).length=(p++m::s).length:=by
   have:=congrArg List.length e
   rw [e2] at this
   simp at this ⊢
   omega
 rw [e,e2] at h1 Zq big
 have yz:y ≠ z:=fun q=>by
   have nd:=h1.nd
   rw [List.nodup_cons,List.nodup_cons] at nd
   exact nd.2.1 (by simp [q])
 by_cases c:y < z
 . exact ⟨_,⟨h1,⟨m,_,rfl,big⟩,by
     rw [show m::y::(t'++[z])=(m::y::t')++[z] by simp,nS]
     exact c⟩,Zq,len⟩
 . refine ⟨m::(y::(t'++[z])).reverse,⟨h1.rev sy,⟨m,_,rfl,fun x hx=>big x (List.mem_reverse.mp hx)⟩,?_⟩,fun v w=>?_,by rw [<- len];simp⟩
   . have:z < y:=by omega
     rw [show m::(y::(t'++[z])).reverse=(m::z::t'.reverse)++[y] by simp,nS]
     exact this
   . rw [<- Zq]
     unfold Ed
     rw [tF,tF]
     exact Or.comm
end JM
namespace JM
open Fk
variable {M:Mol}
theorem nU (v w:Nat):M.joined v w=true ↔ ∃ x ∈ M.bonds,x.joins v w=true:=by
 unfold Mol.joined Mol.bond
 rw [List.find?_isSome]
theorem Oc (x:Bond) (v w:Nat):x.joins v w=x.joins w v:=by
 unfold Bond.joins
 exact Bool.or_comm _ _
theorem LY (v w:Nat):M.joined v w=M.joined w v:=by
 rw [Bool.eq_iff_iff,nU,nU]
 constructor<;>(rintro ⟨x,h1,h2⟩;exact ⟨x,h1,by rw [Oc];exact h2⟩)
theorem rP (g:iG M) {v w:Nat} (h:M.joined v w=true):v < M.n/\w < M.n/\v ≠ w:=by
 obtain ⟨x,h1,h2⟩:=(nU v w).mp h
 have e:=g.ends (x.a,x.b) (List.mem_map.mpr ⟨x,h1,rfl⟩)
 unfold Bond.joins at h2
 simp only [Bool.or_eq_true,Bool.and_eq_true,beq_iff_eq] at h2
 simp only at e
 omega
theorem zy (v w:Nat):w ∈ M.beside v ↔ w < M.n/\M.joined v w=true:=by
 unfold Mol.beside
 rw [List.mem_filter,List.mem_range]
abbrev Jn (M:Mol):Nat->Nat->Prop:=fun v w=>M.joined v w=true
def closes (M:Mol) (r:List Nat):Bool:=decide (3<=r.length)&&(M.joined (r.getLastD 0) (r.headD 0)&&decide (r.getD 1 0 < r.getLastD 0))
theorem MQ (r:List Nat):M.ringsFrom 0 r=if closes M r=true then [r] else []:=rfl
theorem IW (k:Nat) (r:List Nat):M.ringsFrom (k+1) r=(if closes M r=true then [r] else [])++(M.beside (r.getLastD 0)).flatMap fun w=>if w<=r.headD 0\/r.contains w=true then [] else M.ringsFrom k (r++[w]):=rfl
theorem TM (g:iG M):∀ (k:Nat) (p s:List Nat),p ≠ []->s.length<=k->(∀ w ∈ s,p.headD 0 < w)->(p++s).Nodup->(∀ v w,rN (p++s) v w->Jn M v w)->closes M (p++s)=true->p++s ∈ M.ringsFrom k p
 | 0,p,[],_,_,_,_,_,c=>by
   rw [List.append_nil] at c ⊢
   rw [MQ,if_pos c]
   simp
 | 0,p,_::_,_,h,_,_,_,_=>by simp at h
 | k+1,p,[],_,_,_,_,_,c=>by
   rw [List.append_nil] at c ⊢
   rw [IW,if_pos c]
   simp
 | k+1,p,w::s,hp,hl,hb,nd,aj,c=>by
   rw [IW]
   refine List.mem_append_right _ (List.mem_flatMap.mpr ⟨w,?_,?_⟩)
   . have lw:rN (p++w::s) (p.getLastD 0) w:=by
       refine ⟨p.dropLast,s,?_⟩
       have e:p.dropLast++[p.getLastD 0]=p:=by
         rw [List.getLastD_eq_getLast?,List.getLast?_eq_some_getLast hp]
         exact List.dropLast_concat_getLast hp
       calc p++w::s=(p.dropLast++[p.getLastD 0])++w::s:=by rw [e]
         _=_:=by simp
     have j:=aj _ _ lw
     exact (zy _ _).mpr ⟨(rP g j).2.1,j⟩
   . have TN:¬ (w<=p.headD 0\/p.contains w=true):=by
       rintro (h | h)
       . have:=hb w (by simp);omega
       . rw [List.contains_iff_mem] at h
         rw [List.nodup_append] at nd
         exact nd.2.2 w h w (by simp) rfl
     rw [if_neg TN]
     have e:p++w::s=p++[w]++s:=by simp
     rw [e] at nd aj c ⊢
     have hd:(p++[w]).headD 0=p.headD 0:=by
       cases p with
       | nil=>exact absurd rfl hp
       | cons y p=>rfl
     exact TM g k (p++[w]) s (by simp) (by simpa using hl) (fun x hx=>by rw [hd];exact hb x (by simp [hx])) nd aj c
theorem QL:∀ (k:Nat) (p r:List Nat),p ≠ []->p.Nodup->(∀ v w,rN p v w->Jn M v w)->r ∈ M.ringsFrom k p->∃ s,r=p++s/\(∀ w ∈ s,p.headD 0 < w)/\r.Nodup/\(∀ v w,rN r v w->Jn M v w)/\closes M r=true
 | 0,p,r,_,nd,aj,h=>by
   rw [MQ] at h
   split at h
   . simp at h
     subst h
     exact ⟨[],by simp,by simp,nd,aj,by assumption⟩
   . simp at h
 | k+1,p,r,hp,nd,aj,h=>by
   rw [IW] at h
   rcases List.mem_append.mp h with h | h
   . split at h
     . simp at h
       subst h
       exact ⟨[],by simp,by simp,nd,aj,by assumption⟩
     . simp at h
   . obtain ⟨w,hw,h⟩:=List.mem_flatMap.mp h
     split at h
     . simp at h
     . rename_i c
       have c1:p.headD 0 < w:=by
         have:¬ w<=p.headD 0:=fun q=>c (.inl q)
         omega
       have c2:w ∉ p:=fun q=>c (.inr (List.contains_iff_mem.mpr q))
       have nd':(p++[w]).Nodup:=by
         rw [List.nodup_append]
         exact ⟨nd,by simp,fun a ha b hb=>by
           simp at hb
           subst hb
           exact fun q=>c2 (q ▸ ha)⟩
       have aj':∀ v u,rN (p++[w]) v u->Jn M v u:=fun v u a=>by
         rcases rO.mp a with a | ⟨a',rfl⟩
         . exact aj v u a
         . have e:p.getLastD 0=v:=by rw [List.getLastD_eq_getLast?,a'];rfl
           rw [e] at hw
           exact ((zy _ _).mp hw).2
       obtain ⟨s,e,h1,h2,h3,h4⟩:=QL k (p++[w]) r (by simp) nd' aj' h
       have hd:(p++[w]).headD 0=p.headD 0:=by
         cases p with
         | nil=>exact absurd rfl hp
         | cons y p=>rfl
       refine ⟨w::s,by rw [e];simp,fun x hx=>?_,h2,h3,h4⟩
       rcases List.mem_cons.mp hx with rfl | hx
       . exact c1
       . have:=h1 x hx
         rw [hd] at this
         exact this
theorem pK:∀ (n:Nat) (l:List Nat),l.Nodup->(∀ x ∈ l,x < n)->l.length<=n
 | 0,[],_,_=>by simp
 | 0,x::l,_,h=>absurd (h x (by simp)) (by omega)
 | n+1,l,nd,h=>by
   have ih:=pK n (l.erase n) (nd.erase n) (fun x hx=>by
     have:=(nd.mem_erase_iff).mp hx
     have:=h x this.2
     omega)
   by_cases c:n ∈ l
   . have:=List.length_erase_of_mem c
     omega
   . rw [List.erase_of_not_mem c] at ih
     omega
theorem ED (r:List Nat):closes M r=true ↔ 3<=r.length/\M.joined (r.getLastD 0) (r.headD 0)=true/\r.getD 1 0 < r.getLastD 0:=by
 unfold closes
 simp [Bool.and_eq_true]
theorem fS {r:List Nat} (hr:r ≠ []) (v w:Nat):rN (closed r) v w ↔ rN r v w\/(r.getLastD 0=v/\r.headD 0=w):=by
 cases r with
 | nil=>exact absurd rfl hr
 | cons x t=>
   have:closed (x::t)=(x::t)++[x]:=by simp [closed]
   rw [this,rO,List.getLastD_eq_getLast?,List.getLast?_eq_some_getLast hr]
   simp
theorem rQ (g:iG M) (r:List Nat):r ∈ M.ringRows ↔ Canon (Jn M) r:=by
 have e:r ∈ M.ringRows ↔ r.length<=M.n/\∃ v < M.n,r ∈ M.ringsFrom M.n [v]:=by
   unfold Mol.ringRows
   simp only [List.mem_flatMap,List.mem_filter,List.mem_range,beq_iff_eq]
   constructor
   . rintro ⟨k,hk,⟨v,hv,h⟩,rfl⟩
     exact ⟨by omega,v,hv,h⟩
   . rintro ⟨hk,v,hv,h⟩
     exact ⟨r.length,by omega,⟨v,hv,h⟩,rfl⟩
 rw [e]
 constructor
 . rintro ⟨_,v,hv,h⟩
   have na:∀ a b,¬ rN [v] a b:=fun a b q=>by
     rcases gc.mp q with ⟨_,q⟩ | q
     . cases q
     . exact D6 q
   obtain ⟨s,rfl,h1,h2,h3,h4⟩:=QL M.n [v] r (by simp) (by simp) (fun a b q=>absurd q (na a b)) h
   obtain ⟨c1,c2,c3⟩:=(ED _).mp h4
   refine ⟨⟨h2,c1,fun a b q=>?_⟩,⟨v,s,rfl,h1⟩,c3⟩
   rcases (fS (by simp) a b).mp q with q | ⟨rfl,rfl⟩
   . exact h3 a b q
   . exact c2
 . rintro ⟨⟨nd,l3,aj⟩,⟨m,t,rfl,lt⟩,tn⟩
   have ajr:∀ v w,rN (m::t) v w->Jn M v w:=fun v w q=>aj v w ((fS (by simp) v w).mpr (.inl q))
   have cl:M.joined ((m::t).getLastD 0) ((m::t).headD 0)=true:=aj _ _ ((fS (by simp) _ _).mpr (.inr ⟨rfl,rfl⟩))
   have lts:∀ x ∈ m::t,x < M.n:=by
     intro x hx
     obtain ⟨p,s,e⟩:=List.append_of_mem hx
     have:∃ w,rN (closed (m::t)) x w:=by
       cases s with
       | nil=>exact ⟨m,(fS (by simp) _ _).mpr (.inr ⟨by rw [e,nS],rfl⟩)⟩
       | cons w s=>exact ⟨w,(fS (by simp) _ _).mpr (.inl ⟨p,s,e⟩)⟩
     obtain ⟨w,hw⟩:=this
     exact (rP g (aj _ _ hw)).1
   have ln:=pK M.n (m::t) nd lts
   refine ⟨ln,m,lts m (by simp),?_⟩
   have:=TM g M.n [m] t (by simp) (by simp at ln;omega) lt nd ajr ((ED _).mpr ⟨l3,cl,tn⟩)
   exact this
end JM
namespace JM
open Fk
inductive Wk (S:Nat->Nat->Prop) (x:Nat):Nat->Nat->Prop
 | refl:Wk S x 0 x
 | step {k y z:Nat}:Wk S x k y->S y z->Wk S x (k+1) z
theorem Wk.head {S:Nat->Nat->Prop} {x y z k:Nat} (h:S x y) (r:Wk S y k z):Wk S x (k+1) z:=by
 induction r with
 | refl=>exact .step .refl h
 | step _ s ih=>exact .step ih s
theorem MR {S:Nat->Nat->Prop}:∀ (t:List Nat) (x:Nat),(∀ v w,rN (x::t) v w->S v w)->Wk S x t.length ((x::t).getLastD 0)
 | [],x,_=>.refl
 | y::t,x,h=>by
   have:=MR t y fun v w a=>h v w (gc.mpr (.inr a))
   have e:(x::y::t).getLastD 0=(y::t).getLastD 0:=rfl
   rw [e]
   exact this.head (h x y (gc.mpr (.inl ⟨rfl,rfl⟩)))
theorem S9 {p s:List Nat} {v w:Nat} (h:rN p v w):rN (p++s) v w:=by
 obtain ⟨a,b,rfl⟩:=h
 exact ⟨a,b++s,by simp⟩
theorem SG {S:Nat->Nat->Prop} {x y k:Nat} (h:Wk S x k y):∃ l:List Nat,l.Nodup/\l.head?=some x/\l.getLast?=some y/\(∀ v w,rN l v w->S v w)/\l.length<=k+1:=by
 induction h with
 | refl=>exact ⟨[x],by simp,rfl,rfl,fun v w a=>by
     rcases gc.mp a with ⟨_,q⟩ | q
     . cases q
     . exact absurd q D6,by simp⟩
 | @step k y z _ s ih=>
   obtain ⟨l,nd,hd,la,aj,le⟩:=ih
   by_cases c:z ∈ l
   . obtain ⟨p,s',rfl⟩:=List.append_of_mem c
     have e:p++z::s'=(p++[z])++s':=by simp
     refine ⟨p++[z],?_,?_,by simp,fun v w a=>aj v w (by rw [e];exact S9 a),by simp at le ⊢;omega⟩
     . rw [e,List.nodup_append] at nd
       exact nd.1
     . cases p with
       | nil=>exact hd
       | cons u p=>exact hd
   . refine ⟨l++[z],?_,?_,by simp,fun v w a=>?_,by simp;exact le⟩
     . rw [List.nodup_append]
       exact ⟨nd,by simp,fun a ha b hb=>by
         simp at hb
         subst hb
         exact fun q=>c (q ▸ ha)⟩
     . cases l with
       | nil=>cases hd
       | cons u p=>exact hd
     . rcases rO.mp a with a | ⟨a',rfl⟩
       . exact aj v w a
       . rw [la] at a'
         cases a'
         exact s
variable {M:Mol}
def l0 (M:Mol) (a b v w:Nat):Prop:=M.joined v w=true/\¬ (v=a/\w=b)
theorem LZ (M:Mol):∀ v w,Jn M v w->Jn M w v:=fun v w h=>by
 show M.joined w v=true
 rw [LY]
 exact h
theorem IX {a b k:Nat} (ne:a ≠ b) (jo:M.joined a b=true) (h:Wk (l0 M a b) a k b):∃ r,Canon (Jn M) r/\Ed r a b/\r.length<=k+1:=by
 obtain ⟨l,nd,hd,la,aj,le⟩:=SG h
 cases l with
 | nil=>cases hd
 | cons u t=>
   cases hd
   cases t with
   | nil=>
     have:a=b:=by simpa using la
     exact absurd this ne
   | cons y t=>
     cases t with
     | nil=>
       have e:y=b:=by simpa using la
       subst e
       exact absurd ⟨rfl,rfl⟩ (aj a y ⟨[],[],rfl⟩).2
     | cons z t=>
       have last:(a::y::z::t).getLastD 0=b:=by rw [List.getLastD_eq_getLast?,la];rfl
       have cy:QK (Jn M) (a::y::z::t):=⟨nd,by simp,fun v w q=>by
         rcases (fS (by simp) v w).mp q with q | ⟨e1,e2⟩
         . exact (aj v w q).1
         . rw [last] at e1
           cases e1
           cases e2
           exact LZ M _ _ jo⟩
       obtain ⟨r,hc,he,len⟩:=canon (LZ M) cy
       exact ⟨r,hc,(he a b).mpr (.inr ((fS (by simp) _ _).mpr (.inr ⟨last,rfl⟩))),by rw [len];exact le⟩
theorem EE {a b:Nat} {r:List Nat} (cy:QK (Jn M) r) (h:rN (closed r) b a):Wk (l0 M a b) a (r.length - 1) b:=by
 have hb:b ∈ r:=nQ.mp h.mem.1
 obtain ⟨p,s,rfl⟩:=List.append_of_mem hb
 obtain ⟨c1,e1⟩:=Zp p (b::s) (by simp) cy
 have h1:=(e1 b a).mpr h
 rw [List.cons_append] at c1 h1
 have el:(p++b::s).length=(s++p).length+1:=by simp;omega
 rw [el]
 generalize s++p=t at c1 h1 ⊢
 have nd:=c1.nd
 rw [List.nodup_cons] at nd
 have len:=c1.three
 rw [fJ] at h1
 have hh:(t++[b]).head?=some a:=by
   rcases gc.mp h1 with ⟨_,q⟩ | q
   . exact q
   . rcases rO.mp q with q | ⟨q,_⟩
     . exact absurd q.mem.1 nd.1
     . exact absurd (List.mem_of_getLast? q) nd.1
 cases t with
 | nil=>simp at len
 | cons u t=>
   cases hh
   cases t with
   | nil=>simp at len
   | cons y t=>
     have sub:∀ v w,rN (a::((y::t)++[b])) v w->rN (closed (b::a::y::t)) v w:=fun v w q=>by
       rw [fJ]
       exact gc.mpr (.inr q)
     have VD:=nd.2
     rw [List.nodup_cons] at VD
     have:=MR (S:=l0 M a b) ((y::t)++[b]) a fun v w q=>⟨c1.XJ v w (sub v w q),fun ⟨ev,ew⟩=>by
       subst ev
       subst ew
       rcases gc.mp q with ⟨_,q⟩ | q
       . cases q
         exact nd.1 (by simp)
       . rcases rO.mp q with q | ⟨q,_⟩
         . exact VD.1 q.mem.1
         . exact VD.1 (List.mem_of_getLast? q)⟩
     have e:(a::((y::t)++[b])).getLastD 0=b:=by
       rw [show a::((y::t)++[b])=(a::y::t)++[b] by simp,nS]
     rw [e] at this
     have el2:(a::y::t).length+1 - 1=((y::t)++[b]).length:=by simp
     rw [el2]
     exact this
theorem Bm {a b:Nat} {r:List Nat} (cy:QK (Jn M) r) (h:Ed r a b):Wk (l0 M a b) a (r.length - 1) b:=by
 rcases h with h | h
 . cases r with
   | nil=>exact absurd h D6
   | cons x t=>
     have:=EE (cy.rev (LZ M)) ((tF x t b a).mpr h)
     simp only [List.length_cons,List.length_reverse] at this ⊢
     exact this
 . exact EE cy h
theorem KW {α:Type} (f:α->Bool):∀ (l:List α) (j acc:Nat),acc < 2 ^ j->∀ i,(((l.zipIdx j).map fun x=>if f x.1=true then 2 ^ x.2 else 0).foldl (fun (a b:Nat)=>a+b) acc).testBit i=if i < j then acc.testBit i else ((l[i - j]?).map f).getD false
 | [],j,acc,h,i=>by
   show acc.testBit i=_
   split
   . rfl
   . rename_i c
     exact Nat.testBit_lt_two_pow (Nat.lt_of_lt_of_le h (Nat.pow_le_pow_right (by decide) (by omega)))
 | x::l,j,acc,h,i=>by
   rw [List.zipIdx_cons,List.map_cons,List.foldl_cons]
   simp only
   have p2:2 ^ (j+1)=2 ^ j+2 ^ j:=by rw [Nat.pow_succ];omega
   have hb:acc+(if f x=true then 2 ^ j else 0) < 2 ^ (j+1):=by
     split<;>omega
   rw [KW f l (j+1) _ hb i]
   have bit:(acc+(if f x=true then 2 ^ j else 0)).testBit i=if i < j then acc.testBit i else if i=j then f x else (acc+(if f x=true then 2 ^ j else 0)).testBit i:=by
     cases hf:f x with
     | false=>
       simp only [Bool.false_eq_true,if_false,Nat.add_zero]
       split
       . rfl
       . split
         . rename_i c e
           rw [e]
           exact Nat.testBit_lt_two_pow h
         . rfl
     | true=>
       simp only [if_true]
       have e:acc+2 ^ j=2 ^ j * 1 ||| acc:=by
         rw [<- Nat.two_pow_add_eq_or_of_lt h 1]
         omega
       split
       . rename_i c
         rw [e,Nat.mul_one,Nat.testBit_or,Nat.testBit_two_pow]
         have:decide (j=i)=false:=decide_eq_false (by omega)
         simp [this]
       . split
         . rename_i c e'
           rw [e,e',Nat.mul_one,Nat.testBit_or,Nat.testBit_two_pow]
           simp
         . rfl
   by_cases c1:i < j
   . rw [if_pos (by omega),if_pos c1,bit,if_pos c1]
   . by_cases c2:i=j
     . rw [if_pos (show i < j+1 by omega),if_neg c1,bit,if_neg c1,if_pos c2,c2]
       simp
     . rw [if_neg (by omega),if_neg c1]
       rw [show i - j=(i - (j+1))+1 by omega]
       simp
theorem nV (M:Mol) (r:List Nat) {k:Nat} {x:Bond} (h:M.bonds[k]?=some x):(M.bitsOf r).testBit k=nextIn r x.a x.b:=by
 unfold Mol.bitsOf
 have:=KW (fun x:Bond=>nextIn r x.a x.b) M.bonds 0 0 (by decide) k
 rw [if_neg (by omega),Nat.sub_zero,h] at this
 exact this
theorem KY {α:Type} {R:α->α->Prop} {p:α->Bool}:∀ {l:List α} {r q:α},l.Pairwise R->l.find? p=some r->q ∈ l->p q=true->r=q\/R r q
 | [],_,_,_,h,_,_=>by cases h
 | x::l,r,q,pw,h,hq,pq=>by
   rw [List.pairwise_cons] at pw
   cases px:p x with
   | true=>
     rw [List.find?_cons_of_pos px] at h
     cases h
     rcases List.mem_cons.mp hq with e | hq
     . exact .inl e.symm
     . exact .inr (pw.1 q hq)
   | false=>
     rw [List.find?_cons_of_neg (by rw [px];exact Bool.false_ne_true)] at h
     rcases List.mem_cons.mp hq with e | hq
     . rw [<- e,pq] at px
       cases px
     . exact KY pw.2 h hq pq
theorem QM (l:List (List Nat)):∀ m:Nat,((List.range m).flatMap fun k=>l.filter fun r=>r.length==k).Pairwise fun r q=>r.length<=q.length
 | 0=>.nil
 | m+1=>by
   rw [List.range_succ,List.flatMap_append,List.pairwise_append]
   refine ⟨QM l m,?_,fun r hr q hq=>?_⟩
   . simp only [List.flatMap_cons,List.flatMap_nil,List.append_nil]
     rw [List.pairwise_filter]
     exact List.pairwise_of_forall fun a b ha hb=>by
       simp only [beq_iff_eq] at ha hb
       omega
   . simp only [List.mem_flatMap,List.mem_range,List.mem_filter,beq_iff_eq,List.mem_singleton] at hr hq
     obtain ⟨k,hk,_,h1⟩:=hr
     obtain ⟨k',hk',_,h2⟩:=hq
     omega
theorem QN (M:Mol):M.ringRows.Pairwise fun r q=>r.length<=q.length:=QM _ _
def pL (M:Mol) (p:List Nat->Bool):Nat:=((M.ringRows.find? p).map List.length).getD 0
theorem EF {p:List Nat->Bool} (h:pL M p ≠ 0):∃ r ∈ M.ringRows,p r=true/\r.length=pL M p:=by
 unfold pL at h ⊢
 cases e:M.ringRows.find? p with
 | none=>rw [e] at h;exact absurd rfl h
 | some r=>exact ⟨r,List.mem_of_find?_eq_some e,List.find?_some e,rfl⟩
theorem lo_le (g:iG M) {p:List Nat->Bool} {r:List Nat} (hr:r ∈ M.ringRows) (hp:p r=true):pL M p<=r.length/\pL M p ≠ 0:=by
 unfold pL
 cases e:M.ringRows.find? p with
 | none=>exact absurd hp (List.find?_eq_none.mp e r hr)
 | some q=>
   have c3:=((rQ g q).mp (List.mem_of_find?_eq_some e)).XM.three
   simp only [Option.map_some,Option.getD_some]
   rcases KY (QN M) e hr hp with rfl | h
   . exact ⟨Nat.le_refl _,by omega⟩
   . exact ⟨h,by omega⟩
theorem KZ {k:Nat} (hk:k < M.bonds.length):M.leastBonds.getD k 0=pL M fun r=>(M.bitsOf r).testBit k:=by
 unfold Mol.leastBonds
 simp only
 rw [List.getD,List.getElem?_map,List.getElem?_range hk]
 rfl
theorem TQ {v:Nat} (hv:v < M.n):M.leastAtoms.getD v 0=pL M fun r=>r.contains v:=by
 unfold Mol.leastAtoms
 simp only
 rw [List.getD,List.getElem?_map,List.getElem?_range hv]
 rfl
theorem CD {k:Nat} {x:Bond} (h:M.bonds[k]?=some x):M.joined x.a x.b=true:=(nU _ _).mpr ⟨x,List.mem_of_getElem? h,by simp [Bond.joins]⟩
theorem Ma (g:iG M) {k:Nat} {x:Bond} (h:M.bonds[k]?=some x) {d:Nat} (hd:Wk (l0 M x.a x.b) x.a d x.b) (le:∀ j,Wk (l0 M x.a x.b) x.a j x.b->d<=j):M.leastBonds.getD k 0=d+1:=by
 rw [KZ (List.getElem?_eq_some_iff.mp h).1]
 have jo:=CD h
 obtain ⟨r,hc,he,hl⟩:=IX (rP g jo).2.2 jo hd
 obtain ⟨l1,l2⟩:=lo_le g (p:=fun r=>(M.bitsOf r).testBit k) ((rQ g r).mpr hc) (by rw [nV M r h];exact (nR r _ _).mpr he)
 obtain ⟨q,hq,pq,el⟩:=EF l2
 rw [nV M q h] at pq
 have cq:=((rQ g q).mp hq).XM
 have:=le _ (Bm cq ((nR q _ _).mp pq))
 have:=cq.three
 omega
theorem SH (g:iG M) {k:Nat} {x:Bond} (h:M.bonds[k]?=some x) (no:∀ j,¬ Wk (l0 M x.a x.b) x.a j x.b):M.leastBonds.getD k 0=0:=by
 rw [KZ (List.getElem?_eq_some_iff.mp h).1]
 refine Classical.byContradiction fun c=>?_
 obtain ⟨q,hq,pq,_⟩:=EF c
 rw [nV M q h] at pq
 exact no _ (Bm ((rQ g q).mp hq).XM ((nR q _ _).mp pq))
theorem MS (g:iG M) {r:List Nat} {v:Nat} (hr:r ∈ M.ringRows) (hv:v ∈ r):∃ (k:Nat) (x:Bond),M.bonds[k]?=some x/\(x.a=v\/x.b=v)/\(M.bitsOf r).testBit k=true:=by
 have cn:=(rQ g r).mp hr
 obtain ⟨p,s,e⟩:=List.append_of_mem hv
 have hne:r ≠ []:=fun q=>by rw [q] at hv;simp at hv
 obtain ⟨w,hw⟩:∃ w,rN (closed r) v w:=by
   cases s with
   | nil=>exact ⟨r.headD 0,(fS hne _ _).mpr (.inr ⟨by rw [e,nS],rfl⟩)⟩
   | cons w s=>exact ⟨w,(fS hne _ _).mpr (.inl ⟨p,s,e⟩)⟩
 obtain ⟨x,hx,hj⟩:=(nU v w).mp (cn.XM.XJ v w hw)
 obtain ⟨k,hk⟩:=List.getElem?_of_mem hx
 unfold Bond.joins at hj
 simp only [Bool.or_eq_true,Bool.and_eq_true,beq_iff_eq] at hj
 refine ⟨k,x,hk,by omega,?_⟩
 rw [nV M r hk,nR]
 rcases hj with ⟨rfl,rfl⟩ | ⟨rfl,rfl⟩
 . exact .inl hw
 . exact .inr hw
theorem SI {r:List Nat} {k:Nat} {x:Bond} (h:M.bonds[k]?=some x) (hb:(M.bitsOf r).testBit k=true):x.a ∈ r/\x.b ∈ r:=by
 rw [nV M r h,nR] at hb
 rcases hb with q | q
 . exact ⟨nQ.mp q.mem.1,nQ.mp q.mem.2⟩
 . exact ⟨nQ.mp q.mem.2,nQ.mp q.mem.1⟩
theorem SK (g:iG M) {v:Nat} (hv:v < M.n) (no:∀ (k:Nat) (x:Bond),M.bonds[k]?=some x->(x.a=v\/x.b=v)->M.leastBonds.getD k 0=0):M.leastAtoms.getD v 0=0:=by
 rw [TQ hv]
 refine Classical.byContradiction fun c=>?_
 obtain ⟨r,hr,hp,_⟩:=EF c
 obtain ⟨k,x,hk,hx,hb⟩:=MS g hr (List.contains_iff_mem.mp hp)
 have:=no k x hk hx
 rw [KZ (List.getElem?_eq_some_iff.mp hk).1] at this
 exact (lo_le g (p:=fun r=>(M.bitsOf r).testBit k) hr hb).2 this
theorem Mb (g:iG M) {v:Nat} (hv:v < M.n) {k:Nat} {x:Bond} (hk:M.bonds[k]?=some x) (hx:x.a=v\/x.b=v) (h0:M.leastBonds.getD k 0 ≠ 0)
   (le:∀ (j:Nat) (z:Bond),M.bonds[j]?=some z->(z.a=v\/z.b=v)->M.leastBonds.getD j 0 ≠ 0->M.leastBonds.getD k 0<=M.leastBonds.getD j 0):M.leastAtoms.getD v 0=M.leastBonds.getD k 0:=by
 have hk':=(List.getElem?_eq_some_iff.mp hk).1
 rw [TQ hv]
 have e:=KZ hk'
 obtain ⟨r,hr,hp,el⟩:=EF (e ▸ h0)
 have hvr:v ∈ r:=by
   have:=SI hk hp
   rcases hx with rfl | rfl
   . exact this.1
   . exact this.2
 obtain ⟨l1,l2⟩:=lo_le g (p:=fun r=>r.contains v) hr (List.contains_iff_mem.mpr hvr)
 obtain ⟨q,hq,pq,eq⟩:=EF l2
 obtain ⟨j,z,hj,hz,hb⟩:=MS g hq (List.contains_iff_mem.mp pq)
 obtain ⟨l3,l4⟩:=lo_le g (p:=fun r=>(M.bitsOf r).testBit j) hq hb
 have e2:=KZ (List.getElem?_eq_some_iff.mp hj).1
 have:=le j z hj hz (e2 ▸ l4)
 rw [e] at this ⊢
 rw [e2] at this
 omega
end JM
namespace L2
open PySem
section
variable {Pr:Program} {Wd:World} {Kt:Type} [DecidableEq Kt] {hk:HeapKind Pr Wd Kt} {Ar:Around} {Er:Value->Shared->Prop} {st:Shared}
end
end L2
namespace L2
open PySem PySem.Spec PyProof.Rows
section
variable {X:Cx} {o e f:Expr} {apos cpos:Pos} {td ty tx:TE}
end
end L2
namespace L2
open PySem
section
variable {Pr:Program} {Wd:World} {Ar:Around} {Er:Value->Shared->Prop} {st:Shared}
end
end L2
namespace L2
open PySem PySem.Spec PyProof.Rows PySem.W
section
variable {Pr:Program} {Wd:World} {Ar:Around}
end
section
variable {X:Cx} {e:Expr} {td:TE} {p apos cpos pos:Pos}
end
end L2
namespace L2
open PySem PySem.Spec PyProof.Rows PySem.W
theorem Od (a d:Value):argsOk "min" ⟨[a],[(Str.ofString "default",d)]⟩:=by unfold argsOk;kernel_rfl
section
variable {Pr:Program} {Wd:World} {Ar:Around} {Rs:Result->Shared->Prop} {It Bs:Addr} {fp wr:List Addr} {n:Nat} {Pv:Nat->Value->Prop} {St:Nat->Heap->Prop} {kw:List (Str×Value)} {bt:Nat->Nat->Bool}
abbrev Xj (u:Value) (c:Nat):Obj:={ cls:=.type "list",dict:=none,data:=.seq #[u,u] c,slots:=#[] }
theorem zz (Wk:Walks Pr Wd Ar.in1 It fp wr n Pv St) (cmp:CmpOf Pr Wd Ar.in1 .Lt Pv bt) (out:Bs ∉ fp) :
   ∀ (k j:Nat) (st:Shared) (u:Value) (c:Nat),n - (j+1)=k->j+1<=n->St (j+1) st.heap->Pv (argBest bt j) u->st.heap.get? Bs=some (Xj u c)->
   (∀ v hp tk,Pv (argBest bt (n - 1)) v->(∀ b o,b ∉ wr->b ≠ Bs->st.heap.get? b=some o->hp.get? b=some o)->Rs (.ok (.ret v)) { st with heap:=hp,toks:=tk })->
   codeAny (model Pr Wd) Ar (.builtin "min.loop" ⟨[.ref It,.none,.ref Bs],kw⟩) Rs st
 | k,j,st,u,c,ek,le,at_,pu,hB,fin=>by
   have SM:Bs ∉ wr:=fun z=>out (Wk.sub _ z)
   have nm:(toString "min"++toString ".loop":String) = "min.loop":=by decide
   refine codeAny_builtin PySem.F.entry_min_loop ?_
   rw [Around.under_plainId PySem.F.plain_min_loop _]
   show wpAny _ Ar.in1 (seqItems? (.ref Bs) >>= _) _ _ st
   refine wpAny_bind (wpAny_seqItems hB rfl ?_)
   show wpAny _ Ar.in1 (tryCatch (pyNext (.ref It)) _ >>= _) _ _ st
   cases k with
   | zero=>
     have en:j+1=n:=by omega
     refine wpAny_bind (wpAny_tryCatch (Wk.done st _ _ (en ▸ at_) fun hp tk keeps=>?_))
     have hB':=keeps Bs _ SM hB
     show wpAny _ Ar.in1 (updateSeq Bs (fun _=>#[]) >>= _) _ _ _
     refine wpAny_bind ?_
     refine wpAny_updateSeq hB' rfl (wpAny_bind (wpAny_letGo (wpAny_pure (fin u _ tk (by rw [<- en];exact pu) fun b o b1 b2 e=>?_))))
     exact (Heap.get?_update_other _ _ (Ne.symm b2)).trans (keeps b o b1 e)
   | succ k=>
     have lt:j+1 < n:=by omega
     refine wpAny_bind (wpAny_tryCatch (Wk.item (j+1) st _ _ lt at_ fun v hp tk pv at' keeps=>?_))
     have hB':=keeps Bs _ SM hB
     show wpAny _ Ar.in1 (tryCatch (holding [v,v] (richCompare .Lt v u >>= _)) _ >>= _) _ _ _
     refine wpAny_bind (wpAny_tryCatch (wpAny_holding (wpAny_bind (cmp (j+1) (argBest bt j) v u _ _ _ pv pu ?_))))
     refine wpAny_bind (wpAny_holding (wpAny_truthy_bool (wpAny_bind (wpAny_letGo (wpAny_pure ?_)))))
     cases better:bt (j+1) (argBest bt j) with
     | true=>
       rw [if_pos rfl]
       refine wpAny_bind ?_
       refine wpAny_updateSeq hB' rfl (wpAny_bind (wpAny_letGo ?_))
       rw [nm]
       refine wpAny_pure ⟨plainId_quiet PySem.F.plain_min_loop _,zz Wk cmp out k (j+1) _ v _ (by omega) lt (Wk.frame _ _ _ at' fun b hb o e=>?_) (by rw [argBest,better];exact pv) (Heap.get?_update_self _ hB' rfl) fun v' hp' tk' pv' keeps'=>?_⟩
       . exact (Heap.get?_update_other _ _ (fun z:Bs=b=>out (z ▸ hb))).trans e
       . exact fin v' hp' tk' pv' fun b o b1 b2 e=>keeps' b o b1 b2 ((Heap.get?_update_other _ _ (Ne.symm b2)).trans (keeps b o b1 e))
     | false=>
       rw [if_neg Bool.false_ne_true]
       refine wpAny_bind (wpAny_letGo ?_)
       rw [nm]
       exact wpAny_pure ⟨plainId_quiet PySem.F.plain_min_loop _,zz Wk cmp out k (j+1) _ u c (by omega) lt at' (by rw [argBest,better];exact pu) hB' fun v' hp' tk' pv' keeps'=>fin v' hp' tk' pv' fun b o b1 b2 e=>keeps' b o b1 b2 (keeps b o b1 e)⟩
theorem Mc (Wk:Walks Pr Wd Ar.in1 It fp wr n Pv St) (cmp:CmpOf Pr Wd Ar.in1 .Lt Pv bt) (out:Bs ∉ fp) {st:Shared} {c:Nat} {nk:Str} {d:Value} (at_:St 0 st.heap)
   (hB:st.heap.get? Bs=some { cls:=.type "list",dict:=none,data:=.seq #[] c,slots:=#[] })
   (fin:∀ v hp tk,(n=0/\v=d)\/(0 < n/\Pv (argBest bt (n - 1)) v)->(∀ b o,b ∉ wr->b ≠ Bs->st.heap.get? b=some o->hp.get? b=some o)->Rs (.ok (.ret v)) { st with heap:=hp,toks:=tk }) :
   codeAny (model Pr Wd) Ar (.builtin "min.loop" ⟨[.ref It,.none,.ref Bs],[(nk,d)]⟩) Rs st:=by
 have SM:Bs ∉ wr:=fun z=>out (Wk.sub _ z)
 have nm:(toString "min"++toString ".loop":String) = "min.loop":=by decide
 refine codeAny_builtin PySem.F.entry_min_loop ?_
 rw [Around.under_plainId PySem.F.plain_min_loop _]
 show wpAny _ Ar.in1 (seqItems? (.ref Bs) >>= _) _ _ st
 refine wpAny_bind (wpAny_seqItems hB rfl ?_)
 show wpAny _ Ar.in1 (tryCatch (pyNext (.ref It)) _ >>= _) _ _ st
 rcases Nat.eq_zero_or_pos n with e0 | pos
 . refine wpAny_bind (wpAny_tryCatch (Wk.done st _ _ (e0.symm ▸ at_) fun hp tk keeps=>?_))
   refine wpAny_bind (wpAny_rule (wpAny_pure ?_))
   exact fin d hp tk (.inl ⟨e0,rfl⟩) fun b o b1 b2 e=>keeps b o b1 e
 . refine wpAny_bind (wpAny_tryCatch (Wk.item 0 st _ _ pos at_ fun v hp tk pv at' keeps=>?_))
   have hB':=keeps Bs _ SM hB
   show wpAny _ Ar.in1 (updateSeq Bs (fun _=>#[v,v]) >>= _) _ _ _
   refine wpAny_bind ?_
   refine wpAny_updateSeq hB' rfl ?_
   rw [nm]
   refine wpAny_pure ⟨plainId_quiet PySem.F.plain_min_loop _,zz Wk cmp out _ 0 _ v _ rfl pos (Wk.frame _ _ _ at' fun b hb o e=>?_) pv (Heap.get?_update_self _ hB' rfl) fun v' hp' tk' pv' keeps'=>?_⟩
   . exact (Heap.get?_update_other _ _ (fun z:Bs=b=>out (z ▸ hb))).trans e
   . exact fin v' hp' tk' (.inr ⟨pos,pv'⟩) fun b o b1 b2 e=>keeps' b o b1 b2 ((Heap.get?_update_other _ _ (Ne.symm b2)).trans (keeps b o b1 e))
end
section
variable {Pr:Program} {Wd:World} {Ar:Around} {Er:Value->Shared->Prop} {st:Shared}
theorem Oe {l:Addr} {xs:Array (Int×Tok)} {d:Value} {Qv:Value->Shared->Prop} (hh:Ar.handled=none) (hl:st.heap.IsList l (intItems xs))
   (fin:∀ v hp tk,(xs.size=0/\v=d)\/(0 < xs.size/\(intItems xs)[argBest (fun i j=>decide (numAt xs i < numAt xs j)) (xs.size - 1)]?=some v)->(∀ b o,st.heap.get? b=some o->hp.get? b=some o)->Qv v { st with heap:=hp,toks:=tk }) :
   wpAny (model Pr Wd) Ar (call (.builtin "min") [.ref l] [(Str.ofString "default",d)]) Qv Er st:=by
 have nm:(toString "min"++toString ".loop":String) = "min.loop":=by decide
 have sz:(intItems xs).size=xs.size:=by simp [intItems]
 refine kmb_tree PySem.F.kind_min PySem.F.plain_min PySem.F.entry_min (Od _ _) ?_
 refine wpAny_bind (wpAny_of_eq (show Builtin.Builtins.bindParams "min" ["key","default"] 0 ⟨[],[(Str.ofString "default",d)]⟩=pure [none,some d] from rfl) ?_)
 refine wpAny_bind (wpAny_pure ?_)
 refine wpAny_bind (iter_intList hl fun s2 e at_ inn ne=>?_)
 refine wpAny_bind (wpAny_newObj_type ?_)
 have out:s2.heap.objs.size ∉ [st.heap.objs.size,l]:=fun z=>Nat.lt_irrefl _ (inn _ z)
 rw [nm]
 have Wk:=Walks.list (prog:=Pr) (w:=Wd) (A:=Ar.in1) hh st.heap.objs.size l ne (intItems xs)
 refine wpAny_pure ⟨plainId_quiet PySem.F.plain_min_loop _,Mc Wk (CmpOf.ints_lt (numAt xs) (fun _ _=>intItems_at)) out (Wk.frame _ _ _ at_ fun b _ o e=>Heap.get?_push_of_some _ e) (Heap.get?_push_size _ rfl) fun v hp tk pv keeps=>?_⟩
 subst e
 rw [sz] at pv
 exact fin v hp tk pv (old_kept fun b o b1 e=>keeps b o b1 (Nat.ne_of_lt (Heap.lt_size e)) (Heap.get?_push_of_some _ e))
end
section
variable {X:Cx} {p pos kp:Pos} {e d:Expr} {te td:TE}
def Xk (K:PySem.W.Frag) (vs zs:List V) (H:Hp) (Q:VK):Prop:=∃ (a:Addr) (ns:List Int) (i:Int),vs=[.ref a]/\zs=[.int i]/\dN K H a (ns.map V.int) /\
 (ns=[]->Q (.int i) H)/\∀ m,m ∈ ns->(∀ y,y ∈ ns->m<=y)->Q (.int m) H
def Xl (K:PySem.W.Frag) (te td:TE):TE:=fun σ H Q=>Mp te OC σ H fun vs H1=>Mp td OC σ H1 fun zs H2=>Xk K vs zs H2 Q
theorem SN (hc:X.calm=true) (hg:Gl X "min") (hm:X.mg "min"=none) (hv:bootBuiltins "min"=some (.builtin "min")) (ha:PE X e te) (hd:PE X d td)
   (hs:starEach [e] X.env=(false,eval e X.env)::starEach [] X.env:=by rfl) :
   PE X (.Call (.Name "min" p) [e] [⟨some (Str.ofString "default"),d,kp⟩] pos) (Xl X.K te td):=by
 intro pins s σ H Q I h
 refine wpAny_Call_Name_kw (Bt I hg hm hv ?_)
 have hb:backTo pos (starEach [e] X.env)=(false,eval e X.env)::backTo pos (starEach [] X.env):=by rw [hs];rfl
 refine callWith_kw ?_ hb (by rw [hb];rfl)
 refine d7 ((af ha az hs) pos pins s σ H _ I h) fun us s1 ⟨vs,H1,I1,r,q⟩=>?_
 refine d7 ((Rh (nm:=some (Str.ofString "default")) (kpos:=kp) hd Uu) pos pins s1 σ H1 _ I1 q) fun ws s2 ⟨zs,H2,I2,rz,a,ns,i,e1,e2,hl,q0,qm⟩=>?_
 subst e1 e2
 obtain ⟨its,rv,il,_⟩:=I2.list hl
 obtain ⟨xs,ex⟩:=rv.ints.allInts.items
 have en:numsOf (intItems xs).toList=ns:=by rw [<- ex];exact rv.ints.numsOf
 rw [nums_intItems] at en
 have il2:=il.isList
 rw [ex] at il2
 cases rz with
 | cons r1 rt=>
   cases rt
   obtain ⟨tk,rfl⟩:=r1
   rw [Vals.Yy r]
   refine Oe (I2.ok.hd hc) il2 fun v hp tk' hv2 keeps=>?_
   rcases hv2 with ⟨z0,rfl⟩ | ⟨pos',at'⟩
   . refine ⟨.int i,H2,I2.kept keeps,⟨_,rfl⟩,q0 ?_⟩
     rw [<- en]
     simpa using z0
   . obtain ⟨t',rfl⟩:=intItems_at at'
     obtain ⟨b1,b2⟩:=argBest_lt (numAt xs) (xs.size - 1)
     refine ⟨.int _,H2,I2.kept keeps,⟨_,rfl⟩,qm _ ?_ fun y hy=>?_⟩
     . rw [numAt_eq,<- en]
       exact PySem.getD_mem (by rw [List.length_map,Array.length_toList];omega)
     . rw [<- en] at hy
       obtain ⟨j,hj,rfl⟩:=mem_getD hy
       rw [List.length_map,Array.length_toList] at hj
       rw [<- numAt_eq]
       exact b2 j (by omega)
end
end L2
namespace MP
open PySem PySem.Spec PyProof.Rows L2
open XL (eY)
open Fk (Fault Bytes numIn need andThen Atom Bond Mol PAtom PBond Part)
open JM (bO aG ie dU)
def ds (L:List (Nat×Nat)):List (Key×V):=L.map fun p=>(Sum.inl (p.1:Int),V.int (p.2:Int))
theorem IY {v:Nat}:∀ {L:List (Nat×Nat)},v ∉ L.map Prod.fst->iA (ds L) (Sum.inl (v:Int))=none
 | [],_=>rfl
 | x::L,h=>by
   simp only [List.map_cons,List.mem_cons,not_or] at h
   show iA ((Sum.inl (x.1:Int),V.int (x.2:Int))::ds L) _=_
   rw [fG (fun q=>h.1 (by have:=Sum.inl.inj q;omega))]
   exact IY h.2
theorem La {v d:Nat}:∀ {L:List (Nat×Nat)},(L.map Prod.fst).Nodup->(v,d) ∈ L->iA (ds L) (Sum.inl (v:Int))=some (.int (d:Int))
 | [],_,h=>by simp at h
 | x::L,nd,h=>by
   rw [List.map_cons,List.nodup_cons] at nd
   show iA ((Sum.inl (x.1:Int),V.int (x.2:Int))::ds L) _=_
   rcases List.mem_cons.mp h with rfl | h
   . exact fF rfl
   . have ne:x.1 ≠ v:=fun q=>nd.1 (q ▸ List.mem_map_of_mem h)
     rw [fG (fun q=>ne (by have:=Sum.inl.inj q;omega))]
     exact La nd.2 h
theorem Vz {L:List (Nat×Nat)} {v d:Nat} (h:v ∉ L.map Prod.fst):putK (ds L) (Sum.inl (v:Int)) (.int (d:Int))=ds (L++[(v,d)]):=by
 unfold putK
 have e:((ds L).any fun kv=>decide (kv.1=Sum.inl (v:Int)))=false:=by
   rw [mO,IY h]
   rfl
 rw [e]
 simp [ds]
theorem D7 (l:List Nat) (v:Nat):vN (l++[v])=vN l++[.int (v:Int)]:=by simp [vN]
theorem SQ {c:Bool} (b2:Bool) {te:TE} {σ:L2.St} {H:Hp} {Qf:VK} (hx:∀ Qf:VK,Qf (.bl b2) H->te σ H Qf) (h:Qf (.bl (c&&b2)) H):if c=true then te σ H Qf else Qf (.bl false) H:=by
 cases c with
 | true=>exact Nq (hx _ h)
 | false=>exact L8 h
structure TR (M:Mol) (a b:Nat) (L W:List (Nat×Nat)):Prop where
 nd:(L.map Prod.fst).Nodup
 lt:∀ p ∈ L,p.1 < M.n
 re:∀ p ∈ L,JM.Wk (JM.l0 M a b) a p.2 p.1
 sub:∀ p ∈ W,p ∈ L
 st:(a,0) ∈ L
 rise:W.Pairwise fun p q=>p.2<=q.2
 few:2 * (M.n - L.length)+W.length<=2 * M.n
structure V0 (M:Mol) (a b:Nat) (L W:List (Nat×Nat)):Prop where
 Of:TR M a b L W
 near:∀ p ∈ W,∀ q ∈ L,q.2<=p.2+1
 cl:∀ p ∈ L,p ∉ W->∀ u,JM.l0 M a b p.1 u->∃ d,(u,d) ∈ L/\d<=p.2+1
theorem V0.done {M:Mol} {a b:Nat} {L:List (Nat×Nat)} (s:V0 M a b L []) {k v:Nat} (h:JM.Wk (JM.l0 M a b) a k v):∃ d,(v,d) ∈ L/\d<=k:=by
 induction h with
 | refl=>exact ⟨0,s.Of.st,Nat.le_refl _⟩
 | step _ q ih=>
   obtain ⟨d,hd,le⟩:=ih
   obtain ⟨d',hd',le'⟩:=s.cl _ hd (by simp) _ q
   exact ⟨d',hd',by omega⟩
theorem TR.len {M:Mol} {a b:Nat} {L W:List (Nat×Nat)} (s:TR M a b L W):L.length<=M.n:=by
 have:=JM.pK M.n (L.map Prod.fst) s.nd fun x hx=>by
   obtain ⟨p,hp,rfl⟩:=List.mem_map.mp hx
   exact s.lt p hp
 simpa using this
theorem TR.more {M:Mol} {a b u d:Nat} {L W:List (Nat×Nat)} (s:TR M a b L W) (hu:u < M.n) (TN:u ∉ L.map Prod.fst) (w:JM.Wk (JM.l0 M a b) a d u) (top:∀ q ∈ L,q.2<=d):TR M a b (L++[(u,d)]) (W++[(u,d)]):=by
 have VD:((L++[(u,d)]).map Prod.fst).Nodup:=by
   rw [List.map_append,List.nodup_append]
   exact ⟨s.nd,by simp,fun x hx y hy=>by
     simp at hy
     subst hy
     exact fun q=>TN (q ▸ hx)⟩
 have lt2:∀ p ∈ L++[(u,d)],p.1 < M.n:=fun p hp=>by
   rcases List.mem_append.mp hp with hp | hp
   . exact s.lt p hp
   . rw [List.mem_singleton.mp hp];exact hu
 have l2:=JM.pK M.n _ VD fun x hx=>by
   obtain ⟨p,hp,rfl⟩:=List.mem_map.mp hx
   exact lt2 p hp
 rw [List.length_map,List.length_append,List.length_singleton] at l2
 refine ⟨VD,lt2,fun p hp=>?_,fun p hp=>?_,by simp [s.st],?_,?_⟩
 . rcases List.mem_append.mp hp with hp | hp
   . exact s.re p hp
   . rw [List.mem_singleton.mp hp];exact w
 . rcases List.mem_append.mp hp with hp | hp
   . exact List.mem_append_left _ (s.sub p hp)
   . exact List.mem_append_right _ hp
 . rw [List.pairwise_append]
   exact ⟨s.rise,by simp,fun p hp q hq=>by
     rw [List.mem_singleton.mp hq]
     exact top p (s.sub p hp)⟩
 . have:=s.few
   rw [List.length_append,List.length_append,List.length_singleton]
   omega
def FL (y:bO) (k:Nat):Nat:=(aG y).leastBonds.getD k 0
def SR (y:bO) (v:Nat):Nat:=(aG y).leastAtoms.getD v 0
section
variable {P:Program} {w:World} {K:PySem.W.Frag} {mg:Str->Option Value} {base:Heap} {t:Ad}
theorem MT {y:bO} (gy:gz y) {v u:Nat}:u ∈ JM.dX (y.2.map JM.aS) v ↔ u < (aG y).n/\(aG y).joined v u=true:=by
 rw [<- gy.beside,JM.zy]
theorem MU {y:bO} {k:Nat} {c:Bond×Nat} (h:y.2[k]?=some c):(aG y).bonds[k]?=some c.1:=by
 show (y.2.map fun z=>z.1)[k]?=_
 rw [List.getElem?_map,h]
 rfl
def SS (t:Ad):Sp:=fun vs H Q _=>∃ (g o:Addr) (k:Nat) (z:CA) (y:bO) (D:Addr->Prop) (c:Bond×Nat),vs=[.ref g,.ref o]/\rM t D H g z y/\gz y/\z.us[k]?=some (.ref o)/\y.2[k]?=some c /\
 ∀ H',bu H H'->Q (.int (FL y k:Int)) H'
theorem rR:aU ["molecule","bond","steps","waiting","atom","other","is_bond_itself"] ["molecule","bond"] (ak aV):=⟨rfl,rfl,rfl,by decide +kernel,rfl,by decide +kernel,by decide +kernel⟩
theorem Og (T:Txt K mg t):cE P w K mg base ve 1 t.b7 t.gC ["molecule","bond"] (SS t):=by
 obtain ⟨UT,g1⟩:=T.BA
 refine T.gE.ok rR (fun vs H Q E h=>?_) (fun cdv A outer s H vs Q E hr h=>?_)
 . obtain ⟨g,o,k,z,y,D,c,rfl,_⟩:=h
   rfl
 . obtain ⟨g,o,n,z,y,D,c,rfl,M,gy,ho,hc,k⟩:=h
   have hu:=hr.un
   have hu':(A.deeper (envOfC "least_through_bond" (ak aV) s.heap.objs.size t.b7 cdv)).units+1 < cLine:=by omega
   refine ⟨_,au (aZ (i:=2) rR.nd rfl (Or.inl rfl) (Rx (J0 (aL (pv 1) rfl) aT Mt) rfl rfl (by simp) (by decide)))
     (au (aZ (i:=3) rR.nd rfl (Or.inl rfl) (l7 (af (aL (pv 1) rfl) az)))
     (au (O2 PassesOwn.never (O9 (pv 3) (fun _=>rfl))
       (au (aZ (i:=4) rR.nd rfl (Or.inl rfl) (xR PySem.F.plainAttrs_list PySem.F.slot_list_pop PySem.F.type_list_pop OO (pv 3) (af aT az)))
       (aH (g8 PassesOwn.never rfl (ow (fV dS (aL (pv 0) rfl) (pv 4) (fun _ _=>rfl))) (c7 (i:=5) rR.nd rfl (Or.inl rfl))
         (au (aZ (i:=6) rR.nd rfl (Or.inl rfl) (DB (rT Jl (pv 4) (aL (pv 1) rfl) (g9 _)) (G5 (rT Jl (pv 5) (aL (pv 1) rfl) (g9 _)))))
         (aH (xP (PW.pt (G4 (Li (Nk hu' (pv 5) (pv 2))) (Dm (Lj (DA (pv 6))))))
           (au (zB hu' (pv 2) (pv 5) (fU vg (Hg hu' (pv 2) (pv 4) (fun _ _=>rfl)) aT) rfl)
           (aH (dY (xR PySem.F.plainAttrs_list PySem.F.slot_list_append PySem.F.type_list_append gW (pv 3) (af (pv 5) az)))))
           ko)))))))
     (aH (cT (Oz (Li (OW hu' (aL (pv 1) rfl) (pv 2))) (fU vg (Hg hu' (pv 2) (aL (pv 1) rfl) (fun _ _=>rfl)) aT) (bK rfl g1 (v:=.int 0) ⟨_,rfl⟩)))))),?_⟩
   obtain ⟨dg,eg⟩:=M.obj
   obtain ⟨o',dx,e0,_,rep⟩:=M.rb.at_ n _ c ho hc
   cases e0
   have gm:=gy.good
   have Zr:=MU hc
   have hab:=JM.rP gm (JM.CD Zr)
   have sml:=gy.small
   have hn:(aG y).n=y.1.length:=CB y
   intro d hd
   have s0:bu H (upd H d (.dK [])):=aP hd
   refine ⟨_,rfl,o,_,dx,_,_,rfl,s0 _ _ rep,T.eW,T.fY,rfl,ai,[(Sum.inl (c.1.a:Int),.int 0)],rfl,by show 1<=15;decide,?_⟩
   have s1:bu H (upd (upd H d (.dK [])) d (.dK (B8 [] [(Sum.inl (c.1.a:Int),.int 0)]))):=fun b u e=>by rw [aq (ay e hd)];exact s0 b u e
   refine ⟨_,rfl,o,_,dx,_,_,rfl,s1 _ _ rep,T.eW,T.fY,rfl,(by show 1<=sizeLine;decide),fun lw XN=>?_⟩
   have XQ:d ≠ lw:=fun z=>by rw [<- z,ai] at XN;cases XN
   have lwd:lw ≠ d:=fun z=>XQ z.symm
   have Xm:H lw=none:=s1.free XN
   have s2:=s1.trans (aP (o:=.lst [.int (c.1.a:Int)]) XN)
   dsimp only [Jj,VN]
   show Lm _ _ _ _ _
   refine O5 (fun σ H'=>∃ v4 v5 v6 L W,σ=[some (.ref g),some (.ref o),some (.ref d),some (.ref lw),v4,v5,v6]/\bu H H'/\H' d=some (.dK (ds L))/\H' lw=some (.lst (vN (W.map Prod.fst)))/\V0 (aG y) c.1.a c.1.b L W)
     (fun σ H'=>match H' d,H' lw with | some (.dK kvs),some (.lst ws)=>2 * ((aG y).n - kvs.length)+ws.length | _,_=>0)
     ?_ ?_ ?_
   . refine ⟨none,none,none,[(c.1.a,0)],[(c.1.a,0)],rfl,s2,by rw [aq XQ,ai];rfl,ai,⟨by simp,fun p hp=>?_,fun p hp=>?_,fun p hp=>hp,by simp,by simp,by simp;omega⟩,fun p hp q hq=>?_,fun p hp hn=>absurd hp hn⟩
     . rw [List.mem_singleton.mp hp];exact hab.1
     . rw [List.mem_singleton.mp hp];exact .refl
     . rw [List.mem_singleton.mp hq];exact Nat.zero_le _
   rotate_left
   . exact fun σ H Q Q' h ⟨x,e,k,tv,q⟩=>⟨x,e,k,tv,h _ _ q⟩
   rintro σ H1 ⟨v4,v5,v6,L,W,rfl,s3,hd1,hw1,sh⟩
   refine ⟨_,rfl,_,.inl ⟨_,dN.of hw1,rfl⟩,?_⟩
   cases W with
   | nil=>
     refine L8 ?_
     refine ⟨_,rfl,o,_,dx,_,_,rfl,s3 _ _ rep,T.eW,T.fZ,rfl,_,rfl,d,_,rfl,vt.k (k:=Sum.inl (c.1.b:Int)) hd1,_,rfl,?_⟩
     by_cases hb:c.1.b ∈ L.map Prod.fst
     . obtain ⟨⟨b',e⟩,hm,rfl⟩:=List.mem_map.mp hb
       have hv:=La sh.Of.nd hm
       have ev:FL y n=e+1:=JM.Ma gm Zr (sh.Of.re _ hm) fun j hj=>by
         obtain ⟨d',hd',le⟩:=sh.done hj
         have:=hv.symm.trans (La sh.Of.nd hd')
         cases this
         exact le
       rw [hv]
       refine Nq ?_
       refine ⟨_,rfl,_,rfl,o,_,dx,_,_,rfl,s3 _ _ rep,T.eW,T.fZ,rfl,d,_,rfl,by have:=vt.k (k:=Sum.inl (c.1.b:Int)) hd1;rw [hv] at this;exact this,_,_,rfl,rfl,?_⟩
       have:=k _ s3
       rw [ev] at this
       exact this
     . have ev:FL y n=0:=JM.SH gm Zr fun j hj=>by
         obtain ⟨d',hd',_⟩:=sh.done hj
         exact hb (List.mem_map_of_mem hd')
       rw [IY hb]
       refine L8 ?_
       have:=k _ s3
       rw [ev] at this
       exact this
   | cons pv W'=>
     obtain ⟨v,dv⟩:=pv
     refine Nq ?_
     have vL:(v,dv) ∈ L:=sh.Of.sub _ (by simp)
     have vn:=sh.Of.lt _ vL
     have hw1':H1 lw=some (.lst (.int (v:Int)::vN (W'.map Prod.fst))):=hw1
     refine ⟨_,rfl,.inl ⟨rfl,_,dN.of hw1⟩,lw,_,0,0,.int (v:Int),rfl,rfl,hw1',by decide,by decide,by simp [seqIndex?],rfl,?_⟩
     rw [List.eraseIdx_cons_zero]
     have s4:bu H (upd H1 lw (.lst (vN (W'.map Prod.fst)))):=fun b u e=>by rw [aq (ay e Xm)];exact s3 b u e
     obtain ⟨ra,Lf⟩:∃ ra,z.rs[v]?=some ra:=⟨_,List.getElem?_eq_getElem (by rw [M.rows.len,M.ra.len,<- hn];exact vn)⟩
     have hA:=M.rows.at_ _ _ Lf
     have e1:(z.rs.map V.ref)[v]?=some (V.ref ra):=by rw [List.getElem?_map,Lf];rfl
     refine ⟨_,rfl,g,_,dg,_,_,rfl,s4 _ _ eg,T.bI,T.bE,rfl,_,rfl,z.lr,_,_,_,rfl,rfl,dN.of (s4 _ _ M.rows.lst),cV e1,ra,rfl,⟨_,dN.of (s4 _ _ hA)⟩,?_⟩
     have mu0:(match H1 d,H1 lw with | some (.dK kvs),some (.lst ws)=>2 * ((aG y).n - kvs.length)+ws.length | _,_=>0)=2 * ((aG y).n - L.length)+(W'.length+1):=by
       rw [hd1,hw1]
       simp [ds,vN]
     have rise:=sh.Of.rise
     rw [List.pairwise_cons] at rise
     have few:=sh.Of.few
     rw [List.length_cons] at few
     refine DG (K:=K) (a:=ra) (xs:=vN (JM.dX (y.2.map JM.aS) v)) (fun i σ H'=>∃ v5 v6 L' W'',σ=[some (.ref g),some (.ref o),some (.ref d),some (.ref lw),some (.int (v:Int)),v5,v6]/\bu H H'/\H' d=some (.dK (ds L'))/\H' lw=some (.lst (vN (W''.map Prod.fst)))/\TR (aG y) c.1.a c.1.b L' W''/\(v,dv) ∈ L'/\(∀ q ∈ L',q.2<=dv+1)/\(∀ p ∈ W'',dv<=p.2) /\
         (∀ p ∈ L',p ∉ W''->p ≠ (v,dv)->∀ u,JM.l0 (aG y) c.1.a c.1.b p.1 u->∃ e,(u,e) ∈ L'/\e<=p.2+1)/\(∀ x ∈ (JM.dX (y.2.map JM.aS) v).take i,JM.l0 (aG y) c.1.a c.1.b v x->∃ e,(x,e) ∈ L')/\2 * ((aG y).n - L'.length)+W''.length<=2 * ((aG y).n - L.length)+W'.length)
       ⟨v5,v6,L,W',rfl,s4,by rw [aq XQ];exact hd1,ai,⟨sh.Of.nd,sh.Of.lt,sh.Of.re,fun u hu=>sh.Of.sub u (by simp [hu]),sh.Of.st,rise.2,by omega⟩,vL,fun q hq=>sh.near (v,dv) (by simp) q hq,fun p hp=>rise.1 p hp,fun p hp hn ne=>sh.cl p hp (by simp [hn,ne]),by simp,Nat.le_refl _⟩ (fun i σ H' _ ⟨_,_,_,_,_,sm,_⟩=>dN.of (sm _ _ hA)) ?_ ?_
     . rintro i x σ H2 hx ⟨v5,v6,L',W'',rfl,s5,hd2,Xn,fr,Xo,top,low,cl,tk,mu⟩
       obtain ⟨u,VE,rfl⟩:=LX hx
       have ju:=(MT gy).mp (List.mem_of_getElem? VE)
       have stay:(JM.l0 (aG y) c.1.a c.1.b v u->∃ e,(u,e) ∈ L')->∀ v5 v6,∃ v5' v6' L'' W3,[some (V.ref g),some (.ref o),some (.ref d),some (.ref lw),some (.int (v:Int)),v5,v6]=[some (.ref g),some (.ref o),some (.ref d),some (.ref lw),some (.int (v:Int)),v5',v6']/\bu H H2/\H2 d=some (.dK (ds L''))/\H2 lw=some (.lst (vN (W3.map Prod.fst)))/\TR (aG y) c.1.a c.1.b L'' W3/\(v,dv) ∈ L''/\(∀ q ∈ L'',q.2<=dv+1)/\(∀ p ∈ W3,dv<=p.2) /\
         (∀ p ∈ L'',p ∉ W3->p ≠ (v,dv)->∀ u,JM.l0 (aG y) c.1.a c.1.b p.1 u->∃ e,(u,e) ∈ L''/\e<=p.2+1)/\(∀ x ∈ (JM.dX (y.2.map JM.aS) v).take (i+1),JM.l0 (aG y) c.1.a c.1.b v x->∃ e,(x,e) ∈ L'')/\2 * ((aG y).n - L''.length)+W3.length<=2 * ((aG y).n - L.length)+W'.length:=fun hs v5 v6=>⟨v5,v6,L',W'',rfl,s5,hd2,Xn,fr,Xo,top,low,cl,fun x hx sx=>by
           rw [take_snoc VE] at hx
           rcases List.mem_append.mp hx with hx | hx
           . exact tk x hx sx
           . rw [List.mem_singleton.mp hx] at sx ⊢
             exact hs sx,mu⟩
       refine ⟨_,rfl,_,rfl,o,_,dx,_,_,rfl,s5 _ _ rep,T.eW,T.fY,rfl,rfl,_,rfl,?_⟩
       refine SQ (decide (V.int (u:Int)=V.int (c.1.b:Int))) ?_ ?_
       . exact fun Qf q=>⟨_,rfl,_,rfl,o,_,dx,_,_,rfl,s5 _ _ rep,T.eW,T.fZ,rfl,rfl,q⟩
       have ei:(decide (V.int (v:Int)=V.int (c.1.a:Int))&&decide (V.int (u:Int)=V.int (c.1.b:Int)))=true ↔ v=c.1.a/\u=c.1.b:=by
         rw [Bool.and_eq_true,decide_eq_true_eq,decide_eq_true_eq]
         constructor
         . rintro ⟨h1,h2⟩
           cases h1;cases h2
           constructor<;>omega
         . rintro ⟨h1,h2⟩
           rw [h1,h2]
           exact ⟨rfl,rfl⟩
       generalize (decide (V.int (v:Int)=V.int (c.1.a:Int))&&decide (V.int (u:Int)=V.int (c.1.b:Int)))=is at ei
       refine ⟨_,rfl,_,rfl,d,_,rfl,vt.k (k:=Sum.inl (u:Int)) hd2,_,rfl,?_⟩
       by_cases TN:u ∈ L'.map Prod.fst
       . obtain ⟨⟨u',e⟩,hm,rfl⟩:=List.mem_map.mp TN
         rw [La fr.nd hm]
         exact L8 (L8 (stay (fun _=>⟨e,hm⟩) _ _))
       . rw [IY TN]
         refine Nq ?_
         refine ⟨_,rfl,_,rfl,?_⟩
         cases is with
         | true=>
           have:=ei.mp rfl
           exact L8 (stay (fun q=>absurd this q.2) _ _)
         | false=>
           have su:JM.l0 (aG y) c.1.a c.1.b v u:=⟨ju.2,fun q=>by have:=ei.mpr q;cases this⟩
           have l1:(ds L').length=L'.length:=by simp [ds]
           have l2:=fr.len
           have l5:=fr.few
           have fr2:=fr.more ju.1 TN (.step (fr.re _ Xo) su) top
           have l3:=fr2.len
           rw [List.length_append,List.length_singleton] at l3
           have gv:=vt.k (k:=Sum.inl (v:Int)) hd2
           rw [La fr.nd Xo] at gv
           refine Nq ?_
           have pv:=DQ.k (k:=Sum.inl (u:Int)) (v:=.int ((dv+1:Nat):Int)) hd2 (by rw [sizeLine_eq];omega)
           rw [Vz TN] at pv
           refine ⟨_,rfl,_,rfl,d,_,rfl,gv,_,_,rfl,rfl,_,rfl,_,rfl,d,_,rfl,pv,?_⟩
           have hw3:upd H2 d (.dK (ds (L'++[(u,dv+1)]))) lw=some (.lst (vN (W''.map Prod.fst))):=by rw [aq lwd];exact Xn
           have wl:(vN (W''.map Prod.fst)).length=W''.length:=by simp [vN]
           refine ⟨_,rfl,.inl ⟨rfl,_,dN.of hw3⟩,_,rfl,lw,_,_,rfl,rfl,hw3,by rw [sizeLine_eq];omega,?_⟩
           refine ⟨_,_,L'++[(u,dv+1)],W''++[(u,dv+1)],rfl,fun b q e=>by rw [aq (ay e Xm),aq (ay e hd)];exact s5 b q e,by rw [aq XQ,ai],by rw [ai,List.map_append];exact congrArg (fun l=>some (HO.lst l)) (D7 _ u).symm,fr2,by simp [Xo],fun q hq=>?_,fun p hp=>?_,fun p hp hn ne z hz=>?_,fun x hx sx=>?_,?_⟩
           . rcases List.mem_append.mp hq with hq | hq
             . exact top q hq
             . rw [List.mem_singleton.mp hq];exact Nat.le_refl _
           . rcases List.mem_append.mp hp with hp | hp
             . exact low p hp
             . rw [List.mem_singleton.mp hp];exact Nat.le_succ _
           . rcases List.mem_append.mp hp with hp | hp
             . obtain ⟨e,he,le⟩:=cl p hp (fun q=>hn (List.mem_append_left _ q)) ne z hz
               exact ⟨e,List.mem_append_left _ he,le⟩
             . exact absurd (List.mem_append_right _ hp) hn
           . rw [take_snoc VE] at hx
             rcases List.mem_append.mp hx with hx | hx
             . obtain ⟨e,he⟩:=tk x hx sx
               exact ⟨e,List.mem_append_left _ he⟩
             . rw [List.mem_singleton.mp hx]
               exact ⟨_,List.mem_append_right _ (List.mem_singleton.mpr rfl)⟩
           . simp only [List.length_append,List.length_singleton]
             omega
     . rintro σ H2 ⟨v5,v6,L',W'',rfl,s5,hd2,Xn,fr,Xo,top,low,cl,tk,mu⟩
       rw [show (JM.dX (y.2.map JM.aS) v).take (vN (JM.dX (y.2.map JM.aS) v)).length=JM.dX (y.2.map JM.aS) v from List.take_of_length_le (by simp [vN])] at tk
       refine ⟨⟨_,v5,v6,L',W'',rfl,s5,hd2,Xn,fr,fun p hp q hq=>?_,fun q hq hn x hx=>?_⟩,?_⟩
       . have:=top q hq
         have:=low p hp
         omega
       . by_cases e:q=(v,dv)
         . subst e
           obtain ⟨e,he⟩:=tk x ((MT gy).mpr ⟨(JM.rP gm hx.1).2.1,hx.1⟩) hx
           exact ⟨e,he,top _ he⟩
         . exact cl q hq hn e x hx
       . rw [mu0,hd2,Xn]
         simp [ds,vN]
         omega
end
def rB (y:bO):List Nat:=(List.range y.2.length).map (FL y)
def rA (y:bO):List Nat:=(List.range y.1.length).map (SR y)
theorem QO {y:bO} {k:Nat} (h:k < y.2.length):(vN (rB y))[k]?=some (.int (FL y k:Int)):=by
 unfold vN rB
 simp [h]
def IZ (y:bO) (v u:Nat):Nat:=((y.2.map JM.aS).findIdx? (fR v u)).getD 0
theorem tG {v u:Nat} {q:Nat×Nat}:fR v u q=true ↔ (q.1=v/\q.2=u)\/(q.1=u/\q.2=v):=by
 unfold fR
 simp
theorem MV {y:bO} (gy:gz y) {v u k:Nat} {c:Bond×Nat} (hc:y.2[k]?=some c) (hj:fR v u (JM.aS c)=true):(y.2.map JM.aS).findIdx? (fR v u)=some k:=by
 have hk:k < y.2.length:=(List.getElem?_eq_some_iff.mp hc).1
 have ek:y.2[k]=c:=(List.getElem?_eq_some_iff.mp hc).2
 rw [List.findIdx?_eq_some_iff_getElem]
 refine ⟨by simp [hk],by simp only [List.getElem_map,ek];exact hj,fun j hjk hj2=>?_⟩
 have pw:=List.pairwise_iff_getElem.mp gy.rise.2 j k (by simp;omega) (by simp [hk]) hjk
 have b1:=gy.rise.1 _ (List.getElem_mem (l:=y.2.map JM.aS) (n:=j) (by simp;omega))
 have b2:=gy.rise.1 _ (List.getElem_mem (l:=y.2.map JM.aS) (n:=k) (by simp [hk]))
 simp only [List.getElem_map,ek] at pw b1 b2 hj2
 rw [tG] at hj hj2
 omega
theorem Ja {y:bO} (gy:gz y) {v u k:Nat} {c:Bond×Nat} (hc:y.2[k]?=some c) (hj:fR v u (JM.aS c)=true):IZ y v u=k:=by
 unfold IZ
 rw [MV gy hc hj]
 rfl
theorem Jb {y:bO} (gy:gz y) {v u:Nat} (h:u ∈ JM.dX (y.2.map JM.aS) v):∃ c,y.2[IZ y v u]?=some c/\(c.1.a=v\/c.1.b=v)/\(y.2.map JM.aS).findIdx? (fR v u)=some (IZ y v u):=by
 obtain ⟨q,hq,hj⟩:=JM.zE.mp h
 obtain ⟨c,hc,rfl⟩:=List.mem_map.mp hq
 obtain ⟨k,hk⟩:=List.getElem?_of_mem hc
 have hj':fR v u (JM.aS c)=true:=tG.mpr (by omega)
 have e:=MV gy hk hj'
 have eb:=Ja gy hk hj'
 rw [eb]
 refine ⟨c,hk,?_,e⟩
 unfold JM.aS at hj
 simp at hj
 omega
theorem Lb {y:bO} (gy:gz y) {v k:Nat} {x:Bond} (h:(aG y).bonds[k]?=some x) (hx:x.a=v\/x.b=v):∃ u ∈ JM.dX (y.2.map JM.aS) v,IZ y v u=k:=by
 have h':(y.2.map fun z=>z.1)[k]?=some x:=h
 rw [List.getElem?_map] at h'
 cases hc:y.2[k]? with
 | none=>rw [hc] at h';cases h'
 | some c=>
   rw [hc] at h'
   cases h'
   have lt:=(gy.rise.1 _ (List.mem_map_of_mem (List.mem_of_getElem? hc))).1
   unfold JM.aS at lt
   simp at lt
   rcases hx with rfl | rfl
   . exact ⟨c.1.b,JM.zE.mpr ⟨JM.aS c,List.mem_map_of_mem (List.mem_of_getElem? hc),.inl ⟨rfl,rfl⟩⟩,Ja gy hc (tG.mpr (.inl ⟨rfl,rfl⟩))⟩
   . exact ⟨c.1.a,JM.zE.mpr ⟨JM.aS c,List.mem_map_of_mem (List.mem_of_getElem? hc),.inr ⟨by unfold JM.aS;simp;omega,rfl,rfl⟩⟩,Ja gy hc (tG.mpr (.inr ⟨rfl,rfl⟩))⟩
def Me (y:bO) (v:Nat):List Nat:=(((JM.dX (y.2.map JM.aS) v).map (IZ y v)).filter fun k=>FL y k != 0).map (FL y)
theorem Oh {y:bO} (gy:gz y) {v:Nat} (hv:v < y.1.length) (h:Me y v=[]):SR y v=0:=by
 refine JM.SK gy.good (by rw [CB];exact hv) fun k x hk hx=>?_
 obtain ⟨u,hu,e⟩:=Lb gy hk hx
 unfold Me at h
 rw [List.map_eq_nil_iff,List.filter_eq_nil_iff] at h
 have:=h k (List.mem_map.mpr ⟨u,hu,e⟩)
 show FL y k=0
 simpa using this
theorem Mf {y:bO} (gy:gz y) {v m:Nat} (hv:v < y.1.length) (hm:m ∈ Me y v) (le:∀ x ∈ Me y v,m<=x):SR y v=m:=by
 obtain ⟨k,hk,rfl⟩:=List.mem_map.mp hm
 obtain ⟨hk,h0⟩:=List.mem_filter.mp hk
 obtain ⟨u,hu,rfl⟩:=List.mem_map.mp hk
 obtain ⟨c,hc,hx,_⟩:=Jb gy hu
 refine JM.Mb gy.good (by rw [CB];exact hv) (MU hc) hx (bne_iff_ne.mp h0) fun j z hj hz h1=>le _ ?_
 obtain ⟨u',hu',rfl⟩:=Lb gy hj hz
 exact List.mem_map.mpr ⟨_,List.mem_filter.mpr ⟨List.mem_map.mpr ⟨u',hu',rfl⟩,bne_iff_ne.mpr h1⟩,rfl⟩
theorem V1 (l:List Nat):vN l=(l.map fun (n:Nat)=>(n:Int)).map V.int:=by
 unfold vN
 rw [List.map_map]
 rfl
section
variable {P:Program} {w:World} {K:PySem.W.Frag} {mg:Str->Option Value} {base:Heap} {t:Ad}
def Zs (t:Ad):Sp:=fun vs H Q _=>∃ (g:Addr) (z:CA) (y:bO) (D:Addr->Prop),vs=[.ref g]/\rM t D H g z y/\gz y/\∀ H' l,bu H H'->H l=none->H' l=some (.lst (vN (rB y)))->Q (.ref l) H'
theorem QR:aU ["molecule","bond"] ["molecule"] (ak aX):=⟨rfl,rfl,rfl,by decide +kernel,rfl,by decide +kernel,by decide +kernel⟩
theorem Xp (T:Txt K mg t):cE P w K mg base ve 2 t.bD t.gi ["molecule"] (Zs t):=by
 have GR:=@Og P w K mg base t T
 refine T.gn.ok QR (fun vs H Q E h=>?_) (fun cdv A outer s H vs Q E hr h=>?_)
 . obtain ⟨g,z,y,D,rfl,_⟩:=h
   rfl
 . obtain ⟨g,z,y,D,rfl,M,gy,k⟩:=h
   refine ⟨_,aH (cT (OT rfl QR.nd (ow (aL (pv 0) rfl)) (qf (own:=[("bond",1)]) rfl) (fun _ _ _ _ _=>c7 (i:=1) QR.nd rfl (Or.inl rfl)) (fun _ _ _ _ _=>GY)
     (fun _ _ _ _ _=>cU GR hr rfl T.kC T.gE.kp T.k9 .nil f9 (af (pv 0) (af (pv 1) az))))),?_⟩
   obtain ⟨dg,eg⟩:=M.obj
   have fw:=gy.few
   refine ⟨_,rfl,g,_,dg,_,_,rfl,eg,T.bI,T.d8,rfl,z.lb,rfl,⟨_,dN.of M.bonds⟩,fun l hl=>?_⟩
   refine z9 (K:=K) (a:=z.lb) (xs:=z.us) (fun i H'=>bu H H'/\H' l=some (.lst (vN ((List.range i).map (FL y))))) ⟨aP hl,ai⟩ (fun i H' _ ⟨sm,_⟩=>dN.of (sm _ _ M.bonds)) ?_ ?_
   . rintro i x H' hx ⟨sm,hl'⟩
     have hi:i < z.us.length:=(List.getElem?_eq_some_iff.mp hx).1
     obtain ⟨c,hc⟩:∃ c,y.2[i]?=some c:=⟨_,List.getElem?_eq_getElem (by rw [<- M.rb.len];exact hi)⟩
     obtain ⟨o,dx,rfl,_,rep⟩:=M.rb.at_ i x c hx hc
     refine ⟨rfl,_,rfl,_,rfl,?_⟩
     refine ⟨g,o,i,z,y,D,c,rfl,M.same sm,gy,hx,hc,fun H2 s2=>?_⟩
     refine ⟨_,s2 _ _ hl',?_,?_,?_⟩
     . have:=M.rb.len
       rw [sizeLine_eq]
       simp [vN]
       omega
     . intro b u e
       rw [aq (ay e hl)]
       exact s2 _ _ (sm b u e)
     . rw [ai,List.range_succ]
       simp [vN]
   . rintro H1 ⟨sm,hl'⟩
     rw [M.rb.len] at hl'
     exact k H1 l sm hl hl'
def Zt (t:Ad):Sp:=fun vs H Q _=>∃ (g lb:Addr) (z:CA) (y:bO) (D:Addr->Prop),vs=[.ref g,.ref lb]/\rM t D H g z y/\gz y/\H lb=some (.lst (vN (rB y)))/\∀ H' l,bu H H'->H l=none->H' l=some (.lst (vN (rA y)))->Q (.ref l) H'
theorem EG:aU ["molecule","through_bonds","lengths","atom","numbers","other","through_atom","k"] ["molecule","through_bonds"] (ak aR):=⟨rfl,rfl,rfl,by decide +kernel,rfl,by decide +kernel,by decide +kernel⟩
theorem Xq (T:Txt K mg t):cE P w K mg base ve 1 t.br t.gj ["molecule","through_bonds"] (Zt t):=by
 obtain ⟨UT,g1⟩:=T.BA
 refine T.gp.ok EG (fun vs H Q E h=>?_) (fun cdv A outer s H vs Q E hr h=>?_)
 . obtain ⟨g,lb,z,y,D,rfl,_⟩:=h
   rfl
 . obtain ⟨g,lb,z,y,D,rfl,M,gy,hlb,k⟩:=h
   have hu:=hr.un
   have hu':(A.deeper (envOfC "least_through_atoms" (ak aR) s.heap.objs.size t.br cdv)).units+1 < cLine:=by omega
   refine ⟨_,au (aZ (i:=2) EG.nd rfl (Or.inl rfl) (l7 az))
     (au (g8 PassesOwn.never rfl (mJ rfl T.oE (af (eX bT (by rfl) T.nv PySem.boot_len (af (aL (pv 0) rfl) az)) az)) (c7 (i:=3) EG.nd rfl (Or.inr rfl))
       (au (DP (i:=4) rfl EG.nd rfl rfl rfl (ow (fV dS (aL (pv 0) rfl) (pv 3) (fun _ _=>rfl))) (qf (own:=[("other",5)]) rfl) (fun _ _ _ _ _=>c7 (i:=5) EG.nd rfl (Or.inl rfl)) (fun _ _ _ _ _=>GY)
         (fun _ _ _ _ _=>Hg hu' (II (K0:=K) rfl (pv 0) rfl) (vj (af (pv 3) (af (pv 5) az))) (fun _ _=>rfl)))
       (au (DP (i:=6) rfl EG.nd rfl rfl rfl (ow (pv 4)) (qf (own:=[("k",7)]) rfl) (fun _ _ _ _ _=>c7 (i:=7) EG.nd rfl (Or.inl rfl))
         (fun _ _ _ _ _=>GZ (i8 Jm (fV (KU (K0:=K) rfl) (pv 1) (pv 7) (fun _ _=>rfl)) (bK rfl g1 (v:=.int 0) ⟨_,rfl⟩) (g9 _)))
         (fun _ _ _ _ _=>fV (KU (K0:=K) rfl) (pv 1) (pv 7) (fun _ _=>rfl)))
       (aH (dY (xR PySem.F.plainAttrs_list PySem.F.slot_list_append PySem.F.type_list_append gW (pv 2) (af (SN rfl (by rfl) T.T5 rfl (pv 6) (bK rfl g1 (v:=.int 0) ⟨_,rfl⟩)) az)))))))
     (aH (cT (pv 2)))),?_⟩
   obtain ⟨dg,eg⟩:=M.obj
   have al:z.as.length=y.1.length:=M.ra.len
   have sml:=gy.small
   have fw:=gy.few
   refine ⟨Nat.zero_le _,fun l hl=>?_⟩
   have s1:bu H (upd H l (.lst [])):=aP hl
   refine ⟨_,rfl,g,_,dg,_,_,rfl,s1 _ _ eg,T.bI,T.cO,rfl,z.la,z.as,rfl,.inl (dN.of (s1 _ _ M.atoms)),?_⟩
   refine ⟨_,rfl,by omega,by omega,?_⟩
   refine qd (n:=z.as.length) (fun i σ H'=>∃ v3 v4 v6,i<=z.as.length/\σ=[some (.ref g),some (.ref lb),some (.ref l),v3,v4,none,v6,none]/\bu H H'/\H' l=some (.lst (vN ((List.range i).map (SR y))))) ⟨none,none,none,Nat.zero_le _,rfl,s1,ai⟩ ?_ ?_
   . rintro i σ H1 hi ⟨v3,v4,v6,_,rfl,s2,hl1⟩
     rw [Int.zero_add]
     have hi':i < y.1.length:=by omega
     obtain ⟨ra,Lf⟩:∃ ra,z.rs[i]?=some ra:=⟨_,List.getElem?_eq_getElem (by rw [M.rows.len];exact hi)⟩
     have hA:=M.rows.at_ _ _ Lf
     have e1:(z.rs.map V.ref)[i]?=some (V.ref ra):=by rw [List.getElem?_map,Lf];rfl
     have nl:(JM.dX (y.2.map JM.aS) i).length<=1000:=gy.Xb i
     refine ⟨_,rfl,g,_,dg,_,_,rfl,s2 _ _ eg,T.bI,T.bE,rfl,_,rfl,z.lr,_,_,_,rfl,rfl,dN.of (s2 _ _ M.rows.lst),cV e1,ra,rfl,⟨_,dN.of (s2 _ _ hA)⟩,fun ln UK=>?_⟩
     refine z9 (K:=K) (a:=ra) (xs:=vN (JM.dX (y.2.map JM.aS) i)) (fun j H'=>bu H1 H'/\H' ln=some (.lst (vN (((JM.dX (y.2.map JM.aS) i).take j).map (IZ y i))))) ⟨aP UK,ai⟩ (fun j H' _ ⟨sm,_⟩=>dN.of (sm _ _ (s2 _ _ hA))) ?_ ?_
     . rintro j x H2 hx ⟨s3,hn2⟩
       obtain ⟨u,VE,rfl⟩:=LX hx
       have sm:=s2.trans s3
       obtain ⟨c,hc,_,hf⟩:=Jb gy (List.mem_of_getElem? VE)
       refine ⟨rfl,_,rfl,g,_,dg,_,_,rfl,sm _ _ eg,T.bI,T.cP,rfl,_,rfl,_,rfl,(by show 2<=sizeLine;decide),fun p1 hp1=>?_⟩
       have s4:bu H2 (upd H2 p1 (.tup [.int (i:Int),.int (u:Int)])):=aP hp1
       have dg1:vt (upd H2 p1 (.tup [.int (i:Int),.int (u:Int)])) z.ln (.ref p1) (some (.int (IZ y i u:Int))):=by
         have:=vt.t (k:=kI [(i:Int),(u:Int)]) (s4 _ _ (sm _ _ M.nums)) (by rw [IK];exact ai)
         rw [M.num,hf] at this
         exact this
       refine ⟨z.ln,_,rfl,dg1,_,s4 _ _ hn2,?_,fun b o e=>?_,?_⟩
       . rw [sizeLine_eq]
         simp [vN]
         omega
       . rw [aq (ay e UK)]
         exact s4 _ _ (s3 b o e)
       . rw [ai,take_snoc VE,List.map_append,<- D7]
         rfl
     . rintro H2 ⟨s3,hn2⟩
       rw [List.take_of_length_le (by simp [vN])] at hn2
       refine ⟨_,rfl,ln,rfl,⟨_,dN.of hn2⟩,fun l2 hl2=>?_⟩
       have lne:l2 ≠ l:=fun q=>by
         have:=(s3 _ _ hl1)
         rw [<- q,hl2] at this
         cases this
       generalize Zu:(JM.dX (y.2.map JM.aS) i).map (IZ y i)=nu at hn2
       have nub:∀ n ∈ nu,n < y.2.length:=fun n hn=>by
         rw [<- Zu] at hn
         obtain ⟨u,hu,rfl⟩:=List.mem_map.mp hn
         obtain ⟨c,hc,_⟩:=Jb gy hu
         exact (List.getElem?_eq_some_iff.mp hc).1
       have nul:nu.length<=1000:=by rw [<- Zu,List.length_map];exact nl
       refine z9 (K:=K) (a:=ln) (xs:=vN nu) (fun j H'=>bu H2 H'/\H' l2=some (.lst (vN (((nu.take j).filter fun n=>FL y n != 0).map (FL y))))) ⟨aP hl2,ai⟩ (fun j H' _ ⟨sm,_⟩=>dN.of (sm _ _ hn2)) ?_ ?_
       . rintro j x H3 hx ⟨s5,hl3⟩
         obtain ⟨n,hn0,rfl⟩:=LX hx
         have sm:=(s2.trans s3).trans s5
         have hn:=nub n (List.mem_of_getElem? hn0)
         refine ⟨rfl,_,rfl,_,rfl,lb,_,_,_,rfl,rfl,dN.of (sm _ _ hlb),cV (QO hn),rfl,_,rfl,?_⟩
         have ex:decide (V.int (FL y n:Int)=V.int 0)=!(FL y n != 0):=by
           by_cases c:FL y n=0
           . simp [c]
           . have:¬ V.int (FL y n:Int)=V.int 0:=fun q=>c (by have:=V.int.inj q;omega)
             simp [c,this]
         rw [ex,Bool.not_not,take_snoc hn0]
         cases hb:FL y n != 0 with
         | false=>
           refine L8 ⟨s5,?_⟩
           rw [List.filter_append,List.filter_cons_of_neg (by rw [hb];exact Bool.false_ne_true),List.filter_nil,List.append_nil]
           exact hl3
         | true=>
           refine Nq ?_
           refine ⟨_,rfl,_,rfl,lb,_,_,_,rfl,rfl,dN.of (sm _ _ hlb),cV (QO hn),_,hl3,?_,fun b o e=>?_,?_⟩
           . have:=List.length_filter_le (fun n=>FL y n != 0) (nu.take j)
             have:=List.length_take_le j nu
             rw [sizeLine_eq]
             simp only [vN,List.length_map]
             have:(nu.take j).length<=nu.length:=List.length_take_le' j nu
             omega
           . rw [aq (ay e hl2)]
             exact s5 b o e
           . rw [ai,List.filter_append,List.filter_cons_of_pos (p:=fun n=>FL y n != 0) hb,List.filter_nil,List.map_append,<- D7]
             rfl
       . rintro H3 ⟨s5,hl3⟩
         rw [List.take_of_length_le (by simp [vN])] at hl3
         have et:((nu.filter fun n=>FL y n != 0).map (FL y))=Me y i:=by unfold Me;rw [Zu]
         rw [et] at hl3
         have s6:=(s2.trans s3).trans s5
         have Vb:=s5 _ _ (s3 _ _ hl1)
         have ll:(vN ((List.range i).map (SR y))).length < sizeLine:=by
           rw [sizeLine_eq]
           simp [vN]
           omega
         have fin:∀ H',H'=upd H3 l (.lst (vN ((List.range i).map (SR y))++[.int (SR y i:Int)]))->bu H H'/\H' l=some (.lst (vN ((List.range (i+1)).map (SR y)))):=by
           rintro H' rfl
           refine ⟨fun b o e=>?_,?_⟩
           . rw [aq (ay e hl)]
             exact s6 b o e
           . rw [ai,List.range_succ,List.map_append,<- D7]
             rfl
         refine ⟨_,rfl,.inl ⟨rfl,_,dN.of Vb⟩,_,rfl,l2,(Me y i).map fun (n:Nat)=>(n:Int),0,rfl,rfl,(by rw [<- V1];exact dN.of hl3),fun e=>?_,fun m hm le=>?_⟩
         . have e0:=Oh gy hi' (List.map_eq_nil_iff.mp e)
           refine ⟨l,_,_,rfl,rfl,Vb,ll,_,_,_,hi,rfl,fin _ ?_⟩
           rw [e0]
           rfl
         . obtain ⟨m',hm',rfl⟩:=List.mem_map.mp hm
           have e0:=Mf gy hi' hm' fun x hx=>by
             have:=le x (List.mem_map_of_mem hx)
             omega
           refine ⟨l,_,_,rfl,rfl,Vb,ll,_,_,_,hi,rfl,fin _ ?_⟩
           rw [e0]
   . rintro σ H1 ⟨v3,v4,v6,_,rfl,s2,hl1⟩
     rw [al] at hl1
     exact ⟨_,rfl,k H1 l s2 hl hl1⟩
end
def Ck (B:Bytes) (f:Mol->List Int):List Int:=match Fk.judgeMol B with
 | .error e=>[-5,0,(e.rule:Int),(e.place:Int)]
 | .ok M=>f M
def SV (l:List Nat):List Int:=0::((PartNeutral.ints l).length:Int)::PartNeutral.ints l
theorem QS (B:Bytes) (f:Mol->FkP.Answer):PartNeutral.told (FkP.judged 0 (Fk.judgeMol B) f)=Ck B fun M=>PartNeutral.told (f M):=by
 unfold FkP.judged Ck
 cases Fk.judgeMol B<;>rfl
theorem Zv {c:PartNeutral.Call} {x:FkP.Call} (e:PartNeutral.callOf c=some x):PartNeutral.f c=PartNeutral.told (FkP.answer x):=by
 unfold PartNeutral.f
 rw [e]
theorem Oi {c:PartNeutral.Call} {x:FkP.Call} (e:PartNeutral.callOf c=some x) (h:PartNeutral.asked [c]=true):PartNeutral.moderate x=true:=by
 unfold PartNeutral.asked at h
 simp only [Bool.and_eq_true,List.all_cons] at h
 have q:=h.2.2.1.1
 unfold PartNeutral.fits at q
 rw [e] at q
 simpa using q
theorem V2 {B:Bytes} (h:PartNeutral.few B=true):(B.getD 4 0).toNat<=9/\(B.getD 5 0).toNat<=12:=by
 unfold PartNeutral.few at h
 simpa using h
def XI (K:PySem.W.Frag) (f:Mol->List Int):Sp:=fun vs H Q _=>∃ (a:Addr) (B:Bytes),vs=[.ref a]/\yW K H a B/\B.length<=6000/\(B.getD 4 0).toNat<=9/\(B.getD 5 0).toNat<=12/\∀ H' l,H' l=some (.lst (vI (Ck B f)))->Q (.ref l) H'
theorem Oj (y:bO):(aG y).leastRings=rA y++rB y:=by
 have e1:(aG y).leastAtoms=rA y:=by
   refine List.ext_getElem? fun i=>?_
   unfold rA SR
   rw [<- CB,List.getElem?_map]
   by_cases h:i < (aG y).n
   . rw [List.getElem?_range h]
     unfold Fk.Mol.leastAtoms
     simp [h]
   . rw [List.getElem?_eq_none (by simp [Fk.Mol.leastAtoms];omega),List.getElem?_eq_none (by simp;omega)]
     rfl
 have e2:(aG y).leastBonds=rB y:=by
   have el:y.2.length=(aG y).bonds.length:=by simp [aG]
   refine List.ext_getElem? fun i=>?_
   unfold rB FL
   rw [el,List.getElem?_map]
   by_cases h:i < (aG y).bonds.length
   . rw [List.getElem?_range h]
     unfold Fk.Mol.leastBonds
     simp [h]
   . rw [List.getElem?_eq_none (by simp [Fk.Mol.leastBonds];omega),List.getElem?_eq_none (by simp;omega)]
     rfl
 unfold Fk.Mol.leastRings
 rw [e1,e2]
section
variable {P:Program} {w:World} {K:PySem.W.Frag} {mg:Str->Option Value} {base:Heap} {t:Ad}
theorem xx:aU ["molecule","given","fault","through_bonds"] ["molecule"] (ak kr):=⟨rfl,rfl,rfl,by decide +kernel,rfl,by decide +kernel,by decide +kernel⟩
theorem Ol (T:Txt K mg t):cE P w K mg base ve 11 t.iK t.Dy ["molecule"] (XI K fun M=>SV M.leastRings):=by
 have GR:=@QJ P w K mg base t T
 have GA:=@Xh P w K mg base t T
 have GB:=@Xp P w K mg base t T
 have GC:=@Xq P w K mg base t T
 have GW:=@Vx P w K mg base t T
 obtain ⟨UT,g1⟩:=T.zS
 refine T.Hl.ok xx (fun vs H Q E h=>?_) (fun cdv A outer s H vs Q E hr h=>?_)
 . obtain ⟨a,B,rfl,_⟩:=h
   rfl
 . obtain ⟨a,B,rfl,hB,hlen,nine,few,k⟩:=h
   have hr1:dW 1 _:=hr.mono (by decide)
   have hr2:dW 2 _:=hr.mono (by decide)
   let E1:XK:=fun cls d H'=>cls=.ref t.aF/\∃ (dx:Addr) (r p:Int),d=some dx/\xr H' dx 0 r p/\∀ H'' l,H'' l=some (.lst ([-5,0,r,p].map V.int))->Q (.ref l) H''
   refine ⟨_,au (UJ (E:=E1) (Qr:=Q) (i:=2) ⟨rfl,rfl⟩ rfl xx.nd T.fu rfl T.vW rfl rfl rfl
       (fun pn Z c=>aH (aZ (i:=1) xx.nd rfl (Or.inl rfl) (cU GR hr rfl T.tV T.lF.kp T.tR .nil c (af (pv 0) (af (bK rfl g1 (v:=.int 0) ⟨_,rfl⟩) az)))))
       (fun ea=>aH (cT (Pk GA ⟨hr1.dp,hr1.un⟩ rfl T.vV T.ng.kp T.vR (af (pv 2) az)))) ?_)
     (au (aZ (i:=3) xx.nd rfl (Or.inl rfl) (cU GB hr2 rfl T.j4 T.gn.kp T.j0 .nil f9 (af (pv 1) az)))
     (aH (cT (cU GW hr1 rfl T.zL T.sH.kp T.zI .nil f9 (af (fU OP (cU GC hr1 rfl T.j5 T.gp.kp T.j3 .nil f9 (af (pv 1) (af (pv 3) az))) (pv 3)) az))))),?_⟩
   . rintro C' dx H1 ⟨rfl,dx',r,p,e,hf,k'⟩
     cases e
     refine ⟨rfl,fun ea hea=>?_⟩
     refine ⟨_,rfl,ea,dx,0,r,p,rfl,ai,?_,k'⟩
     show upd H1 ea _ dx=_
     rw [aq (ay hf hea)]
     exact hf
   . refine ⟨fun v H' q=>q,?_⟩
     refine ⟨_,rfl,a,0,B,rfl,hB,hlen,few,?_⟩
     unfold Ck at k
     cases hj:Fk.judgeMol B with
     | error f=>
       rw [hj] at k
       exact fun H' dx hf=>⟨rfl,dx,_,_,rfl,hf,k⟩
     | ok Mo=>
       rw [hj] at k
       intro H' g z y M gy e sm
       simp only at k
       rw [e,Oj] at k
       have l1:(vN (rA y)).length=y.1.length:=by simp [vN,rA]
       have l2:(vN (rB y)).length=y.2.length:=by simp [vN,rB]
       have b1:=gy.small
       have b2:=gy.few
       refine ⟨_,rfl,g,z,y,_,rfl,M,gy,fun H2 lb s2 nb hb=>?_⟩
       refine ⟨_,rfl,_,rfl,g,lb,z,y,_,rfl,M.same s2,gy,hb,fun H3 la s3 na ha=>?_⟩
       refine ⟨_,rfl,la,lb,_,_,rfl,rfl,ha,s3 _ _ hb,by rw [sizeLine_eq];omega,fun p hp=>?_⟩
       have ei:vN (rA y)++vN (rB y)=vI (PartNeutral.ints (rA y++rB y)):=by unfold vN vI PartNeutral.ints;rw [<- List.map_append,List.map_map];rfl
       refine ⟨p,PartNeutral.ints (rA y++rB y),rfl,by rw [ai,ei],?_,k⟩
       have:(PartNeutral.ints (rA y++rB y)).length=y.1.length+y.2.length:=by simp [PartNeutral.ints,rA,rB]
       omega
end
theorem EH {l:List Int} (h:∀ z ∈ l,0<=z/\z<=255):PartNeutral.callOf [[11],l]=some (.least (bytesOf l)):=by
 show (PartNeutral.bytes l).bind (fun b=>some (FkP.Call.least b))=_
 rw [LW l h]
 rfl
theorem Om (l:List Int) (h:∀ z ∈ l,0<=z/\z<=255):PyYqfkba.least l=Ck (bytesOf l) fun M=>SV M.leastRings:=by
 unfold PyYqfkba.least
 rw [Zv (EH h)]
 exact QS _ _
theorem Gz (l:List Int) (h:∀ z ∈ l,0<=z/\z<=255) (ha:PyYqfkba.least_asked l=true):((bytesOf l).getD 4 0).toNat<=9/\((bytesOf l).getD 5 0).toNat<=12:=V2 (Oi (EH h) ha)
end MP
structure PySem.W.Fast:Prop where
 (tw4263609850723527890 tw1688808232301006492 tw3888818099758901309 tw9406464727601119712 tw6057997153752092323 tw3848994678811923546 tw6164697125724529594 tw808916433156846623 tw11942935659213586598 tw12213219051455893769 tw9759434371754907529 tw2155865293436382589 tw18169526113905578223 tw17506755610942425286 tw9305174605318667284 tw8682446364201197592 tw7667933298316352248 tw1956734873815971871 tw1988126762359349150 tw11047591683947708133 tw5931825670050676130 tw12767959791543483912 tw8972995431663339860 tw5676133970449415773 tw8022495333163609560 tw14347546120326898644 tw2844509862003796334 tw18258273667837132328 tw13979475251139512143 tw1763820707546331329 tw9047895122060556374 tw8056037456454371473 tw15038472760979086068 tw14800497434390214699 tw5104245986019246341 tw6356498471630349950 tw6844534513342267689 tw13814661167201394060 tw2730260572046241262 tw12020843067377824672 tw13099897432679442753 tw16495654742160563523 tw10683844206094744600 tw16532848920692687154 tw4130241382938207060 tw12103778503743362257 tw17961490706356625179 tw5511052882206542303 tw3094456312561757419 tw8790347212130089917 tw14529049786409262994 tw152126812633630092 tw783048815927515259 tw2112756762163034082 tw13394251102986695949 tw9964517490590381013 tw12093438464208683109 tw800005385999889791 tw9378932928135809889 tw14150804311140707015:True)
open PySem PySem.W PyProof.Rows
set_option maxRecDepth 100000 in
set_option maxHeartbeats 0 in
theorem PySem.Challenge.cw_moleculeparts_s11_least_holds : PySem.Challenge.rw_moleculeparts_s11_least.Holds := by
 w_on;k_headS;(case hw=>exact ⟨[.list []],by decide +kernel,by decide +kernel⟩)
 k_fillS
 refine L2.LA (r:=PySem.Challenge.rw_moleculeparts_s11_least) (k:=11) (CX:=L2.ve) (ps:=["molecule"]) (sp:=fun K=>MP.XI K fun M=>MP.SV M.leastRings) (by decide +kernel) rfl rfl ⟨rfl,by decide,by decide⟩ (fun w h Y=>PySem.W.kIn_of Y) ?F ?S (fun _ _ _ _ z=>z)
 case F=>
   intro w mg fa h Y KX G hmg
   suffices TT:∃ (f:Addr) (t:MP.Ad),t.iK=f/\MP.Txt _ mg t by
     obtain ⟨f,t,e,T⟩:=TT
     have e2:=hmg.symm.trans T.M9
     cases e2
     refine ⟨t.Dy,fun s us hu=>?_,fun base _ _=>MP.Ol T⟩
     obtain ⟨oc,od,kV,doc,pm,an,cdv,ct,osl,ed,lk,hcd⟩:=T.Hl.ex
     rw [ed]
     exact match us,hu with | [_],_=>.of_eq rfl
   refine' ⟨_,?TT⟩
   rotate_left
   refine' MP.UL KX G ?_ ?_ ?_ ?_ ?_ ?_ ?_ ?_ ?_ ?_ ?_ ?_ ?_ ?_ ?_ ?_ ?_ ?_ ?_ ?_ ?_ ?_ ?_ ?_ ?_ ?_ ?_ ?_ ?_ ?_ ?_ ?_ ?_ ?_ ?_ ?_ ?_ ?_ ?_ ?_ ?_ ?_ ?_ ?_ ?_ ?_ ?_ ?_ ?_ ?_ ?_ ?_ ?_ ?_ ?_ ?_ ?_ ?_ ?_ ?_ ?_ ?_ ?_ ?_ ?_ ?_ ?_ ?_ ?_ ?_ ?_ ?_ ?_ ?_ ?_ ?_ ?_ ?_ ?_ ?_ ?_ ?_ ?_ ?_ ?_ ?_ ?_ ?_ ?_ ?_ ?_ ?_ ?_ ?_ ?_ ?_ ?_ ?_ ?_ ?_ ?_ ?_ ?_ ?_ ?_ ?_ ?_ ?_ ?_ ?_ ?_ ?_ ?_ ?_ ?_ ?_ ?_ ?_ ?_ ?_ ?_ ?_ ?_ ?_ ?_ ?_ ?_ ?_ ?_ ?_ ?_ ?_ ?_ ?_ ?_ ?_ ?_ ?_ ?_ ?_ ?_ ?_ ?_ ?_ ?_ ?_ ?_ ?_ ?_ ?_ ?_ ?_ ?_ ?_ ?_ ?_ ?_ ?_ ?_ ?_ ?_ ?_ ?_ ?_ ?_ ?_ ?_ ?_ ?_ ?_ ?_ ?_ ?_ ?_ ?_ ?_ ?_ ?_ ?_ ?_ ?_ ?_ ?_ ?_ ?_ ?_ ?_ ?_ ?_ ?_ ?_ ?_ ?_ ?_ ?_ ?_ ?_ ?_ ?_ ?_ ?_ ?_ ?_ ?_ ?_ ?_ ?_ ?_ ?_ ?_ ?_ ?_ ?_ ?_ ?_ ?_ ?_ ?_ ?_ ?_ ?_ ?_ ?_ ?_ ?_ ?_ ?_ ?_ ?_ ?_ ?_ ?_ ?_ ?_ ?_ ?_ ?_ ?_ ?_ ?_ ?_ ?_ ?_ ?_ ?_ ?_ ?_ ?_ ?_ ?_ ?_ ?_ ?_ ?_ ?_ ?_ ?_ ?_ ?_ ?_ ?_ ?_ ?_ ?_ ?_ ?_ ?_ ?_ ?_ ?_ ?_ ?_ ?_ ?_ ?_ ?_ ?_ ?_ ?_ ?_ ?_ ?_ ?_ ?_ ?_ ?_ ?t8
   all_goals first | k_is | (apply MP.aac.mk<;>k_is) | skip
   (case t8=>(rw [<- Array.all_toList];rfl))
 case S=>
   intro K H xs a hO hwi Xr hx
   cases hx with
   | cons h1 h2=>
     cases h2
     cases h1 with
     | lst hs ha=>
       have e:=L2.Mz a.1 _ ha
       subst e
       have q:((Codec.inLen 0 6000 a.1&&a.1.all (Codec.inInt 0 255))&&true)=true:=hwi
       rw [Bool.and_eq_true,Bool.and_eq_true,List.all_eq_true] at q
       have QV:∀ z ∈ a.1,0<=z/\z<=255:=fun z hz=>Codec.inInt_iff.mp (q.1.2 z hz)
       have hlen:=(Codec.inNat_iff.mp q.1.1).2
       rw [MP.TJ a.1 QV] at hs
       refine ⟨_,MP.bytesOf a.1,rfl,MP.Vy hO hs,by rw [MP.KS];exact hlen,(MP.Gz a.1 QV Xr).1,(MP.Gz a.1 QV Xr).2,fun H' p hp=>?_⟩
       have due:Codec.app PySem.Challenge.rw_moleculeparts_s11_least.args PySem.Challenge.rw_moleculeparts_s11_least.f a=MP.Ck (MP.bytesOf a.1) (fun M=>MP.SV M.leastRings):=MP.Om a.1 QV
       rw [due]
       exact .lst (L2.dN.of hp) (L2.My _)
#print axioms PySem.Challenge.cw_moleculeparts_s11_least_holds
