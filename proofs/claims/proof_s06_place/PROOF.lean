import PyProof.Rows.All
import Wide.All
import OpenK.AllK
import Wide.FinOn
import PyProof.EqAt
import PyProof.EqKinds
import PyProof.TupleCall
import KE.BitLaws
import Open.SpecLaws
import KE.OsHead
import KE.OsGo
import PyProof.StationsW
import PyProof.RulesAs
import PyProof.PassesOwn
import PyProof.ExcClass
import PyProof.InstStoreFacts
import PyProof.InstLoad
import PyProof.ExcArgsOwn
import PyProof.ExcAttrAll.Exception
import PyProof.ExcBaseAll.Exception
import PyProof.ExcInit
import KE.KDictLaws
import KE.KDictList
import KE.KMinBuiltin
import PyProof.Rows.CallKwBuiltin
import PySem.Challenge.RW_moleculeparts_s06_place
set_option Elab.async false
set_option linter.all false
set_option maxRecDepth 100000
set_option maxHeartbeats 4000000
theorem Zqz {α:Type} {l:List α} {i:Nat} {x:α} (h:l[i]?=some x):i < l.length:=(List.getElem?_eq_some_iff.mp h).1
abbrev Zqq:=PySem.W.Frag
namespace L2
open PySem PySem.Spec PyProof.Rows
abbrev Key:=Sum Int Str
def CK:Key->Value->Bool
 | .inl k,v=>Value.isInt k v
 | .inr x,v=>Value.isStrOf x v
def abF (w:World):Key->Int
 | .inl k=>hashInt k
 | .inr x=>hashStr w x
theorem gI:∀ {k:Key} {v:Value},CK k v=true->(∃ i t,k=Sum.inl i/\v=Value.int i t)\/(∃ x t,k=Sum.inr x/\v=Value.str x t)
 | .inl i,v,h=>by
  obtain ⟨t,e⟩:=Value.isInt_shape (k:=i) (v:=v) h
  exact .inl ⟨i,t,rfl,e⟩
 | .inr x,v,h=>by
  obtain ⟨t,e⟩:=Value.isStrOf_shape (x:=x) (v:=v) h
  exact .inr ⟨x,t,rfl,e⟩
theorem Qe (i:Int) (t:Tok):CK (.inl i) (.int i t)=true:=by simp [CK,Value.isInt]
theorem Qg (x:Str) (t:Tok):CK (.inr x) (.str x t)=true:=by simp [CK,Value.isStrOf]
theorem Y4 (a b:Int):decide ((Sum.inl a:Key)=Sum.inl b)=(a==b):=by
 by_cases e:a=b
 . subst e;simp
 . have h:¬ (Sum.inl a:Key)=Sum.inl b:=fun q=>e (Sum.inl.inj q)
   rw [decide_eq_false h];exact (beq_eq_false_iff_ne.mpr e).symm
theorem Y5 (a b:Str):decide ((Sum.inr a:Key)=Sum.inr b)=decide (a=b):=by
 by_cases e:a=b
 . subst e;simp
 . have h:¬ (Sum.inr a:Key)=Sum.inr b:=fun q=>e (Sum.inr.inj q)
   rw [decide_eq_false h,decide_eq_false e]
theorem Y6 (a:Int) (b:Str):decide ((Sum.inl a:Key)=Sum.inr b)=false:=decide_eq_false (fun q=>nomatch q)
theorem Y7 (a:Str) (b:Int):decide ((Sum.inr a:Key)=Sum.inl b)=false:=decide_eq_false (fun q=>nomatch q)
def fL (prog:Program) (w:World):PySem.KeyKind prog w Key where
 is:=CK
 hash:=abF w
 inj:=fun v a b ha hb=>by
   rcases gI ha with ⟨i,t,rfl,rfl⟩ | ⟨x,t,rfl,rfl⟩
   . rcases gI hb with ⟨j,u,rfl,e⟩ | ⟨y,u,rfl,e⟩
     . injection e with e1 _;rw [e1]
     . exact nomatch e
   . rcases gI hb with ⟨j,u,rfl,e⟩ | ⟨y,u,rfl,e⟩
     . exact nomatch e
     . injection e with e1 _;rw [e1]
 byValue:=fun k v h=>by
   rcases gI h with ⟨i,t,rfl,rfl⟩ | ⟨x,t,rfl,rfl⟩<;>rfl
 pyHash:=fun hv h=>by
   rcases gI hv with ⟨i,t,rfl,rfl⟩ | ⟨x,t,rfl,rfl⟩
   . exact wpAny_pyHash_int h
   . exact wpAny_pyHash_str h
 eqBool:=fun hu hv h=>by
   rcases gI hu with ⟨i,t,rfl,rfl⟩ | ⟨x,t,rfl,rfl⟩
   . rcases gI hv with ⟨j,u,rfl,rfl⟩ | ⟨y,u,rfl,rfl⟩
     . rw [Y4] at h;exact wpAny_eqBool_int h
     . rw [Y6] at h;exact SeqAt.EqAt.int_str i t y u _ _ _ _ h
   . rcases gI hv with ⟨j,u,rfl,rfl⟩ | ⟨y,u,rfl,rfl⟩
     . rw [Y7] at h;exact SeqAt.EqAt.str_int x t j u _ _ _ _ h
     . rw [Y5] at h;exact wpAny_eqBool_str h
 «strs»:=fun k x t v h=>by
   rcases gI h with ⟨i,u,rfl,e⟩ | ⟨y,u,rfl,e⟩
   . exact nomatch e
   . injection e with e1 _
     subst e1
     cases v<;>rfl
theorem La (prog:Program) (w:World) (i:Int) (t:Tok):(fL prog w).is (.inl i) (.int i t)=true:=Qe i t
theorem Lb (prog:Program) (w:World) (x:Str) (t:Tok):(fL prog w).is (.inr x) (.str x t)=true:=Qg x t
inductive V where
 | non | bl (b:Bool) | int (i:Int) | str (x:Str) | IP (b:Array UInt8) | VC (b:UInt64) | ref (a:Addr) | ty (n:String)
 deriving DecidableEq
def RelV:V->Value->Prop
 | .non,u=>u=Value.none
 | .bl b,u=>u=Value.bool b
 | .int i,u=>∃ t,u=Value.int i t
 | .str x,u=>∃ t,u=Value.str x t
 | .IP b,u=>∃ t,u=Value.bytes b t
 | .VC b,u=>∃ t,u=Value.float b t
 | .ref a,u=>u=Value.ref a
 | .ty n,u=>u=Value.type n
abbrev Vals:List V->List Value->Prop:=Paired RelV
theorem Vals.length {xs:List V} {us:List Value} (r:Vals xs us):xs.length=us.length:=Paired.length r
theorem Vals.get:∀ {xs:List V} {us:List Value} {i:Nat} {x:V},Vals xs us->xs[i]?=some x->∃ u,us[i]?=some u/\RelV x u
 | _,_,_,_,.nil,e=>by simp at e
 | _,_,0,_,.cons r _,e=>by simp at e;subst e;exact ⟨_,rfl,r⟩
 | _,_,i+1,x,.cons _ t,e=>by
  obtain ⟨u,h1,h2⟩:=Vals.get (i:=i) (x:=x) t (by simpa using e)
  exact ⟨u,by simpa using h1,h2⟩
theorem Vals.set {x:V} {u:Value} (r:RelV x u):∀ {xs:List V} {us:List Value} (i:Nat),Vals xs us->Vals (xs.set i x) (us.set i u)
 | _,_,_,.nil=>.nil
 | _,_,0,.cons _ t=>.cons r t
 | _,_,i+1,.cons q t=>.cons q (Vals.set r i t)
theorem Vals.append:∀ {xs ys:List V} {us ws:List Value},Vals xs us->Vals ys ws->Vals (xs++ys) (us++ws)
 | _,_,_,_,.nil,s=>s
 | _,_,_,_,.cons r t,s=>.cons r (Vals.append t s)
theorem Vals.take:∀ {xs:List V} {us:List Value} (n:Nat),Vals xs us->Vals (xs.take n) (us.take n)
 | _,_,0,_=>.nil
 | _,_,_+1,.nil=>.nil
 | _,_,n+1,.cons r t=>.cons r (Vals.take n t)
theorem Vals.drop:∀ {xs:List V} {us:List Value} (n:Nat),Vals xs us->Vals (xs.drop n) (us.drop n)
 | _,_,0,r=>r
 | _,_,_+1,.nil=>.nil
 | _,_,n+1,.cons _ t=>Vals.drop n t
def sW:Option V->Option Value->Prop
 | some v,some u=>RelV v u
 | none,none=>True
 | _,_=>False
def KV {κ:Type}:List (κ×V)->List (κ×Value)->Prop:=Paired fun (p:κ×V) (q:κ×Value)=>p.1=q.1/\RelV p.2 q.2
def kV:Key->V
 | .inl i=>.int i
 | .inr x=>.str x
inductive HO where
 | lst (xs:List V)
 | tup (xs:List V)
 | dK (kvs:List (Key×V)) | dT (kvs:List (List Key×V))
 | set (S:Int->Bool) (n:Nat)
 | ins (C dx:Addr) (fs:List (Str×V))
 | own (x:Addr)
 | xd (fs:List (Str×V))
 | met (f x:Addr)
 | XM (lo hi:Int)
 | qh (o:Obj) (u:HO)
 | XN (ps:Array Value)
 | ext (φ:Heap->Prop)
abbrev Hp:=Addr->Option HO
def upd (H:Hp) (a:Addr) (o:HO):Hp:=fun b=>if b=a then some o else H b
theorem ai {H:Hp} {a:Addr} {o:HO}:upd H a o a=some o:=by unfold upd;rw [if_pos rfl]
theorem aq {H:Hp} {a b:Addr} {o:HO} (h:b ≠ a):upd H a o b=H b:=by unfold upd;rw [if_neg h]
theorem nh {H:Hp} {a:Addr} {o u:HO}:upd (upd H a o) a u=upd H a u:=by
 funext b;unfold upd;split<;>rfl
theorem ni {H:Hp} {a b:Addr} {o u:HO} (h:H a=some o) (h':H b=some u) (d:o ≠ u):a ≠ b:=by
 intro e;subst e;rw [h] at h';exact d (Option.some.inj h')
theorem ay {H:Hp} {a b:Addr} {o:HO} (h:H a=some o) (h':H b=none):a ≠ b:=by
 intro e;subst e;rw [h] at h';cases h'
section
variable (P:Program) (w:World)
def dZ (H:Hp) (h:Heap) (a:Addr):HO->Prop
 | .lst xs=>xs.length<=sizeLine/\∃ (its:List Value) (n:Nat),Vals xs its/\h.get? a=some { cls:=.type "list",data:=.seq its.toArray n }
 | .tup xs=>xs.length<=sizeLine/\∃ its:List Value,Vals xs its/\IsTup h a its.toArray
 | .dK kvs=>kvs.length<=sizeLine/\(a==sysModules)=false/\∃ vs,KV kvs vs/\h.DictOf (fL P w) a vs
 | .dT kvs=>kvs.length<=sizeLine/\(a==sysModules)=false/\∃ xs:List (List Key×Addr×Value),
     Paired (fun (p:List Key×V) (q:List Key×Addr×Value)=>p.1=q.1/\H q.2.1=some (.tup (p.1.map kV))/\RelV p.2 q.2.2) kvs xs /\
     ∃ o es ep,h.get? a=some o/\o.ExactDict/\o.data=.dict es ep/\es.toList=xs.map (entryOfKey (tupleKind (fL P w)))/\(xs.map (·.1)).Nodup
 | .set S n=>h.SetOf (intKind P w) a S n
 | .ins C dx fs=>H dx=some (.own a)/\fs.length<=1000/\dx ≠ a/\h.get? a=some (PySem.W.instObj C dx) /\
     ∃ mA,h.Ns1 dx mA/\(∀ f,sW (fs.lookup f) (mA f))/\PySem.Within mA (fs.map (·.1))
 | .own _=>∃ o,h.get? a=some o
 | .xd fs=>∃ mA,h.Ns1 a mA/\∀ f,sW (fs.lookup f) (mA f)
 | .XM lo hi=>∃ t u v,h.get? a=some { cls:=.type "range",data:=.fields #[.int lo t,.int hi u,.int 1 v] }
 | .qh o u=>h.get? a=some o/\dZ H h a u
 | .XN ps=>h.get? a=some { cls:=.none,data:=.fields ps }
 | .met f x=>h.get? a=some (PySem.W.methodObj (.ref f) (.ref x))
 | .ext φ=>φ h/\(∃ o,h.get? a=some o)/\∀ h1 h2:Heap,φ h1->(∀ o,h1.get? a=some o->h2.get? a=some o)->φ h2
def wj (H:Hp) (h:Heap):Prop:=∀ a o,H a=some o->dZ P w H h a o
end
section
variable {P:Program} {w:World} {H H':Hp} {h h':Heap} {a:Addr} {o:HO}
theorem dZ.lt (x:dZ P w H h a o):a < h.objs.size:=by
 cases o with
 | lst xs=>obtain ⟨_,_,_,_,e⟩:=x;exact Heap.lt_size e
 | tup xs=>obtain ⟨_,_,_,p⟩:=x;exact p.lt
 | dK kvs=>obtain ⟨_,_,_,_,o,_,_,e,_⟩:=x;exact Heap.lt_size e
 | dT kvs=>obtain ⟨_,_,_,_,o,_,_,e,_⟩:=x;exact Heap.lt_size e
 | set S n=>obtain ⟨o,_,_,_,e,_⟩:=x;exact Heap.lt_size e
 | ins C dx fs=>obtain ⟨_,_,_,e,_⟩:=x;exact Heap.lt_size e
 | own y=>obtain ⟨_,e⟩:=x;exact Heap.lt_size e
 | xd fs=>obtain ⟨_,⟨_,_,_,e,_⟩,_⟩:=x;exact Heap.lt_size e
 | XM lo hi=>obtain ⟨_,_,_,e⟩:=x;exact Heap.lt_size e
 | qh ob u=>obtain ⟨e,_⟩:=x;exact Heap.lt_size e
 | XN ps=>exact Heap.lt_size (show h.get? a=some _ from x)
 | met f y=>exact Heap.lt_size (show h.get? a=some _ from x)
 | ext φ=>obtain ⟨_,⟨_,e⟩,_⟩:=x;exact Heap.lt_size e
theorem Paired.Y8 {α β:Type} {F G:α->β->Prop}:∀ {l₁:List α} {l₂:List β},Paired F l₁ l₂->(∀ a b,F a b->G a b)->Paired G l₁ l₂
 | _,_,.nil,_=>.nil
 | _,_,.cons r t,f=>.cons (f _ _ r) (Paired.Y8 t f)
theorem dZ.stay (x:dZ P w H h a o) (k:∀ b u,(b=a\/H b=some (.own a))->h.get? b=some u->h'.get? b=some u)
  (ho:∀ b,H b=some (.own a)->H' b=some (.own a)) (ht:∀ b xs,H b=some (.tup xs)->H' b=some (.tup xs)):dZ P w H' h' a o:=by
 induction o with
 | lst xs=>obtain ⟨z,its,n,r,e⟩:=x;exact ⟨z,its,n,r,k _ _ (.inl rfl) e⟩
 | tup xs=>obtain ⟨z,its,r,ob,e,c⟩:=x;exact ⟨z,its,r,ob,k _ _ (.inl rfl) e,c⟩
 | dK kvs=>obtain ⟨z,y,vs,r,ob,es,ep,e,c⟩:=x;exact ⟨z,y,vs,r,ob,es,ep,k _ _ (.inl rfl) e,c⟩
 | dT kvs=>
  obtain ⟨z,y,xs,r,ob,es,ep,e,c⟩:=x;exact ⟨z,y,xs,Paired.Y8 r fun p q z=>⟨z.1,ht _ _ z.2.1,z.2.2⟩,ob,es,ep,k _ _ (.inl rfl) e,c⟩
 | set S n=>obtain ⟨ob,es,ep,t,e,c⟩:=x;exact ⟨ob,es,ep,t,k _ _ (.inl rfl) e,c⟩
 | ins C dx fs=>
  obtain ⟨d,z,ne,e,mA,⟨od,es,ep,e2,c⟩,r⟩:=x;exact ⟨ho _ d,z,ne,k _ _ (.inl rfl) e,mA,⟨od,es,ep,k _ _ (.inr d) e2,c⟩,r⟩
 | own y=>obtain ⟨ob,e⟩:=x;exact ⟨ob,k _ _ (.inl rfl) e⟩
 | xd fs=>obtain ⟨mA,⟨od,es,ep,e,c⟩,r⟩:=x;exact ⟨mA,⟨od,es,ep,k _ _ (.inl rfl) e,c⟩,r⟩
 | XM lo hi=>obtain ⟨t,u,v,e⟩:=x;exact ⟨t,u,v,k _ _ (.inl rfl) e⟩
 | qh ob u ih=>obtain ⟨e,q⟩:=x;exact ⟨k _ _ (.inl rfl) e,ih q⟩
 | XN ps=>
  have e:h.get? a=some { cls:=.none,data:=.fields ps }:=x;show h'.get? a=some { cls:=.none,data:=.fields ps };exact k a _ (.inl rfl) e
 | met f y=>
  have e:h.get? a=some (PySem.W.methodObj (.ref f) (.ref y)):=x;show h'.get? a=some (PySem.W.methodObj (.ref f) (.ref y));exact k a _ (.inl rfl) e
 | ext φ=>obtain ⟨p,⟨o,e⟩,st⟩:=x;exact ⟨st _ _ p fun o q=>k _ _ (.inl rfl) q,⟨o,k _ _ (.inl rfl) e⟩,st⟩
theorem wj.lt (x:wj P w H h) (e:H a=some o):a < h.objs.size:=(x a o e).lt
theorem wj.fresh (x:wj P w H h) (e:h.objs.size<=a):H a=none:=by
 cases q:H a with
 | none=>rfl
 | some u=>exact absurd (Nat.lt_of_lt_of_le (x.lt q) e) (Nat.lt_irrefl _)
theorem wj.kept (x:wj P w H h) (k:∀ b u,h.get? b=some u->h'.get? b=some u):wj P w H h':=fun a o e=>
 (x a o e).stay (fun b u _ q=>k b u q) (fun _ q=>q) fun _ _ q=>q
theorem wj.laid (x:wj P w H h) (k:∀ b u,h.get? b=some u->h'.get? b=some u) (hp:h.objs.size<=a) (new:dZ P w (upd H a o) h' a o):wj P w (upd H a o) h':=fun b u e=>by
 have hn:=x.fresh hp
 by_cases hb:b=a
 . subst hb;rw [ai] at e;cases e;exact new
 . rw [aq hb] at e
   exact (x b u e).stay (fun c v _ q=>k c v q) (fun c q=>by rw [aq (ay q hn)];exact q) fun c xs q=>by rw [aq (ay q hn)];exact q
end
def Rd (H:Hp) (a:Addr) (u:HO):Prop:=H a=some u\/∃ o,H a=some (.qh o u)
theorem Rd.ok {P:Program} {w:World} {H:Hp} {h:Heap} {a:Addr} {u:HO} (r:Rd H a u) (x:wj P w H h):dZ P w H h a u:=by
 rcases r with r | ⟨o,r⟩
 . exact x a u r
 . obtain ⟨_,q⟩:=x a _ r
   exact q
def XQ:Option HO->Prop
 | some (.lst _)=>True
 | some (.dK _)=>True
 | some (.dT _)=>True
 | some (.set _ _)=>True
 | some (.ins _ _ _)=>True
 | some (.ext _)=>True
 | _=>False
section
variable {P:Program} {w:World} {H:Hp} {h h':Heap} {x e:Addr} {o':HO}
theorem wj.write (ok:wj P w H h) (mu:XQ (H x)) (he:e=x\/H e=some (.own x)) (k:∀ b u,b ≠ e->h.get? b=some u->h'.get? b=some u) (heo:∃ u,h'.get? e=some u)
   (new:dZ P w (upd H x o') h' x o'):wj P w (upd H x o') h':=fun b u q=>by
 have aau:∀ c y,H c=some (.own y)->c ≠ x:=fun c y r z=>by subst z;rw [r] at mu;exact mu
 have abG:∀ c xs,H c=some (.tup xs)->c ≠ x:=fun c xs r z=>by subst z;rw [r] at mu;exact mu
 by_cases hb:b=x
 . subst hb;rw [ai] at q;cases q;exact new
 . rw [aq hb] at q
   by_cases Y9:b=e
   . have q':H b=some (.own x):=by
       rcases he with z | z
       . exact absurd (Y9.trans z) hb
       . rw [Y9];exact z
     rw [q] at q';cases q';obtain ⟨v,hv⟩:=heo;exact ⟨v,by rw [Y9];exact hv⟩
   . refine (ok b u q).stay (fun c v hc r=>k c v ?_ r) (fun c r=>by rw [aq (aau c b r)];exact r) fun c xs r=>by rw [aq (abG c xs r)];exact r
     rcases hc with rfl | hc
     . exact Y9
     . rintro rfl
       rcases he with z | z
       . exact aau c b hc z
       . rw [hc] at z;cases z;exact hb rfl
end
structure Un (fs ex:List Addr) (H H':Hp) (h h':Heap):Prop where
 keep:∀ b o,h.get? b=some o->H b=none->b ∉ fs->b ∉ ex->h'.get? b=some o
 slot:∀ b o,h.get? b=some o->H b=none->b ∈ fs->b ∉ ex->∃ sl,h'.get? b=some { o with slots:=sl }
 free:∀ b o,h.get? b=some o->H b=none->b ∉ ex->H' b=none
 there:∀ b o,h.get? b=some o->b ∉ ex->∃ o',h'.get? b=some o'
 tups:∀ b xs,H b=some (.tup xs)->H' b=some (.tup xs)
 z7:∀ b o u,H b=some (.qh o u)->H' b=some (.qh o u)
 BP:∀ b ps,H b=some (.XN ps)->∃ more,H' b=some (.XN (ps++more))
section
variable {fs fs' ex ex':List Addr} {H H1 H2:Hp} {h h1 h2 h':Heap} {a x e:Addr} {o:HO}
theorem Un.any (u:Un fs ex H H1 h h1) {b:Addr} {ob:Obj} (q:h.get? b=some ob) (n:H b=none) (hx:b ∉ ex):∃ sl,h1.get? b=some { ob with slots:=sl }:=by
 by_cases hb:b ∈ fs
 . exact u.slot b ob q n hb hx
 . exact ⟨ob.slots,u.keep b ob q n hb hx⟩
theorem Un.kept (k:∀ b u,h.get? b=some u->h'.get? b=some u):Un fs ex H H h h':=
 ⟨fun b ob q _ _ _=>k b ob q,fun b ob q _ _ _=>⟨ob.slots,k b ob q⟩,fun _ _ _ n _=>n,fun b ob q _=>⟨ob,k b ob q⟩,fun _ _ q=>q,fun _ _ _ q=>q,fun _ ps q=>⟨#[],by rw [q];simp⟩⟩
theorem Un.refl:Un fs ex H H h h:=Un.kept fun _ _ q=>q
theorem Un.laid (k:∀ b u,h.get? b=some u->h'.get? b=some u) (hp:h.objs.size<=a) (hn:H a=none):Un fs ex H (upd H a o) h h' where
 keep:=fun b u q _ _ _=>k b u q
 slot:=fun b u q _ _ _=>⟨u.slots,k b u q⟩
 free:=fun b u q n _=>by rw [aq (Nat.ne_of_lt (Nat.lt_of_lt_of_le (Heap.lt_size q) hp))];exact n
 there:=fun b u q _=>⟨u,k b u q⟩
 tups:=fun b xs q=>by rw [aq (ay q hn)];exact q
 z7:=fun b u xs q=>by rw [aq (ay q hn)];exact q
 BP:=fun b ps q=>⟨#[],by rw [aq (ay q hn),q];simp⟩
theorem Un.write (mu:XQ (H x)) (he:e=x\/H e=some (.own x)) (k:∀ b u,b ≠ e->h.get? b=some u->h'.get? b=some u) (heo:∃ u,h'.get? e=some u):Un fs ex H (upd H x o) h h':=by
 have hx:∀ b,H b=none->b ≠ x:=fun b n z=>by subst z;rw [n] at mu;exact mu
 have hb:∀ b,H b=none->b ≠ e:=fun b n z=>by
   subst z;rcases he with r | r
   . exact hx b n r
   . rw [n] at r;cases r
 have hm:∀ b u,H b=some u->¬ XQ (some u)->b ≠ x:=fun b u q nm z=>by subst z;rw [q] at mu;exact nm mu
 refine ⟨fun b u q n _ _=>k b u (hb b n) q,fun b u q n _ _=>⟨u.slots,k b u (hb b n) q⟩,fun b u q n _=>by rw [aq (hx b n)];exact n,fun b u q _=>?_,
   fun b xs q=>by rw [aq (hm b _ q fun z=>z)];exact q,fun b u xs q=>by rw [aq (hm b _ q fun z=>z)];exact q,fun b ps q=>⟨#[],by rw [aq (hm b _ q fun z=>z),q];simp⟩⟩
 by_cases Y9:b=e
 . subst Y9;exact heo
 . exact ⟨u,k b u Y9 q⟩
end
def trk (h:Heap) (H:Hp):List Addr:=(List.range h.objs.size).filter fun a=>(H a).isSome
def IQ (h:Heap) (H:Hp):Heap:=PySem.W.hideAll h (trk h H)
theorem Qh (h:Heap) (H:Hp):(IQ h H).objs.size=h.objs.size:=PySem.W.hideAll_size _ _
theorem Sl {h:Heap} {H:Hp} {b:Addr} {o:Obj} (e:h.get? b=some o) (n:H b=none):(IQ h H).get? b=some o:=
 PySem.W.hideAll_get _ e fun hm=>by
  have q:(H b).isSome=true:=(List.mem_filter.mp hm).2
  rw [n] at q;simp at q
theorem VD {h:Heap} {H:Hp} {b:Addr} {o:Obj} (e:(IQ h H).get? b=some o):h.get? b=some o/\H b=none:=by
 have e':h.get? b=some o:=PySem.W.of_hideAll (trk h H) e;refine ⟨e',?_⟩;cases q:H b with
 | none=>rfl
 | some x=>
  have hm:b ∈ trk h H:=List.mem_filter.mpr ⟨List.mem_range.mpr (Heap.lt_size e'),by simp [q]⟩;have z:(IQ h H).get? b=none:=PySem.W.hideAll_none (trk h H) hm;rw [z] at e;cases e
structure Mod (K:Zqq) (mg:Str->Option Value) (base:Heap):Prop where
 kin:K.In base
 glob:base.Ns mainGlobals mg
 blt:∃ mb,base.Ns builtinsNs mb/\∀ x:Str,x ≠ "__name__"->mb x=bootBuiltins x
 nolimit:base.NoLimit
structure Cx where
 prog:Program
 w:World
 K:Zqq
 mg:Str->Option Value
 base:Heap
 A:Around
 N:List Str
 BO:Shared
 YA:Hp
 env:Env
 outer:List Env
 stack:List Env
 ex:List Addr
 fn:Str->Bool
 calm:Bool
 pn:List (Addr×Obj)
 xe:Value->Shared->Prop
def frs (l:List Env):List Addr:=l.filterMap (·.frame)
abbrev Cx.fs (X:Cx):List Addr:=frs X.outer
def YB (sc:Scope) (x:Str):Prop:=sc.names.lookup x=some .local\/sc.names.lookup x=some .cell\/sc.names.lookup x=some .free
def Loc (sc:Scope) (x:Str):Prop:=sc.names.lookup x=some .local\/sc.names.lookup x=some .cell
def Look (env:Env) (h:Heap) (m:Str->Option Value) (x:Str) (u:Value):Prop:=
 (env.kindOf x=some .local/\m x=some u)\/((env.kindOf x=some .cell\/env.kindOf x=some .free)/\∃ c,env.cells.lookup x=some c/\h.IsCell c (some u))
structure Cx.Ok (X:Cx):Prop where
 mod:Mod X.K X.mg X.base
 kind:X.env.scope.kind=.function
 glob:X.env.globals=mainGlobals
 blt:X.env.builtins=builtinsNs
 above:X.BO.heap.objs.size<=X.env.locals
 inj:∀ x y c,X.env.cells.lookup x=some c->X.env.cells.lookup y=some c->x=y
 has:∀ x,(X.env.kindOf x=some .cell\/X.env.kindOf x=some .free)->∃ c,X.env.cells.lookup x=some c
 XS:∀ x c,X.fn x=true->X.env.cells.lookup x=some c->X.BO.heap.objs.size<=c
 hd:X.calm=true->X.A.handled=none
 frames:X.A.frames=some X.stack
 VE:X.stack=X.outer\/(X.stack=X.env::X.outer/\X.env.frame=some X.env.locals)
 YC:∀ b ∈ X.ex,b ≠ X.env.locals/\∀ x c,X.env.cells.lookup x=some c->c ≠ b
 bs:∀ b o,X.base.get? b=some o->X.BO.heap.get? b=some o/\X.YA b=none
 Qi:X.base.objs.size<=X.BO.heap.objs.size
 Lc:∀ b o,X.base.get? b=some o->b ∉ X.ex
 Ld:∀ b ∈ X.ex,b ∉ X.fs
 zd:X.BO.heap.FunFrames X.base X.outer
 Sm:∀ b ∈ X.fs,X.YA b=none
structure Inv (X:Cx) (pins:List (Addr×Obj)) (σ:List (Option V)) (H:Hp) (s:Shared):Prop where
 ok:X.Ok
 os:s.os=X.BO.os
 bare:AllBare s.gens
 base:Un X.fs X.ex X.YA H X.BO.heap s.heap
 loc:∃ m,s.heap.Ns X.env.locals m/\∀ (i:Nat) (x:Str) (v:V),X.N[i]?=some x->σ[i]?=some (some v)->YB X.env.scope x->∃ u,RelV v u/\Look X.env s.heap m x u
 cell:∀ x c,X.env.cells.lookup x=some c->∃ v,s.heap.IsCell c v
 free:H X.env.locals=none
 kO:∀ x c,X.env.cells.lookup x=some c->H c=none
 pin:∀ p ∈ X.pn++pins,s.heap.get? p.1=some p.2/\H p.1=none/\p.1 ≠ X.env.locals/\p.1 ∉ X.fs/\∀ v,p.2.data ≠ .cell v
 hok:wj X.prog X.w H s.heap
 len:σ.length=X.N.length
section
variable {X:Cx} {pins:List (Addr×Obj)} {σ:List (Option V)} {H H':Hp} {s:Shared} {h':Heap}
theorem Cx.Ok.abH (ok:X.Ok) {b:Addr} {o:Obj} (e:X.base.get? b=some o):b ∉ X.fs:=fun hb=>by
 have:=(ok.zd.mem hb).1
 rw [e] at this;cases this
theorem Inv.bs (I:Inv X pins σ H s):∀ b o,X.base.get? b=some o->s.heap.get? b=some o/\H b=none:=fun b o e=>
 ⟨I.base.keep b o (I.ok.bs b o e).1 (I.ok.bs b o e).2 (I.ok.abH e) (I.ok.Lc b o e),I.base.free b o (I.ok.bs b o e).1 (I.ok.bs b o e).2 (I.ok.Lc b o e)⟩
theorem Inv.bk (I:Inv X pins σ H s):∀ b o,X.base.get? b=some o->s.heap.get? b=some o:=fun b o e=>(I.bs b o e).1
theorem Inv.mod (I:Inv X pins σ H s):Mod X.K X.mg X.base:=I.ok.mod
theorem Inv.z8 (I:Inv X pins σ H s):X.K.In s.heap:=I.ok.mod.kin.keeps I.bk
theorem Inv.lt (I:Inv X pins σ H s):X.env.locals < s.heap.objs.size:=let ⟨_,hn,_⟩:=I.loc;hn.lt
theorem Inv.sz (I:Inv X pins σ H s):X.BO.heap.objs.size<=s.heap.objs.size:=Nat.le_trans I.ok.above (Nat.le_of_lt I.lt)
theorem Inv.abI (I:Inv X pins σ H s) {a:Addr} (h:s.heap.objs.size<=a):a ∉ X.fs:=fun hb=>by
 obtain ⟨_,o,ho,_⟩:=I.ok.zd.mem hb
 exact absurd (Nat.lt_of_lt_of_le (Heap.lt_size ho) (Nat.le_trans I.sz h)) (Nat.lt_irrefl _)
theorem Inv.V7 (I:Inv X pins σ H s):∀ x c,X.env.cells.lookup x=some c->c ≠ X.env.locals:=fun x c e z=>by
 obtain ⟨v,o,ho,hd⟩:=I.cell x c e
 obtain ⟨m,⟨o',es,ep,ho',hd',_⟩,_⟩:=I.loc
 rw [z,ho'] at ho;cases ho;rw [hd'] at hd;cases hd
theorem Inv.zd (I:Inv X pins σ H s):s.heap.FunFrames X.base X.outer:=by
 have all:∀ (l:List Env),(∀ b ∈ frs l,b ∈ X.fs)->X.BO.heap.FunFrames X.base l->s.heap.FunFrames X.base l:=by
  intro l;induction l with
  | nil=>intro _ _;trivial
  | cons env r ih=>
   intro hs hl;obtain ⟨hk,⟨L,o,hf,hn,ho,hd⟩,hr⟩:=hl;have hL:L ∈ X.fs:=hs L (by unfold frs;rw [List.filterMap_cons,hf];exact List.mem_cons_self);obtain ⟨sl,e⟩:=I.base.slot L o ho (I.ok.Sm L hL) hL fun z=>I.ok.Ld L z hL;exact ⟨hk,⟨L,_,hf,hn,e,hd⟩,ih (fun b hb=>hs b (by unfold frs;rw [List.filterMap_cons,hf];exact List.mem_cons_of_mem _ hb)) hr⟩
 exact all X.outer (fun _ hb=>hb) I.ok.zd
theorem Inv.stack (I:Inv X pins σ H s):s.heap.FunFrames X.base X.stack:=by
 rcases I.ok.VE with e | ⟨e,hf⟩
 . rw [e];exact I.zd
 . rw [e]
   obtain ⟨m,hn,_⟩:=I.loc;refine .cons (by rw [I.ok.kind];decide) hf hn ?_ I.zd;exact Heap.get?_none_of_le (Nat.le_trans I.ok.Qi I.ok.above)
theorem Inv.N2 (I:Inv X pins σ H s):∀ b ∈ frs X.stack,b ∈ X.env.locals::X.fs:=fun b hb=>by
 rcases I.ok.VE with e | ⟨e,hf⟩
 . rw [e] at hb;exact List.mem_cons_of_mem _ hb
 . rw [e] at hb
   unfold frs at hb
   rw [List.filterMap_cons,hf] at hb
   exact hb
theorem Inv.IU (I:Inv X pins σ H s):∀ b ∈ frs X.stack,H b=none:=fun b hb=>by
 rcases List.mem_cons.mp (I.N2 b hb) with e | hb
 . rw [e];exact I.free
 . obtain ⟨_,o,ho,_⟩:=I.ok.zd.mem hb
   exact I.base.free b o ho (I.ok.Sm b hb) fun z=>I.ok.Ld b z hb
theorem Inv.step {g':Array GenState} {t':Nat} {d':Drawn} {ch:List Addr} (I:Inv X pins σ H s)
   (hch:∀ b ∈ ch,(b ∈ X.ex\/X.BO.heap.objs.size<=b)/\b ≠ X.env.locals/\(∀ x c,X.env.cells.lookup x=some c->c ≠ b)/\∀ p ∈ X.pn++pins,p.1 ≠ b)
   (keep:∀ b o,b ≠ X.env.locals->b ∉ X.fs->b ∉ ch->s.heap.get? b=some o->H b=none->h'.get? b=some o)
   (slot:∀ b o,b ≠ X.env.locals->b ∈ X.fs->b ∉ ch->s.heap.get? b=some o->H b=none->∃ sl,h'.get? b=some { o with slots:=sl }) (free:∀ b o,b ∉ ch->s.heap.get? b=some o->H b=none->H' b=none)
   (there:∀ b o,b ∉ ch->s.heap.get? b=some o->∃ o',h'.get? b=some o')
   (tups:∀ b xs,H b=some (.tup xs)->H' b=some (.tup xs)) (z7:∀ b o u,H b=some (.qh o u)->H' b=some (.qh o u)) (BP:∀ b ps,H b=some (.XN ps)->∃ more,H' b=some (.XN (ps++more)))
   (ns:∀ m,s.heap.Ns X.env.locals m->h'.Ns X.env.locals m) (hok:wj X.prog X.w H' h') (hg:AllBare g') :
   Inv X pins σ H' { s with heap:=h',gens:=g',drawn:=d',toks:=t' }:=by
 have VF:∀ b o,X.BO.heap.get? b=some o->b ≠ X.env.locals:=fun b o e=>Nat.ne_of_lt (Nat.lt_of_lt_of_le (Heap.lt_size e) I.ok.above);have XT:∀ b o,X.BO.heap.get? b=some o->b ∉ X.ex->b ∉ ch:=fun b o e hx hb=>by
   rcases (hch b hb).1 with z | z
   . exact hx z
   . exact absurd (Nat.lt_of_lt_of_le (Heap.lt_size e) z) (Nat.lt_irrefl _)
 have cellK:∀ x c,X.env.cells.lookup x=some c->∀ v,s.heap.IsCell c v->h'.IsCell c v:=fun x c e v ⟨o,ho,hd⟩=>by
   have XU:c ∉ ch:=fun z=>(hch c z).2.2.1 x c e rfl;by_cases hc:c ∈ X.fs
   . obtain ⟨sl,q⟩:=slot c o (I.V7 x c e) hc XU ho (I.kO x c e)
     exact ⟨_,q,hd⟩
   . exact ⟨o,keep c o (I.V7 x c e) hc XU ho (I.kO x c e),hd⟩
 refine ⟨I.ok,I.os,hg,⟨fun b o e n hb hx=>?_,fun b o e n hb hx=>?_,fun b o e n hx=>?_,fun b o e hx=>?_,fun b xs e=>tups b xs (I.base.tups b xs e),fun b o xs e=>z7 b o xs (I.base.z7 b o xs e),fun b ps e=>?_⟩,?_,fun x c e=>?_,?_,fun x c e=>?_,fun p hp=>?_,hok,I.len⟩
 . exact keep b o (VF b o e) hb (XT b o e hx) (I.base.keep b o e n hb hx) (I.base.free b o e n hx)
 . obtain ⟨sl,e1⟩:=I.base.slot b o e n hb hx
   obtain ⟨sl',e2⟩:=slot b _ (VF b o e) hb (XT b o e hx) e1 (I.base.free b o e n hx);exact ⟨sl',e2⟩
 . obtain ⟨o',e1⟩:=I.base.there b o e hx
   exact free b o' (XT b o e hx) e1 (I.base.free b o e n hx)
 . obtain ⟨o',e1⟩:=I.base.there b o e hx
   exact there b o' (XT b o e hx) e1
 . obtain ⟨m1,e1⟩:=I.base.BP b ps e
   obtain ⟨m2,e2⟩:=BP b _ e1;exact ⟨m1++m2,by rw [e2,Array.append_assoc]⟩
 . obtain ⟨m,hn,hl⟩:=I.loc
   refine ⟨m,ns m hn,fun i x v e1 e2 e3=>?_⟩;obtain ⟨u,r,l⟩:=hl i x v e1 e2 e3;refine ⟨u,r,?_⟩;rcases l with l | ⟨k,c,e,z⟩
   . exact .inl l
   . exact .inr ⟨k,c,e,cellK x c e _ z⟩
 . obtain ⟨v,z⟩:=I.cell x c e
   exact ⟨v,cellK x c e v z⟩
 . obtain ⟨m,⟨o,_,_,ho,_⟩,_⟩:=I.loc
   exact free _ o (fun z=>(hch _ z).2.1 rfl) ho I.free
 . obtain ⟨v,o,ho,hd⟩:=I.cell x c e
   exact free c o (fun z=>(hch c z).2.2.1 x c e rfl) ho (I.kO x c e)
 . obtain ⟨e,n,ne,nf,d⟩:=I.pin p hp
   have XU:p.1 ∉ ch:=fun z=>(hch p.1 z).2.2.2 p hp rfl;exact ⟨keep p.1 p.2 ne nf XU e n,free p.1 p.2 XU e n,ne,nf,d⟩
theorem Inv.un {t':Nat} (I:Inv X pins σ H s) (u:Un X.fs [] H H' s.heap h') (hok:wj X.prog X.w H' h'):Inv X pins σ H' { s with heap:=h',toks:=t' }:=by
 obtain ⟨m,⟨o,es,ep,ho,r⟩,_⟩:=id I.loc;obtain ⟨sl,hL⟩:=u.any ho I.free (by simp);exact I.step (g':=s.gens) (d':=s.drawn) (ch:=[]) (fun _ z=>nomatch z) (fun b o _ hb _ e n=>u.keep b o e n hb (by simp)) (fun b o _ hb _ e n=>u.slot b o e n hb (by simp)) (fun b o _ e n=>u.free b o e n (by simp)) (fun b o _ e=>u.there b o e (by simp)) u.tups u.z7 u.BP (fun m' hm=>by
  obtain ⟨o',es',ep',ho',r'⟩:=hm;rw [ho] at ho';cases ho';exact ⟨_,es',ep',hL,r'⟩) hok I.bare
theorem Inv.call {g':Array GenState} {t':Nat} {d':Drawn} {ch:List Addr} (I:Inv X pins σ H s) (u:Un (frs X.stack) ch H H' s.heap h') (hok:wj X.prog X.w H' h') (hg:AllBare g')
  (hch:∀ b ∈ ch,(b ∈ X.ex\/X.BO.heap.objs.size<=b)/\b ≠ X.env.locals/\(∀ x c,X.env.cells.lookup x=some c->c ≠ b)/\∀ p ∈ X.pn++pins,p.1 ≠ b) :
  Inv X pins σ H' { s with heap:=h',gens:=g',drawn:=d',toks:=t' }:=by
 obtain ⟨m,⟨o,es,ep,ho,r⟩,_⟩:=id I.loc;obtain ⟨sl,hL⟩:=u.any ho I.free fun z=>(hch _ z).2.1 rfl;exact I.step (ch:=ch) hch (fun b o hL hb hc e n=>u.keep b o e n (fun z=>(List.mem_cons.mp (I.N2 b z)).elim hL hb) hc) (fun b o _ _ hc e n=>u.any e n hc) (fun b o hc e n=>u.free b o e n hc) (fun b o hc e=>u.there b o e hc) u.tups u.z7 u.BP (fun m' hm=>by
  obtain ⟨o',es',ep',ho',r'⟩:=hm;rw [ho] at ho';cases ho';exact ⟨_,es',ep',hL,r'⟩) hok hg
theorem Inv.turned {t':Nat} {it:Addr} (I:Inv X pins σ H s) (k:∀ b o,b ≠ it->s.heap.get? b=some o->h'.get? b=some o) (hn:H it=none) (hL:it ≠ X.env.locals)
   (h1:it ∈ X.ex\/X.BO.heap.objs.size<=it) (h2:∀ x c,X.env.cells.lookup x=some c->c ≠ it) (h3:∀ p ∈ X.pn++pins,p.1 ≠ it):Inv X pins σ H { s with heap:=h',toks:=t' }:=by
 have nit:∀ b u,H b=some u->b ≠ it:=fun b u e z=>by rw [z,hn] at e;cases e
 refine I.step (g':=s.gens) (d':=s.drawn) (ch:=[it]) (fun b hb=>?_) (fun b o _ _ hc e _=>k b o (fun z=>hc (by simp [z])) e) (fun b o _ _ hc e _=>⟨o.slots,k b o (fun z=>hc (by simp [z])) e⟩) (fun _ _ _ _ n=>n)
   (fun b o hc e=>⟨o,k b o (fun z=>hc (by simp [z])) e⟩) (fun _ _ e=>e) (fun _ _ _ e=>e) (fun b ps e=>⟨#[],by rw [e];simp⟩) (fun m hm=>?_) (fun b u e=>?_) I.bare
 . have e:b=it:=by simpa using hb
   subst e;exact ⟨h1,hL,h2,h3⟩
 . obtain ⟨o,es,ep,ho,r⟩:=hm
   exact ⟨o,es,ep,k _ o (Ne.symm hL) ho,r⟩
 . refine (I.hok b u e).stay (fun c v hc q=>k c v ?_ q) (fun _ q=>q) fun _ _ q=>q
   rcases hc with z | z
   . rw [z];exact nit b u e
   . exact nit c _ z
theorem Inv.tok (I:Inv X pins σ H s) (t:Nat):Inv X pins σ H { s with toks:=t }:=I.un (h':=s.heap) (t':=t) Un.refl I.hok
theorem Inv.kept {t':Nat} (I:Inv X pins σ H s) (k:∀ b u,s.heap.get? b=some u->h'.get? b=some u):Inv X pins σ H { s with heap:=h',toks:=t' }:=I.un (Un.kept k) (I.hok.kept k)
theorem Inv.laid {a:Addr} {o:HO} {t':Nat} (I:Inv X pins σ H s) (k:∀ b u,s.heap.get? b=some u->h'.get? b=some u) (hp:s.heap.objs.size<=a) (new:dZ X.prog X.w (upd H a o) h' a o) :
   Inv X pins σ (upd H a o) { s with heap:=h',toks:=t' }:=I.un (Un.laid k hp (I.hok.fresh hp)) (I.hok.laid k hp new)
theorem Inv.write {x e:Addr} {o:HO} {t':Nat} (I:Inv X pins σ H s) (mu:XQ (H x)) (he:e=x\/H e=some (.own x)) (k:∀ b u,b ≠ e->s.heap.get? b=some u->h'.get? b=some u) (heo:∃ u,h'.get? e=some u)
   (new:dZ X.prog X.w (upd H x o) h' x o):Inv X pins σ (upd H x o) { s with heap:=h',toks:=t' }:=I.un (Un.write mu he k heo) (I.hok.write mu he k heo new)
theorem Inv.weak {σ':List (Option V)} (I:Inv X pins σ H s) (hl:σ'.length=σ.length) (w:∀ (i:Nat) v,σ'[i]?=some (some v)->σ[i]?=some (some v)):Inv X pins σ' H s:=
 ⟨I.ok,I.os,I.bare,I.base,let ⟨m,hn,hl'⟩:=I.loc;⟨m,hn,fun i x v e1 e2 e3=>hl' i x v e1 (w i v e2) e3⟩,I.cell,I.free,I.kO,I.pin,I.hok,hl.trans I.len⟩
theorem Inv.OH {pins':List (Addr×Obj)} (I:Inv X pins σ H s) (h:∀ p ∈ pins',s.heap.get? p.1=some p.2/\H p.1=none/\p.1 ≠ X.env.locals/\p.1 ∉ X.fs/\∀ v,p.2.data ≠ .cell v):Inv X pins' σ H s:=
 ⟨I.ok,I.os,I.bare,I.base,I.loc,I.cell,I.free,I.kO,fun p hp=>(List.mem_append.mp hp).elim (fun z=>I.pin p (List.mem_append_left _ z)) (h p),I.hok,I.len⟩
theorem El {N:List Str} (hN:N.Nodup) {i j:Nat} {x:Str} (a:N[i]?=some x) (b:N[j]?=some x):i=j:=by
 obtain ⟨h1,e1⟩:=List.getElem?_eq_some_iff.mp a;obtain ⟨h2,e2⟩:=List.getElem?_eq_some_iff.mp b;exact (List.getElem_inj hN).mp (e1.trans e2.symm)
theorem BQ {M:Model} {A:Around} {E:Value->Shared->Prop} {i:Nat} {x:Str} {v:V} {u:Value} {Q:Unit->Shared->Prop} (I:Inv X pins σ H s) (hN:X.N.Nodup) (hi:X.N[i]?=some x) (hx:Loc X.env.scope x) (r:RelV v u)
   (h:∀ s',Inv X pins (σ.set i (some v)) H s'->(∃ a,Heap.SameBut a s.heap s'.heap/\(a=X.env.locals\/X.env.cells.lookup x=some a))->Q () s') (hf:X.fn x=true\/X.env.scope.names.lookup x=some .local:=by first | exact .inl rfl | exact .inr rfl | assumption):wpAny M A (storeName X.env x u) Q E s:=by
 obtain ⟨m,hn,hl⟩:=id I.loc;have hcls:(X.env.scope.kind==.class||(X.env.scope.kind==.module&&X.env.locals != X.env.globals))=false:=by rw [I.ok.kind];rfl
 have hiσ:i < σ.length:=by rw [I.len];exact (Zqz hi)
 have V7:=I.V7;have tracked:∀ {a:Addr} {h':Heap},(∃ o,s.heap.get? a=some o/\H a=none)->Heap.SameBut a s.heap h'->wj X.prog X.w H h':=fun {a h'} ha hs b ob e=>by
   obtain ⟨_,_,hfree⟩:=ha;refine (I.hok b ob e).stay (fun c w' hc q=>(hs.2 c ?_).trans q) (fun _ q=>q) fun _ _ q=>q;rintro rfl;rcases hc with rfl | hc
   . rw [hfree] at e;cases e
   . rw [hfree] at hc;cases hc
 rcases hx with hk | hk
 . refine wpAny_storeName_local hk hn (fun h' hn' hs=>?_) hcls
   obtain ⟨oL,_,_,hoL,_⟩:=id hn;refine h _ ⟨I.ok,I.os,I.bare,⟨fun b o e n hb hx=>?_,fun b o e n hb hx=>?_,I.base.free,fun b o e hx=>?_,I.base.tups,I.base.z7,I.base.BP⟩,⟨_,hn',fun j y v' e1 e2 e3=>?_⟩,fun y c e=>?_,I.free,I.kO,fun p hp=>?_,tracked ⟨oL,hoL,I.free⟩ hs,by simpa using I.len⟩ ⟨_,hs,.inl rfl⟩
   . exact (hs.2 b (Nat.ne_of_lt (Nat.lt_of_lt_of_le (Heap.lt_size e) I.ok.above))).trans (I.base.keep b o e n hb hx)
   . obtain ⟨sl,e1⟩:=I.base.slot b o e n hb hx
     exact ⟨sl,(hs.2 b (Nat.ne_of_lt (Nat.lt_of_lt_of_le (Heap.lt_size e) I.ok.above))).trans e1⟩
   . obtain ⟨o',e1⟩:=I.base.there b o e hx
     exact ⟨o',(hs.2 b (Nat.ne_of_lt (Nat.lt_of_lt_of_le (Heap.lt_size e) I.ok.above))).trans e1⟩
   . by_cases hj:j=i
     . subst hj
       rw [hi] at e1;cases e1;rw [List.getElem?_set_self hiσ] at e2;cases e2;exact ⟨u,r,.inl ⟨hk,by simp⟩⟩
     . rw [List.getElem?_set_ne (Ne.symm hj)] at e2
       obtain ⟨u',r',q⟩:=hl j y v' e1 e2 e3;refine ⟨u',r',?_⟩;rcases q with ⟨k,e⟩ | ⟨k,c,e,z⟩
       . refine .inl ⟨k,?_⟩
         have:y ≠ x:=fun e=>hj (El hN e1 (e ▸ hi));simp [this,e]
       . exact .inr ⟨k,c,e,z.sameBut hs (V7 y c e)⟩
   . obtain ⟨w',z⟩:=I.cell y c e
     exact ⟨w',z.sameBut hs (V7 y c e)⟩
   . obtain ⟨e,n,ne,nf,d⟩:=I.pin p hp
     exact ⟨(hs.2 p.1 ne).trans e,n,ne,nf,d⟩
 . have hfn:X.fn x=true:=by
     rcases hf with z | z
     . exact z
     . rw [z] at hk;cases hk
   obtain ⟨c,hc⟩:=I.ok.has x (.inl hk);obtain ⟨w',z⟩:=I.cell x c hc;refine wpAny_storeName_cell I.ok.kind hk hc z (fun h' hc' hs=>?_);obtain ⟨oc,hoc,abJ⟩:=id z;refine h { s with heap:=h' } ⟨I.ok,I.os,I.bare,⟨fun b o e n hb hx=>?_,fun b o e n hb hx=>?_,I.base.free,fun b o e hx=>?_,I.base.tups,I.base.z7,I.base.BP⟩,⟨m,hn.sameBut hs (Ne.symm (V7 x c hc)),fun j y v' e1 e2 e3=>?_⟩,fun y c' e=>?_,I.free,I.kO,fun p hp=>?_,tracked ⟨oc,hoc,I.kO x c hc⟩ hs,by simpa using I.len⟩ ⟨c,hs,.inr hc⟩
   . exact (hs.2 b (Nat.ne_of_lt (Nat.lt_of_lt_of_le (Heap.lt_size e) (I.ok.XS x c hfn hc)))).trans (I.base.keep b o e n hb hx)
   . obtain ⟨sl,e1⟩:=I.base.slot b o e n hb hx
     exact ⟨sl,(hs.2 b (Nat.ne_of_lt (Nat.lt_of_lt_of_le (Heap.lt_size e) (I.ok.XS x c hfn hc)))).trans e1⟩
   . obtain ⟨o',e1⟩:=I.base.there b o e hx
     exact ⟨o',(hs.2 b (Nat.ne_of_lt (Nat.lt_of_lt_of_le (Heap.lt_size e) (I.ok.XS x c hfn hc)))).trans e1⟩
   . by_cases hj:j=i
     . subst hj
       rw [hi] at e1;cases e1;rw [List.getElem?_set_self hiσ] at e2;cases e2;exact ⟨u,r,.inr ⟨.inl hk,c,hc,hc'⟩⟩
     . rw [List.getElem?_set_ne (Ne.symm hj)] at e2
       obtain ⟨u',r',q⟩:=hl j y v' e1 e2 e3;refine ⟨u',r',?_⟩;rcases q with q | ⟨k,c',e,z'⟩
       . exact .inl q
       . refine .inr ⟨k,c',e,z'.sameBut hs ?_⟩
         rintro rfl;exact hj (El hN e1 (I.ok.inj _ _ _ e hc ▸ hi))
   . by_cases hcc:c'=c
     . subst hcc;exact ⟨_,hc'⟩
     . obtain ⟨w2,z2⟩:=I.cell y c' e
       exact ⟨w2,z2.sameBut hs hcc⟩
   . obtain ⟨e,n,ne,nf,d⟩:=I.pin p hp
     refine ⟨(hs.2 p.1 ?_).trans e,n,ne,nf,d⟩;intro q;rw [q,hoc] at e;have q':oc=p.2:=Option.some.inj e;exact d w' (by rw [<- q'];exact abJ)
theorem Em {M:Model} {A:Around} {E:Value->Shared->Prop} {i:Nat} {x:Str} {v:V} {u:Value} {Q:Unit->Shared->Prop} (I:Inv X pins σ H s) (hN:X.N.Nodup) (hi:X.N[i]?=some x) (hx:Loc X.env.scope x) (r:RelV v u)
  (h:∀ s',Inv X pins (σ.set i (some v)) H s'->Q () s') (hf:X.fn x=true\/X.env.scope.names.lookup x=some .local:=by first | exact .inl rfl | exact .inr rfl | assumption):wpAny M A (storeName X.env x u) Q E s:=
 BQ I hN hi hx r (fun s' I' _=>h s' I') hf
theorem Inv.call' {s':Shared} {ch:List Addr} (I:Inv X pins σ H s) (ho:s'.os=s.os) (u:Un (frs X.stack) ch H H' s.heap s'.heap) (hok:wj X.prog X.w H' s'.heap) (hg:AllBare s'.gens)
  (hch:∀ b ∈ ch,(b ∈ X.ex\/X.BO.heap.objs.size<=b)/\b ≠ X.env.locals/\(∀ x c,X.env.cells.lookup x=some c->c ≠ b)/\∀ p ∈ X.pn++pins,p.1 ≠ b):Inv X pins σ H' s':=by
 obtain ⟨h',g',d',t',o'⟩:=s';have e:o'=s.os:=ho;subst e;exact I.call (g':=g') (t':=t') (d':=d') u hok hg hch
end
abbrev XK:=Value->Option Addr->Hp->Prop
abbrev St:=List (Option V)
abbrev VK:=V->Hp->Prop
abbrev TE:=St->Hp->VK->Prop
abbrev TT:=St->Hp->(Bool->Hp->Prop)->Prop
abbrev TA:=St->Hp->(List V->Hp->Prop)->Prop
structure Ends where
 nx:St->Hp->Prop
 rt:VK
 bk:St->Hp->Prop:=fun _ _=>False
 ct:St->Hp->Prop:=fun _ _=>False
abbrev TS:=Ends->St->Hp->Prop
def EP (X:Cx) (pins:List (Addr×Obj)) (σ:St) (Q:VK) (u:Value) (s':Shared):Prop:=∃ v H',Inv X pins σ H' s'/\RelV v u/\Q v H'
def TP (X:Cx) (pins:List (Addr×Obj)) (σ:St) (Q:Bool->Hp->Prop) (b:Bool) (s':Shared):Prop:=∃ H',Inv X pins σ H' s'/\Q b H'
def AP (X:Cx) (pins:List (Addr×Obj)) (σ:St) (Q:List V->Hp->Prop) (us:List Value) (s':Shared):Prop:=∃ vs H',Inv X pins σ H' s'/\Vals vs us/\Q vs H'
def SP (X:Cx) (pins:List (Addr×Obj)) (D:Ends) (f:Flow) (s':Shared):Prop:=
 match f with
 | .next=>∃ σ' H',Inv X pins σ' H' s'/\D.nx σ' H'
 | .brk=>∃ σ' H',Inv X pins σ' H' s'/\D.bk σ' H'
 | .cont=>∃ σ' H',Inv X pins σ' H' s'/\D.ct σ' H'
 | .ret u=>∃ v σ' H',Inv X pins σ' H' s'/\RelV v u/\D.rt v H'
def PE (X:Cx) (e:Expr) (t:TE):Prop:=
 ∀ (pins:List (Addr×Obj)) (s:Shared) (σ:St) (H:Hp) (Q:VK),Inv X pins σ H s->t σ H Q->wpAny (model X.prog X.w) X.A (eval e X.env) (EP X pins σ Q) X.xe s
def PT (X:Cx) (e:Expr) (t:TT):Prop:=
 ∀ (pins:List (Addr×Obj)) (s:Shared) (σ:St) (H:Hp) (Q:Bool->Hp->Prop),Inv X pins σ H s->t σ H Q->wpAny (model X.prog X.w) X.A (isTrue e X.env (eval e X.env)) (TP X pins σ Q) X.xe s
def PW (X:Cx) (e:Expr) (t:TT):Prop:=
 ∀ (whole:Sem Value) (pins:List (Addr×Obj)) (s:Shared) (σ:St) (H:Hp) (Q:Bool->Hp->Prop),Inv X pins σ H s->t σ H Q->wpAny (model X.prog X.w) X.A (isTrue e X.env whole) (TP X pins σ Q) X.xe s
theorem PW.pt {X:Cx} {e:Expr} {t:TT} (h:PW X e t):PT X e t:=h _
def PA (X:Cx) (es:List Expr) (t:TA):Prop:=
 ∀ (pos:Pos) (pins:List (Addr×Obj)) (s:Shared) (σ:St) (H:Hp) (Q:List V->Hp->Prop),Inv X pins σ H s->t σ H Q->wpAny (model X.prog X.w) X.A (spliced (backTo pos (starEach es X.env))) (AP X pins σ Q) X.xe s
def PS (X:Cx) (st:Stmt) (t:TS):Prop:=
 ∀ (pins:List (Addr×Obj)) (s:Shared) (σ:St) (H:Hp) (D:Ends),Inv X pins σ H s->t D σ H->wpAny (model X.prog X.w) X.A (exec st X.env) (SP X pins D) X.xe s
def Le (X:Cx) (st:List Stmt) (t:TS):Prop:=
 ∀ (pins:List (Addr×Obj)) (s:Shared) (σ:St) (H:Hp) (D:Ends),Inv X pins σ H s->t D σ H->wpAny (model X.prog X.w) X.A (execs st X.env) (SP X pins D) X.xe s
theorem ee {α:Type} {t:Sem α} {Q Q':α->Shared->Prop} {M:Model} {A:Around} {E:Value->Shared->Prop} {s:Shared} (h:wpAny M A t Q E s) (hQ:∀ a s,Q a s->Q' a s):wpAny M A t Q' E s:=wpAny_mono h hQ fun _ _ x=>x
section
variable {X:Cx}
def aav (i:Nat):TE:=fun σ H Q=>∃ v,σ[i]?=some (some v)/\Q v H
def tC (v:V):TE:=fun _ H Q=>Q v H
theorem Sn {i:Nat} {x:Str} {pos:Pos} (hN:X.N[i]?=some x) (hv:YB X.env.scope x) (hd:(x==("__debug__":Str))=false:=by decide) (hcd:(x==("__classdict__":Str))=false:=by decide):PE X (.Name x pos) (aav i):=by
 intro pins s σ H Q I h;obtain ⟨v,e,h⟩:=h;obtain ⟨m,hn,hl⟩:=I.loc;obtain ⟨u,r,l⟩:=hl i x v hN e hv;have fin:EP X pins σ Q u s:=⟨v,H,I,r,h⟩;rcases l with ⟨hk,hm⟩ | ⟨hk,c,hc,hcell⟩
 . exact wpAny_Name (wpAny_loadName_local I.ok.kind hk hn hm fin) hd
 . rcases hk with hk | hk
   . exact wpAny_Name (wpAny_loadName_cell I.ok.kind hk hc hcell fin) hd
   . exact wpAny_Name (wpAny_loadName_free I.ok.kind hk hc hcell fin hcd) hd
theorem aN {i j pos}:PE X (.Constant (.int i) j pos) (tC (.int i)):=fun _ _ _ H _ I h=>wpAny_Constant_int ⟨.int i,H,I.tok _,⟨_,rfl⟩,h⟩
theorem qX {b j pos}:PE X (.Constant (.bool b) j pos) (tC (.bl b)):=fun _ _ _ H _ I h=>Constant_bool ⟨.bl b,H,I,rfl,h⟩
def Gl (X:Cx) (x:Str):Prop:=X.env.kindOf x=some .globalImplicit
theorem yM {E:Value->Shared->Prop} {pins:List (Addr×Obj)} {s:Shared} {σ:St} {H:Hp} {x:Str} {u:Value} {pos:Pos} {Q:Value->Shared->Prop} (I:Inv X pins σ H s) (hg:Gl X x) (hm:X.mg x=some u) (h:Q u s)
  (hd:(x==("__debug__":Str))=false:=by decide):wpAny (model X.prog X.w) X.A (eval (.Name x pos) X.env) Q E s:=
 Calls.Name_function_global I.ok.kind hg (Calls.loadGlobal_global (by rw [I.ok.glob];exact I.mod.glob.keeps I.bk) hm h) hd
theorem z9 {E:Value->Shared->Prop} {pins:List (Addr×Obj)} {s:Shared} {σ:St} {H:Hp} {x:Str} {u:Value} {pos:Pos} {Q:Value->Shared->Prop} (I:Inv X pins σ H s) (hg:Gl X x) (hm:X.mg x=none) (hv:bootBuiltins x=some u) (h:Q u s)
  (hn:x ≠ "__name__":=by decide) (hd:(x==("__debug__":Str))=false:=by decide):wpAny (model X.prog X.w) X.A (eval (.Name x pos) X.env) Q E s:=by
 obtain ⟨mb,h1,h2⟩:=I.mod.blt;exact Calls.Name_function_global I.ok.kind hg (Calls.loadGlobal_builtin (by rw [I.ok.glob];exact I.mod.glob.keeps I.bk) hm (by rw [I.ok.blt];exact h1.keeps I.bk) ((h2 x hn).trans hv) h) hd
theorem aU {x:Str} {v:V} {u:Value} {pos:Pos} (hg:Gl X x) (hm:X.mg x=some u) (r:RelV v u) (hd:(x==("__debug__":Str))=false:=by decide):PE X (.Name x pos) (tC v):=
 fun _ _ _ H _ I h=>yM I hg hm ⟨v,H,I,r,h⟩ hd
variable {a b:Expr} {ta tb:TE} {pos:Pos}
def PC (X:Cx) (op:CmpOp) (a b:Expr) (t:TE):Prop:=
 ∀ (pins:List (Addr×Obj)) (s:Shared) (σ:St) (H:Hp) (Q:VK),Inv X pins σ H s->t σ H Q->
   wpAny (model X.prog X.w) X.A (eval a X.env) (fun v s₁=>wpAny (model X.prog X.w) X.A (eval b X.env) (fun u s₂=>wpAny (model X.prog X.w) X.A (compareOp op v u) (EP X pins σ Q) X.xe s₂) X.xe s₁) X.xe s
theorem So (b:Expr) {op:CmpOp} (h:op ≠ .In) (h2:op ≠ .NotIn):behindInMarks op b=false:=by
 have e1:(op==CmpOp.In)=false:=by cases op<;>first | rfl | exact absurd rfl h
 have e2:(op==CmpOp.NotIn)=false:=by cases op<;>first | rfl | exact absurd rfl h2
 cases b<;>simp [behindInMarks,e1,e2]
def abK (ta:TE):TE:=fun σ H Q=>ta σ H fun x H1=>Q (.bl (decide (x=.non))) H1
theorem RelV.Sq {x:V} {v:Value} (r:RelV x v):(v==Value.none)=decide (x=.non):=by
 cases x with
 | non=>cases r;rfl
 | bl _=>cases r;rfl
 | int _=>obtain ⟨t,rfl⟩:=r;rfl
 | str _=>obtain ⟨t,rfl⟩:=r;rfl
 | IP _=>obtain ⟨t,rfl⟩:=r;rfl
 | VC _=>obtain ⟨t,rfl⟩:=r;rfl
 | ref _=>cases r;rfl
 | ty _=>cases r;rfl
theorem YD {j pos'} (ha:PE X a ta):PC X .Is a (.Constant .none j pos') (abK ta):=by
 intro pins s σ H Q I h;refine ee (ha pins s σ H _ I h) fun v s1 ⟨x,H1,I1,r1,q1⟩=>?_;exact Constant_none (is_none_gen ⟨.bl _,H1,I1,by rw [r1.Sq];rfl,q1⟩)
def tB (t:TE):TT:=fun σ H Q=>t σ H fun x H1=>∃ c,x=.bl c/\Q c H1
theorem IV {op:CmpOp} {t:TE} (h:PC X op a b t) (h1:behindInMarks op b=false:=by first | exact So _ (by decide) (by decide) | rfl):PT X (.Compare a [op] [b] pos) (tB t):=by
 intro pins s σ H Q I hw;refine wpAny_isTrue_Compare1 (ee (h pins s σ H _ I hw) fun v s1 h1=>ee h1 fun u s2 h2=>ee h2 fun c s3 ⟨x,H1,I1,r1,q1⟩=>?_) h1;obtain ⟨d,rfl,q⟩:=q1;cases r1;exact wpAny_truthy_bool ⟨H1,I1,q⟩
theorem jr {e:Expr} {t:TE} (h:PE X e t) (he:∀ whole,isTrue e X.env whole=(do let v <- whole;standAt e.pos;holding [v] (truthy v)):=by intro _;rfl):PT X e (tB t):=by
 intro pins s σ H Q I hw;refine isTrue_plain (ee (h pins s σ H _ I hw) fun v s1 ⟨x,H1,I1,r1,q1⟩=>?_) (he _);obtain ⟨d,rfl,q⟩:=q1;cases r1;exact wpAny_truthy_bool ⟨H1,I1,q⟩
variable {tA tB':TT} {rest:List Expr}
def abL (t u:TT):TT:=fun σ H Q=>t σ H fun c H1=>if c=true then u σ H1 Q else Q false H1
def tOr (t u:TT):TT:=fun σ H Q=>t σ H fun c H1=>if c=true then Q true H1 else u σ H1 Q
def abM (t:TT):TT:=fun σ H Q=>t σ H fun c H1=>Q (!c) H1
theorem lJ (ha:PT X a tA):PW X (.BoolOp .And [a] pos) tA:=by
 intro wh pins s σ H Q I h;refine isTrue_and (ee (ha pins s σ H Q I h) fun c s1 e=>?_);cases c with
 | true=>exact isTrue_and_nil e
 | false=>exact e
theorem N3 (ha:PT X a tA):PW X (.BoolOp .Or [a] pos) tA:=by
 intro wh pins s σ H Q I h;refine isTrue_or (ee (ha pins s σ H Q I h) fun c s1 e=>?_);cases c with
 | false=>exact isTrue_or_nil e
 | true=>exact e
theorem oE (ha:PT X a tA) (hb:PW X (.BoolOp .And (b::rest) pos) tB'):PW X (.BoolOp .And (a::b::rest) pos) (abL tA tB'):=by
 intro wh pins s σ H Q I h;refine isTrue_and (ee (ha pins s σ H _ I h) fun c s1 ⟨H1,I1,q1⟩=>?_);cases c with
 | true=>exact hb wh pins s1 σ H1 Q I1 q1
 | false=>exact ⟨H1,I1,q1⟩
theorem Ss (ha:PT X a tA) (hb:PW X (.BoolOp .Or (b::rest) pos) tB'):PW X (.BoolOp .Or (a::b::rest) pos) (tOr tA tB'):=by
 intro wh pins s σ H Q I h;refine isTrue_or (ee (ha pins s σ H _ I h) fun c s1 ⟨H1,I1,q1⟩=>?_);cases c with
 | true=>exact ⟨H1,I1,q1⟩
 | false=>exact hb wh pins s1 σ H1 Q I1 q1
theorem uX (ha:PT X a tA):PT X (.UnaryOp .Not a pos) (abM tA):=by
 intro pins s σ H Q I h;exact isTrue_not (ha pins s σ H (fun c H1=>Q (!c) H1) I h)
def aaw (ta tb:TE):TE:=fun σ H Q=>ta σ H fun x H1=>∃ c,x=.bl c/\if c=true then tb σ H1 Q else Q (.bl false) H1
def abN (ta tb:TE):TE:=fun σ H Q=>ta σ H fun x H1=>∃ c,x=.bl c/\if c=true then Q (.bl true) H1 else tb σ H1 Q
theorem uY {op} {t:TE} (h:PE X a t):PE X (.BoolOp op [a] pos) t:=fun pins s σ H Q I hw=>BoolOp_one (h pins s σ H Q I hw)
theorem xg (ha:PE X a ta) (hb:PE X (.BoolOp .And (b::rest) pos) tb):PE X (.BoolOp .And (a::b::rest) pos) (aaw ta tb):=by
 intro pins s σ H Q I h;refine BoolOp_and (ee (ha pins s σ H _ I h) fun v s1 ⟨x,H1,I1,r1,q1⟩=>?_);obtain ⟨c,rfl,q1⟩:=q1;cases r1;refine wpAny_truthy_bool ?_;cases c with
 | true=>exact hb pins s1 σ H1 Q I1 q1
 | false=>exact ⟨.bl false,H1,I1,rfl,q1⟩
theorem XW (ha:PE X a ta) (hb:PE X (.BoolOp .Or (b::rest) pos) tb):PE X (.BoolOp .Or (a::b::rest) pos) (abN ta tb):=by
 intro pins s σ H Q I h;refine BoolOp_or (ee (ha pins s σ H _ I h) fun v s1 ⟨x,H1,I1,r1,q1⟩=>?_);obtain ⟨c,rfl,q1⟩:=q1;cases r1;refine wpAny_truthy_bool ?_;cases c with
 | false=>exact hb pins s1 σ H1 Q I1 q1
 | true=>exact ⟨.bl true,H1,I1,rfl,q1⟩
def tIf (t:TT) (ta tb:TE):TE:=fun σ H Q=>t σ H fun c H1=>if c=true then ta σ H1 Q else tb σ H1 Q
theorem En {c:Expr} (hc:PT X c tA) (ha:PE X a ta) (hb:PE X b tb):PE X (.IfExp c a b pos) (tIf tA ta tb):=by
 intro pins s σ H Q I h;refine wpAny_IfExp (ee (hc pins s σ H _ I h) fun d s1 ⟨H1,I1,q1⟩=>?_);cases d with
 | true=>exact ha pins s1 σ H1 Q I1 q1
 | false=>exact hb pins s1 σ H1 Q I1 q1
end
def bI (K:Zqq) (H:Hp) (a:Addr) (xs:List V):Prop:=
 Rd H a (.lst xs) \/
   ∃ (o:Obj) (its:Array Value) (n:Nat),K.lookup a=some o/\o.cls=.type "list"/\o.dict=none/\o.data=.seq its n/\its.size<=sizeLine/\Vals xs its.toList
def oj (K:Zqq) (H:Hp) (a:Addr) (xs:List V):Prop:=
 Rd H a (.tup xs) \/
   ∃ (o:Obj) (its:Array Value) (n:Nat),K.lookup a=some o/\o.cls=.type "tuple"/\o.data=.seq its n/\its.size<=sizeLine/\Vals xs its.toList
def abO:Value->Option V
 | .none=>some .non
 | .bool b=>some (.bl b)
 | .int i _=>some (.int i)
 | .str x _=>some (.str x)
 | .bytes b _=>some (.IP b)
 | .float b _=>some (.VC b)
 | .ref a=>some (.ref a)
 | .type n=>some (.ty n)
 | _=>none
theorem RelV.abs {x:V} {u:Value} (r:RelV x u):abO u=some x:=by
 cases x with
 | non=>cases r;rfl
 | bl _=>cases r;rfl
 | int _=>obtain ⟨t,rfl⟩:=r;rfl
 | str _=>obtain ⟨t,rfl⟩:=r;rfl
 | IP _=>obtain ⟨t,rfl⟩:=r;rfl
 | VC _=>obtain ⟨t,rfl⟩:=r;rfl
 | ref _=>cases r;rfl
 | ty _=>cases r;rfl
theorem RelV.inj {x y:V} {u:Value} (r:RelV x u) (q:RelV y u):x=y:=Option.some.inj (r.abs.symm.trans q.abs)
theorem Vals.inj:∀ {xs ys:List V} {us:List Value},Vals xs us->Vals ys us->xs=ys
 | _,_,_,.nil,.nil=>rfl
 | _,_,_,.cons r t,.cons r' t'=>by rw [r.inj r',Vals.inj t t']
section
variable {X:Cx} {pins:List (Addr×Obj)} {σ:St} {H:Hp} {s:Shared} {a:Addr} {xs ys:List V}
theorem bI.of {K:Zqq} (h:H a=some (.lst xs)):bI K H a xs:=.inl (.inl h)
theorem oj.of {K:Zqq} (h:H a=some (.tup xs)):oj K H a xs:=.inl (.inl h)
theorem Inv.list (I:Inv X pins σ H s) (h:bI X.K H a xs):∃ its:List Value,Vals xs its/\PlainL s.heap a its.toArray/\xs.length<=sizeLine:=by
 rcases h with h | ⟨o,its,n,hk,hc,hd,hs,hz,r⟩
 . obtain ⟨z,its,n,r,e⟩:=h.ok I.hok
   exact ⟨its,r,⟨_,n,e,rfl,rfl,rfl⟩,z⟩
 . refine ⟨its.toList,r,⟨o,n,I.z8 a o hk,hc,hd,by simpa using hs⟩,?_⟩
   have e:=r.length;simp only [Array.length_toList] at e;omega
theorem Inv.tuple (I:Inv X pins σ H s) (h:oj X.K H a xs):∃ its:List Value,Vals xs its/\IsTup s.heap a its.toArray/\xs.length<=sizeLine:=by
 rcases h with h | ⟨o,its,n,hk,hc,hs,hz,r⟩
 . obtain ⟨z,its,r,p⟩:=h.ok I.hok
   exact ⟨its,r,p,z⟩
 . refine ⟨its.toList,r,⟨o,I.z8 a o hk,hc,n,by simpa using hs⟩,?_⟩
   have e:=r.length;simp only [Array.length_toList] at e;omega
theorem Inv.Lf (I:Inv X pins σ H s) (h:bI X.K H a xs) (h':bI X.K H a ys):xs=ys:=by
 obtain ⟨its,r,⟨o,n,e,_,_,d⟩,_⟩:=I.list h;obtain ⟨its',r',⟨o',n',e',_,_,d'⟩,_⟩:=I.list h';rw [e] at e';cases e';rw [d] at d';injection d' with d1 _;have:its=its':=by simpa using congrArg Array.toList d1
 subst this;exact r.inj r'
theorem Inv.Qj (I:Inv X pins σ H s) (h:oj X.K H a xs) (h':oj X.K H a ys):xs=ys:=by
 obtain ⟨its,r,⟨o,e,_,n,d⟩,_⟩:=I.tuple h;obtain ⟨its',r',⟨o',e',_,n',d'⟩,_⟩:=I.tuple h';rw [e] at e';cases e';rw [d] at d';injection d' with d1 _;have:its=its':=by simpa using congrArg Array.toList d1
 subst this;exact r.inj r'
end
abbrev Cx.Eo (X:Cx) (E:Value->Shared->Prop):Cx:={ X with xe:=E }
abbrev Cx.nox (X:Cx):Cx:=X.Eo fun _ _=>False
theorem Cx.Ok.Eo {X:Cx} (ok:X.Ok) (E:Value->Shared->Prop):(X.Eo E).Ok:=
 ⟨ok.mod,ok.kind,ok.glob,ok.blt,ok.above,ok.inj,ok.has,ok.XS,ok.hd,ok.frames,ok.VE,ok.YC,ok.bs,ok.Qi,ok.Lc,ok.Ld,ok.zd,ok.Sm⟩
theorem Cx.Ok.xh {X:Cx} {E:Value->Shared->Prop} (ok:(X.Eo E).Ok):X.Ok:=
 ⟨ok.mod,ok.kind,ok.glob,ok.blt,ok.above,ok.inj,ok.has,ok.XS,ok.hd,ok.frames,ok.VE,ok.YC,ok.bs,ok.Qi,ok.Lc,ok.Ld,ok.zd,ok.Sm⟩
section
variable {X:Cx} {pins:List (Addr×Obj)} {σ:St} {H:Hp} {s:Shared} {E:Value->Shared->Prop}
theorem Inv.Eo (I:Inv X pins σ H s) (E:Value->Shared->Prop):Inv (X.Eo E) pins σ H s:=⟨I.ok.Eo E,I.os,I.bare,I.base,I.loc,I.cell,I.free,I.kO,I.pin,I.hok,I.len⟩
theorem Inv.xh (I:Inv (X.Eo E) pins σ H s):Inv X pins σ H s:=⟨I.ok.xh,I.os,I.bare,I.base,I.loc,I.cell,I.free,I.kO,I.pin,I.hok,I.len⟩
theorem SP.xh {D:Ends} {f:Flow} {s':Shared} (h:SP (X.Eo E) pins D f s'):SP X pins D f s':=by
 cases f with
 | next=>obtain ⟨σ',H',I,q⟩:=h;exact ⟨σ',H',I.xh,q⟩
 | brk=>obtain ⟨σ',H',I,q⟩:=h;exact ⟨σ',H',I.xh,q⟩
 | cont=>obtain ⟨σ',H',I,q⟩:=h;exact ⟨σ',H',I.xh,q⟩
 | ret u=>obtain ⟨v,σ',H',I,r,q⟩:=h;exact ⟨v,σ',H',I.xh,r,q⟩
theorem Le.nox {st:List Stmt} {t:TS} (h:Le X.nox st t):Le X st t:=fun pins s σ H D I hw=>
 wpAny_mono (h pins s σ H D (I.Eo _) hw) (fun _ _ q=>q.xh) fun _ _ z=>False.elim z
end
section
variable {X:Cx} {st:Stmt} {rest:List Stmt} {t u:TS} {e:Expr} {te:TE} {pos:Pos}
def XX:TS:=fun D σ H=>D.nx σ H
def YE (t u:TS):TS:=fun D σ H=>t { D with nx:=u D } σ H
theorem dW:Le X [] XX:=fun _ _ σ H _ I h=>wpAny_execs_nil ⟨σ,H,I,h⟩
theorem ak (h1:PS X st t) (h2:Le X rest u):Le X (st::rest) (YE t u):=by
 intro pins s σ H D I h;refine wpAny_execs_cons (ee (h1 pins s σ H { D with nx:=u D } I h) fun f s1 q=>?_)
 cases f with
 | next=>
  obtain ⟨σ',H',I',q⟩:=q;exact h2 pins s1 σ' H' D I' q
 | ret v=>exact q
 | brk=>exact q
 | cont=>exact q
theorem az (h1:PS X st t):Le X [st] t:=by
 intro pins s σ H D I h;refine wpAny_execs_cons (ee (h1 pins s σ H D I h) fun f s1 q=>?_);cases f with
 | next=>exact wpAny_execs_nil q
 | ret v=>exact q
 | brk=>exact q
 | cont=>exact q
theorem Inv.quiet {pins:List (Addr×Obj)} {σ:St} {H:Hp} {s:Shared} (I:Inv X pins σ H s):interactive X.env=false:=by simp [interactive,I.ok.kind]
def aax (te:TE):TS:=fun D σ H=>te σ H fun _ H1=>D.nx σ H1
theorem dX (he:PE X e te) (hs:swapsWith e none pos.line X.env=pure false:=by rfl):PS X (.Expr e pos) (aax te):=by
 intro pins s σ H D I h;exact wpAny_Expr_any (ee (he pins s σ H _ I h) fun v s1 ⟨x,H1,I1,r1,q1⟩=>⟨σ,H1,I1,q1⟩) I.quiet hs
def abP (te:TE):TS:=fun D σ H=>te σ H D.rt
theorem aZ (he:PE X e te):PS X (.Return (some e) pos) (abP te):=by
 intro pins s σ H D I h;exact wpAny_Return_some (ee (he pins s σ H _ I h) fun v s1 ⟨x,H1,I1,r1,q1⟩=>⟨x,σ,H1,I1,r1,q1⟩)
def aay (c:TT) (t u:TS):TS:=fun D σ H=>c σ H fun b H1=>if b=true then t D σ H1 else u D σ H1
theorem kL {c:Expr} {a b:List Stmt} {tc:TT} (hc:PT X c tc) (ha:Le X a t) (hb:Le X b u):PS X (.If c a b pos) (aay tc t u):=by
 intro pins s σ H D I h;refine wpAny_If (ee (hc pins s σ H _ I h) fun d s1 ⟨H1,I1,q1⟩=>?_);cases d with
 | true=>exact ha pins s1 σ H1 D I1 q1
 | false=>exact hb pins s1 σ H1 D I1 q1
end
abbrev TG:=V->St->Hp->(St->Hp->Prop)->Prop
abbrev YF:=List V->St->Hp->(St->Hp->Prop)->Prop
def PG (X:Cx) (target:Expr) (t:TG):Prop:=
 ∀ (pins:List (Addr×Obj)) (s:Shared) (σ:St) (H:Hp) (v:V) (u:Value) (Q:St->Hp->Prop),Inv X pins σ H s->RelV v u->t v σ H Q->
   wpAny (model X.prog X.w) X.A (assign target X.env u) (fun _ s'=>∃ σ' H',Inv X pins σ' H' s'/\Q σ' H') X.xe s
def PGs (X:Cx) (ts:List Expr) (t:YF):Prop:=
 ∀ (pins:List (Addr×Obj)) (s:Shared) (σ:St) (H:Hp) (vs:List V) (us:List Value) (Q:St->Hp->Prop),Inv X pins σ H s->Vals vs us->t vs σ H Q->
   wpAny (model X.prog X.w) X.A (assignInOrder ((assignEach ts X.env).map (·.2)) us) (fun _ s'=>∃ σ' H',Inv X pins σ' H' s'/\Q σ' H') X.xe s
abbrev Su:=V->V->V->Hp->(Hp->Prop)->Prop
def YG (X:Cx) (t:Su):Prop:=
 ∀ (pins:List (Addr×Obj)) (s:Shared) (σ:St) (H:Hp) (o i v:V) (ov iv u:Value) (Q:Hp->Prop),Inv X pins σ H s->RelV o ov->RelV i iv->RelV v u->t o i v H Q->
   wpAny (model X.prog X.w) X.A (setItem ov iv u) (fun _ s'=>∃ H',Inv X pins σ H' s'/\Q H') X.xe s
abbrev TIp:=V->V->Hp->VK->Prop
def PIp (X:Cx) (op:Operator) (t:TIp):Prop:=
 ∀ (pins:List (Addr×Obj)) (s:Shared) (σ:St) (H:Hp) (x y:V) (v u:Value) (Q:VK),Inv X pins σ H s->RelV x v->RelV y u->t x y H Q->
   wpAny (model X.prog X.w) X.A (inplaceOp op v u) (EP X pins σ Q) X.xe s
section
variable {X:Cx} {pos:Pos}
def HF (i:Nat):TG:=fun v σ H Q=>Q (σ.set i (some v)) H
theorem bw {i:Nat} {x:Str} (hN:X.N.Nodup) (hi:X.N[i]?=some x) (hx:Loc X.env.scope x) (hf:X.fn x=true\/X.env.scope.names.lookup x=some .local:=by first | exact .inl rfl | exact .inr rfl | assumption):PG X (.Name x pos) (HF i):=by
 intro pins s σ H v u Q I r h;exact wpAny_assign_Name (Em I hN hi hx r (fun s' I'=>⟨_,H,I',h⟩) hf)
def abQ:YF:=fun vs σ H Q=>vs=[]/\Q σ H
def aaz (t:TG) (u:YF):YF:=fun vs σ H Q=>∃ v r,vs=v::r/\t v σ H fun σ' H'=>u r σ' H' Q
theorem t6:PGs X [] abQ:=by
 intro pins s σ H vs us Q I r h;obtain ⟨e,h⟩:=h;subst e;cases r;exact assignInOrder_nil ⟨σ,H,I,h⟩
theorem gq {e:Expr} {es:List Expr} {t:TG} {u:YF} (h1:PG X e t) (h2:PGs X es u)
  (hs:(assignEach (e::es) X.env).map (·.2)=assign e X.env::(assignEach es X.env).map (·.2):=by rfl):PGs X (e::es) (aaz t u):=by
 intro pins s σ H vs us Q I r h;obtain ⟨v,vr,e1,h⟩:=h;subst e1;cases r with
 | cons r rr=>
  rw [hs];refine assignInOrder_cons (ee (h1 pins s σ H _ _ _ I r h) fun _ s1 ⟨σ1,H1,I1,q1⟩=>?_);exact h2 pins s1 σ1 H1 _ _ Q I1 rr q1
def abR (K:Zqq) (n:Nat) (t:YF):TG:=fun v σ H Q=>∃ a xs,v=.ref a/\oj K H a xs/\xs.length=n/\t xs σ H Q
theorem xj {es:List Expr} {k:Nat} {t:YF} {n:Nat} (hc:X.calm=true) (h:PGs X es t)
  (hn:(assignEach es X.env).length=n:=by rfl) (hst:(assignEach es X.env).findIdx? (·.1)=none:=by rfl):PG X (.Tuple es k pos) (abR X.K n t):=by
 intro pins s σ H v u Q I r hw;obtain ⟨a,xs,e1,hq,hl,hw⟩:=hw;subst e1;cases r;obtain ⟨its,rv,ht,hz⟩:=I.tuple hq;refine assign_Tuple_tuple (I.ok.hd hc) ht (by simp [hn,<- hl,rv.length]) hst fun h' hx=>?_;have I1:Inv X pins σ H { s with heap:=h' }:=I.kept (t':=s.toks) fun b o e=>hx b o (Nat.ne_of_lt (Heap.lt_size e)) e
 exact h pins _ σ H xs _ Q I1 (by simpa using rv) hw
def abS (to ti:TE) (t:Su):TG:=fun v σ H Q=>to σ H fun o H1=>ti σ H1 fun i H2=>t o i v H2 fun H3=>Q σ H3
theorem YH {o i:Expr} {to ti:TE} {t:Su} (ho:PE X o to) (hi:PE X i ti) (hs:YG X t)
   (ha:∀ v,assign (.Subscript o i pos) X.env v=(do
     let ov <- holding [v] (eval o X.env)
     let iv <- holding [v,ov] (eval i X.env)
     standAt pos
     holding [v,ov,iv] (setItem ov iv v)
     release [v,ov,iv] []):=by intro _;rfl):PG X (.Subscript o i pos) (abS to ti t):=by
 intro pins s σ H v u Q I r h;rw [ha];refine wpAny_bind (wpAny_holding (ee (ho pins s σ H _ I h) fun ov s1 ⟨x,H1,I1,r1,q1⟩=>?_));refine wpAny_bind (wpAny_holding (ee (hi pins s1 σ H1 _ I1 q1) fun iv s2 ⟨y,H2,I2,r2,q2⟩=>?_));refine wpAny_bind (wpAny_standAt (wpAny_bind (wpAny_holding (ee (hs pins s2 σ H2 x y v ov iv u _ I2 r1 r2 r q2) fun _ s3 ⟨H3,I3,q3⟩=>?_))));exact wpAny_release ⟨σ,H3,I3,q3⟩
def YI (te:TE) (g:TG):TS:=fun D σ H=>te σ H fun x H1=>g x σ H1 D.nx
theorem YJ {tg e:Expr} {te:TE} {g:TG} (he:PE X e te) (hg:PG X tg g) (hs:swapsWithSole [tg] e pos.line X.env=pure false:=by rfl) (hw:swappedStores [tg] e X.env=pure none:=by rfl)
  (h1:(assignEach [tg] X.env).map (·.2)=[assign tg X.env]:=by rfl):PS X (.Assign [tg] e pos) (YI te g):=by
 intro pins s σ H D I h;refine wpAny_Assign_stores (ee (he pins s σ H _ I h) fun v s1 ⟨x,H1,I1,r1,q1⟩=>?_) hs hw;rw [h1];exact ee (hg pins s1 σ H1 x v _ I1 r1 q1) fun _ s2 q=>q
theorem aR {i:Nat} {x:Str} {e:Expr} {te:TE} {pos':Pos} (hN:X.N.Nodup) (hi:X.N[i]?=some x) (hx:Loc X.env.scope x) (he:PE X e te) (hs:swapsWith e (some (.Name x pos')) pos.line X.env=pure false:=by rfl) (hf:X.fn x=true\/X.env.scope.names.lookup x=some .local:=by first | exact .inl rfl | exact .inr rfl | assumption) :
  PS X (.Assign [.Name x pos'] e pos) (YI te (HF i)):=by
 intro pins s σ H D I h;refine wpAny_Assign_Name (ee (he pins s σ H _ I h) fun v s1 ⟨y,H1,I1,r1,q1⟩=>?_) hs;exact Em I1 hN hi hx r1 (fun s2 I2=>⟨_,H1,I2,q1⟩) hf
def abT (i:Nat) (te:TE) (ti:TIp):TS:=fun D σ H=>∃ x,σ[i]?=some (some x)/\te σ H fun y H1=>ti x y H1 fun z H2=>D.nx (σ.set i (some z)) H2
theorem Sv {i:Nat} {x:Str} {e:Expr} {te:TE} {op:Operator} {ti:TIp} {pos':Pos} (hN:X.N.Nodup) (hi:X.N[i]?=some x) (hx:Loc X.env.scope x) (he:PE X e te) (ho:PIp X op ti) (hf:X.fn x=true\/X.env.scope.names.lookup x=some .local:=by first | exact .inl rfl | exact .inr rfl | assumption) :
   PS X (.AugAssign (.Name x pos') op e pos) (abT i te ti):=by
 intro pins s σ H D I h;obtain ⟨v,e1,h⟩:=h;obtain ⟨m,hn,hl⟩:=I.loc;have vis:YB X.env.scope x:=by rcases hx with k | k;exact .inl k;exact .inr (.inl k)
 obtain ⟨u,r,l⟩:=hl i x v hi e1 vis;refine wpAny_AugAssign_Name ?_;have go:wpAny (model X.prog X.w) X.A (eval e X.env) (fun w s₂=>wpAny (model X.prog X.w) X.A (inplaceOp op u w) (fun r s₃=>wpAny (model X.prog X.w) X.A (storeName X.env x r) (fun _=>SP X pins D .next) X.xe s₃) X.xe s₂) X.xe s:=by
   refine ee (he pins s σ H _ I h) fun w s1 ⟨y,H1,I1,r1,q1⟩=>?_;refine ee (ho pins s1 σ H1 v y u w _ I1 r r1 q1) fun z s2 ⟨zv,H2,I2,r2,q2⟩=>?_;exact Em I2 hN hi hx r2 (fun s3 I3=>⟨_,H2,I3,q2⟩) hf
 rcases l with ⟨hk,hm⟩ | ⟨hk,c,hc,hcell⟩
 . exact wpAny_loadName_local I.ok.kind hk hn hm go
 . rcases hk with hk | hk
   . exact wpAny_loadName_cell I.ok.kind hk hc hcell go
   . rcases hx with k | k
     . have:X.env.scope.names.lookup x=some .free:=hk
       rw [k] at this;cases this
     . have:X.env.scope.names.lookup x=some .free:=hk
       rw [k] at this;cases this
def aa0 (to ti te:TE) (VG:V->V->Hp->VK->Prop) (tip:TIp) (VH:Su):TS:=fun D σ H=>to σ H fun o H1=>ti σ H1 fun i H2=>VG o i H2 fun x H3=>te σ H3 fun y H4=>tip x y H4 fun z H5=>VH o i z H5 fun H6=>D.nx σ H6
def aa1 (X:Cx) (t:V->V->Hp->VK->Prop):Prop:=
 ∀ (pins:List (Addr×Obj)) (s:Shared) (σ:St) (H:Hp) (o i:V) (ov iv:Value) (Q:VK),Inv X pins σ H s->RelV o ov->RelV i iv->t o i H Q->
   wpAny (model X.prog X.w) X.A (getItem ov iv) (EP X pins σ Q) X.xe s
theorem DP {o i e:Expr} {to ti te:TE} {VG:V->V->Hp->VK->Prop} {tip:TIp} {VH:Su} {op:Operator} {tpos:Pos} (ho:PE X o to) (hi:PE X i ti) (hg:aa1 X VG) (he:PE X e te) (hp:PIp X op tip) (hs:YG X VH)
  (ha:∀ ov iv new,augStore i ov iv new=(do holding [new,ov,iv] (setItem ov iv new);release [new,ov,iv] [];pure .next):=by intros;rfl):PS X (.AugAssign (.Subscript o i tpos) op e pos) (aa0 to ti te VG tip VH):=by
 intro pins s σ H D I h;refine wpAny_AugAssign_SubscriptAny (ee (ho pins s σ H _ I h) fun ov s1 ⟨x1,H1,I1,r1,q1⟩=>?_) ha;refine ee (hi pins s1 σ H1 _ I1 q1) fun iv s2 ⟨x2,H2,I2,r2,q2⟩=>?_;refine ee (hg pins s2 σ H2 x1 x2 ov iv _ I2 r1 r2 q2) fun old s3 ⟨x3,H3,I3,r3,q3⟩=>?_;refine ee (he pins s3 σ H3 _ I3 q3) fun v s4 ⟨x4,H4,I4,r4,q4⟩=>?_;refine ee (hp pins s4 σ H4 x3 x4 old v _ I4 r3 r4 q4) fun new s5 ⟨x5,H5,I5,r5,q5⟩=>?_;exact ee (hs pins s5 σ H5 x1 x2 x5 ov iv new _ I5 r1 r2 r5 q5) fun _ s6 ⟨H6,I6,q6⟩=>⟨σ,H6,I6,q6⟩
def ipI (f:Int->Int->Int):TIp:=fun x y H Q=>∃ i j,x=.int i/\y=.int j/\Q (.int (f i j)) H
theorem IW:PIp X .Add (ipI fun i j=>i+j):=by
 intro pins s σ H x y v u Q I r1 r2 h;obtain ⟨i,j,e1,e2,q⟩:=h;subst e1;subst e2;obtain ⟨t,rfl⟩:=r1;obtain ⟨t',rfl⟩:=r2;exact iadd_int ⟨.int _,H,I.tok _,⟨_,rfl⟩,q⟩
theorem Sw:PIp X .Sub (ipI fun i j=>i - j):=by
 intro pins s σ H x y v u Q I r1 r2 h;obtain ⟨i,j,e1,e2,q⟩:=h;subst e1;subst e2;obtain ⟨t,rfl⟩:=r1;obtain ⟨t',rfl⟩:=r2;exact isub_int ⟨.int _,H,I.tok _,⟨_,rfl⟩,q⟩
def N4 (c:TT) (tb:TS):TS:=fun D σ H=>∃ W:Nat->St->Hp->Prop,(∃ m,W m σ H)/\∀ m σ H,W m σ H->
 c σ H fun b H1=>if b=true then ∃ N:St->Hp->Prop,(∀ σ' H',N σ' H'->∃ m',m' < m/\W m' σ' H')/\tb { D with nx:=N,ct:=N,bk:=D.nx } σ H1 else D.nx σ H1
theorem Sx {c:Expr} {body:List Stmt} {tc:TT} {tb:TS} (hp:PassesOwn (model X.prog X.w) X.A X.env X.xe) (hc:PT X c tc) (hb:Le X body tb):PS X (.While c body [] pos) (N4 tc tb):=by
 intro pins s σ H D I h;obtain ⟨W,⟨m0,w0⟩,turn⟩:=h;refine wpAny_While (codeAny_whileLoop (fun n s'=>∃ σ' H',Inv X pins σ' H' s'/\W n σ' H') ?_ m0 ⟨σ,H,I,w0⟩);rintro n s1 ⟨σ1,H1,I1,w1⟩;refine wpAny_passesOwn hp (ee (hc pins s1 σ1 H1 _ I1 (turn n σ1 H1 w1)) fun b s2 ⟨H2,I2,q2⟩=>?_);cases b with
 | true=>
  obtain ⟨N,hN,q2⟩:=q2;rw [if_pos rfl];refine wpAny_passesOwn hp (ee (hb pins s2 σ1 H2 _ I2 q2) fun f s3 q3=>?_);cases f with
  | next=>
   obtain ⟨σ3,H3,I3,n3⟩:=q3;obtain ⟨m',hm,w3⟩:=hN σ3 H3 n3;exact ⟨m',hm,σ3,H3,I3,w3⟩
  | cont=>
   obtain ⟨σ3,H3,I3,n3⟩:=q3;obtain ⟨m',hm,w3⟩:=hN σ3 H3 n3;exact ⟨m',hm,σ3,H3,I3,w3⟩
  | brk=>exact q3
  | ret v=>exact q3
 | false=>
  rw [if_neg Bool.false_ne_true];exact wpAny_execs_nil ⟨σ1,H2,I2,q2⟩
end
structure It where
 go:Nat->Hp->Prop
 Sy:Nat->Hp->V->Hp->Prop
 stop:Nat->Hp->Prop
def Ep (X:Cx) (pins:List (Addr×Obj)) (H:Hp) (b:Addr):Prop:=
 H b=none/\b ≠ X.env.locals/\b ∉ X.fs/\(b ∈ X.ex\/X.BO.heap.objs.size<=b)/\(∀ x c,X.env.cells.lookup x=some c->c ≠ b)/\∀ p ∈ X.pn++pins,p.1 ≠ b
theorem Inv.Qk {X:Cx} {pins:List (Addr×Obj)} {σ:St} {H H':Hp} {s:Shared} {b:Addr} (I:Inv X pins σ H s) (hb:s.heap.objs.size<=b) (hn:H' b=none):Ep X pins H' b:=by
 refine ⟨hn,Nat.ne_of_gt (Nat.lt_of_lt_of_le I.lt hb),I.abI hb,.inr (Nat.le_trans I.sz hb),fun x c e z=>?_,fun p hp z=>?_⟩
 . obtain ⟨v,q⟩:=I.cell x c e
   exact absurd (Nat.lt_of_lt_of_le q.lt (by rw [z];exact hb)) (Nat.lt_irrefl _)
 . exact absurd (Nat.lt_of_lt_of_le (Heap.lt_size (I.pin p hp).1) (by rw [z];exact hb)) (Nat.lt_irrefl _)
structure Turn (P:Program) (w:World) (K:Zqq) (tg:Expr) (J:It) (fp:List Addr) (it:Addr) (tn:Nat->Heap->Prop):Prop where
 mem:it ∈ fp
 obj:∀ i h,tn i h->∀ b ∈ fp,∃ o,h.get? b=some o/\∀ v,o.data ≠ .cell v
 keep:∀ i h h',tn i h->(∀ b ∈ fp,∀ o,h.get? b=some o->h'.get? b=some o)->tn i h'
 item:∀ (X:Cx),X.prog=P->X.w=w->X.K=K->X.calm=true->∀ (i:Nat) (pins:List (Addr×Obj)) (s:Shared) (σ:St) (H:Hp) (E:Value->Shared->Prop),Inv X pins σ H s->(∀ b ∈ fp,Ep X pins H b)->tn i s.heap->J.go i H->
   wpAny (model P w) X.A (pyNext (.ref it)) (fun r s1=>∃ u,r=some u /\
     wpAny (model P w) X.A (letOwnedTupleGo tg (.ref it) u) (fun _ s2=>∃ x H',Inv X pins σ H' s2/\RelV x u/\J.Sy i H x H'/\tn (i+1) s2.heap/\∀ b ∈ fp,H' b=none) E s1) E s
 done:∀ (X:Cx),X.prog=P->X.w=w->X.K=K->X.calm=true->∀ (i:Nat) (pins:List (Addr×Obj)) (s:Shared) (σ:St) (H:Hp) (E:Value->Shared->Prop),Inv X pins σ H s->(∀ b ∈ fp,Ep X pins H b)->tn i s.heap->J.stop i H->
   wpAny (model P w) X.A (pyNext (.ref it)) (fun r s1=>r=none/\Inv X pins σ H s1) E s
 self:∀ (A:Around) (i:Nat) (s:Shared) (Q:Value->Shared->Prop) (E:Value->Shared->Prop),tn i s.heap->Q (.ref it) s->wpAny (model P w) A (pyIter (.ref it)) Q E s
abbrev TI:=St->Hp->(It->Hp->Prop)->Prop
def PIE (X:Cx) (pins:List (Addr×Obj)) (σ:St) (tg:Expr) (R:It->Hp->Prop) (itv:Value) (s2:Shared):Prop:=
 ∃ (it:Addr) (fp:List Addr) (tn:Nat->Heap->Prop) (J:It) (H':Hp),itv=.ref it/\Inv X pins σ H' s2/\Turn X.prog X.w X.K tg J fp it tn/\tn 0 s2.heap/\(∀ b ∈ fp,Ep X pins H' b)/\R J H'
def PI (X:Cx) (tg iter:Expr) (wi:TI):Prop:=
 ∀ (pins:List (Addr×Obj)) (s:Shared) (σ:St) (H:Hp) (R:It->Hp->Prop),Inv X pins σ H s->wi σ H R->
   wpAny (model X.prog X.w) X.A (eval iter X.env) (fun v s1=>wpAny (model X.prog X.w) X.A (pyIter v) (PIE X pins σ tg R) X.xe s1) X.xe s
theorem HG {M:Model} {A:Around} {E:Value->Shared->Prop} {s:Shared} {tg:Expr} {it:Addr} {u:Value} {o:Obj} {n:String} {vs:Array Value} {Q:Unit->Shared->Prop} (ho:s.heap.get? it=some o) (hc:o.cls=.type n) (hd:o.data=.fields vs)
   (hn:["enumerate","zip","dict_itemiterator","dict_reverseitemiterator","odict_iterator","itertools.zip_longest","itertools.pairwise"].contains n=false) (hQ:Q () s):wpAny M A (letOwnedTupleGo tg (.ref it) u) Q E s:=by
 unfold letOwnedTupleGo;cases tg<;>first
   | exact wpAny_pure hQ
   | (cases u<;>first
       | exact wpAny_pure hQ
       | (refine wpAny_bind (wpAny_load ho ?_)
          rw [hc,hd]
          show wpAny M A (if (["enumerate","zip","dict_itemiterator","dict_reverseitemiterator","odict_iterator","itertools.zip_longest","itertools.pairwise"].contains n&&vs[0]?==some (rawInt _))=true then _ else _) Q E s
          rw [if_neg (by intro h;rw [hn,Bool.false_and] at h;cases h)]
          exact wpAny_pure hQ))
def XY (K:Zqq) (a:Addr):It:=
 ⟨fun i H=>∃ xs x,bI K H a xs/\xs[i]?=some x,fun i H x H'=>H'=H/\∀ xs,bI K H a xs->xs[i]?=some x,fun i H=>∃ xs,bI K H a xs/\xs.length<=i⟩
def Itt (K:Zqq) (a:Addr):It:=
 ⟨fun i H=>∃ xs x,oj K H a xs/\xs[i]?=some x,fun i H x H'=>H'=H/\∀ xs,oj K H a xs->xs[i]?=some x,fun i H=>∃ xs,oj K H a xs/\xs.length<=i⟩
def VI (lo:Int) (n:Nat):It:=⟨fun i _=>i < n,fun i H x H'=>H'=H/\x=.int (lo+i),fun i _=>n<=i⟩
theorem Ql {P:Program} {w:World} {K:Zqq} {tg:Expr} (a it:Addr):Turn P w K tg (XY K a) [it] it (fun i h=>h.IsListIter it a i) where
 mem:=by simp
 obj:=fun i h st b hb=>by
  have e:b=it:=by simpa using hb
  subst e
  obtain ⟨o,e,c,d⟩:=st
  exact ⟨o,e,fun v z=>by rw [d] at z;cases z⟩
 keep:=fun i h h' st k=>st.at fun o e=>k it (by simp) o e
 item:=by
  intro X hP hw hK hc i pins s σ H E I hf st hg;subst hP hw hK;obtain ⟨xs,x,hq,hx⟩:=hg;obtain ⟨its,rv,p,hz⟩:=I.list hq;obtain ⟨u,hu,ru⟩:=rv.get hx;obtain ⟨f0,f1,f2,f3,f4,f5⟩:=hf it (by simp);refine wpAny_pyNext_list_item st p.isList (x:=u) (by simpa using hu) fun h' st' sb=>?_;have I1:Inv X pins σ H { s with heap:=h' }:=I.turned (t':=s.toks) (fun b o hb e=>(sb.2 b hb).trans e) f0 f1 f3 f4 f5
  obtain ⟨o,e,c,d⟩:=id st';exact ⟨u,rfl,HG (s:={ s with heap:=h' }) e c d (by decide) ⟨x,H,I1,ru,⟨rfl,fun ys hy=>by rw [I.Lf hy hq];exact hx⟩,st',fun b hb=>(hf b hb).1⟩⟩
 done:=by
  intro X hP hw hK hc i pins s σ H E I hf st hg;subst hP hw hK;obtain ⟨xs,hq,hx⟩:=hg;obtain ⟨its,rv,p,hz⟩:=I.list hq;obtain ⟨f0,f1,f2,f3,f4,f5⟩:=hf it (by simp);have hl:=rv.length;exact wpAny_pyNext_list_end (I.ok.hd hc) st p.isList (by simp;omega) fun h' eb=>⟨rfl,I.turned (t':=s.toks) (fun b o hb e=>eb b o hb e) f0 f1 f3 f4 f5⟩
 self:=fun _ _ _ _ _ st h=>wpAny_pyIter_listiter st h
theorem N5 {P:Program} {w:World} {K:Zqq} {tg:Expr} (a it:Addr):Turn P w K tg (Itt K a) [it] it (fun i h=>h.IsTupleIter it a i) where
 mem:=by simp
 obj:=fun i h st b hb=>by
  have e:b=it:=by simpa using hb
  subst e
  obtain ⟨o,e,c,d⟩:=st
  exact ⟨o,e,fun v z=>by rw [d] at z;cases z⟩
 keep:=fun i h h' st k=>st.at fun o e=>k it (by simp) o e
 item:=by
  intro X hP hw hK hc i pins s σ H E I hf st hg;subst hP hw hK;obtain ⟨xs,x,hq,hx⟩:=hg;obtain ⟨its,rv,p,hz⟩:=I.tuple hq;obtain ⟨u,hu,ru⟩:=rv.get hx;obtain ⟨f0,f1,f2,f3,f4,f5⟩:=hf it (by simp);refine wpAny_pyNext_tuple_item st (show s.heap.IsTuple a its.toArray from p) (x:=u) (by simpa using hu) fun h' st' sb=>?_;have I1:Inv X pins σ H { s with heap:=h' }:=I.turned (t':=s.toks) (fun b o hb e=>(sb.2 b hb).trans e) f0 f1 f3 f4 f5
  obtain ⟨o,e,c,d⟩:=id st';exact ⟨u,rfl,HG (s:={ s with heap:=h' }) e c d (by decide) ⟨x,H,I1,ru,⟨rfl,fun ys hy=>by rw [I.Qj hy hq];exact hx⟩,st',fun b hb=>(hf b hb).1⟩⟩
 done:=by
  intro X hP hw hK hc i pins s σ H E I hf st hg;subst hP hw hK;obtain ⟨xs,hq,hx⟩:=hg;obtain ⟨its,rv,p,hz⟩:=I.tuple hq;obtain ⟨f0,f1,f2,f3,f4,f5⟩:=hf it (by simp);have hl:=rv.length;exact wpAny_pyNext_tuple_end (I.ok.hd hc) st (show s.heap.IsTuple a its.toArray from p) (by simp;omega) fun h' eb=>⟨rfl,I.turned (t':=s.toks) (fun b o hb e=>eb b o hb e) f0 f1 f3 f4 f5⟩
 self:=fun _ _ _ _ _ st h=>wpAny_pyIter_tupleiter st h
theorem N6 {P:Program} {w:World} {K:Zqq} {tg:Expr} (it:Addr) (lo:Int) (n:Nat):Turn P w K tg (VI lo n) [it] it (fun i h=>IsRangeIter h it (lo+(i:Nat) * 1) ((n:Int) - (i:Nat)) 1) where
 mem:=by simp
 obj:=fun i h st b hb=>by
  have e:b=it:=by simpa using hb
  subst e
  exact ⟨_,st,fun v z=>by
   have z':Data.fields _=Data.cell v:=z
   cases z'⟩
 keep:=fun i h h' st k=>k it (by simp) _ st
 item:=by
  intro X hP hw hK hc i pins s σ H E I hf st hg;subst hP hw hK;obtain ⟨f0,f1,f2,f3,f4,f5⟩:=hf it (by simp);have W:=Walks.range (prog:=X.prog) (w:=X.w) (I.ok.hd hc) it lo 1 n;refine W.item i s _ _ hg st fun v h' tk hv st' kk=>?_;obtain ⟨t,rfl⟩:=hv;have I1:Inv X pins σ H { s with heap:=h',toks:=tk }:=I.turned (fun b o hb e=>kk b o (by simpa using hb) e) f0 f1 f3 f4 f5
  refine ⟨_,rfl,HG (s:={ s with heap:=h',toks:=tk }) (n:="range_iterator") st' rfl rfl (by decide) ⟨.int (lo+i),H,I1,⟨t,?_⟩,⟨rfl,rfl⟩,st',fun b hb=>(hf b hb).1⟩⟩
  rw [Int.mul_one]
 done:=by
  intro X hP hw hK hc i pins s σ H E I hf st hg;subst hP hw hK;obtain ⟨f0,f1,f2,f3,f4,f5⟩:=hf it (by simp);exact wpAny_pyNext_range_end (I.ok.hd hc) st (by have:n<=i:=hg;omega) fun h' eb=>⟨rfl,I.turned (t':=s.toks) (fun b o hb e=>eb b o hb e) f0 f1 f3 f4 f5⟩
 self:=fun _ _ _ _ _ st h=>wpAny_pyIter_rangeiter st h
section
variable {X:Cx} {tg:Expr}
def aa2 (K:Zqq) (tl:TE):TI:=fun σ H R=>tl σ H fun x H1=>∃ a,x=.ref a/\(∃ xs,bI K H1 a xs)/\R (XY K a) H1
def abU (K:Zqq) (tl:TE):TI:=fun σ H R=>tl σ H fun x H1=>∃ a,x=.ref a/\(∃ xs,oj K H1 a xs)/\R (Itt K a) H1
theorem gE {l:Expr} {tl:TE} (hl:PE X l tl):PI X tg l (aa2 X.K tl):=by
 intro pins s σ H R I h;refine ee (hl pins s σ H _ I h) fun v s1 ⟨x,H1,I1,r1,q1⟩=>?_;obtain ⟨a,e,⟨xs,hq⟩,q⟩:=q1;subst e;cases r1;obtain ⟨its,rv,p,hz⟩:=I1.list hq;refine wpAny_pyIter_list p.isList ?_;refine ⟨s1.heap.objs.size,[s1.heap.objs.size],_,_,H1,rfl,I1.kept (t':=s1.toks) fun b o e=>Heap.get?_push_of_some _ e,Ql a _,⟨_,Heap.get?_push_size _ rfl,rfl,rfl⟩,fun b hb=>?_,q⟩;have e:b=s1.heap.objs.size:=by simpa using hb
 subst e;exact I1.Qk (Nat.le_refl _) (I1.hok.fresh (Nat.le_refl _))
theorem N7 {l:Expr} {tl:TE} (hl:PE X l tl):PI X tg l (abU X.K tl):=by
 intro pins s σ H R I h;refine ee (hl pins s σ H _ I h) fun v s1 ⟨x,H1,I1,r1,q1⟩=>?_;obtain ⟨a,e,⟨xs,hq⟩,q⟩:=q1;subst e;cases r1;obtain ⟨its,rv,p,hz⟩:=I1.tuple hq;refine wpAny_pyIter_tuple (show s1.heap.IsTuple a its.toArray from p) ?_;refine ⟨s1.heap.objs.size,[s1.heap.objs.size],_,_,H1,rfl,I1.kept (t':=s1.toks) fun b o e=>Heap.get?_push_of_some _ e,N5 a _,⟨_,Heap.get?_push_size _ rfl,rfl,rfl⟩,fun b hb=>?_,q⟩;have e:b=s1.heap.objs.size:=by simpa using hb
 subst e;exact I1.Qk (Nat.le_refl _) (I1.hok.fresh (Nat.le_refl _))
theorem Sz {pins:List (Addr×Obj)} {σ:St} {H:Hp} {s:Shared} {R:It->Hp->Prop} {E:Value->Shared->Prop} {lo hi:Int} {t u v:Tok} {tk:Nat} (I:Inv X pins σ H s) (h1:-(2 ^ 62)<=lo) (h2:lo < 2 ^ 62) (h3:-(2 ^ 62)<=hi) (h4:hi < 2 ^ 62)
   (q:R (VI lo (hi - lo).toNat) H):wpAny (model X.prog X.w) X.A (pyIter (.ref s.heap.objs.size)) (PIE X pins σ tg R) E { s with heap:=s.heap.push { cls:=.type "range",data:=.fields #[.int lo t,.int hi u,.int 1 v] },toks:=tk }:=by
 refine wpAny_pyIter_range (IsRange.new ..) (small_one h1 h2 h3 h4) ?_;have I1:Inv X pins σ H { s with heap:=s.heap.push { cls:=.type "range",data:=.fields #[.int lo t,.int hi u,.int 1 v] },toks:=tk }:=I.kept fun b o e=>Heap.get?_push_of_some _ e
 refine ⟨(s.heap.push { cls:=.type "range",data:=.fields #[.int lo t,.int hi u,.int 1 v] }).objs.size,[(s.heap.push { cls:=.type "range",data:=.fields #[.int lo t,.int hi u,.int 1 v] }).objs.size],_,_,H,rfl,
   I1.kept (t':=tk) fun b o e=>Heap.get?_push_of_some _ e,N6 _ lo (hi - lo).toNat,?_,fun b hb=>?_,q⟩
 . have e1:lo+((0:Nat):Int) * 1=lo:=by simp
   have e2:(((hi - lo).toNat:Nat):Int) - ((0:Nat):Int)=Builtin.Range.rangeSize lo hi 1:=by rw [rangeSize_one];split<;>omega
   show IsRangeIter _ _ (lo+((0:Nat):Int) * 1) ((((hi - lo).toNat:Nat):Int) - ((0:Nat):Int)) 1;rw [e1,e2];exact Heap.get?_push_size _ rfl
 . have e:b=(s.heap.push { cls:=.type "range",data:=.fields #[.int lo t,.int hi u,.int 1 v] }).objs.size:=by simpa using hb
   subst e;exact I1.Qk (Nat.le_refl _) (I1.hok.fresh (Nat.le_refl _))
def aa3 (ta:TA):TI:=fun σ H R=>ta σ H fun vs H1=>∃ j:Int,vs=[.int j]/\-(2 ^ 62)<=j/\j < 2 ^ 62/\R (VI 0 j.toNat) H1
theorem mS {a:Expr} {ta:TA} {p pos:Pos} (hg:Gl X "range") (hm:X.mg "range"=none) (ha:PA X [a] ta) (hs:starEach [a] X.env=[(false,eval a X.env)]:=by rfl):PI X tg (.Call (.Name "range" p) [a] [] pos) (aa3 ta):=by
 intro pins s σ H R I h;refine Call_ (z9 I hg hm boot_range (PyProof.Rows.callWith_type1 (ee (ha pos pins s σ H _ I h) fun us s1 ⟨vs,H1,I1,r1,q1⟩=>?_) hs rfl));obtain ⟨j,e,q1,q2,q⟩:=q1;subst e;cases r1 with
 | cons r rr=>
  cases rr;obtain ⟨t,rfl⟩:=r;exact call_range_1 (Sz I1 (by omega) (by omega) q1 q2 (by simpa using q))
def abV (wi:TI) (g:TG) (tb:TS):TS:=fun D σ H=>wi σ H fun J H1=>∃ W:Nat->Nat->St->Hp->Prop,(∃ m,W 0 m σ H1)/\∀ i m σ H,W i m σ H->
 (J.stop i H/\D.nx σ H)\/(J.go i H/\∃ N:St->Hp->Prop,(∀ σ' H',N σ' H'->∃ m',m' < m/\W (i+1) m' σ' H')/\∀ x H',J.Sy i H x H'->g x σ H' fun σ2 H2=>tb { D with nx:=N,ct:=N,bk:=D.nx } σ2 H2)
def Es (fp:List Addr) (h:Heap):List (Addr×Obj):=fp.filterMap fun b=>(h.get? b).map fun o=>(b,o)
theorem zA {fp:List Addr} {h:Heap} {b:Addr} {o:Obj} (hb:b ∈ fp) (e:h.get? b=some o):(b,o) ∈ Es fp h:=List.mem_filterMap.mpr ⟨b,hb,by rw [e];rfl⟩
theorem Qm {fp:List Addr} {h:Heap} {p:Addr×Obj} (hp:p ∈ Es fp h):p.1 ∈ fp/\h.get? p.1=some p.2:=by
 obtain ⟨b,hb,e⟩:=List.mem_filterMap.mp hp;cases q:h.get? b with
 | none=>rw [q] at e;cases e
 | some o=>
  rw [q] at e;have e':(b,o)=p:=Option.some.inj e;subst e';exact ⟨hb,q⟩
theorem Inv.pinned {pins:List (Addr×Obj)} {σ:St} {H:Hp} {s:Shared} {fp:List Addr} (I:Inv X pins σ H s) (hf:∀ b ∈ fp,Ep X pins H b) (ho:∀ b ∈ fp,∃ o,s.heap.get? b=some o/\∀ v,o.data ≠ .cell v):Inv X (pins++Es fp s.heap) σ H s:=
 I.OH fun p hp=>(List.mem_append.mp hp).elim (fun z=>I.pin p (List.mem_append_right _ z)) fun z=>by
  obtain ⟨hb,e⟩:=Qm z
  obtain ⟨f0,f1,f2,_⟩:=hf p.1 hb
  obtain ⟨o,e',d⟩:=ho p.1 hb
  rw [e] at e';cases e'
  exact ⟨e,f0,f1,f2,d⟩
theorem Inv.Am {pins pl:List (Addr×Obj)} {σ:St} {H:Hp} {s:Shared} (I:Inv X (pins++pl) σ H s):Inv X pins σ H s:=I.OH fun p hp=>I.pin p (List.mem_append_right _ (List.mem_append_left _ hp))
theorem fj {iter:Expr} {body:List Stmt} {wi:TI} {g:TG} {tb:TS} {pos:Pos} (hp:PassesOwn (model X.prog X.w) X.A X.env X.xe) (hc:X.calm=true) (hi:PI X tg iter wi) (hg:PG X tg g) (hb:Le X body tb)
   (hs:∀ x,foldedSetIterable iter X.env x=pure x:=by intro _;rfl):PS X (.For tg iter body [] pos) (abV wi g tb):=by
 intro pins s σ H D I h;refine wpAny_For (ee (hi pins s σ H _ I h) fun v s1 h1=>ee h1 fun itv s2 h2=>?_) hs;obtain ⟨it,fp,tn,J,H2,e,I2,T,st2,f2,W,⟨m0,w0⟩,turn⟩:=h2;subst e;have N8:∀ {H':Hp},(∀ b ∈ fp,H' b=none)->∀ b ∈ fp,Ep X pins H' b:=fun hn b hb=>⟨hn b hb,(f2 b hb).2⟩;refine codeAny_forLoop_any (fun n s'=>∃ i σ' H',Inv X pins σ' H' s'/\tn i s'.heap/\(∀ b ∈ fp,H' b=none)/\W i n σ' H') ?_ m0 ⟨0,σ,H2,I2,st2,fun b hb=>(f2 b hb).1,w0⟩;rintro n s3 ⟨i,σ3,H3,I3,st3,fr3,w3⟩;rcases turn i n σ3 H3 w3 with ⟨stop,qn⟩ | ⟨go,N,hN,step⟩
 . refine wpAny_passesOwn hp (ee (T.done X rfl rfl rfl hc i pins s3 σ3 H3 X.xe I3 (N8 fr3) st3 stop) fun r s4 ⟨hr,I4⟩=>?_)
   subst hr;exact wpAny_execs_nil ⟨σ3,H3,I4,qn⟩
 . refine wpAny_passesOwn hp (ee (T.item X rfl rfl rfl hc i pins s3 σ3 H3 X.xe I3 (N8 fr3) st3 go) fun r s4 ⟨u,hr,h4⟩=>?_)
   subst hr;refine wpAny_passesOwn hp (ee h4 fun _ s5 ⟨x,H5,I5,r5,y5,st5,fr5⟩=>?_);have I5':=I5.pinned (N8 fr5) (T.obj _ _ st5);refine wpAny_passesOwn hp (ee (hg _ s5 σ3 H5 x u _ I5' r5 (step x H5 y5)) fun _ s6 ⟨σ6,H6,I6,q6⟩=>?_);refine wpAny_passesOwn hp (ee (hb _ s6 σ6 H6 _ I6 q6) fun f s7 q7=>?_);have again:∀ {σ7:St} {H7:Hp},Inv X (pins++Es fp s5.heap) σ7 H7 s7->N σ7 H7->∃ m,m < n/\∃ i σ' H',Inv X pins σ' H' s7/\tn i s7.heap/\(∀ b ∈ fp,H' b=none)/\W i m σ' H':=fun {σ7 H7} I7 n7=>by
     obtain ⟨m',hm,w7⟩:=hN σ7 H7 n7;refine ⟨m',hm,i+1,σ7,H7,I7.Am,T.keep _ _ _ st5 fun b hb o e=>(I7.pin (b,o) (List.mem_append_right _ (List.mem_append_right _ (zA hb e)))).1,fun b hb=>?_,w7⟩;obtain ⟨o,e,d⟩:=T.obj _ _ st5 b hb;exact (I7.pin (b,o) (List.mem_append_right _ (List.mem_append_right _ (zA hb e)))).2.1
   cases f with
   | next=>obtain ⟨σ7,H7,I7,n7⟩:=q7;exact again I7 n7
   | cont=>obtain ⟨σ7,H7,I7,n7⟩:=q7;exact again I7 n7
   | brk=>obtain ⟨σ7,H7,I7,q7⟩:=q7;exact ⟨σ7,H7,I7.Am,q7⟩
   | ret v=>obtain ⟨x7,σ7,H7,I7,r7,q7⟩:=q7;exact ⟨x7,σ7,H7,I7.Am,r7,q7⟩
end
theorem pC {K:Zqq} {a:Addr} {xs:List V} {g:TG} {tb:TS} {D:Ends} {σ:St} {H:Hp} (Pv:Nat->St->Hp->Prop) (h0:Pv 0 σ H) (hl:∀ i σ H,i<=xs.length->Pv i σ H->bI K H a xs)
   (hs:∀ i x σ H,xs[i]?=some x->Pv i σ H->g x σ H fun σ2 H2=>tb { D with nx:=Pv (i+1),ct:=Pv (i+1),bk:=D.nx } σ2 H2) (hd:∀ σ H,Pv xs.length σ H->D.nx σ H) :
   ∃ W:Nat->Nat->St->Hp->Prop,(∃ m,W 0 m σ H)/\∀ i m σ H,W i m σ H->
     ((XY K a).stop i H/\D.nx σ H)\/((XY K a).go i H/\∃ N:St->Hp->Prop,(∀ σ' H',N σ' H'->∃ m',m' < m/\W (i+1) m' σ' H')/\∀ x H',(XY K a).Sy i H x H'->g x σ H' fun σ2 H2=>tb { D with nx:=N,ct:=N,bk:=D.nx } σ2 H2):=by
 refine ⟨fun i m σ H=>m=xs.length - i/\i<=xs.length/\Pv i σ H,⟨xs.length,by simp,Nat.zero_le _,h0⟩,?_⟩;rintro i m σ H ⟨rfl,hi,p⟩;have q:=hl i σ H hi p;by_cases hlt:i < xs.length
 . refine .inr ⟨⟨xs,xs[i],q,by simp [hlt]⟩,Pv (i+1),fun σ' H' p'=>⟨xs.length - (i+1),by omega,rfl,hlt,p'⟩,fun x H' y=>?_⟩
   obtain ⟨e,y⟩:=y;subst e;exact hs i x σ _ (y xs q) p
 . have e:i=xs.length:=by omega
   subst e;exact .inl ⟨⟨xs,q,Nat.le_refl _⟩,hd σ H p⟩
theorem IX {K:Zqq} {a:Addr} {xs:List V} {g:TG} {tb:TS} {D:Ends} {σ:St} {H:Hp} (Pv:Nat->St->Hp->Prop) (h0:Pv 0 σ H) (hl:∀ i σ H,i<=xs.length->Pv i σ H->oj K H a xs)
   (hs:∀ i x σ H,xs[i]?=some x->Pv i σ H->g x σ H fun σ2 H2=>tb { D with nx:=Pv (i+1),ct:=Pv (i+1),bk:=D.nx } σ2 H2) (hd:∀ σ H,Pv xs.length σ H->D.nx σ H) :
   ∃ W:Nat->Nat->St->Hp->Prop,(∃ m,W 0 m σ H)/\∀ i m σ H,W i m σ H->
     ((Itt K a).stop i H/\D.nx σ H)\/((Itt K a).go i H/\∃ N:St->Hp->Prop,(∀ σ' H',N σ' H'->∃ m',m' < m/\W (i+1) m' σ' H')/\∀ x H',(Itt K a).Sy i H x H'->g x σ H' fun σ2 H2=>tb { D with nx:=N,ct:=N,bk:=D.nx } σ2 H2):=by
 refine ⟨fun i m σ H=>m=xs.length - i/\i<=xs.length/\Pv i σ H,⟨xs.length,by simp,Nat.zero_le _,h0⟩,?_⟩;rintro i m σ H ⟨rfl,hi,p⟩;have q:=hl i σ H hi p;by_cases hlt:i < xs.length
 . refine .inr ⟨⟨xs,xs[i],q,by simp [hlt]⟩,Pv (i+1),fun σ' H' p'=>⟨xs.length - (i+1),by omega,rfl,hlt,p'⟩,fun x H' y=>?_⟩
   obtain ⟨e,y⟩:=y;subst e;exact hs i x σ _ (y xs q) p
 . have e:i=xs.length:=by omega
   subst e;exact .inl ⟨⟨xs,q,Nat.le_refl _⟩,hd σ H p⟩
theorem qS {lo:Int} {n:Nat} {g:TG} {tb:TS} {D:Ends} {σ:St} {H:Hp} (Pv:Nat->St->Hp->Prop) (h0:Pv 0 σ H)
   (hs:∀ i σ H,i < n->Pv i σ H->g (.int (lo+i)) σ H fun σ2 H2=>tb { D with nx:=Pv (i+1),ct:=Pv (i+1),bk:=D.nx } σ2 H2) (hd:∀ σ H,Pv n σ H->D.nx σ H) :
   ∃ W:Nat->Nat->St->Hp->Prop,(∃ m,W 0 m σ H)/\∀ i m σ H,W i m σ H->
     ((VI lo n).stop i H/\D.nx σ H)\/((VI lo n).go i H/\∃ N:St->Hp->Prop,(∀ σ' H',N σ' H'->∃ m',m' < m/\W (i+1) m' σ' H')/\∀ x H',(VI lo n).Sy i H x H'->g x σ H' fun σ2 H2=>tb { D with nx:=N,ct:=N,bk:=D.nx } σ2 H2):=by
 refine ⟨fun i m σ H=>m=n - i/\i<=n/\Pv i σ H,⟨n,by simp,Nat.zero_le _,h0⟩,?_⟩;rintro i m σ H ⟨rfl,hi,p⟩;by_cases hlt:i < n
 . refine .inr ⟨hlt,Pv (i+1),fun σ' H' p'=>⟨n - (i+1),by omega,rfl,hlt,p'⟩,fun x H' y=>?_⟩
   obtain ⟨e,y⟩:=y;subst e y;exact hs i σ _ hlt p
 . have e:i=n:=by omega
   subst e;exact .inl ⟨Nat.le_refl _,hd σ H p⟩
theorem S0 {c:TT} {tb:TS} {D:Ends} {σ:St} {H:Hp} (Pv:St->Hp->Prop) (μ:St->Hp->Nat) (h0:Pv σ H)
  (hs:∀ σ H,Pv σ H->c σ H fun b H1=>if b=true then tb { D with nx:=fun σ' H'=>Pv σ' H'/\μ σ' H' < μ σ H,ct:=fun σ' H'=>Pv σ' H'/\μ σ' H' < μ σ H,bk:=D.nx } σ H1 else D.nx σ H1)
  (mono:∀ σ H Q Q',(∀ b H1,Q b H1->Q' b H1)->c σ H Q->c σ H Q'):N4 c tb D σ H:=by
 refine ⟨fun m σ H=>m=μ σ H/\Pv σ H,⟨_,rfl,h0⟩,?_⟩;rintro m σ H ⟨rfl,p⟩;refine mono σ H _ _ (fun b H1 q=>?_) (hs σ H p);cases b with
 | true=>exact ⟨_,fun σ' H' ⟨p',l⟩=>⟨_,l,rfl,p'⟩,q⟩
 | false=>exact q
abbrev R2:=V->V->Hp->VK->Prop
def BR (X:Cx) (f:Value->Value->Sem Value) (r:R2):Prop:=
 ∀ (pins:List (Addr×Obj)) (s:Shared) (σ:St) (H:Hp) (x y:V) (v u:Value) (Q:VK),Inv X pins σ H s->RelV x v->RelV y u->r x y H Q->
   wpAny (model X.prog X.w) X.A (f v u) (EP X pins σ Q) X.xe s
def UnR (X:Cx) (f:Value->Sem Value) (r:V->Hp->VK->Prop):Prop:=
 ∀ (pins:List (Addr×Obj)) (s:Shared) (σ:St) (H:Hp) (x:V) (v:Value) (Q:VK),Inv X pins σ H s->RelV x v->r x H Q->
   wpAny (model X.prog X.w) X.A (f v) (EP X pins σ Q) X.xe s
def HH (X:Cx) (f:Value) (r:List V->Hp->VK->Prop):Prop:=
 ∀ (pins:List (Addr×Obj)) (s:Shared) (σ:St) (H:Hp) (xs:List V) (us:List Value) (Q:VK),Inv X pins σ H s->Vals xs us->r xs H Q->
   wpAny (model X.prog X.w) X.A (call f us) (EP X pins σ Q) X.xe s
def abW (X:Cx) (r:V->Hp->(Bool->Hp->Prop)->Prop):Prop:=
 ∀ (pins:List (Addr×Obj)) (s:Shared) (σ:St) (H:Hp) (x:V) (v:Value) (Q:Bool->Hp->Prop),Inv X pins σ H s->RelV x v->r x H Q->
   wpAny (model X.prog X.w) X.A (truthy v) (TP X pins σ Q) X.xe s
def tOp (r:R2) (ta tb:TE):TE:=fun σ H Q=>ta σ H fun x H1=>tb σ H1 fun y H2=>r x y H2 Q
def tUn (r:V->Hp->VK->Prop) (ta:TE):TE:=fun σ H Q=>ta σ H fun x H1=>r x H1 Q
def rI (C:Int->Int->Prop) (g:Int->Int->V):R2:=fun x y H Q=>∃ i j,x=.int i/\y=.int j/\C i j/\Q (g i j) H
def V8 (g:Int->Int->V):R2:=fun x y H Q=>∃ i j,x=.int i/\y=.int j/\Q (g i j) H
def rU (g:Int->V):V->Hp->VK->Prop:=fun x H Q=>∃ i,x=.int i/\Q (g i) H
section
variable {X:Cx} {a b c:Expr} {ta tb tc:TE} {pos:Pos}
theorem YK (ha:PE X a ta) (hb:PE X b tb) {pins:List (Addr×Obj)} {s:Shared} {σ:St} {H:Hp} {R:V->V->Hp->Prop} (I:Inv X pins σ H s)
  (h:ta σ H fun x H1=>tb σ H1 fun y H2=>R x y H2) {Q:Value->Shared->Prop} {f:Value->Value->Sem Value}
  (hf:∀ v u s2 x y H2,Inv X pins σ H2 s2->RelV x v->RelV y u->R x y H2->wpAny (model X.prog X.w) X.A (f v u) Q X.xe s2) :
  wpAny (model X.prog X.w) X.A (eval a X.env) (fun v s₁=>wpAny (model X.prog X.w) X.A (eval b X.env) (fun u s₂=>wpAny (model X.prog X.w) X.A (f v u) Q X.xe s₂) X.xe s₁) X.xe s:=by
 refine ee (ha pins s σ H _ I h) fun v s1 ⟨x,H1,I1,r1,q1⟩=>?_;refine ee (hb pins s1 σ H1 _ I1 q1) fun u s2 ⟨y,H2,I2,r2,q2⟩=>?_;exact hf v u s2 x y H2 I2 r1 r2 q2
theorem gJ {op:Operator} {r:R2} (ho:BR X (binaryOp op) r) (ha:PE X a ta) (hb:PE X b tb):PE X (.BinOp a op b pos) (tOp r ta tb):=by
 intro pins s σ H Q I h;exact wpAny_BinOp (YK ha hb I h fun v u s2 x y H2 I2 rx ry q=>ho pins s2 σ H2 x y v u Q I2 rx ry q)
theorem OI {op:UnaryOp} {r:V->Hp->VK->Prop} (ho:UnR X (unaryOp op) r) (ha:PE X a ta):PE X (.UnaryOp op a pos) (tUn r ta):=by
 intro pins s σ H Q I h;exact UnaryOp_ (ee (ha pins s σ H _ I h) fun v s1 ⟨x,H1,I1,r1,q1⟩=>ho pins s1 σ H1 x v Q I1 r1 q1)
theorem opI {f:Value->Value->Sem Value} {C:Int->Int->Prop} {g:Int->Int->Int}
  (rule:∀ (i j:Int) (t u:Tok) (s:Shared) (Q:Value->Shared->Prop) (E:Value->Shared->Prop),C i j->Q (.int (g i j) s.toks) { s with toks:=s.toks+1 }->wpAny (model X.prog X.w) X.A (f (.int i t) (.int j u)) Q E s) :
  BR X f (rI C fun i j=>.int (g i j)):=by
 intro pins s σ H x y v u Q I rx ry h;obtain ⟨i,j,rfl,rfl,hc,q⟩:=h;obtain ⟨t,rfl⟩:=rx;obtain ⟨t',rfl⟩:=ry;exact rule i j t t' s _ _ hc ⟨.int (g i j),H,I.tok _,⟨_,rfl⟩,q⟩
theorem VJ {f:Value->Value->Sem Value} {g:Int->Int->Int}
  (rule:∀ (i j:Int) (t u:Tok) (s:Shared) (Q:Value->Shared->Prop) (E:Value->Shared->Prop),Q (.int (g i j) s.toks) { s with toks:=s.toks+1 }->wpAny (model X.prog X.w) X.A (f (.int i t) (.int j u)) Q E s) :
  BR X f (V8 fun i j=>.int (g i j)):=by
 intro pins s σ H x y v u Q I rx ry h;obtain ⟨i,j,rfl,rfl,q⟩:=h;obtain ⟨t,rfl⟩:=rx;obtain ⟨t',rfl⟩:=ry;exact rule i j t t' s _ _ ⟨.int (g i j),H,I.tok _,⟨_,rfl⟩,q⟩
theorem VL {f:Value->Value->Sem Value} {g:Int->Int->Bool}
  (rule:∀ (i j:Int) (t u:Tok) (s:Shared) (Q:Value->Shared->Prop) (E:Value->Shared->Prop),Q (.bool (g i j)) s->wpAny (model X.prog X.w) X.A (f (.int i t) (.int j u)) Q E s) :
  BR X f (V8 fun i j=>.bl (g i j)):=by
 intro pins s σ H x y v u Q I rx ry h;obtain ⟨i,j,rfl,rfl,q⟩:=h;obtain ⟨t,rfl⟩:=rx;obtain ⟨t',rfl⟩:=ry;exact rule i j t t' s _ _ ⟨.bl (g i j),H,I,rfl,q⟩
def abX (i j:Int):Prop:=0<=j/\j<=1000000/\i.natAbs < 2 ^ 64
def YL (i j:Int):Prop:=(-(2 ^ 64) < i/\i < 2 ^ 64)\/(-(2 ^ 64) < j/\j < 2 ^ 64)
theorem YL.ok {i j:Int} (h:YL i j):IntMulOk i j:=by
 rcases h with ⟨h1,h2⟩ | ⟨h1,h2⟩
 . exact .of_left (intBits_le_64 h1 h2)
 . exact .of_right (intBits_le_64 h1 h2)
theorem uZ:BR X (binaryOp .Add) (V8 fun i j=>.int (i+j)):=VJ fun _ _ _ _ _ _ _ q=>add_int q
theorem xm:BR X (binaryOp .Sub) (V8 fun i j=>.int (i - j)):=VJ fun _ _ _ _ _ _ _ q=>sub_int q
theorem N9:BR X (binaryOp .Mult) (rI YL fun i j=>.int (i * j)):=opI fun _ _ _ _ _ _ _ hc q=>mul_int q hc.ok
theorem YM:BR X (binaryOp .Mod) (rI (fun _ j=>0 < j) fun i j=>.int (i % j)):=opI fun i j _ _ _ _ _ hc q=>by
 have h1:(0:Int) < j:=hc
 exact mod_int' (by omega) (by rw [Int.fmod_eq_emod_of_nonneg i (by omega)];exact q)
theorem S3:BR X (binaryOp .LShift) (rI abX fun i j=>.int (i * 2 ^ j.toNat)):=opI fun _ _ _ _ _ _ _ hc q=>lshift_int_small hc.1 hc.2.1 hc.2.2 q
theorem YN:BR X (binaryOp .BitAnd) (V8 fun i j=>.int (Builtin.bitAnd i j)):=VJ fun _ _ _ _ _ _ _ q=>and_int q
theorem XZ:BR X (binaryOp .BitOr) (V8 fun i j=>.int (Builtin.bitOr i j)):=VJ fun _ _ _ _ _ _ _ q=>or_int q
theorem unI {f:Value->Sem Value} {g:Int->Int}
  (rule:∀ (i:Int) (t:Tok) (s:Shared) (Q:Value->Shared->Prop) (E:Value->Shared->Prop),Q (.int (g i) s.toks) { s with toks:=s.toks+1 }->wpAny (model X.prog X.w) X.A (f (.int i t)) Q E s) :
  UnR X f (rU fun i=>.int (g i)):=by
 intro pins s σ H x v Q I rx h;obtain ⟨i,rfl,q⟩:=h;obtain ⟨t,rfl⟩:=rx;exact rule i t s _ _ ⟨.int (g i),H,I.tok _,⟨_,rfl⟩,q⟩
theorem IY:UnR X (unaryOp .USub) (rU fun i=>.int (-i)):=unI fun _ _ _ _ _ q=>neg_int q
end
def aa4:V->V->Bool
 | .non,.non=>true | .non,.int _=>true | .int _,.non=>true | .non,.bl _=>true | .bl _,.non=>true | .non,.str _=>true | .str _,.non=>true
 | .int _,.int _=>true | .bl _,.bl _=>true | .str _,.str _=>true | .IP _,.IP _=>true
 | .int _,.str _=>true | .str _,.int _=>true | .bl _,.str _=>true | .str _,.bl _=>true
 | _,_=>false
def rEq:R2:=fun x y H Q=>aa4 x y=true/\Q (.bl (decide (x=y))) H
def rNe:R2:=fun x y H Q=>aa4 x y=true/\Q (.bl (!decide (x=y))) H
theorem OJ {i j:Int}:decide (V.int i=V.int j)=(i==j):=by
 rw [Bool.eq_iff_iff];simp
theorem S5 {i j:Bool}:decide (V.bl i=V.bl j)=(i==j):=by
 rw [Bool.eq_iff_iff];simp
theorem OL {i j:Str}:decide (V.str i=V.str j)=(i==j):=by
 rw [Bool.eq_iff_iff];simp
theorem OM {i j:Array UInt8}:decide (V.IP i=V.IP j)=(i.toList==j.toList):=by
 rw [Bool.eq_iff_iff];cases i;cases j;simp
section
variable {X:Cx} {a b c:Expr} {ta tb tc:TE} {pos:Pos}
theorem dY {pins:List (Addr×Obj)} {σ:St} {H:Hp} {s:Shared} {Q:VK} {k k':Bool} (I:Inv X pins σ H s) (q:Q (.bl k) H) (e:k=k'):EP X pins σ Q (.bool k') s:=by
 subst e;exact ⟨.bl k,H,I,rfl,q⟩
theorem om:BR X (compareOp .Eq) rEq:=by
 intro pins s σ H x y v u Q I rx ry h;obtain ⟨hs,q⟩:=h;cases x with
 | non=>
  cases rx;cases y with
  | non=>cases ry;exact PySem.EqNone.eq_none_none (dY I q (by simp))
  | bl j=>cases ry;exact PySem.EqNone.eq_none_bool (dY I q (by simp))
  | int j=>obtain ⟨t',rfl⟩:=ry;exact PySem.EqNone.eq_none_int (dY I q (by simp))
  | str j=>obtain ⟨t',rfl⟩:=ry;exact PySem.EqNone.eq_none_str (dY I q (by simp))
  | _=>exact absurd (show false=true from hs) Bool.false_ne_true
 | bl i=>
  cases rx;cases y with
  | non=>cases ry;exact PySem.EqNone.eq_bool_none (dY I q (by simp))
  | bl j=>cases ry;exact eq_bool (dY I q S5)
  | str j=>obtain ⟨t',rfl⟩:=ry;exact PySem.EqMixed.eq_bool_str (dY I q (by simp))
  | _=>exact absurd (show false=true from hs) Bool.false_ne_true
 | int i=>
  obtain ⟨t,rfl⟩:=rx;cases y with
  | non=>cases ry;exact PySem.EqNone.eq_int_none (dY I q (by simp))
  | int j=>obtain ⟨t',rfl⟩:=ry;exact eq_int (dY I q OJ)
  | str j=>obtain ⟨t',rfl⟩:=ry;exact PySem.EqMixed.eq_int_str (dY I q (by simp))
  | _=>exact absurd (show false=true from hs) Bool.false_ne_true
 | str i=>
  obtain ⟨t,rfl⟩:=rx;cases y with
  | non=>cases ry;exact PySem.EqNone.eq_str_none (dY I q (by simp))
  | bl j=>cases ry;exact PySem.EqMixed.eq_str_bool (dY I q (by simp))
  | int j=>obtain ⟨t',rfl⟩:=ry;exact PySem.EqMixed.eq_str_int (dY I q (by simp))
  | str j=>obtain ⟨t',rfl⟩:=ry;exact eq_str (dY I q OL)
  | _=>exact absurd (show false=true from hs) Bool.false_ne_true
 | IP i=>
  obtain ⟨t,rfl⟩:=rx;cases y with
  | IP j=>obtain ⟨t',rfl⟩:=ry;exact PySem.W.eq_bytes (dY I q OM)
  | _=>exact absurd (show false=true from hs) Bool.false_ne_true
 | _=>cases y<;>exact absurd (show false=true from hs) Bool.false_ne_true
theorem wk:BR X (compareOp .NotEq) rNe:=by
 intro pins s σ H x y v u Q I rx ry h;obtain ⟨hs,q⟩:=h;cases x with
 | non=>
  cases rx;cases y with
  | non=>cases ry;exact PySem.EqNone.ne_none_none (dY I q (by simp))
  | bl j=>cases ry;exact PySem.EqNone.ne_none_bool (dY I q (by simp))
  | int j=>obtain ⟨t',rfl⟩:=ry;exact PySem.EqNone.ne_none_int (dY I q (by simp))
  | str j=>obtain ⟨t',rfl⟩:=ry;exact PySem.EqNone.ne_none_str (dY I q (by simp))
  | _=>exact absurd (show false=true from hs) Bool.false_ne_true
 | bl i=>
  cases rx;cases y with
  | non=>cases ry;exact PySem.EqNone.ne_bool_none (dY I q (by simp))
  | bl j=>cases ry;exact ne_bool (dY I q (congrArg not S5))
  | str j=>obtain ⟨t',rfl⟩:=ry;exact PySem.EqMixed.ne_bool_str (dY I q (by simp))
  | _=>exact absurd (show false=true from hs) Bool.false_ne_true
 | int i=>
  obtain ⟨t,rfl⟩:=rx;cases y with
  | non=>cases ry;exact PySem.EqNone.ne_int_none (dY I q (by simp))
  | int j=>obtain ⟨t',rfl⟩:=ry;exact ne_int (dY I q (congrArg not OJ))
  | str j=>obtain ⟨t',rfl⟩:=ry;exact PySem.EqMixed.ne_int_str (dY I q (by simp))
  | _=>exact absurd (show false=true from hs) Bool.false_ne_true
 | str i=>
  obtain ⟨t,rfl⟩:=rx;cases y with
  | non=>cases ry;exact PySem.EqNone.ne_str_none (dY I q (by simp))
  | bl j=>cases ry;exact PySem.EqMixed.ne_str_bool (dY I q (by simp))
  | int j=>obtain ⟨t',rfl⟩:=ry;exact PySem.EqMixed.ne_str_int (dY I q (by simp))
  | str j=>obtain ⟨t',rfl⟩:=ry;exact ne_str (dY I q (congrArg not OL))
  | _=>exact absurd (show false=true from hs) Bool.false_ne_true
 | IP i=>
  obtain ⟨t,rfl⟩:=rx;cases y with
  | IP j=>obtain ⟨t',rfl⟩:=ry;exact PySem.W.ne_bytes (dY I q (congrArg not OM))
  | _=>exact absurd (show false=true from hs) Bool.false_ne_true
 | _=>cases y<;>exact absurd (show false=true from hs) Bool.false_ne_true
theorem Yb:BR X (compareOp .Lt) (V8 fun i j=>.bl (decide (i < j))):=VL fun _ _ _ _ _ _ _ q=>lt_int q
theorem HJ:BR X (compareOp .LtE) (V8 fun i j=>.bl (decide (i<=j))):=VL fun _ _ _ _ _ _ _ q=>le_int q
theorem ON:BR X (compareOp .Gt) (V8 fun i j=>.bl (decide (j < i))):=VL fun _ _ _ _ _ _ _ q=>gt_int q
theorem aa5:BR X (compareOp .GtE) (V8 fun i j=>.bl (decide (j<=i))):=VL fun _ _ _ _ _ _ _ q=>ge_int q
theorem bW (b:Expr) {op:CmpOp} (h:op ≠ .In:=by decide) (h2:op ≠ .NotIn:=by decide):behindInMarks op b=false:=by
 have e1:(op==CmpOp.In)=false:=by cases op<;>first | rfl | exact absurd rfl h
 have e2:(op==CmpOp.NotIn)=false:=by cases op<;>first | rfl | exact absurd rfl h2
 cases b<;>simp [behindInMarks,e1,e2]
theorem e9 {op:CmpOp} {r:R2} (ho:BR X (compareOp op) r) (ha:PE X a ta) (hb:PE X b tb) (hm:behindInMarks op b=false):PE X (.Compare a [op] [b] pos) (tOp r ta tb):=by
 intro pins s σ H Q I h;exact wpAny_Compare1 (YK ha hb I h fun v u s2 x y H2 I2 rx ry q=>ho pins s2 σ H2 x y v u Q I2 rx ry q) hm
def aa6 (t:TE):TT:=fun σ H Q=>t σ H fun x H'=>∃ k,x=.bl k/\Q k H'
theorem cS {op:CmpOp} {r:R2} (ho:BR X (compareOp op) r) (ha:PE X a ta) (hb:PE X b tb) (hm:behindInMarks op b=false):PT X (.Compare a [op] [b] pos) (aa6 (tOp r ta tb)):=by
 intro pins s σ H Q I h;refine wpAny_isTrue_Compare1 (ee (ha pins s σ H _ I h) fun v s1 ⟨x,H1,I1,r1,q1⟩=>ee (hb pins s1 σ H1 _ I1 q1) fun u s2 ⟨y,H2,I2,r2,q2⟩=>
  ee (ho pins s2 σ H2 x y v u _ I2 r1 r2 q2) fun c s3 ⟨z,H3,I3,r3,k,e,q3⟩=>?_) hm
 subst e;cases r3;exact wpAny_truthy_bool ⟨H3,I3,q3⟩
def YO (r r':R2) (ta tb tc:TE):TE:=fun σ H Q=>ta σ H fun x H1=>tb σ H1 fun y H2=>r x y H2 fun z H3=>∃ k,z=.bl k /\
 (if k=true then tc σ H3 fun w' H4=>r' y w' H4 Q else Q (.bl false) H3)
theorem Lg {op op':CmpOp} {r r':R2} (ho:BR X (compareOp op) r) (ho':BR X (compareOp op') r') (ha:PE X a ta) (hb:PE X b tb) (hc:PE X c tc)
  (hm:lastMarks [op,op'] [b,c]=false:=by with_unfolding_all rfl):PE X (.Compare a [op,op'] [b,c] pos) (YO r r' ta tb tc):=by
 intro pins s σ H Q I h;refine Compare_chain (ee (ha pins s σ H _ I h) fun v s1 ⟨x,H1,I1,r1,q1⟩=>chain_link (ee (hb pins s1 σ H1 _ I1 q1) fun u s2 ⟨y,H2,I2,r2,q2⟩=>
  ee (ho pins s2 σ H2 x y v u _ I2 r1 r2 q2) fun d s3 ⟨z,H3,I3,r3,k,e,q3⟩=>?_)) hm
 subst e;cases r3;refine wpAny_truthy_bool ?_;cases k with
 | false=>exact ite_ff ⟨.bl false,H3,I3,rfl,q3⟩
 | true=>exact ite_tt (chain_last (ee (hc pins s3 σ H3 _ I3 q3) fun w' s4 ⟨z',H4,I4,r4,q4⟩=>ho' pins s4 σ H4 y z' u w' Q I4 r2 r4 q4))
def aa7 (K:Zqq) (x:V) (H:Hp) (k:Bool):Prop:=
 match x with
 | .non=>k=false
 | .bl b=>k=b
 | .int i=>k=(i != 0)
 | .str y=>y.length<=sizeLine/\k=((y.length:Int) != 0)
 | .IP y=>y.size<=sizeLine/\k=((y.size:Int) != 0)
 | .ref p=>(∃ xs,bI K H p xs/\k=!xs.isEmpty)\/(∃ xs,oj K H p xs/\k=!xs.isEmpty)\/∃ kvs,H p=some (.dK kvs)/\k=!kvs.isEmpty
 | _=>False
theorem NB {κ:Type} {kvs:List (κ×V)} {vs:List (κ×Value)} (r:KV kvs vs):(!vs.isEmpty)=!kvs.isEmpty:=by
 cases r<;>rfl
theorem Et {xs:List V} {its:List Value} (r:Vals xs its):(!its.toArray.isEmpty)=!xs.isEmpty:=by
 cases r<;>simp
theorem BS:(sizeLine:Nat) < 2 ^ 63:=by rw [sizeLine_eq];decide
theorem YQ:abW X (fun x H Q=>∃ k,aa7 X.K x H k/\Q k H):=by
 intro pins s σ H x v Q I rx h;obtain ⟨k,e,q⟩:=h;have hl:=BS;have hs:sizeLine=16777216:=sizeLine_eq;cases x with
 | non=>
   cases rx;have e':k=false:=e;subst e';exact truthy_none ⟨H,I,q⟩
 | bl b=>
   cases rx;have e':k=b:=e;subst e';exact wpAny_truthy_bool ⟨H,I,q⟩
 | int i=>
   obtain ⟨t,rfl⟩:=rx;have e':k=(i != 0):=e;subst e';exact PySem.P.truthy_int ⟨H,I,q⟩
 | str y=>
   obtain ⟨t,rfl⟩:=rx;obtain ⟨hy,e'⟩:y.length<=sizeLine/\k=((y.length:Int) != 0):=e;subst e';exact PySem.P.truthy_str (by omega) ⟨H,I.tok _,q⟩
 | IP y=>
   obtain ⟨t,rfl⟩:=rx;obtain ⟨hy,e'⟩:y.size<=sizeLine/\k=((y.size:Int) != 0):=e;subst e';exact PySem.W.truthy_bytes (by omega) ⟨H,I.tok _,q⟩
 | ref p=>
   cases rx;have e':(∃ xs,bI X.K H p xs/\k=!xs.isEmpty)\/(∃ xs,oj X.K H p xs/\k=!xs.isEmpty)\/∃ kvs,H p=some (.dK kvs)/\k=!kvs.isEmpty:=e;rcases e' with ⟨xs,hx,e'⟩ | ⟨xs,hx,e'⟩ | ⟨kvs,hx,e'⟩
   . subst e'
     obtain ⟨its,r,pl,hz⟩:=I.list hx;have hlen:=r.length;exact wpAny_truthy_list pl.isList (by simp only [List.size_toArray];omega) ⟨H,I.tok _,by rw [Et r];exact q⟩
   . subst e'
     obtain ⟨its,r,pl,hz⟩:=I.tuple hx;have hlen:=r.length;exact truthy_tuple pl (by simp only [List.size_toArray];omega) ⟨H,I.tok _,by rw [Et r];exact q⟩
   . subst e'
     obtain ⟨hz,hS,vs,r,m⟩:kvs.length<=sizeLine/\(p==sysModules)=false/\∃ vs,KV kvs vs/\s.heap.DictOf (fL X.prog X.w) p vs:=I.hok p _ hx;have hlen:kvs.length=vs.length:=Paired.length r;exact wpAny_truthy_dict hS m (by omega) ⟨H,I.tok _,by rw [NB r];exact q⟩
 | _=>exact (show False from e).elim
theorem S6 (ha:PE X a ta) (he:∀ whole,isTrue a X.env whole=(do let v <- whole;standAt a.pos;holding [v] (truthy v))) :
  PT X a (fun σ H Q=>ta σ H fun x H'=>∃ k,aa7 X.K x H' k/\Q k H'):=by
 intro pins s σ H Q I h;exact isTrue_plain (ee (ha pins s σ H _ I h) fun v s1 ⟨x,H1,I1,r1,q1⟩=>YQ pins s1 σ H1 x v Q I1 r1 q1) (he _)
theorem vals1 {x:V} {us:List Value} (r:Vals [x] us):∃ u,us=[u]/\RelV x u:=by
 cases r with
 | cons r1 r2=>cases r2;exact ⟨_,rfl,r1⟩
end
structure NC (h:Heap) (x dx C:Addr) (mA:Str->Option Value):Prop where
 obj:h.get? x=some (PySem.W.instObj C dx)
 ns:h.Ns1 dx mA
 ne:dx ≠ x
theorem Qn {h:Heap} {dx:Addr} {mA:Str->Option Value} (n:h.Ns1 dx mA):∃ od,h.get? dx=some od/\∀ name,PySem.W.lookIn name od=some (mA name):=by
 obtain ⟨o,es,ep,ho,hd,hk,_,hm⟩:=n;refine ⟨o,ho,fun name=>?_⟩;have e:=hm name;unfold nsFind findBy at e;rw [<- Array.find?_toList] at e;unfold PySem.W.lookIn;rw [hd];dsimp only;split
 . rename_i y q
   rw [q] at e;exact congrArg some e
 . rename_i q
   rw [q] at e;have a:es.toList.any (·.refKey)=false:=by
     rw [List.any_eq_false];intro y hy;obtain ⟨z,t,hkey⟩:=hk y (Array.mem_toList_iff.mp hy);simp [DictEntry.refKey,hkey]
   have a':¬ es.toList.any (·.refKey)=true:=by rw [a];exact Bool.false_ne_true
   rw [if_neg a'];exact congrArg some e
theorem NC.look {h:Heap} {x dx C:Addr} {mA:Str->Option Value} (I:NC h x dx C mA):∃ od,PySem.W.InstAt h x (PySem.W.instObj C dx) C (some od)/\∀ name,PySem.W.lookIn name od=some (mA name):=
 let ⟨od,ho,hl⟩:=Qn I.ns
 ⟨od,⟨I.obj,rfl,rfl,ho⟩,hl⟩
section
variable {prog:Program} {w:World} {A:Around} {E:Value->Shared->Prop} {s:Shared} {K:Zqq} {x dx C f:Addr} {mA:Str->Option Value} {name:Str} {v:Value}
theorem get_map {expr:Bool} {Q:Value->Shared->Prop} (X:K.In s.heap) (I:NC s.heap x dx C mA) (hg:PySem.W.plainGet K C name=true) (hh:PySem.W.hasDictIn K C=true)
  (ha:PySem.W.findIn K (.ref C) name=some none) (hv:mA name=some v) (hv':PySem.W.handedIn v=true) (h:Q v { s with toks:=s.toks+1 }) :
  wpAny (model prog w) A (getAttr (.ref x) name expr) Q E s:=by
 obtain ⟨od,J,hl⟩:=I.look;exact PySem.W.get_value X J (PySem.W.plainGet_of hg).1 (PySem.W.findObj_own hh ha rfl (by rw [hl,hv])) hv' h
theorem S7 {pl:Sem Bool} {Q:Value×List Value->Shared->Prop} (X:K.In s.heap) (I:NC s.heap x dx C mA) (hg:PySem.W.plainGet K C name=true)
  (hf:PySem.W.findIn K (.ref C) name=some (some (.ref f))) (ht:PySem.W.isFn K (.ref f)=true) (hv:mA name=none) (h:Q (.ref f,[.ref x]) s) :
  wpAny (model prog w) A (getMethod (.ref x) name pl) Q E s:=by
 obtain ⟨od,J,hl⟩:=I.look;exact PySem.W.method_fn X J (PySem.W.plainGet_of hg).1 (PySem.W.plainGet_of hg).2 hf (beq_iff_eq.mp ht) (by show (PySem.W.lookIn name od).map (·.isSome)=some false;rw [hl,hv];rfl) h
theorem VM {ns:List Str} {Q:Unit->Shared->Prop} (X:K.In s.heap) (I:NC s.heap x dx C mA)
  (hs:PySem.W.findIn K (.ref C) "__setattr__"=some (some (.builtin "object.__setattr__"))) (hp:PySem.W.plainOver K C=true) (ht:PySem.W.takerIn K C name=some none) (hh:PySem.W.hasDictIn K C=true)
  (hw:PySem.Within mA ns) (hsz:ns.length<=sizeLine)
  (h:∀ h',NC h' x dx C (fun y=>if y=name then some v else mA y)->Heap.SameBut dx s.heap h'->Q () { s with heap:=h',toks:=s.toks+2 }) :
  wpAny (model prog w) A (setAttr (.ref x) name v) Q E s:=by
 obtain ⟨od,J,hl⟩:=I.look;refine PySem.W.set_plain X J hs (PySem.W.osa_open (s:={ s with toks:=s.toks+1 }) (r:=none) X J hp ht fun b=>?_)
 obtain ⟨cd,hc,hd'⟩:=PySem.W.any_some hh;have hx:s.heap.get? x=some ⟨.ref C,some dx,.plain,#[]⟩:=I.obj;refine wpAny_bind (wpAny_pure (wpAny_bind (wpAny_bind (wpAny_loadPart hx (wpAny_bind (PySem.W.Looks.here (s:={ s with toks:=s.toks+1 }) (PySem.W.looks_clsIn X hc) ?_))))));rw [hd'];refine wpAny_pure (a:=some dx) (wpAny_bind (wpAny_pure (wpAny_bind ?_)));refine wpAny_nsSet1 (s:={ s with toks:=s.toks+1 }) I.ns fun h' hn2 hs2=>?_
 obtain ⟨oD,esD,epD,hoD,hdD,hcD⟩:=hn2.count (PySem.Within.cons name v hw);refine wpAny_bind (wpAny_lookBehind hoD (by rw [hdD];exact pastItsLine_dict (Nat.le_trans hcD (by rw [List.length_cons];omega))) ?_);exact wpAny_pure (h _ ⟨(hs2.2 _ (Ne.symm I.ne)).trans I.obj,hn2,I.ne⟩ hs2)
theorem S8 {R:Result->Shared->Prop} {vs:List Value} {kw:List (Str×Value)} (X:K.In s.heap) (hm:PySem.W.makesIn K C=true)
   (hi:PySem.W.findIn K (.ref C) "__init__"=some (some (.ref f))) (hf:PySem.W.typeIn K (.ref f)=some (.type "function"))
   (h:codeAny (model prog w) (A.under (.builtin "type.__call__" ⟨.ref C::vs,kw⟩)) (.call (.ref f) ⟨.ref (s.heap.objs.size+1)::vs,kw⟩) (PySem.W.InitBack (s.heap.objs.size+1) R)
     { s with heap:=(s.heap.push PySem.W.emptyDict).push (PySem.W.instObj C s.heap.objs.size) }) :
   codeAny (model prog w) A (.call (.ref C) ⟨vs,kw⟩) R s:=by
 obtain ⟨hh,g,d,t,os⟩:=s;exact PySem.W.make_core (PySem.W.makes_of X hm) (PySem.W.looks_findIn X hi) (fun self=>PySem.W.bind_fn X self hf) (.inl rfl) h
end
def gf (f:Str) (v:V):List (Str×V)->List (Str×V)
 | []=>[(f,v)]
 | (g,x)::r=>if g=f then (g,v)::r else (g,x)::gf f v r
theorem xq (f g:Str) (v:V):∀ fs:List (Str×V),(gf f v fs).lookup g=if g=f then some v else fs.lookup g
 | []=>by
   show List.lookup g [(f,v)]=_
   by_cases h:g=f
   . have hb:(g==f)=true:=beq_iff_eq.mpr h
     simp only [List.lookup,hb,if_pos h]
   . have hb:(g==f)=false:=beq_eq_false_iff_ne.mpr h
     simp only [List.lookup,hb,if_neg h]
 | (k,x)::r=>by
   have ih:=xq f g v r
   rw [show gf f v ((k,x)::r)=(if k=f then (k,v)::r else (k,x)::gf f v r) from rfl]
   by_cases hk:k=f
   . rw [if_pos hk]
     by_cases h:g=k
     . have hb:(g==k)=true:=beq_iff_eq.mpr h
       simp only [List.lookup,hb,if_pos (h.trans hk)]
     . have hb:(g==k)=false:=beq_eq_false_iff_ne.mpr h
       simp only [List.lookup,hb,if_neg (fun e:g=f=>h (e.trans hk.symm))]
   . rw [if_neg hk]
     by_cases h:g=k
     . have hb:(g==k)=true:=beq_iff_eq.mpr h
       simp only [List.lookup,hb,if_neg (fun e:g=f=>hk (h.symm.trans e))]
     . have hb:(g==k)=false:=beq_eq_false_iff_ne.mpr h
       simp only [List.lookup,hb]
       exact ih
theorem BU (f:Str) (v:V):∀ fs:List (Str×V),f ∈ (gf f v fs).map (·.1)/\∀ g,g ∈ fs.map (·.1)->g ∈ (gf f v fs).map (·.1)
 | []=>⟨by simp [gf],fun g h=>by simp at h⟩
 | (k,x)::r=>by
   obtain ⟨i1,i2⟩:=BU f v r
   rw [show gf f v ((k,x)::r)=(if k=f then (k,v)::r else (k,x)::gf f v r) from rfl]
   by_cases hk:k=f
   . rw [if_pos hk]
     subst hk
     exact ⟨by simp,fun g h=>by simpa using h⟩
   . rw [if_neg hk]
     refine ⟨?_,fun g h=>?_⟩
     . rw [List.map_cons]
       exact List.mem_cons_of_mem _ i1
     . rw [List.map_cons] at h ⊢
       rcases List.mem_cons.mp h with e | e
       . exact List.mem_cons.mpr (.inl e)
       . exact List.mem_cons_of_mem _ (i2 g e)
theorem CL (f:Str) (v:V):∀ fs:List (Str×V),(gf f v fs).length<=fs.length+1
 | []=>by simp [gf]
 | (k,x)::r=>by
   have ih:=CL f v r
   rw [show gf f v ((k,x)::r)=(if k=f then (k,v)::r else (k,x)::gf f v r) from rfl]
   by_cases hk:k=f
   . rw [if_pos hk,List.length_cons,List.length_cons];omega
   . rw [if_neg hk,List.length_cons,List.length_cons];omega
theorem sW.some_of {v:V} {o:Option Value} (r:sW (some v) o):∃ u,o=some u/\RelV v u:=by
 cases o with
 | none=>exact (show False from r).elim
 | some u=>exact ⟨u,rfl,r⟩
theorem sW.none_of {o:Option Value} (r:sW none o):o=none:=by
 cases o with
 | none=>rfl
 | some u=>exact (show False from r).elim
theorem HK {v:V} {u:Value} (r:RelV v u):PySem.W.handedIn u=true:=by
 cases v with
 | non=>cases (show u=Value.none from r);rfl
 | bl b=>cases (show u=Value.bool b from r);rfl
 | int i=>obtain ⟨t,e⟩:=(show ∃ t,u=Value.int i t from r);cases e;rfl
 | str x=>obtain ⟨t,e⟩:=(show ∃ t,u=Value.str x t from r);cases e;rfl
 | IP b=>obtain ⟨t,e⟩:=(show ∃ t,u=Value.bytes b t from r);cases e;rfl
 | VC b=>obtain ⟨t,e⟩:=(show ∃ t,u=Value.float b t from r);cases e;rfl
 | ref a=>cases (show u=Value.ref a from r);rfl
 | ty n=>cases (show u=Value.type n from r);rfl
section
variable {P:Program} {w:World} {H H':Hp} {h h':Heap} {a C dx:Addr} {fs fs':List (Str×V)}
theorem IZ (hok:wj P w H h) (e:H a=some (.ins C dx fs)):∃ mA,NC h a dx C mA/\(∀ f,sW (fs.lookup f) (mA f))/\PySem.Within mA (fs.map (·.1))/\fs.length<=1000/\H dx=some (.own a):=by
 obtain ⟨d,z,ne,ob,mA,n,r,q⟩:=(show dZ P w H h a (.ins C dx fs) from hok a _ e);exact ⟨mA,⟨ob,n,ne⟩,r,q,z,d⟩
end
structure DQ (K:Zqq) (C:Addr):Prop where
 pg:PySem.W.plainGet K C Str.empty=true
 hd:PySem.W.hasDictIn K C=true
 po:PySem.W.plainOver K C=true
 sa:PySem.W.findIn K (.ref C) "__setattr__"=some (some (.builtin "object.__setattr__"))
theorem DQ.get {K:Zqq} {C:Addr} (c:DQ K C) (f:Str):PySem.W.plainGet K C f=true:=c.pg
def b8 (K:Zqq) (C:Addr) (f:Str):Prop:=PySem.W.findIn K (.ref C) f=some none
theorem b8.aa8 {K:Zqq} {C:Addr} {f:Str} (n:b8 K C f):PySem.W.takerIn K C f=some none:=by
 unfold PySem.W.takerIn;rw [show PySem.W.findIn K (.ref C) f=some none from n];rfl
structure Meth (K:Zqq) (C:Addr) (m:Str) (f:Addr):Prop where
 at_:PySem.W.findIn K (.ref C) m=some (some (.ref f))
 fn:PySem.W.isFn K (.ref f)=true
 kp:PySem.W.keepIn K (.ref f)=true
section
variable {X:Cx} {pins:List (Addr×Obj)} {σ:St} {H:Hp} {s:Shared} {a C dx:Addr} {fs:List (Str×V)} {f:Str} {v:V} {A:Around} {E:Value->Shared->Prop}
theorem Eu {b:Bool} {Q:Value->Shared->Prop} (I:Inv X pins σ H s) (e:H a=some (.ins C dx fs)) (c:DQ X.K C) (n:b8 X.K C f) (l:fs.lookup f=some v)
  (h:∀ u s',Inv X pins σ H s'->RelV v u->Q u s'):wpAny (model X.prog X.w) A (getAttr (.ref a) f b) Q E s:=by
 obtain ⟨mA,O,r,_,_,_⟩:=IZ I.hok e;obtain ⟨u,hu,ru⟩:=sW.some_of (v:=v) (o:=mA f) (by rw [<- l];exact r f);exact get_map I.z8 O (c.get f) c.hd n hu (HK ru) (h u _ (I.tok _) ru)
theorem Ew {m:Str} {g:Addr} {pl:Sem Bool} {Q:Value×List Value->Shared->Prop} (I:Inv X pins σ H s) (e:H a=some (.ins C dx fs)) (c:DQ X.K C) (k:Meth X.K C m g) (l:fs.lookup m=none)
  (h:Q (.ref g,[.ref a]) s):wpAny (model X.prog X.w) A (getMethod (.ref a) m pl) Q E s:=by
 obtain ⟨mA,O,r,_,_,_⟩:=IZ I.hok e;have hn:mA m=none:=sW.none_of (by rw [<- l];exact r m);exact S7 I.z8 O (c.get m) k.at_ k.fn hn h
theorem Ex {y:V} {u:Value} {Q:Unit->Shared->Prop} (I:Inv X pins σ H s) (e:H a=some (.ins C dx fs)) (c:DQ X.K C) (n:b8 X.K C f) (hl:fs.length < 1000) (ry:RelV y u)
   (h:∀ s',Inv X pins σ (upd H a (.ins C dx (gf f y fs))) s'->Q () s'):wpAny (model X.prog X.w) A (setAttr (.ref a) f u) Q E s:=by
 obtain ⟨mA,O,r,wi,_,ho⟩:=IZ I.hok e;have hz:(fs.map (·.1)).length<=sizeLine:=by rw [List.length_map,sizeLine_eq];omega
 refine VM I.z8 O c.sa c.po n.aa8 c.hd wi hz fun h' O' sb=>h _ ?_;have hd:∃ o,h'.get? dx=some o:=let ⟨o,_,_,e',_⟩:=O'.ns;⟨o,e'⟩;refine I.write (x:=a) (e:=dx) (by rw [e];exact True.intro) (.inr ho) (fun b q hb z=>(sb.2 b hb).trans z) hd ?_;refine ⟨by rw [aq O.ne];exact ho,?_,O.ne,O'.obj,_,O'.ns,fun g=>?_,fun g hg=>?_⟩
 . have:=CL f y fs;omega
 . show sW ((gf f y fs).lookup g) (if g=f then some u else mA g)
   rw [xq];by_cases q:g=f
   . rw [if_pos q,if_pos q];exact ry
   . rw [if_neg q,if_neg q];exact r g
 . by_cases q:g=f
   . rw [q];exact (BU f y fs).1
   . refine (BU f y fs).2 g (wi g fun z=>hg ?_)
     show (if g=f then some u else mA g)=none;rw [if_neg q];exact z
theorem Inv.made (I:Inv X pins σ H s):Inv X pins σ (upd (upd H s.heap.objs.size (.own (s.heap.objs.size+1))) (s.heap.objs.size+1) (.ins C s.heap.objs.size []))
  { s with heap:=(s.heap.push PySem.W.emptyDict).push (PySem.W.instObj C s.heap.objs.size) }:=by
 have e1:(s.heap.push PySem.W.emptyDict).get? s.heap.objs.size=some PySem.W.emptyDict:=Heap.get?_push_size s.heap rfl;have e2:((s.heap.push PySem.W.emptyDict).push (PySem.W.instObj C s.heap.objs.size)).get? (s.heap.objs.size+1)=some (PySem.W.instObj C s.heap.objs.size):=by
  have:=Heap.get?_push_size (s.heap.push PySem.W.emptyDict) (o:=PySem.W.instObj C s.heap.objs.size) rfl
  rwa [Heap.size_push] at this
 have e3:(s.heap.push PySem.W.emptyDict).Ns s.heap.objs.size (fun _=>none):=⟨PySem.W.emptyDict,#[],_,e1,rfl,(fun e he=>absurd he (by simp)),fun _=>rfl⟩;have I1:=I.laid (a:=s.heap.objs.size) (o:=.own (s.heap.objs.size+1)) (h':=s.heap.push PySem.W.emptyDict) (t':=s.toks) (fun b u q=>Heap.get?_push_of_some _ q) (Nat.le_refl _) ⟨_,e1⟩;refine I1.laid (a:=s.heap.objs.size+1) (o:=.ins C s.heap.objs.size []) (t':=s.toks) (fun b u q=>Heap.get?_push_of_some _ q) (Nat.le_of_eq (Heap.size_push _ _)) ?_;have ne:s.heap.objs.size ≠ s.heap.objs.size+1:=Nat.ne_of_lt (Nat.lt_succ_self _);refine ⟨by rw [aq ne,ai],Nat.zero_le _,ne,e2,fun _=>none,(Heap.Ns1.of_empty e3).at fun o q=>Heap.get?_push_of_some _ q,fun _=>True.intro,fun y hy=>absurd rfl hy⟩
theorem OO {prog:Program} {w:World} {env:Env} {e:Expr} {f:Str} {pos:Pos} {s:Shared} {Q:Value->Shared->Prop} (hb:attributeBase e f env (eval e env)=eval e env)
  (h:wpAny (model prog w) A (eval e env) (fun o s₁=>wpAny (model prog w) A (getAttr o f true) Q E s₁) E s):wpAny (model prog w) A (eval (.Attribute e f pos) env) Q E s:=
 Attribute_any_ h (by rw [arm_eval_Attribute,hb])
end
def aa9 (K:Zqq) (ta:TE) (f:Str):TE:=fun σ H Q=>ta σ H fun x H1=>∃ a C dx fs v,x=.ref a/\H1 a=some (.ins C dx fs)/\DQ K C/\b8 K C f/\fs.lookup f=some v/\Q v H1
def abY (K:Zqq) (ta tv:TE) (f:Str):TS:=fun D σ H=>tv σ H fun y H1=>ta σ H1 fun x H2=>∃ a C dx fs,x=.ref a/\H2 a=some (.ins C dx fs)/\DQ K C/\b8 K C f/\fs.length < 1000 /\
 D.nx σ (upd H2 a (.ins C dx (gf f y fs)))
def aaA (X:Cx) (op:Operator) (rd:V->V->Hp->VK->Prop):Prop:=
 ∀ (pins:List (Addr×Obj)) (s:Shared) (σ:St) (H:Hp) (x y:V) (u v:Value) (Q:VK),Inv X pins σ H s->RelV x u->RelV y v->rd x y H Q->wpAny (model X.prog X.w) X.A (inplaceOp op u v) (EP X pins σ Q) X.xe s
def VN (K:Zqq) (ta tv:TE) (rd:V->V->Hp->VK->Prop) (f:Str):TS:=fun D σ H=>ta σ H fun x H1=>∃ a C dx fs v,x=.ref a/\H1 a=some (.ins C dx fs)/\DQ K C/\b8 K C f/\fs.lookup f=some v /\
 tv σ H1 fun y H2=>rd v y H2 fun z H3=>∃ dx' fs',H3 a=some (.ins C dx' fs')/\fs'.length < 1000/\D.nx σ (upd H3 a (.ins C dx' (gf f z fs')))
section
variable {X:Cx} {o e value:Expr} {f:Str} {pos pos' tpos:Pos} {ta tv:TE}
theorem aA (he:PE X e ta) (hb:attributeBase e f X.env (eval e X.env)=eval e X.env):PE X (.Attribute e f pos) (aa9 X.K ta f):=by
 intro pins s σ H Q I h;refine OO hb (ee (he pins s σ H _ I h) fun u s1 ⟨x,H1,I1,rx,a,C,dx,fs,v,ex,ea,c,n,l,q⟩=>?_);subst ex;obtain rfl:u=Value.ref a:=rx;exact Eu I1 ea c n l fun u' s2 I2 ru=>⟨v,H1,I2,ru,q⟩
theorem ck (ha:PE X o ta) (hv:PE X value tv) (hs:swapsWith value (some (.Attribute o f pos')) pos.line X.env=pure false):PS X (.Assign [.Attribute o f pos'] value pos) (abY X.K ta tv f):=by
 intro pins s σ H D I h;refine plainObj_wpAny_Assign_Attribute (ee (hv pins s σ H _ I h) fun u s1 ⟨y,H1,I1,ry,q⟩=>ee (ha pins s1 σ H1 _ I1 q) fun ov s2 ⟨x,H2,I2,rx,a,C,dx,fs,ex,ea,c,n,l,q2⟩=>?_) hs;subst ex;obtain rfl:ov=Value.ref a:=rx;exact Ex I2 ea c n l ry fun s3 I3=>⟨σ,_,I3,q2⟩
theorem Qo {op:Operator} {rd:V->V->Hp->VK->Prop} (ha:PE X o ta) (hv:PE X value tv) (hop:aaA X op rd):PS X (.AugAssign (.Attribute o f tpos) op value pos) (VN X.K ta tv rd f):=by
 intro pins s σ H D I h;refine wpAny_AugAssign_AttributeAny (ee (ha pins s σ H _ I h) fun ov s1 ⟨x,H1,I1,rx,a,C,dx,fs,v,ex,ea,c,n,l,q⟩=>?_);subst ex;obtain rfl:ov=Value.ref a:=rx;refine Eu I1 ea c n l fun u s2 I2 ru=>ee (hv pins s2 σ H1 _ I2 q) fun w3 s3 ⟨y,H2,I3,ry,q3⟩=>ee (hop pins s3 σ H2 v y u w3 _ I3 ru ry q3) fun w4 s4 ⟨z,H3,I4,rz,dx',fs',ea',l',q4⟩=>?_;exact Ex I4 ea' c n l' rz fun s5 I5=>⟨σ,_,I5,q4⟩
def abZ:V->V->Hp->VK->Prop:=fun x y H Q=>∃ i j,x=.int i/\y=.int j/\Q (.int (i+j)) H
theorem YR:aaA X .Add abZ:=by
 rintro pins s σ H x y u v Q I rx ry ⟨i,j,rfl,rfl,q⟩;obtain ⟨t,rfl⟩:=(show ∃ t,u=Value.int i t from rx);obtain ⟨t',rfl⟩:=(show ∃ t',v=Value.int j t' from ry);exact PyProof.Rows.iadd_int ⟨.int (i+j),H,I.tok _,⟨_,rfl⟩,q⟩
end
section
variable {X:Cx} {pins:List (Addr×Obj)} {σ:St} {H:Hp} {s:Shared} {A:Around} {E:Value->Shared->Prop} {Q:Value->Shared->Prop} {c:Value} {b:Bool}
end
structure dG (k:Nat) (A:Around):Prop where
 hd:A.handled=none
 dp:A.depth+3 * k+5 < recursionLimit
 un:A.units+16 * k+200 < cLine
theorem dG.mono {j k:Nat} {A:Around} (r:dG k A) (h:j<=k):dG j A:=⟨r.hd,by have:=r.dp;omega,by have:=r.un;omega⟩
theorem dG.deeper {k:Nat} {A:Around} (r:dG (k+1) A) (env:Env):dG k (A.deeper env):=
 ⟨r.hd,by have:=r.dp;show A.depth+1+3 * k+5 < _;omega,by have:=r.un;show A.units+3+16 * k+200 < _;omega⟩
theorem ND {A:Around} {C:Addr} {us:List Value} {kw:List (Str×Value)}:(A.under (.builtin "type.__call__" ⟨.ref C::us,kw⟩)).depth=A.depth+1:=by
 first | rfl | simp [Around.under,Code.weight,Code.isCreation,Code.isGuard,Code.isCaller,Code.frames,Code.isFrame,guardIds]
theorem NF {A:Around} {C:Addr} {us:List Value} {kw:List (Str×Value)}:(A.under (.builtin "type.__call__" ⟨.ref C::us,kw⟩)).units=A.units+1:=by
 first | rfl | simp [Around.under,Code.cUnits,Code.frames,Code.isFrame]
theorem dG.make {k:Nat} {A:Around} (r:dG (k+1) A) (C:Addr) (us:List Value) (kw:List (Str×Value)):dG k (A.under (.builtin "type.__call__" ⟨.ref C::us,kw⟩)):=
 ⟨r.hd,by have:=r.dp;rw [ND];omega,by have:=r.un;rw [NF];omega⟩
theorem dG.depth {k:Nat} {A:Around} (r:dG k A):A.depth < recursionLimit:=by have:=r.dp;omega
theorem dG.YS {k:Nat} {A:Around} (r:dG k A):A.units < cLine:=by have:=r.un;omega
def S9:TA:=fun _ H Q=>Q [] H
def OP (ta:TE) (tr:TA):TA:=fun σ H Q=>ta σ H fun x H1=>tr σ H1 fun xs H2=>Q (x::xs) H2
section
variable {X:Cx} {e:Expr} {es:List Expr} {te:TE} {t:TA} {pos:Pos}
theorem au:PA X [] S9:=fun _ _ _ _ H Q I h=>Calls.spliced_nil ⟨[],H,I,.nil,h⟩
theorem af (ha:PE X e te) (hr:PA X es t) (hs:starEach (e::es) X.env=(false,eval e X.env)::starEach es X.env:=by rfl):PA X (e::es) (OP te t):=by
 intro pos pins s σ H Q I h;rw [hs];show wpAny _ _ (spliced ((false,eval e X.env)::backTo pos (starEach es X.env))) _ _ s;refine Calls.spliced_cons (ee (ha pins s σ H _ I h) fun u s1 ⟨x,H1,I1,r1,q1⟩=>?_);exact ee (hr pos pins s1 σ H1 _ I1 q1) fun us s2 ⟨xs,H2,I2,r2,q2⟩=>⟨x::xs,H2,I2,.cons r1 r2,q2⟩
def acd (t:TA):TE:=fun σ H Q=>t σ H fun xs H1=>xs.length<=sizeLine/\∀ p,H1 p=none->Q (.ref p) (upd H1 p (.tup xs))
def ace (t:TA):TE:=fun σ H Q=>t σ H fun xs H1=>xs.length<=sizeLine/\∀ p,H1 p=none->Q (.ref p) (upd H1 p (.lst xs))
theorem mD {x1} (h:PA X es t):PE X (.Tuple es x1 pos) (acd t):=by
 intro pins s σ H Q I hq;refine wpAny_Tuple_spliced (ee (h pos pins s σ H _ I hq) fun us s1 ⟨xs,H1,I1,r,z,q⟩=>⟨by rw [<- r.length];exact z,?_⟩);have hf:H1 s1.heap.objs.size=none:=I1.hok.fresh (Nat.le_refl _);refine ⟨.ref s1.heap.objs.size,upd H1 s1.heap.objs.size (.tup xs),I1.laid (t':=s1.toks) (fun b u e=>Heap.get?_push_of_some _ e) (Nat.le_refl _) ?_,rfl,q _ hf⟩;exact ⟨z,us,r,⟨_,Heap.get?_push_size _ rfl,rfl,_,rfl⟩⟩
theorem jM (h:PA X es t):PE X (.List es pos) (ace t):=by
 intro pins s σ H Q I hq;refine wpAny_List_spliced (ee (h pos pins s σ H _ I hq) fun us s1 ⟨xs,H1,I1,r,z,q⟩=>⟨by rw [<- r.length];exact z,?_⟩);have hf:H1 s1.heap.objs.size=none:=I1.hok.fresh (Nat.le_refl _);refine ⟨.ref s1.heap.objs.size,upd H1 s1.heap.objs.size (.lst xs),I1.laid (t':=s1.toks) (fun b u e=>Heap.get?_push_of_some _ e) (Nat.le_refl _) ?_,rfl,q _ hf⟩;exact ⟨z,us,0,r,Heap.get?_push_size _ rfl⟩
end
abbrev Sp:=List V->Hp->VK->XK->Prop
abbrev Nr:=List Env->Hp->Shared->XK->Value->Shared->Prop
structure Ja (P:Program) (w:World) (K:Zqq) (mg:Str->Option Value) (base:Heap) (A:Around) (outer:List Env) (s:Shared) (H:Hp):Prop where
 frames:A.frames=some outer
 mod:Mod K mg base
 bs:∀ b o,base.get? b=some o->s.heap.get? b=some o/\H b=none
 Qi:base.objs.size<=s.heap.objs.size
 zd:s.heap.FunFrames base outer
 Sm:∀ b ∈ frs outer,H b=none
 hok:wj P w H s.heap
 bare:AllBare s.gens
def CE (outer:List Env) (P:Program) (w:World) (H:Hp) (s:Shared) (Q:VK) (u:Value) (s':Shared):Prop:=
 ∃ v H',s'.os=s.os/\AllBare s'.gens/\Un (frs outer) [] H H' s.heap s'.heap/\wj P w H' s'.heap/\RelV v u/\Q v H'
def CR (CX:Nr) (outer:List Env) (P:Program) (w:World) (H:Hp) (s:Shared) (Q:VK) (E:XK) (r:Result) (s':Shared):Prop:=
 match r with
 | .ok (.ret u)=>CE outer P w H s Q u s'
 | .ok _=>False
 | .error e=>CX outer H s E e s'
structure bF (P:Program) (w:World) (K:Zqq) (mg:Str->Option Value) (base:Heap) (CX:Nr) (k:Nat) (f:Addr) (fd:FuncData) (ps:List Str) (sp:Sp):Prop where
 len:∀ vs H Q E,sp vs H Q E->vs.length=ps.length
 run:∀ (A:Around) (outer:List Env) (s:Shared) (H:Hp) (args:Args) (us:List Value) (vs:List V) (Q:VK) (E:XK),dG k A->Ja P w K mg base A outer s H->BindsTo s fd args (ps.zip us)->Vals vs us->sp vs H Q E->
   codeAny (model P w) A (.call (.ref f) args) (CR CX outer P w H s Q E) s
theorem bF.mono {P:Program} {w:World} {K:Zqq} {mg:Str->Option Value} {base:Heap} {CX:Nr} {j k:Nat} {f:Addr} {fd:FuncData} {ps:List Str} {sp:Sp} (F:bF P w K mg base CX j f fd ps sp) (h:j<=k) :
   bF P w K mg base CX k f fd ps sp:=⟨F.len,fun A outer s H args us vs Q E hr=>F.run A outer s H args us vs Q E (hr.mono h)⟩
theorem Ja.make {P:Program} {w:World} {K:Zqq} {mg:Str->Option Value} {base:Heap} {A:Around} {outer:List Env} {s:Shared} {H:Hp} (e:Ja P w K mg base A outer s H) (C:Addr) (us:List Value) (kw:List (Str×Value)) :
   Ja P w K mg base (A.under (.builtin "type.__call__" ⟨.ref C::us,kw⟩)) outer s H:=⟨by first | exact e.frames | (simpa [Around.under,Code.envs,Code.isFrame,pushEnvs] using e.frames),e.mod,e.bs,e.Qi,e.zd,e.Sm,e.hok,e.bare⟩
section
variable {X:Cx} {pins:List (Addr×Obj)} {σ:St} {H:Hp} {s s':Shared}
theorem Inv.VO (I:Inv X pins σ H s):Ja X.prog X.w X.K X.mg X.base X.A X.stack s H:=
 ⟨I.ok.frames,I.ok.mod,I.bs,Nat.le_trans I.ok.Qi I.sz,I.stack,I.IU,I.hok,I.bare⟩
theorem Inv.after {Q:VK} {u:Value} (I:Inv X pins σ H s) (h:CE X.stack X.prog X.w H s Q u s'):EP X pins σ Q u s':=by
 obtain ⟨v,H',os,bare,un,hok,r,q⟩:=h;obtain ⟨hh,g,d,t,os'⟩:=s';obtain rfl:os'=s.os:=os;exact ⟨v,H',I.call (h':=hh) (g':=g) (d':=d) (t':=t) (ch:=[]) un hok bare (fun b z=>absurd z (by simp)),r,q⟩
end
def SG (sp:Sp) (Gp:List V) (E:XK) (t:TA):TE:=fun σ H Q=>t σ H fun vs H1=>sp (vs++Gp) H1 Q E
def Yc (C:Addr) (m:Str) (sp:Sp) (Gp:List V) (E:XK) (ta:TE) (t:TA):TE:=fun σ H Q=>ta σ H fun x H1=>∃ a dx fs,x=.ref a/\H1 a=some (.ins C dx fs)/\fs.lookup m=none /\
 t σ H1 fun vs H2=>sp (x::(vs++Gp)) H2 Q E
def aaB (C:Addr) (sp:Sp) (Gp:List V) (E:XK) (t:TA):TE:=fun σ H Q=>t σ H fun vs H1=>∀ x dx,H1 x=none->H1 dx=none->dx ≠ x->
 sp (.ref x::(vs++Gp)) (upd (upd H1 dx (.own x)) x (.ins C dx [])) (fun v H2=>v=.non/\Q (.ref x) H2) E
def Binds (K:Zqq) (fd:FuncData) (ps:List Str) (ds:List Value):Prop:=
 ∀ (s:Shared) (us:List Value),K.In s.heap->(us++ds).length=ps.length->BindsTo s fd ⟨us,[]⟩ (ps.zip (us++ds))
theorem Binds.all {K:Zqq} {fd:FuncData} {ps:List Str} (h:∀ us:List Value,us.length=ps.length->bindArgs fd ⟨us,[]⟩=pure (ps.zip us)):Binds K fd ps []:=fun s us _ hl=>by
 rw [List.append_nil] at hl ⊢
 exact .of_eq (h us hl)
def Passes (CX:Nr) (X:Cx) (E:XK):Prop:=∀ (pins:List (Addr×Obj)) (σ:St) (H:Hp) (s:Shared) (e:Value) (s':Shared),Inv X pins σ H s->CX X.stack H s E e s'->X.xe e s'
section
variable {X:Cx} {CX:Nr} {k:Nat} {f C:Addr} {fd:FuncData} {ps:List Str} {sp:Sp} {Gp:List V} {ds:List Value} {E:XK} {x m:Str} {p pos apos:Pos} {e o:Expr} {es:List Expr} {ta:TE} {t:TA}
theorem Ez {pins:List (Addr×Obj)} {σ:St} {H:Hp} {s:Shared} {Q:VK} {us:List Value} {vs:List V} (F:bF X.prog X.w X.K X.mg X.base CX k f fd ps sp) (hr:dG k X.A) (hb:Binds X.K fd ps ds) (hd:Vals Gp ds) (hx:Passes CX X E)
  (I:Inv X pins σ H s) (r:Vals vs us) (h:sp (vs++Gp) H Q E):wpAny (model X.prog X.w) X.A (call (.ref f) us) (EP X pins σ Q) X.xe s:=by
 have r2:Vals (vs++Gp) (us++ds):=r.append hd;have hl:(us++ds).length=ps.length:=by rw [<- r2.length];exact F.len _ _ _ _ h
 refine wpAny_call (codeAny_mono (F.run X.A X.stack s H ⟨us,[]⟩ (us++ds) (vs++Gp) Q E hr I.VO (hb s us I.z8 hl) r2 h) fun r s' hq=>?_);cases r with
 | error e=>exact hx pins σ H s e s' I hq
 | ok fl=>
  cases fl with
  | ret u=>exact I.after hq
  | next=>exact False.elim hq
  | brk=>exact False.elim hq
  | cont=>exact False.elim hq
theorem bx (F:bF X.prog X.w X.K X.mg X.base CX k f fd ps sp) (hr:dG k X.A) (hg:Gl X x) (hm:X.mg x=some (.ref f)) (hk:PySem.W.keepIn X.K (.ref f)=true) (hb:Binds X.K fd ps ds) (hd:Vals Gp ds) (hx:Passes CX X E)
  (ha:PA X (e::es) t) (hdb:(x==("__debug__":Str))=false:=by decide) (he:starEach (e::es) X.env=(false,eval e X.env)::starEach es X.env:=by rfl) (hpl:(backTo pos (starEach es X.env)).any (·.1)=false:=by rfl) :
  PE X (.Call (.Name x p) (e::es) [] pos) (SG sp Gp E t):=by
 intro pins s σ H Q I h;refine wpAny_Call_Name_kw (yM I hg hm ?_ hdb);refine PySem.W.callWith_K (h₀:=X.base) I.ok.mod.kin hk (ee (ha pos pins s σ H _ I h) fun us s1 ⟨vs,H1,I1,r,q⟩=>⟨I1.z8,?_⟩) he hpl;exact Ez F hr hb hd hx I1 r q
theorem aW {pl:Sem Bool} (he:PE X o ta) (c:DQ X.K C) (hm:Meth X.K C m f) (F:bF X.prog X.w X.K X.mg X.base CX k f fd ps sp) (hr:dG k X.A) (hb:Binds X.K fd ps ds) (hd:Vals Gp ds) (hx:Passes CX X E) (ha:PA X (e::es) t)
   (hst:starEach (e::es) X.env=(false,eval e X.env)::starEach es X.env:=by rfl) (hpl:(backTo pos (starEach es X.env)).any (·.1)=false:=by rfl)
   (ht:eval (.Call (.Attribute o m apos) (e::es) [] pos) X.env=(do
     let ov <- eval o X.env
     standAt apos.atName
     let (f,first) <- holding [ov] (getMethod ov m pl)
     callWith pos f first (backTo pos (starEach (e::es) X.env)) (backToKw pos (keywordEach [] X.env))):=by rfl) :
   PE X (.Call (.Attribute o m apos) (e::es) [] pos) (Yc C m sp Gp E ta t):=by
 intro pins s σ H Q I h;refine PySem.W.methodCall_KW (pl:=pl) (ee (he pins s σ H _ I h) fun u s1 ⟨x,H1,I1,rx,a,dx,fs,ex,ea,l,q⟩=>?_) ht;subst ex;obtain rfl:u=Value.ref a:=rx;refine Ew I1 ea c hm l ?_;refine PySem.W.callWith_K (first:=[.ref a]) (h₀:=X.base) I.ok.mod.kin hm.kp (ee (ha pos pins s1 σ H1 _ I1 q) fun us s2 ⟨vs,H2,I2,r,q2⟩=>⟨I2.z8,?_⟩) hst hpl;exact Ez (us:=.ref a::us) (vs:=.ref a::vs) F hr hb hd hx I2 (.cons rfl r) q2
theorem SH {pl:Sem Bool} (he:PE X o ta) (c:DQ X.K C) (hm:Meth X.K C m f) (F:bF X.prog X.w X.K X.mg X.base CX k f fd ps sp) (hr:dG k X.A) (hb:Binds X.K fd ps ds) (hd:Vals Gp ds) (hx:Passes CX X E)
   (ht:eval (.Call (.Attribute o m apos) [] [] pos) X.env=(do
     let ov <- eval o X.env
     standAt apos.atName
     let (f,first) <- holding [ov] (getMethod ov m pl)
     callWith pos f first (backTo pos (starEach [] X.env)) (backToKw pos (keywordEach [] X.env))):=by rfl) :
   PE X (.Call (.Attribute o m apos) [] [] pos) (Yc C m sp Gp E ta S9):=by
 intro pins s σ H Q I h;refine PySem.W.methodCall_KW (pl:=pl) (ee (he pins s σ H _ I h) fun u s1 ⟨x,H1,I1,rx,a,dx,fs,ex,ea,l,q⟩=>?_) ht;subst ex;obtain rfl:u=Value.ref a:=rx;refine Ew I1 ea c hm l ?_;exact PySem.W.callWith_K0 (first:=[.ref a]) I1.z8 hm.kp (Ez (us:=[.ref a]) (vs:=[.ref a]) F hr hb hd hx I1 (.cons rfl .nil) q)
structure Mk (K:Zqq) (C f:Addr):Prop where
 makes:PySem.W.makesIn K C=true
 init:PySem.W.findIn K (.ref C) "__init__"=some (some (.ref f))
 fn:PySem.W.isFn K (.ref f)=true
 kp:PySem.W.keepIn K (.ref C)=true
theorem SI {pins:List (Addr×Obj)} {σ:St} {H:Hp} {s:Shared} {Q:VK} {us:List Value} {vs:List V} (M:Mk X.K C f) (F:bF X.prog X.w X.K X.mg X.base CX k f fd ps sp) (hr:dG (k+1) X.A) (hb:Binds X.K fd ps ds) (hd:Vals Gp ds)
   (hx:Passes CX X E) (I:Inv X pins σ H s) (r:Vals vs us)
   (h:∀ x dx,H x=none->H dx=none->dx ≠ x->sp (.ref x::(vs++Gp)) (upd (upd H dx (.own x)) x (.ins C dx [])) (fun v H2=>v=.non/\Q (.ref x) H2) E) :
   wpAny (model X.prog X.w) X.A (call (.ref C) us) (EP X pins σ Q) X.xe s:=by
 have hq:=h (s.heap.objs.size+1) s.heap.objs.size (I.hok.fresh (Nat.le_succ _)) (I.hok.fresh (Nat.le_refl _)) (Nat.ne_of_lt (Nat.lt_succ_self _));have I2:=Inv.made (C:=C) I;have r2:Vals (V.ref (s.heap.objs.size+1)::(vs++Gp)) (Value.ref (s.heap.objs.size+1)::(us++ds)):=.cons rfl (r.append hd);have hl:(Value.ref (s.heap.objs.size+1)::us++ds).length=ps.length:=by
   have e:=r2.length;rw [F.len _ _ _ _ hq] at e;exact e.symm
 refine wpAny_call (S8 (f:=f) I.z8 M.makes M.init (beq_iff_eq.mp M.fn) (codeAny_mono (F.run _ X.stack _ _ ⟨Value.ref (s.heap.objs.size+1)::us,[]⟩ (Value.ref (s.heap.objs.size+1)::(us++ds)) _ _ E (hr.make C us [])
   (I2.VO.make C us []) (hb _ (Value.ref (s.heap.objs.size+1)::us) I2.z8 hl) r2 hq) fun r s' hq'=>?_))
 cases r with
 | error e=>exact hx pins σ _ _ e s' I2 hq'
 | ok fl=>
   cases fl with
   | ret u=>
     obtain ⟨v,H',I3,rv,ev,q3⟩:=I2.after hq';subst ev;exact ⟨rv,⟨V.ref (s.heap.objs.size+1),H',I3,rfl,q3⟩⟩
   | next=>exact False.elim hq'
   | brk=>exact False.elim hq'
   | cont=>exact False.elim hq'
theorem qI (M:Mk X.K C f) (F:bF X.prog X.w X.K X.mg X.base CX k f fd ps sp) (hr:dG (k+1) X.A) (hg:Gl X x) (hm:X.mg x=some (.ref C)) (hb:Binds X.K fd ps ds) (hd:Vals Gp ds) (hx:Passes CX X E)
  (ha:PA X (e::es) t) (hdb:(x==("__debug__":Str))=false:=by decide) (he:starEach (e::es) X.env=(false,eval e X.env)::starEach es X.env:=by rfl) (hpl:(backTo pos (starEach es X.env)).any (·.1)=false:=by rfl) :
  PE X (.Call (.Name x p) (e::es) [] pos) (aaB C sp Gp E t):=by
 intro pins s σ H Q I h;refine wpAny_Call_Name_kw (yM I hg hm ?_ hdb);refine PySem.W.callWith_K (h₀:=X.base) I.ok.mod.kin M.kp (ee (ha pos pins s σ H _ I h) fun us s1 ⟨vs,H1,I1,r,q⟩=>⟨I1.z8,?_⟩) he hpl;exact SI M F hr hb hd hx I1 r q
end
def PK (X:Cx) (kws:List Keyword) (t:TA):Prop:=
 ∀ (pos:Pos) (pins:List (Addr×Obj)) (s:Shared) (σ:St) (H:Hp) (Q:List V->Hp->Prop),Inv X pins σ H s->t σ H Q->wpAny (model X.prog X.w) X.A (evalAll ((backToKw pos (keywordEach kws X.env)).map (·.2))) (AP X pins σ Q) X.xe s
section
variable {X:Cx} {CX:Nr} {k:Nat} {f C:Addr} {fd:FuncData} {ps ks:List Str} {sp:Sp} {E:XK} {x m:Str} {p pos apos kpos:Pos} {e o:Expr} {es:List Expr} {kws:List Keyword} {te ta:TE} {t tk:TA} {nm:Option Str}
theorem YT:PK X [] S9:=fun _ _ _ _ H Q I h=>wpAny_evalAll_nil ⟨[],H,I,.nil,h⟩
theorem VP (ha:PE X e te) (hr:PK X kws t):PK X (⟨nm,e,kpos⟩::kws) (OP te t):=by
 intro pos pins s σ H Q I h;show wpAny _ _ (evalAll ((do let v <- eval e X.env;standAt pos;pure v)::(backToKw pos (keywordEach kws X.env)).map (·.2))) _ _ s;refine wpAny_evalAll_cons (wpAny_bind (ee (ha pins s σ H _ I h) fun u s1 ⟨x,H1,I1,r1,q1⟩=>wpAny_bind (wpAny_standAt (wpAny_pure ?_))));exact ee (hr pos pins s1 σ H1 _ I1 q1) fun us s2 ⟨xs,H2,I2,r2,q2⟩=>⟨x::xs,H2,I2,.cons r1 r2,q2⟩
variable {g:List Value->List Value->List Value} {gV:List V->List V->List V}
end
structure aQ (N P:List Str) (sc:Scope):Prop where
 kind:sc.kind=.function
 co:sc.isCoroutine=false
 gen:sc.isGenerator=false
 nd:N.Nodup
 pre:N.take P.length=P
 par:∀ x ∈ P,sc.names.lookup x=some .local\/sc.names.lookup x=some .cell
 YU:∀ y ∈ sc.names,y.2 ≠ .free
theorem HL {kindOf:Str->Option NameKind} {x:Str}:∀ {binds:List (Str×Value)} {m:Str->Option Value},(∀ v,(x,v) ∉ binds)->bindL kindOf binds m x=m x
 | [],_,_=>rfl
 | (n,v)::r,m,h=>by
   unfold bindL
   rw [HL fun w hw=>h w (List.mem_cons_of_mem _ hw)]
   split
   . have:x ≠ n:=by rintro rfl;exact h v List.mem_cons_self
     simp [this]
   . rfl
theorem HM {kindOf:Str->Option NameKind} {x:Str}:∀ {binds:List (Str×Value)} {m:Str->Option Value},(∀ v,(x,v) ∉ binds)->bindC kindOf binds m x=m x
 | [],_,_=>rfl
 | (n,v)::r,m,h=>by
   unfold bindC
   rw [HM fun w hw=>h w (List.mem_cons_of_mem _ hw)]
   split
   . rfl
   . have:x ≠ n:=by rintro rfl;exact h v List.mem_cons_self
     simp [this]
theorem HN {kindOf:Str->Option NameKind} {x:Str} {v:Value}:∀ {P:List Str} {vs:List Value} {i:Nat} {m:Str->Option Value},P.Nodup->P[i]?=some x->vs[i]?=some v->kindOf x=some .local->
  bindL kindOf (P.zip vs) m x=some v
 | [],_,_,_,_,h,_,_=>by simp at h
 | _::_,[],_,_,_,_,h,_=>by simp at h
 | p::P,w::vs,0,m,nd,h1,h2,hk=>by
  simp at h1 h2;subst h1;subst h2
  show bindL kindOf ((p,w)::P.zip vs) m p=_
  unfold bindL
  rw [HL fun v hv=>(List.nodup_cons.mp nd).1 (List.of_mem_zip hv).1,if_pos hk]
  simp
 | p::P,w::vs,i+1,m,nd,h1,h2,hk=>by
  show bindL kindOf ((p,w)::P.zip vs) m x=_
  unfold bindL
  exact HN (i:=i) (List.nodup_cons.mp nd).2 (by simpa using h1) (by simpa using h2) hk
theorem HP {kindOf:Str->Option NameKind} {x:Str} {v:Value}:∀ {P:List Str} {vs:List Value} {i:Nat} {m:Str->Option Value},P.Nodup->P[i]?=some x->vs[i]?=some v->kindOf x ≠ some .local->
  bindC kindOf (P.zip vs) m x=some v
 | [],_,_,_,_,h,_,_=>by simp at h
 | _::_,[],_,_,_,_,h,_=>by simp at h
 | p::P,w::vs,0,m,nd,h1,h2,hk=>by
  simp at h1 h2;subst h1;subst h2
  show bindC kindOf ((p,w)::P.zip vs) m p=_
  unfold bindC
  rw [HM fun v hv=>(List.nodup_cons.mp nd).1 (List.of_mem_zip hv).1,if_neg hk]
  simp
 | p::P,w::vs,i+1,m,nd,h1,h2,hk=>by
  show bindC kindOf ((p,w)::P.zip vs) m x=_
  unfold bindC
  exact HP (i:=i) (List.nodup_cons.mp nd).2 (by simpa using h1) (by simpa using h2) hk
def start (N:List Str) (vs:List V):St:=vs.map some++List.replicate (N.length - vs.length) none
def vc (CX:Nr) (P:Program) (w:World) (K:Zqq) (mg:Str->Option Value) (base:Heap) (N:List Str) (qual:Str) (scope:Scope) (f:Addr) (cd:Value) (A:Around) (outer:List Env) (s:Shared) (H:Hp) (E:XK):Cx where
 prog:=P
 w:=w
 K:=K
 mg:=mg
 base:=base
 A:=A.deeper (envOfC qual scope s.heap.objs.size f cd)
 N:=N
 BO:=s
 YA:=H
 env:=envOfC qual scope s.heap.objs.size f cd
 outer:=outer
 stack:=envOfC qual scope s.heap.objs.size f cd::outer
 ex:=[]
 calm:=true
 fn:=fun _=>true
 pn:=[]
 xe:=fun e s'=>wpAny (model P w) (A.deeper (envOfC qual scope s.heap.objs.size f cd)) (leaving (envOfC qual scope s.heap.objs.size f cd) e) (fun _ s''=>CX outer H s E e s'') (fun e' s''=>CX outer H s E e' s'') s'
theorem Lh {sc:Scope} {n:Nat} {x:Str} (h:sc.names.lookup x=some .cell):∃ c,(cellsFrom n sc.names []).lookup x=some c:=by
 have q:=PySem.W.cellsFrom_some sc.names n [] (.inl h);exact Option.isSome_iff_exists.mp q
theorem HQ {CX:Nr} {P:Program} {w:World} {K:Zqq} {mg:Str->Option Value} {base:Heap} {N ps:List Str} {qual:Str} {scope:Scope} {f:Addr} {cd:Value} {A:Around} {outer:List Env} {s s1:Shared} {H:Hp} {E:XK} {us:List Value} {vs:List V}
   (S:aQ N ps scope) (hd:A.handled=none) (e0:Ja P w K mg base A outer s H) (hl:vs.length=ps.length) (r:Vals vs us)
   (x:InCallC s s.heap.objs.size (bindL (envOfC qual scope s.heap.objs.size f cd).kindOf (ps.zip us) fun _=>none) (cellsFrom (s.heap.objs.size+1) scope.names []) (bindC (envOfC qual scope s.heap.objs.size f cd).kindOf (ps.zip us) fun _=>none) s1) :
   Inv (vc CX P w K mg base N qual scope f cd A outer s H E) [] (start N vs) H s1:=by
 have hpl:ps.length<=N.length:=by have:=congrArg List.length S.pre;rw [List.length_take] at this;omega
 obtain ⟨h1,tk,rfl,hk⟩:=x.done;have noA:∀ b:Addr,b ∉ (vc CX P w K mg base N qual scope f cd A outer s H E).ex:=fun b z=>absurd (show b ∈ ([]:List Addr) from z) (by simp);refine ⟨⟨e0.mod,S.kind,rfl,rfl,Nat.le_refl _,fun y z c h1 h2=>?_,fun y hy=>?_,fun y c _ h=>?_,fun _=>hd,Around.frames_deeper e0.frames,.inr ⟨rfl,rfl⟩,fun b z=>absurd z (noA b),e0.bs,e0.Qi,fun b _ _=>noA b,fun b z=>absurd z (noA b),e0.zd,e0.Sm⟩,
   rfl,e0.bare,Un.kept hk,⟨_,x.toInCall.ns,fun i y v h1 h2 h3=>?_⟩,fun y c h=>⟨_,x.cell y c h⟩,e0.hok.fresh (Nat.le_refl _),fun y c h=>?_,fun p hp=>absurd (show p ∈ ([]:List (Addr×Obj)) from hp) (by simp),e0.hok.kept hk,?_⟩
 . exact name_of_addr x.apart (PySem.mem_of_lookup h1) (PySem.mem_of_lookup h2)
 . have hy:scope.names.lookup y=some .cell\/scope.names.lookup y=some .free:=hy
   rcases hy with hy | hy
   . exact Lh hy
   . exact absurd rfl (S.YU _ (PySem.mem_of_lookup hy))
 . exact Nat.le_of_lt (x.above y c (PySem.mem_of_lookup h))
 . have hi:i < vs.length:=by
     unfold start at h2;by_cases hi:i < vs.length
     . exact hi
     . rw [List.getElem?_append_right (by simpa using hi)] at h2
       rw [List.getElem?_replicate] at h2;split at h2<;>cases h2
   have ha:vs[i]?=some v:=by
     unfold start at h2;rw [List.getElem?_append_left (by simpa using hi),List.getElem?_map] at h2;cases e:vs[i]? with
     | none=>rw [e] at h2;cases h2
     | some a=>rw [e] at h2;cases h2;rfl
   obtain ⟨u,hu,rv⟩:=r.get ha;have hp:ps[i]?=some y:=by
     rw [<- S.pre,List.getElem?_take_of_lt (by omega)];exact h1
   have ndP:ps.Nodup:=by rw [<- S.pre];exact S.nd.sublist (List.take_sublist _ _)
   refine ⟨u,rv,?_⟩;rcases S.par y (List.mem_of_getElem? hp) with k | k
   . exact .inl ⟨k,HN ndP hp hu k⟩
   . obtain ⟨c,e⟩:=Lh (n:=s.heap.objs.size+1) k
     refine .inr ⟨.inl k,c,e,?_⟩;have q:=x.cell y c e;rw [HP ndP hp hu (by show scope.names.lookup y ≠ _;rw [k];decide)] at q;exact q
 . exact e0.hok.fresh (Nat.le_of_lt (x.above y c (PySem.mem_of_lookup h)))
 . unfold start
   show _=N.length;rw [List.length_append,List.length_map,List.length_replicate];omega
theorem Yd {CX:Nr} {P:Program} {w:World} {K:Zqq} {mg:Str->Option Value} {base:Heap} {k:Nat} {f:Addr} {name qual:Str} {params:Arguments} {body:List Stmt} {scope:Scope} {dV kV doc pm cdv ct oc:Value} {an od:Option Addr}
   {osl:Array (Option Value)} {N ps:List Str} {sp:Sp} (lk:K.lookup f=some ⟨oc,od,.func (PySem.W.fnOf name qual params body scope dV kV doc pm an cdv ct),osl⟩) (hcd:PySem.W.codeIn K cdv qual=true) (S:aQ N ps scope)
   (len:∀ vs H Q E,sp vs H Q E->vs.length=ps.length)
   (hbody:∀ (A:Around) (outer:List Env) (s:Shared) (H:Hp) (vs:List V) (Q:VK) (E:XK),dG k (A.deeper (envOfC qual scope s.heap.objs.size f cdv))->sp vs H Q E->
     ∃ t,Le (vc CX P w K mg base N qual scope f cdv A outer s H E) body t/\t { nx:=fun _ H'=>Q .non H',rt:=Q } (start N vs) H) :
   bF P w K mg base CX (k+1) f (PySem.W.fnOf name qual params body scope dV kV doc pm an cdv ct) ps sp:=by
 refine ⟨len,fun A outer s H args us vs Q E hr e0 hb r NG=>?_⟩;have hl:=len _ _ _ _ NG;have KX:K.In s.heap:=e0.mod.kin.keeps fun b o e=>(e0.bs b o e).1;have lim:s.heap.NoLimit:=e0.mod.nolimit.keeps fun b o e=>(e0.bs b o e).1;have hkind:∀ y ∈ ps.zip us,scope.names.lookup y.1=some .local\/(scope.names.lookup y.1=some .cell/\((cellsFrom (s.heap.objs.size+1) scope.names []).lookup y.1).isSome=true):=fun ⟨n,v⟩ hy=>by
   rcases S.par n (List.of_mem_zip hy).1 with q | q
   . exact .inl q
   . exact .inr ⟨q,PySem.W.cellsFrom_some _ _ _ (.inl q)⟩
 refine codeAny_call_function hr.depth (KX _ _ lk) rfl S.co S.gen rfl (PySem.W.codeRec_of KX hcd) (hb _ _ _ _ ?_);refine wpAny_newFunctionEnv_cells S.kind hkind fun env he s1 x=>?_;subst he;refine ⟨lim.keeps x.toInCall.keep,codeAny_func ?_⟩;obtain ⟨t,ht,hq⟩:=hbody A outer s H vs Q E (hr.deeper _) NG;have I:Inv (vc CX P w K mg base N qual scope f cdv A outer s H E) [] (start N vs) H s1:=HQ S hr.hd e0 hl r x;refine wpAny_mono (ht [] s1 (start N vs) H _ I hq) (fun fl s' hs=>?_) fun e s' hs=>hs;have fin:∀ {σ':St} {H':Hp} {v:V} {u:Value},Inv (vc CX P w K mg base N qual scope f cdv A outer s H E) [] σ' H' s'->RelV v u->Q v H'->CE outer P w H s Q u s':=
   fun {σ' H' v u} J rv q=>⟨v,H',J.os,J.bare,J.base,J.hok,rv,q⟩
 cases fl with
 | ret u=>
   obtain ⟨v,σ',H',J,rv,q⟩:=hs;exact fin J rv q
 | next=>
   obtain ⟨σ',H',J,q⟩:=hs;exact fin (v:=V.non) (u:=Value.none) J rfl q
 | brk=>
   obtain ⟨_,_,_,q⟩:=hs;exact False.elim q
 | cont=>
   obtain ⟨_,_,_,q⟩:=hs;exact False.elim q
section
variable {X:Cx} {x:Str} {p pos:Pos} {e:Expr} {es:List Expr} {t:TA} {id T:String} {r:List V->Hp->VK->Prop}
def tCB (r:List V->Hp->VK->Prop) (t:TA):TE:=fun σ H Q=>t σ H fun vs H1=>r vs H1 Q
theorem c6 (hc:HH X (.builtin id) r) (hg:Gl X x) (hm:X.mg x=none) (hv:bootBuiltins x=some (.builtin id)) (ha:PA X (e::es) t) (hn:x ≠ "__name__":=by decide) (hdb:(x==("__debug__":Str))=false:=by decide)
  (he:starEach (e::es) X.env=(false,eval e X.env)::starEach es X.env:=by rfl) (hpl:(backTo pos (starEach es X.env)).any (·.1)=false:=by rfl):PE X (.Call (.Name x p) (e::es) [] pos) (tCB r t):=by
 intro pins s σ H Q I h;refine wpAny_Call_Name_kw (z9 I hg hm hv ?_ hn hdb);exact PyProof.Rows.callWith_builtin1 (ee (ha pos pins s σ H _ I h) fun us s1 ⟨vs,H1,I1,r1,q1⟩=>hc pins s1 σ H1 vs us Q I1 r1 q1) he hpl
theorem yN (hc:HH X (.type T) r) (hg:Gl X x) (hm:X.mg x=none) (hv:bootBuiltins x=some (.type T)) (ha:PA X (e::es) t) (hn:x ≠ "__name__":=by decide) (hdb:(x==("__debug__":Str))=false:=by decide)
  (he:starEach (e::es) X.env=(false,eval e X.env)::starEach es X.env:=by rfl) (hpl:(backTo pos (starEach es X.env)).any (·.1)=false:=by rfl):PE X (.Call (.Name x p) (e::es) [] pos) (tCB r t):=by
 intro pins s σ H Q I h;refine wpAny_Call_Name_kw (z9 I hg hm hv ?_ hn hdb);exact PyProof.Rows.callWith_type1 (ee (ha pos pins s σ H _ I h) fun us s1 ⟨vs,H1,I1,r1,q1⟩=>hc pins s1 σ H1 vs us Q I1 r1 q1) he hpl
end
end L2
namespace HT
open PySem PyProof.Rows
theorem SK (A:Around) (s:Shared) (a:Int) (t:Tok) (c:Int) (u:Tok):∃ e,SeqAt.EqAt A s (.int a t) (.int c u) e/\(e=true ↔ a=c):=
 ⟨(a==c),SeqAt.EqAt.int_int a t c u,by simp⟩
section
open PySem.SeqAt
open PySem.AutoSeq1 (wpAny_loadPart')
open PySem.MeetsSeq PySem.MeetsSeq2 PySem.MeetsSeq3
end
section
variable {prog:Program} {w:World} {A:Around} {E:Value->Shared->Prop} {s:Shared}
def KY (n d:Nat):Option Int->Nat
 | none=>d
 | some v=>if v < 0 then (v+(n:Int)).toNat else min v.toNat n
theorem SM (n d:Nat):KY n d none=d:=rfl
theorem VQ (n d k:Nat):KY n d (some (k:Int))=min k n:=by
 show (if (k:Int) < 0 then ((k:Int)+(n:Int)).toNat else min (k:Int).toNat n)=min k n;rw [if_neg (by omega),Int.toNat_natCast]
end
end HT
namespace L2
open PySem PySem.Spec PyProof.Rows
abbrev TO:=St->Hp->(Option Int->Hp->Prop)->Prop
def PO (X:Cx) (e:Option Expr) (t:TO):Prop:=
 ∀ (pins:List (Addr×Obj)) (s:Shared) (σ:St) (H:Hp) (Q:Option Int->Hp->Prop),Inv X pins σ H s->t σ H Q->
   wpAny (model X.prog X.w) X.A (evalPart e X.env) (fun u s'=>∃ o H',Inv X pins σ H' s'/\IsPart u o/\Q o H') X.xe s
def VR:TO:=fun _ H Q=>Q none H
def aaC (t:TE):TO:=fun σ H Q=>t σ H fun x H1=>∃ i,x=.int i/\Q (some i) H1
theorem intsAre_of {ns:List Int}:∀ {us:List Value},Vals (ns.map V.int) us->IntsAre us ns:=by
 induction ns with
 | nil=>intro us r;rw [List.map_nil] at r;cases r;exact .nil
 | cons n ns ih=>
  intro us r;rw [List.map_cons] at r;cases r with
  | cons r1 r2=>
   obtain ⟨t,e⟩:=r1;subst e;exact .cons n t (ih r2)
section
variable {X:Cx} {e:Expr} {te:TE} {lo hi:Option Expr} {tl th:TO} {pos p2:Pos}
theorem OQ:PO X none VR:=by
 intro pins s σ H Q I h;rw [evalPart_none];exact wpAny_pure ⟨none,H,I,.none,h⟩
theorem OS (h:PE X e te):PO X (some e) (aaC te):=by
 intro pins s σ H Q I hw;rw [evalPart_some];refine ee (h pins s σ H _ I hw) fun u s1 ⟨x,H1,I1,r1,q1⟩=>?_;obtain ⟨i,rfl,q⟩:=q1;obtain ⟨t,rfl⟩:=r1;exact ⟨some i,H1,I1,.int i t,q⟩
def SlR (X:Cx) (r:V->Option Int->Option Int->Hp->VK->Prop):Prop:=
 ∀ (pins:List (Addr×Obj)) (s:Shared) (σ:St) (H:Hp) (x:V) (v vl vu:Value) (lo hi:Option Int) (sl:Addr) (Q:VK),Inv X pins σ H s->RelV x v->s.heap.IsSliceOf sl vl vu .none->IsPart vl lo->IsPart vu hi->r x lo hi H Q->
   ∃ T id,typeLookup (.type T) "__getitem__"=pure (some (.builtin id))/\s.TypeIs v T/\wpAny (model X.prog X.w) X.A (getItem v (.ref sl)) (EP X pins σ Q) X.xe s
def tSl (r:V->Option Int->Option Int->Hp->VK->Prop) (te:TE) (tl th:TO):TE:=fun σ H Q=>te σ H fun x H1=>tl σ H1 fun l H2=>th σ H2 fun u H3=>r x l u H3 Q
theorem Li {r:V->Option Int->Option Int->Hp->VK->Prop} (hr:SlR X r) (he:PE X e te) (hl:PO X lo tl) (hu:PO X hi th):PE X (.Subscript e (.Slice lo hi none p2) pos) (tSl r te tl th):=by
 intro pins s σ H Q I h;refine Subscript_ (ee (he pins s σ H _ I h) fun v s1 ⟨x,H1,I1,r1,q1⟩=>?_);refine wpAny_Slice (ee (hl pins s1 σ H1 _ I1 q1) fun vl s2 ⟨l,H2,I2,pl,q2⟩=>ee (hu pins s2 σ H2 _ I2 q2) fun vu s3 ⟨u,H3,I3,pu,q3⟩=>?_);rw [evalPart_none];refine wpAny_pure ?_;have I4:Inv X pins σ H3 { s3 with heap:=s3.heap.push { cls:=.type "slice",data:=.fields #[vl,vu,.none] } }:=I3.kept (t':=s3.toks) fun b ob q=>Heap.get?_push_of_some _ q
 obtain ⟨T,id,hT,ht,hg⟩:=hr pins { s3 with heap:=s3.heap.push { cls:=.type "slice",data:=.fields #[vl,vu,.none] } } σ H3 x v vl vu l u s3.heap.objs.size Q I4 r1 (Heap.IsSliceOf.new ..) pl pu q3;show wpAny (model X.prog X.w) X.A (subscriptTail e (.Slice lo hi none p2) v (.ref s3.heap.objs.size)) (EP X pins σ Q) X.xe { s3 with heap:=s3.heap.push { cls:=.type "slice",data:=.fields #[vl,vu,.none] } };exact tail_any (ops:=[.ref s3.heap.objs.size,v]) ht hT hg (by with_unfolding_all rfl)
def Jb (xs:List V) (lo hi:Option Int):List V:=(xs.drop (HT.KY xs.length 0 lo)).take (HT.KY xs.length xs.length hi - HT.KY xs.length 0 lo)
theorem Lj (xs:List V) (lo hi:Option Int):(Jb xs lo hi).length<=xs.length:=by
 unfold Jb;rw [List.length_take,List.length_drop];omega
end
def VT (n:Nat) (i:Int):Option Nat:=if 0<=i then (if i < n then some i.toNat else none) else if -(n:Int)<=i then some (i+n).toNat else none
def SN {α:Type} (xs:List α) (i:Int):Option α:=(VT xs.length i).bind fun j=>xs[j]?
theorem OT {n:Nat} {i:Int} {j:Nat} (h:VT n i=some j):seqIndex? i n=some j/\j < n/\-(n:Int)<=i/\i < n:=by
 unfold VT at h;by_cases h0:0<=i
 . rw [if_pos h0] at h
   by_cases h1:i < n
   . rw [if_pos h1] at h
     have e:i.toNat=j:=Option.some.inj h;exact ⟨by rw [seqIndex_of h0 h1,e],by omega,by omega,h1⟩
   . rw [if_neg h1] at h;cases h
 . rw [if_neg h0] at h
   by_cases h1:-(n:Int)<=i
   . rw [if_pos h1] at h
     have e:(i+n).toNat=j:=Option.some.inj h;exact ⟨by rw [seqIndex_neg (by omega) h1,e],by omega,h1,by omega⟩
   . rw [if_neg h1] at h;cases h
theorem OU {α:Type} {xs:List α} {i:Int} {v:α} (h:SN xs i=some v):∃ j,seqIndex? i xs.length=some j/\xs[j]?=some v/\j < xs.length/\-(xs.length:Int)<=i/\i < xs.length:=by
 unfold SN at h;cases e:VT xs.length i with
 | none=>rw [e] at h;cases h
 | some j=>
  rw [e] at h;obtain ⟨h1,h2,h3,h4⟩:=OT e;exact ⟨j,h1,h,h2,h3,h4⟩
theorem bh {α:Type} {xs:List α} {j:Nat} {v:α} (h:xs[j]?=some v):SN xs (j:Int)=some v:=by
 have hj:j < xs.length:=(Zqz h);have e:VT xs.length (j:Int)=some j:=by
  unfold VT;rw [if_pos (by omega),if_pos (by omega)];simp
 unfold SN;rw [e];exact h
def VU (b:Expr):Prop:=∀ o i,subscripted b false o i=operate [o,i] (getItem o i)
def IxR (X:Cx) (r:R2):Prop:=
 ∀ (value slice:Expr) (pins:List (Addr×Obj)) (s:Shared) (σ:St) (H:Hp) (x y:V) (v u:Value) (Q:VK),Inv X pins σ H s->RelV x v->RelV y u->r x y H Q->
   subscripted slice false v u=operate [v,u] (getItem v u)->wpAny (model X.prog X.w) X.A (subscriptTail value slice v u) (EP X pins σ Q) X.xe s
def MtR (X:Cx) (id:String) (r:V->List V->Hp->VK->Prop):Prop:=
 ∀ (pins:List (Addr×Obj)) (s:Shared) (σ:St) (H:Hp) (x:V) (xs:List V) (v:Value) (us:List Value) (Q:VK),Inv X pins σ H s->RelV x v->Vals xs us->r x xs H Q->
   wpAny (model X.prog X.w) X.A (call (.builtin id) (v::us)) (EP X pins σ Q) X.xe s
section
variable {X:Cx} {a b:Expr} {ta tb:TE} {pos:Pos}
theorem bT {r:R2} (hr:IxR X r) (ha:PE X a ta) (hb:PE X b tb) (hs:VU b):PE X (.Subscript a b pos) (tOp r ta tb):=by
 intro pins s σ H Q I h;exact Subscript_ (YK ha hb I h fun v u s2 x y H2 I2 rx ry q=>hr a b pins s2 σ H2 x y v u Q I2 rx ry q (hs _ _))
def aaD (K:Zqq):R2:=fun x y H Q=>∃ p xs i v,x=.ref p/\y=.int i/\bI K H p xs/\SN xs i=some v/\Q v H
def acg (K:Zqq):R2:=fun x y H Q=>∃ p xs i v,x=.ref p/\y=.int i/\oj K H p xs/\SN xs i=some v/\Q v H
theorem b6:IxR X (aaD X.K):=by
 intro value slice pins s σ H x y v u Q I rx ry h hs;obtain ⟨p,xs,i,z,rfl,rfl,hq,he,q⟩:=h;cases rx;obtain ⟨t,rfl⟩:=ry;obtain ⟨its,r,pl,hz⟩:=I.list hq;obtain ⟨j,h1,h2,h3,h4,h5⟩:=OU he;obtain ⟨w,ew,rw'⟩:=r.get h2;have hl:=r.length;have hn:=BS;have fin:EP X pins σ Q w s:=⟨z,H,I,rw',q⟩;by_cases h0:0<=i
 . have hj:i.toNat=j:=by
     rw [seqIndex_of h0 h5] at h1;exact Option.some.inj h1
   exact item_listR pl.isList h0 (by omega) (by rw [hj];simpa using ew) fin hs
 . have hj:(i+(its.toArray.size:Int)).toNat=j:=by
     rw [seqIndex_neg (by omega) h4] at h1;rw [List.size_toArray,<- hl];exact Option.some.inj h1
   exact subscriptTail_builtinR (x:=w) pl.isList.typeIs slot_list_getitem.lookup
     (wpAny_getItem_list_neg (Q:=fun r s'=>r=w/\EP X pins σ Q r s') pl.isList (by omega) (by rw [List.size_toArray]<;>omega) (by omega) (by rw [hj];simpa using ew) ⟨rfl,fin⟩) hs
theorem xr:IxR X (acg X.K):=by
 intro value slice pins s σ H x y v u Q I rx ry h hs;obtain ⟨p,xs,i,z,rfl,rfl,hq,he,q⟩:=h;cases rx;obtain ⟨t,rfl⟩:=ry;obtain ⟨its,r,pl,hz⟩:=I.tuple hq;obtain ⟨j,h1,h2,h3,h4,h5⟩:=OU he;obtain ⟨w,ew,rw'⟩:=r.get h2;have hl:=r.length;have hn:=BS;have fin:EP X pins σ Q w s:=⟨z,H,I,rw',q⟩;exact subscriptTail_builtinR (x:=w) pl.typeIs slot_tuple_getitem.lookup
   (getItem_tuple (j:=j) (Q:=fun r s'=>r=w/\EP X pins σ Q r s') pl (by omega) (by omega) (by rw [List.size_toArray,<- hl];exact h1) (by simpa using ew) ⟨rfl,fin⟩) hs
theorem NH (its:List Value) (n j:Nat) (u:Value):Obj.mapSeq (·.setIfInBounds j u) { cls:=.type "list",data:=.seq its.toArray n }={ cls:=.type "list",data:=.seq (its.set j u).toArray n }:=by
 simp [Obj.mapSeq]
theorem Inv.lst {pins:List (Addr×Obj)} {σ:St} {H:Hp} {s:Shared} {p:Addr} {xs:List V} (I:Inv X pins σ H s) (h:H p=some (.lst xs)) :
  ∃ (its:List Value) (n:Nat),Vals xs its/\s.heap.get? p=some { cls:=.type "list",data:=.seq its.toArray n }/\xs.length<=sizeLine:=by
 obtain ⟨z,its,n,r,e⟩:=I.hok p _ h;exact ⟨its,n,r,e,z⟩
theorem Inv.YV {pins:List (Addr×Obj)} {σ:St} {H:Hp} {s:Shared} {p:Addr} {xs ys:List V} {its its':List Value} {n n':Nat} {f:Obj->Obj} (I:Inv X pins σ H s) (h:H p=some (.lst xs))
  (ho:s.heap.get? p=some { cls:=.type "list",data:=.seq its.toArray n }) (hf:f { cls:=.type "list",data:=.seq its.toArray n }={ cls:=.type "list",data:=.seq its'.toArray n' }) (r:Vals ys its') (hz:ys.length<=sizeLine) (t:Nat) :
  Inv X pins σ (upd H p (.lst ys)) { s with heap:=s.heap.update p f,toks:=t }:=by
 have e:(s.heap.update p f).get? p=some { cls:=.type "list",data:=.seq its'.toArray n' }:=by
  rw [Heap.get?_update_self f ho (by rw [hf]<;>rfl),hf]
 refine I.write (x:=p) (e:=p) (by rw [h];trivial) (.inl rfl) (fun b u hb q=>(Heap.get?_update_other _ _ (Ne.symm hb)).trans q) ⟨_,e⟩ ?_;exact ⟨hz,its',n',r,e⟩
def aaE:V->V->V->Hp->(Hp->Prop)->Prop:=fun o i v H Q=>∃ p xs k j,o=.ref p/\i=.int k/\H p=some (.lst xs)/\VT xs.length k=some j/\Q (upd H p (.lst (xs.set j v)))
theorem set_list:YG X aaE:=by
 intro pins s σ H o i v ov iv u Q I ro ri rv h;obtain ⟨p,xs,k,j,rfl,rfl,hp,hj,q⟩:=h;cases ro;obtain ⟨t,rfl⟩:=ri;obtain ⟨its,n,r,ho,hz⟩:=I.lst hp;obtain ⟨h1,h2,h3,h4⟩:=OT hj;have hl:=r.length;have hn:=BS;have I':Inv X pins σ (upd H p (.lst (xs.set j v))) { s with heap:=s.heap.update p (Obj.mapSeq (·.setIfInBounds j u)) }:=
   I.YV hp ho (NH its n j u) (r.set rv j) (by rw [List.length_set];exact hz) s.toks
 by_cases h0:0<=k
 . have hk:k.toNat=j:=by
     rw [seqIndex_of h0 h4] at h1;exact Option.some.inj h1
   exact PySem.W.ki_setAt ho h0 (by omega) (by rw [List.size_toArray,<- hl];exact h4) (by rw [hk];exact ⟨_,I',q⟩)
 . have hk:(k+(its.toArray.size:Int)).toNat=j:=by
     rw [seqIndex_neg (by omega) h3] at h1;rw [List.size_toArray,<- hl];exact Option.some.inj h1
   exact PySem.W.ki_setBack ho (by omega) (by rw [List.size_toArray,<- hl];exact h3) (by omega) (by rw [hk];exact ⟨_,I',q⟩)
theorem Jc (lo hi:Option Int) (n:Nat):(sliceBounds lo hi none n).1=((HT.KY n 0 lo:Nat):Int)/\(sliceBounds lo hi none n).2.1=((HT.KY n n hi:Nat):Int)/\(sliceBounds lo hi none n).2.2=1:=by
 refine ⟨?_,?_,rfl⟩
 . cases lo with
   | none=>simp [sliceBounds,HT.KY]
   | some i=>
     simp only [sliceBounds,HT.KY,Option.getD_none,show (1:Int) > 0 by decide,if_true];by_cases h:i < 0
     . simp only [h,if_true]<;>omega
     . simp only [h,if_false]<;>omega
 . cases hi with
   | none=>simp [sliceBounds,HT.KY]
   | some i=>
     simp only [sliceBounds,HT.KY,Option.getD_none,show (1:Int) > 0 by decide,if_true];by_cases h:i < 0
     . simp only [h,if_true]<;>omega
     . simp only [h,if_false]<;>omega
theorem Gq (its:List Value) (lo hi:Option Int):slicePick its.toArray lo hi none=((its.drop (HT.KY its.length 0 lo)).take (HT.KY its.length its.length hi - HT.KY its.length 0 lo)).toArray:=by
 obtain ⟨h1,h2,h3⟩:=Jc lo hi its.toArray.size;unfold slicePick;rw [h1,h2,h3];simp only [sliceRange_one,pick_run,List.size_toArray]<;>rfl
def ach (K:Zqq):V->Option Int->Option Int->Hp->VK->Prop:=fun x lo hi H Q=>∃ a xs,x=.ref a/\bI K H a xs/\∀ p,H p=none->Q (.ref p) (upd H p (.lst (Jb xs lo hi)))
theorem OV:SlR X (ach X.K):=by
 intro pins s σ H x v vl vu lo hi sl Q I rx hs pl pu h;obtain ⟨a,xs,rfl,hx,q⟩:=h;cases rx;obtain ⟨its,r,ht,hz⟩:=I.list hx;have hlen:=r.length;refine ⟨"list",_,slot_list_getitem.lookup,ht.isList.typeIs,?_⟩;refine wpAny_getItem_list_slice ht.isList hs pl pu .none (by simp) ?_ (by rw [List.size_toArray]<;>omega);rw [Gq,<- hlen];refine ⟨.ref s.heap.objs.size,_,I.laid (t':=s.toks) (o:=.lst (Jb xs lo hi)) (fun b ob q=>Heap.get?_push_of_some _ q) (Nat.le_refl _) ?_,rfl,q _ (I.hok.fresh (Nat.le_refl _))⟩;exact ⟨Nat.le_trans (Lj xs lo hi) hz,_,0,(r.drop (HT.KY xs.length 0 lo)).take (HT.KY xs.length xs.length hi - HT.KY xs.length 0 lo),Heap.get?_push_size _ rfl⟩
def t7:V->Bool
 | .non=>true
 | .bl _=>true
 | .int _=>true
 | .str _=>true
 | _=>false
def Sj:V->V->Bool
 | .non,.non=>true
 | .bl a,.bl b=>a==b
 | .bl a,.int b=>(if a then 1 else 0)==b
 | .int a,.bl b=>a==(if b then 1 else 0)
 | .int a,.int b=>a==b
 | .str a,.str b=>a==b
 | _,_=>false
theorem YW {A:Around} {s:Shared} {y x:V} {u v:Value} (ry:RelV y u) (rx:RelV x v) (fy:t7 y=true) (fx:t7 x=true):SeqAt.EqAt A s u v (Sj y x):=by
 cases y with
 | non=>
  cases ry;cases x with
  | non=>cases rx;exact SeqAt.EqAt.same _
  | bl b=>cases rx;exact SeqAt.EqAt.none_bool b
  | int b=>obtain ⟨t,rfl⟩:=rx;exact SeqAt.EqAt.none_int b t
  | str b=>obtain ⟨t,rfl⟩:=rx;exact SeqAt.EqAt.none_str b t
  | _=>exact absurd (show false=true from fx) Bool.false_ne_true
 | bl a=>
  cases ry;cases x with
  | non=>cases rx;exact SeqAt.EqAt.bool_none a
  | bl b=>cases rx;exact SeqAt.EqAt.bool_bool a b
  | int b=>obtain ⟨t,rfl⟩:=rx;exact SeqAt.EqAt.bool_int a b t
  | str b=>obtain ⟨t,rfl⟩:=rx;exact SeqAt.EqAt.bool_str a b t
  | _=>exact absurd (show false=true from fx) Bool.false_ne_true
 | int a=>
  obtain ⟨t',rfl⟩:=ry;cases x with
  | non=>cases rx;exact SeqAt.EqAt.int_none a t'
  | bl b=>cases rx;exact SeqAt.EqAt.int_bool a t' b
  | int b=>obtain ⟨t,rfl⟩:=rx;exact SeqAt.EqAt.int_int a t' b t
  | str b=>obtain ⟨t,rfl⟩:=rx;exact SeqAt.EqAt.int_str a t' b t
  | _=>exact absurd (show false=true from fx) Bool.false_ne_true
 | str a=>
  obtain ⟨t',rfl⟩:=ry;cases x with
  | non=>cases rx;exact SeqAt.EqAt.str_none a t'
  | bl b=>cases rx;exact SeqAt.EqAt.str_bool a t' b
  | int b=>obtain ⟨t,rfl⟩:=rx;exact SeqAt.EqAt.str_int a t' b t
  | str b=>obtain ⟨t,rfl⟩:=rx;exact SeqAt.EqAt.str_str a t' b t
  | _=>exact absurd (show false=true from fx) Bool.false_ne_true
 | _=>exact absurd (show false=true from fy) Bool.false_ne_true
def Nt (x:V) (u:Value):Bool:=match u with
 | .none=>Sj .non x
 | .bool b=>Sj (.bl b) x
 | .int i _=>Sj (.int i) x
 | .str z _=>Sj (.str z) x
 | _=>false
theorem Jd {x y:V} {u:Value} (r:RelV y u) (f:t7 y=true):Nt x u=Sj y x:=by
 cases y with
 | non=>cases r;rfl
 | bl b=>cases r;rfl
 | int i=>obtain ⟨t,rfl⟩:=r;rfl
 | str z=>obtain ⟨t,rfl⟩:=r;rfl
 | _=>exact absurd (show false=true from f) Bool.false_ne_true
theorem An {x:V}:∀ {xs:List V} {us:List Value},Vals xs us->xs.all t7=true->us.any (Nt x)=xs.any fun y=>Sj y x
 | _,_,.nil,_=>rfl
 | y::xs,u::us,.cons r t,f=>by
  rw [List.all_cons,Bool.and_eq_true] at f
  rw [List.any_cons,List.any_cons,Jd r f.1,An t f.2]
theorem u0 {A:Around} {s:Shared} {x:V} {v:Value} (rx:RelV x v) (fx:t7 x=true):∀ {xs:List V} {us:List Value},Vals xs us->xs.all t7=true->∀ u ∈ us,SeqAt.EqAt A s u v (Nt x u)
 | _,_,.nil,_=>fun u hu=>by cases hu
 | y::xs,u::us,.cons r t,f=>fun u' hu=>by
   rw [List.all_cons,Bool.and_eq_true] at f
   rcases List.mem_cons.mp hu with rfl | hu
   . rw [Jd r f.1];exact YW r rx f.1 fx
   . exact u0 rx fx t f.2 u' hu
def Lk (x:V) (xs:List V):Bool:=xs.any fun y=>Sj y x
def rIn (K:Zqq) (neg:Bool):R2:=fun x y H Q=>∃ p xs,y=.ref p/\(bI K H p xs\/oj K H p xs)/\t7 x=true/\xs.all t7=true/\Q (.bl (if neg then !Lk x xs else Lk x xs)) H
theorem u4:BR X (compareOp .In) (rIn X.K false):=by
 intro pins s σ H x y v u Q I rx ry h;obtain ⟨p,xs,rfl,hq,fx,fs,q⟩:=h;cases ry;rcases hq with hq | hq
 . obtain ⟨its,r,pl,hz⟩:=I.list hq
   refine SeqAt.in_listAt (Nt x) pl.isList (fun w hw=>u0 rx fx r fs w (by simpa using hw)) ⟨.bl _,H,I,rfl,?_⟩;rw [show its.toArray.any (Nt x)=its.any (Nt x) by simp,An r fs];exact q
 . obtain ⟨its,r,pl,hz⟩:=I.tuple hq
   refine SeqAt.in_tupleAt (Nt x) pl (fun w hw=>u0 rx fx r fs w (by simpa using hw)) ⟨.bl _,H,I,rfl,?_⟩;rw [show its.toArray.any (Nt x)=its.any (Nt x) by simp,An r fs];exact q
theorem qJ:BR X (compareOp .NotIn) (rIn X.K true):=by
 intro pins s σ H x y v u Q I rx ry h;obtain ⟨p,xs,rfl,hq,fx,fs,q⟩:=h;cases ry;rcases hq with hq | hq
 . obtain ⟨its,r,pl,hz⟩:=I.list hq
   refine SeqAt.notIn_listAt (Nt x) pl.isList (fun w hw=>u0 rx fx r fs w (by simpa using hw)) ⟨.bl _,H,I,rfl,?_⟩;rw [show its.toArray.any (Nt x)=its.any (Nt x) by simp,An r fs];exact q
 . obtain ⟨its,r,pl,hz⟩:=I.tuple hq
   refine SeqAt.notIn_tupleAt (Nt x) pl (fun w hw=>u0 rx fx r fs w (by simpa using hw)) ⟨.bl _,H,I,rfl,?_⟩;rw [show its.toArray.any (Nt x)=its.any (Nt x) by simp,An r fs];exact q
theorem bz:HH X (.builtin "len") (fun xs H Q=>∃ p ys,xs=[.ref p]/\(bI X.K H p ys\/oj X.K H p ys)/\Q (.int ys.length) H):=by
 intro pins s σ H xs us Q I r h;obtain ⟨p,ys,rfl,hq,q⟩:=h;obtain ⟨u,rfl,rx⟩:=vals1 r;cases rx;have hn:=BS;rcases hq with hq | hq
 . obtain ⟨its,r',pl,hz⟩:=I.list hq
   have hlen:=r'.length;exact Calls.call_len_list pl.isList (by simp only [List.size_toArray]<;>omega) ⟨.int ys.length,H,I.tok _,⟨s.toks+1,by rw [List.size_toArray,hlen]⟩,q⟩
 . obtain ⟨its,r',pl,hz⟩:=I.tuple hq
   have hlen:=r'.length;exact len_tuple pl (by simp only [List.size_toArray]<;>omega) ⟨.int ys.length,H,I.tok _,⟨s.toks+1,by rw [List.size_toArray,hlen]⟩,q⟩
theorem Je:HH X (.type "list") (fun xs H Q=>∃ p ys,xs=[.ref p]/\(bI X.K H p ys\/oj X.K H p ys)/\∀ l,H l=none->Q (.ref l) (upd H l (.lst ys))):=by
 intro pins s σ H xs us Q I r h;obtain ⟨p,ys,rfl,hq,q⟩:=h;obtain ⟨u,rfl,rx⟩:=vals1 r;cases rx;have fin:∀ (its:List Value),Vals ys its->ys.length<=sizeLine->∀ (h':Heap) (c':Nat),(∀ b o',s.heap.get? b=some o'->h'.get? b=some o')->
     h'.get? s.heap.objs.size=some { cls:=.type "list",dict:=none,data:=.seq its.toArray c',slots:=#[] }->EP X pins σ Q (.ref s.heap.objs.size) { s with heap:=h' }:=fun its r' hz h' c' kp e=>
   ⟨.ref s.heap.objs.size,_,I.laid (t':=s.toks) kp (Nat.le_refl _) (show dZ X.prog X.w _ h' _ (.lst ys) from ⟨hz,its,c',r',e⟩),rfl,q _ (I.hok.fresh (Nat.le_refl _))⟩
 rcases hq with hq | hq
 . obtain ⟨its,r',pl,hz⟩:=I.list hq
   have hlen:=r'.length;obtain ⟨o,ho,hc,n,hd⟩:=pl.isList;exact call_list_seq p (.inl rfl) ho hc hd (fun h' c' kp e=>fin its r' hz h' c' kp e) (by simp only [List.size_toArray]<;>omega)
 . obtain ⟨its,r',pl,hz⟩:=I.tuple hq
   have hlen:=r'.length;obtain ⟨o,ho,hc,n,hd⟩:=pl;exact call_list_seq p (.inr rfl) ho hc hd (fun h' c' kp e=>fin its r' hz h' c' kp e) (by simp only [List.size_toArray]<;>omega)
theorem uc:HH X (.type "tuple") (fun xs H Q=>∃ p ys,xs=[.ref p]/\((bI X.K H p ys/\∀ l,H l=none->Q (.ref l) (upd H l (.tup ys)))\/(oj X.K H p ys/\Q (.ref p) H))):=by
 intro pins s σ H xs us Q I r h;obtain ⟨p,ys,rfl,h⟩:=h;obtain ⟨u,rfl,rx⟩:=vals1 r;cases rx;rcases h with ⟨hq,q⟩ | ⟨hq,q⟩
 . obtain ⟨its,r',pl,hz⟩:=I.list hq
   have hlen:=r'.length;refine call_tuple_list pl.isList (fun h' kp=>?_) (by simp only [List.size_toArray]<;>omega);have I1:Inv X pins σ H { s with heap:=h' }:=I.kept (t':=s.toks) kp;have I2:Inv X pins σ (upd H h'.objs.size (.tup ys)) { s with heap:=h'.push { cls:=.type "tuple",data:=.seq its.toArray } }:=
     I1.laid (t':=s.toks) (fun b o e=>Heap.get?_push_of_some _ e) (Nat.le_refl _) (show dZ X.prog X.w _ _ _ (.tup ys) from ⟨hz,its,r',IsTup.new _ _⟩)
   exact ⟨.ref h'.objs.size,_,I2,rfl,q _ (I1.hok.fresh (Nat.le_refl _))⟩
 . obtain ⟨its,r',pl,hz⟩:=I.tuple hq
   exact call_tuple_same pl ⟨.ref p,H,I,rfl,q⟩
def tyV (K:Zqq) (T:String) (x:V) (H:Hp):Prop:=match x with
 | .str _=>T = "str"
 | .int _=>T = "int"
 | .ref p=>(T = "list"/\∃ xs,bI K H p xs)\/(T = "tuple"/\∃ o,K.lookup p=some o/\o.cls=.type "tuple"/\o.dict=none) \/
     (T = "dict"/\((∃ kvs,H p=some (.dK kvs))\/∃ kvs,H p=some (.dT kvs)))\/(T = "set"/\∃ S n,H p=some (.set S n))
 | _=>False
theorem YX {pins:List (Addr×Obj)} {σ:St} {H:Hp} {s:Shared} {T:String} {x:V} {v:Value} (I:Inv X pins σ H s) (r:RelV x v) (ty:tyV X.K T x H) :
   s.TypeIs v T/\∀ a,v=.ref a->∃ ob,s.heap.get? a=some ob/\ob.dict=none:=by
 cases x with
 | str z=>
   obtain ⟨t,rfl⟩:=r;cases (show T = "str" from ty);exact ⟨typeIs_str s z t,fun _ e=>nomatch e⟩
 | int i=>
   obtain ⟨t,rfl⟩:=r;cases (show T = "int" from ty);exact ⟨typeIs_int s i t,fun _ e=>nomatch e⟩
 | ref p=>
   cases r;rcases ty with ⟨rfl,xs,hq⟩ | ⟨rfl,o,hk,hc,hd⟩ | ⟨rfl,hk⟩ | ⟨rfl,S,n,hk⟩
   . obtain ⟨its,_,pl,_⟩:=I.list hq
     refine ⟨pl.isList.typeIs,fun a e=>?_⟩;cases e;obtain ⟨o,n,e,c,hd,_⟩:=pl;exact ⟨o,e,hd⟩
   . refine ⟨⟨o,I.z8 p o hk,hc⟩,fun a e=>?_⟩
     cases e;exact ⟨o,I.z8 _ o hk,hd⟩
   . have z:∃ o,s.heap.get? p=some o/\o.ExactDict:=by
       rcases hk with ⟨kvs,hk⟩ | ⟨kvs,hk⟩
       . obtain ⟨_,_,_,_,o,_,_,e,ex,_⟩:=I.hok p _ hk
         exact ⟨o,e,ex⟩
       . obtain ⟨_,_,_,_,o,_,_,e,ex,_⟩:=I.hok p _ hk
         exact ⟨o,e,ex⟩
     obtain ⟨o,e,ex⟩:=z;refine ⟨⟨o,e,ex.1⟩,fun a e2=>?_⟩;cases e2;exact ⟨o,e,ex.2.1⟩
   . obtain ⟨o,_,_,_,e,ex,_⟩:=I.hok p _ hk
     refine ⟨⟨o,e,ex.1⟩,fun a e2=>?_⟩;cases e2;exact ⟨o,e,ex.2.1⟩
 | _=>exact False.elim ty
def tBM (K:Zqq) (T:String) (r:V->List V->Hp->VK->Prop) (to:TE) (t:TA):TE:=fun σ H Q=>to σ H fun x H1=>tyV K T x H1/\t σ H1 fun xs H2=>r x xs H2 Q
variable {o e:Expr} {es:List Expr} {to:TE} {t:TA} {name:Str} {apos cpos:Pos} {T id:String} {r:V->List V->Hp->VK->Prop}
theorem u5 (pa:PlainAttrs T) (slot:Slot T name id) (hty:typeOf (.builtin id)=pure (.type "method_descriptor")) (hm:MtR X id r) (ho:PE X o to) (ha:PA X (e::es) t)
   (hbase:attributeBase o name X.env (eval o X.env)=eval o X.env:=by rfl)
   (hfew:((backTo cpos (starEach (e::es) X.env)).all (fun x=>!x.1)&&(backToKw cpos (keywordEach [] X.env)).all (fun x=>x.1.isSome)
    &&decide ((e::es).length+([]:List Keyword).length+(if ([]:List Keyword).isEmpty then 0 else 1) < 30))=true:=by rfl)
   (hline:(apos.endLine==cpos.line)=true:=by rfl) (hs:starEach (e::es) X.env=(false,eval e X.env)::starEach es X.env:=by rfl) (hplain:(backTo cpos (starEach es X.env)).any (·.1)=false:=by rfl) :
   PE X (.Call (.Attribute o name apos) (e::es) [] cpos) (tBM X.K T r to t):=by
 intro pins s σ H Q I h;refine wpAny_Call_method_late hbase hfew hline rfl (ee (ho pins s σ H _ I h) fun v s1 ⟨x,H1,I1,r1,ty,q1⟩=>?_);obtain ⟨h1,h2⟩:=YX I1 r1 ty;refine ⟨T,id,pa,slot,hty,h1,h2,?_⟩;have hA:=ha cpos pins s1 σ H1 _ I1 q1;rw [hs] at hA ⊢;refine Calls.callWith_builtin (by show (false||(backTo cpos (starEach es X.env)).any (·.1))=false;rw [hplain]<;>rfl) (Calls.evalArgs_plain ?_);exact ee hA fun us s2 ⟨vs,H2,I2,r2,q2⟩=>hm pins s2 σ H2 x vs v us Q I2 r1 r2 q2
end
def MtM (X:Cx) (id:String) (r:V->List V->Hp->VK->Prop):Prop:=
 ∀ (pins:List (Addr×Obj)) (s:Shared) (σ:St) (H:Hp) (x:V) (xs:List V) (v:Value) (us:List Value) (Q:VK),Inv X pins σ H s->RelV x v->Vals xs us->r x xs H Q->
   wpAny (model X.prog X.w) X.A (call (.builtin id) (v::us)) (EP X pins σ Q) X.xe s
theorem Vals.one:∀ {x:V} {us:List Value},Vals [x] us->∃ u,us=[u]/\RelV x u
 | _,_,.cons r .nil=>⟨_,rfl,r⟩
theorem Vals.eraseIdx:∀ {xs:List V} {us:List Value} (i:Nat),Vals xs us->Vals (xs.eraseIdx i) (us.eraseIdx i)
 | _,_,_,.nil=>.nil
 | _,_,0,.cons _ t=>t
 | _,_,i+1,.cons r t=>.cons r (Vals.eraseIdx i t)
theorem Vals.rep {xs:List V} {us:List Value} (h:Vals xs us):∀ k:Nat,Vals (List.replicate k xs).flatten (List.replicate k us).flatten
 | 0=>.nil
 | k+1=>by
  rw [List.replicate_succ,List.replicate_succ,List.flatten_cons,List.flatten_cons]
  exact Vals.append h (Vals.rep h k)
theorem HR {α:Type}:∀ (l:List α) (i:Nat),(l.eraseIdx i).length<=l.length
 | [],_=>Nat.le_refl _
 | _::_,0=>Nat.le_succ _
 | _::r,i+1=>Nat.succ_le_succ (HR r i)
theorem foldl_rep (its:List Value):∀ (k:Nat) (acc:List Value),
  List.foldl (fun x1 x2=>x1++x2) acc.toArray (List.replicate k its.toArray)=(acc++(List.replicate k its).flatten).toArray
 | 0,acc=>by simp
 | k+1,acc=>by
  have e:acc.toArray++its.toArray=(acc++its).toArray:=by simp
  have e2:(acc++its)++(List.replicate k its).flatten=acc++(List.replicate (k+1) its).flatten:=by
   rw [List.replicate_succ,List.flatten_cons,List.append_assoc]
  rw [<- e2,<- foldl_rep its k (acc++its),<- e,List.replicate_succ,List.foldl_cons]
section
variable {X:Cx} {pins:List (Addr×Obj)} {σ:St} {H:Hp} {s:Shared} {l b:Addr} {xs ys zs:List V}
theorem Inv.aaF {its its':List Value} {n:Nat} {f:Array Value->Array Value} {t':Nat} (I:Inv X pins σ H s) (hH:H l=some (.lst xs))
  (e:s.heap.get? l=some { cls:=.type "list",data:=.seq its.toArray n }) (hf:f its.toArray=its'.toArray) (hv:Vals ys its') (hz:ys.length<=sizeLine) :
  Inv X pins σ (upd H l (.lst ys)) { s with heap:=s.heap.update l (Obj.mapSeq f),toks:=t' }:=by
 have q:=PySem.IsL.update e f;rw [hf] at q;refine I.write (x:=l) (e:=l) (by rw [hH];exact trivial) (.inl rfl) (fun b' u hb hu=>(Heap.get?_update_other s.heap (Obj.mapSeq f) (Ne.symm hb)).trans hu) ⟨_,q⟩ ?_;exact ⟨hz,its',_,hv,q⟩
theorem Inv.aaG {its:List Value} {t':Nat} (I:Inv X pins σ H s) (hv:Vals ys its) (hz:ys.length<=sizeLine) :
  Inv X pins σ (upd H s.heap.objs.size (.lst ys)) { s with heap:=s.heap.push { cls:=.type "list",data:=.seq its.toArray },toks:=t' }:=
 I.laid (fun _ _ q=>Heap.get?_push_of_some _ q) (Nat.le_refl _) ⟨hz,its,0,hv,Heap.get?_push_size _ rfl⟩
theorem Inv.fresh (I:Inv X pins σ H s):H s.heap.objs.size=none:=I.hok.fresh (Nat.le_refl _)
theorem Inv.SQ (I:Inv X pins σ H s) (hH:H l=some (.lst xs)):xs.length<=sizeLine/\∃ (its:List Value) (n:Nat),Vals xs its/\xs.length=its.length/\s.heap.get? l=some { cls:=.type "list",data:=.seq its.toArray n }:=by
 obtain ⟨z,its,n,r,e⟩:=I.hok l _ hH;exact ⟨z,its,n,r,r.length,e⟩
theorem SR {n:Nat} (h:n<=sizeLine):Builtin.List.listTooLong n=false:=by
 unfold Builtin.List.listTooLong;exact decide_eq_false (by omega)
end
section
variable {X:Cx}
def VW:V->List V->Hp->VK->Prop:=fun x vs H Q=>∃ l xs y,x=.ref l/\vs=[y]/\H l=some (.lst xs)/\xs.length < sizeLine/\Q .non (upd H l (.lst (xs++[y])))
theorem jw:MtM X "list.append" VW:=by
 intro pins s σ H x vs v us Q I rx rv h;obtain ⟨l,xs,y,rfl,rfl,hH,hz,q⟩:=h;cases rx;obtain ⟨u,rfl,ru⟩:=rv.one;obtain ⟨z,its,n,r,hl,e⟩:=I.SQ hH;refine call_meets F.slot_list_append ⟨_,e,rfl⟩ F.entry_list_append (F.args_list_append_2 _ _) (PySem.list_append l its.toArray n u (by rw [List.size_toArray];omega)) ⟨e,?_⟩;refine ⟨.non,_,I.aaF (its':=its++[u]) hH e (by simp) (r.append (.cons ru .nil)) ?_,rfl,q⟩;rw [List.length_append,List.length_singleton];omega
def YY:V->List V->Hp->VK->Prop:=fun x vs H Q=>∃ l xs i k y,x=.ref l/\vs=[.int i]/\H l=some (.lst xs)/\-(2 ^ 63)<=i/\i < 2 ^ 63/\seqIndex? i xs.length=some k/\xs[k]?=some y/\Q y (upd H l (.lst (xs.eraseIdx k)))
theorem SS:MtM X "list.pop" YY:=by
 intro pins s σ H x vs v us Q I rx rv h;obtain ⟨l,xs,i,k,y,rfl,rfl,hH,h1,h2,hk,hy,q⟩:=h;cases rx;obtain ⟨u,rfl,ru⟩:=rv.one;obtain ⟨t,rfl⟩:=ru;obtain ⟨z,its,n,r,hl,e⟩:=I.SQ hH;obtain ⟨w,hw,rw'⟩:=r.get hy;refine call_meets F.slot_list_pop ⟨_,e,rfl⟩ F.entry_list_pop (F.args_list_pop_2 _ _)
   (MeetsSeq.list_pop_at l its.toArray n i t k w (fitsIndex_both h1 h2) (by rw [List.size_toArray,<- hl];exact hk) (by rw [<- Array.getElem?_toList];exact hw) (by rw [List.size_toArray];omega)) ⟨e,?_⟩
 refine ⟨y,_,I.aaF (its':=its.eraseIdx k) hH e ?_ (r.eraseIdx k) ?_,rw',q⟩
 . show its.toArray.eraseIdxIfInBounds k=(its.eraseIdx k).toArray
   rw [List.eraseIdxIfInBounds_toArray]
 . have:=HR xs k
   omega
def aci:R2:=fun x y H Q=>∃ l b xs zs,x=.ref l/\y=.ref b/\H l=some (.lst xs)/\H b=some (.lst zs)/\xs.length+zs.length<=sizeLine/\∀ p,H p=none->Q (.ref p) (upd H p (.lst (xs++zs)))
theorem Jf:BR X (binaryOp .Add) aci:=by
 intro pins s σ H x y v u Q I rx ry h;obtain ⟨l,b,xs,zs,rfl,rfl,hH,hB,hz,q⟩:=h;cases rx;cases ry;obtain ⟨z,its,n,r,hl,e⟩:=I.SQ hH;obtain ⟨z2,its2,n2,r2,hl2,e2⟩:=I.SQ hB;refine PySem.P.add_list e e2 ?_ (by rw [List.size_toArray,List.size_toArray];omega);have ea:its.toArray++its2.toArray=(its++its2).toArray:=by simp
 rw [ea];exact ⟨.ref _,_,I.aaG (t':=s.toks) (r.append r2) (by rw [List.length_append];omega),rfl,q _ I.fresh⟩
def acj:R2:=fun x y H Q=>∃ l k xs,x=.ref l/\y=.int k/\H l=some (.lst xs)/\-(2 ^ 63)<=k/\k < 2 ^ 63/\xs.length * k.toNat<=sizeLine /\
 ∀ p,H p=none->Q (.ref p) (upd H p (.lst (List.replicate k.toNat xs).flatten))
theorem len_rep {α:Type} (xs:List α) (k:Nat):(List.replicate k xs).flatten.length=k * xs.length:=by
 induction k with
 | zero=>simp
 | succ k ih=>rw [List.replicate_succ,List.flatten_cons,List.length_append,ih,Nat.succ_mul,Nat.add_comm]
theorem SV:BR X (binaryOp .Mult) acj:=by
 intro pins s σ H x y v u Q I rx ry h;obtain ⟨l,k,xs,rfl,rfl,hH,h1,h2,hz,q⟩:=h;cases rx;obtain ⟨t,rfl⟩:=ry;obtain ⟨z,its,n,r,hl,e⟩:=I.SQ hH;have hlen:its.toArray.size * k.toNat<=sizeLine:=by rw [List.size_toArray,<- hl];exact hz
 have hcap:¬ its.toArray.size * k.toNat > (2 ^ 63 - 1) / 8:=by
   have:(sizeLine:Nat)<=(2 ^ 63 - 1) / 8:=by decide
   omega
 have hfit:¬ (!Builtin.List.listFitsIndex k)=true:=by
   rw [fitsIndex_both h1 h2];exact Bool.false_ne_true
 have aaH:¬ Builtin.List.listTooLong (its.toArray.size * k.toNat)=true:=by
   rw [SR hlen];exact Bool.false_ne_true
 have hnew:List.foldl (fun x1 x2=>x1++x2) #[] (List.replicate (if its.toArray.isEmpty=true then 0 else k.toNat) its.toArray)=(List.replicate k.toNat its).flatten.toArray:=by
   have f0:∀ m:Nat,List.foldl (fun x1 x2=>x1++x2) #[] (List.replicate m its.toArray)=(List.replicate m its).flatten.toArray:=fun m=>by
     have:=foldl_rep its m [];rw [List.nil_append] at this;exact this
   rw [f0];cases its with
   | nil=>simp
   | cons a r'=>rw [if_neg (by simp)]
 refine wpAny_binaryOp_repeat_ref (T:="list") (U:="int") (by decide) ⟨_,e,rfl⟩ (fun s'=>typeIs_int s' k t) noFill_list_mul F.fills_int_mul F.slot_int_rmul repeat_list F.slot_int_index.lookup
   (call_meets F.slot_int_rmul (typeIs_int s k t) F.entry_int_rmul (F.args_int_rmul_2 _ _) (int___rmul___int_list k t l its.toArray n)
     ⟨e,rfl,⟨_,e,rfl⟩,call_meets F.slot_list_mul ⟨_,e,rfl⟩ F.entry_list_mul (F.args_list_mul_2 _ _) (AutoListH.list___mul___list_int_3 l its.toArray n k t hfit hcap aaH) ⟨e,?_⟩⟩)
 rw [hnew];exact ⟨.ref _,_,I.aaG (t':=s.toks) (r.rep k.toNat) (by rw [len_rep,Nat.mul_comm];exact hz),rfl,q _ I.fresh⟩
end
section
variable {prog:Program} {w:World} {A:Around} {E:Value->Shared->Prop} {s:Shared}
end
section
variable {X:Cx}
end
theorem Vals.ints:∀ {ns:List Int} {us:List Value},Vals (ns.map V.int) us->IntsAre us ns
 | [],us,h=>by
  rw [List.map_nil] at h
  cases h
  exact IntsAre.nil
 | n::ns,us,h=>by
  rw [List.map_cons] at h
  cases h with
  | cons r t=>
   obtain ⟨k,rfl⟩:=r
   exact IntsAre.cons n k (Vals.ints t)
theorem Ao:∀ {us:List Value} {ns:List Int},IntsAre us ns->Vals (ns.map V.int) us
 | _,_,.nil=>by rw [List.map_nil];exact Paired.nil
 | _,_,.cons n t h=>by rw [List.map_cons];exact Paired.cons (show RelV (V.int n) (Value.int n t) from ⟨t,rfl⟩) (Ao h)
theorem Vals.aaI {a:Addr} {us:List Value} (r:Vals [V.ref a] us):us=[Value.ref a]:=by
 cases r with
 | cons r t=>
  cases t;cases r;rfl
section
variable {prog:Program} {w:World} {A:Around} {E:Value->Shared->Prop} {s:Shared} {l:Addr} {its:List Value} {ns:List Int} {Q:Value->Shared->Prop}
end
section
variable {X:Cx}
def VX (K:Zqq):List V->Hp->VK->Prop:=fun vs H Q=>∃ (a:Addr) (ns:List Int),vs=[V.ref a]/\bI K H a (ns.map V.int)/\ns.length < 64 /\
 ∀ (ns':List Int) (p:Addr),ns'.Perm ns->ns'.Pairwise (·<=·)->H p=none->Q (.ref p) (upd H p (.lst (ns'.map V.int)))
theorem VY {n:Nat} (h:n < 64):n<=sizeLine:=by rw [sizeLine_eq];omega
theorem Qp:HH X (.builtin "sorted") (VX X.K):=by
 intro pins s σ H vs us Q I r h;obtain ⟨a,ns,rfl,hs,h64,q⟩:=h;obtain ⟨its,rv,hl,_⟩:=I.list hs;rw [Vals.aaI r];have hi:=rv.ints;refine PyProof.Rows.sorted_ints hl.isList hi (by rw [hi.length];exact h64) fun out ns' h1 h2 h3=>?_;obtain ⟨ep,he'⟩:=PyProof.Rows.sortedAll_at s.heap its out;have hlen:(ns'.map V.int).length<=sizeLine:=by rw [List.length_map,h2.length_eq];exact VY h64
 exact ⟨.ref _,upd H (s.heap.objs.size+1) (.lst (ns'.map V.int)),I.laid (t':=s.toks) (fun _ _=>PyProof.Rows.sortedAll_old) (Nat.le_succ _) ⟨hlen,out.toList,ep,Ao h1,he'⟩,rfl,q ns' _ h2 h3 (I.hok.fresh (Nat.le_succ _))⟩
def SW (K:Zqq):V->List V->Hp->VK->Prop:=fun x xs H Q=>∃ (a:Addr) (ys:List V) (y:V) (j:Nat) (z:V),x=V.ref a/\xs=[y]/\bI K H a ys/\t7 y=true/\ys.all t7=true/\ys[j]?=some z/\Sj z y=true /\
 (∀ (m:Nat) (z':V),m < j->ys[m]?=some z'->Sj z' y=false)/\Q (.int (j:Nat)) H
theorem OW {ys:List V} (f:ys.all t7=true) {j:Nat} {z:V} (h:ys[j]?=some z):t7 z=true:=List.all_eq_true.mp f z (List.mem_of_getElem? h)
theorem SX:MtR X "list.index" (SW X.K):=by
 intro pins s σ H x xs v us Q I rx rxs h;obtain ⟨a,ys,y,j,z,rfl,rfl,hs,fy,fys,hz,hzj,hno,q⟩:=h;cases rx;cases rxs with
 | cons ry rt=>
   rename_i uy ut;cases rt;obtain ⟨its,rv,⟨⟨cls,dd,data,sl⟩,n,ho,hc,hdn,hd⟩,hlen⟩:=I.list hs;simp only at hc hd;subst hc hd;obtain ⟨u,hu,ru⟩:=rv.get hz;obtain ⟨hjl,hje⟩:=List.getElem?_eq_some_iff.mp hu;have hvl:=rv.length;have hj:j < its.toArray.size:=by simpa using hjl
   have hsl:=sizeLine_eq;refine call_meets PySem.F.slot_list_index ⟨_,ho,rfl⟩ PySem.F.entry_list_index (PySem.F.args_list_index_2 _ _)
     (SeqAt.list_indexAt a its.toArray n dd sl uy (Nt y) j hj (by omega) ?_ ?_) ⟨ho,fun u' hu'=>u0 ry fy rv fys u' (by simpa using hu'),?_⟩
   . have e1:its.toArray[j]=u:=by simpa using hje
     rw [e1,Jd ru (OW fys hz)];exact hzj
   . intro m hm hmj
     have hml:m < its.length:=by simpa using hm
     have hmy:m < ys.length:=by omega
     have hy':ys[m]?=some ys[m]:=List.getElem?_eq_getElem hmy;obtain ⟨u2,hu2,ru2⟩:=rv.get hy';obtain ⟨_,hme⟩:=List.getElem?_eq_some_iff.mp hu2;have e1:its.toArray[m]=u2:=by simpa using hme
     rw [e1,Jd ru2 (OW fys hy')];exact hno m _ hmj hy'
   . exact ⟨.int (j:Nat),H,I.tok _,⟨_,rfl⟩,q⟩
end
mutual
inductive Dp (K:Zqq) (H:Hp):V->PyData->Prop
 | non:Dp K H .non .none
 | bl (b:Bool):Dp K H (.bl b) (.bool b)
 | int (i:Int):Dp K H (.int i) (.int i)
 | str (x:Str):Dp K H (.str x) (.str x)
 | lst {a:Addr} {xs:List V} {ds:List PyData}:bI K H a xs->HS K H xs ds->Dp K H (.ref a) (.list ds)
 | tup {a:Addr} {xs:List V} {ds:List PyData}:oj K H a xs->HS K H xs ds->Dp K H (.ref a) (.tuple ds)
inductive HS (K:Zqq) (H:Hp):List V->List PyData->Prop
 | nil:HS K H [] []
 | cons {v:V} {vs:List V} {d:PyData} {ds:List PyData}:Dp K H v d->HS K H vs ds->HS K H (v::vs) (d::ds)
end
section
variable {X:Cx} {pins:List (Addr×Obj)} {σ:St} {H:Hp} {s:Shared}
mutual
theorem Dp.reads (I:Inv X pins σ H s):∀ (d:PyData) (v:V) (u:Value),Dp X.K H v d->RelV v u->∃ as,Reads s.heap u d as
 | .none,_,_,h,r=>by
  cases h
  cases r
  exact ⟨_,Reads.none⟩
 | .bool b,_,_,h,r=>by
  cases h
  cases r
  exact ⟨_,Reads.bool b⟩
 | .int i,_,_,h,r=>by
  cases h
  obtain ⟨t,rfl⟩:=r
  exact ⟨_,Reads.int i t⟩
 | .str x,_,_,h,r=>by
  cases h
  obtain ⟨t,rfl⟩:=r
  exact ⟨_,Reads.str x t⟩
 | .list ds,_,_,h,r=>by
  cases h with
  | lst hs ha=>
   cases r
   obtain ⟨its,rv,⟨o,n,ho,hc,_,hd⟩,_⟩:=I.list hs
   obtain ⟨as,hr⟩:=Dp.readsAll I ds _ its ha rv
   exact ⟨_,Reads.list ho hc hd hr⟩
 | .tuple ds,_,_,h,r=>by
  cases h with
  | tup hs ha=>
   cases r
   obtain ⟨its,rv,⟨o,ho,hc,n,hd⟩,_⟩:=I.tuple hs
   obtain ⟨as,hr⟩:=Dp.readsAll I ds _ its ha rv
   exact ⟨_,Reads.tuple ho hc hd hr⟩
 | .dict _,_,_,h,_=>by cases h
theorem Dp.readsAll (I:Inv X pins σ H s):∀ (ds:List PyData) (vs:List V) (us:List Value),HS X.K H vs ds->Vals vs us->∃ as,ReadsAll s.heap us ds as
 | [],_,_,h,r=>by
  cases h
  cases r
  exact ⟨_,ReadsAll.nil⟩
 | d::ds,_,_,h,r=>by
  cases h with
  | cons h1 h2=>
   cases r with
   | cons r1 r2=>
    obtain ⟨as,q1⟩:=Dp.reads I d _ _ h1 r1
    obtain ⟨bs,q2⟩:=Dp.readsAll I ds _ _ h2 r2
    exact ⟨_,ReadsAll.cons q1 q2⟩
end
end
section
variable {X:Cx}
end
abbrev Tc (h:Heap) (c:Addr) (v:Option Value):Prop:=h.IsCell c v
def ack (scope sc:Scope):Scope:=
 { scope with names:=scope.names.map fun (n,k)=>if (k==.free&&sc.kind==.function&&sc.names.lookup n==some .cell) then (n,.cell) else (n,k) }
def fM (cells:List (Str×Addr)):List (Str×NameKind)->List (Str×Addr)->List (Str×Addr)
 | [],acc=>acc
 | (n,k)::r,acc=>if k==.free then fM cells r ((n,(cells.lookup n).getD 0)::acc) else fM cells r acc
theorem Aq (env:Env) (f:Str×NameKind->List (Str×Addr)->Sem (ForInStep (List (Str×Addr))))
   (hf:∀ n k c,f (n,k) c=if k==.free then (do let a <- cellOf env n;pure (.yield ((n,a)::c))) else pure (.yield c)) :
   ∀ (names:List (Str×NameKind)) (acc:List (Str×Addr)),(∀ y ∈ names,y.2=.free->∃ c,env.cells.lookup y.1=some c)->forIn names acc f=pure (fM env.cells names acc)
 | [],acc,_=>by rw [List.forIn_nil];rfl
 | (n,k)::r,acc,h=>by
   rw [List.forIn_cons,hf]
   have ih:=fun acc=>Aq env f hf r acc fun y hy=>h y (List.mem_cons_of_mem _ hy)
   unfold fM
   by_cases hk:(k==NameKind.free)=true
   . rw [if_pos hk,if_pos hk]
     obtain ⟨c,hc⟩:=h (n,k) List.mem_cons_self (by simpa using hk)
     have e:cellOf env n=pure c:=by unfold cellOf;rw [hc]
     rw [e]
     have e2:(env.cells.lookup n).getD 0=c:=by rw [hc];rfl
     rw [e2]
     exact ih _
   . rw [if_neg hk,if_neg hk]
     exact ih _
theorem NI {scope:Scope} {env:Env} (h:∀ y ∈ scope.names,y.2=.free->∃ c,env.cells.lookup y.1=some c):closureFor scope env=pure (fM env.cells scope.names []):=by
 simp only [closureFor];rw [Aq env _ (fun n k c=>rfl) scope.names [] h];rfl
theorem mem_lookup {α:Type}:∀ {l:List (Str×α)} {n:Str} {c:α},(n,c) ∈ l->∃ c',l.lookup n=some c'
 | (k,v)::r,n,c,h=>by
   rw [List.lookup_cons]
   cases hb:n==k with
   | true=>exact ⟨_,rfl⟩
   | false=>
     rcases List.mem_cons.mp h with e | h
     . cases e;simp at hb
     . exact mem_lookup h
theorem t8 {cells:List (Str×Addr)}:∀ {names:List (Str×NameKind)} {acc:List (Str×Addr)} {n:Str} {c:Addr},(n,c) ∈ fM cells names acc->(n,c) ∈ acc\/((n,.free) ∈ names/\c=(cells.lookup n).getD 0)
 | [],_,_,_,h=>.inl h
 | (m,k)::r,acc,n,c,h=>by
   unfold fM at h
   split at h
   . rename_i hk
     have hk:k=.free:=by simpa using hk
     rcases t8 h with h | ⟨h1,h2⟩
     . rcases List.mem_cons.mp h with e | h
       . cases e;exact .inr ⟨hk ▸ List.mem_cons_self,rfl⟩
       . exact .inl h
     . exact .inr ⟨List.mem_cons_of_mem _ h1,h2⟩
   . rcases t8 h with h | ⟨h1,h2⟩
     . exact .inl h
     . exact .inr ⟨List.mem_cons_of_mem _ h1,h2⟩
theorem xu {cells:List (Str×Addr)}:∀ {names:List (Str×NameKind)} {acc:List (Str×Addr)} {p:Str×Addr},p ∈ acc->p ∈ fM cells names acc
 | [],_,_,h=>h
 | (m,k)::r,acc,p,h=>by
   unfold fM
   split
   . exact xu (List.mem_cons_of_mem _ h)
   . exact xu h
theorem xw {cells:List (Str×Addr)}:∀ {names:List (Str×NameKind)} {acc:List (Str×Addr)} {n:Str},(n,.free) ∈ names->(n,(cells.lookup n).getD 0) ∈ fM cells names acc
 | (m,k)::r,acc,n,h=>by
   unfold fM
   rcases List.mem_cons.mp h with e | h
   . cases e
     exact xu List.mem_cons_self
   . split
     . exact xw h
     . exact xw h
theorem u6:∀ {names:List (Str×NameKind)} {h:Heap} {acc:List (Str×Addr)} {x:Str} {c:Addr},(x,c) ∈ cellsFrom h.objs.size names acc->
   (x,c) ∈ acc\/((x,.cell) ∈ names/\h.objs.size<=c/\Tc (pushCells h names) c none)
 | [],_,_,_,_,h=>.inl h
 | (n,k)::r,h,acc,x,c,hm=>by
   unfold cellsFrom at hm
   unfold pushCells
   split at hm
   . rename_i hk
     rw [if_pos hk]
     have hk:k=.cell:=by simpa using hk
     rw [<- Heap.size_push h { cls:=.type "cell",data:=.cell none }] at hm
     rcases u6 hm with hm | ⟨h1,h2,h3⟩
     . rcases List.mem_cons.mp hm with e | hm
       . cases e
         exact .inr ⟨hk ▸ List.mem_cons_self,Nat.le_refl _,_,pushCells_keeps r _ _ _ (Heap.get?_push_size _ rfl),rfl⟩
       . exact .inl hm
     . rw [Heap.size_push] at h2
       exact .inr ⟨List.mem_cons_of_mem _ h1,Nat.le_of_succ_le h2,h3⟩
   . rename_i hk
     rw [if_neg hk]
     rcases u6 hm with hm | ⟨h1,h2,h3⟩
     . exact .inl hm
     . exact .inr ⟨List.mem_cons_of_mem _ h1,h2,h3⟩
theorem yO:∀ {names:List (Str×NameKind)} {n:Nat} {acc:List (Str×Addr)} {p:Str×Addr},p ∈ acc->p ∈ cellsFrom n names acc
 | [],_,_,_,h=>h
 | (m,k)::r,n,acc,p,h=>by
   unfold cellsFrom
   split
   . exact yO (List.mem_cons_of_mem _ h)
   . exact yO h
theorem BV:∀ {names:List (Str×NameKind)} {n:Nat} {acc:List (Str×Addr)} {x:Str},(x,.cell) ∈ names->∃ c,(x,c) ∈ cellsFrom n names acc
 | (m,k)::r,n,acc,x,h=>by
   unfold cellsFrom
   rcases List.mem_cons.mp h with e | h
   . cases e
     exact ⟨n,yO List.mem_cons_self⟩
   . split
     . exact BV h
     . exact BV h
theorem BW:∀ {names:List (Str×NameKind)} {h:Heap} {acc:List (Str×Addr)} {x y:Str} {c:Addr},(∀ p ∈ acc,p.2 < h.objs.size)->(∀ x y c,(x,c) ∈ acc->(y,c) ∈ acc->x=y)->
   (x,c) ∈ cellsFrom h.objs.size names acc->(y,c) ∈ cellsFrom h.objs.size names acc->x=y
 | [],_,_,_,_,_,_,hi,h1,h2=>hi _ _ _ h1 h2
 | (n,k)::r,h,acc,x,y,c,hl,hi,h1,h2=>by
   unfold cellsFrom at h1 h2
   split at h1
   . rename_i hk
     rw [if_pos hk] at h2
     rw [<- Heap.size_push h { cls:=.type "cell",data:=.cell none }] at h1 h2
     refine BW (h:=h.push _) (fun p hp=>?_) (fun x y c a b=>?_) h1 h2
     . rw [Heap.size_push]
       rcases List.mem_cons.mp hp with rfl | hp
       . exact Nat.lt_succ_self _
       . exact Nat.lt_succ_of_lt (hl p hp)
     . rcases List.mem_cons.mp a with e | a<;>rcases List.mem_cons.mp b with e' | b
       . cases e;cases e';rfl
       . cases e;exact absurd (hl _ b) (Nat.lt_irrefl _)
       . cases e';exact absurd (hl _ a) (Nat.lt_irrefl _)
       . exact hi _ _ _ a b
   . rename_i hk
     rw [if_neg hk] at h2
     exact BW hl hi h1 h2
theorem Lm {M:Model} {A:Around} {E:Value->Shared->Prop} {s:Shared} {scope:Scope} {globals:Addr} {closure:List (Str×Addr)} {qual:Str} {func:Option Addr} {code:Value} {around:Env} {builtins:Addr} {Q:Env->Shared->Prop}
   (h:Q (newEnv scope s.heap.objs.size globals (cellsFrom (s.heap.objs.size+1) scope.names closure) qual func code (some around) builtins)
     { s with heap:=pushCells (s.heap.push { cls:=.type "dict",data:=.dict #[] }) scope.names }) :
   wpAny M A (newFunctionEnv scope globals closure [] qual func code (some around) builtins) Q E s:=by
 simp only [newFunctionEnv,Option.isSome_some,if_true];refine wpAny_bind (wpAny_alloc ?_);refine wpAny_bind (wpAny_layCells _ (fun n k c=>rfl) scope.names closure _ _ ?_);rw [show ({ s with heap:=s.heap.push { cls:=.type "dict",data:=.dict #[] } }:Shared).heap.objs.size=s.heap.objs.size+1 from Heap.size_push ..];rw [List.forIn_nil];exact wpAny_bind (wpAny_pure (wpAny_pure h))
theorem xx {sc:Scope}:∀ {names:List (Str×NameKind)} {x:Str} {k:NameKind},
   (names.map fun (n,k)=>if (k==NameKind.free&&sc.kind==.function&&sc.names.lookup n==some .cell) then (n,NameKind.cell) else (n,k)).lookup x=some k->
   ∃ k',names.lookup x=some k'/\(k=k'\/(k'=.free/\k=.cell))
 | [],_,_,h=>by simp at h
 | (n,k₀)::r,x,k,h=>by
   have ih:=@xx sc r x k
   have h':List.lookup x ((if (k₀==NameKind.free&&sc.kind==.function&&sc.names.lookup n==some .cell)=true then (n,NameKind.cell) else (n,k₀))::(r.map _))=some k:=h
   cases hx:x==n with
   | true=>
     simp only [List.lookup_cons,hx]
     by_cases hc:(k₀==NameKind.free&&sc.kind==.function&&sc.names.lookup n==some .cell)=true
     . rw [if_pos hc] at h'
       simp only [List.lookup_cons,hx] at h'
       cases h'
       simp only [Bool.and_eq_true,beq_iff_eq] at hc
       exact ⟨k₀,rfl,.inr ⟨hc.1.1,rfl⟩⟩
     . rw [if_neg hc] at h'
       simp only [List.lookup_cons,hx] at h'
       cases h'
       exact ⟨_,rfl,.inl rfl⟩
   | false=>
     simp only [List.lookup_cons,hx]
     by_cases hc:(k₀==NameKind.free&&sc.kind==.function&&sc.names.lookup n==some .cell)=true
     . rw [if_pos hc] at h'
       simp only [List.lookup_cons,hx] at h'
       exact ih h'
     . rw [if_neg hc] at h'
       simp only [List.lookup_cons,hx] at h'
       exact ih h'
structure Ln (N:List Str) (sc scope:Scope) (own:List (Str×Nat)):Prop where
 kind:scope.kind=.function
 uniq:∀ y ∈ scope.names,scope.names.lookup y.1=some y.2
 ix:∀ p ∈ own,N[p.2]?=some p.1
 free:∀ y ∈ scope.names,y.2=.free->sc.names.lookup y.1=some .cell\/sc.names.lookup y.1=some .free
 own:∀ y ∈ scope.names,y.2=.local\/y.2=.cell->y.1 ∈ own.map (·.1)\/y.1 ∉ N
def wipe (σ:St):List Nat->St
 | []=>σ
 | v::vs=>(wipe σ vs).set v none
theorem xy (σ:St):∀ vs:List Nat,(wipe σ vs).length=σ.length
 | []=>rfl
 | v::vs=>by unfold wipe;rw [List.length_set,xy σ vs]
theorem BX {σ:St} {i:Nat} {x:V}:∀ {vs:List Nat},(wipe σ vs)[i]?=some (some x)->σ[i]?=some (some x)/\i ∉ vs
 | [],h=>⟨h,by simp⟩
 | v::vs,h=>by
   unfold wipe at h
   by_cases hi:v=i
   . subst hi
     by_cases hv:v < (wipe σ vs).length
     . rw [List.getElem?_set_self hv] at h;cases h
     . rw [List.getElem?_eq_none (by simpa using hv)] at h;cases h
   . rw [List.getElem?_set_ne hi] at h
     obtain ⟨h1,h2⟩:=BX h
     exact ⟨h1,by simp only [List.mem_cons,not_or];exact ⟨fun e=>hi e.symm,h2⟩⟩
abbrev Cx.Jg (X:Cx) (s:Shared) (H:Hp) (scope:Scope) (cenv:Env) (fp:List Addr):Cx:={ X with BO:=s,YA:=H,env:=cenv,outer:=X.stack,ex:=fp,fn:=fun x=>scope.names.lookup x==some .cell,pn:=[],xe:=fun _ _=>False }
section
variable {X:Cx} {pins:List (Addr×Obj)} {σ:St} {H:Hp} {s:Shared}
theorem Lo {scope:Scope} {own:List (Str×Nat)} {fp:List Addr} (I:Inv X pins σ H s) (ok:Ln X.N X.env.scope scope own) (hN:X.N.Nodup) (hfp:∀ b ∈ fp,Ep X pins H b/\b < s.heap.objs.size) :
   Inv (X.Jg s H scope (compEnvC scope (cellsFrom (s.heap.objs.size+1) scope.names (fM X.env.cells scope.names [])) s.heap.objs.size X.env) fp) [] (wipe σ (own.map (·.2))) H { s with heap:=pushCells (s.heap.push { cls:=.type "dict",data:=.dict #[] }) scope.names }:=by
 have hfree:∀ y ∈ scope.names,y.2=.free->∃ c,X.env.cells.lookup y.1=some c:=fun y hy e=>by
   rcases ok.free y hy e with k | k
   . exact I.ok.has _ (.inl k)
   . exact I.ok.has _ (.inr k)
 generalize Lp:compEnvC scope (cellsFrom (s.heap.objs.size+1) scope.names (fM X.env.cells scope.names [])) s.heap.objs.size X.env=cenv;have kp:∀ b o,s.heap.get? b=some o->(pushCells (s.heap.push { cls:=.type "dict",data:=.dict #[] }) scope.names).get? b=some o:=fun b o e=>pushCells_keeps _ _ _ _ (Heap.get?_push_of_some _ e);have hL:cenv.locals=s.heap.objs.size:=by rw [<- Lp];rfl
 have hcl:cenv.cells=cellsFrom (s.heap.objs.size+1) scope.names (fM X.env.cells scope.names []):=by rw [<- Lp];rfl
 have hsc:cenv.scope=ack scope X.env.scope:=by rw [<- Lp];rfl
 rw [<- Heap.size_push s.heap { cls:=.type "dict",data:=.dict #[] }] at hcl;have cm:∀ {y c},(y,c) ∈ fM X.env.cells scope.names []->X.env.cells.lookup y=some c/\c < s.heap.objs.size:=fun {y c} hm=>by
   rcases t8 hm with hm | ⟨h1,rfl⟩
   . cases hm
   . obtain ⟨c,hc⟩:=hfree _ h1 rfl
     rw [hc];obtain ⟨w,z⟩:=I.cell _ _ hc;exact ⟨rfl,z.lt⟩
 have mem:∀ {y c},cenv.cells.lookup y=some c->(X.env.cells.lookup y=some c/\c < s.heap.objs.size)\/(s.heap.objs.size+1<=c/\Tc (pushCells (s.heap.push { cls:=.type "dict",data:=.dict #[] }) scope.names) c none):=fun {y c} e=>by
   rw [hcl] at e;rcases u6 (PySem.mem_of_lookup e) with hm | ⟨_,h2,h3⟩
   . exact .inl (cm hm)
   . rw [Heap.size_push] at h2;exact .inr ⟨h2,h3⟩
 have look:∀ {y},scope.names.lookup y=some .free->∃ c,cenv.cells.lookup y=some c/\X.env.cells.lookup y=some c:=fun {y} hl=>by
   have hy:(y,NameKind.free) ∈ scope.names:=PySem.mem_of_lookup hl;obtain ⟨c',e'⟩:=mem_lookup (yO (names:=scope.names) (n:=(s.heap.push { cls:=.type "dict",data:=.dict #[] }).objs.size) (xw (cells:=X.env.cells) (acc:=[]) hy));rw [<- hcl] at e';refine ⟨c',e',?_⟩;rw [hcl] at e';rcases u6 (PySem.mem_of_lookup e') with hm | ⟨h1,_,_⟩
   . exact (cm hm).1
   . have:=ok.uniq _ h1
     rw [hl] at this;cases this
 have V9:(X.Jg s H scope cenv fp).Ok:=by
   refine ⟨I.ok.mod,by show cenv.scope.kind=_;rw [hsc];exact ok.kind,by show cenv.globals=_;rw [<- Lp];exact I.ok.glob,by show cenv.builtins=_;rw [<- Lp];exact I.ok.blt,by show s.heap.objs.size<=cenv.locals;rw [hL];exact Nat.le_refl _,
     fun y z c e1 e2=>?_,fun y hy=>?_,fun y c z e=>?_,I.ok.hd,I.ok.frames,.inl rfl,fun b hb=>⟨?_,fun y c e z=>?_⟩,I.bs,Nat.le_trans I.ok.Qi I.sz,fun b o e hb=>?_,fun b hb z=>?_,I.stack,I.IU⟩
   . have e1:cenv.cells.lookup y=some c:=e1
     have e2:cenv.cells.lookup z=some c:=e2;rw [hcl] at e1 e2;refine BW (fun p hp=>?_) (fun y z c a b=>I.ok.inj y z c (cm a).1 (cm b).1) (PySem.mem_of_lookup e1) (PySem.mem_of_lookup e2);rw [Heap.size_push];exact Nat.lt_succ_of_lt (cm (y:=p.1) (c:=p.2) hp).2
   . show ∃ c,cenv.cells.lookup y=some c
     have key:∀ k,cenv.kindOf y=some k->(k=.cell\/k=.free)->∃ c,cenv.cells.lookup y=some c:=fun k hk hk'=>by
       unfold Env.kindOf at hk;rw [hsc] at hk;obtain ⟨k',e,r⟩:=xx hk;have:k'=.cell\/k'=.free:=by
         rcases r with rfl | ⟨rfl,_⟩
         . exact hk'
         . exact .inr rfl
       rcases this with rfl | rfl
       . obtain ⟨c,hm⟩:=BV (n:=(s.heap.push { cls:=.type "dict",data:=.dict #[] }).objs.size) (acc:=fM X.env.cells scope.names []) (PySem.mem_of_lookup e)
         obtain ⟨c',e'⟩:=mem_lookup hm;exact ⟨c',by rw [hcl];exact e'⟩
       . obtain ⟨c,h1,_⟩:=look e
         exact ⟨c,h1⟩
     rcases hy with hy | hy
     . exact key _ hy (.inl rfl)
     . exact key _ hy (.inr rfl)
   . have z:(scope.names.lookup y==some NameKind.cell)=true:=z
     have z:scope.names.lookup y=some .cell:=by simpa using z
     have e:cenv.cells.lookup y=some c:=e;rw [hcl] at e;rcases u6 (PySem.mem_of_lookup e) with hm | ⟨_,h2,_⟩
     . rcases t8 hm with hm | ⟨h1,_⟩
       . cases hm
       . have q:=ok.uniq _ h1
         rw [z] at q;cases q
     . rw [Heap.size_push] at h2
       exact Nat.le_of_succ_le h2
   . show b ≠ cenv.locals
     rw [hL];exact Nat.ne_of_lt (hfp b hb).2
   . have e:cenv.cells.lookup y=some c:=e
     rcases mem e with ⟨h1,_⟩ | ⟨h1,_⟩
     . exact (hfp b hb).1.2.2.2.2.1 y c h1 z
     . have h2:s.heap.objs.size+1<=b:=by rw [<- z];exact h1
       exact absurd (Nat.lt_of_lt_of_le (hfp b hb).2 (Nat.le_of_succ_le h2)) (Nat.lt_irrefl _)
   . rcases (hfp b hb).1.2.2.2.1 with z | z
     . exact I.ok.Lc b o e z
     . exact absurd (Nat.lt_of_lt_of_le (Heap.lt_size e) (Nat.le_trans I.ok.Qi z)) (Nat.lt_irrefl _)
   . rcases List.mem_cons.mp (I.N2 b z) with z | z
     . exact (hfp b hb).1.2.1 z
     . exact (hfp b hb).1.2.2.1 z
 refine ⟨V9,rfl,I.bare,Un.kept kp,⟨fun _=>none,?_,fun i y av e1 e2 e3=>?_⟩,fun y c e=>?_,?_,fun y c e=>?_,fun p hp=>?_,I.hok.kept kp,by rw [xy];exact I.len⟩
 . show Heap.Ns _ cenv.locals _
   rw [hL];exact Heap.Ns.keeps (Heap.Ns.new ..) fun b o e=>pushCells_keeps _ _ _ _ e
 . obtain ⟨e2,hne⟩:=BX e2
   have hfr:scope.names.lookup y=some .free/\(cenv.kindOf y=some .cell\/cenv.kindOf y=some .free):=by
     have key:∀ k,cenv.scope.names.lookup y=some k->k=.local\/k=.cell\/k=.free->scope.names.lookup y=some .free/\(cenv.kindOf y=some .cell\/cenv.kindOf y=some .free):=fun k hk hk'=>by
       have hk0:=hk;rw [hsc] at hk;obtain ⟨k',e,r⟩:=xx hk;have no:¬ (k'=.local\/k'=.cell):=fun hh=>by
         rcases ok.own _ (PySem.mem_of_lookup e) hh with e' | e'
         . obtain ⟨p,hp,hpy⟩:=List.mem_map.mp e'
           have e3:=ok.ix p hp;have:p.1=y:=hpy;rw [this] at e3;exact hne (List.mem_map.mpr ⟨p,hp,El hN e3 e1⟩)
         . exact e' (List.mem_of_getElem? e1)
       rcases r with rfl | ⟨rfl,rfl⟩
       . rcases hk' with rfl | rfl | rfl
         . exact absurd (.inl rfl) no
         . exact absurd (.inr rfl) no
         . exact ⟨e,.inr hk0⟩
       . exact ⟨e,.inl hk0⟩
     have e3:YB cenv.scope y:=e3;rcases e3 with e3 | e3 | e3
     . exact key _ e3 (.inl rfl)
     . exact key _ e3 (.inr (.inl rfl))
     . exact key _ e3 (.inr (.inr rfl))
   obtain ⟨m,hn,hl⟩:=I.loc;have acm:YB X.env.scope y:=(ok.free _ (PySem.mem_of_lookup hfr.1) rfl).elim (fun k=>.inr (.inl k)) (fun k=>.inr (.inr k));obtain ⟨w,r,q⟩:=hl i y av e1 e2 acm;refine ⟨w,r,.inr ⟨hfr.2,?_⟩⟩;obtain ⟨c,h1,h2⟩:=look hfr.1;rcases q with ⟨k,_⟩ | ⟨_,c',e',z⟩
   . have k:X.env.scope.names.lookup y=some .local:=k
     rcases ok.free _ (PySem.mem_of_lookup hfr.1) rfl with k' | k'<;>rw [show X.env.scope.names.lookup y=_ from k'] at k<;>cases k
   . rw [h2] at e';cases e'
     exact ⟨c,h1,z.keeps kp⟩
 . have e:cenv.cells.lookup y=some c:=e
   rcases mem e with ⟨h1,_⟩ | ⟨_,z⟩
   . obtain ⟨w,z⟩:=I.cell y c h1
     exact ⟨w,z.keeps kp⟩
   . exact ⟨_,z⟩
 . show H cenv.locals=none
   rw [hL];exact I.hok.fresh (Nat.le_refl _)
 . have e:cenv.cells.lookup y=some c:=e
   rcases mem e with ⟨h1,_⟩ | ⟨h1,_⟩
   . exact I.kO y c h1
   . exact I.hok.fresh (Nat.le_of_succ_le h1)
 . exact absurd (show p ∈ ([]:List (Addr×Obj))++[] from hp) (by simp)
theorem YZ {E:Value->Shared->Prop} {D:Addr} {xs:List V} {y:V} {v:Value} {Q:Value->Shared->Prop} (I:Inv X pins σ H s) (hD:H D=some (.lst xs)) (hz:xs.length < sizeLine) (r:RelV y v)
  (h:∀ s',Inv X pins σ (upd H D (.lst (xs++[y]))) s'->Q .none s'):wpAny (model X.prog X.w) X.A (call (.builtin "list.append") [.ref D,v]) Q E s:=by
 obtain ⟨hz',its,n,ri,e⟩:=I.hok D _ hD;have hl:=ri.length;refine append_at (hsz:=by rw [List.size_toArray];omega) e fun h' sb ho'=>?_;refine h { s with heap:=h' } (I.write (t':=s.toks) (by rw [hD];trivial) (.inl rfl) (fun b u hb q=>(sb.2 b hb).trans q) ⟨_,ho'⟩ ⟨by rw [List.length_append];exact hz,its++[v],n+1,ri.append (.cons r .nil),?_⟩)
 rw [ho'];simp
def PTs (X:Cx) (ifs:List Expr) (t:TT):Prop:=
 ∀ (pins:List (Addr×Obj)) (s:Shared) (σ:St) (H:Hp) (Q:Bool->Hp->Prop),Inv X pins σ H s->t σ H Q->
   wpAny (model X.prog X.w) X.A (forIn ifs true fun c r=>if r=true then do let ok <- isTrue c X.env (eval c X.env);pure (ForInStep.yield ok) else pure (ForInStep.yield r)) (TP X pins σ Q) X.xe s
def acn:TT:=fun _ H Q=>Q true H
theorem As:PTs X [] acn:=fun _ _ _ H _ I h=>wpAny_tests_nil ⟨H,I,h⟩
theorem t9 {c:Expr} {t:TT} (h:PT X c t):PTs X [c] t:=fun pins s σ H Q I hw=>wpAny_tests_one (h pins s σ H Q I hw)
end
theorem Qq {α:Type} {t:Sem α} {Q Q':α->Shared->Prop} {M:Model} {A:Around} {E:Value->Shared->Prop} {s:Shared} (h:wpAny M A t Q (fun _ _=>False) s) (hQ:∀ a s,Q a s->Q' a s):wpAny M A t Q' E s:=wpAny_mono h hQ fun _ _ z=>False.elim z
theorem Jh {prog:Program} {w:World} {A:Around} {R:Result->Shared->Prop} {s:Shared} {elt target iter:Expr} {ifs:List Expr} {scope:Scope} {pos:Pos} {it acc:Value} {env:Env} (I:Nat->Shared->Prop)
   (turn:∀ n s,I n s->wpAny (model prog w) A (pyNext it) (fun r s₁=>match r with
     | none=>R (.ok .next) s₁
     | some v=>wpAny (model prog w) A (letOwnedTupleGo target it v) (fun _ s₁'=>wpAny (model prog w) A (assign target env v) (fun _ s₂=>
         wpAny (model prog w) A (forIn ifs true fun c r=>if r=true then do let ok <- isTrue c env (eval c env);pure (ForInStep.yield ok) else pure (ForInStep.yield r)) (fun ok s₃=>
           if ok=true then wpAny (model prog w) A (eval elt env) (fun x s₄=>
             wpAny (model prog w) A (call (.builtin "list.append") [acc,x]) (fun _ s₅=>∃ m,m < n/\I m s₅) (notedBy (model prog w) A env fun e s'=>R (.error e) s') s₄) (notedBy (model prog w) A env fun e s'=>R (.error e) s') s₃
           else ∃ m,m < n/\I m s₃) (notedBy (model prog w) A env fun e s'=>R (.error e) s') s₂) (notedBy (model prog w) A env fun e s'=>R (.error e) s') s₁') (notedBy (model prog w) A env fun e s'=>R (.error e) s') s₁) (notedBy (model prog w) A env fun e s'=>R (.error e) s') s)
   (n:Nat) (h:I n s) :
   codeAny (model prog w) A (.compLoop (.ListComp elt [⟨target,iter,ifs,0⟩] scope pos) 0 it acc env) R s:=by
 refine codeAny_loop rfl I (fun n s hI=>?_) n h;show wpAny _ A ((compTurn (.ListComp elt [⟨target,iter,ifs,0⟩] scope pos) 0 it acc env).onRaise (fun x=>do noteFrame x env;theTreesLotGoes x)) _ _ s;refine wpAny_noted ?_;rw [compTurn_list];refine wpAny_bind (wpAny_standAt (wpAny_bind (wpAny_mono (turn n s hI) (fun r s₁ h₁=>?_) fun _ _ h'=>h')));cases r with
 | none=>exact wpAny_pure h₁
 | some v=>
   refine wpAny_bind (wpAny_mono h₁ (fun _ s₁' h₁'=>?_) fun _ _ h'=>h');refine wpAny_bind (wpAny_mono h₁' (fun _ s₂ h₂=>wpAny_bind (wpAny_mono h₂ (fun ok s₃ h₃=>?_) fun _ _ h'=>h')) fun _ _ h'=>h');cases ok with
   | false=>exact wpAny_pure ⟨rfl,h₃⟩
   | true=>
     exact wpAny_bind (wpAny_bind (wpAny_mono h₃ (fun x s₄ h₄=>wpAny_bind (wpAny_mono h₄ (fun _ s₅ h₅=>wpAny_pure (wpAny_pure ⟨rfl,h₅⟩)) fun _ _ h'=>h')) fun _ _ h'=>h'))
section
variable {X:Cx}
def tLc (wi:TI) (g:TG) (tt:TT) (te:TE) (vs:List Nat):TE:=fun σ H Q=>wi σ H fun J H1=>∀ D,H1 D=none->∃ W:Nat->Nat->Hp->Prop,(∃ m,W 0 m (upd H1 D (.lst [])))/\∀ i m H,W i m H->
 (J.stop i H/\Q (.ref D) H)\/(J.go i H/\∃ Nx:Hp->Prop,(∀ H',Nx H'->∃ m',m' < m/\W (i+1) m' H')/\∀ x H',J.Sy i H x H'->g x (wipe σ vs) H' fun σ2 H2=>wipe σ2 vs=wipe σ vs/\tt σ2 H2 fun b H3=>
  if b=true then te σ2 H3 fun y H4=>∃ acc,H4 D=some (.lst acc)/\acc.length < sizeLine/\Nx (upd H4 D (.lst (acc++[y]))) else Nx H3)
theorem OX {pins:List (Addr×Obj)} {s:Shared} {σ:St} {H:Hp} {Q:VK} {elt tg iter:Expr} {ifs:List Expr} {scope:Scope} {own:List (Str×Nat)} {pos pos':Pos} {wi:TI} {g:TG} {tt:TT} {te:TE} {use:Option (Value->Sem Unit)} {Qf:Value->Shared->Prop}
   (hc:X.calm=true) (hN:X.N.Nodup) (I:Inv X pins σ H s) (hi:PI X tg iter wi) (ok:Ln X.N X.env.scope scope own)
   (hg:∀ (s:Shared) (H:Hp) (C:Addr) (cl:List (Str×Addr)) (fp:List Addr),PG (X.Jg s H scope (compEnvC scope cl C X.env) fp) tg g) (ht:∀ (s:Shared) (H:Hp) (C:Addr) (cl:List (Str×Addr)) (fp:List Addr),PTs (X.Jg s H scope (compEnvC scope cl C X.env) fp) ifs tt)
   (he:∀ (s:Shared) (H:Hp) (C:Addr) (cl:List (Str×Addr)) (fp:List Addr),PE (X.Jg s H scope (compEnvC scope cl C X.env) fp) elt te) (hs:∀ x,foldedSetIterable iter X.env x=pure x)
   (h:tLc wi g tt te (own.map (·.2)) σ H Q)
   (hRR:∀ D C s' m H',Inv X pins σ H' s'->Q (.ref D) H'->s'.heap.Ns C m->Ep X pins H' C->compPost (model X.prog X.w) X.A X.xe use Qf (.ref D) C (.ok .next) s') :
   wpAny (model X.prog X.w) X.A (comprehension (.ListComp elt [⟨tg,iter,ifs,0⟩] scope pos) scope X.env pos' (newList []) false (eval iter X.env) use) Qf X.xe s:=by
 have hfree:∀ y ∈ scope.names,y.2=.free->∃ c,X.env.cells.lookup y.1=some c:=fun y hy e=>by
   rcases ok.free y hy e with k | k
   . exact I.ok.has _ (.inl k)
   . exact I.ok.has _ (.inr k)
 refine wpAny_comprehension_free (use:=use) rfl hs (NI hfree) ok.kind (fun y hy e=>by rw [ok.uniq y hy,e])
   (ee (hi pins s σ H _ I h) fun xv s1 hx=>ee hx fun itv s2 h2=>?_)
 obtain ⟨it,fp,tn,J,H2,e,I2,T,st2,f2,q⟩:=h2;subst e;refine wpAny_newObj_type (Lm ?_) (by show 0<=sizeLine;decide);generalize hD:s2.heap.objs.size=D;have hDn:H2 D=none:=I2.hok.fresh (Nat.le_of_eq hD);obtain ⟨W,⟨m0,w0⟩,turn⟩:=q D hDn;generalize hs3:({ s2 with heap:=s2.heap.push { cls:=.type "list",data:=.seq ([]:List Value).toArray } }:Shared)=s3;have I3:Inv X pins σ (upd H2 D (.lst [])) s3:=by
   rw [<- hs3];refine I2.laid (t':=s2.toks) (fun b o e=>Heap.get?_push_of_some _ e) (Nat.le_of_eq hD) ⟨Nat.zero_le _,[],0,.nil,?_⟩;rw [<- hD];exact Heap.get?_push_size _ rfl
 have h3:s3.heap=s2.heap.push { cls:=.type "list",data:=.seq ([]:List Value).toArray }:=by rw [<- hs3]
 have sz:∀ b ∈ fp,b < s2.heap.objs.size:=fun b hb=>by
   obtain ⟨o,e,_⟩:=T.obj _ _ st2 b hb;exact Heap.lt_size e
 have f3:∀ b ∈ fp,Ep X pins (upd H2 D (.lst [])) b/\b < s3.heap.objs.size:=fun b hb=>by
   have hlt:=sz b hb;refine ⟨⟨?_,(f2 b hb).2⟩,by rw [h3,Heap.size_push];exact Nat.lt_succ_of_lt hlt⟩;rw [aq (by rw [<- hD];exact Nat.ne_of_lt hlt)];exact (f2 b hb).1
 have st3:tn 0 s3.heap:=T.keep _ _ _ st2 fun b _ o e=>by rw [h3];exact Heap.get?_push_of_some _ e
 have I4:=Lo I3 ok hN f3;have pg:=hg s3 (upd H2 D (.lst [])) s3.heap.objs.size (cellsFrom (s3.heap.objs.size+1) scope.names (fM X.env.cells scope.names [])) fp;have pt:=ht s3 (upd H2 D (.lst [])) s3.heap.objs.size (cellsFrom (s3.heap.objs.size+1) scope.names (fM X.env.cells scope.names [])) fp;have pe:=he s3 (upd H2 D (.lst [])) s3.heap.objs.size (cellsFrom (s3.heap.objs.size+1) scope.names (fM X.env.cells scope.names [])) fp;show codeAny _ _ (.compStart (.ListComp elt [⟨tg,iter,ifs,0⟩] scope pos) 0 (.ref it) (.ref D) (compEnvC scope (cellsFrom (s3.heap.objs.size+1) scope.names (fM X.env.cells scope.names [])) s3.heap.objs.size X.env)) (compPost (model X.prog X.w) X.A X.xe use Qf (.ref D) s3.heap.objs.size) { s3 with heap:=pushCells (s3.heap.push { cls:=.type "dict",data:=.dict #[] }) scope.names };have nfp:∀ b ∈ fp,(upd H2 D (.lst [])) b=none:=fun b hb=>(f3 b hb).1.1
 generalize hce:compEnvC scope (cellsFrom (s3.heap.objs.size+1) scope.names (fM X.env.cells scope.names [])) s3.heap.objs.size X.env=ce at I4 pg pt pe ⊢;have cL:ce.locals=s3.heap.objs.size:=by subst hce;rfl
 generalize hH3:upd H2 D (.lst [])=H3 at I3 I4 pg pt pe w0 nfp f3;generalize hs4:({ s3 with heap:=pushCells (s3.heap.push { cls:=.type "dict",data:=.dict #[] }) scope.names }:Shared)=s4 at I4 ⊢;have st4:tn 0 s4.heap:=T.keep _ _ _ st3 fun b _ o e=>by rw [<- hs4];exact pushCells_keeps _ _ _ _ (Heap.get?_push_of_some _ e)
 have N8:∀ {σ':St} {H':Hp} {s':Shared},Inv (X.Jg s3 H3 scope ce fp) [] σ' H' s'->(∀ b ∈ fp,H' b=none)->∀ b ∈ fp,Ep (X.Jg s3 H3 scope ce fp) [] H' b:=fun {σ' H' s'} I' hn b hb=>
   ⟨hn b hb,(I'.ok.YC b hb).1,I'.ok.Ld b hb,.inl hb,fun x c e=>(I'.ok.YC b hb).2 x c e,fun p hp=>absurd (show p ∈ ([]:List (Addr×Obj))++[] from hp) (by simp)⟩
 have loop:codeAny (model X.prog X.w) X.A (.compLoop (.ListComp elt [⟨tg,iter,ifs,0⟩] scope pos) 0 (.ref it) (.ref D) ce) (compPost (model X.prog X.w) X.A X.xe use Qf (.ref D) s3.heap.objs.size) s4:=by
   refine Jh (fun n s'=>∃ i H',Inv (X.Jg s3 H3 scope ce fp) [] (wipe σ (own.map (·.2))) H' s'/\tn i s'.heap/\(∀ b ∈ fp,H' b=none)/\W i n H') ?_ m0 ⟨0,H3,I4,st4,nfp,w0⟩;rintro n s5 ⟨i,H5,I5,st5,n5,w5⟩;rcases turn i n H5 w5 with ⟨stop,qq⟩ | ⟨go,Nx,hNx,step⟩
   . have td:=T.done (X.Jg s3 H3 scope ce fp) rfl rfl rfl hc i [] s5 _ H5 (fun _ _=>False) I5 (N8 I5 n5) st5 stop
     refine Qq td fun r s6 ⟨hr,I6⟩=>?_;subst hr;have I7:Inv X pins σ H5 s6:=I3.call' (ch:=fp) I6.os I6.base I6.hok I6.bare fun b hb=>⟨(f3 b hb).1.2.2.2.1,(f3 b hb).1.2.1,(f3 b hb).1.2.2.2.2.1,(f3 b hb).1.2.2.2.2.2⟩;have nC:H5 s3.heap.objs.size=none:=by
       have z:H5 ce.locals=none:=I6.free;rw [cL] at z;exact z
     obtain ⟨m,hn,_⟩:=I6.loc;have hn:s6.heap.Ns ce.locals m:=hn;rw [cL] at hn;exact hRR D s3.heap.objs.size s6 m H5 I7 qq hn (I3.Qk (Nat.le_refl _) nC)
   . have ti:=T.item (X.Jg s3 H3 scope ce fp) rfl rfl rfl hc i [] s5 _ H5 (fun _ _=>False) I5 (N8 I5 n5) st5 go
     refine Qq ti fun r s6 ⟨u,hr,h6⟩=>?_;subst hr;refine Qq h6 fun _ s7 ⟨x,H7,I7,r7,y7,st7,n7⟩=>?_;have I7':=I7.pinned (N8 I7 n7) (T.obj _ _ st7);refine Qq (pg _ s7 _ H7 x u _ I7' r7 (step x H7 y7)) fun _ s8 ⟨σ8,H8,I8,hw8,q8⟩=>?_;refine Qq (pt _ s8 σ8 H8 _ I8 q8) fun b s9 ⟨H9,I9,q9⟩=>?_;have fin:∀ {s':Shared} {H':Hp},Inv (X.Jg s3 H3 scope ce fp) ([]++Es fp s7.heap) σ8 H' s'->Nx H'->∃ m,m < n/\∃ i H',Inv (X.Jg s3 H3 scope ce fp) [] (wipe σ (own.map (·.2))) H' s'/\tn i s'.heap/\(∀ b ∈ fp,H' b=none)/\W i m H':=fun {s' H'} I' nx=>by
       obtain ⟨m',hm,w'⟩:=hNx H' nx;have pin':∀ b ∈ fp,∀ o,s7.heap.get? b=some o->s'.heap.get? b=some o/\H' b=none:=fun b hb o e=>
         let z:=I'.pin (b,o) (List.mem_append_right _ (List.mem_append_right _ (zA hb e)))
         ⟨z.1,z.2.1⟩
       have hl:(wipe σ (own.map (·.2))).length=σ8.length:=by rw [<- hw8,xy]
       refine ⟨m',hm,i+1,H',(I'.Am (pins:=[])).weak hl (fun j v e=>?_),T.keep _ _ _ st7 fun b hb o e=>(pin' b hb o e).1,fun b hb=>?_,w'⟩
       . rw [<- hw8] at e
         exact (BX e).1
       . obtain ⟨o,e,_⟩:=T.obj _ _ st7 b hb
         exact (pin' b hb o e).2
     cases b with
     | false=>
       simp only [Bool.false_eq_true,if_false] at q9 ⊢;exact fin I9 q9
     | true=>
       simp only [if_true] at q9 ⊢;refine Qq (pe _ s9 σ8 H9 _ I9 q9) fun z s10 ⟨yv,H10,I10,r10,acc,aco,acp,nx⟩=>?_;exact YZ (X:=X.Jg s3 H3 scope ce fp) I10 aco acp r10 fun s11 I11=>fin I11 nx
 exact codeAny_compStart_list loop (T.self X.A 0 _ _ _ st4 loop)
theorem CM {elt tg iter:Expr} {ifs:List Expr} {scope:Scope} {own:List (Str×Nat)} {pos:Pos} {wi:TI} {g:TG} {tt:TT} {te:TE} (hc:X.calm=true) (hN:X.N.Nodup) (hi:PI X tg iter wi) (ok:Ln X.N X.env.scope scope own)
  (hg:∀ (s:Shared) (H:Hp) (C:Addr) (cl:List (Str×Addr)) (fp:List Addr),PG (X.Jg s H scope (compEnvC scope cl C X.env) fp) tg g) (ht:∀ (s:Shared) (H:Hp) (C:Addr) (cl:List (Str×Addr)) (fp:List Addr),PTs (X.Jg s H scope (compEnvC scope cl C X.env) fp) ifs tt)
  (he:∀ (s:Shared) (H:Hp) (C:Addr) (cl:List (Str×Addr)) (fp:List Addr),PE (X.Jg s H scope (compEnvC scope cl C X.env) fp) elt te) (hs:∀ x,foldedSetIterable iter X.env x=pure x:=by intro _;rfl) :
  PE X (.ListComp elt [⟨tg,iter,ifs,0⟩] scope pos) (tLc wi g tt te (own.map (·.2))):=by
 intro pins s σ H Q I h;rw [eval_ListComp];refine OX hc hN I hi ok hg ht he hs h fun D C s' m H' I' q hn f=>⟨m,hn,fun h'' sb=>?_⟩;obtain ⟨f0,f1,f2,f3,f4,f5⟩:=f;exact ⟨.ref D,H',I'.turned (t':=s'.toks) (fun b o hb e=>(sb.2 b hb).trans e) f0 f1 f3 f4 f5,rfl,q⟩
theorem x6 {i:Nat} {y:Str} {py:Pos} {elt tg iter:Expr} {ifs:List Expr} {scope:Scope} {own:List (Str×Nat)} {pos spos:Pos} {wi:TI} {g:TG} {tt:TT} {te:TE} (hc:X.calm=true) (hN:X.N.Nodup) (hy:X.N[i]?=some y) (hyl:X.env.scope.names.lookup y=some .local)
   (hsw:swapsWith (.ListComp elt [⟨tg,iter,ifs,0⟩] scope pos) (some (.Name y py)) spos.line X.env=pure true) (hi:PI X tg iter wi) (ok:Ln X.N X.env.scope scope own)
   (hg:∀ (s:Shared) (H:Hp) (C:Addr) (cl:List (Str×Addr)) (fp:List Addr),PG (X.Jg s H scope (compEnvC scope cl C X.env) fp) tg g) (ht:∀ (s:Shared) (H:Hp) (C:Addr) (cl:List (Str×Addr)) (fp:List Addr),PTs (X.Jg s H scope (compEnvC scope cl C X.env) fp) ifs tt)
   (he:∀ (s:Shared) (H:Hp) (C:Addr) (cl:List (Str×Addr)) (fp:List Addr),PE (X.Jg s H scope (compEnvC scope cl C X.env) fp) elt te) (hs:∀ x,foldedSetIterable iter X.env x=pure x:=by intro _;rfl) :
   PS X (.Assign [.Name y py] (.ListComp elt [⟨tg,iter,ifs,0⟩] scope pos) spos) (YI (tLc wi g tt te (own.map (·.2))) (HF i)):=by
 intro pins s σ H D I h;rw [exec_Assign_Name_used _ _ _ _ hsw];refine wpAny_bind (wpAny_standAt (wpAny_bind ?_));show wpAny _ X.A (do let _ <- comprehension (.ListComp elt [⟨tg,iter,ifs,0⟩] scope pos) scope X.env (firstIterPos [⟨tg,iter,ifs,0⟩] pos) (newList []) false (eval iter X.env) (some (assign (.Name y py) X.env))) _ _ s;have h:tLc wi g tt te (own.map (·.2)) σ H (fun x H1=>HF i x σ H1 D.nx):=h;refine wpAny_bind (ee (OX (Qf:=fun _ s'=>SP X pins D .next s') hc hN I hi ok hg ht he hs h fun L C s' m H' I' q hn f=>?_) fun _ s' hq=>wpAny_pure (wpAny_pure hq));show wpAny _ _ (assign (.Name y py) X.env (.ref L)) _ _ _;refine wpAny_assign_Name (BQ (v:=V.ref L) I' hN hy (.inl hyl) rfl (fun s2 I2 ⟨a,sb,ha⟩=>?_) (.inr hyl));obtain ⟨f0,f1,f2,f3,f4,f5⟩:=f;have haC:C ≠ a:=by
   rcases ha with z | z
   . rw [z];exact f1
   . exact fun e=>f4 y a z e.symm
 refine ⟨m,hn.sameBut sb haC,fun h3 sb3=>?_⟩;exact ⟨_,H',I2.turned (t':=s2.toks) (fun b o hb e=>(sb3.2 b hb).trans e) f0 f1 f3 f4 f5,q⟩
end
theorem Lq {lo:Int} {n:Nat} {g:TG} {tt:TT} {te:TE} {vs:List Nat} {σ:St} {H1:Hp} {D:Addr} {Qd:Hp->Prop} (Pv:Nat->Hp->Prop) (h0:Pv 0 (upd H1 D (.lst [])))
   (hs:∀ i H,i < n->Pv i H->g (.int (lo+i)) (wipe σ vs) H fun σ2 H2=>wipe σ2 vs=wipe σ vs/\tt σ2 H2 fun b H3=>
     if b=true then te σ2 H3 fun y H4=>∃ acc,H4 D=some (.lst acc)/\acc.length < sizeLine/\Pv (i+1) (upd H4 D (.lst (acc++[y]))) else Pv (i+1) H3) (hd:∀ H,Pv n H->Qd H) :
   ∃ W:Nat->Nat->Hp->Prop,(∃ m,W 0 m (upd H1 D (.lst [])))/\∀ i m H,W i m H->
     ((VI lo n).stop i H/\Qd H)\/((VI lo n).go i H/\∃ Nx:Hp->Prop,(∀ H',Nx H'->∃ m',m' < m/\W (i+1) m' H')/\∀ x H',(VI lo n).Sy i H x H'->g x (wipe σ vs) H' fun σ2 H2=>wipe σ2 vs=wipe σ vs/\tt σ2 H2 fun b H3=>
       if b=true then te σ2 H3 fun y H4=>∃ acc,H4 D=some (.lst acc)/\acc.length < sizeLine/\Nx (upd H4 D (.lst (acc++[y]))) else Nx H3):=by
 refine ⟨fun i m H=>m=n - i/\i<=n/\Pv i H,⟨n,by simp,Nat.zero_le _,h0⟩,?_⟩;rintro i m H ⟨rfl,hi,p⟩;by_cases hlt:i < n
 . refine .inr ⟨hlt,Pv (i+1),fun H' p'=>⟨n - (i+1),by omega,rfl,hlt,p'⟩,fun x H' y=>?_⟩
   obtain ⟨e,y⟩:=y;subst e y;exact hs i _ hlt p
 . have e:i=n:=by omega
   subst e;exact .inl ⟨Nat.le_refl _,hd H p⟩
theorem nj {K:Zqq} {a:Addr} {xs:List V} {g:TG} {tt:TT} {te:TE} {vs:List Nat} {σ:St} {H1:Hp} {D:Addr} {Qd:Hp->Prop} (Pv:Nat->Hp->Prop) (h0:Pv 0 (upd H1 D (.lst []))) (hl:∀ i H,i<=xs.length->Pv i H->bI K H a xs)
   (hs:∀ i x H,xs[i]?=some x->Pv i H->g x (wipe σ vs) H fun σ2 H2=>wipe σ2 vs=wipe σ vs/\tt σ2 H2 fun b H3=>
     if b=true then te σ2 H3 fun y H4=>∃ acc,H4 D=some (.lst acc)/\acc.length < sizeLine/\Pv (i+1) (upd H4 D (.lst (acc++[y]))) else Pv (i+1) H3) (hd:∀ H,Pv xs.length H->Qd H) :
   ∃ W:Nat->Nat->Hp->Prop,(∃ m,W 0 m (upd H1 D (.lst [])))/\∀ i m H,W i m H->
     ((XY K a).stop i H/\Qd H)\/((XY K a).go i H/\∃ Nx:Hp->Prop,(∀ H',Nx H'->∃ m',m' < m/\W (i+1) m' H')/\∀ x H',(XY K a).Sy i H x H'->g x (wipe σ vs) H' fun σ2 H2=>wipe σ2 vs=wipe σ vs/\tt σ2 H2 fun b H3=>
       if b=true then te σ2 H3 fun y H4=>∃ acc,H4 D=some (.lst acc)/\acc.length < sizeLine/\Nx (upd H4 D (.lst (acc++[y]))) else Nx H3):=by
 refine ⟨fun i m H=>m=xs.length - i/\i<=xs.length/\Pv i H,⟨xs.length,by simp,Nat.zero_le _,h0⟩,?_⟩;rintro i m H ⟨rfl,hi,p⟩;have q:=hl i H hi p;by_cases hlt:i < xs.length
 . refine .inr ⟨⟨xs,xs[i],q,by simp [hlt]⟩,Pv (i+1),fun H' p'=>⟨xs.length - (i+1),by omega,rfl,hlt,p'⟩,fun x H' y=>?_⟩
   obtain ⟨e,y⟩:=y;subst e;exact hs i x _ (y xs q) p
 . have e:i=xs.length:=by omega
   subst e;exact .inl ⟨⟨xs,q,Nat.le_refl _⟩,hd H p⟩
def aaJ (N:List Str) (sc scope:Scope) (own:List (Str×Nat)):Bool:=
 (match scope.kind with | .function=>true | _=>false)&&(scope.names.all fun y=>decide (scope.names.lookup y.1=some y.2))&&(own.all fun p=>decide (N[p.2]?=some p.1)) &&
   (scope.names.all fun y=>match y.2 with
     | .free=>(match sc.names.lookup y.1 with | some .cell=>true | some .free=>true | _=>false)
     | .local=>decide (y.1 ∈ own.map (·.1))||decide (y.1 ∉ N)
     | .cell=>decide (y.1 ∈ own.map (·.1))||decide (y.1 ∉ N)
     | _=>true)
theorem jx {N:List Str} {sc scope:Scope} {own:List (Str×Nat)} (h:aaJ N sc scope own=true):Ln N sc scope own:=by
 unfold aaJ at h;simp only [Bool.and_eq_true,List.all_eq_true,decide_eq_true_eq] at h;obtain ⟨⟨⟨h1,h2⟩,h3⟩,h4⟩:=h;refine ⟨?_,h2,h3,fun y hy e=>?_,fun y hy e=>?_⟩
 . split at h1
   . assumption
   . cases h1
 . have q:=h4 y hy
   simp only [e] at q;split at q<;>first | exact .inl (by assumption) | exact .inr (by assumption) | cases q
 . have q:=h4 y hy
   rcases e with e | e<;>(simp only [e,Bool.or_eq_true,decide_eq_true_eq] at q;exact q)
section
variable {prog:Program} {w:World} {A:Around} {R:Result->Shared->Prop} {s:Shared} {elt t0 i0 t1 i1:Expr} {acN acO:List Expr} {scope:Scope} {pos:Pos} {it acc:Value} {env:Env}
end
section
variable {X:Cx}
end
section
variable {κ:Type} [DecidableEq κ]
def kh (kvs:List (κ×V)) (k:κ):Option V:=(kvs.find? fun kv=>decide (kv.1=k)).map (·.2)
def putK (kvs:List (κ×V)) (k:κ) (v:V):List (κ×V):=
 if (kvs.any fun kv=>decide (kv.1=k))=true then kvs.map (fun kv=>if kv.1=k then (kv.1,v) else kv) else kvs++[(k,v)]
theorem jy {p:κ×V} {r:List (κ×V)} {k:κ} (e:p.1=k):kh (p::r) k=some p.2:=by simp [kh,List.find?_cons,e]
theorem jz {p:κ×V} {r:List (κ×V)} {k:κ} (e:¬ p.1=k):kh (p::r) k=kh r k:=by simp [kh,List.find?_cons,e]
theorem nt (k:κ):∀ kvs:List (κ×V),(kvs.any fun kv=>decide (kv.1=k))=(kh kvs k).isSome
 | []=>rfl
 | p::r=>by
   rw [List.any_cons]
   by_cases e:p.1=k
   . simp only [jy e,decide_eq_true e,Bool.true_or,Option.isSome_some]
   . rw [jz e,decide_eq_false e,Bool.false_or];exact nt k r
theorem Lr (k j:κ) (y:V):∀ kvs:List (κ×V),kh (kvs.map fun kv=>if kv.1=k then (kv.1,y) else kv) j=(kh kvs j).map fun x=>if j=k then y else x
 | []=>rfl
 | p::r=>by
   have ih:=Lr k j y r
   rw [List.map_cons]
   by_cases h:p.1=k
   . rw [if_pos h]
     by_cases e:p.1=j
     . rw [jy (p:=(p.1,y)) e,jy e,Option.map_some,if_pos (e.symm.trans h)]
     . rw [jz (p:=(p.1,y)) e,jz e,ih]
   . rw [if_neg h]
     by_cases e:p.1=j
     . rw [jy (p:=p) e,jy e,Option.map_some,if_neg (fun z=>h (e.trans z))]
     . rw [jz (p:=p) e,jz e,ih]
theorem HU (k j:κ) (y:V):∀ kvs:List (κ×V),kh kvs k=none->kh (kvs++[(k,y)]) j=if j=k then some y else kh kvs j
 | [],_=>by
   by_cases e:k=j
   . rw [if_pos e.symm];exact jy (p:=(k,y)) e
   . rw [if_neg (fun z=>e z.symm)];exact jz (p:=(k,y)) e
 | p::r,hn=>by
   rw [List.cons_append]
   have hk:¬ p.1=k:=fun z=>by rw [jy z] at hn;cases hn
   rw [jz hk] at hn
   have ih:=HU k j y r hn
   by_cases e:p.1=j
   . rw [jy e,jy e,if_neg (fun z=>hk (e.trans z))]
   . rw [jz e,jz e,ih]
theorem Au (kvs:List (κ×V)) (k j:κ) (y:V):kh (putK kvs k y) j=if j=k then some y else kh kvs j:=by
 unfold putK;by_cases a:(kvs.any fun kv=>decide (kv.1=k))=true
 . rw [if_pos a,Lr]
   rw [nt] at a;by_cases e:j=k
   . obtain ⟨x,hx⟩:=Option.isSome_iff_exists.mp a
     rw [if_pos e,e,hx,Option.map_some,if_pos rfl]
   . rw [if_neg e]
     cases kh kvs j with
     | none=>rfl
     | some x=>rw [Option.map_some,if_neg e]
 . rw [if_neg a]
   refine HU k j y kvs ?_;rw [nt] at a;cases q:kh kvs k with
   | none=>rfl
   | some x=>rw [q] at a;exact (a rfl).elim
theorem jH (kvs:List (κ×V)) (k:κ) (v:V):(putK kvs k v).length<=kvs.length+1:=by
 unfold putK;split
 . rw [List.length_map];omega
 . rw [List.length_append,List.length_cons,List.length_nil];omega
theorem sW.u7 {o:Option V} {u:Option Value} (r:sW o u):o.isSome=u.isSome:=by
 cases o with
 | none=>cases u with
   | none=>rfl
   | some _=>exact (show False from r).elim
 | some _=>cases u with
   | none=>exact (show False from r).elim
   | some _=>rfl
theorem sW.getD {o:Option V} {u:Option Value} {d:V} {d':Value} (r:sW o u) (rd:RelV d d'):RelV (o.getD d) (u.getD d'):=by
 cases o with
 | none=>cases u with
   | none=>exact rd
   | some _=>exact (show False from r).elim
 | some _=>cases u with
   | none=>exact (show False from r).elim
   | some _=>exact r
theorem KV.val {kvs:List (κ×V)} {vs:List (κ×Value)} (r:KV kvs vs) (k:κ):sW (kh kvs k) (valueAt vs k):=by
 unfold KV at r;induction r with
 | nil=>exact True.intro
 | @cons p q ps qs h t ih=>
   obtain ⟨h1,h2⟩:=h;by_cases e:p.1=k
   . have e':q.1=k:=h1.symm.trans e
     have b:valueAt (q::qs) k=some q.2:=by simp [valueAt,List.find?_cons,e']
     rw [jy e,b];exact h2
   . have e':¬ q.1=k:=fun z=>e (h1.trans z)
     have b:valueAt (q::qs) k=valueAt qs k:=by simp [valueAt,List.find?_cons,e']
     rw [jz e,b];exact ih
theorem KV.any {kvs:List (κ×V)} {vs:List (κ×Value)} (r:KV kvs vs) (k:κ):(kvs.any fun kv=>decide (kv.1=k))=vs.any fun kv=>decide (kv.1=k):=by
 unfold KV at r;induction r with
 | nil=>rfl
 | cons h t ih=>rw [List.any_cons,List.any_cons,ih,h.1]
theorem KV.repl {kvs:List (κ×V)} {vs:List (κ×Value)} (r:KV kvs vs) (k:κ) {y:V} {u:Value} (ry:RelV y u) :
   KV (kvs.map fun kv=>if kv.1=k then (kv.1,y) else kv) (vs.map fun kv=>if kv.1=k then (kv.1,u) else kv):=by
 unfold KV at r ⊢;induction r with
 | nil=>exact .nil
 | @cons p q ps qs h t ih=>
   rw [List.map_cons,List.map_cons];refine .cons ?_ ih;obtain ⟨h1,h2⟩:=h;by_cases e:p.1=k
   . rw [if_pos e,if_pos (h1.symm.trans e)];exact ⟨h1,ry⟩
   . rw [if_neg e,if_neg (fun z=>e (h1.trans z))];exact ⟨h1,h2⟩
theorem KV.put {kvs:List (κ×V)} {vs:List (κ×Value)} (r:KV kvs vs) (k:κ) {y:V} {u:Value} (ry:RelV y u):KV (putK kvs k y) (stored vs k u):=by
 unfold putK stored;rw [r.any k];by_cases e:(vs.any fun kv=>decide (kv.1=k))=true
 . rw [if_pos e,if_pos e];exact r.repl k ry
 . rw [if_neg e,if_neg e];exact Paired.snoc r ⟨rfl,ry⟩
theorem KV.length {kvs:List (κ×V)} {vs:List (κ×Value)} (r:KV kvs vs):kvs.length=vs.length:=Paired.length r
end
theorem E2 {P:Program} {w:World} {k:Key} {u:Value} (r:RelV (kV k) u):(fL P w).is k u=true:=by
 cases k with
 | inl i=>obtain ⟨t,e⟩:=(show ∃ t,u=Value.int i t from r);subst e;exact La P w i t
 | inr x=>obtain ⟨t,e⟩:=(show ∃ t,u=Value.str x t from r);subst e;exact Lb P w x t
theorem HV {P:Program} {w:World}:∀ {ks:List Key} {us:List Value},Vals (ks.map kV) us->ItemsAre (fL P w) ks us
 | [],_,r=>by rw [List.map_nil] at r;cases r;exact .nil
 | k::ks,_,r=>by
  rw [List.map_cons] at r
  cases r with
  | cons h t=>exact .cons (E2 h) (HV t)
abbrev KT (H:Hp):List (List Key×V)->List (List Key×Addr×Value)->Prop:=Paired fun p q=>p.1=q.1/\H q.2.1=some (.tup (p.1.map kV))/\RelV p.2 q.2.2
theorem KT.val {H:Hp} {kvs:List (List Key×V)} {xs:List (List Key×Addr×Value)} (r:KT H kvs xs) (k:List Key):sW (kh kvs k) ((atKey xs k).map (·.2)):=by
 induction r with
 | nil=>exact True.intro
 | @cons p q ps qs h t ih=>
   obtain ⟨h1,_,h2⟩:=h;by_cases e:p.1=k
   . have e':q.1=k:=h1.symm.trans e
     have b:atKey (q::qs) k=some q.2:=by simp [atKey,List.find?_cons,e']
     rw [jy e,b];exact h2
   . have e':¬ q.1=k:=fun z=>e (h1.trans z)
     have b:atKey (q::qs) k=atKey qs k:=by simp [atKey,List.find?_cons,e']
     rw [jz e,b];exact ih
theorem KT.repl {H:Hp} {kvs:List (List Key×V)} {xs:List (List Key×Addr×Value)} (r:KT H kvs xs) (k:List Key) {y:V} {u:Value} (ry:RelV y u) :
   KT H (kvs.map fun kv=>if kv.1=k then (kv.1,y) else kv) (xs.map (putAt k u)):=by
 induction r with
 | nil=>exact .nil
 | @cons p q ps qs h t ih=>
   rw [List.map_cons,List.map_cons];refine .cons ?_ ih;obtain ⟨h1,h2,h3⟩:=h;unfold putAt;by_cases e:p.1=k
   . rw [if_pos e,if_pos (h1.symm.trans e)];exact ⟨h1,h2,ry⟩
   . rw [if_neg e,if_neg (fun z=>e (h1.trans z))];exact ⟨h1,h2,h3⟩
theorem KT.put {H:Hp} {kvs:List (List Key×V)} {xs:List (List Key×Addr×Value)} (r:KT H kvs xs) (k:List Key) {b:Addr} {y:V} {u:Value} (hb:H b=some (.tup (k.map kV))) (ry:RelV y u) :
   KT H (putK kvs k y) (storedH xs k b u):=by
 have e:(kvs.any fun kv=>decide (kv.1=k))=(atKey xs k).isSome:=by
   rw [nt,(r.val k).u7,Option.isSome_map]
 unfold putK storedH;rw [e];by_cases q:(atKey xs k).isSome=true
 . rw [if_pos q,if_pos q];exact r.repl k ry
 . rw [if_neg q,if_neg q];exact Paired.snoc r ⟨rfl,hb,ry⟩
theorem KT.keeps {H H':Hp} {kvs:List (List Key×V)} {xs:List (List Key×Addr×Value)} (r:KT H kvs xs) (ht:∀ b ys,H b=some (.tup ys)->H' b=some (.tup ys)):KT H' kvs xs:=
 Paired.Y8 r fun _ _ z=>⟨z.1,ht _ _ z.2.1,z.2.2⟩
section
variable {P:Program} {w:World} {H:Hp} {h:Heap} {a:Addr}
theorem Ye {u:HO} (ok:wj P w H h) (e:Rd H a u):dZ P w H h a u:=e.ok ok
theorem E3 {kvs:List (Key×V)} (ok:wj P w H h) (e:Rd H a (.dK kvs)):kvs.length<=sizeLine/\(a==sysModules)=false/\∃ vs,KV kvs vs/\h.DictOf (fL P w) a vs:=
 show dZ P w H h a (.dK kvs) from Ye ok e
theorem Yg {kvs:List (Key×V)} (ok:wj P w H h) (e:H a=some (.dK kvs)):kvs.length<=sizeLine/\(a==sysModules)=false/\∃ vs,KV kvs vs/\h.DictOf (fL P w) a vs:=E3 ok (.inl e)
theorem x8 {ks:List Key} (ok:wj P w H h) (e:H a=some (.tup (ks.map kV))):(tupleKind (fL P w)).is h ks a:=by
 obtain ⟨_,its,r,o,h1,h2,n,h3⟩:=(show dZ P w H h a (.tup (ks.map kV)) from ok a _ e);exact ⟨o,its.toArray,n,h1,h2,h3,by simpa using HV r⟩
theorem E4 {kvs:List (List Key×V)} (ok:wj P w H h) (e:Rd H a (.dT kvs)):kvs.length<=sizeLine/\(a==sysModules)=false /\
   ∃ xs,KT H kvs xs/\h.DictOfH (tupleKind (fL P w)) a xs:=by
 obtain ⟨z,y,xs,r,o,es,ep,h1,h2,h3,h4,h5⟩:=(show dZ P w H h a (.dT kvs) from Ye ok e);refine ⟨z,y,xs,r,o,es,ep,h1,h2,h3,h4,fun x hx=>?_,h5⟩;have all:∀ {l:List (List Key×V)} {m:List (List Key×Addr×Value)},KT H l m->∀ x ∈ m,(tupleKind (fL P w)).is h x.1 x.2.1:=by
   intro l m q;induction q with
   | nil=>intro x hx;exact nomatch hx
   | @cons p q ps qs hq t ih=>
     intro x hx;rcases List.mem_cons.mp hx with e | hx
     . subst e
       exact x8 ok (by rw [<- hq.1];exact hq.2.1)
     . exact ih x hx
 exact all r x hx
theorem OY {kvs:List (List Key×V)} (ok:wj P w H h) (e:H a=some (.dT kvs)):kvs.length<=sizeLine/\(a==sysModules)=false /\
   ∃ xs,KT H kvs xs/\h.DictOfH (tupleKind (fL P w)) a xs:=E4 ok (.inl e)
end
def qY (H:Hp) (a:Addr) (y:V) (r:Option V):Prop:=
 (∃ kvs k,Rd H a (.dK kvs)/\y=kV k/\r=kh kvs k)\/∃ kvs k b,Rd H a (.dT kvs)/\y=.ref b/\H b=some (.tup (k.map kV))/\r=kh kvs k
def E5 (H:Hp) (a:Addr) (y v:V) (H':Hp):Prop:=
 (∃ kvs k,H a=some (.dK kvs)/\y=kV k/\kvs.length < sizeLine/\H'=upd H a (.dK (putK kvs k v))) \/
 ∃ kvs k b,H a=some (.dT kvs)/\y=.ref b/\H b=some (.tup (k.map kV))/\kvs.length < sizeLine/\H'=upd H a (.dT (putK kvs k v))
theorem qY.k {H:Hp} {a:Addr} {kvs:List (Key×V)} {k:Key} (e:H a=some (.dK kvs)):qY H a (kV k) (kh kvs k):=.inl ⟨kvs,k,.inl e,rfl,rfl⟩
theorem qY.t {H:Hp} {a b:Addr} {kvs:List (List Key×V)} {k:List Key} (e:H a=some (.dT kvs)) (eb:H b=some (.tup (k.map kV))):qY H a (.ref b) (kh kvs k):=.inr ⟨kvs,k,b,.inl e,rfl,eb,rfl⟩
theorem E5.k {H:Hp} {a:Addr} {kvs:List (Key×V)} {k:Key} {v:V} (e:H a=some (.dK kvs)) (hl:kvs.length < sizeLine):E5 H a (kV k) v (upd H a (.dK (putK kvs k v))):=.inl ⟨kvs,k,e,rfl,hl,rfl⟩
theorem E5.t {H:Hp} {a b:Addr} {kvs:List (List Key×V)} {k:List Key} {v:V} (e:H a=some (.dT kvs)) (eb:H b=some (.tup (k.map kV))) (hl:kvs.length < sizeLine) :
   E5 H a (.ref b) v (upd H a (.dT (putK kvs k v))):=.inr ⟨kvs,k,b,e,rfl,eb,hl,rfl⟩
section
variable {X:Cx} {pins:List (Addr×Obj)} {σ:St} {H:Hp} {s:Shared} {a:Addr} {y v:V} {u r:Value} {o:Option V} {A:Around} {E:Value->Shared->Prop}
theorem Inv.big (I:Inv X pins σ H s):sysModules < s.heap.objs.size:=by
 have h:mainGlobals < s.heap.objs.size:=(I.mod.glob.keeps I.bk).lt;exact Nat.lt_trans (by decide) h
theorem Qs {Q:Value->Shared->Prop} (hu:A.units+1 < cLine) (I:Inv X pins σ H s) (g:qY H a y (some v)) (ry:RelV y u) (h:∀ w' s',Inv X pins σ H s'->RelV v w'->Q w' s') :
   wpAny (model X.prog X.w) A (getItem (.ref a) u) Q E s:=by
 rcases g with ⟨kvs,k,e,ey,l⟩ | ⟨kvs,k,b,e,ey,eb,l⟩
 . subst ey
   obtain ⟨z,hd,vs,rel,dd⟩:=E3 I.hok e;obtain ⟨w',hw,rw'⟩:=sW.some_of (v:=v) (o:=valueAt vs k) (by rw [l];exact rel.val k);exact wpAny_getItem_of (E2 ry) dd.mapOf hw (h w' _ (I.tok _) rw')
 . subst ey
   cases (show u=Value.ref b from ry);obtain ⟨z,hd,xs,rel,dd⟩:=E4 I.hok e;obtain ⟨w',hw,rw'⟩:=sW.some_of (v:=v) (o:=(atKey xs k).map (·.2)) (by rw [l];exact rel.val k);obtain ⟨p,hp,hp2⟩:=Option.map_eq_some_iff.mp hw;refine wpAny_getItem_heap (tupleKind_room_in1 hu) (x8 I.hok eb) dd hp ?_;rw [hp2];exact h w' _ (I.tok _) rw'
theorem acq {Q:Value->Shared->Prop} (hu:A.units+1 < cLine) (I:Inv X pins σ H s) (g:qY H a y o) (ry:RelV y u) (h:∀ s',Inv X pins σ H s'->Q (.bool o.isSome) s') :
   wpAny (model X.prog X.w) A (compareOp .In u (.ref a)) Q E s:=by
 rcases g with ⟨kvs,k,e,ey,l⟩ | ⟨kvs,k,b,e,ey,eb,l⟩
 . subst ey
   obtain ⟨z,hd,vs,rel,dd⟩:=E3 I.hok e;refine wpAny_in_of (E2 ry) hd dd.mapOf ?_;rw [<- (rel.val k).u7,<- l];exact h _ (I.tok _)
 . subst ey
   cases (show u=Value.ref b from ry);obtain ⟨z,hd,xs,rel,dd⟩:=E4 I.hok e;refine wpAny_in_heap (tupleKind_room_in1 hu) (x8 I.hok eb) hd dd ?_;have q:=(rel.val k).u7;rw [Option.isSome_map] at q;rw [<- q,<- l];exact h _ (I.tok _)
theorem VZ {Q:Value->Shared->Prop} (hu:A.units+1 < cLine) (I:Inv X pins σ H s) (g:qY H a y o) (ry:RelV y u) (h:∀ s',Inv X pins σ H s'->Q (.bool (!o.isSome)) s') :
   wpAny (model X.prog X.w) A (compareOp .NotIn u (.ref a)) Q E s:=by
 rcases g with ⟨kvs,k,e,ey,l⟩ | ⟨kvs,k,b,e,ey,eb,l⟩
 . subst ey
   obtain ⟨z,hd,vs,rel,dd⟩:=E3 I.hok e;refine wpAny_notIn_of (E2 ry) hd dd.mapOf ?_;rw [<- (rel.val k).u7,<- l];exact h _ (I.tok _)
 . subst ey
   cases (show u=Value.ref b from ry);obtain ⟨z,hd,xs,rel,dd⟩:=E4 I.hok e;refine wpAny_notIn_heap (tupleKind_room_in1 hu) (x8 I.hok eb) hd dd ?_;have q:=(rel.val k).u7;rw [Option.isSome_map] at q;rw [<- q,<- l];exact h _ (I.tok _)
theorem Av {h':Heap} {t':Nat} {ob:HO} (I:Inv X pins σ H s) (mu:XQ (H a)) (hs:Heap.SameBut a s.heap h') (he:∃ q,h'.get? a=some q) (new:dZ X.prog X.w (upd H a ob) h' a ob) :
  Inv X pins σ (upd H a ob) { s with heap:=h',toks:=t' }:=
 I.write (x:=a) (e:=a) mu (.inl rfl) (fun b q hb z=>(hs.2 b hb).trans z) he new
theorem Td {P:Program} {w:World} {H':Hp} {h':Heap} {kvs:List (Key×V)} {vs:List (Key×Value)} (z:kvs.length<=sizeLine) (hd:(a==sysModules)=false) (rel:KV kvs vs) (dd:h'.DictOf (fL P w) a vs) :
   dZ P w H' h' a (.dK kvs):=⟨z,hd,vs,rel,dd⟩
theorem Qt {H':Hp} {Q:Unit->Shared->Prop} (hu:A.units+1 < cLine) (I:Inv X pins σ H s) (g:E5 H a y v H') (ry:RelV y u) (rv:RelV v r) (h:∀ s',Inv X pins σ H' s'->Q () s') :
   wpAny (model X.prog X.w) A (setItem (.ref a) u r) Q E s:=by
 rcases g with ⟨kvs,k,e,ey,l,eH⟩ | ⟨kvs,k,b,e,ey,eb,l,eH⟩
 . subst ey eH
   obtain ⟨z,hd,vs,rel,dd⟩:=Yg I.hok e;have hz:vs.length<=sizeLine:=by rw [<- rel.length];exact z
   have hl:(putK kvs k v).length<=sizeLine:=by have:=jH kvs k v;omega
   refine wpAny_setItem_pairs (hsz:=hz) (E2 ry) dd fun h' dd' hs=>h _ ?_;have he:∃ q,h'.get? a=some q:=let ⟨q,_,_,hq,_⟩:=dd';⟨q,hq⟩;exact Av I (by rw [e];exact True.intro) hs he (Td hl hd (rel.put k rv) dd')
 . subst ey eH
   cases (show u=Value.ref b from ry);obtain ⟨z,hd,xs,rel,dd⟩:=OY I.hok e;have hz:xs.length<=sizeLine:=by rw [<- Paired.length rel];exact z
   have hl:(putK kvs k v).length<=sizeLine:=by have:=jH kvs k v;omega
   refine wpAny_setItem_heap (hsz:=hz) (tupleKind_room_in1 hu) (x8 I.hok eb) dd fun h' dd' hs=>h _ ?_;obtain ⟨q,es,ep,hq,h2,h3,h4,_,h5⟩:=dd';refine Av I (by rw [e];exact True.intro) hs ⟨q,hq⟩ ⟨hl,hd,_,(rel.put k eb rv).keeps fun c ys ec=>?_,q,es,ep,hq,h2,h3,h4,h5⟩;rw [aq (ni ec e (fun z=>nomatch z))];exact ec
end
section
variable {X:Cx} {pins:List (Addr×Obj)} {σ:St} {H:Hp} {s:Shared} {a:Addr} {kvs:List (Key×V)} {k:Key} {u:Value} {A:Around} {E:Value->Shared->Prop}
end
def aaK (i:Expr):Prop:=∀ ov iv,subscripted i false ov iv=operate [ov,iv] (getItem ov iv)
theorem Wa {prog:Program} {w:World} {A:Around} {E:Value->Shared->Prop} {s:Shared} {env:Env} {value slice:Expr} {pos:Pos} {T id:String} {Q:Value->Shared->Prop}
   (hl:typeLookup (.type T) "__getitem__"=pure (some (.builtin id))) (hs:aaK slice)
   (h:wpAny (model prog w) A (eval value env) (fun o s₁=>wpAny (model prog w) A (eval slice env) (fun i s₂=>s₂.TypeIs o T/\wpAny (model prog w) A (getItem o i) Q E s₂) E s₁) E s) :
   wpAny (model prog w) A (eval (.Subscript value slice pos) env) Q E s:=by
 refine Subscript_ (wpAny_mono h (fun o s₁ h₁=>wpAny_mono h₁ (fun i s₂ h₂=>?_) fun _ _ x=>x) fun _ _ x=>x);obtain ⟨hT,h₂⟩:=h₂;unfold subscriptTail;refine wpAny_bind ?_;rw [getitemInPython_of_ne hT.not_modules];refine wpAny_bind (wpAny_specialOf hT hl ?_);have fin:wpAny (model prog w) A (subscripted slice false o i) (fun r s₃=>wpAny (model prog w) A (letTemporaryGo value o r >>= fun _=>pure r) Q E s₃) E s₂:=by
   rw [hs o i];exact wpAny_operating (wpAny_mono h₂ (fun r s₃ h₃=>wpAny_bind (wpAny_letTemporaryGo (wpAny_pure h₃))) fun _ _ x=>x)
 first
   | exact wpAny_pure (wpAny_bind fin)
   | exact wpAny_bind (wpAny_pure (wpAny_bind fin))
   | exact wpAny_bind fin
theorem Ls {X:Cx} {pins:List (Addr×Obj)} {σ:St} {H:Hp} {s:Shared} {a:Addr} {y:V} {o:Option V} (I:Inv X pins σ H s) (g:qY H a y o):s.TypeIs (.ref a) "dict":=by
 rcases g with ⟨kvs,k,e,_,_⟩ | ⟨kvs,k,b,e,_,_,_⟩
 . obtain ⟨_,_,vs,_,dd⟩:=E3 I.hok e
   exact dd.typeIs
 . obtain ⟨_,_,xs,_,dd⟩:=E4 I.hok e
   exact dd.typeIs
def aaL (td ty:TE):TE:=fun σ H Q=>td σ H fun x H1=>ty σ H1 fun y H2=>∃ a v,x=.ref a/\qY H2 a y (some v)/\Q v H2
def acr (ty td:TE):TE:=fun σ H Q=>ty σ H fun y H1=>td σ H1 fun x H2=>∃ a o,x=.ref a/\qY H2 a y o/\Q (.bl o.isSome) H2
def Wb (ty td:TE):TE:=fun σ H Q=>ty σ H fun y H1=>td σ H1 fun x H2=>∃ a o,x=.ref a/\qY H2 a y o/\Q (.bl (!o.isSome)) H2
def aaM (td ty tv:TE):TS:=fun D σ H=>tv σ H fun v H1=>td σ H1 fun x H2=>ty σ H2 fun y H3=>∃ a H4,x=.ref a/\E5 H3 a y v H4/\D.nx σ H4
section
variable {X:Cx} {o i e value:Expr} {pos pos' tpos:Pos} {td ty tv:TE}
theorem DR (hu:X.A.units+1 < cLine) (ho:PE X o td) (hi:PE X i ty) (hs:aaK i):PE X (.Subscript o i pos) (aaL td ty):=by
 intro pins s σ H Q I h;refine Wa PySem.F.slot_dict_getitem.lookup hs (ee (ho pins s σ H _ I h) fun u s1 ⟨x,H1,I1,rx,q1⟩=>ee (hi pins s1 σ H1 _ I1 q1) fun iv s2 ⟨y,H2,I2,ry,a,v,ex,g,q2⟩=>?_);subst ex;obtain rfl:u=Value.ref a:=rx;exact ⟨Ls I2 g,Qs hu I2 g ry fun w' s3 I3 rw'=>⟨v,H2,I3,rw',q2⟩⟩
theorem Te (hu:X.A.units+1 < cLine) (hi:PE X i ty) (ho:PE X o td):PC X .In i o (acr ty td):=by
 intro pins s σ H Q I h;refine ee (hi pins s σ H _ I h) fun iv s1 ⟨y,H1,I1,ry,q1⟩=>ee (ho pins s1 σ H1 _ I1 q1) fun u s2 ⟨x,H2,I2,rx,a,ov,ex,g,q2⟩=>?_;subst ex;obtain rfl:u=Value.ref a:=rx;exact acq hu I2 g ry fun s3 I3=>⟨.bl ov.isSome,H2,I3,rfl,q2⟩
theorem Qu (hu:X.A.units+1 < cLine) (hi:PE X i ty) (ho:PE X o td):PC X .NotIn i o (Wb ty td):=by
 intro pins s σ H Q I h;refine ee (hi pins s σ H _ I h) fun iv s1 ⟨y,H1,I1,ry,q1⟩=>ee (ho pins s1 σ H1 _ I1 q1) fun u s2 ⟨x,H2,I2,rx,a,ov,ex,g,q2⟩=>?_;subst ex;obtain rfl:u=Value.ref a:=rx;exact VZ hu I2 g ry fun s3 I3=>⟨.bl (!ov.isSome),H2,I3,rfl,q2⟩
theorem Aw (hu:X.A.units+1 < cLine) (ho:PE X o td) (hi:PE X i ty) (hv:PE X value tv) (hs:swapsWith value (some (.Subscript o i pos')) pos.line X.env=pure false) :
  PS X (.Assign [.Subscript o i pos'] value pos) (aaM td ty tv):=by
 intro pins s σ H D I h;refine wpAny_Assign_Subscript (ee (hv pins s σ H _ I h) fun r s1 ⟨v,H1,I1,rv,q1⟩=>ee (ho pins s1 σ H1 _ I1 q1) fun u s2 ⟨x,H2,I2,rx,q2⟩=>ee (hi pins s2 σ H2 _ I2 q2) fun iv s3 ⟨y,H3,I3,ry,a,H4,ex,g,q3⟩=>?_) hs;subst ex;obtain rfl:u=Value.ref a:=rx;exact Qt hu I3 g ry rv fun s4 I4=>⟨σ,H4,I4,q3⟩
end
theorem Tf {P:Program} {w:World} {H:Hp} (h:Heap) (hb:sysModules < h.objs.size):dZ P w H (h.push { cls:=.type "dict",data:=.dict #[] }) h.objs.size (.dK []):=
 ⟨Nat.zero_le _,beq_eq_false_iff_ne.mpr (Ne.symm (Nat.ne_of_lt hb)),[],.nil,Heap.DictOf.new h⟩
theorem Lu {P:Program} {w:World} {H:Hp} (h:Heap) (hb:sysModules < h.objs.size):dZ P w H (h.push { cls:=.type "dict",data:=.dict #[] }) h.objs.size (.dT []):=
 ⟨Nat.zero_le _,beq_eq_false_iff_ne.mpr (Ne.symm (Nat.ne_of_lt hb)),[],.nil,_,#[],0,Heap.get?_push_size _ rfl,⟨rfl,rfl,rfl⟩,rfl,rfl,List.nodup_nil⟩
def Za:TE:=fun _ H Q=>∀ p,H p=none->Q (.ref p) (upd H p (.dT []))
section
variable {X:Cx} {pos:Pos}
theorem Ax:PE X (.Dict [] [] pos) Za:=fun pins s σ H Q I h=>
 wpAny_Dict_empty ⟨.ref s.heap.objs.size,_,I.laid (a:=s.heap.objs.size) (o:=.dT []) (t':=s.toks) (fun _ _ q=>Heap.get?_push_of_some _ q) (Nat.le_refl _) (Lu s.heap I.big),rfl,h _ (I.hok.fresh (Nat.le_refl _))⟩
end
def NJ:List (TE×TE)->St->Hp->(List (V×V)->Hp->Prop)->Prop
 | [],_,H,Q=>Q [] H
 | (tk,tv)::r,σ,H,Q=>tk σ H fun x H1=>tv σ H1 fun y H2=>NJ r σ H2 fun ps H3=>Q ((x,y)::ps) H3
abbrev VV:List (V×V)->List (Value×Value)->Prop:=Paired fun p q=>RelV p.1 q.1/\RelV p.2 q.2
def PPs (X:Cx) (pos:Pos) (keys:List (Option Expr)) (values:List Expr) (Wc:List (TE×TE)):Prop:=
 ∀ (pins:List (Addr×Obj)) (s:Shared) (σ:St) (H:Hp) (Q:List (V×V)->Hp->Prop),Inv X pins σ H s->NJ Wc σ H Q->
   wpAny (model X.prog X.w) X.A (evalPairs (pairTrees keys values X.env pos)) (fun vs s'=>∃ ps H',Inv X pins σ H' s'/\VV ps vs/\Q ps H') X.xe s
theorem OZ {X:Cx} {pos:Pos}:PPs X pos [] [] []:=fun pins s σ H Q I h=>pairTrees_nil_walk ⟨[],H,I,.nil,h⟩
theorem Lw {X:Cx} {pos:Pos} {k v:Expr} {ks:List (Option Expr)} {vs:List Expr} {tk tv:TE} {Wc:List (TE×TE)} (hk:PE X k tk) (hv:PE X v tv) (hr:PPs X pos ks vs Wc) :
  PPs X pos (some k::ks) (v::vs) ((tk,tv)::Wc):=fun pins s σ H Q I h=>
 pairTrees_cons_walk (ee (hk pins s σ H _ I h) fun u s1 ⟨x,H1,I1,rx,q1⟩=>ee (hv pins s1 σ H1 _ I1 q1) fun w2 s2 ⟨y,H2,I2,ry,q2⟩=>
  ee (hr pins s2 σ H2 _ I2 q2) fun ws s3 ⟨ps,H3,I3,rel,q3⟩=>⟨(x,y)::ps,H3,I3,.cons ⟨rx,ry⟩ rel,q3⟩)
def BZ (kvs more:List (Key×V)):List (Key×V):=more.foldl (fun acc kv=>putK acc kv.1 kv.2) kvs
theorem KV.merge:∀ {more:List (Key×V)} {rs:List (Key×Value)} {kvs:List (Key×V)} {vs:List (Key×Value)},KV more rs->KV kvs vs->KV (BZ kvs more) (merged vs rs):=by
 intro more rs kvs vs r;unfold KV at r;induction r generalizing kvs vs with
 | nil=>intro q;exact q
 | @cons p q ps qs h t ih=>
  intro r0;have e:KV (putK kvs p.1 p.2) (stored vs q.1 q.2):=by
   have:=r0.put p.1 h.2;rw [<- h.1];exact this
  exact ih e
theorem zu:∀ (more kvs:List (Key×V)),(BZ kvs more).length<=kvs.length+more.length
 | [],kvs=>by show kvs.length<=kvs.length+0;omega
 | p::r,kvs=>by
  have h1:=zu r (putK kvs p.1 p.2)
  have h2:=jH kvs p.1 p.2
  show (BZ (putK kvs p.1 p.2) r).length<=_
  rw [List.length_cons];omega
theorem E6 {P:Program} {w:World}:∀ {kvs:List (Key×V)} {ws:List (Value×Value)},VV (kvs.map fun kv=>(kV kv.1,kv.2)) ws->∃ rs,Carries (fL P w) ws rs/\KV kvs rs
 | [],_,r=>by rw [List.map_nil] at r;cases r;exact ⟨[],True.intro,.nil⟩
 | p::kvs,_,r=>by
  rw [List.map_cons] at r
  cases r with
  | @cons a b as bs h t=>
   obtain ⟨rs,c,q⟩:=E6 (P:=P) (w:=w) t
   obtain ⟨b1,b2⟩:=b
   exact ⟨(p.1,b2)::rs,⟨E2 h.1,rfl,c⟩,.cons ⟨rfl,h.2⟩ q⟩
def aaN (Wc:List (TE×TE)):TE:=fun σ H Q=>∀ p,H p=none->NJ Wc σ (upd H p (.dK [])) fun ps H2=>H2 p=some (.dK [])/\∃ kvs:List (Key×V),ps=kvs.map (fun kv=>(kV kv.1,kv.2))/\kvs.length<=15/\Q (.ref p) (upd H2 p (.dK (BZ [] kvs)))
theorem We {X:Cx} {pos:Pos} {keys:List (Option Expr)} {values:List Expr} {Wc:List (TE×TE)} (h:PPs X pos keys values Wc) (hall:keys.all (·.isSome)=true) (hl:keys.length=values.length) (h0:keys ≠ [])
  (h15:keys.length<=15):PE X (.Dict keys values pos) (aaN Wc):=by
 intro pins s σ H Q I q;have hn:=I.hok.fresh (Nat.le_refl s.heap.objs.size);have I1:=I.laid (a:=s.heap.objs.size) (o:=.dK []) (h':=s.heap.push { cls:=.type "dict",data:=.dict #[] }) (t':=s.toks) (fun _ _ q=>Heap.get?_push_of_some _ q) (Nat.le_refl _) (Tf s.heap I.big);refine wpAny_Dict_walk (knd:=fL X.prog X.w) hall hl h0 h15 (ee (h pins _ σ _ _ I1 (q _ hn)) fun ws s2 ⟨ps,H2,I2,rel,e,kvs,ep,lk,q2⟩=>?_);subst ep;obtain ⟨rs,c,rk⟩:=E6 (P:=X.prog) (w:=X.w) rel;obtain ⟨z,hd,vs0,r0,dd⟩:=Yg I2.hok e;cases r0;refine ⟨rs,c,dd,fun h' dd' hs=>⟨.ref s.heap.objs.size,_,?_,rfl,q2⟩⟩;have hz:(BZ [] kvs).length<=sizeLine:=by
  have h1:=zu kvs [];rw [List.length_nil] at h1;rw [sizeLine_eq];omega
 have he:∃ q,h'.get? s.heap.objs.size=some q:=let ⟨q,_,_,hq,_⟩:=dd';⟨q,hq⟩;exact Av I2 (by rw [e];exact True.intro) hs he (Td hz hd (rk.merge .nil) dd')
structure M1 (X:Cx) (o:Expr) (m:Str) (apos:Pos) (e:Expr) (cpos:Pos):Prop where
 base:attributeBase o m X.env (eval o X.env)=eval o X.env
 few:((backTo cpos (starEach [e] X.env)).all (fun x=>!x.1)&&(backToKw cpos (keywordEach [] X.env)).all (fun x=>x.1.isSome)
  &&decide (([e]:List Expr).length+([]:List Keyword).length+(if ([]:List Keyword).isEmpty then 0 else 1) < 30))=true
 line:(apos.endLine==cpos.line)=true
 trees:backTo cpos (starEach [e] X.env)=[(false,eval e X.env)]
structure M2 (X:Cx) (o:Expr) (m:Str) (apos:Pos) (e f:Expr) (cpos:Pos):Prop where
 base:attributeBase o m X.env (eval o X.env)=eval o X.env
 few:((backTo cpos (starEach [e,f] X.env)).all (fun x=>!x.1)&&(backToKw cpos (keywordEach [] X.env)).all (fun x=>x.1.isSome)
  &&decide (([e,f]:List Expr).length+([]:List Keyword).length+(if ([]:List Keyword).isEmpty then 0 else 1) < 30))=true
 line:(apos.endLine==cpos.line)=true
 trees:backTo cpos (starEach [e,f] X.env)=[(false,eval e X.env),(false,eval f X.env)]
def IsD (H:Hp) (a:Addr):Prop:=(∃ kvs,Rd H a (.dK kvs))\/∃ kvs,Rd H a (.dT kvs)
theorem NK {X:Cx} {pins:List (Addr×Obj)} {σ:St} {H:Hp} {s:Shared} {a:Addr} (I:Inv X pins σ H s) (d:IsD H a) :
   s.TypeIs (.ref a) "dict"/\(∀ b,Value.ref a=.ref b->∃ ob,s.heap.get? b=some ob/\ob.dict=none)/\(a==sysModules)=false:=by
 rcases d with ⟨kvs,e⟩ | ⟨kvs,e⟩
 . obtain ⟨_,hd,vs,_,dd⟩:=E3 I.hok e
   refine ⟨dd.typeIs,fun b q=>?_,hd⟩;cases q;obtain ⟨ob,_,_,h1,h2,_⟩:=dd;exact ⟨ob,h1,h2.2.1⟩
 . obtain ⟨_,hd,xs,_,dd⟩:=E4 I.hok e
   refine ⟨dd.typeIs,fun b q=>?_,hd⟩;cases q;obtain ⟨ob,_,_,h1,h2,_⟩:=dd;exact ⟨ob,h1,h2.2.1⟩
section
variable {X:Cx} {pins:List (Addr×Obj)} {σ:St} {H:Hp} {s:Shared} {a:Addr} {y d:V} {u r:Value} {o:Option V} {A:Around} {E:Value->Shared->Prop}
theorem Zb {Q:Value->Shared->Prop} (hu:A.units+1 < cLine) (I:Inv X pins σ H s) (g:qY H a y o) (ry:RelV y u) (h:∀ w' s',Inv X pins σ H s'->RelV (o.getD .non) w'->Q w' s') :
   wpAny (model X.prog X.w) A (call (.builtin "dict.get") [.ref a,u]) Q E s:=by
 rcases g with ⟨kvs,k,e,ey,l⟩ | ⟨kvs,k,b,e,ey,eb,l⟩
 . subst ey
   obtain ⟨z,hd,vs,rel,dd⟩:=E3 I.hok e;refine call_meetsIn PySem.F.slot_dict_get dd.typeIs PySem.F.entry_dict_get (PySem.F.args_dict_get_2 _ _) (meets_dict_get (fL X.prog X.w) a (E2 ry) hd) ⟨_,dd.mapOf,h _ _ (I.tok _) ?_⟩;rw [l];exact (rel.val k).getD rfl
 . subst ey
   cases (show u=Value.ref b from ry);obtain ⟨z,hd,xs,rel,dd⟩:=E4 I.hok e;refine call_meetsIn PySem.F.slot_dict_get dd.typeIs PySem.F.entry_dict_get (PySem.F.args_dict_get_2 _ _) (meetsH_dict_get (tupleKind (fL X.prog X.w)) a b hd) ⟨tupleKind_room_in1 hu,k,xs,x8 I.hok eb,dd,h _ _ (I.tok _) ?_⟩;rw [l];exact (rel.val k).getD rfl
end
def Zc (td ty:TE):TE:=fun σ H Q=>td σ H fun x H1=>∃ a,x=.ref a/\IsD H1 a/\ty σ H1 fun y H2=>∃ o,qY H2 a y o/\Q (o.getD .non) H2
section
variable {X:Cx} {o e f:Expr} {apos cpos:Pos} {td ty tx:TE}
theorem Tg (hu:X.A.units+1 < cLine) (ho:PE X o td) (he:PE X e ty) (m:M1 X o "get" apos e cpos):PE X (.Call (.Attribute o "get" apos) [e] [] cpos) (Zc td ty):=by
 intro pins s σ H Q I h;refine wpAny_Call_method m.base m.few m.line PySem.F.plainAttrs_dict PySem.F.slot_dict_get PySem.F.type_dict_get (ee (ho pins s σ H _ I h) fun u s1 ⟨x,H1,I1,rx,a,ex,d,q1⟩=>?_);subst ex;obtain rfl:u=Value.ref a:=rx;obtain ⟨t1,t2,_⟩:=NK I1 d;refine ⟨t1,t2,?_⟩;rw [m.trees];refine Calls.callWith_builtin rfl (Calls.evalArgs_plain (Calls.spliced_cons (ee (he pins s1 σ H1 _ I1 q1) fun iv s2 ⟨y,H2,I2,ry,ov,g,q2⟩=>Calls.spliced_nil ?_)));exact Zb hu I2 g ry fun w' s3 I3 rw'=>⟨_,H2,I3,rw',q2⟩
end
section
variable {X:Cx} {pins:List (Addr×Obj)} {σ:St} {H:Hp} {s:Shared} {a:Addr} {kvs:List (Key×V)} {A:Around} {E:Value->Shared->Prop}
end
section
variable {X:Cx} {pins:List (Addr×Obj)} {σ:St} {H:Hp} {s:Shared} {a:Addr} {y:V} {u:Value} {A:Around} {E:Value->Shared->Prop}
end
section
variable {prog:Program} {w:World} {A:Around} {E:Value->Shared->Prop}
end
section
variable {X:Cx}
end
section
variable {X:Cx} {pins:List (Addr×Obj)} {σ:St} {H:Hp} {s:Shared} {h':Heap}
theorem Inv.Qw {t':Nat} {ch:List Addr} {T:Addr} {ob:HO} (I:Inv X pins σ H s) (k:∀ b o,b ∉ ch->s.heap.get? b=some o->h'.get? b=some o) (hf:∀ b ∈ ch,Ep X pins H b) (hT:s.heap.objs.size<=T)
   (new:dZ X.prog X.w (upd H T ob) h' T ob):Inv X pins σ (upd H T ob) { s with heap:=h',toks:=t' }:=by
 have hn:H T=none:=I.hok.fresh hT;have nit:∀ b u,H b=some u->b ∉ ch:=fun b u e z=>by
   have q:=(hf b z).1;rw [q] at e;cases e
 refine I.step (g':=s.gens) (d':=s.drawn) (ch:=ch) (fun b hb=>⟨(hf b hb).2.2.2.1,(hf b hb).2.1,(hf b hb).2.2.2.2.1,(hf b hb).2.2.2.2.2⟩) (fun b o _ _ hc e _=>k b o hc e) (fun b o _ _ hc e _=>⟨o.slots,k b o hc e⟩)
   (fun b o _ e n=>?_) (fun b o hc e=>⟨o,k b o hc e⟩) (fun b xs e=>?_) (fun b o u e=>?_) (fun b ps e=>⟨#[],?_⟩) (fun m hm=>?_) (fun b u e=>?_) I.bare
 . rw [aq (Nat.ne_of_lt (Nat.lt_of_lt_of_le (Heap.lt_size e) hT))];exact n
 . rw [aq (ay e hn)];exact e
 . rw [aq (ay e hn)];exact e
 . rw [aq (ay e hn),e];simp
 . obtain ⟨o,es,ep,ho,r⟩:=hm
   exact ⟨o,es,ep,k _ o (fun z=>(hf _ z).2.1 rfl) ho,r⟩
 . by_cases hb:b=T
   . subst hb
     rw [ai] at e;cases e;exact new
   . rw [aq hb] at e
     refine (I.hok b u e).stay (fun c v hc q=>k c v ?_ q) (fun c q=>by rw [aq (ay q hn)];exact q) fun c xs q=>by rw [aq (ay q hn)];exact q
     rcases hc with z | z
     . rw [z];exact nit b u e
     . exact nit c _ z
theorem Inv.lock {d:Addr} {u:HO} (I:Inv X pins σ H s) (h:H d=some u) (mu:XQ (some u)):∃ od,Inv X pins σ (upd H d (.qh od u)) s:=by
 have x:=I.hok d u h;have ex:∃ od,s.heap.get? d=some od:=by
   cases u with
   | lst xs=>obtain ⟨_,_,_,_,e⟩:=x;exact ⟨_,e⟩
   | dK kvs=>obtain ⟨_,_,_,_,o,_,_,e,_⟩:=x;exact ⟨o,e⟩
   | dT kvs=>obtain ⟨_,_,_,_,o,_,_,e,_⟩:=x;exact ⟨o,e⟩
   | set S n=>obtain ⟨o,_,_,_,e,_⟩:=x;exact ⟨o,e⟩
   | ins C dx fs=>obtain ⟨_,_,_,e,_⟩:=x;exact ⟨_,e⟩
   | ext φ=>obtain ⟨_,⟨_,e⟩,_⟩:=x;exact ⟨_,e⟩
   | _=>exact False.elim mu
 obtain ⟨od,e⟩:=ex;have new:dZ X.prog X.w (upd H d (.qh od u)) s.heap d (.qh od u):=by
   refine ⟨e,x.stay (fun b v _ q=>q) (fun b q=>?_) fun b xs q=>?_⟩
   . rw [aq (fun z=>by rw [z,h] at q;cases q;exact mu)];exact q
   . rw [aq (fun z=>by rw [z,h] at q;cases q;exact mu)];exact q
 exact ⟨od,I.write (x:=d) (e:=d) (t':=s.toks) (h':=s.heap) (by rw [h];exact mu) (.inl rfl) (fun b v _ q=>q) ⟨od,e⟩ new⟩
theorem Inv.Pb {d:Addr} {u:HO} (I:Inv X pins σ H s) (h:H d=some u) (mu:XQ (some u)):∀ o' u',X.YA d ≠ some (.qh o' u'):=fun o' u' e=>by
 have q:=I.base.z7 d o' u' e
 rw [h] at q
 cases q
 exact mu
theorem Inv.unlock {d:Addr} {od:Obj} {u:HO} (I:Inv X pins σ H s) (h:H d=some (.qh od u)) (hn:∀ o' u',X.YA d ≠ some (.qh o' u')):Inv X pins σ (upd H d u) s:=by
 have neH:∀ b o,H b=some o->(∀ o' u',o ≠ .qh o' u')->b ≠ d:=fun b o e hne z=>by
   rw [z,h] at e;cases e;exact hne _ _ rfl
 have neN:∀ b,H b=none->b ≠ d:=fun b e z=>by rw [z,h] at e;cases e
 refine ⟨I.ok,I.os,I.bare,⟨I.base.keep,I.base.slot,fun b o e n hx=>?_,I.base.there,fun b xs e=>?_,fun b o x e=>?_,fun b ps e=>?_⟩,I.loc,I.cell,?_,fun x c e=>?_,fun p hp=>?_,fun b o e=>?_,I.len⟩
 . rw [aq (neN b (I.base.free b o e n hx))];exact I.base.free b o e n hx
 . have q:=I.base.tups b xs e
   rw [aq (neH b _ q (fun _ _ z=>nomatch z))];exact q
 . have q:=I.base.z7 b o x e
   rw [aq (fun z=>by rw [z] at e;exact hn _ _ e)];exact q
 . obtain ⟨m,q⟩:=I.base.BP b ps e
   exact ⟨m,by rw [aq (neH b _ q (fun _ _ z=>nomatch z))];exact q⟩
 . rw [aq (neN _ I.free)];exact I.free
 . rw [aq (neN c (I.kO x c e))];exact I.kO x c e
 . obtain ⟨e,n,r⟩:=I.pin p hp
   exact ⟨e,by rw [aq (neN _ n)];exact n,r⟩
 . by_cases hb:b=d
   . rw [hb,ai] at e
     cases e;rw [hb];obtain ⟨_,x⟩:=I.hok d _ h;exact x.stay (fun c v _ q=>q) (fun c q=>by rw [aq (neH c _ q (fun _ _ z=>nomatch z))];exact q) fun c xs q=>by rw [aq (neH c _ q (fun _ _ z=>nomatch z))];exact q
   . rw [aq hb] at e
     exact (I.hok b o e).stay (fun c v _ q=>q) (fun c q=>by rw [aq (neH c _ q (fun _ _ z=>nomatch z))];exact q) fun c xs q=>by rw [aq (neH c _ q (fun _ _ z=>nomatch z))];exact q
end
def aaO (t:TS):TS:=fun D σ H=>∃ d u,H d=some u/\XQ (some u)/\∀ od,t ⟨fun σ' H'=>H' d=some (.qh od u)/\D.nx σ' (upd H' d u),fun v H'=>H' d=some (.qh od u)/\D.rt v (upd H' d u),fun σ' H'=>H' d=some (.qh od u)/\D.bk σ' (upd H' d u),fun σ' H'=>H' d=some (.qh od u)/\D.ct σ' (upd H' d u)⟩ σ (upd H d (.qh od u))
section
variable {X:Cx}
theorem Pc {st:Stmt} {t:TS} (h:PS X st t):PS X st (aaO t):=by
 intro pins s σ H D I hw;obtain ⟨d,u,hd,mu,hw⟩:=hw;obtain ⟨od,I1⟩:=I.lock hd mu;refine ee (h pins s σ _ _ I1 (hw od)) fun f s1 q=>?_;cases f with
 | next=>obtain ⟨σ',H',I2,e,q⟩:=q;exact ⟨σ',_,I2.unlock e (I.Pb hd mu),q⟩
 | brk=>obtain ⟨σ',H',I2,e,q⟩:=q;exact ⟨σ',_,I2.unlock e (I.Pb hd mu),q⟩
 | cont=>obtain ⟨σ',H',I2,e,q⟩:=q;exact ⟨σ',_,I2.unlock e (I.Pb hd mu),q⟩
 | ret v=>obtain ⟨x,σ',H',I2,r,e,q⟩:=q;exact ⟨x,σ',_,I2.unlock e (I.Pb hd mu),r,q⟩
theorem NL {tg:Expr} {pins:List (Addr×Obj)} {σ:St} {H:Hp} {s:Shared} {R:It->Hp->Prop} {J:It} {tn:Nat->Heap->Prop} {tk:Nat} (I:Inv X pins σ H s) (o:Obj)
  (T:Turn X.prog X.w X.K tg J [s.heap.objs.size] s.heap.objs.size tn) (st:tn 0 (s.heap.push o)) (q:R J H):PIE X pins σ tg R (.ref s.heap.objs.size) { s with heap:=s.heap.push o,toks:=tk }:=by
 refine ⟨s.heap.objs.size,[s.heap.objs.size],tn,J,H,rfl,I.kept fun b ob e=>Heap.get?_push_of_some _ e,T,st,fun b hb=>?_,q⟩;have e:b=s.heap.objs.size:=by simpa using hb
 subst e;exact I.Qk (Nat.le_refl _) (I.hok.fresh (Nat.le_refl _))
end
def Itc (lo c:Int) (n:Nat):It:=⟨fun i _=>i < n,fun i H x H'=>H'=H/\x=.int (lo+(i:Nat) * c),fun i _=>n<=i⟩
theorem Lx {P:Program} {w:World} {K:Zqq} {tg:Expr} (it:Addr) (lo c:Int) (n:Nat):Turn P w K tg (Itc lo c n) [it] it (fun i h=>IsRangeIter h it (lo+(i:Nat) * c) ((n:Int) - (i:Nat)) c) where
 mem:=by simp
 obj:=fun i h st b hb=>by
  have e:b=it:=by simpa using hb
  subst e
  exact ⟨_,st,fun v z=>nomatch z⟩
 keep:=fun i h h' st k=>k it (by simp) _ st
 item:=by
  intro X hP hw hK hc i pins s σ H E I hf st hg;subst hP hw hK;obtain ⟨f0,f1,f2,f3,f4,f5⟩:=hf it (by simp);have W:=Walks.range (prog:=X.prog) (w:=X.w) (I.ok.hd hc) it lo c n;refine W.item i s _ _ hg st fun v h' tk hv st' kk=>?_;obtain ⟨t,rfl⟩:=hv;have I1:Inv X pins σ H { s with heap:=h',toks:=tk }:=I.turned (fun b o hb e=>kk b o (by simpa using hb) e) f0 f1 f3 f4 f5
  exact ⟨_,rfl,HG (s:={ s with heap:=h',toks:=tk }) (n:="range_iterator") st' rfl rfl (by decide) ⟨.int (lo+(i:Nat) * c),H,I1,⟨t,rfl⟩,⟨rfl,rfl⟩,st',fun b hb=>(hf b hb).1⟩⟩
 done:=by
  intro X hP hw hK hc i pins s σ H E I hf st hg;subst hP hw hK;obtain ⟨f0,f1,f2,f3,f4,f5⟩:=hf it (by simp);exact wpAny_pyNext_range_end (I.ok.hd hc) st (by have:n<=i:=hg;omega) fun h' eb=>⟨rfl,I.turned (t':=s.toks) (fun b o hb e=>eb b o hb e) f0 f1 f3 f4 f5⟩
 self:=fun A i s Q E st h=>wpAny_pyIter_rangeiter st h
def RgC (i j c:Int) (n:Nat):Prop:=c ≠ 0/\c.natAbs < 1073741824/\Builtin.Range.small i j c=true/\Builtin.Range.rangeSize i j c=n
theorem RgC.neg {i j:Int} (ha:-(2 ^ 62)<=i) (ha':i < 2 ^ 62) (hb:-(2 ^ 62)<=j) (hb':j < 2 ^ 62):RgC i j (-1) (i - j).toNat:=
 ⟨by decide,by decide,PySem.W.small_down ha ha' hb hb',PySem.W.rangeSize_downNat i j⟩
def aaP (ta:TA):TI:=fun σ H R=>ta σ H fun vs H1=>∃ (i j c:Int) (n:Nat),vs=[.int i,.int j,.int c]/\RgC i j c n/\R (Itc i c n) H1
section
variable {X:Cx} {tg:Expr}
theorem Qx {a b c:Expr} {ta:TA} {p pos:Pos} (hg:Gl X "range") (hm:X.mg "range"=none) (ha:PA X [a,b,c] ta)
  (hs:starEach [a,b,c] X.env=(false,eval a X.env)::starEach [b,c] X.env:=by rfl) (hpl:(backTo pos (starEach [b,c] X.env)).any (·.1)=false:=by rfl) :
  PI X tg (.Call (.Name "range" p) [a,b,c] [] pos) (aaP ta):=by
 intro pins s σ H R I h;refine Call_ (z9 I hg hm boot_range (PyProof.Rows.callWith_type1 (ee (ha pos pins s σ H _ I h) fun us s1 ⟨vs,H1,I1,r1,q1⟩=>?_) hs hpl));obtain ⟨i,j,k,n,e,⟨c0,c1,c2,c3⟩,q⟩:=q1;subst e;cases r1 with
 | cons r rr=>
  cases rr with
  | cons r' rr=>
   cases rr with
   | cons r'' rr=>
    cases rr;obtain ⟨t,rfl⟩:=r;obtain ⟨t',rfl⟩:=r';obtain ⟨t'',rfl⟩:=r'';refine call_range_3 c0 ?_ (.inl (PyProof.noPylong_small c1));refine wpAny_pyIter_range (IsRange.new ..) c2 ?_;have I2:Inv X pins σ H1 { s1 with heap:=s1.heap.push { cls:=.type "range",data:=.fields #[.int i t,.int j t',.int k t''] } }:=I1.kept (t':=s1.toks) fun b o e=>Heap.get?_push_of_some _ e
    refine NL (tk:=s1.toks) I2 _ (Lx _ i k n) ?_ q;have e1:i+((0:Nat):Int) * k=i:=by simp
    have e2:(n:Int) - ((0:Nat):Int)=Builtin.Range.rangeSize i j k:=by rw [c3];simp
    show IsRangeIter _ _ (i+((0:Nat):Int) * k) ((n:Int) - ((0:Nat):Int)) k;rw [e1,e2];exact Heap.get?_push_size _ rfl
end
theorem NN {lo c:Int} {n:Nat} {g:TG} {tb:TS} {D:Ends} {σ:St} {H:Hp} (Pv:Nat->St->Hp->Prop) (h0:Pv 0 σ H)
   (hs:∀ i σ H,i < n->Pv i σ H->g (.int (lo+(i:Nat) * c)) σ H fun σ2 H2=>tb { D with nx:=Pv (i+1),ct:=Pv (i+1),bk:=D.nx } σ2 H2) (hd:∀ σ H,Pv n σ H->D.nx σ H) :
   ∃ W:Nat->Nat->St->Hp->Prop,(∃ m,W 0 m σ H)/\∀ i m σ H,W i m σ H->
     ((Itc lo c n).stop i H/\D.nx σ H)\/((Itc lo c n).go i H/\∃ N:St->Hp->Prop,(∀ σ' H',N σ' H'->∃ m',m' < m/\W (i+1) m' σ' H')/\∀ x H',(Itc lo c n).Sy i H x H'->g x σ H' fun σ2 H2=>tb { D with nx:=N,ct:=N,bk:=D.nx } σ2 H2):=by
 refine ⟨fun i m σ H=>m=n - i/\i<=n/\Pv i σ H,⟨n,by simp,Nat.zero_le _,h0⟩,?_⟩;rintro i m σ H ⟨rfl,hi,p⟩;by_cases hlt:i < n
 . refine .inr ⟨hlt,Pv (i+1),fun σ' H' p'=>⟨n - (i+1),by omega,rfl,hlt,p'⟩,fun x H' y=>?_⟩
   obtain ⟨e,y⟩:=y;subst e y;exact hs i σ _ hlt p
 . have e:i=n:=by omega
   subst e;exact .inl ⟨Nat.le_refl _,hd σ H p⟩
section
variable {X:Cx} {tg:Expr}
end
section
variable {prog:Program} {w:World} {A:Around} {E:Value->Shared->Prop} {s:Shared}
theorem HW {d:Addr} {o:Obj} {es:Array DictEntry} {ep:Nat} {Q:Value->Shared->Prop} (hd:(d==sysModules)=false) (ho:s.heap.get? d=some o) (hc:o.ExactDict) (hdat:o.data=.dict es ep)
  (hQ:Q (.ref s.heap.objs.size) { s with heap:=s.heap.push { cls:=.type "dict_keyiterator",data:=.fields #[.ref d,.int 0 0,.int es.size 0,.int ep 0] } }) :
  wpAny (model prog w) A (pyIter (.ref d)) Q E s:=by
 have hT:s.TypeIs (.ref d) "dict":=⟨o,ho,hc.1⟩;refine wpAny_pyIter_slot hT F.slot_dict_iter (wpAny_call_entry F.slot_dict_iter hT F.entry_dict_iter ?_ (F.args_dict_iter_1 _));unfold Builtin.«dict.__iter__»;refine wpAny_bind ?_;unfold Builtin.Dict.dictSlotNone;refine wpAny_bind (wpAny_notOrdered_dict hT ?_);show wpAny _ _ (pure (Value.ref d)) _ _ s;refine wpAny_pure ?_;show wpAny _ _ (Builtin.Dict.showsAll d >>= _) _ _ s;unfold Builtin.Dict.showsAll;rw [if_neg (by rw [hd];exact Bool.false_ne_true)];refine wpAny_bind (wpAny_pure ?_);refine wpAny_bind (wpAny_dictEntries ho hdat ?_);refine wpAny_bind (wpAny_dictEpoch ho hdat ?_);refine wpAny_bind (wpAny_newObj_type (wpAny_pure ⟨_,rfl,"dict_keyiterator",_,⟨_,Heap.get?_push_size _ rfl,rfl⟩,F.slot_dict_keyiterator_next.lookup,?_⟩));simpa [rawInt] using hQ
theorem Gr {it d:Addr} {i n ep:Nat} {od:Obj} {es:Array DictEntry} {en:DictEntry} {Q:Option Value->Shared->Prop} (hit:s.heap.IsKeyIter it d i n ep) (hod:s.heap.get? d=some od) (hdd:od.data=.dict es ep)
   (hsz:es.size=n) (hx:es[i]?=some en) (hQ:∀ h',h'.IsKeyIter it d (i+1) n ep->Heap.SameBut it s.heap h'->Q (some en.key) { s with heap:=h' }):wpAny (model prog w) A (pyNext (.ref it)) Q E s:=by
 obtain ⟨o,ho,hc,hd⟩:=id hit;unfold pyNext;refine wpAny_bind (wpAny_attempt (wpAny_callSpecial?_slot (name:=Str.ofString "__next__") hit.typeIs F.slot_dict_keyiterator_next
   (wpAny_call_entry F.slot_dict_keyiterator_next hit.typeIs F.entry_dict_keyiterator_next ?_ (F.args_dict_keyiterator_next_1 _))))
 refine wpAny_bind (wpAny_pure ?_);refine wpAny_bind ?_;refine wpAny_bind ?_
 first | refine wpAny_bind (wpAny_typeNameOfWhole_keyiter hit.typeIs (wpAny_pure ?_)) | refine wpAny_bind (wpAny_typeNameOf_keyiter hit.typeIs (wpAny_pure ?_))
 refine wpAny_bind (wpAny_fieldsOf ho hd ?_);have hown:Builtin.Dict_items.ownsTuple "dict_keyiterator"=false:=by decide
 simp only [hown,Bool.false_eq_true,if_false];show wpAny _ _ (if (Value.ref d==Value.none)=true then _ else _) _ _ s;rw [if_neg (show ¬ ((Value.ref d==Value.none)=true) from Bool.false_ne_true)];refine wpAny_bind (wpAny_pure ?_);refine wpAny_bind (wpAny_dictEntries hod hdd ?_);rw [if_neg (by rw [hsz];simp)];refine wpAny_bind (wpAny_pure ?_);refine wpAny_bind (wpAny_dictEpoch hod hdd ?_);rw [if_neg (by simp)];refine wpAny_pure ?_;obtain ⟨hlt',hen⟩:=Array.getElem?_eq_some_iff.mp hx;simp only [show ¬ ((i:Int) < 0) from by omega,if_false,Int.toNat_natCast,Array.getElem?_eq_getElem hlt'];refine wpAny_bind ?_
 first | refine wpAny_bind (wpAny_typeNameOfWhole_keyiter hit.typeIs (wpAny_pure ?_)) | refine wpAny_bind (wpAny_typeNameOf_keyiter hit.typeIs (wpAny_pure ?_))
 refine wpAny_bind (wpAny_isOneOf_keyiter hit.typeIs ?_);show wpAny _ _ (setField (.ref it) 1 (rawInt ((i:Int)+1)) >>= _) _ _ s;refine wpAny_bind (wpAny_setField ho hd (by simp) ?_);have hit':(s.heap.update it (Obj.mapFields (·.setIfInBounds 1 (rawInt ((i:Int)+1))))).IsKeyIter it d (i+1) n ep:=
   ⟨_,Heap.get?_update_self _ ho (Obj.isFreed_of_fields (Obj.data_mapFields hd _)),(Obj.cls_mapFields ..).trans hc,by rw [Obj.data_mapFields hd];simp [rawInt]⟩
 refine wpAny_bind (wpAny_holding ?_);refine wpAny_bind (wpAny_isOneOf_keyiter (s:={ s with heap:=s.heap.update it (Obj.mapFields (·.setIfInBounds 1 (rawInt ((i:Int)+1)))) }) hit'.typeIs ?_);show wpAny _ _ (pure es[i].key) _ _ _;rw [hen];exact wpAny_pure (wpAny_pure ⟨_,rfl,wpAny_pure (hQ _ hit' (Heap.SameBut.update ..))⟩)
theorem Ay {it d:Addr} {i n ep:Nat} {od:Obj} {es:Array DictEntry} {Q:Option Value->Shared->Prop} (hh:A.handled=none) (hit:s.heap.IsKeyIter it d i n ep) (hod:s.heap.get? d=some od) (hdd:od.data=.dict es ep)
   (hsz:es.size=n) (hge:n<=i) (hQ:∀ h',Heap.ExtBut it s.heap h'->Q none { s with heap:=h' }):wpAny (model prog w) A (pyNext (.ref it)) Q E s:=by
 obtain ⟨o,ho,hc,hd⟩:=id hit;unfold pyNext;refine wpAny_bind (wpAny_attempt (wpAny_callSpecial?_slot (name:=Str.ofString "__next__") hit.typeIs F.slot_dict_keyiterator_next
   (wpAny_call_entry F.slot_dict_keyiterator_next hit.typeIs F.entry_dict_keyiterator_next ?_ (F.args_dict_keyiterator_next_1 _))))
 refine wpAny_bind (wpAny_pure ?_);refine wpAny_bind ?_;refine wpAny_bind ?_
 first | refine wpAny_bind (wpAny_typeNameOfWhole_keyiter hit.typeIs (wpAny_pure ?_)) | refine wpAny_bind (wpAny_typeNameOf_keyiter hit.typeIs (wpAny_pure ?_))
 refine wpAny_bind (wpAny_fieldsOf ho hd ?_);have hown:Builtin.Dict_items.ownsTuple "dict_keyiterator"=false:=by decide
 simp only [hown,Bool.false_eq_true,if_false];show wpAny _ _ (if (Value.ref d==Value.none)=true then _ else _) _ _ s;rw [if_neg (show ¬ ((Value.ref d==Value.none)=true) from Bool.false_ne_true)];refine wpAny_bind (wpAny_pure ?_);refine wpAny_bind (wpAny_dictEntries hod hdd ?_);rw [if_neg (by rw [hsz];simp)];refine wpAny_bind (wpAny_pure ?_);refine wpAny_bind (wpAny_dictEpoch hod hdd ?_);rw [if_neg (by simp)];refine wpAny_pure ?_;have hge':es.size<=i:=by rw [hsz];exact hge
 simp only [show ¬ ((i:Int) < 0) from by omega,if_false,Int.toNat_natCast,Array.getElem?_eq_none hge'];refine wpAny_bind ?_
 first | refine wpAny_bind (wpAny_typeNameOfWhole_keyiter hit.typeIs (wpAny_pure ?_)) | refine wpAny_bind (wpAny_typeNameOf_keyiter hit.typeIs (wpAny_pure ?_))
 show wpAny _ _ (setField (.ref it) 0 .none >>= _) _ _ s;refine wpAny_bind (wpAny_setField ho hd (by simp) ?_);show wpAny _ _ (newExc (.type "StopIteration") [] >>= _) _ _ _;refine wpAny_bind ?_;simp only [newExc,newTuple];refine wpAny_bind (wpAny_newObj_type ?_ (by size_fits));refine wpAny_bind (m:=firstArgMember _ _) (wpAny_of_eq (a:=Value.none) (by first | rfl | (simp only [firstArgMember];rfl)) ?_);refine wpAny_newObj_type ?_ (by size_fits);simp only [raiseNew];refine wpAny_bind (wpAny_handled ?_);rw [show A.in1.handled=none from hh];refine wpAny_bind (wpAny_pure (wpAny_throw ?_));refine wpAny_bind (wpAny_isInstance (T:="StopIteration") (b:=true) ⟨_,Heap.get?_push_size _ rfl,rfl⟩ isSubtype_stop ?_);exact wpAny_pure (hQ _ (((Heap.SameBut.update ..).extBut.push _).push _))
end
theorem Zd {κ:Type} {kvs:List (κ×V)} {vs:List (κ×Value)} (h:KV kvs vs):∀ {i:Nat} {k:κ} {v:V},kvs[i]?=some (k,v)->∃ u,vs[i]?=some (k,u)/\RelV v u:=by
 unfold KV at h;induction h with
 | nil=>intro i k v e;simp at e
 | @cons a b l₁ l₂ r t ih=>
  intro i k v e;cases i with
  | zero=>
   simp only [List.getElem?_cons_zero,Option.some.injEq] at e;subst e;refine ⟨b.2,?_,r.2⟩;simp only [List.getElem?_cons_zero];exact congrArg some (Prod.ext r.1.symm rfl)
  | succ j=>
   simp only [List.getElem?_cons_succ] at e ⊢;exact ih e
theorem NP {α β:Type} {G:α->β->Prop} {l₁:List α} {l₂:List β} (h:Paired G l₁ l₂):∀ {i:Nat} {a:α},l₁[i]?=some a->∃ b,l₂[i]?=some b/\G a b:=by
 induction h with
 | nil=>intro i a e;simp at e
 | @cons a b l₁ l₂ r t ih=>
  intro i a' e;cases i with
  | zero=>
   simp only [List.getElem?_cons_zero,Option.some.injEq] at e;subst e;exact ⟨b,rfl,r⟩
  | succ j=>
   simp only [List.getElem?_cons_succ] at e ⊢;exact ih e
theorem Th {k:Key} {u:Value} (h:CK k u=true):RelV (kV k) u:=by
 rcases gI h with ⟨i,t,rfl,rfl⟩ | ⟨x,t,rfl,rfl⟩
 . exact ⟨t,rfl⟩
 . exact ⟨t,rfl⟩
section
variable {X:Cx} {pins:List (Addr×Obj)} {σ:St} {H:Hp} {s:Shared} {d:Addr} {o:Obj}
theorem Inv.Ze {kvs:List (Key×V)} (I:Inv X pins σ H s) (h:H d=some (.qh o (.dK kvs))) :
  (d==sysModules)=false/\s.heap.get? d=some o/\o.ExactDict/\∃ (es:Array DictEntry) (ep:Nat) (vs:List (Key×Value)),o.data=.dict es ep/\es.size=kvs.length/\KV kvs vs/\s.heap.DictAt (fL X.prog X.w) d vs ep:=by
 obtain ⟨hd,z,hs,vs,kv,o',es,ep,ho,hx,hdt,r⟩:=I.hok d _ h;rw [hd] at ho;cases ho;refine ⟨hs,hd,hx,es,ep,vs,hdt,?_,kv,o,es,hd,hx,hdt,r⟩;have l1:=r.2.1.length;have l2:kvs.length=vs.length:=Paired.length kv;rw [Array.length_toList] at l1;omega
theorem Inv.Zf {kvs:List (List Key×V)} (I:Inv X pins σ H s) (h:H d=some (.qh o (.dT kvs))) :
   (d==sysModules)=false/\s.heap.get? d=some o/\o.ExactDict/\∃ (es:Array DictEntry) (ep:Nat),o.data=.dict es ep/\es.size=kvs.length /\
     ∀ (i:Nat) (k:List Key) (v:V),kvs[i]?=some (k,v)->∃ (en:DictEntry) (q:Addr),es[i]?=some en/\en.key=.ref q/\H q=some (.tup (k.map kV)):=by
 obtain ⟨hd,z,hs,xs,pr,o',es,ep,ho,hx,hdt,he,_⟩:=I.hok d _ h;rw [hd] at ho;cases ho;refine ⟨hs,hd,hx,es,ep,hdt,?_,fun i k v e=>?_⟩
 . have l1:es.size=xs.length:=size_of_entries he
   have l2:kvs.length=xs.length:=Paired.length pr;omega
 . obtain ⟨b,hb,e1,e2,_⟩:=NP pr e
   have q:=entry_at he i;rw [hb] at q;exact ⟨_,b.2.1,q,rfl,e2⟩
end
def Itk (d:Addr) (o:Obj) (kvs:List (Key×V)):It:=
 ⟨fun i H=>H d=some (.qh o (.dK kvs))/\i < kvs.length,fun i H x H'=>H'=H/\∃ k v,kvs[i]?=some (k,v)/\x=kV k,fun i H=>H d=some (.qh o (.dK kvs))/\kvs.length<=i⟩
def Ti (d:Addr) (o:Obj) (kvs:List (List Key×V)):It:=
 ⟨fun i H=>H d=some (.qh o (.dT kvs))/\i < kvs.length,fun i H x H'=>H'=H/\∃ (k:List Key) (v:V) (q:Addr),kvs[i]?=some (k,v)/\x=.ref q/\H q=some (.tup (k.map kV)),fun i H=>H d=some (.qh o (.dT kvs))/\kvs.length<=i⟩
theorem DS {o:Obj} {es es':Array DictEntry} {ep ep':Nat} (h:o.data=.dict es ep) (h':o.data=.dict es' ep'):es'=es/\ep'=ep:=by
 rw [h] at h';cases h';exact ⟨rfl,rfl⟩
section
variable {P:Program} {w:World} {K:Zqq} {tg:Expr} {d:Addr} {o:Obj} {es:Array DictEntry} {ep:Nat}
theorem Qy {kvs:List (Key×V)} (it:Addr) (hod:o.data=.dict es ep):Turn P w K tg (Itk d o kvs) [it] it (fun i h=>h.IsKeyIter it d i kvs.length ep) where
 mem:=by simp
 obj:=fun i h st b hb=>by
  have e:b=it:=by simpa using hb
  subst e
  obtain ⟨oi,e,c,dd⟩:=st
  exact ⟨oi,e,fun v z=>by rw [dd] at z;cases z⟩
 keep:=fun i h h' st k=>st.at fun oi e=>k it (by simp) oi e
 item:=by
  intro X hP hw hK hc i pins s σ H E I hf st hg;subst hP hw hK;obtain ⟨hd,hi⟩:=hg;obtain ⟨f0,f1,f2,f3,f4,f5⟩:=hf it (by simp);obtain ⟨hs,hgd,hx,es',ep',vs,hdt,hsz,kv,hm⟩:=I.Ze hd;obtain ⟨rfl,rfl⟩:=DS hod hdt;obtain ⟨⟨k,v⟩,hkv⟩:∃ p,kvs[i]?=some p:=⟨kvs[i],List.getElem?_eq_getElem hi⟩;obtain ⟨u,hu,ru⟩:=Zd kv hkv;have hl:kvs.length=vs.length:=Paired.length kv;rw [hl] at st;refine wpAny_pyNext_dict_item st hm hu fun key h' hkey st' sb=>?_;have I1:Inv X pins σ H { s with heap:=h' }:=I.turned (t':=s.toks) (fun b ob hb e=>(sb.2 b hb).trans e) f0 f1 f3 f4 f5
  obtain ⟨oi,e,c,dd⟩:=id st';refine ⟨key,rfl,HG (s:={ s with heap:=h' }) e c dd (by decide) ⟨kV k,H,I1,Th (show CK k key=true from hkey),⟨rfl,k,v,hkv,rfl⟩,?_,fun b hb=>(hf b hb).1⟩⟩
  show h'.IsKeyIter it d (i+1) kvs.length _;rw [hl];exact st'
 done:=by
  intro X hP hw hK hc i pins s σ H E I hf st hg;subst hP hw hK;obtain ⟨hd,hi⟩:=hg;obtain ⟨f0,f1,f2,f3,f4,f5⟩:=hf it (by simp);obtain ⟨hs,hgd,hx,es',ep',vs,hdt,hsz,kv,hm⟩:=I.Ze hd;obtain ⟨rfl,rfl⟩:=DS hod hdt;exact Ay (I.ok.hd hc) st hgd hdt hsz hi fun h' eb=>⟨rfl,I.turned (t':=s.toks) (fun b ob hb e=>eb b ob hb e) f0 f1 f3 f4 f5⟩
 self:=fun A i s Q E st h=>wpAny_pyIter_keyiter st h
theorem NQ {kvs:List (List Key×V)} (it:Addr) (hod:o.data=.dict es ep):Turn P w K tg (Ti d o kvs) [it] it (fun i h=>h.IsKeyIter it d i kvs.length ep) where
 mem:=by simp
 obj:=fun i h st b hb=>by
  have e:b=it:=by simpa using hb
  subst e
  obtain ⟨oi,e,c,dd⟩:=st
  exact ⟨oi,e,fun v z=>by rw [dd] at z;cases z⟩
 keep:=fun i h h' st k=>st.at fun oi e=>k it (by simp) oi e
 item:=by
  intro X hP hw hK hc i pins s σ H E I hf st hg;subst hP hw hK;obtain ⟨hd,hi⟩:=hg;obtain ⟨f0,f1,f2,f3,f4,f5⟩:=hf it (by simp);obtain ⟨hs,hgd,hx,es',ep',hdt,hsz,ent⟩:=I.Zf hd;obtain ⟨rfl,rfl⟩:=DS hod hdt;obtain ⟨⟨k,v⟩,hkv⟩:∃ p,kvs[i]?=some p:=⟨kvs[i],List.getElem?_eq_getElem hi⟩;obtain ⟨en,q,hen,hkey,hq⟩:=ent i k v hkv;refine Gr st hgd hdt hsz hen fun h' st' sb=>?_;have I1:Inv X pins σ H { s with heap:=h' }:=I.turned (t':=s.toks) (fun b ob hb e=>(sb.2 b hb).trans e) f0 f1 f3 f4 f5
  obtain ⟨oi,e,c,dd⟩:=id st';exact ⟨en.key,rfl,HG (s:={ s with heap:=h' }) e c dd (by decide) ⟨.ref q,H,I1,hkey,⟨rfl,k,v,q,hkv,rfl,hq⟩,st',fun b hb=>(hf b hb).1⟩⟩
 done:=by
  intro X hP hw hK hc i pins s σ H E I hf st hg;subst hP hw hK;obtain ⟨hd,hi⟩:=hg;obtain ⟨f0,f1,f2,f3,f4,f5⟩:=hf it (by simp);obtain ⟨hs,hgd,hx,es',ep',hdt,hsz,ent⟩:=I.Zf hd;obtain ⟨rfl,rfl⟩:=DS hod hdt;exact Ay (I.ok.hd hc) st hgd hdt hsz hi fun h' eb=>⟨rfl,I.turned (t':=s.toks) (fun b ob hb e=>eb b ob hb e) f0 f1 f3 f4 f5⟩
 self:=fun A i s Q E st h=>by
  refine wpAny_pyIter_slot st.typeIs F.slot_dict_keyiterator_iter (wpAny_call_entry F.slot_dict_keyiterator_iter st.typeIs F.entry_dict_keyiterator_iter ?_ (F.args_dict_keyiterator_iter_1 _));show wpAny _ _ (ret (.ref it)) _ _ s;exact wpAny_pure ⟨_,rfl,"dict_keyiterator",_,st.typeIs,F.slot_dict_keyiterator_next.lookup,h⟩
end
def aaQ (td:TE):TI:=fun σ H R=>td σ H fun x H1=>∃ d o,x=.ref d/\((∃ kvs,H1 d=some (.qh o (.dK kvs))/\R (Itk d o kvs) H1)\/∃ kvs,H1 d=some (.qh o (.dT kvs))/\R (Ti d o kvs) H1)
section
variable {X:Cx} {tg e:Expr} {td:TE} {apos cpos:Pos}
theorem Pd (he:PE X e td):PI X tg e (aaQ td):=by
 intro pins s σ H R I h;refine ee (he pins s σ H _ I h) fun u s1 ⟨x,H1,I1,rx,d,o,ex,q⟩=>?_;subst ex;obtain rfl:u=Value.ref d:=rx;rcases q with ⟨kvs,hd,q⟩ | ⟨kvs,hd,q⟩
 . obtain ⟨hs,hgd,hx,es,ep,vs,hdt,hsz,kv,hm⟩:=I1.Ze hd
   refine HW hs hgd hx hdt (NL (tk:=s1.toks) I1 _ (Qy _ hdt) ⟨_,Heap.get?_push_size _ rfl,rfl,?_⟩ q);rw [hsz]<;>rfl
 . obtain ⟨hs,hgd,hx,es,ep,hdt,hsz,ent⟩:=I1.Zf hd
   refine HW hs hgd hx hdt (NL (tk:=s1.toks) I1 _ (NQ _ hdt) ⟨_,Heap.get?_push_size _ rfl,rfl,?_⟩ q);rw [hsz]<;>rfl
end
def Ite (K:Zqq) (a:Addr):It:=
 ⟨fun i H=>∃ (xs:List V) (x:V),bI K H a xs/\xs[i]?=some x,fun i H v H'=>∃ T x,v=.ref T/\H T=none/\H'=upd H T (.tup [.int (i:Nat),x])/\∀ xs,bI K H a xs->xs[i]?=some x,fun i H=>∃ xs:List V,bI K H a xs/\xs.length<=i⟩
theorem Qz {P:Program} {w:World} {K:Zqq} {elts:List Expr} {kk:Nat} {tpos:Pos} (a e it:Addr) :
   Turn P w K (.Tuple elts kk tpos) (Ite K a) [e,it] e (fun i h=>(∃ old,IsEnum h e it ((i:Nat):Int) old)/\h.IsListIter it a i/\e ≠ it) where
 mem:=by simp
 obj:=fun i h st b hb=>by
   obtain ⟨⟨old,he⟩,⟨o,ho,hc,hd⟩,_⟩:=st
   have e':b=e\/b=it:=by simpa using hb
   rcases e' with z | z
   . rw [z];exact ⟨_,he,fun v q=>nomatch q⟩
   . rw [z];exact ⟨o,ho,fun v q=>by rw [hd] at q;cases q⟩
 keep:=fun i h h' st k=>let ⟨⟨old,he⟩,hi,hne⟩:=st;⟨⟨old,k e (by simp) _ he⟩,hi.at fun o q=>k it (by simp) o q,hne⟩
 item:=by
   intro X hP hw hK hc i pins s σ H E I hf st hg;subst hP hw hK;obtain ⟨⟨old,he⟩,hit,hne⟩:=st;obtain ⟨xs,x,hq,hx⟩:=hg;obtain ⟨its,rv,p,hz⟩:=I.list hq;obtain ⟨u,hu,ru⟩:=rv.get hx;have hel:e < s.heap.objs.size:=Heap.lt_size he;have hil:it < s.heap.objs.size:=by obtain ⟨_,q,_⟩:=hit;exact Heap.lt_size q
   refine wpAny_pyNext_enum_item he hit p.isList (x:=u) (by simpa using hu) hne fun h' ho hit' hT hsz hk=>?_;refine ⟨_,rfl,wpAny_letOwnedTupleGo_enum (s:={ s with heap:=h',toks:=s.toks+1 }) ho fun h'' he' sb=>?_⟩
   have hT2:h''.get? s.heap.objs.size=some { cls:=.type "tuple",data:=.seq #[.int i s.toks,u] }:=(sb.2 _ (Nat.ne_of_gt hel)).trans hT;have new:dZ X.prog X.w (upd H s.heap.objs.size (.tup [.int (i:Nat),x])) h'' s.heap.objs.size (.tup [.int (i:Nat),x]):=
     ⟨by show 2<=sizeLine;decide,[.int i s.toks,u],.cons ⟨_,rfl⟩ (.cons ru .nil),⟨_,hT2,rfl,_,rfl⟩⟩
   have I1:Inv X pins σ (upd H s.heap.objs.size (.tup [.int (i:Nat),x])) { s with heap:=h'',toks:=s.toks+1 }:=
     I.Qw (ch:=[e,it]) (fun b ob hb q=>(sb.2 b (fun z=>hb (by simp [z]))).trans (hk b ob (fun z=>hb (by simp [z])) (fun z=>hb (by simp [z])) q)) hf (Nat.le_refl _) new
   refine ⟨.ref s.heap.objs.size,_,I1,rfl,⟨_,x,rfl,I.hok.fresh (Nat.le_refl _),rfl,fun ys hy=>by rw [I.Lf hy hq];exact hx⟩,⟨⟨u,?_⟩,hit'.at fun o q=>(sb.2 it (Ne.symm hne)).trans q,hne⟩,fun b hb=>?_⟩
   . have e1:((i+1:Nat):Int)=(i:Int)+1:=by omega
     rw [e1];exact he'
   . have hb':b < s.heap.objs.size:=by
       have e':b=e\/b=it:=by simpa using hb
       rcases e' with z | z
       . rw [z];exact hel
       . rw [z];exact hil
     rw [aq (Nat.ne_of_lt hb')];exact (hf b hb).1
 done:=by
   intro X hP hw hK hc i pins s σ H E I hf st hg;subst hP hw hK;obtain ⟨⟨old,he⟩,hit,hne⟩:=st;obtain ⟨xs,hq,hx⟩:=hg;obtain ⟨its,rv,p,hz⟩:=I.list hq;obtain ⟨f0,f1,f2,f3,f4,f5⟩:=hf it (by simp);have hl:=rv.length;exact wpAny_pyNext_enum_end (I.ok.hd hc) he hit p.isList (by simp;omega) fun h' eb=>⟨rfl,I.turned (t':=s.toks) (fun b o hb q=>eb b o hb q) f0 f1 f3 f4 f5⟩
 self:=fun A i s Q E st h=>let ⟨⟨_,he⟩,_⟩:=st;wpAny_pyIter_enum he h
def aaR (K:Zqq) (ta:TA):TI:=fun σ H R=>ta σ H fun vs H1=>∃ a xs,vs=[.ref a]/\bI K H1 a xs/\R (Ite K a) H1
theorem tD {X:Cx} {e:Expr} {ta:TA} {p pos tpos:Pos} {elts:List Expr} {kk:Nat} (hg:Gl X "enumerate") (hm:X.mg "enumerate"=none) (ha:PA X [e] ta) (hs:starEach [e] X.env=[(false,eval e X.env)]:=by rfl) :
   PI X (.Tuple elts kk tpos) (.Call (.Name "enumerate" p) [e] [] pos) (aaR X.K ta):=by
 intro pins s σ H R I h;refine Call_ (z9 I hg hm boot_enumerate (PyProof.Rows.callWith_type1 (ee (ha pos pins s σ H _ I h) fun us s1 ⟨vs,H1,I1,r1,q1⟩=>?_) hs rfl));obtain ⟨a,xs,ex,hq,q⟩:=q1;subst ex;cases r1 with
 | cons r rr=>
   cases rr;cases r;obtain ⟨its,rv,p',hz⟩:=I1.list hq;refine call_enumerate_list p'.isList fun h' he hit hsz hk=>wpAny_pyIter_enum he ?_;have I2:Inv X pins σ H1 { s1 with heap:=h' }:=I1.kept (t':=s1.toks) hk;refine ⟨s1.heap.objs.size+1,[s1.heap.objs.size+1,s1.heap.objs.size],_,_,H1,rfl,I2,Qz a (s1.heap.objs.size+1) s1.heap.objs.size,⟨⟨.none,he⟩,hit,Nat.succ_ne_self _⟩,fun b hb=>?_,q⟩
   have e':b=s1.heap.objs.size+1\/b=s1.heap.objs.size:=by simpa using hb
   have hle:s1.heap.objs.size<=b:=by
     rcases e' with z | z
     . rw [z];exact Nat.le_add_right _ _
     . rw [z];exact Nat.le_refl _
   exact I1.Qk hle (I1.hok.fresh hle)
end L2
section
namespace acs
open PySem PyProof.Rows
end acs
end
section
namespace TL
open PySem PySem.Builtin PySem.Builtin.Str PySem.StrLaws
end TL
end
namespace L2
open PySem PySem.Spec PyProof.Rows
section
variable {X:Cx} {pins:List (Addr×Obj)} {σ:St} {H:Hp} {s:Shared} {Q:VK}
end
section
variable {X:Cx}
end
section
variable {X:Cx} {o e:Expr} {to te:TE}
end
section
variable {X:Cx}
end
end L2
namespace Att
open PySem PySem.W PySem.Calls PyProof.Rows
section
variable {prog:Program} {w:World} {A:Around} {E:Value->Shared->Prop} {s:Shared} {K:Frag}
end
end Att
namespace L2
open PySem PySem.Spec PyProof.Rows
def inClass (s:Stmt) (j:Nat):Stmt:=match s with
 | .ClassDef _ _ _ body _ _ _ _ _ _ _=>body.getD j (.Pass ⟨0,0,0,0⟩)
 | _=>.Pass ⟨0,0,0,0⟩
def yP (s:Stmt):Arguments:=match s with
 | .FunctionDef _ a _ _ _ _ _ _ _ _=>a
 | _=>{ posonlyargs:=[],args:=[],vararg:=none,kwonlyargs:=[],kw_defaults:=[],kwarg:=none,defaults:=[] }
def tE (s:Stmt):List Stmt:=match s with
 | .FunctionDef _ _ b _ _ _ _ _ _ _=>b
 | _=>[]
def aF (s:Stmt):Scope:=match s with
 | .FunctionDef _ _ _ _ _ _ sc _ _ _=>sc
 | _=>{ kind:=.function,names:=[],isGenerator:=false,isCoroutine:=false }
abbrev m5:Nr:=fun _ _ _ _ _ _=>False
abbrev E0:XK:=fun _ _ _=>False
theorem bD {X:Cx}:Passes m5 X E0:=fun _ _ _ _ _ _ _ h=>h.elim
structure kg (K:Zqq) (x qual:Str) (st:Stmt) (f:Addr) (fd:FuncData):Prop where
 ex:∃ (oc:Value) (od:Option Addr) (kV doc pm:Value) (an:Option Addr) (cdv ct:Value) (osl:Array (Option Value)),
   fd=PySem.W.fnOf x qual (yP st) (tE st) (aF st) .none kV doc pm an cdv ct/\K.lookup f=some ⟨oc,od,.func fd,osl⟩/\PySem.W.codeIn K cdv qual=true
 kp:PySem.W.keepIn K (.ref f)=true
section
variable {P:Program} {w:World} {K:Zqq} {mg:Str->Option Value} {base:Heap}
theorem kg.ok {x qual:Str} {st:Stmt} {f:Addr} {fd:FuncData} {N ps:List Str} {k:Nat} {sp:Sp} (F:kg K x qual st f fd) (S:aQ N ps (aF st)) (len:∀ vs H Q E,sp vs H Q E->vs.length=ps.length)
   (hbody:∀ (cdv:Value) (A:Around) (outer:List Env) (s:Shared) (H:Hp) (vs:List V) (Q:VK) (E:XK),dG k (A.deeper (envOfC qual (aF st) s.heap.objs.size f cdv))->sp vs H Q E->
     ∃ t,Le (vc m5 P w K mg base N qual (aF st) f cdv A outer s H E).nox (tE st) t/\t { nx:=fun _ H'=>Q .non H',rt:=Q } (start N vs) H):bF P w K mg base m5 (k+1) f fd ps sp:=by
 obtain ⟨oc,od,kV,doc,pm,an,cdv,ct,osl,rfl,lk,hcd⟩:=F.ex;refine Yd lk hcd S len fun A outer s H vs Q E hr NG=>?_;obtain ⟨t,h,q⟩:=hbody cdv A outer s H vs Q E hr NG;exact ⟨t,h.nox,q⟩
theorem kg.binds {x qual:Str} {st:Stmt} {f:Addr} {fd:FuncData} {ps:List Str} (F:kg K x qual st f fd)
  (h:∀ (kV doc pm:Value) (an:Option Addr) (cdv ct:Value) (us:List Value),us.length=ps.length->bindArgs (PySem.W.fnOf x qual (yP st) (tE st) (aF st) .none kV doc pm an cdv ct) ⟨us,[]⟩=pure (ps.zip us)):Binds K fd ps []:=by
 obtain ⟨oc,od,kV,doc,pm,an,cdv,ct,osl,rfl,lk,hcd⟩:=F.ex;exact .all (h kV doc pm an cdv ct)
theorem Zg {x qual:Str} {st:Stmt} {f:Addr} {oc:Value} {od an:Option Addr} {osl:Array (Option Value)} {kV doc pm cdv ct:Value} (l:K.lookup f=some ⟨oc,od,.func (PySem.W.fnOf x qual (yP st) (tE st) (aF st) .none kV doc pm an cdv ct),osl⟩)
   (c:PySem.W.codeIn K cdv qual=true) (k:PySem.W.keepIn K (.ref f)=true):kg K x qual st f (PySem.W.fnOf x qual (yP st) (tE st) (aF st) .none kV doc pm an cdv ct):=⟨⟨oc,od,kV,doc,pm,an,cdv,ct,osl,rfl,l,c⟩,k⟩
end
section
variable {X:Cx}
theorem pv (i:Nat) {x:Str} {pos:Pos} (hN:X.N[i]?=some x:=by rfl) (hv:YB X.env.scope x:=by first | exact Or.inl rfl | exact Or.inr (Or.inl rfl) | exact Or.inr (Or.inr rfl)) (hd:(x==("__debug__":Str))=false:=by decide)
   (hcd:(x==("__classdict__":Str))=false:=by decide):PE X (.Name x pos) (aav i):=Sn hN hv hd hcd
end
theorem oF {A B:Prop} (h:B):if false=true then A else B:=by
 rw [if_neg Bool.false_ne_true];exact h
theorem qK {A B:Prop} (h:A):if true=true then A else B:=by
 rw [if_pos rfl];exact h
theorem zB {c A B:Prop} [Decidable c] (h1:c->A) (h2:¬ c->B):if c then A else B:=by
 by_cases h:c
 . rw [if_pos h]
   exact h1 h
 . rw [if_neg h]
   exact h2 h
def aS (H H':Hp):Prop:=∀ b o,H b=some o->H' b=some o
theorem aS.refl (H:Hp):aS H H:=fun _ _ h=>h
theorem aS.trans {H H1 H2:Hp} (a:aS H H1) (b:aS H1 H2):aS H H2:=fun c o h=>b c o (a c o h)
theorem aS.free {H H':Hp} (e:aS H H') {l:Addr} (h:H' l=Option.none):H l=Option.none:=by
 cases q:H l with
 | none=>rfl
 | some o=>
  rw [e l o q] at h;cases h
section
variable {κ:Type} [DecidableEq κ]
theorem Pe:∀ {l:List κ} {k:κ},l.Nodup->¬ k ∈ l->(l++[k]).Nodup
 | [],k,_,_=>by simp
 | a::r,k,h,hk=>by
   obtain ⟨h1,h2⟩:=List.nodup_cons.mp h
   show (a::(r++[k])).Nodup
   refine List.nodup_cons.mpr ⟨fun m=>?_,Pe h2 fun m=>hk (List.mem_cons.mpr (Or.inr m))⟩
   rcases List.mem_append.mp m with q | q
   . exact h1 q
   . exact hk (List.mem_cons.mpr (Or.inl (List.mem_singleton.mp q).symm))
end
theorem at_of {xs:List V} {z:Int} {j:Nat} {v:V} (e:z=(j:Int)) (h:xs[j]?=some v):SN xs z=some v:=by
 rw [e];exact bh h
theorem aaS {α:Type} {l:List α} (hN:l.Nodup) {i j:Nat} {x:α} (a:l[i]?=some x) (b:l[j]?=some x):i=j:=by
 obtain ⟨h1,e1⟩:=List.getElem?_eq_some_iff.mp a;obtain ⟨h2,e2⟩:=List.getElem?_eq_some_iff.mp b;exact (List.getElem_inj hN).mp (e1.trans e2.symm)
end L2
section
namespace L2
open PySem PySem.Spec PyProof.Rows
open PySem.W (WData Codec OpenSpec Well WellAll ReadsW ReadsAllW)
mutual
inductive Dw (K:Zqq) (H:Hp):V->WData->Prop
 | non:Dw K H .non .none
 | bl (b:Bool):Dw K H (.bl b) (.bool b)
 | int (i:Int):Dw K H (.int i) (.int i)
 | str (x:Str):Dw K H (.str x) (.str x)
 | IP (b:Array UInt8):Dw K H (.IP b) (.bytes b.toList)
 | lst {a:Addr} {xs:List V} {ds:List WData}:bI K H a xs->wm K H xs ds->Dw K H (.ref a) (.list ds)
 | tup {a:Addr} {xs:List V} {ds:List WData}:oj K H a xs->wm K H xs ds->Dw K H (.ref a) (.tuple ds)
inductive wm (K:Zqq) (H:Hp):List V->List WData->Prop
 | nil:wm K H [] []
 | cons {v:V} {vs:List V} {d:WData} {ds:List WData}:Dw K H v d->wm K H vs ds->wm K H (v::vs) (d::ds)
end
theorem Pf {K:Zqq} {H:Hp}:∀ ns:List Int,wm K H (ns.map V.int) (ns.map WData.int)
 | []=>.nil
 | n::r=>.cons (.int n) (Pf r)
theorem Ji {K:Zqq} {H:Hp}:∀ (ns:List Int) (xs:List V),wm K H xs (ns.map WData.int)->xs=ns.map V.int
 | [],xs,h=>by
  cases h
  rfl
 | n::r,xs,h=>by
  cases h with
  | cons h1 h2=>
   cases h1
   rw [Ji r _ h2]<;>rfl
section
variable {P:Program} {w:World} {K:Zqq} {H:Hp} {h:Heap} {R:PySem.W.WRecords} {cl:Str->Option Addr}
theorem Zh {a:Addr} {xs:List V} (hok:wj P w H h) (KX:K.In h) (q:bI K H a xs):∃ (its:List Value) (o:Obj) (n:Nat),Vals xs its/\h.get? a=some o/\o.cls=.type "list"/\o.data=.seq its.toArray n:=by
 rcases q with q | ⟨o,its,n,e,hc,_,hd,_,hv⟩
 . obtain ⟨_,its,n,hv,e⟩:=(show dZ P w H h a (.lst xs) from q.ok hok)
   exact ⟨its,_,n,hv,e,rfl,rfl⟩
 . exact ⟨its.toList,o,n,hv,KX _ _ e,hc,by simp [hd]⟩
theorem Zi {a:Addr} {xs:List V} (hok:wj P w H h) (KX:K.In h) (q:oj K H a xs):∃ (its:List Value) (o:Obj) (n:Nat),Vals xs its/\h.get? a=some o/\o.cls=.type "tuple"/\o.data=.seq its.toArray n:=by
 rcases q with q | ⟨o,its,n,e,hc,hd,_,hv⟩
 . obtain ⟨_,its,hv,o,e,hc,n,hd⟩:=(show dZ P w H h a (.tup xs) from q.ok hok)
   exact ⟨its,o,n,hv,e,hc,hd⟩
 . exact ⟨its.toList,o,n,hv,KX _ _ e,hc,by simp [hd]⟩
mutual
theorem Dw.reads (hok:wj P w H h) (KX:K.In h):∀ (d:WData) (v:V) (u:Value),Dw K H v d->RelV v u->∃ as,ReadsW R cl h u d as
 | .none,_,_,x,r=>by
  cases x
  cases r
  exact ⟨_,ReadsW.none⟩
 | .bool b,_,_,x,r=>by
  cases x
  cases r
  exact ⟨_,ReadsW.bool b⟩
 | .int i,_,_,x,r=>by
  cases x
  obtain ⟨t,rfl⟩:=r
  exact ⟨_,ReadsW.int i t⟩
 | .str s,_,_,x,r=>by
  cases x
  obtain ⟨t,rfl⟩:=r
  exact ⟨_,ReadsW.str s t⟩
 | .bytes b,_,_,x,r=>by
  cases x
  obtain ⟨t,rfl⟩:=r
  exact ⟨_,ReadsW.bytes _ t⟩
 | .list ds,_,_,x,r=>by
  cases x with
  | lst hs ha=>
   cases r
   obtain ⟨its,o,n,rv,ho,hc,hd⟩:=Zh hok KX hs
   obtain ⟨as,hr⟩:=Dw.readsAll hok KX ds _ its ha rv
   exact ⟨_,ReadsW.list ho hc hd hr⟩
 | .tuple ds,_,_,x,r=>by
  cases x with
  | tup hs ha=>
   cases r
   obtain ⟨its,o,n,rv,ho,hc,hd⟩:=Zi hok KX hs
   obtain ⟨as,hr⟩:=Dw.readsAll hok KX ds _ its ha rv
   exact ⟨_,ReadsW.tuple ho hc hd hr⟩
 | .float _,_,_,x,_=>by cases x
 | .dict _,_,_,x,_=>by cases x
 | .bytearray _,_,_,x,_=>by cases x
 | .set _,_,_,x,_=>by cases x
 | .frozenset _,_,_,x,_=>by cases x
 | .obj _ _,_,_,x,_=>by cases x
theorem Dw.readsAll (hok:wj P w H h) (KX:K.In h):∀ (ds:List WData) (vs:List V) (us:List Value),wm K H vs ds->Vals vs us->∃ as,ReadsAllW R cl h us ds as
 | [],_,_,x,r=>by
  cases x
  cases r
  exact ⟨_,ReadsAllW.nil⟩
 | d::ds,_,_,x,r=>by
  cases x with
  | cons h1 h2=>
   cases r with
   | cons r1 r2=>
    obtain ⟨as,q1⟩:=Dw.reads hok KX d _ _ h1 r1
    obtain ⟨bs,q2⟩:=Dw.readsAll hok KX ds _ _ h2 r2
    exact ⟨_,ReadsAllW.cons q1 q2⟩
end
end
mutual
def Pg:WData->Bool
 | .none=>true
 | .bool _=>true
 | .int _=>true
 | .str _=>true
 | .bytes _=>true
 | .list xs=>Dt xs
 | .tuple xs=>Dt xs
 | _=>false
def Dt:List WData->Bool
 | []=>true
 | x::r=>Pg x&&Dt r
end
theorem Ly {α:Type} {f:α->WData} (h:∀ a,Pg (f a)=true):∀ l:List α,Dt (l.map f)=true
 | []=>rfl
 | x::r=>by
  show (Pg (f x)&&Dt (r.map f))=true
  rw [h x,Ly h r]<;>rfl
theorem x9:∀ (c:Codec) (a:c.denote),Pg (c.enc a)=true
 | .unit,_=>rfl
 | .bool,_=>rfl
 | .int _ _,_=>rfl
 | .nat _ _,_=>rfl
 | .u8,_=>rfl
 | .bytes _ _,_=>rfl
 | .text _ _ _ _,_=>rfl
 | .list _ _ c,a=>Ly (fun x=>x9 c x) a
 | .pair c d,a=>by
  show (Pg (c.enc a.1)&&(Pg (d.enc a.2)&&true))=true
  rw [x9 c a.1,x9 d a.2]<;>rfl
 | .triple c d e,a=>by
  show (Pg (c.enc a.1)&&(Pg (d.enc a.2.1)&&(Pg (e.enc a.2.2)&&true)))=true
  rw [x9 c a.1,x9 d a.2.1,x9 e a.2.2]<;>rfl
 | .option c,none=>rfl
 | .option c,some x=>x9 c x
theorem HX:∀ (cs:List Codec) (a:Codec.denoteAll cs),Dt (Codec.encAll cs a)=true
 | [],_=>rfl
 | c::cs,a=>by
  show (Pg (c.enc a.1)&&Dt (Codec.encAll cs a.2))=true
  rw [x9 c a.1,HX cs a.2]<;>rfl
theorem zC:∀ {xs:List WData} {d:WData},d ∈ xs->d.weight<=WData.weightAll xs
 | [],d,h=>absurd h (by simp)
 | x::r,d,h=>by
   show d.weight<=x.weight+1+WData.weightAll r
   rcases List.mem_cons.mp h with e | m
   . rw [e]
     omega
   . have z:=zC m
     omega
def toV:Value->V
 | .none=>.non
 | .bool b=>.bl b
 | .int i _=>.int i
 | .str x _=>.str x
 | .bytes b _=>.IP b
 | .ref a=>.ref a
 | _=>.non
def Q0 (A:List Addr):Value->Prop
 | .none=>True
 | .bool _=>True
 | .int _ _=>True
 | .str _ _=>True
 | .bytes _ _=>True
 | .ref a=>a ∈ A
 | _=>False
theorem Q0.mono {A B:List Addr} (h:∀ a ∈ A,a ∈ B):∀ {u:Value},Q0 A u->Q0 B u:=fun {u} x=>by
 cases u with
 | ref a=>exact h a x
 | none=>trivial
 | bool b=>trivial
 | int i t=>trivial
 | str s t=>trivial
 | bytes b t=>trivial
 | _=>exact False.elim x
theorem Tj {A:List Addr} {u:Value} (x:Q0 A u):RelV (toV u) u:=by
 cases u with
 | ref a=>rfl
 | none=>rfl
 | bool b=>rfl
 | int i t=>exact ⟨t,rfl⟩
 | str s t=>exact ⟨t,rfl⟩
 | bytes b t=>exact ⟨t,rfl⟩
 | _=>exact False.elim x
theorem u9 {A:List Addr}:∀ {vs:List Value},(∀ u ∈ vs,Q0 A u)->Vals (vs.map toV) vs
 | [],_=>.nil
 | u::r,h=>.cons (Tj (h u (List.mem_cons_self ..))) (u9 fun x hx=>h x (List.mem_cons_of_mem _ hx))
def wo (h:Heap) (A:List Addr) (a:Addr):Prop:=∃ vs:List Value,vs.length<=sizeLine/\(∀ u ∈ vs,Q0 A u) /\
 (h.get? a=some { cls:=.type "list",data:=.seq vs.toArray }\/h.get? a=some { cls:=.type "tuple",data:=.seq vs.toArray })
theorem wo.mono {h:Heap} {A B:List Addr} {a:Addr} (k:∀ a ∈ A,a ∈ B) (x:wo h A a):wo h B a:=by
 obtain ⟨vs,h1,h2,h3⟩:=x;exact ⟨vs,h1,fun u hu=>(h2 u hu).mono k,h3⟩
theorem tF {P:Params} {h:Heap}:∀ {vs:List Value} {ds:List WData},WellAll P h vs ds->vs.length=ds.length
 | _,_,.nil=>rfl
 | _,_,.cons _ b=>by
  show _+1=_+1
  rw [tF b]
theorem HZ {P:Params} {h:Heap} {v:Value} {ds:List WData} (x:Well P h v (.list ds)):∃ (a:Addr) (vs:List Value),v=.ref a/\h.get? a=some { cls:=.type "list",data:=.seq vs.toArray }/\WellAll P h vs ds:=by
 cases x with
 | list ho hall=>exact ⟨_,_,rfl,ho,hall⟩
theorem E7 {P:Params} {h:Heap} {v:Value} {ds:List WData} (x:Well P h v (.tuple ds)):∃ (a:Addr) (vs:List Value),v=.ref a/\h.get? a=some { cls:=.type "tuple",data:=.seq vs.toArray }/\WellAll P h vs ds:=by
 cases x with
 | tuple ho hall=>exact ⟨_,_,rfl,ho,hall⟩
theorem Ia {P:Params} {h:Heap} {us:List Value} {d:WData} {ds:List WData} (x:WellAll P h us (d::ds)):∃ (v:Value) (vs:List Value),us=v::vs/\Well P h v d/\WellAll P h vs ds:=by
 cases x with
 | cons a b=>exact ⟨_,_,rfl,a,b⟩
theorem Ph {n:Nat} (h:n<=1048576):n<=sizeLine:=Nat.le_trans h (by decide)
section
variable {P:Params} {h:Heap}
mutual
theorem Tn:∀ (d:WData) (v:Value),Well P h v d->Pg d=true->d.weight<=1048576->∃ A:List Addr,Q0 A v/\∀ a ∈ A,wo h A a
 | .none,_,x,_,_=>by
   cases x
   exact ⟨[],trivial,fun a m=>absurd m (by simp)⟩
 | .bool b,_,x,_,_=>by
   cases x
   exact ⟨[],trivial,fun a m=>absurd m (by simp)⟩
 | .int i,_,x,_,_=>by
   cases x
   exact ⟨[],trivial,fun a m=>absurd m (by simp)⟩
 | .str s,_,x,_,_=>by
   cases x
   exact ⟨[],trivial,fun a m=>absurd m (by simp)⟩
 | .bytes b,_,x,_,_=>by
   cases x
   exact ⟨[],trivial,fun a m=>absurd m (by simp)⟩
 | .list ds,_,x,p,z=>by
   obtain ⟨a,vs,rfl,ho,hall⟩:=HZ x
   have z2:WData.weightAll ds<=1048576:=z
   obtain ⟨A,h1,h2⟩:=Az ds _ hall p fun d hd=>Nat.le_trans (zC hd) z2
   have k:∀ b ∈ A,b ∈ a::A:=fun b hb=>List.mem_cons_of_mem _ hb
   refine ⟨a::A,List.mem_cons_self ..,fun b hb=>?_⟩
   rcases List.mem_cons.mp hb with e | m
   . rw [e]
     exact ⟨vs,Ph (by rw [tF hall];exact Nat.le_trans (PySem.W.length_le_weightAllW ds) z2),fun u hu=>(h1 u hu).mono k,.inl ho⟩
   . exact (h2 b m).mono k
 | .tuple ds,_,x,p,z=>by
   obtain ⟨a,vs,rfl,ho,hall⟩:=E7 x
   have z2:WData.weightAll ds<=1048576:=z
   obtain ⟨A,h1,h2⟩:=Az ds _ hall p fun d hd=>Nat.le_trans (zC hd) z2
   have k:∀ b ∈ A,b ∈ a::A:=fun b hb=>List.mem_cons_of_mem _ hb
   refine ⟨a::A,List.mem_cons_self ..,fun b hb=>?_⟩
   rcases List.mem_cons.mp hb with e | m
   . rw [e]
     exact ⟨vs,Ph (by rw [tF hall];exact Nat.le_trans (PySem.W.length_le_weightAllW ds) z2),fun u hu=>(h1 u hu).mono k,.inr ho⟩
   . exact (h2 b m).mono k
 | .float _,_,_,p,_=>Bool.noConfusion (show false=true from p)
 | .dict _,_,_,p,_=>Bool.noConfusion (show false=true from p)
 | .bytearray _,_,_,p,_=>Bool.noConfusion (show false=true from p)
 | .set _,_,_,p,_=>Bool.noConfusion (show false=true from p)
 | .frozenset _,_,_,p,_=>Bool.noConfusion (show false=true from p)
 | .obj _ _,_,_,p,_=>Bool.noConfusion (show false=true from p)
theorem Az:∀ (ds:List WData) (vs:List Value),WellAll P h vs ds->Dt ds=true->(∀ d ∈ ds,d.weight<=1048576)->∃ A:List Addr,(∀ u ∈ vs,Q0 A u)/\∀ a ∈ A,wo h A a
 | [],_,x,_,_=>by
   cases x
   exact ⟨[],fun u m=>absurd m (by simp),fun a m=>absurd m (by simp)⟩
 | d::ds,_,x,p,z=>by
   obtain ⟨v,vs,rfl,x1,x2⟩:=Ia x
   have q:Pg d=true/\Dt ds=true:=Bool.and_eq_true_iff.mp p
   obtain ⟨A,a1,a2⟩:=Tn d v x1 q.1 (z d (List.mem_cons_self ..))
   obtain ⟨B,b1,b2⟩:=Az ds vs x2 q.2 fun e he=>z e (List.mem_cons_of_mem _ he)
   have kA:∀ b ∈ A,b ∈ A++B:=fun b hb=>List.mem_append.mpr (.inl hb)
   have kB:∀ b ∈ B,b ∈ A++B:=fun b hb=>List.mem_append.mpr (.inr hb)
   refine ⟨A++B,fun u hu=>?_,fun b hb=>?_⟩
   . rcases List.mem_cons.mp hu with e | m
     . rw [e]
       exact a1.mono kA
     . exact (b1 u m).mono kB
   . rcases List.mem_append.mp hb with m | m
     . exact (a2 b m).mono kA
     . exact (b2 b m).mono kB
end
end
def Wf (o:Obj):Option HO:=match o.data with
 | .seq vs _=>if (o.cls==Value.type "list")=true then some (.qh o (.lst (vs.toList.map toV))) else some (.qh o (.tup (vs.toList.map toV)))
 | _=>none
def vd (K:Zqq) (h:Heap) (A:List Addr):Hp:=fun b=>if b ∈ A then (if (K.lookup b).isNone=true then (h.get? b).bind Wf else none) else none
def Ib (H:Hp):Prop:=∀ b,H b=none\/∃ o u,H b=some (.qh o u)
theorem Lz (vs:List Value):Wf { cls:=.type "list",data:=.seq vs.toArray }=some (.qh { cls:=.type "list",data:=.seq vs.toArray } (.lst (vs.map toV))):=by
 show (if (Value.type "list"==Value.type "list")=true then some (HO.qh { cls:=.type "list",data:=.seq vs.toArray } (.lst (vs.toArray.toList.map toV))) else some (HO.qh { cls:=.type "list",data:=.seq vs.toArray } (.tup (vs.toArray.toList.map toV))))=_;rw [if_pos (beq_self_eq_true _)]
theorem L0 (vs:List Value):Wf { cls:=.type "tuple",data:=.seq vs.toArray }=some (.qh { cls:=.type "tuple",data:=.seq vs.toArray } (.tup (vs.map toV))):=by
 show (if (Value.type "tuple"==Value.type "list")=true then some (HO.qh { cls:=.type "tuple",data:=.seq vs.toArray } (.lst (vs.toArray.toList.map toV))) else some (HO.qh { cls:=.type "tuple",data:=.seq vs.toArray } (.tup (vs.toArray.toList.map toV))))=_;rw [if_neg (by decide)]
section
variable {P:Program} {w:World} {K:Zqq} {h:Heap} {A:List Addr}
theorem DT {b:Addr} {o:Obj} (hb:b ∈ A) (hk:K.lookup b=none) (e:h.get? b=some o):vd K h A b=Wf o:=by
 unfold vd;rw [if_pos hb,hk,if_pos (show (none:Option Obj).isNone=true from rfl),e]<;>rfl
theorem Wg {b:Addr} {u:HO} (q:vd K h A b=some u):b ∈ A/\K.lookup b=none:=by
 unfold vd at q;by_cases hb:b ∈ A
 . rw [if_pos hb] at q
   cases hk:K.lookup b with
   | none=>exact ⟨hb,rfl⟩
   | some o=>
     rw [hk,if_neg (by simp)] at q;cases q
 . rw [if_neg hb] at q
   cases q
theorem DU (ar:∀ a ∈ A,wo h A a) {b:Addr} {u:HO} (q:vd K h A b=some u):K.lookup b=none/\∃ vs:List Value,vs.length<=sizeLine/\(∀ u ∈ vs,Q0 A u) /\
   ((h.get? b=some { cls:=.type "list",data:=.seq vs.toArray }/\u=.qh { cls:=.type "list",data:=.seq vs.toArray } (.lst (vs.map toV))) \/
    (h.get? b=some { cls:=.type "tuple",data:=.seq vs.toArray }/\u=.qh { cls:=.type "tuple",data:=.seq vs.toArray } (.tup (vs.map toV)))):=by
 obtain ⟨hb,hk⟩:=Wg q;obtain ⟨vs,h1,h2,h3⟩:=ar b hb;refine ⟨hk,vs,h1,h2,?_⟩;rcases h3 with e | e
 . rw [DT hb hk e,Lz] at q
   exact .inl ⟨e,(Option.some.inj q).symm⟩
 . rw [DT hb hk e,L0] at q
   exact .inr ⟨e,(Option.some.inj q).symm⟩
theorem Q2 (ar:∀ a ∈ A,wo h A a):Ib (vd K h A):=fun b=>by
 cases q:vd K h A b with
 | none=>exact .inl rfl
 | some u=>
   obtain ⟨_,vs,_,_,⟨_,e⟩ | ⟨_,e⟩⟩:=DU ar q
   . exact .inr ⟨_,_,by rw [e]⟩
   . exact .inr ⟨_,_,by rw [e]⟩
theorem Wh (ar:∀ a ∈ A,wo h A a):wj P w (vd K h A) h:=fun b u q=>by
 obtain ⟨_,vs,h1,h2,⟨e,rfl⟩ | ⟨e,rfl⟩⟩:=DU ar q
 . exact ⟨e,by rw [List.length_map];exact h1,vs,_,u9 h2,e⟩
 . exact ⟨e,by rw [List.length_map];exact h1,vs,u9 h2,_,e,rfl,_,rfl⟩
theorem DV {c c':Value} {vs us:List Value} (e:(some { cls:=c,data:=.seq vs.toArray }:Option Obj)=some { cls:=c',data:=.seq us.toArray }):c=c'/\vs=us:=by
 have e1:=Option.some.inj e;have e2:c=c':=congrArg Obj.cls e1;have e3:Data.seq vs.toArray=Data.seq us.toArray:=congrArg Obj.data e1;injection e3 with e4;refine ⟨e2,?_⟩;have e5:=congrArg Array.toList e4;simpa using e5
theorem acu (KX:K.In h) (ar:∀ a ∈ A,wo h A a) {a:Addr} {vs:List Value} (ha:a ∈ A) (e:h.get? a=some { cls:=.type "list",data:=.seq vs.toArray }):(∀ u ∈ vs,Q0 A u)/\bI K (vd K h A) a (vs.map toV):=by
 obtain ⟨us,h1,h2,h3⟩:=ar a ha;have hu:us=vs:=by
   rcases h3 with q | q
   . rw [e] at q
     exact (DV q).2.symm
   . rw [e] at q
     exact absurd (Value.type.inj (DV q).1) (by decide)
 subst hu;refine ⟨h2,?_⟩;cases hk:K.lookup a with
 | none=>exact .inl (.inr ⟨_,by rw [DT ha hk e,Lz]⟩)
 | some o=>
   have e2:=KX a o hk;rw [e] at e2;obtain rfl:=Option.some.inj e2;exact .inr ⟨_,us.toArray,_,hk,rfl,rfl,rfl,by rw [List.size_toArray];exact h1,by simpa using u9 h2⟩
theorem acv (KX:K.In h) (ar:∀ a ∈ A,wo h A a) {a:Addr} {vs:List Value} (ha:a ∈ A) (e:h.get? a=some { cls:=.type "tuple",data:=.seq vs.toArray }):(∀ u ∈ vs,Q0 A u)/\oj K (vd K h A) a (vs.map toV):=by
 obtain ⟨us,h1,h2,h3⟩:=ar a ha;have hu:us=vs:=by
   rcases h3 with q | q
   . rw [e] at q
     exact absurd (Value.type.inj (DV q).1) (by decide)
   . rw [e] at q
     exact (DV q).2.symm
 subst hu;refine ⟨h2,?_⟩;cases hk:K.lookup a with
 | none=>exact .inl (.inr ⟨_,by rw [DT ha hk e,L0]⟩)
 | some o=>
   have e2:=KX a o hk;rw [e] at e2;obtain rfl:=Option.some.inj e2;exact .inr ⟨_,us.toArray,_,hk,rfl,rfl,by rw [List.size_toArray];exact h1,by simpa using u9 h2⟩
mutual
theorem Zj {Pm:Params} (KX:K.In h) (ar:∀ a ∈ A,wo h A a):∀ (d:WData) (v:Value),Well Pm h v d->Pg d=true->Q0 A v->Dw K (vd K h A) (toV v) d
 | .none,_,x,_,_=>by
  cases x
  exact .non
 | .bool b,_,x,_,_=>by
  cases x
  exact .bl b
 | .int i,_,x,_,_=>by
  cases x
  exact .int i
 | .str s,_,x,_,_=>by
  cases x
  exact .str s
 | .bytes b,_,x,_,_=>by
  cases x
  have z:=Dw.IP (K:=K) (H:=vd K h A) b.toArray
  exact z
 | .list ds,_,x,p,hu=>by
  obtain ⟨a,vs,rfl,ho,hall⟩:=HZ x
  obtain ⟨h2,hs⟩:=acu KX ar hu ho
  exact .lst hs (Jj KX ar ds _ hall p h2)
 | .tuple ds,_,x,p,hu=>by
  obtain ⟨a,vs,rfl,ho,hall⟩:=E7 x
  obtain ⟨h2,hs⟩:=acv KX ar hu ho
  exact .tup hs (Jj KX ar ds _ hall p h2)
 | .float _,_,_,p,_=>Bool.noConfusion (show false=true from p)
 | .dict _,_,_,p,_=>Bool.noConfusion (show false=true from p)
 | .bytearray _,_,_,p,_=>Bool.noConfusion (show false=true from p)
 | .set _,_,_,p,_=>Bool.noConfusion (show false=true from p)
 | .frozenset _,_,_,p,_=>Bool.noConfusion (show false=true from p)
 | .obj _ _,_,_,p,_=>Bool.noConfusion (show false=true from p)
theorem Jj {Pm:Params} (KX:K.In h) (ar:∀ a ∈ A,wo h A a):∀ (ds:List WData) (vs:List Value),WellAll Pm h vs ds->Dt ds=true->(∀ u ∈ vs,Q0 A u)->wm K (vd K h A) (vs.map toV) ds
 | [],_,x,_,_=>by
  cases x
  exact .nil
 | d::ds,_,x,p,hu=>by
  obtain ⟨v,vs,rfl,x1,x2⟩:=Ia x
  have q:Pg d=true/\Dt ds=true:=Bool.and_eq_true_iff.mp p
  exact .cons (Zj KX ar d v x1 q.1 (hu _ (List.mem_cons_self ..))) (Jj KX ar ds vs x2 q.2 fun u m=>hu u (List.mem_cons_of_mem _ m))
end
end
theorem Q3 {P:Program} {w:World} {K:Zqq} {mg mb:Str->Option Value} {CX:Nr} {k:Nat} {fa:Addr} {fd:FuncData} {ps:List Str} {sp:Sp} {s₁:Shared} {vals:List Value} {ds:List WData} {R:PySem.W.WRecords} {cl:Str->Option Addr} {d0:WData}
   (KX:K.In s₁.heap) (hns:s₁.heap.Ns mainGlobals mg) (hb:s₁.heap.Ns builtinsNs mb) (hbb:∀ x:Str,x ≠ "__name__"->mb x=bootBuiltins x) (hlim:s₁.heap.NoLimit) (hg:s₁.gens=#[])
   (hwl:WellAll w.params s₁.heap vals ds) (hpl:Dt ds=true) (hwt:∀ d ∈ ds,d.weight<=1048576) (hr:dG k callerA)
   (F:∀ base:Heap,K.In base->base.Ns mainGlobals mg->bF P w K mg base CX k fa fd ps sp) (hbind:∀ (s:Shared) (us:List Value),us.length=ps.length->BindsTo s fd ⟨us,[]⟩ (ps.zip us)) (hlen:ds.length=ps.length)
   (NG:∀ (H:Hp) (xs:List V),Ib H->wm K H xs ds->sp xs H (fun v H'=>Dw K H' v d0) fun _ _ _=>False)
   (hCX:∀ H e s',CX [] H s₁ (fun _ _ _=>False) e s'->False) :
   codeAny (model P w) callerA (.call (.ref fa) ⟨vals,[]⟩) (fun r s'=>∃ u as,r=.ok (.ret u)/\ReadsW R cl s'.heap u d0 as/\OldK s₁.heap s'.heap/\s'.os=s₁.os/\AllBare s'.gens) s₁:=by
 obtain ⟨A,ho,ar⟩:=Az ds vals hwl hpl hwt;have hO:Ib (vd K s₁.heap A):=Q2 ar;have hok:wj P w (vd K s₁.heap A) s₁.heap:=Wh ar;have hS:=Jj KX ar ds vals hwl hpl ho;have hV:=u9 ho;have hK:∀ b u,vd K s₁.heap A b=some u->K.lookup b=none:=fun b u q=>(DU ar q).1;have noA:∀ {b:Addr} {o:Obj} {es:Array DictEntry} {ep:Nat},s₁.heap.get? b=some o->o.data=.dict es ep->vd K s₁.heap A b=none:=fun {b o es ep} e d=>by
   cases q:vd K s₁.heap A b with
   | none=>rfl
   | some u=>
     obtain ⟨_,vs,_,_,⟨e2,_⟩ | ⟨e2,_⟩⟩:=DU ar q
     . rw [e2] at e
       cases e;have d':Data.seq vs.toArray _=Data.dict es ep:=d;cases d'
     . rw [e2] at e
       cases e;have d':Data.seq vs.toArray _=Data.dict es ep:=d;cases d'
 generalize vd K s₁.heap A=H at hO hok hS hK noA;have Pj:∀ {b:Addr} {o:Obj},s₁.heap.get? b=some o->H b=none->(IQ s₁.heap H).get? b=some o:=fun e n=>Sl e n;have nsK:∀ {b:Addr} {m:Str->Option Value},s₁.heap.Ns b m->(IQ s₁.heap H).Ns b m:=fun {b m} ⟨o,es,ep,e,d,r⟩=>⟨o,es,ep,Pj e (noA e d),d,r⟩;have nK:∀ b o,K.lookup b=some o->H b=none:=fun b o e=>by
   cases q:H b with
   | none=>rfl
   | some u=>
     rw [hK b u q] at e;cases e
 have hKb:K.In (IQ s₁.heap H):=fun b o e=>Pj (KX b o e) (nK b o e);have hM:Mod K mg (IQ s₁.heap H):=⟨hKb,nsK hns,⟨mb,nsK hb,hbb⟩,let ⟨mc,h1,h2⟩:=hlim;⟨mc,nsK h1,h2⟩⟩;have e0:Ja P w K mg (IQ s₁.heap H) callerA [] s₁ H:=⟨rfl,hM,fun b o e=>VD e,Nat.le_of_eq (Qh _ _),trivial,fun b hb=>absurd (show b ∈ ([]:List Addr) from hb) (by simp),hok,.of_eq hg⟩;have hl:vals.length=ps.length:=by rw [tF hwl];exact hlen
 refine codeAny_mono ((F _ hKb (nsK hns)).run callerA [] s₁ H ⟨vals,[]⟩ vals (vals.map toV) _ _ hr e0 (hbind s₁ vals hl) hV (NG H _ hO hS)) fun r s' x=>?_;cases r with
 | error e=>exact (hCX H e s' x).elim
 | ok fl=>
   cases fl with
   | next=>exact False.elim x
   | brk=>exact False.elim x
   | cont=>exact False.elim x
   | ret u=>
     obtain ⟨v,H',os,bare,un,hok',r',q⟩:=x;have kept:∀ b o,s₁.heap.get? b=some o->s'.heap.get? b=some o:=fun b o e=>by
       cases q2:H b with
       | none=>exact un.keep b o e q2 (by intro z;exact absurd (show b ∈ ([]:List Addr) from z) (by simp)) (by simp)
       | some u2=>
         rcases hO b with z | ⟨ob,u3,z⟩
         . rw [q2] at z
           cases z
         . have z2:=un.z7 b ob _ z
           obtain ⟨e1,_⟩:=hok b _ z;obtain ⟨e2,_⟩:=hok' b _ z2;rw [e] at e1;cases e1;exact e2
     have KX':K.In s'.heap:=fun b o e=>kept b o (KX b o e);obtain ⟨as,hrd⟩:=Dw.reads (R:=R) (cl:=cl) hok' KX' d0 v u q r';exact ⟨u,as,rfl,hrd,OldK.of_keep kept,os,bare⟩
theorem E8 {ds:List WData} (h:WData.layableAll ds=true):∀ d ∈ ds,d.weight<=1048576:=fun d hd=>
 (PySem.W.layableW_iff.mp (List.all_eq_true.mp h d hd)).2.2
theorem E9:∀ (cs:List Codec) (a:Codec.denoteAll cs),(Codec.encAll cs a).length=cs.length
 | [],_=>rfl
 | c::cs,a=>by
  show (Codec.encAll cs a.2).length+1=cs.length+1
  rw [E9 cs a.2]
theorem Q4 {r:OpenSpec} {k:Nat} {q:Program} {loose:List Str} {XP:(Str->Option Value)->Heap->Prop} {YP:World->Heap->Prop} {d:DefRec} {K:Params->Zqq} {CX:World->Nr} {ps:List Str} {sp:World->Sp}
   (Tp:r.wellSaid=true) (hdf:d.params.defaults=[]) (hlen:r.args.length=ps.length) (hr:dG k callerA)
   (hY:∀ (w:World) (h:Heap),YP w h->(K w.params).In h)
   (F:∀ (w:World) (mg:Str->Option Value) (fa:Addr) (h:Heap),YP w h->(K w.params).In h->h.Ns mainGlobals mg->mg d.name=some (.ref fa)->
     ∃ fd:FuncData,(∀ (s:Shared) (us:List Value),us.length=ps.length->BindsTo s fd ⟨us,[]⟩ (ps.zip us)) /\
       ∀ base:Heap,(K w.params).In base->base.Ns mainGlobals mg->bF r.prog w (K w.params) mg base (CX w) k fa fd ps (sp w))
   (NG:∀ (w:World) (H:Hp) (xs:List V) (a:Codec.denoteAll r.args),Ib H->Codec.withinAll r.args a=true->Codec.app r.args r.asked a=true->wm (K w.params) H xs (Codec.encAll r.args a)->
     sp w xs H (fun v H'=>Dw (K w.params) H' v (r.ret.enc (Codec.app r.args r.f a))) fun _ _ _=>False)
   (hCX:∀ (w:World) (H:Hp) (s:Shared) (e:Value) (s':Shared),CX w [] H s (fun _ _ _=>False) e s'->False) :
   PySem.W.WalkOS q loose XP YP r d [] (fun f vs=>PySem.call f vs):=by
 intro w BO s₁ mg mb G Y fa o pm cd doc dV kV ho hd hcd hD hmg hg args vals as hpre hlay hrd hwl hlo;obtain ⟨a,e1,e2⟩:=PySem.W.os_pre_some hpre;obtain ⟨e3,hwi⟩:=Codec.encAll_of_decAll r.args args a e1;subst e3;have KX:=hY w _ Y;obtain ⟨fd,hb,hF⟩:=F w mg fa _ Y KX G.T.g hmg;refine PySem.W.enter_call (codeAny_mono (Q3 (R:=[]) (cl:=classAt BO.heap) (d0:=r.ret.enc (Codec.app r.args r.f a)) KX G.T.g G.T.b G.T.builtins G.T.nolimit hg hwl (HX _ _) (E8 hlay) hr hF hb (by rw [E9];exact hlen)
   (fun H xs hO hS=>NG w H xs a hO hwi e2 hS) fun H e s'=>hCX w H s₁ e s') fun r' s' hq=>?_)
 obtain ⟨u,as',rfl,h1,h2,h3,h4⟩:=hq;exact ⟨.inl ⟨u,_,as',rfl,fun _=>rfl,h1,(OpenSpec.post_iff Tp hwi _ _).mpr rfl,fun z=>Bool.noConfusion (show false=true from z)⟩,h2,h3,h4⟩
theorem NR {r:OpenSpec} {k:Nat} {q:Program} {loose:List Str} {XP:(Str->Option Value)->Heap->Prop} {YP:World->Heap->Prop} {d:DefRec} {K:Params->Zqq} {CX:Nr} {ps:List Str} {sp:Zqq->Sp}
   (Tp:r.wellSaid=true) (hdf:d.params.defaults=[]) (hlen:r.args.length=ps.length) (hr:dG k callerA)
   (hY:∀ (w:World) (h:Heap),YP w h->(K w.params).In h)
   (F:∀ (w:World) (mg:Str->Option Value) (fa:Addr) (h:Heap),YP w h->(K w.params).In h->h.Ns mainGlobals mg->mg d.name=some (.ref fa)->
     ∃ fd:FuncData,(∀ (s:Shared) (us:List Value),us.length=ps.length->BindsTo s fd ⟨us,[]⟩ (ps.zip us)) /\
       ∀ base:Heap,(K w.params).In base->base.Ns mainGlobals mg->bF r.prog w (K w.params) mg base CX k fa fd ps (sp (K w.params)))
   (NG:∀ (K:Zqq) (H:Hp) (xs:List V) (a:Codec.denoteAll r.args),Ib H->Codec.withinAll r.args a=true->Codec.app r.args r.asked a=true->wm K H xs (Codec.encAll r.args a)->
     sp K xs H (fun v H'=>Dw K H' v (r.ret.enc (Codec.app r.args r.f a))) fun _ _ _=>False)
   (hCX:∀ (H:Hp) (s:Shared) (e:Value) (s':Shared),CX [] H s (fun _ _ _=>False) e s'->False) :
   PySem.W.WalkOS q loose XP YP r d [] (fun f vs=>PySem.call f vs):=
 Q4 (K:=K) (CX:=fun _=>CX) (sp:=fun w=>sp (K w.params)) Tp hdf hlen hr hY F (fun w H xs a h1 h2 h3 h4=>NG (K w.params) H xs a h1 h2 h3 h4) fun _ H s e s'=>hCX H s e s'
end L2
end
namespace XL
open PySem
def Nu (h:Heap) (e:Addr) (cls:Value) (dx:Option Addr) (t:Option (Addr×Value)):Prop:=
 ∃ oe vs,h.get? e=some oe/\oe.cls=cls/\oe.dict=dx/\oe.data=.fields vs /\
   match t with
   | none=>vs[1]?=some .none
   | some (T,fl)=>vs[1]?=some (.ref T)/\T ≠ e/\∃ oT ts,h.get? T=some oT/\oT.data=.fields ts/\ts[3]?=some fl
def heads (e:Addr) (t:Option (Addr×Value)):List Addr:=match t with
 | none=>[e]
 | some (T,_)=>[e,T]
theorem Q5 {e:Addr} {t:Option (Addr×Value)}:e ∈ heads e t:=by cases t<;>simp [heads]
theorem EA (o:Obj) (f:Array Value->Array Value):(o.mapFields f).dict=o.dict:=by
 obtain ⟨c,d,dt,sl⟩:=o;cases dt<;>rfl
theorem Nu.rec {h:Heap} {e:Addr} {cls:Value} {dx:Option Addr} {t:Option (Addr×Value)} (x:Nu h e cls dx t):∀ b ∈ heads e t,∃ o ws,h.get? b=some o/\o.data=.fields ws:=by
 obtain ⟨oe,vs,he,_,_,hd,r⟩:=x;intro b hb;cases t with
 | none=>rw [show b=e by simpa [heads] using hb];exact ⟨oe,vs,he,hd⟩
 | some p=>
   obtain ⟨_,_,oT,ts,hT,Sk,_⟩:=r;rcases (show b=e\/b=p.1 by simpa [heads] using hb) with q | q
   . rw [q];exact ⟨oe,vs,he,hd⟩
   . rw [q];exact ⟨oT,ts,hT,Sk⟩
structure Pk (fr ch:List Addr) (h h':Heap):Prop where
 keep:∀ b o,b ∉ fr->b ∉ ch->h.get? b=some o->h'.get? b=some o
 slot:∀ b o,b ∈ fr->h.get? b=some o->∃ sl,h'.get? b=some { o with slots:=sl }
 there:∀ b o,h.get? b=some o->∃ o',h'.get? b=some o'
 size:h.objs.size<=h'.objs.size
theorem Pk.refl {fr ch:List Addr} {h:Heap}:Pk fr ch h h:=⟨fun _ _ _ _ e=>e,fun _ o _ e=>⟨o.slots,e⟩,fun _ o e=>⟨o,e⟩,Nat.le_refl _⟩
theorem oG {h:Heap} {a b:Addr} (f:Obj->Obj) (n:b ≠ a):(h.update a f).get? b=h.get? b:=Heap.get?_update_other _ _ fun q=>n q.symm
theorem EB {h:Heap} {a:Addr} {o:Obj} {ws:Array Value} (ho:h.get? a=some o) (hw:o.data=.fields ws) (i:Nat) (v:Value) :
   (h.update a (Obj.mapFields (·.setIfInBounds i v))).get? a=some (o.mapFields (·.setIfInBounds i v)):=Heap.get?_update_self _ ho (Obj.isFreed_of_fields (Obj.data_mapFields hw _))
theorem acw {h:Heap} {e:Addr} {oe ob:Obj} {vs ts:Array Value} {fl:Value} (he:h.get? e=some oe) (hd:oe.data=.fields vs) (n1:1 < vs.size) (hb:ob.data=.fields ts) (h3:ts[3]?=some fl) :
   Nu ((h.push ob).update e (Obj.mapFields (·.setIfInBounds 1 (.ref h.objs.size)))) e oe.cls oe.dict (some (h.objs.size,fl)) /\
     (∀ b o,b ≠ e->h.get? b=some o->((h.push ob).update e (Obj.mapFields (·.setIfInBounds 1 (.ref h.objs.size)))).get? b=some o):=by
 have up:∀ b o,h.get? b=some o->(h.push ob).get? b=some o:=fun b o q=>Heap.get?_push_of_some ob q;have ne:h.objs.size ≠ e:=Nat.ne_of_gt (Heap.lt_size he);have nf:ob.isFreed=false:=Obj.isFreed_of_fields hb;refine ⟨⟨_,_,EB (up e oe he) hd 1 _,Obj.cls_mapFields _ _,EA _ _,Obj.data_mapFields hd _,by simp [n1],ne,ob,ts,?_,hb,h3⟩,fun b o q z=>?_⟩
 . rw [oG _ ne]
   exact Heap.get?_push_size h nf
 . rw [oG _ q]
   exact up b o z
section
variable {M:Model} {A:Around} {E:Value->Shared->Prop} {s:Shared}
theorem entry_at {base:Heap} {env:Env} {outer:List Env} {L e:Addr} {oe:Obj} {vs:Array Value} {head:Value} {more:Bool} {Q:Unit->Shared->Prop}
   (fr:A.frames=some (env::outer)) (ff:s.heap.FunFrames base (env::outer)) (lf:env.frame=some L) (he:s.heap.get? e=some oe) (hd:oe.data=.fields vs) (n1:1 < vs.size)
   (k:∀ h' T,Nu h' e oe.cls oe.dict (some (T,rawInt L))->s.heap.objs.size<=T->Pk ((env::outer).filterMap (·.frame)) [e] s.heap h'->Q () { s with heap:=h' }) :
   wpAny M A (do let a <- frameOf env;let pl <- entryPlaceOf L more;let b <- EntryCells.newEntry head a .none (rawInt L) .none pl;setField (.ref e) 1 b) Q E s:=by
 have ef:e ∉ (env::outer).filterMap (·.frame):=fun m=>let ⟨_,o,ho,no⟩:=ff.mem m;no vs (by rw [he] at ho;cases ho;exact hd);refine wpAny_bind (wpAny_frameOf_fun fr ff lf fun g sg=>wpAny_bind (wpAny_entryPlaceOf fun pl ip=>?_));have ge:g.get? e=some oe:=by rw [sg.2.1 e ef];exact he
 unfold EntryCells.newEntry newFields;refine wpAny_bind (wpAny_newObj_type ?_ (ip.sizeOk5 _ _ _ _ _));refine wpAny_setField (Heap.get?_push_of_some _ ge) hd n1 ?_;obtain ⟨x,kp⟩:=acw (fl:=rawInt L) (ob:={ cls:=.type "traceback",dict:=none,data:=.fields ([head,.ref L,.none,rawInt L,.none]++(if pl.isEmpty then List.replicate 6 Value.none else pl)).toArray }) ge hd n1 rfl (by simp);refine k _ _ x (by rw [sg.1];exact Nat.le_refl _) ⟨fun b o hb hc ho=>kp b o (fun q=>hc (by simp [q])) (by rw [sg.2.1 b hb];exact ho),fun b o hb ho=>?_,fun b o ho=>?_,?_⟩
 . obtain ⟨sl,q⟩:=sg.2.2 b o ho
   exact ⟨sl,kp b _ (fun z=>ef (z ▸ hb)) q⟩
 . by_cases z:b=e
   . obtain ⟨ox,_,q,_⟩:=x
     exact ⟨ox,z ▸ q⟩
   . obtain ⟨sl,q⟩:=sg.2.2 b o ho
     exact ⟨_,kp b _ z q⟩
 . rw [Heap.size_after_update,Heap.size_push,sg.1]
   exact Nat.le_succ _
theorem Wi {base:Heap} {env:Env} {outer:List Env} {L e:Addr} {cls:Value} {dx:Option Addr} {t:Option (Addr×Value)} {Q:Unit->Shared->Prop}
   (fr:A.frames=some (env::outer)) (ff:s.heap.FunFrames base (env::outer)) (lf:env.frame=some L) (hx:Nu s.heap e cls dx t) (hfl:∀ T fl,t=some (T,fl)->fl=.none\/fl=rawInt L)
   (k:∀ h' T,Nu h' e cls dx (some (T,rawInt L))->(T ∈ heads e t\/s.heap.objs.size<=T)->Pk ((env::outer).filterMap (·.frame)) (heads e t) s.heap h'->Q () { s with heap:=h' }) :
   wpAny M A (noteFrame (.ref e) env) Q E s:=by
 have rc:=hx.rec;obtain ⟨oe,vs,he,rfl,rfl,hd,r⟩:=id hx;unfold noteFrame;simp only [lf];cases t with
 | none=>
   refine wpAny_bind (wpAny_field he hd r ?_);rw [if_neg (by decide)];exact entry_at fr ff lf he hd (Array.getElem?_eq_some_iff.mp r).1 fun h' T x1 x2 x3=>k h' T x1 (.inr x2) x3
 | some p=>
   obtain ⟨T,fl⟩:=p;obtain ⟨h1,hTe,oT,ts,hT,Sk,h3⟩:=r;have l3:=(Array.getElem?_eq_some_iff.mp h3).1;refine wpAny_bind (wpAny_field he hd h1 ?_);rw [if_pos (by simp)];refine wpAny_bind (wpAny_field hT Sk h3 ?_);rcases hfl T fl rfl with rfl | rfl
   . rw [if_neg (by simp [rawInt])]
     refine wpAny_bind (wpAny_setField hT Sk l3 ?_);have off:∀ b o,s.heap.get? b=some o->b ≠ T->(s.heap.update T (Obj.mapFields (·.setIfInBounds 3 Value.none))).get? b=some o:=fun b o q n=>by rw [oG _ n];exact q
     have noT:∀ b o,s.heap.get? b=some o->(∀ ws,o.data ≠ .fields ws)->b ≠ T:=fun b o q n z=>n ts (by rw [z,hT] at q;cases q;exact Sk);have fT:T ∉ (env::outer).filterMap (·.frame):=fun m=>let ⟨_,o,ho,no⟩:=ff.mem m;noT T o ho no rfl;refine entry_at (s:={ s with heap:=s.heap.update T (Obj.mapFields (·.setIfInBounds 3 Value.none)) }) fr (ff.of_keeps fun b o q n=>⟨o,off b o q (noT b o q n),rfl⟩) lf (off e oe he (Ne.symm hTe)) hd (Array.getElem?_eq_some_iff.mp h1).1 fun h' T' x1 x2 x3=>?_
     have x2:s.heap.objs.size<=T':=by rw [Heap.size_after_update] at x2;exact x2
     have x4:s.heap.objs.size<=h'.objs.size:=by have:=x3.size;rw [Heap.size_after_update] at this;exact this
     refine k h' T' x1 (.inr x2) ⟨fun b o hb hc ho=>?_,fun b o hb ho=>?_,fun b o ho=>?_,x4⟩
     . have hc:b ≠ e/\b ≠ T:=by simpa [heads] using hc
       exact x3.keep b o hb (by simpa using hc.1) (off b o ho hc.2)
     . exact x3.slot b o hb (off b o ho fun z=>fT (z ▸ hb))
     . by_cases z:b=T
       . rw [z];exact x3.there T _ (EB hT Sk 3 _)
       . exact x3.there b o (off b o ho z)
   . rw [if_pos (by simp)]
     exact wpAny_pure (k s.heap T hx (.inl (by simp [heads])) .refl)
theorem Q6 {e T:Addr} {cls fl:Value} {dx:Option Addr} {fr:Option Addr} {Q:Unit->Shared->Prop} (hx:Nu s.heap e cls dx (some (T,fl)))
  (k:∀ h',Nu h' e cls dx (some (T,fr.elim Value.none fun f=>rawInt f))->(∀ b,b ≠ T->h'.get? b=s.heap.get? b)->h'.objs.size=s.heap.objs.size->(∃ o,h'.get? T=some o)->Q () { s with heap:=h' }) :
  wpAny M A (setFlight (.ref e) fr) Q E s:=by
 obtain ⟨oe,vs,he,hc,hx,hd,h1,hTe,oT,ts,hT,Sk,h3⟩:=hx;have l3:=(Array.getElem?_eq_some_iff.mp h3).1;have me:=EB hT Sk 3 (fr.elim Value.none fun f=>rawInt f);unfold setFlight;refine wpAny_bind (wpAny_field he hd h1 ?_);rw [if_pos (by simp)];refine wpAny_setField hT Sk l3 (k _ ⟨oe,vs,?_,hc,hx,hd,h1,hTe,_,_,me,Obj.data_mapFields Sk _,by simp [l3]⟩ (fun b n=>oG _ n) (Heap.size_after_update ..) ⟨_,me⟩);rw [oG _ (Ne.symm hTe)];exact he
end
section
variable {M:Model} {A:Around} {E:Value->Shared->Prop} {env:Env}
variable {nm q:Str} {C N:Addr} {bs bm:List Value} {hdct:Bool} {sn:List Str} {sub:List Value} {ab:Bool} {col:Option Bool} {dd:Option Addr} {k0 k1 k2 k3 k5:Option Value} {newId:String}
theorem Q7 {s:Shared} {x:Sem Value} {Q:Flow->Shared->Prop} (isB:bm.contains (.type "BaseException")=true) (calm:A.handled=none)
   (k:wpAny M A x (fun v s'=>∃ e t dx sl,v=.ref e/\s'.heap.get? C=some (excClassObj nm q C N bs bm hdct sn sub ab col dd k0 k1 k2 k3 k5 newId) /\
     s'.heap.get? e=some ⟨.ref C,dx,.fields #[.ref t,.none,.none,.none,.bool false,.none],sl⟩/\E (.ref e) s') E s):wpAny M A (raiseStmt env (some x) none) Q E s:=by
 have up:(Value.ref C::bm).contains (.type "BaseException")=true:=by simp only [List.contains_cons,isB,Bool.or_true]
 unfold raiseStmt;refine wpAny_bind (wpAny_mono k ?_ fun _ _ z=>z);rintro v ⟨hp,gs,dr,tk,os⟩ ⟨e,t,dx,sl,rfl,cC,ce,last⟩
 repeat (first | (with_reducible refine wpAny_isSubtype_exc cC ?_;rw [up]) | with_reducible refine wpAny_loadPart_at cC ?_ | with_reducible refine wpAny_loadPart_at ce ?_ | wp_step)
 exact wpAny_raiseNew_none calm last
end
end XL
namespace XL
open PySem
open Builtin Builtin.ObjectAttr
abbrev gF:List Value:=[.type "Exception",.type "BaseException",.type "object"]
section
variable {prog:Program} {w:World} {A:Around} {E:Value->Shared->Prop} {h:Heap} {g:Array GenState} {d:Drawn} {t:Nat} {os:OsState}
variable {nm q:Str} {C N x:Addr} {bs:List Value} {sn:List Str} {sub:List Value} {ab:Bool} {col:Option Bool} {dd:Option Addr} {k0 k1 k2 k3 k5:Option Value} {newId:String}
 {mN mA:Str->Option Value} {name:Str} {v:Value}
theorem Wj {tk:Tok} {Q:Fin->Shared->Prop} (cC:h.get? C=some (excClassObj nm q C N bs gF true sn sub ab col dd k0 k1 k2 k3 k5 newId)) (cN:h.Ns N mN) (no:mN name=none)
   (Gs:typeLookup (.type "Exception") name=pure none) (I:h.Inst x C mA) (hv:mA name=some v) (k:Q (.done (.ret v)) ⟨h,g,d,t,os⟩) :
   wpAny (model prog w) A (Builtin.«object.__getattribute__» ⟨[.ref x,.str name tk],[]⟩) Q E ⟨h,g,d,t,os⟩:=by
 obtain ⟨o,cx,oC,EC,⟨_,z⟩ | ⟨dx,odx,_,at_⟩⟩:=I
 . exact absurd hv (by simp [z])
 . unfold Builtin.«object.__getattribute__»
   repeat (first | (refine wpAny_typeLookup_exc cC cN PySem.F.excBase_Exception.mroIs Gs ?_;rw [no]) | (with_reducible refine wpAny_loadPart_at cx ?_;rw [oC]) | wp_step)
   split
   . exact absurd (by assumption) (EC _)
   . unfold instanceDict
     repeat (first | with_reducible refine wpAny_loadPart_at cC ?_ | (with_reducible refine wpAny_loadPart_at cx ?_;rw [oC]) | wp_step)
     rw [odx]
     repeat (first | (with_reducible refine wpAny_nsGet at_.ns ?_;rw [hv]) | wp_step)
     exact k
theorem Tq {expr:Bool} {Q:Value->Shared->Prop} (cC:h.get? C=some (excClassObj nm q C N bs gF true sn sub ab col dd k0 k1 k2 k3 k5 newId)) (cN:h.Ns N mN)
  (n1:mN "__getattribute__"=none) (n2:mN "__getattr__"=none) (no:mN name=none) (Gs:typeLookup (.type "Exception") name=pure none) (I:h.Inst x C mA) (hv:mA name=some v) (hh:handedOut v=pure v)
  (k:Q v ⟨h,g,d,t+1,os⟩):wpAny (model prog w) A (getAttr (.ref x) name expr) Q E ⟨h,g,d,t,os⟩:=by
 obtain ⟨o,cx,oC,_⟩:=id I;have bd:=PySem.F.attr_Exception.ga.bind (.ref x);have e0:(expr&&onTheHeap (Value.builtin "BaseException.__getattribute__"))=false:=by cases expr<;>rfl
 unfold getAttr getAttrBy
 repeat (first | (with_reducible refine wpAny_typeLookup_exc cC cN PySem.F.excBase_Exception.mroIs PySem.F.attr_Exception.ga.lookup ?_;rw [n1]) | (with_reducible refine wpAny_loadPart_at cx ?_;rw [oC]) | wp_step)
 repeat (first | (with_reducible refine wpAny_typeLookup_exc cC cN PySem.F.excBase_Exception.mroIs PySem.F.attrBase_Exception.noGetattr ?_;rw [n2]) | wp_step)
 refine codeAny_call_builtin PySem.F.attr_Exception.ga.plain F.entry_bexc_ga (wpAny_check_ga_own PySem.F.attrBase_Exception cC .base cx oC (Wj cC cN no Gs I hv ?_));show wpAny _ _ (handedOut v) _ _ _;rw [hh];exact wpAny_pure k
theorem L1 {tk:Tok} {o:Obj} {Q:Fin->Shared->Prop} (cC:h.get? C=some (excClassObj nm q C N bs gF true sn sub ab col dd k0 k1 k2 k3 k5 newId)) (cN:h.Ns N mN) (no:mN name=none)
   (Gs:typeLookup (.type "Exception") name=pure none) (cx:h.get? x=some o) (oC:o.cls=.ref C) (EC:∀ c,o.data ≠ .cls c) (od:o.dict=none)
   (k:∀ h' tk',h'.get? x=some { o with dict:=some h.objs.size }->h'.Ns1 h.objs.size (fun y=>if y=name then some v else none)->(∀ b u,b ≠ x->h.get? b=some u->h'.get? b=some u)->Q (.done (.ret .none)) ⟨h',g,d,tk',os⟩) :
   wpAny (model prog w) A (Builtin.«object.__setattr__» ⟨[.ref x,.str name tk,v],[]⟩) Q E ⟨h,g,d,t,os⟩:=by
 have ok:=PySem.F.store_Exception.passes (.ref x);have nx:h.objs.size ≠ x:=Nat.ne_of_gt (Heap.lt_size cx);have ou:({ o with dict:=some h.objs.size }:Obj).isFreed=false:=by
   have z:=(Heap.get?_some_iff.mp cx).2;obtain ⟨c,dc,dt,sl⟩:=o;cases dt<;>first | rfl | exact z
 unfold Builtin.«object.__setattr__»
 repeat (first | (rw [refuseLoop_ref,ok]) | rw [refuse_eq] | (refine wpAny_typeLookup_exc cC cN PySem.F.store_Exception.mro Gs ?_;rw [no]) | with_reducible refine wpAny_mroOf_exc cC ?_ | (with_reducible refine wpAny_loadPart_at cx ?_;rw [oC]) | wp_step)
 rw [od,if_neg (by simp [typeHasDict])];split
 . exact absurd (by assumption) (by intro q;cases q)
 . split
   . exact absurd (by assumption) (EC _)
   . refine wpAny_bind (wpAny_alloc' (wpAny_bind (wpAny_update' (Heap.get?_push_of_some _ cx) (wpAny_pure ?_))))
     show wpAny _ _ (storeInDict h.objs.size (.str name tk) name v) _ _ _;unfold storeInDict newKeyGuard;have em:((h.push { cls:=.type "dict",data:=.dict #[] }).update x fun o=>{ cls:=o.cls,dict:=some h.objs.size,data:=o.data,slots:=o.slots }).Ns h.objs.size (fun _=>none):=by
       refine ⟨{ cls:=.type "dict",data:=.dict #[] },#[],_,?_,rfl,fun e he=>absurd he (by simp),fun _=>rfl⟩;rw [oG _ nx];exact Heap.get?_push_size h rfl
     refine wpAny_bind (wpAny_pure (wpAny_bind (wpAny_nsSet1 (Heap.Ns1.of_empty em) fun h' n' sb=>?_)));obtain ⟨oD,esD,epD,aD,dD,cD⟩:=n'.count (Within.cons name v Within.nil);refine wpAny_bind (wpAny_lookBehind aD (by rw [dD];exact pastItsLine_dict (Nat.le_trans cD (by rw [sizeLine_eq];simp))) ?_)
     wp_walk
     refine k h' _ ?_ n' fun b u n z=>?_
     . rw [sb.2 x (Ne.symm nx)]
       exact Heap.get?_update_self _ (Heap.get?_push_of_some _ cx) ou
     . rw [sb.2 b (Nat.ne_of_lt (Heap.lt_size z)),oG _ n]
       exact Heap.get?_push_of_some _ z
theorem NS {tk:Tok} {o:Obj} {sa owner:String} {R:Result->Shared->Prop} (SF:StoreFacts "Exception" gF sa owner) (cC:h.get? C=some (excClassObj nm q C N bs gF true sn sub ab col dd k0 k1 k2 k3 k5 newId)) (cN:h.Ns N mN) (no:mN name=none)
  (Gs:typeLookup (.type "Exception") name=pure none) (cx:h.get? x=some o) (oC:o.cls=.ref C) (EC:∀ c,o.data ≠ .cls c) (od:o.dict=none)
  (k:∀ h' tk',h'.get? x=some { o with dict:=some h.objs.size }->h'.Ns1 h.objs.size (fun y=>if y=name then some v else none)->(∀ b u,b ≠ x->h.get? b=some u->h'.get? b=some u)->R (.ok (.ret .none)) ⟨h',g,d,tk',os⟩) :
  codeAny (model prog w) A (.call (.builtin sa) ⟨[.ref x,.str name tk,v],[]⟩) R ⟨h,g,d,t,os⟩:=by
 refine codeAny_call_builtin SF.slot.plain SF.entry (wpAny_check_sa SF cC cx oC ?_);exact L1 cC cN no Gs cx oC EC od k
theorem NT {o:Obj} {sa owner:String} {Q:Unit->Shared->Prop} (SF:StoreFacts "Exception" gF sa owner) (cC:h.get? C=some (excClassObj nm q C N bs gF true sn sub ab col dd k0 k1 k2 k3 k5 newId)) (cN:h.Ns N mN) (ns:mN "__setattr__"=none) (no:mN name=none)
  (Gs:typeLookup (.type "Exception") name=pure none) (cx:h.get? x=some o) (oC:o.cls=.ref C) (EC:∀ c,o.data ≠ .cls c) (od:o.dict=none)
  (k:∀ h' tk',h'.get? x=some { o with dict:=some h.objs.size }->h'.Ns1 h.objs.size (fun y=>if y=name then some v else none)->(∀ b u,b ≠ x->h.get? b=some u->h'.get? b=some u)->Q () ⟨h',g,d,tk',os⟩) :
  wpAny (model prog w) A (setAttr (.ref x) name v) Q E ⟨h,g,d,t,os⟩:=by
 have bd:=SF.slot.bind (.ref x);unfold setAttr callSpecial? specialOf
 repeat (any_goals (first | (with_reducible refine wpAny_typeLookup_exc cC cN SF.mro SF.slot.lookup ?_;rw [ns]) | (with_reducible refine wpAny_loadPart_at cx ?_;rw [oC]) | assumption | wp_step))
 refine NS SF cC cN no Gs cx oC EC od fun h' tk' x1 x2 x3=>?_;have z:=k h' tk' x1 x2 x3
 repeat (any_goals (first | assumption | wp_step))
end
end XL
namespace L2
open PySem PySem.Spec PyProof.Rows XL
def uW (P:Program) (w:World):Nr:=fun outer H s E e s'=>
 ∃ (a T:Addr) (C dx:Addr) (H':Hp),e=.ref a/\s'.os=s.os/\AllBare s'.gens/\Un (frs outer) [] H H' s.heap s'.heap/\wj P w H' s'.heap /\
   Nu s'.heap a (.ref C) (some dx) (some (T,.none))/\(∀ b ∈ [a,T],H' b=none/\s.heap.get? b=none)/\E (.ref C) (some dx) H'
structure Own (X:Cx):Prop where
 VE:X.stack=X.env::X.outer
 fr:X.env.frame=some X.env.locals
def Q8 (X:Cx) (pins:List (Addr×Obj)) (H:Hp) (l:List Addr):Prop:=∀ b ∈ l,H b=none/\X.BO.heap.get? b=none/\∀ p ∈ X.pn++pins,p.1 ≠ b
section
variable {X:Cx} {pins:List (Addr×Obj)} {σ:St} {H H':Hp} {s:Shared} {h':Heap} {a:Addr} {cls:Value} {dx:Option Addr} {E:Value->Shared->Prop} {Q:Unit->Shared->Prop}
theorem Inv.Yh {g':Array GenState} {t':Nat} {d':Drawn} {ch:List Addr} (I:Inv X pins σ H s)
   (hch:∀ b ∈ ch,X.BO.heap.get? b=none/\b ≠ X.env.locals/\(∀ x c,X.env.cells.lookup x=some c->c ≠ b)/\∀ p ∈ X.pn++pins,p.1 ≠ b)
   (keep:∀ b o,b ≠ X.env.locals->b ∉ X.fs->b ∉ ch->s.heap.get? b=some o->H b=none->h'.get? b=some o)
   (slot:∀ b o,b ≠ X.env.locals->b ∈ X.fs->b ∉ ch->s.heap.get? b=some o->H b=none->∃ sl,h'.get? b=some { o with slots:=sl })
   (there:∀ b o,b ∉ ch->s.heap.get? b=some o->∃ o',h'.get? b=some o')
   (ns:∀ m,s.heap.Ns X.env.locals m->h'.Ns X.env.locals m) (hok:wj X.prog X.w H h') (hg:AllBare g') :
   Inv X pins σ H { s with heap:=h',gens:=g',drawn:=d',toks:=t' }:=by
 have VF:∀ b o,X.BO.heap.get? b=some o->b ≠ X.env.locals:=fun b o e=>Nat.ne_of_lt (Nat.lt_of_lt_of_le (Heap.lt_size e) I.ok.above);have XT:∀ b o,X.BO.heap.get? b=some o->b ∉ ch:=fun b o e hb=>by rw [(hch b hb).1] at e;cases e
 have cellK:∀ x c,X.env.cells.lookup x=some c->∀ v,s.heap.IsCell c v->h'.IsCell c v:=fun x c e v ⟨o,ho,hd⟩=>by
   have XU:c ∉ ch:=fun z=>(hch c z).2.2.1 x c e rfl;by_cases hc:c ∈ X.fs
   . obtain ⟨sl,q⟩:=slot c o (I.V7 x c e) hc XU ho (I.kO x c e)
     exact ⟨_,q,hd⟩
   . exact ⟨o,keep c o (I.V7 x c e) hc XU ho (I.kO x c e),hd⟩
 refine ⟨I.ok,I.os,hg,⟨fun b o e n hb hx=>?_,fun b o e n hb hx=>?_,I.base.free,fun b o e hx=>?_,I.base.tups,I.base.z7,I.base.BP⟩,?_,fun x c e=>?_,I.free,I.kO,fun p hp=>?_,hok,I.len⟩
 . exact keep b o (VF b o e) hb (XT b o e) (I.base.keep b o e n hb hx) (I.base.free b o e n hx)
 . obtain ⟨sl,e1⟩:=I.base.slot b o e n hb hx
   obtain ⟨sl',e2⟩:=slot b _ (VF b o e) hb (XT b o e) e1 (I.base.free b o e n hx);exact ⟨sl',e2⟩
 . obtain ⟨o',e1⟩:=I.base.there b o e hx
   exact there b o' (XT b o e) e1
 . obtain ⟨m,hn,hl⟩:=I.loc
   refine ⟨m,ns m hn,fun i x v e1 e2 e3=>?_⟩;obtain ⟨u,r,l⟩:=hl i x v e1 e2 e3;refine ⟨u,r,?_⟩;rcases l with l | ⟨k,c,e,z⟩
   . exact .inl l
   . exact .inr ⟨k,c,e,cellK x c e _ z⟩
 . obtain ⟨v,z⟩:=I.cell x c e
   exact ⟨v,cellK x c e v z⟩
 . obtain ⟨e,n,ne,nf,d⟩:=I.pin p hp
   exact ⟨keep p.1 p.2 ne nf (fun z=>(hch p.1 z).2.2.2 p hp rfl) e n,n,ne,nf,d⟩
theorem Inv.apart (I:Inv X pins σ H s) {b:Addr} {o:Obj} {ws:Array Value} (ho:s.heap.get? b=some o) (hd:o.data=.fields ws):b ≠ X.env.locals/\∀ x c,X.env.cells.lookup x=some c->c ≠ b:=by
 refine ⟨fun q=>?_,fun x c e q=>?_⟩
 . obtain ⟨m,⟨ol,es,ep,hl,hdl,_⟩,_⟩:=I.loc
   rw [q,hl] at ho;cases ho;rw [hdl] at hd;cases hd
 . obtain ⟨v,oc,hc,hdc⟩:=I.cell x c e
   rw [q,ho] at hc;cases hc;rw [hd] at hdc;cases hdc
theorem L3 {h h':Heap} {L:Addr} {m:Str->Option Value} (k:∀ o,h.get? L=some o->∃ sl,h'.get? L=some { o with slots:=sl }) (n:h.Ns L m):h'.Ns L m:=by
 obtain ⟨o,es,ep,ho,hd,r⟩:=n;obtain ⟨sl,q⟩:=k o ho;exact ⟨_,es,ep,q,hd,r⟩
theorem Inv.Zk (I:Inv X pins σ H s) {b:Addr} (h:s.heap.get? b=none) (hx:X.ex=[]):X.BO.heap.get? b=none/\∀ p ∈ X.pn++pins,p.1 ≠ b:=by
 refine ⟨?_,fun p hp q=>?_⟩
 . cases q:X.BO.heap.get? b with
   | none=>rfl
   | some o=>
     obtain ⟨o',e⟩:=I.base.there b o q (by rw [hx];simp);rw [h] at e;cases e
 . have e:=(I.pin p hp).1
   rw [q,h] at e;cases e
theorem Inv.noted (I:Inv X pins σ H s) (W:Own X) (Q9:X.ex=[]) {t:Option (Addr×Value)} (hx:Nu s.heap a cls dx t) (hfl:∀ T fl,t=some (T,fl)->fl=.none\/fl=rawInt X.env.locals) (hH:Q8 X pins H (heads a t))
   (k:∀ h' T,Inv X pins σ H { s with heap:=h' }->Nu h' a cls dx (some (T,rawInt X.env.locals))->Q8 X pins H [a,T]->Q () { s with heap:=h' }) :
   wpAny (model X.prog X.w) X.A (noteFrame (.ref a) X.env) Q E s:=by
 have hst:=I.stack;have hfr:=I.ok.frames;have hfree:=I.IU;rw [W.VE] at hst hfr hfree;refine Wi hfr hst W.fr hx hfl fun h' T x1 x2 x3=>?_;have hL:X.env.locals ∈ (X.env::X.outer).filterMap (·.frame):=by rw [List.filterMap_cons,W.fr];exact List.mem_cons_self
 have hfs:∀ b,b ∈ (X.env::X.outer).filterMap (·.frame) ↔ b=X.env.locals\/b ∈ X.fs:=fun b=>by rw [List.filterMap_cons,W.fr];exact List.mem_cons
 have tr:∀ b u,H b=some u->b ∉ (X.env::X.outer).filterMap (·.frame)/\b ∉ heads a t:=fun b u e=>⟨fun m=>(by rw [hfree b m] at e;cases e),fun m=>(by rw [(hH b m).1] at e;cases e)⟩;have hok:wj X.prog X.w H h':=fun b u e=>(I.hok b u e).stay (fun c v hc q=>by
   have z:∃ w,H c=some w:=by
     rcases hc with hc | hc
     . exact ⟨u,hc ▸ e⟩
     . exact ⟨_,hc⟩
   obtain ⟨w',z⟩:=z;exact x3.keep c v (tr c w' z).1 (tr c w' z).2 q) (fun _ q=>q) fun _ _ q=>q
 have I':Inv X pins σ H { s with heap:=h' }:=by
   refine I.Yh (g':=s.gens) (t':=s.toks) (d':=s.drawn) (ch:=heads a t) (fun b hb=>?_) (fun b o n1 n2 n3 e _=>?_) (fun b o n1 n2 _ e _=>?_) (fun b o _ e=>x3.there b o e)
     (fun m hm=>L3 (fun o q=>x3.slot _ o hL q) hm) hok I.bare
   . obtain ⟨o,ws,ho,hd⟩:=hx.rec b hb
     obtain ⟨z1,z2⟩:=I.apart ho hd;exact ⟨(hH b hb).2.1,z1,z2,(hH b hb).2.2⟩
   . exact x3.keep b o (fun m=>by rcases (hfs b).mp m with q | q;exact n1 q;exact n2 q) n3 e
   . exact x3.slot b o ((hfs b).mpr (.inr n2)) e
 refine k h' T I' x1 fun b hb=>?_;rcases (show b=a\/b=T by simpa using hb) with q | q
 . rw [q];exact hH a Q5
 . rw [q]
   rcases x2 with m | m
   . exact hH T m
   . have z:=Heap.get?_none_of_le m
     obtain ⟨z1,z2⟩:=I.Zk z Q9;exact ⟨I.hok.fresh m,z1,z2⟩
theorem Inv.flown (I:Inv X pins σ H s) {T:Addr} {fl:Value} {fr:Option Addr} (hx:Nu s.heap a cls dx (some (T,fl))) (hN:Q8 X pins H [a,T])
   (k:∀ h',Inv X pins σ H { s with heap:=h' }->Nu h' a cls dx (some (T,fr.elim Value.none fun f=>rawInt f))->Q () { s with heap:=h' }) :
   wpAny (model X.prog X.w) X.A (setFlight (.ref a) fr) Q E s:=by
 obtain ⟨oT,ts,hoT,Sk⟩:=hx.rec T (by simp [heads]);obtain ⟨nT,zT,pT⟩:=hN T (by simp);refine Q6 hx fun h' x1 x2 x3 x4=>k h' ?_ x1;have ap:=I.apart hoT Sk;have kp:∀ b o,b ≠ T->s.heap.get? b=some o->h'.get? b=some o:=fun b o n e=>by rw [x2 b n];exact e
 have tr:∀ b u,H b=some u->b ≠ T:=fun b u e q=>by rw [q,nT] at e;cases e
 refine I.Yh (g':=s.gens) (t':=s.toks) (d':=s.drawn) (ch:=[T]) (fun b hb=>?_) (fun b o _ _ n e _=>kp b o (fun q=>n (by simp [q])) e) (fun b o _ _ n e _=>⟨o.slots,kp b o (fun q=>n (by simp [q])) e⟩)
   (fun b o n e=>⟨o,kp b o (fun q=>n (by simp [q])) e⟩) (fun m hm=>L3 (fun o q=>⟨o.slots,kp _ o (Ne.symm ap.1) q⟩) hm) (fun b u e=>?_) I.bare
 . rw [show b=T by simpa using hb]
   exact ⟨zT,ap.1,ap.2,pT⟩
 . refine (I.hok b u e).stay (fun c v hc q=>kp c v ?_ q) (fun _ q=>q) fun _ _ q=>q
   rcases hc with hc | hc
   . exact tr c u (hc ▸ e)
   . exact tr c _ hc
theorem Inv.back {P:Program} {w:World} {EX:XK} {e:Value} {s':Shared} (I:Inv X pins σ H s) (Q9:X.ex=[]) (h:uW X.prog X.w X.stack H s EX e s') :
  ∃ a T C dx H',e=.ref a/\Inv X pins σ H' s'/\Nu s'.heap a (.ref C) (some dx) (some (T,.none))/\Q8 X pins H' [a,T]/\EX (.ref C) (some dx) H':=by
 obtain ⟨a,T,C,dx,H',rfl,ho,hb,un,hok,x,hH,hE⟩:=h;obtain ⟨hh,g,d,tk,os⟩:=s';obtain rfl:os=s.os:=ho;refine ⟨a,T,C,dx,H',rfl,I.call (h':=hh) (g':=g) (d':=d) (t':=tk) (ch:=[]) un hok hb (fun b z=>absurd z (by simp)),x,fun b hb=>?_,hE⟩;obtain ⟨z1,z2⟩:=I.Zk (hH b hb).2 Q9;exact ⟨(hH b hb).1,z1,z2⟩
end
section
variable {P:Program} {w:World} {K:Zqq} {mg:Str->Option Value} {base:Heap} {N:List Str} {qual:Str} {scope:Scope} {f:Addr} {cd:Value} {A:Around} {outer:List Env} {s0:Shared} {H0:Hp} {E:XK}
theorem Zl:Own (vc (uW P w) P w K mg base N qual scope f cd A outer s0 H0 E):=⟨rfl,rfl⟩
theorem Tr {pins:List (Addr×Obj)} {σ:St} {H:Hp} {s:Shared} {a C dx:Addr} {t:Option (Addr×Value)} (I:Inv (vc (uW P w) P w K mg base N qual scope f cd A outer s0 H0 E) pins σ H s) (hx:Nu s.heap a (.ref C) (some dx) t)
  (hfl:∀ T fl,t=some (T,fl)->fl=.none) (hH:Q8 (vc (uW P w) P w K mg base N qual scope f cd A outer s0 H0 E) pins H (heads a t)) (hE:E (.ref C) (some dx) H) :
  (vc (uW P w) P w K mg base N qual scope f cd A outer s0 H0 E).xe (.ref a) s:=by
 show wpAny _ _ (leaving _ _) _ _ s;unfold leaving;refine wpAny_bind (I.noted Zl rfl hx (fun T fl e=>.inl (hfl T fl e)) hH fun h1 T I1 x1 nw=>?_);refine I1.flown (fr:=none) x1 nw fun h2 I2 x2=>?_;exact ⟨a,T,C,dx,H,rfl,I2.os,I2.bare,I2.base,I2.hok,x2,fun b hb=>⟨(nw b hb).1,(nw b hb).2.1⟩,hE⟩
theorem c7:Passes (uW P w) (vc (uW P w) P w K mg base N qual scope f cd A outer s0 H0 E) E:=by
 intro pins σ H s e s' I h;obtain ⟨a,T,C,dx,H',rfl,I',x,nw,hE⟩:=I.back (P:=P) (w:=w) rfl h;exact Tr I' x (fun T fl e=>by cases e;rfl) nw hE
theorem Jk:PassesOwn (model P w) (vc (uW P w) P w K mg base N qual scope f cd A outer s0 H0 E).A (vc (uW P w) P w K mg base N qual scope f cd A outer s0 H0 E).env (vc (uW P w) P w K mg base N qual scope f cd A outer s0 H0 E).xe:=PassesOwn.leaving
theorem kg.KZ {x qual:Str} {st:Stmt} {f:Addr} {fd:FuncData} {N ps:List Str} {k:Nat} {sp:Sp} (F:kg K x qual st f fd) (S:aQ N ps (aF st)) (len:∀ vs H Q E,sp vs H Q E->vs.length=ps.length)
   (hbody:∀ (cdv:Value) (A:Around) (outer:List Env) (s:Shared) (H:Hp) (vs:List V) (Q:VK) (E:XK),dG k (A.deeper (envOfC qual (aF st) s.heap.objs.size f cdv))->sp vs H Q E->
     ∃ t,Le (vc (uW P w) P w K mg base N qual (aF st) f cdv A outer s H E) (tE st) t/\t { nx:=fun _ H'=>Q .non H',rt:=Q } (start N vs) H):bF P w K mg base (uW P w) (k+1) f fd ps sp:=by
 obtain ⟨oc,od,kV,doc,pm,an,cdv,ct,osl,rfl,lk,hcd⟩:=F.ex;exact Yd lk hcd S len fun A outer s H vs Q E hr NG=>hbody cdv A outer s H vs Q E hr NG
end
theorem dZ.there {P:Program} {w:World} {H:Hp} {h:Heap} {a:Addr} {o:HO} (x:dZ P w H h a o):∃ ob,h.get? a=some ob:=by
 cases o with
 | lst xs=>obtain ⟨_,_,_,_,e⟩:=x;exact ⟨_,e⟩
 | tup xs=>obtain ⟨_,_,_,_,e,_⟩:=x;exact ⟨_,e⟩
 | dK kvs=>obtain ⟨_,_,_,_,o,_,_,e,_⟩:=x;exact ⟨_,e⟩
 | dT kvs=>obtain ⟨_,_,_,_,o,_,_,e,_⟩:=x;exact ⟨_,e⟩
 | set S n=>obtain ⟨o,_,_,_,e,_⟩:=x;exact ⟨_,e⟩
 | ins C dx fs=>obtain ⟨_,_,_,e,_⟩:=x;exact ⟨_,e⟩
 | own y=>exact x
 | xd fs=>obtain ⟨_,⟨_,_,_,e,_⟩,_⟩:=x;exact ⟨_,e⟩
 | XM lo hi=>obtain ⟨_,_,_,e⟩:=x;exact ⟨_,e⟩
 | qh ob u=>obtain ⟨e,_⟩:=x;exact ⟨_,e⟩
 | XN ps=>exact ⟨_,(show h.get? a=some _ from x)⟩
 | met f y=>exact ⟨_,(show h.get? a=some _ from x)⟩
 | ext φ=>obtain ⟨_,e,_⟩:=x;exact e
structure QA (K:Zqq) (C fI:Addr) (names:List Str):Prop where
 ex:∃ (nm q:Str) (N:Addr) (bs:List Value) (sn:List Str) (sub:List Value) (ab:Bool) (col:Option Bool) (dd:Option Addr) (k0 k1 k2 k3 k5:Option Value),
   K.lookup C=some (excClassObj nm q C N bs gF true sn sub ab col dd k0 k1 k2 k3 k5 "Exception.__new__")/\PySem.W.nsOkIn K N=true/\PySem.W.nsIn K N "__init__"=some (some (.ref fI))/\∀ x ∈ names,PySem.W.nsIn K N x=some none
 fn:PySem.W.isFn K (.ref fI)=true
 kp:PySem.W.keepIn K (.ref C)=true
 sa:PySem.W.findIn K (.ref C) "__setattr__"=some (some (.builtin "object.__setattr__"))
 ga:("__getattribute__":Str) ∈ names
 gh:("__getattr__":Str) ∈ names
 ss:("__setattr__":Str) ∈ names
theorem NU {K:Zqq} {h:Heap} {N:Addr} {m:Str->Option Value} {x:Str} {v:Value} (X:K.In h) (G:h.Ns N m) (e:PySem.W.nsIn K N x=some (some v)):m x=some v:=by
 obtain ⟨o,es,ep,ho,hd,_,hf⟩:=G;cases hk:K.lookup N with
 | none=>simp [PySem.W.nsIn,hk] at e
 | some ob=>
  have z:=X _ _ hk;rw [ho] at z;cases z;obtain ⟨c,dd,dt,sl⟩:=o;have hd:dt=.dict es ep:=hd;subst hd;simp only [PySem.W.nsIn,hk] at e;cases hq:es.toList.find? (·.key.isStr x) with
  | none=>rw [hq] at e;split at e<;>simp_all
  | some en=>
   rw [hq] at e;have e:en.val=v:=by simpa using e
   rw [<- hf];unfold nsFind findBy;rw [<- Array.find?_toList,hq];exact congrArg some e
theorem QA.at {K:Zqq} {C fI:Addr} {names:List Str} (c:QA K C fI names) {h:Heap} (X:K.In h) :
   ∃ (nm q:Str) (N:Addr) (bs:List Value) (sn:List Str) (sub:List Value) (ab:Bool) (col:Option Bool) (dd:Option Addr) (k0 k1 k2 k3 k5:Option Value) (mN:Str->Option Value),
     h.get? C=some (excClassObj nm q C N bs gF true sn sub ab col dd k0 k1 k2 k3 k5 "Exception.__new__")/\h.Ns N mN/\mN "__init__"=some (.ref fI)/\∀ x ∈ names,mN x=none:=by
 obtain ⟨nm,q,N,bs,sn,sub,ab,col,dd,k0,k1,k2,k3,k5,l,ok,hi,hn⟩:=c.ex;have G:h.Ns N (h.nsMap N):=.of_isNs (PySem.W.isNs_of_in X ok);exact ⟨nm,q,N,bs,sn,sub,ab,col,dd,k0,k1,k2,k3,k5,_,X _ _ l,G,NU X G hi,fun x hx=>PySem.W.ns_none_of X G (hn x hx)⟩
theorem QA.init {K:Zqq} {C fI:Addr} {names:List Str} (c:QA K C fI names) {h:Heap} (X:K.In h):∃ o,h.get? fI=some o/\o.cls=.type "function":=by
 have f:=c.fn;unfold PySem.W.isFn PySem.W.typeIn at f;dsimp only at f;cases hk:K.lookup fI with
 | none=>rw [hk] at f;simp at f
 | some o=>
  rw [hk] at f;exact ⟨o,X _ _ hk,by simpa using f⟩
def XO (a C:Addr) (d:Option Addr):HO:=.ext fun h=>∃ t,h.get? a=some ⟨.ref C,d,.fields #[.ref t,.none,.none,.none,.bool false,.none],#[]⟩
def XR (a C dx:Addr):HO:=.ext fun h=>∃ oe,h.get? a=some oe/\oe.cls=.ref C/\oe.dict=some dx/\∀ c,oe.data ≠ .cls c
section
variable {P:Program} {w:World} {H:Hp} {h:Heap} {a C dx:Addr} {d:Option Addr}
theorem XO.ok {t:Addr} (e:h.get? a=some ⟨.ref C,d,.fields #[.ref t,.none,.none,.none,.bool false,.none],#[]⟩):dZ P w H h a (XO a C d):=
 ⟨⟨t,e⟩,⟨_,e⟩,fun h1 h2 ⟨t,q⟩ k=>⟨t,k _ q⟩⟩
theorem XR.ok {oe:Obj} (e:h.get? a=some oe) (h1:oe.cls=.ref C) (h2:oe.dict=some dx) (h3:∀ c,oe.data ≠ .cls c):dZ P w H h a (XR a C dx):=
 ⟨⟨oe,e,h1,h2,h3⟩,⟨_,e⟩,fun g1 g2 ⟨o,q,r⟩ k=>⟨o,k _ q,r⟩⟩
end
def drop (H:Hp) (a:Addr):Hp:=fun b=>if b=a then none else H b
theorem DW {H:Hp} {a b:Addr} (h:b ≠ a):drop H a b=H b:=if_neg h
theorem Ca {H:Hp} {a:Addr}:drop H a a=none:=if_pos rfl
section
variable {X:Cx} {pins:List (Addr×Obj)} {σ:St} {H:Hp} {s:Shared} {a C dx fI:Addr} {names:List Str} {E:Value->Shared->Prop} {Q:Unit->Shared->Prop} {A:Around}
theorem Inv.dropped {φ:Heap->Prop} (I:Inv X pins σ H s) (e:H a=some (.ext φ)):Inv X pins σ (drop H a) s:=by
 have sub:∀ b u,drop H a b=some u->H b=some u/\b ≠ a:=fun b u q=>by
   by_cases z:b=a
   . rw [z,Ca] at q;cases q
   . rw [DW z] at q;exact ⟨q,z⟩
 have no:∀ b,H b=none->drop H a b=none:=fun b q=>by
   by_cases z:b=a
   . rw [z,Ca]
   . rw [DW z];exact q
 have kp:∀ b u,H b=some u->(∀ φ,u ≠ .ext φ)->drop H a b=some u:=fun b u q n=>by
   rw [DW (fun z=>by rw [z,e] at q;cases q;exact n φ rfl)];exact q
 refine ⟨I.ok,I.os,I.bare,⟨I.base.keep,I.base.slot,fun b o q n hx=>no b (I.base.free b o q n hx),I.base.there,fun b xs q=>kp b _ (I.base.tups b xs q) (fun _ z=>by cases z),fun b o u q=>kp b _ (I.base.z7 b o u q) (fun _ z=>by cases z),
   fun b ps q=>?_⟩,I.loc,I.cell,no _ I.free,fun x c q=>no c (I.kO x c q),fun p hp=>?_,fun b u q=>?_,I.len⟩
 . obtain ⟨more,z⟩:=I.base.BP b ps q
   exact ⟨more,kp b _ z (fun _ z=>by cases z)⟩
 . obtain ⟨z1,z2,z3⟩:=I.pin p hp
   exact ⟨z1,no _ z2,z3⟩
 . obtain ⟨q1,q2⟩:=sub b u q
   exact (I.hok b u q1).stay (fun _ _ _ z=>z) (fun c z=>kp c _ z (fun _ z=>by cases z)) fun c xs z=>kp c _ z (fun _ z=>by cases z)
theorem Inv.tracked {φ:Heap->Prop} (I:Inv X pins σ H s) (n:H a=none) (nw:X.BO.heap.get? a=none) (nl:a ≠ X.env.locals) (nc:∀ x c,X.env.cells.lookup x=some c->c ≠ a) (np:∀ p ∈ X.pn++pins,p.1 ≠ a)
   (ok:dZ X.prog X.w (upd H a (.ext φ)) s.heap a (.ext φ)):Inv X pins σ (upd H a (.ext φ)) s:=by
 have kp:∀ b u,H b=some u->upd H a (.ext φ) b=some u:=fun b u q=>by rw [aq (ay q n)];exact q
 have no:∀ b,H b=none->b ≠ a->upd H a (.ext φ) b=none:=fun b q z=>by rw [aq z];exact q
 refine ⟨I.ok,I.os,I.bare,⟨I.base.keep,I.base.slot,fun b o q m hx=>no b (I.base.free b o q m hx) (fun z=>by rw [z,nw] at q;cases q),I.base.there,fun b xs q=>kp b _ (I.base.tups b xs q),fun b o u q=>kp b _ (I.base.z7 b o u q),
   fun b ps q=>?_⟩,I.loc,I.cell,no _ I.free (Ne.symm nl),fun x c q=>no c (I.kO x c q) (nc x c q),fun p hp=>?_,fun b u q=>?_,I.len⟩
 . obtain ⟨more,z⟩:=I.base.BP b ps q
   exact ⟨more,kp b _ z⟩
 . obtain ⟨z1,z2,z3⟩:=I.pin p hp
   exact ⟨z1,no _ z2 (np p hp),z3⟩
 . by_cases z:b=a
   . subst z;rw [ai] at q;cases q;exact ok
   . rw [aq z] at q
     exact (I.hok b u q).stay (fun _ _ _ z=>z) (fun c z=>kp c _ z) fun c xs z=>kp c _ z
theorem L4 {fs:List (Str×V)} {mA:Str->Option Value} (r:∀ f,sW (fs.lookup f) (mA f)):PySem.Within mA (fs.map (·.1)):=fun f hf=>by
 cases q:fs.lookup f with
 | none=>
  have z:=r f
  rw [q] at z
  exact absurd (sW.none_of z) hf
 | some v=>exact List.mem_map.mpr ⟨(f,v),PySem.mem_of_lookup q,rfl⟩
theorem Zm {f:Str} {y:V} {u:Value} (I:Inv X pins σ H s) (c:QA X.K C fI names) (e:H a=some (XO a C none)) (hf:f ∈ names) (Gs:typeLookup (.type "Exception") f=pure none) (ry:RelV y u)
   (k:∀ dx s',H dx=none->Inv X pins σ (upd (upd H dx (.xd [(f,y)])) a (XO a C (some dx))) s'->Q () s'):wpAny (model X.prog X.w) A (setAttr (.ref a) f u) Q E s:=by
 obtain ⟨⟨t,ea⟩,_,_⟩:=(show dZ X.prog X.w H s.heap a (XO a C none) from I.hok a _ e);obtain ⟨nm,q,N,bs,sn,sub,ab,col,dd,k0,k1,k2,k3,k5,mN,cC,cN,_,hn⟩:=c.at I.z8;obtain ⟨hh,g,d,tk,os⟩:=s;have ea:hh.get? a=some ⟨.ref C,none,.fields #[.ref t,.none,.none,.none,.bool false,.none],#[]⟩:=ea;refine NT PySem.F.store_Exception cC cN (hn _ c.ss) (hn f hf) Gs ea rfl (fun _ z=>by cases z) rfl fun h' tk' x1 x2 x3=>?_;have nd:H hh.objs.size=none:=I.hok.fresh (Nat.le_refl _);have na:hh.objs.size ≠ a:=Nat.ne_of_gt (Heap.lt_size ea);refine k hh.objs.size _ nd (I.un (h':=h') (t':=tk') ⟨fun b o z n _ _=>x3 b o (fun w=>by rw [w,e] at n;cases n) z,fun b o z n _ _=>⟨o.slots,x3 b o (fun w=>by rw [w,e] at n;cases n) z⟩,fun b o z n _=>?_,fun b o z _=>?_,fun b xs z=>?_,fun b o v z=>?_,fun b ps z=>?_⟩ ?_)
 . rw [aq (fun w=>by rw [w,e] at n;cases n),aq (Nat.ne_of_lt (Heap.lt_size z))];exact n
 . by_cases w:b=a
   . rw [w];exact ⟨_,x1⟩
   . exact ⟨o,x3 b o w z⟩
 . rw [aq (fun w=>by rw [w,e] at z;cases z),aq (ay z nd)];exact z
 . rw [aq (fun w=>by rw [w,e] at z;cases z),aq (ay z nd)];exact z
 . exact ⟨#[],by rw [aq (fun w=>by rw [w,e] at z;cases z),aq (ay z nd),z];simp⟩
 . intro b v z
   by_cases wa:b=a
   . subst wa;rw [ai] at z;cases z;exact XO.ok x1
   . rw [aq wa] at z
     by_cases wd:b=hh.objs.size
     . subst wd
       rw [ai] at z;cases z;refine ⟨_,x2,fun g=>?_⟩;by_cases w:g=f
       . subst w;simp [sW];exact ry
       . rw [if_neg w]
         have:([(f,y)]:List (Str×V)).lookup g=none:=by
           rw [List.lookup_cons];have:(g==f)=false:=by simpa using w
           rw [this];rfl
         rw [this];trivial
     . rw [aq wd] at z
       refine (I.hok b v z).stay (fun c' v' hc q'=>x3 c' v' (fun w=>?_) q') (fun c' q'=>?_) fun c' xs q'=>?_
       . rcases hc with hc | hc
         . exact wa (hc ▸ w)
         . rw [w,e] at hc;cases hc
       . rw [aq (fun w=>by rw [w,e] at q';cases q'),aq (ay q' nd)];exact q'
       . rw [aq (fun w=>by rw [w,e] at q';cases q'),aq (ay q' nd)];exact q'
theorem Zn {f:Str} {y:V} {u:Value} {fs:List (Str×V)} (I:Inv X pins σ H s) (c:QA X.K C fI names) (e:H a=some (XO a C (some dx))) (ed:H dx=some (.xd fs)) (hl:fs.length < 1000) (hf:f ∈ names) (Gs:typeLookup (.type "Exception") f=pure none) (ry:RelV y u)
   (k:∀ s',Inv X pins σ (upd H dx (.xd (gf f y fs))) s'->Q () s'):wpAny (model X.prog X.w) A (setAttr (.ref a) f u) Q E s:=by
 obtain ⟨⟨t,ea⟩,_,_⟩:=(show dZ X.prog X.w H s.heap a (XO a C (some dx)) from I.hok a _ e);obtain ⟨mA,n1,rl⟩:=(show dZ X.prog X.w H s.heap dx (.xd fs) from I.hok dx _ ed);obtain ⟨nm,q,N,bs,sn,sub,ab,col,dd,k0,k1,k2,k3,k5,mN,cC,cN,_,hn⟩:=c.at I.z8;have da:dx ≠ a:=fun w=>by rw [w,e] at ed;cases ed
 have aC:a ≠ C:=fun w=>by rw [w,cC] at ea;cases ea
 obtain ⟨hh,g,d,tk,os⟩:=s;refine store_attr PySem.F.store_Exception cC cN (hn _ c.ss) (hn f hf) Gs aC ⟨_,ea,rfl,(fun _ z=>by cases z),.inr ⟨dx,rfl,da,n1⟩⟩ (fun h' tk' x1 x2 x3=>?_) (L4 rl) (by rw [List.length_map,sizeLine_eq];omega);obtain ⟨o1,y1,y2,y3,y4,y5⟩:=x3 _ ea;have y6:=y5 dx rfl;have eo:o1=⟨.ref C,some dx,.fields #[.ref t,.none,.none,.none,.bool false,.none],#[]⟩:=by
   obtain ⟨c1,d1,t1,s1⟩:=o1;dsimp only at y2 y3 y4 y6;rw [y2,y3,y4,y6]
 subst eo;have n2:h'.Ns1 dx (fun y'=>if y'=f then some u else mA y'):=by
   obtain ⟨o2,z1,z2,z3,z4⟩:=x1;rw [y1] at z1;cases z1;rcases z4 with ⟨z,_⟩ | ⟨d2,z,_,z5⟩
   . cases z
   . cases z;exact z5
 have kp:∀ b o,b ≠ dx->hh.get? b=some o->h'.get? b=some o:=fun b o nd z=>by
   by_cases w:b=a
   . rw [w] at z ⊢
     rw [ea] at z;cases z;exact y1
   . exact x2 b o w (fun o0 d0 q1 q2=>by rw [ea] at q1;cases q1;cases q2;exact nd) z
 have thr:∃ o,h'.get? dx=some o:=let ⟨o,_,_,z,_⟩:=n2;⟨o,z⟩;refine k _ (I.un (h':=h') (t':=tk') ⟨fun b o z n _ _=>kp b o (fun w=>by rw [w,ed] at n;cases n) z,fun b o z n _ _=>⟨o.slots,kp b o (fun w=>by rw [w,ed] at n;cases n) z⟩,fun b o z n _=>?_,fun b o z _=>?_,fun b xs z=>?_,fun b o v z=>?_,fun b ps z=>?_⟩ ?_)
 . rw [aq (fun w=>by rw [w,ed] at n;cases n)];exact n
 . by_cases w:b=dx
   . rw [w];exact thr
   . exact ⟨o,kp b o w z⟩
 . rw [aq (fun w=>by rw [w,ed] at z;cases z)];exact z
 . rw [aq (fun w=>by rw [w,ed] at z;cases z)];exact z
 . exact ⟨#[],by rw [aq (fun w=>by rw [w,ed] at z;cases z),z];simp⟩
 . intro b v z
   by_cases wd:b=dx
   . subst wd
     rw [ai] at z;cases z;refine ⟨_,n2,fun g=>?_⟩;rw [xq];by_cases w:g=f
     . rw [if_pos w,if_pos w];exact ry
     . rw [if_neg w,if_neg w];exact rl g
   . rw [aq wd] at z
     refine (I.hok b v z).stay (fun c' v' hc q'=>kp c' v' (fun w=>?_) q') (fun c' q'=>?_) fun c' xs q'=>?_
     . rcases hc with hc | hc
       . exact wd (hc ▸ w)
       . rw [w,ed] at hc;cases hc
     . rw [aq (fun w=>by rw [w,ed] at q';cases q')];exact q'
     . rw [aq (fun w=>by rw [w,ed] at q';cases q')];exact q'
theorem aaT {f:Str} {v:V} {b:Bool} {fs:List (Str×V)} {Q:Value->Shared->Prop} (I:Inv X pins σ H s) (c:QA X.K C fI names) (e:H a=some (XR a C dx)) (ed:H dx=some (.xd fs)) (l:fs.lookup f=some v) (hf:f ∈ names) (Gs:typeLookup (.type "Exception") f=pure none)
  (k:∀ u s',Inv X pins σ H s'->RelV v u->Q u s'):wpAny (model X.prog X.w) A (getAttr (.ref a) f b) Q E s:=by
 obtain ⟨⟨oe,ea,e1,e2,e3⟩,_,_⟩:=(show dZ X.prog X.w H s.heap a (XR a C dx) from I.hok a _ e);obtain ⟨mA,n1,rl⟩:=(show dZ X.prog X.w H s.heap dx (.xd fs) from I.hok dx _ ed);obtain ⟨nm,q,N,bs,sn,sub,ab,col,dd,k0,k1,k2,k3,k5,mN,cC,cN,_,hn⟩:=c.at I.z8;have da:dx ≠ a:=fun w=>by rw [w,e] at ed;cases ed
 obtain ⟨u,hu,ru⟩:=sW.some_of (v:=v) (o:=mA f) (by rw [<- l];exact rl f);obtain ⟨hh,g,d,tk,os⟩:=s;exact Tq cC cN (hn _ c.ga) (hn _ c.gh) (hn f hf) Gs ⟨oe,ea,e1,e3,.inr ⟨dx,e2,da,n1⟩⟩ hu (PySem.W.handedOut_of (HK ru)) (k u _ (I.tok _) ru)
end
section
variable {X:Cx} {C fI:Addr} {names:List Str} {o e value:Expr} {es:List Expr} {f:Str} {pos pos' np cpos:Pos} {ta tv:TE}
def sX0 (C:Addr) (ta tv:TE) (f:Str):TS:=fun D σ H=>tv σ H fun y H1=>ta σ H1 fun x H2=>∃ a,x=.ref a/\H2 a=some (XO a C none)/\∀ dx,H2 dx=none->D.nx σ (upd (upd H2 dx (.xd [(f,y)])) a (XO a C (some dx)))
def sX1 (C:Addr) (ta tv:TE) (f:Str):TS:=fun D σ H=>tv σ H fun y H1=>ta σ H1 fun x H2=>∃ a dx fs,x=.ref a/\H2 a=some (XO a C (some dx))/\H2 dx=some (.xd fs)/\fs.length < 1000/\D.nx σ (upd H2 dx (.xd (gf f y fs)))
theorem aaU (c:QA X.K C fI names) (ha:PE X o ta) (hv:PE X value tv) (hf:f ∈ names) (Gs:typeLookup (.type "Exception") f=pure none) (hs:swapsWith value (some (.Attribute o f pos')) pos.line X.env=pure false) :
  PS X (.Assign [.Attribute o f pos'] value pos) (sX0 C ta tv f):=by
 intro pins s σ H D I h;refine plainObj_wpAny_Assign_Attribute (ee (hv pins s σ H _ I h) fun u s1 ⟨y,H1,I1,ry,q⟩=>ee (ha pins s1 σ H1 _ I1 q) fun ov s2 ⟨x,H2,I2,rx,a,ex,e1,q2⟩=>?_) hs;subst ex;obtain rfl:ov=Value.ref a:=rx;exact Zm I2 c e1 hf Gs ry fun dx s3 nd I3=>⟨σ,_,I3,q2 dx nd⟩
theorem Yi (c:QA X.K C fI names) (ha:PE X o ta) (hv:PE X value tv) (hf:f ∈ names) (Gs:typeLookup (.type "Exception") f=pure none) (hs:swapsWith value (some (.Attribute o f pos')) pos.line X.env=pure false) :
  PS X (.Assign [.Attribute o f pos'] value pos) (sX1 C ta tv f):=by
 intro pins s σ H D I h;refine plainObj_wpAny_Assign_Attribute (ee (hv pins s σ H _ I h) fun u s1 ⟨y,H1,I1,ry,q⟩=>ee (ha pins s1 σ H1 _ I1 q) fun ov s2 ⟨x,H2,I2,rx,a,dx,fs,ex,e1,e2,l,q2⟩=>?_) hs;subst ex;obtain rfl:ov=Value.ref a:=rx;exact Zn I2 c e1 e2 l hf Gs ry fun s3 I3=>⟨σ,_,I3,q2⟩
def tXf (C:Addr) (ta:TE) (f:Str):TE:=fun σ H Q=>ta σ H fun x H1=>∃ a dx fs v,x=.ref a/\H1 a=some (XR a C dx)/\H1 dx=some (.xd fs)/\fs.lookup f=some v/\Q v H1
theorem Tu (c:QA X.K C fI names) (he:PE X e ta) (hf:f ∈ names) (Gs:typeLookup (.type "Exception") f=pure none) (hb:attributeBase e f X.env (eval e X.env)=eval e X.env):PE X (.Attribute e f pos) (tXf C ta f):=by
 intro pins s σ H Q I h;refine OO hb (ee (he pins s σ H _ I h) fun u s1 ⟨x,H1,I1,rx,a,dx,fs,v,ex,e1,e2,l,q⟩=>?_);subst ex;obtain rfl:u=Value.ref a:=rx;exact aaT I1 c e1 e2 l hf Gs fun u' s2 I2 ru=>⟨v,H1,I2,ru,q⟩
def Zo (C:Addr) (sp:Sp) (E:XK) (t:TA):TS:=fun _ σ H=>t σ H fun vs H1=>vs.length<=sizeLine/\∀ a,H1 a=none->
 sp (.ref a::vs) (upd H1 a (XO a C none)) (fun v H2=>v=.non/\∃ dx,H2 a=some (XO a C (some dx))/\E (.ref C) (some dx) (drop H2 a)) E0
def Raises (X:Cx) (E:XK):Prop:=∀ (pins:List (Addr×Obj)) (σ:St) (H:Hp) (s:Shared) (a C dx:Addr),Inv X pins σ H s->Nu s.heap a (.ref C) (some dx) none->Q8 X pins H [a]->E (.ref C) (some dx) H->X.xe (.ref a) s
theorem Tv {k:Nat} {fd:FuncData} {ps:List Str} {sp:Sp} {x:Str} {t:TA} {E:XK} (Q9:X.ex=[]) (c:QA X.K C fI names) (F:bF X.prog X.w X.K X.mg X.base m5 k fI fd ps sp) (hr:dG (k+1) X.A) (hg:Gl X x) (hm:X.mg x=some (.ref C))
  (hb:Binds X.K fd ps []) (hR:Raises X E) (ha:PA X (e::es) t) (hdb:(x==("__debug__":Str))=false:=by decide) (he:starEach (e::es) X.env=(false,eval e X.env)::starEach es X.env:=by rfl) (hpl:(backTo cpos (starEach es X.env)).any (·.1)=false:=by rfl) :
  PS X (.Raise (some (.Call (.Name x np) (e::es) [] cpos)) none pos) (Zo C sp E t):=by
 intro pins s σ H D I h;rw [arm_exec_Raise];obtain ⟨nm,q,N,bs,sn,sub,ab,col,dd,k0,k1,k2,k3,k5,mN,cC,_,_,_⟩:=c.at I.z8;refine wpAny_bind (wpAny_standAt (Q7 (C:=C) (nm:=nm) (q:=q) (N:=N) (bs:=bs) (bm:=gF) (hdct:=true) (sn:=sn) (sub:=sub) (ab:=ab) (col:=col) (dd:=dd) (k0:=k0) (k1:=k1) (k2:=k2) (k3:=k3) (k5:=k5) (newId:="Exception.__new__") (by decide) hr.hd ?_));refine wpAny_bind (ee (Q:=fun v s1=>∃ e t dx sl,v=.ref e/\s1.heap.get? C=some (excClassObj nm q C N bs gF true sn sub ab col dd k0 k1 k2 k3 k5 "Exception.__new__")/\s1.heap.get? e=some ⟨.ref C,dx,.fields #[.ref t,.none,.none,.none,.bool false,.none],sl⟩/\X.xe (.ref e) s1) ?_ fun v s1 z=>wpAny_bind (wpAny_standAt (wpAny_pure z)));refine wpAny_Call_Name_kw (yM I hg hm ?_ hdb);refine PySem.W.callWith_K (h₀:=X.base) I.ok.mod.kin c.kp (ee (ha cpos pins s σ H _ I h) fun us s1 ⟨vs,H1,I1,r,hz,q1⟩=>⟨I1.z8,?_⟩) he hpl;obtain ⟨nm',q',N',bs',sn',sub',ab',col',dd',k0',k1',k2',k3',k5',mN,cC1,cN,ci,hn⟩:=c.at I1.z8;have same:∀ s':Shared,X.K.In s'.heap->s'.heap.get? C=some (excClassObj nm q C N bs gF true sn sub ab col dd k0 k1 k2 k3 k5 "Exception.__new__"):=fun s' z=>by
  obtain ⟨_,_,_,_,_,_,_,_,_,_,_,_,_,_,l,_⟩:=c.ex;have z1:=I.z8 _ _ l;rw [cC] at z1;rw [Option.some.inj z1];exact z _ _ l
 obtain ⟨oI,fi,fc⟩:=c.init I1.z8;obtain ⟨hh,g,d,tk,os⟩:=s1;show wpAny _ _ (call (.ref C) us) _ _ _;refine wpAny_call_exc_init PySem.F.excBase_Exception cC1 cN ci fi fc (fun h' ea made=>?_) (by rw [<- r.length];exact hz);obtain ⟨t0,t1,t2,t3⟩:=made.there;have nH:H1 ea=none:=by
  cases z:H1 ea with
  | none=>rfl
  | some u=>
   obtain ⟨o,w⟩:=(I1.hok ea u z).there;have w':hh.get? ea=some o:=w;rw [made.new] at w';cases w'
 obtain ⟨nw,np⟩:=I1.Zk (b:=ea) made.new Q9;have e3:ea ≠ X.env.locals:=fun z=>by
  obtain ⟨m,⟨o,_,_,ho,_⟩,_⟩:=I1.loc;have ho':hh.get? X.env.locals=some o:=ho;rw [<- z,made.new] at ho';cases ho'
 have e4:∀ x c,X.env.cells.lookup x=some c->c ≠ ea:=fun x c hc z=>by
  obtain ⟨v,o,ho,_⟩:=I1.cell x c hc;have ho':hh.get? c=some o:=ho;rw [z,made.new] at ho';cases ho'
 have I2:Inv X pins σ H1 ⟨h',g,d,tk,os⟩:=I1.kept (h':=h') (t':=tk) made.keeps;have I3:Inv X pins σ (upd H1 ea (XO ea C none)) ⟨h',g,d,tk,os⟩:=I2.tracked nH nw e3 e4 np (XO.ok t1);have hq:=q1 ea nH;have r2:Vals (V.ref ea::vs) (Value.ref ea::us):=.cons rfl r;have hl:(Value.ref ea::us++[]).length=ps.length:=by
  rw [List.append_nil,<- r2.length];exact F.len _ _ _ _ hq
 have hbn:=hb _ (Value.ref ea::us) I3.z8 hl;rw [List.append_nil] at hbn;refine wpAny_call (codeAny_mono (F.run _ X.stack _ _ ⟨Value.ref ea::us,[]⟩ (Value.ref ea::us) _ _ E0 (hr.make C us []) (I3.VO.make C us []) hbn r2 hq) fun r s' hq'=>?_);cases r with
 | error e=>exact False.elim hq'
 | ok fl=>
  cases fl with
  | next=>exact False.elim hq'
  | brk=>exact False.elim hq'
  | cont=>exact False.elim hq'
  | ret u=>
   obtain ⟨v,H',I4,rv,ev,dx,ex,hE⟩:=I3.after hq';subst ev;obtain ⟨⟨tt,ea'⟩,_,_⟩:=(show dZ X.prog X.w H' s'.heap ea (XO ea C (some dx)) from I4.hok ea _ ex);have I5:=I4.dropped ex;refine ⟨rv,ea,tt,some dx,#[],rfl,same s' I4.z8,ea',?_⟩;exact hR pins σ _ s' ea C dx I5 ⟨_,_,ea',rfl,rfl,rfl,rfl⟩ (fun b hb=>by rw [show b=ea by simpa using hb];exact ⟨Ca,nw,np⟩) hE
end
section
variable {P:Program} {w:World} {K:Zqq} {mg:Str->Option Value} {base:Heap} {N:List Str} {qual:Str} {scope:Scope} {f:Addr} {cd:Value} {A:Around} {outer:List Env} {s0:Shared} {H0:Hp} {E:XK}
theorem Wl:Raises (vc (uW P w) P w K mg base N qual scope f cd A outer s0 H0 E) E:=fun pins σ H s a C dx I x nw hE=>Tr I x (fun _ _ z=>by cases z) nw hE
end
end L2
namespace HT
open PySem PyProof.Rows
def lexLe:List Int->List Int->Bool
 | [],_=>true
 | _::_,[]=>false
 | x::xs,y::ys=>if x=y then lexLe xs ys else decide (x<=y)
theorem ve (x y:Int) (xs ys:List Int):lexLe (x::xs) (y::ys)=if x=y then lexLe xs ys else decide (x<=y):=rfl
theorem Ic (ys:List Int):lexLe [] ys=true:=by cases ys<;>rfl
theorem ED (x:Int) (xs:List Int):lexLe (x::xs) []=false:=rfl
theorem Tw (A:Around) (s:Shared) (a:Int) (t:Tok) (c:Int) (u:Tok) (prog:Program) (w:World) (E:Value->Shared->Prop) (Q:Value->Shared->Prop) (h:Q (.bool (decide (a<=c))) s) :
  wpAny (model prog w) A (richCompare .LtE (.int a t) (.int c u)) Q E s:=
 (PyProof.Rows.le_int h:wpAny (model prog w) A (compareOp .LtE (.int a t) (.int c u)) Q E s)
section
open PySem.SeqAt
open PySem.AutoSeq1 (wpAny_loadPart')
open PySem.MeetsSeq PySem.MeetsSeq2 PySem.MeetsSeq3
theorem Gu (l b:Addr) (items items2:Array Value) (n n2:Nat) (dd dd2:Option Addr) (sl sl2:Array (Option Value)) (ns ms:List Int) (hi:IntsAre items.toList ns) (hj:IntsAre items2.toList ms) :
   Meets (Builtin.«tuple.__le__» ⟨[.ref l,.ref b],[]⟩)
     (fun _ R s=>s.heap.get? l=some { cls:=.type "tuple",dict:=dd,data:=.seq items n,slots:=sl }/\s.heap.get? b=some { cls:=.type "tuple",dict:=dd2,data:=.seq items2 n2,slots:=sl2 } /\
       R (.ok (.ret (.bool (lexLe ns ms)))) s):=
 .of_wp fun prog w A R s h=>by
   obtain ⟨hp,g,d,tk,os⟩:=s;obtain ⟨hl,hb,h⟩:=h
   have f2:=AutoSeq1.sub_tuple_tuple
   have z1:items.size=ns.length:=by rw [<- hi.length];simp
   have z2:items2.size=ms.length:=by rw [<- hj.length];simp
   wp_walk using wpAny_loadPart' hl,wpAny_loadPart' hb,wpAny_forIn_list _ (fun rest b s'=>b.1=none/\s'=⟨hp,g,d,tk,os⟩/\∃ (vs ws:List Value) (ns' ms':List Int),rest=vs.zip ws /\
     IntsAre vs ns'/\IntsAre ws ms'/\ns'.length+items2.size=ms'.length+items.size/\R (.ok (.ret (.bool (lexLe ns' ms')))) ⟨hp,g,d,tk,os⟩) _
   case turn=>
     rintro ⟨y,x⟩ rest b s' ⟨hb',rfl,vs,ws,ns',ms',hz,hvi,hwi,hlen,hR⟩
     cases hvi with
     | nil=>rw [List.zip_nil_left] at hz;cases hz
     | cons a t acy=>
       cases hwi with
       | nil=>rw [List.zip_nil_right] at hz;cases hz
       | cons c u hwi'=>
         rw [List.zip_cons_cons] at hz
         injection hz with hyx hrest
         injection hyx with hy hx
         subst hy hx
         rw [ve] at hR
         simp only [List.length_cons] at hlen
         obtain ⟨e,he,hiff⟩:=SK A.in1 ⟨hp,g,d,tk,os⟩ a t c u
         refine wpAny_bind (he prog w _ _ ?_)
         cases e with
         | true=>
           rw [if_pos (hiff.mp rfl)] at hR
           wp_walk
           exact ⟨rfl,rfl,_,_,_,_,hrest,acy,hwi',by omega,hR⟩
         | false=>
           rw [if_neg (fun q=>absurd (hiff.mpr q) Bool.false_ne_true)] at hR
           have hri:=Tw A.in1 ⟨hp,g,d,tk,os⟩ a t c u prog w
           wp_walk using hri
           exact ⟨_,rfl,by simpa using hR⟩
   case fin=>
     rintro ⟨b1,b2⟩ s' ⟨hb',rfl,vs,ws,ns',ms',hz,hvi,hwi,hlen,hR⟩
     simp only at hb'
     subst hb'
     have hv:lexLe ns' ms'=decide (items.size<=items2.size):=by
       cases hvi with
       | nil=>
         have:ms'.length=ms'.length:=rfl;simp only [List.length_nil] at hlen;rw [Ic];exact (decide_eq_true (by omega)).symm
       | cons a t hv=>
         cases hwi with
         | nil=>
           simp only [List.length_nil,List.length_cons] at hlen;rw [ED];exact (decide_eq_false (by omega)).symm
         | cons c u hw=>
           rw [List.zip_cons_cons] at hz;cases hz
     rw [hv] at hR
     wp_walk
     exact ⟨_,rfl,by simpa [Builtin.Tuple.tupleCompareSizes] using hR⟩
   case h=>
     exact ⟨rfl,rfl,items.toList,items2.toList,ns,ms,rfl,hi,hj,by omega,h⟩
end
section
variable {prog:Program} {w:World} {A:Around} {E:Value->Shared->Prop} {s:Shared}
theorem NV {l b:Addr} {items items2:Array Value} {ns ms:List Int} {Q:Value->Shared->Prop} (hl:IsTup s.heap l items) (hb:IsTup s.heap b items2) (hi:IntsAre items.toList ns) (hj:IntsAre items2.toList ms)
   (hu:A.units < cLine) (h:Q (.bool (lexLe ns ms)) s):wpAny (model prog w) A (compareOp .LtE (.ref l) (.ref b)) Q E s:=by
 obtain ⟨⟨cls,dd,data,sl⟩,ho,hc,n,hd⟩:=id hl;obtain ⟨⟨acP,dd2,data2,sl2⟩,ho2,hc2,n2,hd2⟩:=id hb;simp only at hc hd hc2 hd2;subst hc hd hc2 hd2;exact richCompare_meets_room (op:=.LtE) ⟨_,ho,rfl⟩ ⟨_,ho2,rfl⟩ PySem.F.slot_tuple_le PySem.F.entry_tuple_le (PySem.F.args_tuple_le_2 _ _) (Gu l b items items2 n n2 dd dd2 sl sl2 ns ms hi hj)
   ⟨ho,ho2,show Value.bool (lexLe ns ms) ≠ Value.notImplemented/\Q (.bool (lexLe ns ms)) s from ⟨(fun x=>nomatch x),h⟩⟩ hu
end
end HT
namespace L2
open PySem PySem.Spec PyProof.Rows XL
section
variable {X:Cx}
def acz (K:Zqq):R2:=fun x y H Q=>∃ a b ns ms,x=.ref a/\y=.ref b/\oj K H a (ns.map V.int)/\oj K H b (ms.map V.int)/\Q (.bl (HT.lexLe ns ms)) H
theorem Zp (hu:X.A.units < cLine):BR X (compareOp .LtE) (acz X.K):=by
 intro pins s σ H x y v u Q I rx ry h;obtain ⟨a,b,ns,ms,rfl,rfl,ha,hb,q⟩:=h;cases rx;cases ry;obtain ⟨its,r1,p1,_⟩:=I.tuple ha;obtain ⟨its2,r2,p2,_⟩:=I.tuple hb;have i1:IntsAre its.toArray.toList ns:=intsAre_of r1;have i2:IntsAre its2.toArray.toList ms:=intsAre_of r2;exact HT.NV p1 p2 i1 i2 hu ⟨.bl (HT.lexLe ns ms),H,I,rfl,q⟩
def Zq (i:Nat) (f:Addr) (sp:Sp) (E:XK) (t:TA):TE:=fun σ H Q=>σ[i]?=some (some (.ref f))/\t σ H fun vs H1=>sp vs H1 Q E
theorem L5 {CX:Nr} {k i:Nat} {f:Addr} {fd:FuncData} {ps:List Str} {sp:Sp} {E:XK} {x:Str} {p pos:Pos} {e:Expr} {es:List Expr} {t:TA} (F:bF X.prog X.w X.K X.mg X.base CX k f fd ps sp) (hr:dG k X.A)
  (hk:PySem.W.keepIn X.K (.ref f)=true) (hb:Binds X.K fd ps []) (hx:Passes CX X E) (ha:PA X (e::es) t) (hN:X.N[i]?=some x:=by rfl)
  (hv:YB X.env.scope x:=by first | exact Or.inl rfl | exact Or.inr (Or.inl rfl) | exact Or.inr (Or.inr rfl)) (hdb:(x==("__debug__":Str))=false:=by decide) (hcd:(x==("__classdict__":Str))=false:=by decide)
  (he:starEach (e::es) X.env=(false,eval e X.env)::starEach es X.env:=by rfl) (hpl:(backTo pos (starEach es X.env)).any (·.1)=false:=by rfl) :
  PE X (.Call (.Name x p) (e::es) [] pos) (Zq i f sp E t):=by
 intro pins s σ H Q I h;obtain ⟨h1,h⟩:=h;refine wpAny_Call_Name_kw (ee (Sn (X:=X) (i:=i) (x:=x) (pos:=p) hN hv hdb hcd pins s σ H (fun v H1=>v=.ref f/\H1=H) I ⟨_,h1,rfl,rfl⟩) fun u s1 ⟨v,H1,I1,rv,ev,eH⟩=>?_);subst ev eH;obtain rfl:u=Value.ref f:=rv;refine PySem.W.callWith_K (h₀:=X.base) I.ok.mod.kin hk (ee (ha pos pins s1 σ H1 _ I1 h) fun us s2 ⟨vs,H2,I2,r,q⟩=>⟨I2.z8,?_⟩) he hpl;exact Ez F hr hb .nil hx I2 r (by rw [List.append_nil];exact q)
end
structure CN (k:Nat) (A:Around):Prop where
 dp:A.depth+3 * k+5 < recursionLimit
 un:A.units+16 * k+200 < cLine
theorem CN.deeper {k:Nat} {A:Around} (r:CN (k+1) A) (env:Env):CN k (A.deeper env):=
 ⟨by have:=r.dp;show A.depth+1+3 * k+5 < _;omega,by have:=r.un;show A.units+3+16 * k+200 < _;omega⟩
theorem CN.depth {k:Nat} {A:Around} (r:CN k A):A.depth < recursionLimit:=by have:=r.dp;omega
structure Tz (P:Program) (w:World) (K:Zqq) (mg:Str->Option Value) (base:Heap) (k:Nat) (f:Addr) (fd:FuncData) (ps:List Str) (sp:Sp):Prop where
 len:∀ vs H Q E,sp vs H Q E->vs.length=ps.length
 run:∀ (A:Around) (outer:List Env) (s:Shared) (H:Hp) (args:Args) (us:List Value) (vs:List V) (Q:VK) (E:XK),CN k A->Ja P w K mg base A outer s H->BindsTo s fd args (ps.zip us)->Vals vs us->sp vs H Q E->
   codeAny (model P w) A (.call (.ref f) args) (CR m5 outer P w H s Q E) s
abbrev Cx.aaV (X:Cx):Cx:={ X with calm:=false }
theorem NW {P:Program} {w:World} {K:Zqq} {mg:Str->Option Value} {base:Heap} {N ps:List Str} {qual:Str} {scope:Scope} {f:Addr} {cd:Value} {A:Around} {outer:List Env} {s s1:Shared} {H:Hp} {E:XK} {us:List Value} {vs:List V}
  (S:aQ N ps scope) (e0:Ja P w K mg base A outer s H) (hl:vs.length=ps.length) (r:Vals vs us)
  (x:InCallC s s.heap.objs.size (bindL (envOfC qual scope s.heap.objs.size f cd).kindOf (ps.zip us) fun _=>none) (cellsFrom (s.heap.objs.size+1) scope.names []) (bindC (envOfC qual scope s.heap.objs.size f cd).kindOf (ps.zip us) fun _=>none) s1) :
  Inv (vc m5 P w K mg base N qual scope f cd A outer s H E).aaV [] (start N vs) H s1:=by
 have I:Inv (vc m5 P w K mg base N qual scope f cd { A with handled:=none } outer s H E) [] (start N vs) H s1:=HQ S rfl ⟨e0.frames,e0.mod,e0.bs,e0.Qi,e0.zd,e0.Sm,e0.hok,e0.bare⟩ hl r x;exact ⟨⟨I.ok.mod,I.ok.kind,I.ok.glob,I.ok.blt,I.ok.above,I.ok.inj,I.ok.has,I.ok.XS,(fun z=>Bool.noConfusion z),I.ok.frames,I.ok.VE,I.ok.YC,I.ok.bs,I.ok.Qi,I.ok.Lc,I.ok.Ld,I.ok.zd,I.ok.Sm⟩,I.os,I.bare,I.base,I.loc,I.cell,I.free,I.kO,I.pin,I.hok,I.len⟩
theorem Zr {P:Program} {w:World} {K:Zqq} {mg:Str->Option Value} {base:Heap} {k:Nat} {f:Addr} {name qual:Str} {params:Arguments} {body:List Stmt} {scope:Scope} {dV kV doc pm cdv ct oc:Value} {an od:Option Addr}
   {osl:Array (Option Value)} {N ps:List Str} {sp:Sp} (lk:K.lookup f=some ⟨oc,od,.func (PySem.W.fnOf name qual params body scope dV kV doc pm an cdv ct),osl⟩) (hcd:PySem.W.codeIn K cdv qual=true) (S:aQ N ps scope)
   (len:∀ vs H Q E,sp vs H Q E->vs.length=ps.length)
   (hbody:∀ (A:Around) (outer:List Env) (s:Shared) (H:Hp) (vs:List V) (Q:VK) (E:XK),CN k (A.deeper (envOfC qual scope s.heap.objs.size f cdv))->sp vs H Q E->
     ∃ t,Le (vc m5 P w K mg base N qual scope f cdv A outer s H E).aaV.nox body t/\t { nx:=fun _ H'=>Q .non H',rt:=Q } (start N vs) H) :
   Tz P w K mg base (k+1) f (PySem.W.fnOf name qual params body scope dV kV doc pm an cdv ct) ps sp:=by
 refine ⟨len,fun A outer s H args us vs Q E hr e0 hb r NG=>?_⟩;have hl:=len _ _ _ _ NG;have KX:K.In s.heap:=e0.mod.kin.keeps fun b o e=>(e0.bs b o e).1;have lim:s.heap.NoLimit:=e0.mod.nolimit.keeps fun b o e=>(e0.bs b o e).1;have hkind:∀ y ∈ ps.zip us,scope.names.lookup y.1=some .local\/(scope.names.lookup y.1=some .cell/\((cellsFrom (s.heap.objs.size+1) scope.names []).lookup y.1).isSome=true):=fun ⟨n,v⟩ hy=>by
   rcases S.par n (List.of_mem_zip hy).1 with q | q
   . exact .inl q
   . exact .inr ⟨q,PySem.W.cellsFrom_some _ _ _ (.inl q)⟩
 refine codeAny_call_function hr.depth (KX _ _ lk) rfl S.co S.gen rfl (PySem.W.codeRec_of KX hcd) (hb _ _ _ _ ?_);refine wpAny_newFunctionEnv_cells S.kind hkind fun env he s1 x=>?_;subst he;refine ⟨lim.keeps x.toInCall.keep,codeAny_func ?_⟩;obtain ⟨t,ht,hq⟩:=hbody A outer s H vs Q E (hr.deeper _) NG;have I:=NW (E:=E) S e0 hl r x;refine wpAny_mono (ht [] s1 (start N vs) H _ (I.Eo _) hq) (fun fl s' hs=>?_) fun e s' hs=>False.elim hs;cases fl with
 | ret u=>
   obtain ⟨v,σ',H',J,rv,q⟩:=hs;exact ⟨v,H',J.os,J.bare,J.base,J.hok,rv,q⟩
 | next=>
   obtain ⟨σ',H',J,q⟩:=hs;exact ⟨.non,H',J.os,J.bare,J.base,J.hok,rfl,q⟩
 | brk=>
   obtain ⟨_,_,_,q⟩:=hs;exact False.elim q
 | cont=>
   obtain ⟨_,_,_,q⟩:=hs;exact False.elim q
section
variable {X:Cx}
theorem T4 {k:Nat} {f:Addr} {fd:FuncData} {ps:List Str} {sp:Sp} {x:Str} {p pos:Pos} {e:Expr} {es:List Expr} {t:TA} (F:Tz X.prog X.w X.K X.mg X.base k f fd ps sp) (hr:CN k X.A) (hg:Gl X x) (hm:X.mg x=some (.ref f))
  (hk:PySem.W.keepIn X.K (.ref f)=true) (hb:Binds X.K fd ps []) (ha:PA X (e::es) t) (hdb:(x==("__debug__":Str))=false:=by decide)
  (he:starEach (e::es) X.env=(false,eval e X.env)::starEach es X.env:=by rfl) (hpl:(backTo pos (starEach es X.env)).any (·.1)=false:=by rfl):PE X (.Call (.Name x p) (e::es) [] pos) (SG sp [] E0 t):=by
 intro pins s σ H Q I h;refine wpAny_Call_Name_kw (yM I hg hm ?_ hdb);refine PySem.W.callWith_K (h₀:=X.base) I.ok.mod.kin hk (ee (ha pos pins s σ H _ I h) fun us s1 ⟨vs,H1,I1,r,q⟩=>⟨I1.z8,?_⟩) he hpl;have q:sp (vs++[]) H1 Q E0:=q;rw [List.append_nil] at q;have hl:(us++[]).length=ps.length:=by rw [List.append_nil,<- r.length];exact F.len _ _ _ _ q
 have hbn:=hb s1 us I1.z8 hl;rw [List.append_nil] at hbn;refine wpAny_call (codeAny_mono (F.run X.A X.stack s1 H1 ⟨us,[]⟩ us vs Q E0 hr I1.VO hbn r q) fun r s' hq=>?_);cases r with
 | error e=>exact False.elim hq
 | ok fl=>
  cases fl with
  | ret u=>exact I1.after hq
  | next=>exact False.elim hq
  | brk=>exact False.elim hq
  | cont=>exact False.elim hq
end
abbrev Cx.hand (X:Cx) (ea:Addr):Cx:={ X with A:=X.A.mark (some (.ref ea)),calm:=false,xe:=fun _ _=>False }
section
variable {X:Cx} {pins:List (Addr×Obj)} {σ:St} {H:Hp} {s:Shared}
theorem Inv.hand (I:Inv X pins σ H s) (ea:Addr):Inv (X.hand ea) pins σ H s:=
 ⟨⟨I.ok.mod,I.ok.kind,I.ok.glob,I.ok.blt,I.ok.above,I.ok.inj,I.ok.has,I.ok.XS,(fun z=>Bool.noConfusion z),I.ok.frames,I.ok.VE,I.ok.YC,I.ok.bs,I.ok.Qi,I.ok.Lc,I.ok.Ld,I.ok.zd,I.ok.Sm⟩,I.os,I.bare,I.base,I.loc,I.cell,I.free,I.kO,I.pin,I.hok,I.len⟩
theorem Inv.T5 {ea:Addr} {h':Heap} {t':Nat} {m':Str->Option Value} (ok:X.Ok) (hxe:X.ex=[]) (I:Inv (X.hand ea) pins σ H s) (n:h'.Ns X.env.locals m') (sb:Heap.SameBut X.env.locals s.heap h') :
   Inv X pins (List.replicate X.N.length none) H { s with heap:=h',toks:=t' }:=by
 have kp:∀ b o,b ≠ X.env.locals->s.heap.get? b=some o->h'.get? b=some o:=fun b o n q=>by rw [sb.2 b n];exact q
 have VF:∀ b o,X.BO.heap.get? b=some o->b ≠ X.env.locals:=fun b o e=>Nat.ne_of_lt (Nat.lt_of_lt_of_le (Heap.lt_size e) ok.above);have fr:H X.env.locals=none:=I.free;refine ⟨ok,I.os,I.bare,⟨fun b o e n hb hx=>kp b o (VF b o e) (I.base.keep b o e n hb hx),fun b o e n hb hx=>?_,I.base.free,fun b o e hx=>?_,I.base.tups,I.base.z7,I.base.BP⟩,⟨m',n,fun i x v _ e2 _=>?_⟩,fun x c e=>?_,I.free,I.kO,fun p hp=>?_,fun b u e=>?_,by simp⟩
 . obtain ⟨sl,q⟩:=I.base.slot b o e n hb hx
   exact ⟨sl,kp b _ (VF b o e) q⟩
 . obtain ⟨o',q⟩:=I.base.there b o e hx
   exact ⟨o',kp b o' (VF b o e) q⟩
 . rw [List.getElem?_replicate] at e2
   split at e2<;>cases e2
 . obtain ⟨v,o,ho,hd⟩:=I.cell x c e
   exact ⟨v,o,kp c o (I.V7 x c e) ho,hd⟩
 . obtain ⟨z1,z2,z3,z4⟩:=I.pin p hp
   exact ⟨kp _ _ z3 z1,z2,z3,z4⟩
 . refine (I.hok b u e).stay (fun c v hc q=>kp c v (fun z=>?_) q) (fun _ q=>q) fun _ _ q=>q
   rcases hc with hc | hc
   . rw [z] at hc;rw [<- hc,fr] at e;cases e
   . rw [z,fr] at hc;cases hc
end
abbrev Cx.QB (X:Cx) (pn:List (Addr×Obj)) (Z:Value->Shared->Prop):Cx:={ X with pn:=pn,xe:=Z }
def Wm (X:Cx) (pn:List (Addr×Obj)) (Z:Value->Shared->Prop) (E:XK):Prop:=Passes (uW X.prog X.w) (X.QB pn Z) E
section
variable {X:Cx} {pins Yj:List (Addr×Obj)} {σ:St} {H:Hp} {s:Shared} {Z:Value->Shared->Prop}
theorem Inv.QB (I:Inv X pins σ H s):Inv (X.QB (X.pn++pins) Z) [] σ H s:=
 ⟨⟨I.ok.mod,I.ok.kind,I.ok.glob,I.ok.blt,I.ok.above,I.ok.inj,I.ok.has,I.ok.XS,I.ok.hd,I.ok.frames,I.ok.VE,I.ok.YC,I.ok.bs,I.ok.Qi,I.ok.Lc,I.ok.Ld,I.ok.zd,I.ok.Sm⟩,I.os,I.bare,I.base,I.loc,I.cell,I.free,I.kO,
   fun p hp=>I.pin p (by simpa using hp),I.hok,I.len⟩
theorem Inv.L6 (ok:X.Ok) (I:Inv (X.QB (X.pn++pins) Z) Yj σ H s):Inv X pins σ H s:=
 ⟨ok,I.os,I.bare,I.base,I.loc,I.cell,I.free,I.kO,fun p hp=>I.pin p (List.mem_append_left _ hp),I.hok,I.len⟩
end
section
variable {X:Cx} {C fI:Addr} {names:List Str} {xc n:Str} {np hpos pos:Pos} {body suite:List Stmt} {b0:Stmt} {tb th:TS} {E:XK} {i:Nat} {Qr:VK}
def ac0 (tb:TS) (Qr:VK):TS:=fun D σ H=>(∀ v H',Qr v H'->D.rt v H')/\tb D σ H
theorem Zs (W:Own X) (Q9:X.ex=[]) (hN:X.N.Nodup) (c:QA X.K C fI names) (hg:Gl X xc) (hm:X.mg xc=some (.ref C)) (hi:X.N[i]?=some n) (hl:X.env.kindOf n=some .local) (Zt:X.env.scope.names.lookup n=some .local)
   (hb:∀ pn Z,Wm X pn Z E->Le (X.QB pn Z) body tb) (hs:∀ ea,Le (X.hand ea) (b0::suite) th)
   (hE:∀ C' dx H,E C' (some dx) H->C'=.ref C/\∀ a,H a=none->th { nx:=fun _ _=>False,rt:=Qr } ((List.replicate X.N.length none).set i (some (.ref a))) (upd H a (XR a C dx))) (hdb:(xc==("__debug__":Str))=false:=by decide) :
   PS X (.Try body [.ExceptHandler (some (.Name xc np)) (some n) (b0::suite) hpos] [] [] pos) (ac0 tb Qr):=by
 intro pins s σ H D I h;obtain ⟨hQ,h⟩:=h;have okX:=I.ok;have hcls:(X.env.scope.kind==.class||(X.env.scope.kind==.module&&X.env.locals != X.env.globals))=false:=by rw [I.ok.kind];rfl
 refine wpAny_Try_except (wpAny_mono (hb (X.pn++pins) (fun e s1=>wpAny (model X.prog X.w) X.A (noteFrame e X.env) (fun _ s2=>wpAny (model X.prog X.w) X.A (setFlight e none) (fun _ s3=>
   wpAny (model X.prog X.w) X.A (handleBy e X.env [.ExceptHandler (some (.Name xc np)) (some n) (b0::suite) hpos]) (SP X pins D) X.xe s3) X.xe s2) X.xe s1) ?_ [] s σ H D I.QB h) (fun f s1 q=>?_) fun e s1 q=>q)
 rotate_left
 . cases f with
   | next=>obtain ⟨σ',H',I',q⟩:=q;exact wpAny_execs_nil ⟨σ',H',I'.L6 okX,q⟩
   | ret u=>obtain ⟨v,σ',H',I',r,q⟩:=q;exact ⟨v,σ',H',I'.L6 okX,r,q⟩
   | brk=>obtain ⟨σ',H',I',q⟩:=q;exact ⟨σ',H',I'.L6 okX,q⟩
   | cont=>obtain ⟨σ',H',I',q⟩:=q;exact ⟨σ',H',I'.L6 okX,q⟩
 intro Yj σ1 H1 s1 e s2 I1 hx;have I1':Inv X pins σ1 H1 s1:=I1.L6 okX;obtain ⟨a,T,C',dx,H',rfl,I2,x2,nw,hE2⟩:=I1'.back (P:=X.prog) (w:=X.w) Q9 hx;obtain ⟨eC,hsuite⟩:=hE _ _ _ hE2;cases eC;show wpAny _ _ (noteFrame (.ref a) X.env) _ _ s2;refine I2.noted W Q9 x2 (fun T fl e=>by cases e;exact .inl rfl) nw fun h3 T3 I3 x3 nw3=>?_;refine I3.flown (fr:=none) x3 nw3 fun h4 I4 x4=>?_;have J4:=I4.hand a;obtain ⟨nm,q,N,bs,sn,sub,ab,col,dd,k0,k1,k2,k3,k5,mN,cC,_,_,_⟩:=c.at I4.z8;obtain ⟨oe,vs,ce,e1,e2,e3,_⟩:=id x4;refine wpAny_handleBy_cons (codeAny_handlers_test (yM (X:=X.hand a) J4 hg hm ?_ hdb)) (by intro q;cases q);refine wpAny_excMatches_sub_self cC ce e1 (by decide) ?_;refine codeAny_handlers_suite_as ?_;refine Inv.flown (X:=X.hand a) (fr:=none) J4 x4 nw3 fun h5 J5 x5=>?_;obtain ⟨oe5,vs5,ce5,d1,d2,d3,_⟩:=id x5;obtain ⟨nl,nc⟩:=J5.apart ce5 d3;obtain ⟨nH,nz,np'⟩:=nw3 a (by simp);refine BQ (X:=X.hand a) J5 hN hi (.inl Zt) (v:=.ref a) rfl (fun s6 J6 ⟨ad,sb,hor⟩=>?_) (.inr Zt);have ne6:a ≠ ad:=fun z=>by
   rcases hor with w | w
   . exact nl (z.trans w)
   . exact nc _ _ w z.symm
 have ce6:s6.heap.get? a=some oe5:=by rw [sb.2 a ne6];exact ce5
 have hiN:i < X.N.length:=(Zqz hi);have J6':Inv (X.hand a) pins ((List.replicate X.N.length none).set i (some (.ref a))) H' s6:=J6.weak (by
   have:=J5.len;simp only [List.length_set,List.length_replicate];exact this.symm) fun j v ej=>by
     by_cases z:j=i
     . subst z
       rw [List.getElem?_set_self (by simpa using hiN)] at ej;have hl5:σ1.length=X.N.length:=J5.len;rw [List.getElem?_set_self (by rw [hl5];exact hiN)];exact ej
     . rw [List.getElem?_set_ne (Ne.symm z),List.getElem?_replicate] at ej
       split at ej<;>cases ej
 have J7:=J6'.tracked (a:=a) nH nz nl nc np' (XR.ok (dx:=dx) ce6 d1 d2 fun cc z=>by rw [d3] at z;cases z);refine wpAny_mono (hs a pins s6 _ _ _ J7 (hsuite a nH)) (fun f s7 q=>?_) fun _ _ z=>z.elim;cases f with
 | ret u=>
   obtain ⟨v,σ7,H7,J8,rv,qv⟩:=q;obtain ⟨m,hn,_⟩:=J8.loc;refine wpAny_nameGoes (env:=X.env) hl hn hcls fun h9 m9 n9 sb9=>?_;exact ⟨v,_,H7,J8.T5 okX Q9 n9 sb9,rv,hQ _ _ qv⟩
 | next=>obtain ⟨_,_,_,q⟩:=q;exact q.elim
 | brk=>obtain ⟨_,_,_,q⟩:=q;exact q.elim
 | cont=>obtain ⟨_,_,_,q⟩:=q;exact q.elim
end
structure Yk (K:Zqq) (C:Addr) (m:Str) (f:Addr):Prop where
 sp:PySem.W.specialIn K (.ref C) "__getattribute__"=some (some (.builtin "type.__getattribute__"))
 rd:PySem.W.readsIn K C (.type "type")=true
 fc:PySem.W.findCls K (.ref C) (.type "type") m=some (.val (.ref f))
 kp:PySem.W.keepIn K (.ref f)=true
section
variable {X:Cx} {CX:Nr} {k:Nat} {C f:Addr} {fd:FuncData} {ps:List Str} {sp:Sp} {E:XK} {x m:Str} {p apos pos:Pos} {e:Expr} {es:List Expr} {t:TA}
theorem T6 {pl:Sem Bool} (hg:Gl X x) (hm:X.mg x=some (.ref C)) (c:Yk X.K C m f) (F:bF X.prog X.w X.K X.mg X.base CX k f fd ps sp) (hr:dG k X.A) (hb:Binds X.K fd ps []) (hx:Passes CX X E) (ha:PA X (e::es) t)
   (hdb:(x==("__debug__":Str))=false:=by decide) (hst:starEach (e::es) X.env=(false,eval e X.env)::starEach es X.env:=by rfl) (hpl:(backTo pos (starEach es X.env)).any (·.1)=false:=by rfl)
   (ht:eval (.Call (.Attribute (.Name x p) m apos) (e::es) [] pos) X.env=(do
     let ov <- eval (.Name x p) X.env
     standAt apos.atName
     let (f,first) <- holding [ov] (getMethod ov m pl)
     callWith pos f first (backTo pos (starEach (e::es) X.env)) (backToKw pos (keywordEach [] X.env))):=by rfl) :
   PE X (.Call (.Attribute (.Name x p) m apos) (e::es) [] pos) (SG sp [] E t):=by
 intro pins s σ H Q I h;refine PySem.W.methodCall_KW (pl:=pl) (ee (aU (X:=X) (x:=x) (v:=.ref C) (pos:=p) hg hm rfl hdb pins s σ H (fun v H1=>v=.ref C/\H1=H) I ⟨rfl,rfl⟩) fun u s1 ⟨v,H1,I1,rv,ev,eH⟩=>?_) ht;subst ev eH;obtain rfl:u=Value.ref C:=rv;refine PySem.W.method_cls I1.z8 c.sp (PySem.W.cls_value I1.z8 c.rd c.fc rfl ?_);have I2:=I1.tok (s1.toks+1);refine PySem.W.callWith_K (first:=[]) (h₀:=X.base) I.ok.mod.kin c.kp (ee (ha pos pins _ σ H1 _ I2 h) fun us s2 ⟨vs,H2,I3,r,q⟩=>⟨I3.z8,?_⟩) hst hpl;exact Ez F hr hb .nil hx I3 r q
end
def Yl (p:Addr) (Q:VK) (ps:List (V×V)) (H2:Hp):Prop:=H2 p=some (.dT [])/\∃ (k:List Key) (b:Addr) (y:V),ps=[(.ref b,y)]/\H2 b=some (.tup (k.map kV))/\Q (.ref p) (upd H2 p (.dT [(k,y)]))
def Zu (tk tv:TE):TE:=fun σ H Q=>∀ p,H p=none->tk σ (upd H p (.dT [])) fun x H1=>tv σ H1 fun y H2=>Yl p Q [(x,y)] H2
theorem T7 {X:Cx} {pos:Pos} {e v:Expr} {tk tv:TE} (hu:X.A.units+1 < cLine) (hk:PE X e tk) (hv:PE X v tv):PE X (.Dict [some e] [v] pos) (Zu tk tv):=by
 intro pins s σ H Q I q;have hn:=I.hok.fresh (Nat.le_refl s.heap.objs.size);have I1:=I.laid (a:=s.heap.objs.size) (o:=.dT []) (h':=s.heap.push { cls:=.type "dict",data:=.dict #[] }) (t':=s.toks) (fun _ _ q=>Heap.get?_push_of_some _ q) (Nat.le_refl _) (Lu s.heap I.big);have pp:=Lw (pos:=pos) hk hv OZ;refine wpAny_Dict_any rfl rfl (by simp) (by simp) (ee (pp pins _ σ _ (Yl s.heap.objs.size Q) I1 (q _ hn)) fun ws s2 ⟨ps,H2,I2,rel,e2,k,b,y,ep,eb,q2⟩=>?_);subst ep;cases rel with
 | @cons p' w' as bs h t=>
   cases t;obtain ⟨w1,w2⟩:=w';obtain ⟨h1,h2⟩:=h;cases (show w1=Value.ref b from h1);obtain ⟨z,hd,xs,rl,dd⟩:=OY I2.hok e2;cases rl;unfold storeAll;rw [List.forIn_cons];refine wpAny_bind (wpAny_bind (wpAny_dictSet_heap (hsz:=Nat.zero_le _) (knd:=tupleKind (fL X.prog X.w)) ?_ (x8 I2.hok eb) dd fun h' dd' hs=>wpAny_pure ?_))
   . exact (by show X.A.units < cLine;omega)
   . show wpAny _ _ (forIn [] PUnit.unit _) _ _ _
     rw [List.forIn_nil];refine wpAny_pure ⟨.ref s.heap.objs.size,_,?_,rfl,q2⟩;obtain ⟨q,es,ep,hq,g2,g3,g4,_,g5⟩:=dd';refine Av I2 (by rw [e2];exact True.intro) hs ⟨q,hq⟩ ⟨by show 1<=sizeLine;decide,hd,[(k,b,w2)],.cons ⟨rfl,?_,h2⟩ .nil,q,es,ep,hq,g2,g3,g4,g5⟩;rw [aq (ni eb e2 (fun z=>nomatch z))];exact eb
end L2
namespace L2
open PySem
section
variable {Pr:Program} {Wd:World} {Kt:Type} [DecidableEq Kt] {hk:HeapKind Pr Wd Kt} {Ar:Around} {Er:Value->Shared->Prop} {st:Shared}
theorem QC {tab b:Addr} {rows:List (Kt×Addr×Value)} {key:Kt} {z:Value} {Qd:Value->Shared->Prop} (room:hk.room Ar) (isk:hk.is st.heap key b) (m:st.heap.DictOfH hk tab rows) (size:rows.length<=sizeLine)
   (old:∀ p,atKey rows key=some p->Qd p.2 { st with toks:=st.toks+hk.draws key })
   (fresh:atKey rows key=none->∀ hp,hp.DictOfH hk tab (storedH rows key b z)->Heap.SameBut tab st.heap hp->Qd z { st with heap:=hp,toks:=st.toks+hk.draws key }) :
   wpAny (model Pr Wd) Ar (dictSetDefault tab (.ref b) z) Qd Er st:=by
 obtain ⟨ob,ents,era,g1,g2,g3,g4,g5,g6⟩:=m;unfold dictSetDefault
 first | (with_reducible refine wpAny_holding ?_) | skip
 refine wpAny_bind (hk.pyHash room isk (wpAny_bind (wpAny_dictFind_heap (s:={ st with toks:=st.toks+hk.draws key }) room isk g1 g3 g4 g5 g6 (fun EE=>?_) (fun j p aaW=>?_))))
 . have nk:=atKey_none_of_get EE
   have stays:∀ {u:Kt} {c:Addr} {fo:Obj->Obj},hk.is st.heap u c->hk.is (st.heap.update tab fo) u c:=fun {u c fo} q=>hk.keeps q g1 g3 (Heap.SameBut.update ..);refine wpAny_bind (wpAny_rule (wpAny_bind (wpAny_updateDictKeys (s:={ st with toks:=st.toks+hk.draws key }) (hz:=by rw [size_of_entries g4];exact size) g1 g3 (wpAny_pure (fresh nk _ ?_ (Heap.SameBut.update ..))))));rw [storedH_new nk];refine ⟨_,_,era+1,Heap.get?_update_self _ g1 (Obj.isFreed_of_dict (Obj.data_mapDictKeys g3 _)),g2.mapDictKeys _,Obj.data_mapDictKeys g3 _,by simp [g4,entryOfKey],fun e he=>?_,?_⟩
   . rcases List.mem_append.mp he with a1 | a1
     . exact stays (g5 e a1)
     . rw [List.mem_singleton.mp a1]
       exact stays isk
   . have VA:=not_mem_keys_of_get EE
     simp only [List.map_append,List.map_cons,List.map_nil,List.nodup_append,List.mem_singleton];exact ⟨g6,by simp,fun c hc c' hc' same=>VA (hc' ▸ same ▸ hc)⟩
 . refine wpAny_bind (wpAny_dictEntries (s:={ st with toks:=st.toks+hk.draws key }) g1 g3 (?_))
   rw [entry_at g4 j,aaW];exact wpAny_bind (wpAny_rule (wpAny_pure (old p (atKey_of_get g6 aaW))))
theorem NX (hk:HeapKind Pr Wd Kt) (tab b:Addr) (plain:(tab==sysModules)=false) (z:Value) :
   MeetsIn Pr Wd (Builtin.«dict.setdefault» ⟨[.ref tab,.ref b,z],[]⟩) (fun Ar Rs st=>hk.room Ar.in1/\∃ key rows,hk.is st.heap key b/\st.heap.DictOfH hk tab rows/\rows.length<=sizeLine/\st.TypeIs (.ref tab) "dict" /\
     (∀ p,atKey rows key=some p->Rs (.ok (.ret p.2)) { st with toks:=st.toks+hk.draws key }) /\
     (atKey rows key=none->∀ hp,hp.DictOfH hk tab (storedH rows key b z)->Heap.SameBut tab st.heap hp->Rs (.ok (.ret z)) { st with heap:=hp,toks:=st.toks+hk.draws key })):=
 .of_wp fun Ar Rs st ⟨room,key,rows,isk,m,size,ty,old,fresh⟩=>by
   unfold Builtin.«dict.setdefault» Builtin.Dict.keyAndDefault
   refine wpAny_bind (wpAny_bind (wpAny_notOrdered_dict ty (wpAny_pure (α:=Addr×Value×Option Value) (a:=(tab,Value.ref b,some z)) ?_)))
   show wpAny _ _ (if (tab==sysModules)=true then _ else (dictSetDefault tab (.ref b) z >>= _)) _ _ st
   rw [plain,if_neg (by decide)]
   exact wpAny_bind (QC room isk m size (fun p q=>wpAny_pure ⟨p.2,rfl,old p q⟩) (fun q hp q1 q2=>wpAny_pure ⟨z,rfl,fresh q hp q1 q2⟩))
end
end L2
namespace L2
open PySem PySem.Spec PyProof.Rows
section
variable {X:Cx} {o e f:Expr} {apos cpos:Pos} {td ty tx:TE}
def Zv (td ty tx:TE):TE:=fun σ H Q=>td σ H fun x H1=>∃ a,x=.ref a/\IsD H1 a/\ty σ H1 fun y H2=>tx σ H2 fun z H3=>∃ kvs k b,H3 a=some (.dT kvs)/\y=.ref b/\H3 b=some (.tup (k.map kV))/\kvs.length < sizeLine /\
 (∀ v,kh kvs k=some v->Q v H3)/\(kh kvs k=none->Q z (upd H3 a (.dT (putK kvs k z))))
theorem T8 (hu:X.A.units+1 < cLine) (ho:PE X o td) (he:PE X e ty) (hf:PE X f tx) (m:M2 X o "setdefault" apos e f cpos):PE X (.Call (.Attribute o "setdefault" apos) [e,f] [] cpos) (Zv td ty tx):=by
 intro pins s σ H Q I h;refine wpAny_Call_method m.base m.few m.line PySem.F.plainAttrs_dict PySem.F.slot_dict_setdefault PySem.F.type_dict_setdefault (ee (ho pins s σ H _ I h) fun u s1 ⟨x,H1,I1,rx,a,ex,d,q1⟩=>?_);subst ex;obtain rfl:u=Value.ref a:=rx;obtain ⟨t1,t2,_⟩:=NK I1 d;refine ⟨t1,t2,?_⟩;rw [m.trees];refine Calls.callWith_builtin rfl (Calls.evalArgs_plain (Calls.spliced_cons (ee (he pins s1 σ H1 _ I1 q1) fun iv s2 ⟨y,H2,I2,ry,q2⟩=>
   Calls.spliced_cons (ee (hf pins s2 σ H2 _ I2 q2) fun fv s3 ⟨z,H3,I3,rz,kvs,k,b,e3,ey,eb,l,q3,q4⟩=>Calls.spliced_nil ?_))))
 subst ey;cases (show iv=Value.ref b from ry);obtain ⟨zz,hd,xs,rel,dd⟩:=OY I3.hok e3;have hz:xs.length<=sizeLine:=by rw [<- Paired.length rel];exact zz
 have hl:(putK kvs k z).length<=sizeLine:=by have:=jH kvs k z;omega
 refine call_meetsIn PySem.F.slot_dict_setdefault dd.typeIs PySem.F.entry_dict_setdefault (PySem.F.args_dict_setdefault_3 _ _ _) (NX (tupleKind (fL X.prog X.w)) a b hd fv) ⟨tupleKind_room_in1 hu,k,xs,x8 I3.hok eb,dd,hz,dd.typeIs,fun p hp=>?_,fun hn h' dd' hs=>?_⟩
 . have rv:=rel.val k
   rw [hp] at rv;cases hv:kh kvs k with
   | none=>rw [hv] at rv;exact (show False from rv).elim
   | some v=>
     rw [hv] at rv;exact ⟨v,H3,I3.tok _,rv,q3 v hv⟩
 . have rv:=rel.val k
   rw [hn] at rv;have hv:kh kvs k=none:=by
     cases hv:kh kvs k with
     | none=>rfl
     | some v=>rw [hv] at rv;exact (show False from rv).elim
   refine ⟨z,_,?_,rz,q4 hv⟩;obtain ⟨q,es,ep,hq,h2,h3,h4,_,h5⟩:=dd';refine Av I3 (by rw [e3];exact True.intro) hs ⟨q,hq⟩ ⟨hl,hd,_,(rel.put k eb rz).keeps fun c ys ec=>?_,q,es,ep,hq,h2,h3,h4,h5⟩;rw [aq (ni ec e3 (fun z=>nomatch z))];exact ec
end
end L2
namespace L2
open PySem
section
variable {Pr:Program} {Wd:World} {Ar:Around} {Er:Value->Shared->Prop} {st:Shared}
def qZ (h:Heap) (tab:Addr) (us:List Value) (ep:Nat):Prop:=∃ ob ents,h.get? tab=some ob/\ob.data=.dict ents ep/\ents.toList.map (·.val)=us
theorem QD {v tab:Addr} {us:List Value} {ep:Nat} {Qd:Value->Shared->Prop} (view:st.heap.IsValuesView v tab) (m:qZ st.heap tab us ep)
  (k:Qd (.ref st.heap.objs.size) { st with heap:=st.heap.push { cls:=.type "dict_valueiterator",data:=.fields #[.ref tab,.int 0 0,.int us.length 0,.int ep 0] } }) :
  wpAny (model Pr Wd) Ar (pyIter (.ref v)) Qd Er st:=by
 obtain ⟨ov,g1,g2,g3⟩:=id view;obtain ⟨ob,ents,m1,m2,m3⟩:=m;have sz:ents.size=us.length:=by rw [<- m3];simp
 refine wpAny_pyIter_slot view.typeIs F.slot_dict_values_iter (wpAny_call_entry F.slot_dict_values_iter view.typeIs F.entry_dict_values_iter ?_ (F.args_dict_values_iter_1 _));unfold Builtin.«dict_values.__iter__»;refine wpAny_bind (wpAny_pure (wpAny_bind ?_));unfold Builtin.Dict_items.dictOf;refine wpAny_bind (wpAny_field g1 g3 (x:=.ref tab) rfl (wpAny_pure (wpAny_bind ?_)));unfold Builtin.Dict_items.newIterator;refine wpAny_bind (wpAny_dictEntries m1 m2 (wpAny_bind (wpAny_dictEpoch m1 m2 ?_)));simp only [show Builtin.Dict_items.ownsTuple "dict_valueiterator"=false by decide,Bool.false_eq_true,if_false];refine wpAny_newObj_type (wpAny_pure ⟨_,rfl,"dict_valueiterator",_,⟨_,Heap.get?_push_size _ rfl,rfl⟩,F.slot_dict_valueiterator_next.lookup,?_⟩);simpa [rawInt,sz] using k
theorem QE {it tab:Addr} {i ep:Nat} {us:List Value} {x:Value} {Qd:Option Value->Shared->Prop} (hit:st.heap.IsValIter it tab i us.length ep) (m:qZ st.heap tab us ep) (hx:us[i]?=some x)
  (k:∀ h',h'.IsValIter it tab (i+1) us.length ep->Heap.SameBut it st.heap h'->Qd (some x) { st with heap:=h' }):wpAny (model Pr Wd) Ar (pyNext (.ref it)) Qd Er st:=by
 obtain ⟨oi,g1,g2,g3⟩:=id hit;obtain ⟨ob,ents,m1,m2,m3⟩:=m;have sz:ents.size=us.length:=by rw [<- m3];simp
 have hlt:i < ents.size:=by rw [sz];exact (Zqz hx)
 have hval:ents[i].val=x:=by
  rw [<- m3,List.getElem?_map] at hx;rw [Array.getElem?_toList,Array.getElem?_eq_getElem hlt] at hx;exact Option.some.inj hx
 unfold pyNext;refine wpAny_bind (wpAny_attempt (wpAny_callSpecial?_slot (name:=Str.ofString "__next__") hit.typeIs F.slot_dict_valueiterator_next (wpAny_call_entry F.slot_dict_valueiterator_next hit.typeIs F.entry_dict_valueiterator_next ?_ (F.args_dict_valueiterator_next_1 _))));refine wpAny_bind (wpAny_pure (wpAny_bind (wpAny_bind ?_)))
 first | refine wpAny_bind (wpAny_typeNameOfWhole_valiter hit.typeIs (wpAny_pure (wpAny_bind (wpAny_fieldsOf g1 g3 ?_)))) | refine wpAny_bind (wpAny_typeNameOf_valiter hit.typeIs (wpAny_pure (wpAny_bind (wpAny_fieldsOf g1 g3 ?_))))
 simp only [show Builtin.Dict_items.ownsTuple "dict_valueiterator"=false by decide,Bool.false_eq_true,if_false];show wpAny _ _ (if (Value.ref tab==Value.none)=true then _ else _) _ _ st;rw [if_neg (show ¬ ((Value.ref tab==Value.none)=true) from Bool.false_ne_true)];refine wpAny_bind (wpAny_pure (wpAny_bind (wpAny_dictEntries m1 m2 ?_)));rw [if_neg (by rw [sz];simp)];refine wpAny_bind (wpAny_pure (wpAny_bind (wpAny_dictEpoch m1 m2 ?_)));rw [if_neg (by simp)];refine wpAny_pure ?_;simp only [show ¬ ((i:Int) < 0) from by omega,if_false,Int.toNat_natCast,Array.getElem?_eq_getElem hlt];refine wpAny_bind ?_
 first | refine wpAny_bind (wpAny_typeNameOfWhole_valiter hit.typeIs (wpAny_pure (wpAny_bind (wpAny_isOneOf_valiter hit.typeIs ?_)))) | refine wpAny_bind (wpAny_typeNameOf_valiter hit.typeIs (wpAny_pure (wpAny_bind (wpAny_isOneOf_valiter hit.typeIs ?_))))
 show wpAny _ _ (setField (.ref it) 1 (rawInt ((i:Int)+1)) >>= _) _ _ st;have Zw:(st.heap.update it (Obj.mapFields (·.setIfInBounds 1 (rawInt ((i:Int)+1))))).IsValIter it tab (i+1) us.length ep:=⟨_,Heap.get?_update_self _ g1 (Obj.isFreed_of_fields (Obj.data_mapFields g3 _)),(Obj.cls_mapFields ..).trans g2,by rw [Obj.data_mapFields g3];simp [rawInt]⟩;refine wpAny_bind (wpAny_setField g1 g3 (by simp) (wpAny_bind (wpAny_holding ?_)));refine wpAny_bind (wpAny_isOneOf_valiter (s:={ st with heap:=st.heap.update it (Obj.mapFields (·.setIfInBounds 1 (rawInt ((i:Int)+1)))) }) Zw.typeIs (wpAny_bind (wpAny_isOneOf_valiter (s:={ st with heap:=st.heap.update it (Obj.mapFields (·.setIfInBounds 1 (rawInt ((i:Int)+1)))) }) Zw.typeIs ?_)));show wpAny _ _ (pure ents[i].val) _ _ _;exact wpAny_pure (wpAny_pure ⟨_,rfl,wpAny_pure (hval ▸ k _ Zw (Heap.SameBut.update ..))⟩)
theorem T9 {it tab:Addr} {ep:Nat} {us:List Value} {Qd:Option Value->Shared->Prop} (hh:Ar.handled=none) (hit:st.heap.IsValIter it tab us.length us.length ep) (m:qZ st.heap tab us ep)
  (k:∀ h',Heap.ExtBut it st.heap h'->Qd none { st with heap:=h' }):wpAny (model Pr Wd) Ar (pyNext (.ref it)) Qd Er st:=by
 obtain ⟨oi,g1,g2,g3⟩:=id hit;obtain ⟨ob,ents,m1,m2,m3⟩:=m;have sz:ents.size=us.length:=by rw [<- m3];simp
 unfold pyNext;refine wpAny_bind (wpAny_attempt (wpAny_callSpecial?_slot (name:=Str.ofString "__next__") hit.typeIs F.slot_dict_valueiterator_next (wpAny_call_entry F.slot_dict_valueiterator_next hit.typeIs F.entry_dict_valueiterator_next ?_ (F.args_dict_valueiterator_next_1 _))));refine wpAny_bind (wpAny_pure (wpAny_bind (wpAny_bind ?_)))
 first | refine wpAny_bind (wpAny_typeNameOfWhole_valiter hit.typeIs (wpAny_pure (wpAny_bind (wpAny_fieldsOf g1 g3 ?_)))) | refine wpAny_bind (wpAny_typeNameOf_valiter hit.typeIs (wpAny_pure (wpAny_bind (wpAny_fieldsOf g1 g3 ?_))))
 simp only [show Builtin.Dict_items.ownsTuple "dict_valueiterator"=false by decide,Bool.false_eq_true,if_false];show wpAny _ _ (if (Value.ref tab==Value.none)=true then _ else _) _ _ st;rw [if_neg (show ¬ ((Value.ref tab==Value.none)=true) from Bool.false_ne_true)];refine wpAny_bind (wpAny_pure (wpAny_bind (wpAny_dictEntries m1 m2 ?_)));rw [if_neg (by rw [sz];simp)];refine wpAny_bind (wpAny_pure (wpAny_bind (wpAny_dictEpoch m1 m2 ?_)));rw [if_neg (by simp)];refine wpAny_pure ?_;simp only [show ¬ ((us.length:Int) < 0) from by omega,if_false,Int.toNat_natCast,Array.getElem?_eq_none (show ents.size<=us.length by omega)];refine wpAny_bind ?_
 first | refine wpAny_bind (wpAny_typeNameOfWhole_valiter hit.typeIs (wpAny_pure ?_)) | refine wpAny_bind (wpAny_typeNameOf_valiter hit.typeIs (wpAny_pure ?_))
 show wpAny _ _ (setField (.ref it) 0 .none >>= _) _ _ st;refine wpAny_bind (wpAny_setField g1 g3 (by simp) ?_);show wpAny _ _ (newExc (.type "StopIteration") [] >>= _) _ _ _;refine wpAny_bind ?_;simp only [newExc,newTuple];refine wpAny_bind (wpAny_newObj_type ?_ (by size_fits));refine wpAny_bind (m:=firstArgMember _ _) (wpAny_of_eq (a:=Value.none) (by first | rfl | (simp only [firstArgMember];rfl)) ?_);refine wpAny_newObj_type ?_ (by size_fits);simp only [raiseNew];refine wpAny_bind (wpAny_handled ?_);rw [show Ar.in1.handled=none from hh];refine wpAny_bind (wpAny_pure (wpAny_throw ?_));refine wpAny_bind (wpAny_isInstance (T:="StopIteration") (b:=true) ⟨_,Heap.get?_push_size _ rfl,rfl⟩ isSubtype_stop ?_);exact wpAny_pure (k _ (((Heap.SameBut.update ..).extBut.push _).push _))
end
end L2
namespace L2
open PySem PySem.Spec PyProof.Rows PySem.W
section
variable {Pr:Program} {Wd:World} {Ar:Around}
theorem qZ.keep {h h':Heap} {tab:Addr} {us:List Value} {ep:Nat} (m:qZ h tab us ep) (k:∀ o,h.get? tab=some o->h'.get? tab=some o):qZ h' tab us ep:=
 let ⟨ob,ents,m1,m2⟩:=m
 ⟨ob,ents,k ob m1,m2⟩
theorem qZ.lt {h:Heap} {tab:Addr} {us:List Value} {ep:Nat} (m:qZ h tab us ep):tab < h.objs.size:=let ⟨_,_,m1,_⟩:=m;Heap.lt_size m1
theorem QF {h h':Heap} {it tab:Addr} {i n ep:Nat} (x:h.IsValIter it tab i n ep) (k:∀ o,h.get? it=some o->h'.get? it=some o):h'.IsValIter it tab i n ep:=let ⟨o,e,r⟩:=x;⟨o,k o e,r⟩
theorem NY (hh:Ar.handled=none) (I tab:Addr) (hne:tab ≠ I) (us:List Value) (ep:Nat) :
   Walks Pr Wd Ar I [I,tab] [I] us.length (fun i v=>us[i]?=some v) (fun i h=>h.IsValIter I tab i us.length ep/\qZ h tab us ep) where
 sub:=fun b hb=>by simp at hb;simp [hb]
 frame:=fun _ _ _ q hk=>⟨QF q.1 (hk I (by simp)),q.2.keep (hk tab (by simp))⟩
 item:=fun i s Q E hi q hQ=>QE q.1 q.2 (List.getElem?_eq_getElem hi) fun h' a1 a2=>hQ us[i] h' s.toks (List.getElem?_eq_getElem hi) ⟨a1,q.2.keep fun o e=>a2.extBut tab o hne e⟩ fun b o hb e=>a2.extBut b o (fun z=>hb (by simp [z])) e
 done:=fun s Q E q hQ=>T9 hh q.1 q.2 fun h' a=>hQ h' s.toks fun b o hb e=>a b o (fun z=>hb (by simp [z])) e
 self:=fun _ _ _ _ q hQ=>wpAny_pyIter_valiter q.1 hQ
theorem TF {r tab:Addr} {us:List Value} {ep:Nat}:KdlSrc Pr Wd "dict_values" r tab us.length (fun i v=>us[i]?=some v) (fun h=>h.IsValuesView r tab/\qZ h tab us ep) where
 type:=fun _ q=>q.1.typeIs
 there:=fun _ q=>⟨let ⟨_,e,_⟩:=q.1;Heap.lt_size e,q.2.lt⟩
 keep:=fun _ _ q hk=>⟨let ⟨o,e,x⟩:=q.1;⟨o,hk r (.inl rfl) o e,x⟩,q.2.keep (hk tab (.inr rfl))⟩
 notList:=by decide
 notTuple:=by decide
 hint:=fun _ _ _ _ q hq=>kdl_hint_values q.1.typeIs hq
 iter:=fun _ s hh q=>⟨_,_,fun _ _ hq=>QD q.1 q.2 hq,NY hh _ tab (Nat.ne_of_lt q.2.lt) us ep,⟨⟨_,Heap.get?_push_size _ rfl,rfl,rfl⟩,q.2.keep fun o e=>Heap.get?_push_of_some _ e⟩⟩
theorem Du {st:Shared} (tab:Addr) (plain:(tab==sysModules)=false) :
  MeetsIn Pr Wd (Builtin.«dict.values» ⟨[.ref tab],[]⟩) (fun _ Rs st=>st.TypeIs (.ref tab) "dict"/\Rs (.ok (.ret (.ref st.heap.objs.size))) { st with heap:=st.heap.push { cls:=.type "dict_values",data:=.fields #[.ref tab] } }):=
 .of_wp fun Ar Rs st ⟨ty,k⟩=>by
  refine wpAny_bind ?_;unfold Builtin.Dict.noArgs
  refine wpAny_bind (wpAny_notOrdered_dict ty (wpAny_pure (α:=Addr) (a:=tab) ?_))
  show wpAny _ _ (Builtin.Dict.showsAll tab >>= _) _ _ st
  unfold Builtin.Dict.showsAll;rw [plain,if_neg (by decide)]
  exact wpAny_bind (wpAny_pure (wpAny_bind (wpAny_newObj_type (wpAny_pure ⟨_,rfl,k⟩))))
end
section
variable {X:Cx} {e:Expr} {td:TE} {p apos cpos pos:Pos}
def QG (td:TE):TE:=fun σ H Q=>td σ H fun x H1=>∃ a kvs,x=.ref a/\H1 a=some (.dT kvs)/\∀ l,H1 l=none->Q (.ref l) (upd H1 l (.lst (kvs.map (·.2))))
theorem Wn {H:Hp} {kvs:List (List Key×V)} {xs:List (List Key×Addr×Value)} (r:KT H kvs xs):Vals (kvs.map (·.2)) (xs.map (·.2.2)):=by
 induction r with
 | nil=>exact .nil
 | cons h t ih=>exact .cons h.2.2 ih
theorem L7 (hc:X.calm=true) (hg:Gl X "list") (hm:X.mg "list"=none) (he:PE X e td) (hbase:attributeBase e "values" X.env (eval e X.env)=eval e X.env:=by rfl) (hline:(apos.endLine==cpos.line)=true:=by rfl)
   (hs:starEach [.Call (.Attribute e "values" apos) [] [] cpos] X.env=[(false,eval (.Call (.Attribute e "values" apos) [] [] cpos) X.env)]:=by rfl) :
   PE X (.Call (.Name "list" p) [.Call (.Attribute e "values" apos) [] [] cpos] [] pos) (QG td):=by
 intro pins s σ H Q I h;refine wpAny_Call_Name_kw (z9 I hg hm boot_list ?_ (by decide) (by decide));refine PyProof.Rows.callWith_type1 ?_ hs rfl;rw [hs];show wpAny _ _ (spliced ((false,eval (.Call (.Attribute e "values" apos) [] [] cpos) X.env)::[])) _ _ s;refine Calls.spliced_cons ?_;refine wpAny_Call_method (T:="dict") (id:="dict.values") hbase rfl hline PySem.F.plainAttrs_dict PySem.F.slot_dict_values PySem.F.type_dict_values (ee (he pins s σ H _ I h) fun u s1 ⟨x,H1,I1,rx,a,kvs,ex,hd,q⟩=>?_);subst ex;obtain rfl:u=Value.ref a:=rx;obtain ⟨zz,plain,xs,rel,dd⟩:=OY I1.hok hd;obtain ⟨t1,t2,_⟩:=NK I1 (.inr ⟨kvs,.inl hd⟩);refine ⟨t1,t2,?_⟩;show wpAny _ _ (callWith cpos (.builtin "dict.values") [.ref a] [] []) _ X.xe s1;refine method_meetsIn PySem.F.slot_dict_values PySem.F.entry_dict_values rfl (PySem.evalArgs_none ⟨rfl,dd.typeIs,PySem.F.args_dict_values_1 _,_,Du (st:=s1) a plain,dd.typeIs,?_⟩);obtain ⟨ob,ents,ep,g1,g2,g3,g4,g5,g6⟩:=dd;have I2:Inv X pins σ H1 { s1 with heap:=s1.heap.push { cls:=.type "dict_values",data:=.fields #[.ref a] } }:=I1.kept (t':=s1.toks) fun b ob q=>Heap.get?_push_of_some _ q
 have va:qZ (s1.heap.push { cls:=.type "dict_values",data:=.fields #[.ref a] }) a (xs.map (·.2.2)) ep:=⟨ob,ents,Heap.get?_push_of_some _ g1,g3,by rw [g4,List.map_map];rfl⟩;refine Calls.spliced_nil ?_;refine kdl_call (s:={ s1 with heap:=s1.heap.push { cls:=.type "dict_values",data:=.fields #[.ref a] } }) TF (I2.ok.hd hc) ⟨⟨_,Heap.get?_push_size _ rfl,rfl,rfl⟩,va⟩ (by rw [List.length_map,<- Paired.length rel];exact zz) fun h' tk acc c kp eL items=>?_
 have eq:acc.toList=xs.map (·.2.2):=by
   refine List.ext_getElem? fun j=>?_;by_cases hj:j < (xs.map (·.2.2)).length
   . have hj2:j < acc.size:=by rw [items.1];exact hj
     have:=items.2 j acc[j] (Array.getElem?_eq_getElem hj2);rw [Array.getElem?_toList,Array.getElem?_eq_getElem hj2];exact this.symm
   . rw [List.getElem?_eq_none (by rw [Array.length_toList,items.1];omega),List.getElem?_eq_none (by omega)]
 refine ⟨.ref (s1.heap.push { cls:=.type "dict_values",data:=.fields #[.ref a] }).objs.size,_,I2.laid (t':=tk) kp (Nat.le_refl _) (show dZ X.prog X.w _ h' _ (.lst (kvs.map (·.2))) from ⟨by rw [List.length_map];exact zz,xs.map (·.2.2),c,Wn rel,by rw [<- eq,Array.toArray_toList];exact eL⟩),rfl,q _ (I2.hok.fresh (Nat.le_refl _))⟩
end
theorem QH (a d:Value):argsOk "min" ⟨[a],[(Str.ofString "default",d)]⟩:=by unfold argsOk;kernel_rfl
section
variable {Pr:Program} {Wd:World} {Ar:Around} {Rs:Result->Shared->Prop} {It Bs:Addr} {fp wr:List Addr} {n:Nat} {Pv:Nat->Value->Prop} {St:Nat->Heap->Prop} {kw:List (Str×Value)} {bt:Nat->Nat->Bool}
abbrev aaX (u:Value) (c:Nat):Obj:={ cls:=.type "list",dict:=none,data:=.seq #[u,u] c,slots:=#[] }
theorem zD (Wk:Walks Pr Wd Ar.in1 It fp wr n Pv St) (cmp:CmpOf Pr Wd Ar.in1 .Lt Pv bt) (out:Bs ∉ fp) :
   ∀ (k j:Nat) (st:Shared) (u:Value) (c:Nat),n - (j+1)=k->j+1<=n->St (j+1) st.heap->Pv (argBest bt j) u->st.heap.get? Bs=some (aaX u c)->
   (∀ v hp tk,Pv (argBest bt (n - 1)) v->(∀ b o,b ∉ wr->b ≠ Bs->st.heap.get? b=some o->hp.get? b=some o)->Rs (.ok (.ret v)) { st with heap:=hp,toks:=tk })->
   codeAny (model Pr Wd) Ar (.builtin "min.loop" ⟨[.ref It,.none,.ref Bs],kw⟩) Rs st
 | k,j,st,u,c,ek,le,at_,pu,hB,fin=>by
   have Wo:Bs ∉ wr:=fun z=>out (Wk.sub _ z)
   have nm:(toString "min"++toString ".loop":String) = "min.loop":=by decide
   refine codeAny_builtin PySem.F.entry_min_loop ?_
   rw [Around.under_plainId PySem.F.plain_min_loop _]
   show wpAny _ Ar.in1 (seqItems? (.ref Bs) >>= _) _ _ st
   refine wpAny_bind (wpAny_seqItems hB rfl ?_)
   show wpAny _ Ar.in1 (tryCatch (pyNext (.ref It)) _ >>= _) _ _ st
   cases k with
   | zero=>
     have en:j+1=n:=by omega
     refine wpAny_bind (wpAny_tryCatch (Wk.done st _ _ (en ▸ at_) fun hp tk keeps=>?_))
     have hB':=keeps Bs _ Wo hB
     show wpAny _ Ar.in1 (updateSeq Bs (fun _=>#[]) >>= _) _ _ _
     refine wpAny_bind ?_
     refine wpAny_updateSeq hB' rfl (wpAny_bind (wpAny_letGo (wpAny_pure (fin u _ tk (by rw [<- en];exact pu) fun b o b1 b2 e=>?_))))
     exact (Heap.get?_update_other _ _ (Ne.symm b2)).trans (keeps b o b1 e)
   | succ k=>
     have lt:j+1 < n:=by omega
     refine wpAny_bind (wpAny_tryCatch (Wk.item (j+1) st _ _ lt at_ fun v hp tk pv at' keeps=>?_))
     have hB':=keeps Bs _ Wo hB
     show wpAny _ Ar.in1 (tryCatch (holding [v,v] (richCompare .Lt v u >>= _)) _ >>= _) _ _ _
     refine wpAny_bind (wpAny_tryCatch (wpAny_holding (wpAny_bind (cmp (j+1) (argBest bt j) v u _ _ _ pv pu ?_))))
     refine wpAny_bind (wpAny_holding (wpAny_truthy_bool (wpAny_bind (wpAny_letGo (wpAny_pure ?_)))))
     cases better:bt (j+1) (argBest bt j) with
     | true=>
       rw [if_pos rfl]
       refine wpAny_bind ?_
       refine wpAny_updateSeq hB' rfl (wpAny_bind (wpAny_letGo ?_))
       rw [nm]
       refine wpAny_pure ⟨plainId_quiet PySem.F.plain_min_loop _,zD Wk cmp out k (j+1) _ v _ (by omega) lt (Wk.frame _ _ _ at' fun b hb o e=>?_) (by rw [argBest,better];exact pv) (Heap.get?_update_self _ hB' rfl) fun v' hp' tk' pv' keeps'=>?_⟩
       . exact (Heap.get?_update_other _ _ (fun z:Bs=b=>out (z ▸ hb))).trans e
       . exact fin v' hp' tk' pv' fun b o b1 b2 e=>keeps' b o b1 b2 ((Heap.get?_update_other _ _ (Ne.symm b2)).trans (keeps b o b1 e))
     | false=>
       rw [if_neg Bool.false_ne_true]
       refine wpAny_bind (wpAny_letGo ?_)
       rw [nm]
       exact wpAny_pure ⟨plainId_quiet PySem.F.plain_min_loop _,zD Wk cmp out k (j+1) _ u c (by omega) lt at' (by rw [argBest,better];exact pu) hB' fun v' hp' tk' pv' keeps'=>fin v' hp' tk' pv' fun b o b1 b2 e=>keeps' b o b1 b2 (keeps b o b1 e)⟩
theorem NZ (Wk:Walks Pr Wd Ar.in1 It fp wr n Pv St) (cmp:CmpOf Pr Wd Ar.in1 .Lt Pv bt) (out:Bs ∉ fp) {st:Shared} {c:Nat} {nk:Str} {d:Value} (at_:St 0 st.heap)
   (hB:st.heap.get? Bs=some { cls:=.type "list",dict:=none,data:=.seq #[] c,slots:=#[] })
   (fin:∀ v hp tk,(n=0/\v=d)\/(0 < n/\Pv (argBest bt (n - 1)) v)->(∀ b o,b ∉ wr->b ≠ Bs->st.heap.get? b=some o->hp.get? b=some o)->Rs (.ok (.ret v)) { st with heap:=hp,toks:=tk }) :
   codeAny (model Pr Wd) Ar (.builtin "min.loop" ⟨[.ref It,.none,.ref Bs],[(nk,d)]⟩) Rs st:=by
 have Wo:Bs ∉ wr:=fun z=>out (Wk.sub _ z);have nm:(toString "min"++toString ".loop":String) = "min.loop":=by decide
 refine codeAny_builtin PySem.F.entry_min_loop ?_;rw [Around.under_plainId PySem.F.plain_min_loop _];show wpAny _ Ar.in1 (seqItems? (.ref Bs) >>= _) _ _ st;refine wpAny_bind (wpAny_seqItems hB rfl ?_);show wpAny _ Ar.in1 (tryCatch (pyNext (.ref It)) _ >>= _) _ _ st;rcases Nat.eq_zero_or_pos n with e0 | pos
 . refine wpAny_bind (wpAny_tryCatch (Wk.done st _ _ (e0.symm ▸ at_) fun hp tk keeps=>?_))
   refine wpAny_bind (wpAny_rule (wpAny_pure ?_));exact fin d hp tk (.inl ⟨e0,rfl⟩) fun b o b1 b2 e=>keeps b o b1 e
 . refine wpAny_bind (wpAny_tryCatch (Wk.item 0 st _ _ pos at_ fun v hp tk pv at' keeps=>?_))
   have hB':=keeps Bs _ Wo hB;show wpAny _ Ar.in1 (updateSeq Bs (fun _=>#[v,v]) >>= _) _ _ _;refine wpAny_bind ?_;refine wpAny_updateSeq hB' rfl ?_;rw [nm];refine wpAny_pure ⟨plainId_quiet PySem.F.plain_min_loop _,zD Wk cmp out _ 0 _ v _ rfl pos (Wk.frame _ _ _ at' fun b hb o e=>?_) pv (Heap.get?_update_self _ hB' rfl) fun v' hp' tk' pv' keeps'=>?_⟩
   . exact (Heap.get?_update_other _ _ (fun z:Bs=b=>out (z ▸ hb))).trans e
   . exact fin v' hp' tk' (.inr ⟨pos,pv'⟩) fun b o b1 b2 e=>keeps' b o b1 b2 ((Heap.get?_update_other _ _ (Ne.symm b2)).trans (keeps b o b1 e))
end
section
variable {Pr:Program} {Wd:World} {Ar:Around} {Er:Value->Shared->Prop} {st:Shared}
theorem QI {l:Addr} {xs:Array (Int×Tok)} {d:Value} {Qv:Value->Shared->Prop} (hh:Ar.handled=none) (hl:st.heap.IsList l (intItems xs))
  (fin:∀ v hp tk,(xs.size=0/\v=d)\/(0 < xs.size/\(intItems xs)[argBest (fun i j=>decide (numAt xs i < numAt xs j)) (xs.size - 1)]?=some v)->(∀ b o,st.heap.get? b=some o->hp.get? b=some o)->Qv v { st with heap:=hp,toks:=tk }) :
  wpAny (model Pr Wd) Ar (call (.builtin "min") [.ref l] [(Str.ofString "default",d)]) Qv Er st:=by
 have nm:(toString "min"++toString ".loop":String) = "min.loop":=by decide
 have sz:(intItems xs).size=xs.size:=by simp [intItems]
 refine kmb_tree PySem.F.kind_min PySem.F.plain_min PySem.F.entry_min (QH _ _) ?_;refine wpAny_bind (wpAny_of_eq (show Builtin.Builtins.bindParams "min" ["key","default"] 0 ⟨[],[(Str.ofString "default",d)]⟩=pure [none,some d] from rfl) ?_);refine wpAny_bind (wpAny_pure ?_);refine wpAny_bind (iter_intList hl fun s2 e at_ inn ne=>?_);refine wpAny_bind (wpAny_newObj_type ?_);have out:s2.heap.objs.size ∉ [st.heap.objs.size,l]:=fun z=>Nat.lt_irrefl _ (inn _ z);rw [nm];have Wk:=Walks.list (prog:=Pr) (w:=Wd) (A:=Ar.in1) hh st.heap.objs.size l ne (intItems xs);refine wpAny_pure ⟨plainId_quiet PySem.F.plain_min_loop _,NZ Wk (CmpOf.ints_lt (numAt xs) (fun _ _=>intItems_at)) out (Wk.frame _ _ _ at_ fun b _ o e=>Heap.get?_push_of_some _ e) (Heap.get?_push_size _ rfl) fun v hp tk pv keeps=>?_⟩;subst e;rw [sz] at pv;exact fin v hp tk pv (old_kept fun b o b1 e=>keeps b o b1 (Nat.ne_of_lt (Heap.lt_size e)) (Heap.get?_push_of_some _ e))
end
section
variable {X:Cx} {p pos kp:Pos} {e d:Expr} {te td:TE}
def aaY (K:Zqq) (vs zs:List V) (H:Hp) (Q:VK):Prop:=∃ (a:Addr) (ns:List Int) (i:Int),vs=[.ref a]/\zs=[.int i]/\bI K H a (ns.map V.int) /\
 (ns=[]->Q (.int i) H)/\∀ m,m ∈ ns->(∀ y,y ∈ ns->m<=y)->Q (.int m) H
def aaZ (K:Zqq) (te td:TE):TE:=fun σ H Q=>OP te S9 σ H fun vs H1=>OP td S9 σ H1 fun zs H2=>aaY K vs zs H2 Q
theorem Wq (hc:X.calm=true) (hg:Gl X "min") (hm:X.mg "min"=none) (hv:bootBuiltins "min"=some (.builtin "min")) (ha:PE X e te) (hd:PE X d td)
   (hs:starEach [e] X.env=(false,eval e X.env)::starEach [] X.env:=by rfl) :
   PE X (.Call (.Name "min" p) [e] [⟨some (Str.ofString "default"),d,kp⟩] pos) (aaZ X.K te td):=by
 intro pins s σ H Q I h;refine wpAny_Call_Name_kw (z9 I hg hm hv ?_);have hb:backTo pos (starEach [e] X.env)=(false,eval e X.env)::backTo pos (starEach [] X.env):=by rw [hs];rfl
 refine callWith_kw ?_ hb (by rw [hb];rfl);refine ee ((af ha au hs) pos pins s σ H _ I h) fun us s1 ⟨vs,H1,I1,r,q⟩=>?_;refine ee ((VP (nm:=some (Str.ofString "default")) (kpos:=kp) hd YT) pos pins s1 σ H1 _ I1 q) fun ws s2 ⟨zs,H2,I2,rz,a,ns,i,e1,e2,hl,q0,qm⟩=>?_;subst e1 e2;obtain ⟨its,rv,il,_⟩:=I2.list hl;obtain ⟨xs,ex⟩:=rv.ints.allInts.items;have en:numsOf (intItems xs).toList=ns:=by rw [<- ex];exact rv.ints.numsOf
 rw [nums_intItems] at en;have il2:=il.isList;rw [ex] at il2;cases rz with
 | cons r1 rt=>
   cases rt;obtain ⟨tk,rfl⟩:=r1;rw [Vals.aaI r];refine QI (I2.ok.hd hc) il2 fun v hp tk' hv2 keeps=>?_;rcases hv2 with ⟨z0,rfl⟩ | ⟨pos',at'⟩
   . refine ⟨.int i,H2,I2.kept keeps,⟨_,rfl⟩,q0 ?_⟩
     rw [<- en];simpa using z0
   . obtain ⟨t',rfl⟩:=intItems_at at'
     obtain ⟨b1,b2⟩:=argBest_lt (numAt xs) (xs.size - 1);refine ⟨.int _,H2,I2.kept keeps,⟨_,rfl⟩,qm _ ?_ fun y hy=>?_⟩
     . rw [numAt_eq,<- en]
       exact PySem.getD_mem (by rw [List.length_map,Array.length_toList];omega)
     . rw [<- en] at hy
       obtain ⟨j,hj,rfl⟩:=mem_getD hy;rw [List.length_map,Array.length_toList] at hj;rw [<- numAt_eq];exact b2 j (by omega)
end
end L2
namespace L2
open PySem PySem.Spec PyProof.Rows
theorem fld {K:Zqq} {H:Hp} {a C dx:Addr} {fs:List (Str×V)} {v:V} {f:Str} {Q:V->Prop} (h:H a=some (.ins C dx fs)) (c:DQ K C) (n:b8 K C f) (l:fs.lookup f=some v) (q:Q v) :
   ∃ (a' C' dx':Addr) (fs':List (Str×V)) (v':V),V.ref a=.ref a'/\H a'=some (.ins C' dx' fs')/\DQ K C'/\b8 K C' f/\fs'.lookup f=some v'/\Q v':=⟨a,C,dx,fs,v,rfl,h,c,n,l,q⟩
theorem tG {K:Zqq} {H:Hp} {p:Addr} {xs:List V} {i:Int} {v:V} {Q:V->Prop} (h:bI K H p xs) (e:SN xs i=some v) (q:Q v) :
   ∃ (p':Addr) (xs':List V) (i':Int) (v':V),V.ref p=.ref p'/\V.int i=.int i'/\bI K H p' xs'/\SN xs' i'=some v'/\Q v':=⟨p,xs,i,v,rfl,rfl,h,e,q⟩
theorem Ym {K:Zqq} {H:Hp} {p:Addr} {xs:List V} {i:Int} {v:V} {Q:V->Prop} (h:oj K H p xs) (e:SN xs i=some v) (q:Q v) :
   ∃ (p':Addr) (xs':List V) (i':Int) (v':V),V.ref p=.ref p'/\V.int i=.int i'/\oj K H p' xs'/\SN xs' i'=some v'/\Q v':=⟨p,xs,i,v,rfl,rfl,h,e,q⟩
abbrev Iv:=Nat->St->Hp->Prop
theorem lR {N P:List Str} {sc:Scope} (h:N.Nodup/\(∀ x ∈ P,sc.names.lookup x=some .local\/sc.names.lookup x=some .cell)/\∀ y ∈ sc.names,y.2 ≠ .free) (k:sc.kind=.function:=by rfl) (c:sc.isCoroutine=false:=by rfl) (g:sc.isGenerator=false:=by rfl) (p:N.take P.length=P:=by rfl):aQ N P sc:=⟨k,c,g,h.1,p,h.2.1,h.2.2⟩
end L2
namespace JM
open Fk
theorem bg {α β:Type} (y:α) (f:α->Except Fault β):andThen (.ok y) f=f y:=rfl
theorem br {α β γ:Type} (x:Except Fault α) (f:α->Except Fault β) (g:β->Except Fault γ):andThen (andThen x f) g=andThen x fun y=>andThen (f y) g:=by
 cases x<;>rfl
theorem kG {α β:Type} {x x':Except Fault α} {f f':α->Except Fault β} (h:x=x') (hf:∀ y,x=.ok y->f y=f' y):andThen x f=andThen x' f':=by
 subst h;cases x with
 | error e=>rfl
 | ok y=>exact hf y rfl
theorem L8 {k:Nat} {g g':Nat->Bool} (h:∀ v,g v=g' v) (b:Bytes) (p:Nat):numIn k g b p=numIn k g' b p:=by
 have e:g=g':=funext h;rw [e]
theorem bA {k:Nat} {g:Nat->Bool} {b:Bytes} {p:Nat} {y:Nat×Bytes×Nat} (h:numIn k g b p=.ok y):k<=b.length/\g y.1=true/\y.1=num (b.take k)/\y.2.1=b.drop k/\y.2.2=p+k:=by
 unfold numIn at h;split at h
 . cases h
 . rename_i h1
   split at h
   . rename_i h2
     cases h;exact ⟨by omega,h2,rfl,rfl,rfl⟩
   . cases h
def many {α:Type} (one:Bytes->Nat->Except Fault (α×Bytes×Nat)):Nat->Bytes->Nat->Except Fault (List α×Bytes×Nat)
 | 0,b,p=>.ok ([],b,p)
 | k+1,b,p=>andThen (one b p) fun x=>andThen (many one k x.2.1 x.2.2) fun l=>.ok (x.1::l.1,l.2.1,l.2.2)
def mE:Bytes->Bytes->Nat->Except Fault (Bytes×Nat)
 | [],b,p=>.ok (b,p)
 | c::m,b,p=>andThen (numIn 1 (fun _=>true) b p) fun x=>andThen (need (decide (x.1=c.toNat)) 1 p) fun _=>mE m x.2.1 x.2.2
theorem Jl (c:UInt8):num [c]=c.toNat:=by
 simp [num]
theorem LA:∀ (m b:Bytes) (p:Nat),mE m b p=match (List.range m.length).find? fun i=>b[i]? != m[i]? with
   | some i=>.error ⟨if i < b.length then 1 else 5,p+min i b.length⟩
   | none=>.ok (b.drop m.length,p+m.length)
 | [],b,p=>by simp [mE]
 | c::m,[],p=>by
   have e:(List.range (c::m).length).find? (fun i=>([]:Bytes)[i]? != (c::m)[i]?)=some 0:=by
     rw [List.length_cons,List.range_succ_eq_map,List.find?_cons];have q:(([]:Bytes)[0]? != (c::m)[0]?)=true:=by simp
     rw [q]
   rw [e];simp [mE,numIn,andThen]
 | c::m,x::b,p=>by
   have ih:=LA m b (p+1);rw [List.length_cons,List.range_succ_eq_map,List.find?_cons,List.find?_map];have e1:numIn 1 (fun _=>true) (x::b) p=.ok (x.toNat,b,p+1):=by
     simp [numIn,Jl]
   unfold mE;rw [e1,bg];show andThen (need (decide (x.toNat=c.toNat)) 1 p) (fun _=>mE m b (p+1))=_;by_cases hx:x=c
   . subst hx
     have e2:((x::b)[0]? != (x::m)[0]?)=false:=by simp
     rw [e2];have e3:(fun i=>(x::b)[i]? != (x::m)[i]?) ∘ Nat.succ=fun i=>b[i]? != m[i]?:=by
       funext i;simp
     rw [e3];have e4:need (decide (x.toNat=x.toNat)) 1 p=.ok ():=by simp [need]
     rw [e4,bg,ih];cases (List.range m.length).find? fun i=>b[i]? != m[i]? with
     | none=>simp;omega
     | some i=>
       simp only [Option.map_some];by_cases hi:i < b.length
       . have:i.succ < (x::b).length:=by simp;omega
         simp [hi];omega
       . have:¬ i.succ < (x::b).length:=by simp;omega
         simp [hi];omega
   . have e2:((x::b)[0]? != (c::m)[0]?)=true:=by simp [hx]
     rw [e2];have e4:need (decide (x.toNat=c.toNat)) 1 p=.error ⟨1,p⟩:=by
       have:¬ x.toNat=c.toNat:=fun q=>hx (UInt8.toNat_inj.mp q);simp [need,this]
     rw [e4];simp [andThen]
theorem Pn (m b:Bytes):mark m b=mE m b 0:=by
 rw [LA];unfold mark;cases (List.range m.length).find? fun i=>b[i]? != m[i]?<;>simp
theorem zE:∀ {l m:List Nat},l.Pairwise (· < ·)->m.Pairwise (· < ·)->(∀ x,x ∈ l ↔ x ∈ m)->l=m
 | [],[],_,_,_=>rfl
 | [],y::m,_,_,h=>by have:=(h y).mpr (by simp);simp at this
 | x::l,[],_,_,h=>by have:=(h x).mp (by simp);simp at this
 | x::l,y::m,hl,hm,h=>by
   obtain ⟨hx,hl'⟩:=List.pairwise_cons.mp hl
   obtain ⟨hy,hm'⟩:=List.pairwise_cons.mp hm
   have e:x=y:=by
     rcases List.mem_cons.mp ((h x).mp (by simp)) with q | q
     . exact q
     . rcases List.mem_cons.mp ((h y).mpr (by simp)) with r | r
       . exact r.symm
       . have a:=hx y r
         have b:=hy x q;omega
   subst e;have ih:l=m:=zE hl' hm' fun z=>by
     constructor
     . intro hz
       rcases List.mem_cons.mp ((h z).mp (List.mem_cons.mpr (.inr hz))) with q | q
       . subst q;have:=hx z hz;omega
       . exact q
     . intro hz
       rcases List.mem_cons.mp ((h z).mpr (List.mem_cons.mpr (.inr hz))) with q | q
       . subst q;have:=hy z hz;omega
       . exact q
   rw [ih]
theorem LB (n:Nat):(List.range n).Pairwise (· < ·):=List.pairwise_lt_range
theorem A0 {n:Nat} (p:Nat->Bool):((List.range n).filter p).Pairwise (· < ·):=(LB n).filter p
def nv (n:Nat) (l:List (Nat×Nat)):Prop:=(∀ x ∈ l,x.1 < x.2/\x.2 < n)/\l.Pairwise fun x y=>x.1 < y.1\/(x.1=y.1/\x.2 < y.2)
def uA (v:Nat) (x:Nat×Nat):Option Nat:=if x.1=v then some x.2 else if x.2=v then some x.1 else none
def bG (l:List (Nat×Nat)) (v:Nat):List Nat:=l.filterMap (uA v)
theorem vf {n:Nat} {l:List (Nat×Nat)} (h:nv n l) (v:Nat):(bG l v).Pairwise (· < ·):=by
 obtain ⟨h1,h2⟩:=h;unfold bG;rw [List.pairwise_filterMap];have h3:l.Pairwise fun x y=>(x.1 < x.2/\y.1 < y.2)/\(x.1 < y.1\/(x.1=y.1/\x.2 < y.2)):=by
   refine List.Pairwise.imp_of_mem ?_ h2;intro a b ha hb hab;exact ⟨⟨(h1 a ha).1,(h1 b hb).1⟩,hab⟩
 refine h3.imp ?_;rintro ⟨xa,xb⟩ ⟨ya,yb⟩ ⟨⟨p1,p2⟩,p3⟩ u hu w hw;unfold uA at hu hw;simp only at p1 p2 p3 hu hw;have cu:(xa=v/\xb=u)\/(xa ≠ v/\xb=v/\xa=u):=by
   by_cases q:xa=v
   . rw [if_pos q] at hu;exact .inl ⟨q,Option.some.inj hu⟩
   . rw [if_neg q] at hu
     by_cases q2:xb=v
     . rw [if_pos q2] at hu;exact .inr ⟨q,q2,Option.some.inj hu⟩
     . rw [if_neg q2] at hu;cases hu
 have cw:(ya=v/\yb=w)\/(ya ≠ v/\yb=v/\ya=w):=by
   by_cases q:ya=v
   . rw [if_pos q] at hw;exact .inl ⟨q,Option.some.inj hw⟩
   . rw [if_neg q] at hw
     by_cases q2:yb=v
     . rw [if_pos q2] at hw;exact .inr ⟨q,q2,Option.some.inj hw⟩
     . rw [if_neg q2] at hw;cases hw
 omega
theorem xA {l:List (Nat×Nat)} {v w:Nat}:w ∈ bG l v ↔ ∃ x ∈ l,(x.1=v/\x.2=w)\/(x.1 ≠ v/\x.2=v/\x.1=w):=by
 unfold bG;rw [List.mem_filterMap];constructor
 . rintro ⟨x,hx,e⟩
   refine ⟨x,hx,?_⟩;unfold uA at e;split at e
   . rename_i q;exact .inl ⟨q,Option.some.inj e⟩
   . rename_i q
     split at e
     . rename_i q2;exact .inr ⟨q,q2,Option.some.inj e⟩
     . cases e
 . rintro ⟨x,hx,e⟩
   refine ⟨x,hx,?_⟩;unfold uA;rcases e with ⟨q1,q2⟩ | ⟨q1,q2,q3⟩
   . rw [if_pos q1,q2]
   . rw [if_neg q1,if_pos q2,q3]
theorem CO {n:Nat} {l:List (Nat×Nat)} (h:nv n l) (v:Nat) (j:Nat->Bool) (hj:∀ w,j w=l.any fun x=>(x.1==v&&x.2==w)||(x.1==w&&x.2==v)):(List.range n).filter j=bG l v:=by
 refine zE (A0 j) (vf h v) fun w=>?_;rw [List.mem_filter,xA,hj,List.mem_range,List.any_eq_true];constructor
 . rintro ⟨_,x,hx,e⟩
   refine ⟨x,hx,?_⟩;have:=h.1 x hx;simp only [Bool.or_eq_true,Bool.and_eq_true,beq_iff_eq] at e;omega
 . rintro ⟨x,hx,e⟩
   have:=h.1 x hx;refine ⟨by omega,x,hx,?_⟩;simp only [Bool.or_eq_true,Bool.and_eq_true,beq_iff_eq];omega
def qL (b:Bytes) (p:Nat):Except Fault ((PAtom×Nat)×Bytes×Nat):=
  andThen (numIn 1 (fun v=>decide (v<=8)) b p) fun c=>
  andThen (elementsIn c.1 0 c.2.1 c.2.2) fun e=>
  andThen (numIn 2 (fun v=>decide (v<=ANY)) e.2.1 e.2.2) fun i=>
  andThen (pairIn 1 8 i.2.1 i.2.2) fun q=>
  andThen (pairIn 1 7 q.2.1 q.2.2) fun h=>
  andThen (pairIn 1 MOSTBESIDE h.2.1 h.2.2) fun d=>
  andThen (pairIn 2 MOSTSUM d.2.1 d.2.2) fun s=>
  andThen (numIn 1 (fun v=>decide (v<=2)) s.2.1 s.2.2) fun r=>
  andThen (numIn 1 (fun v=>decide (v<=3)) r.2.1 r.2.2) fun g=>
  .ok ((⟨e.1,i.1,q.1,h.1,d.1,s.1,r.1,g.1⟩,r.2.2),g.2.1,g.2.2)
theorem CP:∀ (k:Nat) (b:Bytes) (p:Nat),patomsIn k b p=many qL k b p
 | 0,b,p=>rfl
 | k+1,b,p=>by
  unfold patomsIn many qL
  simp only [br,bg,CP k]
  rfl
def oH (n:Nat) (had:Option (Nat×Nat)) (b:Bytes) (p:Nat):Except Fault ((Nat×Nat)×Bytes×Nat):=
   andThen (numIn 1 (fun v=>decide (v < n)) b p) fun x=>
   andThen (numIn 1 (fun v=>decide (x.1 < v)&&decide (v < n)) x.2.1 x.2.2) fun y=>
   andThen (need (match had with
     | some (u,w)=>decide (u < x.1)||(u==x.1&&decide (w < y.1))
     | none=>true) 3 p) fun _=>
   .ok ((x.1,y.1),y.2.1,y.2.2)
def j0 {α:Type} (n:Nat) (one:Nat×Nat->Bytes->Nat->Except Fault (α×Bytes×Nat)):Nat->Option (Nat×Nat)->Bytes->Nat->Except Fault (List α×Bytes×Nat)
 | 0,_,b,p=>.ok ([],b,p)
 | k+1,had,b,p=>
  andThen (oH n had b p) fun q=>andThen (one q.1 q.2.1 q.2.2) fun x=>andThen (j0 n one k (some q.1) x.2.1 x.2.2) fun l=>.ok (x.1::l.1,l.2.1,l.2.2)
def qM (q:Nat×Nat) (b:Bytes) (p:Nat):Except Fault ((PBond×Nat)×Bytes×Nat):=
  andThen (numIn 1 (fun v=>decide (1<=v)&&decide (v<=7)) b p) fun o=>
  andThen (numIn 1 (fun v=>decide (v<=1)) o.2.1 o.2.2) fun h=>
  andThen (numIn 1 (fun v=>decide (v<=2)) h.2.1 h.2.2) fun r=>
  andThen (numIn 1 (fun v=>decide (v<=3)) r.2.1 r.2.2) fun s=>
  .ok ((⟨q.1,q.2,o.1,h.1,r.1,s.1⟩,r.2.2),s.2.1,s.2.2)
theorem CQ (n:Nat):∀ (k:Nat) (had:Option (Nat×Nat)) (b:Bytes) (p:Nat),pbondsIn n k had b p=j0 n qM k had b p
 | 0,had,b,p=>rfl
 | k+1,had,b,p=>by
  unfold pbondsIn j0 qM oH
  simp only [br,bg,CQ n k]
  rfl
def rf (b:Bytes) (p:Nat):Except Fault (Atom×Bytes×Nat):=
  andThen (numIn 1 (fun v=>decide (1<=v)&&decide (v<=ELEMENTS)) b p) fun e=>
  andThen (numIn 2 (fun v=>decide (v<=ISOTOPE)) e.2.1 e.2.2) fun i=>
  andThen (numIn 1 (fun v=>decide (v<=8)) i.2.1 i.2.2) fun c=>
  andThen (numIn 1 (fun v=>decide (v<=7)) c.2.1 c.2.2) fun h=>
  andThen (numIn 1 (fun v=>decide (v<=2)) h.2.1 h.2.2) fun s=>
  .ok (⟨e.1,i.1,(c.1:Int) - 4,h.1,s.1⟩,s.2.1,s.2.2)
theorem EF:∀ (k:Nat) (b:Bytes) (p:Nat),atomsIn k b p=many rf k b p
 | 0,b,p=>rfl
 | k+1,b,p=>by
  unfold atomsIn many rf
  simp only [br,bg,EF k]
  rfl
def pF (q:Nat×Nat) (b:Bytes) (p:Nat):Except Fault (Bond×Bytes×Nat):=
  andThen (numIn 1 (fun v=>decide (1<=v)&&decide (v<=3)) b p) fun o=>
  andThen (numIn 1 (fun v=>decide (v<=2)) o.2.1 o.2.2) fun s=>
  .ok (⟨q.1,q.2,o.1,s.1⟩,s.2.1,s.2.2)
theorem EG (n:Nat):∀ (k:Nat) (had:Option (Nat×Nat)) (b:Bytes) (p:Nat),bondsIn n k had b p=j0 n pF k had b p
 | 0,had,b,p=>rfl
 | k+1,had,b,p=>by
  unfold bondsIn j0 pF oH
  simp only [br,bg,EG n k]
  rfl
theorem tH {α:Type} {one:Bytes->Nat->Except Fault (α×Bytes×Nat)}:∀ {k:Nat} {b:Bytes} {p:Nat} {y:List α×Bytes×Nat},many one k b p=.ok y->y.1.length=k
 | 0,b,p,y,h=>by cases h;rfl
 | k+1,b,p,y,h=>by
  unfold many at h
  cases h1:one b p with
  | error e=>rw [h1] at h;cases h
  | ok x=>
   rw [h1,bg] at h
   cases h2:many one k x.2.1 x.2.2 with
   | error e=>rw [h2] at h;cases h
   | ok l=>
    rw [h2,bg] at h
    cases h
    simp [tH h2]
theorem qN {α:Type} {n:Nat} {one:Nat×Nat->Bytes->Nat->Except Fault (α×Bytes×Nat)}:∀ {k:Nat} {had:Option (Nat×Nat)} {b:Bytes} {p:Nat} {y:List α×Bytes×Nat},j0 n one k had b p=.ok y->y.1.length=k
 | 0,_,b,p,y,h=>by cases h;rfl
 | k+1,had,b,p,y,h=>by
  unfold j0 at h
  cases h0:oH n had b p with
  | error e=>rw [h0] at h;cases h
  | ok q=>
   rw [h0,bg] at h
   cases h1:one q.1 q.2.1 q.2.2 with
   | error e=>rw [h1] at h;cases h
   | ok x=>
    rw [h1,bg] at h
    cases h2:j0 n one k (some q.1) x.2.1 x.2.2 with
    | error e=>rw [h2] at h;cases h
    | ok l=>
     rw [h2,bg] at h
     cases h
     simp [qN h2]
theorem QJ {n:Nat} {had:Option (Nat×Nat)} {b:Bytes} {p:Nat} {q:(Nat×Nat)×Bytes×Nat} (h:oH n had b p=.ok q) :
  q.1.1 < q.1.2/\q.1.2 < n/\∀ u,had=some u->u.1 < q.1.1\/(u.1=q.1.1/\u.2 < q.1.2):=by
 unfold oH at h;cases h1:numIn 1 (fun v=>decide (v < n)) b p with
 | error e=>rw [h1] at h;cases h
 | ok x=>
  rw [h1,bg] at h;cases h2:numIn 1 (fun v=>decide (x.1 < v)&&decide (v < n)) x.2.1 x.2.2 with
  | error e=>rw [h2] at h;cases h
  | ok y=>
   rw [h2,bg] at h;have g2:=(bA h2).2.1;simp only [Bool.and_eq_true,decide_eq_true_eq] at g2;cases had with
   | none=>
    cases h;exact ⟨g2.1,g2.2,fun u hu=>by cases hu⟩
   | some uw=>
    obtain ⟨u,w⟩:=uw;have h:andThen (need (decide (u < x.1)||(u==x.1&&decide (w < y.1))) 3 p) (fun _=>Except.ok ((x.1,y.1),y.2.1,y.2.2))=Except.ok q:=h;cases hc:(decide (u < x.1)||(u==x.1&&decide (w < y.1))) with
    | false=>
     rw [hc] at h;cases h
    | true=>
     rw [hc] at h;cases h;refine ⟨g2.1,g2.2,fun u' hu=>?_⟩;cases hu;simp only [Bool.or_eq_true,Bool.and_eq_true,beq_iff_eq,decide_eq_true_eq] at hc;exact hc
theorem xB {α:Type} {n:Nat} {one:Nat×Nat->Bytes->Nat->Except Fault (α×Bytes×Nat)} {ends:α->Nat×Nat} (ho:∀ q b p x,one q b p=.ok x->ends x.1=q) :
   ∀ {k:Nat} {had:Option (Nat×Nat)} {b:Bytes} {p:Nat} {y:List α×Bytes×Nat},j0 n one k had b p=.ok y->
     nv n (y.1.map ends)/\∀ u,had=some u->∀ x ∈ y.1.map ends,u.1 < x.1\/(u.1=x.1/\u.2 < x.2)
 | 0,_,b,p,y,h=>by
   cases h
   exact ⟨⟨by simp,by simp⟩,by simp⟩
 | k+1,had,b,p,y,h=>by
   unfold j0 at h
   cases h0:oH n had b p with
   | error e=>rw [h0] at h;cases h
   | ok q=>
     rw [h0,bg] at h
     obtain ⟨g1,g2,g3⟩:=QJ h0
     cases h1:one q.1 q.2.1 q.2.2 with
     | error e=>rw [h1] at h;cases h
     | ok x=>
       rw [h1,bg] at h
       have ex:=ho _ _ _ _ h1
       cases h2:j0 n one k (some q.1) x.2.1 x.2.2 with
       | error e=>rw [h2] at h;cases h
       | ok l=>
         rw [h2,bg] at h
         cases h
         obtain ⟨⟨i1,i2⟩,i3⟩:=xB ho h2
         have i3:=i3 _ rfl
         simp only [List.map_cons,ex]
         refine ⟨⟨fun z hz=>?_,List.pairwise_cons.mpr ⟨fun z hz=>i3 z hz,i2⟩⟩,fun u hu z hz=>?_⟩
         . rcases List.mem_cons.mp hz with r | r
           . subst r;exact ⟨g1,g2⟩
           . exact i1 z r
         . have g:=g3 u hu
           rcases List.mem_cons.mp hz with r | r
           . subst r;exact g
           . have:=i3 z r
             omega
def c9 (z:PBond×Nat):Nat×Nat:=(z.1.a,z.1.b)
theorem Jm (q:Nat×Nat) (b:Bytes) (p:Nat) (x:(PBond×Nat)×Bytes×Nat) (h:qM q b p=.ok x):c9 x.1=q:=by
 unfold qM at h;cases h1:numIn 1 (fun v=>decide (1<=v)&&decide (v<=7)) b p with
 | error e=>rw [h1] at h;cases h
 | ok o=>
  rw [h1,bg] at h;cases h2:numIn 1 (fun v=>decide (v<=1)) o.2.1 o.2.2 with
  | error e=>rw [h2] at h;cases h
  | ok o2=>
   rw [h2,bg] at h;cases h3:numIn 1 (fun v=>decide (v<=2)) o2.2.1 o2.2.2 with
   | error e=>rw [h3] at h;cases h
   | ok o3=>
    rw [h3,bg] at h;cases h4:numIn 1 (fun v=>decide (v<=3)) o3.2.1 o3.2.2 with
    | error e=>rw [h4] at h;cases h
    | ok o4=>
     rw [h4,bg] at h;cases h;rfl
theorem LC {P:Part} (h:nv P.n (P.bonds.map fun x=>(x.a,x.b))) (v:Nat):P.beside v=bG (P.bonds.map fun x=>(x.a,x.b)) v:=by
 unfold Part.beside;refine CO h v _ fun w=>?_;rw [List.any_map];rfl
end JM
namespace MP
open PySem PySem.Spec PyProof.Rows L2
def top (i:Nat):Stmt:=PySem.Challenge.pw_moleculeparts_s06_place.main.body.getD i (.Pass ⟨0,0,0,0⟩)
abbrev vg:Stmt:=inClass (top 2) 0
abbrev qj:Stmt:=inClass (top 2) 1
abbrev oJ:Stmt:=inClass (top 17) 0
abbrev ud:Stmt:=inClass (top 18) 0
abbrev rg:Stmt:=inClass (top 18) 1
abbrev kP:Stmt:=inClass (top 18) 2
abbrev kH:Stmt:=inClass (top 18) 3
abbrev lU:Stmt:=inClass (top 18) 4
abbrev mF:Stmt:=inClass (top 18) 5
abbrev lV:Stmt:=inClass (top 18) 6
abbrev mG:Stmt:=inClass (top 18) 7
abbrev lW:Stmt:=inClass (top 18) 8
abbrev ny:Stmt:=inClass (top 18) 9
abbrev n6:Stmt:=inClass (top 31) 0
abbrev n8:Stmt:=inClass (top 32) 0
abbrev ue:Stmt:=inClass (top 46) 0
abbrev mH:Stmt:=inClass (top 46) 1
abbrev mJ:Stmt:=inClass (top 46) 2
abbrev mK:Stmt:=inClass (top 46) 3
abbrev kQ:Stmt:=inClass (top 46) 4
abbrev fY:Stmt:=inClass (top 46) 5
abbrev mL:Stmt:=inClass (top 46) 6
abbrev mO:Stmt:=inClass (top 46) 7
abbrev mP:Stmt:=inClass (top 46) 8
abbrev jN:Stmt:=inClass (top 46) 9
abbrev kR:Stmt:=inClass (top 46) 10
abbrev xC:Stmt:=inClass (top 72) 0
abbrev xD:Stmt:=inClass (top 73) 0
abbrev qk:Stmt:=inClass (top 74) 0
abbrev kJ:Stmt:=inClass (top 74) 1
abbrev lS:Stmt:=inClass (top 74) 2
abbrev Po:Stmt:=top 0
abbrev oK:Stmt:=top 3
abbrev vh:Stmt:=top 19
abbrev rj:Stmt:=top 33
abbrev Jo:Stmt:=top 34
abbrev oM:Stmt:=top 35
abbrev lX:Stmt:=top 36
abbrev vj:Stmt:=top 37
abbrev lZ:Stmt:=top 38
abbrev kK:Stmt:=top 41
abbrev iX:Stmt:=top 42
abbrev iL:Stmt:=top 43
abbrev EH:Stmt:=top 47
abbrev xE:Stmt:=top 48
abbrev nA:Stmt:=top 49
abbrev vm:Stmt:=top 50
abbrev Cb:Stmt:=top 51
abbrev nB:Stmt:=top 52
abbrev Cc:Stmt:=top 53
abbrev tK:Stmt:=top 54
abbrev xF:Stmt:=top 59
abbrev vo:Stmt:=top 60
abbrev lK:Stmt:=top 61
abbrev m6:Stmt:=top 62
abbrev vp:Stmt:=top 63
abbrev rm:Stmt:=top 64
abbrev vq:Stmt:=top 65
abbrev nE:Stmt:=top 75
abbrev ql:Stmt:=top 76
abbrev xG:Stmt:=top 77
abbrev xH:Stmt:=top 78
abbrev qo:Stmt:=top 79
abbrev qp:Stmt:=top 80
abbrev oN:Stmt:=top 81
abbrev Jp:Stmt:=top 88
abbrev rq:Stmt:=top 89
abbrev r6:Stmt:=top 90
abbrev vt:Stmt:=top 91
abbrev qt:Stmt:=top 92
set_option genInjectivity false in
set_option genSizeOf false in
structure Ad where
 bK:Addr
 aH:Addr
 aG:Addr
 aO:Addr
 aP:Addr
 aX:Addr
 eB:Addr
 eE:Addr
 aT:Addr
 dB:Addr
 jO:FuncData
 bH:Addr
 dF:FuncData
 dH:Addr
 j3:FuncData
 gK:Addr
 mh:FuncData
 fN:Addr
 kT:FuncData
 bX:Addr
 fO:FuncData
 bM:Addr
 fu:FuncData
 cz:Addr
 gu:FuncData
 cA:Addr
 gX:FuncData
 bP:Addr
 eT:FuncData
 cB:Addr
 gY:FuncData
 bQ:Addr
 eU:FuncData
 cT:Addr
 iY:FuncData
 cU:Addr
 iZ:FuncData
 cV:Addr
 ja:FuncData
 gM:Addr
 mi:FuncData
 cE:Addr
 gZ:FuncData
 cF:Addr
 ic:FuncData
 cG:Addr
 ie:FuncData
 bY:Addr
 fP:FuncData
 bC:Addr
 dI:FuncData
 cH:Addr
 ig:FuncData
 cI:Addr
 ir:FuncData
 cJ:Addr
 iu:FuncData
 cj:Addr
 iw:FuncData
 bZ:Addr
 fQ:FuncData
 jI:Addr
 pG:FuncData
 jJ:Addr
 pH:FuncData
 eY:Addr
 ki:FuncData
 bN:Addr
 fz:FuncData
 bJ:Addr
 fk:FuncData
 yQ:Addr
 DX:FuncData
 fD:Addr
 j4:FuncData
 gG:Addr
 jP:FuncData
 iy:Addr
 kU:FuncData
 vv:Addr
 A1:FuncData
 fE:Addr
 j5:FuncData
 bR:Addr
 gw:FuncData
 jQ:Addr
 nF:FuncData
 bS:Addr
 gx:FuncData
 c5:Addr
 f6:FuncData
 cg:Addr
 fR:FuncData
 bO:Addr
 f7:FuncData
 r8:Addr
 xJ:FuncData
 kW:Addr
 pI:FuncData
 eG:Addr
 jb:FuncData
 jR:Addr
 nG:FuncData
 oO:Addr
 uB:FuncData
 eK:Addr
 jc:FuncData
 oQ:Addr
 uC:FuncData
 jK:Addr
 pJ:FuncData
 kX:Addr
 pK:FuncData
 jS:Addr
 nI:FuncData
 dJ:Addr
 j6:FuncData
 eZ:Addr
 kj:FuncData
 jT:Addr
 nJ:FuncData
 iz:Addr
 kY:FuncData
 jU:Addr
 nL:FuncData
 fS:Addr
 kZ:FuncData
 gg:Addr
 ko:FuncData
 jd:Addr
 pL:FuncData
 je:Addr
 pM:FuncData
 gi:Addr
 kr:FuncData
 gj:Addr
 ku:FuncData
 fF:Addr
 j7:FuncData
 p8:Addr
 yR:FuncData
 i6:Addr
 lg:FuncData
 i7:Addr
 lu:FuncData
 jV:Addr
 nM:FuncData
 gn:Addr
 k6:FuncData
 fh:Addr
 k7:Addr
 dM:Addr
abbrev b5 (K:Zqq) (n q:Str) (s:Stmt) (f:Addr):Prop:=∃ oc kV dc pm cd ct od an sl,K.lookup f=some ⟨oc,od,.func (PySem.W.fnOf n q (yP s) (tE s) (aF s) .none kV dc pm an cd ct),sl⟩/\PySem.W.codeIn K cd q=true/\PySem.W.keepIn K (.ref f)=true
theorem b5.mk {K:Zqq} {n q:Str} {s:Stmt} {f:Addr} {oc kV dc pm cd ct:Value} {od an:Option Addr} {sl:Array (Option Value)} (a:K.lookup f=some ⟨oc,od,.func (PySem.W.fnOf n q (yP s) (tE s) (aF s) .none kV dc pm an cd ct),sl⟩) (b:PySem.W.codeIn K cd q=true) (c:PySem.W.keepIn K (.ref f)=true):b5 K n q s f:=⟨_,_,_,_,_,_,_,_,_,a,b,c⟩
theorem b5.fn {K:Zqq} {n q:Str} {s:Stmt} {f:Addr} (h:b5 K n q s f):∃ d,kg K n q s f d:=let ⟨_,_,_,_,_,_,_,_,_,a,b,c⟩:=h;⟨_,Zg a b c⟩
theorem b5.kp {K:Zqq} {n q:Str} {s:Stmt} {f:Addr} (h:b5 K n q s f):PySem.W.keepIn K (.ref f)=true:=let ⟨_,_,_,_,_,_,_,_,_,_,_,c⟩:=h;c
structure Txt (K:Zqq) (mg:Str->Option Value) (t:Ad):Prop where
 nN:kg K "__init__" "Graph.__init__" vg t.dB t.jO
 vy:Binds K t.jO ["self","atoms","bonds"] []
 k8:kg K "besides" "Graph.besides" qj t.bH t.dF
 iQ:Binds K t.dF ["self","end","other"] []
 j8:kg K "__init__" "FormFault.__init__" oJ t.dH t.j3
 uD:Binds K t.j3 ["self","which","rule","place"] []
 mj:kg K "__init__" "Reader.__init__" ud t.gK t.mh
 uf:Binds K t.mh ["self","form","which"] []
 ly:kg K "fault" "Reader.fault" rg t.fN t.kT
 dj:Binds K t.kT ["self","rule","place"] []
 fU:kg K "take_number" "Reader.take_number" kP t.bX t.fO
 l6:Binds K t.fO ["self","size"] []
 f9:kg K "take_between" "Reader.take_between" kH t.bM t.fu
 aI:Binds K t.fu ["self","size","least","greatest"] []
 gz:kg K "take_range" "Reader.take_range" lU t.cz t.gu
 g8:Binds K t.gu ["self","size","most"] []
 i8:kg K "take_mark" "Reader.take_mark" mF t.cA t.gX
 r9:Binds K t.gX ["self","mark"] []
 g9:kg K "take_atoms" "Reader.take_atoms" lV t.bP t.eT
 qx:Binds K t.eT ["self","n","take_atom"] []
 i9:kg K "take_pair" "Reader.take_pair" mG t.cB t.gY
 rC:Binds K t.gY ["self","n","before"] []
 gA:kg K "take_bonds" "Reader.take_bonds" lW t.bQ t.eU
 qy:Binds K t.eU ["self","n","m","take_bond"] []
 jg:kg K "take_end" "Reader.take_end" ny t.cT t.iY
 tL:Binds K t.iY ["self"] []
 jh:kg K "__init__" "SaidOfAtom.__init__" n6 t.cU t.iZ
 tM:Binds K t.iZ ["self","named","isotope","charge","hydrogens","neighbours","total","ring","hand"] []
 ji:kg K "__init__" "SaidOfBond.__init__" n8 t.cV t.ja
 tN:Binds K t.ja ["self","pair","orders","how","ring","side"] []
 mq:kg K "__init__" "Search.__init__" ue t.gM t.mi
 zw:Binds K t.mi ["self","pattern","molecule"] []
 iA:kg K "atom_fits" "Search.atom_fits" mH t.cE t.gZ
 rD:Binds K t.gZ ["self","said","k"] []
 iB:kg K "bond_fits" "Search.bond_fits" mJ t.cF t.ic
 rE:Binds K t.ic ["self","said","k"] []
 iC:kg K "images_of" "Search.images_of" mK t.cG t.ie
 rF:Binds K t.ie ["self","said"] []
 fV:kg K "longer_rows" "Search.longer_rows" kQ t.bY t.fP
 pN:Binds K t.fP ["self","rows","images","bonds_back"] []
 dN:kg K "joined_as_said" "Search.joined_as_said" fY t.bC t.dI
 mT:Binds K t.dI ["self","row","image","bonds_back"] []
 iD:kg K "hands_fit" "Search.hands_fit" mL t.cH t.ig
 rG:Binds K t.ig ["self","row"] []
 iE:kg K "hand_read" "Search.hand_read" mO t.cI t.ir
 rH:Binds K t.ir ["self","row","k"] []
 iF:kg K "sides_fit" "Search.sides_fit" mP t.cJ t.iu
 rJ:Binds K t.iu ["self","row"] []
 iG:kg K "side_read" "Search.side_read" jN t.cj t.iw
 rK:Binds K t.iw ["self","row","said"] []
 fW:kg K "keeps_least" "Search.keeps_least" kR t.bZ t.fQ
 l7:Binds K t.fQ ["self","row","end","other"] []
 pO:kg K "__init__" "Atom.__init__" xC t.jI t.pG
 CS:Binds K t.pG ["self","element","isotope","charge","hydrogens","hand"] []
 pP:kg K "__init__" "Bond.__init__" xD t.jJ t.pH
 CT:Binds K t.pH ["self","pair","order","side"] []
 k9:kg K "__init__" "Molecule.__init__" qk t.eY t.ki
 wu:Binds K t.ki ["self","atoms","bonds"] []
 fB:kg K "row_around" "Molecule.row_around" kJ t.bN t.fz
 oq:Binds K t.fz ["self","atom"] []
 fq:kg K "orders_between" "Molecule.orders_between" lS t.bJ t.fk
 sX:Binds K t.fk ["self","atom","other"] []
 DY:kg K "_wall" "_wall" Po t.yQ t.DX
 Wr:Binds K t.DX ["k"] []
 gT:kg K "neighbour_rows" "neighbour_rows" oK t.fD t.j4
 uE:Binds K t.j4 ["n","bonds"] []
 jW:kg K "take_graph" "take_graph" vh t.gG t.jP
 vz:Binds K t.jP ["reader","mark","take_atom","take_bond"] []
 j9:kg K "read_pattern" "read_pattern" rj t.iy t.kU
 xK:Binds K t.kU ["form","which"] []
 qO:kg K "turns" "turns" Jo t.vv t.A1
 A2:Binds K t.A1 ["hand_or_side"] []
 gU:kg K "ends_take_side" "ends_take_side" oM t.fE t.j5
 uF:Binds K t.j5 ["pattern","bond"] []
 eV:kg K "take_said_of_atom" "take_said_of_atom" lX t.bR t.gw
 qz:Binds K t.gw ["reader"] []
 lM:kg K "take_named" "take_named" vj t.jQ t.nF
 A3:Binds K t.nF ["reader"] []
 eW:kg K "take_said_of_bond" "take_said_of_bond" lZ t.bS t.gx
 qA:Binds K t.gx ["reader","pair"] []
 cY:kg K "least_through_bonds" "least_through_bonds" kK t.c5 t.f6
 ow:Binds K t.f6 ["molecule"] []
 dP:kg K "least_through_bond" "least_through_bond" iX t.cg t.fR
 pQ:Binds K t.fR ["molecule","bond"] []
 cZ:kg K "least_through_atoms" "least_through_atoms" iL t.bO t.f7
 oz:Binds K t.f7 ["molecule","through_bonds"] []
 nO:kg K "within" "within" EH t.r8 t.xJ
 xM:Binds K t.xJ ["number","bounds"] []
 l8:kg K "ring_fits" "ring_fits" xE t.kW t.pI
 xN:Binds K t.pI ["said","least_ring"] []
 eN:kg K "is_told_as_said" "is_told_as_said" nA t.eG t.jb
 nP:Binds K t.jb ["said","told"] []
 lN:kg K "orders_fit" "orders_fit" vm t.jR t.nG
 A4:Binds K t.nG ["said","drawn"] []
 oR:kg K "read_as" "read_as" Cb t.oO t.uB
 Cd:Binds K t.uB ["hand_or_side","other"] []
 fZ:kg K "is_odd_exchange" "is_odd_exchange" nB t.eK t.jc
 tO:Binds K t.jc ["row","exchanged"] []
 qT:kg K "maps_of" "maps_of" Cc t.oQ t.uC
 Ie:Binds K t.uC ["pattern","molecule"] []
 mU:kg K "places_of" "places_of" tK t.jK t.pJ
 CU:Binds K t.pJ ["maps"] []
 l9:kg K "order_bit" "order_bit" xF t.kX t.pK
 xO:Binds K t.pK ["order"] []
 lO:kg K "order_sums" "order_sums" vo t.jS t.nI
 A5:Binds K t.nI ["n","bonds"] []
 gW:kg K "redrawn_orders" "redrawn_orders" lK t.dJ t.j6
 uG:Binds K t.j6 ["sums","bonds"] []
 iR:kg K "states_behind" "states_behind" m6 t.eZ t.kj
 wz:Binds K t.kj ["states","bonds","k"] []
 jX:kg K "less_order" "less_order" vp t.jT t.nJ
 vA:Binds K t.nJ ["state","bond","order"] []
 iH:kg K "bonds_behind" "bonds_behind" rm t.iz t.kY
 rL:Binds K t.kY ["bonds","k","atom"] []
 jY:kg K "can_be_met" "can_be_met" vq t.jU t.nL
 vC:Binds K t.nL ["left","bonds"] []
 jA:kg K "pair_numbers" "pair_numbers" nE t.fS t.kZ
 xP:Binds K t.kZ ["bonds"] []
 iS:kg K "read_molecule" "read_molecule" ql t.gg t.ko
 w6:Binds K t.ko ["form","which"] []
 mV:kg K "take_atom" "take_atom" xG t.jd t.pL
 CV:Binds K t.pL ["reader"] []
 mW:kg K "take_bond" "take_bond" xH t.je t.pM
 CW:Binds K t.pM ["reader","pair"] []
 iT:kg K "may_have_hand" "may_have_hand" qo t.gi t.kr
 w9:Binds K t.kr ["molecule","k"] []
 iU:kg K "may_have_side" "may_have_side" qp t.gj t.ku
 wA:Binds K t.ku ["molecule","k"] []
 fG:kg K "end_takes_side" "end_takes_side" oN t.fF t.j7
 oS:Binds K t.j7 ["molecule","end","other"] []
 yS:kg K "place" "place" Jp t.p8 t.yR
 Ws:Binds K t.yR ["k","pattern","molecule"] []
 jB:kg K "maps_between" "maps_between" rq t.i6 t.lg
 xQ:Binds K t.lg ["pattern","molecule"] []
 jC:kg K "fault_answer" "fault_answer" r6 t.i7 t.lu
 xR:Binds K t.lu ["fault"] []
 lP:kg K "row_answer" "row_answer" vt t.jV t.nM
 A6:Binds K t.nM ["row"] []
 iV:kg K "answer_of_one" "answer_of_one" qt t.gn t.k6
 wB:Binds K t.k6 ["k","rows"] []
 Wt:mg "_wall"=some (.ref t.yQ)
 uH:mg "neighbour_rows"=some (.ref t.fD)
 vD:mg "take_graph"=some (.ref t.gG)
 xS:mg "read_pattern"=some (.ref t.iy)
 A7:mg "turns"=some (.ref t.vv)
 uI:mg "ends_take_side"=some (.ref t.fE)
 qB:mg "take_said_of_atom"=some (.ref t.bR)
 A8:mg "take_named"=some (.ref t.jQ)
 qC:mg "take_said_of_bond"=some (.ref t.bS)
 o6:mg "least_through_bonds"=some (.ref t.c5)
 pR:mg "least_through_bond"=some (.ref t.cg)
 o7:mg "least_through_atoms"=some (.ref t.bO)
 xT:mg "within"=some (.ref t.r8)
 xU:mg "ring_fits"=some (.ref t.kW)
 nQ:mg "is_told_as_said"=some (.ref t.eG)
 A9:mg "orders_fit"=some (.ref t.jR)
 Ce:mg "read_as"=some (.ref t.oO)
 tP:mg "is_odd_exchange"=some (.ref t.eK)
 Ig:mg "maps_of"=some (.ref t.oQ)
 CY:mg "places_of"=some (.ref t.jK)
 xV:mg "order_bit"=some (.ref t.kX)
 AA:mg "order_sums"=some (.ref t.jS)
 uJ:mg "redrawn_orders"=some (.ref t.dJ)
 wC:mg "states_behind"=some (.ref t.eZ)
 vE:mg "less_order"=some (.ref t.jT)
 rM:mg "bonds_behind"=some (.ref t.iz)
 vF:mg "can_be_met"=some (.ref t.jU)
 xW:mg "pair_numbers"=some (.ref t.fS)
 wD:mg "read_molecule"=some (.ref t.gg)
 CZ:mg "take_atom"=some (.ref t.jd)
 Dc:mg "take_bond"=some (.ref t.je)
 wG:mg "may_have_hand"=some (.ref t.gi)
 wH:mg "may_have_side"=some (.ref t.gj)
 oU:mg "end_takes_side"=some (.ref t.fF)
 Pp:mg "place"=some (.ref t.p8)
 xX:mg "maps_between"=some (.ref t.i6)
 xY:mg "fault_answer"=some (.ref t.i7)
 AB:mg "row_answer"=some (.ref t.jV)
 wI:mg "answer_of_one"=some (.ref t.gn)
 Jq:mg "Graph"=some (.ref t.bK)
 jj:DQ K t.bK
 Pq:Mk K t.bK t.dB
 m7:Meth K t.bK "besides" t.bH
 gO:b8 K t.bK "atoms"
 gP:b8 K t.bK "bonds"
 cK:b8 K t.bK "neighbours"
 xZ:mg "FormFault"=some (.ref t.aH)
 jk:QA K t.aH t.dH ["__getattribute__","__getattr__","__setattr__","which","rule","place"]
 EI:mg "Reader"=some (.ref t.aG)
 aL:DQ K t.aG
 EJ:Mk K t.aG t.gK
 dw:Meth K t.aG "fault" t.fN
 lA:Meth K t.aG "take_number" t.bX
 aJ:Meth K t.aG "take_between" t.bM
 gB:Meth K t.aG "take_range" t.cz
 rN:Meth K t.aG "take_mark" t.cA
 qD:Meth K t.aG "take_atoms" t.bP
 rO:Meth K t.aG "take_pair" t.cB
 qE:Meth K t.aG "take_bonds" t.bQ
 tQ:Meth K t.aG "take_end" t.cT
 gQ:b8 K t.aG "form"
 lB:b8 K t.aG "which"
 bL:b8 K t.aG "place"
 cM:b8 K t.aG "hand_places"
 cO:b8 K t.aG "side_places"
 AD:mg "SaidOfAtom"=some (.ref t.aO)
 b7:DQ K t.aO
 AE:Mk K t.aO t.cU
 fH:b8 K t.aO "named"
 dQ:b8 K t.aO "isotope"
 gC:b8 K t.aO "charge"
 eO:b8 K t.aO "hydrogens"
 dS:b8 K t.aO "neighbours"
 iI:b8 K t.aO "total"
 jl:b8 K t.aO "ring"
 cW:b8 K t.aO "hand"
 AF:mg "SaidOfBond"=some (.ref t.aP)
 bc:DQ K t.aP
 AG:Mk K t.aP t.cV
 dz:b8 K t.aP "a"
 d8:b8 K t.aP "b"
 cR:b8 K t.aP "orders"
 jD:b8 K t.aP "how"
 jn:b8 K t.aP "ring"
 cX:b8 K t.aP "side"
 LD:mg "Search"=some (.ref t.aX)
 bB:DQ K t.aX
 LF:Mk K t.aX t.gM
 rP:Meth K t.aX "atom_fits" t.cE
 rQ:Meth K t.aX "bond_fits" t.cF
 rR:Meth K t.aX "images_of" t.cG
 pS:Meth K t.aX "longer_rows" t.bY
 mX:Meth K t.aX "joined_as_said" t.bC
 rS:Meth K t.aX "hands_fit" t.cH
 rT:Meth K t.aX "hand_read" t.cI
 rV:Meth K t.aX "sides_fit" t.cJ
 rW:Meth K t.aX "side_read" t.cj
 lC:Meth K t.aX "keeps_least" t.bZ
 dU:b8 K t.aX "pattern"
 bq:b8 K t.aX "molecule"
 eX:b8 K t.aX "bond_rings"
 gD:b8 K t.aX "atom_rings"
 TH:mg "Atom"=some (.ref t.eB)
 mQ:DQ K t.eB
 TJ:Mk K t.eB t.jI
 lD:b8 K t.eB "element"
 lE:b8 K t.eB "isotope"
 mr:b8 K t.eB "charge"
 fJ:b8 K t.eB "hydrogens"
 lF:b8 K t.eB "hand"
 TM:mg "Bond"=some (.ref t.eE)
 gH:DQ K t.eE
 TN:Mk K t.eE t.jJ
 kC:b8 K t.eE "a"
 kD:b8 K t.eE "b"
 lQ:b8 K t.eE "order"
 lG:b8 K t.eE "side"
 EK:mg "Molecule"=some (.ref t.aT)
 aY:DQ K t.aT
 EL:Mk K t.aT t.eY
 o8:Meth K t.aT "row_around" t.bN
 sY:Meth K t.aT "orders_between" t.bJ
 mR:Meth K t.aT "besides" t.bH
 bU:b8 K t.aT "atoms"
 cP:b8 K t.aT "bonds"
 b9:b8 K t.aT "neighbours"
 iW:b8 K t.aT "sums"
 gb:b8 K t.aT "orders"
 bV:b8 K t.aT "bond_numbers"
 AH:Yk K t.bK "__init__" t.dB
 AI:∃ tk,mg "WRONG_MARK"=some (.int (1) tk)
 wJ:∃ tk,mg "OUT_OF_BOUNDS"=some (.int (2) tk)
 AJ:∃ tk,mg "NOT_BEHIND"=some (.int (3) tk)
 oV:∃ tk,mg "HAND_MISPLACED"=some (.int (4) tk)
 AK:∃ tk,mg "ENDS_EARLY"=some (.int (5) tk)
 oW:∃ tk,mg "SIDE_MISPLACED"=some (.int (6) tk)
 Dd:∃ tk,mg "LEFT_OVER"=some (.int (7) tk)
 AL:∃ tk,mg "MOST_ATOMS"=some (.int (128) tk)
 AM:∃ tk,mg "MOST_BONDS"=some (.int (192) tk)
 rX:∃ tk,mg "MOST_ELEMENT"=some (.int (118) tk)
 ug:∃ tk,mg "MOST_CHARGE"=some (.int (8) tk)
 oX:∃ tk,mg "MOST_HYDROGENS"=some (.int (7) tk)
 AO:∃ tk,mg "MOST_NAMED"=some (.int (8) tk)
 uh:∃ tk,mg "ANY_ISOTOPE"=some (.int (501) tk)
 tR:∃ tk,mg "MOST_NEIGHBOURS"=some (.int (127) tk)
 EM:∃ tk,mg "MOST_SUM"=some (.int (381) tk)
 yc:∃ tk,mg "MOST_RING"=some (.int (2) tk)
 AQ:∃ tk,mg "ANY_ORDERS"=some (.int (7) tk)
 oY:∃ tk,mg "ALL_REDRAWINGS"=some (.int (1) tk)
 EN:∃ tk,mg "EITHER"=some (.int (0) tk)
 tS:∃ tk,mg "NONE_TOLD"=some (.int (3) tk)
 yT:∃ tk,mg "NO_RING"=some (.int (0) tk)
 Ih:∃ tk,mg "IN_RING"=some (.int (1) tk)
 uo:∃ tk,mg "LEAST_ORDER"=some (.int (1) tk)
 oZ:∃ tk,mg "GREATEST_ORDER"=some (.int (3) tk)
 yd:∃ tk,mg "MOST_ISOTOPE"=some (.int (500) tk)
 De:∃ tk,mg "MOST_HAND"=some (.int (2) tk)
 Df:∃ tk,mg "MOST_SIDE"=some (.int (2) tk)
 Ii:∃ tk,mg "NO_ATOM"=some (.int (-1) tk)
 EO:∃ tk,mg "ANSWERED"=some (.int (0) tk)
 Ij:∃ tk,mg "NO_MORE"=some (.int (-2) tk)
 zx:∃ tk,mg "FAULTY_FORM"=some (.int (-5) tk)
 AR:∃ tk,mg "FIRST_FORM"=some (.int (0) tk)
 zy:∃ tk,mg "SECOND_FORM"=some (.int (1) tk)
 wK:mg "MARK_patterns"=some (.ref t.fh)
 wL:∀ H,oj K H t.fh [.int 70,.int 75,.int 80,.int 49]
 ER:mg "ORDERS"=some (.ref t.k7)
 ye:∀ H,oj K H t.k7 [.int 1,.int 2,.int 3]
 uK:mg "MARK_molecules"=some (.ref t.dM)
 uL:∀ H,oj K H t.dM [.int 70,.int 75,.int 77,.int 49]
 jq:mg "enumerate"=none
 kM:mg "len"=none
 Oa:mg "list"=none
 Yn:mg "min"=none
 p9:mg "range"=none
 LG:mg "sorted"=none
 DZ:mg "tuple"=none
theorem qP {α:Type} {P:List α->Prop} (h:∀ a0,P [a0]) (us:List α) (hl:us.length=1):P us:=match us,hl with | [a0],_=>h a0
theorem oh {α:Type} {P:List α->Prop} (h:∀ a0 a1,P [a0,a1]) (us:List α) (hl:us.length=2):P us:=match us,hl with | [a0,a1],_=>h a0 a1
theorem vG {α:Type} {P:List α->Prop} (h:∀ a0 a1 a2,P [a0,a1,a2]) (us:List α) (hl:us.length=3):P us:=match us,hl with | [a0,a1,a2],_=>h a0 a1 a2
theorem LH {α:Type} {P:List α->Prop} (h:∀ a0 a1 a2 a3,P [a0,a1,a2,a3]) (us:List α) (hl:us.length=4):P us:=match us,hl with | [a0,a1,a2,a3],_=>h a0 a1 a2 a3
theorem aba {α:Type} {P:List α->Prop} (h:∀ a0 a1 a2 a3 a4 a5,P [a0,a1,a2,a3,a4,a5]) (us:List α) (hl:us.length=6):P us:=match us,hl with | [a0,a1,a2,a3,a4,a5],_=>h a0 a1 a2 a3 a4 a5
theorem ac1 {α:Type} {P:List α->Prop} (h:∀ a0 a1 a2 a3 a4 a5 a6 a7 a8,P [a0,a1,a2,a3,a4,a5,a6,a7,a8]) (us:List α) (hl:us.length=9):P us:=match us,hl with | [a0,a1,a2,a3,a4,a5,a6,a7,a8],_=>h a0 a1 a2 a3 a4 a5 a6 a7 a8
open PySem.W in
set_option maxHeartbeats 4000000 in
theorem Zx {K:Zqq} {h:Heap} {mg:Str->Option Value} (X:K.In h) (G:h.Ns mainGlobals mg)
   {bK aH aG aO aP aX eB eE aT dB bH dH gK fN bX bM cz cA bP cB bQ cT cU cV gM cE cF cG bY bC cH cI cJ cj bZ jI jJ eY bN bJ yQ fD gG iy vv fE bR jQ bS c5 cg bO r8 kW eG jR oO eK oQ jK kX jS dJ eZ jT iz jU fS gg jd je gi gj fF p8 i6 i7 jV gn fh k7 dM:Addr}
   {Jr LI:Str} {gR:Addr} {Js Gv:List Value} {Jt:List Str} {Ju:Bool} {Gw:Option Bool} {Jv Jw:Option Addr} {Jx Jy Jz J0 J1:Option Value} {J2:Value} {z6:Array DictEntry} {J3:Nat} {Gx:Array (Option Value)}
   {Gy:Tok}
   {Cf:Tok}
   {Gz:Tok}
   {AU:Tok}
   {G0:Tok}
   {AV:Tok}
   {J9:Tok}
   {G5:Tok}
   {G6:Tok}
   {Dv:Tok}
   {ES:Tok}
   {AW:Tok}
   {G7:Tok}
   {ET:Tok}
   {zF:Tok}
   {LJ:Tok}
   {JA:Tok}
   {G8:Tok}
   {AX:Tok}
   {QK:Tok}
   {JB:Tok}
   {Ob:Tok}
   {Oc:Tok}
   {EU:Tok}
   {AY:Tok}
   {Dy:Tok}
   {JC:Tok}
   {JD:Tok}
   {Od:Tok}
   {LK:Tok}
   {Oe:Tok}
   {EV:Tok}
   {G9:Tok}
   {EW:Tok}
   {Cg:Option Addr} {Ci:Nat} {AZ:Array (Option Value)} {Cj Ck Cm Cn:Tok}
   {QL:Option Addr} {QM:Nat} {Of:Array (Option Value)} {QN QO QR:Tok}
   {Ba:Option Addr} {Bb:Nat} {zG:Array (Option Value)} {Bc Bd Be Bf:Tok}
   (Wu:nsIn K mainGlobals "Graph"=some (some (.ref bK)))
   (TQ:plainGet K bK Str.empty=true)
   (TR:hasDictIn K bK=true)
   (TU:plainOver K bK=true)
   (TV:findIn K (.ref bK) "__setattr__"=some (some (.builtin "object.__setattr__")))
   (JE:findIn K (.ref bK) "__init__"=some (some (.ref dB)))
   (JF:isFn K (.ref dB)=true)
   (Dz:findIn K (.ref bK) "besides"=some (some (.ref bH)))
   (wM:isFn K (.ref bH)=true)
   (TX:makesIn K bK=true)
   (TY:keepIn K (.ref bK)=true)
   (gO:findIn K (.ref bK) "atoms"=some none)
   (gP:findIn K (.ref bK) "bonds"=some none)
   (cK:findIn K (.ref bK) "neighbours"=some none)
   (LL:nsIn K mainGlobals "FormFault"=some (some (.ref aH)))
   (LM:K.lookup aH=some (excClassObj Jr LI aH gR Js XL.gF true Jt Gv Ju Gw Jv Jx Jy Jz J0 J1 "Exception.__new__"))
   (JG:K.lookup gR=some ⟨J2,Jw,.dict z6 J3,Gx⟩)
   (JH:nsIn K gR "__init__"=some (some (.ref dH)))
   (JI:isFn K (.ref dH)=true)
   (JJ:keepIn K (.ref aH)=true)
   (JK:findIn K (.ref aH) "__setattr__"=some (some (.builtin "object.__setattr__")))
   (sZ:nsIn K gR "__getattribute__"=some none)
   (yf:nsIn K gR "__getattr__"=some none)
   (yg:nsIn K gR "__setattr__"=some none)
   (zH:nsIn K gR "which"=some none)
   (Bg:nsIn K gR "rule"=some none)
   (zI:nsIn K gR "place"=some none)
   (TZ:nsIn K mainGlobals "Reader"=some (some (.ref aG)))
   (QS:plainGet K aG Str.empty=true)
   (QT:hasDictIn K aG=true)
   (QU:plainOver K aG=true)
   (QV:findIn K (.ref aG) "__setattr__"=some (some (.builtin "object.__setattr__")))
   (GC:findIn K (.ref aG) "__init__"=some (some (.ref gK)))
   (GD:isFn K (.ref gK)=true)
   (EY:findIn K (.ref aG) "fault"=some (some (.ref fN)))
   (EZ:isFn K (.ref fN)=true)
   (yh:findIn K (.ref aG) "take_number"=some (some (.ref bX)))
   (yi:isFn K (.ref bX)=true)
   (wQ:findIn K (.ref aG) "take_between"=some (some (.ref bM)))
   (wR:isFn K (.ref bM)=true)
   (ze:findIn K (.ref aG) "take_range"=some (some (.ref cz)))
   (zf:isFn K (.ref cz)=true)
   (zJ:findIn K (.ref aG) "take_mark"=some (some (.ref cA)))
   (zK:isFn K (.ref cA)=true)
   (zg:findIn K (.ref aG) "take_atoms"=some (some (.ref bP)))
   (zh:isFn K (.ref bP)=true)
   (zL:findIn K (.ref aG) "take_pair"=some (some (.ref cB)))
   (zM:isFn K (.ref cB)=true)
   (zj:findIn K (.ref aG) "take_bonds"=some (some (.ref bQ)))
   (zk:isFn K (.ref bQ)=true)
   (Bh:findIn K (.ref aG) "take_end"=some (some (.ref cT)))
   (Bj:isFn K (.ref cT)=true)
   (QW:makesIn K aG=true)
   (QX:keepIn K (.ref aG)=true)
   (gQ:findIn K (.ref aG) "form"=some none)
   (lB:findIn K (.ref aG) "which"=some none)
   (bL:findIn K (.ref aG) "place"=some none)
   (cM:findIn K (.ref aG) "hand_places"=some none)
   (cO:findIn K (.ref aG) "side_places"=some none)
   (JL:nsIn K mainGlobals "SaidOfAtom"=some (some (.ref aO)))
   (GQ:plainGet K aO Str.empty=true)
   (GU:hasDictIn K aO=true)
   (GV:plainOver K aO=true)
   (GX:findIn K (.ref aO) "__setattr__"=some (some (.builtin "object.__setattr__")))
   (Bk:findIn K (.ref aO) "__init__"=some (some (.ref cU)))
   (Bl:isFn K (.ref cU)=true)
   (GY:makesIn K aO=true)
   (GZ:keepIn K (.ref aO)=true)
   (fH:findIn K (.ref aO) "named"=some none)
   (dQ:findIn K (.ref aO) "isotope"=some none)
   (gC:findIn K (.ref aO) "charge"=some none)
   (eO:findIn K (.ref aO) "hydrogens"=some none)
   (dS:findIn K (.ref aO) "neighbours"=some none)
   (iI:findIn K (.ref aO) "total"=some none)
   (jl:findIn K (.ref aO) "ring"=some none)
   (cW:findIn K (.ref aO) "hand"=some none)
   (JN:nsIn K mainGlobals "SaidOfBond"=some (some (.ref aP)))
   (Hf:plainGet K aP Str.empty=true)
   (Hg:hasDictIn K aP=true)
   (Hh:plainOver K aP=true)
   (Hi:findIn K (.ref aP) "__setattr__"=some (some (.builtin "object.__setattr__")))
   (Bq:findIn K (.ref aP) "__init__"=some (some (.ref cV)))
   (Br:isFn K (.ref cV)=true)
   (Hj:makesIn K aP=true)
   (Hl:keepIn K (.ref aP)=true)
   (dz:findIn K (.ref aP) "a"=some none)
   (d8:findIn K (.ref aP) "b"=some none)
   (cR:findIn K (.ref aP) "orders"=some none)
   (jD:findIn K (.ref aP) "how"=some none)
   (jn:findIn K (.ref aP) "ring"=some none)
   (cX:findIn K (.ref aP) "side"=some none)
   (Ua:nsIn K mainGlobals "Search"=some (some (.ref aX)))
   (QY:plainGet K aX Str.empty=true)
   (QZ:hasDictIn K aX=true)
   (Ra:plainOver K aX=true)
   (Rc:findIn K (.ref aX) "__setattr__"=some (some (.builtin "object.__setattr__")))
   (Ho:findIn K (.ref aX) "__init__"=some (some (.ref gM)))
   (Hq:isFn K (.ref gM)=true)
   (zN:findIn K (.ref aX) "atom_fits"=some (some (.ref cE)))
   (zO:isFn K (.ref cE)=true)
   (zP:findIn K (.ref aX) "bond_fits"=some (some (.ref cF)))
   (zQ:isFn K (.ref cF)=true)
   (zR:findIn K (.ref aX) "images_of"=some (some (.ref cG)))
   (zS:isFn K (.ref cG)=true)
   (yj:findIn K (.ref aX) "longer_rows"=some (some (.ref bY)))
   (yk:isFn K (.ref bY)=true)
   (uM:findIn K (.ref aX) "joined_as_said"=some (some (.ref bC)))
   (uN:isFn K (.ref bC)=true)
   (zU:findIn K (.ref aX) "hands_fit"=some (some (.ref cH)))
   (zV:isFn K (.ref cH)=true)
   (zW:findIn K (.ref aX) "hand_read"=some (some (.ref cI)))
   (zX:isFn K (.ref cI)=true)
   (zY:findIn K (.ref aX) "sides_fit"=some (some (.ref cJ)))
   (zZ:isFn K (.ref cJ)=true)
   (Aa:findIn K (.ref aX) "side_read"=some (some (.ref cj)))
   (Ab:isFn K (.ref cj)=true)
   (ym:findIn K (.ref aX) "keeps_least"=some (some (.ref bZ)))
   (yp:isFn K (.ref bZ)=true)
   (Rf:makesIn K aX=true)
   (Rg:keepIn K (.ref aX)=true)
   (dU:findIn K (.ref aX) "pattern"=some none)
   (bq:findIn K (.ref aX) "molecule"=some none)
   (eX:findIn K (.ref aX) "bond_rings"=some none)
   (gD:findIn K (.ref aX) "atom_rings"=some none)
   (Zy:nsIn K mainGlobals "Atom"=some (some (.ref eB)))
   (Wv:plainGet K eB Str.empty=true)
   (Ww:hasDictIn K eB=true)
   (Wx:plainOver K eB=true)
   (Wy:findIn K (.ref eB) "__setattr__"=some (some (.builtin "object.__setattr__")))
   (LN:findIn K (.ref eB) "__init__"=some (some (.ref jI)))
   (LO:isFn K (.ref jI)=true)
   (Wz:makesIn K eB=true)
   (W0:keepIn K (.ref eB)=true)
   (lD:findIn K (.ref eB) "element"=some none)
   (lE:findIn K (.ref eB) "isotope"=some none)
   (mr:findIn K (.ref eB) "charge"=some none)
   (fJ:findIn K (.ref eB) "hydrogens"=some none)
   (lF:findIn K (.ref eB) "hand"=some none)
   (Zz:nsIn K mainGlobals "Bond"=some (some (.ref eE)))
   (W2:plainGet K eE Str.empty=true)
   (W4:hasDictIn K eE=true)
   (W5:plainOver K eE=true)
   (W6:findIn K (.ref eE) "__setattr__"=some (some (.builtin "object.__setattr__")))
   (LP:findIn K (.ref eE) "__init__"=some (some (.ref jJ)))
   (LQ:isFn K (.ref jJ)=true)
   (W7:makesIn K eE=true)
   (W8:keepIn K (.ref eE)=true)
   (kC:findIn K (.ref eE) "a"=some none)
   (kD:findIn K (.ref eE) "b"=some none)
   (lQ:findIn K (.ref eE) "order"=some none)
   (lG:findIn K (.ref eE) "side"=some none)
   (Og:nsIn K mainGlobals "Molecule"=some (some (.ref aT)))
   (LR:plainGet K aT Str.empty=true)
   (LS:hasDictIn K aT=true)
   (LU:plainOver K aT=true)
   (LV:findIn K (.ref aT) "__setattr__"=some (some (.builtin "object.__setattr__")))
   (D0:findIn K (.ref aT) "__init__"=some (some (.ref eY)))
   (D4:isFn K (.ref eY)=true)
   (wU:findIn K (.ref aT) "row_around"=some (some (.ref bN)))
   (wV:isFn K (.ref bN)=true)
   (tu:findIn K (.ref aT) "orders_between"=some (some (.ref bJ)))
   (tw:isFn K (.ref bJ)=true)
   (LW:makesIn K aT=true)
   (LX:keepIn K (.ref aT)=true)
   (Ac:findIn K (.ref aT) "besides"=some (some (.ref bH)))
   (bU:findIn K (.ref aT) "atoms"=some none)
   (cP:findIn K (.ref aT) "bonds"=some none)
   (b9:findIn K (.ref aT) "neighbours"=some none)
   (iW:findIn K (.ref aT) "sums"=some none)
   (gb:findIn K (.ref aT) "orders"=some none)
   (bV:findIn K (.ref aT) "bond_numbers"=some none)
   (Hr:specialIn K (.ref bK) "__getattribute__"=some (some (.builtin "type.__getattribute__")))
   (Hs:readsIn K bK (.type "type")=true)
   (Ht:findCls K (.ref bK) (.type "type") "__init__"=some (.val (.ref dB)))
   (W9:nsIn K mainGlobals "_wall"=some (some (.ref yQ)))
   (Co:nsIn K mainGlobals "neighbour_rows"=some (some (.ref fD)))
   (JO:nsIn K mainGlobals "take_graph"=some (some (.ref gG)))
   (Fb:nsIn K mainGlobals "read_pattern"=some (some (.ref iy)))
   (WA:nsIn K mainGlobals "turns"=some (some (.ref vv)))
   (Cp:nsIn K mainGlobals "ends_take_side"=some (some (.ref fE)))
   (zm:nsIn K mainGlobals "take_said_of_atom"=some (some (.ref bR)))
   (JP:nsIn K mainGlobals "take_named"=some (some (.ref jQ)))
   (zo:nsIn K mainGlobals "take_said_of_bond"=some (some (.ref bS)))
   (wW:nsIn K mainGlobals "least_through_bonds"=some (some (.ref c5)))
   (yq:nsIn K mainGlobals "least_through_bond"=some (some (.ref cg)))
   (wX:nsIn K mainGlobals "least_through_atoms"=some (some (.ref bO)))
   (Ub:nsIn K mainGlobals "within"=some (some (.ref r8)))
   (LY:nsIn K mainGlobals "ring_fits"=some (some (.ref kW)))
   (Bt:nsIn K mainGlobals "is_told_as_said"=some (some (.ref eG)))
   (JQ:nsIn K mainGlobals "orders_fit"=some (some (.ref jR)))
   (Rh:nsIn K mainGlobals "read_as"=some (some (.ref oO)))
   (Bu:nsIn K mainGlobals "is_odd_exchange"=some (some (.ref eK)))
   (Ri:nsIn K mainGlobals "maps_of"=some (some (.ref oQ)))
   (LZ:nsIn K mainGlobals "places_of"=some (some (.ref jK)))
   (Ma:nsIn K mainGlobals "order_bit"=some (some (.ref kX)))
   (JR:nsIn K mainGlobals "order_sums"=some (some (.ref jS)))
   (Cq:nsIn K mainGlobals "redrawn_orders"=some (some (.ref dJ)))
   (D5:nsIn K mainGlobals "states_behind"=some (some (.ref eZ)))
   (JS:nsIn K mainGlobals "less_order"=some (some (.ref jT)))
   (Fc:nsIn K mainGlobals "bonds_behind"=some (some (.ref iz)))
   (JT:nsIn K mainGlobals "can_be_met"=some (some (.ref jU)))
   (Fd:nsIn K mainGlobals "pair_numbers"=some (some (.ref fS)))
   (D6:nsIn K mainGlobals "read_molecule"=some (some (.ref gg)))
   (Mb:nsIn K mainGlobals "take_atom"=some (some (.ref jd)))
   (Mc:nsIn K mainGlobals "take_bond"=some (some (.ref je)))
   (D7:nsIn K mainGlobals "may_have_hand"=some (some (.ref gi)))
   (D8:nsIn K mainGlobals "may_have_side"=some (some (.ref gj)))
   (Cr:nsIn K mainGlobals "end_takes_side"=some (some (.ref fF)))
   (WB:nsIn K mainGlobals "place"=some (some (.ref p8)))
   (Fe:nsIn K mainGlobals "maps_between"=some (some (.ref i6)))
   (Ff:nsIn K mainGlobals "fault_answer"=some (some (.ref i7)))
   (JU:nsIn K mainGlobals "row_answer"=some (some (.ref jV)))
   (D9:nsIn K mainGlobals "answer_of_one"=some (some (.ref gn)))
   (Bv:b5 K "__init__" "Graph.__init__" vg dB)
   (qu:b5 K "besides" "Graph.besides" qj bH)
   (Cs:b5 K "__init__" "FormFault.__init__" oJ dH)
   (Hu:b5 K "__init__" "Reader.__init__" ud gK)
   (yr:b5 K "fault" "Reader.fault" rg fN)
   (pU:b5 K "take_number" "Reader.take_number" kP bX)
   (o9:b5 K "take_between" "Reader.take_between" kH bM)
   (qF:b5 K "take_range" "Reader.take_range" lU cz)
   (rY:b5 K "take_mark" "Reader.take_mark" mF cA)
   (qG:b5 K "take_atoms" "Reader.take_atoms" lV bP)
   (rZ:b5 K "take_pair" "Reader.take_pair" mG cB)
   (qH:b5 K "take_bonds" "Reader.take_bonds" lW bQ)
   (tT:b5 K "take_end" "Reader.take_end" ny cT)
   (Bw:b5 K "__init__" "SaidOfAtom.__init__" n6 cU)
   (Bx:b5 K "__init__" "SaidOfBond.__init__" n8 cV)
   (Hv:b5 K "__init__" "Search.__init__" ue gM)
   (se:b5 K "atom_fits" "Search.atom_fits" mH cE)
   (sf:b5 K "bond_fits" "Search.bond_fits" mJ cF)
   (sr:b5 K "images_of" "Search.images_of" mK cG)
   (pV:b5 K "longer_rows" "Search.longer_rows" kQ bY)
   (mY:b5 K "joined_as_said" "Search.joined_as_said" fY bC)
   (sA:b5 K "hands_fit" "Search.hands_fit" mL cH)
   (sC:b5 K "hand_read" "Search.hand_read" mO cI)
   (sE:b5 K "sides_fit" "Search.sides_fit" mP cJ)
   (sF:b5 K "side_read" "Search.side_read" jN cj)
   (pW:b5 K "keeps_least" "Search.keeps_least" kR bZ)
   (Me:b5 K "__init__" "Atom.__init__" xC jI)
   (Mf:b5 K "__init__" "Bond.__init__" xD jJ)
   (DA:b5 K "__init__" "Molecule.__init__" qk eY)
   (oA:b5 K "row_around" "Molecule.row_around" kJ bN)
   (lT:b5 K "orders_between" "Molecule.orders_between" lS bJ)
   (WC:b5 K "_wall" "_wall" Po yQ)
   (Ct:b5 K "neighbour_rows" "neighbour_rows" oK fD)
   (JV:b5 K "take_graph" "take_graph" vh gG)
   (Fg:b5 K "read_pattern" "read_pattern" rj iy)
   (WD:b5 K "turns" "turns" Jo vv)
   (Cu:b5 K "ends_take_side" "ends_take_side" oM fE)
   (zp:b5 K "take_said_of_atom" "take_said_of_atom" lX bR)
   (JW:b5 K "take_named" "take_named" vj jQ)
   (zq:b5 K "take_said_of_bond" "take_said_of_bond" lZ bS)
   (wY:b5 K "least_through_bonds" "least_through_bonds" kK c5)
   (yt:b5 K "least_through_bond" "least_through_bond" iX cg)
   (wZ:b5 K "least_through_atoms" "least_through_atoms" iL bO)
   (Uc:b5 K "within" "within" EH r8)
   (Mg:b5 K "ring_fits" "ring_fits" xE kW)
   (By:b5 K "is_told_as_said" "is_told_as_said" nA eG)
   (JX:b5 K "orders_fit" "orders_fit" vm jR)
   (Rj:b5 K "read_as" "read_as" Cb oO)
   (B6:b5 K "is_odd_exchange" "is_odd_exchange" nB eK)
   (Rk:b5 K "maps_of" "maps_of" Cc oQ)
   (Mh:b5 K "places_of" "places_of" tK jK)
   (Mi:b5 K "order_bit" "order_bit" xF kX)
   (JY:b5 K "order_sums" "order_sums" vo jS)
   (Cv:b5 K "redrawn_orders" "redrawn_orders" lK dJ)
   (DB:b5 K "states_behind" "states_behind" m6 eZ)
   (JZ:b5 K "less_order" "less_order" vp jT)
   (Fi:b5 K "bonds_behind" "bonds_behind" rm iz)
   (Ka:b5 K "can_be_met" "can_be_met" vq jU)
   (Fj:b5 K "pair_numbers" "pair_numbers" nE fS)
   (DC:b5 K "read_molecule" "read_molecule" ql gg)
   (Mj:b5 K "take_atom" "take_atom" xG jd)
   (Ml:b5 K "take_bond" "take_bond" xH je)
   (DE:b5 K "may_have_hand" "may_have_hand" qo gi)
   (DF:b5 K "may_have_side" "may_have_side" qp gj)
   (Cw:b5 K "end_takes_side" "end_takes_side" oN fF)
   (WE:b5 K "place" "place" Jp p8)
   (Fl:b5 K "maps_between" "maps_between" rq i6)
   (Fo:b5 K "fault_answer" "fault_answer" r6 i7)
   (Kc:b5 K "row_answer" "row_answer" vt jV)
   (DG:b5 K "answer_of_one" "answer_of_one" qt gn)
   (Kd:nsIn K mainGlobals "WRONG_MARK"=some (some (.int (1) Gy)))
   (DH:nsIn K mainGlobals "OUT_OF_BOUNDS"=some (some (.int (2) Cf)))
   (Ke:nsIn K mainGlobals "NOT_BEHIND"=some (some (.int (3) Gz)))
   (Cy:nsIn K mainGlobals "HAND_MISPLACED"=some (some (.int (4) AU)))
   (Kf:nsIn K mainGlobals "ENDS_EARLY"=some (some (.int (5) G0)))
   (Cz:nsIn K mainGlobals "SIDE_MISPLACED"=some (some (.int (6) AV)))
   (Mm:nsIn K mainGlobals "LEFT_OVER"=some (some (.int (7) J9)))
   (Kg:nsIn K mainGlobals "MOST_ATOMS"=some (some (.int (128) G5)))
   (Kh:nsIn K mainGlobals "MOST_BONDS"=some (some (.int (192) G6)))
   (Fp:nsIn K mainGlobals "MOST_ELEMENT"=some (some (.int (118) Dv)))
   (Hw:nsIn K mainGlobals "MOST_CHARGE"=some (some (.int (8) ES)))
   (C0:nsIn K mainGlobals "MOST_HYDROGENS"=some (some (.int (7) AW)))
   (Kl:nsIn K mainGlobals "MOST_NAMED"=some (some (.int (8) G7)))
   (Hy:nsIn K mainGlobals "ANY_ISOTOPE"=some (some (.int (501) ET)))
   (B7:nsIn K mainGlobals "MOST_NEIGHBOURS"=some (some (.int (127) zF)))
   (Oh:nsIn K mainGlobals "MOST_SUM"=some (some (.int (381) LJ)))
   (Mn:nsIn K mainGlobals "MOST_RING"=some (some (.int (2) JA)))
   (Km:nsIn K mainGlobals "ANY_ORDERS"=some (some (.int (7) G8)))
   (C1:nsIn K mainGlobals "ALL_REDRAWINGS"=some (some (.int (1) AX)))
   (Ud:nsIn K mainGlobals "EITHER"=some (some (.int (0) QK)))
   (Mp:nsIn K mainGlobals "NONE_TOLD"=some (some (.int (3) JB)))
   (Rl:nsIn K mainGlobals "NO_RING"=some (some (.int (0) Ob)))
   (Rm:nsIn K mainGlobals "IN_RING"=some (some (.int (1) Oc)))
   (Hz:nsIn K mainGlobals "LEAST_ORDER"=some (some (.int (1) EU)))
   (C3:nsIn K mainGlobals "GREATEST_ORDER"=some (some (.int (3) AY)))
   (Fq:nsIn K mainGlobals "MOST_ISOTOPE"=some (some (.int (500) Dy)))
   (Mq:nsIn K mainGlobals "MOST_HAND"=some (some (.int (2) JC)))
   (Mr:nsIn K mainGlobals "MOST_SIDE"=some (some (.int (2) JD)))
   (Rn:nsIn K mainGlobals "NO_ATOM"=some (some (.int (-1) Od)))
   (Oi:nsIn K mainGlobals "ANSWERED"=some (some (.int (0) LK)))
   (Ro:nsIn K mainGlobals "NO_MORE"=some (some (.int (-2) Oe)))
   (HA:nsIn K mainGlobals "FAULTY_FORM"=some (some (.int (-5) EV)))
   (Kn:nsIn K mainGlobals "FIRST_FORM"=some (some (.int (0) G9)))
   (HB:nsIn K mainGlobals "SECOND_FORM"=some (some (.int (1) EW)))
   (DI:nsIn K mainGlobals "MARK_patterns"=some (some (.ref fh)))
   (DJ:K.lookup fh=some ⟨.type "tuple",Cg,.seq #[.int 70 Cj,.int 75 Ck,.int 80 Cm,.int 49 Cn] Ci,AZ⟩)
   (Ue:nsIn K mainGlobals "ORDERS"=some (some (.ref k7)))
   (Ug:K.lookup k7=some ⟨.type "tuple",QL,.seq #[.int 1 QN,.int 2 QO,.int 3 QR] QM,Of⟩)
   (C4:nsIn K mainGlobals "MARK_molecules"=some (some (.ref dM)))
   (C5:K.lookup dM=some ⟨.type "tuple",Ba,.seq #[.int 70 Bc,.int 75 Bd,.int 77 Be,.int 49 Bf] Bb,zG⟩)
   (Ms:nsIn K mainGlobals "enumerate"=some none)
   (abb:nsIn K mainGlobals "len"=some none)
   (Z0:nsIn K mainGlobals "list"=some none)
   (abc:nsIn K mainGlobals "min"=some none)
   (WG:nsIn K mainGlobals "range"=some none)
   (Uh:nsIn K mainGlobals "sorted"=some none)
   (WH:nsIn K mainGlobals "tuple"=some none)
   (vH:(z6.all fun e=>match e.key with | .str _ _=>true | _=>false)=true)
  :∃ t:Ad,t.p8=p8/\Txt K mg t:=by
 have Ft:nsOkIn K gR=true:=by unfold nsOkIn;rw [JG];exact vH
 obtain ⟨jO,nN⟩:=Bv.fn;obtain ⟨dF,k8⟩:=qu.fn;obtain ⟨j3,j8⟩:=Cs.fn;obtain ⟨mh,mj⟩:=Hu.fn;obtain ⟨kT,ly⟩:=yr.fn;obtain ⟨fO,fU⟩:=pU.fn;obtain ⟨fu,f9⟩:=o9.fn;obtain ⟨gu,gz⟩:=qF.fn;obtain ⟨gX,i8⟩:=rY.fn;obtain ⟨eT,g9⟩:=qG.fn;obtain ⟨gY,i9⟩:=rZ.fn;obtain ⟨eU,gA⟩:=qH.fn;obtain ⟨iY,jg⟩:=tT.fn;obtain ⟨iZ,jh⟩:=Bw.fn;obtain ⟨ja,ji⟩:=Bx.fn;obtain ⟨mi,mq⟩:=Hv.fn;obtain ⟨gZ,iA⟩:=se.fn;obtain ⟨ic,iB⟩:=sf.fn;obtain ⟨ie,iC⟩:=sr.fn;obtain ⟨fP,fV⟩:=pV.fn;obtain ⟨dI,dN⟩:=mY.fn;obtain ⟨ig,iD⟩:=sA.fn;obtain ⟨ir,iE⟩:=sC.fn;obtain ⟨iu,iF⟩:=sE.fn;obtain ⟨iw,iG⟩:=sF.fn;obtain ⟨fQ,fW⟩:=pW.fn;obtain ⟨pG,pO⟩:=Me.fn;obtain ⟨pH,pP⟩:=Mf.fn;obtain ⟨ki,k9⟩:=DA.fn;obtain ⟨fz,fB⟩:=oA.fn;obtain ⟨fk,fq⟩:=lT.fn;obtain ⟨DX,DY⟩:=WC.fn;obtain ⟨j4,gT⟩:=Ct.fn;obtain ⟨jP,jW⟩:=JV.fn;obtain ⟨kU,j9⟩:=Fg.fn;obtain ⟨A1,qO⟩:=WD.fn;obtain ⟨j5,gU⟩:=Cu.fn;obtain ⟨gw,eV⟩:=zp.fn;obtain ⟨nF,lM⟩:=JW.fn;obtain ⟨gx,eW⟩:=zq.fn;obtain ⟨f6,cY⟩:=wY.fn;obtain ⟨fR,dP⟩:=yt.fn;obtain ⟨f7,cZ⟩:=wZ.fn;obtain ⟨xJ,nO⟩:=Uc.fn;obtain ⟨pI,l8⟩:=Mg.fn;obtain ⟨jb,eN⟩:=By.fn;obtain ⟨nG,lN⟩:=JX.fn;obtain ⟨uB,oR⟩:=Rj.fn;obtain ⟨jc,fZ⟩:=B6.fn;obtain ⟨uC,qT⟩:=Rk.fn;obtain ⟨pJ,mU⟩:=Mh.fn;obtain ⟨pK,l9⟩:=Mi.fn;obtain ⟨nI,lO⟩:=JY.fn;obtain ⟨j6,gW⟩:=Cv.fn;obtain ⟨kj,iR⟩:=DB.fn;obtain ⟨nJ,jX⟩:=JZ.fn;obtain ⟨kY,iH⟩:=Fi.fn;obtain ⟨nL,jY⟩:=Ka.fn;obtain ⟨kZ,jA⟩:=Fj.fn;obtain ⟨ko,iS⟩:=DC.fn;obtain ⟨pL,mV⟩:=Mj.fn;obtain ⟨pM,mW⟩:=Ml.fn;obtain ⟨kr,iT⟩:=DE.fn;obtain ⟨ku,iU⟩:=DF.fn;obtain ⟨j7,fG⟩:=Cw.fn;obtain ⟨yR,yS⟩:=WE.fn;obtain ⟨lg,jB⟩:=Fl.fn;obtain ⟨lu,jC⟩:=Fo.fn;obtain ⟨nM,lP⟩:=Kc.fn;obtain ⟨k6,iV⟩:=DG.fn;refine ⟨⟨bK,aH,aG,aO,aP,aX,eB,eE,aT,dB,jO,bH,dF,dH,j3,gK,mh,fN,kT,bX,fO,bM,fu,cz,gu,cA,gX,bP,eT,cB,gY,bQ,eU,cT,iY,cU,iZ,cV,ja,gM,mi,cE,gZ,cF,ic,cG,ie,bY,fP,bC,dI,cH,ig,cI,ir,cJ,iu,cj,iw,bZ,fQ,jI,pG,jJ,pH,eY,ki,bN,fz,bJ,fk,yQ,DX,fD,j4,gG,jP,iy,kU,vv,A1,fE,j5,bR,gw,jQ,nF,bS,gx,c5,f6,cg,fR,bO,f7,r8,xJ,kW,pI,eG,jb,jR,nG,oO,uB,eK,jc,oQ,uC,jK,pJ,kX,pK,jS,nI,dJ,j6,eZ,kj,jT,nJ,iz,kY,jU,nL,fS,kZ,gg,ko,jd,pL,je,pM,gi,kr,gj,ku,fF,j7,p8,yR,i6,lg,i7,lu,jV,nM,gn,k6,fh,k7,dM⟩,rfl,?_⟩;exact {
   nN:=nN,
   vy:=nN.binds (ps:=["self","atoms","bonds"]) fun _ _ _ _ _ _=>vG fun _ _ _=>rfl,
   k8:=k8,
   iQ:=k8.binds (ps:=["self","end","other"]) fun _ _ _ _ _ _=>vG fun _ _ _=>rfl,
   j8:=j8,
   uD:=j8.binds (ps:=["self","which","rule","place"]) fun _ _ _ _ _ _=>LH fun _ _ _ _=>rfl,
   mj:=mj,
   uf:=mj.binds (ps:=["self","form","which"]) fun _ _ _ _ _ _=>vG fun _ _ _=>rfl,
   ly:=ly,
   dj:=ly.binds (ps:=["self","rule","place"]) fun _ _ _ _ _ _=>vG fun _ _ _=>rfl,
   fU:=fU,
   l6:=fU.binds (ps:=["self","size"]) fun _ _ _ _ _ _=>oh fun _ _=>rfl,
   f9:=f9,
   aI:=f9.binds (ps:=["self","size","least","greatest"]) fun _ _ _ _ _ _=>LH fun _ _ _ _=>rfl,
   gz:=gz,
   g8:=gz.binds (ps:=["self","size","most"]) fun _ _ _ _ _ _=>vG fun _ _ _=>rfl,
   i8:=i8,
   r9:=i8.binds (ps:=["self","mark"]) fun _ _ _ _ _ _=>oh fun _ _=>rfl,
   g9:=g9,
   qx:=g9.binds (ps:=["self","n","take_atom"]) fun _ _ _ _ _ _=>vG fun _ _ _=>rfl,
   i9:=i9,
   rC:=i9.binds (ps:=["self","n","before"]) fun _ _ _ _ _ _=>vG fun _ _ _=>rfl,
   gA:=gA,
   qy:=gA.binds (ps:=["self","n","m","take_bond"]) fun _ _ _ _ _ _=>LH fun _ _ _ _=>rfl,
   jg:=jg,
   tL:=jg.binds (ps:=["self"]) fun _ _ _ _ _ _=>qP fun _=>rfl,
   jh:=jh,
   tM:=jh.binds (ps:=["self","named","isotope","charge","hydrogens","neighbours","total","ring","hand"]) fun _ _ _ _ _ _=>ac1 fun _ _ _ _ _ _ _ _ _=>rfl,
   ji:=ji,
   tN:=ji.binds (ps:=["self","pair","orders","how","ring","side"]) fun _ _ _ _ _ _=>aba fun _ _ _ _ _ _=>rfl,
   mq:=mq,
   zw:=mq.binds (ps:=["self","pattern","molecule"]) fun _ _ _ _ _ _=>vG fun _ _ _=>rfl,
   iA:=iA,
   rD:=iA.binds (ps:=["self","said","k"]) fun _ _ _ _ _ _=>vG fun _ _ _=>rfl,
   iB:=iB,
   rE:=iB.binds (ps:=["self","said","k"]) fun _ _ _ _ _ _=>vG fun _ _ _=>rfl,
   iC:=iC,
   rF:=iC.binds (ps:=["self","said"]) fun _ _ _ _ _ _=>oh fun _ _=>rfl,
   fV:=fV,
   pN:=fV.binds (ps:=["self","rows","images","bonds_back"]) fun _ _ _ _ _ _=>LH fun _ _ _ _=>rfl,
   dN:=dN,
   mT:=dN.binds (ps:=["self","row","image","bonds_back"]) fun _ _ _ _ _ _=>LH fun _ _ _ _=>rfl,
   iD:=iD,
   rG:=iD.binds (ps:=["self","row"]) fun _ _ _ _ _ _=>oh fun _ _=>rfl,
   iE:=iE,
   rH:=iE.binds (ps:=["self","row","k"]) fun _ _ _ _ _ _=>vG fun _ _ _=>rfl,
   iF:=iF,
   rJ:=iF.binds (ps:=["self","row"]) fun _ _ _ _ _ _=>oh fun _ _=>rfl,
   iG:=iG,
   rK:=iG.binds (ps:=["self","row","said"]) fun _ _ _ _ _ _=>vG fun _ _ _=>rfl,
   fW:=fW,
   l7:=fW.binds (ps:=["self","row","end","other"]) fun _ _ _ _ _ _=>LH fun _ _ _ _=>rfl,
   pO:=pO,
   CS:=pO.binds (ps:=["self","element","isotope","charge","hydrogens","hand"]) fun _ _ _ _ _ _=>aba fun _ _ _ _ _ _=>rfl,
   pP:=pP,
   CT:=pP.binds (ps:=["self","pair","order","side"]) fun _ _ _ _ _ _=>LH fun _ _ _ _=>rfl,
   k9:=k9,
   wu:=k9.binds (ps:=["self","atoms","bonds"]) fun _ _ _ _ _ _=>vG fun _ _ _=>rfl,
   fB:=fB,
   oq:=fB.binds (ps:=["self","atom"]) fun _ _ _ _ _ _=>oh fun _ _=>rfl,
   fq:=fq,
   sX:=fq.binds (ps:=["self","atom","other"]) fun _ _ _ _ _ _=>vG fun _ _ _=>rfl,
   DY:=DY,
   Wr:=DY.binds (ps:=["k"]) fun _ _ _ _ _ _=>qP fun _=>rfl,
   Wt:=mg_of X G W9,
   gT:=gT,
   uE:=gT.binds (ps:=["n","bonds"]) fun _ _ _ _ _ _=>oh fun _ _=>rfl,
   uH:=mg_of X G Co,
   jW:=jW,
   vz:=jW.binds (ps:=["reader","mark","take_atom","take_bond"]) fun _ _ _ _ _ _=>LH fun _ _ _ _=>rfl,
   vD:=mg_of X G JO,
   j9:=j9,
   xK:=j9.binds (ps:=["form","which"]) fun _ _ _ _ _ _=>oh fun _ _=>rfl,
   xS:=mg_of X G Fb,
   qO:=qO,
   A2:=qO.binds (ps:=["hand_or_side"]) fun _ _ _ _ _ _=>qP fun _=>rfl,
   A7:=mg_of X G WA,
   gU:=gU,
   uF:=gU.binds (ps:=["pattern","bond"]) fun _ _ _ _ _ _=>oh fun _ _=>rfl,
   uI:=mg_of X G Cp,
   eV:=eV,
   qz:=eV.binds (ps:=["reader"]) fun _ _ _ _ _ _=>qP fun _=>rfl,
   qB:=mg_of X G zm,
   lM:=lM,
   A3:=lM.binds (ps:=["reader"]) fun _ _ _ _ _ _=>qP fun _=>rfl,
   A8:=mg_of X G JP,
   eW:=eW,
   qA:=eW.binds (ps:=["reader","pair"]) fun _ _ _ _ _ _=>oh fun _ _=>rfl,
   qC:=mg_of X G zo,
   cY:=cY,
   ow:=cY.binds (ps:=["molecule"]) fun _ _ _ _ _ _=>qP fun _=>rfl,
   o6:=mg_of X G wW,
   dP:=dP,
   pQ:=dP.binds (ps:=["molecule","bond"]) fun _ _ _ _ _ _=>oh fun _ _=>rfl,
   pR:=mg_of X G yq,
   cZ:=cZ,
   oz:=cZ.binds (ps:=["molecule","through_bonds"]) fun _ _ _ _ _ _=>oh fun _ _=>rfl,
   o7:=mg_of X G wX,
   nO:=nO,
   xM:=nO.binds (ps:=["number","bounds"]) fun _ _ _ _ _ _=>oh fun _ _=>rfl,
   xT:=mg_of X G Ub,
   l8:=l8,
   xN:=l8.binds (ps:=["said","least_ring"]) fun _ _ _ _ _ _=>oh fun _ _=>rfl,
   xU:=mg_of X G LY,
   eN:=eN,
   nP:=eN.binds (ps:=["said","told"]) fun _ _ _ _ _ _=>oh fun _ _=>rfl,
   nQ:=mg_of X G Bt,
   lN:=lN,
   A4:=lN.binds (ps:=["said","drawn"]) fun _ _ _ _ _ _=>oh fun _ _=>rfl,
   A9:=mg_of X G JQ,
   oR:=oR,
   Cd:=oR.binds (ps:=["hand_or_side","other"]) fun _ _ _ _ _ _=>oh fun _ _=>rfl,
   Ce:=mg_of X G Rh,
   fZ:=fZ,
   tO:=fZ.binds (ps:=["row","exchanged"]) fun _ _ _ _ _ _=>oh fun _ _=>rfl,
   tP:=mg_of X G Bu,
   qT:=qT,
   Ie:=qT.binds (ps:=["pattern","molecule"]) fun _ _ _ _ _ _=>oh fun _ _=>rfl,
   Ig:=mg_of X G Ri,
   mU:=mU,
   CU:=mU.binds (ps:=["maps"]) fun _ _ _ _ _ _=>qP fun _=>rfl,
   CY:=mg_of X G LZ,
   l9:=l9,
   xO:=l9.binds (ps:=["order"]) fun _ _ _ _ _ _=>qP fun _=>rfl,
   xV:=mg_of X G Ma,
   lO:=lO,
   A5:=lO.binds (ps:=["n","bonds"]) fun _ _ _ _ _ _=>oh fun _ _=>rfl,
   AA:=mg_of X G JR,
   gW:=gW,
   uG:=gW.binds (ps:=["sums","bonds"]) fun _ _ _ _ _ _=>oh fun _ _=>rfl,
   uJ:=mg_of X G Cq,
   iR:=iR,
   wz:=iR.binds (ps:=["states","bonds","k"]) fun _ _ _ _ _ _=>vG fun _ _ _=>rfl,
   wC:=mg_of X G D5,
   jX:=jX,
   vA:=jX.binds (ps:=["state","bond","order"]) fun _ _ _ _ _ _=>vG fun _ _ _=>rfl,
   vE:=mg_of X G JS,
   iH:=iH,
   rL:=iH.binds (ps:=["bonds","k","atom"]) fun _ _ _ _ _ _=>vG fun _ _ _=>rfl,
   rM:=mg_of X G Fc,
   jY:=jY,
   vC:=jY.binds (ps:=["left","bonds"]) fun _ _ _ _ _ _=>oh fun _ _=>rfl,
   vF:=mg_of X G JT,
   jA:=jA,
   xP:=jA.binds (ps:=["bonds"]) fun _ _ _ _ _ _=>qP fun _=>rfl,
   xW:=mg_of X G Fd,
   iS:=iS,
   w6:=iS.binds (ps:=["form","which"]) fun _ _ _ _ _ _=>oh fun _ _=>rfl,
   wD:=mg_of X G D6,
   mV:=mV,
   CV:=mV.binds (ps:=["reader"]) fun _ _ _ _ _ _=>qP fun _=>rfl,
   CZ:=mg_of X G Mb,
   mW:=mW,
   CW:=mW.binds (ps:=["reader","pair"]) fun _ _ _ _ _ _=>oh fun _ _=>rfl,
   Dc:=mg_of X G Mc,
   iT:=iT,
   w9:=iT.binds (ps:=["molecule","k"]) fun _ _ _ _ _ _=>oh fun _ _=>rfl,
   wG:=mg_of X G D7,
   iU:=iU,
   wA:=iU.binds (ps:=["molecule","k"]) fun _ _ _ _ _ _=>oh fun _ _=>rfl,
   wH:=mg_of X G D8,
   fG:=fG,
   oS:=fG.binds (ps:=["molecule","end","other"]) fun _ _ _ _ _ _=>vG fun _ _ _=>rfl,
   oU:=mg_of X G Cr,
   yS:=yS,
   Ws:=yS.binds (ps:=["k","pattern","molecule"]) fun _ _ _ _ _ _=>vG fun _ _ _=>rfl,
   Pp:=mg_of X G WB,
   jB:=jB,
   xQ:=jB.binds (ps:=["pattern","molecule"]) fun _ _ _ _ _ _=>oh fun _ _=>rfl,
   xX:=mg_of X G Fe,
   jC:=jC,
   xR:=jC.binds (ps:=["fault"]) fun _ _ _ _ _ _=>qP fun _=>rfl,
   xY:=mg_of X G Ff,
   lP:=lP,
   A6:=lP.binds (ps:=["row"]) fun _ _ _ _ _ _=>qP fun _=>rfl,
   AB:=mg_of X G JU,
   iV:=iV,
   wB:=iV.binds (ps:=["k","rows"]) fun _ _ _ _ _ _=>oh fun _ _=>rfl,
   wI:=mg_of X G D9,
   Jq:=mg_of X G Wu,
   jj:=⟨TQ,TR,TU,TV⟩,
   Pq:=⟨TX,JE,JF,TY⟩,
   m7:=⟨Dz,wM,qu.kp⟩,
   gO:=gO,
   gP:=gP,
   cK:=cK,
   xZ:=mg_of X G LL,
   jk:=⟨⟨_,_,_,_,_,_,_,_,_,_,_,_,_,_,LM,Ft,JH,fun x hx=>by simp only [List.mem_cons,List.mem_nil_iff,or_false] at hx;rcases hx with rfl | rfl | rfl | rfl | rfl | rfl<;>first | exact sZ | exact yf | exact yg | exact zH | exact Bg | exact zI⟩,JI,JJ,JK,by simp,by simp,by simp⟩,
   EI:=mg_of X G TZ,
   aL:=⟨QS,QT,QU,QV⟩,
   EJ:=⟨QW,GC,GD,QX⟩,
   dw:=⟨EY,EZ,yr.kp⟩,
   lA:=⟨yh,yi,pU.kp⟩,
   aJ:=⟨wQ,wR,o9.kp⟩,
   gB:=⟨ze,zf,qF.kp⟩,
   rN:=⟨zJ,zK,rY.kp⟩,
   qD:=⟨zg,zh,qG.kp⟩,
   rO:=⟨zL,zM,rZ.kp⟩,
   qE:=⟨zj,zk,qH.kp⟩,
   tQ:=⟨Bh,Bj,tT.kp⟩,
   gQ:=gQ,
   lB:=lB,
   bL:=bL,
   cM:=cM,
   cO:=cO,
   AD:=mg_of X G JL,
   b7:=⟨GQ,GU,GV,GX⟩,
   AE:=⟨GY,Bk,Bl,GZ⟩,
   fH:=fH,
   dQ:=dQ,
   gC:=gC,
   eO:=eO,
   dS:=dS,
   iI:=iI,
   jl:=jl,
   cW:=cW,
   AF:=mg_of X G JN,
   bc:=⟨Hf,Hg,Hh,Hi⟩,
   AG:=⟨Hj,Bq,Br,Hl⟩,
   dz:=dz,
   d8:=d8,
   cR:=cR,
   jD:=jD,
   jn:=jn,
   cX:=cX,
   LD:=mg_of X G Ua,
   bB:=⟨QY,QZ,Ra,Rc⟩,
   LF:=⟨Rf,Ho,Hq,Rg⟩,
   rP:=⟨zN,zO,se.kp⟩,
   rQ:=⟨zP,zQ,sf.kp⟩,
   rR:=⟨zR,zS,sr.kp⟩,
   pS:=⟨yj,yk,pV.kp⟩,
   mX:=⟨uM,uN,mY.kp⟩,
   rS:=⟨zU,zV,sA.kp⟩,
   rT:=⟨zW,zX,sC.kp⟩,
   rV:=⟨zY,zZ,sE.kp⟩,
   rW:=⟨Aa,Ab,sF.kp⟩,
   lC:=⟨ym,yp,pW.kp⟩,
   dU:=dU,
   bq:=bq,
   eX:=eX,
   gD:=gD,
   TH:=mg_of X G Zy,
   mQ:=⟨Wv,Ww,Wx,Wy⟩,
   TJ:=⟨Wz,LN,LO,W0⟩,
   lD:=lD,
   lE:=lE,
   mr:=mr,
   fJ:=fJ,
   lF:=lF,
   TM:=mg_of X G Zz,
   gH:=⟨W2,W4,W5,W6⟩,
   TN:=⟨W7,LP,LQ,W8⟩,
   kC:=kC,
   kD:=kD,
   lQ:=lQ,
   lG:=lG,
   EK:=mg_of X G Og,
   aY:=⟨LR,LS,LU,LV⟩,
   EL:=⟨LW,D0,D4,LX⟩,
   o8:=⟨wU,wV,oA.kp⟩,
   sY:=⟨tu,tw,lT.kp⟩,
   mR:=⟨Ac,wM,qu.kp⟩,
   bU:=bU,
   cP:=cP,
   b9:=b9,
   iW:=iW,
   gb:=gb,
   bV:=bV,
   AH:=⟨Hr,Hs,Ht,Bv.kp⟩,
   AI:=⟨_,mg_of X G Kd⟩,
   wJ:=⟨_,mg_of X G DH⟩,
   AJ:=⟨_,mg_of X G Ke⟩,
   oV:=⟨_,mg_of X G Cy⟩,
   AK:=⟨_,mg_of X G Kf⟩,
   oW:=⟨_,mg_of X G Cz⟩,
   Dd:=⟨_,mg_of X G Mm⟩,
   AL:=⟨_,mg_of X G Kg⟩,
   AM:=⟨_,mg_of X G Kh⟩,
   rX:=⟨_,mg_of X G Fp⟩,
   ug:=⟨_,mg_of X G Hw⟩,
   oX:=⟨_,mg_of X G C0⟩,
   AO:=⟨_,mg_of X G Kl⟩,
   uh:=⟨_,mg_of X G Hy⟩,
   tR:=⟨_,mg_of X G B7⟩,
   EM:=⟨_,mg_of X G Oh⟩,
   yc:=⟨_,mg_of X G Mn⟩,
   AQ:=⟨_,mg_of X G Km⟩,
   oY:=⟨_,mg_of X G C1⟩,
   EN:=⟨_,mg_of X G Ud⟩,
   tS:=⟨_,mg_of X G Mp⟩,
   yT:=⟨_,mg_of X G Rl⟩,
   Ih:=⟨_,mg_of X G Rm⟩,
   uo:=⟨_,mg_of X G Hz⟩,
   oZ:=⟨_,mg_of X G C3⟩,
   yd:=⟨_,mg_of X G Fq⟩,
   De:=⟨_,mg_of X G Mq⟩,
   Df:=⟨_,mg_of X G Mr⟩,
   Ii:=⟨_,mg_of X G Rn⟩,
   EO:=⟨_,mg_of X G Oi⟩,
   Ij:=⟨_,mg_of X G Ro⟩,
   zx:=⟨_,mg_of X G HA⟩,
   AR:=⟨_,mg_of X G Kn⟩,
   zy:=⟨_,mg_of X G HB⟩,
   wK:=mg_of X G DI,
   wL:=fun H=>.inr ⟨_,_,_,DJ,rfl,rfl,(by show 4<=sizeLine;decide),.cons ⟨_,rfl⟩ (.cons ⟨_,rfl⟩ (.cons ⟨_,rfl⟩ (.cons ⟨_,rfl⟩ (.nil))))⟩,
   ER:=mg_of X G Ue,
   ye:=fun H=>.inr ⟨_,_,_,Ug,rfl,rfl,(by show 3<=sizeLine;decide),.cons ⟨_,rfl⟩ (.cons ⟨_,rfl⟩ (.cons ⟨_,rfl⟩ (.nil)))⟩,
   uK:=mg_of X G C4,
   uL:=fun H=>.inr ⟨_,_,_,C5,rfl,rfl,(by show 4<=sizeLine;decide),.cons ⟨_,rfl⟩ (.cons ⟨_,rfl⟩ (.cons ⟨_,rfl⟩ (.cons ⟨_,rfl⟩ (.nil))))⟩,
   jq:=ns_none_of X G Ms,
   kM:=ns_none_of X G abb,
   Oa:=ns_none_of X G Z0,
   Yn:=ns_none_of X G abc,
   p9:=ns_none_of X G WG,
   LG:=ns_none_of X G Uh,
   DZ:=ns_none_of X G WH }
open XL (gF)
open Fk (Fault Bytes numIn need andThen)
def yU (H:Hp) (dx:Addr) (w r p:Int):Prop:=H dx=some (.xd [("which",.int w),("rule",.int r),("place",.int p)])
def mw {α:Type} (C:Addr) (w:Int) (x:Except Fault α) (k:α->Prop) (E:XK):Prop:=match x with
 | .ok y=>k y
 | .error f=>∀ H dx,yU H dx w f.rule f.place->E (.ref C) (some dx) H
theorem mw.andThen {α β:Type} {C:Addr} {w:Int} {x:Except Fault α} {f:α->Except Fault β} {k:β->Prop} {E:XK}:mw C w (Fk.andThen x f) k E ↔ mw C w x (fun y=>mw C w (f y) k E) E:=by cases x<;>exact Iff.rfl
theorem mw.mono {α:Type} {C:Addr} {w:Int} {x:Except Fault α} {k k':α->Prop} {E:XK} (h:mw C w x k E) (f:∀ y,x=.ok y->k y->k' y):mw C w x k' E:=by
 cases x with
 | ok y=>exact f y rfl h
 | error e=>exact h
def vB (B:Bytes):List V:=B.map fun c=>V.int (c.toNat:Int)
def sG (K:Zqq) (H:Hp) (a:Addr) (B:Bytes):Prop:=(∃ o,H a=some (.qh o (.lst (vB B))))\/∀ H',bI K H' a (vB B)
theorem sG.sq {K:Zqq} {H:Hp} {a:Addr} {B:Bytes} (h:sG K H a B):bI K H a (vB B):=by
 rcases h with ⟨o,h⟩ | h
 . exact .inl (.inr ⟨o,h⟩)
 . exact h H
def jv (S:List Addr) (H H':Hp):Prop:=∀ b o,H b=some o->b ∉ S->H' b=some o
theorem jv.refl {S:List Addr} {H:Hp}:jv S H H:=fun _ _ h _=>h
theorem jv.trans {S:List Addr} {H H1 H2:Hp} (a:jv S H H1) (b:jv S H1 H2):jv S H H2:=fun c o h n=>b c o (a c o h n) n
theorem jv.mono {S S':List Addr} {H H1:Hp} (a:jv S H H1) (h:∀ b ∈ S,b ∈ S'):jv S' H H1:=fun c o q n=>a c o q fun z=>n (h c z)
theorem jv.frm {K:Zqq} {S:List Addr} {H H':Hp} {a:Addr} {B:Bytes} (e:jv S H H') (h:sG K H a B) (n:∀ o xs,H a=some (.qh o xs)->a ∉ S):sG K H' a B:=by
 rcases h with ⟨o,h⟩ | h
 . exact .inl ⟨o,e a _ h (n _ _ h)⟩
 . exact .inr h
structure Gm where
 a:Addr
 w:Int
 B:Bytes
 b:Bytes
 p:Nat
 hp:Addr
 hps:List Int
 sp:Addr
 Ui:List Int
def rfs (x:Gm):List (Str×V):=[("form",.ref x.a),("which",.int x.w),("place",.int x.p),("hand_places",.ref x.hp),("side_places",.ref x.sp)]
structure fC (K:Zqq) (C:Addr) (H:Hp) (r:Addr) (x:Gm):Prop where
 obj:∃ dx,H r=some (.ins C dx (rfs x))
 form:sG K H x.a x.B
 hpl:H x.hp=some (.lst (x.hps.map V.int))
 Ko:H x.sp=some (.lst (x.Ui.map V.int))
 ne:x.hp ≠ x.sp
 rest:x.b=x.B.drop x.p
 le:x.p<=x.B.length
 small:x.B.length<=6000
theorem Uj {H:Hp} {a b:Addr} {o:Obj} {u v:HO} (h:H a=some (.qh o u)) (h':H b=some v) (n:∀ o u,v ≠ .qh o u):a ≠ b:=fun e=>by rw [e,h'] at h;exact n _ _ (Option.some.inj h)
theorem fC.stay {K:Zqq} {C:Addr} {H H':Hp} {r:Addr} {x:Gm} {S:List Addr} (R:fC K C H r x) (f:jv S H H') (n1:r ∉ S) (n2:x.hp ∉ S) (n3:x.sp ∉ S) (n4:∀ b ∈ S,∀ o u,H b ≠ some (.qh o u)):fC K C H' r x:=by
 obtain ⟨dx,e⟩:=R.obj;exact ⟨⟨dx,f r _ e n1⟩,f.frm R.form fun o xs h hm=>n4 _ hm o xs h,f _ _ R.hpl n2,f _ _ R.Ko n3,R.ne,R.rest,R.le,R.small⟩
theorem fC.place {K:Zqq} {C:Addr} {H H':Hp} {r dx:Addr} {x:Gm} {b:Bytes} {p:Nat} (R:fC K C H r x) (f:jv [r] H H') (e:H' r=some (.ins C dx (rfs { x with b:=b,p:=p }))) (hb:b=x.B.drop p) (hp:p<=x.B.length) :
  fC K C H' r { x with b:=b,p:=p }:=by
 obtain ⟨d0,e0⟩:=R.obj;exact ⟨⟨dx,e⟩,f.frm R.form (fun o xs h hm=>by
  rw [show x.a=r by simpa using hm,e0] at h;cases h),f _ _ R.hpl (by simp;exact ni R.hpl e0 (by intro z;cases z)),f _ _ R.Ko (by simp;exact ni R.Ko e0 (by intro z;cases z)),R.ne,hb,hp,R.small⟩
def WI (C:Addr):Sp:=fun vs H Q _=>∃ (a:Addr) (w r p:Int),vs=[.ref a,.int w,.int r,.int p]/\H a=some (XO a C none)/\∀ (H':Hp) (dx:Addr),dx ≠ a->H' a=some (XO a C (some dx))->yU H' dx w r p->Q .non H'
def WJ (CR CF:Addr):Sp:=fun vs H _ E=>∃ (r:Addr) (w ru pl:Int) (dx:Addr) (fs:List (Str×V)),vs=[.ref r,.int ru,.int pl]/\H r=some (.ins CR dx fs)/\fs.lookup ("which":Str)=some (V.int w)/\∀ H' dx,yU H' dx w ru pl->E (.ref CF) (some dx) H'
def abd (K:Zqq) (CR CF:Addr):Sp:=fun vs H Q E=>∃ (r:Addr) (k:Nat) (x:Gm),vs=[.ref r,.int (k:Int)]/\fC K CR H r x/\(k=1\/k=2) /\
 mw CF x.w (numIn k (fun _=>true) x.b x.p) (fun y=>∀ H',fC K CR H' r { x with b:=y.2.1,p:=y.2.2 }->jv [r] H H'->Q (.int (y.1:Int)) H') E
def Rp (K:Zqq) (CR CF:Addr):Sp:=fun vs H Q E=>∃ (r:Addr) (k:Nat) (lo hi:Int) (x:Gm),vs=[.ref r,.int (k:Int),.int lo,.int hi]/\fC K CR H r x/\(k=1\/k=2) /\
 mw CF x.w (numIn k (fun v=>decide (lo<=(v:Int))&&decide ((v:Int)<=hi)) x.b x.p) (fun y=>∀ H',fC K CR H' r { x with b:=y.2.1,p:=y.2.2 }->jv [r] H H'->Q (.int (y.1:Int)) H') E
variable {P:Program} {w:World} {K:Zqq} {mg:Str->Option Value} {base:Heap} {t:Ad}
section
theorem Ik:typeLookup (.type "Exception") "which"=pure none:=by rw [typeLookup_type,builtinLookup_eq_fast];kernel_rfl
theorem Mt:typeLookup (.type "Exception") "rule"=pure none:=by rw [typeLookup_type,builtinLookup_eq_fast];kernel_rfl
theorem Il:typeLookup (.type "Exception") "place"=pure none:=by rw [typeLookup_type,builtinLookup_eq_fast];kernel_rfl
theorem Uk:aQ ["self","which","rule","place"] ["self","which","rule","place"] (aF oJ):=lR (by decide +kernel)
theorem Ul (T:Txt K mg t):bF P w K mg base m5 1 t.dH t.j3 ["self","which","rule","place"] (WI t.aH):=by
 refine T.j8.ok Uk (fun vs H Q E h=>?_) (fun cdv A outer s H vs Q E hr h=>?_)
 . obtain ⟨a,w,r,p,rfl,_⟩:=h
   rfl
 . obtain ⟨a,w,r,p,rfl,ha,k⟩:=h
   refine ⟨_,ak (aaU T.jk (pv 0) (pv 1) (by simp) Ik rfl) (ak (Yi T.jk (pv 0) (pv 2) (by simp) Mt rfl) (az (Yi T.jk (pv 0) (pv 3) (by simp) Il rfl))),?_⟩;refine ⟨_,rfl,_,rfl,a,rfl,ha,fun dx hd=>?_⟩;have da:dx ≠ a:=fun z=>by rw [z,ha] at hd;cases hd
   have e1:upd (upd H dx (.xd [("which",V.int w)])) a (XO a t.aH (some dx)) dx=some (.xd [("which",V.int w)]):=by rw [aq da,ai]
   refine ⟨_,rfl,_,rfl,a,dx,_,rfl,ai,e1,(by show 1 < 1000;decide),?_⟩;refine ⟨_,rfl,_,rfl,a,dx,_,rfl,?_,ai,(by show 2 < 1000;decide),?_⟩
   . rw [aq (Ne.symm da)];exact ai
   . refine k _ dx da ?_ ai
     rw [aq (Ne.symm da),aq (Ne.symm da)];exact ai
theorem Um:aQ ["self","rule","place"] ["self","rule","place"] (aF rg):=lR (by decide +kernel)
theorem sH (T:Txt K mg t):bF P w K mg base (uW P w) 3 t.fN t.kT ["self","rule","place"] (WJ t.aG t.aH):=by
 have GI:=@Ul P w K mg base t T;refine T.ly.KZ Um (fun vs H Q E h=>?_) (fun cdv A outer s H vs Q E hr h=>?_)
 . obtain ⟨r,w,ru,pl,dx,fs,rfl,_⟩:=h
   rfl
 . obtain ⟨r,w,ru,pl,dx,fs,rfl,hr0,hw,k⟩:=h
   refine ⟨_,az (Tv rfl T.jk GI hr rfl T.xZ T.uD Wl (af (aA (pv 0) rfl) (af (pv 1) (af (pv 2) au)))),?_⟩;refine ⟨_,rfl,r,t.aG,dx,fs,_,rfl,hr0,T.aL,T.lB,hw,_,rfl,_,rfl,(by show 3<=sizeLine;decide),fun a ha=>?_⟩;refine ⟨a,w,ru,pl,rfl,ai,fun H' dx' da h1 h2=>⟨rfl,dx',h1,k _ _ ?_⟩⟩;show drop H' a dx'=_;rw [DW da];exact h2
def WK (K:Zqq) (C:Addr):Sp:=fun vs H Q _=>∃ (r dx a:Addr) (w:Int) (B:Bytes),vs=[.ref r,.ref a,.int w]/\H r=some (.ins C dx [])/\sG K H a B/\B.length<=6000 /\
 ∀ (H':Hp) (hp sp:Addr),H hp=none->H sp=none->fC K C H' r ⟨a,w,B,B,0,hp,[],sp,[]⟩->jv [r] H H'->Q .non H'
theorem Uo:aQ ["self","form","which"] ["self","form","which"] (aF ud):=lR (by decide +kernel)
theorem Mu (T:Txt K mg t):bF P w K mg base m5 1 t.gK t.mh ["self","form","which"] (WK K t.aG):=by
 refine T.mj.ok Uo (fun vs H Q E h=>?_) (fun cdv A outer s H vs Q E hr h=>?_)
 . obtain ⟨r,dx,a,w,B,rfl,_⟩:=h
   rfl
 . obtain ⟨r,dx,a,w,B,rfl,h0,hf,hB,k⟩:=h
   refine ⟨_,ak (ck (pv 0) (pv 1) rfl) (ak (ck (pv 0) (pv 2) rfl) (ak (ck (pv 0) aN rfl) (ak (ck (pv 0) (jM au) rfl) (az (ck (pv 0) (jM au) rfl))))),?_⟩;refine ⟨_,rfl,_,rfl,r,_,dx,_,rfl,h0,T.aL,T.gQ,(by show 0 < 1000;decide),?_⟩;refine ⟨_,rfl,_,rfl,r,_,dx,_,rfl,ai,T.aL,T.lB,(by show 1 < 1000;decide),?_⟩;rw [nh];refine ⟨_,rfl,r,_,dx,_,rfl,ai,T.aL,T.bL,(by show 2 < 1000;decide),?_⟩;rw [nh];refine ⟨Nat.zero_le _,fun l1 n1=>?_⟩;have r1:r ≠ l1:=fun z=>by rw [<- z,ai] at n1;cases n1
   have n1':H l1=none:=by rw [aq (Ne.symm r1)] at n1;exact n1
   refine ⟨_,rfl,r,_,dx,_,rfl,(by rw [aq r1];exact ai),T.aL,T.cM,(by show 3 < 1000;decide),?_⟩;refine ⟨Nat.zero_le _,fun l2 n2=>?_⟩;have r2:r ≠ l2:=fun z=>by rw [<- z,ai] at n2;cases n2
   have n2b:=n2;rw [aq (Ne.symm r2)] at n2b;have l12:l1 ≠ l2:=fun z=>by rw [<- z,ai] at n2b;cases n2b
   have n2':H l2=none:=by rw [aq (Ne.symm l12),aq (Ne.symm r2)] at n2b;exact n2b
   refine ⟨_,rfl,r,_,dx,_,rfl,(by rw [aq r2];exact ai),T.aL,T.cO,(by show 4 < 1000;decide),?_⟩;have F:jv [r] H (upd (upd (upd (upd (upd H r (.ins t.aG dx (gf "place" (.int 0) (gf "which" (.int w) (gf "form" (.ref a) []))))) l1 (.lst [])) r (.ins t.aG dx (gf "hand_places" (.ref l1) (gf "place" (.int 0) (gf "which" (.int w) (gf "form" (.ref a) [])))))) l2 (.lst []))
     r (.ins t.aG dx (gf "side_places" (.ref l2) (gf "hand_places" (.ref l1) (gf "place" (.int 0) (gf "which" (.int w) (gf "form" (.ref a) []))))))):=fun b o e n=>by
     have nb:b ≠ r:=by simpa using n
     rw [aq nb,aq (ay e n2'),aq nb,aq (ay e n1'),aq nb]
     exact e
   refine k _ l1 l2 n1' n2' ⟨⟨dx,ai⟩,F.frm hf (fun o xs h hm=>?_),?_,?_,l12,rfl,Nat.zero_le _,hB⟩ F
   . rw [show a=r by simpa using hm,h0] at h;cases h
   . rw [aq (Ne.symm r1),aq l12,aq (Ne.symm r1)];exact ai
   . rw [aq (Ne.symm r2)];exact ai
theorem Kp:aQ ["self","size","number","k"] ["self","size"] (aF kP):=lR (by decide +kernel)
theorem Up {b:Bytes} {k:Nat} {c:UInt8} (hk:k < 2) (hc:b[k]?=some c):(Fk.num (b.take (k+1)):Int)=(Fk.num (b.take k):Int)+(c.toNat:Int) * 2 ^ (8 * (k:Int)).toNat:=by
 match k,b,hk,hc with
 | 0,x::b,_,hc=>
  cases hc;simp [Fk.num]
 | 1,x::y::b,_,hc=>
  cases hc;simp [Fk.num];omega
 | 0,[],_,hc=>cases hc
 | 1,[],_,hc=>cases hc
 | 1,[x],_,hc=>cases hc
theorem Uq (T:Txt K mg t):bF P w K mg base (uW P w) 4 t.bX t.fO ["self","size"] (abd K t.aG t.aH):=by
 have GF:=@sH P w K mg base t T;obtain ⟨tk5,g5⟩:=T.AK;refine T.fU.KZ Kp (fun vs H Q E h=>?_) (fun cdv A outer s H vs Q E hr h=>?_)
 . obtain ⟨r,k,x,rfl,_⟩:=h
   rfl
 . obtain ⟨r,k,x,rfl,R,hk,bE⟩:=h
   obtain ⟨dx,e0⟩:=R.obj;refine ⟨_,ak (kL (cS ON (gJ uZ (aA (pv 0) rfl) (pv 1)) (c6 bz (by rfl) T.kM PySem.boot_len (af (aA (pv 0) rfl) au)) (bW _))
       (az (dX (aW (pv 0) T.aL T.dw GF hr T.dj .nil c7 (af (aU rfl g5 (v:=.int 5) ⟨_,rfl⟩) (af (c6 bz (by rfl) T.kM PySem.boot_len (af (aA (pv 0) rfl) au)) au))))) dW)
     (ak (aR (i:=2) Kp.nd rfl (Or.inl rfl) aN)
     (ak (fj Jk rfl (mS rfl T.p9 (af (pv 1) au)) (bw (i:=3) Kp.nd rfl (Or.inl rfl))
       (az (Sv (i:=2) Kp.nd rfl (Or.inl rfl) (gJ S3 (bT b6 (aA (pv 0) rfl) (gJ uZ (aA (pv 0) rfl) (pv 3)) (fun _ _=>rfl)) (gJ N9 aN (pv 3))) IW)))
     (ak (Qo (pv 0) (pv 1) YR) (az (aZ (pv 2)))))),?_⟩
   have hf:=R.form.sq;have hlB:(vB x.B).length=x.B.length:=by simp [vB]
   refine ⟨_,rfl,fld e0 T.aL T.bL rfl ⟨_,rfl,_,_,rfl,rfl,?_⟩⟩;refine ⟨_,rfl,fld e0 T.aL T.gQ rfl ⟨x.a,_,rfl,.inl hf,_,_,rfl,rfl,_,rfl,?_⟩⟩;rw [hlB];have hlen:x.b.length=x.B.length - x.p:=by rw [R.rest,List.length_drop]
   have hle:=R.le;refine zB (fun h=>?_) (fun h=>?_)
   . have h':(x.B.length:Int) < (x.p:Int)+(k:Int):=of_decide_eq_true h
     have e1:numIn k (fun _=>true) x.b x.p=.error ⟨5,x.p+x.b.length⟩:=if_pos (by omega);rw [e1] at bE;refine ⟨_,rfl,r,dx,_,rfl,e0,rfl,?_⟩;refine ⟨_,rfl,fld e0 T.aL T.gQ rfl ⟨x.a,_,rfl,.inl hf,?_⟩⟩;refine ⟨r,x.w,5,((vB x.B).length:Int),dx,_,rfl,e0,rfl,fun H' d' hF=>bE H' d' ?_⟩;rw [hlB] at hF;have e2:x.p+x.b.length=x.B.length:=by omega
     show yU H' d' x.w 5 ((x.p+x.b.length:Nat):Int);rw [e2];exact hF
   . have h':¬ (x.B.length:Int) < (x.p:Int)+(k:Int):=fun z=>h (decide_eq_true z)
     have e1:numIn k (fun _=>true) x.b x.p=.ok (Fk.num (x.b.take k),x.b.drop k,x.p+k):=by
       unfold numIn;rw [if_neg (by omega),if_pos rfl]
     rw [e1] at bE;refine ⟨_,rfl,(k:Int),rfl,by omega,by omega,?_⟩;rw [Int.toNat_natCast];let xf:L2.Iv:=fun i σ H'=>∃ v,H'=H/\σ=[some (.ref r),some (.int (k:Int)),some (.int (Fk.num (x.b.take i):Int)),v];refine qS (n:=k) xf ⟨none,rfl,rfl⟩ ?_ ?_
     . rintro i σ H' hi ⟨v,rfl,rfl⟩
       obtain ⟨c,hc⟩:∃ c,x.b[i]?=some c:=⟨_,List.getElem?_eq_getElem (by omega)⟩;have hcB:x.B[x.p+i]?=some c:=by
         rw [R.rest,List.getElem?_drop] at hc;exact hc
       have hcV:(vB x.B)[x.p+i]?=some (V.int (c.toNat:Int)):=by
         unfold vB;rw [List.getElem?_map,hcB];rfl
       refine ⟨_,rfl,?_⟩;refine ⟨_,rfl,fld e0 T.aL T.gQ rfl ⟨_,rfl,fld e0 T.aL T.bL rfl ⟨_,rfl,_,_,rfl,rfl,x.a,_,_,_,rfl,rfl,hf,at_of (j:=x.p+i) (by simp) hcV,?_⟩⟩⟩;refine ⟨_,rfl,_,_,rfl,rfl,.inl ⟨by decide,by decide⟩,_,_,rfl,rfl,⟨by omega,by omega,?_⟩,?_⟩
       . have:=c.toNat_lt
         have e:((c.toNat:Int)).natAbs=c.toNat:=Int.natAbs_natCast _;rw [e];omega
       . refine ⟨_,_,rfl,rfl,some (.int (0+(i:Int))),rfl,?_⟩
         have e8:(8 * (0+(i:Int))).toNat=(8 * (i:Int)).toNat:=by rw [Int.zero_add]
         rw [Up (by omega) hc,<- e8];rfl
     . rintro σ H' ⟨v,rfl,rfl⟩
       refine ⟨_,rfl,r,_,dx,_,_,rfl,e0,T.aL,T.bL,rfl,_,rfl,_,_,rfl,rfl,dx,_,e0,(by show 5 < 1000;decide),?_⟩;refine ⟨_,rfl,?_⟩;have F:jv [r] H' (upd H' r (.ins t.aG dx (gf "place" (V.int ((x.p:Int)+(k:Int))) (rfs x)))):=fun b o e n=>by rw [aq (by simpa using n)];exact e
       exact bE _ (R.place F (dx:=dx) ai (by rw [R.rest,List.drop_drop]) (by show x.p+k<=_;omega)) F
theorem Ae:aQ ["self","size","least","greatest","start","number"] ["self","size","least","greatest"] (aF kH):=lR (by decide +kernel)
theorem lH (T:Txt K mg t):bF P w K mg base (uW P w) 5 t.bM t.fu ["self","size","least","greatest"] (Rp K t.aG t.aH):=by
 have GF:=@sH P w K mg base t T;have GN:=@Uq P w K mg base t T;obtain ⟨WL,g2⟩:=T.wJ;refine T.f9.KZ Ae (fun vs H Q E h=>?_) (fun cdv A outer s H vs Q E hr h=>?_)
 . obtain ⟨r,k,lo,hi,x,rfl,_⟩:=h
   rfl
 . obtain ⟨r,k,lo,hi,x,rfl,R,hk,bE⟩:=h
   obtain ⟨dx,e0⟩:=R.obj;have Mv:dG 3 _:=hr.mono (by decide);refine ⟨_,ak (aR (i:=4) Ae.nd rfl (Or.inl rfl) (aA (pv 0) rfl))
     (ak (aR (i:=5) Ae.nd rfl (Or.inl rfl) (aW (pv 0) T.aL T.lA GN hr T.l6 .nil c7 (af (pv 1) au)))
     (ak (kL (Ss (cS Yb (pv 5) (pv 2) (bW _)) (N3 (cS ON (pv 5) (pv 3) (bW _)))).pt
       (az (dX (aW (pv 0) T.aL T.dw GF Mv T.dj .nil c7 (af (aU rfl g2 (v:=.int 2) ⟨_,rfl⟩) (af (pv 4) au))))) dW)
     (az (aZ (pv 5))))),?_⟩
   refine ⟨_,rfl,fld e0 T.aL T.bL rfl ?_⟩;refine ⟨_,rfl,r,dx,_,rfl,e0,rfl,_,rfl,?_⟩;refine ⟨r,k,x,rfl,R,hk,?_⟩;have split:numIn k (fun v=>decide (lo<=(v:Int))&&decide ((v:Int)<=hi)) x.b x.p=Fk.andThen (numIn k (fun _=>true) x.b x.p) fun y=>Fk.andThen (need (decide (lo<=(y.1:Int))&&decide ((y.1:Int)<=hi)) 2 x.p) fun _=>.ok y:=by
     unfold numIn;split
     . rfl
     . rw [if_pos rfl]
       show _=Fk.andThen (need _ 2 x.p) _;unfold need;split<;>rfl
   rw [split,mw.andThen] at bE;refine bE.mono fun y hy bE H1 R1 F1=>?_;obtain ⟨d1,e1⟩:=R1.obj;have hw:x.w=x.w:=rfl;refine ⟨_,rfl,_,rfl,_,_,rfl,rfl,_,rfl,?_⟩;by_cases h1:(y.1:Int) < lo
   . have bad:need (decide (lo<=(y.1:Int))&&decide ((y.1:Int)<=hi)) 2 x.p=.error ⟨2,x.p⟩:=by simp [need];omega
     rw [bad] at bE;rw [decide_eq_true h1];refine ⟨_,rfl,r,d1,_,rfl,e1,rfl,_,rfl,?_⟩;exact ⟨r,x.w,2,(x.p:Int),d1,_,rfl,e1,rfl,fun H' d' hF=>bE H' d' hF⟩
   . rw [decide_eq_false h1]
     refine ⟨_,rfl,_,rfl,_,_,rfl,rfl,_,rfl,?_⟩;by_cases h2:hi < (y.1:Int)
     . have bad:need (decide (lo<=(y.1:Int))&&decide ((y.1:Int)<=hi)) 2 x.p=.error ⟨2,x.p⟩:=by simp [need];omega
       rw [bad] at bE;rw [decide_eq_true h2];refine ⟨_,rfl,r,d1,_,rfl,e1,rfl,_,rfl,?_⟩;exact ⟨r,x.w,2,(x.p:Int),d1,_,rfl,e1,rfl,fun H' d' hF=>bE H' d' hF⟩
     . have good:need (decide (lo<=(y.1:Int))&&decide ((y.1:Int)<=hi)) 2 x.p=.ok ():=by simp [need];omega
       rw [good] at bE;rw [decide_eq_false h2];exact ⟨_,rfl,bE H1 R1 F1⟩
end
open Fk (Fault Bytes numIn need andThen PAtom PBond)
theorem mw.good {C:Addr} {w:Int} {k:Nat} {g g':Nat->Bool} {b:Bytes} {p:Nat} {kk:Nat×Bytes×Nat->Prop} {E:XK} (h:∀ v,g v=g' v) (a:mw C w (numIn k g' b p) kk E):mw C w (numIn k g b p) kk E:=by
 rw [JM.L8 h];exact a
theorem mw.andThen' {α β:Type} {C:Addr} {w:Int} {x:Except Fault α} {f:α->Except Fault β} {k:β->Prop} {E:XK} (h:mw C w (Fk.andThen x f) k E):mw C w x (fun y=>mw C w (f y) k E) E:=mw.andThen.mp h
section
def WM (K:Zqq) (CR CF:Addr):Sp:=fun vs H Q E=>∃ (r:Addr) (k m:Nat) (x:Gm),vs=[.ref r,.int (k:Int),.int (m:Int)]/\fC K CR H r x/\(k=1\/k=2) /\
 mw CF x.w (Fk.pairIn k m x.b x.p) (fun y=>∀ H' p,fC K CR H' r { x with b:=y.2.1,p:=y.2.2 }->jv [r] H H'->H p=none->H' p=some (.tup [.int (y.1.1:Int),.int (y.1.2:Int)])->Q (.ref p) H') E
theorem Fv:aQ ["self","size","most","least","greatest"] ["self","size","most"] (aF lU):=lR (by decide +kernel)
theorem Ur (T:Txt K mg t):bF P w K mg base (uW P w) 6 t.cz t.gu ["self","size","most"] (WM K t.aG t.aH):=by
 have GB:=@lH P w K mg base t T;refine T.gz.KZ Fv (fun vs H Q E h=>?_) (fun cdv A outer s H vs Q E hr h=>?_)
 . obtain ⟨r,k,m,x,rfl,_⟩:=h
   rfl
 . obtain ⟨r,k,m,x,rfl,R,hk,bE⟩:=h
   obtain ⟨dx,e0⟩:=R.obj;refine ⟨_,ak (aR (i:=3) Fv.nd rfl (Or.inl rfl) (aW (pv 0) T.aL T.aJ GB hr T.aI .nil c7 (af (pv 1) (af aN (af (pv 2) au)))))
     (ak (aR (i:=4) Fv.nd rfl (Or.inl rfl) (aW (pv 0) T.aL T.aJ GB hr T.aI .nil c7 (af (pv 1) (af (pv 3) (af (pv 2) au)))))
     (az (aZ (mD (af (pv 3) (af (pv 4) au)))))),?_⟩
   refine ⟨_,rfl,r,dx,_,rfl,e0,rfl,_,rfl,_,rfl,?_⟩;refine ⟨r,k,0,(m:Int),x,rfl,R,hk,mw.good (g':=fun v=>decide (v<=m)) (fun v=>by rw [Bool.eq_iff_iff];simp) (bE.andThen'.mono fun y hy bE H1 R1 F1=>?_)⟩;obtain ⟨d1,e1⟩:=R1.obj;refine ⟨_,rfl,r,d1,_,rfl,e1,rfl,_,rfl,_,rfl,_,rfl,?_⟩;refine ⟨r,k,(y.1:Int),(m:Int),_,rfl,R1,hk,mw.good (g':=fun v=>decide (y.1<=v)&&decide (v<=m)) (fun v=>by rw [Bool.eq_iff_iff];simp) (bE.andThen'.mono fun z hz bE H2 R2 F2=>?_)⟩;refine ⟨_,rfl,_,rfl,(by show 2<=sizeLine;decide),fun p hp=>?_⟩;have F3:jv [r] H2 (upd H2 p (.tup [.int (y.1:Int),.int (z.1:Int)])):=fun b o e n=>by rw [aq (ay e hp)];exact e
   have pn:H p=none:=by
     cases q:H p with
     | none=>rfl
     | some o=>
       by_cases z:p=r
       . obtain ⟨d2,e2⟩:=R2.obj
         rw [z,e2] at hp;cases hp
       . rw [(F1.trans F2) p o q (by simpa using z)] at hp;cases hp
   obtain ⟨d2,e2⟩:=R2.obj;refine bE _ p (R2.stay (S:=[p]) (fun b o e n=>by rw [aq (by simpa using n)];exact e) ?_ ?_ ?_ ?_) ((F1.trans F2).trans F3) pn ai
   . simp;exact ay e2 hp
   . simp;exact ay R2.hpl hp
   . simp;exact ay R2.Ko hp
   . intro b hb o u;rw [show b=p by simpa using hb,hp];exact fun z=>by cases z
def Z1 (K:Zqq) (CR CF:Addr):Sp:=fun vs H Q E=>∃ (r m:Addr) (M:Bytes) (x:Gm),vs=[.ref r,.ref m]/\fC K CR H r x/\(∀ H,oj K H m (vB M)) /\
 mw CF x.w (JM.mE M x.b x.p) (fun y=>∀ H',fC K CR H' r { x with b:=y.1,p:=y.2 }->jv [r] H H'->Q .non H') E
theorem Pu:aQ ["self","mark","byte"] ["self","mark"] (aF mF):=lR (by decide +kernel)
theorem WN (T:Txt K mg t):bF P w K mg base (uW P w) 6 t.cA t.gX ["self","mark"] (Z1 K t.aG t.aH):=by
 have GF:=@sH P w K mg base t T;have GN:=@Uq P w K mg base t T;obtain ⟨Oj,g1⟩:=T.AI;refine T.i8.KZ Pu (fun vs H Q E h=>?_) (fun cdv A outer s H vs Q E hr h=>?_)
 . obtain ⟨r,m,M,x,rfl,_⟩:=h
   rfl
 . obtain ⟨r,m,M,x,rfl,R,hM,bE⟩:=h
   have Mv:dG 3 _:=hr.mono (by decide);have hr4:dG 4 _:=hr.mono (by decide);refine ⟨_,az (fj Jk rfl (N7 (pv 1)) (bw (i:=2) Pu.nd rfl (Or.inl rfl))
     (az (kL (cS wk (aW (pv 0) T.aL T.lA GN hr4 T.l6 .nil c7 (af aN au)) (pv 2) (bW _))
       (az (dX (aW (pv 0) T.aL T.dw GF Mv T.dj .nil c7 (af (aU rfl g1 (v:=.int 1) ⟨_,rfl⟩) (af (gJ xm (aA (pv 0) rfl) aN) au))))) dW))),?_⟩
   refine ⟨_,rfl,m,rfl,⟨_,hM H⟩,IX (K:=K) (a:=m) (xs:=vB M) (fun i σ H'=>∃ (b:Bytes) (p:Nat) (v:Option V),σ=[some (.ref r),some (.ref m),v]/\fC K t.aG H' r { x with b:=b,p:=p }/\jv [r] H H' /\
     mw t.aH x.w (JM.mE (M.drop i) b p) (fun y=>∀ H',fC K t.aG H' r { x with b:=y.1,p:=y.2 }->jv [r] H H'->Q .non H') E) ⟨x.b,x.p,none,rfl,R,jv.refl,bE⟩ (fun i σ H' _ _=>hM H') ?_ ?_⟩
   . rintro i y σ H' hi ⟨b,p,v,rfl,R1,F1,bE⟩
     obtain ⟨c,hc,rfl⟩:∃ c,M[i]?=some c/\y=V.int (c.toNat:Int):=by
       unfold vB at hi;rw [List.getElem?_map] at hi;cases e:M[i]? with
       | none=>rw [e] at hi;cases hi
       | some c=>rw [e] at hi;exact ⟨c,rfl,(Option.some.inj hi).symm⟩
     have hd:M.drop i=c::M.drop (i+1):=by
       obtain ⟨hl,hg⟩:=List.getElem?_eq_some_iff.mp hc;rw [List.drop_eq_getElem_cons hl,hg]
     rw [hd] at bE;obtain ⟨dx,e0⟩:=R1.obj;refine ⟨_,rfl,r,dx,_,rfl,e0,rfl,?_⟩;refine ⟨r,1,_,rfl,R1,.inl rfl,bE.andThen'.mono fun z hz bE H2 R2 F2=>?_⟩;refine ⟨_,rfl,rfl,_,rfl,?_⟩;obtain ⟨d2,e2⟩:=R2.obj;obtain ⟨_,_,_,z1,z2⟩:=JM.bA hz;refine zB (fun h=>?_) (fun h=>?_)
     . have ne:¬ z.1=c.toNat:=fun q=>by rw [q] at h;simp at h
       have bad:need (decide (z.1=c.toNat)) 1 p=.error ⟨1,p⟩:=by simp [need,ne]
       rw [bad] at bE;refine ⟨_,rfl,r,d2,_,rfl,e2,rfl,_,rfl,fld e2 T.aL T.bL rfl ⟨_,_,rfl,rfl,?_⟩⟩;refine ⟨r,x.w,1,((z.2.2:Nat):Int) - 1,d2,_,rfl,e2,rfl,fun H' d' hF=>bE H' d' ?_⟩;have e3:((z.2.2:Nat):Int) - 1=(p:Int):=by omega
       rw [e3] at hF;exact hF
     . have eq:z.1=c.toNat:=by
         by_cases q:z.1=c.toNat
         . exact q
         . exact absurd (by simp;omega) h
       have good:need (decide (z.1=c.toNat)) 1 p=.ok ():=by simp [need,eq]
       rw [good] at bE;exact ⟨_,_,_,rfl,R2,F1.trans F2,bE⟩
   . rintro σ H' ⟨b,p,v,rfl,R1,F1,bE⟩
     rw [show (vB M).length=M.length by simp [vB],List.drop_length] at bE;exact bE H' R1 F1
end
theorem jv.fresh {r:Addr} {H H1:Hp} {p:Addr} (F:jv [r] H H1) {o:HO} (e:H1 r=some o) (hp:H1 p=none):H p=none:=by
 cases q:H p with
 | none=>rfl
 | some u=>
   by_cases z:p=r
   . rw [z,e] at hp;cases hp
   . rw [F p u q (by simpa using z)] at hp;cases hp
theorem jv.laid {S:List Addr} {H:Hp} {p:Addr} {o:HO} (hp:H p=none):jv S H (upd H p o):=fun b u e n=>by rw [aq (ay e hp)];exact e
theorem fC.laid {K:Zqq} {C:Addr} {H:Hp} {r p:Addr} {x:Gm} {o:HO} (R:fC K C H r x) (hp:H p=none):fC K C (upd H p o) r x:=by
 obtain ⟨dx,e⟩:=R.obj;exact R.stay (S:=[]) (jv.laid hp) (by simp) (by simp) (by simp) (by simp)
theorem fC.wrote {K:Zqq} {C:Addr} {H:Hp} {r p:Addr} {x:Gm} {o u:HO} (R:fC K C H r x) (hp:H p=some u) (n1:p ≠ r) (n2:p ≠ x.hp) (n3:p ≠ x.sp) (n4:∀ o v,u ≠ .qh o v):fC K C (upd H p o) r x:=
 R.stay (S:=[p]) (fun b o e n=>by rw [aq (by simpa using n)];exact e) (by simpa using Ne.symm n1) (by simpa using Ne.symm n2) (by simpa using Ne.symm n3) (fun b hb o v z=>by
  rw [show b=p by simpa using hb,hp] at z;exact n4 _ _ (Option.some.inj z))
section
def vN (l:List Nat):List V:=l.map fun (n:Nat)=>V.int (n:Int)
def Kq (b:Bytes) (p:Nat):Except Fault (List Nat×Bytes×Nat):=Fk.andThen (numIn 1 (fun v=>decide (v<=8)) b p) fun c=>Fk.elementsIn c.1 0 c.2.1 c.2.2
def WO (K:Zqq) (CR CF:Addr):Sp:=fun vs H Q E=>∃ (r:Addr) (x:Gm),vs=[.ref r]/\fC K CR H r x /\
 mw CF x.w (Kq x.b x.p) (fun y=>∀ H' l,fC K CR H' r { x with b:=y.2.1,p:=y.2.2 }->jv [r] H H'->H l=none->H' l=some (.lst (vN y.1))->Q (.ref l) H') E
theorem yu:aQ ["reader","named","before","k"] ["reader"] (aF vj):=lR (by decide +kernel)
theorem Us:∀ (k had:Nat) (b:Bytes) (p:Nat) (pre:List Nat),Fk.andThen (Fk.elementsIn (k+1) had b p) (fun l=>.ok (pre++l.1,l.2.1,l.2.2)) =
  Fk.andThen (numIn 1 (fun v=>decide (had < v)&&decide (v<=Fk.ELEMENTS)) b p) fun x=>Fk.andThen (Fk.elementsIn k x.1 x.2.1 x.2.2) fun l=>.ok ((pre++[x.1])++l.1,l.2.1,l.2.2):=by
 intro k had b p pre;rw [show Fk.elementsIn (k+1) had b p=Fk.andThen (numIn 1 (fun v=>decide (had < v)&&decide (v<=Fk.ELEMENTS)) b p) (fun x=>Fk.andThen (Fk.elementsIn k x.1 x.2.1 x.2.2) fun l=>.ok (x.1::l.1,l.2.1,l.2.2)) from rfl,JM.br];congr 1;funext x;rw [JM.br];congr 1;funext l;show Except.ok (pre++(x.1::l.1),l.2.1,l.2.2)=_;rw [List.append_assoc];rfl
theorem Ut (T:Txt K mg t):bF P w K mg base (uW P w) 6 t.jQ t.nF ["reader"] (WO K t.aG t.aH):=by
 have GB:=@lH P w K mg base t T;obtain ⟨Oj,g1⟩:=T.AO;obtain ⟨WL,g2⟩:=T.rX;refine T.lM.KZ yu (fun vs H Q E h=>?_) (fun cdv A outer s H vs Q E hr h=>?_)
 . obtain ⟨r,x,rfl,_⟩:=h
   rfl
 . obtain ⟨r,x,rfl,R,bE⟩:=h
   refine ⟨_,ak (aR (i:=1) yu.nd rfl (Or.inl rfl) (jM au))
     (ak (aR (i:=2) yu.nd rfl (Or.inl rfl) aN)
     (ak (fj Jk rfl (mS rfl T.p9 (af (aW (pv 0) T.aL T.aJ GB hr T.aI .nil c7 (af aN (af aN (af (aU rfl g1 (v:=.int 8) ⟨_,rfl⟩) au)))) au)) (bw (i:=3) yu.nd rfl (Or.inl rfl))
       (ak (aR (i:=2) yu.nd rfl (Or.inl rfl) (aW (pv 0) T.aL T.aJ GB hr T.aI .nil c7 (af aN (af (gJ uZ (pv 2) aN) (af (aU rfl g2 (v:=.int 118) ⟨_,rfl⟩) au)))))
       (az (dX (u5 PySem.F.plainAttrs_list PySem.F.slot_list_append PySem.F.type_list_append jw (pv 1) (af (pv 2) au))))))
     (az (aZ (pv 1))))),?_⟩
   refine ⟨Nat.zero_le _,fun l hl=>?_⟩;have R0:=R.laid (o:=.lst []) hl;obtain ⟨d0,e0⟩:=R0.obj;have rl:r ≠ l:=fun z=>by obtain ⟨d,e⟩:=R.obj;rw [<- z,e] at hl;cases hl
   refine ⟨_,rfl,r,d0,_,rfl,e0,rfl,?_⟩;refine ⟨r,1,0,8,_,rfl,R0,.inl rfl,mw.good (g':=fun v=>decide (v<=8)) (fun v=>by rw [Bool.eq_iff_iff];simp only [Bool.and_eq_true,decide_eq_true_eq];omega) (bE.andThen'.mono fun c hc bE H1 R1 F1=>?_)⟩;obtain ⟨_,c8,_⟩:=JM.bA hc;have c8:c.1<=8:=of_decide_eq_true c8;have hl1:H1 l=some (.lst []):=F1 l _ ai (by simpa using Ne.symm rl);have FH:∀ {H2:Hp},jv [r,l] H1 H2->jv [r] H H2:=fun {H2} f b o e n=>f b o (F1 b o (jv.laid (S:=[r]) hl b o e n) n) (by simp at n ⊢;exact ⟨n,ay e hl⟩);refine ⟨(c.1:Int),rfl,by omega,by omega,?_⟩;rw [Int.toNat_natCast];let xf:L2.Iv:=fun i σ H'=>∃ (had:Nat) (b:Bytes) (p:Nat) (v:Option V) (pre:List Nat),i<=c.1/\pre.length=i/\σ=[some (.ref r),some (.ref l),some (.int (had:Int)),v]/\fC K t.aG H' r { x with b:=b,p:=p }/\jv [r,l] H1 H'/\H' l=some (.lst (vN pre)) /\
     mw t.aH x.w (Fk.andThen (Fk.elementsIn (c.1 - i) had b p) fun l=>.ok (pre++l.1,l.2.1,l.2.2)) (fun y=>∀ H' l,fC K t.aG H' r { x with b:=y.2.1,p:=y.2.2 }->jv [r] H H'->H l=none->H' l=some (.lst (vN y.1))->Q (.ref l) H') E
   refine qS (n:=c.1) xf
     ⟨0,c.2.1,c.2.2,none,[],Nat.zero_le _,rfl,rfl,R1,jv.refl,hl1,?_⟩ ?_ ?_
   . rw [Nat.sub_zero]
     have e:(Fk.andThen (Fk.elementsIn c.1 0 c.2.1 c.2.2) fun l=>Except.ok ([]++l.1,l.2.1,l.2.2))=Fk.elementsIn c.1 0 c.2.1 c.2.2:=by
       cases Fk.elementsIn c.1 0 c.2.1 c.2.2<;>rfl
     rw [e];exact bE
   . rintro i σ H' hi ⟨had,b,p,v,pre,hic,hpre,rfl,R2,F2,hl2,bE⟩
     obtain ⟨d2,e2⟩:=R2.obj;rw [show c.1 - i=(c.1 - (i+1))+1 by omega,Us] at bE;refine ⟨_,rfl,r,d2,_,rfl,e2,rfl,_,rfl,_,_,rfl,rfl,?_⟩;refine ⟨r,1,(had:Int)+1,118,_,rfl,R2,.inl rfl,mw.good (g':=fun v=>decide (had < v)&&decide (v<=Fk.ELEMENTS)) (fun v=>by rw [Bool.eq_iff_iff];simp only [Bool.and_eq_true,decide_eq_true_eq];unfold Fk.ELEMENTS;omega) (bE.andThen'.mono fun z hz bE H3 R3 F3=>?_)⟩;have hl3:H3 l=some (.lst (vN pre)):=F3 l _ hl2 (by simpa using Ne.symm rl);refine ⟨_,rfl,.inl ⟨rfl,_,bI.of hl3⟩,_,rfl,l,_,_,rfl,rfl,hl3,(by simp [vN];rw [sizeLine_eq];omega),?_⟩;refine ⟨z.1,z.2.1,z.2.2,some (.int (0+(i:Int))),pre++[z.1],by omega,by simp [hpre],rfl,?_,?_,?_,bE⟩
     . refine R3.wrote hl3 (Ne.symm rl) ?_ ?_ (fun _ _ z=>by cases z)
       . intro q;have:=R0.hpl;rw [<- show l=x.hp from q,ai] at this;have h9:=R.hpl;rw [<- show l=x.hp from q,hl] at h9;cases h9
       . intro q;have h9:=R.Ko;rw [<- show l=x.sp from q,hl] at h9;cases h9
     . intro b' o e n
       have n':b' ≠ r/\b' ≠ l:=by simpa using n
       rw [aq n'.2];exact F3 b' o (F2 b' o e n) (by simpa using n'.1)
     . rw [ai];simp only [vN,List.map_append];rfl
   . rintro σ H' ⟨had,b,p,v,pre,_,hpre,rfl,R2,F2,hl2,bE⟩
     rw [Nat.sub_self] at bE;refine ⟨_,rfl,?_⟩;have a2:=bE H' l R2 (FH F2) hl;rw [show pre++([]:List Nat)=pre from List.append_nil _] at a2;exact a2 hl2
def bfs (z:PBond):List (Str×V):=[("a",.int (z.a:Int)),("b",.int (z.b:Int)),("orders",.int (z.orders:Int)),("how",.int (z.how:Int)),("ring",.int (z.ring:Int)),("side",.int (z.side:Int))]
def WQ (K:Zqq) (C:Addr):Sp:=fun vs H Q _=>∃ (o dx p:Addr) (z:PBond),vs=[.ref o,.ref p,.int (z.orders:Int),.int (z.how:Int),.int (z.ring:Int),.int (z.side:Int)]/\H o=some (.ins C dx []) /\
 H p=some (.tup [.int (z.a:Int),.int (z.b:Int)])/\∀ H',H' o=some (.ins C dx (bfs z))->jv [o] H H'->Q .non H'
theorem Uu:aQ ["self","pair","orders","how","ring","side"] ["self","pair","orders","how","ring","side"] (aF n8):=lR (by decide +kernel)
theorem Uv (T:Txt K mg t):bF P w K mg base m5 1 t.cV t.ja ["self","pair","orders","how","ring","side"] (WQ K t.aP):=by
 refine T.ji.ok Uu (fun vs H Q E h=>?_) (fun cdv A outer s H vs Q E hr h=>?_)
 . obtain ⟨o,dx,p,z,rfl,_⟩:=h
   rfl
 . obtain ⟨o,dx,p,z,rfl,h0,hp,k⟩:=h
   refine ⟨_,ak (ck (pv 0) (bT xr (pv 1) aN (fun _ _=>rfl)) rfl) (ak (ck (pv 0) (bT xr (pv 1) aN (fun _ _=>rfl)) rfl) (ak (ck (pv 0) (pv 2) rfl) (ak (ck (pv 0) (pv 3) rfl) (ak (ck (pv 0) (pv 4) rfl) (az (ck (pv 0) (pv 5) rfl)))))),?_⟩;have po:p ≠ o:=ni hp h0 (by intro z;cases z);refine ⟨_,rfl,Ym (oj.of hp) rfl ⟨_,rfl,o,_,dx,_,rfl,h0,T.bc,T.dz,(by show 0 < 1000;decide),?_⟩⟩;refine ⟨_,rfl,Ym (oj.of (by rw [aq po];exact hp)) rfl ⟨_,rfl,o,_,dx,_,rfl,ai,T.bc,T.d8,(by show 1 < 1000;decide),?_⟩⟩;refine ⟨_,rfl,_,rfl,o,_,dx,_,rfl,ai,T.bc,T.cR,(by show 2 < 1000;decide),?_⟩;refine ⟨_,rfl,_,rfl,o,_,dx,_,rfl,ai,T.bc,T.jD,(by show 3 < 1000;decide),?_⟩;refine ⟨_,rfl,_,rfl,o,_,dx,_,rfl,ai,T.bc,T.jn,(by show 4 < 1000;decide),?_⟩;refine ⟨_,rfl,_,rfl,o,_,dx,_,rfl,ai,T.bc,T.cX,(by show 5 < 1000;decide),?_⟩;refine k _ ai fun b u e n=>?_;have nb:b ≠ o:=by simpa using n
   simp only [nh];rw [aq nb];exact e
end
abbrev uq (α:Type):=(Addr->Prop)->Hp->V->α->Prop
structure yw {α:Type} (Rep:uq α):Prop where
 stay:∀ {D:Addr->Prop} {H H':Hp} {v:V} {z:α},Rep D H v z->(∀ b o,D b->H b=some o->H' b=some o)->Rep D H' v z
 mono:∀ {D D':Addr->Prop} {H:Hp} {v:V} {z:α},Rep D H v z->(∀ b,D b->D' b)->Rep D' H v z
structure cQ {α:Type} (Rep:uq α) (D:Addr->Prop) (H:Hp) (vs:List V) (zs:List α):Prop where
 len:vs.length=zs.length
 at_:∀ (i:Nat) (v:V) (z:α),vs[i]?=some v->zs[i]?=some z->Rep D H v z
theorem cQ.nil {α:Type} {Rep:uq α} {D:Addr->Prop} {H:Hp}:cQ Rep D H [] []:=⟨rfl,fun i v z h _=>by simp at h⟩
theorem cQ.snoc {α:Type} {Rep:uq α} {D:Addr->Prop} {H:Hp} {vs:List V} {zs:List α} {v:V} {z:α} (R:cQ Rep D H vs zs) (r:Rep D H v z):cQ Rep D H (vs++[v]) (zs++[z]):=by
 refine ⟨by simp [R.len],fun i v' z' h1 h2=>?_⟩;rcases Nat.lt_trichotomy i vs.length with h | h | h
 . rw [List.getElem?_append_left h] at h1
   rw [List.getElem?_append_left (R.len ▸ h)] at h2;exact R.at_ i v' z' h1 h2
 . subst h
   rw [List.getElem?_append_right (Nat.le_refl _),Nat.sub_self] at h1;rw [R.len,List.getElem?_append_right (Nat.le_refl _),Nat.sub_self] at h2;cases h1;cases h2;exact r
 . have:(vs++[v])[i]?=none:=List.getElem?_eq_none (by simp;omega)
   rw [this] at h1;cases h1
theorem cQ.stay {α:Type} {Rep:uq α} (ok:yw Rep) {D:Addr->Prop} {H H':Hp} {vs:List V} {zs:List α} (R:cQ Rep D H vs zs) (k:∀ b o,D b->H b=some o->H' b=some o):cQ Rep D H' vs zs:=
 ⟨R.len,fun i v z h1 h2=>ok.stay (R.at_ i v z h1 h2) k⟩
theorem cQ.mono {α:Type} {Rep:uq α} (ok:yw Rep) {D D':Addr->Prop} {H:Hp} {vs:List V} {zs:List α} (R:cQ Rep D H vs zs) (k:∀ b,D b->D' b):cQ Rep D' H vs zs:=
 ⟨R.len,fun i v z h1 h2=>ok.mono (R.at_ i v z h1 h2) k⟩
def yx (C:Addr):uq (PBond×Nat):=fun D H v z=>∃ o dx,v=.ref o/\D o/\H o=some (.ins C dx (bfs z.1))
theorem yx.ok (C:Addr):yw (yx C):=⟨fun ⟨o,dx,e,d,h⟩ k=>⟨o,dx,e,d,k _ _ d h⟩,fun ⟨o,dx,e,d,h⟩ k=>⟨o,dx,e,k _ d,h⟩⟩
def afs (z:PAtom) (ln tc th tn tt:Addr):List (Str×V):=[("named",.ref ln),("isotope",.int (z.isotope:Int)),("charge",.ref tc),("hydrogens",.ref th),("neighbours",.ref tn),("total",.ref tt),("ring",.int (z.ring:Int)),("hand",.int (z.hand:Int))]
def vP (x:Nat×Nat):List V:=[.int (x.1:Int),.int (x.2:Int)]
structure abe (C:Addr) (D:Addr->Prop) (H:Hp) (z:PAtom) (o dx ln tc th tn tt:Addr):Prop where
 obj:H o=some (.ins C dx (afs z ln tc th tn tt))
 nam:H ln=some (.lst (vN z.elements))
 cha:H tc=some (.tup (vP z.charge))
 hyd:H th=some (.tup (vP z.hydrogens))
 bes:H tn=some (.tup (vP z.beside))
 sum:H tt=some (.tup (vP z.sum))
 do_:D o
 dn:D ln
 dc:D tc
 dh:D th
 db:D tn
 dt:D tt
def B8 (C:Addr):uq (PAtom×Nat):=fun D H v z=>∃ o dx ln tc th tn tt,v=.ref o/\abe C D H z.1 o dx ln tc th tn tt
theorem B8.ok (C:Addr):yw (B8 C):=
 ⟨fun ⟨o,dx,ln,tc,th,tn,tt,e,r⟩ k=>⟨o,dx,ln,tc,th,tn,tt,e,k _ _ r.do_ r.obj,k _ _ r.dn r.nam,k _ _ r.dc r.cha,k _ _ r.dh r.hyd,k _ _ r.db r.bes,k _ _ r.dt r.sum,r.do_,r.dn,r.dc,r.dh,r.db,r.dt⟩,
  fun ⟨o,dx,ln,tc,th,tn,tt,e,r⟩ k=>⟨o,dx,ln,tc,th,tn,tt,e,r.obj,r.nam,r.cha,r.hyd,r.bes,r.sum,k _ r.do_,k _ r.dn,k _ r.dc,k _ r.dh,k _ r.db,k _ r.dt⟩⟩
def Pw {α:Type} (K:Zqq) (CR CF:Addr) (one:Bytes->Nat->Except Fault (α×Bytes×Nat)) (Rep:uq α):Sp:=fun vs H Q E=>∃ (r:Addr) (x:Gm),vs=[.ref r]/\fC K CR H r x /\
 mw CF x.w (one x.b x.p) (fun y=>∀ H' v,fC K CR H' r { x with b:=y.2.1,p:=y.2.2 }->jv [r] H H'->Rep (fun b=>H b=none) H' v y.1->Q v H') E
def Kr {α:Type} (K:Zqq) (CR CF:Addr) (one:Nat×Nat->Bytes->Nat->Except Fault (α×Bytes×Nat)) (Rep:uq α):Sp:=fun vs H Q E=>∃ (r p:Addr) (q:Nat×Nat) (x:Gm),vs=[.ref r,.ref p]/\fC K CR H r x/\H p=some (.tup (vP q)) /\
 mw CF x.w (one q x.b x.p) (fun y=>∀ H' v,fC K CR H' r { x with b:=y.2.1,p:=y.2.2 }->jv [r] H H'->Rep (fun b=>H b=none) H' v y.1->Q v H') E
section
theorem Fw:aQ ["reader","pair","orders","how","ring","side"] ["reader","pair"] (aF lZ):=lR (by decide +kernel)
theorem jv.made {H H1:Hp} {o dx C:Addr} {S:List Addr} (nx:H o=none) (nd:H dx=none) (k:jv [o] (upd (upd H dx (.own o)) o (.ins C dx [])) H1):jv S H H1:=fun b u e n=>
 k b u (by rw [aq (ay e nx),aq (ay e nd)];exact e) (by simpa using ay e nx)
theorem Z2 (T:Txt K mg t):bF P w K mg base (uW P w) 6 t.bS t.gx ["reader","pair"] (Kr K t.aG t.aH JM.qM (yx t.aP)):=by
 have GB:=@lH P w K mg base t T;have GI:=@Uv P w K mg base t T;obtain ⟨Oj,g1⟩:=T.AQ;obtain ⟨WL,g2⟩:=T.oY;obtain ⟨tk3,g3⟩:=T.yc;obtain ⟨tk4,g4⟩:=T.tS;refine T.eW.KZ Fw (fun vs H Q E h=>?_) (fun cdv A outer s H vs Q E hr h=>?_)
 . obtain ⟨r,p,q,x,rfl,_⟩:=h
   rfl
 . obtain ⟨r,p,q,x,rfl,R,hp,bE⟩:=h
   have hr2:dG 2 _:=hr.mono (by decide);refine ⟨_,ak (aR (i:=2) Fw.nd rfl (Or.inl rfl) (aW (pv 0) T.aL T.aJ GB hr T.aI .nil c7 (af aN (af aN (af (aU rfl g1 (v:=.int 7) ⟨_,rfl⟩) au)))))
     (ak (aR (i:=3) Fw.nd rfl (Or.inl rfl) (aW (pv 0) T.aL T.aJ GB hr T.aI .nil c7 (af aN (af aN (af (aU rfl g2 (v:=.int 1) ⟨_,rfl⟩) au)))))
     (ak (aR (i:=4) Fw.nd rfl (Or.inl rfl) (aW (pv 0) T.aL T.aJ GB hr T.aI .nil c7 (af aN (af aN (af (aU rfl g3 (v:=.int 2) ⟨_,rfl⟩) au)))))
     (ak (aR (i:=5) Fw.nd rfl (Or.inl rfl) (aW (pv 0) T.aL T.aJ GB hr T.aI .nil c7 (af aN (af aN (af (aU rfl g4 (v:=.int 3) ⟨_,rfl⟩) au)))))
     (az (aZ (qI T.AG GI hr2 rfl T.AF T.tN .nil bD (af (pv 1) (af (pv 2) (af (pv 3) (af (pv 4) (af (pv 5) au))))))))))),?_⟩
   obtain ⟨d0,e0⟩:=R.obj;have pr:p ≠ r:=ni hp e0 (by intro z;cases z);refine ⟨_,rfl,r,d0,_,rfl,e0,rfl,?_⟩;refine ⟨r,1,1,7,_,rfl,R,.inl rfl,mw.good (g':=fun v=>decide (1<=v)&&decide (v<=7)) (fun v=>by rw [Bool.eq_iff_iff];simp only [Bool.and_eq_true,decide_eq_true_eq];omega) (bE.andThen'.mono fun y1 hy1 bE H1 R1 F1=>?_)⟩;obtain ⟨d1,e1⟩:=R1.obj;refine ⟨_,rfl,r,d1,_,rfl,e1,rfl,?_⟩;refine ⟨r,1,0,1,_,rfl,R1,.inl rfl,mw.good (g':=fun v=>decide (v<=1)) (fun v=>by rw [Bool.eq_iff_iff];simp only [Bool.and_eq_true,decide_eq_true_eq];omega) (bE.andThen'.mono fun y2 Z3 bE H2 R2 F2=>?_)⟩;obtain ⟨d2,e2⟩:=R2.obj;refine ⟨_,rfl,r,d2,_,rfl,e2,rfl,?_⟩;refine ⟨r,1,0,2,_,rfl,R2,.inl rfl,mw.good (g':=fun v=>decide (v<=2)) (fun v=>by rw [Bool.eq_iff_iff];simp only [Bool.and_eq_true,decide_eq_true_eq];omega) (bE.andThen'.mono fun y3 hy3 bE H3 R3 F3=>?_)⟩;obtain ⟨d3,e3⟩:=R3.obj;refine ⟨_,rfl,r,d3,_,rfl,e3,rfl,?_⟩;refine ⟨r,1,0,3,_,rfl,R3,.inl rfl,mw.good (g':=fun v=>decide (v<=3)) (fun v=>by rw [Bool.eq_iff_iff];simp only [Bool.and_eq_true,decide_eq_true_eq];omega) (bE.andThen'.mono fun y4 hy4 bE H4 R4 F4=>?_)⟩;obtain ⟨d4,e4⟩:=R4.obj;have F:jv [r] H H4:=((F1.trans F2).trans F3).trans F4;have hp4:=F p _ hp (by simpa using pr);refine ⟨_,rfl,_,rfl,_,rfl,_,rfl,_,rfl,fun o dx no nd ne=>?_⟩;refine ⟨o,dx,p,⟨q.1,q.2,y1.1,y2.1,y3.1,y4.1⟩,rfl,ai,?_,fun H5 h5 F5=>⟨rfl,?_⟩⟩
   . rw [aq (ay hp4 no),aq (ay hp4 nd)];exact hp4
   . have F6:jv [] H4 H5:=jv.made no nd F5
     refine bE H5 (.ref o) (R4.stay F6 (by simp) (by simp) (by simp) (by simp)) (F.trans (F6.mono (by simp))) ⟨o,dx,rfl,F.fresh e4 no,h5⟩
def WR (C:Addr):Sp:=fun vs H Q _=>∃ (o dx ln tc th tn tt:Addr) (z:PAtom),vs=[.ref o,.ref ln,.int (z.isotope:Int),.ref tc,.ref th,.ref tn,.ref tt,.int (z.ring:Int),.int (z.hand:Int)]/\H o=some (.ins C dx []) /\
 ∀ H',H' o=some (.ins C dx (afs z ln tc th tn tt))->jv [o] H H'->Q .non H'
theorem Uw:aQ ["self","named","isotope","charge","hydrogens","neighbours","total","ring","hand"] ["self","named","isotope","charge","hydrogens","neighbours","total","ring","hand"] (aF n6):=lR (by decide +kernel)
theorem Ux (T:Txt K mg t):bF P w K mg base m5 1 t.cU t.iZ ["self","named","isotope","charge","hydrogens","neighbours","total","ring","hand"] (WR t.aO):=by
 refine T.jh.ok Uw (fun vs H Q E h=>?_) (fun cdv A outer s H vs Q E hr h=>?_)
 . obtain ⟨o,dx,ln,tc,th,tn,tt,z,rfl,_⟩:=h
   rfl
 . obtain ⟨o,dx,ln,tc,th,tn,tt,z,rfl,h0,k⟩:=h
   refine ⟨_,ak (ck (pv 0) (pv 1) rfl) (ak (ck (pv 0) (pv 2) rfl) (ak (ck (pv 0) (pv 3) rfl) (ak (ck (pv 0) (pv 4) rfl) (ak (ck (pv 0) (pv 5) rfl) (ak (ck (pv 0) (pv 6) rfl) (ak (ck (pv 0) (pv 7) rfl) (az (ck (pv 0) (pv 8) rfl)))))))),?_⟩;refine ⟨_,rfl,_,rfl,o,_,dx,_,rfl,h0,T.b7,T.fH,(by show 0 < 1000;decide),?_⟩;refine ⟨_,rfl,_,rfl,o,_,dx,_,rfl,ai,T.b7,T.dQ,(by show 1 < 1000;decide),?_⟩;refine ⟨_,rfl,_,rfl,o,_,dx,_,rfl,ai,T.b7,T.gC,(by show 2 < 1000;decide),?_⟩;refine ⟨_,rfl,_,rfl,o,_,dx,_,rfl,ai,T.b7,T.eO,(by show 3 < 1000;decide),?_⟩;refine ⟨_,rfl,_,rfl,o,_,dx,_,rfl,ai,T.b7,T.dS,(by show 4 < 1000;decide),?_⟩;refine ⟨_,rfl,_,rfl,o,_,dx,_,rfl,ai,T.b7,T.iI,(by show 5 < 1000;decide),?_⟩;refine ⟨_,rfl,_,rfl,o,_,dx,_,rfl,ai,T.b7,T.jl,(by show 6 < 1000;decide),?_⟩;refine ⟨_,rfl,_,rfl,o,_,dx,_,rfl,ai,T.b7,T.cW,(by show 7 < 1000;decide),?_⟩;refine k _ ai fun b u e n=>?_;have nb:b ≠ o:=by simpa using n
   simp only [nh];rw [aq nb];exact e
theorem HC (b:Bytes) (p:Nat):JM.qL b p=Fk.andThen (Kq b p) fun e=>
  Fk.andThen (numIn 2 (fun v=>decide (v<=Fk.ANY)) e.2.1 e.2.2) fun i=>
  Fk.andThen (Fk.pairIn 1 8 i.2.1 i.2.2) fun q=>
  Fk.andThen (Fk.pairIn 1 7 q.2.1 q.2.2) fun h=>
  Fk.andThen (Fk.pairIn 1 Fk.MOSTBESIDE h.2.1 h.2.2) fun d=>
  Fk.andThen (Fk.pairIn 2 Fk.MOSTSUM d.2.1 d.2.2) fun s=>
  Fk.andThen (numIn 1 (fun v=>decide (v<=2)) s.2.1 s.2.2) fun r=>
  Fk.andThen (numIn 1 (fun v=>decide (v<=3)) r.2.1 r.2.2) fun g=>
  .ok ((⟨e.1,i.1,q.1,h.1,d.1,s.1,r.1,g.1⟩,r.2.2),g.2.1,g.2.2):=by
 unfold JM.qL Kq;rw [JM.br]
theorem vJ:aQ ["reader","named","isotope","charge","hydrogens","neighbours","total","ring","hand"] ["reader"] (aF lX):=lR (by decide +kernel)
theorem Z4 (T:Txt K mg t):bF P w K mg base (uW P w) 7 t.bR t.gw ["reader"] (Pw K t.aG t.aH JM.qL (B8 t.aO)):=by
 have GB:=@lH P w K mg base t T;have GR:=@Ur P w K mg base t T;have GN:=@Ut P w K mg base t T;have GI:=@Ux P w K mg base t T;obtain ⟨Oj,g1⟩:=T.uh;obtain ⟨WL,g2⟩:=T.ug;obtain ⟨tk3,g3⟩:=T.oX;obtain ⟨tk4,g4⟩:=T.tR;obtain ⟨tk5,g5⟩:=T.EM;obtain ⟨tk6,g6⟩:=T.yc;obtain ⟨tk7,g7⟩:=T.tS;refine T.eV.KZ vJ (fun vs H Q E h=>?_) (fun cdv A outer s H vs Q E hr h=>?_)
 . obtain ⟨r,x,rfl,_⟩:=h
   rfl
 . obtain ⟨r,x,rfl,R,bE⟩:=h
   have hr2:dG 2 _:=hr.mono (by decide);have Nv:dG 5 _:=hr.mono (by decide);refine ⟨_,ak (aR (i:=1) vJ.nd rfl (Or.inl rfl) (bx GN hr rfl T.A8 T.lM.kp T.A3 .nil c7 (af (pv 0) au)))
     (ak (aR (i:=2) vJ.nd rfl (Or.inl rfl) (aW (pv 0) T.aL T.aJ GB Nv T.aI .nil c7 (af aN (af aN (af (aU rfl g1 (v:=.int 501) ⟨_,rfl⟩) au)))))
     (ak (aR (i:=3) vJ.nd rfl (Or.inl rfl) (aW (pv 0) T.aL T.gB GR hr T.g8 .nil c7 (af aN (af (aU rfl g2 (v:=.int 8) ⟨_,rfl⟩) au))))
     (ak (aR (i:=4) vJ.nd rfl (Or.inl rfl) (aW (pv 0) T.aL T.gB GR hr T.g8 .nil c7 (af aN (af (aU rfl g3 (v:=.int 7) ⟨_,rfl⟩) au))))
     (ak (aR (i:=5) vJ.nd rfl (Or.inl rfl) (aW (pv 0) T.aL T.gB GR hr T.g8 .nil c7 (af aN (af (aU rfl g4 (v:=.int 127) ⟨_,rfl⟩) au))))
     (ak (aR (i:=6) vJ.nd rfl (Or.inl rfl) (aW (pv 0) T.aL T.gB GR hr T.g8 .nil c7 (af aN (af (aU rfl g5 (v:=.int 381) ⟨_,rfl⟩) au))))
     (ak (aR (i:=7) vJ.nd rfl (Or.inl rfl) (aW (pv 0) T.aL T.aJ GB Nv T.aI .nil c7 (af aN (af aN (af (aU rfl g6 (v:=.int 2) ⟨_,rfl⟩) au)))))
     (ak (aR (i:=8) vJ.nd rfl (Or.inl rfl) (aW (pv 0) T.aL T.aJ GB Nv T.aI .nil c7 (af aN (af aN (af (aU rfl g7 (v:=.int 3) ⟨_,rfl⟩) au)))))
     (az (aZ (qI T.AE GI hr2 rfl T.AD T.tM .nil bD (af (pv 1) (af (pv 2) (af (pv 3) (af (pv 4) (af (pv 5) (af (pv 6) (af (pv 7) (af (pv 8) au)))))))))))))))))),?_⟩
   rw [HC] at bE;refine ⟨_,rfl,r,x,rfl,R,bE.andThen'.mono fun y0 hy0 bE H0 ln R0 F0 nn0 hn0=>?_⟩;obtain ⟨d0,e0⟩:=R0.obj;refine ⟨_,rfl,r,d0,_,rfl,e0,rfl,?_⟩;refine ⟨r,2,0,501,_,rfl,R0,.inr rfl,mw.good (g':=fun v=>decide (v<=Fk.ANY)) (fun v=>by rw [Bool.eq_iff_iff];simp only [Bool.and_eq_true,decide_eq_true_eq];unfold Fk.ANY;omega) (bE.andThen'.mono fun y1 hy1 bE H1 R1 F1=>?_)⟩;obtain ⟨d1,e1⟩:=R1.obj;refine ⟨_,rfl,r,d1,_,rfl,e1,rfl,?_⟩;refine ⟨r,1,8,_,rfl,R1,.inl rfl,bE.andThen'.mono fun y2 Z3 bE H2 tc R2 F2 nc2 hc2=>?_⟩;obtain ⟨d2,e2⟩:=R2.obj;refine ⟨_,rfl,r,d2,_,rfl,e2,rfl,?_⟩;refine ⟨r,1,7,_,rfl,R2,.inl rfl,bE.andThen'.mono fun y3 hy3 bE H3 th R3 F3 nc3 hc3=>?_⟩;obtain ⟨d3,e3⟩:=R3.obj;refine ⟨_,rfl,r,d3,_,rfl,e3,rfl,?_⟩;refine ⟨r,1,127,_,rfl,R3,.inl rfl,bE.andThen'.mono fun y4 hy4 bE H4 tn R4 F4 nc4 hc4=>?_⟩;obtain ⟨d4,e4⟩:=R4.obj;refine ⟨_,rfl,r,d4,_,rfl,e4,rfl,?_⟩;refine ⟨r,2,381,_,rfl,R4,.inr rfl,bE.andThen'.mono fun y5 hy5 bE H5 tt R5 F5 nc5 hc5=>?_⟩;obtain ⟨d5,e5⟩:=R5.obj;refine ⟨_,rfl,r,d5,_,rfl,e5,rfl,?_⟩;refine ⟨r,1,0,2,_,rfl,R5,.inl rfl,mw.good (g':=fun v=>decide (v<=2)) (fun v=>by rw [Bool.eq_iff_iff];simp only [Bool.and_eq_true,decide_eq_true_eq];omega) (bE.andThen'.mono fun y6 hy6 bE H6 R6 F6=>?_)⟩;obtain ⟨d6,e6⟩:=R6.obj;refine ⟨_,rfl,r,d6,_,rfl,e6,rfl,?_⟩;refine ⟨r,1,0,3,_,rfl,R6,.inl rfl,mw.good (g':=fun v=>decide (v<=3)) (fun v=>by rw [Bool.eq_iff_iff];simp only [Bool.and_eq_true,decide_eq_true_eq];omega) (bE.andThen'.mono fun y7 hy7 bE H7 R7 F7=>?_)⟩;obtain ⟨d7,e7⟩:=R7.obj;refine ⟨_,rfl,_,rfl,_,rfl,_,rfl,_,rfl,_,rfl,_,rfl,_,rfl,fun o dx no nd ne=>?_⟩;refine ⟨o,dx,ln,tc,th,tn,tt,⟨y0.1,y1.1,y2.1,y3.1,y4.1,y5.1,y6.1,y7.1⟩,rfl,ai,fun H8 h8 F8=>⟨rfl,?_⟩⟩;have F9:jv [] H7 H8:=jv.made no nd F8;have nr:∀ {Hx:Hp} {b:Addr} {u:HO} {dd:Addr} {fs:List (Str×V)},Hx b=some u->Hx r=some (.ins t.aG dd fs)->(∀ d f,u ≠ .ins t.aG d f)->b ∉ [r]:=fun {Hx b u dd fs} h1 h2 n=>by
     simp;intro z;rw [z,h2] at h1;exact n _ _ (Option.some.inj h1).symm
   have F67:=F6.trans F7;have F57:=F5.trans F67;have F47:=F4.trans F57;have F37:=F3.trans F47;have F27:=F2.trans F37;have F17:=F1.trans F27;have F07:=F0.trans F17;have to8:∀ {b:Addr} {u:HO},H7 b=some u->H8 b=some u:=fun {b u} h=>F9 b u h (by simp);have fr:∀ {Hx:Hp} {b:Addr},jv [r] H Hx->(∃ o,Hx r=some o)->Hx b=none->H b=none:=fun {Hx b} f ⟨o,e⟩ h=>f.fresh e h;refine bE H8 (.ref o) (R7.stay F9 (by simp) (by simp) (by simp) (by simp)) (F07.trans (F9.mono (by simp))) ⟨o,dx,ln,tc,th,tn,tt,rfl,h8,?_,?_,?_,?_,?_,F07.fresh e7 no,nn0,?_,?_,?_,?_⟩
   . exact to8 (F17 ln _ hn0 (nr hn0 e0 (fun _ _ z=>by cases z)))
   . exact to8 (F37 tc _ hc2 (nr hc2 e2 (fun _ _ z=>by cases z)))
   . exact to8 (F47 th _ hc3 (nr hc3 e3 (fun _ _ z=>by cases z)))
   . exact to8 (F57 tn _ hc4 (nr hc4 e4 (fun _ _ z=>by cases z)))
   . exact to8 (F67 tt _ hc5 (nr hc5 e5 (fun _ _ z=>by cases z)))
   . exact fr (F0.trans F1) ⟨_,e1⟩ nc2
   . exact fr ((F0.trans F1).trans F2) ⟨_,e2⟩ nc3
   . exact fr (((F0.trans F1).trans F2).trans F3) ⟨_,e3⟩ nc4
   . exact fr ((((F0.trans F1).trans F2).trans F3).trans F4) ⟨_,e4⟩ nc5
def abf (K:Zqq) (CR CF:Addr):Sp:=fun vs H Q E=>∃ (r:Addr) (x:Gm),vs=[.ref r]/\fC K CR H r x/\mw CF x.w (need x.b.isEmpty 7 x.p) (fun _=>Q .non H) E
theorem Z5:aQ ["self"] ["self"] (aF ny):=lR (by decide +kernel)
theorem Z6 (T:Txt K mg t):bF P w K mg base (uW P w) 4 t.cT t.iY ["self"] (abf K t.aG t.aH):=by
 have GF:=@sH P w K mg base t T;obtain ⟨tk5,g5⟩:=T.Dd;refine T.jg.KZ Z5 (fun vs H Q E h=>?_) (fun cdv A outer s H vs Q E hr h=>?_)
 . obtain ⟨r,x,rfl,_⟩:=h
   rfl
 . obtain ⟨r,x,rfl,R,bE⟩:=h
   obtain ⟨dx,e0⟩:=R.obj;refine ⟨_,az (kL (cS Yb (aA (pv 0) rfl) (c6 bz (by rfl) T.kM PySem.boot_len (af (aA (pv 0) rfl) au)) (bW _))
       (az (dX (aW (pv 0) T.aL T.dw GF hr T.dj .nil c7 (af (aU rfl g5 (v:=.int 7) ⟨_,rfl⟩) (af (aA (pv 0) rfl) au))))) dW),?_⟩
   have hf:=R.form.sq;have hlB:(vB x.B).length=x.B.length:=by simp [vB]
   have hlen:x.b.length=x.B.length - x.p:=by rw [R.rest,List.length_drop]
   have hle:=R.le;refine ⟨_,rfl,fld e0 T.aL T.bL rfl ?_⟩;refine ⟨_,rfl,fld e0 T.aL T.gQ rfl ⟨x.a,_,rfl,.inl hf,_,_,rfl,rfl,_,rfl,?_⟩⟩;rw [hlB];refine zB (fun h=>?_) (fun h=>?_)
   . have h':(x.p:Int) < (x.B.length:Int):=of_decide_eq_true h
     have bad:need x.b.isEmpty 7 x.p=.error ⟨7,x.p⟩:=by
       cases hb:x.b with
       | nil=>rw [hb] at hlen;simp at hlen;omega
       | cons c b=>rfl
     rw [bad] at bE;refine ⟨_,rfl,r,dx,_,rfl,e0,rfl,_,rfl,fld e0 T.aL T.bL rfl ?_⟩;exact ⟨r,x.w,7,(x.p:Int),dx,_,rfl,e0,rfl,fun H' d' hF=>bE H' d' hF⟩
   . have h':¬ (x.p:Int) < (x.B.length:Int):=fun z=>h (decide_eq_true z)
     have good:need x.b.isEmpty 7 x.p=.ok ():=by
       cases hb:x.b with
       | nil=>rfl
       | cons c b=>rw [hb] at hlen;simp at hlen;omega
     rw [good] at bE;exact bE
def Z7:Option (Nat×Nat)->List V
 | none=>[.int (-1),.int (-1)]
 | some q=>vP q
def Px (had:Option (Nat×Nat)) (a b:Nat):Bool:=match had with
 | some (u,w)=>decide (u < a)||(u==a&&decide (w < b))
 | none=>true
theorem Z8 (had:Option (Nat×Nat)) (a b:Nat):∃ ms:List Int,Z7 had=ms.map V.int/\HT.lexLe [(a:Int),(b:Int)] ms=!Px had a b:=by
 cases had with
 | none=>
   refine ⟨[-1,-1],rfl,?_⟩;rw [HT.ve,if_neg (by omega),decide_eq_false (by omega)];rfl
 | some uw=>
   obtain ⟨u,w⟩:=uw;refine ⟨[(u:Int),(w:Int)],rfl,?_⟩;show _=!(decide (u < a)||(u==a&&decide (w < b)));rw [HT.ve];by_cases h1:(a:Int)=(u:Int)
   . rw [if_pos h1,HT.ve]
     have h1':u=a:=by omega
     by_cases h2:(b:Int)=(w:Int)
     . rw [if_pos h2,HT.Ic]
       have:w=b:=by omega
       simp [h1',this]
     . rw [if_neg h2]
       have e1:decide (u < a)=false:=decide_eq_false (by omega);have e2:(u==a)=true:=by simp [h1']
       rw [e1,e2,Bool.false_or,Bool.true_and];by_cases h3:w < b
       . rw [decide_eq_true h3,decide_eq_false (by omega)];rfl
       . rw [decide_eq_false h3,decide_eq_true (by omega)];rfl
   . rw [if_neg h1]
     have e2:(u==a)=false:=by simp;omega
     rw [e2,Bool.false_and,Bool.or_false];by_cases h3:u < a
     . rw [decide_eq_true h3,decide_eq_false (by omega)];rfl
     . rw [decide_eq_false h3,decide_eq_true (by omega)];rfl
def Z9 (K:Zqq) (CR CF:Addr):Sp:=fun vs H Q E=>∃ (r p:Addr) (n:Nat) (had:Option (Nat×Nat)) (x:Gm),vs=[.ref r,.int (n:Int),.ref p]/\fC K CR H r x/\H p=some (.tup (Z7 had)) /\
 mw CF x.w (JM.oH n had x.b x.p) (fun y=>∀ H' q,fC K CR H' r { x with b:=y.2.1,p:=y.2.2 }->jv [r] H H'->H q=none->H' q=some (.tup (vP y.1))->Q (.ref q) H') E
theorem Ea:aQ ["self","n","before","start","a","b"] ["self","n","before"] (aF mG):=lR (by decide +kernel)
theorem WS (T:Txt K mg t):bF P w K mg base (uW P w) 6 t.cB t.gY ["self","n","before"] (Z9 K t.aG t.aH):=by
 have GF:=@sH P w K mg base t T;have GB:=@lH P w K mg base t T;obtain ⟨tk3,g3⟩:=T.AJ;refine T.i9.KZ Ea (fun vs H Q E h=>?_) (fun cdv A outer s H vs Q E hr h=>?_)
 . obtain ⟨r,p,n,had,x,rfl,_⟩:=h
   rfl
 . obtain ⟨r,p,n,had,x,rfl,R,hp,bE⟩:=h
   obtain ⟨d0,e0⟩:=R.obj;have Mv:dG 3 _:=hr.mono (by decide);have pr:p ≠ r:=ni hp e0 (by intro z;cases z);refine ⟨_,ak (aR (i:=3) Ea.nd rfl (Or.inl rfl) (aA (pv 0) rfl))
     (ak (aR (i:=4) Ea.nd rfl (Or.inl rfl) (aW (pv 0) T.aL T.aJ GB hr T.aI .nil c7 (af aN (af aN (af (gJ xm (pv 1) aN) au)))))
     (ak (aR (i:=5) Ea.nd rfl (Or.inl rfl) (aW (pv 0) T.aL T.aJ GB hr T.aI .nil c7 (af aN (af (gJ uZ (pv 4) aN) (af (gJ xm (pv 1) aN) au)))))
     (ak (kL (cS (Zp hr.YS) (mD (af (pv 4) (af (pv 5) au))) (pv 2) (bW _))
       (az (dX (aW (pv 0) T.aL T.dw GF Mv T.dj .nil c7 (af (aU rfl g3 (v:=.int 3) ⟨_,rfl⟩) (af (pv 3) au))))) dW)
     (az (aZ (mD (af (pv 4) (af (pv 5) au)))))))),?_⟩
   refine ⟨_,rfl,fld e0 T.aL T.bL rfl ?_⟩;refine ⟨_,rfl,r,d0,_,rfl,e0,rfl,_,rfl,_,_,rfl,rfl,?_⟩;refine ⟨r,1,0,(n:Int) - 1,_,rfl,R,.inl rfl,mw.good (g':=fun v=>decide (v < n)) (fun v=>by rw [Bool.eq_iff_iff];simp only [Bool.and_eq_true,decide_eq_true_eq];omega) (bE.andThen'.mono fun y1 hy1 bE H1 R1 F1=>?_)⟩;obtain ⟨d1,e1⟩:=R1.obj;refine ⟨_,rfl,r,d1,_,rfl,e1,rfl,_,rfl,_,_,rfl,rfl,_,rfl,_,_,rfl,rfl,?_⟩;refine ⟨r,1,(y1.1:Int)+1,(n:Int) - 1,_,rfl,R1,.inl rfl,mw.good (g':=fun v=>decide (y1.1 < v)&&decide (v < n)) (fun v=>by rw [Bool.eq_iff_iff];simp only [Bool.and_eq_true,decide_eq_true_eq];omega) (bE.andThen'.mono fun y2 Z3 bE H2 R2 F2=>?_)⟩;obtain ⟨d2,e2⟩:=R2.obj;have F:=F1.trans F2;have hp2:=F p _ hp (by simpa using pr);refine ⟨_,rfl,_,rfl,(by show 2<=sizeLine;decide),fun q1 n1=>?_⟩;obtain ⟨ms,hms,hle⟩:=Z8 had y1.1 y2.1;refine ⟨_,rfl,q1,p,[(y1.1:Int),(y2.1:Int)],ms,rfl,rfl,oj.of ai,oj.of (by rw [aq (ay hp2 n1),<- hms];exact hp2),_,rfl,?_⟩;rw [hle];have R3:=R2.laid (o:=.tup [.int (y1.1:Int),.int (y2.1:Int)]) n1;obtain ⟨d3,e3⟩:=R3.obj;have F3:jv [r] H (upd H2 q1 (.tup [.int (y1.1:Int),.int (y2.1:Int)])):=F.trans (jv.laid n1);have bE:mw t.aH x.w (need (Px had y1.1 y2.1) 3 x.p) _ E:=bE.andThen';refine zB (fun h=>?_) (fun h=>?_)
   . have hc:Px had y1.1 y2.1=false:=by simpa using h
     rw [hc] at bE;refine ⟨_,rfl,r,d3,_,rfl,e3,rfl,_,rfl,?_⟩;exact ⟨r,x.w,3,(x.p:Int),d3,_,rfl,e3,rfl,fun H' d' hF=>bE H' d' hF⟩
   . have hc:Px had y1.1 y2.1=true:=by simpa using h
     rw [hc] at bE;refine ⟨_,rfl,_,rfl,(by show 2<=sizeLine;decide),fun q2 n2=>?_⟩;exact bE _ q2 (R3.laid n2) (F3.trans (jv.laid n2)) (F3.fresh e3 n2) ai
end
theorem fC.hand {K:Zqq} {C:Addr} {H:Hp} {r:Addr} {x:Gm} {z:Int} (R:fC K C H r x):fC K C (upd H x.hp (.lst (x.hps.map V.int++[.int z]))) r { x with hps:=x.hps++[z] }:=by
 obtain ⟨dx,e⟩:=R.obj;have n1:r ≠ x.hp:=ni e R.hpl (by intro q;cases q);refine ⟨⟨dx,by rw [aq n1];exact e⟩,?_,by rw [ai];simp,by rw [aq (Ne.symm R.ne)];exact R.Ko,R.ne,R.rest,R.le,R.small⟩;rcases R.form with ⟨o,h⟩ | h
 . exact .inl ⟨o,by rw [aq (Uj h R.hpl (fun _ _ q=>by cases q))];exact h⟩
 . exact .inr h
theorem fC.side {K:Zqq} {C:Addr} {H:Hp} {r:Addr} {x:Gm} {z:Int} (R:fC K C H r x):fC K C (upd H x.sp (.lst (x.Ui.map V.int++[.int z]))) r { x with Ui:=x.Ui++[z] }:=by
 obtain ⟨dx,e⟩:=R.obj;have n1:r ≠ x.sp:=ni e R.Ko (by intro q;cases q);refine ⟨⟨dx,by rw [aq n1];exact e⟩,?_,by rw [aq R.ne];exact R.hpl,by rw [ai];simp,R.ne,R.rest,R.le,R.small⟩;rcases R.form with ⟨o,h⟩ | h
 . exact .inl ⟨o,by rw [aq (Uj h R.Ko (fun _ _ q=>by cases q))];exact h⟩
 . exact .inr h
theorem Rq {α:Type} {one:Bytes->Nat->Except Fault (α×Bytes×Nat)} (k:Nat) (b:Bytes) (p:Nat) (pre:List α):Fk.andThen (JM.many one (k+1) b p) (fun l=>.ok (pre++l.1,l.2.1,l.2.2)) =
  Fk.andThen (one b p) fun x=>Fk.andThen (JM.many one k x.2.1 x.2.2) fun l=>.ok ((pre++[x.1])++l.1,l.2.1,l.2.2):=by
 rw [show JM.many one (k+1) b p=Fk.andThen (one b p) (fun x=>Fk.andThen (JM.many one k x.2.1 x.2.2) fun l=>.ok (x.1::l.1,l.2.1,l.2.2)) from rfl,JM.br];congr 1;funext x;rw [JM.br];congr 1;funext l;show Except.ok (pre++(x.1::l.1),l.2.1,l.2.2)=_;rw [List.append_assoc];rfl
theorem Ol {α:Type} {n:Nat} {one:Nat×Nat->Bytes->Nat->Except Fault (α×Bytes×Nat)} (k:Nat) (had:Option (Nat×Nat)) (b:Bytes) (p:Nat) (pre:List α):Fk.andThen (JM.j0 n one (k+1) had b p) (fun l=>.ok (pre++l.1,l.2.1,l.2.2)) =
  Fk.andThen (JM.oH n had b p) fun q=>Fk.andThen (one q.1 q.2.1 q.2.2) fun x=>Fk.andThen (JM.j0 n one k (some q.1) x.2.1 x.2.2) fun l=>.ok ((pre++[x.1])++l.1,l.2.1,l.2.2):=by
 rw [show JM.j0 n one (k+1) had b p=Fk.andThen (JM.oH n had b p) (fun q=>Fk.andThen (one q.1 q.2.1 q.2.2) fun x=>Fk.andThen (JM.j0 n one k (some q.1) x.2.1 x.2.2) fun l=>.ok (x.1::l.1,l.2.1,l.2.2)) from rfl,JM.br];congr 1;funext q;rw [JM.br];congr 1;funext x;rw [JM.br];congr 1;funext l;show Except.ok (pre++(x.1::l.1),l.2.1,l.2.2)=_;rw [List.append_assoc];rfl
theorem Mw {α:Type} (x:Except Fault (List α×Bytes×Nat)):(Fk.andThen x fun l=>Except.ok ([]++l.1,l.2.1,l.2.2))=x:=by cases x<;>rfl
section
variable {P:Program} {w:World} {K:Zqq} {mg:Str->Option Value} {base:Heap} {t:Ad} {α:Type}
def Py (K:Zqq) (CR CF f:Addr) (one:Bytes->Nat->Except Fault (α×Bytes×Nat)) (Rep:uq α) (pl:α->Nat):Sp:=fun vs H Q E=>∃ (r:Addr) (n:Nat) (x:Gm),vs=[.ref r,.int (n:Int),.ref f]/\fC K CR H r x/\n<=1000/\x.hps=[] /\
 mw CF x.w (JM.many one n x.b x.p) (fun y=>∀ H' la us,fC K CR H' r { x with b:=y.2.1,p:=y.2.2,hps:=y.1.map fun z=>(pl z:Int) }->jv [r,x.hp] H H'->H la=none->H' la=some (.lst us)->
   cQ Rep (fun b=>H b=none/\b ≠ la) H' us y.1->Q (.ref la) H') E
theorem Fx:aQ ["self","n","take_atom","atoms","k"] ["self","n","take_atom"] (aF lV):=lR (by decide +kernel)
theorem Uy (T:Txt K mg t) {kc:Nat} {f:Addr} {fd:FuncData} {one:Bytes->Nat->Except Fault (α×Bytes×Nat)} {Rep:uq α} {pl:α->Nat} (ok:yw Rep) (hpl:∀ b p y,one b p=.ok y->(pl y.1:Int)=(y.2.2:Int) - 1)
   (G:bF P w K mg base (uW P w) kc f fd ["reader"] (Pw K t.aG t.aH one Rep)) (kp:PySem.W.keepIn K (.ref f)=true) (hb:Binds K fd ["reader"] []) :
   bF P w K mg base (uW P w) (kc+1) t.bP t.eT ["self","n","take_atom"] (Py K t.aG t.aH f one Rep pl):=by
 refine T.g9.KZ Fx (fun vs H Q E h=>?_) (fun cdv A outer s H vs Q E hr h=>?_)
 . obtain ⟨r,n,x,rfl,_⟩:=h
   rfl
 . obtain ⟨r,n,x,rfl,R,hn,Q9,bE⟩:=h
   refine ⟨_,ak (aR (i:=3) Fx.nd rfl (Or.inl rfl) (jM au))
     (ak (fj Jk rfl (mS rfl T.p9 (af (pv 1) au)) (bw (i:=4) Fx.nd rfl (Or.inl rfl))
       (ak (dX (u5 PySem.F.plainAttrs_list PySem.F.slot_list_append PySem.F.type_list_append jw (pv 3) (af (L5 (i:=2) G hr kp hb c7 (af (pv 0) au)) au)))
       (az (dX (u5 PySem.F.plainAttrs_list PySem.F.slot_list_append PySem.F.type_list_append jw (aA (pv 0) rfl) (af (gJ xm (aA (pv 0) rfl) aN) au))))))
     (az (aZ (pv 3)))),?_⟩
   refine ⟨Nat.zero_le _,fun l hl=>?_⟩;have R0:=R.laid (o:=.lst []) hl;have rl:r ≠ l:=fun z=>by obtain ⟨d,e⟩:=R.obj;rw [<- z,e] at hl;cases hl
   have hpl':x.hp ≠ l:=ay R.hpl hl;have WT:x.sp ≠ l:=ay R.Ko hl;refine ⟨_,rfl,(n:Int),rfl,by omega,by omega,?_⟩;rw [Int.toNat_natCast];let xf:L2.Iv:=fun i σ H'=>∃ (b:Bytes) (p:Nat) (v:Option V) (us:List V) (pre:List α),i<=n/\us.length=i/\σ=[some (.ref r),some (.int (n:Int)),some (.ref f),some (.ref l),v] /\
       fC K t.aG H' r { x with b:=b,p:=p,hps:=pre.map fun z=>(pl z:Int) }/\jv [r,x.hp] H H'/\H' l=some (.lst us)/\cQ Rep (fun b=>H b=none/\b ≠ l) H' us pre /\
       mw t.aH x.w (Fk.andThen (JM.many one (n - i) b p) fun l=>.ok (pre++l.1,l.2.1,l.2.2)) (fun y=>∀ H' la us,fC K t.aG H' r { x with b:=y.2.1,p:=y.2.2,hps:=y.1.map fun z=>(pl z:Int) }->jv [r,x.hp] H H'->H la=none->H' la=some (.lst us)->
         cQ Rep (fun b=>H b=none/\b ≠ la) H' us y.1->Q (.ref la) H') E
   refine qS (n:=n) xf
     ⟨x.b,x.p,none,[],[],Nat.zero_le _,rfl,rfl,?_,jv.laid hl,ai,cQ.nil,?_⟩ ?_ ?_
   . have:=R0
     rw [show x={ x with b:=x.b,p:=x.p,hps:=[] } by rw [<- Q9]] at this;exact this
   . rw [Nat.sub_zero,Mw];exact bE
   . rintro i σ H' hi ⟨b,p,v,us,pre,hin,ZA,rfl,R2,F2,hl2,RS,bE⟩
     obtain ⟨d2,e2⟩:=R2.obj;rw [show n - i=(n - (i+1))+1 by omega,Rq] at bE;refine ⟨_,rfl,.inl ⟨rfl,_,bI.of hl2⟩,rfl,_,rfl,?_⟩;refine ⟨r,_,rfl,R2,bE.andThen'.mono fun y hy bE H3 u R3 F3 rep=>?_⟩;have hl3:H3 l=some (.lst us):=F3 l _ hl2 (by simpa using Ne.symm rl);obtain ⟨d3,e3⟩:=R3.obj;refine ⟨l,us,u,rfl,rfl,hl3,(by rw [ZA,sizeLine_eq];omega),?_⟩;have R4:=R3.wrote (o:=.lst (us++[u])) hl3 (Ne.symm rl) (Ne.symm hpl') (Ne.symm WT) (fun _ _ z=>by cases z);obtain ⟨d4,e4⟩:=R4.obj;refine ⟨_,rfl,fld e4 T.aL T.cM rfl ⟨.inl ⟨rfl,_,bI.of R4.hpl⟩,?_⟩⟩;refine ⟨_,rfl,fld e4 T.aL T.bL rfl ⟨_,_,rfl,rfl,?_⟩⟩;refine ⟨x.hp,_,_,rfl,rfl,R4.hpl,?_,?_⟩
     . have:=RS.len
       simp only [List.length_map];rw [sizeLine_eq];omega
     . have epl:=hpl _ _ _ hy
       have R5:=R4.hand (z:=((y.2.2:Nat):Int) - 1);refine ⟨y.2.1,y.2.2,some (.int (0+(i:Int))),us++[u],pre++[y.1],by omega,by simp [ZA],rfl,?_,?_,?_,?_,bE⟩
       . rw [List.map_append,List.map_cons,List.map_nil,epl]
         exact R5
       . intro b' o e n'
         have n'':b' ≠ r/\b' ≠ x.hp:=by simpa using n'
         rw [aq n''.2,aq (ay e hl)];exact F3 b' o (F2 b' o e n') (by simpa using n''.1)
       . rw [aq (Ne.symm hpl'),ai]
       . have old:∀ b' o,(H b'=none/\b' ≠ l)->H' b'=some o->b' ≠ r/\b' ≠ x.hp/\b' ≠ l:=fun b' o d _=>by
           refine ⟨fun q=>?_,fun q=>?_,d.2⟩
           . obtain ⟨d',e'⟩:=R.obj;rw [q,e'] at d;cases d.1
           . have:=R.hpl;rw [<- q,d.1] at this;cases this
         refine (RS.stay ok fun b' o d h=>?_).snoc (ok.stay (ok.mono rep fun b' d=>?_) fun b' o d h=>?_)
         . obtain ⟨q1,q2,q3⟩:=old b' o d h
           rw [aq q2,aq q3];exact F3 b' o h (by simpa using q1)
         . refine ⟨?_,fun q=>by rw [q,hl2] at d;cases d⟩
           cases q:H b' with
           | none=>rfl
           | some o=>
             by_cases z1:b'=r
             . rw [z1,e2] at d;cases d
             . by_cases z2:b'=x.hp
               . have:=R2.hpl;rw [<- show b'=x.hp from z2,d] at this;cases this
               . rw [F2 b' o q (by simp [z1,z2])] at d;cases d
         . have q2:b' ≠ x.hp:=fun q=>by have:=R.hpl;rw [<- q,d.1] at this;cases this
           rw [aq q2,aq d.2];exact h
   . rintro σ H' ⟨b,p,v,us,pre,_,ZA,rfl,R2,F2,hl2,RS,bE⟩
     rw [Nat.sub_self] at bE;have bE:∀ H' la us,_:=bE;refine ⟨_,rfl,?_⟩;have a2:=bE H' l us (by rw [List.append_nil];exact R2) F2 hl hl2;rw [List.append_nil] at a2;exact a2 RS
def Pz (K:Zqq) (CR CF f:Addr) (one:Nat×Nat->Bytes->Nat->Except Fault (α×Bytes×Nat)) (Rep:uq α) (pl:α->Nat):Sp:=fun vs H Q E=>∃ (r:Addr) (n m:Nat) (x:Gm),vs=[.ref r,.int (n:Int),.int (m:Int),.ref f]/\fC K CR H r x/\m<=1000/\x.Ui=[] /\
 mw CF x.w (JM.j0 n one m none x.b x.p) (fun y=>∀ H' la us,fC K CR H' r { x with b:=y.2.1,p:=y.2.2,Ui:=y.1.map fun z=>(pl z:Int) }->jv [r,x.sp] H H'->H la=none->H' la=some (.lst us)->
   cQ Rep (fun b=>H b=none/\b ≠ la) H' us y.1->Q (.ref la) H') E
theorem y9:aQ ["self","n","m","take_bond","bonds","before","k"] ["self","n","m","take_bond"] (aF lW):=lR (by decide +kernel)
theorem Uz (T:Txt K mg t) {kc:Nat} (h6:6<=kc) {f:Addr} {fd:FuncData} {one:Nat×Nat->Bytes->Nat->Except Fault (α×Bytes×Nat)} {Rep:uq α} {pl:α->Nat} (ok:yw Rep) (hpl:∀ q b p y,one q b p=.ok y->(pl y.1:Int)=(y.2.2:Int) - 1)
   (G:bF P w K mg base (uW P w) kc f fd ["reader","pair"] (Kr K t.aG t.aH one Rep)) (kp:PySem.W.keepIn K (.ref f)=true) (hb:Binds K fd ["reader","pair"] []) :
   bF P w K mg base (uW P w) (kc+1) t.bQ t.eU ["self","n","m","take_bond"] (Pz K t.aG t.aH f one Rep pl):=by
 have GP:=@WS P w K mg base t T;refine T.gA.KZ y9 (fun vs H Q E h=>?_) (fun cdv A outer s H vs Q E hr h=>?_)
 . obtain ⟨r,n,m,x,rfl,_⟩:=h
   rfl
 . obtain ⟨r,n,m,x,rfl,R,hn,Q9,bE⟩:=h
   have hr6:dG 6 _:=hr.mono h6;refine ⟨_,ak (aR (i:=4) y9.nd rfl (Or.inl rfl) (jM au))
     (ak (aR (i:=5) y9.nd rfl (Or.inl rfl) (mD (af (OI IY aN) (af (OI IY aN) au))))
     (ak (fj Jk rfl (mS rfl T.p9 (af (pv 2) au)) (bw (i:=6) y9.nd rfl (Or.inl rfl))
       (ak (aR (i:=5) y9.nd rfl (Or.inl rfl) (aW (pv 0) T.aL T.rO GP hr6 T.rC .nil c7 (af (pv 1) (af (pv 5) au))))
       (ak (dX (u5 PySem.F.plainAttrs_list PySem.F.slot_list_append PySem.F.type_list_append jw (pv 4) (af (L5 (i:=3) G hr kp hb c7 (af (pv 0) (af (pv 5) au))) au)))
       (az (dX (u5 PySem.F.plainAttrs_list PySem.F.slot_list_append PySem.F.type_list_append jw (aA (pv 0) rfl) (af (gJ xm (aA (pv 0) rfl) aN) au)))))))
     (az (aZ (pv 4))))),?_⟩
   refine ⟨Nat.zero_le _,fun l hl=>?_⟩;have R0:=R.laid (o:=.lst []) hl;have rl:r ≠ l:=fun z=>by obtain ⟨d,e⟩:=R.obj;rw [<- z,e] at hl;cases hl
   have hpl':x.hp ≠ l:=ay R.hpl hl;have WT:x.sp ≠ l:=ay R.Ko hl;refine ⟨1,rfl,1,rfl,(by show 2<=sizeLine;decide),fun q0 hq0=>?_⟩;have R1:=R0.laid (o:=.tup [.int (-1),.int (-1)]) hq0;have lq:l ≠ q0:=ay ai hq0;refine ⟨_,rfl,(m:Int),rfl,by omega,by omega,?_⟩;rw [Int.toNat_natCast];let xf:L2.Iv:=fun i σ H'=>∃ (had:Option (Nat×Nat)) (qa:Addr) (b:Bytes) (p:Nat) (v:Option V) (us:List V) (pre:List α),i<=m/\us.length=i/\σ=[some (.ref r),some (.int (n:Int)),some (.int (m:Int)),some (.ref f),some (.ref l),some (.ref qa),v] /\
       fC K t.aG H' r { x with b:=b,p:=p,Ui:=pre.map fun z=>(pl z:Int) }/\jv [r,x.sp] H H'/\H' l=some (.lst us)/\H' qa=some (.tup (Z7 had))/\cQ Rep (fun b=>H b=none/\b ≠ l) H' us pre /\
       mw t.aH x.w (Fk.andThen (JM.j0 n one (m - i) had b p) fun l=>.ok (pre++l.1,l.2.1,l.2.2)) (fun y=>∀ H' la us,fC K t.aG H' r { x with b:=y.2.1,p:=y.2.2,Ui:=y.1.map fun z=>(pl z:Int) }->jv [r,x.sp] H H'->H la=none->H' la=some (.lst us)->
         cQ Rep (fun b=>H b=none/\b ≠ la) H' us y.1->Q (.ref la) H') E
   refine qS (n:=m) xf
     ⟨none,q0,x.b,x.p,none,[],[],Nat.zero_le _,rfl,rfl,?_,(jv.laid hl).trans (jv.laid hq0),by rw [aq lq,ai],ai,cQ.nil,?_⟩ ?_ ?_
   . have:=R1
     rw [show x={ x with b:=x.b,p:=x.p,Ui:=[] } by rw [<- Q9]] at this;exact this
   . rw [Nat.sub_zero,Mw];exact bE
   . rintro i σ H' hi ⟨had,qa,b,p,v,us,pre,hin,ZA,rfl,R2,F2,hl2,hqa,RS,bE⟩
     obtain ⟨d2,e2⟩:=R2.obj;rw [show m - i=(m - (i+1))+1 by omega,Ol] at bE;refine ⟨_,rfl,r,d2,_,rfl,e2,rfl,_,rfl,_,rfl,?_⟩;refine ⟨r,qa,n,had,_,rfl,R2,hqa,bE.andThen'.mono fun q hq bE H3 qb R3 F3 nq Yo=>?_⟩;have hl3:H3 l=some (.lst us):=F3 l _ hl2 (by simpa using Ne.symm rl);obtain ⟨d3,e3⟩:=R3.obj;refine ⟨_,rfl,.inl ⟨rfl,_,bI.of hl3⟩,rfl,_,rfl,_,rfl,?_⟩;refine ⟨r,qb,q.1,_,rfl,R3,Yo,bE.andThen'.mono fun y hy bE H4 u R4 F4 rep=>?_⟩;have WU:H4 l=some (.lst us):=F4 l _ hl3 (by simpa using Ne.symm rl);have qbr:qb ≠ r:=ni Yo e3 (by intro z;cases z);have ZC:=F4 qb _ Yo (by simpa using qbr);have qbl:qb ≠ l:=ni ZC WU (by intro z;cases z);refine ⟨l,us,u,rfl,rfl,WU,(by rw [ZA,sizeLine_eq];omega),?_⟩;have R5:=R4.wrote (o:=.lst (us++[u])) WU (Ne.symm rl) (Ne.symm hpl') (Ne.symm WT) (fun _ _ z=>by cases z);obtain ⟨d5,e5⟩:=R5.obj;refine ⟨_,rfl,fld e5 T.aL T.cO rfl ⟨.inl ⟨rfl,_,bI.of R5.Ko⟩,?_⟩⟩;refine ⟨_,rfl,fld e5 T.aL T.bL rfl ⟨_,_,rfl,rfl,?_⟩⟩;refine ⟨x.sp,_,_,rfl,rfl,R5.Ko,?_,?_⟩
     . have:=RS.len
       simp only [List.length_map];rw [sizeLine_eq];omega
     . have epl:=hpl _ _ _ _ hy
       have R6:=R5.side (z:=((y.2.2:Nat):Int) - 1);have qbs:qb ≠ x.sp:=fun z=>by have h9:=R4.Ko;rw [<- show qb=x.sp from z,ZC] at h9;cases h9
       have F34:jv [r] H' H4:=F3.trans F4;refine ⟨some q.1,qb,y.2.1,y.2.2,some (.int (0+(i:Int))),us++[u],pre++[y.1],by omega,by simp [ZA],rfl,?_,?_,?_,?_,?_,bE⟩
       . rw [List.map_append,List.map_cons,List.map_nil,epl]
         exact R6
       . intro b' o e n'
         have n'':b' ≠ r/\b' ≠ x.sp:=by simpa using n'
         rw [aq n''.2,aq (ay e hl)];exact F34 b' o (F2 b' o e n') (by simpa using n''.1)
       . rw [aq (Ne.symm WT),ai]
       . rw [aq qbs,aq qbl];exact ZC
       . have old:∀ b' o,(H b'=none/\b' ≠ l)->H' b'=some o->b' ≠ r/\b' ≠ x.sp/\b' ≠ l:=fun b' o d _=>by
           refine ⟨fun q=>?_,fun q=>?_,d.2⟩
           . obtain ⟨d',e'⟩:=R.obj;rw [q,e'] at d;cases d.1
           . have:=R.Ko;rw [<- q,d.1] at this;cases this
         refine (RS.stay ok fun b' o d h=>?_).snoc (ok.stay (ok.mono rep fun b' d=>?_) fun b' o d h=>?_)
         . obtain ⟨q1,q2,q3⟩:=old b' o d h
           rw [aq q2,aq q3];exact F34 b' o h (by simpa using q1)
         . refine ⟨?_,fun q=>by rw [q,hl3] at d;cases d⟩
           have d':H' b'=none:=F3.fresh e3 d;cases q:H b' with
           | none=>rfl
           | some o=>
             by_cases z1:b'=r
             . rw [z1,e2] at d';cases d'
             . by_cases z2:b'=x.sp
               . have:=R2.Ko;rw [<- show b'=x.sp from z2,d'] at this;cases this
               . rw [F2 b' o q (by simp [z1,z2])] at d';cases d'
         . have q2:b' ≠ x.sp:=fun q=>by have:=R.Ko;rw [<- q,d.1] at this;cases this
           rw [aq q2,aq d.2];exact h
   . rintro σ H' ⟨had,qa,b,p,v,us,pre,_,ZA,rfl,R2,F2,hl2,hqa,RS,bE⟩
     rw [Nat.sub_self] at bE;have bE:∀ H' la us,_:=bE;refine ⟨_,rfl,?_⟩;have a2:=bE H' l us (by rw [List.append_nil];exact R2) F2 hl hl2;rw [List.append_nil] at a2;exact a2 RS
end
def sI (K:Zqq) (H:Hp) (v:V) (q:Nat×Nat):Prop:=∃ o C dx fs,v=.ref o/\H o=some (.ins C dx fs)/\DQ K C/\b8 K C "a"/\b8 K C "b"/\fs.lookup ("a":Str)=some (V.int (q.1:Int))/\fs.lookup ("b":Str)=some (V.int (q.2:Int))
structure iP (H:Hp) (lr:Addr) (rs:List Addr) (n:Nat) (row:Nat->List Nat):Prop where
 lst:H lr=some (.lst (rs.map V.ref))
 len:rs.length=n
 nd:rs.Nodup
 out:lr ∉ rs
 at_:∀ v a,rs[v]?=some a->H a=some (.lst (vN (row v)))
theorem Rr (l:List (Nat×Nat)) (q:Nat×Nat) (v:Nat):JM.bG (l++[q]) v=JM.bG l v++(if q.1=v then [q.2] else if q.2=v then [q.1] else []):=by
 unfold JM.bG;rw [List.filterMap_append];congr 1;unfold JM.uA;by_cases h1:q.1=v
 . simp [h1]
 . by_cases h2:q.2=v<;>simp [h1,h2]
theorem take_snoc {α:Type}:∀ {l:List α} {i:Nat} {x:α},l[i]?=some x->l.take (i+1)=l.take i++[x]
 | [],i,x,h=>by simp at h
 | a::l,0,x,h=>by
  have e:a=x:=Option.some.inj h
  subst e
  rfl
 | a::l,i+1,x,h=>by
  have ih:=take_snoc (l:=l) (i:=i) (x:=x) h
  show a::l.take (i+1)=a::l.take i++[x]
  rw [ih]
  rfl
theorem sJ (l:List (Nat×Nat)) (v:Nat):(JM.bG l v).length<=l.length:=List.length_filterMap_le _ _
section
def ZD (K:Zqq):Sp:=fun vs H Q _=>∃ (n:Nat) (lb:Addr) (us:List V) (l:List (Nat×Nat)),vs=[.int (n:Int),.ref lb]/\n<=1000/\l.length<=1000/\H lb=some (.lst us)/\us.length=l.length/\(∀ (i:Nat) v q,us[i]?=some v->l[i]?=some q->sI K H v q) /\
 (∀ q ∈ l,q.1 < q.2/\q.2 < n)/\∀ H' lr rs,aS H H'->H lr=none->(∀ a ∈ rs,H a=none)->iP H' lr rs n (JM.bG l)->Q (.ref lr) H'
theorem Eb:aQ ["n","bonds","rows","bond","k"] ["n","bonds"] (aF oK):=lR (by decide +kernel)
theorem iP.push {H:Hp} {lr:Addr} {rs:List Addr} {n v:Nat} {a:Addr} {row:Nat->List Nat} {u:Nat} (R:iP H lr rs n row) (ha:rs[v]?=some a) :
   iP (upd H a (.lst (vN (row v)++[.int (u:Int)]))) lr rs n (fun x=>if x=v then row x++[u] else row x):=by
 have z:lr ≠ a:=fun q=>R.out (q ▸ List.mem_of_getElem? ha);refine ⟨by rw [aq z];exact R.lst,R.len,R.nd,R.out,fun x b hb=>?_⟩;by_cases hx:x=v
 . subst hx
   rw [ha] at hb;cases hb;rw [ai,if_pos rfl];simp [vN]
 . have:b ≠ a:=fun q=>hx (aaS R.nd hb (q ▸ ha))
   rw [aq this,if_neg hx];exact R.at_ x b hb
theorem iP.eq {H:Hp} {lr:Addr} {rs:List Addr} {n:Nat} {row row':Nat->List Nat} (R:iP H lr rs n row) (h:∀ v,v < n->row v=row' v):iP H lr rs n row':=
 ⟨R.lst,R.len,R.nd,R.out,fun v a ha=>by
  have:=R.at_ v a ha
  rw [h v (by rw [<- R.len];exact (Zqz ha))] at this
  exact this⟩
theorem WV (T:Txt K mg t):bF P w K mg base m5 1 t.fD t.j4 ["n","bonds"] (ZD K):=by
 refine T.gT.ok Eb (fun vs H Q E h=>?_) (fun cdv A outer s H vs Q E hr h=>?_)
 . obtain ⟨n,lb,us,l,rfl,_⟩:=h
   rfl
 . obtain ⟨n,lb,us,l,rfl,hn,hl,hlb,hlen,Mx,hbd,k⟩:=h
   refine ⟨_,ak (x6 (i:=2) rfl Eb.nd rfl rfl rfl (mS rfl T.p9 (af (pv 0) au)) (jx (own:=[("k",4)]) rfl) (fun _ _ _ _ _=>bw (i:=4) Eb.nd rfl (Or.inl rfl)) (fun _ _ _ _ _=>As) (fun _ _ _ _ _=>jM au))
     (ak (fj PassesOwn.never rfl (gE (pv 1)) (bw (i:=3) Eb.nd rfl (Or.inl rfl))
       (ak (dX (u5 PySem.F.plainAttrs_list PySem.F.slot_list_append PySem.F.type_list_append jw (bT b6 (pv 2) (aA (pv 3) rfl) (fun _ _=>rfl)) (af (aA (pv 3) rfl) au)))
       (az (dX (u5 PySem.F.plainAttrs_list PySem.F.slot_list_append PySem.F.type_list_append jw (bT b6 (pv 2) (aA (pv 3) rfl) (fun _ _=>rfl)) (af (aA (pv 3) rfl) au))))))
     (az (aZ (pv 2)))),?_⟩
   refine ⟨_,rfl,(n:Int),rfl,by omega,by omega,?_⟩;rw [Int.toNat_natCast];intro D hD;refine Lq (n:=n) (fun i H'=>∃ rs:List Addr,rs.length=i/\rs.Nodup/\D ∉ rs/\(∀ a ∈ rs,H a=none)/\aS H H'/\H' D=some (.lst (rs.map V.ref))/\∀ a ∈ rs,H' a=some (.lst []))
     ⟨[],rfl,List.nodup_nil,by simp,by simp,fun b o e=>by rw [aq (ay e hD)];exact e,ai,by simp⟩ ?_ ?_
   . rintro i H' hi ⟨rs,hrs,nd,hDn,hn0,sm,hD',hem⟩
     refine ⟨rfl,Nat.zero_le _,fun a ha=>⟨rs.map V.ref,?_,?_,rs++[a],?_,?_,?_,?_,?_,?_,?_⟩⟩
     . rw [aq (ay hD' ha)];exact hD'
     . simp only [List.length_map,hrs];rw [sizeLine_eq];omega
     . simp [hrs]
     . exact Pe nd fun m=>by rw [hem a m] at ha;cases ha
     . simp only [List.mem_append,List.mem_singleton,not_or]
       exact ⟨hDn,ay hD' ha⟩
     . intro b hb
       rcases List.mem_append.mp hb with m | m
       . exact hn0 b m
       . rw [List.mem_singleton.mp m];exact sm.free ha
     . intro b o e
       rw [aq (ay e hD),aq (ay (sm b o e) ha)];exact sm b o e
     . rw [ai];simp
     . intro b hb
       rcases List.mem_append.mp hb with m | m
       . have nb:b ≠ a:=fun q=>by rw [<- q,hem b m] at ha;cases ha
         have nD:b ≠ D:=fun q=>hDn (q ▸ m);rw [aq nD,aq nb];exact hem b m
       . have e:=List.mem_singleton.mp m
         have nD:a ≠ D:=fun q=>by rw [q,hD'] at ha;cases ha
         rw [e,aq nD,ai]
   . rintro H1 ⟨rs,hrs,nd,hDn,hn0,sm,hD',hem⟩
     have R0:iP H1 D rs n (JM.bG (l.take 0)):=⟨hD',hrs,nd,hDn,fun v a ha=>hem a (List.mem_of_getElem? ha)⟩;refine ⟨_,rfl,lb,rfl,⟨_,bI.of (sm _ _ hlb)⟩,pC (K:=K) (a:=lb) (xs:=us) (fun i σ H'=>∃ v:Option V,σ=[some (.int (n:Int)),some (.ref lb),some (.ref D),v,none]/\aS H H'/\iP H' D rs n (JM.bG (l.take i)))
       ⟨none,rfl,sm,R0⟩ (fun i σ H' _ ⟨_,_,s5,_⟩=>bI.of (s5 _ _ hlb)) ?_ ?_⟩
     . rintro i y σ H' hi ⟨v,rfl,s5,R⟩
       have hil:i < l.length:=by rw [<- hlen];exact (Zqz hi)
       obtain ⟨q,hq⟩:∃ q,l[i]?=some q:=⟨_,List.getElem?_eq_getElem hil⟩;obtain ⟨o,C,dx,fs,rfl,ho,cl,na,nb,la,lb'⟩:=Mx i y q hi hq;obtain ⟨hq1,hq2⟩:=hbd q (List.mem_of_getElem? hq);obtain ⟨ra,Af⟩:∃ ra,rs[q.1]?=some ra:=⟨_,List.getElem?_eq_getElem (by omega)⟩;obtain ⟨rb,hrb⟩:∃ rb,rs[q.2]?=some rb:=⟨_,List.getElem?_eq_getElem (by omega)⟩;have ho':=s5 _ _ ho;have e1:(rs.map V.ref)[q.1]?=some (V.ref ra):=by rw [List.getElem?_map,Af];rfl
       have e2:(rs.map V.ref)[q.2]?=some (V.ref rb):=by rw [List.getElem?_map,hrb];rfl
       have hA:=R.at_ _ _ Af;have oa:o ≠ ra:=ni ho' hA (by intro z;cases z);have R1:=R.push (u:=q.2) Af;have ac2:(vN (JM.bG (l.take i) q.1)).length < sizeLine:=by
         have:=sJ (l.take i) q.1;simp only [vN,List.length_map,List.length_take] at this ⊢;rw [sizeLine_eq];omega
       refine ⟨_,rfl,_,rfl,o,C,dx,fs,_,rfl,ho',cl,na,la,tG (bI.of R.lst) (bh e1) ⟨.inl ⟨rfl,_,bI.of hA⟩,?_⟩⟩;refine ⟨_,rfl,o,C,dx,fs,_,rfl,ho',cl,nb,lb',ra,_,_,rfl,rfl,hA,ac2,?_⟩;have hB:=R1.at_ _ _ hrb;have ho2:upd H' ra (.lst (vN (JM.bG (l.take i) q.1)++[.int (q.2:Int)])) o=some (.ins C dx fs):=by rw [aq oa];exact ho'
       have ac3:(vN (if q.2=q.1 then JM.bG (l.take i) q.2++[q.2] else JM.bG (l.take i) q.2)).length < sizeLine:=by
         rw [if_neg (by omega)];have:=sJ (l.take i) q.2;simp only [vN,List.length_map,List.length_take] at this ⊢;rw [sizeLine_eq];omega
       have R2:=R1.push (u:=q.1) hrb;refine ⟨_,rfl,_,rfl,o,C,dx,fs,_,rfl,ho2,cl,nb,lb',tG (bI.of R1.lst) (bh e2) ⟨.inl ⟨rfl,_,bI.of hB⟩,?_⟩⟩;refine ⟨_,rfl,o,C,dx,fs,_,rfl,ho2,cl,na,la,rb,_,_,rfl,rfl,hB,ac3,?_⟩;refine ⟨_,rfl,fun b u e=>?_,R2.eq fun v hv=>?_⟩
       . have za:b ≠ ra:=fun z=>by rw [z,hn0 ra (List.mem_of_getElem? Af)] at e;cases e
         have zb:b ≠ rb:=fun z=>by rw [z,hn0 rb (List.mem_of_getElem? hrb)] at e;cases e
         rw [aq zb,aq za];exact s5 b u e
       . rw [take_snoc hq,Rr]
         by_cases z1:q.1=v
         . subst z1
           rw [if_neg (by omega),if_pos rfl,if_pos rfl]
         . by_cases z2:q.2=v
           . subst z2
             rw [if_pos rfl,if_neg (Ne.symm z1),if_neg z1,if_pos rfl]
           . rw [if_neg (Ne.symm z2),if_neg (Ne.symm z1),if_neg z1,if_neg z2,List.append_nil]
     . rintro σ H' ⟨v,rfl,s5,R⟩
       rw [hlen,List.take_length] at R;exact ⟨_,rfl,k H' D rs s5 hD hn0 R⟩
end
def gfs (la lb lr:Addr):List (Str×V):=[("atoms",.ref la),("bonds",.ref lb),("neighbours",.ref lr)]
structure Om (C:Addr) (H:Hp) (g la lb lr:Addr) (as us:List V) (rs:List Addr) (l:List (Nat×Nat)):Prop where
 obj:∃ dx,H g=some (.ins C dx (gfs la lb lr))
 atoms:H la=some (.lst as)
 bonds:H lb=some (.lst us)
 rows:iP H lr rs as.length (JM.bG l)
theorem iP.stay {H H':Hp} {lr:Addr} {rs:List Addr} {n:Nat} {row:Nat->List Nat} (R:iP H lr rs n row) (f:∀ b o,H b=some o->(b=lr\/b ∈ rs)->H' b=some o):iP H' lr rs n row:=
 ⟨f _ _ R.lst (.inl rfl),R.len,R.nd,R.out,fun v a ha=>f _ _ (R.at_ v a ha) (.inr (List.mem_of_getElem? ha))⟩
theorem aS.frm {S:List Addr} {H H':Hp} (s:aS H H'):jv S H H':=fun b o e _=>s b o e
section
def Ks (K:Zqq) (C:Addr):Sp:=fun vs H Q _=>∃ (o dx la lb:Addr) (as us:List V) (l:List (Nat×Nat)),vs=[.ref o,.ref la,.ref lb]/\H o=some (.ins C dx [])/\H la=some (.lst as)/\H lb=some (.lst us)/\as.length<=1000/\l.length<=1000/\us.length=l.length /\
 (∀ (i:Nat) v q,us[i]?=some v->l[i]?=some q->sI K H v q/\v ≠ .ref o)/\(∀ q ∈ l,q.1 < q.2/\q.2 < as.length)/\∀ H' lr rs,Om C H' o la lb lr as us rs l->jv [o] H H'->Q .non H'
theorem U0:aQ ["self","atoms","bonds"] ["self","atoms","bonds"] (aF vg):=lR (by decide +kernel)
theorem My (T:Txt K mg t) {C:Addr} (cl:DQ K C) (n1:b8 K C "atoms") (n2:b8 K C "bonds") (n3:b8 K C "neighbours"):bF P w K mg base m5 2 t.dB t.jO ["self","atoms","bonds"] (Ks K C):=by
 have GR:=@WV P w K mg base t T;refine T.nN.ok U0 (fun vs H Q E h=>?_) (fun cdv A outer s H vs Q E hr h=>?_)
 . obtain ⟨o,dx,la,lb,as,us,l,rfl,_⟩:=h
   rfl
 . obtain ⟨o,dx,la,lb,as,us,l,rfl,h0,ha,hb,hn,hl,hlen,Mx,hbd,k⟩:=h
   refine ⟨_,ak (ck (pv 0) (pv 1) rfl) (ak (ck (pv 0) (pv 2) rfl) (az (ck (pv 0) (bx GR hr rfl T.uH T.gT.kp T.uE .nil bD (af (c6 bz (by rfl) T.kM PySem.boot_len (af (pv 1) au)) (af (pv 2) au))) rfl))),?_⟩;have ao:la ≠ o:=ni ha h0 (by intro z;cases z);have bo:lb ≠ o:=ni hb h0 (by intro z;cases z);refine ⟨_,rfl,_,rfl,o,C,dx,_,rfl,h0,cl,n1,(by show 0 < 1000;decide),?_⟩;refine ⟨_,rfl,_,rfl,o,C,dx,_,rfl,ai,cl,n2,(by show 1 < 1000;decide),?_⟩;rw [nh];have keep:∀ b u,H b=some u->b ≠ o->upd H o (.ins C dx (gf "bonds" (.ref lb) (gf "atoms" (.ref la) []))) b=some u:=fun b u e n=>by rw [aq n];exact e
   refine ⟨_,rfl,la,_,rfl,.inl (bI.of (keep _ _ ha ao)),_,rfl,?_⟩;refine ⟨as.length,lb,us,l,rfl,hn,hl,keep _ _ hb bo,hlen,fun i v q h1 h2=>?_,hbd,fun H1 lr rs sm nlr nrs R=>?_⟩
   . obtain ⟨⟨o',C',dx',fs,rfl,e1,e2⟩,ne⟩:=Mx i v q h1 h2
     exact ⟨o',C',dx',fs,rfl,keep _ _ e1 (fun z=>ne (by rw [z])),e2⟩
   . have e1:=sm o _ ai
     refine ⟨_,rfl,o,C,dx,_,rfl,e1,cl,n3,(by show 2 < 1000;decide),?_⟩;have F:jv [o] H (upd H1 o (.ins C dx (gf "neighbours" (.ref lr) (gf "bonds" (.ref lb) (gf "atoms" (.ref la) []))))):=fun b u e n=>by
       have nb:b ≠ o:=by simpa using n
       rw [aq nb];exact sm b u (keep b u e nb)
     refine k _ lr rs ⟨⟨dx,ai⟩,F _ _ ha (by simpa using ao),F _ _ hb (by simpa using bo),R.stay fun b u e hb'=>?_⟩ F;have nb:b ≠ o:=by
       rcases hb' with z | z
       . intro q;rw [<- z,q,ai] at nlr;cases nlr
       . intro q;have:=nrs b z;rw [q,ai] at this;cases this
     rw [aq nb];exact e
def tU {α β:Type} (M:Bytes) (Mz:Bytes->Nat->Except Fault (α×Bytes×Nat)) (Ku:Nat×Nat->Bytes->Nat->Except Fault (β×Bytes×Nat)) (b:Bytes) (p:Nat):Except Fault (List α×List β):=
 Fk.andThen (JM.mE M b p) fun m=>
 Fk.andThen (numIn 1 (fun v=>decide (v<=Fk.ATOMS)) m.1 m.2) fun n=>
 Fk.andThen (numIn 1 (fun v=>decide (v<=Fk.BONDS)) n.2.1 n.2.2) fun k=>
 Fk.andThen (JM.many Mz n.1 k.2.1 k.2.2) fun x=>
 Fk.andThen (JM.j0 n.1 Ku k.1 none x.2.1 x.2.2) fun y=>
 Fk.andThen (need y.2.1.isEmpty 7 y.2.2) fun _=>.ok (x.1,y.1)
def Kv {α β:Type} (K:Zqq) (CR CF CG f1 f2:Addr) (Mz:Bytes->Nat->Except Fault (α×Bytes×Nat)) (Ku:Nat×Nat->Bytes->Nat->Except Fault (β×Bytes×Nat)) (RA:uq α) (RB:uq β) (plA:α->Nat) (plB:β->Nat) (ends:β->Nat×Nat):Sp:=
 fun vs H Q E=>∃ (r m:Addr) (M:Bytes) (x:Gm),vs=[.ref r,.ref m,.ref f1,.ref f2]/\fC K CR H r x/\x.hps=[]/\x.Ui=[]/\(∀ H,oj K H m (vB M)) /\
   mw CF x.w (tU M Mz Ku x.b x.p) (fun y=>∀ H' g la lb lr as us rs b p,fC K CR H' r { x with b:=b,p:=p,hps:=y.1.map fun z=>(plA z:Int),Ui:=y.2.map fun z=>(plB z:Int) }->jv [r,x.hp,x.sp] H H'->
     Om CG H' g la lb lr as us rs (y.2.map ends)->cQ RA (fun b=>H b=none) H' as y.1->cQ RB (fun b=>H b=none) H' us y.2->JM.nv as.length (y.2.map ends)->Q (.ref g) H') E
theorem yC:aQ ["reader","mark","take_atom","take_bond","n","m","atoms","bonds"] ["reader","mark","take_atom","take_bond"] (aF vh):=lR (by decide +kernel)
theorem M0 (T:Txt K mg t) {α β:Type} {f1 f2:Addr} {fd1 fd2:FuncData} {Mz:Bytes->Nat->Except Fault (α×Bytes×Nat)} {Ku:Nat×Nat->Bytes->Nat->Except Fault (β×Bytes×Nat)} {RA:uq α} {RB:uq β} {plA:α->Nat} {plB:β->Nat} {ends:β->Nat×Nat}
   (WW:yw RA) (V9:yw RB) (ac4:∀ b p y,Mz b p=.ok y->(plA y.1:Int)=(y.2.2:Int) - 1) (ac5:∀ q b p y,Ku q b p=.ok y->(plB y.1:Int)=(y.2.2:Int) - 1) (Mx:∀ q b p x,Ku q b p=.ok x->ends x.1=q)
   (hE:∀ {D:Addr->Prop} {H:Hp} {v:V} {z:β},RB D H v z->∃ o,v=.ref o/\D o/\sI K H v (ends z))
   (G1:bF P w K mg base (uW P w) 7 f1 fd1 ["reader"] (Pw K t.aG t.aH Mz RA)) (kp1:PySem.W.keepIn K (.ref f1)=true) (hb1:Binds K fd1 ["reader"] [])
   (G2:bF P w K mg base (uW P w) 7 f2 fd2 ["reader","pair"] (Kr K t.aG t.aH Ku RB)) (kp2:PySem.W.keepIn K (.ref f2)=true) (hb2:Binds K fd2 ["reader","pair"] []) :
   bF P w K mg base (uW P w) 9 t.gG t.jP ["reader","mark","take_atom","take_bond"] (Kv K t.aG t.aH t.bK f1 f2 Mz Ku RA RB plA plB ends):=by
 have GM:=@WN P w K mg base t T;have GB:=@lH P w K mg base t T;have GA:bF P w K mg base (uW P w) 8 t.bP t.eT ["self","n","take_atom"] (Py K t.aG t.aH f1 Mz RA plA):=Uy T WW ac4 G1 kp1 hb1;have GO:bF P w K mg base (uW P w) 8 t.bQ t.eU ["self","n","m","take_bond"] (Pz K t.aG t.aH f2 Ku RB plB):=Uz T (by decide) V9 ac5 G2 kp2 hb2;have GE:=@Z6 P w K mg base t T;have GI:bF P w K mg base m5 2 t.dB t.jO ["self","atoms","bonds"] (Ks K t.bK):=My T T.jj T.gO T.gP T.cK;obtain ⟨Oj,g1⟩:=T.AL;obtain ⟨WL,g2⟩:=T.AM;refine T.jW.KZ yC (fun vs H Q E h=>?_) (fun cdv A outer s H vs Q E hr h=>?_)
 . obtain ⟨r,m,M,x,rfl,_⟩:=h
   rfl
 . obtain ⟨r,m,M,x,rfl,R,hx1,U1,hM,bE⟩:=h
   have hr6:dG 6 _:=hr.mono (by decide);have Nv:dG 5 _:=hr.mono (by decide);have hr4:dG 4 _:=hr.mono (by decide);have Mv:dG 3 _:=hr.mono (by decide);refine ⟨_,ak (dX (aW (pv 0) T.aL T.rN GM hr6 T.r9 .nil c7 (af (pv 1) au)))
     (ak (aR (i:=4) yC.nd rfl (Or.inl rfl) (aW (pv 0) T.aL T.aJ GB Nv T.aI .nil c7 (af aN (af aN (af (aU rfl g1 (v:=.int 128) ⟨_,rfl⟩) au)))))
     (ak (aR (i:=5) yC.nd rfl (Or.inl rfl) (aW (pv 0) T.aL T.aJ GB Nv T.aI .nil c7 (af aN (af aN (af (aU rfl g2 (v:=.int 192) ⟨_,rfl⟩) au)))))
     (ak (aR (i:=6) yC.nd rfl (Or.inl rfl) (aW (pv 0) T.aL T.qD GA hr T.qx .nil c7 (af (pv 4) (af (pv 2) au))))
     (ak (aR (i:=7) yC.nd rfl (Or.inl rfl) (aW (pv 0) T.aL T.qE GO hr T.qy .nil c7 (af (pv 4) (af (pv 5) (af (pv 3) au)))))
     (ak (dX (SH (pv 0) T.aL T.tQ GE hr4 T.tL .nil c7))
     (az (aZ (qI T.Pq GI Mv rfl T.Jq T.vy .nil bD (af (pv 6) (af (pv 7) au)))))))))),?_⟩
   obtain ⟨d0,e0⟩:=R.obj;refine ⟨_,rfl,r,d0,_,rfl,e0,rfl,_,rfl,?_⟩;refine ⟨r,m,M,x,rfl,R,hM,bE.andThen'.mono fun y1 hy1 bE H1 R1 F1=>?_⟩;obtain ⟨d1,e1⟩:=R1.obj;refine ⟨_,rfl,r,d1,_,rfl,e1,rfl,?_⟩;refine ⟨r,1,0,128,_,rfl,R1,.inl rfl,mw.good (g':=fun v=>decide (v<=Fk.ATOMS)) (fun v=>by rw [Bool.eq_iff_iff];simp only [Bool.and_eq_true,decide_eq_true_eq];unfold Fk.ATOMS;omega) (bE.andThen'.mono fun n hn bE H2 R2 F2=>?_)⟩;obtain ⟨d2,e2⟩:=R2.obj;have abg:n.1<=128:=of_decide_eq_true (JM.bA hn).2.1;refine ⟨_,rfl,r,d2,_,rfl,e2,rfl,?_⟩;refine ⟨r,1,0,192,_,rfl,R2,.inl rfl,mw.good (g':=fun v=>decide (v<=Fk.BONDS)) (fun v=>by rw [Bool.eq_iff_iff];simp only [Bool.and_eq_true,decide_eq_true_eq];unfold Fk.BONDS;omega) (bE.andThen'.mono fun mm hmm bE H3 R3 F3=>?_)⟩;obtain ⟨d3,e3⟩:=R3.obj;have acQ:mm.1<=192:=of_decide_eq_true (JM.bA hmm).2.1;refine ⟨_,rfl,r,d3,_,rfl,e3,rfl,_,rfl,_,rfl,?_⟩;refine ⟨r,n.1,_,rfl,R3,by omega,hx1,bE.andThen'.mono fun y4 hy4 bE H4 la as R4 F4 nla hla RAs=>?_⟩;obtain ⟨d4,e4⟩:=R4.obj;refine ⟨_,rfl,r,d4,_,rfl,e4,rfl,_,rfl,_,rfl,_,rfl,?_⟩;refine ⟨r,n.1,mm.1,_,rfl,R4,by omega,U1,bE.andThen'.mono fun y5 hy5 bE H5 lb us R5 F5 nlb hlb RBs=>?_⟩;obtain ⟨d5,e5⟩:=R5.obj;refine ⟨_,rfl,r,d5,_,rfl,e5,rfl,?_⟩;refine ⟨r,_,rfl,R5,bE.andThen'.mono fun y6 hy6 bE=>?_⟩;have F13:jv [r] H H3:=(F1.trans F2).trans F3;have F14:jv [r,x.hp,x.sp] H H4:=(F13.mono (by simp)).trans (F4.mono (by simp));have F15:jv [r,x.hp,x.sp] H H5:=F14.trans (F5.mono (by simp));have ZE:∀ b,H3 b=none->H b=none:=fun b h=>F13.fresh e3 h;have abh:∀ b,H4 b=none->H b=none:=fun b h=>by
     refine ZE b ?_;cases q:H3 b with
     | none=>rfl
     | some o=>
       by_cases z1:b=r
       . rw [z1,e4] at h;cases h
       . by_cases z2:b=x.hp
         . have:=R4.hpl;rw [<- show b=x.hp from z2,h] at this;cases this
         . rw [F4 b o q (by simp [z1];exact z2)] at h;cases h
   have abi:∀ b,H b=none->b ≠ r/\b ≠ x.hp/\b ≠ x.sp:=fun b h=>by
     refine ⟨fun q=>?_,fun q=>?_,fun q=>?_⟩
     . rw [q,e0] at h;cases h
     . have:=R.hpl;rw [<- q,h] at this;cases this
     . have:=R.Ko;rw [<- q,h] at this;cases this
   have ac6:=ZE la nla;have acR:=abh lb nlb;have ac7:H5 la=some (.lst as):=F5 la _ hla (by have:=abi la ac6;simp [this.1];exact this.2.2);have RA5:cQ RA (fun b=>H b=none/\b ≠ la) H5 as y4.1:=(RAs.mono WW (fun b d=>⟨ZE b d.1,d.2⟩)).stay WW fun b o d h=>F5 b o h (by have:=abi b d.1;simp [this.1];exact this.2.2);have RB5:cQ RB (fun b=>H4 b=none/\b ≠ lb) H5 us y5.1:=RBs;have rise:=(JM.xB (ends:=ends) Mx hy5).1;have Fy:as.length=n.1:=RAs.len.trans (JM.tH hy4);refine ⟨_,rfl,_,rfl,fun o dx no nd ne=>?_⟩;have U3:∀ b u,H5 b=some u->upd (upd H5 dx (.own o)) o (.ins t.bK dx []) b=some u:=fun b u e=>by rw [aq (ay e no),aq (ay e nd)];exact e
   refine ⟨o,dx,la,lb,as,us,y5.1.map ends,rfl,ai,U3 _ _ ac7,U3 _ _ hlb,by omega,?_,by rw [List.length_map];exact RB5.len,fun i v q h1 h2=>?_,fun q hq=>?_,fun H7 lr rs GR F7=>⟨rfl,?_⟩⟩
   . rw [List.length_map,JM.qN hy5];omega
   . rw [List.getElem?_map] at h2
     cases hz:y5.1[i]? with
     | none=>rw [hz] at h2;cases h2
     | some z=>
       rw [hz] at h2;cases h2;obtain ⟨o',rfl,_,o2,C2,dx2,fs2,e2',e3',rest⟩:=hE (RB5.at_ i v z h1 hz);cases e2';exact ⟨⟨o',C2,dx2,fs2,rfl,U3 _ _ e3',rest⟩,fun z=>by cases z;rw [no] at e3';cases e3'⟩
   . have:=rise.1 q hq
     rw [Fy];exact this
   . have F8:jv [] H5 H7:=jv.made no nd F7
     have rd7:=R5.stay F8 (by simp) (by simp) (by simp) (by simp);refine bE H7 o la lb lr as us rs _ _ rd7 (F15.trans (F8.mono (by simp))) GR ((RA5.mono WW fun b d=>d.1).stay WW fun b u _ h=>F8 b u h (by simp)) ((RB5.mono V9 fun b d=>abh b d.1).stay V9 fun b u _ h=>F8 b u h (by simp)) ?_;rw [Fy];exact rise
end
theorem pX {K:Zqq} {a:Addr} {xs:List V} {g:TG} {tb:TS} {D:Ends} {σ:L2.St} {H:Hp} (Pv:Nat->L2.St->Hp->Prop) (h0:Pv 0 σ H) (hl:∀ i σ H,i<=xs.length->Pv i σ H->bI K H a xs)
   (hs:∀ i x σ H T,xs[i]?=some x->Pv i σ H->H T=none->g (.ref T) σ (upd H T (.tup [.int (i:Nat),x])) fun σ2 H2=>tb { D with nx:=Pv (i+1),ct:=Pv (i+1),bk:=D.nx } σ2 H2) (hd:∀ σ H,Pv xs.length σ H->D.nx σ H) :
   ∃ W:Nat->Nat->L2.St->Hp->Prop,(∃ m,W 0 m σ H)/\∀ i m σ H,W i m σ H->
     ((Ite K a).stop i H/\D.nx σ H)\/((Ite K a).go i H/\∃ N:L2.St->Hp->Prop,(∀ σ' H',N σ' H'->∃ m',m' < m/\W (i+1) m' σ' H')/\∀ x H',(Ite K a).Sy i H x H'->g x σ H' fun σ2 H2=>tb { D with nx:=N,ct:=N,bk:=D.nx } σ2 H2):=by
 refine ⟨fun i m σ H=>m=xs.length - i/\i<=xs.length/\Pv i σ H,⟨xs.length,by simp,Nat.zero_le _,h0⟩,?_⟩;rintro i m σ H ⟨rfl,hi,p⟩;have q:=hl i σ H hi p;by_cases hlt:i < xs.length
 . refine .inr ⟨⟨xs,xs[i],q,by simp [hlt]⟩,Pv (i+1),fun σ' H' p'=>⟨xs.length - (i+1),by omega,rfl,hlt,p'⟩,fun x H' y=>?_⟩
   obtain ⟨T,x',rfl,hT,rfl,y⟩:=y;exact hs i x' σ H T (y xs q) p hT
 . have e:i=xs.length:=by omega
   subst e;exact .inl ⟨⟨xs,q,Nat.le_refl _⟩,hd σ H p⟩
theorem C6 (h:Nat) (x y:Nat):Lk (.int (h:Int)) [.int (x:Int),.int (y:Int)]=(h==x||h==y):=by
 rw [Bool.eq_iff_iff];simp [Lk,Sj];omega
theorem abj {n:Nat} (h:n<=1000):n < sizeLine:=by rw [sizeLine_eq];omega
section
theorem aK {H:Hp} {p:Addr} {o:HO} (hp:H p=none):aS H (upd H p o):=fun b u e=>by rw [aq (ay e hp)];exact e
def WX:Sp:=fun vs H Q _=>∃ h:Nat,vs=[.int (h:Int)]/\∀ H',aS H H'->Q (.bl (Fk.isOne h)) H'
theorem U4:aQ ["hand_or_side"] ["hand_or_side"] (aF Jo):=lR (by decide +kernel)
theorem Fz (T:Txt K mg t):bF P w K mg base m5 1 t.vv t.A1 ["hand_or_side"] WX:=by
 refine T.qO.ok U4 (fun vs H Q E h=>?_) (fun cdv A outer s H vs Q E hr h=>?_)
 . obtain ⟨h,rfl,_⟩:=h
   rfl
 . obtain ⟨h,rfl,k⟩:=h
   refine ⟨_,az (aZ (e9 u4 (pv 0) (mD (af aN (af aN au))) rfl)),?_⟩;refine ⟨_,rfl,(by show 2<=sizeLine;decide),fun p hp=>⟨p,_,rfl,.inr (oj.of ai),rfl,rfl,?_⟩⟩;have e:Lk (.int (h:Int)) [.int 1,.int 2]=Fk.isOne h:=C6 h 1 2;rw [if_neg Bool.false_ne_true,e];exact k _ (aK hp)
def uO (K:Zqq) (C:Addr):Sp:=fun vs H Q _=>∃ (g dx lr:Addr) (fs:List (Str×V)) (rs:List Addr) (n e o:Nat) (row:Nat->List Nat),vs=[.ref g,.int (e:Int),.int (o:Int)]/\H g=some (.ins C dx fs)/\fs.lookup ("neighbours":Str)=some (V.ref lr)/\iP H lr rs n row/\e < n/\(row e).length<=1000 /\
 ∀ H' l,aS H H'->H l=none->H' l=some (.lst (vN ((row e).filter fun x=>x != o)))->Q (.ref l) H'
theorem Ag:aQ ["self","end","other","atom"] ["self","end","other"] (aF qj):=lR (by decide +kernel)
theorem vK (T:Txt K mg t) {C:Addr} (cl:DQ K C) (n3:b8 K C "neighbours"):bF P w K mg base m5 1 t.bH t.dF ["self","end","other"] (uO K C):=by
 refine T.k8.ok Ag (fun vs H Q E h=>?_) (fun cdv A outer s H vs Q E hr h=>?_)
 . obtain ⟨g,dx,lr,fs,rs,n,e,o,row,rfl,_⟩:=h
   rfl
 . obtain ⟨g,dx,lr,fs,rs,n,e,o,row,rfl,hg,hl,R,he,hlen,k⟩:=h
   obtain ⟨ra,Af⟩:∃ ra,rs[e]?=some ra:=⟨_,List.getElem?_eq_getElem (by rw [R.len];exact he)⟩;have hA:=R.at_ _ _ Af;have e1:(rs.map V.ref)[e]?=some (V.ref ra):=by rw [List.getElem?_map,Af];rfl
   refine ⟨_,az (aZ (CM rfl Ag.nd (gE (bT b6 (aA (pv 0) rfl) (pv 1) (fun _ _=>rfl))) (jx (own:=[("atom",3)]) rfl) (fun _ _ _ _ _=>bw (i:=3) Ag.nd rfl (Or.inl rfl)) (fun _ _ _ _ _=>t9 (cS wk (pv 3) (pv 2) (bW _))) (fun _ _ _ _ _=>pv 3))),?_⟩;refine ⟨_,rfl,g,C,dx,fs,_,rfl,hg,cl,n3,hl,_,rfl,tG (bI.of R.lst) (bh e1) ⟨ra,rfl,⟨_,bI.of hA⟩,?_⟩⟩;intro D hD;refine nj (K:=K) (a:=ra) (xs:=vN (row e)) (fun i H'=>aS H H'/\H' D=some (.lst (vN (((row e).take i).filter fun x=>x != o)))) ⟨aK hD,ai⟩ (fun i H' _ h=>bI.of (h.1 _ _ hA)) ?_ ?_
   . rintro i x H' hx ⟨sm,hD'⟩
     obtain ⟨c,hc,rfl⟩:∃ c,(row e)[i]?=some c/\x=V.int (c:Int):=by
       unfold vN at hx;rw [List.getElem?_map] at hx;cases q:(row e)[i]? with
       | none=>rw [q] at hx;cases hx
       | some c=>rw [q] at hx;exact ⟨c,rfl,(Option.some.inj hx).symm⟩
     refine ⟨rfl,_,rfl,_,rfl,rfl,_,rfl,?_⟩;refine zB (fun h=>?_) (fun h=>?_)
     . have ne:(c != o)=true:=by simp at h ⊢;omega
       refine ⟨_,rfl,_,hD',?_,fun b u e'=>?_,?_⟩
       . have:(((row e).take i).filter fun x=>x != o).length<=(row e).length:=Nat.le_trans (List.length_filter_le _ _) (by rw [List.length_take];omega)
         simp only [vN,List.length_map];exact abj (by omega)
       . rw [aq (ay e' hD)];exact sm b u e'
       . rw [ai,take_snoc hc,List.filter_append,List.filter_cons,if_pos ne]
         simp [vN]
     . have ne:¬ (c != o)=true:=by simp at h ⊢;omega
       refine ⟨sm,?_⟩;rw [take_snoc hc,List.filter_append,List.filter_cons,if_neg ne];simpa using hD'
   . rintro H' ⟨sm,hD'⟩
     rw [show (vN (row e)).length=(row e).length by simp [vN],List.take_length] at hD';exact k H' D sm hD hD'
def vM (n:Nat):Bool:=n==1||n==2
def ZF (K:Zqq) (C:Addr):Sp:=fun vs H Q _=>∃ (g o dx lr:Addr) (fs:List (Str×V)) (rs:List Addr) (n:Nat) (q:Nat×Nat) (row:Nat->List Nat),vs=[.ref g,.ref o]/\H g=some (.ins C dx fs)/\fs.lookup ("besides":Str)=none/\fs.lookup ("neighbours":Str)=some (V.ref lr)/\iP H lr rs n row /\
 sI K H (.ref o) q/\q.1 < n/\q.2 < n/\(∀ v,(row v).length<=1000)/\∀ H',aS H H'->Q (.bl (vM ((row q.1).filter fun x=>x != q.2).length&&vM ((row q.2).filter fun x=>x != q.1).length)) H'
theorem Kw:aQ ["pattern","bond","at_a","at_b"] ["pattern","bond"] (aF oM):=lR (by decide +kernel)
theorem iP.same {H H':Hp} {lr:Addr} {rs:List Addr} {n:Nat} {row:Nat->List Nat} (R:iP H lr rs n row) (f:aS H H'):iP H' lr rs n row:=R.stay fun b o e _=>f b o e
theorem sI.same {H H':Hp} {v:V} {q:Nat×Nat} (e:sI K H v q) (f:aS H H'):sI K H' v q:=let ⟨o,C,dx,fs,a,b,c⟩:=e;⟨o,C,dx,fs,a,f _ _ b,c⟩
theorem WY (T:Txt K mg t):bF P w K mg base m5 2 t.fE t.j5 ["pattern","bond"] (ZF K t.bK):=by
 have GB:bF P w K mg base m5 1 t.bH t.dF ["self","end","other"] (uO K t.bK):=vK T T.jj T.cK;refine T.gU.ok Kw (fun vs H Q E h=>?_) (fun cdv A outer s H vs Q E hr h=>?_)
 . obtain ⟨g,o,dx,lr,fs,rs,n,q,row,rfl,_⟩:=h
   rfl
 . obtain ⟨g,o,dx,lr,fs,rs,n,q,row,rfl,hg,hbs,hl,R,hE,h1,h2,hlen,k⟩:=h
   obtain ⟨o',CB,db,fb,e0,hb,cl,na,nb,la,lb⟩:=hE;cases e0;refine ⟨_,ak (aR (i:=2) Kw.nd rfl (Or.inl rfl) (c6 bz (by rfl) T.kM PySem.boot_len (af (aW (pv 0) T.jj T.m7 GB hr T.iQ .nil bD (af (aA (pv 1) rfl) (af (aA (pv 1) rfl) au))) au)))
     (ak (aR (i:=3) Kw.nd rfl (Or.inl rfl) (c6 bz (by rfl) T.kM PySem.boot_len (af (aW (pv 0) T.jj T.m7 GB hr T.iQ .nil bD (af (aA (pv 1) rfl) (af (aA (pv 1) rfl) au))) au)))
     (az (aZ (xg (e9 u4 (pv 2) (mD (af aN (af aN au))) rfl) (uY (e9 u4 (pv 3) (mD (af aN (af aN au))) rfl)))))),?_⟩
   refine ⟨_,rfl,g,dx,_,rfl,hg,hbs,_,rfl,o,CB,db,fb,_,rfl,hb,cl,na,la,_,rfl,o,CB,db,fb,_,rfl,hb,cl,nb,lb,?_⟩;refine ⟨g,dx,lr,fs,rs,n,q.1,q.2,row,rfl,hg,hl,R,h1,hlen _,fun H1 l1 s1 nl1 hl1=>?_⟩;refine ⟨l1,_,rfl,.inl (bI.of hl1),?_⟩;have hb1:=s1 _ _ hb;refine ⟨_,rfl,g,dx,_,rfl,s1 _ _ hg,hbs,_,rfl,o,CB,db,fb,_,rfl,hb1,cl,nb,lb,_,rfl,o,CB,db,fb,_,rfl,hb1,cl,na,la,?_⟩;refine ⟨g,dx,lr,fs,rs,n,q.2,q.1,row,rfl,s1 _ _ hg,hl,R.same s1,h2,hlen _,fun H2 l2 s2 nl2 hl2=>?_⟩;refine ⟨l2,_,rfl,.inl (bI.of hl2),?_⟩;refine ⟨_,rfl,(by show 2<=sizeLine;decide),fun p hp=>⟨p,_,rfl,.inr (oj.of ai),rfl,rfl,_,rfl,?_⟩⟩;have qP:∀ l:List Nat,(vN l).length=l.length:=fun l=>by simp [vN]
   have e1:Lk (.int ((vN ((row q.1).filter fun x=>x != q.2)).length:Int)) [.int 1,.int 2]=vM ((row q.1).filter fun x=>x != q.2).length:=by rw [qP];exact C6 _ 1 2
   have e2:Lk (.int ((vN ((row q.2).filter fun x=>x != q.1)).length:Int)) [.int 1,.int 2]=vM ((row q.2).filter fun x=>x != q.1).length:=by rw [qP];exact C6 _ 1 2
   rw [if_neg Bool.false_ne_true,e1];have s3:aS H (upd H2 p (.tup [.int 1,.int 2])):=(s1.trans s2).trans (aK hp);cases hA:vM ((row q.1).filter fun x=>x != q.2).length with
   | false=>
     rw [if_neg Bool.false_ne_true];have k1:=k _ s3;rw [hA,Bool.false_and] at k1;exact k1
   | true=>
     rw [if_pos rfl];refine ⟨_,rfl,(by show 2<=sizeLine;decide),fun p2 hp2=>⟨p2,_,rfl,.inr (oj.of ai),rfl,rfl,?_⟩⟩;rw [if_neg Bool.false_ne_true,e2];have k1:=k _ (s3.trans (aK (o:=.tup [.int 1,.int 2]) hp2));rw [hA,Bool.true_and] at k1;exact k1
end
end MP
namespace JM
open Fk
def wN (b:Bytes) (p:Nat):Except Fault ((Atom×Nat)×Bytes×Nat):=andThen (rf b p) fun y=>.ok ((y.1,y.2.2 - 1),y.2.1,y.2.2)
def sL (q:Nat×Nat) (b:Bytes) (p:Nat):Except Fault ((Bond×Nat)×Bytes×Nat):=andThen (pF q b p) fun y=>.ok ((y.1,y.2.2 - 1),y.2.1,y.2.2)
theorem aM {α β:Type} {x:Except Fault α} {f:α->Except Fault β} {r:β} (h:andThen x f=.ok r):∃ a,x=.ok a/\f a=.ok r:=by
 cases x with
 | error e=>cases h
 | ok a=>exact ⟨a,rfl,h⟩
def Yp {α:Type} (y:List (α×Nat)×Bytes×Nat):List α×Bytes×Nat:=(y.1.map fun z=>z.1,y.2.1,y.2.2)
theorem M3 {α:Type} {one:Bytes->Nat->Except Fault (α×Bytes×Nat)}:∀ (k:Nat) (b:Bytes) (p:Nat),
  many one k b p=andThen (many (fun b p=>andThen (one b p) fun y=>.ok ((y.1,y.2.2 - 1),y.2.1,y.2.2)) k b p) fun y=>.ok (Yp y)
 | 0,b,p=>rfl
 | k+1,b,p=>by
  unfold many
  simp only [br,bg]
  cases one b p with
  | error e=>rfl
  | ok x=>
   simp only [bg]
   rw [M3 k]
   simp only [br,bg]
   rfl
theorem Im {α:Type} {n:Nat} {one:Nat×Nat->Bytes->Nat->Except Fault (α×Bytes×Nat)}:∀ (k:Nat) (had:Option (Nat×Nat)) (b:Bytes) (p:Nat),
  j0 n one k had b p=andThen (j0 n (fun q b p=>andThen (one q b p) fun y=>.ok ((y.1,y.2.2 - 1),y.2.1,y.2.2)) k had b p) fun y=>.ok (Yp y)
 | 0,had,b,p=>rfl
 | k+1,had,b,p=>by
  unfold j0
  simp only [br,bg]
  cases oH n had b p with
  | error e=>rfl
  | ok q=>
   simp only [bg]
   cases one q.1 q.2.1 q.2.2 with
   | error e=>rfl
   | ok x=>
    simp only [bg]
    rw [Im k]
    simp only [br,bg]
    rfl
theorem yD {b:Bytes} {p:Nat} {y:Atom×Bytes×Nat} (h:rf b p=.ok y):y.2.2=p+6:=by
 unfold rf at h;obtain ⟨a1,h1,h⟩:=aM h;obtain ⟨a2,h2,h⟩:=aM h;obtain ⟨a3,h3,h⟩:=aM h;obtain ⟨a4,h4,h⟩:=aM h;obtain ⟨a5,h5,h⟩:=aM h;cases h;have:=(bA h1).2.2.2.2;have:=(bA h2).2.2.2.2;have:=(bA h3).2.2.2.2;have:=(bA h4).2.2.2.2;have:=(bA h5).2.2.2.2;simp only;omega
theorem yE {q:Nat×Nat} {b:Bytes} {p:Nat} {y:Bond×Bytes×Nat} (h:pF q b p=.ok y):y.2.2=p+2:=by
 unfold pF at h;obtain ⟨a1,h1,h⟩:=aM h;obtain ⟨a2,h2,h⟩:=aM h;cases h;have:=(bA h1).2.2.2.2;have:=(bA h2).2.2.2.2;simp only;omega
theorem Kx {n:Nat} {had:Option (Nat×Nat)} {b:Bytes} {p:Nat} {y:(Nat×Nat)×Bytes×Nat} (h:oH n had b p=.ok y):y.2.2=p+2:=by
 unfold oH at h;obtain ⟨a1,h1,h⟩:=aM h;obtain ⟨a2,h2,h⟩:=aM h;obtain ⟨a3,h3,h⟩:=aM h;cases h;have:=(bA h1).2.2.2.2;have:=(bA h2).2.2.2.2;simp only;omega
theorem B9:∀ {k:Nat} {b:Bytes} {p:Nat} {y:List (Atom×Nat)×Bytes×Nat},many wN k b p=.ok y->(∀ i z,y.1[i]?=some z->z.2=p+6 * i+5)/\y.2.2=p+6 * k
 | 0,b,p,y,h=>by
  cases h
  exact ⟨fun i z h=>by simp at h,rfl⟩
 | k+1,b,p,y,h=>by
  unfold many at h
  obtain ⟨x,h1,h⟩:=aM h
  obtain ⟨l,h2,h⟩:=aM h
  cases h
  unfold wN at h1
  obtain ⟨w,h3,h1⟩:=aM h1
  cases h1
  have e1:=yD h3
  obtain ⟨i1,i2⟩:=B9 h2
  simp only at i1 i2 ⊢
  refine ⟨fun i z hz=>?_,by omega⟩
  cases i with
  | zero=>
   cases hz
   simp only
   omega
  | succ i=>
   have:=i1 i z (by simpa using hz)
   omega
theorem BA {n:Nat}:∀ {k:Nat} {had:Option (Nat×Nat)} {b:Bytes} {p:Nat} {y:List (Bond×Nat)×Bytes×Nat},j0 n sL k had b p=.ok y->(∀ i z,y.1[i]?=some z->z.2=p+4 * i+3)
 | 0,had,b,p,y,h=>by
  cases h
  exact fun i z h=>by simp at h
 | k+1,had,b,p,y,h=>by
  unfold j0 at h
  obtain ⟨q,h0,h⟩:=aM h
  obtain ⟨x,h1,h⟩:=aM h
  obtain ⟨l,h2,h⟩:=aM h
  cases h
  unfold sL at h1
  obtain ⟨w,h3,h1⟩:=aM h1
  cases h1
  have e0:=Kx h0
  have e1:=yE h3
  have i1:=BA h2
  simp only at i1 ⊢
  intro i z hz
  cases i with
  | zero=>
   cases hz
   simp only
   omega
  | succ i=>
   have:=i1 i z (by simpa using hz)
   omega
theorem BB:∀ {m b:Bytes} {p:Nat} {y:Bytes×Nat},mE m b p=.ok y->y.2=p+m.length
 | [],b,p,y,h=>by cases h;rfl
 | c::m,b,p,y,h=>by
  unfold mE at h
  obtain ⟨x,h1,h⟩:=aM h
  obtain ⟨u,h2,h⟩:=aM h
  have e:=BB h
  have:=(bA h1).2.2.2.2
  simp only [List.length_cons]
  omega
abbrev aB:=List (Atom×Nat)×List (Bond×Nat)
def aE (y:aB):Mol:=⟨y.1.map fun z=>z.1,y.2.map fun z=>z.1⟩
def DK (M:Mol) (z:(Atom×Nat)×Nat):Bool:=z.1.1.hand != 0&&!M.handed z.2
def DL (M:Mol) (z:(Bond×Nat)×Nat):Bool:=z.1.1.side != 0&&!M.sided z.2
def Io (M:Mol) (l:List ((Bond×Nat)×Nat)):Except Fault Mol:=match l.find? (DL M) with
 | some z=>.error ⟨6,z.1.2⟩
 | none=>.ok M
def FD (M:Mol) (l:List ((Atom×Nat)×Nat)) (m:List ((Bond×Nat)×Nat)):Except Fault Mol:=match l.find? (DK M) with
 | some z=>.error ⟨4,z.1.2⟩
 | none=>Io M m
theorem Oo (M:Mol) (z:(Atom×Nat)×Nat) (l:List ((Atom×Nat)×Nat)) (m:List ((Bond×Nat)×Nat)):FD M (z::l) m=if DK M z=true then .error ⟨4,z.1.2⟩ else FD M l m:=by
 unfold FD;rw [List.find?_cons];cases DK M z<;>rfl
theorem Oq (M:Mol) (z:(Bond×Nat)×Nat) (l:List ((Bond×Nat)×Nat)):Io M (z::l)=if DL M z=true then .error ⟨6,z.1.2⟩ else Io M l:=by
 unfold Io;rw [List.find?_cons];cases DL M z<;>rfl
theorem FE {α:Type} (l:List α) (f:Nat->Bool) (g:α×Nat->Bool) (h:∀ i x,l[i]?=some x->f i=g (x,i)):(List.range l.length).find? f=(l.zipIdx.find? g).map (·.2):=by
 have e:List.range l.length=l.zipIdx.map (·.2):=by
  rw [List.zipIdx_map_snd,List.range'_eq_map_range];simp
 rw [e,List.find?_map];congr 1;have:∀ m:List (α×Nat),(∀ z ∈ m,l[z.2]?=some z.1)->m.find? (f ∘ fun z=>z.2)=m.find? g:=by
  intro m;induction m with
  | nil=>intro _;rfl
  | cons z m ih=>
   intro hm;rw [List.find?_cons,List.find?_cons,ih fun w hw=>hm w (by simp [hw])];have:(f ∘ fun z:α×Nat=>z.2) z=g z:=h z.2 z.1 (hm z (by simp));rw [this]
 exact this _ fun z hz=>by
  have:=List.mem_zipIdx hz;simp at this;rw [List.getElem?_eq_getElem (by omega)];exact congrArg some this.2.symm
theorem M4 (b:Bytes):judgeMol b =
   andThen (mE MOLMARK b 0) fun m=>
   andThen (numIn 1 (fun v=>decide (v<=ATOMS)) m.1 m.2) fun n=>
   andThen (numIn 1 (fun v=>decide (v<=BONDS)) n.2.1 n.2.2) fun k=>
   andThen (many wN n.1 k.2.1 k.2.2) fun x=>
   andThen (j0 n.1 sL k.1 none x.2.1 x.2.2) fun y=>
   andThen (need y.2.1.isEmpty 7 y.2.2) fun _=>FD (aE (x.1,y.1)) x.1.zipIdx y.1.zipIdx:=by
 unfold judgeMol;simp only [Pn,EF,EG];refine kG rfl fun m hm=>kG rfl fun n hn=>kG rfl fun k hk=>?_;rw [M3,br];refine kG rfl fun x hx=>?_;rw [bg,Im,br];show andThen (j0 n.1 sL k.1 none x.2.1 x.2.2) _=_;refine kG rfl fun y hy=>?_;rw [bg];refine kG rfl fun _ _=>?_;have pl:k.2.2=6:=by
   have h1:=BB hm;have h2:=(bA hn).2.2.2.2;have h3:=(bA hk).2.2.2.2;have:MOLMARK.length=4:=rfl;omega
 obtain ⟨pa,pe⟩:=B9 hx;have pb:=BA hy;have hlen:=tH hx;show (match (List.range (aE (x.1,y.1)).n).find? fun v=>((aE (x.1,y.1)).atom v).hand != 0&&!(aE (x.1,y.1)).handed v with
   | some v=>Except.error (⟨4,6+6 * v+5⟩:Fault)
   | none=>match (List.range (aE (x.1,y.1)).bonds.length).find? fun j=>((aE (x.1,y.1)).bonds[j]?.map Bond.side).getD 0 != 0&&!(aE (x.1,y.1)).sided j with
     | some j=>.error ⟨6,6+6 * (aE (x.1,y.1)).n+4 * j+3⟩
     | none=>.ok (aE (x.1,y.1)))=_
 have en:(aE (x.1,y.1)).n=x.1.length:=by simp [aE,Mol.n]
 have eb:(aE (x.1,y.1)).bonds.length=y.1.length:=by simp [aE]
 rw [en,eb,FE x.1 _ (DK (aE (x.1,y.1))) fun i z hz=>by
   have e:(aE (x.1,y.1)).atom i=z.1:=by simp [Mol.atom,aE,List.getD,hz]
   unfold DK;rw [e],FE y.1 _ (DL (aE (x.1,y.1))) fun i z hz=>by
   have e:(aE (x.1,y.1)).bonds[i]?=some z.1:=by simp [aE,hz]
   unfold DL;rw [e];rfl]
 unfold FD Io;cases h1:x.1.zipIdx.find? (DK (aE (x.1,y.1))) with
 | some z=>
   have hm:=List.mem_zipIdx (List.mem_of_find?_eq_some h1);simp at hm;have:=pa z.2 z.1 (by rw [List.getElem?_eq_getElem (by omega)];exact congrArg some hm.2.symm);simp only [Option.map_some];rw [this,pl]
 | none=>
   simp only [Option.map_none];cases h2:y.1.zipIdx.find? (DL (aE (x.1,y.1))) with
   | some z=>
     have hm:=List.mem_zipIdx (List.mem_of_find?_eq_some h2);simp at hm;have:=pb z.2 z.1 (by rw [List.getElem?_eq_getElem (by omega)];exact congrArg some hm.2.symm);simp only [Option.map_some];rw [this,pe,pl,hlen]
   | none=>rfl
def aV (z:Bond×Nat):Nat×Nat:=(z.1.a,z.1.b)
theorem FF (q:Nat×Nat) (b:Bytes) (p:Nat) (x:(Bond×Nat)×Bytes×Nat) (h:sL q b p=.ok x):aV x.1=q:=by
 unfold sL at h;obtain ⟨w,h3,h⟩:=aM h;cases h;unfold pF at h3;obtain ⟨a1,h1,h3⟩:=aM h3;obtain ⟨a2,h2,h3⟩:=aM h3;cases h3;rfl
theorem Ky {M:Mol} (h:nv M.n (M.bonds.map fun x=>(x.a,x.b))) (v:Nat):M.beside v=bG (M.bonds.map fun x=>(x.a,x.b)) v:=by
 unfold Mol.beside;refine CO h v _ fun w=>?_;rw [List.any_map];unfold Mol.joined Mol.bond;rw [Bool.eq_iff_iff,List.find?_isSome,List.any_eq_true];rfl
abbrev vO:=List ((Nat×Nat)×Nat)
def iO (q:Nat×Nat) (v:Nat):Bool:=q.1==v||q.2==v
def nR (z:vO) (v:Nat):Nat:=(z.map fun x=>if iO x.1 v=true then x.2 else 0).sum
theorem M6 (v:Nat):nR [] v=0:=rfl
theorem qU (x:(Nat×Nat)×Nat) (z:vO) (v:Nat):nR (x::z) v=(if iO x.1 v=true then x.2 else 0)+nR z v:=by simp [nR]
theorem Dg (y z:vO) (v:Nat):nR (y++z) v=nR y v+nR z v:=by simp [nR]
def ur (bs:List (Nat×Nat)) (v:Nat):Nat:=(bs.filter fun q=>iO q v).length
theorem M7 (q:Nat×Nat) (bs:List (Nat×Nat)) (v:Nat):ur (q::bs) v=(if iO q v=true then 1 else 0)+ur bs v:=by
 unfold ur;rw [List.filter_cons];cases iO q v<;>simp;omega
def U5 (z:vO):Prop:=∀ x ∈ z,1<=x.2/\x.2<=3
theorem tV:∀ {z:vO},U5 z->∀ v,ur (z.map fun x=>x.1) v<=nR z v/\nR z v<=3 * ur (z.map fun x=>x.1) v
 | [],_,v=>by simp [ur,nR]
 | x::z,h,v=>by
  have ih:=tV (z:=z) (fun y hy=>h y (by simp [hy])) v
  have hx:=h x (by simp)
  rw [List.map_cons,M7,qU]
  cases iO x.1 v with
  | true=>simp only [if_true];omega
  | false=>simp only [Bool.false_eq_true,if_false];omega
def less (s:List Int) (q:Nat×Nat) (o:Nat):List Int:=(s.modify q.1 (· - (o:Int))).modify q.2 (· - (o:Int))
theorem M8 (s:List Int) (q:Nat×Nat) (o:Nat):(less s q o).length=s.length:=by simp [less]
theorem less_get {s:List Int} {q:Nat×Nat} (hq:q.1 < q.2) (o v:Nat):(less s q o)[v]?=(s[v]?).map fun x=>if iO q v=true then x - (o:Int) else x:=by
 unfold less iO;rw [List.getElem?_modify,List.getElem?_modify];by_cases h1:q.1=v
 . have h2:¬ q.2=v:=by omega
   cases s[v]?<;>simp [h1,h2]
 . by_cases h2:q.2=v
   . cases s[v]?<;>simp [h1,h2]
   . cases s[v]?<;>simp [h1,h2]
def run (s:List Int) (z:vO):List Int:=z.foldl (fun s x=>less s x.1 x.2) s
theorem sM (s:List Int) (y z:vO):run s (y++z)=run (run s y) z:=by simp [run]
theorem WZ (s:List Int) (z:vO):(run s z).length=s.length:=by
 induction z generalizing s with
 | nil=>rfl
 | cons x z ih=>exact (ih _).trans (M8 _ _ _)
theorem run_get:∀ {z:vO} {s:List Int} (_:∀ x ∈ z,x.1.1 < x.1.2) (v:Nat),(run s z)[v]?=(s[v]?).map fun x=>x - (nR z v:Int)
 | [],s,_,v=>by
  show s[v]?=_
  cases s[v]?<;>simp [nR]
 | x::z,s,h,v=>by
  have ih:=run_get (z:=z) (s:=less s x.1 x.2) (fun y hy=>h y (by simp [hy])) v
  show (run (less s x.1 x.2) z)[v]?=_
  rw [ih,less_get (h x (by simp)),qU]
  cases s[v]? with
  | none=>rfl
  | some u=>
   cases iO x.1 v with
   | true=>simp;omega
   | false=>simp
structure Valid (n:Nat) (S:List Int) (bs:List (Nat×Nat)) (z:vO):Prop where
 of:z.map (fun x=>x.1)=bs
 all:U5 z
 sum:∀ v,v < n->S[v]?=some (nR z v:Int)
def met (left:Int) (k:Nat):Bool:=decide ((k:Int)<=left)&&decide (left<=3 * (k:Int))
def Kz (S:List Int) (bs:List (Nat×Nat)):Nat->List Int->Prop
 | 0,s=>s=S
 | k+1,s'=>∃ s q o,Kz S bs k s/\bs[k]?=some q/\(1<=o/\o<=3)/\s'=less s q o/\met (s'.getD q.1 0) (ur (bs.drop (k+1)) q.1)=true/\met (s'.getD q.2 0) (ur (bs.drop (k+1)) q.2)=true
def Ot (S:List Int) (bs:List (Nat×Nat)):Nat->List Int->Prop
 | 0,s=>Kz S bs bs.length s
 | j+1,s=>Kz S bs (bs.length - (j+1)) s/\∃ q o,bs[bs.length - (j+1)]?=some q/\(1<=o/\o<=3)/\Ot S bs j (less s q o)
def Found (S:List Int) (bs:List (Nat×Nat)) (k o:Nat):Prop:=∃ s q,Kz S bs k s/\bs[k]?=some q/\Ot S bs (bs.length - (k+1)) (less s q o)
section
variable {n:Nat} {S:List Int} {bs:List (Nat×Nat)}
theorem Kz.way:∀ {k:Nat} {s:List Int},Kz S bs k s->∃ z:vO,z.map (fun x=>x.1)=bs.take k/\U5 z/\s=run S z
 | 0,s,h=>⟨[],by simp,fun x hx=>by simp at hx,h⟩
 | k+1,s',⟨s,q,o,hL,hq,ho,hs,_⟩=>by
   obtain ⟨z,h1,h2,h3⟩:=hL.way
   refine ⟨z++[(q,o)],?_,?_,?_⟩
   . rw [List.map_append,h1,List.take_add_one,hq]
     rfl
   . intro x hx
     rcases List.mem_append.mp hx with hx | hx
     . exact h2 x hx
     . rw [List.mem_singleton.mp hx];exact ho
   . rw [sM,<- h3,hs]
     rfl
theorem Kz.len {k:Nat} {s:List Int} (h:Kz S bs k s):s.length=S.length:=by
 obtain ⟨z,_,_,rfl⟩:=h.way;exact WZ _ _
theorem vQ {α:Type} {l:List α} {k:Nat} {x:α} (h:l[k]?=some x):l.drop k=x::l.drop (k+1):=by
 obtain ⟨hl,hg⟩:=List.getElem?_eq_some_iff.mp h;rw [List.drop_eq_getElem_cons hl,hg]
theorem Kz.zero (hr:∀ q ∈ bs,q.1 < q.2) (hS:∀ v x,S[v]?=some x->ur bs v=0->x=0):∀ {k:Nat} {s:List Int},Kz S bs k s->∀ v x,s[v]?=some x->ur (bs.drop k) v=0->x=0
 | 0,s,h,v,x,hx,hb=>by
   rw [show s=S from h] at hx
   exact hS v x hx (by simpa using hb)
 | k+1,s',⟨s,q,o,hL,hq,ho,hs,m1,m2⟩,v,x,hx,hb=>by
   have hlt:q.1 < q.2:=hr q (List.mem_of_getElem? hq)
   by_cases t1:q.1=v
   . have e:s'.getD q.1 0=x:=by rw [List.getD,t1,hx];rfl
     rw [e,t1,hb] at m1
     unfold met at m1
     simp only [Bool.and_eq_true,decide_eq_true_eq] at m1
     omega
   . by_cases t2:q.2=v
     . have e:s'.getD q.2 0=x:=by rw [List.getD,t2,hx];rfl
       rw [e,t2,hb] at m2
       unfold met at m2
       simp only [Bool.and_eq_true,decide_eq_true_eq] at m2
       omega
     . have ht:iO q v=false:=by simp [iO,t1,t2]
       rw [hs,less_get hlt,ht] at hx
       cases hy:s[v]? with
       | none=>rw [hy] at hx;cases hx
       | some y=>
         rw [hy] at hx
         have e:y=x:=by simpa using hx
         subst e
         refine Kz.zero hr hS hL v y hy ?_
         rw [vQ hq,M7,ht,hb]
         rfl
theorem Ot.way:∀ {j:Nat} {s:List Int},j<=bs.length->Ot S bs j s->∃ z:vO,z.map (fun x=>x.1)=bs.drop (bs.length - j)/\U5 z/\Kz S bs bs.length (run s z)
 | 0,s,_,h=>⟨[],by simp,fun x hx=>by simp at hx,h⟩
 | j+1,s,hj,⟨_,q,o,hq,ho,hW⟩=>by
   obtain ⟨z,h1,h2,h3⟩:=hW.way (by omega)
   refine ⟨(q,o)::z,?_,?_,h3⟩
   . rw [List.map_cons,h1,vQ hq,show bs.length - (j+1)+1=bs.length - j by omega]
   . intro x hx
     rcases List.mem_cons.mp hx with hx | hx
     . rw [hx];exact ho
     . exact h2 x hx
theorem M9 (hr:∀ q ∈ bs,q.1 < q.2) (hn:S.length=n) (hS:∀ v x,S[v]?=some x->ur bs v=0->x=0) {k o:Nat} (ho:1<=o/\o<=3) (h:Found S bs k o):∃ z,Valid n S bs z/\(z[k]?).map (fun x=>x.2)=some o:=by
 obtain ⟨s,q,hL,hq,hW⟩:=h;have hk:k < bs.length:=(Zqz hq);obtain ⟨y,y1,y2,y3⟩:=hL.way;obtain ⟨z,z1,z2,z3⟩:=hW.way (by omega);have yl:y.length=k:=by
   have:=congrArg List.length y1;simp at this;omega
 have e:(y++(q,o)::z).map (fun x=>x.1)=bs:=by
   rw [List.map_append,List.map_cons,y1,z1,show bs.length - (bs.length - (k+1))=k+1 by omega];show bs.take k++q::bs.drop (k+1)=bs;rw [<- vQ hq,List.take_append_drop]
 have er:run S (y++(q,o)::z)=run (less s q o) z:=by
   rw [sM,<- y3];rfl
 have hlt:∀ x ∈ y++(q,o)::z,x.1.1 < x.1.2:=fun x hx=>hr x.1 (by rw [<- e];exact List.mem_map_of_mem hx);refine ⟨y++(q,o)::z,⟨e,?_,fun v hv=>?_⟩,?_⟩
 . intro x hx
   rcases List.mem_append.mp hx with hx | hx
   . exact y2 x hx
   . rcases List.mem_cons.mp hx with hx | hx
     . rw [hx];exact ho
     . exact z2 x hx
 . have g:=run_get (s:=S) hlt v
   have hSv:S[v]?=some S[v]:=List.getElem?_eq_getElem (by omega);rw [er,hSv] at g;have h0:S[v] - (nR (y++(q,o)::z) v:Int)=0:=z3.zero hr hS v _ g (by simp [ur]);rw [hSv];congr 1;omega
 . rw [List.getElem?_append_right (by omega),yl,Nat.sub_self]
   rfl
theorem Valid.at {z:vO} (h:Valid n S bs z) {k:Nat} {x:(Nat×Nat)×Nat} (hz:z[k]?=some x):bs[k]?=some x.1:=by
 have:=congrArg (fun l=>l[k]?) h.of;simp only [List.getElem?_map,hz] at this;exact this.symm
theorem yV (hr:∀ q ∈ bs,q.1 < q.2/\q.2 < n) (hn:S.length=n) {z:vO} (h:Valid n S bs z):∀ k,k<=bs.length->Kz S bs k (run S (z.take k))
 | 0,_=>rfl
 | k+1,hk=>by
  have ih:=yV hr hn h k (by omega)
  have zl:z.length=bs.length:=by rw [<- h.of];simp
  have hz:z[k]?=some z[k]:=List.getElem?_eq_getElem (by omega)
  have hq:bs[k]?=some z[k].1:=h.at hz
  have hlt:=hr _ (List.mem_of_getElem? hq)
  have e:run S (z.take (k+1))=less (run S (z.take k)) z[k].1 z[k].2:=by
   rw [List.take_add_one,hz,sM];rfl
  have a3:=h.all z[k] (List.getElem_mem _);have hm:∀ v,v < n->met ((run S (z.take (k+1))).getD v 0) (ur (bs.drop (k+1)) v)=true:=fun v hv=>by
   have g:=run_get (s:=S) (z:=z.take (k+1)) (fun x hx=>(hr x.1 (by rw [<- h.of];exact List.mem_map_of_mem (List.mem_of_mem_take hx))).1) v;rw [h.sum v hv] at g;have c:nR z v=nR (z.take (k+1)) v+nR (z.drop (k+1)) v:=by rw [<- Dg,List.take_append_drop]
   have b:=tV (z:=z.drop (k+1)) (fun x hx=>h.all x (List.mem_of_mem_drop hx)) v;rw [List.map_drop,h.of] at b;have e:(run S (z.take (k+1))).getD v 0=(nR z v:Int) - (nR (z.take (k+1)) v:Int):=by
    rw [List.getD,g];rfl
   rw [e];unfold met;simp only [Bool.and_eq_true,decide_eq_true_eq];omega
  exact ⟨_,z[k].1,z[k].2,ih,hq,a3,e,hm _ (by omega),hm _ (by omega)⟩
theorem Ip (hr:∀ q ∈ bs,q.1 < q.2/\q.2 < n) (hn:S.length=n) {z:vO} (h:Valid n S bs z):∀ j,j<=bs.length->Ot S bs j (run S (z.take (bs.length - j)))
 | 0,_=>by
  have:=yV hr hn h bs.length (Nat.le_refl _)
  exact this
 | j+1,hj=>by
  have ih:=Ip hr hn h j (by omega)
  have zl:z.length=bs.length:=by rw [<- h.of];simp
  have hz:z[bs.length - (j+1)]?=some z[bs.length - (j+1)]:=List.getElem?_eq_getElem (by omega)
  have hq:bs[bs.length - (j+1)]?=some z[bs.length - (j+1)].1:=h.at hz
  refine ⟨yV hr hn h _ (by omega),_,z[bs.length - (j+1)].2,hq,h.all _ (List.getElem_mem _),?_⟩
  have e:run S (z.take (bs.length - j))=less (run S (z.take (bs.length - (j+1)))) z[bs.length - (j+1)].1 z[bs.length - (j+1)].2:=by
   rw [show bs.length - j=bs.length - (j+1)+1 by omega,List.take_add_one,hz,sM];rfl
  rw [<- e];exact ih
theorem MA (hr:∀ q ∈ bs,q.1 < q.2/\q.2 < n) (hn:S.length=n) {z:vO} (h:Valid n S bs z) {k o:Nat} (hk:(z[k]?).map (fun x=>x.2)=some o):Found S bs k o:=by
 have zl:z.length=bs.length:=by rw [<- h.of];simp
 cases hz:z[k]? with
 | none=>rw [hz] at hk;cases hk
 | some x=>
  rw [hz] at hk;have ho:x.2=o:=by simpa using hk
  have hlt:k < z.length:=(Zqz hz);refine ⟨run S (z.take k),x.1,yV hr hn h k (by omega),by rw [<- h.of,List.getElem?_map,hz];rfl,?_⟩;have w:=Ip hr hn h (bs.length - (k+1)) (by omega);rw [show bs.length - (bs.length - (k+1))=k+1 by omega,List.take_add_one,hz,sM] at w;rw [<- ho];exact w
end
theorem Iq (l:List Nat) (v n i:Nat):(addTo l v n)[i]?=(l[i]?).map fun x=>if i=v then x+n else x:=by
 unfold addTo;rw [List.getElem?_map,List.getElem?_zipIdx];cases l[i]?<;>simp
theorem Ir (l:List Nat) (v n:Nat):(addTo l v n).length=l.length:=by simp [addTo]
def yF (x:Bond):Nat×Nat:=(x.a,x.b)
theorem MB {part:List Nat} {x:Bond} (hx:x.a < x.b) (o v:Nat) (hv:v < part.length):(addTo (addTo part x.a o) x.b o).getD v 0=part.getD v 0+(if iO (yF x) v=true then o else 0):=by
 have e:part[v]?=some part[v]:=List.getElem?_eq_getElem hv;rw [List.getD,List.getD,Iq,Iq,e];unfold iO yF;by_cases h1:x.a=v
 . have h2:¬ v=x.b:=by omega
   simp [h1,h2]
 . by_cases h2:x.b=v
   . have h3:¬ v=x.a:=by omega
     simp [h2,h3]
   . have h3:¬ v=x.a:=by omega
     have h4:¬ v=x.b:=by omega
     simp [h1,h2,h3,h4]
theorem Ec {α β:Type}:∀ (l:List α) (r:List β),l.length=r.length->(l.zip r).map (fun x=>x.1)=l
 | [],[],_=>rfl
 | [],_::_,h=>by simp at h
 | _::_,[],h=>by simp at h
 | a::l,b::r,h=>by simp [Ec l r (by simpa using h)]
theorem BC {α β:Type}:∀ (l:List α) (r:List β),l.length=r.length->(l.zip r).map (fun x=>x.2)=r
 | [],[],_=>rfl
 | [],_::_,h=>by simp at h
 | _::_,[],h=>by simp at h
 | a::l,b::r,h=>by simp [BC l r (by simpa using h)]
theorem K1 {l:List (Nat×Nat)} {r:List Nat} (h:∀ o ∈ r,1<=o/\o<=3):U5 (l.zip r):=fun x hx=>h x.2 (List.of_mem_zip hx).2
theorem ZG (l:List Bond) (v:Nat):ur (l.map yF) v=(l.filter fun x=>x.at_ v).length:=by
 unfold ur;rw [List.filter_map,List.length_map];rfl
theorem uu (want:List Nat):∀ (l:List Bond) (part:List Nat),part.length=want.length->(∀ x ∈ l,x.a < x.b/\x.b < want.length)->∀ r,r ∈ ordersFor want l part ↔
   (r.length=l.length/\(∀ o ∈ r,1<=o/\o<=3)/\∀ v,v < want.length->want.getD v 0=part.getD v 0+nR ((l.map yF).zip r) v)
 | [],part,hp,_,r=>by
   unfold ordersFor
   by_cases h:part=want
   . subst h
     simp [nR]
     rintro rfl
     simp
   . have:(part==want)=false:=by simpa using h
     rw [this]
     simp only [Bool.false_eq_true,if_false,List.not_mem_nil,false_iff]
     rintro ⟨h1,_,h3⟩
     have hr:r=[]:=List.eq_nil_of_length_eq_zero (by simpa using h1)
     subst hr
     refine h (List.ext_getElem? fun v=>?_)
     by_cases hv:v < want.length
     . have:=h3 v hv
       simp only [List.map_nil,List.zip_nil_left,M6] at this
       rw [List.getElem?_eq_getElem hv,List.getElem?_eq_getElem (by omega)]
       rw [List.getD,List.getD,List.getElem?_eq_getElem hv,List.getElem?_eq_getElem (show v < part.length by omega)] at this
       simp only [Option.getD_some] at this
       rw [show part[v]=want[v] by omega]
     . rw [List.getElem?_eq_none (by omega),List.getElem?_eq_none (by omega)]
 | x::l,part,hp,hx,r=>by
   have hxa:=hx x (by simp)
   have hl:∀ y ∈ l,y.a < y.b/\y.b < want.length:=fun y hy=>hx y (by simp [hy])
   unfold ordersFor
   rw [List.mem_flatMap]
   have abk:∀ o,(addTo (addTo part x.a o) x.b o).length=want.length:=fun o=>by rw [Ir,Ir,hp]
   constructor
   . rintro ⟨o,ho,hr⟩
     have ho':1<=o/\o<=3:=by
       simp at ho;omega
     simp only at hr;split at hr
     . obtain ⟨r',hr',rfl⟩:=List.mem_map.mp hr
       obtain ⟨h1,h2,h3⟩:=(uu want l _ (abk o) hl r').mp hr';refine ⟨by simp [h1],fun y hy=>?_,fun v hv=>?_⟩
       . rcases List.mem_cons.mp hy with hy | hy
         . rw [hy];exact ho'
         . exact h2 y hy
       . have:=h3 v hv
         rw [MB hxa.1 o v (by omega)] at this;rw [List.map_cons,List.zip_cons_cons,qU];dsimp only;omega
     . simp at hr
   . rintro ⟨h1,h2,h3⟩
     cases r with
     | nil=>simp at h1
     | cons o r'=>
       have ho:=h2 o (by simp);have h3':∀ v,v < want.length->want.getD v 0=(addTo (addTo part x.a o) x.b o).getD v 0+nR ((l.map yF).zip r') v:=fun v hv=>by
         have:=h3 v hv;rw [List.map_cons,List.zip_cons_cons,qU] at this;rw [MB hxa.1 o v (by omega)];dsimp only at this;omega
       have hlen:r'.length=l.length:=by simpa using h1
       have a3:∀ y ∈ r',1<=y/\y<=3:=fun y hy=>h2 y (by simp [hy]);have can:∀ v,v < want.length->canStill (addTo (addTo part x.a o) x.b o) want l v=true:=fun v hv=>by
         have b:=tV (z:=(l.map yF).zip r') (K1 a3) v;rw [Ec _ _ (by simp [hlen]),ZG] at b;have:=h3' v hv;unfold canStill;simp only [Bool.and_eq_true,decide_eq_true_eq];omega
       refine ⟨o,by simp;omega,?_⟩;simp only;rw [can x.a (by omega),can x.b hxa.2];simp only [Bool.and_self,if_true];exact List.mem_map.mpr ⟨r',(uu want l _ (abk o) hl r').mpr ⟨hlen,a3,h3'⟩,rfl⟩
theorem MC:∀ (l:List Nat) (a:Nat),l.foldl (· + ·) a=a+l.sum
 | [],a=>by simp
 | x::l,a=>by rw [List.foldl_cons,MC l,List.sum_cons];omega
theorem P0:∀ (l:List Bond) (v:Nat),((l.filter fun x=>x.at_ v).map Bond.order).sum=nR ((l.map yF).zip (l.map Bond.order)) v
 | [],v=>rfl
 | x::l,v=>by
  have ih:=P0 l v
  rw [List.map_cons,List.map_cons,List.zip_cons_cons,qU,<- ih,List.filter_cons]
  show _=(if x.at_ v=true then x.order else 0)+_
  cases x.at_ v<;>simp
section
variable {M:Mol}
def d9 (M:Mol):List (Nat×Nat):=M.bonds.map yF
def gS (M:Mol):List Int:=M.sums.map fun (n:Nat)=>(n:Int)
theorem MD (v:Nat):M.sum v=nR ((d9 M).zip M.orders) v:=by
 unfold Mol.sum;rw [MC,Nat.zero_add];exact P0 _ _
theorem mz {v:Nat} (hv:v < M.n):M.sums[v]?=some (M.sum v):=by
 unfold Mol.sums;rw [List.getElem?_map,List.getElem?_range hv];rfl
theorem BD:M.sums.length=M.n:=by simp [Mol.sums]
theorem yW:(gS M).length=M.n:=by simp [gS,BD]
theorem yX {v:Nat} (hv:v < M.n):(gS M)[v]?=some (M.sum v:Int):=by
 unfold gS;rw [List.getElem?_map,mz hv];rfl
structure lI (M:Mol):Prop where
 ends:∀ q ∈ d9 M,q.1 < q.2/\q.2 < M.n
 Rt:∀ x ∈ M.bonds,1<=x.order/\x.order<=3
theorem lI.own (g:lI M):Valid M.n (gS M) (d9 M) ((d9 M).zip M.orders):=by
 refine ⟨Ec _ _ (by simp [d9,Mol.orders]),K1 fun o ho=>?_,fun v hv=>by rw [yX hv,MD]⟩;obtain ⟨x,hx,rfl⟩:=List.mem_map.mp ho;exact g.Rt x hx
theorem lI.zero (g:lI M):∀ v x,(gS M)[v]?=some x->ur (d9 M) v=0->x=0:=fun v x hx hb=>by
 have hv:v < M.n:=by rw [<- yW];exact (Zqz hx)
 rw [g.own.sum v hv] at hx
 have b:=tV g.own.all v
 rw [g.own.of,hb] at b
 have:=Option.some.inj hx
 omega
def Dh (M:Mol):List (List Nat):=M.redrawings.map Mol.orders
theorem yG {r:List Nat} (h:r.length=M.bonds.length):(M.ordered r).orders=r:=by
 unfold Mol.ordered Mol.orders;simp only [List.map_map];show (M.bonds.zip r).map (fun x=>x.2)=r;exact BC _ _ h.symm
theorem lI.rows (g:lI M) (r:List Nat):r ∈ Dh M ↔ r.length=M.bonds.length/\Valid M.n (gS M) (d9 M) ((d9 M).zip r):=by
 have e:∀ r',r' ∈ ordersFor M.sums M.bonds (M.sums.map fun _=>0) ↔ (r'.length=M.bonds.length/\(∀ o ∈ r',1<=o/\o<=3)/\∀ v,v < M.sums.length->M.sums.getD v 0=(M.sums.map fun _=>0).getD v 0+nR ((M.bonds.map yF).zip r') v):=
   uu _ _ _ (by simp) fun x hx=>by rw [BD];exact g.ends (yF x) (List.mem_map_of_mem hx)
 have z:∀ v,(M.sums.map fun _=>0).getD v 0=0:=fun v=>by
   rw [List.getD,List.getElem?_map];cases M.sums[v]?<;>rfl
 constructor
 . intro h
   obtain ⟨N,hN,rfl⟩:=List.mem_map.mp h;obtain ⟨r',hr',rfl⟩:=List.mem_map.mp hN;obtain ⟨h1,h2,h3⟩:=(e r').mp hr';rw [yG h1];refine ⟨h1,Ec _ _ (by simp [d9,h1]),K1 h2,fun v hv=>?_⟩;have:=h3 v (by rw [BD];exact hv);rw [z,List.getD,mz hv] at this;rw [yX hv];simp only [Option.getD_some] at this;rw [this];simp [d9]
 . rintro ⟨h1,h2⟩
   refine List.mem_map.mpr ⟨M.ordered r,List.mem_map.mpr ⟨r,(e r).mpr ⟨h1,fun o ho=>?_,fun v hv=>?_⟩,rfl⟩,yG h1⟩
   . have e2:=BC (d9 M) r (by simp [d9,h1])
     rw [<- e2] at ho;obtain ⟨x,hx,rfl⟩:=List.mem_map.mp ho;exact h2.all x hx
   . rw [BD] at hv
     have:=h2.sum v hv;rw [yX hv] at this;rw [z,List.getD,mz hv];have:=Option.some.inj this;simp only [Option.getD_some];show M.sum v=0+nR ((d9 M).zip r) v;omega
theorem lI.found (g:lI M) {k o:Nat} (hk:k < M.bonds.length) (ho:1<=o/\o<=3):Found (gS M) (d9 M) k o ↔ ∃ r ∈ Dh M,r[k]?=some o:=by
 constructor
 . intro h
   obtain ⟨z,hz,hk'⟩:=M9 (fun q hq=>(g.ends q hq).1) yW g.zero ho h;have zl:z.length=M.bonds.length:=by
     have:=congrArg List.length hz.of;simpa [d9] using this
   have ez:(d9 M).zip (z.map fun x=>x.2)=z:=by
     rw [<- hz.of,List.zip_map'];simp
   refine ⟨z.map fun x=>x.2,(g.rows _).mpr ⟨by simp [zl],by rw [ez];exact hz⟩,?_⟩;rw [List.getElem?_map];exact hk'
 . rintro ⟨r,hr,hk'⟩
   obtain ⟨h1,h2⟩:=(g.rows r).mp hr;refine MA g.ends yW h2 ?_;have e2:=BC (d9 M) r (by simp [d9,h1]);rw [<- List.getElem?_map,e2];exact hk'
noncomputable def iJ (P:Nat->Prop):Nat:=by
 classical exact (if P 1 then 1 else 0)+(if P 2 then 2 else 0)+(if P 3 then 4 else 0)
theorem Ru (P:Nat->Prop):iJ P=2 ↔ ¬ P 1/\P 2/\¬ P 3:=by
 unfold iJ;by_cases h1:P 1<;>by_cases h2:P 2<;>by_cases h3:P 3<;>simp [h1,h2,h3]
theorem lI.fixed (g:lI M) {k:Nat} (hk:k < M.bonds.length):(M.fixedAt k==2)=decide (iJ (Found (gS M) (d9 M) k)=2):=by
 have hx:M.bonds[k]?=some M.bonds[k]:=List.getElem?_eq_getElem hk;have own:M.orders ∈ Dh M:=(g.rows _).mpr ⟨by simp [Mol.orders],g.own⟩;have ok:M.orders[k]?=some M.bonds[k].order:=by unfold Mol.orders;rw [List.getElem?_map,hx];rfl
 have e:M.fixedAt k=if ((Dh M).all fun r=>r[k]?==some M.bonds[k].order)=true then M.bonds[k].order else 0:=by
   unfold Mol.fixedAt Mol.fixed;simp only;rw [List.getD,List.getElem?_map,List.getElem?_zipIdx,hx];simp only [Option.map_some,Option.getD_some,Nat.zero_add];rfl
 rw [Bool.eq_iff_iff,beq_iff_eq,decide_eq_true_eq,Ru,g.found hk (by omega),g.found hk (by omega),g.found hk (by omega),e];have b3:=g.Rt _ (List.getElem_mem hk);constructor
 . intro h
   split at h
   . rename_i ha
     rw [List.all_eq_true] at ha;have ha':∀ r ∈ Dh M,r[k]?=some 2:=fun r hr=>by
       have:=ha r hr;rw [h] at this;simpa using this
     have no:∀ o,o ≠ 2->¬ ∃ r,r ∈ Dh M/\r[k]?=some o:=fun o ho ⟨r,hr,q⟩=>by
       rw [ha' r hr] at q;exact ho (Option.some.inj q).symm
     exact ⟨no 1 (by decide),⟨_,own,by rw [ok,h]⟩,no 3 (by decide)⟩
   . omega
 . rintro ⟨n1,_,n3⟩
   have all2:∀ r ∈ Dh M,r[k]?=some 2:=fun r hr=>by
     obtain ⟨h1,h2⟩:=(g.rows r).mp hr;have hrk:r[k]?=some r[k]:=List.getElem?_eq_getElem (by omega);have:1<=r[k]/\r[k]<=3:=by
       have e2:=BC (d9 M) r (by simp [d9,h1]);have hm:r[k] ∈ ((d9 M).zip r).map fun x=>x.2:=e2.symm ▸ List.getElem_mem (by omega);obtain ⟨x,hx',q⟩:=List.mem_map.mp hm;rw [<- q];exact h2.all x hx'
     have c1:r[k] ≠ 1:=fun q=>n1 ⟨r,hr,by rw [hrk,q]⟩;have c3:r[k] ≠ 3:=fun q=>n3 ⟨r,hr,by rw [hrk,q]⟩;rw [hrk,show r[k]=2 by omega]
   have o2:M.bonds[k].order=2:=by
     have:=all2 _ own;rw [ok] at this;exact Option.some.inj this
   rw [if_pos,o2];rw [List.all_eq_true];intro r hr;rw [all2 r hr,o2];rfl
end
end JM
namespace MP
open PySem PySem.Spec PyProof.Rows L2
open XL (gF)
open Fk (Fault Bytes numIn need andThen Atom Bond Mol)
def abl (a:Atom):List (Str×V):=[("element",.int (a.element:Int)),("isotope",.int (a.isotope:Int)),("charge",.int (a.charge+4)),("hydrogens",.int (a.hydrogens:Int)),("hand",.int (a.hand:Int))]
def abm (x:Bond):List (Str×V):=[("a",.int (x.a:Int)),("b",.int (x.b:Int)),("order",.int (x.order:Int)),("side",.int (x.side:Int))]
def pY (C:Addr):uq (Atom×Nat):=fun D H v z=>∃ o dx,v=.ref o/\D o/\H o=some (.ins C dx (abl z.1))
theorem pY.ok (C:Addr):yw (pY C):=⟨fun ⟨o,dx,e,d,h⟩ k=>⟨o,dx,e,d,k _ _ d h⟩,fun ⟨o,dx,e,d,h⟩ k=>⟨o,dx,e,k _ d,h⟩⟩
def nS (C:Addr):uq (Bond×Nat):=fun D H v z=>∃ o dx,v=.ref o/\D o/\H o=some (.ins C dx (abm z.1))
theorem nS.ok (C:Addr):yw (nS C):=⟨fun ⟨o,dx,e,d,h⟩ k=>⟨o,dx,e,d,k _ _ d h⟩,fun ⟨o,dx,e,d,h⟩ k=>⟨o,dx,e,k _ d,h⟩⟩
variable {P:Program} {w:World} {K:Zqq} {mg:Str->Option Value} {base:Heap} {t:Ad}
section
def U6 (C:Addr):Sp:=fun vs H Q _=>∃ (o dx:Addr) (a:Atom),vs=[.ref o,.int (a.element:Int),.int (a.isotope:Int),.int (a.charge+4),.int (a.hydrogens:Int),.int (a.hand:Int)]/\H o=some (.ins C dx []) /\
 ∀ H',H' o=some (.ins C dx (abl a))->jv [o] H H'->Q .non H'
theorem Rv:aQ ["self","element","isotope","charge","hydrogens","hand"] ["self","element","isotope","charge","hydrogens","hand"] (aF xC):=lR (by decide +kernel)
theorem Rw (T:Txt K mg t):bF P w K mg base m5 1 t.jI t.pG ["self","element","isotope","charge","hydrogens","hand"] (U6 t.eB):=by
 refine T.pO.ok Rv (fun vs H Q E h=>?_) (fun cdv A outer s H vs Q E hr h=>?_)
 . obtain ⟨o,dx,a,rfl,_⟩:=h
   rfl
 . obtain ⟨o,dx,a,rfl,h0,k⟩:=h
   refine ⟨_,ak (ck (pv 0) (pv 1) rfl) (ak (ck (pv 0) (pv 2) rfl) (ak (ck (pv 0) (pv 3) rfl) (ak (ck (pv 0) (pv 4) rfl) (az (ck (pv 0) (pv 5) rfl))))),?_⟩;refine ⟨_,rfl,_,rfl,o,_,dx,_,rfl,h0,T.mQ,T.lD,(by show 0 < 1000;decide),?_⟩;refine ⟨_,rfl,_,rfl,o,_,dx,_,rfl,ai,T.mQ,T.lE,(by show 1 < 1000;decide),?_⟩;refine ⟨_,rfl,_,rfl,o,_,dx,_,rfl,ai,T.mQ,T.mr,(by show 2 < 1000;decide),?_⟩;refine ⟨_,rfl,_,rfl,o,_,dx,_,rfl,ai,T.mQ,T.fJ,(by show 3 < 1000;decide),?_⟩;refine ⟨_,rfl,_,rfl,o,_,dx,_,rfl,ai,T.mQ,T.lF,(by show 4 < 1000;decide),?_⟩;refine k _ ai fun b u e n=>?_;have nb:b ≠ o:=by simpa using n
   simp only [nh];rw [aq nb];exact e
def U7 (C:Addr):Sp:=fun vs H Q _=>∃ (o dx p:Addr) (x:Bond),vs=[.ref o,.ref p,.int (x.order:Int),.int (x.side:Int)]/\H o=some (.ins C dx []) /\
 H p=some (.tup [.int (x.a:Int),.int (x.b:Int)])/\∀ H',H' o=some (.ins C dx (abm x))->jv [o] H H'->Q .non H'
theorem Ry:aQ ["self","pair","order","side"] ["self","pair","order","side"] (aF xD):=lR (by decide +kernel)
theorem Rz (T:Txt K mg t):bF P w K mg base m5 1 t.jJ t.pH ["self","pair","order","side"] (U7 t.eE):=by
 refine T.pP.ok Ry (fun vs H Q E h=>?_) (fun cdv A outer s H vs Q E hr h=>?_)
 . obtain ⟨o,dx,p,x,rfl,_⟩:=h
   rfl
 . obtain ⟨o,dx,p,z,rfl,h0,hp,k⟩:=h
   refine ⟨_,ak (ck (pv 0) (bT xr (pv 1) aN (fun _ _=>rfl)) rfl) (ak (ck (pv 0) (bT xr (pv 1) aN (fun _ _=>rfl)) rfl) (ak (ck (pv 0) (pv 2) rfl) (az (ck (pv 0) (pv 3) rfl)))),?_⟩;have po:p ≠ o:=ni hp h0 (by intro z;cases z);refine ⟨_,rfl,Ym (oj.of hp) rfl ⟨_,rfl,o,_,dx,_,rfl,h0,T.gH,T.kC,(by show 0 < 1000;decide),?_⟩⟩;refine ⟨_,rfl,Ym (oj.of (by rw [aq po];exact hp)) rfl ⟨_,rfl,o,_,dx,_,rfl,ai,T.gH,T.kD,(by show 1 < 1000;decide),?_⟩⟩;refine ⟨_,rfl,_,rfl,o,_,dx,_,rfl,ai,T.gH,T.lQ,(by show 2 < 1000;decide),?_⟩;refine ⟨_,rfl,_,rfl,o,_,dx,_,rfl,ai,T.gH,T.lG,(by show 3 < 1000;decide),?_⟩;refine k _ ai fun b u e n=>?_;have nb:b ≠ o:=by simpa using n
   simp only [nh];rw [aq nb];exact e
theorem C7:aQ ["reader","element","isotope","charge","hydrogens","hand"] ["reader"] (aF xG):=lR (by decide +kernel)
theorem ZH (T:Txt K mg t):bF P w K mg base (uW P w) 6 t.jd t.pL ["reader"] (Pw K t.aG t.aH JM.wN (pY t.eB)):=by
 have GB:=@lH P w K mg base t T;have GI:=@Rw P w K mg base t T;obtain ⟨Oj,g1⟩:=T.rX;obtain ⟨WL,g2⟩:=T.yd;obtain ⟨tk3,g3⟩:=T.ug;obtain ⟨tk4,g4⟩:=T.oX;obtain ⟨tk5,g5⟩:=T.De;refine T.mV.KZ C7 (fun vs H Q E h=>?_) (fun cdv A outer s H vs Q E hr h=>?_)
 . obtain ⟨r,x,rfl,_⟩:=h
   rfl
 . obtain ⟨r,x,rfl,R,bE⟩:=h
   have hr2:dG 2 _:=hr.mono (by decide);have Nv:dG 5 _:=hr.mono (by decide);refine ⟨_,ak (aR (i:=1) C7.nd rfl (Or.inl rfl) (aW (pv 0) T.aL T.aJ GB Nv T.aI .nil c7 (af aN (af aN (af (aU rfl g1 (v:=.int 118) ⟨_,rfl⟩) au)))))
     (ak (aR (i:=2) C7.nd rfl (Or.inl rfl) (aW (pv 0) T.aL T.aJ GB Nv T.aI .nil c7 (af aN (af aN (af (aU rfl g2 (v:=.int 500) ⟨_,rfl⟩) au)))))
     (ak (aR (i:=3) C7.nd rfl (Or.inl rfl) (aW (pv 0) T.aL T.aJ GB Nv T.aI .nil c7 (af aN (af aN (af (aU rfl g3 (v:=.int 8) ⟨_,rfl⟩) au)))))
     (ak (aR (i:=4) C7.nd rfl (Or.inl rfl) (aW (pv 0) T.aL T.aJ GB Nv T.aI .nil c7 (af aN (af aN (af (aU rfl g4 (v:=.int 7) ⟨_,rfl⟩) au)))))
     (ak (aR (i:=5) C7.nd rfl (Or.inl rfl) (aW (pv 0) T.aL T.aJ GB Nv T.aI .nil c7 (af aN (af aN (af (aU rfl g5 (v:=.int 2) ⟨_,rfl⟩) au)))))
     (az (aZ (qI T.TJ GI hr2 rfl T.TH T.CS .nil bD (af (pv 1) (af (pv 2) (af (pv 3) (af (pv 4) (af (pv 5) au)))))))))))),?_⟩
   unfold JM.wN JM.rf at bE;simp only [JM.br] at bE;obtain ⟨d0,e0⟩:=R.obj;refine ⟨_,rfl,r,d0,_,rfl,e0,rfl,?_⟩;refine ⟨r,1,1,118,_,rfl,R,.inl rfl,mw.good (g':=fun v=>decide (1<=v)&&decide (v<=Fk.ELEMENTS)) (fun v=>by rw [Bool.eq_iff_iff];simp only [Bool.and_eq_true,decide_eq_true_eq];unfold Fk.ELEMENTS;omega) (bE.andThen'.mono fun y1 hy1 bE H1 R1 F1=>?_)⟩;obtain ⟨d1,e1⟩:=R1.obj;refine ⟨_,rfl,r,d1,_,rfl,e1,rfl,?_⟩;refine ⟨r,2,0,500,_,rfl,R1,.inr rfl,mw.good (g':=fun v=>decide (v<=Fk.ISOTOPE)) (fun v=>by rw [Bool.eq_iff_iff];simp only [Bool.and_eq_true,decide_eq_true_eq];unfold Fk.ISOTOPE;omega) (bE.andThen'.mono fun y2 Z3 bE H2 R2 F2=>?_)⟩;obtain ⟨d2,e2⟩:=R2.obj;refine ⟨_,rfl,r,d2,_,rfl,e2,rfl,?_⟩;refine ⟨r,1,0,8,_,rfl,R2,.inl rfl,mw.good (g':=fun v=>decide (v<=8)) (fun v=>by rw [Bool.eq_iff_iff];simp only [Bool.and_eq_true,decide_eq_true_eq];omega) (bE.andThen'.mono fun y3 hy3 bE H3 R3 F3=>?_)⟩;obtain ⟨d3,e3⟩:=R3.obj;refine ⟨_,rfl,r,d3,_,rfl,e3,rfl,?_⟩;refine ⟨r,1,0,7,_,rfl,R3,.inl rfl,mw.good (g':=fun v=>decide (v<=7)) (fun v=>by rw [Bool.eq_iff_iff];simp only [Bool.and_eq_true,decide_eq_true_eq];omega) (bE.andThen'.mono fun y4 hy4 bE H4 R4 F4=>?_)⟩;obtain ⟨d4,e4⟩:=R4.obj;refine ⟨_,rfl,r,d4,_,rfl,e4,rfl,?_⟩;refine ⟨r,1,0,2,_,rfl,R4,.inl rfl,mw.good (g':=fun v=>decide (v<=2)) (fun v=>by rw [Bool.eq_iff_iff];simp only [Bool.and_eq_true,decide_eq_true_eq];omega) (bE.andThen'.mono fun y5 hy5 bE H5 R5 F5=>?_)⟩;obtain ⟨d5,e5⟩:=R5.obj;have F:jv [r] H H5:=(((F1.trans F2).trans F3).trans F4).trans F5;refine ⟨_,rfl,_,rfl,_,rfl,_,rfl,_,rfl,fun o dx no nd ne=>?_⟩;refine ⟨o,dx,⟨y1.1,y2.1,(y3.1:Int) - 4,y4.1,y5.1⟩,?_,ai,fun H6 h6 F6=>⟨rfl,?_⟩⟩
   . simp
   . have F7:jv [] H5 H6:=jv.made no nd F6
     exact bE H6 (.ref o) (R5.stay F7 (by simp) (by simp) (by simp) (by simp)) (F.trans (F7.mono (by simp))) ⟨o,dx,rfl,F.fresh e5 no,h6⟩
theorem Ou:aQ ["reader","pair","order","side"] ["reader","pair"] (aF xH):=lR (by decide +kernel)
theorem ZI (T:Txt K mg t):bF P w K mg base (uW P w) 6 t.je t.pM ["reader","pair"] (Kr K t.aG t.aH JM.sL (nS t.eE)):=by
 have GB:=@lH P w K mg base t T;have GI:=@Rz P w K mg base t T;obtain ⟨Oj,g1⟩:=T.uo;obtain ⟨WL,g2⟩:=T.oZ;obtain ⟨tk3,g3⟩:=T.Df;refine T.mW.KZ Ou (fun vs H Q E h=>?_) (fun cdv A outer s H vs Q E hr h=>?_)
 . obtain ⟨r,p,q,x,rfl,_⟩:=h
   rfl
 . obtain ⟨r,p,q,x,rfl,R,hp,bE⟩:=h
   have hr2:dG 2 _:=hr.mono (by decide);refine ⟨_,ak (aR (i:=2) Ou.nd rfl (Or.inl rfl) (aW (pv 0) T.aL T.aJ GB hr T.aI .nil c7 (af aN (af (aU rfl g1 (v:=.int 1) ⟨_,rfl⟩) (af (aU rfl g2 (v:=.int 3) ⟨_,rfl⟩) au)))))
     (ak (aR (i:=3) Ou.nd rfl (Or.inl rfl) (aW (pv 0) T.aL T.aJ GB hr T.aI .nil c7 (af aN (af aN (af (aU rfl g3 (v:=.int 2) ⟨_,rfl⟩) au)))))
     (az (aZ (qI T.TN GI hr2 rfl T.TM T.CT .nil bD (af (pv 1) (af (pv 2) (af (pv 3) au))))))),?_⟩
   unfold JM.sL JM.pF at bE;simp only [JM.br] at bE;obtain ⟨d0,e0⟩:=R.obj;have pr:p ≠ r:=ni hp e0 (by intro z;cases z);refine ⟨_,rfl,r,d0,_,rfl,e0,rfl,?_⟩;refine ⟨r,1,1,3,_,rfl,R,.inl rfl,mw.good (g':=fun v=>decide (1<=v)&&decide (v<=3)) (fun v=>by rw [Bool.eq_iff_iff];simp only [Bool.and_eq_true,decide_eq_true_eq];omega) (bE.andThen'.mono fun y1 hy1 bE H1 R1 F1=>?_)⟩;obtain ⟨d1,e1⟩:=R1.obj;refine ⟨_,rfl,r,d1,_,rfl,e1,rfl,?_⟩;refine ⟨r,1,0,2,_,rfl,R1,.inl rfl,mw.good (g':=fun v=>decide (v<=2)) (fun v=>by rw [Bool.eq_iff_iff];simp only [Bool.and_eq_true,decide_eq_true_eq];omega) (bE.andThen'.mono fun y2 Z3 bE H2 R2 F2=>?_)⟩;obtain ⟨d2,e2⟩:=R2.obj;have F:jv [r] H H2:=F1.trans F2;have hp2:=F p _ hp (by simpa using pr);refine ⟨_,rfl,_,rfl,_,rfl,fun o dx no nd ne=>?_⟩;refine ⟨o,dx,p,⟨q.1,q.2,y1.1,y2.1⟩,rfl,ai,?_,fun H5 h5 F5=>⟨rfl,?_⟩⟩
   . rw [aq (ay hp2 no),aq (ay hp2 nd)];exact hp2
   . have F6:jv [] H2 H5:=jv.made no nd F5
     exact bE H5 (.ref o) (R2.stay F6 (by simp) (by simp) (by simp) (by simp)) (F.trans (F6.mono (by simp))) ⟨o,dx,rfl,F.fresh e2 no,h5⟩
end
end MP
namespace L2
open PySem PySem.Spec PyProof.Rows
section
variable {X:Cx}
def abn (K:Zqq):V->V->Hp->VK->Prop:=fun o i H Q=>∃ (p:Addr) (xs:List V) (j:Nat) (v:V),o=.ref p/\i=.int (j:Int)/\bI K H p xs/\xs[j]?=some v/\Q v H
theorem BE:aa1 X (abn X.K):=by
 intro pins s σ H o i ov iv Q I ro ri h;obtain ⟨p,xs,j,z,rfl,rfl,hq,he,q⟩:=h;cases ro;obtain ⟨t,rfl⟩:=ri;obtain ⟨its,r,pl,hz⟩:=I.list hq;obtain ⟨w,ew,rw'⟩:=r.get he;have hl:=r.length;have hn:=BS;have hj:j < xs.length:=(Zqz he);exact wpAny_getItem_list pl.isList (by omega) (by omega) (by simpa using ew) ⟨z,H,I,rw',q⟩
theorem Ef {K0:Zqq} {e:Expr} {f:Str} {pos:Pos} {ta:TE} (hK:X.K=K0) (he:PE X e ta) (hb:attributeBase e f X.env (eval e X.env)=eval e X.env):PE X (.Attribute e f pos) (aa9 K0 ta f):=by
 rw [<- hK];exact aA he hb
theorem BF {n j:Nat} (h:j < n):VT n (j:Int)=some j:=by
 unfold VT;rw [if_pos (by omega),if_pos (by omega)];simp
end
end L2
namespace MP
open PySem PySem.Spec PyProof.Rows L2
open XL (gF)
open Fk (Fault Bytes numIn need andThen Atom Bond Mol)
def vI (l:List Int):List V:=l.map V.int
variable {P:Program} {w:World} {K:Zqq} {mg:Str->Option Value} {base:Heap} {t:Ad}
section
def abo:Sp:=fun vs H Q _=>∃ o:Nat,vs=[.int (o:Int)]/\1<=o/\o<=3/\Q (.int ((2 ^ (o - 1):Nat):Int)) H
theorem ZJ:aQ ["order"] ["order"] (aF xF):=lR (by decide +kernel)
theorem U8 (T:Txt K mg t):bF P w K mg base m5 1 t.kX t.pK ["order"] abo:=by
 refine T.l9.ok ZJ (fun vs H Q E h=>?_) (fun cdv A outer s H vs Q E hr h=>?_)
 . obtain ⟨o,rfl,_⟩:=h
   rfl
 . obtain ⟨o,rfl,h1,h3,k⟩:=h
   refine ⟨_,az (aZ (gJ S3 aN (gJ xm (pv 0) aN))),?_⟩;refine ⟨_,rfl,_,_,rfl,rfl,_,_,rfl,rfl,⟨by omega,by omega,by decide⟩,?_⟩;have e:(1:Int) * 2 ^ ((o:Int) - 1).toNat=((2 ^ (o - 1):Nat):Int):=by
     rw [show ((o:Int) - 1).toNat=o - 1 by omega];simp
   show Q (.int (1 * 2 ^ ((o:Int) - 1).toNat)) H;rw [e];exact k
def abp:Sp:=fun vs H Q _=>∃ (l:Int) (k:Nat),vs=[.int l,.int (k:Int)]/\k < 1000/\Q (.bl (JM.met l k)) H
theorem ZK:aQ ["left","bonds"] ["left","bonds"] (aF vq):=lR (by decide +kernel)
theorem ZL (T:Txt K mg t):bF P w K mg base m5 1 t.jU t.nL ["left","bonds"] abp:=by
 obtain ⟨Oj,g1⟩:=T.uo;obtain ⟨WL,g2⟩:=T.oZ;refine T.jY.ok ZK (fun vs H Q E h=>?_) (fun cdv A outer s H vs Q E hr h=>?_)
 . obtain ⟨o,k,rfl,_⟩:=h
   rfl
 . obtain ⟨l,n,rfl,hn,k⟩:=h
   refine ⟨_,az (aZ (Lg HJ HJ (gJ N9 (aU rfl g1 (v:=.int 1) ⟨_,rfl⟩) (pv 1)) (pv 0) (gJ N9 (aU rfl g2 (v:=.int 3) ⟨_,rfl⟩) (pv 1)))),?_⟩;refine ⟨_,rfl,_,_,rfl,rfl,.inl ⟨by decide,by decide⟩,_,rfl,_,_,rfl,rfl,_,rfl,?_⟩;have e:JM.met l n=(decide (1 * (n:Int)<=l)&&decide (l<=3 * (n:Int))):=by
     unfold JM.met;rw [Int.one_mul]
   rw [e] at k;refine zB (fun h=>?_) (fun h=>?_)
   . refine ⟨_,rfl,_,_,rfl,rfl,.inl ⟨by decide,by decide⟩,_,_,rfl,rfl,?_⟩
     rw [h,Bool.true_and] at k;exact k
   . rw [Bool.not_eq_true] at h
     rw [h,Bool.false_and] at k;exact k
def pA (K:Zqq) (H:Hp) (lb:Addr) (us:List V) (l:List (Nat×Nat)):Prop:=H lb=some (.lst us)/\us.length=l.length/\∀ (i:Nat) v q,us[i]?=some v->l[i]?=some q->sI K H v q
theorem pA.same {H H':Hp} {lb:Addr} {us:List V} {l:List (Nat×Nat)} (b:pA K H lb us l) (f:aS H H'):pA K H' lb us l:=
 ⟨f _ _ b.1,b.2.1,fun i v q h1 h2=>(b.2.2 i v q h1 h2).same f⟩
def U9 (K:Zqq):Sp:=fun vs H Q _=>∃ (lb:Addr) (k v:Nat) (us:List V) (l:List (Nat×Nat)),vs=[.ref lb,.int (k:Int),.int (v:Int)]/\pA K H lb us l/\k < l.length/\l.length<=1000 /\
 ∀ H',aS H H'->Q (.int (JM.ur (l.drop (k+1)) v:Int)) H'
theorem C8:aQ ["bonds","k","atom","bond"] ["bonds","k","atom"] (aF rm):=lR (by decide +kernel)
theorem UA {xs:List V} {k:Nat} (h:k<=xs.length):Jb xs (some (k:Int)) none=xs.drop k:=by
 unfold Jb;rw [HT.VQ,HT.SM,Nat.min_eq_left h];exact List.take_of_length_le (by rw [List.length_drop];omega)
theorem ME (l:List (Nat×Nat)) (q:Nat×Nat) (v:Nat):JM.ur (l++[q]) v=JM.ur l v+(if JM.iO q v=true then 1 else 0):=by
 unfold JM.ur;rw [List.filter_append,List.length_append];congr 1;cases h:JM.iO q v<;>simp [h]
theorem R8 (T:Txt K mg t):bF P w K mg base m5 1 t.iz t.kY ["bonds","k","atom"] (U9 K):=by
 refine T.iH.ok C8 (fun vs H Q E h=>?_) (fun cdv A outer s H vs Q E hr h=>?_)
 . obtain ⟨lb,k,v,us,l,rfl,_⟩:=h
   rfl
 . obtain ⟨lb,n,v,us,l,rfl,B,hn,hl,k⟩:=h
   refine ⟨_,az (aZ (c6 bz (by rfl) T.kM PySem.boot_len (af (CM rfl C8.nd (gE (Li OV (pv 0) (OS (gJ uZ (pv 1) aN)) OQ)) (jx (own:=[("bond",3)]) rfl) (fun _ _ _ _ _=>bw (i:=3) C8.nd rfl (Or.inl rfl))
     (fun _ _ _ _ _=>t9 (PW.pt (Ss (cS om (pv 2) (Ef (K0:=K) rfl (pv 3) rfl) (bW _)) (N3 (cS om (pv 2) (Ef (K0:=K) rfl (pv 3) rfl) (bW _)))))) (fun _ _ _ _ _=>pv 3)) au))),?_⟩
   refine ⟨_,rfl,_,rfl,_,_,rfl,rfl,_,rfl,lb,us,rfl,bI.of B.1,fun p hp=>?_⟩;have e:Jb us (some ((n:Int)+1)) none=us.drop (n+1):=by
     rw [show (n:Int)+1=((n+1:Nat):Int) by omega];exact UA (by rw [B.2.1];omega)
   rw [e];have sp:aS H (upd H p (.lst (us.drop (n+1)))):=aK hp;refine ⟨p,rfl,⟨_,bI.of ai⟩,fun D hD=>?_⟩;have sD:aS H (upd (upd H p (.lst (us.drop (n+1)))) D (.lst [])):=sp.trans (aK hD);have pD:p ≠ D:=fun z=>by rw [<- z,ai] at hD;cases hD
   refine nj (K:=K) (a:=p) (xs:=us.drop (n+1)) (fun i H'=>aS H H'/\H' p=some (.lst (us.drop (n+1)))/\∃ acc,H' D=some (.lst acc)/\acc.length=JM.ur ((l.drop (n+1)).take i) v) ⟨sD,by rw [aq pD];exact ai,[],ai,rfl⟩ (fun i H' _ h=>bI.of h.2.1) ?_ ?_
   . rintro i x H' hx ⟨sm,hp',acc,hD',hacc⟩
     have hil:i < l.length - (n+1):=by
       have:=(Zqz hx);rw [List.length_drop,B.2.1] at this;exact this
     obtain ⟨q,hq⟩:∃ q,(l.drop (n+1))[i]?=some q:=⟨_,List.getElem?_eq_getElem (by rw [List.length_drop];exact hil)⟩;have en:sI K H' x q:=((B.2.2 (n+1+i) x q (by rw [<- hx,List.getElem?_drop]) (by rw [<- hq,List.getElem?_drop]))).same sm;obtain ⟨o,C,dx,fs,rfl,e1,cl,na,nb,ea,eb⟩:=en;have tk:=MP.take_snoc hq;have ac:acc.length < sizeLine:=by
       have:acc.length<=l.length:=by
         rw [hacc];refine Nat.le_trans (List.length_filter_le _ _) ?_;rw [List.length_take,List.length_drop];omega
       rw [sizeLine_eq];omega
     have pd':D ≠ p:=Ne.symm pD;have abq:∀ ys,aS H (upd H' D (.lst ys)):=fun ys b u e=>by
       have:b ≠ D:=fun z=>by
         have h1:=sp b u e;rw [z,hD] at h1;cases h1
       rw [aq this];exact sm b u e
     have go:JM.iO q v=true->∀ y,∃ acc,H' D=some (.lst acc)/\acc.length < sizeLine/\(aS H (upd H' D (.lst (acc++[y])))/\upd H' D (.lst (acc++[y])) p=some (.lst (us.drop (n+1)))/\∃ acc',upd H' D (.lst (acc++[y])) D=some (.lst acc')/\acc'.length=JM.ur ((l.drop (n+1)).take (i+1)) v):=fun ht y=>
       ⟨acc,hD',ac,abq _,by rw [aq pD];exact hp',_,ai,by rw [tk,ME,ht,<- hacc];simp⟩
     have no:JM.iO q v=false->(aS H H'/\H' p=some (.lst (us.drop (n+1)))/\∃ acc',H' D=some (.lst acc')/\acc'.length=JM.ur ((l.drop (n+1)).take (i+1)) v):=fun ht=>
       ⟨sm,hp',acc,hD',by rw [tk,ME,ht,<- hacc];simp⟩
     refine ⟨rfl,_,rfl,_,rfl,o,C,dx,fs,_,rfl,e1,cl,na,ea,rfl,_,rfl,?_⟩;by_cases h1:q.1=v
     . have ht:JM.iO q v=true:=by simp [JM.iO,h1]
       rw [decide_eq_true (by rw [h1])];exact ⟨_,rfl,go ht _⟩
     . rw [decide_eq_false (fun z=>h1 (by injection z with z;omega))]
       refine ⟨_,rfl,_,rfl,o,C,dx,fs,_,rfl,e1,cl,nb,eb,rfl,_,rfl,?_⟩;by_cases h2:q.2=v
       . have ht:JM.iO q v=true:=by simp [JM.iO,h2]
         rw [decide_eq_true (by rw [h2])];exact ⟨_,rfl,go ht _⟩
       . have ht:JM.iO q v=false:=by simp [JM.iO,h1,h2]
         rw [decide_eq_false (fun z=>h2 (by injection z with z;omega))];exact no ht
   . rintro H' ⟨sm,hp',acc,hD',hacc⟩
     rw [List.length_drop,B.2.1,<- List.length_drop,List.take_length] at hacc;refine ⟨D,acc,rfl,.inl (bI.of hD'),?_⟩;rw [hacc];exact k H' sm
def ZM (K:Zqq):Sp:=fun vs H Q _=>∃ (st:Addr) (v:V) (o n:Nat) (s:List Int) (q:Nat×Nat),vs=[.ref st,v,.int (o:Int)]/\H st=some (.tup (vI s))/\sI K H v q/\q.1 < q.2/\q.2 < s.length/\s.length<=1000 /\
 ∀ H' p,aS H H'->H p=none->H' p=some (.tup (vI (JM.less s q o)))->Q (.ref p) H'
theorem PB:aQ ["state","bond","order","left"] ["state","bond","order"] (aF vp):=lR (by decide +kernel)
theorem FG {l:List Int} {i:Nat} {x:Int} (f:Int->Int) (h:l[i]?=some x):l.set i (f x)=l.modify i f:=by
 refine List.ext_getElem? fun j=>?_;rw [List.getElem?_modify,List.getElem?_set];by_cases e:i=j
 . subst e
   obtain ⟨hl,rfl⟩:=List.getElem?_eq_some_iff.mp h;simp [hl]
 . simp [e]
theorem FI (l:List Int) (i:Nat) (x:Int):(vI l).set i (.int x)=vI (l.set i x):=by
 unfold vI;rw [List.map_set]
theorem sN {l:List Int} {i:Nat} {x:Int} (h:l[i]?=some x):(vI l)[i]?=some (.int x):=by
 unfold vI;rw [List.getElem?_map,h];rfl
theorem PD (T:Txt K mg t):bF P w K mg base m5 1 t.jT t.nJ ["state","bond","order"] (ZM K):=by
 refine T.jX.ok PB (fun vs H Q E h=>?_) (fun cdv A outer s H vs Q E hr h=>?_)
 . obtain ⟨st,v,o,n,s,q,rfl,_⟩:=h
   rfl
 . obtain ⟨st,v,o,n,ZN,q,rfl,hst,en,h12,h2n,hn,k⟩:=h
   refine ⟨_,ak (aR (i:=3) PB.nd rfl (Or.inl rfl) (yN Je (by rfl) T.Oa PyProof.Rows.boot_list (af (pv 0) au)))
     (ak (DP (pv 3) (aA (pv 1) rfl) BE (pv 2) Sw set_list)
     (ak (DP (pv 3) (aA (pv 1) rfl) BE (pv 2) Sw set_list)
     (az (aZ (yN uc (by rfl) T.DZ PyProof.Rows.boot_tuple (af (pv 3) au)))))),?_⟩
   obtain ⟨b,C,dx,fs,rfl,e1,cl,na,nb,ea,eb⟩:=en;refine ⟨_,rfl,st,_,rfl,.inr (oj.of hst),fun l hl=>?_⟩;have s1:aS H (upd H l (.lst (vI ZN))):=aK hl;obtain ⟨x1,hx1⟩:∃ x,ZN[q.1]?=some x:=⟨_,List.getElem?_eq_getElem (by omega)⟩;have hlen:(vI ZN).length=ZN.length:=by simp [vI]
   refine ⟨_,rfl,_,rfl,b,C,dx,fs,_,rfl,s1 _ _ e1,cl,na,ea,l,_,q.1,_,rfl,rfl,bI.of ai,sN hx1,_,rfl,_,_,rfl,rfl,l,_,(q.1:Int),q.1,rfl,rfl,ai,BF (by rw [hlen];omega),?_⟩;rw [FI,nh,FG (f:=fun x=>x - (o:Int)) hx1];obtain ⟨x2,U1⟩:∃ x,(ZN.modify q.1 fun x=>x - (o:Int))[q.2]?=some x:=⟨_,List.getElem?_eq_getElem (by simp;omega)⟩;have s2:aS H (upd H l (.lst (vI (ZN.modify q.1 fun x=>x - (o:Int))))):=aK hl;refine ⟨_,rfl,_,rfl,b,C,dx,fs,_,rfl,s2 _ _ e1,cl,nb,eb,l,_,q.2,_,rfl,rfl,bI.of ai,sN U1,_,rfl,_,_,rfl,rfl,l,_,(q.2:Int),q.2,rfl,rfl,ai,BF (by simp [vI];omega),?_⟩;rw [FI,nh,FG (f:=fun x=>x - (o:Int)) U1];refine ⟨_,rfl,l,_,rfl,.inl ⟨bI.of ai,fun p hp=>?_⟩⟩;have s3:aS H (upd H l (.lst (vI (JM.less ZN q o)))):=aK hl;exact k _ p (s3.trans (aK hp)) (s3.free hp) ai
def ways (ys:List (Bond×Nat)):JM.vO:=ys.map fun z=>(JM.aV z,z.1.order)
def sO (n:Nat) (z:JM.vO):List Int:=(List.range n).map fun v=>(JM.nR z v:Int)
def ZO (K:Zqq) (C:Addr):Sp:=fun vs H Q _=>∃ (n:Nat) (lb:Addr) (us:List V) (ys:List (Bond×Nat)) (D:Addr->Prop),vs=[.int (n:Int),.ref lb]/\n<=1000/\H lb=some (.lst us)/\cQ (nS C) D H us ys /\
 (∀ q ∈ ys.map JM.aV,q.1 < q.2/\q.2 < n)/\∀ H' l,aS H H'->H l=none->H' l=some (.lst (vI (sO n (ways ys))))->Q (.ref l) H'
theorem K2:aQ ["n","bonds","sums","bond"] ["n","bonds"] (aF vo):=lR (by decide +kernel)
theorem mz {n:Nat} {f:Nat->Int} {v:Nat} (h:v < n):((List.range n).map f)[v]?=some (f v):=by
 rw [List.getElem?_map,List.getElem?_range h];rfl
theorem BG {n:Nat} {f:Nat->Int} {v:Nat} {x:Int}:((List.range n).map f).set v x=(List.range n).map fun u=>if u=v then x else f u:=by
 refine List.ext_getElem? fun j=>?_;rw [List.getElem?_set];by_cases hj:j < n
 . rw [mz hj]
   by_cases e:v=j
   . subst e
     simp [hj]
   . have e':¬ j=v:=fun z=>e z.symm
     simp [e,e',mz hj]
 . have e1:((List.range n).map fun u=>if u=v then x else f u)[j]?=none:=List.getElem?_eq_none (by simp;omega)
   rw [e1];by_cases e:v=j
   . subst e;simp [hj]
   . rw [if_neg e]
     exact List.getElem?_eq_none (by simp;omega)
theorem zeros (n:Nat):(List.replicate n [V.int 0]).flatten=vI (sO n []):=by
 unfold vI sO;rw [List.map_map];refine List.ext_getElem? fun j=>?_;have e:(List.replicate n [V.int 0]).flatten=List.replicate n (V.int 0):=by
   induction n with
   | zero=>rfl
   | succ n ih=>rw [List.replicate_succ,List.flatten_cons,ih];rfl
 rw [e,List.getElem?_replicate];by_cases hj:j < n
 . rw [if_pos hj,List.getElem?_map,List.getElem?_range hj]
   rfl
 . rw [if_neg hj]
   exact (List.getElem?_eq_none (by simp;omega)).symm
theorem Xa (T:Txt K mg t):bF P w K mg base m5 1 t.jS t.nI ["n","bonds"] (ZO K t.eE):=by
 refine T.lO.ok K2 (fun vs H Q E h=>?_) (fun cdv A outer s H vs Q E hr h=>?_)
 . obtain ⟨n,lb,us,ys,D,rfl,_⟩:=h
   rfl
 . obtain ⟨n,lb,us,ys,D,rfl,hn,hlb,R,hq,k⟩:=h
   refine ⟨_,ak (aR (i:=2) K2.nd rfl (Or.inl rfl) (gJ SV (jM (af aN au)) (pv 0)))
     (ak (fj PassesOwn.never rfl (gE (pv 1)) (bw (i:=3) K2.nd rfl (Or.inl rfl))
       (ak (DP (pv 2) (aA (pv 3) rfl) BE (aA (pv 3) rfl) IW set_list)
       (az (DP (pv 2) (aA (pv 3) rfl) BE (aA (pv 3) rfl) IW set_list))))
     (az (aZ (pv 2)))),?_⟩
   refine ⟨by show 1<=sizeLine;decide,fun p0 hp0=>⟨_,rfl,p0,_,_,rfl,rfl,ai,by omega,by omega,by rw [sizeLine_eq];simp;omega,fun l hl=>?_⟩⟩;rw [Int.toNat_natCast,zeros];have s0:aS H (upd H p0 (.lst [V.int 0])):=aK hp0;have s1:aS H (upd (upd H p0 (.lst [V.int 0])) l (.lst (vI (sO n [])))):=s0.trans (aK hl);have Yq:H l=none:=s0.free hl;refine ⟨_,rfl,lb,rfl,⟨_,bI.of (s1 _ _ hlb)⟩,?_⟩;let xf:L2.Iv:=fun i σ H'=>∃ vb,σ=[some (.int (n:Int)),some (.ref lb),some (.ref l),vb]/\aS H H'/\H' l=some (.lst (vI (sO n ((ways ys).take i))));refine pC (K:=K) (a:=lb) (xs:=us) xf ⟨none,rfl,s1,ai⟩ (fun i σ H' _ ⟨_,_,sm,_⟩=>bI.of (sm _ _ hlb)) ?_ ?_
   . rintro i x σ H' hx ⟨vb,rfl,sm,hl'⟩
     have hi:i < us.length:=(Zqz hx);obtain ⟨z,hz⟩:∃ z,ys[i]?=some z:=⟨_,List.getElem?_eq_getElem (by rw [<- R.len];exact hi)⟩;obtain ⟨o,dx,rfl,_,rep⟩:=R.at_ i x z hx hz;have hqz:=hq (JM.aV z) (List.mem_map_of_mem (List.mem_of_getElem? hz));have ez:(ways ys)[i]?=some (JM.aV z,z.1.order):=by unfold ways;rw [List.getElem?_map,hz];rfl
     have ol:o ≠ l:=fun q=>by
       have:=sm _ _ rep;rw [q,hl'] at this;cases this
     have ln:∀ w:JM.vO,(vI (sO n w)).length=n:=fun w=>by simp [vI,sO]
     refine ⟨_,rfl,_,rfl,fld (sm _ _ rep) T.gH T.kC rfl ⟨l,_,z.1.a,_,rfl,rfl,bI.of hl',sN (mz (by have:z.1.a < z.1.b/\z.1.b < n:=hqz;omega)),?_⟩⟩;refine ⟨_,rfl,fld (sm _ _ rep) T.gH T.lQ rfl ⟨_,_,rfl,rfl,l,_,(z.1.a:Int),z.1.a,rfl,rfl,hl',BF (by rw [ln];have:z.1.a < z.1.b/\z.1.b < n:=hqz;omega),?_⟩⟩;have keep:∀ u,aS H (upd H' l u):=fun u b v e=>by
       rw [aq (ay e Yq)];exact sm b v e
     rw [FI];unfold sO;rw [BG];refine ⟨_,rfl,_,rfl,fld (keep _ _ _ rep) T.gH T.kD rfl ⟨l,_,z.1.b,_,rfl,rfl,bI.of ai,sN (mz hqz.2),?_⟩⟩;refine ⟨_,rfl,fld (keep _ _ _ rep) T.gH T.lQ rfl ⟨_,_,rfl,rfl,l,_,(z.1.b:Int),z.1.b,rfl,rfl,ai,BF (by simp [vI];exact hqz.2),?_⟩⟩;rw [FI,BG,nh];refine ⟨_,rfl,keep _,?_⟩;rw [ai,take_snoc ez];congr 3;refine List.map_congr_left fun u hu=>?_;rw [JM.Dg,JM.qU,JM.M6];have hlt:z.1.a < z.1.b:=hqz.1;by_cases h1:u=z.1.a
     . have h2:¬ u=z.1.b:=by omega
       have ht:JM.iO (JM.aV z) u=true:=by simp [JM.iO,JM.aV,h1]
       rw [if_neg h2,if_pos h1,if_pos ht,h1];simp
     . by_cases h2:u=z.1.b
       . have ht:JM.iO (JM.aV z) u=true:=by simp [JM.iO,JM.aV,h2]
         have h3:¬ z.1.b=z.1.a:=by omega
         rw [if_pos h2,if_pos ht,if_neg h3,h2];simp
       . have ht:¬ JM.iO (JM.aV z) u=true:=by
           simp [JM.iO,JM.aV];omega
         rw [if_neg h2,if_neg h1,if_neg ht];simp
   . rintro σ H' ⟨vb,rfl,sm,hl'⟩
     have e:(ways ys).take us.length=ways ys:=List.take_of_length_le (by unfold ways;rw [List.length_map,R.len];exact Nat.le_refl _);rw [e] at hl';exact ⟨_,rfl,k H' l sm Yq hl'⟩
end
def kI (s:List Int):List Key:=s.map Sum.inl
theorem DM (s:List Int):(kI s).map kV=vI s:=by
 unfold kI vI;rw [List.map_map];rfl
theorem vR {s u:List Int} (h:kI s=kI u):s=u:=List.map_inj_right (fun a b e=>by injection e) |>.mp h
structure DN (kvs:List (List Key×V)) (Pr:List Int->Prop):Prop where
 of:∀ kv ∈ kvs,∃ s,kv.1=kI s/\Pr s
 all:∀ s,Pr s->(kh kvs (kI s)).isSome=true
theorem yH {kvs:List (List Key×V)} {k:List Key} (h:(kh kvs k).isSome=true):∃ kv ∈ kvs,kv.1=k:=by
 rw [<- nt,List.any_eq_true] at h;obtain ⟨kv,h1,h2⟩:=h;exact ⟨kv,h1,of_decide_eq_true h2⟩
theorem UB {kvs:List (List Key×V)} {kv:List Key×V} (h:kv ∈ kvs):(kh kvs kv.1).isSome=true:=by
 rw [<- nt,List.any_eq_true];exact ⟨kv,h,decide_eq_true rfl⟩
theorem DN.iff {kvs:List (List Key×V)} {Pr:List Int->Prop} (d:DN kvs Pr) (s:List Int):(kh kvs (kI s)).isSome=true ↔ Pr s:=
 ⟨fun h=>by
  obtain ⟨kv,h1,h2⟩:=yH h
  obtain ⟨u,e,p⟩:=d.of kv h1
  rw [e] at h2
  rw [<- vR h2]
  exact p,d.all s⟩
theorem DN.nil:DN [] fun _=>False:=⟨fun kv h=>by simp at h,fun _ h=>h.elim⟩
theorem DN.put {kvs:List (List Key×V)} {Pr:List Int->Prop} (d:DN kvs Pr) (s:List Int) (v:V):DN (putK kvs (kI s) v) fun u=>Pr u\/u=s:=by
 refine ⟨fun kv h=>?_,fun u hu=>?_⟩
 . have:=UB h
   rw [Au] at this;by_cases e:kv.1=kI s
   . exact ⟨s,e,.inr rfl⟩
   . rw [if_neg e] at this
     obtain ⟨kv',h1,h2⟩:=yH this;obtain ⟨u,e',p⟩:=d.of kv' h1;exact ⟨u,h2 ▸ e',.inl p⟩
 . rw [Au]
   by_cases e:kI u=kI s
   . rw [if_pos e];rfl
   . rw [if_neg e]
     rcases hu with hu | hu
     . exact d.all u hu
     . exact absurd (by rw [hu]) e
theorem DN.eq {kvs:List (List Key×V)} {Pr Pr':List Int->Prop} (d:DN kvs Pr) (h:∀ s,Pr s ↔ Pr' s):DN kvs Pr':=
 ⟨fun kv hk=>let ⟨s,e,p⟩:=d.of kv hk;⟨s,e,(h s).mp p⟩,fun s p=>d.all s ((h s).mpr p)⟩
theorem Iu {d:Addr} {o:Obj} {kvs:List (List Key×V)} {g:TG} {tb:TS} {D:Ends} {σ:L2.St} {H:Hp} (Pv:Nat->L2.St->Hp->Prop) (h0:Pv 0 σ H) (hl:∀ i σ H,Pv i σ H->H d=some (.qh o (.dT kvs)))
   (hs:∀ i k v b σ H,kvs[i]?=some (k,v)->Pv i σ H->H b=some (.tup (k.map kV))->g (.ref b) σ H fun σ2 H2=>tb { D with nx:=Pv (i+1),ct:=Pv (i+1),bk:=D.nx } σ2 H2) (hd:∀ σ H,Pv kvs.length σ H->D.nx σ H) :
   ∃ W:Nat->Nat->L2.St->Hp->Prop,(∃ m,W 0 m σ H)/\∀ i m σ H,W i m σ H->
     ((Ti d o kvs).stop i H/\D.nx σ H)\/((Ti d o kvs).go i H/\∃ N:L2.St->Hp->Prop,(∀ σ' H',N σ' H'->∃ m',m' < m/\W (i+1) m' σ' H')/\∀ x H',(Ti d o kvs).Sy i H x H'->g x σ H' fun σ2 H2=>tb { D with nx:=N,ct:=N,bk:=D.nx } σ2 H2):=by
 refine ⟨fun i m σ H=>m=kvs.length - i/\i<=kvs.length/\Pv i σ H,⟨kvs.length,by simp,Nat.zero_le _,h0⟩,?_⟩;rintro i m σ H ⟨rfl,hi,p⟩;have q:=hl i σ H p;by_cases hlt:i < kvs.length
 . refine .inr ⟨⟨q,hlt⟩,Pv (i+1),fun σ' H' p'=>⟨kvs.length - (i+1),by omega,rfl,hlt,p'⟩,fun x H' y=>?_⟩
   obtain ⟨rfl,k,v,b,e,rfl,hb⟩:=y;exact hs i k v b σ _ e p hb
 . have e:i=kvs.length:=by omega
   subst e;exact .inl ⟨⟨q,Nat.le_refl _⟩,hd σ H p⟩
section
def Rch (q:Nat×Nat) (b1 b2:Nat) (s:List Int) (o:Nat) (s':List Int):Prop:=s'=JM.less s q o/\JM.met (s'.getD q.1 0) b1=true/\JM.met (s'.getD q.2 0) b2=true
def UC (K:Zqq):Sp:=fun vs H Q _=>∃ (d lb:Addr) (k n:Nat) (kvs:List (List Key×V)) (Pr:List Int->Prop) (us:List V) (l:List (Nat×Nat)) (q:Nat×Nat),vs=[.ref d,.ref lb,.int (k:Int)]/\H d=some (.dT kvs)/\DN kvs Pr/\(∀ s,Pr s->s.length=n) /\
 pA K H lb us l/\l[k]?=some q/\l.length<=1000/\n<=1000/\q.1 < q.2/\q.2 < n/\3 * kvs.length<=10000000 /\
 ∀ H' d' kvs',aS H H'->H d'=none->H' d'=some (.dT kvs')->DN kvs' (fun s'=>∃ s o,Pr s/\(1<=o/\o<=3)/\Rch q (JM.ur (l.drop (k+1)) q.1) (JM.ur (l.drop (k+1)) q.2) s o s')->kvs'.length<=3 * kvs.length->Q (.ref d') H'
theorem mZ:aQ ["states","bonds","k","bond","at_a","at_b","found","state","order","left"] ["states","bonds","k"] (aF m6):=lR (by decide +kernel)
theorem R9 (T:Txt K mg t):bF P w K mg base m5 2 t.eZ t.kj ["states","bonds","k"] (UC K):=by
 have GB:=@R8 P w K mg base t T;have GL:=@PD P w K mg base t T;have GM:=@ZL P w K mg base t T;refine T.iR.ok mZ (fun vs H Q E h=>?_) (fun cdv A outer s H vs Q E hr h=>?_)
 . obtain ⟨d,lb,k,n,kvs,Pr,us,l,q,rfl,_⟩:=h
   rfl
 . obtain ⟨d,lb,n0,n,kvs,Pr,us,l,q,rfl,hd,SD,hPr,B,hq,hl,hn,h12,h2n,hsz,k⟩:=h
   have hu:=hr.un;have hu':(A.deeper (envOfC "states_behind" (aF m6) s.heap.objs.size t.eZ cdv)).units+1 < cLine:=by omega
   refine ⟨_,ak (aR (i:=3) mZ.nd rfl (Or.inl rfl) (bT b6 (pv 1) (pv 2) (fun _ _=>rfl)))
     (ak (aR (i:=4) mZ.nd rfl (Or.inl rfl) (bx GB hr rfl T.rM T.iH.kp T.rL .nil bD (af (pv 1) (af (pv 2) (af (aA (pv 3) rfl) au)))))
     (ak (aR (i:=5) mZ.nd rfl (Or.inl rfl) (bx GB hr rfl T.rM T.iH.kp T.rL .nil bD (af (pv 1) (af (pv 2) (af (aA (pv 3) rfl) au)))))
     (ak (aR (i:=6) mZ.nd rfl (Or.inl rfl) Ax)
     (ak (Pc (fj PassesOwn.never rfl (Pd (pv 0)) (bw (i:=7) mZ.nd rfl (Or.inl rfl))
       (az (fj PassesOwn.never rfl (N7 (aU rfl T.ER (v:=.ref t.k7) rfl)) (bw (i:=8) mZ.nd rfl (Or.inl rfl))
         (ak (aR (i:=9) mZ.nd rfl (Or.inl rfl) (bx GL hr rfl T.vE T.jX.kp T.vA .nil bD (af (pv 7) (af (pv 3) (af (pv 8) au)))))
         (az (kL (PW.pt (oE (jr (bx GM hr rfl T.vF T.jY.kp T.vC .nil bD (af (bT xr (pv 9) (aA (pv 3) rfl) (fun _ _=>rfl)) (af (pv 4) au))))
             (lJ (jr (bx GM hr rfl T.vF T.jY.kp T.vC .nil bD (af (bT xr (pv 9) (aA (pv 3) rfl) (fun _ _=>rfl)) (af (pv 5) au)))))))
           (az (Aw hu' (pv 6) (pv 9) qX rfl)) dW)))))))
     (az (aZ (pv 6))))))),?_⟩
   have hk:n0 < l.length:=(Zqz hq);obtain ⟨bv,hbv⟩:∃ v,us[n0]?=some v:=⟨_,List.getElem?_eq_getElem (by rw [B.2.1];exact hk)⟩;have en:=B.2.2 n0 bv q hbv hq;obtain ⟨o,C,dx,fs,rfl,e1,cl,na,nb,ea,eb⟩:=id en;refine ⟨_,rfl,_,rfl,lb,us,_,_,rfl,rfl,bI.of B.1,bh hbv,?_⟩;refine ⟨_,rfl,_,rfl,_,rfl,o,C,dx,fs,_,rfl,e1,cl,na,ea,?_⟩;refine ⟨lb,n0,q.1,us,l,rfl,B,hk,hl,fun H1 s1=>?_⟩;refine ⟨_,rfl,_,rfl,_,rfl,o,C,dx,fs,_,rfl,s1 _ _ e1,cl,nb,eb,?_⟩;refine ⟨lb,n0,q.2,us,l,rfl,B.same s1,hk,hl,fun H2 s2=>?_⟩;intro fd hfd;have s12:aS H H2:=s1.trans s2;have s3:aS H (upd H2 fd (.dT [])):=s12.trans (aK hfd);have UD:H fd=none:=s12.free hfd;have fdd:fd ≠ d:=fun z=>by rw [z,hd] at UD;cases UD
   have bd:∀ v,JM.ur (l.drop (n0+1)) v < 1000:=fun v=>by
     have:=List.length_filter_le (fun q=>JM.iO q v) (l.drop (n0+1));rw [List.length_drop] at this;unfold JM.ur;omega
   refine ⟨d,_,s3 _ _ hd,True.intro,fun od=>?_⟩;refine ⟨_,rfl,d,od,rfl,.inr ⟨kvs,ai,?_⟩⟩;let ZP:Nat->List Int->Prop:=fun i s'=>∃ i' kv s o,i' < i/\kvs[i']?=some kv/\kv.1=kI s/\(1<=o/\o<=3)/\Rch q (JM.ur (l.drop (n0+1)) q.1) (JM.ur (l.drop (n0+1)) q.2) s o s';let xf:L2.Iv:=fun i σ H'=>∃ v7 v8 v9 kv,σ=[some (.ref d),some (.ref lb),some (.int (n0:Int)),some (.ref o),some (.int (JM.ur (l.drop (n0+1)) q.1:Int)),some (.int (JM.ur (l.drop (n0+1)) q.2:Int)),some (.ref fd),v7,v8,v9] /\
     (∀ b u,H b=some u->b ≠ d->H' b=some u)/\H' d=some (.qh od (.dT kvs))/\H' fd=some (.dT kv)/\DN kv (ZP i)/\kv.length<=3 * i
   refine Iu (d:=d) (o:=od) (kvs:=kvs) xf
     ⟨none,none,none,[],rfl,fun b u e n=>by rw [aq n];exact s3 b u e,ai,by rw [aq fdd];exact ai,DN.nil.eq fun s=>⟨fun h=>h.elim,fun ⟨i',_,_,_,h,_⟩=>by omega⟩,Nat.zero_le _⟩ (fun i σ H' ⟨_,_,_,_,_,_,h,_⟩=>h) ?_ ?_
   . rintro i ky v b σ HY UE ⟨v7,v8,v9,kv,rfl,kp,hdY,hfY,SY,lY⟩ hb
     have hi:i < kvs.length:=(Zqz UE);obtain ⟨si,ek,hsi⟩:=SD.of (ky,v) (List.mem_of_getElem? UE);simp only at ek;subst ek;rw [DM] at hb;have sl:si.length=n:=hPr si hsi;refine ⟨t.k7,rfl,⟨_,T.ye HY⟩,?_⟩;let UG:L2.Iv:=fun j σ H'=>∃ v8 v9 kv,σ=[some (.ref d),some (.ref lb),some (.int (n0:Int)),some (.ref o),some (.int (JM.ur (l.drop (n0+1)) q.1:Int)),some (.int (JM.ur (l.drop (n0+1)) q.2:Int)),some (.ref fd),some (.ref b),v8,v9] /\
       (∀ b u,HY b=some u->b ≠ fd->H' b=some u)/\H' fd=some (.dT kv)/\DN kv (fun s'=>ZP i s'\/∃ o,(1<=o/\o<=j)/\Rch q (JM.ur (l.drop (n0+1)) q.1) (JM.ur (l.drop (n0+1)) q.2) si o s')/\kv.length<=3 * i+j
     refine IX (K:=K) (a:=t.k7) (xs:=[.int 1,.int 2,.int 3]) UG
       ⟨v8,v9,kv,rfl,fun b u e _=>e,hfY,SY.eq fun s=>⟨.inl,fun h=>by rcases h with h | ⟨o,h,_⟩;exact h;omega⟩,by omega⟩ (fun j σ H' _ _=>T.ye H') ?_ ?_
     . rintro j x σ H' hx ⟨v8,v9,kv,rfl,kq,hf',S',l'⟩
       have hj:j < 3:=by simpa using (Zqz hx)
       obtain rfl:x=.int ((j+1:Nat):Int):=by
         have:j=0\/j=1\/j=2:=by omega
         rcases this with r | r | r<;>subst r<;>simp at hx<;>rw [<- hx]<;>rfl
       have bf:b ≠ fd:=fun z=>by rw [z,hfY] at hb;cases hb
       have oo:∀ u,H o=some u->H' o=some u:=fun u e=>kq _ _ (kp _ _ e (fun z=>by rw [z,hd] at e1;cases e1)) (fun z=>by rw [z,UD] at e1;cases e1);refine ⟨_,rfl,_,rfl,_,rfl,?_⟩;refine ⟨b,.ref o,j+1,n,si,q,rfl,kq _ _ hb bf,⟨o,C,dx,fs,rfl,oo _ e1,cl,na,nb,ea,eb⟩,h12,by omega,by omega,fun H5 p s5 np hp=>?_⟩;have ll:(JM.less si q (j+1)).length=n:=(JM.M8 _ _ _).trans sl;obtain ⟨y1,hy1⟩:∃ y,(JM.less si q (j+1))[q.1]?=some y:=⟨_,List.getElem?_eq_getElem (by omega)⟩;obtain ⟨y2,Z3⟩:∃ y,(JM.less si q (j+1))[q.2]?=some y:=⟨_,List.getElem?_eq_getElem (by omega)⟩;have d1:(JM.less si q (j+1)).getD q.1 0=y1:=by rw [List.getD,hy1];rfl
       have d2:(JM.less si q (j+1)).getD q.2 0=y2:=by rw [List.getD,Z3];rfl
       have o5:=s5 _ _ (oo _ e1);have ZQ:=s5 _ _ hf';have Yr:∀ b u,HY b=some u->b ≠ fd->H5 b=some u:=fun b u e n=>s5 _ _ (kq b u e n);have no:¬ Rch q (JM.ur (l.drop (n0+1)) q.1) (JM.ur (l.drop (n0+1)) q.2) si (j+1) (JM.less si q (j+1))->DN kv (fun s'=>ZP i s'\/∃ o,(1<=o/\o<=j+1)/\Rch q (JM.ur (l.drop (n0+1)) q.1) (JM.ur (l.drop (n0+1)) q.2) si o s'):=fun hno=>S'.eq fun s'=>by
         constructor
         . rintro (h | ⟨o,h,r⟩)
           . exact .inl h
           . exact .inr ⟨o,⟨h.1,by omega⟩,r⟩
         . rintro (h | ⟨o,h,r⟩)
           . exact .inl h
           . by_cases e:o=j+1
             . subst e
               exact absurd (r.1 ▸ r) hno
             . exact .inr ⟨o,⟨h.1,by omega⟩,r⟩
       refine ⟨_,rfl,_,rfl,o,C,dx,fs,_,rfl,o5,cl,na,ea,Ym (oj.of hp) (bh (sN hy1)) ⟨_,rfl,?_⟩⟩;refine ⟨y1,_,rfl,bd _,⟨_,rfl,?_⟩⟩;cases m1:JM.met y1 (JM.ur (l.drop (n0+1)) q.1) with
       | false=>exact ⟨_,_,kv,rfl,Yr,ZQ,no (fun r=>by have z:=r.2.1;rw [d1,m1] at z;cases z),by omega⟩
       | true=>
         refine ⟨_,rfl,_,rfl,o,C,dx,fs,_,rfl,o5,cl,nb,eb,Ym (oj.of hp) (bh (sN Z3)) ⟨_,rfl,?_⟩⟩;refine ⟨y2,_,rfl,bd _,⟨_,rfl,?_⟩⟩;cases m2:JM.met y2 (JM.ur (l.drop (n0+1)) q.2) with
         | false=>exact ⟨_,_,kv,rfl,Yr,ZQ,no (fun r=>by have z:=r.2.2;rw [d2,m2] at z;cases z),by omega⟩
         | true=>
           have r:Rch q (JM.ur (l.drop (n0+1)) q.1) (JM.ur (l.drop (n0+1)) q.2) si (j+1) (JM.less si q (j+1)):=⟨rfl,by rw [d1];exact m1,by rw [d2];exact m2⟩;refine ⟨_,rfl,_,rfl,fd,_,rfl,E5.t (k:=kI (JM.less si q (j+1))) ZQ (by rw [DM];exact hp) (by rw [sizeLine_eq];omega),?_⟩;refine ⟨_,_,_,rfl,fun b u e n=>by rw [aq n];exact Yr b u e n,ai,(S'.put _ _).eq fun s'=>?_,?_⟩
           . constructor
             . rintro ((h | ⟨o,h,r'⟩) | h)
               . exact .inl h
               . exact .inr ⟨o,⟨h.1,by omega⟩,r'⟩
               . subst h;exact .inr ⟨j+1,⟨by omega,by omega⟩,r⟩
             . rintro (h | ⟨o,h,r'⟩)
               . exact .inl (.inl h)
               . by_cases e:o=j+1
                 . subst e;exact .inr r'.1
                 . exact .inl (.inr ⟨o,⟨h.1,by omega⟩,r'⟩)
           . have:=jH kv (kI (JM.less si q (j+1))) (V.bl true)
             omega
     . rintro σ H' ⟨v8,v9,kv,rfl,kq,hf',S',l'⟩
       refine ⟨_,_,_,kv,rfl,fun b' u e n=>kq b' u (kp b' u e n) (fun z=>by rw [z,UD] at e;cases e),kq _ _ hdY (Ne.symm fdd),hf',S'.eq fun s'=>?_,?_⟩
       . constructor
         . rintro (⟨i',kv',s,o,h1,h2,h3,h4,h5⟩ | ⟨o,h,r⟩)
           . exact ⟨i',kv',s,o,by omega,h2,h3,h4,h5⟩
           . exact ⟨i,_,si,o,by omega,UE,rfl,⟨h.1,h.2⟩,r⟩
         . rintro ⟨i',kv',s,o,h1,h2,h3,h4,h5⟩
           by_cases e:i'=i
           . subst e
             rw [UE] at h2;cases h2;have:=vR h3;subst this;exact .inr ⟨o,h4,h5⟩
           . exact .inl ⟨i',kv',s,o,by omega,h2,h3,h4,h5⟩
       . have:([V.int 1,V.int 2,V.int 3]:List V).length=3:=rfl
         omega
   . rintro σ H' ⟨v7,v8,v9,kv,rfl,kp,hd',hf',S',l'⟩
     refine ⟨hd',_,rfl,k _ fd kv (fun b u e=>?_) UD (by rw [aq fdd];exact hf') (S'.eq fun s'=>?_) l'⟩
     . by_cases z:b=d
       . subst z
         rw [hd] at e;cases e;exact ai
       . rw [aq z]
         exact kp b u e z
     . constructor
       . rintro ⟨i',kv',s,o,h1,h2,h3,h4,h5⟩
         obtain ⟨s2',e,p⟩:=SD.of kv' (List.mem_of_getElem? h2);have:s=s2':=vR (h3.symm.trans e);subst this;exact ⟨s,o,p,h4,h5⟩
       . rintro ⟨s,o,p,h4,h5⟩
         obtain ⟨kv',h1,h2⟩:=yH (SD.all s p);obtain ⟨i',h3⟩:=List.getElem?_of_mem h1;exact ⟨i',kv',s,o,(Zqz h3),h3,h2,h4,h5⟩
end
theorem UH (P:Nat->Prop) {o:Nat} (h1:1<=o) (h3:o<=3):Builtin.bitOr (JM.iJ P:Int) ((2 ^ (o - 1):Nat):Int)=(JM.iJ (fun x=>P x\/x=o):Int):=by
 have:o=1\/o=2\/o=3:=by omega
 unfold JM.iJ;by_cases p1:P 1<;>by_cases p2:P 2<;>by_cases p3:P 3<;>rcases this with r | r | r<;>subst r<;>simp [p1,p2,p3]<;>decide
theorem yI {P P':Nat->Prop} (h:∀ o,1<=o->o<=3->(P o ↔ P' o)):JM.iJ P=JM.iJ P':=by
 have h1:=h 1 (by decide) (by decide);have h2:=h 2 (by decide) (by decide);have h3:=h 3 (by decide) (by decide);have e1:=propext h1;have e2:=propext h2;have e3:=propext h3;unfold JM.iJ;rw [e1,e2,e3]
theorem Ov {P:Nat->Prop} (h:∀ o,¬ P o):JM.iJ P=0:=by
 unfold JM.iJ;simp [h]
section
noncomputable def BH (S:List Int) (bs:List (Nat×Nat)):List Int:=(List.range bs.length).map fun k=>(JM.iJ (JM.Found S bs k):Int)
def RC (K:Zqq):Sp:=fun vs H Q _=>∃ (ls lb:Addr) (n:Nat) (S:List Int) (us:List V) (bs:List (Nat×Nat)),vs=[.ref ls,.ref lb]/\H ls=some (.lst (vI S))/\S.length=n/\n<=1000/\pA K H lb us bs/\bs.length<=12 /\
 (∀ q ∈ bs,q.1 < q.2/\q.2 < n)/\∀ H' l,aS H H'->H l=none->H' l=some (.lst (vI (BH S bs)))->Q (.ref l) H'
theorem jt:aQ ["sums","bonds","levels","k","found","ending_well","ahead","state","order"] ["sums","bonds"] (aF lK):=lR (by decide +kernel)
theorem Ow (T:Txt K mg t):bF P w K mg base m5 3 t.dJ t.j6 ["sums","bonds"] (RC K):=by
 have GS:=@R9 P w K mg base t T;have GL:=@PD P w K mg base t T;have GB:=@U8 P w K mg base t T;refine T.gW.ok jt (fun vs H Q E h=>?_) (fun cdv A outer s H vs Q E hr h=>?_)
 . obtain ⟨ls,lb,n,S,us,bs,rfl,_⟩:=h
   rfl
 . obtain ⟨ls,lb,n,S,us,bs,rfl,hls,hS,hn,B,hm,hbs,k⟩:=h
   have hu:=hr.un;have hu':(A.deeper (envOfC "redrawn_orders" (aF lK) s.heap.objs.size t.dJ cdv)).units+1 < cLine:=by omega
   have hr1:dG 1 _:=hr.mono (by decide);refine ⟨_,ak (aR (i:=2) jt.nd rfl (Or.inl rfl) (jM (af (T7 hu' (yN uc (by rfl) T.DZ PyProof.Rows.boot_tuple (af (pv 0) au)) qX) au)))
     (ak (fj PassesOwn.never rfl (mS rfl T.p9 (af (c6 bz (by rfl) T.kM PySem.boot_len (af (pv 1) au)) au)) (bw (i:=3) jt.nd rfl (Or.inl rfl))
       (az (dX (u5 PySem.F.plainAttrs_list PySem.F.slot_list_append PySem.F.type_list_append jw (pv 2) (af (bx GS hr rfl T.wC T.iR.kp T.wz .nil bD (af (bT b6 (pv 2) (pv 3) (fun _ _=>rfl)) (af (pv 1) (af (pv 3) au)))) au)))))
     (ak (aR (i:=4) jt.nd rfl (Or.inl rfl) (gJ SV (jM (af aN au)) (c6 bz (by rfl) T.kM PySem.boot_len (af (pv 1) au))))
     (ak (aR (i:=5) jt.nd rfl (Or.inl rfl) (bT b6 (pv 2) (c6 bz (by rfl) T.kM PySem.boot_len (af (pv 1) au)) (fun _ _=>rfl)))
     (ak (fj PassesOwn.never rfl (Qx rfl T.p9 (af (gJ xm (c6 bz (by rfl) T.kM PySem.boot_len (af (pv 1) au)) aN) (af (OI IY aN) (af (OI IY aN) au)))) (bw (i:=3) jt.nd rfl (Or.inl rfl))
       (ak (aR (i:=6) jt.nd rfl (Or.inl rfl) Ax)
       (ak (Pc (fj PassesOwn.never rfl (Pd (bT b6 (pv 2) (pv 3) (fun _ _=>rfl))) (bw (i:=7) jt.nd rfl (Or.inl rfl))
         (az (fj PassesOwn.never rfl (N7 (aU rfl T.ER (v:=.ref t.k7) rfl)) (bw (i:=8) jt.nd rfl (Or.inl rfl))
           (az (kL (IV (Te hu' (bx GL hr1 rfl T.vE T.jX.kp T.vA .nil bD (af (pv 7) (af (bT b6 (pv 1) (pv 3) (fun _ _=>rfl)) (af (pv 8) au)))) (pv 5)))
             (ak (YJ (gJ XZ (bT b6 (pv 4) (pv 3) (fun _ _=>rfl)) (bx GB hr1 rfl T.xV T.l9.kp T.xO .nil bD (af (pv 8) au))) (YH (pv 4) (pv 3) set_list))
             (az (Aw hu' (pv 6) (pv 7) qX rfl))) dW))))))
       (az (aR (i:=5) jt.nd rfl (Or.inl rfl) (pv 6))))))
     (az (aZ (pv 4))))))),?_⟩
   intro d0 hd0;have sa:aS H (upd H d0 (.dT [])):=aK hd0;refine ⟨_,rfl,ls,_,rfl,.inl ⟨bI.of (sa _ _ hls),fun pt hpt=>?_⟩⟩;have sb:aS H (upd (upd H d0 (.dT [])) pt (.tup (vI S))):=sa.trans (aK hpt);have ac8:d0 ≠ pt:=fun z=>by rw [<- z,ai] at hpt;cases hpt
   refine ⟨by rw [aq ac8];exact ai,kI S,pt,_,rfl,by rw [ai,DM],?_⟩;have sc:aS H (upd (upd (upd H d0 (.dT [])) pt (.tup (vI S))) d0 (.dT [(kI S,V.bl true)])):=fun b u e=>by rw [aq (ay e hd0)];exact sb b u e
   refine ⟨by show 1<=sizeLine;decide,fun ll hll=>?_⟩;have sd:aS H (upd (upd (upd (upd H d0 (.dT [])) pt (.tup (vI S))) d0 (.dT [(kI S,V.bl true)])) ll (.lst [.ref d0])):=sc.trans (aK hll);have ac9:H ll=none:=sc.free hll;have Lv:∀ {H1 H2:Hp} {ds:List Addr},(∀ (j:Nat) d,ds[j]?=some d->∃ kvs,H1 d=some (.dT kvs)/\DN kvs (JM.Kz S bs j)/\kvs.length<=3 ^ j)->(∀ b kvs,H1 b=some (.dT kvs)->H2 b=some (.dT kvs))->∀ (j:Nat) d,ds[j]?=some d->∃ kvs,H2 d=some (.dT kvs)/\DN kvs (JM.Kz S bs j)/\kvs.length<=3 ^ j:=
     fun L f j d hd=>let ⟨kvs,a,b⟩:=L j d hd;⟨kvs,f _ _ a,b⟩
   have abr:us.length=bs.length:=B.2.1;refine ⟨_,rfl,lb,us,rfl,.inl (bI.of (sd _ _ B.1)),(us.length:Int),rfl,by omega,by omega,?_⟩;rw [Int.toNat_natCast];let xf:L2.Iv:=fun i σ H'=>∃ vk,∃ ds:List Addr,σ=[some (.ref ls),some (.ref lb),some (.ref ll),vk,none,none,none,none,none]/\aS H H'/\H' ll=some (.lst (ds.map V.ref))/\ds.length=i+1 /\
     ∀ (j:Nat) d,ds[j]?=some d->∃ kvs,H' d=some (.dT kvs)/\DN kvs (JM.Kz S bs j)/\kvs.length<=3 ^ j
   refine qS (n:=us.length) xf ⟨none,[d0],rfl,sd,ai,rfl,fun j d hd=>?_⟩ ?_ ?_
   . cases j with
     | succ j=>simp at hd
     | zero=>
       obtain rfl:d0=d:=by simpa using hd
       have dl:d0 ≠ ll:=fun z=>by rw [<- z,ai] at hll;cases hll
       refine ⟨[(kI S,V.bl true)],by rw [aq dl];exact ai,⟨fun kv hk=>⟨S,by rw [List.mem_singleton.mp hk],rfl⟩,fun s hs=>?_⟩,Nat.le_refl _⟩;rw [show s=S from hs,jy rfl];rfl
   . rintro i σ H' hi ⟨vk,ds,rfl,sm,hl',hds,L⟩
     obtain ⟨di,hdi⟩:∃ d,ds[i]?=some d:=⟨_,List.getElem?_eq_getElem (by omega)⟩;obtain ⟨kvs,hk,SD,hkl⟩:=L i di hdi;have hi':i < bs.length:=by omega
     obtain ⟨q,hq⟩:∃ q,bs[i]?=some q:=⟨_,List.getElem?_eq_getElem hi'⟩;have Yo:=hbs q (List.mem_of_getElem? hq);have p3:3 ^ i<=3 ^ 11:=Nat.pow_le_pow_right (by decide) (by omega);have e1:(ds.map V.ref)[i]?=some (V.ref di):=by rw [List.getElem?_map,hdi];rfl
     rw [Int.zero_add];have p11:(3:Nat) ^ 11=177147:=by decide
     have pk:3 * kvs.length<=10000000:=by omega
     refine ⟨_,rfl,.inl ⟨rfl,_,bI.of hl'⟩,_,rfl,_,rfl,tG (bI.of hl') (bh e1) ⟨_,rfl,_,rfl,?_⟩⟩;refine ⟨di,lb,i,n,kvs,JM.Kz S bs i,us,bs,q,rfl,hk,SD,fun s hs=>hs.len.trans hS,B.same sm,hq,by omega,hn,Yo.1,Yo.2,pk,fun H2 d' kvs' s2 nd' hd' SD' hl2=>?_⟩;have hl2':=s2 _ _ hl';refine ⟨ll,_,_,rfl,rfl,hl2',by rw [sizeLine_eq,List.length_map];omega,?_⟩;have dl:∀ b kvs,H2 b=some (.dT kvs)->b ≠ ll:=fun b kvs e z=>by rw [z,hl2'] at e;cases e
     refine ⟨_,ds++[d'],rfl,fun b u e=>by rw [aq (ay e ac9)];exact s2 _ _ (sm b u e),by rw [ai];simp,by simp [hds],fun j d hd=>?_⟩;rcases Nat.lt_or_ge j ds.length with hj | hj
     . rw [List.getElem?_append_left hj] at hd
       obtain ⟨kv2,a,b,c⟩:=L j d hd;exact ⟨kv2,by rw [aq (dl _ _ (s2 _ _ a))];exact s2 _ _ a,b,c⟩
     . have ej:j=ds.length:=by
         have:=(Zqz hd);simp at this;omega
       subst ej;rw [List.getElem?_append_right (Nat.le_refl _),Nat.sub_self] at hd;obtain rfl:d'=d:=by simpa using hd
       refine ⟨kvs',by rw [aq (dl _ _ hd')];exact hd',?_,?_⟩
       . rw [hds]
         refine SD'.eq fun s'=>?_;constructor
         . rintro ⟨s,o,h1,h2,h3,h4,h5⟩
           exact ⟨s,q,o,h1,hq,h2,h3,h4,h5⟩
         . rintro ⟨s,q',o,h1,h6,h2,h3,h4,h5⟩
           rw [hq] at h6;cases h6;exact ⟨s,o,h1,h2,h3,h4,h5⟩
       . rw [hds,Nat.pow_succ]
         omega
   . rintro σ H1 ⟨vk,ds,rfl,sm,hl1,hds,L⟩
     refine ⟨by show 1<=sizeLine;decide,fun p0 hp0=>?_⟩;have s1:aS H1 (upd H1 p0 (.lst [V.int 0])):=aK hp0;refine ⟨_,rfl,lb,us,rfl,.inl (bI.of (s1 _ _ (sm _ _ B.1))),p0,_,_,rfl,rfl,ai,by omega,by omega,by rw [sizeLine_eq];simp;omega,fun lf hlf=>?_⟩;rw [Int.toNat_natCast,zeros];have s2:aS H1 (upd (upd H1 p0 (.lst [V.int 0])) lf (.lst (vI (sO us.length [])))):=s1.trans (aK hlf);have abt:H1 lf=none:=s1.free hlf;have Xb:H lf=none:=sm.free abt;obtain ⟨dm,hdm⟩:∃ d,ds[us.length]?=some d:=⟨_,List.getElem?_eq_getElem (by omega)⟩;have em:(ds.map V.ref)[us.length]?=some (V.ref dm):=by rw [List.getElem?_map,hdm];rfl
     refine ⟨_,rfl,_,rfl,lb,us,rfl,.inl (bI.of (s2 _ _ (sm _ _ B.1))),tG (bI.of (s2 _ _ hl1)) (bh em) ?_⟩;obtain ⟨kvm,hkm,SDm,_⟩:=L us.length dm hdm;refine ⟨_,rfl,lb,us,rfl,.inl (bI.of (s2 _ _ (sm _ _ B.1))),_,_,rfl,rfl,_,rfl,_,rfl,_,_,_,_,rfl,RgC.neg (by omega) (by omega) (by omega) (by omega),?_⟩;rw [show ((us.length:Int) - 1 - -1).toNat=us.length by omega];let fl:Nat->Nat->Int:=fun i k=>if us.length - i<=k then (JM.iJ (JM.Found S bs k):Int) else 0;let UG:L2.Iv:=fun i σ H'=>∃ vk v6 v7 v8 ew Ys,σ=[some (.ref ls),some (.ref lb),some (.ref ll),vk,some (.ref lf),some (.ref ew),v6,v7,v8]/\aS H H'/\H' ll=some (.lst (ds.map V.ref)) /\
       (∀ (j:Nat) d,ds[j]?=some d->∃ kvs,H' d=some (.dT kvs)/\DN kvs (JM.Kz S bs j)/\kvs.length<=3 ^ j)/\H' lf=some (.lst (vI ((List.range us.length).map (fl i))))/\H' ew=some (.dT Ys)/\DN Ys (JM.Ot S bs i)
     refine NN (n:=us.length) UG
       ⟨_,none,none,none,dm,kvm,rfl,sm.trans s2,s2 _ _ hl1,Lv L (fun b kvs e=>s2 _ _ e),?_,s2 _ _ hkm,?_⟩ ?_ ?_
     . rw [ai]
       congr 3;refine List.map_congr_left fun u hu=>?_;have:u < us.length:=List.mem_range.mp hu;show (JM.nR [] u:Int)=if us.length - 0<=u then _ else _;rw [if_neg (by omega)];rfl
     . show DN kvm (JM.Kz S bs bs.length)
       rw [<- abr];exact SDm
     . rintro i σ H' hi ⟨vk,v6,v7,v8,ew,Ys,rfl,sm',hl',L',hf',he',SE⟩
       rw [show (us.length:Int) - 1+(i:Nat) * -1=((us.length - 1 - i:Nat):Int) by omega];have hk:us.length - 1 - i < us.length:=by omega
       have hkb:us.length - 1 - i < bs.length:=by omega
       obtain ⟨d,hd⟩:∃ d,ds[us.length - 1 - i]?=some d:=⟨_,List.getElem?_eq_getElem (by omega)⟩;have ed:(ds.map V.ref)[us.length - 1 - i]?=some (V.ref d):=by rw [List.getElem?_map,hd];rfl
       obtain ⟨kvs,hkv,SD,hkl⟩:=L' _ d hd;have p3:3 ^ (us.length - 1 - i)<=3 ^ 12:=Nat.pow_le_pow_right (by decide) (by omega);have p12:(3:Nat) ^ 12=531441:=by decide
       obtain ⟨q,hq⟩:∃ q,bs[us.length - 1 - i]?=some q:=⟨_,List.getElem?_eq_getElem hkb⟩;have Yo:=hbs q (List.mem_of_getElem? hq);obtain ⟨bv,hbv⟩:∃ v,us[us.length - 1 - i]?=some v:=⟨_,List.getElem?_eq_getElem hk⟩;have ek:bs.length - (i+1)=us.length - 1 - i:=by omega
       have ek2:bs.length - (us.length - 1 - i+1)=i:=by omega
       intro ah ZR;have sh:aS H' (upd H' ah (.dT [])):=aK ZR;have Xc:∀ {b u},H' b=some u->(∀ kvs,u ≠ .dT kvs)->b ≠ d:=fun {b u} e n z=>by rw [z,hkv] at e;cases e;exact n _ rfl
       have ahd:ah ≠ d:=fun z=>by rw [z,hkv] at ZR;cases ZR
       have ahf:ah ≠ lf:=fun z=>by rw [z,hf'] at ZR;cases ZR
       have lfd:lf ≠ d:=Xc hf' (fun _ z=>by cases z);have lld:ll ≠ d:=Xc hl' (fun _ z=>by cases z);have llf:ll ≠ lf:=fun z=>by rw [z,abt] at hl1;cases hl1
       have lbf:lb ≠ lf:=ay B.1 Xb;have lbd:lb ≠ d:=Xc (sm' _ _ B.1) (fun _ z=>by cases z);have ewf:ew ≠ lf:=fun z=>by rw [z,hf'] at he';cases he'
       refine ⟨d,_,sh _ _ hkv,True.intro,fun od=>?_⟩;refine ⟨_,rfl,_,rfl,tG (bI.of (by rw [aq lld];exact sh _ _ hl')) (bh ed) ⟨d,od,rfl,.inr ⟨kvs,ai,?_⟩⟩⟩;let FA:Nat->Nat->Prop:=fun a o=>∃ a' kv s,a' < a/\kvs[a']?=some kv/\kv.1=kI s/\JM.Ot S bs i (JM.less s q o);let SA:Nat->List Int->Prop:=fun a s=>∃ a' kv,a' < a/\kvs[a']?=some kv/\kv.1=kI s/\∃ o,(1<=o/\o<=3)/\JM.Ot S bs i (JM.less s q o);let Iv3:L2.Iv:=fun a σ H3=>∃ v7 v8 Ny,σ=[some (.ref ls),some (.ref lb),some (.ref ll),some (.int ((us.length - 1 - i:Nat):Int)),some (.ref lf),some (.ref ew),some (.ref ah),v7,v8] /\
         (∀ b u,H' b=some u->b ≠ d->b ≠ lf->H3 b=some u)/\H3 d=some (.qh od (.dT kvs))/\H3 lf=some (.lst (vI (((List.range us.length).map (fl i)).set (us.length - 1 - i) (JM.iJ (FA a):Int))))/\H3 ah=some (.dT Ny)/\DN Ny (SA a)/\Ny.length<=3 * a
       refine Iu (d:=d) (o:=od) (kvs:=kvs) Iv3
         ⟨v7,v8,[],rfl,fun b u e n _=>by rw [aq n];exact sh _ _ e,ai,?_,by rw [aq ahd];exact ai,DN.nil.eq fun s=>⟨fun h=>h.elim,fun ⟨a',_,h,_⟩=>by omega⟩,Nat.zero_le _⟩ (fun a σ H3 ⟨_,_,_,_,_,h,_⟩=>h) ?_ ?_
       . rw [aq lfd,aq (Ne.symm ahf),hf',Ov (P:=FA 0) (fun o ⟨a',_,_,h,_⟩=>by omega),BG]
         congr 3;refine List.map_congr_left fun u hu=>?_;by_cases e:u=us.length - 1 - i
         . rw [if_pos e]
           show (if us.length - i<=u then _ else _)=_;rw [if_neg (by omega)];rfl
         . rw [if_neg e]
       . rintro a ky v b σ H3 UE ⟨v7,v8,Ny,rfl,kp,hd3,hf3,ha3,SA3,lA3⟩ hb
         have hal:a < kvs.length:=(Zqz UE);obtain ⟨si,esi,hsi⟩:=SD.of (ky,v) (List.mem_of_getElem? UE);simp only at esi;subst esi;rw [DM] at hb;have sl:si.length=n:=hsi.len.trans hS;have bah:b ≠ ah:=fun z=>by rw [z,ha3] at hb;cases hb
         have blf:b ≠ lf:=fun z=>by rw [z,hf3] at hb;cases hb
         have dah:d ≠ ah:=Ne.symm ahd;have dlf:d ≠ lf:=Ne.symm lfd;refine ⟨t.k7,rfl,⟨_,T.ye H3⟩,?_⟩;let FJ:Nat->Nat->Prop:=fun j o=>FA a o\/((1<=o/\o<=j)/\JM.Ot S bs i (JM.less si q o));let SJ:Nat->List Int->Prop:=fun j s=>SA a s\/(s=si/\∃ o,(1<=o/\o<=j)/\JM.Ot S bs i (JM.less si q o));let Iv4:L2.Iv:=fun j σ H4=>∃ v8 Ny,σ=[some (.ref ls),some (.ref lb),some (.ref ll),some (.int ((us.length - 1 - i:Nat):Int)),some (.ref lf),some (.ref ew),some (.ref ah),some (.ref b),v8] /\
           (∀ b u,H3 b=some u->b ≠ ah->b ≠ lf->H4 b=some u)/\H4 lf=some (.lst (vI (((List.range us.length).map (fl i)).set (us.length - 1 - i) (JM.iJ (FJ j):Int))))/\H4 ah=some (.dT Ny)/\DN Ny (SJ j)/\Ny.length<=3 * a+j
         refine IX (K:=K) (a:=t.k7) (xs:=[.int 1,.int 2,.int 3]) Iv4
           ⟨v8,Ny,rfl,fun b u e _ _=>e,?_,ha3,SA3.eq fun s=>⟨.inl,fun h=>by rcases h with h | ⟨_,o,h,_⟩;exact h;omega⟩,by omega⟩ (fun j σ H' _ _=>T.ye H') ?_ ?_
         . rw [hf3,yI (P:=FA a) (P':=FJ 0) fun o h1 _=>⟨.inl,fun h=>by rcases h with h | ⟨h,_⟩;exact h;omega⟩]
         . rintro j x σ H4 hx ⟨v8,Ny,rfl,kq,hf4,ha4,S4,l4⟩
           have hj:j < 3:=by simpa using (Zqz hx)
           obtain rfl:x=.int ((j+1:Nat):Int):=by
             have:j=0\/j=1\/j=2:=by omega
             rcases this with r | r | r<;>subst r<;>simp at hx<;>rw [<- hx]<;>rfl
           have k4:∀ b u,H' b=some u->b ≠ d->b ≠ lf->H4 b=some u:=fun b u e n1 n2=>kq _ _ (kp b u e n1 n2) (ay e ZR) n2;have B4:H4 lb=some (.lst us):=k4 _ _ (sm' _ _ B.1) lbd lbf;have en:=B.2.2 _ bv q hbv hq;have en4:sI K H4 bv q:=by
             obtain ⟨o,C,dx,fs,e0,e1,rest⟩:=en;exact ⟨o,C,dx,fs,e0,k4 _ _ (sm' _ _ e1) (Xc (sm' _ _ e1) (fun _ z=>by cases z)) (ay e1 Xb),rest⟩
           refine ⟨_,rfl,_,rfl,_,rfl,lb,us,_,_,rfl,rfl,bI.of B4,bh hbv,_,rfl,?_⟩;refine ⟨b,bv,j+1,n,si,q,rfl,kq _ _ hb bah blf,en4,Yo.1,by omega,by omega,fun H5 p s5 np hp=>?_⟩;have ZQ:=s5 _ _ hf4;have ha5:=s5 _ _ ha4;have Yr:∀ b u,H3 b=some u->b ≠ ah->b ≠ lf->H5 b=some u:=fun b u e n1 n2=>s5 _ _ (kq b u e n1 n2);have rdE:Rd H5 ew (.dT Ys):=by
             by_cases z:ew=d
             . have:Ys=kvs:=by rw [z,hkv] at he';cases he';rfl
               rw [z,this];exact .inr ⟨od,Yr _ _ hd3 dah dlf⟩
             . exact .inl (s5 _ _ (k4 _ _ he' z ewf))
           refine ⟨_,rfl,ew,_,rfl,.inr ⟨Ys,kI (JM.less si q (j+1)),p,rdE,rfl,by rw [DM];exact hp,rfl⟩,_,rfl,?_⟩;have abu:=SE.iff (JM.less si q (j+1));have orJ:∀ (W:Prop),(W ↔ JM.Ot S bs i (JM.less si q (j+1)))->∀ o,FJ (j+1) o ↔ (FJ j o\/(W/\o=j+1)):=fun W hW o=>by
             constructor
             . rintro (h | ⟨h,w⟩)
               . exact .inl (.inl h)
               . by_cases e:o=j+1
                 . subst e;exact .inr ⟨hW.mpr w,rfl⟩
                 . exact .inl (.inr ⟨⟨h.1,by omega⟩,w⟩)
             . rintro ((h | ⟨h,w⟩) | ⟨w,rfl⟩)
               . exact .inl h
               . exact .inr ⟨⟨h.1,by omega⟩,w⟩
               . exact .inr ⟨⟨by omega,by omega⟩,hW.mp w⟩
           have orS:∀ (W:Prop),(W ↔ JM.Ot S bs i (JM.less si q (j+1)))->∀ s,SJ (j+1) s ↔ (SJ j s\/(W/\s=si)):=fun W hW s=>by
             constructor
             . rintro (h | ⟨h,o,h2,w⟩)
               . exact .inl (.inl h)
               . by_cases e:o=j+1
                 . subst e;exact .inr ⟨hW.mpr w,h⟩
                 . exact .inl (.inr ⟨h,o,⟨h2.1,by omega⟩,w⟩)
             . rintro ((h | ⟨h,o,h2,w⟩) | ⟨w,rfl⟩)
               . exact .inl h
               . exact .inr ⟨h,o,⟨h2.1,by omega⟩,w⟩
               . exact .inr ⟨rfl,j+1,⟨by omega,by omega⟩,hW.mp w⟩
           cases hin:(kh Ys (kI (JM.less si q (j+1)))).isSome with
           | false=>
             have nW:¬ JM.Ot S bs i (JM.less si q (j+1)):=fun w=>by rw [abu.mpr w] at hin;cases hin
             have wF:False ↔ JM.Ot S bs i (JM.less si q (j+1)):=⟨False.elim,nW⟩;refine ⟨_,Ny,rfl,Yr,?_,ha5,S4.eq fun s=>?_,by omega⟩
             . rw [ZQ,yI (P:=FJ j) (P':=FJ (j+1)) fun o _ _=>by rw [orJ False wF o];simp]
             . rw [orS False wF s];simp
           | true=>
             have hW:=abu.mp hin;have wT:True ↔ JM.Ot S bs i (JM.less si q (j+1)):=⟨fun _=>hW,fun _=>trivial⟩;have gk:(vI (((List.range us.length).map (fl i)).set (us.length - 1 - i) (JM.iJ (FJ j):Int)))[us.length - 1 - i]?=some (.int (JM.iJ (FJ j):Int)):=sN (by rw [List.getElem?_set_self (by simp;exact hk)]);refine ⟨_,rfl,_,rfl,tG (bI.of ZQ) (bh gk) ⟨_,rfl,?_⟩⟩;refine ⟨j+1,rfl,by omega,by omega,_,_,rfl,rfl,?_⟩;refine ⟨_,rfl,_,rfl,lf,_,_,us.length - 1 - i,rfl,rfl,ZQ,BF (by simp [vI];omega),?_⟩;rw [FI,UH _ (by omega) (by omega),List.set_set];refine ⟨_,rfl,_,rfl,ah,_,rfl,E5.t (k:=kI si) (by rw [aq ahf];exact ha5) (by rw [aq blf,DM];exact Yr _ _ hb bah blf) (by rw [sizeLine_eq];omega),?_⟩;refine ⟨_,_,rfl,fun b u e n1 n2=>by rw [aq n1,aq n2];exact Yr b u e n1 n2,?_,ai,(S4.put _ _).eq fun s=>?_,?_⟩
             . rw [aq (Ne.symm ahf),ai,yI (P:=fun x=>FJ j x\/x=j+1) (P':=FJ (j+1)) fun o _ _=>by rw [orJ True wT o];simp]
             . rw [orS True wT s];simp
             . have:=jH Ny (kI si) (V.bl true)
               omega
         . rintro σ H4 ⟨v8,Ny,rfl,kq,hf4,ha4,S4,l4⟩
           have l3:([V.int 1,V.int 2,V.int 3]:List V).length=3:=rfl;rw [l3] at hf4 S4 l4;refine ⟨_,_,Ny,rfl,fun b' u e n1 n2=>kq _ _ (kp b' u e n1 n2) (ay e ZR) n2,kq _ _ hd3 dah dlf,?_,ha4,S4.eq fun s=>?_,by omega⟩
           . rw [hf4,yI (P:=FJ 3) (P':=FA (a+1)) fun o h1 h3=>?_]
             constructor
             . rintro (⟨a',kv,s,g1,g2,g3,g4⟩ | ⟨_,w⟩)
               . exact ⟨a',kv,s,by omega,g2,g3,g4⟩
               . exact ⟨a,_,si,by omega,UE,rfl,w⟩
             . rintro ⟨a',kv,s,g1,g2,g3,g4⟩
               by_cases e:a'=a
               . subst e
                 rw [UE] at g2;cases g2;have:=vR g3;subst this;exact .inr ⟨⟨h1,h3⟩,g4⟩
               . exact .inl ⟨a',kv,s,by omega,g2,g3,g4⟩
           . constructor
             . rintro (⟨a',kv,g1,g2,g3,g4⟩ | ⟨rfl,o,h,w⟩)
               . exact ⟨a',kv,by omega,g2,g3,g4⟩
               . exact ⟨a,_,by omega,UE,rfl,o,h,w⟩
             . rintro ⟨a',kv,g1,g2,g3,o,h,w⟩
               by_cases e:a'=a
               . subst e
                 rw [UE] at g2;cases g2;have:=vR g3;subst this;exact .inr ⟨rfl,o,h,w⟩
               . exact .inl ⟨a',kv,by omega,g2,g3,o,h,w⟩
       . rintro σ H3 ⟨v7,v8,Ny,rfl,kp,hd3,hf3,ha3,SA3,lA3⟩
         refine ⟨hd3,_,rfl,?_⟩;have keep:∀ b u,H' b=some u->b ≠ lf->upd H3 d (.dT kvs) b=some u:=fun b u e n=>by
           by_cases z:b=d
           . subst z
             rw [hkv] at e;cases e;exact ai
           . rw [aq z]
             exact kp b u e z n
         refine ⟨_,_,_,_,ah,Ny,rfl,fun b u e=>keep b u (sm' b u e) (ay e Xb),keep _ _ hl' llf,Lv L' (fun b kvs e=>keep _ _ e (fun z=>by rw [z,hf'] at e;cases e)),?_,by rw [aq ahd];exact ha3,SA3.eq fun s=>?_⟩
         . rw [aq lfd,hf3,BG]
           congr 3;refine List.map_congr_left fun u hu=>?_;show _=if us.length - (i+1)<=u then _ else _;by_cases e:u=us.length - 1 - i
           . rw [if_pos e,if_pos (by omega),e]
             congr 1;refine yI fun o _ _=>?_;constructor
             . rintro ⟨a',kv,s,_,h1,h2,h3⟩
               obtain ⟨s',e1,p⟩:=SD.of kv (List.mem_of_getElem? h1);have:=vR (h2.symm.trans e1);subst this;exact ⟨s,q,p,hq,by rw [ek2];exact h3⟩
             . rintro ⟨s,q',p,h1,h2⟩
               rw [hq] at h1;cases h1;rw [ek2] at h2;obtain ⟨kv,g1,g2⟩:=yH (SD.all s p);obtain ⟨a',g3⟩:=List.getElem?_of_mem g1;exact ⟨a',kv,s,(Zqz g3),g3,g2,h2⟩
           . rw [if_neg e]
             show (if us.length - i<=u then _ else _)=_;by_cases e2:us.length - i<=u
             . rw [if_pos e2,if_pos (by omega)]
             . rw [if_neg e2,if_neg (by omega)]
         . constructor
           . rintro ⟨a',kv,_,h1,h2,o,h3,h4⟩
             obtain ⟨s',e1,p⟩:=SD.of kv (List.mem_of_getElem? h1);have:=vR (h2.symm.trans e1);subst this;exact ⟨by rw [ek];exact p,q,o,by rw [ek];exact hq,h3,h4⟩
           . rintro ⟨p,q',o,h1,h3,h4⟩
             rw [ek] at p h1;rw [hq] at h1;cases h1;obtain ⟨kv,g1,g2⟩:=yH (SD.all s p);obtain ⟨a',g3⟩:=List.getElem?_of_mem g1;exact ⟨a',kv,(Zqz g3),g3,g2,o,h3,h4⟩
     . rintro σ H' ⟨vk,v6,v7,v8,ew,Ys,rfl,sm',hl',L',hf',he',SE⟩
       refine ⟨_,rfl,k H' lf sm' Xb ?_⟩;rw [hf'];congr 3;unfold BH;rw [abr];refine List.map_congr_left fun u hu=>?_;show (if us.length - bs.length<=u then _ else _)=_;rw [if_pos (by omega)]
end
def jE (v w:Nat) (q:Nat×Nat):Bool:=(q.1==v&&q.2==w)||(q.1==w&&q.2==v)
def RD (kvs:List (List Key×V)) (l:List (Nat×Nat)):Prop:=∀ v w:Nat,kh kvs (kI [(v:Int),(w:Int)])=(l.findIdx? (jE v w)).map fun k=>V.int (k:Int)
theorem UI {a b c d:Nat} (h:kI [(a:Int),(b:Int)]=kI [(c:Int),(d:Int)]):a=c/\b=d:=by
 have:=vR h;simp at this;omega
theorem RD.snoc {kvs:List (List Key×V)} {l:List (Nat×Nat)} {q:Nat×Nat} (d:RD kvs l) (hn:∀ p ∈ l,p ≠ q) (hl:∀ p ∈ l,p.1 < p.2) (hq:q.1 < q.2) :
   RD (putK (putK kvs (kI [(q.1:Int),(q.2:Int)]) (V.int (l.length:Int))) (kI [(q.2:Int),(q.1:Int)]) (V.int (l.length:Int))) (l++[q]):=by
 intro v w;rw [Au,Au,List.findIdx?_append];have old:jE v w q=true->l.findIdx? (jE v w)=none:=fun h=>by
   rw [List.findIdx?_eq_none_iff];intro p hp;have h1:=hl p hp;have h2:=hn p hp;unfold jE at h ⊢;simp only [Bool.or_eq_true,Bool.and_eq_true,beq_iff_eq] at h;rw [Bool.eq_false_iff];intro hc;simp only [Bool.or_eq_true,Bool.and_eq_true,beq_iff_eq] at hc;refine h2 (Prod.ext ?_ ?_)<;>omega
 by_cases h1:kI [(v:Int),(w:Int)]=kI [(q.2:Int),(q.1:Int)]
 . obtain ⟨rfl,rfl⟩:=UI h1
   have hj:jE q.2 q.1 q=true:=by simp [jE]
   rw [if_pos rfl,old hj];simp [List.findIdx?_cons,hj]
 . rw [if_neg h1]
   by_cases h2:kI [(v:Int),(w:Int)]=kI [(q.1:Int),(q.2:Int)]
   . obtain ⟨rfl,rfl⟩:=UI h2
     have hj:jE q.1 q.2 q=true:=by simp [jE]
     rw [if_pos rfl,old hj];simp [List.findIdx?_cons,hj]
   . rw [if_neg h2,d v w]
     have hj:jE v w q=false:=by
       rw [Bool.eq_false_iff];intro h;unfold jE at h;simp only [Bool.or_eq_true,Bool.and_eq_true,beq_iff_eq] at h;rcases h with ⟨rfl,rfl⟩ | ⟨rfl,rfl⟩
       . exact h2 rfl
       . exact h1 rfl
     cases l.findIdx? (jE v w)<;>simp [List.findIdx?_cons,hj]
section
def Xd (K:Zqq):Sp:=fun vs H Q _=>∃ (lb:Addr) (us:List V) (l:List (Nat×Nat)) (n:Nat),vs=[.ref lb]/\pA K H lb us l/\l.length<=1000/\JM.nv n l /\
 ∀ H' d kvs,aS H H'->H d=none->H' d=some (.dT kvs)->RD kvs l->Q (.ref d) H'
theorem BI:aQ ["bonds","numbers","k","bond"] ["bonds"] (aF nE):=lR (by decide +kernel)
theorem UJ (T:Txt K mg t):bF P w K mg base m5 1 t.fS t.kZ ["bonds"] (Xd K):=by
 refine T.jA.ok BI (fun vs H Q E h=>?_) (fun cdv A outer s H vs Q E hr h=>?_)
 . obtain ⟨lb,us,l,n,rfl,_⟩:=h
   rfl
 . obtain ⟨lb,us,l,n,rfl,B,hl,UK,k⟩:=h
   have hu:=hr.un;have hu':(A.deeper (envOfC "pair_numbers" (aF nE) s.heap.objs.size t.fS cdv)).units+1 < cLine:=by omega
   refine ⟨_,ak (aR (i:=1) BI.nd rfl (Or.inl rfl) Ax)
     (ak (fj PassesOwn.never rfl (tD rfl T.jq (af (pv 0) au)) (xj rfl (gq (bw (i:=2) BI.nd rfl (Or.inl rfl)) (gq (bw (i:=3) BI.nd rfl (Or.inl rfl)) t6)))
       (ak (Aw hu' (pv 1) (mD (af (aA (pv 3) rfl) (af (aA (pv 3) rfl) au))) (pv 2) rfl)
       (az (Aw hu' (pv 1) (mD (af (aA (pv 3) rfl) (af (aA (pv 3) rfl) au))) (pv 2) rfl))))
     (az (aZ (pv 1)))),?_⟩
   intro d hd;have s1:aS H (upd H d (.dT [])):=aK hd;refine ⟨_,rfl,lb,us,rfl,bI.of (s1 _ _ B.1),?_⟩;let xf:L2.Iv:=fun i σ H'=>∃ v2 v3 kvs,σ=[some (.ref lb),some (.ref d),v2,v3]/\aS H H'/\H' d=some (.dT kvs)/\RD kvs (l.take i)/\kvs.length<=2 * i;refine pX (K:=K) (a:=lb) (xs:=us) xf ⟨none,none,[],rfl,s1,ai,fun v w=>rfl,Nat.zero_le _⟩ (fun i σ H' _ ⟨_,_,_,_,sm,_⟩=>bI.of (sm _ _ B.1)) ?_ ?_
   . rintro i x σ H' Tt hx ⟨v2,v3,kvs,rfl,sm,hd',N,hlen⟩ hT
     have hi:i < us.length:=(Zqz hx);have hil:i < l.length:=by rw [<- B.2.1];exact hi
     obtain ⟨q,hq⟩:∃ q,l[i]?=some q:=⟨_,List.getElem?_eq_getElem hil⟩;obtain ⟨o,C,dx,fs,rfl,e1,cl,na,nb,ea,eb⟩:=B.2.2 i x q hx hq;have sT:aS H (upd H' Tt (.tup [.int (i:Int),.ref o])):=sm.trans (aK hT);have dT':d ≠ Tt:=fun z=>by rw [<- z,hd'] at hT;cases hT
     refine ⟨Tt,_,rfl,oj.of ai,rfl,_,_,rfl,_,_,rfl,rfl,?_⟩;refine ⟨_,rfl,_,rfl,_,rfl,o,C,dx,fs,_,rfl,sT _ _ e1,cl,na,ea,_,rfl,o,C,dx,fs,_,rfl,sT _ _ e1,cl,nb,eb,(by show 2<=sizeLine;decide),fun p1 hp1=>?_⟩;have hd1:upd (upd H' Tt (.tup [.int (i:Int),.ref o])) p1 (.tup [.int (q.1:Int),.int (q.2:Int)]) d=some (.dT kvs):=by
       have:upd H' Tt (.tup [.int (i:Int),.ref o]) d=some (.dT kvs):=by rw [aq dT'];exact hd'
       rw [aq (ay this hp1)];exact this
     have sp1:aS H (upd (upd H' Tt (.tup [.int (i:Int),.ref o])) p1 (.tup [.int (q.1:Int),.int (q.2:Int)])):=sT.trans (aK hp1);refine ⟨d,_,rfl,E5.t (k:=kI [(q.1:Int),(q.2:Int)]) hd1 (by rw [DM];exact ai) (by rw [sizeLine_eq];omega),?_⟩;have sp2:aS H (upd (upd (upd H' Tt (.tup [.int (i:Int),.ref o])) p1 (.tup [.int (q.1:Int),.int (q.2:Int)])) d (.dT (putK kvs (kI [(q.1:Int),(q.2:Int)]) (.int (i:Int))))):=fun b u e=>by rw [aq (ay e hd)];exact sp1 b u e
     refine ⟨_,rfl,_,rfl,_,rfl,o,C,dx,fs,_,rfl,sp2 _ _ e1,cl,nb,eb,_,rfl,o,C,dx,fs,_,rfl,sp2 _ _ e1,cl,na,ea,(by show 2<=sizeLine;decide),fun p2 hp2=>?_⟩;have l1:=jH kvs (kI [(q.1:Int),(q.2:Int)]) (V.int (i:Int));have d2:d ≠ p2:=fun z=>by rw [<- z,ai] at hp2;cases hp2
     refine ⟨d,_,rfl,E5.t (k:=kI [(q.2:Int),(q.1:Int)]) (by rw [aq d2];exact ai) (by rw [DM];exact ai) (by rw [sizeLine_eq];omega),?_⟩;have l2:=jH (putK kvs (kI [(q.1:Int),(q.2:Int)]) (V.int (i:Int))) (kI [(q.2:Int),(q.1:Int)]) (V.int (i:Int));refine ⟨_,_,_,rfl,fun b u e=>by rw [aq (ay e hd)];exact (sp2.trans (aK hp2)) b u e,ai,?_,by omega⟩;rw [take_snoc hq];have tl:(l.take i).length=i:=by rw [List.length_take];omega
     have:=N.snoc (q:=q) (fun p hp e=>?_) (fun p hp=>(UK.1 p (List.mem_of_mem_take hp)).1) (UK.1 q (List.mem_of_getElem? hq)).1
     . rw [tl] at this
       exact this
     . obtain ⟨j,hj⟩:=List.getElem?_of_mem hp
       have hji:j < i:=by
         have:=(Zqz hj);rw [tl] at this;exact this
       rw [List.getElem?_take_of_lt hji] at hj;have pw:=List.pairwise_iff_getElem.mp UK.2 j i (by omega) hil hji;rw [List.getElem?_eq_getElem (by omega)] at hj hq;have e1:=Option.some.inj hj;have e2:=Option.some.inj hq;rw [e1,e2,e] at pw;omega
   . rintro σ H' ⟨v2,v3,kvs,rfl,sm,hd',N,hlen⟩
     rw [B.2.1,List.take_length] at N;exact ⟨_,rfl,k H' d kvs sm hd hd' N⟩
end
open JM (aB aE gS d9)
def mfs (la lb lr ls lo ln:Addr):List (Str×V):=[("atoms",.ref la),("bonds",.ref lb),("neighbours",.ref lr),("sums",.ref ls),("orders",.ref lo),("bond_numbers",.ref ln)]
structure kN where
 la:Addr
 lb:Addr
 lr:Addr
 ls:Addr
 lo:Addr
 ln:Addr
 as:List V
 us:List V
 rs:List Addr
 kvs:List (List Key×V)
structure ng (t:Ad) (D:Addr->Prop) (H:Hp) (g:Addr) (z:kN) (y:aB):Prop where
 obj:∃ dx,H g=some (.ins t.aT dx (mfs z.la z.lb z.lr z.ls z.lo z.ln))
 atoms:H z.la=some (.lst z.as)
 bonds:H z.lb=some (.lst z.us)
 rows:iP H z.lr z.rs z.as.length (JM.bG (y.2.map JM.aV))
 sums:H z.ls=some (.lst (vI (gS (aE y))))
 orders:H z.lo=some (.lst (vI (BH (gS (aE y)) (d9 (aE y)))))
 nums:H z.ln=some (.dT z.kvs)
 num:RD z.kvs (y.2.map JM.aV)
 ra:cQ (pY t.eB) D H z.as y.1
 rb:cQ (nS t.eE) D H z.us y.2
theorem uP (y:aB):d9 (aE y)=y.2.map JM.aV:=by
 unfold d9 aE JM.aV JM.yF;simp
theorem yJ (y:aB):(aE y).n=y.1.length:=by simp [aE,Mol.n]
theorem UL (y:aB):ways y.2=(d9 (aE y)).zip (aE y).orders:=by
 rw [uP];unfold ways Mol.orders aE;simp only [List.map_map];rw [List.zip_map'];rfl
theorem UM (y:aB) {n:Nat} (hn:y.1.length=n):sO n (ways y.2)=gS (aE y):=by
 unfold sO gS Mol.sums;rw [yJ,hn,List.map_map];refine List.map_congr_left fun v _=>?_;show _=(((aE y).sum v:Nat):Int);rw [JM.MD,UL]
section
theorem iP.same' {H H':Hp} {lr:Addr} {rs:List Addr} {n:Nat} {row:Nat->List Nat} (R:iP H lr rs n row) (f:aS H H'):iP H' lr rs n row:=R.stay fun b o e _=>f b o e
theorem ng.same {D:Addr->Prop} {H H':Hp} {g:Addr} {z:kN} {y:aB} (M:ng t D H g z y) (f:aS H H'):ng t D H' g z y:=
 ⟨let ⟨dx,e⟩:=M.obj;⟨dx,f _ _ e⟩,f _ _ M.atoms,f _ _ M.bonds,M.rows.same' f,f _ _ M.sums,f _ _ M.orders,f _ _ M.nums,M.num,M.ra.stay (pY.ok _) fun b o _ e=>f b o e,M.rb.stay (nS.ok _) fun b o _ e=>f b o e⟩
theorem MF (T:Txt K mg t) {D:Addr->Prop} {H:Hp} {lb:Addr} {us:List V} {ys:List (Bond×Nat)} (hb:H lb=some (.lst us)) (R:cQ (nS t.eE) D H us ys):pA K H lb us (ys.map JM.aV):=
 ⟨hb,by rw [List.length_map];exact R.len,fun i v q h1 h2=>by
  rw [List.getElem?_map] at h2
  cases hz:ys[i]? with
  | none=>rw [hz] at h2;cases h2
  | some z=>
   rw [hz] at h2
   cases h2
   obtain ⟨o,dx,rfl,_,e⟩:=R.at_ i v z h1 hz
   exact ⟨o,_,dx,_,rfl,e,T.gH,T.kC,T.kD,rfl,rfl⟩⟩
theorem cQ.neB {C C':Addr} {D:Addr->Prop} {H:Hp} {us:List V} {ys:List (Bond×Nat)} {o dx:Addr} (R:cQ (nS C) D H us ys) (h:H o=some (.ins C' dx [])):cQ (nS C) (fun b=>D b/\b ≠ o) H us ys:=
 ⟨R.len,fun i v z h1 h2=>by
  obtain ⟨b,d,e,hd,hb⟩:=R.at_ i v z h1 h2
  exact ⟨b,d,e,⟨hd,fun q=>by rw [q,h] at hb;cases hb⟩,hb⟩⟩
theorem cQ.neA {C C':Addr} {D:Addr->Prop} {H:Hp} {us:List V} {ys:List (Atom×Nat)} {o dx:Addr} (R:cQ (pY C) D H us ys) (h:H o=some (.ins C' dx [])):cQ (pY C) (fun b=>D b/\b ≠ o) H us ys:=
 ⟨R.len,fun i v z h1 h2=>by
  obtain ⟨b,d,e,hd,hb⟩:=R.at_ i v z h1 h2
  exact ⟨b,d,e,⟨hd,fun q=>by rw [q,h] at hb;cases hb⟩,hb⟩⟩
def RE (t:Ad):Sp:=fun vs H Q _=>∃ (o dx la lb:Addr) (as us:List V) (y:aB) (D:Addr->Prop),vs=[.ref o,.ref la,.ref lb]/\H o=some (.ins t.aT dx [])/\H la=some (.lst as)/\H lb=some (.lst us) /\
 cQ (pY t.eB) D H as y.1/\cQ (nS t.eE) D H us y.2/\as.length<=1000/\y.2.length<=12/\JM.nv as.length (y.2.map JM.aV) /\
 ∀ H' z,z.la=la->z.lb=lb->z.as=as->z.us=us->ng t D H' o z y->jv [o] H H'->Q .non H'
theorem UN:aQ ["self","atoms","bonds"] ["self","atoms","bonds"] (aF qk):=lR (by decide +kernel)
theorem UO (T:Txt K mg t):bF P w K mg base m5 4 t.eY t.ki ["self","atoms","bonds"] (RE t):=by
 have GI:bF P w K mg base m5 2 t.dB t.jO ["self","atoms","bonds"] (Ks K t.aT):=My T T.aY T.bU T.cP T.b9;have GS:=@Xa P w K mg base t T;have GR:=@Ow P w K mg base t T;have GP:=@UJ P w K mg base t T;refine T.k9.ok UN (fun vs H Q E h=>?_) (fun cdv A outer s H vs Q E hr h=>?_)
 . obtain ⟨o,dx,la,lb,as,us,y,D,rfl,_⟩:=h
   rfl
 . obtain ⟨o,dx,la,lb,as,us,y,D,rfl,h0,ha,hb,RA,RB,hn,hm,rise,k⟩:=h
   have hr2:dG 2 _:=hr.mono (by decide);have hr1:dG 1 _:=hr.mono (by decide);refine ⟨_,ak (dX (T6 rfl T.Jq T.AH GI hr2 T.vy bD (af (pv 0) (af (pv 1) (af (pv 2) au)))))
     (ak (ck (pv 0) (bx GS hr1 rfl T.AA T.lO.kp T.A5 .nil bD (af (c6 bz (by rfl) T.kM PySem.boot_len (af (pv 1) au)) (af (pv 2) au))) rfl)
     (ak (ck (pv 0) (bx GR hr rfl T.uJ T.gW.kp T.uG .nil bD (af (aA (pv 0) rfl) (af (pv 2) au))) rfl)
     (az (ck (pv 0) (bx GP hr1 rfl T.xW T.jA.kp T.xP .nil bD (af (pv 2) au)) rfl)))),?_⟩
   have RA':=RA.neA h0;have RB':=RB.neB h0;have B0:=MF T hb RB;have ao:la ≠ o:=ni ha h0 (by intro z;cases z);have bo:lb ≠ o:=ni hb h0 (by intro z;cases z);refine ⟨_,rfl,_,rfl,_,rfl,?_⟩;refine ⟨o,dx,la,lb,as,us,y.2.map JM.aV,rfl,h0,ha,hb,hn,by rw [List.length_map];omega,B0.2.1,fun i v q h1 h2=>⟨B0.2.2 i v q h1 h2,fun z=>?_⟩,rise.1,fun H1 lr rs G F1=>?_⟩
   . obtain ⟨o',C',dx',fs',e,e',_,_,_,e4,_⟩:=B0.2.2 i v q h1 h2
     rw [z] at e;cases e;rw [h0] at e';cases e';cases e4
   obtain ⟨d1,e1⟩:=G.obj;have RA1:cQ (pY t.eB) (fun b=>D b/\b ≠ o) H1 as y.1:=RA'.stay (pY.ok _) fun b u hd h=>F1 b u h (by simpa using hd.2);have RB1:cQ (nS t.eE) (fun b=>D b/\b ≠ o) H1 us y.2:=RB'.stay (nS.ok _) fun b u hd h=>F1 b u h (by simpa using hd.2);have Fy:y.1.length=as.length:=RA.len.symm;refine ⟨_,rfl,la,as,rfl,.inl (bI.of G.atoms),_,rfl,?_⟩;refine ⟨as.length,lb,us,y.2,_,rfl,hn,G.bonds,RB1,rise.1,fun H2 ls s2 nls hls=>?_⟩;rw [UM y Fy] at hls;have e2:=s2 _ _ e1;refine ⟨_,rfl,o,_,d1,_,rfl,e2,T.aY,T.iW,(by show 3 < 1000;decide),?_⟩;have neO:∀ {Hx:Hp} {b:Addr} {u:HO} {C' d':Addr} {f':List (Str×V)},Hx b=some u->Hx o=some (.ins C' d' f')->(∀ x,u ≠ .ins C' d' x)->b ≠ o:=fun {Hx b u C' d' f'} h1 h2 n z=>by
     rw [z,h2] at h1;exact n _ (Option.some.inj h1).symm
   have lso:ls ≠ o:=fun z=>by rw [z,e1] at nls;cases nls
   have st:∀ {Hx:Hp} (b:Addr) (u v:HO),b ≠ o->Hx b=some u->upd Hx o v b=some u:=fun {Hx} b u v n e=>by rw [aq n];exact e
   have Xe:∀ (i:Nat) v q,us[i]?=some v->(y.2.map JM.aV)[i]?=some q->∃ b,v=.ref b/\b ≠ o:=fun i v q h1 h2=>by
     rw [List.getElem?_map] at h2;cases hz:y.2[i]? with
     | none=>rw [hz] at h2;cases h2
     | some z=>
       obtain ⟨b,d,e,hd,_⟩:=RB'.at_ i v z h1 hz;exact ⟨b,e,hd.2⟩
   have B1:=MF T G.bonds RB1;have Bo:∀ {Hx:Hp} (v:HO),pA K Hx lb us (y.2.map JM.aV)->pA K (upd Hx o v) lb us (y.2.map JM.aV):=fun {Hx} v b=>⟨st _ _ _ bo b.1,b.2.1,fun i x q h1 h2=>by
     obtain ⟨b',e,n⟩:=Xe i x q h1 h2;obtain ⟨o',C',dx',fs',e0,e',rest⟩:=b.2.2 i x q h1 h2;rw [e] at e0;cases e0;exact ⟨b',C',dx',fs',e,st _ _ _ n e',rest⟩⟩
   have B3:=Bo (.ins t.aT d1 (gf "sums" (.ref ls) (gfs la lb lr))) (B1.same s2);refine ⟨_,rfl,fld ai T.aY T.iW rfl ⟨_,rfl,?_⟩⟩;refine ⟨ls,lb,as.length,gS (aE y),us,y.2.map JM.aV,rfl,st _ _ _ lso hls,by rw [JM.yW,yJ,Fy],hn,B3,by rw [List.length_map];exact hm,rise.1,fun H4 lo s4 nlo hlo=>?_⟩;have e4:=s4 _ _ ai;have loo:lo ≠ o:=fun z=>by rw [z,ai] at nlo;cases nlo
   refine ⟨_,rfl,o,_,d1,_,rfl,e4,T.aY,T.gb,(by show 4 < 1000;decide),?_⟩;have B5:=Bo (.ins t.aT d1 (gf "orders" (.ref lo) (gf "sums" (.ref ls) (gfs la lb lr)))) (B3.same s4);refine ⟨_,rfl,?_⟩;refine ⟨lb,us,y.2.map JM.aV,as.length,rfl,B5,by rw [List.length_map];omega,rise,fun H6 ln kvs s6 nln Zt N=>?_⟩;have e6:=s6 _ _ ai;have lno:ln ≠ o:=fun z=>by rw [z,ai] at nln;cases nln
   refine ⟨_,rfl,o,_,d1,_,rfl,e6,T.aY,T.bV,(by show 5 < 1000;decide),?_⟩;have F26:∀ b u,b ≠ o->H2 b=some u->H6 b=some u:=fun b u n e=>s6 _ _ (st _ _ _ n (s4 _ _ (st _ _ _ n e)));have F16:∀ b u,b ≠ o->H1 b=some u->H6 b=some u:=fun b u n e=>F26 b u n (s2 _ _ e);have Fin:∀ b u,b ≠ o->H1 b=some u->upd H6 o (.ins t.aT d1 (gf "bond_numbers" (.ref ln) (gf "orders" (.ref lo) (gf "sums" (.ref ls) (gfs la lb lr))))) b=some u:=fun b u n e=>st _ _ _ n (F16 b u n e);refine k _ ⟨la,lb,lr,ls,lo,ln,as,us,rs,kvs⟩ rfl rfl rfl rfl ⟨⟨d1,ai⟩,Fin _ _ ao G.atoms,Fin _ _ bo G.bonds,G.rows.stay fun b u e hb'=>?_,st _ _ _ lso (F26 _ _ lso hls),?_,st _ _ _ lno Zt,N,?_,?_⟩ ?_
   . refine Fin b u (fun z=>?_) e
     rw [z,e1] at e;cases e;rcases hb' with r | r
     . have:=G.rows.lst
       rw [<- r,z,e1] at this;cases this
     . obtain ⟨j,hj⟩:=List.getElem?_of_mem r
       have:=G.rows.at_ j b hj;rw [z,e1] at this;cases this
   . refine st _ _ _ loo (s6 _ _ (st _ _ _ loo ?_))
     rw [uP];exact hlo
   . exact (RA1.stay (pY.ok _) fun b u hd h=>Fin b u hd.2 h).mono (pY.ok _) fun b hd=>hd.1
   . exact (RB1.stay (nS.ok _) fun b u hd h=>Fin b u hd.2 h).mono (nS.ok _) fun b hd=>hd.1
   . intro b u e n
     have nb:b ≠ o:=by simpa using n
     exact Fin b u nb (F1 b u e n)
end
structure gc (y:aB):Prop where
 rise:JM.nv y.1.length (y.2.map JM.aV)
 few:y.2.length<=12
 small:y.1.length<=128
 Rt:∀ z ∈ y.2,(1<=z.1.order/\z.1.order<=3)/\z.1.side<=2
 atm:∀ z ∈ y.1,z.1.element<=118/\z.1.isotope<=500/\(-4<=z.1.charge/\z.1.charge<=4)/\z.1.hydrogens<=7/\z.1.hand<=2
theorem gc.good {y:aB} (g:gc y):JM.lI (aE y):=by
 refine ⟨?_,fun x hx=>?_⟩
 . rw [uP,yJ];exact g.rise.1
 . obtain ⟨z,hz,rfl⟩:=List.mem_map.mp (show x ∈ y.2.map fun z=>z.1 from hx)
   exact (g.Rt z hz).1
theorem gc.beside {y:aB} (g:gc y) (v:Nat):(aE y).beside v=JM.bG (y.2.map JM.aV) v:=by
 have e:(aE y).bonds.map (fun x=>(x.a,x.b))=y.2.map JM.aV:=uP y;have:=JM.Ky (M:=aE y) (by rw [e,yJ];exact g.rise) v;rw [this,e]
theorem MG {y:aB} {v:Nat} {z:Atom×Nat} (h:y.1[v]?=some z):(aE y).atom v=z.1:=by simp [Mol.atom,aE,List.getD,h]
theorem gc.RG {y:aB} (g:gc y) (v:Nat):(JM.bG (y.2.map JM.aV) v).length<=1000:=by
 have:=sJ (y.2.map JM.aV) v;rw [List.length_map] at this;have:=g.few;omega
section
def ZS (t:Ad):Sp:=fun vs H Q _=>∃ (g:Addr) (k:Nat) (z:kN) (y:aB) (D:Addr->Prop),vs=[.ref g,.int (k:Int)]/\ng t D H g z y/\gc y/\k < y.1.length/\∀ H',aS H H'->Q (.bl ((aE y).handed k)) H'
theorem K3:aQ ["molecule","k","neighbours","hydrogens"] ["molecule","k"] (aF qo):=lR (by decide +kernel)
theorem Xf (T:Txt K mg t):bF P w K mg base m5 1 t.gi t.kr ["molecule","k"] (ZS t):=by
 refine T.iT.ok K3 (fun vs H Q E h=>?_) (fun cdv A outer s H vs Q E hr h=>?_)
 . obtain ⟨g,k,z,y,D,rfl,_⟩:=h
   rfl
 . obtain ⟨g,n,z,y,D,rfl,M,gy,hn,k⟩:=h
   refine ⟨_,ak (aR (i:=2) K3.nd rfl (Or.inl rfl) (c6 bz (by rfl) T.kM PySem.boot_len (af (bT b6 (aA (pv 0) rfl) (pv 1) (fun _ _=>rfl)) au)))
     (ak (aR (i:=3) K3.nd rfl (Or.inl rfl) (aA (bT b6 (aA (pv 0) rfl) (pv 1) (fun _ _=>rfl)) rfl))
     (az (aZ (xg (e9 u4 (pv 2) (mD (af aN (af aN au))) rfl) (uY (e9 HJ (gJ uZ (pv 2) (pv 3)) aN (bW _))))))),?_⟩
   obtain ⟨dg,eg⟩:=M.obj;obtain ⟨ra,Af⟩:∃ ra,z.rs[n]?=some ra:=⟨_,List.getElem?_eq_getElem (by rw [M.rows.len,M.ra.len];exact hn)⟩;have hA:=M.rows.at_ _ _ Af;have e1:(z.rs.map V.ref)[n]?=some (V.ref ra):=by rw [List.getElem?_map,Af];rfl
   obtain ⟨a,ha⟩:∃ a,y.1[n]?=some a:=⟨_,List.getElem?_eq_getElem hn⟩;obtain ⟨va,UQ⟩:∃ v,z.as[n]?=some v:=⟨_,List.getElem?_eq_getElem (by rw [M.ra.len];exact hn)⟩;obtain ⟨o,dx,rfl,_,rep⟩:=M.ra.at_ n va a UQ ha;refine ⟨_,rfl,fld eg T.aY T.b9 rfl ⟨_,rfl,tG (bI.of M.rows.lst) (bh e1) ⟨ra,_,rfl,.inl (bI.of hA),?_⟩⟩⟩;refine ⟨_,rfl,fld eg T.aY T.bU rfl ⟨_,rfl,tG (bI.of M.atoms) (bh UQ) (fld rep T.mQ T.fJ rfl ?_)⟩⟩;refine ⟨_,rfl,(by show 2<=sizeLine;decide),fun p hp=>⟨p,_,rfl,.inr (oj.of ai),rfl,rfl,_,rfl,?_⟩⟩;have qP:∀ l:List Nat,(vN l).length=l.length:=fun l=>by simp [vN]
   have e2:Lk (.int ((vN (JM.bG (y.2.map JM.aV) n)).length:Int)) [.int 3,.int 4]=((JM.bG (y.2.map JM.aV) n).length==3||(JM.bG (y.2.map JM.aV) n).length==4):=by rw [qP];exact C6 _ 3 4
   have s3:aS H (upd H p (.tup [.int 3,.int 4])):=aK hp;have kk:=k _ s3;have hd:(aE y).handed n=(decide (3<=(JM.bG (y.2.map JM.aV) n).length)&&(decide (a.1.hydrogens<=1)&&decide ((JM.bG (y.2.map JM.aV) n).length+a.1.hydrogens<=4))):=by
     unfold Mol.handed;rw [gy.beside,MG ha]
   rw [if_neg Bool.false_ne_true,e2];refine zB (fun h=>?_) (fun h=>?_)
   . refine ⟨_,rfl,_,rfl,_,_,rfl,rfl,_,_,rfl,rfl,?_⟩
     simp only [Bool.or_eq_true,beq_iff_eq] at h;have e3:decide (((vN (JM.bG (y.2.map JM.aV) n)).length:Int)+(a.1.hydrogens:Int)<=4)=(aE y).handed n:=by
       rw [hd,qP,Bool.eq_iff_iff];simp only [Bool.and_eq_true,decide_eq_true_eq];omega
     rw [<- e3] at kk;exact kk
   . rw [Bool.not_eq_true] at h
     have e3:(aE y).handed n=false:=by
       rw [hd,Bool.eq_false_iff];intro hc;simp only [Bool.and_eq_true,decide_eq_true_eq] at hc;have:¬ (((JM.bG (y.2.map JM.aV) n).length==3||(JM.bG (y.2.map JM.aV) n).length==4)=true):=by rw [h];decide
       simp only [Bool.or_eq_true,beq_iff_eq] at this;omega
     rw [e3] at kk;exact kk
def ZT (t:Ad):Sp:=fun vs H Q _=>∃ (g:Addr) (e o:Nat) (z:kN) (y:aB) (D:Addr->Prop),vs=[.ref g,.int (e:Int),.int (o:Int)]/\ng t D H g z y/\gc y/\e < y.1.length/\∀ H',aS H H'->Q (.bl ((aE y).endMay e o)) H'
theorem PF:aQ ["molecule","end","other","others"] ["molecule","end","other"] (aF oN):=lR (by decide +kernel)
theorem Xg (T:Txt K mg t):bF P w K mg base m5 2 t.fF t.j7 ["molecule","end","other"] (ZT t):=by
 have GB:bF P w K mg base m5 1 t.bH t.dF ["self","end","other"] (uO K t.aT):=vK T T.aY T.b9;refine T.fG.ok PF (fun vs H Q E h=>?_) (fun cdv A outer s H vs Q E hr h=>?_)
 . obtain ⟨g,e,o,z,y,D,rfl,_⟩:=h
   rfl
 . obtain ⟨g,n,o,z,y,D,rfl,M,gy,hn,k⟩:=h
   refine ⟨_,ak (aR (i:=3) PF.nd rfl (Or.inl rfl) (c6 bz (by rfl) T.kM PySem.boot_len (af (aW (pv 0) T.aY T.mR GB hr T.iQ .nil bD (af (pv 1) (af (pv 2) au))) au)))
     (az (aZ (xg (e9 u4 (pv 3) (mD (af aN (af aN au))) rfl) (uY (e9 HJ (gJ uZ (pv 3) (aA (bT b6 (aA (pv 0) rfl) (pv 1) (fun _ _=>rfl)) rfl)) aN (bW _)))))),?_⟩
   obtain ⟨dg,eg⟩:=M.obj;obtain ⟨a,ha⟩:∃ a,y.1[n]?=some a:=⟨_,List.getElem?_eq_getElem hn⟩;obtain ⟨va,UQ⟩:∃ v,z.as[n]?=some v:=⟨_,List.getElem?_eq_getElem (by rw [M.ra.len];exact hn)⟩;obtain ⟨b,dx,rfl,_,rep⟩:=M.ra.at_ n va a UQ ha;refine ⟨_,rfl,g,dg,_,rfl,eg,rfl,_,rfl,_,rfl,?_⟩;refine ⟨g,dg,z.lr,_,z.rs,z.as.length,n,o,_,rfl,eg,rfl,M.rows,by rw [M.ra.len];exact hn,gy.RG _,fun H1 l1 s1 nl1 hl1=>?_⟩;refine ⟨l1,_,rfl,.inl (bI.of hl1),?_⟩;refine ⟨_,rfl,(by show 2<=sizeLine;decide),fun p hp=>⟨p,_,rfl,.inr (oj.of ai),rfl,rfl,_,rfl,?_⟩⟩;have s3:aS H (upd H1 p (.tup [.int 1,.int 2])):=s1.trans (aK hp);have kk:=k _ s3;have qP:∀ l:List Nat,(vN l).length=l.length:=fun l=>by simp [vN]
   have e2:Lk (.int ((vN ((JM.bG (y.2.map JM.aV) n).filter fun x=>x != o)).length:Int)) [.int 1,.int 2]=(((JM.bG (y.2.map JM.aV) n).filter fun x=>x != o).length==1||((JM.bG (y.2.map JM.aV) n).filter fun x=>x != o).length==2):=by rw [qP];exact C6 _ 1 2
   have hd:(aE y).endMay n o=(decide (1<=((JM.bG (y.2.map JM.aV) n).filter fun x=>x != o).length)&&decide (((JM.bG (y.2.map JM.aV) n).filter fun x=>x != o).length+a.1.hydrogens<=2)):=by
     unfold Mol.endMay Mol.besides;rw [gy.beside,MG ha]
   rw [if_neg Bool.false_ne_true,e2];refine zB (fun h=>?_) (fun h=>?_)
   . refine ⟨_,rfl,_,rfl,fld (s3 _ _ eg) T.aY T.bU rfl ⟨_,rfl,tG (bI.of (s3 _ _ M.atoms)) (bh UQ) (fld (s3 _ _ rep) T.mQ T.fJ rfl ⟨_,_,rfl,rfl,_,_,rfl,rfl,?_⟩)⟩⟩
     simp only [Bool.or_eq_true,beq_iff_eq] at h;have e3:decide (((vN ((JM.bG (y.2.map JM.aV) n).filter fun x=>x != o)).length:Int)+(a.1.hydrogens:Int)<=2)=(aE y).endMay n o:=by
       rw [hd,qP,Bool.eq_iff_iff];simp only [Bool.and_eq_true,decide_eq_true_eq];omega
     rw [<- e3] at kk;exact kk
   . rw [Bool.not_eq_true] at h
     have e3:(aE y).endMay n o=false:=by
       rw [hd,Bool.eq_false_iff];intro hc;simp only [Bool.and_eq_true,decide_eq_true_eq] at hc;have:¬ ((((JM.bG (y.2.map JM.aV) n).filter fun x=>x != o).length==1||((JM.bG (y.2.map JM.aV) n).filter fun x=>x != o).length==2)=true):=by rw [h];decide
       simp only [Bool.or_eq_true,beq_iff_eq] at this;omega
     rw [e3] at kk;exact kk
def ZU (t:Ad):Sp:=fun vs H Q _=>∃ (g:Addr) (k:Nat) (z:kN) (y:aB) (D:Addr->Prop),vs=[.ref g,.int (k:Int)]/\ng t D H g z y/\gc y/\k < y.2.length/\∀ H',aS H H'->Q (.bl ((aE y).sided k)) H'
theorem K4:aQ ["molecule","k","bond","fixed_double"] ["molecule","k"] (aF qp):=lR (by decide +kernel)
theorem Xh (T:Txt K mg t):bF P w K mg base m5 3 t.gj t.ku ["molecule","k"] (ZU t):=by
 have GE:=@Xg P w K mg base t T;have GB:=@U8 P w K mg base t T;refine T.iU.ok K4 (fun vs H Q E h=>?_) (fun cdv A outer s H vs Q E hr h=>?_)
 . obtain ⟨g,k,z,y,D,rfl,_⟩:=h
   rfl
 . obtain ⟨g,n,z,y,D,rfl,M,gy,hn,k⟩:=h
   have hr1:dG 1 _:=hr.mono (by decide);refine ⟨_,ak (aR (i:=2) K4.nd rfl (Or.inl rfl) (bT b6 (aA (pv 0) rfl) (pv 1) (fun _ _=>rfl)))
     (ak (aR (i:=3) K4.nd rfl (Or.inl rfl) (e9 om (bT b6 (aA (pv 0) rfl) (pv 1) (fun _ _=>rfl)) (bx GB hr1 rfl T.xV T.l9.kp T.xO .nil bD (af aN au)) (bW _)))
     (az (aZ (xg (pv 3) (xg (bx GE hr rfl T.oU T.fG.kp T.oS .nil bD (af (pv 0) (af (aA (pv 2) rfl) (af (aA (pv 2) rfl) au))))
       (uY (bx GE hr rfl T.oU T.fG.kp T.oS .nil bD (af (pv 0) (af (aA (pv 2) rfl) (af (aA (pv 2) rfl) au)))))))))),?_⟩
   obtain ⟨dg,eg⟩:=M.obj;obtain ⟨x,hx⟩:∃ x,y.2[n]?=some x:=⟨_,List.getElem?_eq_getElem hn⟩;obtain ⟨vb,Yt⟩:∃ v,z.us[n]?=some v:=⟨_,List.getElem?_eq_getElem (by rw [M.rb.len];exact hn)⟩;obtain ⟨b,dx,rfl,_,rep⟩:=M.rb.at_ n vb x Yt hx;have hq:x.1.a < x.1.b/\x.1.b < y.1.length:=gy.rise.1 (JM.aV x) (List.mem_map_of_mem (List.mem_of_getElem? hx));have hfo:(vI (BH (gS (aE y)) (d9 (aE y))))[n]?=some (.int (JM.iJ (JM.Found (gS (aE y)) (d9 (aE y)) n):Int)):=sN (mz (by rw [uP,List.length_map];exact hn));refine ⟨_,rfl,fld eg T.aY T.cP rfl ⟨_,rfl,tG (bI.of M.bonds) (bh Yt) ?_⟩⟩;refine ⟨_,rfl,fld eg T.aY T.gb rfl ⟨_,rfl,tG (bI.of M.orders) (bh hfo) ?_⟩⟩;refine ⟨2,rfl,by decide,by decide,rfl,?_⟩;have hb:(aE y).bonds[n]?=some x.1:=by simp [aE,hx]
   have hnb:n < (aE y).bonds.length:=(Zqz hb);have fx:=gy.good.fixed hnb;have sd:(aE y).sided n=(decide (JM.iJ (JM.Found (gS (aE y)) (d9 (aE y)) n)=2)&&((aE y).endMay x.1.a x.1.b&&(aE y).endMay x.1.b x.1.a)):=by
     unfold Mol.sided;rw [hb];simp only;rw [fx]
   have de:decide (V.int (JM.iJ (JM.Found (gS (aE y)) (d9 (aE y)) n):Int)=V.int ((2 ^ (2 - 1):Nat):Int))=decide (JM.iJ (JM.Found (gS (aE y)) (d9 (aE y)) n)=2):=by
     rw [Bool.eq_iff_iff];simp only [decide_eq_true_eq];constructor
     . intro h
       injection h with h;have:((2 ^ (2 - 1):Nat):Int)=2:=rfl;omega
     . intro h
       rw [h]
   rw [de];rw [sd] at k;refine ⟨_,rfl,_,rfl,?_⟩;cases h1:decide (JM.iJ (JM.Found (gS (aE y)) (d9 (aE y)) n)=2) with
   | false=>
     have kk:=k H (aS.refl _);rw [h1,Bool.false_and] at kk;exact kk
   | true=>
     rw [h1,Bool.true_and] at k;refine ⟨_,rfl,_,rfl,fld rep T.gH T.kC rfl ⟨_,rfl,fld rep T.gH T.kD rfl ?_⟩⟩;refine ⟨g,x.1.a,x.1.b,z,y,D,rfl,M,gy,by omega,fun H1 s1=>⟨_,rfl,?_⟩⟩;cases h2:(aE y).endMay x.1.a x.1.b with
     | false=>
       have kk:=k H1 s1;rw [h2,Bool.false_and] at kk;exact kk
     | true=>
       rw [h2,Bool.true_and] at k;refine ⟨_,rfl,_,rfl,fld (s1 _ _ rep) T.gH T.kD rfl ⟨_,rfl,fld (s1 _ _ rep) T.gH T.kC rfl ?_⟩⟩;exact ⟨g,x.1.b,x.1.a,z,y,D,rfl,M.same s1,gy,hq.2,fun H2 s2=>k H2 (s1.trans s2)⟩
end
theorem K5 (b:Bytes):Fk.judgeMol b=Fk.andThen (tU Fk.MOLMARK JM.wN JM.sL b 0) fun y=>JM.FD (aE y) y.1.zipIdx y.2.zipIdx:=by
 rw [JM.M4];unfold tU;simp only [JM.br,JM.bg]
theorem FL {α:Type} {l:List α} {i:Nat} {x:α} (h:l[i]?=some x):l.zipIdx.drop i=(x,i)::l.zipIdx.drop (i+1):=by
 obtain ⟨hl,hg⟩:=List.getElem?_eq_some_iff.mp h;rw [List.drop_eq_getElem_cons (by simpa using hl)];simp [hg]
theorem Di:∀ {m b:Bytes} {p:Nat} {y:Bytes×Nat},JM.mE m b p=.ok y->y.1=b.drop m.length
 | [],b,p,y,h=>by cases h;rfl
 | c::m,b,p,y,h=>by
  unfold JM.mE at h
  obtain ⟨x,h1,h⟩:=JM.aM h
  obtain ⟨u,h2,h⟩:=JM.aM h
  have e:=Di h
  have:=(JM.bA h1).2.2.2.1
  rw [e,this,List.drop_drop,List.length_cons,Nat.add_comm]
theorem ZV {B:Bytes} {k:Nat} (h:1<=(B.drop k).length):Fk.num ((B.drop k).take 1)=(B.getD k 0).toNat:=by
 have hk:k < B.length:=by rw [List.length_drop] at h;omega
 rw [List.drop_eq_getElem_cons hk];show Fk.num [B[k]]=_;rw [JM.Jl,List.getD,List.getElem?_eq_getElem hk];rfl
theorem MH {α:Type} {one:Bytes->Nat->Except Fault (α×Bytes×Nat)} {Pr:α->Prop} (ho:∀ b p x,one b p=.ok x->Pr x.1):∀ {k:Nat} {b:Bytes} {p:Nat} {y:List α×Bytes×Nat},JM.many one k b p=.ok y->∀ z ∈ y.1,Pr z
 | 0,b,p,y,h=>by cases h;simp
 | k+1,b,p,y,h=>by
   unfold JM.many at h
   obtain ⟨x,h1,h⟩:=JM.aM h
   obtain ⟨l,h2,h⟩:=JM.aM h
   cases h
   intro z hz
   rcases List.mem_cons.mp hz with r | r
   . rw [r];exact ho _ _ _ h1
   . exact MH ho h2 z r
theorem Iw {α:Type} {n:Nat} {one:Nat×Nat->Bytes->Nat->Except Fault (α×Bytes×Nat)} {Pr:α->Prop} (ho:∀ q b p x,one q b p=.ok x->Pr x.1):∀ {k:Nat} {had:Option (Nat×Nat)} {b:Bytes} {p:Nat} {y:List α×Bytes×Nat},JM.j0 n one k had b p=.ok y->∀ z ∈ y.1,Pr z
 | 0,_,b,p,y,h=>by cases h;simp
 | k+1,had,b,p,y,h=>by
   unfold JM.j0 at h
   obtain ⟨q,h0,h⟩:=JM.aM h
   obtain ⟨x,h1,h⟩:=JM.aM h
   obtain ⟨l,h2,h⟩:=JM.aM h
   cases h
   intro z hz
   rcases List.mem_cons.mp hz with r | r
   . rw [r];exact ho _ _ _ _ h1
   . exact Iw ho h2 z r
theorem K6 (b:Bytes) (p:Nat) (x:(Atom×Nat)×Bytes×Nat) (h:JM.wN b p=.ok x):x.1.1.element<=118/\x.1.1.isotope<=500/\(-4<=x.1.1.charge/\x.1.1.charge<=4)/\x.1.1.hydrogens<=7/\x.1.1.hand<=2:=by
 unfold JM.wN JM.rf at h;obtain ⟨w,h0,hw⟩:=JM.aM h;cases hw;obtain ⟨a1,h1,h0⟩:=JM.aM h0;obtain ⟨a2,h2,h0⟩:=JM.aM h0;obtain ⟨a3,h3,h0⟩:=JM.aM h0;obtain ⟨a4,h4,h0⟩:=JM.aM h0;obtain ⟨a5,h5,h0⟩:=JM.aM h0;cases h0;have g1:=(JM.bA h1).2.1;have g2:=(JM.bA h2).2.1;have g3:=(JM.bA h3).2.1;have g4:=(JM.bA h4).2.1;have g5:=(JM.bA h5).2.1;simp only [Bool.and_eq_true,decide_eq_true_eq] at g1 g2 g3 g4 g5;unfold Fk.ELEMENTS at g1;unfold Fk.ISOTOPE at g2;simp only;omega
theorem K7 (q:Nat×Nat) (b:Bytes) (p:Nat) (x:(Bond×Nat)×Bytes×Nat) (h:JM.sL q b p=.ok x):(1<=x.1.1.order/\x.1.1.order<=3)/\x.1.1.side<=2:=by
 unfold JM.sL JM.pF at h;obtain ⟨w,h0,hw⟩:=JM.aM h;cases hw;obtain ⟨a1,h1,h0⟩:=JM.aM h0;obtain ⟨a2,h2,h0⟩:=JM.aM h0;cases h0;have g1:=(JM.bA h1).2.1;have g2:=(JM.bA h2).2.1;simp only [Bool.and_eq_true,decide_eq_true_eq] at g1 g2;simp only;omega
theorem MI {B:Bytes} {y:aB} (hy:tU Fk.MOLMARK JM.wN JM.sL B 0=.ok y) (few:(B.getD 5 0).toNat<=12):gc y:=by
 unfold tU at hy;obtain ⟨m,hm,hy⟩:=JM.aM hy;obtain ⟨n,hn,hy⟩:=JM.aM hy;obtain ⟨k,hk,hy⟩:=JM.aM hy;obtain ⟨x,hx,hy⟩:=JM.aM hy;obtain ⟨z,hz,hy⟩:=JM.aM hy;obtain ⟨_,_,hy⟩:=JM.aM hy;cases hy;have e1:=Di hm;have e2:=(JM.bA hn).2.2.2.1;have e3:=(JM.bA hk).2.2.1;have e4:=(JM.bA hk).1;have abg:=of_decide_eq_true (JM.bA hn).2.1;unfold Fk.ATOMS at abg;have lx:=JM.tH hx;have lz:=JM.qN hz;have e5:n.2.1=B.drop 5:=by rw [e2,e1,List.drop_drop];rfl
 rw [e5] at e3 e4;rw [ZV e4] at e3;refine ⟨?_,by simp only;omega,by simp only;omega,Iw K7 hz,MH K6 hx⟩;have:=(JM.xB (ends:=JM.aV) JM.FF hz).1;simp only;rw [lx];exact this
theorem acA (b:Bytes) (p:Nat) (y:(Atom×Nat)×Bytes×Nat) (h:JM.wN b p=.ok y):((y.1.2:Nat):Int)=(y.2.2:Int) - 1:=by
 unfold JM.wN at h;obtain ⟨w,h1,h⟩:=JM.aM h;cases h;have:=JM.yD h1;simp only;omega
theorem acB (q:Nat×Nat) (b:Bytes) (p:Nat) (y:(Bond×Nat)×Bytes×Nat) (h:JM.sL q b p=.ok y):((y.1.2:Nat):Int)=(y.2.2:Int) - 1:=by
 unfold JM.sL at h;obtain ⟨w,h1,h⟩:=JM.aM h;cases h;have:=JM.yE h1;simp only;omega
section
theorem fC.same {K:Zqq} {C:Addr} {H H':Hp} {r:Addr} {x:Gm} (R:fC K C H r x) (f:aS H H'):fC K C H' r x:=R.stay (S:=[]) (aS.frm f) (by simp) (by simp) (by simp) (by simp)
def Xi (K:Zqq) (t:Ad):Sp:=fun vs H Q E=>∃ (a:Addr) (w:Int) (B:Bytes),vs=[.ref a,.int w]/\sG K H a B/\B.length<=6000/\(B.getD 5 0).toNat<=12 /\
 mw t.aH w (Fk.judgeMol B) (fun M=>∀ H' g z y,ng t (fun b=>H b=none) H' g z y->gc y->M=aE y->aS H H'->Q (.ref g) H') E
theorem pZ:aQ ["form","which","reader","graph","molecule","k","atom","bond"] ["form","which"] (aF ql):=lR (by decide +kernel)
theorem UR (T:Txt K mg t):bF P w K mg base (uW P w) 10 t.gg t.ko ["form","which"] (Xi K t):=by
 have GI:=@Mu P w K mg base t T;have GF:=@sH P w K mg base t T;have GH:=@Xf P w K mg base t T;have GS:=@Xh P w K mg base t T;have GM:=@UO P w K mg base t T;have GG:bF P w K mg base (uW P w) 9 t.gG t.jP ["reader","mark","take_atom","take_bond"] (Kv K t.aG t.aH t.bK t.jd t.je JM.wN JM.sL (pY t.eB) (nS t.eE) (fun z=>z.2) (fun z=>z.2) JM.aV):=
   M0 T (pY.ok _) (nS.ok _) acA acB JM.FF (fun ⟨o,dx,e,d,h⟩=>⟨o,e,d,o,_,dx,_,e,h,T.gH,T.kC,T.kD,rfl,rfl⟩) ((ZH T).mono (by decide)) T.mV.kp T.CV ((ZI T).mono (by decide)) T.mW.kp T.CW
 obtain ⟨tk4,g4⟩:=T.oV;obtain ⟨tk6,g6⟩:=T.oW;refine T.iS.KZ pZ (fun vs H Q E h=>?_) (fun cdv A outer s H vs Q E hr h=>?_)
 . obtain ⟨a,w,B,rfl,_⟩:=h
   rfl
 . obtain ⟨a,w,B,rfl,hB,hlen,few,bE⟩:=h
   have hr1:dG 1 _:=hr.mono (by decide);have hr2:dG 2 _:=hr.mono (by decide);have Mv:dG 3 _:=hr.mono (by decide);have Nv:dG 5 _:=hr.mono (by decide);refine ⟨_,ak (aR (i:=2) pZ.nd rfl (Or.inl rfl) (qI T.EJ GI hr2 rfl T.EI T.uf .nil bD (af (pv 0) (af (pv 1) au))))
     (ak (aR (i:=3) pZ.nd rfl (Or.inl rfl) (bx GG hr rfl T.vD T.jW.kp T.vz .nil c7 (af (pv 2) (af (aU rfl T.uK (v:=.ref t.dM) rfl) (af (aU rfl T.CZ (v:=.ref t.jd) rfl) (af (aU rfl T.Dc (v:=.ref t.je) rfl) au))))))
     (ak (aR (i:=4) pZ.nd rfl (Or.inl rfl) (qI T.EL GM Nv rfl T.EK T.wu .nil bD (af (aA (pv 3) rfl) (af (aA (pv 3) rfl) au))))
     (ak (fj Jk rfl (tD rfl T.jq (af (aA (pv 4) rfl) au)) (xj rfl (gq (bw (i:=5) pZ.nd rfl (Or.inl rfl)) (gq (bw (i:=6) pZ.nd rfl (Or.inl rfl)) t6)))
       (az (kL (PW.pt (oE (cS wk (aA (pv 6) rfl) aN (bW _)) (lJ (uX (jr (bx GH hr1 rfl T.wG T.iT.kp T.w9 .nil bD (af (pv 4) (af (pv 5) au))))))))
         (az (dX (aW (pv 2) T.aL T.dw GF Mv T.dj .nil c7 (af (aU rfl g4 (v:=.int 4) ⟨_,rfl⟩) (af (bT b6 (aA (pv 2) rfl) (pv 5) (fun _ _=>rfl)) au))))) dW)))
     (ak (fj Jk rfl (tD rfl T.jq (af (aA (pv 4) rfl) au)) (xj rfl (gq (bw (i:=5) pZ.nd rfl (Or.inl rfl)) (gq (bw (i:=7) pZ.nd rfl (Or.inl rfl)) t6)))
       (az (kL (PW.pt (oE (cS wk (aA (pv 7) rfl) aN (bW _)) (lJ (uX (jr (bx GS Mv rfl T.wH T.iU.kp T.wA .nil bD (af (pv 4) (af (pv 5) au))))))))
         (az (dX (aW (pv 2) T.aL T.dw GF Mv T.dj .nil c7 (af (aU rfl g6 (v:=.int 6) ⟨_,rfl⟩) (af (bT b6 (aA (pv 2) rfl) (pv 5) (fun _ _=>rfl)) au))))) dW)))
     (az (aZ (pv 4))))))),?_⟩
   refine ⟨_,rfl,_,rfl,fun r dx nr nd ne=>?_⟩;have MJ:∀ b u,H b=some u->upd (upd H dx (.own r)) r (.ins t.aG dx []) b=some u:=fun b u e=>by rw [aq (ay e nr),aq (ay e nd)];exact e
   have hB':sG K (upd (upd H dx (.own r)) r (.ins t.aG dx [])) a B:=by
     rcases hB with ⟨o,h⟩ | h
     . exact .inl ⟨o,MJ _ _ h⟩
     . exact .inr h
   refine ⟨r,dx,a,w,B,rfl,ai,hB',hlen,fun H1 hp sp nhp nsp R1 F1=>⟨rfl,?_⟩⟩;have S1:aS H H1:=fun b u e=>(jv.made (S:=[]) nr nd F1) b u e (by simp);have old:∀ b,upd (upd H dx (.own r)) r (.ins t.aG dx []) b=none->H b=none:=fun b h=>by
     cases q:H b with
     | none=>rfl
     | some u=>rw [MJ b u q] at h;cases h
   rw [K5] at bE;refine ⟨_,rfl,?_⟩;refine ⟨r,t.dM,Fk.MOLMARK,_,rfl,R1,rfl,rfl,T.uL,bE.andThen'.mono fun y hy bE H2 g la lb lr as us rs b p R2 F2 G2 RA2 RB2 rise=>?_⟩;have S2:aS H H2:=fun c u e=>F2 c u (S1 c u e) (by
     have h1:c ≠ r:=ay e nr;have h2:c ≠ hp:=ay e (old hp nhp);have h3:c ≠ sp:=ay e (old sp nsp);simp [h1];exact ⟨h2,h3⟩)
   have gy:gc y:=MI hy few;have nn:∀ b,H1 b=none->H b=none:=fun b d=>by
     cases q:H b with
     | none=>rfl
     | some u=>rw [S1 b u q] at d;cases d
   have Fy:y.1.length=as.length:=RA2.len.symm;obtain ⟨dg,eg⟩:=G2.obj;refine ⟨_,rfl,fld eg T.jj T.gO rfl ⟨_,rfl,fld eg T.jj T.gP rfl (fun o d3 no nd3 ne3=>?_)⟩⟩;have PJ:∀ b u,H2 b=some u->upd (upd H2 d3 (.own o)) o (.ins t.aT d3 []) b=some u:=fun b u e=>by rw [aq (ay e no),aq (ay e nd3)];exact e
   refine ⟨o,d3,la,lb,as,us,y,fun b=>H b=none,rfl,ai,PJ _ _ G2.atoms,PJ _ _ G2.bonds,(RA2.mono (pY.ok _) nn).stay (pY.ok _) (fun b u _ h=>PJ b u h),(RB2.mono (nS.ok _) nn).stay (nS.ok _) (fun b u _ h=>PJ b u h),by have:=gy.small;omega,gy.few,rise,fun H4 z hz1 hz2 hz3 hz4 M F4=>⟨rfl,?_⟩⟩;subst hz1 hz2 hz3 hz4;have S24:aS H2 H4:=fun b u e=>(jv.made (S:=[]) no nd3 F4) b u e (by simp);have R4:=R2.same S24;have S4:aS H H4:=S2.trans S24;obtain ⟨dm,em⟩:=M.obj;have abv:z.as.length=y.1.length:=M.ra.len;refine ⟨_,rfl,fld em T.aY T.bU rfl ⟨z.la,z.as,rfl,bI.of M.atoms,?_⟩⟩;let xf:L2.Iv:=fun i σ H'=>∃ vk va,σ=[some (.ref a),some (.int w),some (.ref r),some (.ref g),some (.ref o),vk,va,none]/\aS H4 H' /\
     mw t.aH w (JM.FD (aE y) (y.1.zipIdx.drop i) y.2.zipIdx) (fun Mo=>∀ H' g z y,ng t (fun b=>H b=none) H' g z y->gc y->Mo=aE y->aS H H'->Q (.ref g) H') E
   refine pX (K:=K) (a:=z.la) (xs:=z.as) xf
     ⟨none,none,rfl,aS.refl _,bE⟩ (fun i σ H' _ ⟨_,_,_,sm,_⟩=>bI.of (sm _ _ M.atoms)) ?_ ?_
   . rintro i x σ H' Tt hx ⟨vk,va,rfl,sm,bE⟩ hT
     have hi:i < z.as.length:=(Zqz hx);obtain ⟨c,hc⟩:∃ c,y.1[i]?=some c:=⟨_,List.getElem?_eq_getElem (by omega)⟩;obtain ⟨q,dq,rfl,_,rep⟩:=M.ra.at_ i x c hx hc;rw [FL hc,JM.Oo] at bE;have sm':aS H4 (upd H' Tt (.tup [.int (i:Int),.ref q])):=sm.trans (aK hT);refine ⟨Tt,_,rfl,oj.of ai,rfl,_,_,rfl,_,_,rfl,rfl,?_⟩;refine ⟨_,rfl,fld (sm' _ _ rep) T.mQ T.lF rfl ⟨rfl,_,rfl,?_⟩⟩;have de:(!decide (V.int (c.1.hand:Int)=V.int 0))=(c.1.hand != 0):=by
       rw [Bool.eq_iff_iff];simp
     rw [de];cases h1:(c.1.hand != 0) with
     | false=>
       have nb:¬ JM.DK (aE y) (c,i)=true:=by simp [JM.DK,h1]
       rw [if_neg nb] at bE;exact ⟨_,_,rfl,sm',bE⟩
     | true=>
       refine ⟨_,rfl,_,rfl,?_⟩;refine ⟨o,i,z,y,_,rfl,M.same sm',gy,by omega,fun H5 s5=>⟨_,rfl,?_⟩⟩;have Yu:aS H4 H5:=sm'.trans s5;cases h2:(aE y).handed i with
       | true=>
         have nb:¬ JM.DK (aE y) (c,i)=true:=by simp [JM.DK,h1,h2]
         rw [if_neg nb] at bE;exact ⟨_,_,rfl,Yu,bE⟩
       | false=>
         have nb:JM.DK (aE y) (c,i)=true:=by simp [JM.DK,h1,h2]
         rw [if_pos nb] at bE;have R5:=R4.same Yu;obtain ⟨d5,e5⟩:=R5.obj;have e6:((y.1.map fun z=>((z.2:Nat):Int)).map V.int)[i]?=some (V.int (c.2:Int)):=by simp [hc]
         refine ⟨_,rfl,r,d5,_,rfl,e5,rfl,_,rfl,fld e5 T.aL T.cM rfl ⟨_,rfl,tG (bI.of R5.hpl) (bh e6) ?_⟩⟩;exact ⟨r,w,4,(c.2:Int),d5,_,rfl,e5,rfl,fun H' d' hF=>bE H' d' hF⟩
   . rintro σ H' ⟨vk,va,rfl,sm,bE⟩
     rw [abv,show y.1.zipIdx.drop y.1.length=[] from List.drop_eq_nil_of_le (by simp)] at bE;have M5:=M.same sm;obtain ⟨dm5,em5⟩:=M5.obj;refine ⟨_,rfl,fld em5 T.aY T.cP rfl ⟨z.lb,z.us,rfl,bI.of M5.bonds,?_⟩⟩;let UG:L2.Iv:=fun i σ H'=>∃ vk vb,σ=[some (.ref a),some (.int w),some (.ref r),some (.ref g),some (.ref o),vk,va,vb]/\aS H4 H' /\
       mw t.aH w (JM.Io (aE y) (y.2.zipIdx.drop i)) (fun Mo=>∀ H' g z y,ng t (fun b=>H b=none) H' g z y->gc y->Mo=aE y->aS H H'->Q (.ref g) H') E
     refine pX (K:=K) (a:=z.lb) (xs:=z.us) UG
       ⟨vk,none,rfl,sm,bE⟩ (fun i σ H' _ ⟨_,_,_,sm,_⟩=>bI.of (sm _ _ M.bonds)) ?_ ?_
     . rintro i x σ H' Tt hx ⟨vk,vb,rfl,sm,bE⟩ hT
       have hi:i < z.us.length:=(Zqz hx);have hi2:i < y.2.length:=by rw [<- M.rb.len];exact hi
       obtain ⟨c,hc⟩:∃ c,y.2[i]?=some c:=⟨_,List.getElem?_eq_getElem hi2⟩;obtain ⟨q,dq,rfl,_,rep⟩:=M.rb.at_ i x c hx hc;rw [FL hc,JM.Oq] at bE;have sm':aS H4 (upd H' Tt (.tup [.int (i:Int),.ref q])):=sm.trans (aK hT);refine ⟨Tt,_,rfl,oj.of ai,rfl,_,_,rfl,_,_,rfl,rfl,?_⟩;refine ⟨_,rfl,fld (sm' _ _ rep) T.gH T.lG rfl ⟨rfl,_,rfl,?_⟩⟩;have de:(!decide (V.int (c.1.side:Int)=V.int 0))=(c.1.side != 0):=by
         rw [Bool.eq_iff_iff];simp
       rw [de];cases h1:(c.1.side != 0) with
       | false=>
         have nb:¬ JM.DL (aE y) (c,i)=true:=by simp [JM.DL,h1]
         rw [if_neg nb] at bE;exact ⟨_,_,rfl,sm',bE⟩
       | true=>
         refine ⟨_,rfl,_,rfl,?_⟩;refine ⟨o,i,z,y,_,rfl,M.same sm',gy,hi2,fun H5 s5=>⟨_,rfl,?_⟩⟩;have Yu:aS H4 H5:=sm'.trans s5;cases h2:(aE y).sided i with
         | true=>
           have nb:¬ JM.DL (aE y) (c,i)=true:=by simp [JM.DL,h1,h2]
           rw [if_neg nb] at bE;exact ⟨_,_,rfl,Yu,bE⟩
         | false=>
           have nb:JM.DL (aE y) (c,i)=true:=by simp [JM.DL,h1,h2]
           rw [if_pos nb] at bE;have R5:=R4.same Yu;obtain ⟨d5,e5⟩:=R5.obj;have e6:((y.2.map fun z=>((z.2:Nat):Int)).map V.int)[i]?=some (V.int (c.2:Int)):=by simp [hc]
           refine ⟨_,rfl,r,d5,_,rfl,e5,rfl,_,rfl,fld e5 T.aL T.cO rfl ⟨_,rfl,tG (bI.of R5.Ko) (bh e6) ?_⟩⟩;exact ⟨r,w,6,(c.2:Int),d5,_,rfl,e5,rfl,fun H' d' hF=>bE H' d' hF⟩
     . rintro σ H' ⟨vk,vb,rfl,sm,bE⟩
       rw [M.rb.len,show y.2.zipIdx.drop y.2.length=[] from List.drop_eq_nil_of_le (by simp)] at bE;exact ⟨_,rfl,bE H' o z y (M.same sm) gy rfl (S4.trans sm)⟩
end
open Fk (Fault Bytes numIn need andThen Atom Bond Mol PAtom PBond Part)
open Fk (Fault Bytes numIn need andThen PAtom PBond Part)
abbrev b4:=List (PAtom×Nat)×List (PBond×Nat)
def bu (y:b4):Part:=⟨y.1.map fun z=>z.1,y.2.map fun z=>z.1⟩
def K8 (P:Part) (z:(PAtom×Nat)×Nat):Bool:=Fk.isOne z.1.1.hand&&!P.handed z.2
def K9 (P:Part) (z:PBond×Nat):Bool:=Fk.isOne z.1.side&&!P.sided z.1
def MK (P:Part) (l:List (PBond×Nat)):Except Fault Part:=match l.find? (K9 P) with
 | some z=>.error ⟨6,z.2⟩
 | none=>.ok P
def ML (P:Part) (l:List ((PAtom×Nat)×Nat)) (m:List (PBond×Nat)):Except Fault Part:=match l.find? (K8 P) with
 | some z=>.error ⟨4,z.1.2⟩
 | none=>MK P m
theorem MN (b:Bytes):Fk.judgePart b=Fk.andThen (tU Fk.PARTMARK JM.qL JM.qM b 0) fun y=>ML (bu y) y.1.zipIdx y.2:=by
 unfold Fk.judgePart tU;simp only [JM.Pn,JM.CP,JM.CQ,JM.br,JM.bg];rfl
theorem Ox (P:Part) (z:(PAtom×Nat)×Nat) (l:List ((PAtom×Nat)×Nat)) (m:List (PBond×Nat)):ML P (z::l) m=if K8 P z=true then .error ⟨4,z.1.2⟩ else ML P l m:=by
 unfold ML;rw [List.find?_cons];cases K8 P z<;>rfl
theorem Oz (P:Part) (z:PBond×Nat) (l:List (PBond×Nat)):MK P (z::l)=if K9 P z=true then .error ⟨6,z.2⟩ else MK P l:=by
 unfold MK;rw [List.find?_cons];cases K9 P z<;>rfl
theorem MO {α:Type} {l:List α} {i:Nat} {x:α} (h:l[i]?=some x):l.zipIdx.drop i=(x,i)::l.zipIdx.drop (i+1):=by
 obtain ⟨hl,hg⟩:=List.getElem?_eq_some_iff.mp h;rw [List.drop_eq_getElem_cons (by simpa using hl)];simp [hg]
theorem Xj {α:Type} {l:List α} {i:Nat} {x:α} (h:l[i]?=some x):l.drop i=x::l.drop (i+1):=by
 obtain ⟨hl,hg⟩:=List.getElem?_eq_some_iff.mp h;rw [List.drop_eq_getElem_cons hl,hg]
theorem ZX (b:Bytes) (p:Nat) (y:(PAtom×Nat)×Bytes×Nat) (h:JM.qL b p=.ok y):((y.1.2:Nat):Int)=(y.2.2:Int) - 1:=by
 unfold JM.qL at h;have step:∀ {α β:Type} {x:Except Fault α} {f:α->Except Fault β} {r:β},Fk.andThen x f=.ok r->∃ a,x=.ok a/\f a=.ok r:=fun {α β x f r} h=>by
  cases x with
  | error e=>cases h
  | ok a=>exact ⟨a,rfl,h⟩
 obtain ⟨_,_,h⟩:=step h;obtain ⟨_,_,h⟩:=step h;obtain ⟨_,_,h⟩:=step h;obtain ⟨_,_,h⟩:=step h;obtain ⟨_,_,h⟩:=step h;obtain ⟨_,_,h⟩:=step h;obtain ⟨_,_,h⟩:=step h;obtain ⟨_,_,h⟩:=step h;obtain ⟨g,hg,h⟩:=step h;cases h;have:=(JM.bA hg).2.2.2.2;simp only;omega
theorem ZY (q:Nat×Nat) (b:Bytes) (p:Nat) (y:(PBond×Nat)×Bytes×Nat) (h:JM.qM q b p=.ok y):((y.1.2:Nat):Int)=(y.2.2:Int) - 1:=by
 unfold JM.qM at h;have step:∀ {α β:Type} {x:Except Fault α} {f:α->Except Fault β} {r:β},Fk.andThen x f=.ok r->∃ a,x=.ok a/\f a=.ok r:=fun {α β x f r} h=>by
  cases x with
  | error e=>cases h
  | ok a=>exact ⟨a,rfl,h⟩
 obtain ⟨_,_,h⟩:=step h;obtain ⟨_,_,h⟩:=step h;obtain ⟨_,_,h⟩:=step h;obtain ⟨g,hg,h⟩:=step h;cases h;have:=(JM.bA hg).2.2.2.2;simp only;omega
section
structure BJ (K:Zqq) (t:Ad) (D:Addr->Prop) (H:Hp) (g la lb lr:Addr) (as us:List V) (rs:List Addr) (y:b4):Prop where
 gr:Om t.bK H g la lb lr as us rs (y.2.map JM.c9)
 at_:cQ (B8 t.aO) D H as y.1
 bo:cQ (yx t.aP) D H us y.2
 rise:JM.nv as.length (y.2.map JM.c9)
 nb:y.2.length<=192
def ZZ (K:Zqq) (t:Ad):Sp:=fun vs H Q E=>∃ (a:Addr) (w:Int) (B:Bytes),vs=[.ref a,.int w]/\sG K H a B/\B.length<=6000 /\
 mw t.aH w (Fk.judgePart B) (fun Pt=>∀ H' g la lb lr as us rs y,BJ K t (fun b=>H b=none) H' g la lb lr as us rs y->Pt=bu y->aS H H'->Q (.ref g) H') E
theorem Om.same {C:Addr} {H H':Hp} {g la lb lr:Addr} {as us:List V} {rs:List Addr} {l:List (Nat×Nat)} (G:Om C H g la lb lr as us rs l) (f:aS H H'):Om C H' g la lb lr as us rs l:=
 ⟨let ⟨dx,e⟩:=G.obj;⟨dx,f _ _ e⟩,f _ _ G.atoms,f _ _ G.bonds,G.rows.same f⟩
theorem BJ.same {D:Addr->Prop} {H H':Hp} {g la lb lr:Addr} {as us:List V} {rs:List Addr} {y:b4} (p:BJ K t D H g la lb lr as us rs y) (f:aS H H'):BJ K t D H' g la lb lr as us rs y:=
 ⟨p.gr.same f,p.at_.stay (B8.ok _) fun b o _ e=>f b o e,p.bo.stay (yx.ok _) fun b o _ e=>f b o e,p.rise,p.nb⟩
theorem vS:aQ ["form","which","reader","pattern","k","atom","bond"] ["form","which"] (aF rj):=lR (by decide +kernel)
theorem MQ (y:b4):(bu y).bonds.map (fun x=>(x.a,x.b))=y.2.map JM.c9:=by
 unfold bu JM.c9;simp
theorem sP {n:Nat} {y:b4} (hn:y.1.length=n) (h:JM.nv n (y.2.map JM.c9)) (v:Nat):(bu y).beside v=JM.bG (y.2.map JM.c9) v:=by
 have e:=JM.LC (P:=bu y) (by rw [MQ];unfold Part.n bu;simpa [hn] using h) v;rw [e,MQ]
theorem Xk (T:Txt K mg t):bF P w K mg base (uW P w) 10 t.iy t.kU ["form","which"] (ZZ K t):=by
 have GI:=@Mu P w K mg base t T;have GF:=@sH P w K mg base t T;have GT:=@Fz P w K mg base t T;have GE:=@WY P w K mg base t T;have GG:bF P w K mg base (uW P w) 9 t.gG t.jP ["reader","mark","take_atom","take_bond"] (Kv K t.aG t.aH t.bK t.bR t.bS JM.qL JM.qM (B8 t.aO) (yx t.aP) (fun z=>z.2) (fun z=>z.2) JM.c9):=
   M0 T (B8.ok _) (yx.ok _) ZX ZY JM.Jm (fun ⟨o,dx,e,d,h⟩=>⟨o,e,d,o,_,dx,_,e,h,T.bc,T.dz,T.d8,rfl,rfl⟩) (Z4 T) T.eV.kp T.qz ((Z2 T).mono (by decide)) T.eW.kp T.qA
 obtain ⟨tk4,g4⟩:=T.oV;obtain ⟨tk6,g6⟩:=T.oW;refine T.j9.KZ vS (fun vs H Q E h=>?_) (fun cdv A outer s H vs Q E hr h=>?_)
 . obtain ⟨a,w,B,rfl,_⟩:=h
   rfl
 . obtain ⟨a,w,B,rfl,hB,hlen,bE⟩:=h
   have hr1:dG 1 _:=hr.mono (by decide);have hr2:dG 2 _:=hr.mono (by decide);have Mv:dG 3 _:=hr.mono (by decide);refine ⟨_,ak (aR (i:=2) vS.nd rfl (Or.inl rfl) (qI T.EJ GI hr2 rfl T.EI T.uf .nil bD (af (pv 0) (af (pv 1) au))))
     (ak (aR (i:=3) vS.nd rfl (Or.inl rfl) (bx GG hr rfl T.vD T.jW.kp T.vz .nil c7 (af (pv 2) (af (aU rfl T.wK (v:=.ref t.fh) rfl) (af (aU rfl T.qB (v:=.ref t.bR) rfl) (af (aU rfl T.qC (v:=.ref t.bS) rfl) au))))))
     (ak (fj Jk rfl (tD rfl T.jq (af (aA (pv 3) rfl) au)) (xj rfl (gq (bw (i:=4) vS.nd rfl (Or.inl rfl)) (gq (bw (i:=5) vS.nd rfl (Or.inl rfl)) t6)))
       (az (kL (PW.pt (oE (jr (bx GT hr1 rfl T.A7 T.qO.kp T.A2 .nil bD (af (aA (pv 5) rfl) au))) (lJ (cS qJ (c6 bz (by rfl) T.kM PySem.boot_len (af (bT b6 (aA (pv 3) rfl) (pv 4) (fun _ _=>rfl)) au)) (mD (af aN (af aN au))) rfl))))
         (az (dX (aW (pv 2) T.aL T.dw GF Mv T.dj .nil c7 (af (aU rfl g4 (v:=.int 4) ⟨_,rfl⟩) (af (bT b6 (aA (pv 2) rfl) (pv 4) (fun _ _=>rfl)) au))))) dW)))
     (ak (fj Jk rfl (tD rfl T.jq (af (aA (pv 3) rfl) au)) (xj rfl (gq (bw (i:=4) vS.nd rfl (Or.inl rfl)) (gq (bw (i:=6) vS.nd rfl (Or.inl rfl)) t6)))
       (az (kL (PW.pt (oE (jr (bx GT hr1 rfl T.A7 T.qO.kp T.A2 .nil bD (af (aA (pv 6) rfl) au))) (lJ (uX (jr (bx GE hr2 rfl T.uI T.gU.kp T.uF .nil bD (af (pv 3) (af (pv 6) au))))))))
         (az (dX (aW (pv 2) T.aL T.dw GF Mv T.dj .nil c7 (af (aU rfl g6 (v:=.int 6) ⟨_,rfl⟩) (af (bT b6 (aA (pv 2) rfl) (pv 4) (fun _ _=>rfl)) au))))) dW)))
     (az (aZ (pv 3)))))),?_⟩
   refine ⟨_,rfl,_,rfl,fun r dx nr nd ne=>?_⟩;have MJ:∀ b u,H b=some u->upd (upd H dx (.own r)) r (.ins t.aG dx []) b=some u:=fun b u e=>by rw [aq (ay e nr),aq (ay e nd)];exact e
   have hB':sG K (upd (upd H dx (.own r)) r (.ins t.aG dx [])) a B:=by
     rcases hB with ⟨o,h⟩ | h
     . exact .inl ⟨o,MJ _ _ h⟩
     . exact .inr h
   refine ⟨r,dx,a,w,B,rfl,ai,hB',hlen,fun H1 hp sp nhp nsp R1 F1=>⟨rfl,?_⟩⟩;have S1:aS H H1:=fun b u e=>(jv.made (S:=[]) nr nd F1) b u e (by simp);have old:∀ b,upd (upd H dx (.own r)) r (.ins t.aG dx []) b=none->H b=none:=fun b h=>by
     cases q:H b with
     | none=>rfl
     | some u=>rw [MJ b u q] at h;cases h
   rw [MN] at bE;refine ⟨_,rfl,?_⟩;refine ⟨r,t.fh,Fk.PARTMARK,_,rfl,R1,rfl,rfl,T.wL,bE.andThen'.mono fun y hy bE H2 g la lb lr as us rs b p R2 F2 G2 RA2 RB2 rise=>?_⟩;have S2:aS H H2:=fun c u e=>F2 c u (S1 c u e) (by
     have h1:c ≠ r:=ay e nr;have h2:c ≠ hp:=ay e (old hp nhp);have h3:c ≠ sp:=ay e (old sp nsp);simp [h1];exact ⟨h2,h3⟩)
   have nby:y.2.length<=192:=by
     unfold tU at hy;have step:∀ {α β:Type} {x:Except Fault α} {f:α->Except Fault β} {r:β},Fk.andThen x f=.ok r->∃ a,x=.ok a/\f a=.ok r:=fun {α β x f r} h=>by
       cases x with
       | error e=>cases h
       | ok a=>exact ⟨a,rfl,h⟩
     obtain ⟨_,_,hy⟩:=step hy;obtain ⟨_,_,hy⟩:=step hy;obtain ⟨kk,hk,hy⟩:=step hy;obtain ⟨_,_,hy⟩:=step hy;obtain ⟨yy,hyy,hy⟩:=step hy;obtain ⟨_,_,hy⟩:=step hy;cases hy;have h1:=of_decide_eq_true (JM.bA hk).2.1;have h2:=JM.qN hyy;simp only;unfold Fk.BONDS at h1;omega
   have nn:∀ b,H1 b=none->H b=none:=fun b d=>by
     cases q:H b with
     | none=>rfl
     | some u=>rw [S1 b u q] at d;cases d
   have pat:BJ K t (fun b=>H b=none) H2 g la lb lr as us rs y:=⟨G2,RA2.mono (B8.ok _) nn,RB2.mono (yx.ok _) nn,rise,nby⟩;have Fy:y.1.length=as.length:=RA2.len.symm;have RG:∀ v,(JM.bG (y.2.map JM.c9) v).length<=1000:=fun v=>by
     have:=sJ (y.2.map JM.c9) v;rw [List.length_map] at this;omega
   obtain ⟨dg,eg⟩:=G2.obj;refine ⟨_,rfl,fld eg T.jj T.gO rfl ⟨la,as,rfl,bI.of G2.atoms,?_⟩⟩;let xf:L2.Iv:=fun i σ H'=>∃ vk va,σ=[some (.ref a),some (.int w),some (.ref r),some (.ref g),vk,va,none]/\aS H2 H' /\
     mw t.aH w (ML (bu y) (y.1.zipIdx.drop i) y.2) (fun Pt=>∀ H' g la lb lr as us rs y,BJ K t (fun b=>H b=none) H' g la lb lr as us rs y->Pt=bu y->aS H H'->Q (.ref g) H') E
   refine pX (K:=K) (a:=la) (xs:=as) xf
     ⟨none,none,rfl,aS.refl _,bE⟩ (fun i σ H' _ ⟨_,_,_,sm,_⟩=>bI.of (sm _ _ G2.atoms)) ?_ ?_
   . rintro i x σ H' Tt hx ⟨vk,va,rfl,sm,bE⟩ hT
     have hi:i < as.length:=(Zqz hx);obtain ⟨z,hz⟩:∃ z,y.1[i]?=some z:=⟨_,List.getElem?_eq_getElem (by omega)⟩;obtain ⟨o,dxo,ln,tc,th,tn,tt,rfl,rep⟩:=RA2.at_ i x z hx hz;rw [MO hz,Ox] at bE;have sm':aS H2 (upd H' Tt (.tup [.int (i:Int),.ref o])):=sm.trans (aK hT);refine ⟨Tt,_,rfl,oj.of ai,rfl,_,_,rfl,_,_,rfl,rfl,?_⟩;refine ⟨_,rfl,fld (sm' _ _ rep.obj) T.b7 T.cW rfl ?_⟩;refine ⟨z.1.hand,rfl,fun H3 s3=>⟨_,rfl,?_⟩⟩;have Nz:aS H2 H3:=sm'.trans s3;cases h1:Fk.isOne z.1.hand with
     | false=>
       have nb:¬ K8 (bu y) (z,i)=true:=by simp [K8,h1]
       rw [if_neg nb] at bE;exact ⟨_,_,rfl,Nz,bE⟩
     | true=>
       have G3:=G2.same Nz;obtain ⟨dg3,eg3⟩:=G3.obj;obtain ⟨ra,Af⟩:∃ ra,rs[i]?=some ra:=⟨_,List.getElem?_eq_getElem (by rw [G3.rows.len];exact hi)⟩;have hA:=G3.rows.at_ _ _ Af;have e1:(rs.map V.ref)[i]?=some (V.ref ra):=by rw [List.getElem?_map,Af];rfl
       refine ⟨_,rfl,fld eg3 T.jj T.cK rfl ⟨_,rfl,tG (bI.of G3.rows.lst) (bh e1) ⟨ra,_,rfl,.inl (bI.of hA),?_⟩⟩⟩;refine ⟨(by show 2<=sizeLine;decide),fun pt hpt=>⟨pt,_,rfl,.inr (oj.of ai),rfl,rfl,_,rfl,?_⟩⟩;have e2:Lk (.int ((vN (JM.bG (y.2.map JM.c9) i)).length:Int)) [.int 3,.int 4]=(bu y).handed i:=by
         rw [show (vN (JM.bG (y.2.map JM.c9) i)).length=(JM.bG (y.2.map JM.c9) i).length by simp [vN]];unfold Fk.Part.handed;rw [sP Fy rise];exact C6 _ 3 4
       rw [if_pos rfl,e2];have sm4:aS H2 (upd H3 pt (.tup [.int 3,.int 4])):=Nz.trans (aK hpt);cases h2:(bu y).handed i with
       | true=>
         have nb:¬ K8 (bu y) (z,i)=true:=by simp [K8,h1,h2]
         rw [if_neg nb] at bE;exact ⟨_,_,rfl,sm4,bE⟩
       | false=>
         have nb:K8 (bu y) (z,i)=true:=by simp [K8,h1,h2]
         rw [if_pos nb] at bE;have R4:=R2.same sm4;obtain ⟨d4,e4⟩:=R4.obj;have e5:((y.1.map fun z=>((z.2:Nat):Int)).map V.int)[i]?=some (V.int (z.2:Int)):=by simp [hz]
         refine ⟨_,rfl,r,d4,_,rfl,e4,rfl,_,rfl,fld e4 T.aL T.cM rfl ⟨_,rfl,tG (bI.of R4.hpl) (bh e5) ?_⟩⟩;exact ⟨r,w,4,(z.2:Int),d4,_,rfl,e4,rfl,fun H' d' hF=>bE H' d' hF⟩
   . rintro σ H' ⟨vk,va,rfl,sm,bE⟩
     rw [<- Fy,show y.1.zipIdx.drop y.1.length=[] from List.drop_eq_nil_of_le (by simp)] at bE;have G3:=G2.same sm;obtain ⟨dg3,eg3⟩:=G3.obj;refine ⟨_,rfl,fld eg3 T.jj T.gP rfl ⟨lb,us,rfl,bI.of G3.bonds,?_⟩⟩;let UG:L2.Iv:=fun i σ H'=>∃ vk vb,σ=[some (.ref a),some (.int w),some (.ref r),some (.ref g),vk,va,vb]/\aS H2 H' /\
       mw t.aH w (MK (bu y) (y.2.drop i)) (fun Pt=>∀ H' g la lb lr as us rs y,BJ K t (fun b=>H b=none) H' g la lb lr as us rs y->Pt=bu y->aS H H'->Q (.ref g) H') E
     refine pX (K:=K) (a:=lb) (xs:=us) UG
       ⟨vk,none,rfl,sm,bE⟩ (fun i σ H' _ ⟨_,_,_,sm,_⟩=>bI.of (sm _ _ G2.bonds)) ?_ ?_
     . rintro i x σ H' Tt hx ⟨vk,vb,rfl,sm,bE⟩ hT
       have hi:i < us.length:=(Zqz hx);obtain ⟨z,hz⟩:∃ z,y.2[i]?=some z:=⟨_,List.getElem?_eq_getElem (by rw [<- RB2.len];exact hi)⟩;obtain ⟨o,dxo,rfl,_,rep⟩:=RB2.at_ i x z hx hz;rw [Xj hz,Oz] at bE;have sm':aS H2 (upd H' Tt (.tup [.int (i:Int),.ref o])):=sm.trans (aK hT);refine ⟨Tt,_,rfl,oj.of ai,rfl,_,_,rfl,_,_,rfl,rfl,?_⟩;refine ⟨_,rfl,fld (sm' _ _ rep) T.bc T.cX rfl ?_⟩;refine ⟨z.1.side,rfl,fun H3 s3=>⟨_,rfl,?_⟩⟩;have Nz:aS H2 H3:=sm'.trans s3;cases h1:Fk.isOne z.1.side with
       | false=>
         have nb:¬ K9 (bu y) z=true:=by simp [K9,h1]
         rw [if_neg nb] at bE;exact ⟨_,_,rfl,Nz,bE⟩
       | true=>
         have G4:=G2.same Nz;obtain ⟨dg4,eg4⟩:=G4.obj;have hq:=rise.1 (JM.c9 z) (List.mem_map_of_mem (List.mem_of_getElem? hz));refine ⟨_,rfl,_,rfl,?_⟩;refine ⟨g,o,dg4,lr,_,rs,as.length,JM.c9 z,JM.bG (y.2.map JM.c9),rfl,eg4,rfl,rfl,G4.rows,⟨o,_,dxo,_,rfl,Nz _ _ rep,T.bc,T.dz,T.d8,rfl,rfl⟩,Nat.lt_trans hq.1 hq.2,hq.2,RG,fun H5 s5=>⟨_,rfl,?_⟩⟩;have Yu:aS H2 H5:=Nz.trans s5;have e2:(vM ((JM.bG (y.2.map JM.c9) (JM.c9 z).1).filter fun x=>x != (JM.c9 z).2).length&&vM ((JM.bG (y.2.map JM.c9) (JM.c9 z).2).filter fun x=>x != (JM.c9 z).1).length)=(bu y).sided z.1:=by
           unfold Fk.Part.sided Fk.Part.endMay Fk.Part.besides;rw [sP Fy rise,sP Fy rise];have one:∀ n:Nat,vM n=(decide (1<=n)&&decide (n<=2)):=fun n=>by
             rw [Bool.eq_iff_iff];simp [vM];omega
           rw [one,one];rfl
         rw [e2];cases h2:(bu y).sided z.1 with
         | true=>
           have nb:¬ K9 (bu y) z=true:=by simp [K9,h1,h2]
           rw [if_neg nb] at bE;exact ⟨_,_,rfl,Yu,bE⟩
         | false=>
           have nb:K9 (bu y) z=true:=by simp [K9,h1,h2]
           rw [if_pos nb] at bE;have R4:=R2.same Yu;obtain ⟨d4,e4⟩:=R4.obj;have e5:((y.2.map fun z=>((z.2:Nat):Int)).map V.int)[i]?=some (V.int (z.2:Int)):=by simp [hz]
           refine ⟨_,rfl,r,d4,_,rfl,e4,rfl,_,rfl,fld e4 T.aL T.cO rfl ⟨_,rfl,tG (bI.of R4.Ko) (bh e5) ?_⟩⟩;exact ⟨r,w,6,(z.2:Int),d4,_,rfl,e4,rfl,fun H' d' hF=>bE H' d' hF⟩
     . rintro σ H' ⟨vk,vb,rfl,sm,bE⟩
       rw [RB2.len,List.drop_length] at bE;exact ⟨_,rfl,bE H' g la lb lr as us rs y (pat.same sm) rfl (S2.trans sm)⟩
def acC (CF:Addr):Sp:=fun vs H Q _=>∃ (a dx:Addr) (w r p:Int),vs=[.ref a]/\H a=some (XR a CF dx)/\yU H dx w r p/\∀ H' l,H' l=some (.lst ([-5,w,r,p].map V.int))->Q (.ref l) H'
theorem abx:aQ ["fault"] ["fault"] (aF r6):=lR (by decide +kernel)
theorem aby (T:Txt K mg t):Tz P w K mg base 1 t.i7 t.lu ["fault"] (acC t.aH):=by
 obtain ⟨tk,g⟩:=T.zx;obtain ⟨oc,od,kV,doc,pm,an,cdv,ct,osl,e,lk,hcd⟩:=T.jC.ex;rw [e] at lk;rw [e];refine Zr lk hcd abx (fun vs H Q E h=>?_) (fun A outer s H vs Q E hr h=>?_)
 . obtain ⟨a,dx,w,r,p,rfl,_⟩:=h
   rfl
 . obtain ⟨a,dx,w,r,p,rfl,ha,hf,k⟩:=h
   refine ⟨_,az (aZ (jM (af (aU rfl g (v:=.int (-5)) ⟨_,rfl⟩) (af (Tu T.jk (pv 0) (by simp) Ik rfl) (af (Tu T.jk (pv 0) (by simp) Mt rfl) (af (Tu T.jk (pv 0) (by simp) Il rfl) au)))))),?_⟩;exact ⟨_,rfl,a,dx,_,_,rfl,ha,hf,rfl,_,rfl,a,dx,_,_,rfl,ha,hf,rfl,_,rfl,a,dx,_,_,rfl,ha,hf,rfl,(by show 4<=sizeLine;decide),fun l hl=>k _ l ai⟩
end
section
def abz:Sp:=fun vs H Q _=>∃ (l:Addr) (r:List Int),vs=[.ref l]/\H l=some (.lst (vI r))/\r.length<=10000000/\∀ H' p,H' p=some (.lst (vI (0::(r.length:Int)::r)))->Q (.ref p) H'
theorem aaa:aQ ["row"] ["row"] (aF vt):=lR (by decide +kernel)
theorem aab (T:Txt K mg t):bF P w K mg base m5 1 t.jV t.nM ["row"] abz:=by
 obtain ⟨tk,g⟩:=T.EO;refine T.lP.ok aaa (fun vs H Q E h=>?_) (fun cdv A outer s H vs Q E hr h=>?_)
 . obtain ⟨l,r,rfl,_⟩:=h
   rfl
 . obtain ⟨l,r,rfl,hl,hr0,k⟩:=h
   refine ⟨_,az (aZ (gJ Jf (jM (af (aU rfl g (v:=.int 0) ⟨_,rfl⟩) (af (c6 bz (by rfl) T.kM PySem.boot_len (af (pv 0) au)) au))) (pv 0))),?_⟩;have ln:(vI r).length=r.length:=by simp [vI]
   refine ⟨_,rfl,l,_,rfl,.inl (bI.of hl),(by show 2<=sizeLine;decide),fun p1 hp1=>?_⟩;have s1:=aK (o:=.lst [V.int 0,V.int ((vI r).length:Int)]) hp1;refine ⟨_,rfl,p1,l,_,_,rfl,rfl,ai,s1 _ _ hl,by rw [sizeLine_eq];simp [ln];omega,fun p2 hp2=>k _ p2 ?_⟩;rw [ai,ln];rfl
end
theorem US {K:Zqq} {H:Hp} {a:Addr} {B:Bytes} (hO:Ib H) (hs:bI K H a (vB B)):sG K H a B:=by
 rcases hs with hs | hs
 . rcases hs with h | ⟨o,h⟩
   . rcases hO a with z | ⟨o,u,z⟩<;>(rw [z] at h;cases h)
   . exact .inl ⟨o,h⟩
 . exact .inr fun H'=>.inr hs
def bytesOf (l:List Int):Bytes:=l.map fun (z:Int)=>UInt8.ofNat z.toNat
theorem Dj (l:List Int):(bytesOf l).length=l.length:=by simp [bytesOf]
theorem UT:∀ l:List Int,(∀ z ∈ l,0<=z/\z<=255)->l.map V.int=vB (bytesOf l)
 | [],_=>rfl
 | z::r,h=>by
  have hz:=h z (by simp)
  have ih:=UT r fun y hy=>h y (by simp [hy])
  have e:((UInt8.ofNat z.toNat).toNat:Int)=z:=by
   rw [UInt8.toNat_ofNat',Nat.mod_eq_of_lt (by omega)];omega
  unfold vB bytesOf at ih ⊢;simp only [List.map_cons,e,ih]
theorem FN (l:List Int) (h:∀ z ∈ l,0<=z/\z<=255):PartNeutral.bytes l=some (bytesOf l):=by
 have hb:NeutralIO.bytes l=true:=by
  unfold NeutralIO.bytes;rw [List.all_eq_true];intro z hz;have:=h z hz;simp [this]
 unfold PartNeutral.bytes;rw [if_pos hb];rfl
def Xl (K:Zqq) (H:Hp) (a:Addr) (xs:List V):Prop:=(∃ o,H a=some (.qh o (.lst xs)))\/∀ H',bI K H' a xs
theorem Xl.same {K:Zqq} {H H':Hp} {a:Addr} {xs:List V} (h:Xl K H a xs) (f:aS H H'):Xl K H' a xs:=by
 rcases h with ⟨o,h⟩ | h
 . exact .inl ⟨o,f _ _ h⟩
 . exact .inr h
theorem FO {l:List Nat} {i:Nat} {x:V} (h:(vN l)[i]?=some x):∃ v,l[i]?=some v/\x=.int (v:Int):=by
 have ev:(vN l)[i]?=(l[i]?).map (fun (v:Nat)=>V.int (v:Int)):=by simp [vN]
 rw [ev] at h;cases q:l[i]? with
 | none=>rw [q] at h;cases h
 | some v=>rw [q] at h;exact ⟨v,rfl,(Option.some.inj h).symm⟩
theorem zip_get {α:Type} {l:List α} {i:Nat} {c:α} (h:l[i]?=some c):l.zipIdx[i]?=some (c,i):=by
 rw [List.getElem?_zipIdx,h];simp
theorem FP {X:Cx} {K0:Zqq} (hK:X.K=K0):IxR X (aaD K0):=by
 subst hK;exact b6
theorem RH {X:Cx} {K0:Zqq} (hK:X.K=K0):BR X (compareOp .NotIn) (rIn K0 true):=by
 subst hK;exact qJ
end MP
namespace JM
open Fk
def uQ (l:List Nat) (v w:Nat):Prop:=∃ p s,l=p++v::w::s
theorem kE {x:Nat} {l:List Nat} {v w:Nat}:uQ (x::l) v w ↔ (x=v/\l.head?=some w)\/uQ l v w:=by
 constructor
 . rintro ⟨p,s,e⟩
   cases p with
   | nil=>
     rw [List.nil_append,List.cons.injEq] at e;obtain ⟨e1,e2⟩:=e;exact .inl ⟨e1,by rw [e2];rfl⟩
   | cons y p=>
     rw [List.cons_append,List.cons.injEq] at e;exact .inr ⟨p,s,e.2⟩
 . rintro (⟨rfl,h⟩ | ⟨p,s,rfl⟩)
   . cases l with
     | nil=>cases h
     | cons y l=>
       cases h;exact ⟨[],l,rfl⟩
   . exact ⟨x::p,s,rfl⟩
theorem Eg {v w:Nat}:¬ uQ [] v w:=by
 rintro ⟨p,s,e⟩;cases p<;>cases e
theorem KA {l:List Nat} {v w:Nat}:uQ l.reverse v w ↔ uQ l w v:=by
 constructor
 . rintro ⟨p,s,e⟩
   refine ⟨s.reverse,p.reverse,?_⟩;have:=congrArg List.reverse e;simpa using this
 . rintro ⟨p,s,rfl⟩
   exact ⟨s.reverse,p.reverse,by simp⟩
theorem uR {l:List Nat} {x v w:Nat}:uQ (l++[x]) v w ↔ uQ l v w\/(l.getLast?=some v/\x=w):=by
 rw [<- KA,List.reverse_append,List.reverse_singleton,List.singleton_append,kE,KA,List.head?_reverse];constructor
 . rintro (⟨a,b⟩ | h)
   . exact .inr ⟨b,a⟩
   . exact .inl h
 . rintro (h | ⟨a,b⟩)
   . exact .inr h
   . exact .inl ⟨b,a⟩
theorem uQ.mem {l:List Nat} {v w:Nat} (h:uQ l v w):v ∈ l/\w ∈ l:=by
 obtain ⟨p,s,rfl⟩:=h;simp
def closed (r:List Nat):List Nat:=r++r.take 1
theorem jL (x:Nat) (l:List Nat):closed (x::l)=x::(l++[x]):=by simp [closed]
theorem sQ {r:List Nat} {v:Nat}:v ∈ closed r ↔ v ∈ r:=by
 cases r with
 | nil=>simp [closed]
 | cons x l=>rw [jL];simp;grind
def Ed (r:List Nat) (v w:Nat):Prop:=uQ (closed r) v w\/uQ (closed r) w v
theorem PL:∀ (t:List Nat) (x z v w:Nat),(v,w) ∈ (x::t).zip (t++[z]) ↔ uQ (x::(t++[z])) v w
 | [],x,z,v,w=>by
   rw [kE]
   simp [uQ,kE]
   constructor
   . rintro ⟨a,b⟩;exact .inl ⟨a.symm,b.symm⟩
   . rintro (⟨a,b⟩ | ⟨p,s,e⟩)
     . exact ⟨a.symm,b.symm⟩
     . cases p with
       | nil=>cases e
       | cons y p=>cases p<;>cases e
 | y::t,x,z,v,w=>by
   rw [kE,List.cons_append,List.zip_cons_cons,List.mem_cons,PL t y z v w]
   simp
   constructor
   . rintro (⟨a,b⟩ | h)
     . exact .inl ⟨a.symm,b.symm⟩
     . exact .inr h
   . rintro (⟨a,b⟩ | h)
     . exact .inl ⟨a.symm,b.symm⟩
     . exact .inr h
theorem sR (r:List Nat) (v w:Nat):nextIn r v w=true ↔ Ed r v w:=by
 have key:∀ a b,(a,b) ∈ r.zip (r.drop 1++r.take 1) ↔ uQ (closed r) a b:=fun a b=>by
   cases r with
   | nil=>
     constructor
     . intro h;simp at h
     . intro h;exact absurd h Eg
   | cons x t=>
     rw [jL];exact PL t x x a b
 unfold nextIn Ed;rw [List.any_eq_true];constructor
 . rintro ⟨⟨a,b⟩,hm,h⟩
   simp only [Bool.or_eq_true,Bool.and_eq_true,beq_iff_eq] at h;rcases h with ⟨rfl,rfl⟩ | ⟨rfl,rfl⟩
   . exact .inl ((key _ _).mp hm)
   . exact .inr ((key _ _).mp hm)
 . rintro (h | h)
   . exact ⟨(v,w),(key _ _).mpr h,by simp⟩
   . exact ⟨(w,v),(key _ _).mpr h,by simp⟩
structure UU (J:Nat->Nat->Prop) (r:List Nat):Prop where
 nd:r.Nodup
 three:3<=r.length
 adj:∀ v w,uQ (closed r) v w->J v w
theorem Xm (x y:Nat) (l:List Nat) (v w:Nat):uQ (closed (x::y::l)) v w ↔ uQ (closed (y::l++[x])) v w:=by
 rw [jL,List.cons_append,jL,kE];rw [show y::(l++[x]++[y])=(y::(l++[x]))++[y] by simp,uR];have e1:(y::(l++[x])).head?=some y:=rfl;have e2:(y::(l++[x])).getLast?=some x:=by
   rw [show y::(l++[x])=(y::l)++[x] by simp,List.getLast?_concat]
 rw [e1,e2];simp;constructor
 . rintro (⟨a,b⟩ | h)
   . exact .inr ⟨a,b⟩
   . exact .inl h
 . rintro (h | ⟨a,b⟩)
   . exact .inr h
   . exact .inl ⟨a,b⟩
theorem rot {J:Nat->Nat->Prop}:∀ (p q:List Nat),q ≠ []->UU J (p++q)->UU J (q++p)/\∀ v w,uQ (closed (q++p)) v w ↔ uQ (closed (p++q)) v w
 | [],q,_,h=>by simpa using h
 | x::p,q,hq,h=>by
   have hne:p++q ≠ []:=by simp [hq]
   obtain ⟨y,l,e⟩:=List.exists_cons_of_ne_nil hne
   have step:∀ v w,uQ (closed (p++(q++[x]))) v w ↔ uQ (closed (x::p++q)) v w:=fun v w=>by
     rw [show p++(q++[x])=y::l++[x] by rw [<- e];simp,show x::p++q=x::y::l by rw [<- e];rfl]
     exact (Xm x y l v w).symm
   have h1:UU J (p++(q++[x])):=by
     refine ⟨?_,?_,fun v w a=>h.adj v w ((step v w).mp a)⟩
     . have pm:List.Perm (x::p++q) (p++(q++[x])):=by
         have a:List.Perm ([x]++(p++q)) ((p++q)++[x]):=List.perm_append_comm;simpa using a
       exact pm.nodup_iff.mp h.nd
     . have:=h.three
       simp at this ⊢;omega
   obtain ⟨h2,h3⟩:=rot p (q++[x]) (by simp) h1;rw [show q++[x]++p=q++x::p by simp] at h2 h3;exact ⟨h2,fun v w=>(h3 v w).trans (step v w)⟩
theorem vU (x:Nat) (t:List Nat) (v w:Nat):uQ (closed (x::t.reverse)) v w ↔ uQ (closed (x::t)) w v:=by
 rw [jL,jL,<- KA];rw [show (x::(t.reverse++[x])).reverse=x::(t++[x]) by simp]
theorem UU.rev {J:Nat->Nat->Prop} (sy:∀ v w,J v w->J w v) {x:Nat} {t:List Nat} (h:UU J (x::t)):UU J (x::t.reverse):=by
 refine ⟨?_,by simpa using h.three,fun v w a=>sy _ _ (h.adj _ _ ((vU x t v w).mp a))⟩;have:=h.nd;rw [List.nodup_cons] at this ⊢;exact ⟨by simpa using this.1,(List.reverse_perm t).nodup_iff.mpr this.2⟩
theorem Iz:∀ l:List Nat,l ≠ []->∃ m ∈ l,∀ x ∈ l,m<=x
 | [x],_=>⟨x,by simp,by simp⟩
 | x::y::l,_=>by
   obtain ⟨m,hm,h⟩:=Iz (y::l) (by simp)
   by_cases c:x<=m
   . exact ⟨x,by simp,fun z hz=>by
       rcases List.mem_cons.mp hz with rfl | hz
       . omega
       . have:=h z hz;omega⟩
   . exact ⟨m,List.mem_cons_of_mem _ hm,fun z hz=>by
       rcases List.mem_cons.mp hz with rfl | hz
       . omega
       . exact h z hz⟩
theorem sS (l:List Nat) (z:Nat):(l++[z]).getLastD 0=z:=by
 rw [List.getLastD_eq_getLast?,List.getLast?_concat];rfl
structure Canon (J:Nat->Nat->Prop) (r:List Nat):Prop where
 cyc:UU J r
 least:∃ m t,r=m::t/\∀ x ∈ t,m < x
 turn:r.getD 1 0 < r.getLastD 0
theorem canon {J:Nat->Nat->Prop} (sy:∀ v w,J v w->J w v) {r:List Nat} (h:UU J r):∃ r',Canon J r'/\(∀ v w,Ed r' v w ↔ Ed r v w)/\r'.length=r.length:=by
 have hne:r ≠ []:=fun e=>by have:=h.three;rw [e] at this;simp at this
 obtain ⟨m,hm,hl⟩:=Iz r hne;obtain ⟨p,s,rfl⟩:=List.append_of_mem hm;obtain ⟨h1,a1⟩:=rot p (m::s) (by simp) h;rw [List.cons_append] at h1 a1;have big:∀ x ∈ s++p,m < x:=fun x hx=>by
   have nd:=h1.nd;rw [List.nodup_cons] at nd;have:m<=x:=hl x (by simp at hx ⊢;grind);have:m ≠ x:=fun e=>nd.1 (e ▸ hx);omega
 have ed1:∀ v w,Ed (m::(s++p)) v w ↔ Ed (p++m::s) v w:=fun v w=>by
   unfold Ed;rw [a1,a1]
 obtain ⟨y,t,e⟩:∃ y t,s++p=y::t:=List.exists_cons_of_ne_nil fun e=>by
   have:=h1.three;rw [e] at this;simp at this
 have tne:t ≠ []:=fun q=>by
   have:=h1.three;rw [e,q] at this;simp at this
 obtain ⟨t',z,e2⟩:∃ t' z,t=t'++[z]:=⟨t.dropLast,t.getLast tne,(List.dropLast_concat_getLast tne).symm⟩;have len:(m::y::(t'++[z])).length=(p++m::s).length:=by
   have:=congrArg List.length e;rw [e2] at this;simp at this ⊢;omega
 rw [e,e2] at h1 ed1 big;have yz:y ≠ z:=fun q=>by
   have nd:=h1.nd;rw [List.nodup_cons,List.nodup_cons] at nd;exact nd.2.1 (by simp [q])
 by_cases c:y < z
 . exact ⟨_,⟨h1,⟨m,_,rfl,big⟩,by
     rw [show m::y::(t'++[z])=(m::y::t')++[z] by simp,sS];exact c⟩,ed1,len⟩
 . refine ⟨m::(y::(t'++[z])).reverse,⟨h1.rev sy,⟨m,_,rfl,fun x hx=>big x (List.mem_reverse.mp hx)⟩,?_⟩,fun v w=>?_,by rw [<- len];simp⟩
   . have:z < y:=by omega
     rw [show m::(y::(t'++[z])).reverse=(m::z::t'.reverse)++[y] by simp,sS];exact this
   . rw [<- ed1]
     unfold Ed;rw [vU,vU];exact Or.comm
variable {M:Mol}
theorem ph (v w:Nat):M.joined v w=true ↔ ∃ x ∈ M.bonds,x.joins v w=true:=by
 unfold Mol.joined Mol.bond;rw [List.find?_isSome]
theorem RI (x:Bond) (v w:Nat):x.joins v w=x.joins w v:=by
 unfold Bond.joins;exact Bool.or_comm _ _
theorem FQ (v w:Nat):M.joined v w=M.joined w v:=by
 rw [Bool.eq_iff_iff,ph,ph];constructor<;>(rintro ⟨x,h1,h2⟩;exact ⟨x,h1,by rw [RI];exact h2⟩)
theorem qV (g:lI M) {v w:Nat} (h:M.joined v w=true):v < M.n/\w < M.n/\v ≠ w:=by
 obtain ⟨x,h1,h2⟩:=(ph v w).mp h;have e:=g.ends (x.a,x.b) (List.mem_map.mpr ⟨x,h1,rfl⟩);unfold Bond.joins at h2;simp only [Bool.or_eq_true,Bool.and_eq_true,beq_iff_eq] at h2;simp only at e;omega
theorem Ah (v w:Nat):w ∈ M.beside v ↔ w < M.n/\M.joined v w=true:=by
 unfold Mol.beside;rw [List.mem_filter,List.mem_range]
abbrev Jn (M:Mol):Nat->Nat->Prop:=fun v w=>M.joined v w=true
def closes (M:Mol) (r:List Nat):Bool:=decide (3<=r.length)&&(M.joined (r.getLastD 0) (r.headD 0)&&decide (r.getD 1 0 < r.getLastD 0))
theorem PM (r:List Nat):M.ringsFrom 0 r=if closes M r=true then [r] else []:=rfl
theorem KC (k:Nat) (r:List Nat):M.ringsFrom (k+1) r=(if closes M r=true then [r] else [])++(M.beside (r.getLastD 0)).flatMap fun w=>if w<=r.headD 0\/r.contains w=true then [] else M.ringsFrom k (r++[w]):=rfl
theorem Yv (g:lI M):∀ (k:Nat) (p s:List Nat),p ≠ []->s.length<=k->(∀ w ∈ s,p.headD 0 < w)->(p++s).Nodup->(∀ v w,uQ (p++s) v w->Jn M v w)->closes M (p++s)=true->p++s ∈ M.ringsFrom k p
 | 0,p,[],_,_,_,_,_,c=>by
   rw [List.append_nil] at c ⊢
   rw [PM,if_pos c]
   simp
 | 0,p,_::_,_,h,_,_,_,_=>by simp at h
 | k+1,p,[],_,_,_,_,_,c=>by
   rw [List.append_nil] at c ⊢
   rw [KC,if_pos c]
   simp
 | k+1,p,w::s,hp,hl,hb,nd,aj,c=>by
   rw [KC]
   refine List.mem_append_right _ (List.mem_flatMap.mpr ⟨w,?_,?_⟩)
   . have lw:uQ (p++w::s) (p.getLastD 0) w:=by
       refine ⟨p.dropLast,s,?_⟩;have e:p.dropLast++[p.getLastD 0]=p:=by
         rw [List.getLastD_eq_getLast?,List.getLast?_eq_some_getLast hp];exact List.dropLast_concat_getLast hp
       calc p++w::s=(p.dropLast++[p.getLastD 0])++w::s:=by rw [e]
         _=_:=by simp
     have j:=aj _ _ lw;exact (Ah _ _).mpr ⟨(qV g j).2.1,j⟩
   . have VA:¬ (w<=p.headD 0\/p.contains w=true):=by
       rintro (h | h)
       . have:=hb w (by simp);omega
       . rw [List.contains_iff_mem] at h
         rw [List.nodup_append] at nd;exact nd.2.2 w h w (by simp) rfl
     rw [if_neg VA];have e:p++w::s=p++[w]++s:=by simp
     rw [e] at nd aj c ⊢;have hd:(p++[w]).headD 0=p.headD 0:=by
       cases p with
       | nil=>exact absurd rfl hp
       | cons y p=>rfl
     exact Yv g k (p++[w]) s (by simp) (by simpa using hl) (fun x hx=>by rw [hd];exact hb x (by simp [hx])) nd aj c
theorem UW:∀ (k:Nat) (p r:List Nat),p ≠ []->p.Nodup->(∀ v w,uQ p v w->Jn M v w)->r ∈ M.ringsFrom k p->∃ s,r=p++s/\(∀ w ∈ s,p.headD 0 < w)/\r.Nodup/\(∀ v w,uQ r v w->Jn M v w)/\closes M r=true
 | 0,p,r,_,nd,aj,h=>by
   rw [PM] at h
   split at h
   . simp at h
     subst h
     exact ⟨[],by simp,by simp,nd,aj,by assumption⟩
   . simp at h
 | k+1,p,r,hp,nd,aj,h=>by
   rw [KC] at h
   rcases List.mem_append.mp h with h | h
   . split at h
     . simp at h
       subst h
       exact ⟨[],by simp,by simp,nd,aj,by assumption⟩
     . simp at h
   . obtain ⟨w,hw,h⟩:=List.mem_flatMap.mp h
     split at h
     . simp at h
     . rename_i c
       have c1:p.headD 0 < w:=by
         have:¬ w<=p.headD 0:=fun q=>c (.inl q);omega
       have c2:w ∉ p:=fun q=>c (.inr (List.contains_iff_mem.mpr q));have nd':(p++[w]).Nodup:=by
         rw [List.nodup_append];exact ⟨nd,by simp,fun a ha b hb=>by
           simp at hb;subst hb;exact fun q=>c2 (q ▸ ha)⟩
       have aj':∀ v u,uQ (p++[w]) v u->Jn M v u:=fun v u a=>by
         rcases uR.mp a with a | ⟨a',rfl⟩
         . exact aj v u a
         . have e:p.getLastD 0=v:=by rw [List.getLastD_eq_getLast?,a'];rfl
           rw [e] at hw;exact ((Ah _ _).mp hw).2
       obtain ⟨s,e,h1,h2,h3,h4⟩:=UW k (p++[w]) r (by simp) nd' aj' h;have hd:(p++[w]).headD 0=p.headD 0:=by
         cases p with
         | nil=>exact absurd rfl hp
         | cons y p=>rfl
       refine ⟨w::s,by rw [e];simp,fun x hx=>?_,h2,h3,h4⟩;rcases List.mem_cons.mp hx with rfl | hx
       . exact c1
       . have:=h1 x hx
         rw [hd] at this;exact this
theorem tW:∀ (n:Nat) (l:List Nat),l.Nodup->(∀ x ∈ l,x < n)->l.length<=n
 | 0,[],_,_=>by simp
 | 0,x::l,_,h=>absurd (h x (by simp)) (by omega)
 | n+1,l,nd,h=>by
   have ih:=tW n (l.erase n) (nd.erase n) (fun x hx=>by
     have:=(nd.mem_erase_iff).mp hx
     have:=h x this.2
     omega)
   by_cases c:n ∈ l
   . have:=List.length_erase_of_mem c
     omega
   . rw [List.erase_of_not_mem c] at ih
     omega
theorem FT (r:List Nat):closes M r=true ↔ 3<=r.length/\M.joined (r.getLastD 0) (r.headD 0)=true/\r.getD 1 0 < r.getLastD 0:=by
 unfold closes;simp [Bool.and_eq_true]
theorem jZ {r:List Nat} (hr:r ≠ []) (v w:Nat):uQ (closed r) v w ↔ uQ r v w\/(r.getLastD 0=v/\r.headD 0=w):=by
 cases r with
 | nil=>exact absurd rfl hr
 | cons x t=>
  have:closed (x::t)=(x::t)++[x]:=by simp [closed]
  rw [this,uR,List.getLastD_eq_getLast?,List.getLast?_eq_some_getLast hr];simp
theorem uS (g:lI M) (r:List Nat):r ∈ M.ringRows ↔ Canon (Jn M) r:=by
 have e:r ∈ M.ringRows ↔ r.length<=M.n/\∃ v < M.n,r ∈ M.ringsFrom M.n [v]:=by
   unfold Mol.ringRows;simp only [List.mem_flatMap,List.mem_filter,List.mem_range,beq_iff_eq];constructor
   . rintro ⟨k,hk,⟨v,hv,h⟩,rfl⟩
     exact ⟨by omega,v,hv,h⟩
   . rintro ⟨hk,v,hv,h⟩
     exact ⟨r.length,by omega,⟨v,hv,h⟩,rfl⟩
 rw [e];constructor
 . rintro ⟨_,v,hv,h⟩
   have na:∀ a b,¬ uQ [v] a b:=fun a b q=>by
     rcases kE.mp q with ⟨_,q⟩ | q
     . cases q
     . exact Eg q
   obtain ⟨s,rfl,h1,h2,h3,h4⟩:=UW M.n [v] r (by simp) (by simp) (fun a b q=>absurd q (na a b)) h;obtain ⟨c1,c2,c3⟩:=(FT _).mp h4;refine ⟨⟨h2,c1,fun a b q=>?_⟩,⟨v,s,rfl,h1⟩,c3⟩;rcases (jZ (by simp) a b).mp q with q | ⟨rfl,rfl⟩
   . exact h3 a b q
   . exact c2
 . rintro ⟨⟨nd,l3,aj⟩,⟨m,t,rfl,lt⟩,tn⟩
   have ajr:∀ v w,uQ (m::t) v w->Jn M v w:=fun v w q=>aj v w ((jZ (by simp) v w).mpr (.inl q));have cl:M.joined ((m::t).getLastD 0) ((m::t).headD 0)=true:=aj _ _ ((jZ (by simp) _ _).mpr (.inr ⟨rfl,rfl⟩));have lts:∀ x ∈ m::t,x < M.n:=by
     intro x hx;obtain ⟨p,s,e⟩:=List.append_of_mem hx;have:∃ w,uQ (closed (m::t)) x w:=by
       cases s with
       | nil=>exact ⟨m,(jZ (by simp) _ _).mpr (.inr ⟨by rw [e,sS],rfl⟩)⟩
       | cons w s=>exact ⟨w,(jZ (by simp) _ _).mpr (.inl ⟨p,s,e⟩)⟩
     obtain ⟨w,hw⟩:=this;exact (qV g (aj _ _ hw)).1
   have ln:=tW M.n (m::t) nd lts;refine ⟨ln,m,lts m (by simp),?_⟩;have:=Yv g M.n [m] t (by simp) (by simp at ln;omega) lt nd ajr ((FT _).mpr ⟨l3,cl,tn⟩);exact this
inductive Wk (S:Nat->Nat->Prop) (x:Nat):Nat->Nat->Prop
 | refl:Wk S x 0 x
 | step {k y z:Nat}:Wk S x k y->S y z->Wk S x (k+1) z
theorem Wk.head {S:Nat->Nat->Prop} {x y z k:Nat} (h:S x y) (r:Wk S y k z):Wk S x (k+1) z:=by
 induction r with
 | refl=>exact .step .refl h
 | step _ s ih=>exact .step ih s
theorem PN {S:Nat->Nat->Prop}:∀ (t:List Nat) (x:Nat),(∀ v w,uQ (x::t) v w->S v w)->Wk S x t.length ((x::t).getLastD 0)
 | [],x,_=>.refl
 | y::t,x,h=>by
  have:=PN t y fun v w a=>h v w (kE.mpr (.inr a))
  have e:(x::y::t).getLastD 0=(y::t).getLastD 0:=rfl
  rw [e]
  exact this.head (h x y (kE.mpr (.inl ⟨rfl,rfl⟩)))
theorem Xn {p s:List Nat} {v w:Nat} (h:uQ p v w):uQ (p++s) v w:=by
 obtain ⟨a,b,rfl⟩:=h;exact ⟨a,b++s,by simp⟩
theorem Xo {S:Nat->Nat->Prop} {x y k:Nat} (h:Wk S x k y):∃ l:List Nat,l.Nodup/\l.head?=some x/\l.getLast?=some y/\(∀ v w,uQ l v w->S v w)/\l.length<=k+1:=by
 induction h with
 | refl=>exact ⟨[x],by simp,rfl,rfl,fun v w a=>by
     rcases kE.mp a with ⟨_,q⟩ | q
     . cases q
     . exact absurd q Eg,by simp⟩
 | @step k y z _ s ih=>
   obtain ⟨l,nd,hd,la,aj,le⟩:=ih;by_cases c:z ∈ l
   . obtain ⟨p,s',rfl⟩:=List.append_of_mem c
     have e:p++z::s'=(p++[z])++s':=by simp
     refine ⟨p++[z],?_,?_,by simp,fun v w a=>aj v w (by rw [e];exact Xn a),by simp at le ⊢;omega⟩
     . rw [e,List.nodup_append] at nd
       exact nd.1
     . cases p with
       | nil=>exact hd
       | cons u p=>exact hd
   . refine ⟨l++[z],?_,?_,by simp,fun v w a=>?_,by simp;exact le⟩
     . rw [List.nodup_append]
       exact ⟨nd,by simp,fun a ha b hb=>by
         simp at hb;subst hb;exact fun q=>c (q ▸ ha)⟩
     . cases l with
       | nil=>cases hd
       | cons u p=>exact hd
     . rcases uR.mp a with a | ⟨a',rfl⟩
       . exact aj v w a
       . rw [la] at a'
         cases a';exact s
variable {M:Mol}
def qc (M:Mol) (a b v w:Nat):Prop:=M.joined v w=true/\¬ (v=a/\w=b)
theorem O0 (M:Mol):∀ v w,Jn M v w->Jn M w v:=fun v w h=>by
 show M.joined w v=true
 rw [FQ]
 exact h
theorem KD {a b k:Nat} (ne:a ≠ b) (jo:M.joined a b=true) (h:Wk (qc M a b) a k b):∃ r,Canon (Jn M) r/\Ed r a b/\r.length<=k+1:=by
 obtain ⟨l,nd,hd,la,aj,le⟩:=Xo h;cases l with
 | nil=>cases hd
 | cons u t=>
   cases hd;cases t with
   | nil=>
     have:a=b:=by simpa using la
     exact absurd this ne
   | cons y t=>
     cases t with
     | nil=>
       have e:y=b:=by simpa using la
       subst e;exact absurd ⟨rfl,rfl⟩ (aj a y ⟨[],[],rfl⟩).2
     | cons z t=>
       have last:(a::y::z::t).getLastD 0=b:=by rw [List.getLastD_eq_getLast?,la];rfl
       have cy:UU (Jn M) (a::y::z::t):=⟨nd,by simp,fun v w q=>by
         rcases (jZ (by simp) v w).mp q with q | ⟨e1,e2⟩
         . exact (aj v w q).1
         . rw [last] at e1
           cases e1;cases e2;exact O0 M _ _ jo⟩
       obtain ⟨r,hc,he,len⟩:=canon (O0 M) cy;exact ⟨r,hc,(he a b).mpr (.inr ((jZ (by simp) _ _).mpr (.inr ⟨last,rfl⟩))),by rw [len];exact le⟩
theorem FU {a b:Nat} {r:List Nat} (cy:UU (Jn M) r) (h:uQ (closed r) b a):Wk (qc M a b) a (r.length - 1) b:=by
 have hb:b ∈ r:=sQ.mp h.mem.1;obtain ⟨p,s,rfl⟩:=List.append_of_mem hb;obtain ⟨c1,e1⟩:=rot p (b::s) (by simp) cy;have h1:=(e1 b a).mpr h;rw [List.cons_append] at c1 h1;have el:(p++b::s).length=(s++p).length+1:=by simp;omega
 rw [el];generalize s++p=t at c1 h1 ⊢;have nd:=c1.nd;rw [List.nodup_cons] at nd;have len:=c1.three;rw [jL] at h1;have hh:(t++[b]).head?=some a:=by
   rcases kE.mp h1 with ⟨_,q⟩ | q
   . exact q
   . rcases uR.mp q with q | ⟨q,_⟩
     . exact absurd q.mem.1 nd.1
     . exact absurd (List.mem_of_getLast? q) nd.1
 cases t with
 | nil=>simp at len
 | cons u t=>
   cases hh;cases t with
   | nil=>simp at len
   | cons y t=>
     have sub:∀ v w,uQ (a::((y::t)++[b])) v w->uQ (closed (b::a::y::t)) v w:=fun v w q=>by
       rw [jL];exact kE.mpr (.inr q)
     have nd2:=nd.2;rw [List.nodup_cons] at nd2;have:=PN (S:=qc M a b) ((y::t)++[b]) a fun v w q=>⟨c1.adj v w (sub v w q),fun ⟨ev,ew⟩=>by
       subst ev;subst ew;rcases kE.mp q with ⟨_,q⟩ | q
       . cases q
         exact nd.1 (by simp)
       . rcases uR.mp q with q | ⟨q,_⟩
         . exact nd2.1 q.mem.1
         . exact nd2.1 (List.mem_of_getLast? q)⟩
     have e:(a::((y::t)++[b])).getLastD 0=b:=by
       rw [show a::((y::t)++[b])=(a::y::t)++[b] by simp,sS]
     rw [e] at this;have el2:(a::y::t).length+1 - 1=((y::t)++[b]).length:=by simp
     rw [el2];exact this
theorem BK {a b:Nat} {r:List Nat} (cy:UU (Jn M) r) (h:Ed r a b):Wk (qc M a b) a (r.length - 1) b:=by
 rcases h with h | h
 . cases r with
   | nil=>exact absurd h Eg
   | cons x t=>
     have:=FU (cy.rev (O0 M)) ((vU x t b a).mpr h);simp only [List.length_cons,List.length_reverse] at this ⊢;exact this
 . exact FU cy h
theorem MR {α:Type} (f:α->Bool):∀ (l:List α) (j acc:Nat),acc < 2 ^ j->∀ i,(((l.zipIdx j).map fun x=>if f x.1=true then 2 ^ x.2 else 0).foldl (fun (a b:Nat)=>a+b) acc).testBit i=if i < j then acc.testBit i else ((l[i - j]?).map f).getD false
 | [],j,acc,h,i=>by
   show acc.testBit i=_
   split
   . rfl
   . rename_i c
     exact Nat.testBit_lt_two_pow (Nat.lt_of_lt_of_le h (Nat.pow_le_pow_right (by decide) (by omega)))
 | x::l,j,acc,h,i=>by
   rw [List.zipIdx_cons,List.map_cons,List.foldl_cons]
   simp only
   have p2:2 ^ (j+1)=2 ^ j+2 ^ j:=by rw [Nat.pow_succ];omega
   have hb:acc+(if f x=true then 2 ^ j else 0) < 2 ^ (j+1):=by
     split<;>omega
   rw [MR f l (j+1) _ hb i];have bit:(acc+(if f x=true then 2 ^ j else 0)).testBit i=if i < j then acc.testBit i else if i=j then f x else (acc+(if f x=true then 2 ^ j else 0)).testBit i:=by
     cases hf:f x with
     | false=>
       simp only [Bool.false_eq_true,if_false,Nat.add_zero];split
       . rfl
       . split
         . rename_i c e
           rw [e];exact Nat.testBit_lt_two_pow h
         . rfl
     | true=>
       simp only [if_true];have e:acc+2 ^ j=2 ^ j * 1 ||| acc:=by
         rw [<- Nat.two_pow_add_eq_or_of_lt h 1];omega
       split
       . rename_i c
         rw [e,Nat.mul_one,Nat.testBit_or,Nat.testBit_two_pow];have:decide (j=i)=false:=decide_eq_false (by omega);simp [this]
       . split
         . rename_i c e'
           rw [e,e',Nat.mul_one,Nat.testBit_or,Nat.testBit_two_pow];simp
         . rfl
   by_cases c1:i < j
   . rw [if_pos (by omega),if_pos c1,bit,if_pos c1]
   . by_cases c2:i=j
     . rw [if_pos (show i < j+1 by omega),if_neg c1,bit,if_neg c1,if_pos c2,c2]
       simp
     . rw [if_neg (by omega),if_neg c1]
       rw [show i - j=(i - (j+1))+1 by omega];simp
theorem sU (M:Mol) (r:List Nat) {k:Nat} {x:Bond} (h:M.bonds[k]?=some x):(M.bitsOf r).testBit k=nextIn r x.a x.b:=by
 unfold Mol.bitsOf;have:=MR (fun x:Bond=>nextIn r x.a x.b) M.bonds 0 0 (by decide) k;rw [if_neg (by omega),Nat.sub_zero,h] at this;exact this
theorem MS {α:Type} {R:α->α->Prop} {p:α->Bool}:∀ {l:List α} {r q:α},l.Pairwise R->l.find? p=some r->q ∈ l->p q=true->r=q\/R r q
 | [],_,_,_,h,_,_=>by cases h
 | x::l,r,q,pw,h,hq,pq=>by
   rw [List.pairwise_cons] at pw
   cases px:p x with
   | true=>
     rw [List.find?_cons_of_pos px] at h
     cases h
     rcases List.mem_cons.mp hq with e | hq
     . exact .inl e.symm
     . exact .inr (pw.1 q hq)
   | false=>
     rw [List.find?_cons_of_neg (by rw [px];exact Bool.false_ne_true)] at h
     rcases List.mem_cons.mp hq with e | hq
     . rw [<- e,pq] at px
       cases px
     . exact MS pw.2 h hq pq
theorem UX (l:List (List Nat)):∀ m:Nat,((List.range m).flatMap fun k=>l.filter fun r=>r.length==k).Pairwise fun r q=>r.length<=q.length
 | 0=>.nil
 | m+1=>by
   rw [List.range_succ,List.flatMap_append,List.pairwise_append]
   refine ⟨UX l m,?_,fun r hr q hq=>?_⟩
   . simp only [List.flatMap_cons,List.flatMap_nil,List.append_nil]
     rw [List.pairwise_filter]
     exact List.pairwise_of_forall fun a b ha hb=>by
       simp only [beq_iff_eq] at ha hb
       omega
   . simp only [List.mem_flatMap,List.mem_range,List.mem_filter,beq_iff_eq,List.mem_singleton] at hr hq
     obtain ⟨k,hk,_,h1⟩:=hr
     obtain ⟨k',hk',_,h2⟩:=hq
     omega
theorem UY (M:Mol):M.ringRows.Pairwise fun r q=>r.length<=q.length:=UX _ _
def tX (M:Mol) (p:List Nat->Bool):Nat:=((M.ringRows.find? p).map List.length).getD 0
theorem FW {p:List Nat->Bool} (h:tX M p ≠ 0):∃ r ∈ M.ringRows,p r=true/\r.length=tX M p:=by
 unfold tX at h ⊢;cases e:M.ringRows.find? p with
 | none=>rw [e] at h;exact absurd rfl h
 | some r=>exact ⟨r,List.mem_of_find?_eq_some e,List.find?_some e,rfl⟩
theorem lo_le (g:lI M) {p:List Nat->Bool} {r:List Nat} (hr:r ∈ M.ringRows) (hp:p r=true):tX M p<=r.length/\tX M p ≠ 0:=by
 unfold tX;cases e:M.ringRows.find? p with
 | none=>exact absurd hp (List.find?_eq_none.mp e r hr)
 | some q=>
   have c3:=((uS g q).mp (List.mem_of_find?_eq_some e)).cyc.three;simp only [Option.map_some,Option.getD_some];rcases MS (UY M) e hr hp with rfl | h
   . exact ⟨Nat.le_refl _,by omega⟩
   . exact ⟨h,by omega⟩
theorem MT {k:Nat} (hk:k < M.bonds.length):M.leastBonds.getD k 0=tX M fun r=>(M.bitsOf r).testBit k:=by
 unfold Mol.leastBonds;simp only;rw [List.getD,List.getElem?_map,List.getElem?_range hk];rfl
theorem Yw {v:Nat} (hv:v < M.n):M.leastAtoms.getD v 0=tX M fun r=>r.contains v:=by
 unfold Mol.leastAtoms;simp only;rw [List.getD,List.getElem?_map,List.getElem?_range hv];rfl
theorem Dk {k:Nat} {x:Bond} (h:M.bonds[k]?=some x):M.joined x.a x.b=true:=(ph _ _).mpr ⟨x,List.mem_of_getElem? h,by simp [Bond.joins]⟩
theorem O1 (g:lI M) {k:Nat} {x:Bond} (h:M.bonds[k]?=some x) {d:Nat} (hd:Wk (qc M x.a x.b) x.a d x.b) (le:∀ j,Wk (qc M x.a x.b) x.a j x.b->d<=j):M.leastBonds.getD k 0=d+1:=by
 rw [MT (Zqz h)];have jo:=Dk h;obtain ⟨r,hc,he,hl⟩:=KD (qV g jo).2.2 jo hd;obtain ⟨l1,l2⟩:=lo_le g (p:=fun r=>(M.bitsOf r).testBit k) ((uS g r).mpr hc) (by rw [sU M r h];exact (sR r _ _).mpr he);obtain ⟨q,hq,pq,el⟩:=FW l2;rw [sU M q h] at pq;have cq:=((uS g q).mp hq).cyc;have:=le _ (BK cq ((sR q _ _).mp pq));have:=cq.three;omega
theorem Xp (g:lI M) {k:Nat} {x:Bond} (h:M.bonds[k]?=some x) (no:∀ j,¬ Wk (qc M x.a x.b) x.a j x.b):M.leastBonds.getD k 0=0:=by
 rw [MT (Zqz h)];refine Classical.byContradiction fun c=>?_;obtain ⟨q,hq,pq,_⟩:=FW c;rw [sU M q h] at pq;exact no _ (BK ((uS g q).mp hq).cyc ((sR q _ _).mp pq))
theorem PR (g:lI M) {r:List Nat} {v:Nat} (hr:r ∈ M.ringRows) (hv:v ∈ r):∃ (k:Nat) (x:Bond),M.bonds[k]?=some x/\(x.a=v\/x.b=v)/\(M.bitsOf r).testBit k=true:=by
 have cn:=(uS g r).mp hr;obtain ⟨p,s,e⟩:=List.append_of_mem hv;have hne:r ≠ []:=fun q=>by rw [q] at hv;simp at hv
 obtain ⟨w,hw⟩:∃ w,uQ (closed r) v w:=by
   cases s with
   | nil=>exact ⟨r.headD 0,(jZ hne _ _).mpr (.inr ⟨by rw [e,sS],rfl⟩)⟩
   | cons w s=>exact ⟨w,(jZ hne _ _).mpr (.inl ⟨p,s,e⟩)⟩
 obtain ⟨x,hx,hj⟩:=(ph v w).mp (cn.cyc.adj v w hw);obtain ⟨k,hk⟩:=List.getElem?_of_mem hx;unfold Bond.joins at hj;simp only [Bool.or_eq_true,Bool.and_eq_true,beq_iff_eq] at hj;refine ⟨k,x,hk,by omega,?_⟩;rw [sU M r hk,sR];rcases hj with ⟨rfl,rfl⟩ | ⟨rfl,rfl⟩
 . exact .inl hw
 . exact .inr hw
theorem Xq {r:List Nat} {k:Nat} {x:Bond} (h:M.bonds[k]?=some x) (hb:(M.bitsOf r).testBit k=true):x.a ∈ r/\x.b ∈ r:=by
 rw [sU M r h,sR] at hb;rcases hb with q | q
 . exact ⟨sQ.mp q.mem.1,sQ.mp q.mem.2⟩
 . exact ⟨sQ.mp q.mem.2,sQ.mp q.mem.1⟩
theorem Xr (g:lI M) {v:Nat} (hv:v < M.n) (no:∀ (k:Nat) (x:Bond),M.bonds[k]?=some x->(x.a=v\/x.b=v)->M.leastBonds.getD k 0=0):M.leastAtoms.getD v 0=0:=by
 rw [Yw hv];refine Classical.byContradiction fun c=>?_;obtain ⟨r,hr,hp,_⟩:=FW c;obtain ⟨k,x,hk,hx,hb⟩:=PR g hr (List.contains_iff_mem.mp hp);have:=no k x hk hx;rw [MT (Zqz hk)] at this;exact (lo_le g (p:=fun r=>(M.bitsOf r).testBit k) hr hb).2 this
theorem O2 (g:lI M) {v:Nat} (hv:v < M.n) {k:Nat} {x:Bond} (hk:M.bonds[k]?=some x) (hx:x.a=v\/x.b=v) (h0:M.leastBonds.getD k 0 ≠ 0)
   (le:∀ (j:Nat) (z:Bond),M.bonds[j]?=some z->(z.a=v\/z.b=v)->M.leastBonds.getD j 0 ≠ 0->M.leastBonds.getD k 0<=M.leastBonds.getD j 0):M.leastAtoms.getD v 0=M.leastBonds.getD k 0:=by
 have hk':=(Zqz hk);rw [Yw hv];have e:=MT hk';obtain ⟨r,hr,hp,el⟩:=FW (e ▸ h0);have hvr:v ∈ r:=by
   have:=Xq hk hp;rcases hx with rfl | rfl
   . exact this.1
   . exact this.2
 obtain ⟨l1,l2⟩:=lo_le g (p:=fun r=>r.contains v) hr (List.contains_iff_mem.mpr hvr);obtain ⟨q,hq,pq,eq⟩:=FW l2;obtain ⟨j,z,hj,hz,hb⟩:=PR g hq (List.contains_iff_mem.mp pq);obtain ⟨l3,l4⟩:=lo_le g (p:=fun r=>(M.bitsOf r).testBit j) hq hb;have e2:=MT (Zqz hj);have:=le j z hj hz (e2 ▸ l4);rw [e] at this ⊢;rw [e2] at this;omega
end JM
namespace MP
open PySem PySem.Spec PyProof.Rows L2
open XL (gF)
open Fk (Fault Bytes numIn need andThen Atom Bond Mol PAtom PBond Part)
open JM (aB aE gS d9)
def ds (L:List (Nat×Nat)):List (Key×V):=L.map fun p=>(Sum.inl (p.1:Int),V.int (p.2:Int))
theorem KG {v:Nat}:∀ {L:List (Nat×Nat)},v ∉ L.map Prod.fst->kh (ds L) (Sum.inl (v:Int))=none
 | [],_=>rfl
 | x::L,h=>by
  simp only [List.map_cons,List.mem_cons,not_or] at h
  show kh ((Sum.inl (x.1:Int),V.int (x.2:Int))::ds L) _=_
  rw [jz (fun q=>h.1 (by have:=Sum.inl.inj q;omega))]
  exact KG h.2
theorem MU {v d:Nat}:∀ {L:List (Nat×Nat)},(L.map Prod.fst).Nodup->(v,d) ∈ L->kh (ds L) (Sum.inl (v:Int))=some (.int (d:Int))
 | [],_,h=>by simp at h
 | x::L,nd,h=>by
   rw [List.map_cons,List.nodup_cons] at nd
   show kh ((Sum.inl (x.1:Int),V.int (x.2:Int))::ds L) _=_
   rcases List.mem_cons.mp h with rfl | h
   . exact jy rfl
   . have ne:x.1 ≠ v:=fun q=>nd.1 (q ▸ List.mem_map_of_mem h)
     rw [jz (fun q=>ne (by have:=Sum.inl.inj q;omega))]
     exact MU nd.2 h
theorem aac {L:List (Nat×Nat)} {v d:Nat} (h:v ∉ L.map Prod.fst):putK (ds L) (Sum.inl (v:Int)) (.int (d:Int))=ds (L++[(v,d)]):=by
 unfold putK;have e:((ds L).any fun kv=>decide (kv.1=Sum.inl (v:Int)))=false:=by
  rw [nt,KG h];rfl
 rw [e];simp [ds]
theorem vV (l:List Nat) (v:Nat):vN (l++[v])=vN l++[.int (v:Int)]:=by simp [vN]
theorem KH {c:Bool} (b2:Bool) {te:TE} {σ:L2.St} {H:Hp} {Qf:VK} (hx:∀ Qf:VK,Qf (.bl b2) H->te σ H Qf) (h:Qf (.bl (c&&b2)) H):if c=true then te σ H Qf else Qf (.bl false) H:=by
 cases c with
 | true=>exact qK (hx _ h)
 | false=>exact oF h
structure Yx (M:Mol) (a b:Nat) (L W:List (Nat×Nat)):Prop where
 nd:(L.map Prod.fst).Nodup
 lt:∀ p ∈ L,p.1 < M.n
 re:∀ p ∈ L,JM.Wk (JM.qc M a b) a p.2 p.1
 sub:∀ p ∈ W,p ∈ L
 st:(a,0) ∈ L
 rise:W.Pairwise fun p q=>p.2<=q.2
 few:2 * (M.n - L.length)+W.length<=2 * M.n
structure aad (M:Mol) (a b:Nat) (L W:List (Nat×Nat)):Prop where
 RJ:Yx M a b L W
 near:∀ p ∈ W,∀ q ∈ L,q.2<=p.2+1
 cl:∀ p ∈ L,p ∉ W->∀ u,JM.qc M a b p.1 u->∃ d,(u,d) ∈ L/\d<=p.2+1
theorem aad.done {M:Mol} {a b:Nat} {L:List (Nat×Nat)} (s:aad M a b L []) {k v:Nat} (h:JM.Wk (JM.qc M a b) a k v):∃ d,(v,d) ∈ L/\d<=k:=by
 induction h with
 | refl=>exact ⟨0,s.RJ.st,Nat.le_refl _⟩
 | step _ q ih=>
  obtain ⟨d,hd,le⟩:=ih;obtain ⟨d',hd',le'⟩:=s.cl _ hd (by simp) _ q;exact ⟨d',hd',by omega⟩
theorem Yx.len {M:Mol} {a b:Nat} {L W:List (Nat×Nat)} (s:Yx M a b L W):L.length<=M.n:=by
 have:=JM.tW M.n (L.map Prod.fst) s.nd fun x hx=>by
  obtain ⟨p,hp,rfl⟩:=List.mem_map.mp hx;exact s.lt p hp
 simpa using this
theorem Yx.more {M:Mol} {a b u d:Nat} {L W:List (Nat×Nat)} (s:Yx M a b L W) (hu:u < M.n) (VA:u ∉ L.map Prod.fst) (w:JM.Wk (JM.qc M a b) a d u) (top:∀ q ∈ L,q.2<=d):Yx M a b (L++[(u,d)]) (W++[(u,d)]):=by
 have nd2:((L++[(u,d)]).map Prod.fst).Nodup:=by
   rw [List.map_append,List.nodup_append];exact ⟨s.nd,by simp,fun x hx y hy=>by
     simp at hy;subst hy;exact fun q=>VA (q ▸ hx)⟩
 have lt2:∀ p ∈ L++[(u,d)],p.1 < M.n:=fun p hp=>by
   rcases List.mem_append.mp hp with hp | hp
   . exact s.lt p hp
   . rw [List.mem_singleton.mp hp];exact hu
 have l2:=JM.tW M.n _ nd2 fun x hx=>by
   obtain ⟨p,hp,rfl⟩:=List.mem_map.mp hx;exact lt2 p hp
 rw [List.length_map,List.length_append,List.length_singleton] at l2;refine ⟨nd2,lt2,fun p hp=>?_,fun p hp=>?_,by simp [s.st],?_,?_⟩
 . rcases List.mem_append.mp hp with hp | hp
   . exact s.re p hp
   . rw [List.mem_singleton.mp hp];exact w
 . rcases List.mem_append.mp hp with hp | hp
   . exact List.mem_append_left _ (s.sub p hp)
   . exact List.mem_append_right _ hp
 . rw [List.pairwise_append]
   exact ⟨s.rise,by simp,fun p hp q hq=>by
     rw [List.mem_singleton.mp hq];exact top p (s.sub p hp)⟩
 . have:=s.few
   rw [List.length_append,List.length_append,List.length_singleton];omega
def Gn (y:aB) (k:Nat):Nat:=(aE y).leastBonds.getD k 0
def UZ (y:aB) (v:Nat):Nat:=(aE y).leastAtoms.getD v 0
variable {P:Program} {w:World} {K:Zqq} {mg:Str->Option Value} {base:Heap} {t:Ad}
section
theorem Eh {y:aB} (gy:gc y) {v u:Nat}:u ∈ JM.bG (y.2.map JM.aV) v ↔ u < (aE y).n/\(aE y).joined v u=true:=by
 rw [<- gy.beside,JM.Ah]
theorem qQ {y:aB} {k:Nat} {c:Bond×Nat} (h:y.2[k]?=some c):(aE y).bonds[k]?=some c.1:=by
 show (y.2.map fun z=>z.1)[k]?=_;rw [List.getElem?_map,h];rfl
def Xs (t:Ad):Sp:=fun vs H Q _=>∃ (g o:Addr) (k:Nat) (z:kN) (y:aB) (D:Addr->Prop) (c:Bond×Nat),vs=[.ref g,.ref o]/\ng t D H g z y/\gc y/\z.us[k]?=some (.ref o)/\y.2[k]?=some c /\
 ∀ H',aS H H'->Q (.int (Gn y k:Int)) H'
theorem uT:aQ ["molecule","bond","steps","waiting","atom","other","is_bond_itself"] ["molecule","bond"] (aF iX):=lR (by decide +kernel)
theorem RK (T:Txt K mg t):bF P w K mg base m5 1 t.cg t.fR ["molecule","bond"] (Xs t):=by
 obtain ⟨Oj,g1⟩:=T.yT;refine T.dP.ok uT (fun vs H Q E h=>?_) (fun cdv A outer s H vs Q E hr h=>?_)
 . obtain ⟨g,o,k,z,y,D,c,rfl,_⟩:=h
   rfl
 . obtain ⟨g,o,n,z,y,D,c,rfl,M,gy,ho,hc,k⟩:=h
   have hu:=hr.un;have hu':(A.deeper (envOfC "least_through_bond" (aF iX) s.heap.objs.size t.cg cdv)).units+1 < cLine:=by omega
   refine ⟨_,ak (aR (i:=2) uT.nd rfl (Or.inl rfl) (We (Lw (aA (pv 1) rfl) aN OZ) rfl rfl (by simp) (by decide)))
     (ak (aR (i:=3) uT.nd rfl (Or.inl rfl) (jM (af (aA (pv 1) rfl) au)))
     (ak (Sx PassesOwn.never (S6 (pv 3) (fun _=>rfl))
       (ak (aR (i:=4) uT.nd rfl (Or.inl rfl) (u5 PySem.F.plainAttrs_list PySem.F.slot_list_pop PySem.F.type_list_pop SS (pv 3) (af aN au)))
       (az (fj PassesOwn.never rfl (gE (bT b6 (aA (pv 0) rfl) (pv 4) (fun _ _=>rfl))) (bw (i:=5) uT.nd rfl (Or.inl rfl))
         (ak (aR (i:=6) uT.nd rfl (Or.inl rfl) (xg (e9 om (pv 4) (aA (pv 1) rfl) (bW _)) (uY (e9 om (pv 5) (aA (pv 1) rfl) (bW _)))))
         (az (kL (PW.pt (oE (IV (Qu hu' (pv 5) (pv 2))) (lJ (uX (jr (pv 6))))))
           (ak (Aw hu' (pv 2) (pv 5) (gJ uZ (DR hu' (pv 2) (pv 4) (fun _ _=>rfl)) aN) rfl)
           (az (dX (u5 PySem.F.plainAttrs_list PySem.F.slot_list_append PySem.F.type_list_append jw (pv 3) (af (pv 5) au)))))
           dW)))))))
     (az (aZ (En (IV (Te hu' (aA (pv 1) rfl) (pv 2))) (gJ uZ (DR hu' (pv 2) (aA (pv 1) rfl) (fun _ _=>rfl)) aN) (aU rfl g1 (v:=.int 0) ⟨_,rfl⟩)))))),?_⟩
   obtain ⟨dg,eg⟩:=M.obj;obtain ⟨o',dx,e0,_,rep⟩:=M.rb.at_ n _ c ho hc;cases e0;have gm:=gy.good;have Yy:=qQ hc;have hab:=JM.qV gm (JM.Dk Yy);have sml:=gy.small;have hn:(aE y).n=y.1.length:=yJ y;intro d hd;have s0:aS H (upd H d (.dK [])):=aK hd;refine ⟨_,rfl,fld (s0 _ _ rep) T.gH T.kC rfl ⟨ai,[(Sum.inl (c.1.a:Int),.int 0)],rfl,by show 1<=15;decide,?_⟩⟩;have s1:aS H (upd (upd H d (.dK [])) d (.dK (BZ [] [(Sum.inl (c.1.a:Int),.int 0)]))):=fun b u e=>by rw [aq (ay e hd)];exact s0 b u e
   refine ⟨_,rfl,fld (s1 _ _ rep) T.gH T.kC rfl ⟨(by show 1<=sizeLine;decide),fun lw hlw=>?_⟩⟩;have dlw:d ≠ lw:=fun z=>by rw [<- z,ai] at hlw;cases hlw
   have lwd:lw ≠ d:=fun z=>dlw z.symm;have ab0:H lw=none:=s1.free hlw;have s2:=s1.trans (aK (o:=.lst [.int (c.1.a:Int)]) hlw);dsimp only [HF,YE];show N4 _ _ _ _ _;let xf:L2.St->Hp->Prop:=fun σ H'=>∃ v4 v5 v6 L W,σ=[some (.ref g),some (.ref o),some (.ref d),some (.ref lw),v4,v5,v6]/\aS H H'/\H' d=some (.dK (ds L))/\H' lw=some (.lst (vN (W.map Prod.fst)))/\aad (aE y) c.1.a c.1.b L W;refine S0 xf
     (fun σ H'=>match H' d,H' lw with | some (.dK kvs),some (.lst ws)=>2 * ((aE y).n - kvs.length)+ws.length | _,_=>0)
     ?_ ?_ ?_
   . refine ⟨none,none,none,[(c.1.a,0)],[(c.1.a,0)],rfl,s2,by rw [aq dlw,ai];rfl,ai,⟨by simp,fun p hp=>?_,fun p hp=>?_,fun p hp=>hp,by simp,by simp,by simp;omega⟩,fun p hp q hq=>?_,fun p hp hn=>absurd hp hn⟩
     . rw [List.mem_singleton.mp hp];exact hab.1
     . rw [List.mem_singleton.mp hp];exact .refl
     . rw [List.mem_singleton.mp hq];exact Nat.zero_le _
   rotate_left
   . exact fun σ H Q Q' h ⟨x,e,k,tv,q⟩=>⟨x,e,k,tv,h _ _ q⟩
   rintro σ H1 ⟨v4,v5,v6,L,W,rfl,s3,hd1,hw1,sh⟩;refine ⟨_,rfl,_,.inl ⟨_,bI.of hw1,rfl⟩,?_⟩;cases W with
   | nil=>
     refine oF ?_;refine ⟨_,rfl,fld (s3 _ _ rep) T.gH T.kD rfl ⟨_,rfl,d,_,rfl,qY.k (k:=Sum.inl (c.1.b:Int)) hd1,_,rfl,?_⟩⟩;by_cases hb:c.1.b ∈ L.map Prod.fst
     . obtain ⟨⟨b',e⟩,hm,rfl⟩:=List.mem_map.mp hb
       have hv:=MU sh.RJ.nd hm;have ev:Gn y n=e+1:=JM.O1 gm Yy (sh.RJ.re _ hm) fun j hj=>by
         obtain ⟨d',hd',le⟩:=sh.done hj;have:=hv.symm.trans (MU sh.RJ.nd hd');cases this;exact le
       rw [hv];refine qK ?_;refine ⟨_,rfl,_,rfl,fld (s3 _ _ rep) T.gH T.kD rfl ⟨d,_,rfl,by have:=qY.k (k:=Sum.inl (c.1.b:Int)) hd1;rw [hv] at this;exact this,_,_,rfl,rfl,?_⟩⟩;have:=k _ s3;rw [ev] at this;exact this
     . have ev:Gn y n=0:=JM.Xp gm Yy fun j hj=>by
         obtain ⟨d',hd',_⟩:=sh.done hj;exact hb (List.mem_map_of_mem hd')
       rw [KG hb];refine oF ?_;have:=k _ s3;rw [ev] at this;exact this
   | cons pv W'=>
     obtain ⟨v,dv⟩:=pv;refine qK ?_;have vL:(v,dv) ∈ L:=sh.RJ.sub _ (by simp);have vn:=sh.RJ.lt _ vL;have hw1':H1 lw=some (.lst (.int (v:Int)::vN (W'.map Prod.fst))):=hw1;refine ⟨_,rfl,.inl ⟨rfl,_,bI.of hw1⟩,lw,_,0,0,.int (v:Int),rfl,rfl,hw1',by decide,by decide,by simp [seqIndex?],rfl,?_⟩;rw [List.eraseIdx_cons_zero];have s4:aS H (upd H1 lw (.lst (vN (W'.map Prod.fst)))):=fun b u e=>by rw [aq (ay e ab0)];exact s3 b u e
     obtain ⟨ra,Af⟩:∃ ra,z.rs[v]?=some ra:=⟨_,List.getElem?_eq_getElem (by rw [M.rows.len,M.ra.len,<- hn];exact vn)⟩;have hA:=M.rows.at_ _ _ Af;have e1:(z.rs.map V.ref)[v]?=some (V.ref ra):=by rw [List.getElem?_map,Af];rfl
     refine ⟨_,rfl,fld (s4 _ _ eg) T.aY T.b9 rfl ⟨_,rfl,tG (bI.of (s4 _ _ M.rows.lst)) (bh e1) ⟨ra,rfl,⟨_,bI.of (s4 _ _ hA)⟩,?_⟩⟩⟩;have mu0:(match H1 d,H1 lw with | some (.dK kvs),some (.lst ws)=>2 * ((aE y).n - kvs.length)+ws.length | _,_=>0)=2 * ((aE y).n - L.length)+(W'.length+1):=by
       rw [hd1,hw1];simp [ds,vN]
     have rise:=sh.RJ.rise;rw [List.pairwise_cons] at rise;have few:=sh.RJ.few;rw [List.length_cons] at few;let UG:L2.Iv:=fun i σ H'=>∃ v5 v6 L' W'',σ=[some (.ref g),some (.ref o),some (.ref d),some (.ref lw),some (.int (v:Int)),v5,v6]/\aS H H'/\H' d=some (.dK (ds L'))/\H' lw=some (.lst (vN (W''.map Prod.fst)))/\Yx (aE y) c.1.a c.1.b L' W''/\(v,dv) ∈ L'/\(∀ q ∈ L',q.2<=dv+1)/\(∀ p ∈ W'',dv<=p.2) /\
         (∀ p ∈ L',p ∉ W''->p ≠ (v,dv)->∀ u,JM.qc (aE y) c.1.a c.1.b p.1 u->∃ e,(u,e) ∈ L'/\e<=p.2+1)/\(∀ x ∈ (JM.bG (y.2.map JM.aV) v).take i,JM.qc (aE y) c.1.a c.1.b v x->∃ e,(x,e) ∈ L')/\2 * ((aE y).n - L'.length)+W''.length<=2 * ((aE y).n - L.length)+W'.length
     refine pC (K:=K) (a:=ra) (xs:=vN (JM.bG (y.2.map JM.aV) v)) UG
       ⟨v5,v6,L,W',rfl,s4,by rw [aq dlw];exact hd1,ai,⟨sh.RJ.nd,sh.RJ.lt,sh.RJ.re,fun u hu=>sh.RJ.sub u (by simp [hu]),sh.RJ.st,rise.2,by omega⟩,vL,fun q hq=>sh.near (v,dv) (by simp) q hq,fun p hp=>rise.1 p hp,fun p hp hn ne=>sh.cl p hp (by simp [hn,ne]),by simp,Nat.le_refl _⟩ (fun i σ H' _ ⟨_,_,_,_,_,sm,_⟩=>bI.of (sm _ _ hA)) ?_ ?_
     . rintro i x σ H2 hx ⟨v5,v6,L',W'',rfl,s5,hd2,hw2,fr,vL',top,low,cl,tk,mu⟩
       obtain ⟨u,hu0,rfl⟩:=FO hx;have ju:=(Eh gy).mp (List.mem_of_getElem? hu0);have stay:(JM.qc (aE y) c.1.a c.1.b v u->∃ e,(u,e) ∈ L')->∀ v5 v6,∃ v5' v6' L'' W3,[some (V.ref g),some (.ref o),some (.ref d),some (.ref lw),some (.int (v:Int)),v5,v6]=[some (.ref g),some (.ref o),some (.ref d),some (.ref lw),some (.int (v:Int)),v5',v6']/\aS H H2/\H2 d=some (.dK (ds L''))/\H2 lw=some (.lst (vN (W3.map Prod.fst)))/\Yx (aE y) c.1.a c.1.b L'' W3/\(v,dv) ∈ L''/\(∀ q ∈ L'',q.2<=dv+1)/\(∀ p ∈ W3,dv<=p.2) /\
         (∀ p ∈ L'',p ∉ W3->p ≠ (v,dv)->∀ u,JM.qc (aE y) c.1.a c.1.b p.1 u->∃ e,(u,e) ∈ L''/\e<=p.2+1)/\(∀ x ∈ (JM.bG (y.2.map JM.aV) v).take (i+1),JM.qc (aE y) c.1.a c.1.b v x->∃ e,(x,e) ∈ L'')/\2 * ((aE y).n - L''.length)+W3.length<=2 * ((aE y).n - L.length)+W'.length:=fun hs v5 v6=>⟨v5,v6,L',W'',rfl,s5,hd2,hw2,fr,vL',top,low,cl,fun x hx sx=>by
           rw [take_snoc hu0] at hx
           rcases List.mem_append.mp hx with hx | hx
           . exact tk x hx sx
           . rw [List.mem_singleton.mp hx] at sx ⊢
             exact hs sx,mu⟩
       refine ⟨_,rfl,_,rfl,fld (s5 _ _ rep) T.gH T.kC rfl ⟨rfl,_,rfl,?_⟩⟩;refine KH (decide (V.int (u:Int)=V.int (c.1.b:Int))) ?_ ?_
       . exact fun Qf q=>⟨_,rfl,_,rfl,fld (s5 _ _ rep) T.gH T.kD rfl ⟨rfl,q⟩⟩
       have ei:(decide (V.int (v:Int)=V.int (c.1.a:Int))&&decide (V.int (u:Int)=V.int (c.1.b:Int)))=true ↔ v=c.1.a/\u=c.1.b:=by
         rw [Bool.and_eq_true,decide_eq_true_eq,decide_eq_true_eq];constructor
         . rintro ⟨h1,h2⟩
           cases h1;cases h2;constructor<;>omega
         . rintro ⟨h1,h2⟩
           rw [h1,h2];exact ⟨rfl,rfl⟩
       generalize (decide (V.int (v:Int)=V.int (c.1.a:Int))&&decide (V.int (u:Int)=V.int (c.1.b:Int)))=is at ei;refine ⟨_,rfl,_,rfl,d,_,rfl,qY.k (k:=Sum.inl (u:Int)) hd2,_,rfl,?_⟩;by_cases VA:u ∈ L'.map Prod.fst
       . obtain ⟨⟨u',e⟩,hm,rfl⟩:=List.mem_map.mp VA
         rw [MU fr.nd hm];exact oF (oF (stay (fun _=>⟨e,hm⟩) _ _))
       . rw [KG VA]
         refine qK ?_;refine ⟨_,rfl,_,rfl,?_⟩;cases is with
         | true=>
           have:=ei.mp rfl;exact oF (stay (fun q=>absurd this q.2) _ _)
         | false=>
           have su:JM.qc (aE y) c.1.a c.1.b v u:=⟨ju.2,fun q=>by have:=ei.mpr q;cases this⟩;have l1:(ds L').length=L'.length:=by simp [ds]
           have l2:=fr.len;have l5:=fr.few;have fr2:=fr.more ju.1 VA (.step (fr.re _ vL') su) top;have l3:=fr2.len;rw [List.length_append,List.length_singleton] at l3;have gv:=qY.k (k:=Sum.inl (v:Int)) hd2;rw [MU fr.nd vL'] at gv;refine qK ?_;have pv:=E5.k (k:=Sum.inl (u:Int)) (v:=.int ((dv+1:Nat):Int)) hd2 (by rw [sizeLine_eq];omega);rw [aac VA] at pv;refine ⟨_,rfl,_,rfl,d,_,rfl,gv,_,_,rfl,rfl,_,rfl,_,rfl,d,_,rfl,pv,?_⟩;have hw3:upd H2 d (.dK (ds (L'++[(u,dv+1)]))) lw=some (.lst (vN (W''.map Prod.fst))):=by rw [aq lwd];exact hw2
           have wl:(vN (W''.map Prod.fst)).length=W''.length:=by simp [vN]
           refine ⟨_,rfl,.inl ⟨rfl,_,bI.of hw3⟩,_,rfl,lw,_,_,rfl,rfl,hw3,by rw [sizeLine_eq];omega,?_⟩;refine ⟨_,_,L'++[(u,dv+1)],W''++[(u,dv+1)],rfl,fun b q e=>by rw [aq (ay e ab0),aq (ay e hd)];exact s5 b q e,by rw [aq dlw,ai],by rw [ai,List.map_append];exact congrArg (fun l=>some (HO.lst l)) (vV _ u).symm,fr2,by simp [vL'],fun q hq=>?_,fun p hp=>?_,fun p hp hn ne z hz=>?_,fun x hx sx=>?_,?_⟩
           . rcases List.mem_append.mp hq with hq | hq
             . exact top q hq
             . rw [List.mem_singleton.mp hq];exact Nat.le_refl _
           . rcases List.mem_append.mp hp with hp | hp
             . exact low p hp
             . rw [List.mem_singleton.mp hp];exact Nat.le_succ _
           . rcases List.mem_append.mp hp with hp | hp
             . obtain ⟨e,he,le⟩:=cl p hp (fun q=>hn (List.mem_append_left _ q)) ne z hz
               exact ⟨e,List.mem_append_left _ he,le⟩
             . exact absurd (List.mem_append_right _ hp) hn
           . rw [take_snoc hu0] at hx
             rcases List.mem_append.mp hx with hx | hx
             . obtain ⟨e,he⟩:=tk x hx sx
               exact ⟨e,List.mem_append_left _ he⟩
             . rw [List.mem_singleton.mp hx]
               exact ⟨_,List.mem_append_right _ (List.mem_singleton.mpr rfl)⟩
           . simp only [List.length_append,List.length_singleton]
             omega
     . rintro σ H2 ⟨v5,v6,L',W'',rfl,s5,hd2,hw2,fr,vL',top,low,cl,tk,mu⟩
       rw [show (JM.bG (y.2.map JM.aV) v).take (vN (JM.bG (y.2.map JM.aV) v)).length=JM.bG (y.2.map JM.aV) v from List.take_of_length_le (by simp [vN])] at tk;refine ⟨⟨_,v5,v6,L',W'',rfl,s5,hd2,hw2,fr,fun p hp q hq=>?_,fun q hq hn x hx=>?_⟩,?_⟩
       . have:=top q hq
         have:=low p hp;omega
       . by_cases e:q=(v,dv)
         . subst e
           obtain ⟨e,he⟩:=tk x ((Eh gy).mpr ⟨(JM.qV gm hx.1).2.1,hx.1⟩) hx;exact ⟨e,he,top _ he⟩
         . exact cl q hq hn e x hx
       . rw [mu0,hd2,hw2]
         simp [ds,vN];omega
end
theorem KI (l:List Nat):(vN l).all t7=true:=by
 unfold vN;rw [List.all_map,List.all_eq_true];intro x _;rfl
theorem Va (e:Nat) (l:List Nat):Lk (.int (e:Int)) (vN l)=l.contains e:=by
 unfold Lk vN;rw [List.any_map,Bool.eq_iff_iff,List.any_eq_true,List.contains_iff_mem];constructor
 . rintro ⟨x,hx,h⟩
   have:(x:Int)=(e:Int):=beq_iff_eq.mp h;have:x=e:=by omega
   exact this ▸ hx
 . intro h
   exact ⟨e,h,by show ((e:Int)==(e:Int))=true;simp⟩
theorem Dl {l:List Nat} {i v:Nat} (h:l[i]?=some v):(vN l)[i]?=some (.int (v:Int)):=by
 unfold vN;rw [List.getElem?_map,h];rfl
theorem Ai (l:List Nat):(vN l).length=l.length:=by simp [vN]
def qw:uq (List Nat):=fun D H v f=>∃ a,v=.ref a/\D a/\H a=some (.lst (vN f))
theorem qw.ok:yw qw:=⟨fun ⟨a,e,d,h⟩ k=>⟨a,e,d,k _ _ d h⟩,fun ⟨a,e,d,h⟩ k=>⟨a,e,k _ d,h⟩⟩
def qi (l:List Nat):List Int:=l.map fun (n:Nat)=>(n:Int)
theorem C9 (l:List Nat):vN l=vI (qi l):=by simp [vN,vI,qi]
def rB (y:aB):List Nat:=(List.range y.2.length).map (Gn y)
def rA (y:aB):List Nat:=(List.range y.1.length).map (UZ y)
theorem O3 {y:aB} {k:Nat} (h:k < y.2.length):(vN (rB y))[k]?=some (.int (Gn y k:Int)):=by
 unfold vN rB;simp [h]
theorem aae {y:aB} {k:Nat} (h:k < y.1.length):(vN (rA y))[k]?=some (.int (UZ y k:Int)):=by
 unfold vN rA;simp [h]
def KJ (y:aB) (v u:Nat):Nat:=((y.2.map JM.aV).findIdx? (jE v u)).getD 0
theorem vW {v u:Nat} {q:Nat×Nat}:jE v u q=true ↔ (q.1=v/\q.2=u)\/(q.1=u/\q.2=v):=by
 unfold jE;simp
theorem PU {y:aB} (gy:gc y) {v u k:Nat} {c:Bond×Nat} (hc:y.2[k]?=some c) (hj:jE v u (JM.aV c)=true):(y.2.map JM.aV).findIdx? (jE v u)=some k:=by
 have hk:k < y.2.length:=(Zqz hc);have ek:y.2[k]=c:=(List.getElem?_eq_some_iff.mp hc).2;rw [List.findIdx?_eq_some_iff_getElem];refine ⟨by simp [hk],by simp only [List.getElem_map,ek];exact hj,fun j hjk hj2=>?_⟩;have pw:=List.pairwise_iff_getElem.mp gy.rise.2 j k (by simp;omega) (by simp [hk]) hjk;have b1:=gy.rise.1 _ (List.getElem_mem (l:=y.2.map JM.aV) (n:=j) (by simp;omega));have b2:=gy.rise.1 _ (List.getElem_mem (l:=y.2.map JM.aV) (n:=k) (by simp [hk]));simp only [List.getElem_map,ek] at pw b1 b2 hj2;rw [vW] at hj hj2;omega
theorem KL {y:aB} (gy:gc y) {v u k:Nat} {c:Bond×Nat} (hc:y.2[k]?=some c) (hj:jE v u (JM.aV c)=true):KJ y v u=k:=by
 unfold KJ;rw [PU gy hc hj];rfl
theorem KN {y:aB} (gy:gc y) {v u:Nat} (h:u ∈ JM.bG (y.2.map JM.aV) v):∃ c,y.2[KJ y v u]?=some c/\(c.1.a=v\/c.1.b=v)/\(y.2.map JM.aV).findIdx? (jE v u)=some (KJ y v u):=by
 obtain ⟨q,hq,hj⟩:=JM.xA.mp h;obtain ⟨c,hc,rfl⟩:=List.mem_map.mp hq;obtain ⟨k,hk⟩:=List.getElem?_of_mem hc;have hj':jE v u (JM.aV c)=true:=vW.mpr (by omega);have e:=PU gy hk hj';have eb:=KL gy hk hj';rw [eb];refine ⟨c,hk,?_,e⟩;unfold JM.aV at hj;simp at hj;omega
theorem MV {y:aB} (gy:gc y) {v k:Nat} {x:Bond} (h:(aE y).bonds[k]?=some x) (hx:x.a=v\/x.b=v):∃ u ∈ JM.bG (y.2.map JM.aV) v,KJ y v u=k:=by
 have h':(y.2.map fun z=>z.1)[k]?=some x:=h;rw [List.getElem?_map] at h';cases hc:y.2[k]? with
 | none=>rw [hc] at h';cases h'
 | some c=>
   rw [hc] at h';cases h';have lt:=(gy.rise.1 _ (List.mem_map_of_mem (List.mem_of_getElem? hc))).1;unfold JM.aV at lt;simp at lt;rcases hx with rfl | rfl
   . exact ⟨c.1.b,JM.xA.mpr ⟨JM.aV c,List.mem_map_of_mem (List.mem_of_getElem? hc),.inl ⟨rfl,rfl⟩⟩,KL gy hc (vW.mpr (.inl ⟨rfl,rfl⟩))⟩
   . exact ⟨c.1.a,JM.xA.mpr ⟨JM.aV c,List.mem_map_of_mem (List.mem_of_getElem? hc),.inr ⟨by unfold JM.aV;simp;omega,rfl,rfl⟩⟩,KL gy hc (vW.mpr (.inr ⟨rfl,rfl⟩))⟩
def O4 (y:aB) (v:Nat):List Nat:=(((JM.bG (y.2.map JM.aV) v).map (KJ y v)).filter fun k=>Gn y k != 0).map (Gn y)
theorem RL {y:aB} (gy:gc y) {v:Nat} (hv:v < y.1.length) (h:O4 y v=[]):UZ y v=0:=by
 refine JM.Xr gy.good (by rw [yJ];exact hv) fun k x hk hx=>?_;obtain ⟨u,hu,e⟩:=MV gy hk hx;unfold O4 at h;rw [List.map_eq_nil_iff,List.filter_eq_nil_iff] at h;have:=h k (List.mem_map.mpr ⟨u,hu,e⟩);show Gn y k=0;simpa using this
theorem O5 {y:aB} (gy:gc y) {v m:Nat} (hv:v < y.1.length) (hm:m ∈ O4 y v) (le:∀ x ∈ O4 y v,m<=x):UZ y v=m:=by
 obtain ⟨k,hk,rfl⟩:=List.mem_map.mp hm;obtain ⟨hk,h0⟩:=List.mem_filter.mp hk;obtain ⟨u,hu,rfl⟩:=List.mem_map.mp hk;obtain ⟨c,hc,hx,_⟩:=KN gy hu;refine JM.O2 gy.good (by rw [yJ];exact hv) (qQ hc) hx (bne_iff_ne.mp h0) fun j z hj hz h1=>le _ ?_;obtain ⟨u',hu',rfl⟩:=MV gy hj hz;exact List.mem_map.mpr ⟨_,List.mem_filter.mpr ⟨List.mem_map.mpr ⟨u',hu',rfl⟩,bne_iff_ne.mpr h1⟩,rfl⟩
theorem aaf (l:List Nat):vN l=(l.map fun (n:Nat)=>(n:Int)).map V.int:=by
 unfold vN;rw [List.map_map];rfl
section
def acD (t:Ad):Sp:=fun vs H Q _=>∃ (g:Addr) (z:kN) (y:aB) (D:Addr->Prop),vs=[.ref g]/\ng t D H g z y/\gc y/\∀ H' l,aS H H'->H l=none->H' l=some (.lst (vN (rB y)))->Q (.ref l) H'
theorem Vb:aQ ["molecule","bond"] ["molecule"] (aF kK):=lR (by decide +kernel)
theorem ab1 (T:Txt K mg t):bF P w K mg base m5 2 t.c5 t.f6 ["molecule"] (acD t):=by
 have GR:=@RK P w K mg base t T;refine T.cY.ok Vb (fun vs H Q E h=>?_) (fun cdv A outer s H vs Q E hr h=>?_)
 . obtain ⟨g,z,y,D,rfl,_⟩:=h
   rfl
 . obtain ⟨g,z,y,D,rfl,M,gy,k⟩:=h
   refine ⟨_,az (aZ (CM rfl Vb.nd (gE (aA (pv 0) rfl)) (jx (own:=[("bond",1)]) rfl) (fun _ _ _ _ _=>bw (i:=1) Vb.nd rfl (Or.inl rfl)) (fun _ _ _ _ _=>As)
     (fun _ _ _ _ _=>bx GR hr rfl T.pR T.dP.kp T.pQ .nil bD (af (pv 0) (af (pv 1) au))))),?_⟩
   obtain ⟨dg,eg⟩:=M.obj;have fw:=gy.few;refine ⟨_,rfl,fld eg T.aY T.cP rfl ⟨z.lb,rfl,⟨_,bI.of M.bonds⟩,fun l hl=>?_⟩⟩;refine nj (K:=K) (a:=z.lb) (xs:=z.us) (fun i H'=>aS H H'/\H' l=some (.lst (vN ((List.range i).map (Gn y))))) ⟨aK hl,ai⟩ (fun i H' _ ⟨sm,_⟩=>bI.of (sm _ _ M.bonds)) ?_ ?_
   . rintro i x H' hx ⟨sm,hl'⟩
     have hi:i < z.us.length:=(Zqz hx);obtain ⟨c,hc⟩:∃ c,y.2[i]?=some c:=⟨_,List.getElem?_eq_getElem (by rw [<- M.rb.len];exact hi)⟩;obtain ⟨o,dx,rfl,_,rep⟩:=M.rb.at_ i x c hx hc;refine ⟨rfl,_,rfl,_,rfl,?_⟩;refine ⟨g,o,i,z,y,D,c,rfl,M.same sm,gy,hx,hc,fun H2 s2=>?_⟩;refine ⟨_,s2 _ _ hl',?_,?_,?_⟩
     . have:=M.rb.len
       rw [sizeLine_eq];simp [vN];omega
     . intro b u e
       rw [aq (ay e hl)];exact s2 _ _ (sm b u e)
     . rw [ai,List.range_succ]
       simp [vN]
   . rintro H1 ⟨sm,hl'⟩
     rw [M.rb.len] at hl';exact k H1 l sm hl hl'
def acE (t:Ad):Sp:=fun vs H Q _=>∃ (g lb:Addr) (z:kN) (y:aB) (D:Addr->Prop),vs=[.ref g,.ref lb]/\ng t D H g z y/\gc y/\H lb=some (.lst (vN (rB y)))/\∀ H' l,aS H H'->H l=none->H' l=some (.lst (vN (rA y)))->Q (.ref l) H'
theorem FY:aQ ["molecule","through_bonds","lengths","atom","numbers","other","through_atom","k"] ["molecule","through_bonds"] (aF iL):=lR (by decide +kernel)
theorem ab2 (T:Txt K mg t):bF P w K mg base m5 1 t.bO t.f7 ["molecule","through_bonds"] (acE t):=by
 obtain ⟨Oj,g1⟩:=T.yT;refine T.cZ.ok FY (fun vs H Q E h=>?_) (fun cdv A outer s H vs Q E hr h=>?_)
 . obtain ⟨g,lb,z,y,D,rfl,_⟩:=h
   rfl
 . obtain ⟨g,lb,z,y,D,rfl,M,gy,hlb,k⟩:=h
   have hu:=hr.un;have hu':(A.deeper (envOfC "least_through_atoms" (aF iL) s.heap.objs.size t.bO cdv)).units+1 < cLine:=by omega
   refine ⟨_,ak (aR (i:=2) FY.nd rfl (Or.inl rfl) (jM au))
     (ak (fj PassesOwn.never rfl (mS rfl T.p9 (af (c6 bz (by rfl) T.kM PySem.boot_len (af (aA (pv 0) rfl) au)) au)) (bw (i:=3) FY.nd rfl (Or.inr rfl))
       (ak (x6 (i:=4) rfl FY.nd rfl rfl rfl (gE (bT b6 (aA (pv 0) rfl) (pv 3) (fun _ _=>rfl))) (jx (own:=[("other",5)]) rfl) (fun _ _ _ _ _=>bw (i:=5) FY.nd rfl (Or.inl rfl)) (fun _ _ _ _ _=>As)
         (fun _ _ _ _ _=>DR hu' (Ef (K0:=K) rfl (pv 0) rfl) (mD (af (pv 3) (af (pv 5) au))) (fun _ _=>rfl)))
       (ak (x6 (i:=6) rfl FY.nd rfl rfl rfl (gE (pv 4)) (jx (own:=[("k",7)]) rfl) (fun _ _ _ _ _=>bw (i:=7) FY.nd rfl (Or.inl rfl))
         (fun _ _ _ _ _=>t9 (cS wk (bT (FP (K0:=K) rfl) (pv 1) (pv 7) (fun _ _=>rfl)) (aU rfl g1 (v:=.int 0) ⟨_,rfl⟩) (bW _)))
         (fun _ _ _ _ _=>bT (FP (K0:=K) rfl) (pv 1) (pv 7) (fun _ _=>rfl)))
       (az (dX (u5 PySem.F.plainAttrs_list PySem.F.slot_list_append PySem.F.type_list_append jw (pv 2) (af (Wq rfl (by rfl) T.Yn rfl (pv 6) (aU rfl g1 (v:=.int 0) ⟨_,rfl⟩)) au)))))))
     (az (aZ (pv 2)))),?_⟩
   obtain ⟨dg,eg⟩:=M.obj;have al:z.as.length=y.1.length:=M.ra.len;have sml:=gy.small;have fw:=gy.few;refine ⟨Nat.zero_le _,fun l hl=>?_⟩;have s1:aS H (upd H l (.lst [])):=aK hl;refine ⟨_,rfl,fld (s1 _ _ eg) T.aY T.bU rfl ⟨z.la,z.as,rfl,.inl (bI.of (s1 _ _ M.atoms)),?_⟩⟩;refine ⟨_,rfl,by omega,by omega,?_⟩;let xf:L2.Iv:=fun i σ H'=>∃ v3 v4 v6,i<=z.as.length/\σ=[some (.ref g),some (.ref lb),some (.ref l),v3,v4,none,v6,none]/\aS H H'/\H' l=some (.lst (vN ((List.range i).map (UZ y))));refine qS (n:=z.as.length) xf ⟨none,none,none,Nat.zero_le _,rfl,s1,ai⟩ ?_ ?_
   . rintro i σ H1 hi ⟨v3,v4,v6,_,rfl,s2,hl1⟩
     rw [Int.zero_add];have hi':i < y.1.length:=by omega
     obtain ⟨ra,Af⟩:∃ ra,z.rs[i]?=some ra:=⟨_,List.getElem?_eq_getElem (by rw [M.rows.len];exact hi)⟩;have hA:=M.rows.at_ _ _ Af;have e1:(z.rs.map V.ref)[i]?=some (V.ref ra):=by rw [List.getElem?_map,Af];rfl
     have nl:(JM.bG (y.2.map JM.aV) i).length<=1000:=gy.RG i;refine ⟨_,rfl,fld (s2 _ _ eg) T.aY T.b9 rfl ⟨_,rfl,tG (bI.of (s2 _ _ M.rows.lst)) (bh e1) ⟨ra,rfl,⟨_,bI.of (s2 _ _ hA)⟩,fun ln Zt=>?_⟩⟩⟩;refine nj (K:=K) (a:=ra) (xs:=vN (JM.bG (y.2.map JM.aV) i)) (fun j H'=>aS H1 H'/\H' ln=some (.lst (vN (((JM.bG (y.2.map JM.aV) i).take j).map (KJ y i))))) ⟨aK Zt,ai⟩ (fun j H' _ ⟨sm,_⟩=>bI.of (sm _ _ (s2 _ _ hA))) ?_ ?_
     . rintro j x H2 hx ⟨s3,hn2⟩
       obtain ⟨u,hu0,rfl⟩:=FO hx;have sm:=s2.trans s3;obtain ⟨c,hc,_,hf⟩:=KN gy (List.mem_of_getElem? hu0);refine ⟨rfl,_,rfl,fld (sm _ _ eg) T.aY T.bV rfl ⟨_,rfl,_,rfl,(by show 2<=sizeLine;decide),fun p1 hp1=>?_⟩⟩;have s4:aS H2 (upd H2 p1 (.tup [.int (i:Int),.int (u:Int)])):=aK hp1;have dg1:qY (upd H2 p1 (.tup [.int (i:Int),.int (u:Int)])) z.ln (.ref p1) (some (.int (KJ y i u:Int))):=by
         have:=qY.t (k:=kI [(i:Int),(u:Int)]) (s4 _ _ (sm _ _ M.nums)) (by rw [DM];exact ai);rw [M.num,hf] at this;exact this
       refine ⟨z.ln,_,rfl,dg1,_,s4 _ _ hn2,?_,fun b o e=>?_,?_⟩
       . rw [sizeLine_eq]
         simp [vN];omega
       . rw [aq (ay e Zt)]
         exact s4 _ _ (s3 b o e)
       . rw [ai,take_snoc hu0,List.map_append,<- vV]
         rfl
     . rintro H2 ⟨s3,hn2⟩
       rw [List.take_of_length_le (by simp [vN])] at hn2;refine ⟨_,rfl,ln,rfl,⟨_,bI.of hn2⟩,fun l2 hl2=>?_⟩;have lne:l2 ≠ l:=fun q=>by
         have:=(s3 _ _ hl1);rw [<- q,hl2] at this;cases this
       generalize hnu:(JM.bG (y.2.map JM.aV) i).map (KJ y i)=nu at hn2;have nub:∀ n ∈ nu,n < y.2.length:=fun n hn=>by
         rw [<- hnu] at hn;obtain ⟨u,hu,rfl⟩:=List.mem_map.mp hn;obtain ⟨c,hc,_⟩:=KN gy hu;exact (Zqz hc)
       have nul:nu.length<=1000:=by rw [<- hnu,List.length_map];exact nl
       refine nj (K:=K) (a:=ln) (xs:=vN nu) (fun j H'=>aS H2 H'/\H' l2=some (.lst (vN (((nu.take j).filter fun n=>Gn y n != 0).map (Gn y))))) ⟨aK hl2,ai⟩ (fun j H' _ ⟨sm,_⟩=>bI.of (sm _ _ hn2)) ?_ ?_
       . rintro j x H3 hx ⟨s5,hl3⟩
         obtain ⟨n,hn0,rfl⟩:=FO hx;have sm:=(s2.trans s3).trans s5;have hn:=nub n (List.mem_of_getElem? hn0);refine ⟨rfl,_,rfl,_,rfl,tG (bI.of (sm _ _ hlb)) (bh (O3 hn)) ⟨rfl,_,rfl,?_⟩⟩;have ex:decide (V.int (Gn y n:Int)=V.int 0)=!(Gn y n != 0):=by
           by_cases c:Gn y n=0
           . simp [c]
           . have:¬ V.int (Gn y n:Int)=V.int 0:=fun q=>c (by have:=V.int.inj q;omega)
             simp [c,this]
         rw [ex,Bool.not_not,take_snoc hn0];cases hb:Gn y n != 0 with
         | false=>
           refine oF ⟨s5,?_⟩;rw [List.filter_append,List.filter_cons_of_neg (by rw [hb];exact Bool.false_ne_true),List.filter_nil,List.append_nil];exact hl3
         | true=>
           refine qK ?_;refine ⟨_,rfl,_,rfl,tG (bI.of (sm _ _ hlb)) (bh (O3 hn)) ⟨_,hl3,?_,fun b o e=>?_,?_⟩⟩
           . have:=List.length_filter_le (fun n=>Gn y n != 0) (nu.take j)
             have:=List.length_take_le j nu;rw [sizeLine_eq];simp only [vN,List.length_map];have:(nu.take j).length<=nu.length:=List.length_take_le' j nu;omega
           . rw [aq (ay e hl2)]
             exact s5 b o e
           . rw [ai,List.filter_append,List.filter_cons_of_pos (p:=fun n=>Gn y n != 0) hb,List.filter_nil,List.map_append,<- vV]
             rfl
       . rintro H3 ⟨s5,hl3⟩
         rw [List.take_of_length_le (by simp [vN])] at hl3;have et:((nu.filter fun n=>Gn y n != 0).map (Gn y))=O4 y i:=by unfold O4;rw [hnu]
         rw [et] at hl3;have s6:=(s2.trans s3).trans s5;have WU:=s5 _ _ (s3 _ _ hl1);have ll:(vN ((List.range i).map (UZ y))).length < sizeLine:=by
           rw [sizeLine_eq];simp [vN];omega
         have fin:∀ H',H'=upd H3 l (.lst (vN ((List.range i).map (UZ y))++[.int (UZ y i:Int)]))->aS H H'/\H' l=some (.lst (vN ((List.range (i+1)).map (UZ y)))):=by
           rintro H' rfl;refine ⟨fun b o e=>?_,?_⟩
           . rw [aq (ay e hl)]
             exact s6 b o e
           . rw [ai,List.range_succ,List.map_append,<- vV]
             rfl
         refine ⟨_,rfl,.inl ⟨rfl,_,bI.of WU⟩,_,rfl,l2,(O4 y i).map fun (n:Nat)=>(n:Int),0,rfl,rfl,(by rw [<- aaf];exact bI.of hl3),fun e=>?_,fun m hm le=>?_⟩
         . have e0:=RL gy hi' (List.map_eq_nil_iff.mp e)
           refine ⟨l,_,_,rfl,rfl,WU,ll,_,_,_,hi,rfl,fin _ ?_⟩;rw [e0];rfl
         . obtain ⟨m',hm',rfl⟩:=List.mem_map.mp hm
           have e0:=O5 gy hi' hm' fun x hx=>by
             have:=le x (List.mem_map_of_mem hx);omega
           refine ⟨l,_,_,rfl,rfl,WU,ll,_,_,_,hi,rfl,fin _ ?_⟩;rw [e0]
   . rintro σ H1 ⟨v3,v4,v6,_,rfl,s2,hl1⟩
     rw [al] at hl1;exact ⟨_,rfl,k H1 l s2 hl hl1⟩
end
end MP
namespace JM
open Fk
variable {M:Mol}
theorem Ei (g:lI M) {k:Nat} (hk:k < M.bonds.length) (o:Nat):o ∈ M.mays.getD k [] ↔ (1<=o/\o<=3)/\Found (gS M) (d9 M) k o:=by
 have e:M.mays.getD k []=[1,2,3].filter fun o=>(Dh M).any fun r=>r[k]?==some o:=by
   unfold Mol.mays;simp only;rw [List.getD,List.getElem?_map,List.getElem?_range hk];rfl
 rw [e,List.mem_filter];constructor
 . rintro ⟨h1,h2⟩
   have ho:1<=o/\o<=3:=by simp at h1;omega
   refine ⟨ho,?_⟩;rw [g.found hk ho];rw [List.any_eq_true] at h2;simpa using h2
 . rintro ⟨ho,h2⟩
   refine ⟨by simp;omega,?_⟩;rw [g.found hk ho] at h2;rw [List.any_eq_true];simpa using h2
theorem yY (P:Nat->Prop) (i:Nat):(iJ P).testBit i=true ↔ i < 3/\P (i+1):=by
 have big:∀ n i,n < 8->3<=i->n.testBit i=false:=fun n i hn hi=>Nat.testBit_lt_two_pow (Nat.lt_of_lt_of_le hn (Nat.pow_le_pow_right (n:=2) (by decide) hi));have le:iJ P < 8:=by
   unfold iJ;by_cases h1:P 1<;>by_cases h2:P 2<;>by_cases h3:P 3<;>simp [h1,h2,h3]
 by_cases hi:3<=i
 . rw [big _ _ le hi]
   constructor
   . intro h;cases h
   . intro h;omega
 . have:i=0\/i=1\/i=2:=by omega
   unfold iJ;rcases this with rfl | rfl | rfl<;>(by_cases h1:P 1<;>by_cases h2:P 2<;>by_cases h3:P 3<;>simp [h1,h2,h3]<;>decide)
theorem Xu (d x:Nat):d ||| x=x ↔ ∀ i,d.testBit i=true->x.testBit i=true:=by
 constructor
 . intro h i hi
   rw [<- h,Nat.testBit_or,hi];rfl
 . intro h
   refine Nat.eq_of_testBit_eq fun i=>?_;rw [Nat.testBit_or];cases hd:d.testBit i with
   | false=>rfl
   | true=>rw [h i hd];rfl
theorem Vc (d x:Nat):d &&& x ≠ 0 ↔ ∃ i,d.testBit i=true/\x.testBit i=true:=by
 constructor
 . intro h
   obtain ⟨i,hi⟩:=Nat.exists_testBit_of_ne_zero h;rw [Nat.testBit_and,Bool.and_eq_true] at hi;exact ⟨i,hi⟩
 . rintro ⟨i,h1,h2⟩ e
   have:(d &&& x).testBit i=true:=by rw [Nat.testBit_and,h1,h2];rfl
   rw [e] at this;simp at this
theorem Vd (g:lI M) {k:Nat} (hk:k < M.bonds.length) (y:PBond):(M.mays.getD k []).all y.has=decide (iJ (Found (gS M) (d9 M) k) ||| y.orders=y.orders):=by
 rw [Bool.eq_iff_iff,List.all_eq_true,decide_eq_true_eq,Xu];constructor
 . intro h i hi
   obtain ⟨h1,h2⟩:=(yY _ i).mp hi;have:=h (i+1) ((Ei g hk _).mpr ⟨by omega,h2⟩);exact this
 . intro h o ho
   obtain ⟨h1,h2⟩:=(Ei g hk o).mp ho;exact h (o - 1) ((yY _ _).mpr ⟨by omega,by rw [show o - 1+1=o by omega];exact h2⟩)
theorem Ve (g:lI M) {k:Nat} (hk:k < M.bonds.length) (y:PBond):(M.mays.getD k []).any y.has=decide (iJ (Found (gS M) (d9 M) k) &&& y.orders ≠ 0):=by
 rw [Bool.eq_iff_iff,List.any_eq_true,decide_eq_true_eq,Vc];constructor
 . rintro ⟨o,ho,h⟩
   obtain ⟨h1,h2⟩:=(Ei g hk o).mp ho;exact ⟨o - 1,(yY _ _).mpr ⟨by omega,by rw [show o - 1+1=o by omega];exact h2⟩,h⟩
 . rintro ⟨i,hi,h⟩
   obtain ⟨h1,h2⟩:=(yY _ i).mp hi;exact ⟨i+1,(Ei g hk _).mpr ⟨by omega,h2⟩,h⟩
end JM
namespace MP
open PySem PySem.Spec PyProof.Rows L2
open XL (gF)
open Fk (Fault Bytes numIn need andThen Atom Bond Mol PAtom PBond Part)
open JM (aB aE gS d9)
def ab3 (y:aB) (k:Nat):Bool:=Gn y k != 0
def ab4 (y:aB) (v:Nat):Bool:=UZ y v != 0
def iK (s h:Nat):Bool:=s==0||((h==0)==(s==3))
theorem p6 (a b:Nat):decide (V.int (a:Int)=V.int (b:Int))=(a==b):=by
 rw [Bool.eq_iff_iff,decide_eq_true_eq,beq_iff_eq];constructor
 . intro h;cases h;omega
 . intro h;rw [h]
theorem CA (a b:Nat):(!decide (V.int (a:Int)=V.int (b:Int)))=(a != b):=by
 rw [p6];rfl
theorem Vf (a b:Bool):decide (V.bl a=V.bl b)=(a==b):=by cases a<;>cases b<;>rfl
theorem Vg {c:Bool} (b2:Bool) {te:TE} {σ:L2.St} {H:Hp} {Qf:VK} (hx:∀ Qf:VK,Qf (.bl b2) H->te σ H Qf) (h:Qf (.bl (c||b2)) H):if c=true then Qf (.bl true) H else te σ H Qf:=by
 cases c with
 | true=>exact qK h
 | false=>exact oF (hx _ h)
variable {P:Program} {w:World} {K:Zqq} {mg:Str->Option Value} {base:Heap} {t:Ad}
section
def Vh:Sp:=fun vs H Q _=>∃ (n:Nat) (p:Addr) (x:Nat×Nat),vs=[.int (n:Int),.ref p]/\H p=some (.tup (vP x))/\Q (.bl (Fk.between x n)) H
theorem RM:aQ ["number","bounds"] ["number","bounds"] (aF EH):=lR (by decide +kernel)
theorem RN (T:Txt K mg t):bF P w K mg base m5 1 t.r8 t.xJ ["number","bounds"] Vh:=by
 refine T.nO.ok RM (fun vs H Q E h=>?_) (fun cdv A outer s H vs Q E hr h=>?_)
 . obtain ⟨n,p,x,rfl,_⟩:=h
   rfl
 . obtain ⟨n,p,x,rfl,hp,k⟩:=h
   refine ⟨_,az (aZ (Lg HJ HJ (bT xr (pv 1) aN (fun _ _=>rfl)) (pv 0) (bT xr (pv 1) aN (fun _ _=>rfl)))),?_⟩;have e:Fk.between x n=(decide ((x.1:Int)<=(n:Int))&&decide ((n:Int)<=(x.2:Int))):=by
     unfold Fk.between;rw [Bool.eq_iff_iff];simp
   rw [e] at k;refine ⟨_,rfl,Ym (oj.of hp) (bh (j:=0) (v:=V.int (x.1:Int)) rfl) ⟨_,rfl,_,_,rfl,rfl,_,rfl,?_⟩⟩;refine zB (fun h=>?_) (fun h=>?_)
   . refine ⟨_,rfl,Ym (oj.of hp) (bh (j:=1) (v:=V.int (x.2:Int)) rfl) ⟨_,_,rfl,rfl,?_⟩⟩
     rw [h,Bool.true_and] at k;exact k
   . rw [Bool.not_eq_true] at h
     rw [h,Bool.false_and] at k;exact k
def Xv:Sp:=fun vs H Q _=>∃ (r m:Nat),vs=[.int (r:Int),.int (m:Int)]/\Q (.bl (Fk.ringFits r (m != 0))) H
theorem Vi:aQ ["said","least_ring"] ["said","least_ring"] (aF xE):=lR (by decide +kernel)
theorem MW (T:Txt K mg t):bF P w K mg base m5 1 t.kW t.pI ["said","least_ring"] Xv:=by
 obtain ⟨tk0,g0⟩:=T.EN;obtain ⟨Oj,g1⟩:=T.Ih;obtain ⟨WL,g2⟩:=T.yT;refine T.l8.ok Vi (fun vs H Q E h=>?_) (fun cdv A outer s H vs Q E hr h=>?_)
 . obtain ⟨r,b,rfl,_⟩:=h
   rfl
 . obtain ⟨r,m,rfl,k⟩:=h
   refine ⟨_,az (aZ (XW (e9 om (pv 0) (aU rfl g0 (v:=.int 0) ⟨_,rfl⟩) (bW _)) (uY (e9 om (e9 wk (pv 1) (aU rfl g2 (v:=.int 0) ⟨_,rfl⟩) (bW _)) (e9 om (pv 0) (aU rfl g1 (v:=.int 1) ⟨_,rfl⟩) (bW _)) (bW _))))),?_⟩;refine ⟨_,rfl,rfl,_,rfl,?_⟩;refine Vg (decide (V.bl (!decide (V.int (m:Int)=V.int 0))=V.bl (decide (V.int (r:Int)=V.int 1)))) ?_ ?_
   . exact fun Qf q=>⟨_,rfl,rfl,_,rfl,rfl,rfl,q⟩
   . have e:(decide (V.int (r:Int)=V.int 0)||decide (V.bl (!decide (V.int (m:Int)=V.int 0))=V.bl (decide (V.int (r:Int)=V.int 1))))=Fk.ringFits r (m != 0):=by
       rw [show (V.int 0)=V.int ((0:Nat):Int) from rfl,show (V.int 1)=V.int ((1:Nat):Int) from rfl,p6,CA,p6,Vf];unfold Fk.ringFits;cases (m != 0)<;>cases (r==1)<;>rfl
     rw [e];exact k
def Vj:Sp:=fun vs H Q _=>∃ (s h:Nat),vs=[.int (s:Int),.int (h:Int)]/\Q (.bl (iK s h)) H
theorem RO:aQ ["said","told"] ["said","told"] (aF nA):=lR (by decide +kernel)
theorem I0 (T:Txt K mg t):bF P w K mg base m5 1 t.eG t.jb ["said","told"] Vj:=by
 obtain ⟨tk0,g0⟩:=T.EN;obtain ⟨Oj,g1⟩:=T.tS;refine T.eN.ok RO (fun vs H Q E h=>?_) (fun cdv A outer s H vs Q E hr h=>?_)
 . obtain ⟨r,b,rfl,_⟩:=h
   rfl
 . obtain ⟨s,h,rfl,k⟩:=h
   refine ⟨_,az (aZ (XW (e9 om (pv 0) (aU rfl g0 (v:=.int 0) ⟨_,rfl⟩) (bW _)) (uY (e9 om (e9 om (pv 1) aN (bW _)) (e9 om (pv 0) (aU rfl g1 (v:=.int 3) ⟨_,rfl⟩) (bW _)) (bW _))))),?_⟩;refine ⟨_,rfl,rfl,_,rfl,?_⟩;refine Vg (decide (V.bl (decide (V.int (h:Int)=V.int 0))=V.bl (decide (V.int (s:Int)=V.int 3)))) ?_ ?_
   . exact fun Qf q=>⟨_,rfl,rfl,_,rfl,rfl,rfl,q⟩
   . have e:(decide (V.int (s:Int)=V.int 0)||decide (V.bl (decide (V.int (h:Int)=V.int 0))=V.bl (decide (V.int (s:Int)=V.int 3))))=iK s h:=by
       rw [show (V.int 0)=V.int ((0:Nat):Int) from rfl,show (V.int 3)=V.int ((3:Nat):Int) from rfl,p6,p6,p6,Vf];rfl
     rw [e];exact k
def vX (h:Nat) (o:Bool):Nat:=if o=true then 3 - h else h
def Vk:Sp:=fun vs H Q _=>∃ (h:Nat) (o:Bool),vs=[.int (h:Int),.bl o]/\h<=3/\Q (.int (vX h o:Int)) H
theorem RP:aQ ["hand_or_side","other"] ["hand_or_side","other"] (aF Cb):=lR (by decide +kernel)
theorem IA (T:Txt K mg t):bF P w K mg base m5 1 t.oO t.uB ["hand_or_side","other"] Vk:=by
 refine T.oR.ok RP (fun vs H Q E h=>?_) (fun cdv A outer s H vs Q E hr h=>?_)
 . obtain ⟨r,b,rfl,_⟩:=h
   rfl
 . obtain ⟨h,o,rfl,hh,k⟩:=h
   refine ⟨_,az (aZ (En (jr (pv 1)) (gJ xm aN (pv 0)) (pv 0))),?_⟩;refine ⟨_,rfl,_,rfl,?_⟩;cases o with
   | true=>
     refine qK ⟨_,rfl,_,_,rfl,rfl,?_⟩;have e:((vX h true:Nat):Int)=3 - (h:Int):=by unfold vX;simp;omega
     rw [e] at k;exact k
   | false=>exact oF ⟨_,rfl,k⟩
end
theorem O6 (a b:Nat):Builtin.bitAnd (a:Int) (b:Int)=((a &&& b:Nat):Int):=by
 unfold Builtin.bitAnd;rfl
theorem RQ (a b:Nat):Builtin.bitOr (a:Int) (b:Int)=((a ||| b:Nat):Int):=by
 have n1:∀ x:Int,Builtin.bitNot (Builtin.bitNot x)=x:=fun x=>by unfold Builtin.bitNot;omega
 have n2:∀ x:Nat,decide (0<=Builtin.bitNot (x:Int))=false:=fun x=>decide_eq_false (by unfold Builtin.bitNot;omega);unfold Builtin.bitOr Builtin.bitAnd;rw [n2,n2];simp only [n1];rfl
def FZ (z:PBond) (d:Nat):Bool:=if z.how=1 then decide (d ||| z.orders=z.orders) else decide (d &&& z.orders ≠ 0)
def fX:List Int->Nat
 | []=>0
 | x::l=>(l.filter fun y=>decide (y < x)).length+fX l
theorem Dm:∀ (l:List Int) (z:Int),fX (l++[z])=fX l+(l.filter fun x=>decide (z < x)).length
 | [],z=>by simp [fX]
 | x::l,z=>by
   have ih:=Dm l z
   rw [List.cons_append,fX,ih,fX,List.filter_append,List.length_append,List.filter_cons]
   by_cases h:z < x
   . simp [h];omega
   . simp [h];omega
theorem Aj {f:Int->Int}:∀ (l:List Int),(∀ x ∈ l,∀ y ∈ l,f x < f y ↔ x < y)->fX (l.map f)=fX l
 | [],_=>rfl
 | x::l,h=>by
  rw [List.map_cons,fX,fX,Aj l fun a ha b hb=>h a (by simp [ha]) b (by simp [hb]),List.filter_map,List.length_map]
  congr 2
  refine List.filter_congr fun y hy=>?_
  simp [h y (by simp [hy]) x (by simp)]
def placeOf (A:List Int) (x:Int):Nat:=(A.findIdx? fun z=>z==x).getD 0
theorem placeOf_some {A:List Int} {x:Int} (h:x ∈ A):∃ hlt:placeOf A x < A.length,A[placeOf A x]=x/\∀ m (hm:m < placeOf A x),A[m]'(Nat.lt_trans hm hlt) ≠ x:=by
 have hs:(A.findIdx? fun z=>z==x).isSome=true:=by
  rw [List.findIdx?_isSome,List.any_eq_true];exact ⟨x,h,by simp⟩
 obtain ⟨k,hk⟩:=Option.isSome_iff_exists.mp hs;have e:placeOf A x=k:=by unfold placeOf;rw [hk];rfl
 obtain ⟨h1,h2,h3⟩:=List.findIdx?_eq_some_iff_getElem.mp hk;subst e;exact ⟨h1,beq_iff_eq.mp h2,fun m hm q=>by
  have:=h3 m hm;simp [q] at this⟩
theorem KO {A:List Int} (pw:A.Pairwise (· < ·)) {x y:Int} (hx:x ∈ A) (hy:y ∈ A):(placeOf A x:Int) < (placeOf A y:Int) ↔ x < y:=by
 obtain ⟨h1,e1,_⟩:=placeOf_some hx;obtain ⟨h2,e2,_⟩:=placeOf_some hy;have p:=List.pairwise_iff_getElem.mp pw;constructor
 . intro h
   have:=p _ _ h1 h2 (by omega);omega
 . intro h
   rcases Nat.lt_trichotomy (placeOf A x) (placeOf A y) with q | q | q
   . omega
   . have e3:A[placeOf A x]=A[placeOf A y]:=by simp only [q]
     omega
   . have:=p _ _ h2 h1 q
     omega
theorem PV (a b:Int):Sj (.int a) (.int b)=(a==b):=rfl
theorem Xw (l:List Int):(vI l).all t7=true:=by
 unfold vI;rw [List.all_map,List.all_eq_true];intro x _;rfl
theorem MX {l:List Int} {i:Nat} {x:V} (h:(vI l)[i]?=some x):∃ v,l[i]?=some v/\x=.int v:=by
 unfold vI at h;rw [List.getElem?_map] at h;cases q:l[i]? with
 | none=>rw [q] at h;cases h
 | some v=>rw [q] at h;exact ⟨v,rfl,(Option.some.inj h).symm⟩
theorem uv (l:List Int):(vI l).length=l.length:=by simp [vI]
theorem KP (l:List Int) (x:Int):vI (l++[x])=vI l++[.int x]:=by simp [vI]
theorem Vl {xs:List V} {k:Nat} (h:k<=xs.length):Jb xs none (some (k:Int))=xs.take k:=by
 unfold Jb HT.KY;have:¬ ((k:Int) < 0):=by omega
 simp [this,Nat.min_eq_left h]
section
theorem RT {X:Cx} {K0:Zqq} (hK:X.K=K0):MtR X "list.index" (SW K0):=by
 subst hK;exact SX
def aag (t:Ad):Sp:=fun vs H Q _=>∃ (o dx:Addr) (z:PBond) (d:Nat),vs=[.ref o,.int (d:Int)]/\H o=some (.ins t.aP dx (bfs z))/\Q (.bl (FZ z d)) H
theorem Xx:aQ ["said","drawn"] ["said","drawn"] (aF vm):=lR (by decide +kernel)
theorem Xy (T:Txt K mg t):bF P w K mg base m5 1 t.jR t.nG ["said","drawn"] (aag t):=by
 obtain ⟨Oj,g1⟩:=T.oY;refine T.lN.ok Xx (fun vs H Q E h=>?_) (fun cdv A outer s H vs Q E hr h=>?_)
 . obtain ⟨o,dx,z,d,rfl,_⟩:=h
   rfl
 . obtain ⟨o,dx,z,d,rfl,ho,k⟩:=h
   refine ⟨_,ak (kL (cS om (aA (pv 0) rfl) (aU rfl g1 (v:=.int 1) ⟨_,rfl⟩) (bW _)) (az (aZ (e9 om (gJ XZ (pv 1) (aA (pv 0) rfl)) (aA (pv 0) rfl) (bW _)))) dW)
     (az (aZ (e9 wk (gJ YN (pv 1) (aA (pv 0) rfl)) aN (bW _)))),?_⟩
   refine ⟨_,rfl,fld ho T.bc T.jD rfl ⟨rfl,_,rfl,?_⟩⟩;unfold FZ at k;refine zB (fun c=>?_) (fun c=>?_)
   . have h1:z.how=1:=by
       rw [show (V.int 1)=V.int ((1:Nat):Int) from rfl,p6] at c;exact beq_iff_eq.mp c
     rw [if_pos h1] at k;refine ⟨_,rfl,_,rfl,fld ho T.bc T.cR rfl ⟨_,_,rfl,rfl,_,rfl,fld ho T.bc T.cR rfl ⟨rfl,?_⟩⟩⟩;show Q (.bl (decide (V.int (Builtin.bitOr (d:Int) (z.orders:Int))=V.int (z.orders:Int)))) H;rw [RQ,p6];have e:((d ||| z.orders)==z.orders)=decide (d ||| z.orders=z.orders):=by rw [Bool.eq_iff_iff];simp
     rw [e];exact k
   . have h1:¬ z.how=1:=fun q=>c (by rw [show (V.int 1)=V.int ((1:Nat):Int) from rfl,p6,q];rfl)
     rw [if_neg h1] at k;refine ⟨_,rfl,_,rfl,fld ho T.bc T.cR rfl ⟨_,_,rfl,rfl,rfl,?_⟩⟩;show Q (.bl (!decide (V.int (Builtin.bitAnd (d:Int) (z.orders:Int))=V.int 0))) H;rw [O6,show (V.int 0)=V.int ((0:Nat):Int) from rfl,CA];have e:((d &&& z.orders) != 0)=decide (d &&& z.orders ≠ 0):=by rw [Bool.eq_iff_iff];simp
     rw [e];exact k
def ab5:Sp:=fun vs H Q _=>∃ (a b:Addr) (A B:List Int),vs=[.ref a,.ref b]/\H a=some (.lst (vI A))/\H b=some (.lst (vI B))/\A.Pairwise (· < ·)/\(∀ x ∈ B,x ∈ A)/\B.length<=1000/\∀ H',aS H H'->Q (.bl (fX B % 2==1)) H'
theorem vY:aQ ["row","exchanged","places","crossings","k","place","atom","before"] ["row","exchanged"] (aF nB):=lR (by decide +kernel)
theorem aah {X:Cx} {K0:Zqq} (hK:X.K=K0) {T name id:String} {r:V->List V->Hp->VK->Prop} {o e:Expr} {es:List Expr} {apos cpos:Pos} {to:TE} {t:TA} (pa:PlainAttrs T) (slot:Slot T name id) (hty:typeOf (.builtin id)=pure (.type "method_descriptor")) (hm:MtR X id r) (ho:PE X o to) (ha:PA X (e::es) t)
   (hbase:attributeBase o name X.env (eval o X.env)=eval o X.env:=by rfl)
   (hfew:((backTo cpos (starEach (e::es) X.env)).all (fun x=>!x.1)&&(backToKw cpos (keywordEach [] X.env)).all (fun x=>x.1.isSome)
    &&decide ((e::es).length+([]:List Keyword).length+(if ([]:List Keyword).isEmpty then 0 else 1) < 30))=true:=by rfl)
   (hline:(apos.endLine==cpos.line)=true:=by rfl) (hs:starEach (e::es) X.env=(false,eval e X.env)::starEach es X.env:=by rfl) (hplain:(backTo cpos (starEach es X.env)).any (·.1)=false:=by rfl) :
   PE X (.Call (.Attribute o name apos) (e::es) [] cpos) (tBM K0 T r to t):=by
 subst hK;exact u5 pa slot hty hm ho ha hbase hfew hline hs hplain
theorem aai (T:Txt K mg t):bF P w K mg base m5 1 t.eK t.jc ["row","exchanged"] ab5:=by
 refine T.fZ.ok vY (fun vs H Q E h=>?_) (fun cdv A outer s H vs Q E hr h=>?_)
 . obtain ⟨a,b,A,B,rfl,_⟩:=h
   rfl
 . obtain ⟨a,b,R,B,rfl,ha,hb,pw,sub,hlen,k⟩:=h
   refine ⟨_,ak (x6 (i:=2) rfl vY.nd rfl rfl rfl (gE (pv 1)) (jx (own:=[("atom",6)]) rfl) (fun _ _ _ _ _=>bw (i:=6) vY.nd rfl (Or.inl rfl)) (fun _ _ _ _ _=>As)
       (fun _ _ _ _ _=>aah (K0:=K) rfl PySem.F.plainAttrs_list PySem.F.slot_list_index PySem.F.type_list_index (RT (K0:=K) rfl) (pv 0) (af (pv 6) au)))
     (ak (aR (i:=3) vY.nd rfl (Or.inl rfl) aN)
     (ak (fj PassesOwn.never rfl (tD rfl T.jq (af (pv 2) au)) (xj rfl (gq (bw (i:=4) vY.nd rfl (Or.inl rfl)) (gq (bw (i:=5) vY.nd rfl (Or.inr rfl)) t6)))
       (az (Sv (i:=3) vY.nd rfl (Or.inl rfl) (c6 bz (by rfl) T.kM PySem.boot_len (af (CM rfl vY.nd (gE (Li OV (pv 2) OQ (OS (pv 4)))) (jx (own:=[("before",7)]) rfl) (fun _ _ _ _ _=>bw (i:=7) vY.nd rfl (Or.inl rfl))
         (fun _ _ _ _ _=>t9 (cS ON (pv 7) (pv 5) (bW _))) (fun _ _ _ _ _=>pv 7)) au)) IW)))
     (az (aZ (e9 om (gJ YM (pv 3) aN) aN (bW _)))))),?_⟩
   refine ⟨_,rfl,b,rfl,⟨_,bI.of hb⟩,fun l hl=>?_⟩;refine nj (K:=K) (a:=b) (xs:=vI B) (fun i H'=>aS H H'/\H' l=some (.lst (vI ((B.take i).map fun x=>(placeOf R x:Int))))) ⟨aK hl,ai⟩ (fun i H' _ ⟨sm,_⟩=>bI.of (sm _ _ hb)) ?_ ?_
   . rintro i x H' hx ⟨sm,hl'⟩
     obtain ⟨v,hv,rfl⟩:=MX hx;have hi:i < B.length:=(Zqz hv);obtain ⟨h1,h2,h3⟩:=placeOf_some (sub v (List.mem_of_getElem? hv));refine ⟨rfl,_,rfl,.inl ⟨rfl,_,bI.of (sm _ _ ha)⟩,_,rfl,a,_,_,placeOf R v,.int v,rfl,rfl,bI.of (sm _ _ ha),rfl,Xw R,sN (by rw [List.getElem?_eq_getElem h1,h2]),by rw [PV];simp,fun m z' hm hz=>?_,?_⟩
     . obtain ⟨u,hu,rfl⟩:=MX hz
       obtain ⟨hm1,hm2⟩:=List.getElem?_eq_some_iff.mp hu;rw [PV];have:=h3 m hm;rw [hm2] at this;exact beq_eq_false_iff_ne.mpr this
     . refine ⟨_,hl',by rw [uv,List.length_map,List.length_take,sizeLine_eq];omega,fun q u e=>by rw [aq (ay e hl)];exact sm q u e,?_⟩
       rw [ai,take_snoc hv,List.map_append,<- KP];rfl
   . rintro H1 ⟨s1,hl1⟩
     rw [uv,List.take_length] at hl1;generalize hL:(B.map fun x=>(placeOf R x:Int))=L at hl1;have Ll:L.length<=1000:=by rw [<- hL,List.length_map];exact hlen
     have eF:fX L=fX B:=by
       rw [<- hL];exact Aj B fun x hx y hy=>KO pw (sub x hx) (sub y hy)
     refine ⟨_,rfl,l,vI L,rfl,bI.of hl1,?_⟩;let xf:L2.Iv:=fun i σ H'=>∃ v4 v5,σ=[some (.ref a),some (.ref b),some (.ref l),some (.int (fX (L.take i):Int)),v4,v5,none,none]/\aS H1 H';refine pX (K:=K) (a:=l) (xs:=vI L) xf ⟨none,none,rfl,aS.refl _⟩ (fun i σ H' _ ⟨_,_,_,sm⟩=>bI.of (sm _ _ hl1)) ?_ ?_
     . rintro i x σ H' Tt hx ⟨v4,v5,rfl,sm⟩ hT
       obtain ⟨v,hv,rfl⟩:=MX hx;have hi:i < L.length:=(Zqz hv);have sT:aS H1 (upd H' Tt (.tup [.int (i:Int),.int v])):=sm.trans (aK hT);refine ⟨Tt,_,rfl,oj.of ai,rfl,_,_,rfl,_,_,rfl,rfl,?_⟩;refine ⟨_,rfl,_,rfl,_,rfl,_,rfl,l,_,rfl,bI.of (sT _ _ hl1),fun p hp=>?_⟩;rw [Vl (by rw [uv];omega),show (vI L).take i=vI (L.take i) by unfold vI;rw [List.map_take]];have sp:aS H1 (upd (upd H' Tt (.tup [.int (i:Int),.int v])) p (.lst (vI (L.take i)))):=sT.trans (aK hp);refine ⟨p,rfl,⟨_,bI.of ai⟩,fun D hD=>?_⟩;have pD:p ≠ D:=fun z=>by rw [<- z,ai] at hD;cases hD
       have sD:=sp.trans (aK (o:=.lst []) hD);refine nj (K:=K) (a:=p) (xs:=vI (L.take i)) (fun j H2=>aS H1 H2/\H2 p=some (.lst (vI (L.take i)))/\H2 D=some (.lst (vI (((L.take i).take j).filter fun x=>decide (v < x))))) ⟨sD,by rw [aq pD];exact ai,ai⟩ (fun j H2 _ h=>bI.of h.2.1) ?_ ?_
       . rintro j x H2 U1 ⟨s2,hp2,Vm⟩
         obtain ⟨u,hu,rfl⟩:=MX U1;have nD:H1 D=none:=sp.free hD;refine ⟨rfl,_,rfl,_,rfl,_,_,rfl,rfl,_,rfl,?_⟩;refine zB (fun c=>?_) (fun c=>?_)
         . refine ⟨_,rfl,_,Vm,?_,fun q z e=>by rw [aq (ay e nD)];exact s2 q z e,by rw [aq pD];exact hp2,?_⟩
           . have q1:=List.length_filter_le (fun x=>decide (v < x)) ((L.take i).take j)
             rw [List.length_take,List.length_take] at q1;rw [uv,sizeLine_eq];omega
           . rw [ai,take_snoc hu,List.filter_append,<- KP]
             simp only [List.filter_cons,c,if_true,List.filter_nil]
         . refine ⟨s2,hp2,?_⟩
           rw [take_snoc hu,List.filter_append,Vm];simp [c]
       . rintro H2 ⟨s2,hp2,Vm⟩
         rw [uv,List.take_length] at Vm;refine ⟨D,_,rfl,.inl (bI.of Vm),?_⟩;refine ⟨_,_,rfl,rfl,?_⟩;refine ⟨some (.int (i:Int)),some (.int v),?_,s2⟩;rw [take_snoc hv,Dm,uv,Int.natCast_add];rfl
     . rintro σ H2 ⟨v4,v5,rfl,sm⟩
       rw [uv,List.take_length,eF];refine ⟨_,rfl,_,_,rfl,rfl,(by show (0:Int) < 2;decide),rfl,?_⟩;have e:decide (V.int ((fX B:Int) % 2)=V.int 1)=(fX B % 2==1):=by
         rw [show (fX B:Int) % 2=((fX B % 2:Nat):Int) by omega,show (V.int 1)=V.int ((1:Nat):Int) from rfl,p6]
       show Q (.bl (decide (V.int ((fX B:Int) % 2)=V.int 1))) H2;rw [e];exact k H2 (s1.trans sm)
end
def sfs (gp g lb la:Addr):List (Str×V):=[("pattern",.ref gp),("molecule",.ref g),("bond_rings",.ref lb),("atom_rings",.ref la)]
structure uU where
 la:Addr
 lb:Addr
 lr:Addr
 as:List V
 us:List V
 rs:List Addr
structure BL (K:Zqq) (t:Ad) (D:Addr->Prop) (H:Hp) (q gp g lb la:Addr) (pz:uU) (p:b4) (z:kN) (y:aB):Prop where
 obj:∃ dx,H q=some (.ins t.aX dx (sfs gp g lb la))
 pat:BJ K t D H gp pz.la pz.lb pz.lr pz.as pz.us pz.rs p
 mol:ng t D H g z y
 good:gc y
 rb:H lb=some (.lst (vN (rB y)))
 ra:H la=some (.lst (vN (rA y)))
section
theorem BL.same {D:Addr->Prop} {H H':Hp} {q gp g lb la:Addr} {pz:uU} {p:b4} {z:kN} {y:aB} (S:BL K t D H q gp g lb la pz p z y) (f:aS H H'):BL K t D H' q gp g lb la pz p z y:=
 ⟨let ⟨dx,e⟩:=S.obj;⟨dx,f _ _ e⟩,S.pat.same f,S.mol.same f,S.good,f _ _ S.rb,f _ _ S.ra⟩
def Xz (t:Ad):Sp:=fun vs H Q _=>∃ (q dx gp g:Addr) (z:kN) (y:aB) (D:Addr->Prop) (H0:Hp),vs=[.ref q,.ref gp,.ref g]/\H q=some (.ins t.aX dx [])/\aS H0 H/\H0 q=none/\ng t D H0 g z y/\gc y /\
 ∀ H' lb la,aS H0 H'->H' q=some (.ins t.aX dx (sfs gp g lb la))->H' lb=some (.lst (vN (rB y)))->H' la=some (.lst (vN (rA y)))->Q .non H'
theorem Vn:aQ ["self","pattern","molecule"] ["self","pattern","molecule"] (aF ue):=lR (by decide +kernel)
theorem Vo (T:Txt K mg t):bF P w K mg base m5 3 t.gM t.mi ["self","pattern","molecule"] (Xz t):=by
 have GB:=@ab1 P w K mg base t T;have GA:=@ab2 P w K mg base t T;refine T.mq.ok Vn (fun vs H Q E h=>?_) (fun cdv A outer s H vs Q E hr h=>?_)
 . obtain ⟨q,dx,gp,g,z,y,D,H0,rfl,_⟩:=h
   rfl
 . obtain ⟨q,dx,gp,g,z,y,D,H0,rfl,h0,s0,nq,M,gy,k⟩:=h
   have hr1:dG 1 _:=hr.mono (by decide);refine ⟨_,ak (ck (pv 0) (pv 1) rfl) (ak (ck (pv 0) (pv 2) rfl) (ak (ck (pv 0) (bx GB hr rfl T.o6 T.cY.kp T.ow .nil bD (af (pv 2) au)) rfl)
     (az (ck (pv 0) (bx GA hr1 rfl T.o7 T.cZ.kp T.oz .nil bD (af (pv 2) (af (aA (pv 0) rfl) au))) rfl)))),?_⟩
   refine ⟨_,rfl,_,rfl,q,_,dx,_,rfl,h0,T.bB,T.dU,(by show 0 < 1000;decide),?_⟩;refine ⟨_,rfl,_,rfl,q,_,dx,_,rfl,ai,T.bB,T.bq,(by show 1 < 1000;decide),?_⟩;rw [nh];have keep:∀ {Hx:Hp} (u:HO),aS H0 Hx->aS H0 (upd Hx q u):=fun {Hx} u sm b v e=>by rw [aq (ay e nq)];exact sm b v e
   have s1:aS H0 (upd H q (.ins t.aX dx (gf "molecule" (.ref g) (gf "pattern" (.ref gp) [])))):=keep _ s0;refine ⟨_,rfl,?_⟩;refine ⟨g,z,y,D,rfl,M.same s1,gy,fun H2 lb s2 nlb hlb=>?_⟩;have e2:=s2 _ _ (ai (H:=H) (a:=q));refine ⟨_,rfl,q,_,dx,_,rfl,e2,T.bB,T.eX,(by show 2 < 1000;decide),?_⟩;have s3:=keep (.ins t.aX dx (gf "bond_rings" (.ref lb) (gf "molecule" (.ref g) (gf "pattern" (.ref gp) [])))) (s1.trans s2);have X0:upd H2 q (.ins t.aX dx (gf "bond_rings" (.ref lb) (gf "molecule" (.ref g) (gf "pattern" (.ref gp) [])))) lb=some (.lst (vN (rB y))):=by
     rw [aq (fun z=>by rw [z,e2] at hlb;cases hlb)];exact hlb
   refine ⟨_,rfl,_,rfl,fld ai T.bB T.eX rfl ?_⟩;refine ⟨g,lb,z,y,D,rfl,M.same s3,gy,X0,fun H4 la s4 nla hla=>?_⟩;have e4:=s4 _ _ (ai (H:=H2) (a:=q));refine ⟨_,rfl,q,_,dx,_,rfl,e4,T.bB,T.gD,(by show 3 < 1000;decide),?_⟩;refine k _ lb la (keep _ (s3.trans s4)) ai ?_ ?_
   . rw [aq (fun z=>by rw [z,ai] at X0;cases X0)]
     exact s4 _ _ X0
   . rw [aq (fun z=>by rw [z,e4] at hla;cases hla)]
     exact hla
end
def CC (y:aB) (x:PAtom) (v:Nat):Bool:=x.fits (aE y).sight v&&iK x.hand ((aE y).atom v).hand
def nU (y:aB) (k:Nat):Nat:=match (aE y).bonds[k]? with
 | some x=>x.side
 | none=>0
def RU (y:aB) (x:PBond) (k:Nat):Bool:=x.fits (aE y).sight k&&iK x.side (nU y k)
theorem X3 {y:aB} (gy:gc y) {x:PBond} (hw:x.how<=1) {k:Nat} {c:Bond×Nat} (hc:y.2[k]?=some c) :
   RU y x k=(FZ x (JM.iJ (JM.Found (gS (aE y)) (d9 (aE y)) k))&&(Fk.ringFits x.ring (ab3 y k)&&iK x.side c.1.side)):=by
 have hk:k < (aE y).bonds.length:=(Zqz (qQ hc));unfold RU PBond.fits FZ nU;rw [qQ hc,<- Bool.and_assoc];congr 2;show (if x.how=0 then ((aE y).mays.getD k []).any x.has else ((aE y).mays.getD k []).all x.has)=_;rw [JM.Ve gy.good hk,JM.Vd gy.good hk];by_cases h:x.how=0
 . rw [if_pos h,if_neg (by omega)]
 . rw [if_neg h,if_pos (by omega)]
theorem CD {c:TT} (b:Bool) {t rest:TS} {D:Ends} {σ:L2.St} {H:Hp} (hc:∀ Q:Bool->Hp->Prop,Q b H->c σ H Q) (ht:b=true->t { D with nx:=rest D } σ H) (hu:b=false->rest D σ H):YE (aay c t XX) rest D σ H:=by
 refine hc _ ?_;cases b with
 | true=>exact qK (ht rfl)
 | false=>exact oF (hu rfl)
section
def acF (K:Zqq) (t:Ad):Sp:=fun vs H Q _=>∃ (q o gp g lb la:Addr) (v:Nat) (pz:uU) (p:b4) (z:kN) (y:aB) (D D':Addr->Prop) (x:PAtom×Nat),vs=[.ref q,.ref o,.int (v:Int)]/\BL K t D H q gp g lb la pz p z y/\B8 t.aO D' H (.ref o) x/\v < y.1.length/\Q (.bl (CC y x.1 v)) H
theorem Yz:aQ ["self","said","k","atom"] ["self","said","k"] (aF mH):=lR (by decide +kernel)
theorem ab6 (T:Txt K mg t):bF P w K mg base m5 2 t.cE t.gZ ["self","said","k"] (acF K t):=by
 have GW:=@RN P w K mg base t T;have GR:=@MW P w K mg base t T;have GT:=@I0 P w K mg base t T;obtain ⟨Oj,g1⟩:=T.uh;refine T.iA.ok Yz (fun vs H Q E h=>?_) (fun cdv A outer s H vs Q E hr h=>?_)
 . obtain ⟨q,o,gp,g,lb,la,v,pz,p,z,y,D,D',x,rfl,_⟩:=h
   rfl
 . obtain ⟨q,o,gp,g,lb,la,v,pz,p,z,y,D,D',x,rfl,S,rx,hv,k⟩:=h
   refine ⟨_,ak (aR (i:=3) Yz.nd rfl (Or.inl rfl) (bT b6 (aA (aA (pv 0) rfl) rfl) (pv 2) (fun _ _=>rfl)))
     (ak (kL (PW.pt (oE (cS ON (c6 bz (by rfl) T.kM PySem.boot_len (af (aA (pv 1) rfl) au)) aN (bW _)) (lJ (cS qJ (aA (pv 3) rfl) (aA (pv 1) rfl) rfl)))) (az (aZ qX)) dW)
     (ak (kL (PW.pt (oE (cS wk (aA (pv 1) rfl) (aU rfl g1 (v:=.int 501) ⟨_,rfl⟩) (bW _)) (lJ (cS wk (aA (pv 1) rfl) (aA (pv 3) rfl) (bW _))))) (az (aZ qX)) dW)
     (ak (kL (uX (PW.pt (oE (jr (bx GW hr rfl T.xT T.nO.kp T.xM .nil bD (af (aA (pv 3) rfl) (af (aA (pv 1) rfl) au)))) (lJ (jr (bx GW hr rfl T.xT T.nO.kp T.xM .nil bD (af (aA (pv 3) rfl) (af (aA (pv 1) rfl) au)))))))) (az (aZ qX)) dW)
     (ak (kL (uX (jr (bx GW hr rfl T.xT T.nO.kp T.xM .nil bD (af (c6 bz (by rfl) T.kM PySem.boot_len (af (bT b6 (aA (aA (pv 0) rfl) rfl) (pv 2) (fun _ _=>rfl)) au)) (af (aA (pv 1) rfl) au))))) (az (aZ qX)) dW)
     (ak (kL (uX (jr (bx GW hr rfl T.xT T.nO.kp T.xM .nil bD (af (bT b6 (aA (aA (pv 0) rfl) rfl) (pv 2) (fun _ _=>rfl)) (af (aA (pv 1) rfl) au))))) (az (aZ qX)) dW)
     (az (aZ (xg (bx GR hr rfl T.xU T.l8.kp T.xN .nil bD (af (aA (pv 1) rfl) (af (bT b6 (aA (pv 0) rfl) (pv 2) (fun _ _=>rfl)) au)))
       (uY (bx GT hr rfl T.nQ T.eN.kp T.nP .nil bD (af (aA (pv 1) rfl) (af (aA (pv 3) rfl) au)))))))))))),?_⟩
   obtain ⟨dq,eq⟩:=S.obj;obtain ⟨dg,eg⟩:=S.mol.obj;have gy:=S.good;obtain ⟨a,ha⟩:∃ a,y.1[v]?=some a:=⟨_,List.getElem?_eq_getElem hv⟩;obtain ⟨va,UQ⟩:∃ u,z.as[v]?=some u:=⟨_,List.getElem?_eq_getElem (by rw [S.mol.ra.len];exact hv)⟩;obtain ⟨oa,dxa,rfl,_,rep⟩:=S.mol.ra.at_ v va a UQ ha;obtain ⟨o',dx,ln,tc,th,tn,tt,e0,R⟩:=rx;cases e0;have ea:(aE y).atom v=a.1:=by
     unfold Mol.atom aE;simp [List.getD,ha]
   have bnd:=gy.atm a (List.mem_of_getElem? ha);obtain ⟨ra,Af⟩:∃ ra,z.rs[v]?=some ra:=⟨_,List.getElem?_eq_getElem (by rw [S.mol.rows.len,S.mol.ra.len];exact hv)⟩;have hA:=S.mol.rows.at_ _ _ Af;have e1:(z.rs.map V.ref)[v]?=some (V.ref ra):=by rw [List.getElem?_map,Af];rfl
   have ec:a.1.charge+4=(((a.1.charge+4).toNat:Nat):Int):=by omega
   have hsum:(vI (gS (aE y)))[v]?=some (.int ((aE y).sum v:Int)):=sN (JM.yX (by rw [yJ];exact hv));have qP:∀ l:List Nat,(vN l).length=l.length:=fun l=>by simp [vN]
   have fit:CC y x.1 v=((x.1.elements.isEmpty||x.1.elements.contains a.1.element)&&((x.1.isotope==501||x.1.isotope==a.1.isotope)&&(Fk.between x.1.charge (a.1.charge+4).toNat&&(Fk.between x.1.hydrogens a.1.hydrogens&&(Fk.between x.1.beside ((aE y).beside v).length&&(Fk.between x.1.sum ((aE y).sum v)&&(Fk.ringFits x.1.ring (ab4 y v)&&iK x.1.hand a.1.hand))))))):=by
     unfold CC PAtom.fits;simp only [<- ea,Bool.and_assoc];rfl
   refine ⟨_,rfl,fld eq T.bB T.bq rfl (fld eg T.aY T.bU rfl ⟨_,rfl,tG (bI.of S.mol.atoms) (bh UQ) ?_⟩)⟩;dsimp only [HF];rw [fit] at k;refine CD (!(x.1.elements.isEmpty||x.1.elements.contains a.1.element)) (fun Qf hq=>?_) (fun h=>?_) (fun h=>?_)
   . refine ⟨_,rfl,fld R.obj T.b7 T.fH rfl ⟨ln,_,rfl,.inl (bI.of R.nam),_,_,rfl,rfl,_,rfl,?_⟩⟩
     by_cases he:x.1.elements=[]
     . rw [he] at hq ⊢
       exact hq
     . have d0:decide ((0:Int) < ((vN x.1.elements).length:Int))=true:=decide_eq_true (by
         rw [qP];have:=List.length_pos_iff.mpr he;omega)
       rw [d0];refine qK ?_;refine ⟨_,rfl,fld rep T.mQ T.lD rfl ⟨_,rfl,fld R.obj T.b7 T.fH rfl ⟨ln,_,rfl,.inl (bI.of R.nam),rfl,KI _,_,rfl,?_⟩⟩⟩;show Qf (!Lk (.int (a.1.element:Int)) (vN x.1.elements)) H;rw [Va];have em:x.1.elements.isEmpty=false:=by
         cases hx:x.1.elements with
         | nil=>exact absurd hx he
         | cons _ _=>rfl
       rw [em,Bool.false_or] at hq;exact hq
   . rw [Bool.not_eq_true'] at h
     rw [h,Bool.false_and] at k;exact k
   rw [Bool.not_eq_false'] at h;rw [h,Bool.true_and] at k;refine CD (!(x.1.isotope==501||x.1.isotope==a.1.isotope)) (fun Qf hq=>?_) (fun h=>?_) (fun h=>?_)
   . refine ⟨_,rfl,fld R.obj T.b7 T.dQ rfl ⟨rfl,_,rfl,?_⟩⟩
     rw [show (V.int 501)=V.int ((501:Nat):Int) from rfl,CA];cases h5:(x.1.isotope==501) with
     | true=>
       rw [bne,h5];rw [h5] at hq;exact oF hq
     | false=>
       rw [bne,h5];refine qK ?_;refine ⟨_,rfl,fld R.obj T.b7 T.dQ rfl ⟨_,rfl,fld rep T.mQ T.lE rfl ⟨rfl,_,rfl,?_⟩⟩⟩;rw [CA];rw [h5,Bool.false_or] at hq;exact hq
   . rw [Bool.not_eq_true'] at h
     rw [h,Bool.false_and] at k;exact k
   rw [Bool.not_eq_false'] at h;rw [h,Bool.true_and] at k;refine CD (!(Fk.between x.1.charge (a.1.charge+4).toNat&&Fk.between x.1.hydrogens a.1.hydrogens)) (fun Qf hq=>?_) (fun h=>?_) (fun h=>?_)
   . refine ⟨_,rfl,fld rep T.mQ T.mr rfl ⟨_,rfl,fld R.obj T.b7 T.gC rfl ?_⟩⟩
     refine ⟨(a.1.charge+4).toNat,tc,x.1.charge,by rw [<- ec];rfl,R.cha,_,rfl,?_⟩;cases hb:Fk.between x.1.charge (a.1.charge+4).toNat with
     | false=>
       rw [hb,Bool.false_and] at hq;exact oF hq
     | true=>
       rw [hb,Bool.true_and] at hq;refine qK ?_;refine ⟨_,rfl,fld rep T.mQ T.fJ rfl ⟨_,rfl,fld R.obj T.b7 T.eO rfl ?_⟩⟩;exact ⟨a.1.hydrogens,th,x.1.hydrogens,rfl,R.hyd,_,rfl,hq⟩
   . rw [Bool.not_eq_true'] at h
     rw [<- Bool.and_assoc,h,Bool.false_and] at k;exact k
   rw [Bool.not_eq_false'] at h;rw [<- Bool.and_assoc,h,Bool.true_and] at k;refine CD (!(Fk.between x.1.beside ((aE y).beside v).length)) (fun Qf hq=>?_) (fun h=>?_) (fun h=>?_)
   . refine ⟨_,rfl,fld eq T.bB T.bq rfl (fld eg T.aY T.b9 rfl ⟨_,rfl,tG (bI.of S.mol.rows.lst) (bh e1) ⟨ra,_,rfl,.inl (bI.of hA),_,rfl,fld R.obj T.b7 T.dS rfl ?_⟩⟩)⟩
     exact ⟨((aE y).beside v).length,tn,x.1.beside,by rw [gy.beside,qP];rfl,R.bes,_,rfl,hq⟩
   . rw [Bool.not_eq_true'] at h
     rw [h,Bool.false_and] at k;exact k
   rw [Bool.not_eq_false'] at h;rw [h,Bool.true_and] at k;refine CD (!(Fk.between x.1.sum ((aE y).sum v))) (fun Qf hq=>?_) (fun h=>?_) (fun h=>?_)
   . refine ⟨_,rfl,fld eq T.bB T.bq rfl (fld eg T.aY T.iW rfl ⟨_,rfl,tG (bI.of S.mol.sums) (bh hsum) ⟨_,rfl,fld R.obj T.b7 T.iI rfl ?_⟩⟩)⟩
     exact ⟨(aE y).sum v,tt,x.1.sum,rfl,R.sum,_,rfl,hq⟩
   . rw [Bool.not_eq_true'] at h
     rw [h,Bool.false_and] at k;exact k
   rw [Bool.not_eq_false'] at h;rw [h,Bool.true_and] at k;refine ⟨_,rfl,fld R.obj T.b7 T.jl rfl ⟨_,rfl,fld eq T.bB T.gD rfl ⟨_,rfl,tG (bI.of S.ra) (bh (aae hv)) ?_⟩⟩⟩;refine ⟨x.1.ring,UZ y v,rfl,_,rfl,?_⟩;refine KH (iK x.1.hand a.1.hand) (fun Qf hq=>?_) k;refine ⟨_,rfl,fld R.obj T.b7 T.cW rfl ⟨_,rfl,fld rep T.mQ T.lF rfl ?_⟩⟩;exact ⟨x.1.hand,a.1.hand,rfl,hq⟩
def acG (K:Zqq) (t:Ad):Sp:=fun vs H Q _=>∃ (q o gp g lb la:Addr) (k:Nat) (pz:uU) (p:b4) (z:kN) (y:aB) (D D':Addr->Prop) (x:PBond×Nat) (c:Bond×Nat),vs=[.ref q,.ref o,.int (k:Int)]/\BL K t D H q gp g lb la pz p z y/\yx t.aP D' H (.ref o) x/\x.1.how<=1/\y.2[k]?=some c/\Q (.bl (RU y x.1 k)) H
theorem ab7:aQ ["self","said","k"] ["self","said","k"] (aF mJ):=lR (by decide +kernel)
theorem ab8 (T:Txt K mg t):bF P w K mg base m5 2 t.cF t.ic ["self","said","k"] (acG K t):=by
 have GO:=@Xy P w K mg base t T;have GR:=@MW P w K mg base t T;have GT:=@I0 P w K mg base t T;refine T.iB.ok ab7 (fun vs H Q E h=>?_) (fun cdv A outer s H vs Q E hr h=>?_)
 . obtain ⟨q,o,gp,g,lb,la,v,pz,p,z,y,D,D',x,c,rfl,_⟩:=h
   rfl
 . obtain ⟨q,o,gp,g,lb,la,n,pz,p,z,y,D,D',x,c,rfl,S,rx,hw,hc,k⟩:=h
   refine ⟨_,ak (kL (uX (jr (bx GO hr rfl T.A9 T.lN.kp T.A4 .nil bD (af (pv 1) (af (bT b6 (aA (aA (pv 0) rfl) rfl) (pv 2) (fun _ _=>rfl)) au))))) (az (aZ qX)) dW)
     (az (aZ (xg (bx GR hr rfl T.xU T.l8.kp T.xN .nil bD (af (aA (pv 1) rfl) (af (bT b6 (aA (pv 0) rfl) (pv 2) (fun _ _=>rfl)) au)))
       (uY (bx GT hr rfl T.nQ T.eN.kp T.nP .nil bD (af (aA (pv 1) rfl) (af (aA (bT b6 (aA (aA (pv 0) rfl) rfl) (pv 2) (fun _ _=>rfl)) rfl) au))))))),?_⟩
   obtain ⟨dq,eq⟩:=S.obj;obtain ⟨dg,eg⟩:=S.mol.obj;have gy:=S.good;obtain ⟨o',dx,e0,_,R⟩:=rx;cases e0;have hn:n < y.2.length:=(Zqz hc);obtain ⟨vb,Yt⟩:∃ u,z.us[n]?=some u:=⟨_,List.getElem?_eq_getElem (by rw [S.mol.rb.len];exact hn)⟩;obtain ⟨ob,dxb,rfl,_,rep⟩:=S.mol.rb.at_ n vb c Yt hc;have hfo:(vI (BH (gS (aE y)) (d9 (aE y))))[n]?=some (.int (JM.iJ (JM.Found (gS (aE y)) (d9 (aE y)) n):Int)):=sN (mz (by rw [uP,List.length_map];exact hn));rw [X3 gy hw hc] at k;refine CD (!(FZ x.1 (JM.iJ (JM.Found (gS (aE y)) (d9 (aE y)) n)))) (fun Qf hq=>?_) (fun h=>?_) (fun h=>?_)
   . refine ⟨_,rfl,_,rfl,fld eq T.bB T.bq rfl (fld eg T.aY T.gb rfl ⟨_,rfl,tG (bI.of S.mol.orders) (bh hfo) ?_⟩)⟩
     exact ⟨o,dx,x.1,_,rfl,R,_,rfl,hq⟩
   . rw [Bool.not_eq_true'] at h
     rw [h,Bool.false_and] at k;exact k
   rw [Bool.not_eq_false'] at h;rw [h,Bool.true_and] at k;refine ⟨_,rfl,fld R T.bc T.jn rfl ⟨_,rfl,fld eq T.bB T.eX rfl ⟨_,rfl,tG (bI.of S.rb) (bh (O3 hn)) ?_⟩⟩⟩;refine ⟨x.1.ring,Gn y n,rfl,_,rfl,?_⟩;refine KH (iK x.1.side c.1.side) (fun Qf hq=>?_) k;refine ⟨_,rfl,fld R T.bc T.cX rfl ⟨_,rfl,fld eq T.bB T.bq rfl (fld eg T.aY T.cP rfl ⟨_,rfl,tG (bI.of S.mol.bonds) (bh Yt) (fld rep T.gH T.lG rfl ?_)⟩)⟩⟩;exact ⟨x.1.side,c.1.side,rfl,hq⟩
def HD (y:aB) (x:PAtom):List Nat:=(List.range y.1.length).filter (CC y x)
def acH (K:Zqq) (t:Ad):Sp:=fun vs H Q _=>∃ (q o gp g lb la:Addr) (pz:uU) (p:b4) (z:kN) (y:aB) (D D':Addr->Prop) (x:PAtom×Nat),vs=[.ref q,.ref o]/\BL K t D H q gp g lb la pz p z y/\B8 t.aO D' H (.ref o) x/\∀ H' l,aS H H'->H l=none->H' l=some (.lst (vN (HD y x.1)))->Q (.ref l) H'
theorem Vp:aQ ["self","said","k"] ["self","said"] (aF mK):=lR (by decide +kernel)
theorem ab9 (T:Txt K mg t):bF P w K mg base m5 3 t.cG t.ie ["self","said"] (acH K t):=by
 have GA:=@ab6 P w K mg base t T;refine T.iC.ok Vp (fun vs H Q E h=>?_) (fun cdv A outer s H vs Q E hr h=>?_)
 . obtain ⟨q,o,gp,g,lb,la,pz,p,z,y,D,D',x,rfl,_⟩:=h
   rfl
 . obtain ⟨q,o,gp,g,lb,la,pz,p,z,y,D,D',x,rfl,S,rx,k⟩:=h
   refine ⟨_,az (aZ (CM rfl Vp.nd (mS rfl T.p9 (af (c6 bz (by rfl) T.kM PySem.boot_len (af (aA (aA (pv 0) rfl) rfl) au)) au)) (jx (own:=[("k",2)]) rfl) (fun _ _ _ _ _=>bw (i:=2) Vp.nd rfl (Or.inl rfl))
     (fun _ _ _ _ _=>t9 (jr (aW (pv 0) T.bB T.rP GA hr T.rD .nil bD (af (pv 1) (af (pv 2) au))))) (fun _ _ _ _ _=>pv 2))),?_⟩
   obtain ⟨dq,eq⟩:=S.obj;obtain ⟨dg,eg⟩:=S.mol.obj;have gy:=S.good;have sml:=gy.small;have al:z.as.length=y.1.length:=S.mol.ra.len;have WW:=B8.ok t.aO;refine ⟨_,rfl,fld eq T.bB T.bq rfl (fld eg T.aY T.bU rfl ⟨z.la,z.as,rfl,.inl (bI.of S.mol.atoms),(z.as.length:Int),rfl,by omega,by omega,?_⟩)⟩;rw [Int.toNat_natCast];intro l hl;refine Lq (n:=z.as.length) (fun i H'=>aS H H'/\H' l=some (.lst (vN ((List.range i).filter (CC y x.1))))) ⟨aK hl,ai⟩ ?_ ?_
   . rintro i H' hi ⟨sm,hl'⟩
     rw [Int.zero_add];refine ⟨rfl,?_⟩;have eqS:=sm _ _ eq;refine ⟨_,rfl,q,dq,_,rfl,eqS,rfl,_,rfl,_,rfl,?_⟩;refine ⟨q,o,gp,g,lb,la,i,pz,p,z,y,D,D',x,rfl,S.same sm,WW.stay rx (fun b u _ e=>sm _ _ e),by omega,_,rfl,?_⟩;have ef:(List.range (i+1)).filter (CC y x.1)=(List.range i).filter (CC y x.1)++(if CC y x.1 i=true then [i] else []):=by
       rw [List.range_succ,List.filter_append];simp [List.filter_cons]
     refine zB (fun c=>?_) (fun c=>?_)
     . refine ⟨_,rfl,_,hl',?_,fun b u e=>by rw [aq (ay e hl)];exact sm b u e,?_⟩
       . have q1:=List.length_filter_le (CC y x.1) (List.range i)
         rw [List.length_range] at q1;rw [show (vN ((List.range i).filter (CC y x.1))).length=((List.range i).filter (CC y x.1)).length by simp [vN],sizeLine_eq];omega
       . rw [ai,ef,if_pos c,vV]
     . refine ⟨sm,?_⟩
       rw [ef,if_neg c,List.append_nil];exact hl'
   . rintro H1 ⟨sm,hl'⟩
     rw [al] at hl';exact k H1 l sm hl hl'
end
def tY (y:aB) (f:List Nat) (w:Nat) (b:PBond):Bool:=match (aE y).bondAt (Fk.image f b.a) w with
 | some k=>RU y b k
 | none=>false
def kF (y:aB) (f:List Nat) (w:Nat) (bs:List (PBond×Nat)):Bool:=bs.all fun b=>tY y f w b.1
theorem yZ (y:aB) (v w:Nat):(aE y).bondAt v w=(y.2.map JM.aV).findIdx? (jE v w):=by
 show (y.2.map fun z=>z.1).findIdx? (fun x=>x.joins v w)=_;rw [List.findIdx?_map,List.findIdx?_map];rfl
theorem jF {f:List Nat} {v:Nat} (h:v < f.length):f[v]?=some (Fk.image f v):=by
 unfold Fk.image;rw [List.getD,List.getElem?_eq_getElem h];rfl
section
def aaj (K:Zqq) (t:Ad):Sp:=fun vs H Q _=>∃ (q r MY gp g lb la:Addr) (w:Nat) (f:List Nat) (us:List V) (bs:List (PBond×Nat)) (pz:uU) (p:b4) (z:kN) (y:aB) (D D':Addr->Prop),vs=[.ref q,.ref r,.int (w:Int),.ref MY]/\BL K t D H q gp g lb la pz p z y /\
 H r=some (.lst (vN f))/\H MY=some (.lst us)/\cQ (yx t.aP) D' H us bs/\(∀ b ∈ bs,b.1.how<=1/\b.1.a < f.length)/\∀ H',aS H H'->Q (.bl (kF y f w bs)) H'
theorem KQ:aQ ["self","row","image","bonds_back","said","k"] ["self","row","image","bonds_back"] (aF fY):=lR (by decide +kernel)
theorem X4 (T:Txt K mg t):bF P w K mg base m5 3 t.bC t.dI ["self","row","image","bonds_back"] (aaj K t):=by
 have GB:=@ab8 P w K mg base t T;refine T.dN.ok KQ (fun vs H Q E h=>?_) (fun cdv A outer s H vs Q E hr h=>?_)
 . obtain ⟨q,r,MY,gp,g,lb,la,w,f,us,bs,pz,p,z,y,D,D',rfl,_⟩:=h
   rfl
 . obtain ⟨q,r,MY,gp,g,lb,la,wi,f,us,bs,pz,p,z,y,D,D',rfl,S,hf,Yy,R,ok,k⟩:=h
   have hu:=hr.un;have hu':(A.deeper (envOfC "Search.joined_as_said" (aF fY) s.heap.objs.size t.bC cdv)).units+1 < cLine:=by omega
   refine ⟨_,ak (fj PassesOwn.never rfl (gE (pv 3)) (bw (i:=4) KQ.nd rfl (Or.inl rfl))
       (ak (aR (i:=5) KQ.nd rfl (Or.inl rfl) (Tg hu' (aA (aA (pv 0) rfl) rfl) (mD (af (bT b6 (pv 1) (aA (pv 4) rfl) (fun _ _=>rfl)) (af (pv 2) au))) ⟨rfl,rfl,rfl,rfl⟩))
       (az (kL (PW.pt (Ss (IV (YD (pv 5))) (N3 (uX (jr (aW (pv 0) T.bB T.rQ GB hr T.rE .nil bD (af (pv 4) (af (pv 5) au)))))))) (az (aZ qX)) dW))))
     (az (aZ qX)),?_⟩
   obtain ⟨dq,eq⟩:=S.obj;obtain ⟨dg,eg⟩:=S.mol.obj;have V9:=yx.ok t.aP;refine ⟨_,rfl,MY,rfl,⟨_,bI.of Yy⟩,?_⟩;let xf:L2.Iv:=fun i σ H'=>∃ v4 v5,σ=[some (.ref q),some (.ref r),some (.int (wi:Int)),some (.ref MY),v4,v5]/\aS H H'/\kF y f wi (bs.drop i)=kF y f wi bs;refine pC (K:=K) (a:=MY) (xs:=us) xf ⟨none,none,rfl,aS.refl _,rfl⟩ (fun i σ H' _ ⟨_,_,_,sm,_⟩=>bI.of (sm _ _ Yy)) ?_ ?_
   . rintro i x σ H' hx ⟨v4,v5,rfl,sm,e⟩
     have hi:i < us.length:=(Zqz hx);obtain ⟨b,hb⟩:∃ b,bs[i]?=some b:=⟨_,List.getElem?_eq_getElem (by rw [<- R.len];exact hi)⟩;obtain ⟨o,dx,rfl,dO,rep⟩:=R.at_ i x b hx hb;obtain ⟨hw,ha⟩:=ok b (List.mem_of_getElem? hb);have ed:bs.drop i=b::bs.drop (i+1):=by
       obtain ⟨hlt,hv'⟩:=List.getElem?_eq_some_iff.mp hb;rw [List.drop_eq_getElem_cons hlt,hv']
     rw [ed] at e;have e':(tY y f wi b.1&&kF y f wi (bs.drop (i+1)))=kF y f wi bs:=e;have S1:=S.same sm;refine ⟨_,rfl,fld (sm _ _ eq) T.bB T.bq rfl (fld (sm _ _ eg) T.aY T.bV rfl ⟨z.ln,rfl,.inr ⟨_,.inl (sm _ _ S.mol.nums)⟩,?_⟩)⟩;refine ⟨_,rfl,_,rfl,fld (sm _ _ rep) T.bc T.dz rfl (tG (bI.of (sm _ _ hf)) (bh (Dl (jF ha))) ⟨_,rfl,(by show 2<=sizeLine;decide),fun p1 hp1=>?_⟩)⟩;have s2:aS H' (upd H' p1 (.tup [.int (Fk.image f b.1.a:Int),.int (wi:Int)])):=aK hp1;have IB:=sm.trans s2;have dg1:qY (upd H' p1 (.tup [.int (Fk.image f b.1.a:Int),.int (wi:Int)])) z.ln (.ref p1) (((aE y).bondAt (Fk.image f b.1.a) wi).map fun k=>V.int (k:Int)):=by
       have:=qY.t (k:=kI [(Fk.image f b.1.a:Int),(wi:Int)]) (IB _ _ S.mol.nums) (by rw [DM];exact ai);rw [S.mol.num,<- yZ] at this;exact this
     refine ⟨_,dg1,?_⟩;cases hb2:(aE y).bondAt (Fk.image f b.1.a) wi with
     | none=>
       have jf:tY y f wi b.1=false:=by unfold tY;rw [hb2]
       rw [jf,Bool.false_and] at e';rw [<- e'] at k;refine ⟨_,rfl,_,rfl,?_⟩;exact qK (qK (k _ IB))
     | some n=>
       have jf:tY y f wi b.1=RU y b.1 n:=by unfold tY;rw [hb2]
       rw [jf] at e';obtain ⟨c,hc⟩:∃ c,y.2[n]?=some c:=by
         have hlt:=(List.findIdx?_eq_some_iff_getElem.mp (show (y.2.map JM.aV).findIdx? _=some n by rw [<- yZ];exact hb2)).1;rw [List.length_map] at hlt;exact ⟨_,List.getElem?_eq_getElem hlt⟩
       refine ⟨_,rfl,_,rfl,?_⟩;refine oF ?_;refine ⟨_,rfl,q,dq,_,rfl,IB _ _ eq,rfl,_,rfl,_,rfl,?_⟩;refine ⟨q,o,gp,g,lb,la,n,pz,p,z,y,D,D',b,c,rfl,S.same IB,⟨o,dx,rfl,dO,IB _ _ rep⟩,hw,hc,_,rfl,?_⟩;cases hB:RU y b.1 n with
       | false=>
         rw [hB,Bool.false_and] at e';rw [<- e'] at k;exact qK (k _ IB)
       | true=>
         rw [hB,Bool.true_and] at e';exact oF ⟨_,_,rfl,IB,e'⟩
   . rintro σ H1 ⟨v4,v5,rfl,sm,e⟩
     rw [show bs.drop us.length=[] from List.drop_eq_nil_of_le (by rw [R.len];exact Nat.le_refl _)] at e;rw [<- e] at k;exact k _ sm
end
def more (y:aB) (bs:List (PBond×Nat)) (f:List Nat) (ws:List Nat):List (List Nat):=(ws.filter fun w=>!f.contains w&&kF y f w bs).map fun w=>f++[w]
def longer (y:aB) (fs:List (List Nat)) (ws:List Nat) (bs:List (PBond×Nat)):List (List Nat):=fs.flatMap fun f=>more y bs f ws
theorem MZ (y:aB) (bs:List (PBond×Nat)) (f:List Nat) (ws:List Nat):(more y bs f ws).length<=ws.length:=by
 unfold more;rw [List.length_map];exact List.length_filter_le _ _
theorem Na (y:aB) (fs:List (List Nat)) (f:List Nat) (ws:List Nat) (bs:List (PBond×Nat)):longer y (fs++[f]) ws bs=longer y fs ws bs++more y bs f ws:=by simp [longer]
theorem Ak (y:aB) (ws:List Nat) (bs:List (PBond×Nat)):∀ fs:List (List Nat),(longer y fs ws bs).length<=fs.length * ws.length
 | []=>by simp [longer]
 | f::fs=>by
  have ih:=Ak y ws bs fs
  have m:=MZ y bs f ws
  have e:longer y (f::fs) ws bs=more y bs f ws++longer y fs ws bs:=by simp [longer]
  rw [e,List.length_append,List.length_cons,Nat.succ_mul]
  omega
theorem IC (y:aB) (bs:List (PBond×Nat)) (f:List Nat) (ws:List Nat) (w:Nat):more y bs f (ws++[w])=more y bs f ws++(if (!f.contains w&&kF y f w bs)=true then [f++[w]] else []):=by
 unfold more;rw [List.filter_append,List.map_append,List.filter_cons,List.filter_nil];split<;>simp
section
def aak (K:Zqq) (t:Ad):Sp:=fun vs H Q _=>∃ (q lr li MY gp g lb la:Addr) (rs us:List V) (fs:List (List Nat)) (ws:List Nat) (bs:List (PBond×Nat)) (pz:uU) (p:b4) (z:kN) (y:aB) (D D1 D':Addr->Prop),vs=[.ref q,.ref lr,.ref li,.ref MY]/\BL K t D H q gp g lb la pz p z y /\
 H lr=some (.lst rs)/\cQ qw D1 H rs fs/\H li=some (.lst (vN ws))/\H MY=some (.lst us)/\cQ (yx t.aP) D' H us bs/\(∀ b ∈ bs,b.1.how<=1/\∀ f ∈ fs,b.1.a < f.length)/\(∀ f ∈ fs,f.length<=1000)/\fs.length * ws.length<=1000000 /\
 ∀ H' l rs',aS H H'->H l=none->H' l=some (.lst rs')->cQ qw (fun b=>H b=none) H' rs' (longer y fs ws bs)->Q (.ref l) H'
theorem Ej:aQ ["self","rows","images","bonds_back","longer","row","image"] ["self","rows","images","bonds_back"] (aF kQ):=lR (by decide +kernel)
theorem X5 (T:Txt K mg t):bF P w K mg base m5 4 t.bY t.fP ["self","rows","images","bonds_back"] (aak K t):=by
 have GJ:=@X4 P w K mg base t T;refine T.fV.ok Ej (fun vs H Q E h=>?_) (fun cdv A outer s H vs Q E hr h=>?_)
 . obtain ⟨q,lr,li,MY,gp,g,lb,la,rs,us,fs,ws,bs,pz,p,z,y,D,D1,D',rfl,_⟩:=h
   rfl
 . obtain ⟨q,lr,li,MY,gp,g,lb,la,rs,us,fs,ws,bs,pz,p,z,y,D,D1,D',rfl,S,hlr,R1,hli,Yy,RB,ok,short,size,k⟩:=h
   refine ⟨_,ak (aR (i:=4) Ej.nd rfl (Or.inl rfl) (jM au))
     (ak (fj PassesOwn.never rfl (gE (pv 1)) (bw (i:=5) Ej.nd rfl (Or.inl rfl))
       (az (fj PassesOwn.never rfl (gE (pv 2)) (bw (i:=6) Ej.nd rfl (Or.inl rfl))
         (az (kL (PW.pt (oE (cS qJ (pv 6) (pv 5) rfl) (lJ (jr (aW (pv 0) T.bB T.mX GJ hr T.mT .nil bD (af (pv 5) (af (pv 6) (af (pv 3) au))))))))
           (az (dX (u5 PySem.F.plainAttrs_list PySem.F.slot_list_append PySem.F.type_list_append jw (pv 4) (af (gJ Jf (pv 5) (jM (af (pv 6) au))) au)))) dW)))))
     (az (aZ (pv 4)))),?_⟩
   obtain ⟨dq,eq⟩:=S.obj;have V9:=yx.ok t.aP;have PX:=qw.ok;refine ⟨Nat.zero_le _,fun l hl=>?_⟩;have s0:aS H (upd H l (.lst [])):=aK hl;refine ⟨_,rfl,lr,rfl,⟨_,bI.of (s0 _ _ hlr)⟩,?_⟩;let xf:L2.Iv:=fun i σ H'=>∃ v5 v6 rs',σ=[some (.ref q),some (.ref lr),some (.ref li),some (.ref MY),some (.ref l),v5,v6]/\aS H H'/\H' l=some (.lst rs')/\cQ qw (fun b=>H b=none/\b ≠ l) H' rs' (longer y (fs.take i) ws bs);refine pC (K:=K) (a:=lr) (xs:=rs) xf ⟨none,none,[],rfl,s0,ai,cQ.nil⟩ (fun i σ H' _ ⟨_,_,_,_,sm,_⟩=>bI.of (sm _ _ hlr)) ?_ ?_
   . rintro i x σ H' hx ⟨v5,v6,rs',rfl,sm,hl',R⟩
     have hi:i < rs.length:=(Zqz hx);obtain ⟨f,hf⟩:∃ f,fs[i]?=some f:=⟨_,List.getElem?_eq_getElem (by rw [<- R1.len];exact hi)⟩;have hif:i < fs.length:=(Zqz hf);have fm:=List.mem_of_getElem? hf;obtain ⟨ra,rfl,_,Af⟩:=R1.at_ i x f hx hf;have b1:=Ak y ws bs (fs.take i);rw [List.length_take,Nat.min_eq_left (by omega)] at b1;have b2:i * ws.length+ws.length<=fs.length * ws.length:=by
       rw [<- Nat.succ_mul];exact Nat.mul_le_mul_right _ hif
     refine ⟨_,rfl,li,rfl,⟨_,bI.of (sm _ _ hli)⟩,?_⟩;let UG:L2.Iv:=fun j σ H'=>∃ v6 rs',σ=[some (.ref q),some (.ref lr),some (.ref li),some (.ref MY),some (.ref l),some (.ref ra),v6]/\aS H H'/\H' l=some (.lst rs')/\cQ qw (fun b=>H b=none/\b ≠ l) H' rs' (longer y (fs.take i) ws bs++more y bs f (ws.take j));refine pC (K:=K) (a:=li) (xs:=vN ws) UG ⟨v6,rs',rfl,sm,hl',by simpa [more] using R⟩ (fun i σ H' _ ⟨_,_,_,sm,_⟩=>bI.of (sm _ _ hli)) ?_ ?_
     . rintro j x σ H2 U1 ⟨v6,rs2,rfl,s2,hl2,R2⟩
       obtain ⟨u,hu,rfl⟩:=FO U1;have hj:j < ws.length:=(Zqz hu);have b3:=MZ y bs f (ws.take j);rw [List.length_take,Nat.min_eq_left (by omega)] at b3;have rl2:=R2.len;rw [List.length_append] at rl2;have stay:∀ {H3:Hp},aS H2 H3->(!f.contains u&&kF y f u bs)=false->∃ v6 rs',[some (V.ref q),some (.ref lr),some (.ref li),some (.ref MY),some (.ref l),some (.ref ra),some (.int (u:Int))]=[some (.ref q),some (.ref lr),some (.ref li),some (.ref MY),some (.ref l),some (.ref ra),v6]/\aS H H3/\H3 l=some (.lst rs')/\cQ qw (fun b=>H b=none/\b ≠ l) H3 rs' (longer y (fs.take i) ws bs++more y bs f (ws.take (j+1))):=fun {H3} s3 hn=>⟨_,rs2,rfl,s2.trans s3,s3 _ _ hl2,by
         rw [take_snoc hu,IC,hn];simpa using R2.stay PX fun b o _ h=>s3 _ _ h⟩
       refine ⟨_,rfl,_,rfl,ra,_,rfl,.inl (bI.of (s2 _ _ Af)),rfl,KI _,_,rfl,?_⟩;show if (!Lk (.int (u:Int)) (vN f))=true then _ else _;rw [Va];cases hc:f.contains u with
       | true=>exact oF (oF (stay (aS.refl _) (by rw [hc];rfl)))
       | false=>
         refine qK ?_;refine ⟨_,rfl,q,dq,_,rfl,s2 _ _ eq,rfl,_,rfl,_,rfl,_,rfl,?_⟩;refine ⟨q,ra,MY,gp,g,lb,la,u,f,us,bs,pz,p,z,y,D,D',rfl,S.same s2,s2 _ _ Af,s2 _ _ Yy,RB.stay V9 (fun b o _ h=>s2 _ _ h),fun b hb=>⟨(ok b hb).1,(ok b hb).2 f fm⟩,fun H3 s3=>⟨_,rfl,?_⟩⟩;cases hj2:kF y f u bs with
         | false=>exact oF (stay s3 (by rw [hc,hj2];rfl))
         | true=>
           refine qK ?_;refine ⟨_,rfl,.inl ⟨rfl,_,bI.of (s3 _ _ hl2)⟩,?_⟩;refine ⟨_,rfl,_,rfl,(by show 1<=sizeLine;decide),fun p1 hp1=>?_⟩;have s4:=aK (o:=.lst [V.int (u:Int)]) hp1;have fl:=short f fm;refine ⟨ra,p1,_,_,rfl,rfl,s4 _ _ (s3 _ _ (s2 _ _ Af)),ai,by rw [Ai,sizeLine_eq];simp;omega,fun p2 hp2=>?_⟩;have s5:=aK (o:=.lst (vN f++[V.int (u:Int)])) hp2;have X6:aS H2 _:=(s3.trans s4).trans s5;refine ⟨l,rs2,_,rfl,rfl,X6 _ _ hl2,by rw [rl2,sizeLine_eq];omega,?_⟩;refine ⟨_,rs2++[.ref p2],rfl,fun b o e=>by rw [aq (ay e hl)];exact X6 _ _ (s2 b o e),ai,?_⟩;rw [take_snoc hu,IC,hc,hj2];have n2:H2 p2=none:=(s3.trans s4).free hp2;rw [show (!false&&true)=true from rfl,if_pos rfl,<- List.append_assoc];refine ((R2.stay PX fun b o _ h=>X6 _ _ h).snoc ⟨p2,rfl,⟨s2.free n2,fun z=>by rw [z,hl2] at n2;cases n2⟩,?_⟩).stay PX fun b o d h=>?_
           . rw [vV]
             exact ai
           . rw [aq d.2]
             exact h
     . rintro σ H2 ⟨v6,rs2,rfl,s2,hl2,R2⟩
       rw [Ai,List.take_length] at R2;exact ⟨_,_,rs2,rfl,s2,hl2,by rw [take_snoc hf,Na];exact R2⟩
   . rintro σ H1 ⟨v5,v6,rs',rfl,sm,hl',R⟩
     rw [R1.len,List.take_length] at R;exact ⟨_,rfl,k H1 l rs' sm hl hl' (R.mono PX fun b d=>d.1)⟩
end
theorem Ek {l:List Nat} {x:Nat}:(x:Int) ∈ qi l ↔ x ∈ l:=by
 unfold qi;rw [List.mem_map];constructor
 . rintro ⟨a,ha,e⟩
   have:a=x:=by omega
   exact this ▸ ha
 . intro h
   exact ⟨x,h,rfl⟩
def iM (y:aB) (v:Nat):List Int:=if (JM.bG (y.2.map JM.aV) v).length=4 then qi (JM.bG (y.2.map JM.aV) v) else -1::qi (JM.bG (y.2.map JM.aV) v)
theorem KR {y:aB} (gy:gc y) (v:Nat):(iM y v).Pairwise (· < ·):=by
 have h:=JM.vf gy.rise v;have h2:(qi (JM.bG (y.2.map JM.aV) v)).Pairwise (· < ·):=by
   unfold qi;rw [List.pairwise_map];exact h.imp fun {a b} h=>by omega
 unfold iM;split
 . exact h2
 . refine List.pairwise_cons.mpr ⟨fun x hx=>?_,h2⟩
   obtain ⟨a,_,rfl⟩:=List.mem_map.mp hx;omega
theorem O7 {y:aB} {v u:Nat} (h:u ∈ JM.bG (y.2.map JM.aV) v):(u:Int) ∈ iM y v:=by
 unfold iM;split
 . exact Ek.mpr h
 . exact List.mem_cons_of_mem _ (Ek.mpr h)
def Ga (p:b4) (f:List Nat) (k:Nat):List Nat:=(JM.bG (p.2.map JM.c9) k).map (Fk.image f)
def wO (y:aB) (p:b4) (f:List Nat) (k:Nat):List Int:=((iM y (Fk.image f k)).filter fun x=>!(qi (Ga p f k)).contains x)++qi (Ga p f k)
def qd (y:aB) (p:b4) (f:List Nat) (k:Nat):Nat:=vX ((aE y).atom (Fk.image f k)).hand (fX (wO y p f k) % 2==1)
theorem aal (e:Int) (l:List Int):Lk (.int e) (vI l)=l.contains e:=by
 unfold Lk vI;rw [List.any_map,Bool.eq_iff_iff,List.any_eq_true,List.contains_iff_mem];constructor
 . rintro ⟨x,hx,h⟩
   have:x=e:=beq_iff_eq.mp h;exact this ▸ hx
 . intro h
   exact ⟨e,h,by show (e==e)=true;simp⟩
section
def Vq (t:Ad):Sp:=fun vs H Q _=>∃ (g:Addr) (v:Nat) (z:kN) (y:aB) (D:Addr->Prop),vs=[.ref g,.int (v:Int)]/\ng t D H g z y/\gc y/\v < y.1.length/\∀ H' l,aS H H'->H' l=some (.lst (vI (iM y v)))->Q (.ref l) H'
theorem ID:aQ ["self","atom","row"] ["self","atom"] (aF kJ):=lR (by decide +kernel)
theorem RW (T:Txt K mg t):bF P w K mg base m5 1 t.bN t.fz ["self","atom"] (Vq t):=by
 obtain ⟨Oj,g1⟩:=T.Ii;refine T.fB.ok ID (fun vs H Q E h=>?_) (fun cdv A outer s H vs Q E hr h=>?_)
 . obtain ⟨g,v,z,y,D,rfl,_⟩:=h
   rfl
 . obtain ⟨g,v,z,y,D,rfl,M,gy,hv,k⟩:=h
   refine ⟨_,ak (aR (i:=2) ID.nd rfl (Or.inl rfl) (bT b6 (aA (pv 0) rfl) (pv 1) (fun _ _=>rfl)))
     (az (aZ (En (cS om (c6 bz (by rfl) T.kM PySem.boot_len (af (pv 2) au)) aN (bW _)) (pv 2) (gJ Jf (jM (af (aU rfl g1 (v:=.int (-1)) ⟨_,rfl⟩) au)) (pv 2))))),?_⟩
   obtain ⟨dg,eg⟩:=M.obj;obtain ⟨ra,Af⟩:∃ ra,z.rs[v]?=some ra:=⟨_,List.getElem?_eq_getElem (by rw [M.rows.len,M.ra.len];exact hv)⟩;have hA:=M.rows.at_ _ _ Af;have e1:(z.rs.map V.ref)[v]?=some (V.ref ra):=by rw [List.getElem?_map,Af];rfl
   have rl:=gy.RG v;refine ⟨_,rfl,fld eg T.aY T.b9 rfl ⟨_,rfl,tG (bI.of M.rows.lst) (bh e1) ?_⟩⟩;refine ⟨_,rfl,ra,_,rfl,.inl (bI.of hA),rfl,_,rfl,?_⟩;rw [show (V.int 4)=V.int ((4:Nat):Int) from rfl,p6,Ai];refine zB (fun c=>?_) (fun c=>?_)
   . have c':(JM.bG (y.2.map JM.aV) v).length=4:=beq_iff_eq.mp c
     refine ⟨_,rfl,k H ra (aS.refl _) ?_⟩;rw [hA,C9];unfold iM;rw [if_pos c']
   . have c':¬ (JM.bG (y.2.map JM.aV) v).length=4:=fun q=>c (beq_iff_eq.mpr q)
     refine ⟨(by show 1<=sizeLine;decide),fun p1 hp1=>?_⟩;have s1:=aK (o:=.lst [V.int (-1)]) hp1;refine ⟨_,rfl,p1,ra,_,_,rfl,rfl,ai,s1 _ _ hA,by rw [Ai,sizeLine_eq];simp;omega,fun p2 hp2=>?_⟩;refine k _ p2 (s1.trans (aK hp2)) ?_;rw [ai,C9];unfold iM;rw [if_neg c'];rfl
theorem vZ {n:Nat} {l:List (Nat×Nat)} (h:JM.nv n l) {v u:Nat} (hu:u ∈ JM.bG l v):u < n:=by
 unfold JM.bG at hu;obtain ⟨q,hq,e⟩:=List.mem_filterMap.mp hu;have:=h.1 q hq;unfold JM.uA at e;split at e
 . cases e;omega
 . split at e
   . cases e;omega
   . cases e
def KS (y:aB) (p:b4) (f:List Nat) (k:Nat):Prop:=Fk.image f k < y.1.length/\∀ u ∈ Ga p f k,u ∈ JM.bG (y.2.map JM.aV) (Fk.image f k)
def X7 (K:Zqq) (t:Ad):Sp:=fun vs H Q _=>∃ (q r gp g lb la:Addr) (k:Nat) (f:List Nat) (pz:uU) (p:b4) (z:kN) (y:aB) (D:Addr->Prop),vs=[.ref q,.ref r,.int (k:Int)]/\BL K t D H q gp g lb la pz p z y/\H r=some (.lst (vN f))/\f.length=p.1.length/\k < p.1.length/\KS y p f k/\∀ H',aS H H'->Q (.int (qd y p f k:Int)) H'
theorem qe:aQ ["self","row","k","around","images","seen","atom"] ["self","row","k"] (aF mO):=lR (by decide +kernel)
theorem Vr (T:Txt K mg t):bF P w K mg base m5 2 t.cI t.ir ["self","row","k"] (X7 K t):=by
 have GA:=@RW P w K mg base t T;have GR:=@IA P w K mg base t T;have GO:=@aai P w K mg base t T;refine T.iE.ok qe (fun vs H Q E h=>?_) (fun cdv A outer s H vs Q E hr h=>?_)
 . obtain ⟨q,r,gp,g,lb,la,n,f,pz,p,z,y,D,rfl,_⟩:=h
   rfl
 . obtain ⟨q,r,gp,g,lb,la,n,f,pz,p,z,y,D,rfl,S,hf,fl,hn,⟨hv,hsub⟩,k⟩:=h
   refine ⟨_,ak (aR (i:=3) qe.nd rfl (Or.inl rfl) (aW (aA (pv 0) rfl) T.aY T.o8 GA hr T.oq .nil bD (af (bT b6 (pv 1) (pv 2) (fun _ _=>rfl)) au)))
     (ak (aR (i:=4) qe.nd rfl (Or.inr rfl) (CM rfl qe.nd (gE (bT b6 (aA (aA (pv 0) rfl) rfl) (pv 2) (fun _ _=>rfl))) (jx (own:=[("atom",6)]) rfl) (fun _ _ _ _ _=>bw (i:=6) qe.nd rfl (Or.inl rfl)) (fun _ _ _ _ _=>As) (fun _ _ _ _ _=>bT (FP (K0:=K) rfl) (pv 1) (pv 6) (fun _ _=>rfl))))
     (ak (aR (i:=5) qe.nd rfl (Or.inl rfl) (gJ Jf (CM rfl qe.nd (gE (pv 3)) (jx (own:=[("atom",6)]) rfl) (fun _ _ _ _ _=>bw (i:=6) qe.nd rfl (Or.inl rfl)) (fun _ _ _ _ _=>t9 (cS (RH (K0:=K) rfl) (pv 6) (pv 4) rfl)) (fun _ _ _ _ _=>pv 6)) (pv 4)))
     (az (aZ (bx GR hr rfl T.Ce T.oR.kp T.Cd .nil bD (af (aA (bT b6 (aA (aA (pv 0) rfl) rfl) (bT b6 (pv 1) (pv 2) (fun _ _=>rfl)) (fun _ _=>rfl)) rfl) (af (bx GO hr rfl T.tP T.fZ.kp T.tO .nil bD (af (pv 3) (af (pv 5) au))) au))))))),?_⟩
   obtain ⟨dq,eq⟩:=S.obj;obtain ⟨dg,eg⟩:=S.mol.obj;obtain ⟨dp,ep⟩:=S.pat.gr.obj;have gy:=S.good;have pl:pz.as.length=p.1.length:=S.pat.at_.len;have abA:=bh (Dl (jF (f:=f) (v:=n) (by omega)));obtain ⟨rp,hrp⟩:∃ a,pz.rs[n]?=some a:=⟨_,List.getElem?_eq_getElem (by rw [S.pat.gr.rows.len,pl];exact hn)⟩;have hP:=S.pat.gr.rows.at_ _ _ hrp;have e1:(pz.rs.map V.ref)[n]?=some (V.ref rp):=by rw [List.getElem?_map,hrp];rfl
   have pnl:(JM.bG (p.2.map JM.c9) n).length<=192:=by
     have:=sJ (p.2.map JM.c9) n;rw [List.length_map] at this;have:=S.pat.nb;omega
   have iml:(Ga p f n).length<=192:=by unfold Ga;rw [List.length_map];exact pnl
   have anl:(iM y (Fk.image f n)).length<=13:=by
     have q0:=sJ (y.2.map JM.aV) (Fk.image f n);rw [List.length_map] at q0;have:=gy.few;unfold iM qi;split<;>simp<;>omega
   refine ⟨_,rfl,fld eq T.bB T.bq rfl ⟨g,dg,_,rfl,eg,rfl,_,rfl,_,rfl,tG (bI.of hf) abA ?_⟩⟩;refine ⟨g,Fk.image f n,z,y,D,rfl,S.mol,gy,hv,fun H1 l1 s1 hl1=>?_⟩;refine ⟨_,rfl,fld (s1 _ _ eq) T.bB T.dU rfl (fld (s1 _ _ ep) T.jj T.cK rfl ⟨_,rfl,tG (bI.of (s1 _ _ S.pat.gr.rows.lst)) (bh e1) ⟨rp,rfl,⟨_,bI.of (s1 _ _ hP)⟩,fun D2 Vm=>?_⟩⟩)⟩;refine nj (K:=K) (a:=rp) (xs:=vN (JM.bG (p.2.map JM.c9) n)) (fun i H'=>aS H1 H'/\H' D2=some (.lst (vN (((JM.bG (p.2.map JM.c9) n).take i).map (Fk.image f))))) ⟨aK Vm,ai⟩ (fun i H' _ ⟨sm,_⟩=>bI.of (sm _ _ (s1 _ _ hP))) ?_ ?_
   . rintro i x H' hx ⟨sm,hD'⟩
     obtain ⟨u,hu,rfl⟩:=FO hx;have hun:u < f.length:=by
       have:=vZ S.pat.rise (List.mem_of_getElem? hu);omega
     refine ⟨rfl,_,rfl,_,rfl,tG (bI.of (sm _ _ (s1 _ _ hf))) (bh (Dl (jF hun))) ?_⟩;refine ⟨_,hD',by rw [Ai,List.length_map,List.length_take,sizeLine_eq];omega,fun b o e=>by rw [aq (ay e Vm)];exact sm b o e,?_⟩;rw [ai,take_snoc hu,List.map_append,<- vV];rfl
   . rintro H2 ⟨s2,hD'⟩
     rw [Ai,List.take_length] at hD';have him:H2 D2=some (.lst (vN (Ga p f n))):=hD';have N1:=s1.trans s2;refine ⟨_,rfl,l1,rfl,⟨_,bI.of (s2 _ _ hl1)⟩,fun D3 hD3=>?_⟩;refine nj (K:=K) (a:=l1) (xs:=vI (iM y (Fk.image f n))) (fun i H'=>aS H2 H'/\H' D3=some (.lst (vI (((iM y (Fk.image f n)).take i).filter fun x=>!(qi (Ga p f n)).contains x)))) ⟨aK hD3,ai⟩ (fun i H' _ ⟨sm,_⟩=>bI.of (sm _ _ (s2 _ _ hl1))) ?_ ?_
     . rintro i x H' hx ⟨sm,hD4⟩
       obtain ⟨u,hu,rfl⟩:=MX hx;have hi:i < (iM y (Fk.image f n)).length:=(Zqz hu);refine ⟨rfl,_,rfl,_,rfl,D2,_,rfl,.inl (bI.of (sm _ _ him)),rfl,KI _,_,rfl,?_⟩;show if (!Lk (.int u) (vN (Ga p f n)))=true then _ else _;rw [C9,aal];refine zB (fun c=>?_) (fun c=>?_)
       . refine ⟨_,rfl,_,hD4,?_,fun b o e=>by rw [aq (ay e hD3)];exact sm b o e,?_⟩
         . have q1:=List.length_filter_le (fun x=>!(qi (Ga p f n)).contains x) ((iM y (Fk.image f n)).take i)
           rw [List.length_take] at q1;rw [uv,sizeLine_eq];omega
         . rw [ai,take_snoc hu,List.filter_append,<- KP]
           simp only [List.filter_cons,c,if_true,List.filter_nil]
       . refine ⟨sm,?_⟩
         rw [take_snoc hu,List.filter_append,hD4];simp only [List.filter_cons,c,if_false,List.filter_nil,List.append_nil,Bool.false_eq_true]
     . rintro H3 ⟨s3,hD4⟩
       rw [uv,List.take_length] at hD4;have q1:=List.length_filter_le (fun x=>!(qi (Ga p f n)).contains x) (iM y (Fk.image f n));have tl:(qi (Ga p f n)).length=(Ga p f n).length:=by simp [qi]
       refine ⟨_,rfl,D3,D2,_,_,rfl,rfl,hD4,s3 _ _ him,by rw [uv,Ai,sizeLine_eq];omega,fun p5 hp5=>?_⟩;rw [C9,show vI ((iM y (Fk.image f n)).filter fun x=>!(qi (Ga p f n)).contains x)++vI (qi (Ga p f n))=vI (wO y p f n) by unfold wO vI;rw [List.map_append]];have s4:=aK (o:=.lst (vI (wO y p f n))) hp5;have s24:=s3.trans s4;have s04:=N1.trans s24;obtain ⟨a,ha⟩:∃ a,y.1[Fk.image f n]?=some a:=⟨_,List.getElem?_eq_getElem hv⟩;obtain ⟨va,UQ⟩:∃ u,z.as[Fk.image f n]?=some u:=⟨_,List.getElem?_eq_getElem (by rw [S.mol.ra.len];exact hv)⟩;obtain ⟨oa,dxa,rfl,_,rep⟩:=S.mol.ra.at_ _ va a UQ ha;have ea:(aE y).atom (Fk.image f n)=a.1:=by
         unfold Mol.atom aE;simp [List.getD,ha]
       have bnd:=gy.atm a (List.mem_of_getElem? ha);refine ⟨_,rfl,fld (s04 _ _ eq) T.bB T.bq rfl (fld (s04 _ _ eg) T.aY T.bU rfl ⟨_,rfl,_,rfl,tG (bI.of (s04 _ _ hf)) abA (tG (bI.of (s04 _ _ S.mol.atoms)) (bh UQ) (fld (s04 _ _ rep) T.mQ T.lF rfl ⟨_,rfl,_,rfl,?_⟩))⟩)⟩;refine ⟨l1,p5,iM y (Fk.image f n),wO y p f n,rfl,s24 _ _ (s2 _ _ hl1),ai,KR gy _,fun x hx=>?_,by unfold wO;rw [List.length_append];omega,fun H6 s6=>?_⟩
       . rcases List.mem_append.mp hx with hx | hx
         . exact (List.mem_filter.mp hx).1
         . obtain ⟨u,hu,rfl⟩:=List.mem_map.mp hx
           exact O7 (hsub u hu)
       . refine ⟨a.1.hand,_,rfl,by omega,?_⟩
         have:=k H6 (s04.trans s6);unfold qd at this;rw [ea] at this;exact this
def m8 (y:aB) (p:b4) (f:List Nat):Bool:=p.1.zipIdx.all fun z=>!(Fk.isOne z.1.1.hand&&qd y p f z.2 != z.1.1.hand)
def X8 (K:Zqq) (t:Ad):Sp:=fun vs H Q _=>∃ (q r gp g lb la:Addr) (f:List Nat) (pz:uU) (p:b4) (z:kN) (y:aB) (D:Addr->Prop),vs=[.ref q,.ref r]/\BL K t D H q gp g lb la pz p z y/\H r=some (.lst (vN f))/\f.length=p.1.length/\(∀ k x,p.1[k]?=some x->Fk.isOne x.1.hand=true->KS y p f k)/\∀ H',aS H H'->Q (.bl (m8 y p f)) H'
theorem Gb:aQ ["self","row","k","said"] ["self","row"] (aF mL):=lR (by decide +kernel)
theorem Vs (T:Txt K mg t):bF P w K mg base m5 3 t.cH t.ig ["self","row"] (X8 K t):=by
 have GH:=@Vr P w K mg base t T;have GT:=@Fz P w K mg base t T;refine T.iD.ok Gb (fun vs H Q E h=>?_) (fun cdv A outer s H vs Q E hr h=>?_)
 . obtain ⟨q,r,gp,g,lb,la,f,pz,p,z,y,D,rfl,_⟩:=h
   rfl
 . obtain ⟨q,r,gp,g,lb,la,f,pz,p,z,y,D,rfl,S,hf,fl,ok,k⟩:=h
   have hr1:dG 1 _:=hr.mono (by decide);refine ⟨_,ak (fj PassesOwn.never rfl (tD rfl T.jq (af (aA (aA (pv 0) rfl) rfl) au)) (xj rfl (gq (bw (i:=2) Gb.nd rfl (Or.inl rfl)) (gq (bw (i:=3) Gb.nd rfl (Or.inl rfl)) t6)))
       (az (kL (PW.pt (oE (jr (bx GT hr1 rfl T.A7 T.qO.kp T.A2 .nil bD (af (aA (pv 3) rfl) au))) (lJ (cS wk (aW (pv 0) T.bB T.rT GH hr T.rH .nil bD (af (pv 1) (af (pv 2) au))) (aA (pv 3) rfl) (bW _))))) (az (aZ qX)) dW)))
     (az (aZ qX)),?_⟩
   obtain ⟨dq,eq⟩:=S.obj;obtain ⟨dp,ep⟩:=S.pat.gr.obj;have pl:pz.as.length=p.1.length:=S.pat.at_.len;refine ⟨_,rfl,fld eq T.bB T.dU rfl (fld ep T.jj T.gO rfl ⟨pz.la,pz.as,rfl,bI.of S.pat.gr.atoms,?_⟩)⟩;let xf:L2.Iv:=fun i σ H'=>∃ v2 v3,σ=[some (.ref q),some (.ref r),v2,v3]/\aS H H'/\((p.1.zipIdx.drop i).all fun z=>!(Fk.isOne z.1.1.hand&&qd y p f z.2 != z.1.1.hand))=m8 y p f;refine pX (K:=K) (a:=pz.la) (xs:=pz.as) xf ⟨none,none,rfl,aS.refl _,rfl⟩ (fun i σ H' _ ⟨_,_,_,sm,_⟩=>bI.of (sm _ _ S.pat.gr.atoms)) ?_ ?_
   . rintro i x σ H' Tt hx ⟨v2,v3,rfl,sm,e⟩ hT
     have hi:i < pz.as.length:=(Zqz hx);obtain ⟨c,hc⟩:∃ c,p.1[i]?=some c:=⟨_,List.getElem?_eq_getElem (by omega)⟩;obtain ⟨o,dx,ln,tc,th,tn,tt,rfl,R⟩:=S.pat.at_.at_ i x c hx hc;rw [FL hc,List.all_cons] at e;have sT:aS H (upd H' Tt (.tup [.int (i:Int),.ref o])):=sm.trans (aK hT);refine ⟨Tt,_,rfl,oj.of ai,rfl,_,_,rfl,_,_,rfl,rfl,?_⟩;refine ⟨_,rfl,fld (sT _ _ R.obj) T.b7 T.cW rfl ?_⟩;refine ⟨c.1.hand,rfl,fun H2 s2=>⟨_,rfl,?_⟩⟩;have IB:=sT.trans s2;cases h1:Fk.isOne c.1.hand with
     | false=>
       rw [h1] at e;exact oF (oF ⟨_,_,rfl,IB,e⟩)
     | true=>
       rw [h1] at e;refine qK ?_;refine ⟨_,rfl,q,dq,_,rfl,IB _ _ eq,rfl,_,rfl,_,rfl,?_⟩;refine ⟨q,r,gp,g,lb,la,i,f,pz,p,z,y,D,rfl,S.same IB,IB _ _ hf,fl,by omega,ok i c hc h1,fun H3 s3=>?_⟩;have Nz:=IB.trans s3;refine ⟨_,rfl,fld (Nz _ _ R.obj) T.b7 T.cW rfl ⟨rfl,_,rfl,?_⟩⟩;rw [CA];cases h2:(qd y p f i != c.1.hand) with
       | true=>
         rw [h2] at e;have e':false=m8 y p f:=e;rw [<- e'] at k;exact qK (k _ Nz)
       | false=>
         rw [h2] at e;exact oF ⟨_,_,rfl,Nz,e⟩
   . rintro σ H1 ⟨v2,v3,rfl,sm,e⟩
     rw [show p.1.zipIdx.drop pz.as.length=[] from List.drop_eq_nil_of_le (by simp;omega)] at e;rw [<- e] at k;exact k _ sm
end
def VB (p:b4) (a b:Nat):List Nat:=(JM.bG (p.2.map JM.c9) a).filter fun x=>x != b
def mnb (y:aB) (v u:Nat):List Nat:=(JM.bG (y.2.map JM.aV) v).filter fun x=>x != u
def keeps (y:aB) (p:b4) (f:List Nat) (a b:Nat):Bool:=((VB p a b).head?.map (Fk.image f))==(mnb y (Fk.image f a) (Fk.image f b)).head?
structure Vt (y:aB) (p:b4) (f:List Nat) (a b:Nat):Prop where
 la:a < p.1.length
 lb:b < p.1.length
 im:Fk.image f a < y.1.length
 pn:VB p a b ≠ []
 mn:mnb y (Fk.image f a) (Fk.image f b) ≠ []
def qf (y:aB) (p:b4) (f:List Nat) (x:PBond):Nat:=vX (match (aE y).bondAt (Fk.image f x.a) (Fk.image f x.b) with
 | some k=>nU y k
 | none=>0) (keeps y p f x.a x.b != keeps y p f x.b x.a)
structure KU (y:aB) (p:b4) (f:List Nat) (x:PBond):Prop where
 ea:Vt y p f x.a x.b
 eb:Vt y p f x.b x.a
 jo:∃ k,(aE y).bondAt (Fk.image f x.a) (Fk.image f x.b)=some k
section
def aam (K:Zqq) (t:Ad):Sp:=fun vs H Q _=>∃ (q r gp g lb la:Addr) (a b:Nat) (f:List Nat) (pz:uU) (p:b4) (z:kN) (y:aB) (D:Addr->Prop),vs=[.ref q,.ref r,.int (a:Int),.int (b:Int)]/\BL K t D H q gp g lb la pz p z y/\H r=some (.lst (vN f))/\f.length=p.1.length/\Vt y p f a b/\∀ H',aS H H'->Q (.bl (keeps y p f a b)) H'
theorem PY:aQ ["self","row","end","other","least_said"] ["self","row","end","other"] (aF kR):=lR (by decide +kernel)
theorem X9 (T:Txt K mg t):bF P w K mg base m5 2 t.bZ t.fQ ["self","row","end","other"] (aam K t):=by
 have GP:bF P w K mg base m5 1 t.bH t.dF ["self","end","other"] (uO K t.bK):=vK T T.jj T.cK;have GM:bF P w K mg base m5 1 t.bH t.dF ["self","end","other"] (uO K t.aT):=vK T T.aY T.b9;refine T.fW.ok PY (fun vs H Q E h=>?_) (fun cdv A outer s H vs Q E hr h=>?_)
 . obtain ⟨q,r,gp,g,lb,la,a,b,f,pz,p,z,y,D,rfl,_⟩:=h
   rfl
 . obtain ⟨q,r,gp,g,lb,la,a,b,f,pz,p,z,y,D,rfl,S,hf,fl,ok,k⟩:=h
   refine ⟨_,ak (aR (i:=4) PY.nd rfl (Or.inl rfl) (bT b6 (aW (aA (pv 0) rfl) T.jj T.m7 GP hr T.iQ .nil bD (af (pv 2) (af (pv 3) au))) aN (fun _ _=>rfl)))
     (az (aZ (e9 om (bT b6 (pv 1) (pv 4) (fun _ _=>rfl)) (bT b6 (aW (aA (pv 0) rfl) T.aY T.mR GM hr T.iQ .nil bD (af (bT b6 (pv 1) (pv 2) (fun _ _=>rfl)) (af (bT b6 (pv 1) (pv 3) (fun _ _=>rfl)) au))) aN (fun _ _=>rfl)) (bW _)))),?_⟩
   obtain ⟨dq,eq⟩:=S.obj;obtain ⟨dg,eg⟩:=S.mol.obj;obtain ⟨dp,ep⟩:=S.pat.gr.obj;have gy:=S.good;have pl:pz.as.length=p.1.length:=S.pat.at_.len;have h1:=ok.la;have h2:=ok.lb;have h3:=ok.im;obtain ⟨u,ul,eu⟩:=List.exists_cons_of_ne_nil ok.pn;obtain ⟨x,xl,ex⟩:=List.exists_cons_of_ne_nil ok.mn;have um:u ∈ JM.bG (p.2.map JM.c9) a:=(List.mem_filter.mp (show u ∈ VB p a b by rw [eu];simp)).1;have hu:u < f.length:=by
     have:=vZ S.pat.rise um;omega
   have pnl:(JM.bG (p.2.map JM.c9) a).length<=1000:=by
     have:=sJ (p.2.map JM.c9) a;rw [List.length_map] at this;have:=S.pat.nb;omega
   refine ⟨_,rfl,fld eq T.bB T.dU rfl ⟨gp,dp,_,rfl,ep,rfl,_,rfl,_,rfl,?_⟩⟩;refine ⟨gp,dp,pz.lr,_,pz.rs,pz.as.length,a,b,_,rfl,ep,rfl,S.pat.gr.rows,by omega,pnl,fun H1 l1 s1 nl1 hl1=>?_⟩;have hl1':H1 l1=some (.lst (vN (VB p a b))):=hl1;refine (tG (bI.of hl1') (bh (j:=0) (v:=V.int (u:Int)) (by rw [eu];rfl)) ?_);refine ⟨_,rfl,_,rfl,tG (bI.of (s1 _ _ hf)) (bh (Dl (jF hu))) ?_⟩;refine ⟨_,rfl,fld (s1 _ _ eq) T.bB T.bq rfl ⟨g,dg,_,rfl,s1 _ _ eg,rfl,_,rfl,_,rfl,tG (bI.of (s1 _ _ hf)) (bh (Dl (jF (v:=a) (by omega)))) ⟨_,rfl,_,rfl,tG (bI.of (s1 _ _ hf)) (bh (Dl (jF (v:=b) (by omega)))) ?_⟩⟩⟩;refine ⟨g,dg,z.lr,_,z.rs,z.as.length,Fk.image f a,Fk.image f b,_,rfl,s1 _ _ eg,rfl,S.mol.rows.same' s1,by rw [S.mol.ra.len];exact h3,gy.RG _,fun H2 l2 s2 nl2 hl2=>?_⟩;have hl2':H2 l2=some (.lst (vN (mnb y (Fk.image f a) (Fk.image f b)))):=hl2;refine (tG (bI.of hl2') (bh (j:=0) (v:=V.int (x:Int)) (by rw [ex];rfl)) ⟨rfl,?_⟩);rw [p6];have e:keeps y p f a b=(Fk.image f u==x):=by
     unfold keeps;rw [eu,ex];rfl
   rw [<- e];exact k H2 (s1.trans s2)
def XA (K:Zqq) (t:Ad):Sp:=fun vs H Q _=>∃ (q r o gp g lb la:Addr) (f:List Nat) (pz:uU) (p:b4) (z:kN) (y:aB) (D D':Addr->Prop) (x:PBond×Nat),vs=[.ref q,.ref r,.ref o]/\BL K t D H q gp g lb la pz p z y/\H r=some (.lst (vN f))/\f.length=p.1.length/\yx t.aP D' H (.ref o) x/\KU y p f x.1/\∀ H',aS H H'->Q (.int (qf y p f x.1:Int)) H'
theorem BN:aQ ["self","row","said","k","at_a","at_b"] ["self","row","said"] (aF jN):=lR (by decide +kernel)
theorem Vu (T:Txt K mg t):bF P w K mg base m5 3 t.cj t.iw ["self","row","said"] (XA K t):=by
 have GK:=@X9 P w K mg base t T;have GR:=@IA P w K mg base t T;refine T.iG.ok BN (fun vs H Q E h=>?_) (fun cdv A outer s H vs Q E hr h=>?_)
 . obtain ⟨q,r,o,gp,g,lb,la,f,pz,p,z,y,D,D',x,rfl,_⟩:=h
   rfl
 . obtain ⟨q,r,o,gp,g,lb,la,f,pz,p,z,y,D,D',x,rfl,S,hf,fl,rx,ok,k⟩:=h
   have hr1:dG 1 _:=hr.mono (by decide);have hu:=hr.un;have hu':(A.deeper (envOfC "Search.side_read" (aF jN) s.heap.objs.size t.cj cdv)).units+1 < cLine:=by omega
   refine ⟨_,ak (aR (i:=3) BN.nd rfl (Or.inl rfl) (DR hu' (aA (aA (pv 0) rfl) rfl) (mD (af (bT b6 (pv 1) (aA (pv 2) rfl) (fun _ _=>rfl)) (af (bT b6 (pv 1) (aA (pv 2) rfl) (fun _ _=>rfl)) au))) (fun _ _=>rfl)))
     (ak (aR (i:=4) BN.nd rfl (Or.inl rfl) (aW (pv 0) T.bB T.lC GK hr T.l7 .nil bD (af (pv 1) (af (aA (pv 2) rfl) (af (aA (pv 2) rfl) au)))))
     (ak (aR (i:=5) BN.nd rfl (Or.inl rfl) (aW (pv 0) T.bB T.lC GK hr T.l7 .nil bD (af (pv 1) (af (aA (pv 2) rfl) (af (aA (pv 2) rfl) au)))))
     (az (aZ (bx GR hr1 rfl T.Ce T.oR.kp T.Cd .nil bD (af (aA (bT b6 (aA (aA (pv 0) rfl) rfl) (pv 3) (fun _ _=>rfl)) rfl) (af (e9 wk (pv 4) (pv 5) (bW _)) au))))))),?_⟩
   obtain ⟨dq,eq⟩:=S.obj;obtain ⟨dg,eg⟩:=S.mol.obj;have gy:=S.good;obtain ⟨o',dx,e0,_,R⟩:=rx;cases e0;obtain ⟨n,hn⟩:=ok.jo;have a1:=ok.ea.la;have b1:=ok.eb.la;obtain ⟨c,hc⟩:∃ c,y.2[n]?=some c:=by
     have hlt:=(List.findIdx?_eq_some_iff_getElem.mp (show (y.2.map JM.aV).findIdx? _=some n by rw [<- yZ];exact hn)).1;rw [List.length_map] at hlt;exact ⟨_,List.getElem?_eq_getElem hlt⟩
   have hlt:n < y.2.length:=(Zqz hc);obtain ⟨vb,Yt⟩:∃ u,z.us[n]?=some u:=⟨_,List.getElem?_eq_getElem (by rw [S.mol.rb.len];exact hlt)⟩;obtain ⟨ob,dxb,rfl,_,rep⟩:=S.mol.rb.at_ n vb c Yt hc;have bnd:=gy.Rt c (List.mem_of_getElem? hc);refine ⟨_,rfl,fld eq T.bB T.bq rfl (fld eg T.aY T.bV rfl ?_)⟩;refine ⟨_,rfl,_,rfl,fld R T.bc T.dz rfl (tG (bI.of hf) (bh (Dl (jF (v:=x.1.a) (by omega)))) ⟨_,rfl,_,rfl,fld R T.bc T.d8 rfl (tG (bI.of hf) (bh (Dl (jF (v:=x.1.b) (by omega)))) ⟨(by show 2<=sizeLine;decide),fun p1 hp1=>?_⟩)⟩)⟩;have s1:aS H (upd H p1 (.tup [.int (Fk.image f x.1.a:Int),.int (Fk.image f x.1.b:Int)])):=aK hp1;have dg1:qY (upd H p1 (.tup [.int (Fk.image f x.1.a:Int),.int (Fk.image f x.1.b:Int)])) z.ln (.ref p1) (some (.int (n:Int))):=by
     have:=qY.t (k:=kI [(Fk.image f x.1.a:Int),(Fk.image f x.1.b:Int)]) (s1 _ _ S.mol.nums) (by rw [DM];exact ai);rw [S.mol.num,<- yZ,hn] at this;exact this
   refine ⟨z.ln,_,rfl,dg1,?_⟩;refine ⟨_,rfl,q,dq,_,rfl,s1 _ _ eq,rfl,_,rfl,_,rfl,fld (s1 _ _ R) T.bc T.dz rfl ⟨_,rfl,fld (s1 _ _ R) T.bc T.d8 rfl ?_⟩⟩;refine ⟨q,r,gp,g,lb,la,x.1.a,x.1.b,f,pz,p,z,y,D,rfl,S.same s1,s1 _ _ hf,fl,ok.ea,fun H2 s2=>?_⟩;have N1:=s1.trans s2;refine ⟨_,rfl,q,dq,_,rfl,N1 _ _ eq,rfl,_,rfl,_,rfl,fld (N1 _ _ R) T.bc T.d8 rfl ⟨_,rfl,fld (N1 _ _ R) T.bc T.dz rfl ?_⟩⟩;refine ⟨q,r,gp,g,lb,la,x.1.b,x.1.a,f,pz,p,z,y,D,rfl,S.same N1,N1 _ _ hf,fl,ok.eb,fun H3 s3=>?_⟩;have Y0:=N1.trans s3;refine ⟨_,rfl,fld (Y0 _ _ eq) T.bB T.bq rfl (fld (Y0 _ _ eg) T.aY T.cP rfl ⟨_,rfl,tG (bI.of (Y0 _ _ S.mol.bonds)) (bh Yt) (fld (Y0 _ _ rep) T.gH T.lG rfl ⟨_,rfl,_,rfl,rfl,?_⟩)⟩)⟩;refine ⟨c.1.side,_,rfl,by omega,?_⟩;have:=k H3 Y0;unfold qf nU at this;rw [hn] at this;simp only [qQ hc] at this;rw [Vf];exact this
def mC (y:aB) (p:b4) (f:List Nat):Bool:=p.2.all fun z=>!(Fk.isOne z.1.side&&qf y p f z.1 != z.1.side)
def XC (K:Zqq) (t:Ad):Sp:=fun vs H Q _=>∃ (q r gp g lb la:Addr) (f:List Nat) (pz:uU) (p:b4) (z:kN) (y:aB) (D:Addr->Prop),vs=[.ref q,.ref r]/\BL K t D H q gp g lb la pz p z y/\H r=some (.lst (vN f))/\f.length=p.1.length/\(∀ x ∈ p.2,Fk.isOne x.1.side=true->KU y p f x.1)/\∀ H',aS H H'->Q (.bl (mC y p f)) H'
theorem Nb:aQ ["self","row","said"] ["self","row"] (aF mP):=lR (by decide +kernel)
theorem Vv (T:Txt K mg t):bF P w K mg base m5 4 t.cJ t.iu ["self","row"] (XC K t):=by
 have GS:=@Vu P w K mg base t T;have GT:=@Fz P w K mg base t T;refine T.iF.ok Nb (fun vs H Q E h=>?_) (fun cdv A outer s H vs Q E hr h=>?_)
 . obtain ⟨q,r,gp,g,lb,la,f,pz,p,z,y,D,rfl,_⟩:=h
   rfl
 . obtain ⟨q,r,gp,g,lb,la,f,pz,p,z,y,D,rfl,S,hf,fl,ok,k⟩:=h
   have hr1:dG 1 _:=hr.mono (by decide);refine ⟨_,ak (fj PassesOwn.never rfl (gE (aA (aA (pv 0) rfl) rfl)) (bw (i:=2) Nb.nd rfl (Or.inl rfl))
       (az (kL (PW.pt (oE (jr (bx GT hr1 rfl T.A7 T.qO.kp T.A2 .nil bD (af (aA (pv 2) rfl) au))) (lJ (cS wk (aW (pv 0) T.bB T.rW GS hr T.rK .nil bD (af (pv 1) (af (pv 2) au))) (aA (pv 2) rfl) (bW _))))) (az (aZ qX)) dW)))
     (az (aZ qX)),?_⟩
   obtain ⟨dq,eq⟩:=S.obj;obtain ⟨dp,ep⟩:=S.pat.gr.obj;refine ⟨_,rfl,fld eq T.bB T.dU rfl (fld ep T.jj T.gP rfl ⟨pz.lb,rfl,⟨_,bI.of S.pat.gr.bonds⟩,?_⟩)⟩;let xf:L2.Iv:=fun i σ H'=>∃ v2,σ=[some (.ref q),some (.ref r),v2]/\aS H H'/\((p.2.drop i).all fun z=>!(Fk.isOne z.1.side&&qf y p f z.1 != z.1.side))=mC y p f;refine pC (K:=K) (a:=pz.lb) (xs:=pz.us) xf ⟨none,rfl,aS.refl _,rfl⟩ (fun i σ H' _ ⟨_,_,sm,_⟩=>bI.of (sm _ _ S.pat.gr.bonds)) ?_ ?_
   . rintro i x σ H' hx ⟨v2,rfl,sm,e⟩
     have hi:i < pz.us.length:=(Zqz hx);obtain ⟨c,hc⟩:∃ c,p.2[i]?=some c:=⟨_,List.getElem?_eq_getElem (by rw [<- S.pat.bo.len];exact hi)⟩;obtain ⟨o,dx,rfl,dO,R⟩:=S.pat.bo.at_ i x c hx hc;have ed:p.2.drop i=c::p.2.drop (i+1):=by
       obtain ⟨hlt,hv'⟩:=List.getElem?_eq_some_iff.mp hc;rw [List.drop_eq_getElem_cons hlt,hv']
     rw [ed,List.all_cons] at e;refine ⟨_,rfl,fld (sm _ _ R) T.bc T.cX rfl ?_⟩;refine ⟨c.1.side,rfl,fun H2 s2=>⟨_,rfl,?_⟩⟩;have IB:=sm.trans s2;cases h1:Fk.isOne c.1.side with
     | false=>
       rw [h1] at e;exact oF (oF ⟨_,rfl,IB,e⟩)
     | true=>
       rw [h1] at e;refine qK ?_;refine ⟨_,rfl,q,dq,_,rfl,IB _ _ eq,rfl,_,rfl,_,rfl,?_⟩;refine ⟨q,r,o,gp,g,lb,la,f,pz,p,z,y,D,D,c,rfl,S.same IB,IB _ _ hf,fl,⟨o,dx,rfl,dO,IB _ _ R⟩,ok c (List.mem_of_getElem? hc) h1,fun H3 s3=>?_⟩;have Nz:=IB.trans s3;refine ⟨_,rfl,fld (Nz _ _ R) T.bc T.cX rfl ⟨rfl,_,rfl,?_⟩⟩;rw [CA];cases h2:(qf y p f c.1 != c.1.side) with
       | true=>
         rw [h2] at e;have e':false=mC y p f:=e;rw [<- e'] at k;exact qK (k _ Nz)
       | false=>
         rw [h2] at e;exact oF ⟨_,rfl,Nz,e⟩
   . rintro σ H1 ⟨v2,rfl,sm,e⟩
     rw [show p.2.drop pz.us.length=[] from List.drop_eq_nil_of_le (by rw [S.pat.bo.len];exact Nat.le_refl _)] at e;rw [<- e] at k;exact k _ sm
end
def nV (p:b4) (k:Nat):List (PBond×Nat):=p.2.filter fun b=>b.1.b==k
def nX (y:aB) (p:b4) (i:Nat):List Nat:=match p.1[i]? with
 | some x=>HD y x.1
 | none=>[]
def fK (y:aB) (p:b4):Nat->List (List Nat)
 | 0=>[[]]
 | i+1=>longer y (fK y p i) (nX y p i) (nV p i)
def tZ (y:aB) (p:b4):List (List Nat):=(fK y p p.1.length).filter fun f=>m8 y p f&&mC y p f
theorem Nc (y:aB) (x:PAtom):(HD y x).length<=y.1.length:=by
 unfold HD;have:=List.length_filter_le (CC y x) (List.range y.1.length);rw [List.length_range] at this;exact this
theorem O8 (y:aB) (p:b4) (i:Nat):(nX y p i).length<=y.1.length:=by
 unfold nX;cases p.1[i]? with
 | none=>simp
 | some x=>exact Nc y x.1
theorem O9 {y:aB} {fs:List (List Nat)} {ws:List Nat} {bs:List (PBond×Nat)} {f:List Nat}:f ∈ longer y fs ws bs ↔ ∃ e ∈ fs,∃ w ∈ ws,e.contains w=false/\kF y e w bs=true/\f=e++[w]:=by
 unfold longer more;rw [List.mem_flatMap];constructor
 . rintro ⟨e,he,h⟩
   obtain ⟨w,hw,rfl⟩:=List.mem_map.mp h;obtain ⟨h1,h2⟩:=List.mem_filter.mp hw;rw [Bool.and_eq_true,Bool.not_eq_true'] at h2;exact ⟨e,he,w,h1,h2.1,h2.2,rfl⟩
 . rintro ⟨e,he,w,hw,h1,h2,rfl⟩
   exact ⟨e,he,List.mem_map.mpr ⟨w,List.mem_filter.mpr ⟨hw,by rw [h1,h2];rfl⟩,rfl⟩⟩
theorem wc {y:aB} {p:b4}:∀ (i:Nat) (f:List Nat),f ∈ fK y p i->f.length=i
 | 0,f,h=>by
  have:f=[]:=by simpa [fK] using h
  rw [this]
  rfl
 | i+1,f,h=>by
  obtain ⟨e,he,w,_,_,_,rfl⟩:=O9.mp (show f ∈ longer y (fK y p i) (nX y p i) (nV p i) from h)
  rw [List.length_append,wc i e he]
  rfl
theorem Dn {y:aB} {p:b4} (h9:y.1.length<=9):∀ i,(fK y p i).length<=9 ^ i
 | 0=>by simp [fK]
 | i+1=>by
  have ih:=Dn (p:=p) h9 i
  have a:=Ak y (nX y p i) (nV p i) (fK y p i)
  have b:=O8 y p i
  have c:(fK y p i).length * (nX y p i).length<=9 ^ i * 9:=Nat.mul_le_mul ih (by omega)
  have e:fK y p (i+1)=longer y (fK y p i) (nX y p i) (nV p i):=rfl
  rw [e,Nat.pow_succ]
  omega
theorem wg {y:aB} {p:b4} (h9:y.1.length<=9) {i:Nat} (hi:i<=5):(fK y p i).length<=59049:=by
 have a:=Dn (p:=p) h9 i;have b:9 ^ i<=9 ^ 5:=Nat.pow_le_pow_right (by decide) hi;have:9 ^ 5=59049:=by decide
 omega
structure Vw (y:aB) (p:b4):Prop where
 n9:y.1.length<=9
 k5:p.1.length<=5
 how:∀ b ∈ p.2,b.1.how<=1
 abB:∀ f ∈ fK y p p.1.length,∀ k x,p.1[k]?=some x->Fk.isOne x.1.hand=true->KS y p f k
 abC:∀ f ∈ fK y p p.1.length,∀ x ∈ p.2,Fk.isOne x.1.side=true->KU y p f x.1
section
def aan (K:Zqq) (t:Ad):Sp:=fun vs H Q _=>∃ (gp g:Addr) (pz:uU) (p:b4) (z:kN) (y:aB) (D:Addr->Prop),vs=[.ref gp,.ref g]/\BJ K t D H gp pz.la pz.lb pz.lr pz.as pz.us pz.rs p/\ng t D H g z y/\gc y/\Vw y p /\
 ∀ H' l rs,aS H H'->H l=none->H' l=some (.lst rs)->cQ qw (fun b=>H b=none) H' rs (tZ y p)->Q (.ref l) H'
theorem pB:aQ ["pattern","molecule","search","rows","k","said","bonds_back","bond","row"] ["pattern","molecule"] (aF Cc):=lR (by decide +kernel)
theorem XD (T:Txt K mg t):bF P w K mg base m5 5 t.oQ t.uC ["pattern","molecule"] (aan K t):=by
 have GI:=@Vo P w K mg base t T;have GL:=@X5 P w K mg base t T;have GM:=@ab9 P w K mg base t T;have GH:=@Vs P w K mg base t T;have GS:=@Vv P w K mg base t T;refine T.qT.ok pB (fun vs H Q E h=>?_) (fun cdv A outer s H vs Q E hr h=>?_)
 . obtain ⟨gp,g,pz,p,z,y,D,rfl,_⟩:=h
   rfl
 . obtain ⟨gp,g,pz,p,z,y,D,rfl,Pa,M,gy,ok,k⟩:=h
   have Mv:dG 3 _:=hr.mono (by decide);refine ⟨_,ak (aR (i:=2) pB.nd rfl (Or.inr rfl) (qI T.LF GI hr rfl T.LD T.zw .nil bD (af (pv 0) (af (pv 1) au))))
     (ak (aR (i:=3) pB.nd rfl (Or.inl rfl) (jM (af (jM au) au)))
     (ak (fj PassesOwn.never rfl (tD rfl T.jq (af (aA (pv 0) rfl) au)) (xj rfl (gq (bw (i:=4) pB.nd rfl (Or.inr rfl)) (gq (bw (i:=5) pB.nd rfl (Or.inl rfl)) t6)))
       (ak (x6 (i:=6) rfl pB.nd rfl rfl rfl (gE (aA (pv 0) rfl)) (jx (own:=[("bond",7)]) rfl) (fun _ _ _ _ _=>bw (i:=7) pB.nd rfl (Or.inl rfl)) (fun _ _ _ _ _=>t9 (cS om (Ef (K0:=K) rfl (pv 7) rfl) (pv 4) (bW _))) (fun _ _ _ _ _=>pv 7))
       (az (aR (i:=3) pB.nd rfl (Or.inl rfl) (aW (pv 2) T.bB T.pS GL hr T.pN .nil bD (af (pv 3) (af (aW (pv 2) T.bB T.rR GM Mv T.rF .nil bD (af (pv 5) au)) (af (pv 6) au))))))))
     (az (aZ (CM rfl pB.nd (gE (pv 3)) (jx (own:=[("row",8)]) rfl) (fun _ _ _ _ _=>bw (i:=8) pB.nd rfl (Or.inl rfl)) (fun _ _ _ _ _=>t9 (PW.pt (oE (jr (aW (pv 2) T.bB T.rS GH Mv T.rG .nil bD (af (pv 8) au))) (lJ (jr (aW (pv 2) T.bB T.rV GS hr T.rJ .nil bD (af (pv 8) au))))))) (fun _ _ _ _ _=>pv 8)))))),?_⟩
   obtain ⟨dp,ep⟩:=Pa.gr.obj;have pl:pz.as.length=p.1.length:=Pa.at_.len;have n9:=ok.n9;have k5:=ok.k5;have PX:=qw.ok;have V9:=yx.ok t.aP;have WW:=B8.ok t.aO;refine ⟨_,rfl,_,rfl,fun q dq nq ndq ne=>?_⟩;have sm0:aS H (upd (upd H dq (.own q)) q (.ins t.aX dq [])):=fun b u e=>by rw [aq (ay e nq),aq (ay e ndq)];exact e
   refine ⟨q,dq,gp,g,z,y,D,H,rfl,ai,sm0,nq,M,gy,fun H1 lrb lra s1 eq hrb Af=>⟨rfl,?_⟩⟩;have S:BL K t D H1 q gp g lrb lra pz p z y:=⟨⟨dq,eq⟩,Pa.same s1,M.same s1,gy,hrb,Af⟩;refine ⟨Nat.zero_le _,fun p0 hp0=>?_⟩;have s2:aS H1 (upd H1 p0 (.lst [])):=aK hp0;refine ⟨(by show 1<=sizeLine;decide),fun l0 Yq=>?_⟩;have s3:=s2.trans (aK (o:=.lst [.ref p0]) Yq);have p0l:p0 ≠ l0:=fun e=>by rw [<- e,ai] at Yq;cases Yq
   have R0:cQ qw (fun b=>H b=none) (upd (upd H1 p0 (.lst [])) l0 (.lst [.ref p0])) [.ref p0] (fK y p 0):=by
     have:=cQ.snoc (Rep:=qw) (D:=fun b=>H b=none) (H:=upd (upd H1 p0 (.lst [])) l0 (.lst [.ref p0])) (v:=.ref p0) (z:=[]) cQ.nil ⟨p0,rfl,s1.free hp0,by rw [aq p0l];exact ai⟩;exact this
   refine ⟨_,rfl,fld (s3 _ _ (s1 _ _ ep)) T.jj T.gO rfl ⟨pz.la,pz.as,rfl,bI.of (s3 _ _ (s1 _ _ Pa.gr.atoms)),?_⟩⟩;let xf:L2.Iv:=fun i σ H'=>∃ v4 v5 v6 lr rs,σ=[some (.ref gp),some (.ref g),some (.ref q),some (.ref lr),v4,v5,v6,none,none]/\aS H1 H'/\H' lr=some (.lst rs)/\cQ qw (fun b=>H b=none) H' rs (fK y p i);refine pX (K:=K) (a:=pz.la) (xs:=pz.as) xf ⟨none,none,none,l0,_,rfl,s3,ai,R0⟩ (fun i σ H' _ ⟨_,_,_,_,_,_,sm,_⟩=>bI.of (sm _ _ (s1 _ _ Pa.gr.atoms))) ?_ ?_
   . rintro i x σ H' Tt hx ⟨v4,v5,v6,lr,rs,rfl,sm,hlr,R⟩ hT
     have hi:i < pz.as.length:=(Zqz hx);obtain ⟨c,hc⟩:∃ c,p.1[i]?=some c:=⟨_,List.getElem?_eq_getElem (by omega)⟩;have rx:=Pa.at_.at_ i x c hx hc;obtain ⟨o,dx,ln,tc,th,tn,tt,rfl,Rx⟩:=rx;have rx':B8 t.aO D H (.ref o) c:=⟨o,dx,ln,tc,th,tn,tt,rfl,Rx⟩;have sT':aS H' (upd H' Tt (.tup [.int (i:Int),.ref o])):=aK hT;have sT:=sm.trans sT';refine ⟨Tt,_,rfl,oj.of ai,rfl,_,_,rfl,_,_,rfl,rfl,?_⟩;refine ⟨_,rfl,fld (sT _ _ (s1 _ _ ep)) T.jj T.gP rfl ⟨pz.lb,rfl,⟨_,bI.of (sT _ _ (s1 _ _ Pa.gr.bonds))⟩,fun D2 Vm=>?_⟩⟩;refine nj (K:=K) (a:=pz.lb) (xs:=pz.us) (fun j H2=>aS (upd H' Tt (.tup [.int (i:Int),.ref o])) H2/\∃ Y3,H2 D2=some (.lst Y3)/\cQ (yx t.aP) D H Y3 ((p.2.take j).filter fun b=>b.1.b==i)) ⟨aK Vm,[],ai,cQ.nil⟩ (fun j H2 _ ⟨s2,_⟩=>bI.of (s2 _ _ (sT _ _ (s1 _ _ Pa.gr.bonds)))) ?_ ?_
     . rintro j x2 H2 U1 ⟨sj,Y3,hD3,R2⟩
       have hj:j < pz.us.length:=(Zqz U1);have ul:pz.us.length=p.2.length:=Pa.bo.len;obtain ⟨b,hb⟩:∃ b,p.2[j]?=some b:=⟨_,List.getElem?_eq_getElem (by omega)⟩;obtain ⟨ob,db,rfl,dO,Rb⟩:=Pa.bo.at_ j x2 b U1 hb;have nb:=Pa.nb;refine ⟨rfl,_,rfl,fld (sj _ _ (sT _ _ (s1 _ _ Rb))) T.bc T.d8 rfl ⟨_,rfl,rfl,_,rfl,?_⟩⟩;rw [p6];refine zB (fun hb2=>?_) (fun hb2=>?_)
       . refine ⟨_,rfl,Y3,hD3,?_,fun b' u e=>by rw [aq (ay e Vm)];exact sj b' u e,Y3++[.ref ob],ai,?_⟩
         . have q1:=List.length_filter_le (fun b:PBond×Nat=>b.1.b==i) (p.2.take j)
           rw [List.length_take] at q1;rw [R2.len,sizeLine_eq];omega
         . rw [take_snoc hb,List.filter_append]
           simp only [List.filter_cons,hb2,if_true,List.filter_nil];exact R2.snoc ⟨ob,db,rfl,dO,Rb⟩
       . refine ⟨sj,Y3,hD3,?_⟩
         rw [take_snoc hb,List.filter_append];simp only [List.filter_cons,hb2,if_false,List.filter_nil,List.append_nil,Bool.false_eq_true];exact R2
     . rintro H2 ⟨sj,Y3,hD3,R2⟩
       rw [show p.2.take pz.us.length=p.2 from List.take_of_length_le (by rw [Pa.bo.len];exact Nat.le_refl _)] at R2;have s2':aS H1 H2:=sT.trans sj;have N1:=s1.trans s2';have R2':cQ qw (fun b=>H b=none) H2 rs (fK y p i):=R.stay PX fun b u _ h=>sj _ _ (sT' _ _ h);refine ⟨_,rfl,q,dq,_,rfl,s2' _ _ eq,rfl,_,rfl,_,rfl,q,dq,_,rfl,s2' _ _ eq,rfl,_,rfl,?_⟩;refine ⟨q,o,gp,g,lrb,lra,pz,p,z,y,D,D,c,rfl,S.same s2',WW.stay rx' (fun b u _ h=>N1 _ _ h),fun H3 li s3 nli hli=>?_⟩;have s13:=s2'.trans s3;have Y0:=s1.trans s13;have ei:nX y p i=HD y c.1:=by unfold nX;rw [hc]
       have sz:=wg (p:=p) n9 (i:=i) (by omega);have il:=Nc y c.1;refine ⟨_,rfl,?_⟩;refine ⟨q,lr,li,D2,gp,g,lrb,lra,rs,Y3,fK y p i,HD y c.1,nV p i,pz,p,z,y,D,_,D,rfl,S.same s13,s3 _ _ (sj _ _ (sT' _ _ hlr)),R2'.stay PX (fun b u _ h=>s3 _ _ h),hli,s3 _ _ hD3,R2.stay V9 (fun b u _ h=>Y0 _ _ h),fun b hb=>?_,fun f hf=>?_,?_,fun H4 l4 rs4 s4 nl4 WU R4=>?_⟩
       . obtain ⟨b1,b2⟩:=List.mem_filter.mp hb
         refine ⟨ok.how b b1,fun f hf=>?_⟩;rw [wc i f hf];have:=(Pa.rise.1 (JM.c9 b) (List.mem_map_of_mem b1)).1;have e:b.1.b=i:=beq_iff_eq.mp b2;have q:b.1.a < b.1.b:=this;omega
       . rw [wc i f hf]
         omega
       . have:(fK y p i).length * (HD y c.1).length<=59049 * 9:=Nat.mul_le_mul sz (by omega)
         omega
       . refine ⟨_,_,_,l4,rs4,rfl,s13.trans s4,WU,?_⟩
         have e:fK y p (i+1)=longer y (fK y p i) (HD y c.1) (nV p i):=by
           rw [<- ei];rfl
         rw [e];exact R4.mono PX fun b d=>Y0.free d
   . rintro σ H2 ⟨v4,v5,v6,lr,rs,rfl,sm,hlr,R⟩
     rw [pl] at R;have N1:=s1.trans sm;have sz:=wg (p:=p) n9 (i:=p.1.length) k5;refine ⟨_,rfl,lr,rfl,⟨_,bI.of hlr⟩,fun l hl=>?_⟩;have Yq:H l=none:=N1.free hl;refine nj (K:=K) (a:=lr) (xs:=rs) (fun j H3=>aS H2 H3/\∃ RX,H3 l=some (.lst RX)/\cQ qw (fun b=>H b=none/\b ≠ l) H3 RX (((fK y p p.1.length).take j).filter fun f=>m8 y p f&&mC y p f)) ⟨aK hl,[],ai,cQ.nil⟩ (fun j H3 _ ⟨s3,_⟩=>bI.of (s3 _ _ hlr)) ?_ ?_
     . rintro j x H3 hx ⟨s3,RX,hl3,R3⟩
       have hj:j < rs.length:=(Zqz hx);have rl:=R.len;obtain ⟨f,hf⟩:∃ f,(fK y p p.1.length)[j]?=some f:=⟨_,List.getElem?_eq_getElem (by omega)⟩;have fm:=List.mem_of_getElem? hf;obtain ⟨ra,rfl,dR,hR⟩:=R.at_ j x f hx hf;have ral:ra ≠ l:=fun e=>by rw [e,hl] at hR;cases hR
       have fl:f.length=p.1.length:=wc _ f fm;have s13:=sm.trans s3;refine ⟨rfl,?_⟩;refine ⟨_,rfl,q,dq,_,rfl,s13 _ _ eq,rfl,_,rfl,?_⟩;refine ⟨q,ra,gp,g,lrb,lra,f,pz,p,z,y,D,rfl,S.same s13,s3 _ _ hR,fl,fun k x hk ho=>ok.abB f fm k x hk ho,fun H4 s4=>⟨_,rfl,?_⟩⟩;have stay:∀ {H5:Hp},aS H3 H5->(m8 y p f&&mC y p f)=false->aS H2 H5/\∃ RX,H5 l=some (.lst RX)/\cQ qw (fun b=>H b=none/\b ≠ l) H5 RX (((fK y p p.1.length).take (j+1)).filter fun f=>m8 y p f&&mC y p f):=fun {H5} s5 hn=>⟨s3.trans s5,RX,s5 _ _ hl3,by
         rw [take_snoc hf,List.filter_append];simp only [List.filter_cons,hn,if_false,List.filter_nil,List.append_nil,Bool.false_eq_true];exact R3.stay PX fun b u _ h=>s5 _ _ h⟩
       cases h1:m8 y p f with
       | false=>exact oF (oF (stay s4 (by rw [h1];rfl)))
       | true=>
         refine qK ?_;have s14:=s13.trans s4;refine ⟨_,rfl,q,dq,_,rfl,s14 _ _ eq,rfl,_,rfl,?_⟩;refine ⟨q,ra,gp,g,lrb,lra,f,pz,p,z,y,D,rfl,S.same s14,s4 _ _ (s3 _ _ hR),fl,fun x hx ho=>ok.abC f fm x hx ho,fun H5 s5=>⟨_,rfl,?_⟩⟩;have X6:=s4.trans s5;cases h2:mC y p f with
         | false=>exact oF (stay X6 (by rw [h1,h2];rfl))
         | true=>
           refine qK ?_;refine ⟨_,rfl,RX,X6 _ _ hl3,?_,fun b u e=>by rw [aq (ay e hl)];exact X6 _ _ (s3 b u e),RX++[.ref ra],ai,?_⟩
           . have q1:=List.length_filter_le (fun f=>m8 y p f&&mC y p f) ((fK y p p.1.length).take j)
             rw [List.length_take] at q1;rw [R3.len,sizeLine_eq];omega
           . rw [take_snoc hf,List.filter_append]
             simp only [List.filter_cons,h1,h2,Bool.and_self,if_true,List.filter_nil];refine ((R3.stay PX fun b u _ h=>X6 _ _ h).snoc ⟨ra,rfl,⟨dR,ral⟩,X6 _ _ (s3 _ _ hR)⟩).stay PX fun b u d h=>?_;rw [aq d.2];exact h
     . rintro H3 ⟨s3,RX,hl3,R3⟩
       rw [R.len,List.take_length] at R3;exact k H3 l RX (N1.trans s3) Yq hl3 (R3.mono PX fun b d=>d.1)
end
open Fk (Fault Bytes Atom Bond Mol PAtom PBond Part)
theorem Gd {α β:Type} {f g:α->List β}:∀ {l:List α},(∀ x ∈ l,f x=g x)->l.flatMap f=l.flatMap g
 | [],_=>rfl
 | x::l,h=>by rw [List.flatMap_cons,List.flatMap_cons,h x (by simp),Gd fun y hy=>h y (by simp [hy])]
abbrev sg (y:aB):Fk.Sight:=(aE y).sight
def oB (y:aB) (p:b4) (f:List Nat):List (List Nat):=((List.range y.1.length).filter fun w=>!f.contains w&&Fk.goesOn (bu p) (sg y) (f++[w])).map fun w=>f++[w]
def iter (y:aB) (p:b4):Nat->List (List Nat)->List (List Nat)
 | 0,fs=>fs
 | k+1,fs=>(iter y p k fs).flatMap (oB y p)
theorem IE (y:aB) (p:b4):∀ (k:Nat) (fs:List (List Nat)),iter y p k fs=fs.flatMap fun g=>iter y p k [g]
 | 0,fs=>by simp [iter]
 | k+1,fs=>by
  show (iter y p k fs).flatMap (oB y p)=fs.flatMap fun g=>(iter y p k [g]).flatMap (oB y p)
  rw [IE y p k fs,List.flatMap_assoc]
theorem IF (y:aB) (p:b4):∀ (k:Nat) (fs:List (List Nat)),iter y p (k+1) fs=iter y p k (fs.flatMap (oB y p))
 | 0,fs=>rfl
 | k+1,fs=>by
  show (iter y p (k+1) fs).flatMap (oB y p)=(iter y p k (fs.flatMap (oB y p))).flatMap (oB y p)
  rw [IF y p k fs]
theorem Ge (y:aB) (p:b4):∀ (k:Nat) (f:List Nat),Fk.foundFrom (bu p) (sg y) k f=(iter y p k [f]).filter (Fk.isPlace (bu p) (sg y))
 | 0,f=>by
  show (if Fk.isPlace (bu p) (sg y) f=true then [f] else [])=[f].filter _
  rw [List.filter_cons,List.filter_nil]
 | k+1,f=>by
  have e:(sg y).mol.n=y.1.length:=yJ y
  have l:Fk.foundFrom (bu p) (sg y) (k+1) f=(oB y p f).flatMap (Fk.foundFrom (bu p) (sg y) k):=by
   show ((List.range (sg y).mol.n).flatMap fun (w:Nat)=>if f.contains w=true\/Fk.goesOn (bu p) (sg y) (f++[w])=false then [] else Fk.foundFrom (bu p) (sg y) k (f++[w]))=_;rw [e];unfold oB;generalize List.range y.1.length=R;induction R with
   | nil=>rfl
   | cons w R ih=>
    rw [List.flatMap_cons,ih,List.filter_cons];cases h1:f.contains w<;>cases h2:Fk.goesOn (bu p) (sg y) (f++[w])<;>simp
  rw [l,IF,IE,List.filter_flatMap];rw [show [f].flatMap (oB y p)=oB y p f by simp];exact Gd fun g _=>Ge y p k g
def ux (y:aB) (g:List Nat) (w:Nat) (b:PBond×Nat):Bool:=match (aE y).bondAt (Fk.image g b.1.a) w with
 | some k=>b.1.fits (sg y) k
 | none=>false
def sV (y:aB) (g:List Nat) (w:Nat) (b:PBond×Nat):Bool:=match (aE y).bondAt (Fk.image g b.1.a) w with
 | some k=>iK b.1.side (nU y k)
 | none=>true
def nY (y:aB) (p:b4) (i:Nat) (g:List Nat):Bool:=(match p.1[i]? with
 | some x=>iK x.1.hand ((aE y).atom (Fk.image g i)).hand
 | none=>true)&&(nV p i).all (sV y g (Fk.image g i))
def nZ (y:aB) (p:b4) (i:Nat) (g:List Nat):Bool:=(List.range i).all fun j=>nY y p j g
theorem qW {f:List Nat} {w v:Nat} (h:v < f.length):Fk.image (f++[w]) v=Fk.image f v:=by
 unfold Fk.image;rw [List.getD,List.getD,List.getElem?_append_left h]
theorem p7 (f:List Nat) (w:Nat):Fk.image (f++[w]) f.length=w:=by
 unfold Fk.image;rw [List.getD,List.getElem?_append_right (Nat.le_refl _)];simp
structure jG (p:b4):Prop where
 k5:p.1.length<=5
 rise:JM.nv p.1.length (p.2.map JM.c9)
 how:∀ b ∈ p.2,b.1.how<=1
 Vx:∀ x ∈ p.1,x.1.hand<=3
 abD:∀ b ∈ p.2,b.1.side<=3
 handed:∀ (k:Nat) x,p.1[k]?=some x->Fk.isOne x.1.hand=true->(JM.bG (p.2.map JM.c9) k).length=3\/(JM.bG (p.2.map JM.c9) k).length=4
 sided:∀ x ∈ p.2,Fk.isOne x.1.side=true->VB p x.1.a x.1.b ≠ []/\VB p x.1.b x.1.a ≠ []
structure qg (y:aB):Prop where
 good:gc y
 n9:y.1.length<=9
 handed:∀ (v:Nat) a,y.1[v]?=some a->a.1.hand ≠ 0->(JM.bG (y.2.map JM.aV) v).length=3\/(JM.bG (y.2.map JM.aV) v).length=4
 sided:∀ (k:Nat) c,y.2[k]?=some c->c.1.side ≠ 0->mnb y c.1.a c.1.b ≠ []/\mnb y c.1.b c.1.a ≠ []
theorem CH {p:b4} (g:jG p) {i:Nat} {b:PBond×Nat} (h:b ∈ nV p i):b ∈ p.2/\b.1.b=i/\b.1.a < i:=by
 obtain ⟨h1,h2⟩:=List.mem_filter.mp h;have e:b.1.b=i:=beq_iff_eq.mp h2;have:b.1.a < b.1.b:=(g.rise.1 (JM.c9 b) (List.mem_map_of_mem h1)).1;exact ⟨h1,e,by omega⟩
theorem Vy {y:aB} {p:b4} (g:jG p) {f:List Nat} {w j:Nat} (h:j < f.length):nY y p j (f++[w])=nY y p j f:=by
 unfold nY;rw [qW h];congr 1;rw [Bool.eq_iff_iff,List.all_eq_true,List.all_eq_true];refine forall_congr' fun b=>forall_congr' fun hb=>?_;unfold sV;rw [qW (by have:=CH g hb;omega)]
theorem Nd {y:aB} {p:b4} (g:jG p) (f:List Nat) (w:Nat):nZ y p (f.length+1) (f++[w])=(nZ y p f.length f&&nY y p f.length (f++[w])):=by
 unfold nZ;rw [List.range_succ,List.all_append];congr 1
 . rw [Bool.eq_iff_iff,List.all_eq_true,List.all_eq_true]
   refine forall_congr' fun j=>forall_congr' fun hj=>?_;rw [Vy g (List.mem_range.mp hj)]
 . simp
theorem Gf (p:b4):(bu p).bonds=p.2.map fun z=>z.1:=rfl
theorem Gg (p:b4):(bu p).atoms=p.1.map fun z=>z.1:=rfl
theorem PZ {y:aB} {p:b4} {f:List Nat} {w:Nat} {x:PAtom×Nat} (hx:p.1[f.length]?=some x):Fk.goesOn (bu p) (sg y) (f++[w])=(x.1.fits (sg y) w&&(nV p f.length).all (ux y (f++[w]) w)):=by
 unfold Fk.goesOn;have e1:(f++[w]).length - 1=f.length:=by simp
 simp only [e1];rw [Gg,List.getElem?_map,hx];simp only [Option.map_some,p7];congr 1;unfold nV;rw [Gf,List.all_map,Bool.eq_iff_iff,List.all_eq_true,List.all_eq_true];constructor
 . intro h b hb
   obtain ⟨h1,h2⟩:=List.mem_filter.mp hb;have:=h b h1;have e:b.1.b=f.length:=beq_iff_eq.mp h2;simp only [Function.comp,e,p7,bne_self_eq_false,Bool.false_or] at this;exact this
 . intro h b hb
   by_cases e:b.1.b=f.length
   . have:=h b (List.mem_filter.mpr ⟨hb,beq_iff_eq.mpr e⟩)
     simp only [Function.comp,e,p7,bne_self_eq_false,Bool.false_or];exact this
   . have:(b.1.b != f.length)=true:=bne_iff_ne.mpr e
     simp only [Function.comp,this,Bool.true_or]
theorem step_eq {y:aB} {p:b4} (g:jG p) {f:List Nat} {x:PAtom×Nat} (hx:p.1[f.length]?=some x):more y (nV p f.length) f (nX y p f.length)=(oB y p f).filter (nY y p f.length):=by
 have ei:nX y p f.length=HD y x.1:=by unfold nX;rw [hx]
 rw [ei];unfold more HD oB;rw [List.filter_filter,List.filter_map,List.filter_filter];congr 1;refine List.filter_congr fun w _=>?_;rw [PZ hx];unfold nY CC;simp only [Function.comp,hx,p7];have ea:kF y f w (nV p f.length)=((nV p f.length).all (ux y (f++[w]) w)&&(nV p f.length).all (sV y (f++[w]) w)):=by
   unfold kF;rw [Bool.eq_iff_iff,Bool.and_eq_true,List.all_eq_true,List.all_eq_true,List.all_eq_true];have one:∀ b ∈ nV p f.length,tY y f w b.1=(ux y (f++[w]) w b&&sV y (f++[w]) w b):=fun b hb=>by
     unfold tY ux sV;rw [qW (by have:=CH g hb;omega)];cases (aE y).bondAt (Fk.image f b.1.a) w<;>rfl
   constructor
   . intro h
     constructor<;>intro b hb
     . have:=h b hb
       rw [one b hb,Bool.and_eq_true] at this;exact this.1
     . have:=h b hb
       rw [one b hb,Bool.and_eq_true] at this;exact this.2
   . rintro ⟨h1,h2⟩ b hb
     rw [one b hb,h1 b hb,h2 b hb];rfl
 rw [ea];generalize x.1.fits (sg y) w=q1;generalize iK x.1.hand _=q2;generalize f.contains w=q3;generalize (nV p f.length).all (ux y (f++[w]) w)=q4;generalize (nV p f.length).all (sV y (f++[w]) w)=q5;cases q1<;>cases q2<;>cases q3<;>cases q4<;>cases q5<;>rfl
theorem Nf {y:aB} {p:b4}:∀ (i:Nat) (f:List Nat),f ∈ iter y p i [[]]->f.length=i
 | 0,f,h=>by
  have:f=[]:=by simpa [iter] using h
  rw [this]
  rfl
 | i+1,f,h=>by
  obtain ⟨e,he,h2⟩:=List.mem_flatMap.mp (show f ∈ (iter y p i [[]]).flatMap (oB y p) from h)
  obtain ⟨w,_,rfl⟩:=List.mem_map.mp h2
  rw [List.length_append,Nf i e he]
  rfl
theorem uV {y:aB} {p:b4} (g:jG p):∀ i,i<=p.1.length->fK y p i=(iter y p i [[]]).filter (nZ y p i)
 | 0,_=>rfl
 | i+1,hi=>by
   have ih:=uV (y:=y) g i (by omega)
   show longer y (fK y p i) (nX y p i) (nV p i)=((iter y p i [[]]).flatMap (oB y p)).filter _
   unfold longer
   rw [ih,List.filter_flatMap]
   have hl:=Nf (y:=y) (p:=p) i
   generalize iter y p i [[]]=fs at hl
   induction fs with
   | nil=>rfl
   | cons f fs ihf=>
     have fl:f.length=i:=hl f (by simp)
     obtain ⟨x,hx⟩:∃ x,p.1[f.length]?=some x:=⟨_,List.getElem?_eq_getElem (by omega)⟩
     rw [List.filter_cons,List.flatMap_cons,<- ihf fun e he=>hl e (by simp [he])]
     have es:(oB y p f).filter (nZ y p (i+1))=if nZ y p i f=true then more y (nV p i) f (nX y p i) else []:=by
       rw [<- fl,step_eq g hx];unfold oB;rw [List.filter_map,List.filter_map];have ec:∀ w,(nZ y p (f.length+1) ∘ fun w=>f++[w]) w=(nZ y p f.length f&&nY y p f.length (f++[w])):=fun w=>Nd g f w;cases ht:nZ y p f.length f with
       | true=>
         rw [if_pos rfl];congr 1;refine List.filter_congr fun w _=>?_;rw [ec,ht];rfl
       | false=>
         rw [if_neg (by simp)];have:(((List.range y.1.length).filter fun w=>!f.contains w&&Fk.goesOn (bu p) (sg y) (f++[w])).filter (nZ y p (f.length+1) ∘ fun w=>f++[w]))=[]:=by
           rw [List.filter_eq_nil_iff];intro w _;rw [ec,ht];simp
         rw [this];rfl
     rw [es];split
     . rw [List.flatMap_cons]
     . rfl
structure ua (y:aB) (p:b4) (i:Nat) (f:List Nat):Prop where
 len:f.length=i
 nd:f.Nodup
 lt:∀ v ∈ f,v < y.1.length
 at_:∀ (j:Nat) x,j < i->p.1[j]?=some x->x.1.fits (sg y) (Fk.image f j)=true
 bo:∀ b ∈ p.2,b.1.b < i->ux y f (Fk.image f b.1.b) b=true
theorem OA {y:aB} {p:b4} (g:jG p) {f:List Nat} {w v:Nat} {b:PBond×Nat} (hb:b ∈ p.2) (h:b.1.b < f.length):ux y (f++[w]) v b=ux y f v b:=by
 unfold ux;have:b.1.a < b.1.b:=(g.rise.1 (JM.c9 b) (List.mem_map_of_mem hb)).1;rw [qW (by omega)]
theorem Gh {y:aB} {p:b4} (g:jG p):∀ (i:Nat),i<=p.1.length->∀ f,f ∈ iter y p i [[]]->ua y p i f
 | 0,_,f,h=>by
   have:f=[]:=by simpa [iter] using h
   subst this
   exact ⟨rfl,by simp,by simp,fun j x hj=>by omega,fun b _ hb=>by omega⟩
 | i+1,hi,f,h=>by
   obtain ⟨e,he,h2⟩:=List.mem_flatMap.mp (show f ∈ (iter y p i [[]]).flatMap (oB y p) from h)
   obtain ⟨w,hw,rfl⟩:=List.mem_map.mp h2
   have ih:=Gh (y:=y) g i (by omega) e he
   obtain ⟨h3,h4⟩:=List.mem_filter.mp hw
   rw [Bool.and_eq_true,Bool.not_eq_true'] at h4
   obtain ⟨h5,h6⟩:=h4
   have el:=ih.len
   obtain ⟨x,hx⟩:∃ x,p.1[e.length]?=some x:=⟨_,List.getElem?_eq_getElem (by omega)⟩
   rw [PZ hx,Bool.and_eq_true] at h6
   have wn:w ∉ e:=fun q=>by rw [List.contains_iff_mem.mpr q] at h5;cases h5
   refine ⟨by rw [List.length_append,el];rfl,?_,fun v hv=>?_,fun j x' hj hx'=>?_,fun b hb hbi=>?_⟩
   . rw [List.nodup_append]
     exact ⟨ih.nd,by simp,fun a ha c hc=>by
       simp at hc
       subst hc
       exact fun q=>wn (q ▸ ha)⟩
   . rcases List.mem_append.mp hv with hv | hv
     . exact ih.lt v hv
     . simp at hv
       subst hv
       exact List.mem_range.mp h3
   . by_cases q:j < i
     . rw [qW (by omega)]
       exact ih.at_ j x' q hx'
     . have ej:j=e.length:=by omega
       subst ej
       rw [hx] at hx'
       cases hx'
       rw [p7]
       exact h6.1
   . by_cases q:b.1.b < i
     . rw [qW (by omega),OA g hb (by omega)]
       exact ih.bo b hb q
     . have ej:b.1.b=e.length:=by omega
       rw [ej,p7]
       exact List.all_eq_true.mp h6.2 b (List.mem_filter.mpr ⟨hb,beq_iff_eq.mpr ej⟩)
theorem ua.bond {y:aB} {p:b4} {f:List Nat} (g:jG p) (r:ua y p p.1.length f) {b:PBond×Nat} (hb:b ∈ p.2):∃ k,(aE y).bondAt (Fk.image f b.1.a) (Fk.image f b.1.b)=some k/\b.1.fits (sg y) k=true:=by
 have hlt:b.1.b < p.1.length:=(g.rise.1 (JM.c9 b) (List.mem_map_of_mem hb)).2;have:=r.bo b hb hlt;unfold ux at this;cases q:(aE y).bondAt (Fk.image f b.1.a) (Fk.image f b.1.b) with
 | none=>rw [q] at this;cases this
 | some k=>rw [q] at this;exact ⟨k,rfl,this⟩
theorem ua.img {y:aB} {p:b4} {f:List Nat} {i:Nat} (r:ua y p i f) {v:Nat} (h:v < i):Fk.image f v < y.1.length:=by
 have e:=r.len;have:=jF (f:=f) (v:=v) (by omega);exact r.lt _ (List.mem_of_getElem? this)
theorem ua.inj {y:aB} {p:b4} {f:List Nat} {i:Nat} (r:ua y p i f) {u v:Nat} (hu:u < i) (hv:v < i) (e:Fk.image f u=Fk.image f v):u=v:=by
 have l:=r.len;have h1:=jF (f:=f) (v:=u) (by omega);have h2:=jF (f:=f) (v:=v) (by omega);rw [e] at h1;obtain ⟨a1,a2⟩:=List.getElem?_eq_some_iff.mp h1;obtain ⟨b1,b2⟩:=List.getElem?_eq_some_iff.mp h2;exact (List.getElem_inj r.nd).mp (a2.trans b2.symm)
theorem uz {y:aB} {v w k:Nat} (h:(aE y).bondAt v w=some k):∃ c,y.2[k]?=some c/\c.1.joins v w=true/\(aE y).joined v w=true:=by
 have h':(y.2.map fun z=>z.1).findIdx? (fun x=>x.joins v w)=some k:=h;rw [List.findIdx?_map] at h';obtain ⟨h1,h2,_⟩:=List.findIdx?_eq_some_iff_getElem.mp h';refine ⟨y.2[k],List.getElem?_eq_getElem h1,h2,(JM.ph v w).mpr ⟨y.2[k].1,?_,h2⟩⟩;show y.2[k].1 ∈ y.2.map fun z=>z.1;exact List.mem_map_of_mem (List.getElem_mem h1)
theorem XE {y:aB} (m:qg y) {v w k:Nat} (h:(aE y).bondAt v w=some k):w ∈ JM.bG (y.2.map JM.aV) v/\v ∈ JM.bG (y.2.map JM.aV) w:=by
 obtain ⟨c,_,_,j⟩:=uz h;have lt:=JM.qV m.good.good j;refine ⟨(Eh m.good).mpr ⟨lt.2.1,j⟩,(Eh m.good).mpr ⟨lt.1,?_⟩⟩;rw [JM.FQ];exact j
theorem Qa {y:aB} {p:b4} (g:jG p) (m:qg y) {f:List Nat} (r:ua y p p.1.length f) {k:Nat}:∀ u ∈ Ga p f k,u ∈ JM.bG (y.2.map JM.aV) (Fk.image f k):=by
 intro u hu;obtain ⟨j,hj,rfl⟩:=List.mem_map.mp hu;obtain ⟨q,hq,e⟩:=JM.xA.mp hj;obtain ⟨b,hb,rfl⟩:=List.mem_map.mp hq;obtain ⟨n,hn,_⟩:=r.bond g hb;have nn:=XE m hn;rcases e with ⟨e1,e2⟩ | ⟨_,e2,e1⟩
 . rw [<- e1,<- e2]
   exact nn.1
 . rw [<- e1,<- e2]
   exact nn.2
theorem XF {y:aB} {p:b4} (g:jG p) (m:qg y) {f:List Nat} (r:ua y p p.1.length f) {k:Nat} (hk:k < p.1.length):KS y p f k:=⟨r.img hk,Qa g m r⟩
theorem Ng {y:aB} {p:b4} (g:jG p) {f:List Nat}:nZ y p p.1.length f=true ↔ (∀ (k:Nat) x,p.1[k]?=some x->iK x.1.hand ((aE y).atom (Fk.image f k)).hand=true)/\∀ b ∈ p.2,sV y f (Fk.image f b.1.b) b=true:=by
 unfold nZ;rw [List.all_eq_true];constructor
 . intro h
   constructor
   . intro k x hx
     have:=h k (List.mem_range.mpr (Zqz hx));unfold nY at this;rw [hx,Bool.and_eq_true] at this;exact this.1
   . intro b hb
     have hlt:b.1.b < p.1.length:=(g.rise.1 (JM.c9 b) (List.mem_map_of_mem hb)).2;have:=h b.1.b (List.mem_range.mpr hlt);unfold nY at this;rw [Bool.and_eq_true,List.all_eq_true] at this;exact this.2 b (List.mem_filter.mpr ⟨hb,by simp⟩)
 . rintro ⟨h1,h2⟩ j hj
   unfold nY;rw [Bool.and_eq_true,List.all_eq_true];obtain ⟨x,hx⟩:∃ x,p.1[j]?=some x:=⟨_,List.getElem?_eq_getElem (List.mem_range.mp hj)⟩;refine ⟨by rw [hx];exact h1 j x hx,fun b hb=>?_⟩;obtain ⟨b1,b2,_⟩:=CH g hb;have:=h2 b b1;rw [b2] at this;exact this
theorem Qc {y:aB} {v:Nat} {a:Atom×Nat} (h:y.1[v]?=some a):(aE y).atom v=a.1:=by
 unfold Mol.atom aE;simp [List.getD,h]
theorem Dq {y:aB} (gy:gc y) (v u:Nat):(aE y).besides v u=mnb y v u:=by
 unfold Mol.besides mnb;rw [gy.beside]
theorem XG {y:aB} {p:b4} (g:jG p) (m:qg y) {f:List Nat} (r:ua y p p.1.length f) {x:PBond×Nat} (hx:x ∈ p.2) (ho:Fk.isOne x.1.side=true) (ht:sV y f (Fk.image f x.1.b) x=true):KU y p f x.1:=by
 obtain ⟨n,hn,_⟩:=r.bond g hx;obtain ⟨c,hc,hj,_⟩:=uz hn;have ab:x.1.a < x.1.b/\x.1.b < p.1.length:=g.rise.1 (JM.c9 x) (List.mem_map_of_mem hx);have sd:c.1.side ≠ 0:=by
   unfold sV at ht;rw [hn] at ht;have ht':iK x.1.side (nU y n)=true:=ht;have es:nU y n=c.1.side:=by unfold nU;rw [qQ hc]
   rw [es] at ht';intro q;rw [q] at ht';unfold Fk.isOne at ho;simp only [Bool.or_eq_true,beq_iff_eq] at ho;unfold iK at ht';rcases ho with o | o<;>rw [o] at ht'<;>revert ht'<;>decide
 obtain ⟨m1,m2⟩:=m.sided n c hc sd;obtain ⟨p1,p2⟩:=g.sided x hx ho;unfold Bond.joins at hj;simp only [Bool.or_eq_true,Bool.and_eq_true,beq_iff_eq] at hj;have ia:=r.img (v:=x.1.a) (by omega);have ib:=r.img (v:=x.1.b) ab.2;rcases hj with ⟨e1,e2⟩ | ⟨e1,e2⟩
 . rw [e1,e2] at m1 m2
   exact ⟨⟨by omega,ab.2,ia,p1,m1⟩,⟨ab.2,by omega,ib,p2,m2⟩,n,hn⟩
 . rw [e1,e2] at m1 m2
   exact ⟨⟨by omega,ab.2,ia,p1,m2⟩,⟨ab.2,by omega,ib,p2,m1⟩,n,hn⟩
theorem XH {y:aB} {p:b4} (g:jG p) (m:qg y):Vw y p:=by
 refine ⟨m.n9,g.k5,g.how,fun f hf k x hk _=>?_,fun f hf x hx ho=>?_⟩
 . rw [uV g _ (Nat.le_refl _)] at hf
   have r:=Gh g _ (Nat.le_refl _) f (List.mem_filter.mp hf).1;exact XF g m r (Zqz hk)
 . rw [uV g _ (Nat.le_refl _)] at hf
   obtain ⟨h1,h2⟩:=List.mem_filter.mp hf;have r:=Gh g _ (Nat.le_refl _) f h1;exact XG g m r hx ho (((Ng g).mp h2).2 x hx)
theorem IG:∀ l:List Nat,Fk.falls l=fX (qi l)
 | []=>rfl
 | x::l=>by
  show (l.filter fun y=>decide (y < x)).length+Fk.falls l=((qi l).filter fun y=>decide (y < (x:Int))).length+fX (qi l)
  rw [IG l]
  unfold qi
  rw [List.filter_map,List.length_map]
  congr 2
  refine List.filter_congr fun y _=>?_
  simp
theorem Dr {p:b4} (g:jG p) (k:Nat):(bu p).beside k=JM.bG (p.2.map JM.c9) k:=sP (n:=p.1.length) rfl g.rise k
theorem OB {near im:List Nat} (n1:near.Nodup) (n2:im.Nodup) (sub:∀ u ∈ im,u ∈ near):(near.filter fun w=>!im.contains w).length+im.length=near.length:=by
 have pm:List.Perm (near.filter fun w=>im.contains w) im:=by
  refine (List.perm_ext_iff_of_nodup (n1.filter _) n2).mpr fun a=>?_;rw [List.mem_filter,List.contains_iff_mem];exact ⟨fun h=>h.2,fun h=>⟨sub a h,h⟩⟩
 have:=List.length_eq_countP_add_countP (l:=near) (p:=fun w=>im.contains w);rw [List.countP_eq_length_filter,List.countP_eq_length_filter,pm.length_eq] at this;have e:(near.filter fun a=>decide ¬(im.contains a=true))=near.filter fun w=>!im.contains w:=List.filter_congr fun w _=>by
  cases im.contains w<;>rfl
 rw [e] at this;omega
theorem Gi (near im:List Nat):(qi near).filter (fun x=>!(qi im).contains x)=qi (near.filter fun w=>!im.contains w):=by
 unfold qi;rw [List.filter_map];congr 1;refine List.filter_congr fun w _=>?_;have:((im.map fun (n:Nat)=>(n:Int)).contains (w:Int))=im.contains w:=by
  rw [Bool.eq_iff_iff,List.contains_iff_mem,List.contains_iff_mem];exact Ek (l:=im) (x:=w)
 simp only [Function.comp,this]
theorem RY {near im:List Nat}:(near.filter fun w=>!im.contains w).head?=near.find? fun w=>!im.contains w:=List.head?_filter
theorem Vz {y:aB} {p:b4} (g:jG p) (m:qg y) {f:List Nat} (r:ua y p p.1.length f) {k:Nat} (hk:k < p.1.length)
   (hp:(JM.bG (p.2.map JM.c9) k).length=3\/(JM.bG (p.2.map JM.c9) k).length=4) (hm:(JM.bG (y.2.map JM.aV) (Fk.image f k)).length=3\/(JM.bG (y.2.map JM.aV) (Fk.image f k)).length=4) :
   qi (Fk.handRow (aE y) (bu p) f k)=(wO y p f k).map fun x=>x+1:=by
 have e1:Fk.handRow (aE y) (bu p) f k=(if (Ga p f k).length=4 then [] else [if (JM.bG (y.2.map JM.aV) (Fk.image f k)).length=3 then 0 else (((JM.bG (y.2.map JM.aV) (Fk.image f k)).find? fun w=>!(Ga p f k).contains w).getD 0)+1])++(Ga p f k).map (·+1):=by
   unfold Fk.handRow;simp only [Dr g,m.good.beside];rfl
 have il:(Ga p f k).length=(JM.bG (p.2.map JM.c9) k).length:=by unfold Ga;rw [List.length_map]
 have sub:=Qa g m r (k:=k);have nn:(JM.bG (y.2.map JM.aV) (Fk.image f k)).Nodup:=(JM.vf m.good.rise _).imp fun {a b} h=>by omega
 have pn:(JM.bG (p.2.map JM.c9) k).Nodup:=(JM.vf g.rise _).imp fun {a b} h=>by omega
 have inn:(Ga p f k).Nodup:=by
   unfold Ga;rw [List.Nodup,List.pairwise_map];refine List.Pairwise.imp_of_mem (fun {a b} ha hb h=>?_) pn;intro e;exact h (r.inj (vZ g.rise ha) (vZ g.rise hb) e)
 have fl:=OB nn inn sub;rw [e1];unfold wO iM;generalize Ga p f k=im at *;generalize JM.bG (y.2.map JM.aV) (Fk.image f k)=near at *;have tail:qi (im.map (·+1))=(qi im).map fun x=>x+1:=by
   unfold qi;rw [List.map_map,List.map_map];refine List.map_congr_left fun x _=>?_;simp
 have app:∀ a b:List Nat,qi (a++b)=qi a++qi b:=fun a b=>by unfold qi;rw [List.map_append]
 rw [app,tail,List.map_append];congr 1;have nm:(qi im).contains (-1)=false:=by
   rw [<- Bool.not_eq_true,List.contains_iff_mem];intro h;obtain ⟨a,_,ha⟩:=List.mem_map.mp h;omega
 rcases hm with hm | hm
 . have i3:im.length=3:=by omega
   rw [if_neg (show ¬ im.length=4 by omega),if_pos hm,if_neg (show ¬ near.length=4 by omega),List.filter_cons,nm];have F:near.filter (fun w=>!im.contains w)=[]:=List.length_eq_zero_iff.mp (by omega);rw [Gi,F];rfl
 . rw [if_pos hm,Gi]
   by_cases i4:im.length=4
   . have F:near.filter (fun w=>!im.contains w)=[]:=List.length_eq_zero_iff.mp (by omega)
     rw [if_pos i4,F];rfl
   . rw [if_neg i4,if_neg (show ¬ near.length=3 by omega),<- RY]
     obtain ⟨w,hw⟩:=List.length_eq_one_iff.mp (show (near.filter fun w=>!im.contains w).length=1 by omega);rw [hw];rfl
theorem RZ {y:aB} {p:b4} (g:jG p) (m:qg y) {f:List Nat} (r:ua y p p.1.length f) {k:Nat} {x:PAtom×Nat} (hx:p.1[k]?=some x) :
   Fk.handFits (aE y) (bu p) f k x.1.hand=(iK x.1.hand ((aE y).atom (Fk.image f k)).hand&&!(Fk.isOne x.1.hand&&qd y p f k != x.1.hand)):=by
 have hk:=(Zqz hx);have h3:=g.Vx x (List.mem_of_getElem? hx);obtain ⟨a,ha⟩:∃ a,y.1[Fk.image f k]?=some a:=⟨_,List.getElem?_eq_getElem (r.img hk)⟩;have bnd:=m.good.atm a (List.mem_of_getElem? ha);unfold Fk.handFits qd;simp only [Qc ha];by_cases c0:x.1.hand=0
 . rw [c0];rfl
 . by_cases c3:x.1.hand=3
   . rw [c3]
     unfold iK Fk.isOne;cases a.1.hand==0<;>rfl
   . have one:Fk.isOne x.1.hand=true:=by
       unfold Fk.isOne;simp only [Bool.or_eq_true,beq_iff_eq];omega
     rw [if_neg c0,if_neg c3,one,Bool.true_and];have tl:iK x.1.hand a.1.hand=(a.1.hand != 0):=by
       unfold iK;have e0:(x.1.hand==0)=false:=beq_eq_false_iff_ne.mpr c0;have e3:(x.1.hand==3)=false:=beq_eq_false_iff_ne.mpr c3;rw [e0,e3];unfold bne;cases a.1.hand==0<;>rfl
     rw [tl];by_cases ch:a.1.hand=0
     . rw [ch];rfl
     . have row:=Vz g m r hk (g.handed k x hx one) (m.handed _ a ha ch)
       have ef:Fk.falls (Fk.handRow (aE y) (bu p) f k)=fX (wO y p f k):=by
         rw [IG,row];exact Aj _ fun a _ b _=>by omega
       rw [ef];have er:(if fX (wO y p f k) % 2=1 then Fk.other a.1.hand else a.1.hand)=vX a.1.hand (fX (wO y p f k) % 2==1):=by
         unfold vX;have h12:a.1.hand=1\/a.1.hand=2:=by omega
         by_cases q:fX (wO y p f k) % 2=1
         . rw [if_pos q,if_pos (beq_iff_eq.mpr q)]
           rcases h12 with h | h<;>rw [h]<;>rfl
         . rw [if_neg q,if_neg (fun z=>q (beq_iff_eq.mp z))]
       rw [er];unfold bne;rw [Bool.not_not]
theorem Ds {y:aB} {p:b4} (g:jG p) (gy:gc y) (f:List Nat) (a b:Nat):Fk.turnsEnd (aE y) (bu p) f a b=!keeps y p f a b:=by
 unfold Fk.turnsEnd keeps bne;have e:(bu p).besides a b=VB p a b:=by
  unfold Part.besides VB;rw [Dr g]
 rw [e,Dq gy]
theorem Sa {y:aB} {p:b4} (g:jG p) (m:qg y) {f:List Nat} {x:PBond×Nat} (hx:x ∈ p.2) {n:Nat} (hn:(aE y).bondAt (Fk.image f x.1.a) (Fk.image f x.1.b)=some n) :
   Fk.sideFits (aE y) (bu p) f x.1 (nU y n)=(iK x.1.side (nU y n)&&!(Fk.isOne x.1.side&&qf y p f x.1 != x.1.side)):=by
 have h3:=g.abD x hx;obtain ⟨c,hc,_,_⟩:=uz hn;have bnd:=m.good.Rt c (List.mem_of_getElem? hc);have es:nU y n=c.1.side:=by unfold nU;rw [qQ hc]
 unfold Fk.sideFits qf;rw [hn];simp only [es];by_cases c0:x.1.side=0
 . rw [c0];rfl
 . by_cases c3:x.1.side=3
   . rw [c3]
     unfold iK Fk.isOne;cases c.1.side==0<;>rfl
   . have one:Fk.isOne x.1.side=true:=by
       unfold Fk.isOne;simp only [Bool.or_eq_true,beq_iff_eq];omega
     rw [if_neg c0,if_neg c3,one,Bool.true_and];have tl:iK x.1.side c.1.side=(c.1.side != 0):=by
       unfold iK;have e0:(x.1.side==0)=false:=beq_eq_false_iff_ne.mpr c0;have e3:(x.1.side==3)=false:=beq_eq_false_iff_ne.mpr c3;rw [e0,e3];unfold bne;cases c.1.side==0<;>rfl
     rw [tl];by_cases ch:c.1.side=0
     . rw [ch];rfl
     . have et:(Fk.turnsEnd (aE y) (bu p) f x.1.a x.1.b != Fk.turnsEnd (aE y) (bu p) f x.1.b x.1.a)=(keeps y p f x.1.a x.1.b != keeps y p f x.1.b x.1.a):=by
         rw [Ds g m.good,Ds g m.good];cases keeps y p f x.1.a x.1.b<;>cases keeps y p f x.1.b x.1.a<;>rfl
       rw [et];have er:(if (keeps y p f x.1.a x.1.b != keeps y p f x.1.b x.1.a)=true then Fk.other c.1.side else c.1.side)=vX c.1.side (keeps y p f x.1.a x.1.b != keeps y p f x.1.b x.1.a):=by
         unfold vX;have h12:c.1.side=1\/c.1.side=2:=by omega
         split
         . rcases h12 with h | h<;>rw [h]<;>rfl
         . rfl
       rw [er];unfold bne;rw [Bool.not_not]
theorem V0 {y:aB} {p:b4} (g:jG p) (m:qg y) {f:List Nat} (r:ua y p p.1.length f):Fk.isPlace (bu p) (sg y) f=(nZ y p p.1.length f&&(m8 y p f&&mC y p f)):=by
 rw [Bool.eq_iff_iff,Bool.and_eq_true,Bool.and_eq_true,Ng g];have eH:∀ (k:Nat) x,p.1[k]?=some x->(x.1.fits (sg y) (Fk.image f k)&&Fk.handFits (aE y) (bu p) f k x.1.hand)=(iK x.1.hand ((aE y).atom (Fk.image f k)).hand&&!(Fk.isOne x.1.hand&&qd y p f k != x.1.hand)):=fun k x hx=>by
   rw [r.at_ k x (Zqz hx) hx,Bool.true_and,RZ g m r hx]
 have eS:∀ x ∈ p.2,(match (aE y).bondAt (Fk.image f x.1.a) (Fk.image f x.1.b) with | some k=>x.1.fits (sg y) k&&Fk.sideFits (aE y) (bu p) f x.1 (nU y k) | none=>false)=(sV y f (Fk.image f x.1.b) x&&!(Fk.isOne x.1.side&&qf y p f x.1 != x.1.side)):=fun x hx=>by
   obtain ⟨n,hn,hf⟩:=r.bond g hx;unfold sV;rw [hn];simp only;rw [hf,Bool.true_and,Sa g m hx hn]
 have unf:Fk.isPlace (bu p) (sg y) f=true ↔ (∀ (k:Nat) x,p.1[k]?=some x->(x.1.fits (sg y) (Fk.image f k)&&Fk.handFits (aE y) (bu p) f k x.1.hand)=true)/\∀ x ∈ p.2,(match (aE y).bondAt (Fk.image f x.1.a) (Fk.image f x.1.b) with | some k=>x.1.fits (sg y) k&&Fk.sideFits (aE y) (bu p) f x.1 (nU y k) | none=>false)=true:=by
   unfold Fk.isPlace;simp only;rw [Bool.and_eq_true,List.all_eq_true,List.all_eq_true,Gg,Gf];constructor
   . rintro ⟨h1,h2⟩
     refine ⟨fun k x hx=>?_,fun x hx=>?_⟩
     . exact h1 (x.1,k) (List.mem_of_getElem? (zip_get (by rw [List.getElem?_map,hx];rfl)))
     . have:=h2 x.1 (List.mem_map_of_mem hx)
       exact this
   . rintro ⟨h1,h2⟩
     refine ⟨fun z hz=>?_,fun x hx=>?_⟩
     . have hm:=List.mem_zipIdx hz
       simp at hm;obtain ⟨hlt,he⟩:=hm;have:=h1 z.2 p.1[z.2] (List.getElem?_eq_getElem hlt);rw [<- he] at this;exact this
     . obtain ⟨b,hb,rfl⟩:=List.mem_map.mp hx
       exact h2 b hb
 rw [unf];unfold m8 mC;rw [List.all_eq_true,List.all_eq_true];constructor
 . rintro ⟨h1,h2⟩
   refine ⟨⟨fun k x hx=>?_,fun b hb=>?_⟩,fun z hz=>?_,fun x hx=>?_⟩
   . have:=h1 k x hx
     rw [eH k x hx,Bool.and_eq_true] at this;exact this.1
   . have:=h2 b hb
     rw [eS b hb,Bool.and_eq_true] at this;exact this.1
   . have hm:=List.mem_zipIdx hz
     simp at hm;obtain ⟨hlt,he⟩:=hm;have hx:p.1[z.2]?=some z.1:=by rw [List.getElem?_eq_getElem hlt,<- he]
     have:=h1 z.2 z.1 hx;rw [eH z.2 z.1 hx,Bool.and_eq_true] at this;exact this.2
   . have:=h2 x hx
     rw [eS x hx,Bool.and_eq_true] at this;exact this.2
 . rintro ⟨⟨h1,h2⟩,h3,h4⟩
   refine ⟨fun k x hx=>?_,fun x hx=>?_⟩
   . rw [eH k x hx,h1 k x hx,Bool.true_and]
     exact h3 (x,k) (List.mem_of_getElem? (zip_get hx))
   . rw [eS x hx,h2 x hx,Bool.true_and]
     exact h4 x hx
theorem OC {y:aB} {p:b4} (g:jG p) (m:qg y):tZ y p=Fk.found (bu p) (aE y):=by
 have n:(bu p).n=p.1.length:=by unfold Part.n bu;simp
 show _=Fk.foundFrom (bu p) (sg y) (bu p).n [];rw [n,Ge];unfold tZ;rw [uV g _ (Nat.le_refl _),List.filter_filter];refine List.filter_congr fun f hf=>?_;rw [V0 g m (Gh g _ (Nat.le_refl _) f hf)];cases nZ y p p.1.length f<;>cases m8 y p f<;>cases mC y p f<;>rfl
end MP
namespace JM
open Fk
theorem II {m b:Bytes} {y:Bytes×Nat} (h:mark m b=.ok y):y=(b.drop m.length,m.length):=by
 unfold mark at h;cases q:(List.range m.length).find? fun i=>b[i]? != m[i]? with
 | some i=>rw [q] at h;cases h
 | none=>rw [q] at h;cases h;rfl
theorem IJ {g:Nat->Bool} {b:Bytes} {p:Nat} {k:Nat} {y:Nat×Bytes×Nat} (h:numIn 1 g (b.drop k) p=.ok y):y.1=(b.getD k 0).toNat:=by
 obtain ⟨h1,_,h3,_⟩:=bA h;rw [h3];have hl:k < b.length:=by
  rw [List.length_drop] at h1;omega
 rw [List.drop_eq_getElem_cons hl,List.take_succ_cons,List.take_zero,Jl,List.getD,List.getElem?_eq_getElem hl];rfl
theorem IK:∀ {k:Nat} {b:Bytes} {p:Nat} {y:List (PAtom×Nat)×Bytes×Nat},patomsIn k b p=.ok y->y.1.length=k/\∀ z ∈ y.1,z.1.hand<=3
 | 0,b,p,y,h=>by
   cases h
   exact ⟨rfl,by simp⟩
 | k+1,b,p,y,h=>by
   unfold patomsIn at h
   obtain ⟨c,_,h⟩:=aM h
   obtain ⟨e,_,h⟩:=aM h
   obtain ⟨i,_,h⟩:=aM h
   obtain ⟨q,_,h⟩:=aM h
   obtain ⟨hy,_,h⟩:=aM h
   obtain ⟨d,_,h⟩:=aM h
   obtain ⟨s,_,h⟩:=aM h
   obtain ⟨r,_,h⟩:=aM h
   obtain ⟨g,hg,h⟩:=aM h
   obtain ⟨l,hl,h⟩:=aM h
   cases h
   have ih:=IK hl
   have g3:=(bA hg).2.1
   refine ⟨by simp [ih.1],fun z hz=>?_⟩
   rcases List.mem_cons.mp hz with rfl | hz
   . exact of_decide_eq_true g3
   . exact ih.2 z hz
theorem IL {n:Nat}:∀ {k:Nat} {had:Option (Nat×Nat)} {b:Bytes} {p:Nat} {y:List (PBond×Nat)×Bytes×Nat},pbondsIn n k had b p=.ok y->∀ z ∈ y.1,z.1.how<=1/\z.1.side<=3
 | 0,had,b,p,y,h=>by
   cases h
   simp
 | k+1,had,b,p,y,h=>by
   unfold pbondsIn at h
   obtain ⟨x,_,h⟩:=aM h
   obtain ⟨w,_,h⟩:=aM h
   obtain ⟨_,_,h⟩:=aM h
   obtain ⟨o,_,h⟩:=aM h
   obtain ⟨hw,hh,h⟩:=aM h
   obtain ⟨r,_,h⟩:=aM h
   obtain ⟨s,hs,h⟩:=aM h
   obtain ⟨l,hl,h⟩:=aM h
   cases h
   have ih:=IL hl
   have g1:=(bA hh).2.1
   have g3:=(bA hs).2.1
   intro z hz
   rcases List.mem_cons.mp hz with rfl | hz
   . exact ⟨of_decide_eq_true g1,of_decide_eq_true g3⟩
   . exact ih z hz
structure abE (b:Bytes) (P:Part):Prop where
 n:P.n=(b.getD 4 0).toNat
 Vx:∀ x ∈ P.atoms,x.hand<=3
 bond:∀ x ∈ P.bonds,x.how<=1/\x.side<=3
 handed:∀ (k:Nat) x,P.atoms[k]?=some x->isOne x.hand=true->P.handed k=true
 sided:∀ x ∈ P.bonds,isOne x.side=true->P.sided x=true
theorem Nh {b:Bytes} {P:Part} (h:judgePart b=.ok P):abE b P:=by
 unfold judgePart at h;obtain ⟨m,hm,h1⟩:=aM h;obtain ⟨n,hn,h2⟩:=aM h1;obtain ⟨k,hk,h3⟩:=aM h2;obtain ⟨x,hx,h4⟩:=aM h3;obtain ⟨y,hy,h5⟩:=aM h4;obtain ⟨_,_,h6⟩:=aM h5;clear h h1 h2 h3 h4 h5;have h:=h6;clear h6;rw [II hm] at hn;have n4:=IJ hn;have xo:=IK hx;have yo:=IL hy;simp only at h;split at h
 . cases h
 . rename_i f1
   split at h
   . cases h
   . rename_i f2
     cases h;refine ⟨?_,fun z hz=>?_,fun z hz=>?_,fun j z hz ho=>?_,fun z hz ho=>?_⟩
     . show (x.1.map fun z=>z.1).length=_
       rw [List.length_map,xo.1,n4];rfl
     . obtain ⟨w,hw,rfl⟩:=List.mem_map.mp hz
       exact xo.2 w hw
     . obtain ⟨w,hw,rfl⟩:=List.mem_map.mp hz
       exact yo w hw
     . have hz':(x.1.map fun z=>z.1)[j]?=some z:=hz
       rw [List.getElem?_map] at hz';cases q:x.1[j]? with
       | none=>rw [q] at hz';cases hz'
       | some w=>
         rw [q] at hz';cases hz';rw [List.find?_eq_none] at f1;have:=f1 (w,j) (List.mem_of_getElem? (by rw [List.getElem?_zipIdx,q];simp));simp only [ho,Bool.true_and,Bool.not_eq_true',Bool.not_eq_false] at this;exact this
     . obtain ⟨w,hw,rfl⟩:=List.mem_map.mp hz
       rw [List.find?_eq_none] at f2;have:=f2 w hw;simp only [ho,Bool.true_and,Bool.not_eq_true',Bool.not_eq_false] at this;exact this
structure acI (b:Bytes) (M:Mol):Prop where
 n:M.n=(b.getD 4 0).toNat
 handed:∀ v,v < M.n->(M.atom v).hand ≠ 0->M.handed v=true
 sided:∀ j x,M.bonds[j]?=some x->x.side ≠ 0->M.sided j=true
theorem IM:∀ {k:Nat} {b:Bytes} {p:Nat} {y:List Atom×Bytes×Nat},atomsIn k b p=.ok y->y.1.length=k
 | 0,b,p,y,h=>by
  cases h
  rfl
 | k+1,b,p,y,h=>by
  unfold atomsIn at h
  obtain ⟨c,_,h⟩:=aM h
  obtain ⟨e,_,h⟩:=aM h
  obtain ⟨i,_,h⟩:=aM h
  obtain ⟨q,_,h⟩:=aM h
  obtain ⟨hy,_,h⟩:=aM h
  obtain ⟨l,hl,h⟩:=aM h
  cases h
  simp [IM hl]
theorem OD {b:Bytes} {M:Mol} (h:judgeMol b=.ok M):acI b M:=by
 unfold judgeMol at h;obtain ⟨m,hm,h1⟩:=aM h;obtain ⟨n,hn,h2⟩:=aM h1;obtain ⟨k,hk,h3⟩:=aM h2;obtain ⟨x,hx,h4⟩:=aM h3;obtain ⟨y,hy,h5⟩:=aM h4;obtain ⟨_,_,h6⟩:=aM h5;clear h h1 h2 h3 h4 h5;have h:=h6;clear h6;rw [II hm] at hn;have n4:=IJ hn;have xo:=IM hx;simp only at h;split at h
 . cases h
 . rename_i f1
   split at h
   . cases h
   . rename_i f2
     cases h;rw [List.find?_eq_none] at f1 f2;refine ⟨?_,fun v hv ho=>?_,fun j z hz ho=>?_⟩
     . show x.1.length=_
       rw [xo,n4];rfl
     . have:=f1 v (List.mem_range.mpr hv)
       have e:((⟨x.1,y.1⟩:Mol).atom v).hand != 0:=bne_iff_ne.mpr ho;simp only [e,Bool.true_and,Bool.not_eq_true',Bool.not_eq_false] at this;exact this
     . have hz':y.1[j]?=some z:=hz
       have:=f2 j (List.mem_range.mpr (Zqz hz'));have e:(((⟨x.1,y.1⟩:Mol).bonds[j]?.map Bond.side).getD 0 != 0)=true:=by
         rw [hz];exact bne_iff_ne.mpr ho
       rw [e] at this;simp only [Bool.true_and,Bool.not_eq_true',Bool.not_eq_false] at this;exact this
end JM
namespace MP
open PySem PySem.Spec PyProof.Rows L2
open XL (gF)
open Fk (Fault Bytes numIn need andThen Atom Bond Mol PAtom PBond Part)
open JM (aB aE gS d9)
theorem aao {B:Bytes} {p:b4} (h:Fk.judgePart B=.ok (bu p)) (hs:(B.getD 4 0).toNat<=5) (rise:JM.nv p.1.length (p.2.map JM.c9)):jG p:=by
 have J:=JM.Nh h;have n:(bu p).n=p.1.length:=by unfold Part.n bu;simp
 have be:∀ k,(bu p).beside k=JM.bG (p.2.map JM.c9) k:=fun k=>sP (n:=p.1.length) rfl rise k;refine ⟨by have:=J.n;omega,rise,fun b hb=>(J.bond b.1 (List.mem_map_of_mem hb)).1,fun x hx=>J.Vx x.1 (List.mem_map_of_mem hx),fun b hb=>(J.bond b.1 (List.mem_map_of_mem hb)).2,fun k x hx ho=>?_,fun x hx ho=>?_⟩
 . have:=J.handed k x.1 (by show (p.1.map fun z=>z.1)[k]?=_;rw [List.getElem?_map,hx];rfl) ho
   unfold Part.handed at this;rw [be] at this;simpa using this
 . have:=J.sided x.1 (List.mem_map_of_mem hx) ho
   unfold Part.sided Part.endMay Part.besides at this;rw [be,be] at this;simp only [Bool.and_eq_true,decide_eq_true_eq] at this;have l1:1<=(VB p x.1.a x.1.b).length:=this.1.1;have l2:1<=(VB p x.1.b x.1.a).length:=this.2.1;exact ⟨fun q=>by rw [q] at l1;simp at l1,fun q=>by rw [q] at l2;simp at l2⟩
theorem aap {B:Bytes} {y:aB} (h:Fk.judgeMol B=.ok (aE y)) (h9:(B.getD 4 0).toNat<=9) (gy:gc y):qg y:=by
 have J:=JM.OD h;have n:=yJ y;refine ⟨gy,by have:=J.n;omega,fun v a ha ho=>?_,fun k c hc ho=>?_⟩
 . have hv:v < (aE y).n:=by rw [n];exact (Zqz ha)
   have:=J.handed v hv (by rw [Qc ha];exact ho);unfold Mol.handed at this;simp only [Bool.and_eq_true,decide_eq_true_eq] at this;rw [gy.beside] at this;omega
 . have:=J.sided k c.1 (qQ hc) ho
   unfold Mol.sided at this;rw [qQ hc] at this;simp only [Bool.and_eq_true] at this;obtain ⟨_,h1,h2⟩:=this;unfold Mol.endMay at h1 h2;rw [Dq gy] at h1 h2;simp only [Bool.and_eq_true,decide_eq_true_eq] at h1 h2;exact ⟨fun q=>by rw [q] at h1;simp at h1,fun q=>by rw [q] at h2;simp at h2⟩
theorem Ni {y:aB} {p:b4} (g:jG p) (m:qg y):(tZ y p).length<=59049:=by
 unfold tZ;exact Nat.le_trans (List.length_filter_le _ _) (wg m.n9 g.k5)
theorem Gj {y:aB} {p:b4} (g:jG p) (m:qg y) {f:List Nat} (h:f ∈ tZ y p):ua y p p.1.length f:=by
 unfold tZ at h;have h1:=(List.mem_filter.mp h).1;rw [uV g _ (Nat.le_refl _)] at h1;exact Gh g _ (Nat.le_refl _) f (List.mem_filter.mp h1).1
variable {P:Program} {w:World} {K:Zqq} {mg:Str->Option Value} {base:Heap} {t:Ad}
section
theorem ng.mono {D D':Addr->Prop} {H:Hp} {g:Addr} {z:kN} {y:aB} (M:ng t D H g z y) (f:∀ b,D b->D' b):ng t D' H g z y:=
 ⟨M.obj,M.atoms,M.bonds,M.rows,M.sums,M.orders,M.nums,M.num,M.ra.mono (pY.ok _) f,M.rb.mono (nS.ok _) f⟩
structure aaq (Bp Bm:Bytes) (p:b4) (y:aB):Prop where
 jp:Fk.judgePart Bp=.ok (bu p)
 jm:Fk.judgeMol Bm=.ok (aE y)
 pat:jG p
 mol:qg y
def OE (K:Zqq) (t:Ad):Sp:=fun vs H Q E=>∃ (a b:Addr) (Bp Bm:Bytes),vs=[.ref a,.ref b]/\sG K H a Bp/\sG K H b Bm/\Bp.length<=6000/\Bm.length<=6000/\(Bp.getD 4 0).toNat<=5/\(Bm.getD 4 0).toNat<=9/\(Bm.getD 5 0).toNat<=12 /\
 mw t.aH 0 (Fk.judgePart Bp) (fun Pt=>mw t.aH 1 (Fk.judgeMol Bm) (fun Mo=>∀ H' l rs p y,aaq Bp Bm p y->aS H H'->H' l=some (.lst rs)->cQ qw (fun b=>H b=none) H' rs (tZ y p)->Q (.ref l) H') E) E
theorem yK:aQ ["pattern","molecule","wanted","given"] ["pattern","molecule"] (aF rq):=lR (by decide +kernel)
theorem Nj (T:Txt K mg t):bF P w K mg base (uW P w) 11 t.i6 t.lg ["pattern","molecule"] (OE K t):=by
 have GP:=@Xk P w K mg base t T;have GM:=@UR P w K mg base t T;have GO:=@XD P w K mg base t T;obtain ⟨tk0,g0⟩:=T.AR;obtain ⟨Oj,g1⟩:=T.zy;refine T.jB.KZ yK (fun vs H Q E h=>?_) (fun cdv A outer s H vs Q E hr h=>?_)
 . obtain ⟨a,b,Bp,Bm,rfl,_⟩:=h
   rfl
 . obtain ⟨a,b,Bp,Bm,rfl,ha,hb,lp,lm,p5,m9,m12,k⟩:=h
   have Nv:dG 5 _:=hr.mono (by decide);refine ⟨_,ak (aR (i:=2) yK.nd rfl (Or.inl rfl) (bx GP hr rfl T.xS T.j9.kp T.xK .nil c7 (af (pv 0) (af (aU rfl g0 (v:=.int 0) ⟨_,rfl⟩) au))))
     (ak (aR (i:=3) yK.nd rfl (Or.inl rfl) (bx GM hr rfl T.wD T.iS.kp T.w6 .nil c7 (af (pv 1) (af (aU rfl g1 (v:=.int 1) ⟨_,rfl⟩) au))))
     (az (aZ (bx GO Nv rfl T.Ig T.qT.kp T.Ie .nil bD (af (pv 2) (af (pv 3) au)))))),?_⟩
   refine ⟨_,rfl,a,0,Bp,rfl,ha,lp,?_⟩;cases hp:Fk.judgePart Bp with
   | error f=>
     rw [hp] at k;exact k
   | ok Pt=>
     rw [hp] at k;intro H1 gp la lb lr as us rs p Pa ep s1;refine ⟨_,rfl,b,1,Bm,rfl,Xl.same (xs:=vB Bm) hb s1,lm,m12,?_⟩;have k1:mw t.aH 1 (Fk.judgeMol Bm) (fun Mo=>∀ H' l rs p y,aaq Bp Bm p y->aS H H'->H' l=some (.lst rs)->cQ qw (fun b=>H b=none) H' rs (tZ y p)->Q (.ref l) H') E:=k;cases hm:Fk.judgeMol Bm with
     | error f=>
       rw [hm] at k1;exact k1
     | ok Mo=>
       rw [hm] at k1;intro H2 g z y M gy em s2;have k2:∀ H' l rs p y,aaq Bp Bm p y->aS H H'->H' l=some (.lst rs)->cQ qw (fun b=>H b=none) H' rs (tZ y p)->Q (.ref l) H':=k1;rw [em] at hm;rw [ep] at hp;have al:as.length=p.1.length:=Pa.at_.len;have po:jG p:=aao hp p5 (by rw [<- al];exact Pa.rise);have mo:qg y:=aap hm m9 gy;refine ⟨_,rfl,_,rfl,?_⟩;refine ⟨gp,g,⟨la,lb,lr,as,us,rs⟩,p,z,y,fun b=>H b=none,rfl,Pa.same s2,M.mono (fun b d=>s1.free d),gy,XH po mo,fun H3 l RX s3 nl hl R=>?_⟩;have N1:=s1.trans s2;exact k2 H3 l RX p y ⟨hp,hm,po,mo⟩ (N1.trans s3) hl (R.mono qw.ok fun b d=>N1.free d)
end
theorem acJ {c:PartNeutral.Call} {x:FkP.Call} (e:PartNeutral.callOf c=some x):PartNeutral.f c=PartNeutral.told (FkP.answer x):=by
 unfold PartNeutral.f;rw [e]
theorem Sb {c:PartNeutral.Call} {x:FkP.Call} (e:PartNeutral.callOf c=some x) (h:PartNeutral.asked [c]=true):PartNeutral.moderate x=true:=by
 unfold PartNeutral.asked at h;simp only [Bool.and_eq_true,List.all_cons] at h;have q:=h.2.2.1.1;unfold PartNeutral.fits at q;rw [e] at q;simpa using q
theorem aar {B:Bytes} (h:PartNeutral.few B=true):(B.getD 4 0).toNat<=9/\(B.getD 5 0).toNat<=12:=by
 unfold PartNeutral.few at h;simpa using h
def Al (k:Nat) (fs:List (List Nat)):List Int:=match fs[k]? with
 | some f=>0::(f.length:Int)::qi f
 | none=>[-2]
theorem V1 (l:List (List Nat)) (k:Nat):PartNeutral.told (FkP.nth l k)=Al k l:=by
 unfold FkP.nth Al;cases l[k]? with
 | none=>rfl
 | some f=>
  show 0::PartNeutral.rowN (PartNeutral.ints f)=_;unfold PartNeutral.rowN PartNeutral.ints qi;rw [List.length_map]
theorem V2 {k:Int} (h:0<=k):PartNeutral.nat k=some k.toNat:=by
 unfold PartNeutral.nat;rw [if_neg (by omega)]
section
def aas (t:Ad):Sp:=fun vs H Q _=>∃ (k:Nat) (l:Addr) (rs:List V) (fs:List (List Nat)) (D:Addr->Prop),vs=[.int (k:Int),.ref l]/\H l=some (.lst rs)/\cQ qw D H rs fs/\(∀ f ∈ fs,f.length<=1000)/\∀ H' p,H' p=some (.lst (vI (Al k fs)))->Q (.ref p) H'
theorem XI:aQ ["k","rows"] ["k","rows"] (aF qt):=lR (by decide +kernel)
theorem XJ (T:Txt K mg t):bF P w K mg base m5 2 t.gn t.k6 ["k","rows"] (aas t):=by
 have GW:=@aab P w K mg base t T;obtain ⟨WL,g2⟩:=T.Ij;refine T.iV.ok XI (fun vs H Q E h=>?_) (fun cdv A outer s H vs Q E hr h=>?_)
 . obtain ⟨k,l,rs,fs,D,rfl,_⟩:=h
   rfl
 . obtain ⟨n,l,rs,fs,D,rfl,hl,R,short,k⟩:=h
   refine ⟨_,ak (kL (cS aa5 (pv 0) (c6 bz (by rfl) T.kM PySem.boot_len (af (pv 1) au)) (bW _)) (az (aZ (jM (af (aU rfl g2 (v:=.int (-2)) ⟨_,rfl⟩) au)))) dW)
     (az (aZ (bx GW hr rfl T.AB T.lP.kp T.A6 .nil bD (af (bT b6 (pv 1) (pv 0) (fun _ _=>rfl)) au)))),?_⟩
   have rl:=R.len;refine ⟨_,rfl,_,rfl,l,_,rfl,.inl (bI.of hl),_,_,rfl,rfl,_,rfl,?_⟩;unfold Al at k;cases hf:fs[n]? with
   | none=>
     rw [hf] at k;have:fs.length<=n:=List.getElem?_eq_none_iff.mp hf;have d:decide ((rs.length:Int)<=(n:Int))=true:=decide_eq_true (by omega);rw [d];exact qK ⟨(by show 1<=sizeLine;decide),fun p hp=>k _ p ai⟩
   | some f=>
     rw [hf] at k;have hlt:n < fs.length:=(Zqz hf);have d:decide ((rs.length:Int)<=(n:Int))=false:=decide_eq_false (by omega);rw [d];refine oF ?_;obtain ⟨v,hv⟩:∃ v,rs[n]?=some v:=⟨_,List.getElem?_eq_getElem (by omega)⟩;obtain ⟨a,rfl,_,ha⟩:=R.at_ n v f hv hf;refine ⟨_,rfl,_,rfl,tG (bI.of hl) (bh hv) ?_⟩;have fl:=short f (List.mem_of_getElem? hf);refine ⟨a,qi f,rfl,by rw [ha,C9],by unfold qi;rw [List.length_map];omega,fun H' p hp=>k H' p ?_⟩;rw [hp];unfold qi;simp
end
def zc (Bp Bm:Bytes) (f:Part->Mol->List Int):List Int:=match Fk.judgePart Bp with
 | .error e=>[-5,0,(e.rule:Int),(e.place:Int)]
 | .ok P=>match Fk.judgeMol Bm with
   | .error e=>[-5,1,(e.rule:Int),(e.place:Int)]
   | .ok M=>f P M
theorem Sd (Bp Bm:Bytes) (f:Part->Mol->FkP.Answer):PartNeutral.told (FkP.both Bp Bm f)=zc Bp Bm fun P M=>PartNeutral.told (f P M):=by
 unfold FkP.both FkP.judged zc;cases Fk.judgePart Bp with
 | error e=>rfl
 | ok P=>
  simp only;cases Fk.judgeMol Bm<;>rfl
theorem V3 {Bp Bm:Bytes} (h:(PartNeutral.short Bp&&PartNeutral.few Bm)=true):(Bp.getD 4 0).toNat<=5/\(Bm.getD 4 0).toNat<=9/\(Bm.getD 5 0).toNat<=12:=by
 rw [Bool.and_eq_true] at h;exact ⟨of_decide_eq_true h.1,aar h.2⟩
def setOf (n:Nat) (f:List Nat):List Nat:=(List.range n).filter f.contains
def yL (n:Nat) (z:List (List Nat)×List (List Nat)) (f:List Nat):List (List Nat)×List (List Nat):=if z.2.contains (setOf n f)=true then z else (z.1++[f],z.2++[setOf n f])
def iN (n:Nat) (fs:List (List Nat)):List (List Nat)×List (List Nat):=fs.foldl (yL n) ([],[])
theorem qR (n:Nat) (fs:List (List Nat)) (f:List Nat):iN n (fs++[f])=yL n (iN n fs) f:=by simp [iN]
theorem Nk (n:Nat):∀ (fs:List (List Nat)) (z:List (List Nat)×List (List Nat)),z.2.length=z.1.length->(fs.foldl (yL n) z).1.length<=z.1.length+fs.length/\(fs.foldl (yL n) z).2.length=(fs.foldl (yL n) z).1.length
 | [],z,h=>⟨Nat.le_refl _,h⟩
 | f::fs,z,h=>by
   rw [List.foldl_cons]
   have a:(yL n z f).2.length=(yL n z f).1.length/\(yL n z f).1.length<=z.1.length+1:=by
     unfold yL;split
     . exact ⟨h,by omega⟩
     . simp [h]
   have ih:=Nk n fs (yL n z f) a.1;rw [List.length_cons];exact ⟨by have:=a.2;omega,ih.2⟩
theorem Nl (n:Nat) (fs:List (List Nat)):(iN n fs).1.length<=fs.length/\(iN n fs).2.length=(iN n fs).1.length:=by
 have:=Nk n fs ([],[]) rfl;simpa [iN] using this
theorem Nm (n:Nat):∀ (fs:List (List Nat)) (z:List (List Nat)×List (List Nat)),∀ g ∈ (fs.foldl (yL n) z).1,g ∈ z.1\/g ∈ fs
 | [],z,g,h=>.inl h
 | f::fs,z,g,h=>by
   rcases Nm n fs (yL n z f) g h with q | q
   . unfold yL at q
     split at q
     . exact .inl q
     . rcases List.mem_append.mp q with q | q
       . exact .inl q
       . exact .inr (by simp at q;simp [q])
   . exact .inr (List.mem_cons_of_mem _ q)
theorem Nn (n:Nat) (fs:List (List Nat)):∀ f ∈ (iN n fs).1,f ∈ fs:=fun f h=>by
 rcases Nm n fs ([],[]) f h with q | q
 . cases q
 . exact q
theorem OG {n:Nat} {f:List Nat} (nd:f.Nodup) (lt:∀ v ∈ f,v < n) {ns:List Int} (pm:ns.Perm (qi f)) (pw:ns.Pairwise (·<=·)):ns=qi (setOf n f):=by
 have tnd:(qi f).Nodup:=by
   unfold qi;rw [List.Nodup,List.pairwise_map];exact nd.imp fun {a b} h q=>h (by omega)
 have nnd:ns.Nodup:=pm.nodup_iff.mpr tnd;have pos:∀ x ∈ ns,∃ v ∈ f,x=(v:Int):=fun x hx=>by
   obtain ⟨v,hv,e⟩:=List.mem_map.mp (show x ∈ f.map fun (n:Nat)=>(n:Int) from pm.mem_iff.mp hx);exact ⟨v,hv,e.symm⟩
 have l1:(ns.map Int.toNat).Pairwise (· < ·):=by
   rw [List.pairwise_map];refine List.Pairwise.imp_of_mem (fun {a b} ha hb h=>?_) (List.pairwise_and_iff.mpr ⟨pw,nnd⟩);obtain ⟨u,_,rfl⟩:=pos a ha;obtain ⟨v,_,rfl⟩:=pos b hb;have h1:=h.1;have h2:=h.2;omega
 have e:ns.map Int.toNat=setOf n f:=by
   refine JM.zE l1 (JM.A0 _) fun x=>?_;show x ∈ ns.map Int.toNat ↔ x ∈ (List.range n).filter f.contains;rw [List.mem_map,List.mem_filter,List.mem_range,List.contains_iff_mem];constructor
   . rintro ⟨a,ha,rfl⟩
     obtain ⟨v,hv,rfl⟩:=pos a ha;exact ⟨lt v hv,hv⟩
   . rintro ⟨_,hx⟩
     exact ⟨(x:Int),pm.mem_iff.mpr (Ek.mpr hx),rfl⟩
 rw [<- e];unfold qi;rw [List.map_map];refine (List.map_id ns).symm.trans (List.map_congr_left fun x hx=>?_);obtain ⟨v,_,rfl⟩:=pos x hx;rfl
def HE (s:List Nat):List Key:=kI (qi s)
theorem V4 {a b:List Nat} (h:HE a=HE b):a=b:=by
 have:=vR h;unfold qi at this;exact List.map_inj_right (f:=fun (n:Nat)=>(n:Int)) (fun x y q=>by omega) |>.mp this
theorem Np {kvs:List (List Key×V)} {ss:List (List Nat)} (hk:kvs.map (·.1)=ss.map HE) (s:List Nat):(kh kvs (HE s)).isSome=ss.contains s:=by
 rw [<- nt,Bool.eq_iff_iff,List.any_eq_true,List.contains_iff_mem];constructor
 . rintro ⟨p,hp,e⟩
   have:HE s ∈ ss.map HE:=by
     rw [<- hk,<- of_decide_eq_true e];exact List.mem_map_of_mem hp
   obtain ⟨u,hu,q⟩:=List.mem_map.mp this;exact V4 q ▸ hu
 . intro h
   have:HE s ∈ kvs.map (·.1):=by
     rw [hk];exact List.mem_map_of_mem h
   obtain ⟨p,hp,q⟩:=List.mem_map.mp this;exact ⟨p,hp,decide_eq_true q⟩
theorem V5 {kvs:List (List Key×V)} {k:List Key} {v:V} (h:kh kvs k=none):putK kvs k v=kvs++[(k,v)]:=by
 unfold putK;rw [nt,h];rfl
section
def V6 (t:Ad):Sp:=fun vs H Q _=>∃ (l:Addr) (n:Nat) (rs:List V) (fs:List (List Nat)) (D:Addr->Prop),vs=[.ref l]/\H l=some (.lst rs)/\cQ qw D H rs fs/\(∀ f ∈ fs,f.Nodup/\f.length < 64/\∀ v ∈ f,v < n)/\fs.length<=1000000 /\
 ∀ H' p qs,aS H H'->H' p=some (.lst qs)->cQ qw D H' qs (iN n fs).1->Q (.ref p) H'
theorem CI:aQ ["maps","first_maps","row"] ["maps"] (aF tK):=lR (by decide +kernel)
theorem Se (T:Txt K mg t):bF P w K mg base m5 1 t.jK t.pJ ["maps"] (V6 t):=by
 refine T.mU.ok CI (fun vs H Q E h=>?_) (fun cdv A outer s H vs Q E hr h=>?_)
 . obtain ⟨l,n,rs,fs,D,rfl,_⟩:=h
   rfl
 . obtain ⟨l,n,rs,fs,D,rfl,hl,R,ok,size,k⟩:=h
   have hu:=hr.un;have hu':(A.deeper (envOfC "places_of" (aF tK) s.heap.objs.size t.jK cdv)).units+1 < cLine:=by omega
   refine ⟨_,ak (aR (i:=1) CI.nd rfl (Or.inl rfl) Ax)
     (ak (fj PassesOwn.never rfl (gE (pv 0)) (bw (i:=2) CI.nd rfl (Or.inl rfl))
       (az (dX (T8 hu' (pv 1) (yN uc (by rfl) T.DZ PyProof.Rows.boot_tuple (af (c6 Qp (by rfl) T.LG boot_sorted (af (pv 2) au)) au)) (pv 2) ⟨rfl,rfl,rfl,rfl⟩))))
     (az (aZ (L7 rfl rfl T.Oa (pv 1))))),?_⟩
   have PX:=qw.ok;intro d hd;have s0:aS H (upd H d (.dT [])):=aK hd;refine ⟨_,rfl,l,rfl,⟨_,bI.of (s0 _ _ hl)⟩,?_⟩;let xf:L2.Iv:=fun i σ H'=>∃ v2 kvs,σ=[some (.ref l),some (.ref d),v2]/\aS H H'/\H' d=some (.dT kvs)/\kvs.map (·.1)=(iN n (fs.take i)).2.map HE/\cQ qw D H (kvs.map (·.2)) (iN n (fs.take i)).1;refine pC (K:=K) (a:=l) (xs:=rs) xf ⟨none,[],rfl,s0,ai,rfl,cQ.nil⟩ (fun i σ H' _ ⟨_,_,_,sm,_⟩=>bI.of (sm _ _ hl)) ?_ ?_
   . rintro i x σ H' hx ⟨v2,kvs,rfl,sm,hd',hk,RV⟩
     have hi:i < rs.length:=(Zqz hx);obtain ⟨f,hf⟩:∃ f,fs[i]?=some f:=⟨_,List.getElem?_eq_getElem (by rw [<- R.len];exact hi)⟩;obtain ⟨nd,f64,VC⟩:=ok f (List.mem_of_getElem? hf);obtain ⟨ra,rfl,dR,hR⟩:=R.at_ i x f hx hf;have hR':H' ra=some (.lst ((qi f).map V.int)):=by rw [sm _ _ hR,C9];rfl
     refine ⟨_,rfl,d,rfl,.inr ⟨kvs,.inl hd'⟩,?_⟩;refine ⟨_,rfl,ra,qi f,rfl,bI.of hR',by unfold qi;rw [List.length_map];exact f64,fun ns p1 pm pw hp1=>?_⟩;have es:=OG nd VC pm pw;subst es;have s1:=aK (o:=.lst ((qi (setOf n f)).map V.int)) hp1;refine ⟨p1,_,rfl,.inl ⟨bI.of ai,fun p2 hp2=>?_⟩⟩;have s2:=s1.trans (aK (o:=.tup ((qi (setOf n f)).map V.int)) hp2);have lk:=(Nl n (fs.take i));have kl:kvs.length=(iN n (fs.take i)).1.length:=by rw [<- RV.len,List.length_map]
     have tl:(fs.take i).length<=i:=by rw [List.length_take];omega
     have il:i < fs.length:=(Zqz hf);refine ⟨_,rfl,kvs,HE (setOf n f),p2,s2 _ _ hd',rfl,by unfold HE;rw [DM];exact ai,by rw [sizeLine_eq];omega,fun v hv=>?_,fun hv=>?_⟩
     . have c:(iN n (fs.take i)).2.contains (setOf n f)=true:=by rw [<- Np hk,hv];rfl
       refine ⟨_,kvs,rfl,sm.trans s2,s2 _ _ hd',?_,?_⟩
       . rw [take_snoc hf,qR]
         unfold yL;rw [if_pos c];exact hk
       . rw [take_snoc hf,qR]
         unfold yL;rw [if_pos c];exact RV
     . have c:¬ (iN n (fs.take i)).2.contains (setOf n f)=true:=by rw [<- Np hk,hv];simp
       rw [V5 hv];refine ⟨_,_,rfl,fun b u e=>by rw [aq (ay e hd)];exact (sm.trans s2) b u e,ai,?_,?_⟩
       . rw [take_snoc hf,qR]
         unfold yL;rw [if_neg c,List.map_append,List.map_append,hk];rfl
       . rw [take_snoc hf,qR]
         unfold yL;rw [if_neg c,List.map_append];exact RV.snoc ⟨ra,rfl,dR,hR⟩
   . rintro σ H1 ⟨v2,kvs,rfl,sm,hd',hk,RV⟩
     rw [R.len,List.take_length] at RV;refine ⟨_,rfl,d,kvs,rfl,hd',fun p hp=>?_⟩;exact k _ p _ (sm.trans (aK hp)) ai (RV.stay PX fun b u _ h=>(sm.trans (aK hp)) _ _ h)
end
theorem places_eq (P:Part) (M:Mol):Fk.places P M=(iN M.n (Fk.found P M)).1:=by
 unfold Fk.places iN;rfl
section
theorem Sf {y:aB} {p:b4} (g:jG p) (m:qg y):∀ f ∈ tZ y p,f.Nodup/\f.length < 64/\∀ v ∈ f,v < y.1.length:=fun f hf=>by
 have r:=Gj g m hf
 have:=r.len
 have:=g.k5
 exact ⟨r.nd,by omega,r.lt⟩
theorem KW {y:aB} {p:b4} (g:jG p) (m:qg y):(iN y.1.length (tZ y p)).1=Fk.places (bu p) (aE y):=by
 rw [places_eq,OC g m,yJ]
def Nq (K:Zqq):Sp:=fun vs H Q _=>∃ (k:Nat) (a b:Addr) (Bp Bm:Bytes),vs=[.int (k:Int),.ref a,.ref b]/\sG K H a Bp/\sG K H b Bm/\Bp.length<=6000/\Bm.length<=6000/\(Bp.getD 4 0).toNat<=5/\(Bm.getD 4 0).toNat<=9/\(Bm.getD 5 0).toNat<=12/\∀ H' p,H' p=some (.lst (vI (zc Bp Bm fun P M=>Al k (Fk.places P M))))->Q (.ref p) H'
theorem CJ:aQ ["k","pattern","molecule","maps","fault"] ["k","pattern","molecule"] (aF Jp):=lR (by decide +kernel)
theorem Sg (T:Txt K mg t):bF P w K mg base m5 12 t.p8 t.yR ["k","pattern","molecule"] (Nq K):=by
 have GR:=@Nj P w K mg base t T;have GA:=@aby P w K mg base t T;have GP:=@Se P w K mg base t T;have GO:=@XJ P w K mg base t T;refine T.yS.ok CJ (fun vs H Q E h=>?_) (fun cdv A outer s H vs Q E hr h=>?_)
 . obtain ⟨k,a,b,Bp,Bm,rfl,_⟩:=h
   rfl
 . obtain ⟨n,a,b,Bp,Bm,rfl,ha,hb,lp,lm,p5,m9,m12,k⟩:=h
   have hr1:dG 1 _:=hr.mono (by decide);have hr2:dG 2 _:=hr.mono (by decide);let E1:XK:=fun cls d H'=>cls=.ref t.aH/\∃ (dx:Addr) (u r p:Int),d=some dx/\yU H' dx u r p/\∀ H'' l,H'' l=some (.lst ([-5,u,r,p].map V.int))->Q (.ref l) H'';refine ⟨_,ak (Zs (E:=E1) (Qr:=Q) (i:=4) ⟨rfl,rfl⟩ rfl CJ.nd T.jk rfl T.xZ rfl rfl rfl
       (fun pn Z c=>az (aR (i:=3) CJ.nd rfl (Or.inl rfl) (bx GR hr rfl T.xX T.jB.kp T.xQ .nil c (af (pv 1) (af (pv 2) au)))))
       (fun ea=>az (aZ (T4 GA ⟨hr1.dp,hr1.un⟩ rfl T.xY T.jC.kp T.xR (af (pv 4) au)))) ?_)
     (az (aZ (bx GO hr2 rfl T.wI T.iV.kp T.wB .nil bD (af (pv 0) (af (bx GP hr1 rfl T.CY T.mU.kp T.CU .nil bD (af (pv 3) au)) au))))),?_⟩
   . rintro C' dx H1 ⟨rfl,dx',u,r,p,e,hf,k'⟩
     cases e;refine ⟨rfl,fun ea hea=>?_⟩;refine ⟨_,rfl,ea,dx,u,r,p,rfl,ai,?_,k'⟩;show upd H1 ea _ dx=_;rw [aq (ay hf hea)];exact hf
   . refine ⟨fun v H' q=>q,?_⟩
     refine ⟨_,rfl,_,rfl,a,b,Bp,Bm,rfl,ha,hb,lp,lm,p5,m9,m12,?_⟩;unfold zc at k;cases hp:Fk.judgePart Bp with
     | error f=>
       rw [hp] at k;exact fun H' dx hf=>⟨rfl,dx,_,_,_,rfl,hf,k⟩
     | ok Pt=>
       rw [hp] at k;simp only at k;show mw t.aH 1 (Fk.judgeMol Bm) _ _;cases hm:Fk.judgeMol Bm with
       | error f=>
         rw [hm] at k;exact fun H' dx hf=>⟨rfl,dx,_,_,_,rfl,hf,k⟩
       | ok Mo=>
         rw [hm] at k;intro H' l rs p y B2 sm hl R;have e1:bu p=Pt:=by have:=B2.jp;rw [hp] at this;exact (Except.ok.inj this).symm
         have e2:aE y=Mo:=by have:=B2.jm;rw [hm] at this;exact (Except.ok.inj this).symm
         simp only at k;rw [<- e1,<- e2,<- KW B2.pat B2.mol] at k;have sz:=Ni B2.pat B2.mol;refine ⟨_,rfl,_,rfl,?_⟩;refine ⟨l,y.1.length,rs,tZ y p,_,rfl,hl,R,Sf B2.pat B2.mol,by omega,fun H2 p2 qs s2 hp2 R2=>?_⟩;exact ⟨n,p2,qs,(iN y.1.length (tZ y p)).1,_,rfl,hp2,R2,fun f hf=>by
           have:=(Gj B2.pat B2.mol (Nn _ _ f hf)).len;have:=B2.pat.k5;omega,k⟩
end
theorem Gk {k:Int} {l m:List Int} (hk:0<=k) (h:∀ z ∈ l,0<=z/\z<=255) (hm:∀ z ∈ m,0<=z/\z<=255):PartNeutral.callOf [[6,k],l,m]=some (.place k.toNat (bytesOf l) (bytesOf m)):=by
 show (PartNeutral.nat k).bind (fun n=>(PartNeutral.bytes l).bind fun p=>(PartNeutral.bytes m).bind fun q=>some (FkP.Call.place n p q))=_;rw [V2 hk,FN l h,FN m hm];rfl
theorem Sh (k:Int) (l m:List Int) (hk:0<=k) (h:∀ z ∈ l,0<=z/\z<=255) (hm:∀ z ∈ m,0<=z/\z<=255):PyYqfkba.place k l m=zc (bytesOf l) (bytesOf m) fun P M=>Al k.toNat (Fk.places P M):=by
 unfold PyYqfkba.place;rw [acJ (Gk hk h hm)];refine (Sd _ _ _).trans ?_;congr 1;funext P M;exact V1 _ _
theorem Si (k:Int) (l m:List Int) (hk:0<=k) (h:∀ z ∈ l,0<=z/\z<=255) (hm:∀ z ∈ m,0<=z/\z<=255) (ha:PyYqfkba.place_asked k l m=true):((bytesOf l).getD 4 0).toNat<=5/\((bytesOf m).getD 4 0).toNat<=9/\((bytesOf m).getD 5 0).toNat<=12:=V3 (Sb (Gk hk h hm) ha)
end MP
structure PySem.W.Fast:Prop where
 (tw18162681436402271775 tw10978593232587892503 tw8636352730681440955 tw10118917173874952079 tw8883392675338150279 tw11747608980707958454 tw5852393641591857754 tw9601694303598735661 tw6872065339486405165 tw1463491576500981004 tw3701882446754969019 tw11782177948150633319 tw10062684965705333841 tw1620703426228925927 tw1703781915070559171 tw12761258105279265812 tw15240990289813946906 tw14934298803896548245 tw3943129958845724811 tw1901855245973339931 tw6508902999090842680 tw1781096617670309972 tw15632238169472214973 tw6243481791249143726 tw12053312063556739685 tw12229527501122729881 tw9929211680301179031 tw6133822333011295522 tw1794893779494313171 tw1655496549216991719 tw16942751218642198431 tw5216471652430264634 tw4051419359553677182 tw2378488985201248587 tw2140976575505731010 tw17141057538350712863 tw2014238494203468079 tw15869604226402334049 tw16660562255977959287 tw11617995096595985491 tw13217699686806214581 tw2168560696451784331 tw10004472364233913212 tw1072706366097690251 tw17325653692230002968 tw18358797517994402614 tw14771526634886898959 tw15800261090281098953 tw13130196521785935469 tw5010370661135435726 tw17574765716588241926 tw9947057634363069679 tw8693012484225368410 tw15832114606366421264 tw18310398462833021738 tw3721236159040143897 tw10933397244237749314 tw7249564375707630002 tw12871453041196924754 tw10640703861418264262 tw11693598829163753144 tw2229608475879626078 tw15883740519501200575 tw454178857361569595 tw16592847885407967692 tw10423804117678323760 tw8647314760887297990 tw17541297043551374069 tw12515047346921315698 tw7557442795036453864 tw3430558449254914361 tw15641926629424644222 tw2651129097313034334 tw13471772228129892758 tw7978116030143516720 tw6022430756001022046 tw1505634066238541401 tw2642014164191661133 tw7956945393826072493 tw2684004208309816979 tw11342036966759143798 tw2186475643565503554 tw12761161906512250857 tw16215443944368105992 tw6723163118366216006 tw14132195947686690161 tw577824967380129048 tw15719322233094358554 tw12924224557865762640 tw15380322807363520830 tw7791947433210399339 tw15855872753587787984 tw2524819381379749325 tw2690882303516394416 tw4923108108142929783 tw7882317794641197463 tw1547872191388995860 tw2833630861825357975 tw12139985886677423247 tw4350156456231253758 tw4745482031145738902 tw6991634783514385903 tw13919638274513674707 tw7964870220273058178 tw11463366451076337582 tw3202912084464988643 tw15118592481597089375 tw208735224401456275 tw2730817475075245891 tw15822834552890827519 tw17040553446087430734 tw17730999470266024173 tw15160092944757131784 tw3931888982559489549 tw15207816977444028875 tw3282478017334044187 tw3921510393219053051 tw15892339111710556608 tw12323304574841585551 tw514164498682722983 tw12381111241979040237 tw219679860466759000 tw16385375086120136013 tw5896055271218947773 tw48147240328335464 tw1854306835441365748 tw17842343275069405302 tw676733496889347415 tw14263507327737974262 tw5393162745775994490 tw10062246329378656022 tw6046614751505432733 tw47787712049897171 tw5677698070425307788 tw11875797976945369659 tw1643926250053053313 tw11357092201051267367 tw17581269208609741473 tw2701569954100981720 tw17650188237370114200 tw16176804785089507711 tw17711186591744490831 tw6322416571873395591 tw11116561747857104947 tw1852671812063300415 tw3987612567087343856 tw7173957057739954108 tw2544651943538444566 tw14699209402924903137 tw2545562146875715461 tw1036591624307272375 tw10379118131313954917 tw11208287761905884172 tw17842367748984052238 tw17411464402723727575 tw7431804167341143319 tw5555579216602775696 tw3548250271828239407 tw13475955536907881500 tw12487728129942496392 tw15963527863257231516 tw1280256507215934273 tw7388996250481599971 tw8023106471660438363 tw12159598412178824166 tw4033638944946286797 tw16823863200122488720 tw5359931245625642204 tw1235671932687294722 tw7848238658779078486 tw5891146803343318468 tw4668342458215321637 tw16378868394167504486 tw13203058088032264342 tw8511766554996684260 tw12733833087469415958 tw4656996236171124661 tw18425607831546009864 tw7237857460425411093 tw9608518074555113040 tw8696309264045804238 tw6952118792607460351 tw9162355191505327656 tw3258549366058716823 tw3438063710102003878 tw683235462394201072 tw15113286428388719146 tw2008044381420847412 tw17943873250720635961 tw6243852910737114016 tw17826267949124750689 tw18051321540360507916 tw9603367844871774308 tw9174485944835124529 tw2232177396889163241 tw18110657573776515803 tw4053001613320451601 tw7880248864164080298 tw11046423590089242602 tw14094503739628756703 tw13331836552394597311 tw18357533359768266973 tw3197175282639036400 tw9008105801883294969 tw11812443568302563120 tw9780670562212826703 tw1422575529324485600 tw15175613913296163476 tw18304448331182046788 tw11630361696356220270 tw7367231596257920254 tw12154233481377066303 tw1710934392979403629 tw199506759114029801 tw8088653914309832922 tw16090210690273151582 tw6101895578648049945 tw9417286728942966402 tw12530543517033281478 tw1873505549870005089 tw4342063808996302240 tw13745615832916075633 tw16502695925380174322 tw5862847233202092894 tw15052819938458986105 tw4085843031144463596 tw1549685575559389623 tw1304883295365412081 tw11918599640380908130 tw2147887176533674537 tw10617804592904151681 tw11303011796330786380 tw15964221210907597147 tw9270945037819235892 tw7707192872286311899 tw9141076711483199941 tw11469023093379205773 tw7096772855828065671 tw9094777841595373576 tw13933071451482572771 tw6414076592330974784 tw12319783722133656249 tw14505480515209086474 tw614897319526223468 tw15917168538790345228 tw1994628475905620602 tw10818306081412469551 tw12130905307725629751 tw10414424262158329257 tw3649681221061522901 tw18049207307509850910 tw5072864270631296046 tw7420107358849196031 tw15556527800233479416 tw7608071765300862734 tw8934695700032658458 tw3386275867308682404 tw12115959580745947501 tw5745092122541634708 tw10122286238211556915 tw13655002005273433785 tw374953338722046028 tw11067635551912957095 tw8703745091770109932 tw6677458407544891123 tw2946665343519404369 tw3606558080424514655 tw9303404911148092120 tw7562599002491416854 tw2768639508219978082 tw16194064320554781356 tw11903267632140747992 tw14272398538844425247 tw10660329258165563032 tw4951996726629250749 tw15414195705994312159 tw13779212628173819465 tw10617879697879138323 tw1891138180981842879 tw17802693382696277180 tw679413670309872750 tw9952290716655935387 tw657709636252534203 tw16521673489322848087 tw1413697411989909475 tw16289084734126038887 tw10756815679256785318 tw8607973792514591399 tw9762758689003719180 tw2656730286705990378 tw8184454603259319279 tw631364918915541106 tw8196108794039492391 tw6087090060787182356 tw9090562021745586714 tw12303650016052153938 tw10454750598689828102 tw7684013792736222066 tw579720745169387123 tw8122714071118518915 tw238499816505971118 tw723342885926239443 tw3084216307386962973 tw8991012104087334855 tw9301191442710278362 tw17298746342600575297 tw11295426015899948537 tw14677283305112001716 tw14548886088841044063 tw5946907055274741244 tw2782401275539542839 tw3593231466012857914 tw17278576233058481771 tw5165637744304935727 tw14717452730169883708 tw5931174928052641600 tw2364719073530134875 tw16952974007890959986 tw1867410379412885371 tw6334874775399496779 tw12380670303580816540 tw10265766978700203662 tw11287411590557681306 tw17689953969610740014 tw15895634592982830829 tw13679710968312891475 tw9059443249158942344 tw4464170646321796461 tw4876102210322827854 tw13084807881773697746 tw6256328338643321248 tw5721443249312883699 tw3786805218120928417 tw16384201560815985079 tw3925795312022771913 tw12035856955481419301 tw6596197690409682986 tw10264663331364350155 tw2096071432820201660 tw14077465184771115467 tw5030355624861722399 tw718835618267378644 tw18377613007725388042 tw14141847174087571804 tw8318742034143825023 tw4177457570017401905 tw14317024402160349615 tw5410263578792296805 tw7805546611221126346 tw16697464759686983886:True)
open PySem PySem.W PyProof.Rows
set_option maxRecDepth 100000 in
set_option maxHeartbeats 0 in
theorem PySem.Challenge.cw_moleculeparts_s06_place_holds : PySem.Challenge.rw_moleculeparts_s06_place.Holds := by
 w_on;k_headS;(case hw=>exact ⟨[.int 0,.list [],.list []],by decide +kernel,by decide +kernel⟩)
 k_fillS
 refine L2.NR (r:=PySem.Challenge.rw_moleculeparts_s06_place) (k:=12) (CX:=L2.m5) (ps:=["k","pattern","molecule"]) (sp:=MP.Nq) (by decide +kernel) rfl rfl ⟨rfl,by decide,by decide⟩ (fun w h Y=>PySem.W.kIn_of Y) ?F ?S (fun _ _ _ _ z=>z)
 case F=>
  intro w mg fa h Y KX G hmg;suffices TT:∃ (f:Addr) (t:MP.Ad),t.p8=f/\MP.Txt _ mg t by
   obtain ⟨f,t,e,T⟩:=TT;have e2:=hmg.symm.trans T.Pp;cases e2;refine ⟨t.yR,fun s us hu=>?_,fun base _ _=>MP.Sg T⟩;obtain ⟨oc,od,kV,doc,pm,an,cdv,ct,osl,ed,lk,hcd⟩:=T.yS.ex;rw [ed];exact match us,hu with | [_,_,_],_=>.of_eq rfl
  refine' ⟨_,?TT⟩;rotate_left;refine' MP.Zx KX G ..
  all_goals first | k_is | (apply MP.b5.mk<;>k_is) | (rw [<- Array.all_toList];rfl) | skip
 case S=>
  intro K H xs a hO hwi acK hx;cases hx with
  | cons h1 h2=>
   cases h2 with
   | cons h3 h4=>
    cases h4 with
    | cons h5 h6=>
     cases h6;cases h1 with
     | int i=>
      cases h3 with
      | lst hs ha=>
       cases h5 with
       | lst hs2 ha2=>
        have e:=L2.Ji a.2.1 _ ha;subst e;have e2:=L2.Ji a.2.2.1 _ ha2;subst e2;have q:(Codec.inInt 0 4294967295 a.1&&((Codec.inLen 0 6000 a.2.1&&a.2.1.all (Codec.inInt 0 255))&&((Codec.inLen 0 6000 a.2.2.1&&a.2.2.1.all (Codec.inInt 0 255))&&true)))=true:=hwi;rw [Bool.and_eq_true,Bool.and_eq_true,Bool.and_eq_true,Bool.and_eq_true,Bool.and_eq_true,List.all_eq_true,List.all_eq_true] at q;have hk:0<=a.1:=(Codec.inInt_iff.mp q.1).1;have XM:∀ z ∈ a.2.1,0<=z/\z<=255:=fun z hz=>Codec.inInt_iff.mp (q.2.1.2 z hz);have aat:∀ z ∈ a.2.2.1,0<=z/\z<=255:=fun z hz=>Codec.inInt_iff.mp (q.2.2.1.2 z hz);have hlen:=(Codec.inNat_iff.mp q.2.1.1).2;have hlen2:=(Codec.inNat_iff.mp q.2.2.1.1).2;rw [MP.UT a.2.1 XM] at hs;rw [MP.UT a.2.2.1 aat] at hs2;have few:=MP.Si a.1 a.2.1 a.2.2.1 hk XM aat acK;refine ⟨a.1.toNat,_,_,MP.bytesOf a.2.1,MP.bytesOf a.2.2.1,by rw [Int.toNat_of_nonneg hk],MP.US hO hs,MP.US hO hs2,by rw [MP.Dj];exact hlen,by rw [MP.Dj];exact hlen2,few.1,few.2.1,few.2.2,fun H' p hp=>?_⟩;have due:Codec.app PySem.Challenge.rw_moleculeparts_s06_place.args PySem.Challenge.rw_moleculeparts_s06_place.f a=MP.zc (MP.bytesOf a.2.1) (MP.bytesOf a.2.2.1) fun P M=>MP.Al a.1.toNat (Fk.places P M):=MP.Sh a.1 a.2.1 a.2.2.1 hk XM aat;rw [due];exact .lst (L2.bI.of hp) (L2.Pf _)
#print axioms PySem.Challenge.cw_moleculeparts_s06_place_holds
