import PyProof.Rows.All
import Wide.All
import OpenK.AllK
import Wide.FinOn
import PyProof.EqAt
import PyProof.EqKinds
import PyProof.TupleCall
import KE.BitLaws
import Open.SpecLaws
import KE.OsHead
import KE.OsGo
import PyProof.StationsW
import PyProof.RulesAs
import PyProof.PassesOwn
import PyProof.ExcClass
import PyProof.InstStoreFacts
import PyProof.InstLoad
import PyProof.ExcArgsOwn
import PyProof.ExcAttrAll.Exception
import PyProof.ExcBaseAll.Exception
import PyProof.ExcInit
import PySem.Challenge.RW_moleculeparts_s03_cut
set_option Elab.async false
set_option linter.all false
set_option maxRecDepth 100000
set_option maxHeartbeats 4000000
namespace L2
open PySem PySem.Spec PyProof.Rows
abbrev Key := Sum Int Str
def keyIs : Key → Value → Bool
  | .inl k, v => Value.isInt k v
  | .inr x, v => Value.isStrOf x v
def keyH (w : World) : Key → Int
  | .inl k => hashInt k
  | .inr x => hashStr w x
theorem keyIs_shape : ∀ {k : Key} {v : Value}, keyIs k v = true → (∃ i t, k = Sum.inl i ∧ v = Value.int i t) ∨ (∃ x t, k = Sum.inr x ∧ v = Value.str x t)
  | .inl i, v, h => by
    obtain ⟨t, e⟩ := Value.isInt_shape (k := i) (v := v) h
    exact .inl ⟨i, t, rfl, e⟩
  | .inr x, v, h => by
    obtain ⟨t, e⟩ := Value.isStrOf_shape (x := x) (v := v) h
    exact .inr ⟨x, t, rfl, e⟩
theorem keyIs_int (i : Int) (t : Tok) : keyIs (.inl i) (.int i t) = true := by simp [keyIs, Value.isInt]
theorem keyIs_str (x : Str) (t : Tok) : keyIs (.inr x) (.str x t) = true := by simp [keyIs, Value.isStrOf]
theorem key_ll (a b : Int) : decide ((Sum.inl a : Key) = Sum.inl b) = (a == b) := by
  by_cases e : a = b
  · subst e; simp
  · have h : ¬ (Sum.inl a : Key) = Sum.inl b := fun q => e (Sum.inl.inj q)
    rw [decide_eq_false h]
    exact (beq_eq_false_iff_ne.mpr e).symm
theorem key_rr (a b : Str) : decide ((Sum.inr a : Key) = Sum.inr b) = decide (a = b) := by
  by_cases e : a = b
  · subst e; simp
  · have h : ¬ (Sum.inr a : Key) = Sum.inr b := fun q => e (Sum.inr.inj q)
    rw [decide_eq_false h, decide_eq_false e]
theorem key_lr (a : Int) (b : Str) : decide ((Sum.inl a : Key) = Sum.inr b) = false := decide_eq_false (fun q => nomatch q)
theorem key_rl (a : Str) (b : Int) : decide ((Sum.inr a : Key) = Sum.inl b) = false := decide_eq_false (fun q => nomatch q)
def mixKind (prog : Program) (w : World) : PySem.KeyKind prog w Key where
  is := keyIs
  hash := keyH w
  inj := fun v a b ha hb => by
    rcases keyIs_shape ha with ⟨i, t, rfl, rfl⟩ | ⟨x, t, rfl, rfl⟩
    · rcases keyIs_shape hb with ⟨j, u, rfl, e⟩ | ⟨y, u, rfl, e⟩
      · injection e with e1 _; rw [e1]
      · exact nomatch e
    · rcases keyIs_shape hb with ⟨j, u, rfl, e⟩ | ⟨y, u, rfl, e⟩
      · exact nomatch e
      · injection e with e1 _; rw [e1]
  byValue := fun k v h => by
    rcases keyIs_shape h with ⟨i, t, rfl, rfl⟩ | ⟨x, t, rfl, rfl⟩ <;> rfl
  pyHash := fun hv h => by
    rcases keyIs_shape hv with ⟨i, t, rfl, rfl⟩ | ⟨x, t, rfl, rfl⟩
    · exact wpAny_pyHash_int h
    · exact wpAny_pyHash_str h
  eqBool := fun hu hv h => by
    rcases keyIs_shape hu with ⟨i, t, rfl, rfl⟩ | ⟨x, t, rfl, rfl⟩
    · rcases keyIs_shape hv with ⟨j, u, rfl, rfl⟩ | ⟨y, u, rfl, rfl⟩
      · rw [key_ll] at h; exact wpAny_eqBool_int h
      · rw [key_lr] at h; exact SeqAt.EqAt.int_str i t y u _ _ _ _ h
    · rcases keyIs_shape hv with ⟨j, u, rfl, rfl⟩ | ⟨y, u, rfl, rfl⟩
      · rw [key_rl] at h; exact SeqAt.EqAt.str_int x t j u _ _ _ _ h
      · rw [key_rr] at h; exact wpAny_eqBool_str h
  «strs» := fun k x t v h => by
    rcases keyIs_shape h with ⟨i, u, rfl, e⟩ | ⟨y, u, rfl, e⟩
    · exact nomatch e
    · injection e with e1 _
      subst e1
      cases v <;> rfl
theorem mixKind_int (prog : Program) (w : World) (i : Int) (t : Tok) : (mixKind prog w).is (.inl i) (.int i t) = true := keyIs_int i t
theorem mixKind_str (prog : Program) (w : World) (x : Str) (t : Tok) : (mixKind prog w).is (.inr x) (.str x t) = true := keyIs_str x t
end L2
namespace L2
open PySem PySem.Spec PyProof.Rows
inductive V where
  | non | bl (b : Bool) | int (i : Int) | str (x : Str) | byt (b : Array UInt8) | flt (b : UInt64) | ref (a : Addr) | ty (n : String)
  deriving DecidableEq
def RelV : V → Value → Prop
  | .non, u => u = Value.none
  | .bl b, u => u = Value.bool b
  | .int i, u => ∃ t, u = Value.int i t
  | .str x, u => ∃ t, u = Value.str x t
  | .byt b, u => ∃ t, u = Value.bytes b t
  | .flt b, u => ∃ t, u = Value.float b t
  | .ref a, u => u = Value.ref a
  | .ty n, u => u = Value.type n
abbrev Vals : List V → List Value → Prop := Paired RelV
theorem Vals.length {xs : List V} {us : List Value} (r : Vals xs us) : xs.length = us.length := Paired.length r
theorem Vals.get : ∀ {xs : List V} {us : List Value} {i : Nat} {x : V}, Vals xs us → xs[i]? = some x → ∃ u, us[i]? = some u ∧ RelV x u
  | _, _, _, _, .nil, e => by simp at e
  | _, _, 0, _, .cons r _, e => by simp at e; subst e; exact ⟨_, rfl, r⟩
  | _, _, i + 1, x, .cons _ t, e => by
    obtain ⟨u, h1, h2⟩ := Vals.get (i := i) (x := x) t (by simpa using e)
    exact ⟨u, by simpa using h1, h2⟩
theorem Vals.set {x : V} {u : Value} (r : RelV x u) : ∀ {xs : List V} {us : List Value} (i : Nat), Vals xs us → Vals (xs.set i x) (us.set i u)
  | _, _, _, .nil => .nil
  | _, _, 0, .cons _ t => .cons r t
  | _, _, i + 1, .cons q t => .cons q (Vals.set r i t)
theorem Vals.append : ∀ {xs ys : List V} {us ws : List Value}, Vals xs us → Vals ys ws → Vals (xs ++ ys) (us ++ ws)
  | _, _, _, _, .nil, s => s
  | _, _, _, _, .cons r t, s => .cons r (Vals.append t s)
theorem Vals.take : ∀ {xs : List V} {us : List Value} (n : Nat), Vals xs us → Vals (xs.take n) (us.take n)
  | _, _, 0, _ => .nil
  | _, _, _ + 1, .nil => .nil
  | _, _, n + 1, .cons r t => .cons r (Vals.take n t)
theorem Vals.drop : ∀ {xs : List V} {us : List Value} (n : Nat), Vals xs us → Vals (xs.drop n) (us.drop n)
  | _, _, 0, r => r
  | _, _, _ + 1, .nil => .nil
  | _, _, n + 1, .cons _ t => Vals.drop n t
def RelO : Option V → Option Value → Prop
  | some v, some u => RelV v u
  | none, none => True
  | _, _ => False
def KV {κ : Type} : List (κ × V) → List (κ × Value) → Prop := Paired fun (p : κ × V) (q : κ × Value) => p.1 = q.1 ∧ RelV p.2 q.2
def kV : Key → V
  | .inl i => .int i
  | .inr x => .str x
inductive HO where
  | lst (xs : List V)
  | tup (xs : List V)
  | dK (kvs : List (Key × V)) | dT (kvs : List (List Key × V))
  | set (S : Int → Bool) (n : Nat)
  | ins (C dx : Addr) (fs : List (Str × V))
  | own (x : Addr)
  | xd (fs : List (Str × V))
  | met (f x : Addr)
  | rng (lo hi : Int)
  | frz (o : Obj) (u : HO)
  | tbl (ps : Array Value)
  | ext (φ : Heap → Prop)
abbrev Hp := Addr → Option HO
def upd (H : Hp) (a : Addr) (o : HO) : Hp := fun b => if b = a then some o else H b
theorem upd_same {H : Hp} {a : Addr} {o : HO} : upd H a o a = some o := by unfold upd; rw [if_pos rfl]
theorem upd_ne {H : Hp} {a b : Addr} {o : HO} (h : b ≠ a) : upd H a o b = H b := by unfold upd; rw [if_neg h]
theorem upd_upd {H : Hp} {a : Addr} {o u : HO} : upd (upd H a o) a u = upd H a u := by
  funext b; unfold upd; split <;> rfl
theorem ne_of {H : Hp} {a b : Addr} {o u : HO} (h : H a = some o) (h' : H b = some u) (d : o ≠ u) : a ≠ b := by
  intro e; subst e; rw [h] at h'; exact d (Option.some.inj h')
theorem ne_of_none {H : Hp} {a b : Addr} {o : HO} (h : H a = some o) (h' : H b = none) : a ≠ b := by
  intro e; subst e; rw [h] at h'; cases h'
section
variable (P : Program) (w : World)
def ObjOk (H : Hp) (h : Heap) (a : Addr) : HO → Prop
  | .lst xs => xs.length ≤ sizeLine ∧ ∃ (its : List Value) (n : Nat), Vals xs its ∧ h.get? a = some { cls := .type "list", data := .seq its.toArray n }
  | .tup xs => xs.length ≤ sizeLine ∧ ∃ its : List Value, Vals xs its ∧ IsTup h a its.toArray
  | .dK kvs => kvs.length ≤ sizeLine ∧ (a == sysModules) = false ∧ ∃ vs, KV kvs vs ∧ h.DictOf (mixKind P w) a vs
  | .dT kvs => kvs.length ≤ sizeLine ∧ (a == sysModules) = false ∧ ∃ xs : List (List Key × Addr × Value),
      Paired (fun (p : List Key × V) (q : List Key × Addr × Value) => p.1 = q.1 ∧ H q.2.1 = some (.tup (p.1.map kV)) ∧ RelV p.2 q.2.2) kvs xs ∧
      ∃ o es ep, h.get? a = some o ∧ o.ExactDict ∧ o.data = .dict es ep ∧ es.toList = xs.map (entryOfKey (tupleKind (mixKind P w))) ∧ (xs.map (·.1)).Nodup
  | .set S n => h.SetOf (intKind P w) a S n
  | .ins C dx fs => H dx = some (.own a) ∧ fs.length ≤ 1000 ∧ dx ≠ a ∧ h.get? a = some (PySem.W.instObj C dx) ∧
      ∃ mA, h.Ns1 dx mA ∧ (∀ f, RelO (fs.lookup f) (mA f)) ∧ PySem.Within mA (fs.map (·.1))
  | .own _ => ∃ o, h.get? a = some o
  | .xd fs => ∃ mA, h.Ns1 a mA ∧ ∀ f, RelO (fs.lookup f) (mA f)
  | .rng lo hi => ∃ t u v, h.get? a = some { cls := .type "range", data := .fields #[.int lo t, .int hi u, .int 1 v] }
  | .frz o u => h.get? a = some o ∧ ObjOk H h a u
  | .tbl ps => h.get? a = some { cls := .none, data := .fields ps }
  | .met f x => h.get? a = some (PySem.W.methodObj (.ref f) (.ref x))
  | .ext φ => φ h ∧ (∃ o, h.get? a = some o) ∧ ∀ h1 h2 : Heap, φ h1 → (∀ o, h1.get? a = some o → h2.get? a = some o) → φ h2
def HOk (H : Hp) (h : Heap) : Prop := ∀ a o, H a = some o → ObjOk P w H h a o
end
section
variable {P : Program} {w : World} {H H' : Hp} {h h' : Heap} {a : Addr} {o : HO}
theorem ObjOk.lt (x : ObjOk P w H h a o) : a < h.objs.size := by
  cases o with
  | lst xs => obtain ⟨_, _, _, _, e⟩ := x; exact Heap.lt_size e
  | tup xs => obtain ⟨_, _, _, p⟩ := x; exact p.lt
  | dK kvs => obtain ⟨_, _, _, _, o, _, _, e, _⟩ := x; exact Heap.lt_size e
  | dT kvs => obtain ⟨_, _, _, _, o, _, _, e, _⟩ := x; exact Heap.lt_size e
  | set S n => obtain ⟨o, _, _, _, e, _⟩ := x; exact Heap.lt_size e
  | ins C dx fs => obtain ⟨_, _, _, e, _⟩ := x; exact Heap.lt_size e
  | own y => obtain ⟨_, e⟩ := x; exact Heap.lt_size e
  | xd fs => obtain ⟨_, ⟨_, _, _, e, _⟩, _⟩ := x; exact Heap.lt_size e
  | rng lo hi => obtain ⟨_, _, _, e⟩ := x; exact Heap.lt_size e
  | frz ob u => obtain ⟨e, _⟩ := x; exact Heap.lt_size e
  | tbl ps => exact Heap.lt_size (show h.get? a = some _ from x)
  | met f y => exact Heap.lt_size (show h.get? a = some _ from x)
  | ext φ => obtain ⟨_, ⟨_, e⟩, _⟩ := x; exact Heap.lt_size e
theorem Paired.mapP {α β : Type} {F G : α → β → Prop} : ∀ {l₁ : List α} {l₂ : List β}, Paired F l₁ l₂ → (∀ a b, F a b → G a b) → Paired G l₁ l₂
  | _, _, .nil, _ => .nil
  | _, _, .cons r t, f => .cons (f _ _ r) (Paired.mapP t f)
theorem ObjOk.stay (x : ObjOk P w H h a o) (k : ∀ b u, (b = a ∨ H b = some (.own a)) → h.get? b = some u → h'.get? b = some u)
    (ho : ∀ b, H b = some (.own a) → H' b = some (.own a)) (ht : ∀ b xs, H b = some (.tup xs) → H' b = some (.tup xs)) : ObjOk P w H' h' a o := by
  induction o with
  | lst xs => obtain ⟨z, its, n, r, e⟩ := x; exact ⟨z, its, n, r, k _ _ (.inl rfl) e⟩
  | tup xs => obtain ⟨z, its, r, ob, e, c⟩ := x; exact ⟨z, its, r, ob, k _ _ (.inl rfl) e, c⟩
  | dK kvs => obtain ⟨z, y, vs, r, ob, es, ep, e, c⟩ := x; exact ⟨z, y, vs, r, ob, es, ep, k _ _ (.inl rfl) e, c⟩
  | dT kvs =>
    obtain ⟨z, y, xs, r, ob, es, ep, e, c⟩ := x
    exact ⟨z, y, xs, Paired.mapP r fun p q z => ⟨z.1, ht _ _ z.2.1, z.2.2⟩, ob, es, ep, k _ _ (.inl rfl) e, c⟩
  | set S n => obtain ⟨ob, es, ep, t, e, c⟩ := x; exact ⟨ob, es, ep, t, k _ _ (.inl rfl) e, c⟩
  | ins C dx fs =>
    obtain ⟨d, z, ne, e, mA, ⟨od, es, ep, e2, c⟩, r⟩ := x
    exact ⟨ho _ d, z, ne, k _ _ (.inl rfl) e, mA, ⟨od, es, ep, k _ _ (.inr d) e2, c⟩, r⟩
  | own y => obtain ⟨ob, e⟩ := x; exact ⟨ob, k _ _ (.inl rfl) e⟩
  | xd fs => obtain ⟨mA, ⟨od, es, ep, e, c⟩, r⟩ := x; exact ⟨mA, ⟨od, es, ep, k _ _ (.inl rfl) e, c⟩, r⟩
  | rng lo hi => obtain ⟨t, u, v, e⟩ := x; exact ⟨t, u, v, k _ _ (.inl rfl) e⟩
  | frz ob u ih => obtain ⟨e, q⟩ := x; exact ⟨k _ _ (.inl rfl) e, ih q⟩
  | tbl ps =>
    have e : h.get? a = some { cls := .none, data := .fields ps } := x
    show h'.get? a = some { cls := .none, data := .fields ps }
    exact k a _ (.inl rfl) e
  | met f y =>
    have e : h.get? a = some (PySem.W.methodObj (.ref f) (.ref y)) := x
    show h'.get? a = some (PySem.W.methodObj (.ref f) (.ref y))
    exact k a _ (.inl rfl) e
  | ext φ => obtain ⟨p, ⟨o, e⟩, st⟩ := x; exact ⟨st _ _ p fun o q => k _ _ (.inl rfl) q, ⟨o, k _ _ (.inl rfl) e⟩, st⟩
theorem HOk.lt (x : HOk P w H h) (e : H a = some o) : a < h.objs.size := (x a o e).lt
theorem HOk.fresh (x : HOk P w H h) (e : h.objs.size ≤ a) : H a = none := by
  cases q : H a with
  | none => rfl
  | some u => exact absurd (Nat.lt_of_lt_of_le (x.lt q) e) (Nat.lt_irrefl _)
theorem HOk.kept (x : HOk P w H h) (k : ∀ b u, h.get? b = some u → h'.get? b = some u) : HOk P w H h' := fun a o e =>
  (x a o e).stay (fun b u _ q => k b u q) (fun _ q => q) fun _ _ q => q
theorem HOk.laid (x : HOk P w H h) (k : ∀ b u, h.get? b = some u → h'.get? b = some u) (hp : h.objs.size ≤ a) (new : ObjOk P w (upd H a o) h' a o) : HOk P w (upd H a o) h' := fun b u e => by
  have hn := x.fresh hp
  by_cases hb : b = a
  · subst hb; rw [upd_same] at e; cases e; exact new
  · rw [upd_ne hb] at e
    exact (x b u e).stay (fun c v _ q => k c v q) (fun c q => by rw [upd_ne (ne_of_none q hn)]; exact q) fun c xs q => by rw [upd_ne (ne_of_none q hn)]; exact q
end
def Rd (H : Hp) (a : Addr) (u : HO) : Prop := H a = some u ∨ ∃ o, H a = some (.frz o u)
theorem Rd.ok {P : Program} {w : World} {H : Hp} {h : Heap} {a : Addr} {u : HO} (r : Rd H a u) (x : HOk P w H h) : ObjOk P w H h a u := by
  rcases r with r | ⟨o, r⟩
  · exact x a u r
  · obtain ⟨_, q⟩ := x a _ r
    exact q
def Mut : Option HO → Prop
  | some (.lst _) => True
  | some (.dK _) => True
  | some (.dT _) => True
  | some (.set _ _) => True
  | some (.ins _ _ _) => True
  | some (.ext _) => True
  | _ => False
section
variable {P : Program} {w : World} {H : Hp} {h h' : Heap} {x e : Addr} {o' : HO}
theorem HOk.write (ok : HOk P w H h) (mu : Mut (H x)) (he : e = x ∨ H e = some (.own x)) (k : ∀ b u, b ≠ e → h.get? b = some u → h'.get? b = some u) (heo : ∃ u, h'.get? e = some u)
    (new : ObjOk P w (upd H x o') h' x o') : HOk P w (upd H x o') h' := fun b u q => by
  have nown : ∀ c y, H c = some (.own y) → c ≠ x := fun c y r z => by subst z; rw [r] at mu; exact mu
  have ntup : ∀ c xs, H c = some (.tup xs) → c ≠ x := fun c xs r z => by subst z; rw [r] at mu; exact mu
  by_cases hb : b = x
  · subst hb; rw [upd_same] at q; cases q; exact new
  · rw [upd_ne hb] at q
    by_cases hbe : b = e
    · have q' : H b = some (.own x) := by
        rcases he with z | z
        · exact absurd (hbe.trans z) hb
        · rw [hbe]; exact z
      rw [q] at q'; cases q'
      obtain ⟨v, hv⟩ := heo
      exact ⟨v, by rw [hbe]; exact hv⟩
    · refine (ok b u q).stay (fun c v hc r => k c v ?_ r) (fun c r => by rw [upd_ne (nown c b r)]; exact r) fun c xs r => by rw [upd_ne (ntup c xs r)]; exact r
      rcases hc with rfl | hc
      · exact hbe
      · rintro rfl
        rcases he with z | z
        · exact nown c b hc z
        · rw [hc] at z; cases z; exact hb rfl
end
structure Un (fs ex : List Addr) (H H' : Hp) (h h' : Heap) : Prop where
  keep : ∀ b o, h.get? b = some o → H b = none → b ∉ fs → b ∉ ex → h'.get? b = some o
  slot : ∀ b o, h.get? b = some o → H b = none → b ∈ fs → b ∉ ex → ∃ sl, h'.get? b = some { o with slots := sl }
  free : ∀ b o, h.get? b = some o → H b = none → b ∉ ex → H' b = none
  there : ∀ b o, h.get? b = some o → b ∉ ex → ∃ o', h'.get? b = some o'
  tups : ∀ b xs, H b = some (.tup xs) → H' b = some (.tup xs)
  frzs : ∀ b o u, H b = some (.frz o u) → H' b = some (.frz o u)
  tbls : ∀ b ps, H b = some (.tbl ps) → ∃ more, H' b = some (.tbl (ps ++ more))
section
variable {fs fs' ex ex' : List Addr} {H H1 H2 : Hp} {h h1 h2 h' : Heap} {a x e : Addr} {o : HO}
theorem Un.any (u : Un fs ex H H1 h h1) {b : Addr} {ob : Obj} (q : h.get? b = some ob) (n : H b = none) (hx : b ∉ ex) : ∃ sl, h1.get? b = some { ob with slots := sl } := by
  by_cases hb : b ∈ fs
  · exact u.slot b ob q n hb hx
  · exact ⟨ob.slots, u.keep b ob q n hb hx⟩
theorem Un.kept (k : ∀ b u, h.get? b = some u → h'.get? b = some u) : Un fs ex H H h h' :=
  ⟨fun b ob q _ _ _ => k b ob q, fun b ob q _ _ _ => ⟨ob.slots, k b ob q⟩, fun _ _ _ n _ => n, fun b ob q _ => ⟨ob, k b ob q⟩, fun _ _ q => q, fun _ _ _ q => q, fun _ ps q => ⟨#[], by rw [q]; simp⟩⟩
theorem Un.refl : Un fs ex H H h h := Un.kept fun _ _ q => q
theorem Un.laid (k : ∀ b u, h.get? b = some u → h'.get? b = some u) (hp : h.objs.size ≤ a) (hn : H a = none) : Un fs ex H (upd H a o) h h' where
  keep := fun b u q _ _ _ => k b u q
  slot := fun b u q _ _ _ => ⟨u.slots, k b u q⟩
  free := fun b u q n _ => by rw [upd_ne (Nat.ne_of_lt (Nat.lt_of_lt_of_le (Heap.lt_size q) hp))]; exact n
  there := fun b u q _ => ⟨u, k b u q⟩
  tups := fun b xs q => by rw [upd_ne (ne_of_none q hn)]; exact q
  frzs := fun b u xs q => by rw [upd_ne (ne_of_none q hn)]; exact q
  tbls := fun b ps q => ⟨#[], by rw [upd_ne (ne_of_none q hn), q]; simp⟩
theorem Un.write (mu : Mut (H x)) (he : e = x ∨ H e = some (.own x)) (k : ∀ b u, b ≠ e → h.get? b = some u → h'.get? b = some u) (heo : ∃ u, h'.get? e = some u) : Un fs ex H (upd H x o) h h' := by
  have hx : ∀ b, H b = none → b ≠ x := fun b n z => by subst z; rw [n] at mu; exact mu
  have hb : ∀ b, H b = none → b ≠ e := fun b n z => by
    subst z
    rcases he with r | r
    · exact hx b n r
    · rw [n] at r; cases r
  have hm : ∀ b u, H b = some u → ¬ Mut (some u) → b ≠ x := fun b u q nm z => by subst z; rw [q] at mu; exact nm mu
  refine ⟨fun b u q n _ _ => k b u (hb b n) q, fun b u q n _ _ => ⟨u.slots, k b u (hb b n) q⟩, fun b u q n _ => by rw [upd_ne (hx b n)]; exact n, fun b u q _ => ?_,
    fun b xs q => by rw [upd_ne (hm b _ q fun z => z)]; exact q, fun b u xs q => by rw [upd_ne (hm b _ q fun z => z)]; exact q, fun b ps q => ⟨#[], by rw [upd_ne (hm b _ q fun z => z), q]; simp⟩⟩
  by_cases hbe : b = e
  · subst hbe; exact heo
  · exact ⟨u, k b u hbe q⟩
end
def trk (h : Heap) (H : Hp) : List Addr := (List.range h.objs.size).filter fun a => (H a).isSome
def hidT (h : Heap) (H : Hp) : Heap := PySem.W.hideAll h (trk h H)
theorem hidT_size (h : Heap) (H : Hp) : (hidT h H).objs.size = h.objs.size := PySem.W.hideAll_size _ _
theorem hidT_get {h : Heap} {H : Hp} {b : Addr} {o : Obj} (e : h.get? b = some o) (n : H b = none) : (hidT h H).get? b = some o :=
  PySem.W.hideAll_get _ e fun hm => by
    have q : (H b).isSome = true := (List.mem_filter.mp hm).2
    rw [n] at q; simp at q
theorem of_hidT {h : Heap} {H : Hp} {b : Addr} {o : Obj} (e : (hidT h H).get? b = some o) : h.get? b = some o ∧ H b = none := by
  have e' : h.get? b = some o := PySem.W.of_hideAll (trk h H) e
  refine ⟨e', ?_⟩
  cases q : H b with
  | none => rfl
  | some x =>
    have hm : b ∈ trk h H := List.mem_filter.mpr ⟨List.mem_range.mpr (Heap.lt_size e'), by simp [q]⟩
    have z : (hidT h H).get? b = none := PySem.W.hideAll_none (trk h H) hm
    rw [z] at e; cases e
end L2
namespace L2
open PySem PySem.Spec PyProof.Rows
structure Mod (K : PySem.W.Frag) (mg : Str → Option Value) (base : Heap) : Prop where
  kin : K.In base
  glob : base.Ns mainGlobals mg
  blt : ∃ mb, base.Ns builtinsNs mb ∧ ∀ x : Str, x ≠ "__name__" → mb x = bootBuiltins x
  nolimit : base.NoLimit
structure Cx where
  prog : Program
  w : World
  K : PySem.W.Frag
  mg : Str → Option Value
  base : Heap
  A : Around
  N : List Str
  s_0 : Shared
  H_0 : Hp
  env : Env
  outer : List Env
  stack : List Env
  ex : List Addr
  fn : Str → Bool
  calm : Bool
  pn : List (Addr × Obj)
  xe : Value → Shared → Prop
def frs (l : List Env) : List Addr := l.filterMap (·.frame)
abbrev Cx.fs (X : Cx) : List Addr := frs X.outer
def Vis (sc : Scope) (x : Str) : Prop := sc.names.lookup x = some .local ∨ sc.names.lookup x = some .cell ∨ sc.names.lookup x = some .free
def Loc (sc : Scope) (x : Str) : Prop := sc.names.lookup x = some .local ∨ sc.names.lookup x = some .cell
def Look (env : Env) (h : Heap) (m : Str → Option Value) (x : Str) (u : Value) : Prop :=
  (env.kindOf x = some .local ∧ m x = some u) ∨ ((env.kindOf x = some .cell ∨ env.kindOf x = some .free) ∧ ∃ c, env.cells.lookup x = some c ∧ h.IsCell c (some u))
structure Cx.Ok (X : Cx) : Prop where
  mod : Mod X.K X.mg X.base
  kind : X.env.scope.kind = .function
  glob : X.env.globals = mainGlobals
  blt : X.env.builtins = builtinsNs
  above : X.s_0.heap.objs.size ≤ X.env.locals
  inj : ∀ x y c, X.env.cells.lookup x = some c → X.env.cells.lookup y = some c → x = y
  has : ∀ x, (X.env.kindOf x = some .cell ∨ X.env.kindOf x = some .free) → ∃ c, X.env.cells.lookup x = some c
  cab : ∀ x c, X.fn x = true → X.env.cells.lookup x = some c → X.s_0.heap.objs.size ≤ c
  hd : X.calm = true → X.A.handled = none
  frames : X.A.frames = some X.stack
  stk : X.stack = X.outer ∨ (X.stack = X.env :: X.outer ∧ X.env.frame = some X.env.locals)
  exf : ∀ b ∈ X.ex, b ≠ X.env.locals ∧ ∀ x c, X.env.cells.lookup x = some c → c ≠ b
  bs : ∀ b o, X.base.get? b = some o → X.s_0.heap.get? b = some o ∧ X.H_0 b = none
  bsz : X.base.objs.size ≤ X.s_0.heap.objs.size
  noex : ∀ b o, X.base.get? b = some o → b ∉ X.ex
  exfs : ∀ b ∈ X.ex, b ∉ X.fs
  funs : X.s_0.heap.FunFrames X.base X.outer
  frf : ∀ b ∈ X.fs, X.H_0 b = none
structure Inv (X : Cx) (pins : List (Addr × Obj)) (σ : List (Option V)) (H : Hp) (s : Shared) : Prop where
  ok : X.Ok
  os : s.os = X.s_0.os
  bare : AllBare s.gens
  base : Un X.fs X.ex X.H_0 H X.s_0.heap s.heap
  loc : ∃ m, s.heap.Ns X.env.locals m ∧ ∀ (i : Nat) (x : Str) (v : V), X.N[i]? = some x → σ[i]? = some (some v) → Vis X.env.scope x → ∃ u, RelV v u ∧ Look X.env s.heap m x u
  cell : ∀ x c, X.env.cells.lookup x = some c → ∃ v, s.heap.IsCell c v
  free : H X.env.locals = none
  freeC : ∀ x c, X.env.cells.lookup x = some c → H c = none
  pin : ∀ p ∈ X.pn ++ pins, s.heap.get? p.1 = some p.2 ∧ H p.1 = none ∧ p.1 ≠ X.env.locals ∧ p.1 ∉ X.fs ∧ ∀ v, p.2.data ≠ .cell v
  hok : HOk X.prog X.w H s.heap
  len : σ.length = X.N.length
section
variable {X : Cx} {pins : List (Addr × Obj)} {σ : List (Option V)} {H H' : Hp} {s : Shared} {h' : Heap}
theorem Cx.Ok.nofr (ok : X.Ok) {b : Addr} {o : Obj} (e : X.base.get? b = some o) : b ∉ X.fs := fun hb => by
  have := (ok.funs.mem hb).1
  rw [e] at this; cases this
theorem Inv.bs (I : Inv X pins σ H s) : ∀ b o, X.base.get? b = some o → s.heap.get? b = some o ∧ H b = none := fun b o e =>
  ⟨I.base.keep b o (I.ok.bs b o e).1 (I.ok.bs b o e).2 (I.ok.nofr e) (I.ok.noex b o e), I.base.free b o (I.ok.bs b o e).1 (I.ok.bs b o e).2 (I.ok.noex b o e)⟩
theorem Inv.bk (I : Inv X pins σ H s) : ∀ b o, X.base.get? b = some o → s.heap.get? b = some o := fun b o e => (I.bs b o e).1
theorem Inv.mod (I : Inv X pins σ H s) : Mod X.K X.mg X.base := I.ok.mod
theorem Inv.kIn (I : Inv X pins σ H s) : X.K.In s.heap := I.ok.mod.kin.keeps I.bk
theorem Inv.lt (I : Inv X pins σ H s) : X.env.locals < s.heap.objs.size := let ⟨_, hn, _⟩ := I.loc; hn.lt
theorem Inv.sz (I : Inv X pins σ H s) : X.s_0.heap.objs.size ≤ s.heap.objs.size := Nat.le_trans I.ok.above (Nat.le_of_lt I.lt)
theorem Inv.nofs (I : Inv X pins σ H s) {a : Addr} (h : s.heap.objs.size ≤ a) : a ∉ X.fs := fun hb => by
  obtain ⟨_, o, ho, _⟩ := I.ok.funs.mem hb
  exact absurd (Nat.lt_of_lt_of_le (Heap.lt_size ho) (Nat.le_trans I.sz h)) (Nat.lt_irrefl _)
theorem Inv.cne (I : Inv X pins σ H s) : ∀ x c, X.env.cells.lookup x = some c → c ≠ X.env.locals := fun x c e z => by
  obtain ⟨v, o, ho, hd⟩ := I.cell x c e
  obtain ⟨m, ⟨o', es, ep, ho', hd', _⟩, _⟩ := I.loc
  rw [z, ho'] at ho; cases ho; rw [hd'] at hd; cases hd
theorem Inv.funs (I : Inv X pins σ H s) : s.heap.FunFrames X.base X.outer := by
  have all : ∀ (l : List Env), (∀ b ∈ frs l, b ∈ X.fs) → X.s_0.heap.FunFrames X.base l → s.heap.FunFrames X.base l := by
    intro l
    induction l with
    | nil => intro _ _; trivial
    | cons env r ih =>
      intro hs hl
      obtain ⟨hk, ⟨L, o, hf, hn, ho, hd⟩, hr⟩ := hl
      have hL : L ∈ X.fs := hs L (by unfold frs; rw [List.filterMap_cons, hf]; exact List.mem_cons_self)
      obtain ⟨sl, e⟩ := I.base.slot L o ho (I.ok.frf L hL) hL fun z => I.ok.exfs L z hL
      exact ⟨hk, ⟨L, _, hf, hn, e, hd⟩, ih (fun b hb => hs b (by unfold frs; rw [List.filterMap_cons, hf]; exact List.mem_cons_of_mem _ hb)) hr⟩
  exact all X.outer (fun _ hb => hb) I.ok.funs
theorem Inv.stack (I : Inv X pins σ H s) : s.heap.FunFrames X.base X.stack := by
  rcases I.ok.stk with e | ⟨e, hf⟩
  · rw [e]; exact I.funs
  · rw [e]
    obtain ⟨m, hn, _⟩ := I.loc
    refine .cons (by rw [I.ok.kind]; decide) hf hn ?_ I.funs
    exact Heap.get?_none_of_le (Nat.le_trans I.ok.bsz I.ok.above)
theorem Inv.stkSub (I : Inv X pins σ H s) : ∀ b ∈ frs X.stack, b ∈ X.env.locals :: X.fs := fun b hb => by
  rcases I.ok.stk with e | ⟨e, hf⟩
  · rw [e] at hb; exact List.mem_cons_of_mem _ hb
  · rw [e] at hb
    unfold frs at hb
    rw [List.filterMap_cons, hf] at hb
    exact hb
theorem Inv.stkFree (I : Inv X pins σ H s) : ∀ b ∈ frs X.stack, H b = none := fun b hb => by
  rcases List.mem_cons.mp (I.stkSub b hb) with e | hb
  · rw [e]; exact I.free
  · obtain ⟨_, o, ho, _⟩ := I.ok.funs.mem hb
    exact I.base.free b o ho (I.ok.frf b hb) fun z => I.ok.exfs b z hb
theorem Inv.step {g' : Array GenState} {t' : Nat} {d' : Drawn} {ch : List Addr} (I : Inv X pins σ H s)
    (hch : ∀ b ∈ ch, (b ∈ X.ex ∨ X.s_0.heap.objs.size ≤ b) ∧ b ≠ X.env.locals ∧ (∀ x c, X.env.cells.lookup x = some c → c ≠ b) ∧ ∀ p ∈ X.pn ++ pins, p.1 ≠ b)
    (keep : ∀ b o, b ≠ X.env.locals → b ∉ X.fs → b ∉ ch → s.heap.get? b = some o → H b = none → h'.get? b = some o)
    (slot : ∀ b o, b ≠ X.env.locals → b ∈ X.fs → b ∉ ch → s.heap.get? b = some o → H b = none → ∃ sl, h'.get? b = some { o with slots := sl }) (free : ∀ b o, b ∉ ch → s.heap.get? b = some o → H b = none → H' b = none)
    (there : ∀ b o, b ∉ ch → s.heap.get? b = some o → ∃ o', h'.get? b = some o')
    (tups : ∀ b xs, H b = some (.tup xs) → H' b = some (.tup xs)) (frzs : ∀ b o u, H b = some (.frz o u) → H' b = some (.frz o u)) (tbls : ∀ b ps, H b = some (.tbl ps) → ∃ more, H' b = some (.tbl (ps ++ more)))
    (ns : ∀ m, s.heap.Ns X.env.locals m → h'.Ns X.env.locals m) (hok : HOk X.prog X.w H' h') (hg : AllBare g') :
    Inv X pins σ H' { s with heap := h', gens := g', drawn := d', toks := t' } := by
  have neL : ∀ b o, X.s_0.heap.get? b = some o → b ≠ X.env.locals := fun b o e => Nat.ne_of_lt (Nat.lt_of_lt_of_le (Heap.lt_size e) I.ok.above)
  have neC : ∀ b o, X.s_0.heap.get? b = some o → b ∉ X.ex → b ∉ ch := fun b o e hx hb => by
    rcases (hch b hb).1 with z | z
    · exact hx z
    · exact absurd (Nat.lt_of_lt_of_le (Heap.lt_size e) z) (Nat.lt_irrefl _)
  have cellK : ∀ x c, X.env.cells.lookup x = some c → ∀ v, s.heap.IsCell c v → h'.IsCell c v := fun x c e v ⟨o, ho, hd⟩ => by
    have nch : c ∉ ch := fun z => (hch c z).2.2.1 x c e rfl
    by_cases hc : c ∈ X.fs
    · obtain ⟨sl, q⟩ := slot c o (I.cne x c e) hc nch ho (I.freeC x c e)
      exact ⟨_, q, hd⟩
    · exact ⟨o, keep c o (I.cne x c e) hc nch ho (I.freeC x c e), hd⟩
  refine ⟨I.ok, I.os, hg, ⟨fun b o e n hb hx => ?_, fun b o e n hb hx => ?_, fun b o e n hx => ?_, fun b o e hx => ?_, fun b xs e => tups b xs (I.base.tups b xs e), fun b o xs e => frzs b o xs (I.base.frzs b o xs e), fun b ps e => ?_⟩, ?_, fun x c e => ?_, ?_, fun x c e => ?_, fun p hp => ?_, hok, I.len⟩
  · exact keep b o (neL b o e) hb (neC b o e hx) (I.base.keep b o e n hb hx) (I.base.free b o e n hx)
  · obtain ⟨sl, e1⟩ := I.base.slot b o e n hb hx
    obtain ⟨sl', e2⟩ := slot b _ (neL b o e) hb (neC b o e hx) e1 (I.base.free b o e n hx)
    exact ⟨sl', e2⟩
  · obtain ⟨o', e1⟩ := I.base.there b o e hx
    exact free b o' (neC b o e hx) e1 (I.base.free b o e n hx)
  · obtain ⟨o', e1⟩ := I.base.there b o e hx
    exact there b o' (neC b o e hx) e1
  · obtain ⟨m1, e1⟩ := I.base.tbls b ps e
    obtain ⟨m2, e2⟩ := tbls b _ e1
    exact ⟨m1 ++ m2, by rw [e2, Array.append_assoc]⟩
  · obtain ⟨m, hn, hl⟩ := I.loc
    refine ⟨m, ns m hn, fun i x v e1 e2 e3 => ?_⟩
    obtain ⟨u, r, l⟩ := hl i x v e1 e2 e3
    refine ⟨u, r, ?_⟩
    rcases l with l | ⟨k, c, e, z⟩
    · exact .inl l
    · exact .inr ⟨k, c, e, cellK x c e _ z⟩
  · obtain ⟨v, z⟩ := I.cell x c e
    exact ⟨v, cellK x c e v z⟩
  · obtain ⟨m, ⟨o, _, _, ho, _⟩, _⟩ := I.loc
    exact free _ o (fun z => (hch _ z).2.1 rfl) ho I.free
  · obtain ⟨v, o, ho, hd⟩ := I.cell x c e
    exact free c o (fun z => (hch c z).2.2.1 x c e rfl) ho (I.freeC x c e)
  · obtain ⟨e, n, ne, nf, d⟩ := I.pin p hp
    have nch : p.1 ∉ ch := fun z => (hch p.1 z).2.2.2 p hp rfl
    exact ⟨keep p.1 p.2 ne nf nch e n, free p.1 p.2 nch e n, ne, nf, d⟩
theorem Inv.un {t' : Nat} (I : Inv X pins σ H s) (u : Un X.fs [] H H' s.heap h') (hok : HOk X.prog X.w H' h') : Inv X pins σ H' { s with heap := h', toks := t' } := by
  obtain ⟨m, ⟨o, es, ep, ho, r⟩, _⟩ := id I.loc
  obtain ⟨sl, hL⟩ := u.any ho I.free (by simp)
  exact I.step (g' := s.gens) (d' := s.drawn) (ch := []) (fun _ z => nomatch z) (fun b o _ hb _ e n => u.keep b o e n hb (by simp)) (fun b o _ hb _ e n => u.slot b o e n hb (by simp)) (fun b o _ e n => u.free b o e n (by simp)) (fun b o _ e => u.there b o e (by simp)) u.tups u.frzs u.tbls (fun m' hm => by
    obtain ⟨o', es', ep', ho', r'⟩ := hm
    rw [ho] at ho'; cases ho'
    exact ⟨_, es', ep', hL, r'⟩) hok I.bare
theorem Inv.call {g' : Array GenState} {t' : Nat} {d' : Drawn} {ch : List Addr} (I : Inv X pins σ H s) (u : Un (frs X.stack) ch H H' s.heap h') (hok : HOk X.prog X.w H' h') (hg : AllBare g')
    (hch : ∀ b ∈ ch, (b ∈ X.ex ∨ X.s_0.heap.objs.size ≤ b) ∧ b ≠ X.env.locals ∧ (∀ x c, X.env.cells.lookup x = some c → c ≠ b) ∧ ∀ p ∈ X.pn ++ pins, p.1 ≠ b) :
    Inv X pins σ H' { s with heap := h', gens := g', drawn := d', toks := t' } := by
  obtain ⟨m, ⟨o, es, ep, ho, r⟩, _⟩ := id I.loc
  obtain ⟨sl, hL⟩ := u.any ho I.free fun z => (hch _ z).2.1 rfl
  exact I.step (ch := ch) hch (fun b o hL hb hc e n => u.keep b o e n (fun z => (List.mem_cons.mp (I.stkSub b z)).elim hL hb) hc) (fun b o _ _ hc e n => u.any e n hc) (fun b o hc e n => u.free b o e n hc) (fun b o hc e => u.there b o e hc) u.tups u.frzs u.tbls (fun m' hm => by
    obtain ⟨o', es', ep', ho', r'⟩ := hm
    rw [ho] at ho'; cases ho'
    exact ⟨_, es', ep', hL, r'⟩) hok hg
theorem Inv.turned {t' : Nat} {it : Addr} (I : Inv X pins σ H s) (k : ∀ b o, b ≠ it → s.heap.get? b = some o → h'.get? b = some o) (hn : H it = none) (hL : it ≠ X.env.locals)
    (h1 : it ∈ X.ex ∨ X.s_0.heap.objs.size ≤ it) (h2 : ∀ x c, X.env.cells.lookup x = some c → c ≠ it) (h3 : ∀ p ∈ X.pn ++ pins, p.1 ≠ it) : Inv X pins σ H { s with heap := h', toks := t' } := by
  have nit : ∀ b u, H b = some u → b ≠ it := fun b u e z => by rw [z, hn] at e; cases e
  refine I.step (g' := s.gens) (d' := s.drawn) (ch := [it]) (fun b hb => ?_) (fun b o _ _ hc e _ => k b o (fun z => hc (by simp [z])) e) (fun b o _ _ hc e _ => ⟨o.slots, k b o (fun z => hc (by simp [z])) e⟩) (fun _ _ _ _ n => n)
    (fun b o hc e => ⟨o, k b o (fun z => hc (by simp [z])) e⟩) (fun _ _ e => e) (fun _ _ _ e => e) (fun b ps e => ⟨#[], by rw [e]; simp⟩) (fun m hm => ?_) (fun b u e => ?_) I.bare
  · have e : b = it := by simpa using hb
    subst e
    exact ⟨h1, hL, h2, h3⟩
  · obtain ⟨o, es, ep, ho, r⟩ := hm
    exact ⟨o, es, ep, k _ o (Ne.symm hL) ho, r⟩
  · refine (I.hok b u e).stay (fun c v hc q => k c v ?_ q) (fun _ q => q) fun _ _ q => q
    rcases hc with z | z
    · rw [z]; exact nit b u e
    · exact nit c _ z
theorem Inv.tok (I : Inv X pins σ H s) (t : Nat) : Inv X pins σ H { s with toks := t } := I.un (h' := s.heap) (t' := t) Un.refl I.hok
theorem Inv.kept {t' : Nat} (I : Inv X pins σ H s) (k : ∀ b u, s.heap.get? b = some u → h'.get? b = some u) : Inv X pins σ H { s with heap := h', toks := t' } := I.un (Un.kept k) (I.hok.kept k)
theorem Inv.laid {a : Addr} {o : HO} {t' : Nat} (I : Inv X pins σ H s) (k : ∀ b u, s.heap.get? b = some u → h'.get? b = some u) (hp : s.heap.objs.size ≤ a) (new : ObjOk X.prog X.w (upd H a o) h' a o) :
    Inv X pins σ (upd H a o) { s with heap := h', toks := t' } := I.un (Un.laid k hp (I.hok.fresh hp)) (I.hok.laid k hp new)
theorem Inv.write {x e : Addr} {o : HO} {t' : Nat} (I : Inv X pins σ H s) (mu : Mut (H x)) (he : e = x ∨ H e = some (.own x)) (k : ∀ b u, b ≠ e → s.heap.get? b = some u → h'.get? b = some u) (heo : ∃ u, h'.get? e = some u)
    (new : ObjOk X.prog X.w (upd H x o) h' x o) : Inv X pins σ (upd H x o) { s with heap := h', toks := t' } := I.un (Un.write mu he k heo) (I.hok.write mu he k heo new)
theorem Inv.weak {σ' : List (Option V)} (I : Inv X pins σ H s) (hl : σ'.length = σ.length) (w : ∀ (i : Nat) v, σ'[i]? = some (some v) → σ[i]? = some (some v)) : Inv X pins σ' H s :=
  ⟨I.ok, I.os, I.bare, I.base, let ⟨m, hn, hl'⟩ := I.loc; ⟨m, hn, fun i x v e1 e2 e3 => hl' i x v e1 (w i v e2) e3⟩, I.cell, I.free, I.freeC, I.pin, I.hok, hl.trans I.len⟩
theorem Inv.pins_of {pins' : List (Addr × Obj)} (I : Inv X pins σ H s) (h : ∀ p ∈ pins', s.heap.get? p.1 = some p.2 ∧ H p.1 = none ∧ p.1 ≠ X.env.locals ∧ p.1 ∉ X.fs ∧ ∀ v, p.2.data ≠ .cell v) : Inv X pins' σ H s :=
  ⟨I.ok, I.os, I.bare, I.base, I.loc, I.cell, I.free, I.freeC, fun p hp => (List.mem_append.mp hp).elim (fun z => I.pin p (List.mem_append_left _ z)) (h p), I.hok, I.len⟩
theorem nodup_ix {N : List Str} (hN : N.Nodup) {i j : Nat} {x : Str} (a : N[i]? = some x) (b : N[j]? = some x) : i = j := by
  obtain ⟨h1, e1⟩ := List.getElem?_eq_some_iff.mp a
  obtain ⟨h2, e2⟩ := List.getElem?_eq_some_iff.mp b
  exact (List.getElem_inj hN).mp (e1.trans e2.symm)
theorem store_ok2 {M : Model} {A : Around} {E : Value → Shared → Prop} {i : Nat} {x : Str} {v : V} {u : Value} {Q : Unit → Shared → Prop} (I : Inv X pins σ H s) (hN : X.N.Nodup) (hi : X.N[i]? = some x) (hx : Loc X.env.scope x) (r : RelV v u)
    (h : ∀ s', Inv X pins (σ.set i (some v)) H s' → (∃ a, Heap.SameBut a s.heap s'.heap ∧ (a = X.env.locals ∨ X.env.cells.lookup x = some a)) → Q () s') (hf : X.fn x = true ∨ X.env.scope.names.lookup x = some .local := by first | exact .inl rfl | exact .inr rfl | assumption) : wpAny M A (storeName X.env x u) Q E s := by
  obtain ⟨m, hn, hl⟩ := id I.loc
  have hcls : (X.env.scope.kind == .class || (X.env.scope.kind == .module && X.env.locals != X.env.globals)) = false := by rw [I.ok.kind]; rfl
  have hiσ : i < σ.length := by rw [I.len]; exact (List.getElem?_eq_some_iff.mp hi).1
  have cne := I.cne
  have tracked : ∀ {a : Addr} {h' : Heap}, (∃ o, s.heap.get? a = some o ∧ H a = none) → Heap.SameBut a s.heap h' → HOk X.prog X.w H h' := fun {a h'} ha hs b ob e => by
    obtain ⟨_, _, hfree⟩ := ha
    refine (I.hok b ob e).stay (fun c w' hc q => (hs.2 c ?_).trans q) (fun _ q => q) fun _ _ q => q
    rintro rfl
    rcases hc with rfl | hc
    · rw [hfree] at e; cases e
    · rw [hfree] at hc; cases hc
  rcases hx with hk | hk
  · refine wpAny_storeName_local hk hn (fun h' hn' hs => ?_) hcls
    obtain ⟨oL, _, _, hoL, _⟩ := id hn
    refine h _ ⟨I.ok, I.os, I.bare, ⟨fun b o e n hb hx => ?_, fun b o e n hb hx => ?_, I.base.free, fun b o e hx => ?_, I.base.tups, I.base.frzs, I.base.tbls⟩, ⟨_, hn', fun j y v' e1 e2 e3 => ?_⟩, fun y c e => ?_, I.free, I.freeC, fun p hp => ?_, tracked ⟨oL, hoL, I.free⟩ hs, by simpa using I.len⟩ ⟨_, hs, .inl rfl⟩
    · exact (hs.2 b (Nat.ne_of_lt (Nat.lt_of_lt_of_le (Heap.lt_size e) I.ok.above))).trans (I.base.keep b o e n hb hx)
    · obtain ⟨sl, e1⟩ := I.base.slot b o e n hb hx
      exact ⟨sl, (hs.2 b (Nat.ne_of_lt (Nat.lt_of_lt_of_le (Heap.lt_size e) I.ok.above))).trans e1⟩
    · obtain ⟨o', e1⟩ := I.base.there b o e hx
      exact ⟨o', (hs.2 b (Nat.ne_of_lt (Nat.lt_of_lt_of_le (Heap.lt_size e) I.ok.above))).trans e1⟩
    · by_cases hj : j = i
      · subst hj
        rw [hi] at e1; cases e1
        rw [List.getElem?_set_self hiσ] at e2
        cases e2
        exact ⟨u, r, .inl ⟨hk, by simp⟩⟩
      · rw [List.getElem?_set_ne (Ne.symm hj)] at e2
        obtain ⟨u', r', q⟩ := hl j y v' e1 e2 e3
        refine ⟨u', r', ?_⟩
        rcases q with ⟨k, e⟩ | ⟨k, c, e, z⟩
        · refine .inl ⟨k, ?_⟩
          have : y ≠ x := fun e => hj (nodup_ix hN e1 (e ▸ hi))
          simp [this, e]
        · exact .inr ⟨k, c, e, z.sameBut hs (cne y c e)⟩
    · obtain ⟨w', z⟩ := I.cell y c e
      exact ⟨w', z.sameBut hs (cne y c e)⟩
    · obtain ⟨e, n, ne, nf, d⟩ := I.pin p hp
      exact ⟨(hs.2 p.1 ne).trans e, n, ne, nf, d⟩
  · have hfn : X.fn x = true := by
      rcases hf with z | z
      · exact z
      · rw [z] at hk; cases hk
    obtain ⟨c, hc⟩ := I.ok.has x (.inl hk)
    obtain ⟨w', z⟩ := I.cell x c hc
    refine wpAny_storeName_cell I.ok.kind hk hc z (fun h' hc' hs => ?_)
    obtain ⟨oc, hoc, hocd⟩ := id z
    refine h { s with heap := h' } ⟨I.ok, I.os, I.bare, ⟨fun b o e n hb hx => ?_, fun b o e n hb hx => ?_, I.base.free, fun b o e hx => ?_, I.base.tups, I.base.frzs, I.base.tbls⟩, ⟨m, hn.sameBut hs (Ne.symm (cne x c hc)), fun j y v' e1 e2 e3 => ?_⟩, fun y c' e => ?_, I.free, I.freeC, fun p hp => ?_, tracked ⟨oc, hoc, I.freeC x c hc⟩ hs, by simpa using I.len⟩ ⟨c, hs, .inr hc⟩
    · exact (hs.2 b (Nat.ne_of_lt (Nat.lt_of_lt_of_le (Heap.lt_size e) (I.ok.cab x c hfn hc)))).trans (I.base.keep b o e n hb hx)
    · obtain ⟨sl, e1⟩ := I.base.slot b o e n hb hx
      exact ⟨sl, (hs.2 b (Nat.ne_of_lt (Nat.lt_of_lt_of_le (Heap.lt_size e) (I.ok.cab x c hfn hc)))).trans e1⟩
    · obtain ⟨o', e1⟩ := I.base.there b o e hx
      exact ⟨o', (hs.2 b (Nat.ne_of_lt (Nat.lt_of_lt_of_le (Heap.lt_size e) (I.ok.cab x c hfn hc)))).trans e1⟩
    · by_cases hj : j = i
      · subst hj
        rw [hi] at e1; cases e1
        rw [List.getElem?_set_self hiσ] at e2
        cases e2
        exact ⟨u, r, .inr ⟨.inl hk, c, hc, hc'⟩⟩
      · rw [List.getElem?_set_ne (Ne.symm hj)] at e2
        obtain ⟨u', r', q⟩ := hl j y v' e1 e2 e3
        refine ⟨u', r', ?_⟩
        rcases q with q | ⟨k, c', e, z'⟩
        · exact .inl q
        · refine .inr ⟨k, c', e, z'.sameBut hs ?_⟩
          rintro rfl
          exact hj (nodup_ix hN e1 (I.ok.inj _ _ _ e hc ▸ hi))
    · by_cases hcc : c' = c
      · subst hcc; exact ⟨_, hc'⟩
      · obtain ⟨w2, z2⟩ := I.cell y c' e
        exact ⟨w2, z2.sameBut hs hcc⟩
    · obtain ⟨e, n, ne, nf, d⟩ := I.pin p hp
      refine ⟨(hs.2 p.1 ?_).trans e, n, ne, nf, d⟩
      intro q
      rw [q, hoc] at e
      have q' : oc = p.2 := Option.some.inj e
      exact d w' (by rw [← q']; exact hocd)
theorem store_ok {M : Model} {A : Around} {E : Value → Shared → Prop} {i : Nat} {x : Str} {v : V} {u : Value} {Q : Unit → Shared → Prop} (I : Inv X pins σ H s) (hN : X.N.Nodup) (hi : X.N[i]? = some x) (hx : Loc X.env.scope x) (r : RelV v u)
    (h : ∀ s', Inv X pins (σ.set i (some v)) H s' → Q () s') (hf : X.fn x = true ∨ X.env.scope.names.lookup x = some .local := by first | exact .inl rfl | exact .inr rfl | assumption) : wpAny M A (storeName X.env x u) Q E s :=
  store_ok2 I hN hi hx r (fun s' I' _ => h s' I') hf
theorem Inv.call' {s' : Shared} {ch : List Addr} (I : Inv X pins σ H s) (ho : s'.os = s.os) (u : Un (frs X.stack) ch H H' s.heap s'.heap) (hok : HOk X.prog X.w H' s'.heap) (hg : AllBare s'.gens)
    (hch : ∀ b ∈ ch, (b ∈ X.ex ∨ X.s_0.heap.objs.size ≤ b) ∧ b ≠ X.env.locals ∧ (∀ x c, X.env.cells.lookup x = some c → c ≠ b) ∧ ∀ p ∈ X.pn ++ pins, p.1 ≠ b) : Inv X pins σ H' s' := by
  obtain ⟨h', g', d', t', o'⟩ := s'
  have e : o' = s.os := ho
  subst e
  exact I.call (g' := g') (t' := t') (d' := d') u hok hg hch
end
abbrev XK := Value → Option Addr → Hp → Prop
abbrev St := List (Option V)
abbrev VK := V → Hp → Prop
abbrev TE := St → Hp → VK → Prop
abbrev TT := St → Hp → (Bool → Hp → Prop) → Prop
abbrev TA := St → Hp → (List V → Hp → Prop) → Prop
structure Ends where
  nx : St → Hp → Prop
  rt : VK
  bk : St → Hp → Prop := fun _ _ => False
  ct : St → Hp → Prop := fun _ _ => False
abbrev TS := Ends → St → Hp → Prop
def EP (X : Cx) (pins : List (Addr × Obj)) (σ : St) (Q : VK) (u : Value) (s' : Shared) : Prop := ∃ v H', Inv X pins σ H' s' ∧ RelV v u ∧ Q v H'
def TP (X : Cx) (pins : List (Addr × Obj)) (σ : St) (Q : Bool → Hp → Prop) (b : Bool) (s' : Shared) : Prop := ∃ H', Inv X pins σ H' s' ∧ Q b H'
def AP (X : Cx) (pins : List (Addr × Obj)) (σ : St) (Q : List V → Hp → Prop) (us : List Value) (s' : Shared) : Prop := ∃ vs H', Inv X pins σ H' s' ∧ Vals vs us ∧ Q vs H'
def SP (X : Cx) (pins : List (Addr × Obj)) (D : Ends) (f : Flow) (s' : Shared) : Prop :=
  match f with
  | .next => ∃ σ' H', Inv X pins σ' H' s' ∧ D.nx σ' H'
  | .brk => ∃ σ' H', Inv X pins σ' H' s' ∧ D.bk σ' H'
  | .cont => ∃ σ' H', Inv X pins σ' H' s' ∧ D.ct σ' H'
  | .ret u => ∃ v σ' H', Inv X pins σ' H' s' ∧ RelV v u ∧ D.rt v H'
def PE (X : Cx) (e : Expr) (t : TE) : Prop :=
  ∀ (pins : List (Addr × Obj)) (s : Shared) (σ : St) (H : Hp) (Q : VK), Inv X pins σ H s → t σ H Q → wpAny (model X.prog X.w) X.A (eval e X.env) (EP X pins σ Q) X.xe s
def PT (X : Cx) (e : Expr) (t : TT) : Prop :=
  ∀ (pins : List (Addr × Obj)) (s : Shared) (σ : St) (H : Hp) (Q : Bool → Hp → Prop), Inv X pins σ H s → t σ H Q → wpAny (model X.prog X.w) X.A (isTrue e X.env (eval e X.env)) (TP X pins σ Q) X.xe s
def PW (X : Cx) (e : Expr) (t : TT) : Prop :=
  ∀ (whole : Sem Value) (pins : List (Addr × Obj)) (s : Shared) (σ : St) (H : Hp) (Q : Bool → Hp → Prop), Inv X pins σ H s → t σ H Q → wpAny (model X.prog X.w) X.A (isTrue e X.env whole) (TP X pins σ Q) X.xe s
theorem PW.pt {X : Cx} {e : Expr} {t : TT} (h : PW X e t) : PT X e t := h _
def PA (X : Cx) (es : List Expr) (t : TA) : Prop :=
  ∀ (pos : Pos) (pins : List (Addr × Obj)) (s : Shared) (σ : St) (H : Hp) (Q : List V → Hp → Prop), Inv X pins σ H s → t σ H Q → wpAny (model X.prog X.w) X.A (spliced (backTo pos (starEach es X.env))) (AP X pins σ Q) X.xe s
def PS (X : Cx) (st : Stmt) (t : TS) : Prop :=
  ∀ (pins : List (Addr × Obj)) (s : Shared) (σ : St) (H : Hp) (D : Ends), Inv X pins σ H s → t D σ H → wpAny (model X.prog X.w) X.A (exec st X.env) (SP X pins D) X.xe s
def PSs (X : Cx) (st : List Stmt) (t : TS) : Prop :=
  ∀ (pins : List (Addr × Obj)) (s : Shared) (σ : St) (H : Hp) (D : Ends), Inv X pins σ H s → t D σ H → wpAny (model X.prog X.w) X.A (execs st X.env) (SP X pins D) X.xe s
theorem thn {α : Type} {t : Sem α} {Q Q' : α → Shared → Prop} {M : Model} {A : Around} {E : Value → Shared → Prop} {s : Shared} (h : wpAny M A t Q E s) (hQ : ∀ a s, Q a s → Q' a s) : wpAny M A t Q' E s := wpAny_mono h hQ fun _ _ x => x
end L2
namespace L2
open PySem PySem.Spec PyProof.Rows
section
variable {X : Cx}
def tVar (i : Nat) : TE := fun σ H Q => ∃ v, σ[i]? = some (some v) ∧ Q v H
def tC (v : V) : TE := fun _ H Q => Q v H
theorem pe_var {i : Nat} {x : Str} {pos : Pos} (hN : X.N[i]? = some x) (hv : Vis X.env.scope x) (hd : (x == ("__debug__" : Str)) = false := by decide) (hcd : (x == ("__classdict__" : Str)) = false := by decide) : PE X (.Name x pos) (tVar i) := by
  intro pins s σ H Q I h
  obtain ⟨v, e, h⟩ := h
  obtain ⟨m, hn, hl⟩ := I.loc
  obtain ⟨u, r, l⟩ := hl i x v hN e hv
  have fin : EP X pins σ Q u s := ⟨v, H, I, r, h⟩
  rcases l with ⟨hk, hm⟩ | ⟨hk, c, hc, hcell⟩
  · exact wpAny_Name (wpAny_loadName_local I.ok.kind hk hn hm fin) hd
  · rcases hk with hk | hk
    · exact wpAny_Name (wpAny_loadName_cell I.ok.kind hk hc hcell fin) hd
    · exact wpAny_Name (wpAny_loadName_free I.ok.kind hk hc hcell fin hcd) hd
theorem pe_int {i j pos} : PE X (.Constant (.int i) j pos) (tC (.int i)) := fun _ _ _ H _ I h => wpAny_Constant_int ⟨.int i, H, I.tok _, ⟨_, rfl⟩, h⟩
theorem pe_bl {b j pos} : PE X (.Constant (.bool b) j pos) (tC (.bl b)) := fun _ _ _ H _ I h => Constant_bool ⟨.bl b, H, I, rfl, h⟩
def Gl (X : Cx) (x : Str) : Prop := X.env.kindOf x = some .globalImplicit
theorem ld_glob {E : Value → Shared → Prop} {pins : List (Addr × Obj)} {s : Shared} {σ : St} {H : Hp} {x : Str} {u : Value} {pos : Pos} {Q : Value → Shared → Prop} (I : Inv X pins σ H s) (hg : Gl X x) (hm : X.mg x = some u) (h : Q u s)
    (hd : (x == ("__debug__" : Str)) = false := by decide) : wpAny (model X.prog X.w) X.A (eval (.Name x pos) X.env) Q E s :=
  Calls.Name_function_global I.ok.kind hg (Calls.loadGlobal_global (by rw [I.ok.glob]; exact I.mod.glob.keeps I.bk) hm h) hd
theorem ld_blt {E : Value → Shared → Prop} {pins : List (Addr × Obj)} {s : Shared} {σ : St} {H : Hp} {x : Str} {u : Value} {pos : Pos} {Q : Value → Shared → Prop} (I : Inv X pins σ H s) (hg : Gl X x) (hm : X.mg x = none) (hv : bootBuiltins x = some u) (h : Q u s)
    (hn : x ≠ "__name__" := by decide) (hd : (x == ("__debug__" : Str)) = false := by decide) : wpAny (model X.prog X.w) X.A (eval (.Name x pos) X.env) Q E s := by
  obtain ⟨mb, h1, h2⟩ := I.mod.blt
  exact Calls.Name_function_global I.ok.kind hg (Calls.loadGlobal_builtin (by rw [I.ok.glob]; exact I.mod.glob.keeps I.bk) hm (by rw [I.ok.blt]; exact h1.keeps I.bk) ((h2 x hn).trans hv) h) hd
theorem pe_glob {x : Str} {v : V} {u : Value} {pos : Pos} (hg : Gl X x) (hm : X.mg x = some u) (r : RelV v u) (hd : (x == ("__debug__" : Str)) = false := by decide) : PE X (.Name x pos) (tC v) :=
  fun _ _ _ H _ I h => ld_glob I hg hm ⟨v, H, I, r, h⟩ hd
variable {a b : Expr} {ta tb : TE} {pos : Pos}
def PC (X : Cx) (op : CmpOp) (a b : Expr) (t : TE) : Prop :=
  ∀ (pins : List (Addr × Obj)) (s : Shared) (σ : St) (H : Hp) (Q : VK), Inv X pins σ H s → t σ H Q →
    wpAny (model X.prog X.w) X.A (eval a X.env) (fun v s₁ => wpAny (model X.prog X.w) X.A (eval b X.env) (fun u s₂ => wpAny (model X.prog X.w) X.A (compareOp op v u) (EP X pins σ Q) X.xe s₂) X.xe s₁) X.xe s
def tB (t : TE) : TT := fun σ H Q => t σ H fun x H1 => ∃ c, x = .bl c ∧ Q c H1
theorem pt_cmp {op : CmpOp} {t : TE} (h : PC X op a b t) (h1 : behindInMarks op b = false := by first | exact nobehind _ (by decide) (by decide) | rfl) : PT X (.Compare a [op] [b] pos) (tB t) := by
  intro pins s σ H Q I hw
  refine wpAny_isTrue_Compare1 (thn (h pins s σ H _ I hw) fun v s1 h1 => thn h1 fun u s2 h2 => thn h2 fun c s3 ⟨x, H1, I1, r1, q1⟩ => ?_) h1
  obtain ⟨d, rfl, q⟩ := q1
  cases r1
  exact wpAny_truthy_bool ⟨H1, I1, q⟩
theorem pt_val {e : Expr} {t : TE} (h : PE X e t) (he : ∀ whole, isTrue e X.env whole = (do let v ← whole; standAt e.pos; holding [v] (truthy v)) := by intro _; rfl) : PT X e (tB t) := by
  intro pins s σ H Q I hw
  refine isTrue_plain (thn (h pins s σ H _ I hw) fun v s1 ⟨x, H1, I1, r1, q1⟩ => ?_) (he _)
  obtain ⟨d, rfl, q⟩ := q1
  cases r1
  exact wpAny_truthy_bool ⟨H1, I1, q⟩
variable {tA tB' : TT} {rest : List Expr}
def tAnd (t u : TT) : TT := fun σ H Q => t σ H fun c H1 => if c = true then u σ H1 Q else Q false H1
def tOr (t u : TT) : TT := fun σ H Q => t σ H fun c H1 => if c = true then Q true H1 else u σ H1 Q
def tNot (t : TT) : TT := fun σ H Q => t σ H fun c H1 => Q (!c) H1
theorem pw_and1 (ha : PT X a tA) : PW X (.BoolOp .And [a] pos) tA := by
  intro wh pins s σ H Q I h
  refine isTrue_and (thn (ha pins s σ H Q I h) fun c s1 e => ?_)
  cases c with
  | true => exact isTrue_and_nil e
  | false => exact e
theorem pw_or1 (ha : PT X a tA) : PW X (.BoolOp .Or [a] pos) tA := by
  intro wh pins s σ H Q I h
  refine isTrue_or (thn (ha pins s σ H Q I h) fun c s1 e => ?_)
  cases c with
  | false => exact isTrue_or_nil e
  | true => exact e
theorem pw_and (ha : PT X a tA) (hb : PW X (.BoolOp .And (b :: rest) pos) tB') : PW X (.BoolOp .And (a :: b :: rest) pos) (tAnd tA tB') := by
  intro wh pins s σ H Q I h
  refine isTrue_and (thn (ha pins s σ H _ I h) fun c s1 ⟨H1, I1, q1⟩ => ?_)
  cases c with
  | true => exact hb wh pins s1 σ H1 Q I1 q1
  | false => exact ⟨H1, I1, q1⟩
theorem pw_or (ha : PT X a tA) (hb : PW X (.BoolOp .Or (b :: rest) pos) tB') : PW X (.BoolOp .Or (a :: b :: rest) pos) (tOr tA tB') := by
  intro wh pins s σ H Q I h
  refine isTrue_or (thn (ha pins s σ H _ I h) fun c s1 ⟨H1, I1, q1⟩ => ?_)
  cases c with
  | true => exact ⟨H1, I1, q1⟩
  | false => exact hb wh pins s1 σ H1 Q I1 q1
theorem pt_not (ha : PT X a tA) : PT X (.UnaryOp .Not a pos) (tNot tA) := by
  intro pins s σ H Q I h
  exact isTrue_not (ha pins s σ H (fun c H1 => Q (!c) H1) I h)
def tAndV (ta tb : TE) : TE := fun σ H Q => ta σ H fun x H1 => ∃ c, x = .bl c ∧ if c = true then tb σ H1 Q else Q (.bl false) H1
theorem pe_one {op} {t : TE} (h : PE X a t) : PE X (.BoolOp op [a] pos) t := fun pins s σ H Q I hw => BoolOp_one (h pins s σ H Q I hw)
theorem pe_and (ha : PE X a ta) (hb : PE X (.BoolOp .And (b :: rest) pos) tb) : PE X (.BoolOp .And (a :: b :: rest) pos) (tAndV ta tb) := by
  intro pins s σ H Q I h
  refine BoolOp_and (thn (ha pins s σ H _ I h) fun v s1 ⟨x, H1, I1, r1, q1⟩ => ?_)
  obtain ⟨c, rfl, q1⟩ := q1
  cases r1
  refine wpAny_truthy_bool ?_
  cases c with
  | true => exact hb pins s1 σ H1 Q I1 q1
  | false => exact ⟨.bl false, H1, I1, rfl, q1⟩
end
end L2
namespace L2
open PySem PySem.Spec PyProof.Rows
def SqL (K : PySem.W.Frag) (H : Hp) (a : Addr) (xs : List V) : Prop :=
  Rd H a (.lst xs) ∨
    ∃ (o : Obj) (its : Array Value) (n : Nat), K.lookup a = some o ∧ o.cls = .type "list" ∧ o.dict = none ∧ o.data = .seq its n ∧ its.size ≤ sizeLine ∧ Vals xs its.toList
def SqT (K : PySem.W.Frag) (H : Hp) (a : Addr) (xs : List V) : Prop :=
  Rd H a (.tup xs) ∨
    ∃ (o : Obj) (its : Array Value) (n : Nat), K.lookup a = some o ∧ o.cls = .type "tuple" ∧ o.data = .seq its n ∧ its.size ≤ sizeLine ∧ Vals xs its.toList
def absV : Value → Option V
  | .none => some .non
  | .bool b => some (.bl b)
  | .int i _ => some (.int i)
  | .str x _ => some (.str x)
  | .bytes b _ => some (.byt b)
  | .float b _ => some (.flt b)
  | .ref a => some (.ref a)
  | .type n => some (.ty n)
  | _ => none
theorem RelV.abs {x : V} {u : Value} (r : RelV x u) : absV u = some x := by
  cases x with
  | non => cases r; rfl
  | bl _ => cases r; rfl
  | int _ => obtain ⟨t, rfl⟩ := r; rfl
  | str _ => obtain ⟨t, rfl⟩ := r; rfl
  | byt _ => obtain ⟨t, rfl⟩ := r; rfl
  | flt _ => obtain ⟨t, rfl⟩ := r; rfl
  | ref _ => cases r; rfl
  | ty _ => cases r; rfl
theorem RelV.inj {x y : V} {u : Value} (r : RelV x u) (q : RelV y u) : x = y := Option.some.inj (r.abs.symm.trans q.abs)
theorem Vals.inj : ∀ {xs ys : List V} {us : List Value}, Vals xs us → Vals ys us → xs = ys
  | _, _, _, .nil, .nil => rfl
  | _, _, _, .cons r t, .cons r' t' => by rw [r.inj r', Vals.inj t t']
section
variable {X : Cx} {pins : List (Addr × Obj)} {σ : St} {H : Hp} {s : Shared} {a : Addr} {xs ys : List V}
theorem SqL.of {K : PySem.W.Frag} (h : H a = some (.lst xs)) : SqL K H a xs := .inl (.inl h)
theorem SqT.of {K : PySem.W.Frag} (h : H a = some (.tup xs)) : SqT K H a xs := .inl (.inl h)
theorem Inv.list (I : Inv X pins σ H s) (h : SqL X.K H a xs) : ∃ its : List Value, Vals xs its ∧ PlainL s.heap a its.toArray ∧ xs.length ≤ sizeLine := by
  rcases h with h | ⟨o, its, n, hk, hc, hd, hs, hz, r⟩
  · obtain ⟨z, its, n, r, e⟩ := h.ok I.hok
    exact ⟨its, r, ⟨_, n, e, rfl, rfl, rfl⟩, z⟩
  · refine ⟨its.toList, r, ⟨o, n, I.kIn a o hk, hc, hd, by simpa using hs⟩, ?_⟩
    have e := r.length
    simp only [Array.length_toList] at e
    omega
theorem Inv.tuple (I : Inv X pins σ H s) (h : SqT X.K H a xs) : ∃ its : List Value, Vals xs its ∧ IsTup s.heap a its.toArray ∧ xs.length ≤ sizeLine := by
  rcases h with h | ⟨o, its, n, hk, hc, hs, hz, r⟩
  · obtain ⟨z, its, r, p⟩ := h.ok I.hok
    exact ⟨its, r, p, z⟩
  · refine ⟨its.toList, r, ⟨o, I.kIn a o hk, hc, n, by simpa using hs⟩, ?_⟩
    have e := r.length
    simp only [Array.length_toList] at e
    omega
theorem Inv.list_inj (I : Inv X pins σ H s) (h : SqL X.K H a xs) (h' : SqL X.K H a ys) : xs = ys := by
  obtain ⟨its, r, ⟨o, n, e, _, _, d⟩, _⟩ := I.list h
  obtain ⟨its', r', ⟨o', n', e', _, _, d'⟩, _⟩ := I.list h'
  rw [e] at e'; cases e'
  rw [d] at d'
  injection d' with d1 _
  have : its = its' := by simpa using congrArg Array.toList d1
  subst this
  exact r.inj r'
theorem Inv.tuple_inj (I : Inv X pins σ H s) (h : SqT X.K H a xs) (h' : SqT X.K H a ys) : xs = ys := by
  obtain ⟨its, r, ⟨o, e, _, n, d⟩, _⟩ := I.tuple h
  obtain ⟨its', r', ⟨o', e', _, n', d'⟩, _⟩ := I.tuple h'
  rw [e] at e'; cases e'
  rw [d] at d'
  injection d' with d1 _
  have : its = its' := by simpa using congrArg Array.toList d1
  subst this
  exact r.inj r'
end
abbrev Cx.wish (X : Cx) (E : Value → Shared → Prop) : Cx := { X with xe := E }
abbrev Cx.nox (X : Cx) : Cx := X.wish fun _ _ => False
theorem Cx.Ok.wish {X : Cx} (ok : X.Ok) (E : Value → Shared → Prop) : (X.wish E).Ok :=
  ⟨ok.mod, ok.kind, ok.glob, ok.blt, ok.above, ok.inj, ok.has, ok.cab, ok.hd, ok.frames, ok.stk, ok.exf, ok.bs, ok.bsz, ok.noex, ok.exfs, ok.funs, ok.frf⟩
theorem Cx.Ok.unwish {X : Cx} {E : Value → Shared → Prop} (ok : (X.wish E).Ok) : X.Ok :=
  ⟨ok.mod, ok.kind, ok.glob, ok.blt, ok.above, ok.inj, ok.has, ok.cab, ok.hd, ok.frames, ok.stk, ok.exf, ok.bs, ok.bsz, ok.noex, ok.exfs, ok.funs, ok.frf⟩
section
variable {X : Cx} {pins : List (Addr × Obj)} {σ : St} {H : Hp} {s : Shared} {E : Value → Shared → Prop}
theorem Inv.wish (I : Inv X pins σ H s) (E : Value → Shared → Prop) : Inv (X.wish E) pins σ H s := ⟨I.ok.wish E, I.os, I.bare, I.base, I.loc, I.cell, I.free, I.freeC, I.pin, I.hok, I.len⟩
theorem Inv.unwish (I : Inv (X.wish E) pins σ H s) : Inv X pins σ H s := ⟨I.ok.unwish, I.os, I.bare, I.base, I.loc, I.cell, I.free, I.freeC, I.pin, I.hok, I.len⟩
theorem SP.unwish {D : Ends} {f : Flow} {s' : Shared} (h : SP (X.wish E) pins D f s') : SP X pins D f s' := by
  cases f with
  | next => obtain ⟨σ', H', I, q⟩ := h; exact ⟨σ', H', I.unwish, q⟩
  | brk => obtain ⟨σ', H', I, q⟩ := h; exact ⟨σ', H', I.unwish, q⟩
  | cont => obtain ⟨σ', H', I, q⟩ := h; exact ⟨σ', H', I.unwish, q⟩
  | ret u => obtain ⟨v, σ', H', I, r, q⟩ := h; exact ⟨v, σ', H', I.unwish, r, q⟩
theorem PSs.nox {st : List Stmt} {t : TS} (h : PSs X.nox st t) : PSs X st t := fun pins s σ H D I hw =>
  wpAny_mono (h pins s σ H D (I.wish _) hw) (fun _ _ q => q.unwish) fun _ _ z => False.elim z
end
section
variable {X : Cx} {st : Stmt} {rest : List Stmt} {t u : TS} {e : Expr} {te : TE} {pos : Pos}
def tNext : TS := fun D σ H => D.nx σ H
def tSeq (t u : TS) : TS := fun D σ H => t { D with nx := u D } σ H
theorem pss_nil : PSs X [] tNext := fun _ _ σ H _ I h => wpAny_execs_nil ⟨σ, H, I, h⟩
theorem pss_cons (h1 : PS X st t) (h2 : PSs X rest u) : PSs X (st :: rest) (tSeq t u) := by
  intro pins s σ H D I h
  refine wpAny_execs_cons (thn (h1 pins s σ H { D with nx := u D } I h) fun f s1 q => ?_)
  cases f with
  | next =>
    obtain ⟨σ', H', I', q⟩ := q
    exact h2 pins s1 σ' H' D I' q
  | ret v => exact q
  | brk => exact q
  | cont => exact q
theorem pss_one (h1 : PS X st t) : PSs X [st] t := by
  intro pins s σ H D I h
  refine wpAny_execs_cons (thn (h1 pins s σ H D I h) fun f s1 q => ?_)
  cases f with
  | next => exact wpAny_execs_nil q
  | ret v => exact q
  | brk => exact q
  | cont => exact q
theorem Inv.quiet {pins : List (Addr × Obj)} {σ : St} {H : Hp} {s : Shared} (I : Inv X pins σ H s) : interactive X.env = false := by simp [interactive, I.ok.kind]
def tDrop (te : TE) : TS := fun D σ H => te σ H fun _ H1 => D.nx σ H1
theorem ps_expr (he : PE X e te) (hs : swapsWith e none pos.line X.env = pure false := by rfl) : PS X (.Expr e pos) (tDrop te) := by
  intro pins s σ H D I h
  exact wpAny_Expr_any (thn (he pins s σ H _ I h) fun v s1 ⟨x, H1, I1, r1, q1⟩ => ⟨σ, H1, I1, q1⟩) I.quiet hs
def tRet (te : TE) : TS := fun D σ H => te σ H D.rt
theorem ps_ret (he : PE X e te) : PS X (.Return (some e) pos) (tRet te) := by
  intro pins s σ H D I h
  exact wpAny_Return_some (thn (he pins s σ H _ I h) fun v s1 ⟨x, H1, I1, r1, q1⟩ => ⟨x, σ, H1, I1, r1, q1⟩)
def tIfS (c : TT) (t u : TS) : TS := fun D σ H => c σ H fun b H1 => if b = true then t D σ H1 else u D σ H1
theorem ps_if {c : Expr} {a b : List Stmt} {tc : TT} (hc : PT X c tc) (ha : PSs X a t) (hb : PSs X b u) : PS X (.If c a b pos) (tIfS tc t u) := by
  intro pins s σ H D I h
  refine wpAny_If (thn (hc pins s σ H _ I h) fun d s1 ⟨H1, I1, q1⟩ => ?_)
  cases d with
  | true => exact ha pins s1 σ H1 D I1 q1
  | false => exact hb pins s1 σ H1 D I1 q1
end
abbrev TG := V → St → Hp → (St → Hp → Prop) → Prop
abbrev TGs := List V → St → Hp → (St → Hp → Prop) → Prop
def PG (X : Cx) (target : Expr) (t : TG) : Prop :=
  ∀ (pins : List (Addr × Obj)) (s : Shared) (σ : St) (H : Hp) (v : V) (u : Value) (Q : St → Hp → Prop), Inv X pins σ H s → RelV v u → t v σ H Q →
    wpAny (model X.prog X.w) X.A (assign target X.env u) (fun _ s' => ∃ σ' H', Inv X pins σ' H' s' ∧ Q σ' H') X.xe s
def PGs (X : Cx) (ts : List Expr) (t : TGs) : Prop :=
  ∀ (pins : List (Addr × Obj)) (s : Shared) (σ : St) (H : Hp) (vs : List V) (us : List Value) (Q : St → Hp → Prop), Inv X pins σ H s → Vals vs us → t vs σ H Q →
    wpAny (model X.prog X.w) X.A (assignInOrder ((assignEach ts X.env).map (·.2)) us) (fun _ s' => ∃ σ' H', Inv X pins σ' H' s' ∧ Q σ' H') X.xe s
abbrev TSet := V → V → V → Hp → (Hp → Prop) → Prop
def PSet (X : Cx) (t : TSet) : Prop :=
  ∀ (pins : List (Addr × Obj)) (s : Shared) (σ : St) (H : Hp) (o i v : V) (ov iv u : Value) (Q : Hp → Prop), Inv X pins σ H s → RelV o ov → RelV i iv → RelV v u → t o i v H Q →
    wpAny (model X.prog X.w) X.A (setItem ov iv u) (fun _ s' => ∃ H', Inv X pins σ H' s' ∧ Q H') X.xe s
abbrev TIp := V → V → Hp → VK → Prop
def PIp (X : Cx) (op : Operator) (t : TIp) : Prop :=
  ∀ (pins : List (Addr × Obj)) (s : Shared) (σ : St) (H : Hp) (x y : V) (v u : Value) (Q : VK), Inv X pins σ H s → RelV x v → RelV y u → t x y H Q →
    wpAny (model X.prog X.w) X.A (inplaceOp op v u) (EP X pins σ Q) X.xe s
section
variable {X : Cx} {pos : Pos}
def gName (i : Nat) : TG := fun v σ H Q => Q (σ.set i (some v)) H
theorem pg_name {i : Nat} {x : Str} (hN : X.N.Nodup) (hi : X.N[i]? = some x) (hx : Loc X.env.scope x) (hf : X.fn x = true ∨ X.env.scope.names.lookup x = some .local := by first | exact .inl rfl | exact .inr rfl | assumption) : PG X (.Name x pos) (gName i) := by
  intro pins s σ H v u Q I r h
  exact wpAny_assign_Name (store_ok I hN hi hx r (fun s' I' => ⟨_, H, I', h⟩) hf)
def gNil : TGs := fun vs σ H Q => vs = [] ∧ Q σ H
def gCons (t : TG) (u : TGs) : TGs := fun vs σ H Q => ∃ v r, vs = v :: r ∧ t v σ H fun σ' H' => u r σ' H' Q
theorem pgs_nil : PGs X [] gNil := by
  intro pins s σ H vs us Q I r h
  obtain ⟨e, h⟩ := h
  subst e
  cases r
  exact assignInOrder_nil ⟨σ, H, I, h⟩
theorem pgs_cons {e : Expr} {es : List Expr} {t : TG} {u : TGs} (h1 : PG X e t) (h2 : PGs X es u)
    (hs : (assignEach (e :: es) X.env).map (·.2) = assign e X.env :: (assignEach es X.env).map (·.2) := by rfl) : PGs X (e :: es) (gCons t u) := by
  intro pins s σ H vs us Q I r h
  obtain ⟨v, vr, e1, h⟩ := h
  subst e1
  cases r with
  | cons r rr =>
    rw [hs]
    refine assignInOrder_cons (thn (h1 pins s σ H _ _ _ I r h) fun _ s1 ⟨σ1, H1, I1, q1⟩ => ?_)
    exact h2 pins s1 σ1 H1 _ _ Q I1 rr q1
def gTup (K : PySem.W.Frag) (n : Nat) (t : TGs) : TG := fun v σ H Q => ∃ a xs, v = .ref a ∧ SqT K H a xs ∧ xs.length = n ∧ t xs σ H Q
theorem pg_tup {es : List Expr} {k : Nat} {t : TGs} {n : Nat} (hc : X.calm = true) (h : PGs X es t)
    (hn : (assignEach es X.env).length = n := by rfl) (hst : (assignEach es X.env).findIdx? (·.1) = none := by rfl) : PG X (.Tuple es k pos) (gTup X.K n t) := by
  intro pins s σ H v u Q I r hw
  obtain ⟨a, xs, e1, hq, hl, hw⟩ := hw
  subst e1
  cases r
  obtain ⟨its, rv, ht, hz⟩ := I.tuple hq
  refine assign_Tuple_tuple (I.ok.hd hc) ht (by simp [hn, ← hl, rv.length]) hst fun h' hx => ?_
  have I1 : Inv X pins σ H { s with heap := h' } := I.kept (t' := s.toks) fun b o e => hx b o (Nat.ne_of_lt (Heap.lt_size e)) e
  exact h pins _ σ H xs _ Q I1 (by simpa using rv) hw
def gSub (to ti : TE) (t : TSet) : TG := fun v σ H Q => to σ H fun o H1 => ti σ H1 fun i H2 => t o i v H2 fun H3 => Q σ H3
theorem pg_sub {o i : Expr} {to ti : TE} {t : TSet} (ho : PE X o to) (hi : PE X i ti) (hs : PSet X t)
    (ha : ∀ v, assign (.Subscript o i pos) X.env v = (do
      let ov ← holding [v] (eval o X.env)
      let iv ← holding [v, ov] (eval i X.env)
      standAt pos
      holding [v, ov, iv] (setItem ov iv v)
      release [v, ov, iv] []) := by intro _; rfl) : PG X (.Subscript o i pos) (gSub to ti t) := by
  intro pins s σ H v u Q I r h
  rw [ha]
  refine wpAny_bind (wpAny_holding (thn (ho pins s σ H _ I h) fun ov s1 ⟨x, H1, I1, r1, q1⟩ => ?_))
  refine wpAny_bind (wpAny_holding (thn (hi pins s1 σ H1 _ I1 q1) fun iv s2 ⟨y, H2, I2, r2, q2⟩ => ?_))
  refine wpAny_bind (wpAny_standAt (wpAny_bind (wpAny_holding (thn (hs pins s2 σ H2 x y v ov iv u _ I2 r1 r2 r q2) fun _ s3 ⟨H3, I3, q3⟩ => ?_))))
  exact wpAny_release ⟨σ, H3, I3, q3⟩
def tAsg (te : TE) (g : TG) : TS := fun D σ H => te σ H fun x H1 => g x σ H1 D.nx
theorem ps_asg {tg e : Expr} {te : TE} {g : TG} (he : PE X e te) (hg : PG X tg g) (hs : swapsWithSole [tg] e pos.line X.env = pure false := by rfl) (hw : swappedStores [tg] e X.env = pure none := by rfl)
    (h1 : (assignEach [tg] X.env).map (·.2) = [assign tg X.env] := by rfl) : PS X (.Assign [tg] e pos) (tAsg te g) := by
  intro pins s σ H D I h
  refine wpAny_Assign_stores (thn (he pins s σ H _ I h) fun v s1 ⟨x, H1, I1, r1, q1⟩ => ?_) hs hw
  rw [h1]
  exact thn (hg pins s1 σ H1 x v _ I1 r1 q1) fun _ s2 q => q
theorem ps_set {i : Nat} {x : Str} {e : Expr} {te : TE} {pos' : Pos} (hN : X.N.Nodup) (hi : X.N[i]? = some x) (hx : Loc X.env.scope x) (he : PE X e te) (hs : swapsWith e (some (.Name x pos')) pos.line X.env = pure false := by rfl) (hf : X.fn x = true ∨ X.env.scope.names.lookup x = some .local := by first | exact .inl rfl | exact .inr rfl | assumption) :
    PS X (.Assign [.Name x pos'] e pos) (tAsg te (gName i)) := by
  intro pins s σ H D I h
  refine wpAny_Assign_Name (thn (he pins s σ H _ I h) fun v s1 ⟨y, H1, I1, r1, q1⟩ => ?_) hs
  exact store_ok I1 hN hi hx r1 (fun s2 I2 => ⟨_, H1, I2, q1⟩) hf
def tAug (i : Nat) (te : TE) (ti : TIp) : TS := fun D σ H => ∃ x, σ[i]? = some (some x) ∧ te σ H fun y H1 => ti x y H1 fun z H2 => D.nx (σ.set i (some z)) H2
theorem ps_aug {i : Nat} {x : Str} {e : Expr} {te : TE} {op : Operator} {ti : TIp} {pos' : Pos} (hN : X.N.Nodup) (hi : X.N[i]? = some x) (hx : Loc X.env.scope x) (he : PE X e te) (ho : PIp X op ti) (hf : X.fn x = true ∨ X.env.scope.names.lookup x = some .local := by first | exact .inl rfl | exact .inr rfl | assumption) :
    PS X (.AugAssign (.Name x pos') op e pos) (tAug i te ti) := by
  intro pins s σ H D I h
  obtain ⟨v, e1, h⟩ := h
  obtain ⟨m, hn, hl⟩ := I.loc
  have vis : Vis X.env.scope x := by rcases hx with k | k; exact .inl k; exact .inr (.inl k)
  obtain ⟨u, r, l⟩ := hl i x v hi e1 vis
  refine wpAny_AugAssign_Name ?_
  have go : wpAny (model X.prog X.w) X.A (eval e X.env) (fun w s₂ => wpAny (model X.prog X.w) X.A (inplaceOp op u w) (fun r s₃ => wpAny (model X.prog X.w) X.A (storeName X.env x r) (fun _ => SP X pins D .next) X.xe s₃) X.xe s₂) X.xe s := by
    refine thn (he pins s σ H _ I h) fun w s1 ⟨y, H1, I1, r1, q1⟩ => ?_
    refine thn (ho pins s1 σ H1 v y u w _ I1 r r1 q1) fun z s2 ⟨zv, H2, I2, r2, q2⟩ => ?_
    exact store_ok I2 hN hi hx r2 (fun s3 I3 => ⟨_, H2, I3, q2⟩) hf
  rcases l with ⟨hk, hm⟩ | ⟨hk, c, hc, hcell⟩
  · exact wpAny_loadName_local I.ok.kind hk hn hm go
  · rcases hk with hk | hk
    · exact wpAny_loadName_cell I.ok.kind hk hc hcell go
    · rcases hx with k | k
      · have : X.env.scope.names.lookup x = some .free := hk
        rw [k] at this; cases this
      · have : X.env.scope.names.lookup x = some .free := hk
        rw [k] at this; cases this
def tAugS (to ti te : TE) (tget : V → V → Hp → VK → Prop) (tip : TIp) (tset : TSet) : TS := fun D σ H => to σ H fun o H1 => ti σ H1 fun i H2 => tget o i H2 fun x H3 => te σ H3 fun y H4 => tip x y H4 fun z H5 => tset o i z H5 fun H6 => D.nx σ H6
def PGet (X : Cx) (t : V → V → Hp → VK → Prop) : Prop :=
  ∀ (pins : List (Addr × Obj)) (s : Shared) (σ : St) (H : Hp) (o i : V) (ov iv : Value) (Q : VK), Inv X pins σ H s → RelV o ov → RelV i iv → t o i H Q →
    wpAny (model X.prog X.w) X.A (getItem ov iv) (EP X pins σ Q) X.xe s
theorem ps_augS {o i e : Expr} {to ti te : TE} {tget : V → V → Hp → VK → Prop} {tip : TIp} {tset : TSet} {op : Operator} {tpos : Pos} (ho : PE X o to) (hi : PE X i ti) (hg : PGet X tget) (he : PE X e te) (hp : PIp X op tip) (hs : PSet X tset)
    (ha : ∀ ov iv new, augStore i ov iv new = (do holding [new, ov, iv] (setItem ov iv new); release [new, ov, iv] []; pure .next) := by intros; rfl) : PS X (.AugAssign (.Subscript o i tpos) op e pos) (tAugS to ti te tget tip tset) := by
  intro pins s σ H D I h
  refine wpAny_AugAssign_SubscriptAny (thn (ho pins s σ H _ I h) fun ov s1 ⟨x1, H1, I1, r1, q1⟩ => ?_) ha
  refine thn (hi pins s1 σ H1 _ I1 q1) fun iv s2 ⟨x2, H2, I2, r2, q2⟩ => ?_
  refine thn (hg pins s2 σ H2 x1 x2 ov iv _ I2 r1 r2 q2) fun old s3 ⟨x3, H3, I3, r3, q3⟩ => ?_
  refine thn (he pins s3 σ H3 _ I3 q3) fun v s4 ⟨x4, H4, I4, r4, q4⟩ => ?_
  refine thn (hp pins s4 σ H4 x3 x4 old v _ I4 r3 r4 q4) fun new s5 ⟨x5, H5, I5, r5, q5⟩ => ?_
  exact thn (hs pins s5 σ H5 x1 x2 x5 ov iv new _ I5 r1 r2 r5 q5) fun _ s6 ⟨H6, I6, q6⟩ => ⟨σ, H6, I6, q6⟩
def ipI (f : Int → Int → Int) : TIp := fun x y H Q => ∃ i j, x = .int i ∧ y = .int j ∧ Q (.int (f i j)) H
theorem ip_add : PIp X .Add (ipI fun i j => i + j) := by
  intro pins s σ H x y v u Q I r1 r2 h
  obtain ⟨i, j, e1, e2, q⟩ := h
  subst e1; subst e2
  obtain ⟨t, rfl⟩ := r1
  obtain ⟨t', rfl⟩ := r2
  exact iadd_int ⟨.int _, H, I.tok _, ⟨_, rfl⟩, q⟩
theorem ip_sub : PIp X .Sub (ipI fun i j => i - j) := by
  intro pins s σ H x y v u Q I r1 r2 h
  obtain ⟨i, j, e1, e2, q⟩ := h
  subst e1; subst e2
  obtain ⟨t, rfl⟩ := r1
  obtain ⟨t', rfl⟩ := r2
  exact isub_int ⟨.int _, H, I.tok _, ⟨_, rfl⟩, q⟩
end
section
variable {X : Cx} {pos : Pos}
end
structure It where
  go : Nat → Hp → Prop
  yld : Nat → Hp → V → Hp → Prop
  stop : Nat → Hp → Prop
def FpOk (X : Cx) (pins : List (Addr × Obj)) (H : Hp) (b : Addr) : Prop :=
  H b = none ∧ b ≠ X.env.locals ∧ b ∉ X.fs ∧ (b ∈ X.ex ∨ X.s_0.heap.objs.size ≤ b) ∧ (∀ x c, X.env.cells.lookup x = some c → c ≠ b) ∧ ∀ p ∈ X.pn ++ pins, p.1 ≠ b
theorem Inv.fpOk {X : Cx} {pins : List (Addr × Obj)} {σ : St} {H H' : Hp} {s : Shared} {b : Addr} (I : Inv X pins σ H s) (hb : s.heap.objs.size ≤ b) (hn : H' b = none) : FpOk X pins H' b := by
  refine ⟨hn, Nat.ne_of_gt (Nat.lt_of_lt_of_le I.lt hb), I.nofs hb, .inr (Nat.le_trans I.sz hb), fun x c e z => ?_, fun p hp z => ?_⟩
  · obtain ⟨v, q⟩ := I.cell x c e
    exact absurd (Nat.lt_of_lt_of_le q.lt (by rw [z]; exact hb)) (Nat.lt_irrefl _)
  · exact absurd (Nat.lt_of_lt_of_le (Heap.lt_size (I.pin p hp).1) (by rw [z]; exact hb)) (Nat.lt_irrefl _)
structure Turn (P : Program) (w : World) (K : PySem.W.Frag) (tg : Expr) (J : It) (fp : List Addr) (it : Addr) (tn : Nat → Heap → Prop) : Prop where
  mem : it ∈ fp
  obj : ∀ i h, tn i h → ∀ b ∈ fp, ∃ o, h.get? b = some o ∧ ∀ v, o.data ≠ .cell v
  keep : ∀ i h h', tn i h → (∀ b ∈ fp, ∀ o, h.get? b = some o → h'.get? b = some o) → tn i h'
  item : ∀ (X : Cx), X.prog = P → X.w = w → X.K = K → X.calm = true → ∀ (i : Nat) (pins : List (Addr × Obj)) (s : Shared) (σ : St) (H : Hp) (E : Value → Shared → Prop), Inv X pins σ H s → (∀ b ∈ fp, FpOk X pins H b) → tn i s.heap → J.go i H →
    wpAny (model P w) X.A (pyNext (.ref it)) (fun r s1 => ∃ u, r = some u ∧
      wpAny (model P w) X.A (letOwnedTupleGo tg (.ref it) u) (fun _ s2 => ∃ x H', Inv X pins σ H' s2 ∧ RelV x u ∧ J.yld i H x H' ∧ tn (i + 1) s2.heap ∧ ∀ b ∈ fp, H' b = none) E s1) E s
  done : ∀ (X : Cx), X.prog = P → X.w = w → X.K = K → X.calm = true → ∀ (i : Nat) (pins : List (Addr × Obj)) (s : Shared) (σ : St) (H : Hp) (E : Value → Shared → Prop), Inv X pins σ H s → (∀ b ∈ fp, FpOk X pins H b) → tn i s.heap → J.stop i H →
    wpAny (model P w) X.A (pyNext (.ref it)) (fun r s1 => r = none ∧ Inv X pins σ H s1) E s
  self : ∀ (A : Around) (i : Nat) (s : Shared) (Q : Value → Shared → Prop) (E : Value → Shared → Prop), tn i s.heap → Q (.ref it) s → wpAny (model P w) A (pyIter (.ref it)) Q E s
abbrev TI := St → Hp → (It → Hp → Prop) → Prop
def PIE (X : Cx) (pins : List (Addr × Obj)) (σ : St) (tg : Expr) (R : It → Hp → Prop) (itv : Value) (s2 : Shared) : Prop :=
  ∃ (it : Addr) (fp : List Addr) (tn : Nat → Heap → Prop) (J : It) (H' : Hp), itv = .ref it ∧ Inv X pins σ H' s2 ∧ Turn X.prog X.w X.K tg J fp it tn ∧ tn 0 s2.heap ∧ (∀ b ∈ fp, FpOk X pins H' b) ∧ R J H'
def PI (X : Cx) (tg iter : Expr) (wi : TI) : Prop :=
  ∀ (pins : List (Addr × Obj)) (s : Shared) (σ : St) (H : Hp) (R : It → Hp → Prop), Inv X pins σ H s → wi σ H R →
    wpAny (model X.prog X.w) X.A (eval iter X.env) (fun v s1 => wpAny (model X.prog X.w) X.A (pyIter v) (PIE X pins σ tg R) X.xe s1) X.xe s
theorem go_of {M : Model} {A : Around} {E : Value → Shared → Prop} {s : Shared} {tg : Expr} {it : Addr} {u : Value} {o : Obj} {n : String} {vs : Array Value} {Q : Unit → Shared → Prop} (ho : s.heap.get? it = some o) (hc : o.cls = .type n) (hd : o.data = .fields vs)
    (hn : ["enumerate", "zip", "dict_itemiterator", "dict_reverseitemiterator", "odict_iterator", "itertools.zip_longest", "itertools.pairwise"].contains n = false) (hQ : Q () s) : wpAny M A (letOwnedTupleGo tg (.ref it) u) Q E s := by
  unfold letOwnedTupleGo
  cases tg <;> first
    | exact wpAny_pure hQ
    | (cases u <;> first
        | exact wpAny_pure hQ
        | (refine wpAny_bind (wpAny_load ho ?_)
           rw [hc, hd]
           show wpAny M A (if (["enumerate", "zip", "dict_itemiterator", "dict_reverseitemiterator", "odict_iterator", "itertools.zip_longest", "itertools.pairwise"].contains n && vs[0]? == some (rawInt _)) = true then _ else _) Q E s
           rw [if_neg (by intro h; rw [hn, Bool.false_and] at h; cases h)]
           exact wpAny_pure hQ))
def Itl (K : PySem.W.Frag) (a : Addr) : It :=
  ⟨fun i H => ∃ xs x, SqL K H a xs ∧ xs[i]? = some x, fun i H x H' => H' = H ∧ ∀ xs, SqL K H a xs → xs[i]? = some x, fun i H => ∃ xs, SqL K H a xs ∧ xs.length ≤ i⟩
def Itt (K : PySem.W.Frag) (a : Addr) : It :=
  ⟨fun i H => ∃ xs x, SqT K H a xs ∧ xs[i]? = some x, fun i H x H' => H' = H ∧ ∀ xs, SqT K H a xs → xs[i]? = some x, fun i H => ∃ xs, SqT K H a xs ∧ xs.length ≤ i⟩
def Itr (lo : Int) (n : Nat) : It := ⟨fun i _ => i < n, fun i H x H' => H' = H ∧ x = .int (lo + i), fun i _ => n ≤ i⟩
theorem turn_list {P : Program} {w : World} {K : PySem.W.Frag} {tg : Expr} (a it : Addr) : Turn P w K tg (Itl K a) [it] it (fun i h => h.IsListIter it a i) where
  mem := by simp
  obj := fun i h st b hb => by
    have e : b = it := by simpa using hb
    subst e
    obtain ⟨o, e, c, d⟩ := st
    exact ⟨o, e, fun v z => by rw [d] at z; cases z⟩
  keep := fun i h h' st k => st.at fun o e => k it (by simp) o e
  item := by
    intro X hP hw hK hc i pins s σ H E I hf st hg
    subst hP hw hK
    obtain ⟨xs, x, hq, hx⟩ := hg
    obtain ⟨its, rv, p, hz⟩ := I.list hq
    obtain ⟨u, hu, ru⟩ := rv.get hx
    obtain ⟨f0, f1, f2, f3, f4, f5⟩ := hf it (by simp)
    refine wpAny_pyNext_list_item st p.isList (x := u) (by simpa using hu) fun h' st' sb => ?_
    have I1 : Inv X pins σ H { s with heap := h' } := I.turned (t' := s.toks) (fun b o hb e => (sb.2 b hb).trans e) f0 f1 f3 f4 f5
    obtain ⟨o, e, c, d⟩ := id st'
    exact ⟨u, rfl, go_of (s := { s with heap := h' }) e c d (by decide) ⟨x, H, I1, ru, ⟨rfl, fun ys hy => by rw [I.list_inj hy hq]; exact hx⟩, st', fun b hb => (hf b hb).1⟩⟩
  done := by
    intro X hP hw hK hc i pins s σ H E I hf st hg
    subst hP hw hK
    obtain ⟨xs, hq, hx⟩ := hg
    obtain ⟨its, rv, p, hz⟩ := I.list hq
    obtain ⟨f0, f1, f2, f3, f4, f5⟩ := hf it (by simp)
    have hl := rv.length
    exact wpAny_pyNext_list_end (I.ok.hd hc) st p.isList (by simp; omega) fun h' eb => ⟨rfl, I.turned (t' := s.toks) (fun b o hb e => eb b o hb e) f0 f1 f3 f4 f5⟩
  self := fun _ _ _ _ _ st h => wpAny_pyIter_listiter st h
theorem turn_tuple {P : Program} {w : World} {K : PySem.W.Frag} {tg : Expr} (a it : Addr) : Turn P w K tg (Itt K a) [it] it (fun i h => h.IsTupleIter it a i) where
  mem := by simp
  obj := fun i h st b hb => by
    have e : b = it := by simpa using hb
    subst e
    obtain ⟨o, e, c, d⟩ := st
    exact ⟨o, e, fun v z => by rw [d] at z; cases z⟩
  keep := fun i h h' st k => st.at fun o e => k it (by simp) o e
  item := by
    intro X hP hw hK hc i pins s σ H E I hf st hg
    subst hP hw hK
    obtain ⟨xs, x, hq, hx⟩ := hg
    obtain ⟨its, rv, p, hz⟩ := I.tuple hq
    obtain ⟨u, hu, ru⟩ := rv.get hx
    obtain ⟨f0, f1, f2, f3, f4, f5⟩ := hf it (by simp)
    refine wpAny_pyNext_tuple_item st (show s.heap.IsTuple a its.toArray from p) (x := u) (by simpa using hu) fun h' st' sb => ?_
    have I1 : Inv X pins σ H { s with heap := h' } := I.turned (t' := s.toks) (fun b o hb e => (sb.2 b hb).trans e) f0 f1 f3 f4 f5
    obtain ⟨o, e, c, d⟩ := id st'
    exact ⟨u, rfl, go_of (s := { s with heap := h' }) e c d (by decide) ⟨x, H, I1, ru, ⟨rfl, fun ys hy => by rw [I.tuple_inj hy hq]; exact hx⟩, st', fun b hb => (hf b hb).1⟩⟩
  done := by
    intro X hP hw hK hc i pins s σ H E I hf st hg
    subst hP hw hK
    obtain ⟨xs, hq, hx⟩ := hg
    obtain ⟨its, rv, p, hz⟩ := I.tuple hq
    obtain ⟨f0, f1, f2, f3, f4, f5⟩ := hf it (by simp)
    have hl := rv.length
    exact wpAny_pyNext_tuple_end (I.ok.hd hc) st (show s.heap.IsTuple a its.toArray from p) (by simp; omega) fun h' eb => ⟨rfl, I.turned (t' := s.toks) (fun b o hb e => eb b o hb e) f0 f1 f3 f4 f5⟩
  self := fun _ _ _ _ _ st h => wpAny_pyIter_tupleiter st h
theorem turn_range {P : Program} {w : World} {K : PySem.W.Frag} {tg : Expr} (it : Addr) (lo : Int) (n : Nat) : Turn P w K tg (Itr lo n) [it] it (fun i h => IsRangeIter h it (lo + (i : Nat) * 1) ((n : Int) - (i : Nat)) 1) where
  mem := by simp
  obj := fun i h st b hb => by
    have e : b = it := by simpa using hb
    subst e
    exact ⟨_, st, fun v z => by
      have z' : Data.fields _ = Data.cell v := z
      cases z'⟩
  keep := fun i h h' st k => k it (by simp) _ st
  item := by
    intro X hP hw hK hc i pins s σ H E I hf st hg
    subst hP hw hK
    obtain ⟨f0, f1, f2, f3, f4, f5⟩ := hf it (by simp)
    have W := Walks.range (prog := X.prog) (w := X.w) (I.ok.hd hc) it lo 1 n
    refine W.item i s _ _ hg st fun v h' tk hv st' kk => ?_
    obtain ⟨t, rfl⟩ := hv
    have I1 : Inv X pins σ H { s with heap := h', toks := tk } := I.turned (fun b o hb e => kk b o (by simpa using hb) e) f0 f1 f3 f4 f5
    refine ⟨_, rfl, go_of (s := { s with heap := h', toks := tk }) (n := "range_iterator") st' rfl rfl (by decide) ⟨.int (lo + i), H, I1, ⟨t, ?_⟩, ⟨rfl, rfl⟩, st', fun b hb => (hf b hb).1⟩⟩
    rw [Int.mul_one]
  done := by
    intro X hP hw hK hc i pins s σ H E I hf st hg
    subst hP hw hK
    obtain ⟨f0, f1, f2, f3, f4, f5⟩ := hf it (by simp)
    exact wpAny_pyNext_range_end (I.ok.hd hc) st (by have : n ≤ i := hg; omega) fun h' eb => ⟨rfl, I.turned (t' := s.toks) (fun b o hb e => eb b o hb e) f0 f1 f3 f4 f5⟩
  self := fun _ _ _ _ _ st h => wpAny_pyIter_rangeiter st h
end L2
namespace L2
open PySem PySem.Spec PyProof.Rows
section
variable {X : Cx} {tg : Expr}
def iList (K : PySem.W.Frag) (tl : TE) : TI := fun σ H R => tl σ H fun x H1 => ∃ a, x = .ref a ∧ (∃ xs, SqL K H1 a xs) ∧ R (Itl K a) H1
def iTup (K : PySem.W.Frag) (tl : TE) : TI := fun σ H R => tl σ H fun x H1 => ∃ a, x = .ref a ∧ (∃ xs, SqT K H1 a xs) ∧ R (Itt K a) H1
theorem pi_list {l : Expr} {tl : TE} (hl : PE X l tl) : PI X tg l (iList X.K tl) := by
  intro pins s σ H R I h
  refine thn (hl pins s σ H _ I h) fun v s1 ⟨x, H1, I1, r1, q1⟩ => ?_
  obtain ⟨a, e, ⟨xs, hq⟩, q⟩ := q1
  subst e
  cases r1
  obtain ⟨its, rv, p, hz⟩ := I1.list hq
  refine wpAny_pyIter_list p.isList ?_
  refine ⟨s1.heap.objs.size, [s1.heap.objs.size], _, _, H1, rfl, I1.kept (t' := s1.toks) fun b o e => Heap.get?_push_of_some _ e, turn_list a _, ⟨_, Heap.get?_push_size _ rfl, rfl, rfl⟩, fun b hb => ?_, q⟩
  have e : b = s1.heap.objs.size := by simpa using hb
  subst e
  exact I1.fpOk (Nat.le_refl _) (I1.hok.fresh (Nat.le_refl _))
theorem pi_tup {l : Expr} {tl : TE} (hl : PE X l tl) : PI X tg l (iTup X.K tl) := by
  intro pins s σ H R I h
  refine thn (hl pins s σ H _ I h) fun v s1 ⟨x, H1, I1, r1, q1⟩ => ?_
  obtain ⟨a, e, ⟨xs, hq⟩, q⟩ := q1
  subst e
  cases r1
  obtain ⟨its, rv, p, hz⟩ := I1.tuple hq
  refine wpAny_pyIter_tuple (show s1.heap.IsTuple a its.toArray from p) ?_
  refine ⟨s1.heap.objs.size, [s1.heap.objs.size], _, _, H1, rfl, I1.kept (t' := s1.toks) fun b o e => Heap.get?_push_of_some _ e, turn_tuple a _, ⟨_, Heap.get?_push_size _ rfl, rfl, rfl⟩, fun b hb => ?_, q⟩
  have e : b = s1.heap.objs.size := by simpa using hb
  subst e
  exact I1.fpOk (Nat.le_refl _) (I1.hok.fresh (Nat.le_refl _))
theorem range_it {pins : List (Addr × Obj)} {σ : St} {H : Hp} {s : Shared} {R : It → Hp → Prop} {E : Value → Shared → Prop} {lo hi : Int} {t u v : Tok} {tk : Nat} (I : Inv X pins σ H s) (h1 : -(2 ^ 62) ≤ lo) (h2 : lo < 2 ^ 62) (h3 : -(2 ^ 62) ≤ hi) (h4 : hi < 2 ^ 62)
    (q : R (Itr lo (hi - lo).toNat) H) : wpAny (model X.prog X.w) X.A (pyIter (.ref s.heap.objs.size)) (PIE X pins σ tg R) E { s with heap := s.heap.push { cls := .type "range", data := .fields #[.int lo t, .int hi u, .int 1 v] }, toks := tk } := by
  refine wpAny_pyIter_range (IsRange.new ..) (small_one h1 h2 h3 h4) ?_
  have I1 : Inv X pins σ H { s with heap := s.heap.push { cls := .type "range", data := .fields #[.int lo t, .int hi u, .int 1 v] }, toks := tk } := I.kept fun b o e => Heap.get?_push_of_some _ e
  refine ⟨(s.heap.push { cls := .type "range", data := .fields #[.int lo t, .int hi u, .int 1 v] }).objs.size, [(s.heap.push { cls := .type "range", data := .fields #[.int lo t, .int hi u, .int 1 v] }).objs.size], _, _, H, rfl,
    I1.kept (t' := tk) fun b o e => Heap.get?_push_of_some _ e, turn_range _ lo (hi - lo).toNat, ?_, fun b hb => ?_, q⟩
  · have e1 : lo + ((0 : Nat) : Int) * 1 = lo := by simp
    have e2 : (((hi - lo).toNat : Nat) : Int) - ((0 : Nat) : Int) = Builtin.Range.rangeSize lo hi 1 := by rw [rangeSize_one]; split <;> omega
    show IsRangeIter _ _ (lo + ((0 : Nat) : Int) * 1) ((((hi - lo).toNat : Nat) : Int) - ((0 : Nat) : Int)) 1
    rw [e1, e2]
    exact Heap.get?_push_size _ rfl
  · have e : b = (s.heap.push { cls := .type "range", data := .fields #[.int lo t, .int hi u, .int 1 v] }).objs.size := by simpa using hb
    subst e
    exact I1.fpOk (Nat.le_refl _) (I1.hok.fresh (Nat.le_refl _))
def iRng1 (ta : TA) : TI := fun σ H R => ta σ H fun vs H1 => ∃ j : Int, vs = [.int j] ∧ -(2 ^ 62) ≤ j ∧ j < 2 ^ 62 ∧ R (Itr 0 j.toNat) H1
theorem pi_range1 {a : Expr} {ta : TA} {p pos : Pos} (hg : Gl X "range") (hm : X.mg "range" = none) (ha : PA X [a] ta) (hs : starEach [a] X.env = [(false, eval a X.env)] := by rfl) : PI X tg (.Call (.Name "range" p) [a] [] pos) (iRng1 ta) := by
  intro pins s σ H R I h
  refine Call_ (ld_blt I hg hm boot_range (PyProof.Rows.callWith_type1 (thn (ha pos pins s σ H _ I h) fun us s1 ⟨vs, H1, I1, r1, q1⟩ => ?_) hs rfl))
  obtain ⟨j, e, q1, q2, q⟩ := q1
  subst e
  cases r1 with
  | cons r rr =>
    cases rr
    obtain ⟨t, rfl⟩ := r
    exact call_range_1 (range_it I1 (by omega) (by omega) q1 q2 (by simpa using q))
def tFor (wi : TI) (g : TG) (tb : TS) : TS := fun D σ H => wi σ H fun J H1 => ∃ W : Nat → Nat → St → Hp → Prop, (∃ m, W 0 m σ H1) ∧ ∀ i m σ H, W i m σ H →
  (J.stop i H ∧ D.nx σ H) ∨ (J.go i H ∧ ∃ N : St → Hp → Prop, (∀ σ' H', N σ' H' → ∃ m', m' < m ∧ W (i + 1) m' σ' H') ∧ ∀ x H', J.yld i H x H' → g x σ H' fun σ2 H2 => tb { D with nx := N, ct := N, bk := D.nx } σ2 H2)
def pinsAt (fp : List Addr) (h : Heap) : List (Addr × Obj) := fp.filterMap fun b => (h.get? b).map fun o => (b, o)
theorem mem_pinsAt {fp : List Addr} {h : Heap} {b : Addr} {o : Obj} (hb : b ∈ fp) (e : h.get? b = some o) : (b, o) ∈ pinsAt fp h := List.mem_filterMap.mpr ⟨b, hb, by rw [e]; rfl⟩
theorem of_pinsAt {fp : List Addr} {h : Heap} {p : Addr × Obj} (hp : p ∈ pinsAt fp h) : p.1 ∈ fp ∧ h.get? p.1 = some p.2 := by
  obtain ⟨b, hb, e⟩ := List.mem_filterMap.mp hp
  cases q : h.get? b with
  | none => rw [q] at e; cases e
  | some o =>
    rw [q] at e
    have e' : (b, o) = p := Option.some.inj e
    subst e'
    exact ⟨hb, q⟩
theorem Inv.pinned {pins : List (Addr × Obj)} {σ : St} {H : Hp} {s : Shared} {fp : List Addr} (I : Inv X pins σ H s) (hf : ∀ b ∈ fp, FpOk X pins H b) (ho : ∀ b ∈ fp, ∃ o, s.heap.get? b = some o ∧ ∀ v, o.data ≠ .cell v) : Inv X (pins ++ pinsAt fp s.heap) σ H s :=
  I.pins_of fun p hp => (List.mem_append.mp hp).elim (fun z => I.pin p (List.mem_append_right _ z)) fun z => by
    obtain ⟨hb, e⟩ := of_pinsAt z
    obtain ⟨f0, f1, f2, _⟩ := hf p.1 hb
    obtain ⟨o, e', d⟩ := ho p.1 hb
    rw [e] at e'; cases e'
    exact ⟨e, f0, f1, f2, d⟩
theorem Inv.unpinned {pins pl : List (Addr × Obj)} {σ : St} {H : Hp} {s : Shared} (I : Inv X (pins ++ pl) σ H s) : Inv X pins σ H s := I.pins_of fun p hp => I.pin p (List.mem_append_right _ (List.mem_append_left _ hp))
theorem ps_for {iter : Expr} {body : List Stmt} {wi : TI} {g : TG} {tb : TS} {pos : Pos} (hp : PassesOwn (model X.prog X.w) X.A X.env X.xe) (hc : X.calm = true) (hi : PI X tg iter wi) (hg : PG X tg g) (hb : PSs X body tb)
    (hs : ∀ x, foldedSetIterable iter X.env x = pure x := by intro _; rfl) : PS X (.For tg iter body [] pos) (tFor wi g tb) := by
  intro pins s σ H D I h
  refine wpAny_For (thn (hi pins s σ H _ I h) fun v s1 h1 => thn h1 fun itv s2 h2 => ?_) hs
  obtain ⟨it, fp, tn, J, H2, e, I2, T, st2, f2, W, ⟨m0, w0⟩, turn⟩ := h2
  subst e
  have stat : ∀ {H' : Hp}, (∀ b ∈ fp, H' b = none) → ∀ b ∈ fp, FpOk X pins H' b := fun hn b hb => ⟨hn b hb, (f2 b hb).2⟩
  refine codeAny_forLoop_any (fun n s' => ∃ i σ' H', Inv X pins σ' H' s' ∧ tn i s'.heap ∧ (∀ b ∈ fp, H' b = none) ∧ W i n σ' H') ?_ m0 ⟨0, σ, H2, I2, st2, fun b hb => (f2 b hb).1, w0⟩
  rintro n s3 ⟨i, σ3, H3, I3, st3, fr3, w3⟩
  rcases turn i n σ3 H3 w3 with ⟨stop, qn⟩ | ⟨go, N, hN, step⟩
  · refine wpAny_passesOwn hp (thn (T.done X rfl rfl rfl hc i pins s3 σ3 H3 X.xe I3 (stat fr3) st3 stop) fun r s4 ⟨hr, I4⟩ => ?_)
    subst hr
    exact wpAny_execs_nil ⟨σ3, H3, I4, qn⟩
  · refine wpAny_passesOwn hp (thn (T.item X rfl rfl rfl hc i pins s3 σ3 H3 X.xe I3 (stat fr3) st3 go) fun r s4 ⟨u, hr, h4⟩ => ?_)
    subst hr
    refine wpAny_passesOwn hp (thn h4 fun _ s5 ⟨x, H5, I5, r5, y5, st5, fr5⟩ => ?_)
    have I5' := I5.pinned (stat fr5) (T.obj _ _ st5)
    refine wpAny_passesOwn hp (thn (hg _ s5 σ3 H5 x u _ I5' r5 (step x H5 y5)) fun _ s6 ⟨σ6, H6, I6, q6⟩ => ?_)
    refine wpAny_passesOwn hp (thn (hb _ s6 σ6 H6 _ I6 q6) fun f s7 q7 => ?_)
    have again : ∀ {σ7 : St} {H7 : Hp}, Inv X (pins ++ pinsAt fp s5.heap) σ7 H7 s7 → N σ7 H7 → ∃ m, m < n ∧ ∃ i σ' H', Inv X pins σ' H' s7 ∧ tn i s7.heap ∧ (∀ b ∈ fp, H' b = none) ∧ W i m σ' H' := fun {σ7 H7} I7 n7 => by
      obtain ⟨m', hm, w7⟩ := hN σ7 H7 n7
      refine ⟨m', hm, i + 1, σ7, H7, I7.unpinned, T.keep _ _ _ st5 fun b hb o e => (I7.pin (b, o) (List.mem_append_right _ (List.mem_append_right _ (mem_pinsAt hb e)))).1, fun b hb => ?_, w7⟩
      obtain ⟨o, e, d⟩ := T.obj _ _ st5 b hb
      exact (I7.pin (b, o) (List.mem_append_right _ (List.mem_append_right _ (mem_pinsAt hb e)))).2.1
    cases f with
    | next => obtain ⟨σ7, H7, I7, n7⟩ := q7; exact again I7 n7
    | cont => obtain ⟨σ7, H7, I7, n7⟩ := q7; exact again I7 n7
    | brk => obtain ⟨σ7, H7, I7, q7⟩ := q7; exact ⟨σ7, H7, I7.unpinned, q7⟩
    | ret v => obtain ⟨x7, σ7, H7, I7, r7, q7⟩ := q7; exact ⟨x7, σ7, H7, I7.unpinned, r7, q7⟩
end
theorem for_list {K : PySem.W.Frag} {a : Addr} {xs : List V} {g : TG} {tb : TS} {D : Ends} {σ : St} {H : Hp} (Pv : Nat → St → Hp → Prop) (h0 : Pv 0 σ H) (hl : ∀ i σ H, i ≤ xs.length → Pv i σ H → SqL K H a xs)
    (hs : ∀ i x σ H, xs[i]? = some x → Pv i σ H → g x σ H fun σ2 H2 => tb { D with nx := Pv (i + 1), ct := Pv (i + 1), bk := D.nx } σ2 H2) (hd : ∀ σ H, Pv xs.length σ H → D.nx σ H) :
    ∃ W : Nat → Nat → St → Hp → Prop, (∃ m, W 0 m σ H) ∧ ∀ i m σ H, W i m σ H →
      ((Itl K a).stop i H ∧ D.nx σ H) ∨ ((Itl K a).go i H ∧ ∃ N : St → Hp → Prop, (∀ σ' H', N σ' H' → ∃ m', m' < m ∧ W (i + 1) m' σ' H') ∧ ∀ x H', (Itl K a).yld i H x H' → g x σ H' fun σ2 H2 => tb { D with nx := N, ct := N, bk := D.nx } σ2 H2) := by
  refine ⟨fun i m σ H => m = xs.length - i ∧ i ≤ xs.length ∧ Pv i σ H, ⟨xs.length, by simp, Nat.zero_le _, h0⟩, ?_⟩
  rintro i m σ H ⟨rfl, hi, p⟩
  have q := hl i σ H hi p
  by_cases hlt : i < xs.length
  · refine .inr ⟨⟨xs, xs[i], q, by simp [hlt]⟩, Pv (i + 1), fun σ' H' p' => ⟨xs.length - (i + 1), by omega, rfl, hlt, p'⟩, fun x H' y => ?_⟩
    obtain ⟨e, y⟩ := y
    subst e
    exact hs i x σ _ (y xs q) p
  · have e : i = xs.length := by omega
    subst e
    exact .inl ⟨⟨xs, q, Nat.le_refl _⟩, hd σ H p⟩
theorem for_tup {K : PySem.W.Frag} {a : Addr} {xs : List V} {g : TG} {tb : TS} {D : Ends} {σ : St} {H : Hp} (Pv : Nat → St → Hp → Prop) (h0 : Pv 0 σ H) (hl : ∀ i σ H, i ≤ xs.length → Pv i σ H → SqT K H a xs)
    (hs : ∀ i x σ H, xs[i]? = some x → Pv i σ H → g x σ H fun σ2 H2 => tb { D with nx := Pv (i + 1), ct := Pv (i + 1), bk := D.nx } σ2 H2) (hd : ∀ σ H, Pv xs.length σ H → D.nx σ H) :
    ∃ W : Nat → Nat → St → Hp → Prop, (∃ m, W 0 m σ H) ∧ ∀ i m σ H, W i m σ H →
      ((Itt K a).stop i H ∧ D.nx σ H) ∨ ((Itt K a).go i H ∧ ∃ N : St → Hp → Prop, (∀ σ' H', N σ' H' → ∃ m', m' < m ∧ W (i + 1) m' σ' H') ∧ ∀ x H', (Itt K a).yld i H x H' → g x σ H' fun σ2 H2 => tb { D with nx := N, ct := N, bk := D.nx } σ2 H2) := by
  refine ⟨fun i m σ H => m = xs.length - i ∧ i ≤ xs.length ∧ Pv i σ H, ⟨xs.length, by simp, Nat.zero_le _, h0⟩, ?_⟩
  rintro i m σ H ⟨rfl, hi, p⟩
  have q := hl i σ H hi p
  by_cases hlt : i < xs.length
  · refine .inr ⟨⟨xs, xs[i], q, by simp [hlt]⟩, Pv (i + 1), fun σ' H' p' => ⟨xs.length - (i + 1), by omega, rfl, hlt, p'⟩, fun x H' y => ?_⟩
    obtain ⟨e, y⟩ := y
    subst e
    exact hs i x σ _ (y xs q) p
  · have e : i = xs.length := by omega
    subst e
    exact .inl ⟨⟨xs, q, Nat.le_refl _⟩, hd σ H p⟩
theorem for_range {lo : Int} {n : Nat} {g : TG} {tb : TS} {D : Ends} {σ : St} {H : Hp} (Pv : Nat → St → Hp → Prop) (h0 : Pv 0 σ H)
    (hs : ∀ i σ H, i < n → Pv i σ H → g (.int (lo + i)) σ H fun σ2 H2 => tb { D with nx := Pv (i + 1), ct := Pv (i + 1), bk := D.nx } σ2 H2) (hd : ∀ σ H, Pv n σ H → D.nx σ H) :
    ∃ W : Nat → Nat → St → Hp → Prop, (∃ m, W 0 m σ H) ∧ ∀ i m σ H, W i m σ H →
      ((Itr lo n).stop i H ∧ D.nx σ H) ∨ ((Itr lo n).go i H ∧ ∃ N : St → Hp → Prop, (∀ σ' H', N σ' H' → ∃ m', m' < m ∧ W (i + 1) m' σ' H') ∧ ∀ x H', (Itr lo n).yld i H x H' → g x σ H' fun σ2 H2 => tb { D with nx := N, ct := N, bk := D.nx } σ2 H2) := by
  refine ⟨fun i m σ H => m = n - i ∧ i ≤ n ∧ Pv i σ H, ⟨n, by simp, Nat.zero_le _, h0⟩, ?_⟩
  rintro i m σ H ⟨rfl, hi, p⟩
  by_cases hlt : i < n
  · refine .inr ⟨hlt, Pv (i + 1), fun σ' H' p' => ⟨n - (i + 1), by omega, rfl, hlt, p'⟩, fun x H' y => ?_⟩
    obtain ⟨e, y⟩ := y
    subst e y
    exact hs i σ _ hlt p
  · have e : i = n := by omega
    subst e
    exact .inl ⟨Nat.le_refl _, hd σ H p⟩
end L2
namespace L2
open PySem PySem.Spec PyProof.Rows
abbrev R2 := V → V → Hp → VK → Prop
def OpR (X : Cx) (f : Value → Value → Sem Value) (r : R2) : Prop :=
  ∀ (pins : List (Addr × Obj)) (s : Shared) (σ : St) (H : Hp) (x y : V) (v u : Value) (Q : VK), Inv X pins σ H s → RelV x v → RelV y u → r x y H Q →
    wpAny (model X.prog X.w) X.A (f v u) (EP X pins σ Q) X.xe s
def UnR (X : Cx) (f : Value → Sem Value) (r : V → Hp → VK → Prop) : Prop :=
  ∀ (pins : List (Addr × Obj)) (s : Shared) (σ : St) (H : Hp) (x : V) (v : Value) (Q : VK), Inv X pins σ H s → RelV x v → r x H Q →
    wpAny (model X.prog X.w) X.A (f v) (EP X pins σ Q) X.xe s
def CallR (X : Cx) (f : Value) (r : List V → Hp → VK → Prop) : Prop :=
  ∀ (pins : List (Addr × Obj)) (s : Shared) (σ : St) (H : Hp) (xs : List V) (us : List Value) (Q : VK), Inv X pins σ H s → Vals xs us → r xs H Q →
    wpAny (model X.prog X.w) X.A (call f us) (EP X pins σ Q) X.xe s
def tOp (r : R2) (ta tb : TE) : TE := fun σ H Q => ta σ H fun x H1 => tb σ H1 fun y H2 => r x y H2 Q
def tUn (r : V → Hp → VK → Prop) (ta : TE) : TE := fun σ H Q => ta σ H fun x H1 => r x H1 Q
def rI (C : Int → Int → Prop) (g : Int → Int → V) : R2 := fun x y H Q => ∃ i j, x = .int i ∧ y = .int j ∧ C i j ∧ Q (g i j) H
def rI0 (g : Int → Int → V) : R2 := fun x y H Q => ∃ i j, x = .int i ∧ y = .int j ∧ Q (g i j) H
def rU (g : Int → V) : V → Hp → VK → Prop := fun x H Q => ∃ i, x = .int i ∧ Q (g i) H
section
variable {X : Cx} {a b c : Expr} {ta tb tc : TE} {pos : Pos}
theorem binT (ha : PE X a ta) (hb : PE X b tb) {pins : List (Addr × Obj)} {s : Shared} {σ : St} {H : Hp} {R : V → V → Hp → Prop} (I : Inv X pins σ H s)
    (h : ta σ H fun x H1 => tb σ H1 fun y H2 => R x y H2) {Q : Value → Shared → Prop} {f : Value → Value → Sem Value}
    (hf : ∀ v u s2 x y H2, Inv X pins σ H2 s2 → RelV x v → RelV y u → R x y H2 → wpAny (model X.prog X.w) X.A (f v u) Q X.xe s2) :
    wpAny (model X.prog X.w) X.A (eval a X.env) (fun v s₁ => wpAny (model X.prog X.w) X.A (eval b X.env) (fun u s₂ => wpAny (model X.prog X.w) X.A (f v u) Q X.xe s₂) X.xe s₁) X.xe s := by
  refine thn (ha pins s σ H _ I h) fun v s1 ⟨x, H1, I1, r1, q1⟩ => ?_
  refine thn (hb pins s1 σ H1 _ I1 q1) fun u s2 ⟨y, H2, I2, r2, q2⟩ => ?_
  exact hf v u s2 x y H2 I2 r1 r2 q2
theorem pe_op {op : Operator} {r : R2} (ho : OpR X (binaryOp op) r) (ha : PE X a ta) (hb : PE X b tb) : PE X (.BinOp a op b pos) (tOp r ta tb) := by
  intro pins s σ H Q I h
  exact wpAny_BinOp (binT ha hb I h fun v u s2 x y H2 I2 rx ry q => ho pins s2 σ H2 x y v u Q I2 rx ry q)
theorem pe_un {op : UnaryOp} {r : V → Hp → VK → Prop} (ho : UnR X (unaryOp op) r) (ha : PE X a ta) : PE X (.UnaryOp op a pos) (tUn r ta) := by
  intro pins s σ H Q I h
  exact UnaryOp_ (thn (ha pins s σ H _ I h) fun v s1 ⟨x, H1, I1, r1, q1⟩ => ho pins s1 σ H1 x v Q I1 r1 q1)
theorem opI {f : Value → Value → Sem Value} {C : Int → Int → Prop} {g : Int → Int → Int}
    (rule : ∀ (i j : Int) (t u : Tok) (s : Shared) (Q : Value → Shared → Prop) (E : Value → Shared → Prop), C i j → Q (.int (g i j) s.toks) { s with toks := s.toks + 1 } → wpAny (model X.prog X.w) X.A (f (.int i t) (.int j u)) Q E s) :
    OpR X f (rI C fun i j => .int (g i j)) := by
  intro pins s σ H x y v u Q I rx ry h
  obtain ⟨i, j, rfl, rfl, hc, q⟩ := h
  obtain ⟨t, rfl⟩ := rx
  obtain ⟨t', rfl⟩ := ry
  exact rule i j t t' s _ _ hc ⟨.int (g i j), H, I.tok _, ⟨_, rfl⟩, q⟩
theorem opI0 {f : Value → Value → Sem Value} {g : Int → Int → Int}
    (rule : ∀ (i j : Int) (t u : Tok) (s : Shared) (Q : Value → Shared → Prop) (E : Value → Shared → Prop), Q (.int (g i j) s.toks) { s with toks := s.toks + 1 } → wpAny (model X.prog X.w) X.A (f (.int i t) (.int j u)) Q E s) :
    OpR X f (rI0 fun i j => .int (g i j)) := by
  intro pins s σ H x y v u Q I rx ry h
  obtain ⟨i, j, rfl, rfl, q⟩ := h
  obtain ⟨t, rfl⟩ := rx
  obtain ⟨t', rfl⟩ := ry
  exact rule i j t t' s _ _ ⟨.int (g i j), H, I.tok _, ⟨_, rfl⟩, q⟩
theorem opB0 {f : Value → Value → Sem Value} {g : Int → Int → Bool}
    (rule : ∀ (i j : Int) (t u : Tok) (s : Shared) (Q : Value → Shared → Prop) (E : Value → Shared → Prop), Q (.bool (g i j)) s → wpAny (model X.prog X.w) X.A (f (.int i t) (.int j u)) Q E s) :
    OpR X f (rI0 fun i j => .bl (g i j)) := by
  intro pins s σ H x y v u Q I rx ry h
  obtain ⟨i, j, rfl, rfl, q⟩ := h
  obtain ⟨t, rfl⟩ := rx
  obtain ⟨t', rfl⟩ := ry
  exact rule i j t t' s _ _ ⟨.bl (g i j), H, I, rfl, q⟩
def CDiv (i j : Int) : Prop := 0 < j ∧ j < 1073741824
def CPow (i j : Int) : Prop := 0 ≤ j ∧ j ≤ 1000000 ∧ i.natAbs < 2 ^ 64
def CMul (i j : Int) : Prop := (-(2 ^ 64) < i ∧ i < 2 ^ 64) ∨ (-(2 ^ 64) < j ∧ j < 2 ^ 64)
theorem CMul.ok {i j : Int} (h : CMul i j) : IntMulOk i j := by
  rcases h with ⟨h1, h2⟩ | ⟨h1, h2⟩
  · exact .of_left (intBits_le_64 h1 h2)
  · exact .of_right (intBits_le_64 h1 h2)
theorem op_add : OpR X (binaryOp .Add) (rI0 fun i j => .int (i + j)) := opI0 fun _ _ _ _ _ _ _ q => add_int q
theorem op_sub : OpR X (binaryOp .Sub) (rI0 fun i j => .int (i - j)) := opI0 fun _ _ _ _ _ _ _ q => sub_int q
theorem op_mul : OpR X (binaryOp .Mult) (rI CMul fun i j => .int (i * j)) := opI fun _ _ _ _ _ _ _ hc q => mul_int q hc.ok
theorem op_fdiv : OpR X (binaryOp .FloorDiv) (rI CDiv fun i j => .int (i / j)) := opI fun i j _ _ _ _ _ hc q => by
  have h1 : (0 : Int) < j := hc.1
  have h2 : j < 1073741824 := hc.2
  exact floordiv_int (by omega) (by rw [Int.fdiv_eq_ediv_of_nonneg i (by omega)]; exact q) (.inl (PyProof.noPylong_small (by omega)))
theorem op_mod : OpR X (binaryOp .Mod) (rI (fun _ j => 0 < j) fun i j => .int (i % j)) := opI fun i j _ _ _ _ _ hc q => by
  have h1 : (0 : Int) < j := hc
  exact mod_int' (by omega) (by rw [Int.fmod_eq_emod_of_nonneg i (by omega)]; exact q)
theorem op_shl : OpR X (binaryOp .LShift) (rI CPow fun i j => .int (i * 2 ^ j.toNat)) := opI fun _ _ _ _ _ _ _ hc q => lshift_int_small hc.1 hc.2.1 hc.2.2 q
theorem op_or : OpR X (binaryOp .BitOr) (rI0 fun i j => .int (Builtin.bitOr i j)) := opI0 fun _ _ _ _ _ _ _ q => or_int q
theorem unI {f : Value → Sem Value} {g : Int → Int}
    (rule : ∀ (i : Int) (t : Tok) (s : Shared) (Q : Value → Shared → Prop) (E : Value → Shared → Prop), Q (.int (g i) s.toks) { s with toks := s.toks + 1 } → wpAny (model X.prog X.w) X.A (f (.int i t)) Q E s) :
    UnR X f (rU fun i => .int (g i)) := by
  intro pins s σ H x v Q I rx h
  obtain ⟨i, rfl, q⟩ := h
  obtain ⟨t, rfl⟩ := rx
  exact rule i t s _ _ ⟨.int (g i), H, I.tok _, ⟨_, rfl⟩, q⟩
theorem un_neg : UnR X (unaryOp .USub) (rU fun i => .int (-i)) := unI fun _ _ _ _ _ q => neg_int q
end
def scal : V → V → Bool
  | .non, .non => true | .non, .int _ => true | .int _, .non => true | .non, .bl _ => true | .bl _, .non => true | .non, .str _ => true | .str _, .non => true
  | .int _, .int _ => true | .bl _, .bl _ => true | .str _, .str _ => true | .byt _, .byt _ => true
  | .int _, .str _ => true | .str _, .int _ => true | .bl _, .str _ => true | .str _, .bl _ => true
  | _, _ => false
def rEq : R2 := fun x y H Q => scal x y = true ∧ Q (.bl (decide (x = y))) H
def rNe : R2 := fun x y H Q => scal x y = true ∧ Q (.bl (!decide (x = y))) H
theorem dec_int {i j : Int} : decide (V.int i = V.int j) = (i == j) := by
  rw [Bool.eq_iff_iff]
  simp
theorem dec_bl {i j : Bool} : decide (V.bl i = V.bl j) = (i == j) := by
  rw [Bool.eq_iff_iff]
  simp
theorem dec_str {i j : Str} : decide (V.str i = V.str j) = (i == j) := by
  rw [Bool.eq_iff_iff]
  simp
theorem dec_byt {i j : Array UInt8} : decide (V.byt i = V.byt j) = (i.toList == j.toList) := by
  rw [Bool.eq_iff_iff]
  cases i
  cases j
  simp
section
variable {X : Cx} {a b c : Expr} {ta tb tc : TE} {pos : Pos}
theorem fin_bl {pins : List (Addr × Obj)} {σ : St} {H : Hp} {s : Shared} {Q : VK} {k k' : Bool} (I : Inv X pins σ H s) (q : Q (.bl k) H) (e : k = k') : EP X pins σ Q (.bool k') s := by
  subst e
  exact ⟨.bl k, H, I, rfl, q⟩
theorem op_eq : OpR X (compareOp .Eq) rEq := by
  intro pins s σ H x y v u Q I rx ry h
  obtain ⟨hs, q⟩ := h
  cases x with
  | non =>
    cases rx
    cases y with
    | non => cases ry; exact PySem.EqNone.eq_none_none (fin_bl I q (by simp))
    | bl j => cases ry; exact PySem.EqNone.eq_none_bool (fin_bl I q (by simp))
    | int j => obtain ⟨t', rfl⟩ := ry; exact PySem.EqNone.eq_none_int (fin_bl I q (by simp))
    | str j => obtain ⟨t', rfl⟩ := ry; exact PySem.EqNone.eq_none_str (fin_bl I q (by simp))
    | _ => exact absurd (show false = true from hs) Bool.false_ne_true
  | bl i =>
    cases rx
    cases y with
    | non => cases ry; exact PySem.EqNone.eq_bool_none (fin_bl I q (by simp))
    | bl j => cases ry; exact eq_bool (fin_bl I q dec_bl)
    | str j => obtain ⟨t', rfl⟩ := ry; exact PySem.EqMixed.eq_bool_str (fin_bl I q (by simp))
    | _ => exact absurd (show false = true from hs) Bool.false_ne_true
  | int i =>
    obtain ⟨t, rfl⟩ := rx
    cases y with
    | non => cases ry; exact PySem.EqNone.eq_int_none (fin_bl I q (by simp))
    | int j => obtain ⟨t', rfl⟩ := ry; exact eq_int (fin_bl I q dec_int)
    | str j => obtain ⟨t', rfl⟩ := ry; exact PySem.EqMixed.eq_int_str (fin_bl I q (by simp))
    | _ => exact absurd (show false = true from hs) Bool.false_ne_true
  | str i =>
    obtain ⟨t, rfl⟩ := rx
    cases y with
    | non => cases ry; exact PySem.EqNone.eq_str_none (fin_bl I q (by simp))
    | bl j => cases ry; exact PySem.EqMixed.eq_str_bool (fin_bl I q (by simp))
    | int j => obtain ⟨t', rfl⟩ := ry; exact PySem.EqMixed.eq_str_int (fin_bl I q (by simp))
    | str j => obtain ⟨t', rfl⟩ := ry; exact eq_str (fin_bl I q dec_str)
    | _ => exact absurd (show false = true from hs) Bool.false_ne_true
  | byt i =>
    obtain ⟨t, rfl⟩ := rx
    cases y with
    | byt j => obtain ⟨t', rfl⟩ := ry; exact PySem.W.eq_bytes (fin_bl I q dec_byt)
    | _ => exact absurd (show false = true from hs) Bool.false_ne_true
  | _ => cases y <;> exact absurd (show false = true from hs) Bool.false_ne_true
theorem op_ne : OpR X (compareOp .NotEq) rNe := by
  intro pins s σ H x y v u Q I rx ry h
  obtain ⟨hs, q⟩ := h
  cases x with
  | non =>
    cases rx
    cases y with
    | non => cases ry; exact PySem.EqNone.ne_none_none (fin_bl I q (by simp))
    | bl j => cases ry; exact PySem.EqNone.ne_none_bool (fin_bl I q (by simp))
    | int j => obtain ⟨t', rfl⟩ := ry; exact PySem.EqNone.ne_none_int (fin_bl I q (by simp))
    | str j => obtain ⟨t', rfl⟩ := ry; exact PySem.EqNone.ne_none_str (fin_bl I q (by simp))
    | _ => exact absurd (show false = true from hs) Bool.false_ne_true
  | bl i =>
    cases rx
    cases y with
    | non => cases ry; exact PySem.EqNone.ne_bool_none (fin_bl I q (by simp))
    | bl j => cases ry; exact ne_bool (fin_bl I q (congrArg not dec_bl))
    | str j => obtain ⟨t', rfl⟩ := ry; exact PySem.EqMixed.ne_bool_str (fin_bl I q (by simp))
    | _ => exact absurd (show false = true from hs) Bool.false_ne_true
  | int i =>
    obtain ⟨t, rfl⟩ := rx
    cases y with
    | non => cases ry; exact PySem.EqNone.ne_int_none (fin_bl I q (by simp))
    | int j => obtain ⟨t', rfl⟩ := ry; exact ne_int (fin_bl I q (congrArg not dec_int))
    | str j => obtain ⟨t', rfl⟩ := ry; exact PySem.EqMixed.ne_int_str (fin_bl I q (by simp))
    | _ => exact absurd (show false = true from hs) Bool.false_ne_true
  | str i =>
    obtain ⟨t, rfl⟩ := rx
    cases y with
    | non => cases ry; exact PySem.EqNone.ne_str_none (fin_bl I q (by simp))
    | bl j => cases ry; exact PySem.EqMixed.ne_str_bool (fin_bl I q (by simp))
    | int j => obtain ⟨t', rfl⟩ := ry; exact PySem.EqMixed.ne_str_int (fin_bl I q (by simp))
    | str j => obtain ⟨t', rfl⟩ := ry; exact ne_str (fin_bl I q (congrArg not dec_str))
    | _ => exact absurd (show false = true from hs) Bool.false_ne_true
  | byt i =>
    obtain ⟨t, rfl⟩ := rx
    cases y with
    | byt j => obtain ⟨t', rfl⟩ := ry; exact PySem.W.ne_bytes (fin_bl I q (congrArg not dec_byt))
    | _ => exact absurd (show false = true from hs) Bool.false_ne_true
  | _ => cases y <;> exact absurd (show false = true from hs) Bool.false_ne_true
theorem op_lt : OpR X (compareOp .Lt) (rI0 fun i j => .bl (decide (i < j))) := opB0 fun _ _ _ _ _ _ _ q => lt_int q
theorem op_le : OpR X (compareOp .LtE) (rI0 fun i j => .bl (decide (i ≤ j))) := opB0 fun _ _ _ _ _ _ _ q => le_int q
theorem op_gt : OpR X (compareOp .Gt) (rI0 fun i j => .bl (decide (j < i))) := opB0 fun _ _ _ _ _ _ _ q => gt_int q
theorem op_ge : OpR X (compareOp .GtE) (rI0 fun i j => .bl (decide (j ≤ i))) := opB0 fun _ _ _ _ _ _ _ q => ge_int q
theorem nomark (b : Expr) {op : CmpOp} (h : op ≠ .In := by decide) (h2 : op ≠ .NotIn := by decide) : behindInMarks op b = false := by
  have e1 : (op == CmpOp.In) = false := by cases op <;> first | rfl | exact absurd rfl h
  have e2 : (op == CmpOp.NotIn) = false := by cases op <;> first | rfl | exact absurd rfl h2
  cases b <;> simp [behindInMarks, e1, e2]
theorem pe_cmpR {op : CmpOp} {r : R2} (ho : OpR X (compareOp op) r) (ha : PE X a ta) (hb : PE X b tb) (hm : behindInMarks op b = false) : PE X (.Compare a [op] [b] pos) (tOp r ta tb) := by
  intro pins s σ H Q I h
  exact wpAny_Compare1 (binT ha hb I h fun v u s2 x y H2 I2 rx ry q => ho pins s2 σ H2 x y v u Q I2 rx ry q) hm
def tTest (t : TE) : TT := fun σ H Q => t σ H fun x H' => ∃ k, x = .bl k ∧ Q k H'
theorem pt_cmpR {op : CmpOp} {r : R2} (ho : OpR X (compareOp op) r) (ha : PE X a ta) (hb : PE X b tb) (hm : behindInMarks op b = false) : PT X (.Compare a [op] [b] pos) (tTest (tOp r ta tb)) := by
  intro pins s σ H Q I h
  refine wpAny_isTrue_Compare1 (thn (ha pins s σ H _ I h) fun v s1 ⟨x, H1, I1, r1, q1⟩ => thn (hb pins s1 σ H1 _ I1 q1) fun u s2 ⟨y, H2, I2, r2, q2⟩ =>
    thn (ho pins s2 σ H2 x y v u _ I2 r1 r2 q2) fun c s3 ⟨z, H3, I3, r3, k, e, q3⟩ => ?_) hm
  subst e
  cases r3
  exact wpAny_truthy_bool ⟨H3, I3, q3⟩
def tChain (r r' : R2) (ta tb tc : TE) : TE := fun σ H Q => ta σ H fun x H1 => tb σ H1 fun y H2 => r x y H2 fun z H3 => ∃ k, z = .bl k ∧
  (if k = true then tc σ H3 fun w' H4 => r' y w' H4 Q else Q (.bl false) H3)
theorem pe_chain {op op' : CmpOp} {r r' : R2} (ho : OpR X (compareOp op) r) (ho' : OpR X (compareOp op') r') (ha : PE X a ta) (hb : PE X b tb) (hc : PE X c tc)
    (hm : lastMarks [op, op'] [b, c] = false := by with_unfolding_all rfl) : PE X (.Compare a [op, op'] [b, c] pos) (tChain r r' ta tb tc) := by
  intro pins s σ H Q I h
  refine Compare_chain (thn (ha pins s σ H _ I h) fun v s1 ⟨x, H1, I1, r1, q1⟩ => chain_link (thn (hb pins s1 σ H1 _ I1 q1) fun u s2 ⟨y, H2, I2, r2, q2⟩ =>
    thn (ho pins s2 σ H2 x y v u _ I2 r1 r2 q2) fun d s3 ⟨z, H3, I3, r3, k, e, q3⟩ => ?_)) hm
  subst e
  cases r3
  refine wpAny_truthy_bool ?_
  cases k with
  | false => exact ite_ff ⟨.bl false, H3, I3, rfl, q3⟩
  | true => exact ite_tt (chain_last (thn (hc pins s3 σ H3 _ I3 q3) fun w' s4 ⟨z', H4, I4, r4, q4⟩ => ho' pins s4 σ H4 y z' u w' Q I4 r2 r4 q4))
theorem line63 : (sizeLine : Nat) < 2 ^ 63 := by rw [sizeLine_eq]; decide
theorem vals1 {x : V} {us : List Value} (r : Vals [x] us) : ∃ u, us = [u] ∧ RelV x u := by
  cases r with
  | cons r1 r2 => cases r2; exact ⟨_, rfl, r1⟩
end
end L2
namespace L2
open PySem PySem.Spec PyProof.Rows
structure ObjM (h : Heap) (x dx C : Addr) (mA : Str → Option Value) : Prop where
  obj : h.get? x = some (PySem.W.instObj C dx)
  ns : h.Ns1 dx mA
  ne : dx ≠ x
theorem lookIn_ns {h : Heap} {dx : Addr} {mA : Str → Option Value} (n : h.Ns1 dx mA) : ∃ od, h.get? dx = some od ∧ ∀ name, PySem.W.lookIn name od = some (mA name) := by
  obtain ⟨o, es, ep, ho, hd, hk, _, hm⟩ := n
  refine ⟨o, ho, fun name => ?_⟩
  have e := hm name
  unfold nsFind findBy at e
  rw [← Array.find?_toList] at e
  unfold PySem.W.lookIn
  rw [hd]
  dsimp only
  split
  · rename_i y q
    rw [q] at e
    exact congrArg some e
  · rename_i q
    rw [q] at e
    have a : es.toList.any (·.refKey) = false := by
      rw [List.any_eq_false]
      intro y hy
      obtain ⟨z, t, hkey⟩ := hk y (Array.mem_toList_iff.mp hy)
      simp [DictEntry.refKey, hkey]
    have a' : ¬ es.toList.any (·.refKey) = true := by rw [a]; exact Bool.false_ne_true
    rw [if_neg a']
    exact congrArg some e
theorem ObjM.look {h : Heap} {x dx C : Addr} {mA : Str → Option Value} (I : ObjM h x dx C mA) : ∃ od, PySem.W.InstAt h x (PySem.W.instObj C dx) C (some od) ∧ ∀ name, PySem.W.lookIn name od = some (mA name) :=
  let ⟨od, ho, hl⟩ := lookIn_ns I.ns
  ⟨od, ⟨I.obj, rfl, rfl, ho⟩, hl⟩
section
variable {prog : Program} {w : World} {A : Around} {E : Value → Shared → Prop} {s : Shared} {K : PySem.W.Frag} {x dx C f : Addr} {mA : Str → Option Value} {name : Str} {v : Value}
theorem get_map {expr : Bool} {Q : Value → Shared → Prop} (X : K.In s.heap) (I : ObjM s.heap x dx C mA) (hg : PySem.W.plainGet K C name = true) (hh : PySem.W.hasDictIn K C = true)
    (ha : PySem.W.findIn K (.ref C) name = some none) (hv : mA name = some v) (hv' : PySem.W.handedIn v = true) (h : Q v { s with toks := s.toks + 1 }) :
    wpAny (model prog w) A (getAttr (.ref x) name expr) Q E s := by
  obtain ⟨od, J, hl⟩ := I.look
  exact PySem.W.get_value X J (PySem.W.plainGet_of hg).1 (PySem.W.findObj_own hh ha rfl (by rw [hl, hv])) hv' h
theorem get_meth {pl : Sem Bool} {Q : Value × List Value → Shared → Prop} (X : K.In s.heap) (I : ObjM s.heap x dx C mA) (hg : PySem.W.plainGet K C name = true)
    (hf : PySem.W.findIn K (.ref C) name = some (some (.ref f))) (ht : PySem.W.isFn K (.ref f) = true) (hv : mA name = none) (h : Q (.ref f, [.ref x]) s) :
    wpAny (model prog w) A (getMethod (.ref x) name pl) Q E s := by
  obtain ⟨od, J, hl⟩ := I.look
  exact PySem.W.method_fn X J (PySem.W.plainGet_of hg).1 (PySem.W.plainGet_of hg).2 hf (beq_iff_eq.mp ht) (by show (PySem.W.lookIn name od).map (·.isSome) = some false; rw [hl, hv]; rfl) h
theorem set_map {ns : List Str} {Q : Unit → Shared → Prop} (X : K.In s.heap) (I : ObjM s.heap x dx C mA)
    (hs : PySem.W.findIn K (.ref C) "__setattr__" = some (some (.builtin "object.__setattr__"))) (hp : PySem.W.plainOver K C = true) (ht : PySem.W.takerIn K C name = some none) (hh : PySem.W.hasDictIn K C = true)
    (hw : PySem.Within mA ns) (hsz : ns.length ≤ sizeLine)
    (h : ∀ h', ObjM h' x dx C (fun y => if y = name then some v else mA y) → Heap.SameBut dx s.heap h' → Q () { s with heap := h', toks := s.toks + 2 }) :
    wpAny (model prog w) A (setAttr (.ref x) name v) Q E s := by
  obtain ⟨od, J, hl⟩ := I.look
  refine PySem.W.set_plain X J hs (PySem.W.osa_open (s := { s with toks := s.toks + 1 }) (r := none) X J hp ht fun b => ?_)
  obtain ⟨cd, hc, hd'⟩ := PySem.W.any_some hh
  have hx : s.heap.get? x = some ⟨.ref C, some dx, .plain, #[]⟩ := I.obj
  refine wpAny_bind (wpAny_pure (wpAny_bind (wpAny_bind (wpAny_loadPart hx (wpAny_bind (PySem.W.Looks.here (s := { s with toks := s.toks + 1 }) (PySem.W.looks_clsIn X hc) ?_))))))
  rw [hd']
  refine wpAny_pure (a := some dx) (wpAny_bind (wpAny_pure (wpAny_bind ?_)))
  refine wpAny_nsSet1 (s := { s with toks := s.toks + 1 }) I.ns fun h' hn2 hs2 => ?_
  obtain ⟨oD, esD, epD, hoD, hdD, hcD⟩ := hn2.count (PySem.Within.cons name v hw)
  refine wpAny_bind (wpAny_lookBehind hoD (by rw [hdD]; exact pastItsLine_dict (Nat.le_trans hcD (by rw [List.length_cons]; omega))) ?_)
  exact wpAny_pure (h _ ⟨(hs2.2 _ (Ne.symm I.ne)).trans I.obj, hn2, I.ne⟩ hs2)
theorem make_map {R : Result → Shared → Prop} {vs : List Value} {kw : List (Str × Value)} (X : K.In s.heap) (hm : PySem.W.makesIn K C = true)
    (hi : PySem.W.findIn K (.ref C) "__init__" = some (some (.ref f))) (hf : PySem.W.typeIn K (.ref f) = some (.type "function"))
    (h : codeAny (model prog w) (A.under (.builtin "type.__call__" ⟨.ref C :: vs, kw⟩)) (.call (.ref f) ⟨.ref (s.heap.objs.size + 1) :: vs, kw⟩) (PySem.W.InitBack (s.heap.objs.size + 1) R)
      { s with heap := (s.heap.push PySem.W.emptyDict).push (PySem.W.instObj C s.heap.objs.size) }) :
    codeAny (model prog w) A (.call (.ref C) ⟨vs, kw⟩) R s := by
  obtain ⟨hh, g, d, t, os⟩ := s
  exact PySem.W.make_core (PySem.W.makes_of X hm) (PySem.W.looks_findIn X hi) (fun self => PySem.W.bind_fn X self hf) (.inl rfl) h
end
def putF (f : Str) (v : V) : List (Str × V) → List (Str × V)
  | [] => [(f, v)]
  | (g, x) :: r => if g = f then (g, v) :: r else (g, x) :: putF f v r
theorem lookup_putF (f g : Str) (v : V) : ∀ fs : List (Str × V), (putF f v fs).lookup g = if g = f then some v else fs.lookup g
  | [] => by
    show List.lookup g [(f, v)] = _
    by_cases h : g = f
    · have hb : (g == f) = true := beq_iff_eq.mpr h
      simp only [List.lookup, hb, if_pos h]
    · have hb : (g == f) = false := beq_eq_false_iff_ne.mpr h
      simp only [List.lookup, hb, if_neg h]
  | (k, x) :: r => by
    have ih := lookup_putF f g v r
    rw [show putF f v ((k, x) :: r) = (if k = f then (k, v) :: r else (k, x) :: putF f v r) from rfl]
    by_cases hk : k = f
    · rw [if_pos hk]
      by_cases h : g = k
      · have hb : (g == k) = true := beq_iff_eq.mpr h
        simp only [List.lookup, hb, if_pos (h.trans hk)]
      · have hb : (g == k) = false := beq_eq_false_iff_ne.mpr h
        simp only [List.lookup, hb, if_neg (fun e : g = f => h (e.trans hk.symm))]
    · rw [if_neg hk]
      by_cases h : g = k
      · have hb : (g == k) = true := beq_iff_eq.mpr h
        simp only [List.lookup, hb, if_neg (fun e : g = f => hk (h.symm.trans e))]
      · have hb : (g == k) = false := beq_eq_false_iff_ne.mpr h
        simp only [List.lookup, hb]
        exact ih
theorem keys_putF (f : Str) (v : V) : ∀ fs : List (Str × V), f ∈ (putF f v fs).map (·.1) ∧ ∀ g, g ∈ fs.map (·.1) → g ∈ (putF f v fs).map (·.1)
  | [] => ⟨by simp [putF], fun g h => by simp at h⟩
  | (k, x) :: r => by
    obtain ⟨i1, i2⟩ := keys_putF f v r
    rw [show putF f v ((k, x) :: r) = (if k = f then (k, v) :: r else (k, x) :: putF f v r) from rfl]
    by_cases hk : k = f
    · rw [if_pos hk]
      subst hk
      exact ⟨by simp, fun g h => by simpa using h⟩
    · rw [if_neg hk]
      refine ⟨?_, fun g h => ?_⟩
      · rw [List.map_cons]
        exact List.mem_cons_of_mem _ i1
      · rw [List.map_cons] at h ⊢
        rcases List.mem_cons.mp h with e | e
        · exact List.mem_cons.mpr (.inl e)
        · exact List.mem_cons_of_mem _ (i2 g e)
theorem length_putF (f : Str) (v : V) : ∀ fs : List (Str × V), (putF f v fs).length ≤ fs.length + 1
  | [] => by simp [putF]
  | (k, x) :: r => by
    have ih := length_putF f v r
    rw [show putF f v ((k, x) :: r) = (if k = f then (k, v) :: r else (k, x) :: putF f v r) from rfl]
    by_cases hk : k = f
    · rw [if_pos hk, List.length_cons, List.length_cons]; omega
    · rw [if_neg hk, List.length_cons, List.length_cons]; omega
theorem RelO.some_of {v : V} {o : Option Value} (r : RelO (some v) o) : ∃ u, o = some u ∧ RelV v u := by
  cases o with
  | none => exact (show False from r).elim
  | some u => exact ⟨u, rfl, r⟩
theorem RelO.none_of {o : Option Value} (r : RelO none o) : o = none := by
  cases o with
  | none => rfl
  | some u => exact (show False from r).elim
theorem handed_of {v : V} {u : Value} (r : RelV v u) : PySem.W.handedIn u = true := by
  cases v with
  | non => cases (show u = Value.none from r); rfl
  | bl b => cases (show u = Value.bool b from r); rfl
  | int i => obtain ⟨t, e⟩ := (show ∃ t, u = Value.int i t from r); cases e; rfl
  | str x => obtain ⟨t, e⟩ := (show ∃ t, u = Value.str x t from r); cases e; rfl
  | byt b => obtain ⟨t, e⟩ := (show ∃ t, u = Value.bytes b t from r); cases e; rfl
  | flt b => obtain ⟨t, e⟩ := (show ∃ t, u = Value.float b t from r); cases e; rfl
  | ref a => cases (show u = Value.ref a from r); rfl
  | ty n => cases (show u = Value.type n from r); rfl
section
variable {P : Program} {w : World} {H H' : Hp} {h h' : Heap} {a C dx : Addr} {fs fs' : List (Str × V)}
theorem ins_get (hok : HOk P w H h) (e : H a = some (.ins C dx fs)) : ∃ mA, ObjM h a dx C mA ∧ (∀ f, RelO (fs.lookup f) (mA f)) ∧ PySem.Within mA (fs.map (·.1)) ∧ fs.length ≤ 1000 ∧ H dx = some (.own a) := by
  obtain ⟨d, z, ne, ob, mA, n, r, q⟩ := (show ObjOk P w H h a (.ins C dx fs) from hok a _ e)
  exact ⟨mA, ⟨ob, n, ne⟩, r, q, z, d⟩
end
structure Cls (K : PySem.W.Frag) (C : Addr) : Prop where
  pg : PySem.W.plainGet K C Str.empty = true
  hd : PySem.W.hasDictIn K C = true
  po : PySem.W.plainOver K C = true
  sa : PySem.W.findIn K (.ref C) "__setattr__" = some (some (.builtin "object.__setattr__"))
theorem Cls.get {K : PySem.W.Frag} {C : Addr} (c : Cls K C) (f : Str) : PySem.W.plainGet K C f = true := c.pg
def NoAttr (K : PySem.W.Frag) (C : Addr) (f : Str) : Prop := PySem.W.findIn K (.ref C) f = some none
theorem NoAttr.taker {K : PySem.W.Frag} {C : Addr} {f : Str} (n : NoAttr K C f) : PySem.W.takerIn K C f = some none := by
  unfold PySem.W.takerIn
  rw [show PySem.W.findIn K (.ref C) f = some none from n]
  rfl
structure Con (K : PySem.W.Frag) (C : Addr) (f : Str) (v : V) (u : Value) : Prop where
  at_ : PySem.W.findIn K (.ref C) f = some (some u)
  rel : RelV v u
  get : PySem.W.specialIn K u "__get__" = some none
  cp : PySem.W.copiedNames.contains f = false
structure Meth (K : PySem.W.Frag) (C : Addr) (m : Str) (f : Addr) : Prop where
  at_ : PySem.W.findIn K (.ref C) m = some (some (.ref f))
  fn : PySem.W.isFn K (.ref f) = true
  kp : PySem.W.keepIn K (.ref f) = true
section
variable {X : Cx} {pins : List (Addr × Obj)} {σ : St} {H : Hp} {s : Shared} {a C dx : Addr} {fs : List (Str × V)} {f : Str} {v : V} {A : Around} {E : Value → Shared → Prop}
theorem getattr_ok {b : Bool} {Q : Value → Shared → Prop} (I : Inv X pins σ H s) (e : H a = some (.ins C dx fs)) (c : Cls X.K C) (n : NoAttr X.K C f) (l : fs.lookup f = some v)
    (h : ∀ u s', Inv X pins σ H s' → RelV v u → Q u s') : wpAny (model X.prog X.w) A (getAttr (.ref a) f b) Q E s := by
  obtain ⟨mA, O, r, _, _, _⟩ := ins_get I.hok e
  obtain ⟨u, hu, ru⟩ := RelO.some_of (v := v) (o := mA f) (by rw [← l]; exact r f)
  exact get_map I.kIn O (c.get f) c.hd n hu (handed_of ru) (h u _ (I.tok _) ru)
theorem getmeth_ok {m : Str} {g : Addr} {pl : Sem Bool} {Q : Value × List Value → Shared → Prop} (I : Inv X pins σ H s) (e : H a = some (.ins C dx fs)) (c : Cls X.K C) (k : Meth X.K C m g) (l : fs.lookup m = none)
    (h : Q (.ref g, [.ref a]) s) : wpAny (model X.prog X.w) A (getMethod (.ref a) m pl) Q E s := by
  obtain ⟨mA, O, r, _, _, _⟩ := ins_get I.hok e
  have hn : mA m = none := RelO.none_of (by rw [← l]; exact r m)
  exact get_meth I.kIn O (c.get m) k.at_ k.fn hn h
theorem setattr_ok {y : V} {u : Value} {Q : Unit → Shared → Prop} (I : Inv X pins σ H s) (e : H a = some (.ins C dx fs)) (c : Cls X.K C) (n : NoAttr X.K C f) (hl : fs.length < 1000) (ry : RelV y u)
    (h : ∀ s', Inv X pins σ (upd H a (.ins C dx (putF f y fs))) s' → Q () s') : wpAny (model X.prog X.w) A (setAttr (.ref a) f u) Q E s := by
  obtain ⟨mA, O, r, wi, _, ho⟩ := ins_get I.hok e
  have hz : (fs.map (·.1)).length ≤ sizeLine := by rw [List.length_map, sizeLine_eq]; omega
  refine set_map I.kIn O c.sa c.po n.taker c.hd wi hz fun h' O' sb => h _ ?_
  have hd : ∃ o, h'.get? dx = some o := let ⟨o, _, _, e', _⟩ := O'.ns; ⟨o, e'⟩
  refine I.write (x := a) (e := dx) (by rw [e]; exact True.intro) (.inr ho) (fun b q hb z => (sb.2 b hb).trans z) hd ?_
  refine ⟨by rw [upd_ne O.ne]; exact ho, ?_, O.ne, O'.obj, _, O'.ns, fun g => ?_, fun g hg => ?_⟩
  · have := length_putF f y fs; omega
  · show RelO ((putF f y fs).lookup g) (if g = f then some u else mA g)
    rw [lookup_putF]
    by_cases q : g = f
    · rw [if_pos q, if_pos q]; exact ry
    · rw [if_neg q, if_neg q]; exact r g
  · by_cases q : g = f
    · rw [q]; exact (keys_putF f y fs).1
    · refine (keys_putF f y fs).2 g (wi g fun z => hg ?_)
      show (if g = f then some u else mA g) = none
      rw [if_neg q]; exact z
theorem Inv.made (I : Inv X pins σ H s) : Inv X pins σ (upd (upd H s.heap.objs.size (.own (s.heap.objs.size + 1))) (s.heap.objs.size + 1) (.ins C s.heap.objs.size []))
    { s with heap := (s.heap.push PySem.W.emptyDict).push (PySem.W.instObj C s.heap.objs.size) } := by
  have e1 : (s.heap.push PySem.W.emptyDict).get? s.heap.objs.size = some PySem.W.emptyDict := Heap.get?_push_size s.heap rfl
  have e2 : ((s.heap.push PySem.W.emptyDict).push (PySem.W.instObj C s.heap.objs.size)).get? (s.heap.objs.size + 1) = some (PySem.W.instObj C s.heap.objs.size) := by
    have := Heap.get?_push_size (s.heap.push PySem.W.emptyDict) (o := PySem.W.instObj C s.heap.objs.size) rfl
    rwa [Heap.size_push] at this
  have e3 : (s.heap.push PySem.W.emptyDict).Ns s.heap.objs.size (fun _ => none) := ⟨PySem.W.emptyDict, #[], _, e1, rfl, (fun e he => absurd he (by simp)), fun _ => rfl⟩
  have I1 := I.laid (a := s.heap.objs.size) (o := .own (s.heap.objs.size + 1)) (h' := s.heap.push PySem.W.emptyDict) (t' := s.toks) (fun b u q => Heap.get?_push_of_some _ q) (Nat.le_refl _) ⟨_, e1⟩
  refine I1.laid (a := s.heap.objs.size + 1) (o := .ins C s.heap.objs.size []) (t' := s.toks) (fun b u q => Heap.get?_push_of_some _ q) (Nat.le_of_eq (Heap.size_push _ _)) ?_
  have ne : s.heap.objs.size ≠ s.heap.objs.size + 1 := Nat.ne_of_lt (Nat.lt_succ_self _)
  refine ⟨by rw [upd_ne ne, upd_same], Nat.zero_le _, ne, e2, fun _ => none, (Heap.Ns1.of_empty e3).at fun o q => Heap.get?_push_of_some _ q, fun _ => True.intro, fun y hy => absurd rfl hy⟩
theorem attr_of {prog : Program} {w : World} {env : Env} {e : Expr} {f : Str} {pos : Pos} {s : Shared} {Q : Value → Shared → Prop} (hb : attributeBase e f env (eval e env) = eval e env)
    (h : wpAny (model prog w) A (eval e env) (fun o s₁ => wpAny (model prog w) A (getAttr o f true) Q E s₁) E s) : wpAny (model prog w) A (eval (.Attribute e f pos) env) Q E s :=
  Attribute_any_ h (by rw [arm_eval_Attribute, hb])
end
def tFld (K : PySem.W.Frag) (ta : TE) (f : Str) : TE := fun σ H Q => ta σ H fun x H1 => ∃ a C dx fs v, x = .ref a ∧ H1 a = some (.ins C dx fs) ∧ Cls K C ∧ NoAttr K C f ∧ fs.lookup f = some v ∧ Q v H1
def sFld (K : PySem.W.Frag) (ta tv : TE) (f : Str) : TS := fun D σ H => tv σ H fun y H1 => ta σ H1 fun x H2 => ∃ a C dx fs, x = .ref a ∧ H2 a = some (.ins C dx fs) ∧ Cls K C ∧ NoAttr K C f ∧ fs.length < 1000 ∧
  D.nx σ (upd H2 a (.ins C dx (putF f y fs)))
def InOp (X : Cx) (op : Operator) (rd : V → V → Hp → VK → Prop) : Prop :=
  ∀ (pins : List (Addr × Obj)) (s : Shared) (σ : St) (H : Hp) (x y : V) (u v : Value) (Q : VK), Inv X pins σ H s → RelV x u → RelV y v → rd x y H Q → wpAny (model X.prog X.w) X.A (inplaceOp op u v) (EP X pins σ Q) X.xe s
def sFldAug (K : PySem.W.Frag) (ta tv : TE) (rd : V → V → Hp → VK → Prop) (f : Str) : TS := fun D σ H => ta σ H fun x H1 => ∃ a C dx fs v, x = .ref a ∧ H1 a = some (.ins C dx fs) ∧ Cls K C ∧ NoAttr K C f ∧ fs.lookup f = some v ∧
  tv σ H1 fun y H2 => rd v y H2 fun z H3 => ∃ dx' fs', H3 a = some (.ins C dx' fs') ∧ fs'.length < 1000 ∧ D.nx σ (upd H3 a (.ins C dx' (putF f z fs')))
section
variable {X : Cx} {o e value : Expr} {f : Str} {pos pos' tpos : Pos} {ta tv : TE}
theorem pe_fld (he : PE X e ta) (hb : attributeBase e f X.env (eval e X.env) = eval e X.env) : PE X (.Attribute e f pos) (tFld X.K ta f) := by
  intro pins s σ H Q I h
  refine attr_of hb (thn (he pins s σ H _ I h) fun u s1 ⟨x, H1, I1, rx, a, C, dx, fs, v, ex, ea, c, n, l, q⟩ => ?_)
  subst ex
  obtain rfl : u = Value.ref a := rx
  exact getattr_ok I1 ea c n l fun u' s2 I2 ru => ⟨v, H1, I2, ru, q⟩
theorem ps_fld (ha : PE X o ta) (hv : PE X value tv) (hs : swapsWith value (some (.Attribute o f pos')) pos.line X.env = pure false) : PS X (.Assign [.Attribute o f pos'] value pos) (sFld X.K ta tv f) := by
  intro pins s σ H D I h
  refine plainObj_wpAny_Assign_Attribute (thn (hv pins s σ H _ I h) fun u s1 ⟨y, H1, I1, ry, q⟩ => thn (ha pins s1 σ H1 _ I1 q) fun ov s2 ⟨x, H2, I2, rx, a, C, dx, fs, ex, ea, c, n, l, q2⟩ => ?_) hs
  subst ex
  obtain rfl : ov = Value.ref a := rx
  exact setattr_ok I2 ea c n l ry fun s3 I3 => ⟨σ, _, I3, q2⟩
theorem ps_fldaug {op : Operator} {rd : V → V → Hp → VK → Prop} (ha : PE X o ta) (hv : PE X value tv) (hop : InOp X op rd) : PS X (.AugAssign (.Attribute o f tpos) op value pos) (sFldAug X.K ta tv rd f) := by
  intro pins s σ H D I h
  refine wpAny_AugAssign_AttributeAny (thn (ha pins s σ H _ I h) fun ov s1 ⟨x, H1, I1, rx, a, C, dx, fs, v, ex, ea, c, n, l, q⟩ => ?_)
  subst ex
  obtain rfl : ov = Value.ref a := rx
  refine getattr_ok I1 ea c n l fun u s2 I2 ru => thn (hv pins s2 σ H1 _ I2 q) fun w3 s3 ⟨y, H2, I3, ry, q3⟩ => thn (hop pins s3 σ H2 v y u w3 _ I3 ru ry q3) fun w4 s4 ⟨z, H3, I4, rz, dx', fs', ea', l', q4⟩ => ?_
  exact setattr_ok I4 ea' c n l' rz fun s5 I5 => ⟨σ, _, I5, q4⟩
def rAdd : V → V → Hp → VK → Prop := fun x y H Q => ∃ i j, x = .int i ∧ y = .int j ∧ Q (.int (i + j)) H
theorem in_add : InOp X .Add rAdd := by
  rintro pins s σ H x y u v Q I rx ry ⟨i, j, rfl, rfl, q⟩
  obtain ⟨t, rfl⟩ := (show ∃ t, u = Value.int i t from rx)
  obtain ⟨t', rfl⟩ := (show ∃ t', v = Value.int j t' from ry)
  exact PyProof.Rows.iadd_int ⟨.int (i + j), H, I.tok _, ⟨_, rfl⟩, q⟩
end
section
variable {X : Cx} {pins : List (Addr × Obj)} {σ : St} {H : Hp} {s : Shared} {A : Around} {E : Value → Shared → Prop} {Q : Value → Shared → Prop} {c : Value} {b : Bool}
inductive TyOf (K : PySem.W.Frag) (H : Hp) : V → Value → Prop where
  | non : TyOf K H .non (.type "NoneType")
  | bl (x : Bool) : TyOf K H (.bl x) (.type "bool")
  | int (i : Int) : TyOf K H (.int i) (.type "int")
  | str (x : Str) : TyOf K H (.str x) (.type "str")
  | flt (x : UInt64) : TyOf K H (.flt x) (.type "float")
  | lst {a : Addr} {xs : List V} (e : H a = some (.lst xs)) : TyOf K H (.ref a) (.type "list")
  | frz {a : Addr} {o : Obj} {xs : List V} (e : H a = some (.frz o (.lst xs))) : TyOf K H (.ref a) (.type "list")
  | tup {a : Addr} {xs : List V} (e : H a = some (.tup xs)) : TyOf K H (.ref a) (.type "tuple")
  | dK {a : Addr} {kvs : List (Key × V)} (e : H a = some (.dK kvs)) : TyOf K H (.ref a) (.type "dict")
  | dT {a : Addr} {kvs : List (List Key × V)} (e : H a = some (.dT kvs)) : TyOf K H (.ref a) (.type "dict")
  | ins {a C dx : Addr} {fs : List (Str × V)} (e : H a = some (.ins C dx fs)) (cl : Cls K C) (ha : PySem.W.findIn K (.ref C) "__class__" = some (some (.builtin "object.__class__")))
      (hn : PySem.W.specialIn K (.builtin "object.__class__") "__get__" = some (some (.builtin "getset_descriptor.__get__"))) (htk : PySem.W.takesIn K (.builtin "object.__class__") = some true)
      (hm : PySem.W.mroIn K C (.type "object") = some true) : TyOf K H (.ref a) (.ref C)
end
end L2
namespace L2
open PySem PySem.Spec PyProof.Rows
structure Room (k : Nat) (A : Around) : Prop where
  hd : A.handled = none
  dp : A.depth + 3 * k + 5 < recursionLimit
  un : A.units + 16 * k + 200 < cLine
theorem Room.mono {j k : Nat} {A : Around} (r : Room k A) (h : j ≤ k) : Room j A := ⟨r.hd, by have := r.dp; omega, by have := r.un; omega⟩
theorem Room.deeper {k : Nat} {A : Around} (r : Room (k + 1) A) (env : Env) : Room k (A.deeper env) :=
  ⟨r.hd, by have := r.dp; show A.depth + 1 + 3 * k + 5 < _; omega, by have := r.un; show A.units + 3 + 16 * k + 200 < _; omega⟩
theorem make_depth {A : Around} {C : Addr} {us : List Value} {kw : List (Str × Value)} : (A.under (.builtin "type.__call__" ⟨.ref C :: us, kw⟩)).depth = A.depth + 1 := by
  first | rfl | simp [Around.under, Code.weight, Code.isCreation, Code.isGuard, Code.isCaller, Code.frames, Code.isFrame, guardIds]
theorem make_units {A : Around} {C : Addr} {us : List Value} {kw : List (Str × Value)} : (A.under (.builtin "type.__call__" ⟨.ref C :: us, kw⟩)).units = A.units + 1 := by
  first | rfl | simp [Around.under, Code.cUnits, Code.frames, Code.isFrame]
theorem Room.make {k : Nat} {A : Around} (r : Room (k + 1) A) (C : Addr) (us : List Value) (kw : List (Str × Value)) : Room k (A.under (.builtin "type.__call__" ⟨.ref C :: us, kw⟩)) :=
  ⟨r.hd, by have := r.dp; rw [make_depth]; omega, by have := r.un; rw [make_units]; omega⟩
theorem Room.depth {k : Nat} {A : Around} (r : Room k A) : A.depth < recursionLimit := by have := r.dp; omega
theorem Room.units0 {k : Nat} {A : Around} (r : Room k A) : A.units < cLine := by have := r.un; omega
def tNil : TA := fun _ H Q => Q [] H
def tCons (ta : TE) (tr : TA) : TA := fun σ H Q => ta σ H fun x H1 => tr σ H1 fun xs H2 => Q (x :: xs) H2
section
variable {X : Cx} {e : Expr} {es : List Expr} {te : TE} {t : TA} {pos : Pos}
theorem pa_nil : PA X [] tNil := fun _ _ _ _ H Q I h => Calls.spliced_nil ⟨[], H, I, .nil, h⟩
theorem pa_cons (ha : PE X e te) (hr : PA X es t) (hs : starEach (e :: es) X.env = (false, eval e X.env) :: starEach es X.env := by rfl) : PA X (e :: es) (tCons te t) := by
  intro pos pins s σ H Q I h
  rw [hs]
  show wpAny _ _ (spliced ((false, eval e X.env) :: backTo pos (starEach es X.env))) _ _ s
  refine Calls.spliced_cons (thn (ha pins s σ H _ I h) fun u s1 ⟨x, H1, I1, r1, q1⟩ => ?_)
  exact thn (hr pos pins s1 σ H1 _ I1 q1) fun us s2 ⟨xs, H2, I2, r2, q2⟩ => ⟨x :: xs, H2, I2, .cons r1 r2, q2⟩
def tTup (t : TA) : TE := fun σ H Q => t σ H fun xs H1 => xs.length ≤ sizeLine ∧ ∀ p, H1 p = none → Q (.ref p) (upd H1 p (.tup xs))
def tLst (t : TA) : TE := fun σ H Q => t σ H fun xs H1 => xs.length ≤ sizeLine ∧ ∀ p, H1 p = none → Q (.ref p) (upd H1 p (.lst xs))
theorem pe_tup {x1} (h : PA X es t) : PE X (.Tuple es x1 pos) (tTup t) := by
  intro pins s σ H Q I hq
  refine wpAny_Tuple_spliced (thn (h pos pins s σ H _ I hq) fun us s1 ⟨xs, H1, I1, r, z, q⟩ => ⟨by rw [← r.length]; exact z, ?_⟩)
  have hf : H1 s1.heap.objs.size = none := I1.hok.fresh (Nat.le_refl _)
  refine ⟨.ref s1.heap.objs.size, upd H1 s1.heap.objs.size (.tup xs), I1.laid (t' := s1.toks) (fun b u e => Heap.get?_push_of_some _ e) (Nat.le_refl _) ?_, rfl, q _ hf⟩
  exact ⟨z, us, r, ⟨_, Heap.get?_push_size _ rfl, rfl, _, rfl⟩⟩
theorem pe_lst (h : PA X es t) : PE X (.List es pos) (tLst t) := by
  intro pins s σ H Q I hq
  refine wpAny_List_spliced (thn (h pos pins s σ H _ I hq) fun us s1 ⟨xs, H1, I1, r, z, q⟩ => ⟨by rw [← r.length]; exact z, ?_⟩)
  have hf : H1 s1.heap.objs.size = none := I1.hok.fresh (Nat.le_refl _)
  refine ⟨.ref s1.heap.objs.size, upd H1 s1.heap.objs.size (.lst xs), I1.laid (t' := s1.toks) (fun b u e => Heap.get?_push_of_some _ e) (Nat.le_refl _) ?_, rfl, q _ hf⟩
  exact ⟨z, us, 0, r, Heap.get?_push_size _ rfl⟩
end
abbrev Sp := List V → Hp → VK → XK → Prop
abbrev CXT := List Env → Hp → Shared → XK → Value → Shared → Prop
structure Env0 (P : Program) (w : World) (K : PySem.W.Frag) (mg : Str → Option Value) (base : Heap) (A : Around) (outer : List Env) (s : Shared) (H : Hp) : Prop where
  frames : A.frames = some outer
  mod : Mod K mg base
  bs : ∀ b o, base.get? b = some o → s.heap.get? b = some o ∧ H b = none
  bsz : base.objs.size ≤ s.heap.objs.size
  funs : s.heap.FunFrames base outer
  frf : ∀ b ∈ frs outer, H b = none
  hok : HOk P w H s.heap
  bare : AllBare s.gens
def CE (outer : List Env) (P : Program) (w : World) (H : Hp) (s : Shared) (Q : VK) (u : Value) (s' : Shared) : Prop :=
  ∃ v H', s'.os = s.os ∧ AllBare s'.gens ∧ Un (frs outer) [] H H' s.heap s'.heap ∧ HOk P w H' s'.heap ∧ RelV v u ∧ Q v H'
def CR (CX : CXT) (outer : List Env) (P : Program) (w : World) (H : Hp) (s : Shared) (Q : VK) (E : XK) (r : Result) (s' : Shared) : Prop :=
  match r with
  | .ok (.ret u) => CE outer P w H s Q u s'
  | .ok _ => False
  | .error e => CX outer H s E e s'
structure FnOk (P : Program) (w : World) (K : PySem.W.Frag) (mg : Str → Option Value) (base : Heap) (CX : CXT) (k : Nat) (f : Addr) (fd : FuncData) (ps : List Str) (sp : Sp) : Prop where
  len : ∀ vs H Q E, sp vs H Q E → vs.length = ps.length
  run : ∀ (A : Around) (outer : List Env) (s : Shared) (H : Hp) (args : Args) (us : List Value) (vs : List V) (Q : VK) (E : XK), Room k A → Env0 P w K mg base A outer s H → BindsTo s fd args (ps.zip us) → Vals vs us → sp vs H Q E →
    codeAny (model P w) A (.call (.ref f) args) (CR CX outer P w H s Q E) s
theorem FnOk.mono {P : Program} {w : World} {K : PySem.W.Frag} {mg : Str → Option Value} {base : Heap} {CX : CXT} {j k : Nat} {f : Addr} {fd : FuncData} {ps : List Str} {sp : Sp} (F : FnOk P w K mg base CX j f fd ps sp) (h : j ≤ k) :
    FnOk P w K mg base CX k f fd ps sp := ⟨F.len, fun A outer s H args us vs Q E hr => F.run A outer s H args us vs Q E (hr.mono h)⟩
theorem Env0.make {P : Program} {w : World} {K : PySem.W.Frag} {mg : Str → Option Value} {base : Heap} {A : Around} {outer : List Env} {s : Shared} {H : Hp} (e : Env0 P w K mg base A outer s H) (C : Addr) (us : List Value) (kw : List (Str × Value)) :
    Env0 P w K mg base (A.under (.builtin "type.__call__" ⟨.ref C :: us, kw⟩)) outer s H := ⟨by first | exact e.frames | (simpa [Around.under, Code.envs, Code.isFrame, pushEnvs] using e.frames), e.mod, e.bs, e.bsz, e.funs, e.frf, e.hok, e.bare⟩
section
variable {X : Cx} {pins : List (Addr × Obj)} {σ : St} {H : Hp} {s s' : Shared}
theorem Inv.env0 (I : Inv X pins σ H s) : Env0 X.prog X.w X.K X.mg X.base X.A X.stack s H :=
  ⟨I.ok.frames, I.ok.mod, I.bs, Nat.le_trans I.ok.bsz I.sz, I.stack, I.stkFree, I.hok, I.bare⟩
theorem Inv.after {Q : VK} {u : Value} (I : Inv X pins σ H s) (h : CE X.stack X.prog X.w H s Q u s') : EP X pins σ Q u s' := by
  obtain ⟨v, H', os, bare, un, hok, r, q⟩ := h
  obtain ⟨hh, g, d, t, os'⟩ := s'
  obtain rfl : os' = s.os := os
  exact ⟨v, H', I.call (h' := hh) (g' := g) (d' := d) (t' := t) (ch := []) un hok bare (fun b z => absurd z (by simp)), r, q⟩
end
def tCall (sp : Sp) (dvs : List V) (E : XK) (t : TA) : TE := fun σ H Q => t σ H fun vs H1 => sp (vs ++ dvs) H1 Q E
def tMeth (C : Addr) (m : Str) (sp : Sp) (dvs : List V) (E : XK) (ta : TE) (t : TA) : TE := fun σ H Q => ta σ H fun x H1 => ∃ a dx fs, x = .ref a ∧ H1 a = some (.ins C dx fs) ∧ fs.lookup m = none ∧
  t σ H1 fun vs H2 => sp (x :: (vs ++ dvs)) H2 Q E
def tMake (C : Addr) (sp : Sp) (dvs : List V) (E : XK) (t : TA) : TE := fun σ H Q => t σ H fun vs H1 => ∀ x dx, H1 x = none → H1 dx = none → dx ≠ x →
  sp (.ref x :: (vs ++ dvs)) (upd (upd H1 dx (.own x)) x (.ins C dx [])) (fun v H2 => v = .non ∧ Q (.ref x) H2) E
def Binds (K : PySem.W.Frag) (fd : FuncData) (ps : List Str) (ds : List Value) : Prop :=
  ∀ (s : Shared) (us : List Value), K.In s.heap → (us ++ ds).length = ps.length → BindsTo s fd ⟨us, []⟩ (ps.zip (us ++ ds))
theorem Binds.all {K : PySem.W.Frag} {fd : FuncData} {ps : List Str} (h : ∀ us : List Value, us.length = ps.length → bindArgs fd ⟨us, []⟩ = pure (ps.zip us)) : Binds K fd ps [] := fun s us _ hl => by
  rw [List.append_nil] at hl ⊢
  exact .of_eq (h us hl)
def Passes (CX : CXT) (X : Cx) (E : XK) : Prop := ∀ (pins : List (Addr × Obj)) (σ : St) (H : Hp) (s : Shared) (e : Value) (s' : Shared), Inv X pins σ H s → CX X.stack H s E e s' → X.xe e s'
section
variable {X : Cx} {CX : CXT} {k : Nat} {f C : Addr} {fd : FuncData} {ps : List Str} {sp : Sp} {dvs : List V} {ds : List Value} {E : XK} {x m : Str} {p pos apos : Pos} {e o : Expr} {es : List Expr} {ta : TE} {t : TA}
theorem run_fn {pins : List (Addr × Obj)} {σ : St} {H : Hp} {s : Shared} {Q : VK} {us : List Value} {vs : List V} (F : FnOk X.prog X.w X.K X.mg X.base CX k f fd ps sp) (hr : Room k X.A) (hb : Binds X.K fd ps ds) (hd : Vals dvs ds) (hx : Passes CX X E)
    (I : Inv X pins σ H s) (r : Vals vs us) (h : sp (vs ++ dvs) H Q E) : wpAny (model X.prog X.w) X.A (call (.ref f) us) (EP X pins σ Q) X.xe s := by
  have r2 : Vals (vs ++ dvs) (us ++ ds) := r.append hd
  have hl : (us ++ ds).length = ps.length := by rw [← r2.length]; exact F.len _ _ _ _ h
  refine wpAny_call (codeAny_mono (F.run X.A X.stack s H ⟨us, []⟩ (us ++ ds) (vs ++ dvs) Q E hr I.env0 (hb s us I.kIn hl) r2 h) fun r s' hq => ?_)
  cases r with
  | error e => exact hx pins σ H s e s' I hq
  | ok fl =>
    cases fl with
    | ret u => exact I.after hq
    | next => exact False.elim hq
    | brk => exact False.elim hq
    | cont => exact False.elim hq
theorem pe_call (F : FnOk X.prog X.w X.K X.mg X.base CX k f fd ps sp) (hr : Room k X.A) (hg : Gl X x) (hm : X.mg x = some (.ref f)) (hk : PySem.W.keepIn X.K (.ref f) = true) (hb : Binds X.K fd ps ds) (hd : Vals dvs ds) (hx : Passes CX X E)
    (ha : PA X (e :: es) t) (hdb : (x == ("__debug__" : Str)) = false := by decide) (he : starEach (e :: es) X.env = (false, eval e X.env) :: starEach es X.env := by rfl) (hpl : (backTo pos (starEach es X.env)).any (·.1) = false := by rfl) :
    PE X (.Call (.Name x p) (e :: es) [] pos) (tCall sp dvs E t) := by
  intro pins s σ H Q I h
  refine wpAny_Call_Name_kw (ld_glob I hg hm ?_ hdb)
  refine PySem.W.callWith_K (h₀ := X.base) I.ok.mod.kin hk (thn (ha pos pins s σ H _ I h) fun us s1 ⟨vs, H1, I1, r, q⟩ => ⟨I1.kIn, ?_⟩) he hpl
  exact run_fn F hr hb hd hx I1 r q
theorem pe_meth {pl : Sem Bool} (he : PE X o ta) (c : Cls X.K C) (hm : Meth X.K C m f) (F : FnOk X.prog X.w X.K X.mg X.base CX k f fd ps sp) (hr : Room k X.A) (hb : Binds X.K fd ps ds) (hd : Vals dvs ds) (hx : Passes CX X E) (ha : PA X (e :: es) t)
    (hst : starEach (e :: es) X.env = (false, eval e X.env) :: starEach es X.env := by rfl) (hpl : (backTo pos (starEach es X.env)).any (·.1) = false := by rfl)
    (ht : eval (.Call (.Attribute o m apos) (e :: es) [] pos) X.env = (do
      let ov ← eval o X.env
      standAt apos.atName
      let (f, first) ← holding [ov] (getMethod ov m pl)
      callWith pos f first (backTo pos (starEach (e :: es) X.env)) (backToKw pos (keywordEach [] X.env))) := by rfl) :
    PE X (.Call (.Attribute o m apos) (e :: es) [] pos) (tMeth C m sp dvs E ta t) := by
  intro pins s σ H Q I h
  refine PySem.W.methodCall_KW (pl := pl) (thn (he pins s σ H _ I h) fun u s1 ⟨x, H1, I1, rx, a, dx, fs, ex, ea, l, q⟩ => ?_) ht
  subst ex
  obtain rfl : u = Value.ref a := rx
  refine getmeth_ok I1 ea c hm l ?_
  refine PySem.W.callWith_K (first := [.ref a]) (h₀ := X.base) I.ok.mod.kin hm.kp (thn (ha pos pins s1 σ H1 _ I1 q) fun us s2 ⟨vs, H2, I2, r, q2⟩ => ⟨I2.kIn, ?_⟩) hst hpl
  exact run_fn (us := .ref a :: us) (vs := .ref a :: vs) F hr hb hd hx I2 (.cons rfl r) q2
theorem pe_meth0 {pl : Sem Bool} (he : PE X o ta) (c : Cls X.K C) (hm : Meth X.K C m f) (F : FnOk X.prog X.w X.K X.mg X.base CX k f fd ps sp) (hr : Room k X.A) (hb : Binds X.K fd ps ds) (hd : Vals dvs ds) (hx : Passes CX X E)
    (ht : eval (.Call (.Attribute o m apos) [] [] pos) X.env = (do
      let ov ← eval o X.env
      standAt apos.atName
      let (f, first) ← holding [ov] (getMethod ov m pl)
      callWith pos f first (backTo pos (starEach [] X.env)) (backToKw pos (keywordEach [] X.env))) := by rfl) :
    PE X (.Call (.Attribute o m apos) [] [] pos) (tMeth C m sp dvs E ta tNil) := by
  intro pins s σ H Q I h
  refine PySem.W.methodCall_KW (pl := pl) (thn (he pins s σ H _ I h) fun u s1 ⟨x, H1, I1, rx, a, dx, fs, ex, ea, l, q⟩ => ?_) ht
  subst ex
  obtain rfl : u = Value.ref a := rx
  refine getmeth_ok I1 ea c hm l ?_
  exact PySem.W.callWith_K0 (first := [.ref a]) I1.kIn hm.kp (run_fn (us := [.ref a]) (vs := [.ref a]) F hr hb hd hx I1 (.cons rfl .nil) q)
structure Mk (K : PySem.W.Frag) (C f : Addr) : Prop where
  makes : PySem.W.makesIn K C = true
  init : PySem.W.findIn K (.ref C) "__init__" = some (some (.ref f))
  fn : PySem.W.isFn K (.ref f) = true
  kp : PySem.W.keepIn K (.ref C) = true
theorem run_make {pins : List (Addr × Obj)} {σ : St} {H : Hp} {s : Shared} {Q : VK} {us : List Value} {vs : List V} (M : Mk X.K C f) (F : FnOk X.prog X.w X.K X.mg X.base CX k f fd ps sp) (hr : Room (k + 1) X.A) (hb : Binds X.K fd ps ds) (hd : Vals dvs ds)
    (hx : Passes CX X E) (I : Inv X pins σ H s) (r : Vals vs us)
    (h : ∀ x dx, H x = none → H dx = none → dx ≠ x → sp (.ref x :: (vs ++ dvs)) (upd (upd H dx (.own x)) x (.ins C dx [])) (fun v H2 => v = .non ∧ Q (.ref x) H2) E) :
    wpAny (model X.prog X.w) X.A (call (.ref C) us) (EP X pins σ Q) X.xe s := by
  have hq := h (s.heap.objs.size + 1) s.heap.objs.size (I.hok.fresh (Nat.le_succ _)) (I.hok.fresh (Nat.le_refl _)) (Nat.ne_of_lt (Nat.lt_succ_self _))
  have I2 := Inv.made (C := C) I
  have r2 : Vals (V.ref (s.heap.objs.size + 1) :: (vs ++ dvs)) (Value.ref (s.heap.objs.size + 1) :: (us ++ ds)) := .cons rfl (r.append hd)
  have hl : (Value.ref (s.heap.objs.size + 1) :: us ++ ds).length = ps.length := by
    have e := r2.length
    rw [F.len _ _ _ _ hq] at e
    exact e.symm
  refine wpAny_call (make_map (f := f) I.kIn M.makes M.init (beq_iff_eq.mp M.fn) (codeAny_mono (F.run _ X.stack _ _ ⟨Value.ref (s.heap.objs.size + 1) :: us, []⟩ (Value.ref (s.heap.objs.size + 1) :: (us ++ ds)) _ _ E (hr.make C us [])
    (I2.env0.make C us []) (hb _ (Value.ref (s.heap.objs.size + 1) :: us) I2.kIn hl) r2 hq) fun r s' hq' => ?_))
  cases r with
  | error e => exact hx pins σ _ _ e s' I2 hq'
  | ok fl =>
    cases fl with
    | ret u =>
      obtain ⟨v, H', I3, rv, ev, q3⟩ := I2.after hq'
      subst ev
      exact ⟨rv, ⟨V.ref (s.heap.objs.size + 1), H', I3, rfl, q3⟩⟩
    | next => exact False.elim hq'
    | brk => exact False.elim hq'
    | cont => exact False.elim hq'
theorem pe_make (M : Mk X.K C f) (F : FnOk X.prog X.w X.K X.mg X.base CX k f fd ps sp) (hr : Room (k + 1) X.A) (hg : Gl X x) (hm : X.mg x = some (.ref C)) (hb : Binds X.K fd ps ds) (hd : Vals dvs ds) (hx : Passes CX X E)
    (ha : PA X (e :: es) t) (hdb : (x == ("__debug__" : Str)) = false := by decide) (he : starEach (e :: es) X.env = (false, eval e X.env) :: starEach es X.env := by rfl) (hpl : (backTo pos (starEach es X.env)).any (·.1) = false := by rfl) :
    PE X (.Call (.Name x p) (e :: es) [] pos) (tMake C sp dvs E t) := by
  intro pins s σ H Q I h
  refine wpAny_Call_Name_kw (ld_glob I hg hm ?_ hdb)
  refine PySem.W.callWith_K (h₀ := X.base) I.ok.mod.kin M.kp (thn (ha pos pins s σ H _ I h) fun us s1 ⟨vs, H1, I1, r, q⟩ => ⟨I1.kIn, ?_⟩) he hpl
  exact run_make M F hr hb hd hx I1 r q
end
section
variable {X : Cx} {CX : CXT} {k : Nat} {f C : Addr} {fd : FuncData} {ps ks : List Str} {sp : Sp} {E : XK} {x m : Str} {p pos apos kpos : Pos} {e o : Expr} {es : List Expr} {kws : List Keyword} {te ta : TE} {t tk : TA} {nm : Option Str}
structure KBinds (K : PySem.W.Frag) (fd : FuncData) (ps ks : List Str) (g : List Value → List Value → List Value) (gV : List V → List V → List V) : Prop where
  to : ∀ (s : Shared) (us ws : List Value), K.In s.heap → (g us ws).length = ps.length → BindsTo s fd ⟨us, ks.zip ws⟩ (ps.zip (g us ws))
  rel : ∀ {vs : List V} {us : List Value} {zs : List V} {ws : List Value}, Vals vs us → Vals zs ws → Vals (gV vs zs) (g us ws)
variable {g : List Value → List Value → List Value} {gV : List V → List V → List V}
end
structure FnScope (N P : List Str) (sc : Scope) : Prop where
  kind : sc.kind = .function
  co : sc.isCoroutine = false
  gen : sc.isGenerator = false
  nd : N.Nodup
  pre : N.take P.length = P
  par : ∀ x ∈ P, sc.names.lookup x = some .local ∨ sc.names.lookup x = some .cell
  nofree : ∀ y ∈ sc.names, y.2 ≠ .free
theorem bindL_out {kindOf : Str → Option NameKind} {x : Str} : ∀ {binds : List (Str × Value)} {m : Str → Option Value}, (∀ v, (x, v) ∉ binds) → bindL kindOf binds m x = m x
  | [], _, _ => rfl
  | (n, v) :: r, m, h => by
    unfold bindL
    rw [bindL_out fun w hw => h w (List.mem_cons_of_mem _ hw)]
    split
    · have : x ≠ n := by rintro rfl; exact h v List.mem_cons_self
      simp [this]
    · rfl
theorem bindC_out {kindOf : Str → Option NameKind} {x : Str} : ∀ {binds : List (Str × Value)} {m : Str → Option Value}, (∀ v, (x, v) ∉ binds) → bindC kindOf binds m x = m x
  | [], _, _ => rfl
  | (n, v) :: r, m, h => by
    unfold bindC
    rw [bindC_out fun w hw => h w (List.mem_cons_of_mem _ hw)]
    split
    · rfl
    · have : x ≠ n := by rintro rfl; exact h v List.mem_cons_self
      simp [this]
theorem bindL_get {kindOf : Str → Option NameKind} {x : Str} {v : Value} : ∀ {P : List Str} {vs : List Value} {i : Nat} {m : Str → Option Value}, P.Nodup → P[i]? = some x → vs[i]? = some v → kindOf x = some .local →
    bindL kindOf (P.zip vs) m x = some v
  | [], _, _, _, _, h, _, _ => by simp at h
  | _ :: _, [], _, _, _, _, h, _ => by simp at h
  | p :: P, w :: vs, 0, m, nd, h1, h2, hk => by
    simp at h1 h2; subst h1; subst h2
    show bindL kindOf ((p, w) :: P.zip vs) m p = _
    unfold bindL
    rw [bindL_out fun v hv => (List.nodup_cons.mp nd).1 (List.of_mem_zip hv).1, if_pos hk]
    simp
  | p :: P, w :: vs, i + 1, m, nd, h1, h2, hk => by
    show bindL kindOf ((p, w) :: P.zip vs) m x = _
    unfold bindL
    exact bindL_get (i := i) (List.nodup_cons.mp nd).2 (by simpa using h1) (by simpa using h2) hk
theorem bindC_get {kindOf : Str → Option NameKind} {x : Str} {v : Value} : ∀ {P : List Str} {vs : List Value} {i : Nat} {m : Str → Option Value}, P.Nodup → P[i]? = some x → vs[i]? = some v → kindOf x ≠ some .local →
    bindC kindOf (P.zip vs) m x = some v
  | [], _, _, _, _, h, _, _ => by simp at h
  | _ :: _, [], _, _, _, _, h, _ => by simp at h
  | p :: P, w :: vs, 0, m, nd, h1, h2, hk => by
    simp at h1 h2; subst h1; subst h2
    show bindC kindOf ((p, w) :: P.zip vs) m p = _
    unfold bindC
    rw [bindC_out fun v hv => (List.nodup_cons.mp nd).1 (List.of_mem_zip hv).1, if_neg hk]
    simp
  | p :: P, w :: vs, i + 1, m, nd, h1, h2, hk => by
    show bindC kindOf ((p, w) :: P.zip vs) m x = _
    unfold bindC
    exact bindC_get (i := i) (List.nodup_cons.mp nd).2 (by simpa using h1) (by simpa using h2) hk
def start (N : List Str) (vs : List V) : St := vs.map some ++ List.replicate (N.length - vs.length) none
def cxOf (CX : CXT) (P : Program) (w : World) (K : PySem.W.Frag) (mg : Str → Option Value) (base : Heap) (N : List Str) (qual : Str) (scope : Scope) (f : Addr) (cd : Value) (A : Around) (outer : List Env) (s : Shared) (H : Hp) (E : XK) : Cx where
  prog := P
  w := w
  K := K
  mg := mg
  base := base
  A := A.deeper (envOfC qual scope s.heap.objs.size f cd)
  N := N
  s_0 := s
  H_0 := H
  env := envOfC qual scope s.heap.objs.size f cd
  outer := outer
  stack := envOfC qual scope s.heap.objs.size f cd :: outer
  ex := []
  calm := true
  fn := fun _ => true
  pn := []
  xe := fun e s' => wpAny (model P w) (A.deeper (envOfC qual scope s.heap.objs.size f cd)) (leaving (envOfC qual scope s.heap.objs.size f cd) e) (fun _ s'' => CX outer H s E e s'') (fun e' s'' => CX outer H s E e' s'') s'
theorem cell_has {sc : Scope} {n : Nat} {x : Str} (h : sc.names.lookup x = some .cell) : ∃ c, (cellsFrom n sc.names []).lookup x = some c := by
  have q := PySem.W.cellsFrom_some sc.names n [] (.inl h)
  exact Option.isSome_iff_exists.mp q
theorem inv_start {CX : CXT} {P : Program} {w : World} {K : PySem.W.Frag} {mg : Str → Option Value} {base : Heap} {N ps : List Str} {qual : Str} {scope : Scope} {f : Addr} {cd : Value} {A : Around} {outer : List Env} {s s1 : Shared} {H : Hp} {E : XK} {us : List Value} {vs : List V}
    (S : FnScope N ps scope) (hd : A.handled = none) (e0 : Env0 P w K mg base A outer s H) (hl : vs.length = ps.length) (r : Vals vs us)
    (x : InCallC s s.heap.objs.size (bindL (envOfC qual scope s.heap.objs.size f cd).kindOf (ps.zip us) fun _ => none) (cellsFrom (s.heap.objs.size + 1) scope.names []) (bindC (envOfC qual scope s.heap.objs.size f cd).kindOf (ps.zip us) fun _ => none) s1) :
    Inv (cxOf CX P w K mg base N qual scope f cd A outer s H E) [] (start N vs) H s1 := by
  have hpl : ps.length ≤ N.length := by have := congrArg List.length S.pre; rw [List.length_take] at this; omega
  obtain ⟨h1, tk, rfl, hk⟩ := x.done
  have noA : ∀ b : Addr, b ∉ (cxOf CX P w K mg base N qual scope f cd A outer s H E).ex := fun b z => absurd (show b ∈ ([] : List Addr) from z) (by simp)
  refine ⟨⟨e0.mod, S.kind, rfl, rfl, Nat.le_refl _, fun y z c h1 h2 => ?_, fun y hy => ?_, fun y c _ h => ?_, fun _ => hd, Around.frames_deeper e0.frames, .inr ⟨rfl, rfl⟩, fun b z => absurd z (noA b), e0.bs, e0.bsz, fun b _ _ => noA b, fun b z => absurd z (noA b), e0.funs, e0.frf⟩,
    rfl, e0.bare, Un.kept hk, ⟨_, x.toInCall.ns, fun i y v h1 h2 h3 => ?_⟩, fun y c h => ⟨_, x.cell y c h⟩, e0.hok.fresh (Nat.le_refl _), fun y c h => ?_, fun p hp => absurd (show p ∈ ([] : List (Addr × Obj)) from hp) (by simp), e0.hok.kept hk, ?_⟩
  · exact name_of_addr x.apart (PySem.mem_of_lookup h1) (PySem.mem_of_lookup h2)
  · have hy : scope.names.lookup y = some .cell ∨ scope.names.lookup y = some .free := hy
    rcases hy with hy | hy
    · exact cell_has hy
    · exact absurd rfl (S.nofree _ (PySem.mem_of_lookup hy))
  · exact Nat.le_of_lt (x.above y c (PySem.mem_of_lookup h))
  · have hi : i < vs.length := by
      unfold start at h2
      by_cases hi : i < vs.length
      · exact hi
      · rw [List.getElem?_append_right (by simpa using hi)] at h2
        rw [List.getElem?_replicate] at h2
        split at h2 <;> cases h2
    have ha : vs[i]? = some v := by
      unfold start at h2
      rw [List.getElem?_append_left (by simpa using hi), List.getElem?_map] at h2
      cases e : vs[i]? with
      | none => rw [e] at h2; cases h2
      | some a => rw [e] at h2; cases h2; rfl
    obtain ⟨u, hu, rv⟩ := r.get ha
    have hp : ps[i]? = some y := by
      rw [← S.pre, List.getElem?_take_of_lt (by omega)]; exact h1
    have ndP : ps.Nodup := by rw [← S.pre]; exact S.nd.sublist (List.take_sublist _ _)
    refine ⟨u, rv, ?_⟩
    rcases S.par y (List.mem_of_getElem? hp) with k | k
    · exact .inl ⟨k, bindL_get ndP hp hu k⟩
    · obtain ⟨c, e⟩ := cell_has (n := s.heap.objs.size + 1) k
      refine .inr ⟨.inl k, c, e, ?_⟩
      have q := x.cell y c e
      rw [bindC_get ndP hp hu (by show scope.names.lookup y ≠ _; rw [k]; decide)] at q
      exact q
  · exact e0.hok.fresh (Nat.le_of_lt (x.above y c (PySem.mem_of_lookup h)))
  · unfold start
    show _ = N.length
    rw [List.length_append, List.length_map, List.length_replicate]
    omega
theorem fn_of {CX : CXT} {P : Program} {w : World} {K : PySem.W.Frag} {mg : Str → Option Value} {base : Heap} {k : Nat} {f : Addr} {name qual : Str} {params : Arguments} {body : List Stmt} {scope : Scope} {dV kV doc pm cdv ct oc : Value} {an od : Option Addr}
    {osl : Array (Option Value)} {N ps : List Str} {sp : Sp} (lk : K.lookup f = some ⟨oc, od, .func (PySem.W.fnOf name qual params body scope dV kV doc pm an cdv ct), osl⟩) (hcd : PySem.W.codeIn K cdv qual = true) (S : FnScope N ps scope)
    (len : ∀ vs H Q E, sp vs H Q E → vs.length = ps.length)
    (hbody : ∀ (A : Around) (outer : List Env) (s : Shared) (H : Hp) (vs : List V) (Q : VK) (E : XK), Room k (A.deeper (envOfC qual scope s.heap.objs.size f cdv)) → sp vs H Q E →
      ∃ t, PSs (cxOf CX P w K mg base N qual scope f cdv A outer s H E) body t ∧ t { nx := fun _ H' => Q .non H', rt := Q } (start N vs) H) :
    FnOk P w K mg base CX (k + 1) f (PySem.W.fnOf name qual params body scope dV kV doc pm an cdv ct) ps sp := by
  refine ⟨len, fun A outer s H args us vs Q E hr e0 hb r hsp => ?_⟩
  have hl := len _ _ _ _ hsp
  have KX : K.In s.heap := e0.mod.kin.keeps fun b o e => (e0.bs b o e).1
  have lim : s.heap.NoLimit := e0.mod.nolimit.keeps fun b o e => (e0.bs b o e).1
  have hkind : ∀ y ∈ ps.zip us, scope.names.lookup y.1 = some .local ∨ (scope.names.lookup y.1 = some .cell ∧ ((cellsFrom (s.heap.objs.size + 1) scope.names []).lookup y.1).isSome = true) := fun ⟨n, v⟩ hy => by
    rcases S.par n (List.of_mem_zip hy).1 with q | q
    · exact .inl q
    · exact .inr ⟨q, PySem.W.cellsFrom_some _ _ _ (.inl q)⟩
  refine codeAny_call_function hr.depth (KX _ _ lk) rfl S.co S.gen rfl (PySem.W.codeRec_of KX hcd) (hb _ _ _ _ ?_)
  refine wpAny_newFunctionEnv_cells S.kind hkind fun env he s1 x => ?_
  subst he
  refine ⟨lim.keeps x.toInCall.keep, codeAny_func ?_⟩
  obtain ⟨t, ht, hq⟩ := hbody A outer s H vs Q E (hr.deeper _) hsp
  have I : Inv (cxOf CX P w K mg base N qual scope f cdv A outer s H E) [] (start N vs) H s1 := inv_start S hr.hd e0 hl r x
  refine wpAny_mono (ht [] s1 (start N vs) H _ I hq) (fun fl s' hs => ?_) fun e s' hs => hs
  have fin : ∀ {σ' : St} {H' : Hp} {v : V} {u : Value}, Inv (cxOf CX P w K mg base N qual scope f cdv A outer s H E) [] σ' H' s' → RelV v u → Q v H' → CE outer P w H s Q u s' :=
    fun {σ' H' v u} J rv q => ⟨v, H', J.os, J.bare, J.base, J.hok, rv, q⟩
  cases fl with
  | ret u =>
    obtain ⟨v, σ', H', J, rv, q⟩ := hs
    exact fin J rv q
  | next =>
    obtain ⟨σ', H', J, q⟩ := hs
    exact fin (v := V.non) (u := Value.none) J rfl q
  | brk =>
    obtain ⟨_, _, _, q⟩ := hs
    exact False.elim q
  | cont =>
    obtain ⟨_, _, _, q⟩ := hs
    exact False.elim q
end L2
namespace L2
open PySem PySem.Spec PyProof.Rows
section
variable {X : Cx} {x : Str} {p pos : Pos} {e : Expr} {es : List Expr} {t : TA} {id T : String} {r : List V → Hp → VK → Prop}
def tCB (r : List V → Hp → VK → Prop) (t : TA) : TE := fun σ H Q => t σ H fun vs H1 => r vs H1 Q
theorem pe_callB (hc : CallR X (.builtin id) r) (hg : Gl X x) (hm : X.mg x = none) (hv : bootBuiltins x = some (.builtin id)) (ha : PA X (e :: es) t) (hn : x ≠ "__name__" := by decide) (hdb : (x == ("__debug__" : Str)) = false := by decide)
    (he : starEach (e :: es) X.env = (false, eval e X.env) :: starEach es X.env := by rfl) (hpl : (backTo pos (starEach es X.env)).any (·.1) = false := by rfl) : PE X (.Call (.Name x p) (e :: es) [] pos) (tCB r t) := by
  intro pins s σ H Q I h
  refine wpAny_Call_Name_kw (ld_blt I hg hm hv ?_ hn hdb)
  exact PyProof.Rows.callWith_builtin1 (thn (ha pos pins s σ H _ I h) fun us s1 ⟨vs, H1, I1, r1, q1⟩ => hc pins s1 σ H1 vs us Q I1 r1 q1) he hpl
theorem pe_callTy (hc : CallR X (.type T) r) (hg : Gl X x) (hm : X.mg x = none) (hv : bootBuiltins x = some (.type T)) (ha : PA X (e :: es) t) (hn : x ≠ "__name__" := by decide) (hdb : (x == ("__debug__" : Str)) = false := by decide)
    (he : starEach (e :: es) X.env = (false, eval e X.env) :: starEach es X.env := by rfl) (hpl : (backTo pos (starEach es X.env)).any (·.1) = false := by rfl) : PE X (.Call (.Name x p) (e :: es) [] pos) (tCB r t) := by
  intro pins s σ H Q I h
  refine wpAny_Call_Name_kw (ld_blt I hg hm hv ?_ hn hdb)
  exact PyProof.Rows.callWith_type1 (thn (ha pos pins s σ H _ I h) fun us s1 ⟨vs, H1, I1, r1, q1⟩ => hc pins s1 σ H1 vs us Q I1 r1 q1) he hpl
end
end L2
namespace HT
open PySem PyProof.Rows
theorem eqAt_int (A : Around) (s : Shared) (a : Int) (t : Tok) (c : Int) (u : Tok) : ∃ e, SeqAt.EqAt A s (.int a t) (.int c u) e ∧ (e = true ↔ a = c) :=
  ⟨(a == c), SeqAt.EqAt.int_int a t c u, by simp⟩
section
open PySem.SeqAt
open PySem.AutoSeq1 (wpAny_loadPart')
open PySem.MeetsSeq PySem.MeetsSeq2 PySem.MeetsSeq3
end
section
variable {prog : Program} {w : World} {A : Around} {E : Value → Shared → Prop} {s : Shared}
def sIx (n d : Nat) : Option Int → Nat
  | none => d
  | some v => if v < 0 then (v + (n : Int)).toNat else min v.toNat n
theorem sIx_none (n d : Nat) : sIx n d none = d := rfl
theorem sIx_nat (n d k : Nat) : sIx n d (some (k : Int)) = min k n := by
  show (if (k : Int) < 0 then ((k : Int) + (n : Int)).toNat else min (k : Int).toNat n) = min k n
  rw [if_neg (by omega), Int.toNat_natCast]
end
end HT
namespace L2
open PySem PySem.Spec PyProof.Rows
abbrev TO := St → Hp → (Option Int → Hp → Prop) → Prop
def PO (X : Cx) (e : Option Expr) (t : TO) : Prop :=
  ∀ (pins : List (Addr × Obj)) (s : Shared) (σ : St) (H : Hp) (Q : Option Int → Hp → Prop), Inv X pins σ H s → t σ H Q →
    wpAny (model X.prog X.w) X.A (evalPart e X.env) (fun u s' => ∃ o H', Inv X pins σ H' s' ∧ IsPart u o ∧ Q o H') X.xe s
def tNoPart : TO := fun _ H Q => Q none H
def tPart (t : TE) : TO := fun σ H Q => t σ H fun x H1 => ∃ i, x = .int i ∧ Q (some i) H1
theorem intsAre_of {ns : List Int} : ∀ {us : List Value}, Vals (ns.map V.int) us → IntsAre us ns := by
  induction ns with
  | nil => intro us r; rw [List.map_nil] at r; cases r; exact .nil
  | cons n ns ih =>
    intro us r
    rw [List.map_cons] at r
    cases r with
    | cons r1 r2 =>
      obtain ⟨t, e⟩ := r1
      subst e
      exact .cons n t (ih r2)
section
variable {X : Cx} {e : Expr} {te : TE} {lo hi : Option Expr} {tl th : TO} {pos p2 : Pos}
theorem po_none : PO X none tNoPart := by
  intro pins s σ H Q I h
  rw [evalPart_none]
  exact wpAny_pure ⟨none, H, I, .none, h⟩
theorem po_some (h : PE X e te) : PO X (some e) (tPart te) := by
  intro pins s σ H Q I hw
  rw [evalPart_some]
  refine thn (h pins s σ H _ I hw) fun u s1 ⟨x, H1, I1, r1, q1⟩ => ?_
  obtain ⟨i, rfl, q⟩ := q1
  obtain ⟨t, rfl⟩ := r1
  exact ⟨some i, H1, I1, .int i t, q⟩
def SlR (X : Cx) (r : V → Option Int → Option Int → Hp → VK → Prop) : Prop :=
  ∀ (pins : List (Addr × Obj)) (s : Shared) (σ : St) (H : Hp) (x : V) (v vl vu : Value) (lo hi : Option Int) (sl : Addr) (Q : VK), Inv X pins σ H s → RelV x v → s.heap.IsSliceOf sl vl vu .none → IsPart vl lo → IsPart vu hi → r x lo hi H Q →
    ∃ T id, typeLookup (.type T) "__getitem__" = pure (some (.builtin id)) ∧ s.TypeIs v T ∧ wpAny (model X.prog X.w) X.A (getItem v (.ref sl)) (EP X pins σ Q) X.xe s
def tSl (r : V → Option Int → Option Int → Hp → VK → Prop) (te : TE) (tl th : TO) : TE := fun σ H Q => te σ H fun x H1 => tl σ H1 fun l H2 => th σ H2 fun u H3 => r x l u H3 Q
theorem pe_slice {r : V → Option Int → Option Int → Hp → VK → Prop} (hr : SlR X r) (he : PE X e te) (hl : PO X lo tl) (hu : PO X hi th) : PE X (.Subscript e (.Slice lo hi none p2) pos) (tSl r te tl th) := by
  intro pins s σ H Q I h
  refine Subscript_ (thn (he pins s σ H _ I h) fun v s1 ⟨x, H1, I1, r1, q1⟩ => ?_)
  refine wpAny_Slice (thn (hl pins s1 σ H1 _ I1 q1) fun vl s2 ⟨l, H2, I2, pl, q2⟩ => thn (hu pins s2 σ H2 _ I2 q2) fun vu s3 ⟨u, H3, I3, pu, q3⟩ => ?_)
  rw [evalPart_none]
  refine wpAny_pure ?_
  have I4 : Inv X pins σ H3 { s3 with heap := s3.heap.push { cls := .type "slice", data := .fields #[vl, vu, .none] } } := I3.kept (t' := s3.toks) fun b ob q => Heap.get?_push_of_some _ q
  obtain ⟨T, id, hT, ht, hg⟩ := hr pins { s3 with heap := s3.heap.push { cls := .type "slice", data := .fields #[vl, vu, .none] } } σ H3 x v vl vu l u s3.heap.objs.size Q I4 r1 (Heap.IsSliceOf.new ..) pl pu q3
  show wpAny (model X.prog X.w) X.A (subscriptTail e (.Slice lo hi none p2) v (.ref s3.heap.objs.size)) (EP X pins σ Q) X.xe { s3 with heap := s3.heap.push { cls := .type "slice", data := .fields #[vl, vu, .none] } }
  exact tail_any (ops := [.ref s3.heap.objs.size, v]) ht hT hg (by with_unfolding_all rfl)
def cutV (xs : List V) (lo hi : Option Int) : List V := (xs.drop (HT.sIx xs.length 0 lo)).take (HT.sIx xs.length xs.length hi - HT.sIx xs.length 0 lo)
theorem cutV_length (xs : List V) (lo hi : Option Int) : (cutV xs lo hi).length ≤ xs.length := by
  unfold cutV
  rw [List.length_take, List.length_drop]
  omega
end
end L2
namespace L2
open PySem PySem.Spec PyProof.Rows
def ixN (n : Nat) (i : Int) : Option Nat := if 0 ≤ i then (if i < n then some i.toNat else none) else if -(n : Int) ≤ i then some (i + n).toNat else none
def atI {α : Type} (xs : List α) (i : Int) : Option α := (ixN xs.length i).bind fun j => xs[j]?
theorem ixN_seq {n : Nat} {i : Int} {j : Nat} (h : ixN n i = some j) : seqIndex? i n = some j ∧ j < n ∧ -(n : Int) ≤ i ∧ i < n := by
  unfold ixN at h
  by_cases h0 : 0 ≤ i
  · rw [if_pos h0] at h
    by_cases h1 : i < n
    · rw [if_pos h1] at h
      have e : i.toNat = j := Option.some.inj h
      exact ⟨by rw [seqIndex_of h0 h1, e], by omega, by omega, h1⟩
    · rw [if_neg h1] at h; cases h
  · rw [if_neg h0] at h
    by_cases h1 : -(n : Int) ≤ i
    · rw [if_pos h1] at h
      have e : (i + n).toNat = j := Option.some.inj h
      exact ⟨by rw [seqIndex_neg (by omega) h1, e], by omega, h1, by omega⟩
    · rw [if_neg h1] at h; cases h
theorem atI_get {α : Type} {xs : List α} {i : Int} {v : α} (h : atI xs i = some v) : ∃ j, seqIndex? i xs.length = some j ∧ xs[j]? = some v ∧ j < xs.length ∧ -(xs.length : Int) ≤ i ∧ i < xs.length := by
  unfold atI at h
  cases e : ixN xs.length i with
  | none => rw [e] at h; cases h
  | some j =>
    rw [e] at h
    obtain ⟨h1, h2, h3, h4⟩ := ixN_seq e
    exact ⟨j, h1, h, h2, h3, h4⟩
theorem atI_nat {α : Type} {xs : List α} {j : Nat} {v : α} (h : xs[j]? = some v) : atI xs (j : Int) = some v := by
  have hj : j < xs.length := (List.getElem?_eq_some_iff.mp h).1
  have e : ixN xs.length (j : Int) = some j := by
    unfold ixN
    rw [if_pos (by omega), if_pos (by omega)]; simp
  unfold atI; rw [e]; exact h
def PlainIx (b : Expr) : Prop := ∀ o i, subscripted b false o i = operate [o, i] (getItem o i)
def IxR (X : Cx) (r : R2) : Prop :=
  ∀ (value slice : Expr) (pins : List (Addr × Obj)) (s : Shared) (σ : St) (H : Hp) (x y : V) (v u : Value) (Q : VK), Inv X pins σ H s → RelV x v → RelV y u → r x y H Q →
    subscripted slice false v u = operate [v, u] (getItem v u) → wpAny (model X.prog X.w) X.A (subscriptTail value slice v u) (EP X pins σ Q) X.xe s
def MtR (X : Cx) (id : String) (r : V → List V → Hp → VK → Prop) : Prop :=
  ∀ (pins : List (Addr × Obj)) (s : Shared) (σ : St) (H : Hp) (x : V) (xs : List V) (v : Value) (us : List Value) (Q : VK), Inv X pins σ H s → RelV x v → Vals xs us → r x xs H Q →
    wpAny (model X.prog X.w) X.A (call (.builtin id) (v :: us)) (EP X pins σ Q) X.xe s
section
variable {X : Cx} {a b : Expr} {ta tb : TE} {pos : Pos}
theorem pe_ix {r : R2} (hr : IxR X r) (ha : PE X a ta) (hb : PE X b tb) (hs : PlainIx b) : PE X (.Subscript a b pos) (tOp r ta tb) := by
  intro pins s σ H Q I h
  exact Subscript_ (binT ha hb I h fun v u s2 x y H2 I2 rx ry q => hr a b pins s2 σ H2 x y v u Q I2 rx ry q (hs _ _))
def rIxL (K : PySem.W.Frag) : R2 := fun x y H Q => ∃ p xs i v, x = .ref p ∧ y = .int i ∧ SqL K H p xs ∧ atI xs i = some v ∧ Q v H
def rIxT (K : PySem.W.Frag) : R2 := fun x y H Q => ∃ p xs i v, x = .ref p ∧ y = .int i ∧ SqT K H p xs ∧ atI xs i = some v ∧ Q v H
theorem ix_list : IxR X (rIxL X.K) := by
  intro value slice pins s σ H x y v u Q I rx ry h hs
  obtain ⟨p, xs, i, z, rfl, rfl, hq, he, q⟩ := h
  cases rx
  obtain ⟨t, rfl⟩ := ry
  obtain ⟨its, r, pl, hz⟩ := I.list hq
  obtain ⟨j, h1, h2, h3, h4, h5⟩ := atI_get he
  obtain ⟨w, ew, rw'⟩ := r.get h2
  have hl := r.length
  have hn := line63
  have fin : EP X pins σ Q w s := ⟨z, H, I, rw', q⟩
  by_cases h0 : 0 ≤ i
  · have hj : i.toNat = j := by
      rw [seqIndex_of h0 h5] at h1
      exact Option.some.inj h1
    exact item_listR pl.isList h0 (by omega) (by rw [hj]; simpa using ew) fin hs
  · have hj : (i + (its.toArray.size : Int)).toNat = j := by
      rw [seqIndex_neg (by omega) h4] at h1
      rw [List.size_toArray, ← hl]
      exact Option.some.inj h1
    exact subscriptTail_builtinR (x := w) pl.isList.typeIs slot_list_getitem.lookup
      (wpAny_getItem_list_neg (Q := fun r s' => r = w ∧ EP X pins σ Q r s') pl.isList (by omega) (by rw [List.size_toArray] <;> omega) (by omega) (by rw [hj]; simpa using ew) ⟨rfl, fin⟩) hs
theorem ix_tup : IxR X (rIxT X.K) := by
  intro value slice pins s σ H x y v u Q I rx ry h hs
  obtain ⟨p, xs, i, z, rfl, rfl, hq, he, q⟩ := h
  cases rx
  obtain ⟨t, rfl⟩ := ry
  obtain ⟨its, r, pl, hz⟩ := I.tuple hq
  obtain ⟨j, h1, h2, h3, h4, h5⟩ := atI_get he
  obtain ⟨w, ew, rw'⟩ := r.get h2
  have hl := r.length
  have hn := line63
  have fin : EP X pins σ Q w s := ⟨z, H, I, rw', q⟩
  exact subscriptTail_builtinR (x := w) pl.typeIs slot_tuple_getitem.lookup
    (getItem_tuple (j := j) (Q := fun r s' => r = w ∧ EP X pins σ Q r s') pl (by omega) (by omega) (by rw [List.size_toArray, ← hl]; exact h1) (by simpa using ew) ⟨rfl, fin⟩) hs
theorem mapSeq_set (its : List Value) (n j : Nat) (u : Value) : Obj.mapSeq (·.setIfInBounds j u) { cls := .type "list", data := .seq its.toArray n } = { cls := .type "list", data := .seq (its.set j u).toArray n } := by
  simp [Obj.mapSeq]
theorem Inv.lst {pins : List (Addr × Obj)} {σ : St} {H : Hp} {s : Shared} {p : Addr} {xs : List V} (I : Inv X pins σ H s) (h : H p = some (.lst xs)) :
    ∃ (its : List Value) (n : Nat), Vals xs its ∧ s.heap.get? p = some { cls := .type "list", data := .seq its.toArray n } ∧ xs.length ≤ sizeLine := by
  obtain ⟨z, its, n, r, e⟩ := I.hok p _ h
  exact ⟨its, n, r, e, z⟩
theorem Inv.lstUpd {pins : List (Addr × Obj)} {σ : St} {H : Hp} {s : Shared} {p : Addr} {xs ys : List V} {its its' : List Value} {n n' : Nat} {f : Obj → Obj} (I : Inv X pins σ H s) (h : H p = some (.lst xs))
    (ho : s.heap.get? p = some { cls := .type "list", data := .seq its.toArray n }) (hf : f { cls := .type "list", data := .seq its.toArray n } = { cls := .type "list", data := .seq its'.toArray n' }) (r : Vals ys its') (hz : ys.length ≤ sizeLine) (t : Nat) :
    Inv X pins σ (upd H p (.lst ys)) { s with heap := s.heap.update p f, toks := t } := by
  have e : (s.heap.update p f).get? p = some { cls := .type "list", data := .seq its'.toArray n' } := by
    rw [Heap.get?_update_self f ho (by rw [hf] <;> rfl), hf]
  refine I.write (x := p) (e := p) (by rw [h]; trivial) (.inl rfl) (fun b u hb q => (Heap.get?_update_other _ _ (Ne.symm hb)).trans q) ⟨_, e⟩ ?_
  exact ⟨hz, its', n', r, e⟩
def rSetL : V → V → V → Hp → (Hp → Prop) → Prop := fun o i v H Q => ∃ p xs k j, o = .ref p ∧ i = .int k ∧ H p = some (.lst xs) ∧ ixN xs.length k = some j ∧ Q (upd H p (.lst (xs.set j v)))
theorem set_list : PSet X rSetL := by
  intro pins s σ H o i v ov iv u Q I ro ri rv h
  obtain ⟨p, xs, k, j, rfl, rfl, hp, hj, q⟩ := h
  cases ro
  obtain ⟨t, rfl⟩ := ri
  obtain ⟨its, n, r, ho, hz⟩ := I.lst hp
  obtain ⟨h1, h2, h3, h4⟩ := ixN_seq hj
  have hl := r.length
  have hn := line63
  have I' : Inv X pins σ (upd H p (.lst (xs.set j v))) { s with heap := s.heap.update p (Obj.mapSeq (·.setIfInBounds j u)) } :=
    I.lstUpd hp ho (mapSeq_set its n j u) (r.set rv j) (by rw [List.length_set]; exact hz) s.toks
  by_cases h0 : 0 ≤ k
  · have hk : k.toNat = j := by
      rw [seqIndex_of h0 h4] at h1
      exact Option.some.inj h1
    exact PySem.W.ki_setAt ho h0 (by omega) (by rw [List.size_toArray, ← hl]; exact h4) (by rw [hk]; exact ⟨_, I', q⟩)
  · have hk : (k + (its.toArray.size : Int)).toNat = j := by
      rw [seqIndex_neg (by omega) h3] at h1
      rw [List.size_toArray, ← hl]
      exact Option.some.inj h1
    exact PySem.W.ki_setBack ho (by omega) (by rw [List.size_toArray, ← hl]; exact h3) (by omega) (by rw [hk]; exact ⟨_, I', q⟩)
theorem slice_bounds (lo hi : Option Int) (n : Nat) : (sliceBounds lo hi none n).1 = ((HT.sIx n 0 lo : Nat) : Int) ∧ (sliceBounds lo hi none n).2.1 = ((HT.sIx n n hi : Nat) : Int) ∧ (sliceBounds lo hi none n).2.2 = 1 := by
  refine ⟨?_, ?_, rfl⟩
  · cases lo with
    | none => simp [sliceBounds, HT.sIx]
    | some i =>
      simp only [sliceBounds, HT.sIx, Option.getD_none, show (1 : Int) > 0 by decide, if_true]
      by_cases h : i < 0
      · simp only [h, if_true] <;> omega
      · simp only [h, if_false] <;> omega
  · cases hi with
    | none => simp [sliceBounds, HT.sIx]
    | some i =>
      simp only [sliceBounds, HT.sIx, Option.getD_none, show (1 : Int) > 0 by decide, if_true]
      by_cases h : i < 0
      · simp only [h, if_true] <;> omega
      · simp only [h, if_false] <;> omega
theorem slicePick_cut (its : List Value) (lo hi : Option Int) : slicePick its.toArray lo hi none = ((its.drop (HT.sIx its.length 0 lo)).take (HT.sIx its.length its.length hi - HT.sIx its.length 0 lo)).toArray := by
  obtain ⟨h1, h2, h3⟩ := slice_bounds lo hi its.toArray.size
  unfold slicePick
  rw [h1, h2, h3]
  simp only [sliceRange_one, pick_run, List.size_toArray] <;> rfl
def rSlL (K : PySem.W.Frag) : V → Option Int → Option Int → Hp → VK → Prop := fun x lo hi H Q => ∃ a xs, x = .ref a ∧ SqL K H a xs ∧ ∀ p, H p = none → Q (.ref p) (upd H p (.lst (cutV xs lo hi)))
theorem sl_list : SlR X (rSlL X.K) := by
  intro pins s σ H x v vl vu lo hi sl Q I rx hs pl pu h
  obtain ⟨a, xs, rfl, hx, q⟩ := h
  cases rx
  obtain ⟨its, r, ht, hz⟩ := I.list hx
  have hlen := r.length
  refine ⟨"list", _, slot_list_getitem.lookup, ht.isList.typeIs, ?_⟩
  refine wpAny_getItem_list_slice ht.isList hs pl pu .none (by simp) ?_ (by rw [List.size_toArray] <;> omega)
  rw [slicePick_cut, ← hlen]
  refine ⟨.ref s.heap.objs.size, _, I.laid (t' := s.toks) (o := .lst (cutV xs lo hi)) (fun b ob q => Heap.get?_push_of_some _ q) (Nat.le_refl _) ?_, rfl, q _ (I.hok.fresh (Nat.le_refl _))⟩
  exact ⟨Nat.le_trans (cutV_length xs lo hi) hz, _, 0, (r.drop (HT.sIx xs.length 0 lo)).take (HT.sIx xs.length xs.length hi - HT.sIx xs.length 0 lo), Heap.get?_push_size _ rfl⟩
def flatV : V → Bool
  | .non => true
  | .bl _ => true
  | .int _ => true
  | .str _ => true
  | _ => false
def eqV : V → V → Bool
  | .non, .non => true
  | .bl a, .bl b => a == b
  | .bl a, .int b => (if a then 1 else 0) == b
  | .int a, .bl b => a == (if b then 1 else 0)
  | .int a, .int b => a == b
  | .str a, .str b => a == b
  | _, _ => false
theorem eqAt_V {A : Around} {s : Shared} {y x : V} {u v : Value} (ry : RelV y u) (rx : RelV x v) (fy : flatV y = true) (fx : flatV x = true) : SeqAt.EqAt A s u v (eqV y x) := by
  cases y with
  | non =>
    cases ry
    cases x with
    | non => cases rx; exact SeqAt.EqAt.same _
    | bl b => cases rx; exact SeqAt.EqAt.none_bool b
    | int b => obtain ⟨t, rfl⟩ := rx; exact SeqAt.EqAt.none_int b t
    | str b => obtain ⟨t, rfl⟩ := rx; exact SeqAt.EqAt.none_str b t
    | _ => exact absurd (show false = true from fx) Bool.false_ne_true
  | bl a =>
    cases ry
    cases x with
    | non => cases rx; exact SeqAt.EqAt.bool_none a
    | bl b => cases rx; exact SeqAt.EqAt.bool_bool a b
    | int b => obtain ⟨t, rfl⟩ := rx; exact SeqAt.EqAt.bool_int a b t
    | str b => obtain ⟨t, rfl⟩ := rx; exact SeqAt.EqAt.bool_str a b t
    | _ => exact absurd (show false = true from fx) Bool.false_ne_true
  | int a =>
    obtain ⟨t', rfl⟩ := ry
    cases x with
    | non => cases rx; exact SeqAt.EqAt.int_none a t'
    | bl b => cases rx; exact SeqAt.EqAt.int_bool a t' b
    | int b => obtain ⟨t, rfl⟩ := rx; exact SeqAt.EqAt.int_int a t' b t
    | str b => obtain ⟨t, rfl⟩ := rx; exact SeqAt.EqAt.int_str a t' b t
    | _ => exact absurd (show false = true from fx) Bool.false_ne_true
  | str a =>
    obtain ⟨t', rfl⟩ := ry
    cases x with
    | non => cases rx; exact SeqAt.EqAt.str_none a t'
    | bl b => cases rx; exact SeqAt.EqAt.str_bool a t' b
    | int b => obtain ⟨t, rfl⟩ := rx; exact SeqAt.EqAt.str_int a t' b t
    | str b => obtain ⟨t, rfl⟩ := rx; exact SeqAt.EqAt.str_str a t' b t
    | _ => exact absurd (show false = true from fx) Bool.false_ne_true
  | _ => exact absurd (show false = true from fy) Bool.false_ne_true
def eqU (x : V) (u : Value) : Bool := match u with
  | .none => eqV .non x
  | .bool b => eqV (.bl b) x
  | .int i _ => eqV (.int i) x
  | .str z _ => eqV (.str z) x
  | _ => false
theorem eqU_of {x y : V} {u : Value} (r : RelV y u) (f : flatV y = true) : eqU x u = eqV y x := by
  cases y with
  | non => cases r; rfl
  | bl b => cases r; rfl
  | int i => obtain ⟨t, rfl⟩ := r; rfl
  | str z => obtain ⟨t, rfl⟩ := r; rfl
  | _ => exact absurd (show false = true from f) Bool.false_ne_true
theorem any_eqU {x : V} : ∀ {xs : List V} {us : List Value}, Vals xs us → xs.all flatV = true → us.any (eqU x) = xs.any fun y => eqV y x
  | _, _, .nil, _ => rfl
  | y :: xs, u :: us, .cons r t, f => by
    rw [List.all_cons, Bool.and_eq_true] at f
    rw [List.any_cons, List.any_cons, eqU_of r f.1, any_eqU t f.2]
theorem mem_eqAt {A : Around} {s : Shared} {x : V} {v : Value} (rx : RelV x v) (fx : flatV x = true) : ∀ {xs : List V} {us : List Value}, Vals xs us → xs.all flatV = true → ∀ u ∈ us, SeqAt.EqAt A s u v (eqU x u)
  | _, _, .nil, _ => fun u hu => by cases hu
  | y :: xs, u :: us, .cons r t, f => fun u' hu => by
    rw [List.all_cons, Bool.and_eq_true] at f
    rcases List.mem_cons.mp hu with rfl | hu
    · rw [eqU_of r f.1]; exact eqAt_V r rx f.1 fx
    · exact mem_eqAt rx fx t f.2 u' hu
def inV (x : V) (xs : List V) : Bool := xs.any fun y => eqV y x
def rIn (K : PySem.W.Frag) (neg : Bool) : R2 := fun x y H Q => ∃ p xs, y = .ref p ∧ (SqL K H p xs ∨ SqT K H p xs) ∧ flatV x = true ∧ xs.all flatV = true ∧ Q (.bl (if neg then !inV x xs else inV x xs)) H
theorem op_in_seq : OpR X (compareOp .In) (rIn X.K false) := by
  intro pins s σ H x y v u Q I rx ry h
  obtain ⟨p, xs, rfl, hq, fx, fs, q⟩ := h
  cases ry
  rcases hq with hq | hq
  · obtain ⟨its, r, pl, hz⟩ := I.list hq
    refine SeqAt.in_listAt (eqU x) pl.isList (fun w hw => mem_eqAt rx fx r fs w (by simpa using hw)) ⟨.bl _, H, I, rfl, ?_⟩
    rw [show its.toArray.any (eqU x) = its.any (eqU x) by simp, any_eqU r fs]
    exact q
  · obtain ⟨its, r, pl, hz⟩ := I.tuple hq
    refine SeqAt.in_tupleAt (eqU x) pl (fun w hw => mem_eqAt rx fx r fs w (by simpa using hw)) ⟨.bl _, H, I, rfl, ?_⟩
    rw [show its.toArray.any (eqU x) = its.any (eqU x) by simp, any_eqU r fs]
    exact q
theorem call_len_seq : CallR X (.builtin "len") (fun xs H Q => ∃ p ys, xs = [.ref p] ∧ (SqL X.K H p ys ∨ SqT X.K H p ys) ∧ Q (.int ys.length) H) := by
  intro pins s σ H xs us Q I r h
  obtain ⟨p, ys, rfl, hq, q⟩ := h
  obtain ⟨u, rfl, rx⟩ := vals1 r
  cases rx
  have hn := line63
  rcases hq with hq | hq
  · obtain ⟨its, r', pl, hz⟩ := I.list hq
    have hlen := r'.length
    exact Calls.call_len_list pl.isList (by simp only [List.size_toArray] <;> omega) ⟨.int ys.length, H, I.tok _, ⟨s.toks + 1, by rw [List.size_toArray, hlen]⟩, q⟩
  · obtain ⟨its, r', pl, hz⟩ := I.tuple hq
    have hlen := r'.length
    exact len_tuple pl (by simp only [List.size_toArray] <;> omega) ⟨.int ys.length, H, I.tok _, ⟨s.toks + 1, by rw [List.size_toArray, hlen]⟩, q⟩
theorem call_list_of : CallR X (.type "list") (fun xs H Q => ∃ p ys, xs = [.ref p] ∧ (SqL X.K H p ys ∨ SqT X.K H p ys) ∧ ∀ l, H l = none → Q (.ref l) (upd H l (.lst ys))) := by
  intro pins s σ H xs us Q I r h
  obtain ⟨p, ys, rfl, hq, q⟩ := h
  obtain ⟨u, rfl, rx⟩ := vals1 r
  cases rx
  have fin : ∀ (its : List Value), Vals ys its → ys.length ≤ sizeLine → ∀ (h' : Heap) (c' : Nat), (∀ b o', s.heap.get? b = some o' → h'.get? b = some o') →
      h'.get? s.heap.objs.size = some { cls := .type "list", dict := none, data := .seq its.toArray c', slots := #[] } → EP X pins σ Q (.ref s.heap.objs.size) { s with heap := h' } := fun its r' hz h' c' kp e =>
    ⟨.ref s.heap.objs.size, _, I.laid (t' := s.toks) kp (Nat.le_refl _) (show ObjOk X.prog X.w _ h' _ (.lst ys) from ⟨hz, its, c', r', e⟩), rfl, q _ (I.hok.fresh (Nat.le_refl _))⟩
  rcases hq with hq | hq
  · obtain ⟨its, r', pl, hz⟩ := I.list hq
    have hlen := r'.length
    obtain ⟨o, ho, hc, n, hd⟩ := pl.isList
    exact call_list_seq p (.inl rfl) ho hc hd (fun h' c' kp e => fin its r' hz h' c' kp e) (by simp only [List.size_toArray] <;> omega)
  · obtain ⟨its, r', pl, hz⟩ := I.tuple hq
    have hlen := r'.length
    obtain ⟨o, ho, hc, n, hd⟩ := pl
    exact call_list_seq p (.inr rfl) ho hc hd (fun h' c' kp e => fin its r' hz h' c' kp e) (by simp only [List.size_toArray] <;> omega)
theorem call_tuple_of : CallR X (.type "tuple") (fun xs H Q => ∃ p ys, xs = [.ref p] ∧ ((SqL X.K H p ys ∧ ∀ l, H l = none → Q (.ref l) (upd H l (.tup ys))) ∨ (SqT X.K H p ys ∧ Q (.ref p) H))) := by
  intro pins s σ H xs us Q I r h
  obtain ⟨p, ys, rfl, h⟩ := h
  obtain ⟨u, rfl, rx⟩ := vals1 r
  cases rx
  rcases h with ⟨hq, q⟩ | ⟨hq, q⟩
  · obtain ⟨its, r', pl, hz⟩ := I.list hq
    have hlen := r'.length
    refine call_tuple_list pl.isList (fun h' kp => ?_) (by simp only [List.size_toArray] <;> omega)
    have I1 : Inv X pins σ H { s with heap := h' } := I.kept (t' := s.toks) kp
    have I2 : Inv X pins σ (upd H h'.objs.size (.tup ys)) { s with heap := h'.push { cls := .type "tuple", data := .seq its.toArray } } :=
      I1.laid (t' := s.toks) (fun b o e => Heap.get?_push_of_some _ e) (Nat.le_refl _) (show ObjOk X.prog X.w _ _ _ (.tup ys) from ⟨hz, its, r', IsTup.new _ _⟩)
    exact ⟨.ref h'.objs.size, _, I2, rfl, q _ (I1.hok.fresh (Nat.le_refl _))⟩
  · obtain ⟨its, r', pl, hz⟩ := I.tuple hq
    exact call_tuple_same pl ⟨.ref p, H, I, rfl, q⟩
def tyV (K : PySem.W.Frag) (T : String) (x : V) (H : Hp) : Prop := match x with
  | .str _ => T = "str"
  | .int _ => T = "int"
  | .ref p => (T = "list" ∧ ∃ xs, SqL K H p xs) ∨ (T = "tuple" ∧ ∃ o, K.lookup p = some o ∧ o.cls = .type "tuple" ∧ o.dict = none) ∨
      (T = "dict" ∧ ((∃ kvs, H p = some (.dK kvs)) ∨ ∃ kvs, H p = some (.dT kvs))) ∨ (T = "set" ∧ ∃ S n, H p = some (.set S n))
  | _ => False
theorem tyV_is {pins : List (Addr × Obj)} {σ : St} {H : Hp} {s : Shared} {T : String} {x : V} {v : Value} (I : Inv X pins σ H s) (r : RelV x v) (ty : tyV X.K T x H) :
    s.TypeIs v T ∧ ∀ a, v = .ref a → ∃ ob, s.heap.get? a = some ob ∧ ob.dict = none := by
  cases x with
  | str z =>
    obtain ⟨t, rfl⟩ := r
    cases (show T = "str" from ty)
    exact ⟨typeIs_str s z t, fun _ e => nomatch e⟩
  | int i =>
    obtain ⟨t, rfl⟩ := r
    cases (show T = "int" from ty)
    exact ⟨typeIs_int s i t, fun _ e => nomatch e⟩
  | ref p =>
    cases r
    rcases ty with ⟨rfl, xs, hq⟩ | ⟨rfl, o, hk, hc, hd⟩ | ⟨rfl, hk⟩ | ⟨rfl, S, n, hk⟩
    · obtain ⟨its, _, pl, _⟩ := I.list hq
      refine ⟨pl.isList.typeIs, fun a e => ?_⟩
      cases e
      obtain ⟨o, n, e, c, hd, _⟩ := pl
      exact ⟨o, e, hd⟩
    · refine ⟨⟨o, I.kIn p o hk, hc⟩, fun a e => ?_⟩
      cases e
      exact ⟨o, I.kIn _ o hk, hd⟩
    · have z : ∃ o, s.heap.get? p = some o ∧ o.ExactDict := by
        rcases hk with ⟨kvs, hk⟩ | ⟨kvs, hk⟩
        · obtain ⟨_, _, _, _, o, _, _, e, ex, _⟩ := I.hok p _ hk
          exact ⟨o, e, ex⟩
        · obtain ⟨_, _, _, _, o, _, _, e, ex, _⟩ := I.hok p _ hk
          exact ⟨o, e, ex⟩
      obtain ⟨o, e, ex⟩ := z
      refine ⟨⟨o, e, ex.1⟩, fun a e2 => ?_⟩
      cases e2
      exact ⟨o, e, ex.2.1⟩
    · obtain ⟨o, _, _, _, e, ex, _⟩ := I.hok p _ hk
      refine ⟨⟨o, e, ex.1⟩, fun a e2 => ?_⟩
      cases e2
      exact ⟨o, e, ex.2.1⟩
  | _ => exact False.elim ty
def tBM (K : PySem.W.Frag) (T : String) (r : V → List V → Hp → VK → Prop) (to : TE) (t : TA) : TE := fun σ H Q => to σ H fun x H1 => tyV K T x H1 ∧ t σ H1 fun xs H2 => r x xs H2 Q
variable {o e : Expr} {es : List Expr} {to : TE} {t : TA} {name : Str} {apos cpos : Pos} {T id : String} {r : V → List V → Hp → VK → Prop}
theorem pe_bm (pa : PlainAttrs T) (slot : Slot T name id) (hty : typeOf (.builtin id) = pure (.type "method_descriptor")) (hm : MtR X id r) (ho : PE X o to) (ha : PA X (e :: es) t)
    (hbase : attributeBase o name X.env (eval o X.env) = eval o X.env := by rfl)
    (hfew : ((backTo cpos (starEach (e :: es) X.env)).all (fun x => !x.1) && (backToKw cpos (keywordEach [] X.env)).all (fun x => x.1.isSome)
      && decide ((e :: es).length + ([] : List Keyword).length + (if ([] : List Keyword).isEmpty then 0 else 1) < 30)) = true := by rfl)
    (hline : (apos.endLine == cpos.line) = true := by rfl) (hs : starEach (e :: es) X.env = (false, eval e X.env) :: starEach es X.env := by rfl) (hplain : (backTo cpos (starEach es X.env)).any (·.1) = false := by rfl) :
    PE X (.Call (.Attribute o name apos) (e :: es) [] cpos) (tBM X.K T r to t) := by
  intro pins s σ H Q I h
  refine wpAny_Call_method_late hbase hfew hline rfl (thn (ho pins s σ H _ I h) fun v s1 ⟨x, H1, I1, r1, ty, q1⟩ => ?_)
  obtain ⟨h1, h2⟩ := tyV_is I1 r1 ty
  refine ⟨T, id, pa, slot, hty, h1, h2, ?_⟩
  have hA := ha cpos pins s1 σ H1 _ I1 q1
  rw [hs] at hA ⊢
  refine Calls.callWith_builtin (by show (false || (backTo cpos (starEach es X.env)).any (·.1)) = false; rw [hplain] <;> rfl) (Calls.evalArgs_plain ?_)
  exact thn hA fun us s2 ⟨vs, H2, I2, r2, q2⟩ => hm pins s2 σ H2 x vs v us Q I2 r1 r2 q2
end
end L2
namespace L2
open PySem PySem.Spec PyProof.Rows
def MtM (X : Cx) (id : String) (r : V → List V → Hp → VK → Prop) : Prop :=
  ∀ (pins : List (Addr × Obj)) (s : Shared) (σ : St) (H : Hp) (x : V) (xs : List V) (v : Value) (us : List Value) (Q : VK), Inv X pins σ H s → RelV x v → Vals xs us → r x xs H Q →
    wpAny (model X.prog X.w) X.A (call (.builtin id) (v :: us)) (EP X pins σ Q) X.xe s
theorem Vals.one : ∀ {x : V} {us : List Value}, Vals [x] us → ∃ u, us = [u] ∧ RelV x u
  | _, _, .cons r .nil => ⟨_, rfl, r⟩
theorem Vals.rep {xs : List V} {us : List Value} (h : Vals xs us) : ∀ k : Nat, Vals (List.replicate k xs).flatten (List.replicate k us).flatten
  | 0 => .nil
  | k + 1 => by
    rw [List.replicate_succ, List.replicate_succ, List.flatten_cons, List.flatten_cons]
    exact Vals.append h (Vals.rep h k)
theorem foldl_rep (its : List Value) : ∀ (k : Nat) (acc : List Value),
    List.foldl (fun x1 x2 => x1 ++ x2) acc.toArray (List.replicate k its.toArray) = (acc ++ (List.replicate k its).flatten).toArray
  | 0, acc => by simp
  | k + 1, acc => by
    have e : acc.toArray ++ its.toArray = (acc ++ its).toArray := by simp
    have e2 : (acc ++ its) ++ (List.replicate k its).flatten = acc ++ (List.replicate (k + 1) its).flatten := by
      rw [List.replicate_succ, List.flatten_cons, List.append_assoc]
    rw [← e2, ← foldl_rep its k (acc ++ its), ← e, List.replicate_succ, List.foldl_cons]
section
variable {X : Cx} {pins : List (Addr × Obj)} {σ : St} {H : Hp} {s : Shared} {l b : Addr} {xs ys zs : List V}
theorem Inv.lset {its its' : List Value} {n : Nat} {f : Array Value → Array Value} {t' : Nat} (I : Inv X pins σ H s) (hH : H l = some (.lst xs))
    (e : s.heap.get? l = some { cls := .type "list", data := .seq its.toArray n }) (hf : f its.toArray = its'.toArray) (hv : Vals ys its') (hz : ys.length ≤ sizeLine) :
    Inv X pins σ (upd H l (.lst ys)) { s with heap := s.heap.update l (Obj.mapSeq f), toks := t' } := by
  have q := PySem.IsL.update e f
  rw [hf] at q
  refine I.write (x := l) (e := l) (by rw [hH]; exact trivial) (.inl rfl) (fun b' u hb hu => (Heap.get?_update_other s.heap (Obj.mapSeq f) (Ne.symm hb)).trans hu) ⟨_, q⟩ ?_
  exact ⟨hz, its', _, hv, q⟩
theorem Inv.lnew {its : List Value} {t' : Nat} (I : Inv X pins σ H s) (hv : Vals ys its) (hz : ys.length ≤ sizeLine) :
    Inv X pins σ (upd H s.heap.objs.size (.lst ys)) { s with heap := s.heap.push { cls := .type "list", data := .seq its.toArray }, toks := t' } :=
  I.laid (fun _ _ q => Heap.get?_push_of_some _ q) (Nat.le_refl _) ⟨hz, its, 0, hv, Heap.get?_push_size _ rfl⟩
theorem Inv.fresh (I : Inv X pins σ H s) : H s.heap.objs.size = none := I.hok.fresh (Nat.le_refl _)
theorem Inv.lstM (I : Inv X pins σ H s) (hH : H l = some (.lst xs)) : xs.length ≤ sizeLine ∧ ∃ (its : List Value) (n : Nat), Vals xs its ∧ xs.length = its.length ∧ s.heap.get? l = some { cls := .type "list", data := .seq its.toArray n } := by
  obtain ⟨z, its, n, r, e⟩ := I.hok l _ hH
  exact ⟨z, its, n, r, r.length, e⟩
theorem notLongL {n : Nat} (h : n ≤ sizeLine) : Builtin.List.listTooLong n = false := by
  unfold Builtin.List.listTooLong
  exact decide_eq_false (by omega)
end
section
variable {X : Cx}
def rAppend : V → List V → Hp → VK → Prop := fun x vs H Q => ∃ l xs y, x = .ref l ∧ vs = [y] ∧ H l = some (.lst xs) ∧ xs.length < sizeLine ∧ Q .non (upd H l (.lst (xs ++ [y])))
theorem mt_append : MtM X "list.append" rAppend := by
  intro pins s σ H x vs v us Q I rx rv h
  obtain ⟨l, xs, y, rfl, rfl, hH, hz, q⟩ := h
  cases rx
  obtain ⟨u, rfl, ru⟩ := rv.one
  obtain ⟨z, its, n, r, hl, e⟩ := I.lstM hH
  refine call_meets F.slot_list_append ⟨_, e, rfl⟩ F.entry_list_append (F.args_list_append_2 _ _) (PySem.list_append l its.toArray n u (by rw [List.size_toArray]; omega)) ⟨e, ?_⟩
  refine ⟨.non, _, I.lset (its' := its ++ [u]) hH e (by simp) (r.append (.cons ru .nil)) ?_, rfl, q⟩
  rw [List.length_append, List.length_singleton]
  omega
def rExtend : V → List V → Hp → VK → Prop := fun x vs H Q => ∃ l b xs zs, x = .ref l ∧ vs = [.ref b] ∧ H l = some (.lst xs) ∧ H b = some (.lst zs) ∧ xs.length + zs.length ≤ sizeLine ∧ Q .non (upd H l (.lst (xs ++ zs)))
theorem mt_extend : MtM X "list.extend" rExtend := by
  intro pins s σ H x vs v us Q I rx rv h
  obtain ⟨l, b, xs, zs, rfl, rfl, hH, hB, hz, q⟩ := h
  cases rx
  obtain ⟨u, rfl, ru⟩ := rv.one
  cases ru
  obtain ⟨z, its, n, r, hl, e⟩ := I.lstM hH
  obtain ⟨z2, its2, n2, r2, hl2, e2⟩ := I.lstM hB
  have hsz : its.toArray.size + its2.toArray.size ≤ sizeLine := by rw [List.size_toArray, List.size_toArray]; omega
  have hlong : ¬ (!its.toArray.isEmpty && Builtin.List.listTooLong (its.toArray.size + its2.toArray.size)) = true := by
    rw [notLongL hsz, Bool.and_false]
    exact Bool.false_ne_true
  refine call_meets F.slot_list_extend ⟨_, e, rfl⟩ F.entry_list_extend (F.args_list_extend_2 _ _)
    (AutoSeq1.list_extend_list_list_0 l its.toArray n b its2.toArray n2 hlong (by rw [List.size_toArray]; omega) (by omega)) ⟨e, e2, ?_⟩
  refine ⟨.non, _, I.lset (its' := its ++ its2) hH e (by simp) (r.append r2) ?_, rfl, q⟩
  rw [List.length_append]
  omega
def rCat : R2 := fun x y H Q => ∃ l b xs zs, x = .ref l ∧ y = .ref b ∧ H l = some (.lst xs) ∧ H b = some (.lst zs) ∧ xs.length + zs.length ≤ sizeLine ∧ ∀ p, H p = none → Q (.ref p) (upd H p (.lst (xs ++ zs)))
theorem op_cat : OpR X (binaryOp .Add) rCat := by
  intro pins s σ H x y v u Q I rx ry h
  obtain ⟨l, b, xs, zs, rfl, rfl, hH, hB, hz, q⟩ := h
  cases rx
  cases ry
  obtain ⟨z, its, n, r, hl, e⟩ := I.lstM hH
  obtain ⟨z2, its2, n2, r2, hl2, e2⟩ := I.lstM hB
  refine PySem.P.add_list e e2 ?_ (by rw [List.size_toArray, List.size_toArray]; omega)
  have ea : its.toArray ++ its2.toArray = (its ++ its2).toArray := by simp
  rw [ea]
  exact ⟨.ref _, _, I.lnew (t' := s.toks) (r.append r2) (by rw [List.length_append]; omega), rfl, q _ I.fresh⟩
def rRep : R2 := fun x y H Q => ∃ l k xs, x = .ref l ∧ y = .int k ∧ H l = some (.lst xs) ∧ -(2 ^ 63) ≤ k ∧ k < 2 ^ 63 ∧ xs.length * k.toNat ≤ sizeLine ∧
  ∀ p, H p = none → Q (.ref p) (upd H p (.lst (List.replicate k.toNat xs).flatten))
theorem len_rep {α : Type} (xs : List α) (k : Nat) : (List.replicate k xs).flatten.length = k * xs.length := by
  induction k with
  | zero => simp
  | succ k ih => rw [List.replicate_succ, List.flatten_cons, List.length_append, ih, Nat.succ_mul, Nat.add_comm]
theorem op_rep : OpR X (binaryOp .Mult) rRep := by
  intro pins s σ H x y v u Q I rx ry h
  obtain ⟨l, k, xs, rfl, rfl, hH, h1, h2, hz, q⟩ := h
  cases rx
  obtain ⟨t, rfl⟩ := ry
  obtain ⟨z, its, n, r, hl, e⟩ := I.lstM hH
  have hlen : its.toArray.size * k.toNat ≤ sizeLine := by rw [List.size_toArray, ← hl]; exact hz
  have hcap : ¬ its.toArray.size * k.toNat > (2 ^ 63 - 1) / 8 := by
    have : (sizeLine : Nat) ≤ (2 ^ 63 - 1) / 8 := by decide
    omega
  have hfit : ¬ (!Builtin.List.listFitsIndex k) = true := by
    rw [fitsIndex_both h1 h2]
    exact Bool.false_ne_true
  have hlong : ¬ Builtin.List.listTooLong (its.toArray.size * k.toNat) = true := by
    rw [notLongL hlen]
    exact Bool.false_ne_true
  have hnew : List.foldl (fun x1 x2 => x1 ++ x2) #[] (List.replicate (if its.toArray.isEmpty = true then 0 else k.toNat) its.toArray) = (List.replicate k.toNat its).flatten.toArray := by
    have f0 : ∀ m : Nat, List.foldl (fun x1 x2 => x1 ++ x2) #[] (List.replicate m its.toArray) = (List.replicate m its).flatten.toArray := fun m => by
      have := foldl_rep its m []
      rw [List.nil_append] at this
      exact this
    rw [f0]
    cases its with
    | nil => simp
    | cons a r' => rw [if_neg (by simp)]
  refine wpAny_binaryOp_repeat_ref (T := "list") (U := "int") (by decide) ⟨_, e, rfl⟩ (fun s' => typeIs_int s' k t) noFill_list_mul F.fills_int_mul F.slot_int_rmul repeat_list F.slot_int_index.lookup
    (call_meets F.slot_int_rmul (typeIs_int s k t) F.entry_int_rmul (F.args_int_rmul_2 _ _) (int___rmul___int_list k t l its.toArray n)
      ⟨e, rfl, ⟨_, e, rfl⟩, call_meets F.slot_list_mul ⟨_, e, rfl⟩ F.entry_list_mul (F.args_list_mul_2 _ _) (AutoListH.list___mul___list_int_3 l its.toArray n k t hfit hcap hlong) ⟨e, ?_⟩⟩)
  rw [hnew]
  exact ⟨.ref _, _, I.lnew (t' := s.toks) (r.rep k.toNat) (by rw [len_rep, Nat.mul_comm]; exact hz), rfl, q _ I.fresh⟩
end
section
variable {prog : Program} {w : World} {A : Around} {E : Value → Shared → Prop} {s : Shared}
end
section
variable {X : Cx}
end
end L2
namespace L2
open PySem PySem.Spec PyProof.Rows
section
variable {prog : Program} {w : World} {A : Around} {E : Value → Shared → Prop} {s : Shared} {l : Addr} {its : List Value} {ns : List Int} {Q : Value → Shared → Prop}
end
section
variable {X : Cx}
end
section
variable {X : Cx}
end
section
variable {X : Cx}
end
section
variable {X : Cx}
end
mutual
inductive Dp (K : PySem.W.Frag) (H : Hp) : V → PyData → Prop
  | non : Dp K H .non .none
  | bl (b : Bool) : Dp K H (.bl b) (.bool b)
  | int (i : Int) : Dp K H (.int i) (.int i)
  | str (x : Str) : Dp K H (.str x) (.str x)
  | lst {a : Addr} {xs : List V} {ds : List PyData} : SqL K H a xs → DpAll K H xs ds → Dp K H (.ref a) (.list ds)
  | tup {a : Addr} {xs : List V} {ds : List PyData} : SqT K H a xs → DpAll K H xs ds → Dp K H (.ref a) (.tuple ds)
inductive DpAll (K : PySem.W.Frag) (H : Hp) : List V → List PyData → Prop
  | nil : DpAll K H [] []
  | cons {v : V} {vs : List V} {d : PyData} {ds : List PyData} : Dp K H v d → DpAll K H vs ds → DpAll K H (v :: vs) (d :: ds)
end
section
variable {X : Cx} {pins : List (Addr × Obj)} {σ : St} {H : Hp} {s : Shared}
mutual
theorem Dp.reads (I : Inv X pins σ H s) : ∀ (d : PyData) (v : V) (u : Value), Dp X.K H v d → RelV v u → ∃ as, Reads s.heap u d as
  | .none, _, _, h, r => by
    cases h
    cases r
    exact ⟨_, Reads.none⟩
  | .bool b, _, _, h, r => by
    cases h
    cases r
    exact ⟨_, Reads.bool b⟩
  | .int i, _, _, h, r => by
    cases h
    obtain ⟨t, rfl⟩ := r
    exact ⟨_, Reads.int i t⟩
  | .str x, _, _, h, r => by
    cases h
    obtain ⟨t, rfl⟩ := r
    exact ⟨_, Reads.str x t⟩
  | .list ds, _, _, h, r => by
    cases h with
    | lst hs ha =>
      cases r
      obtain ⟨its, rv, ⟨o, n, ho, hc, _, hd⟩, _⟩ := I.list hs
      obtain ⟨as, hr⟩ := Dp.readsAll I ds _ its ha rv
      exact ⟨_, Reads.list ho hc hd hr⟩
  | .tuple ds, _, _, h, r => by
    cases h with
    | tup hs ha =>
      cases r
      obtain ⟨its, rv, ⟨o, ho, hc, n, hd⟩, _⟩ := I.tuple hs
      obtain ⟨as, hr⟩ := Dp.readsAll I ds _ its ha rv
      exact ⟨_, Reads.tuple ho hc hd hr⟩
  | .dict _, _, _, h, _ => by cases h
theorem Dp.readsAll (I : Inv X pins σ H s) : ∀ (ds : List PyData) (vs : List V) (us : List Value), DpAll X.K H vs ds → Vals vs us → ∃ as, ReadsAll s.heap us ds as
  | [], _, _, h, r => by
    cases h
    cases r
    exact ⟨_, ReadsAll.nil⟩
  | d :: ds, _, _, h, r => by
    cases h with
    | cons h1 h2 =>
      cases r with
      | cons r1 r2 =>
        obtain ⟨as, q1⟩ := Dp.reads I d _ _ h1 r1
        obtain ⟨bs, q2⟩ := Dp.readsAll I ds _ _ h2 r2
        exact ⟨_, ReadsAll.cons q1 q2⟩
end
end
section
variable {X : Cx}
end
end L2
namespace L2
open PySem PySem.Spec PyProof.Rows
abbrev CellAt (h : Heap) (c : Addr) (v : Option Value) : Prop := h.IsCell c v
def relS (scope sc : Scope) : Scope :=
  { scope with names := scope.names.map fun (n, k) => if (k == .free && sc.kind == .function && sc.names.lookup n == some .cell) then (n, .cell) else (n, k) }
def cloFrom (cells : List (Str × Addr)) : List (Str × NameKind) → List (Str × Addr) → List (Str × Addr)
  | [], acc => acc
  | (n, k) :: r, acc => if k == .free then cloFrom cells r ((n, (cells.lookup n).getD 0) :: acc) else cloFrom cells r acc
theorem closure_loop (env : Env) (f : Str × NameKind → List (Str × Addr) → Sem (ForInStep (List (Str × Addr))))
    (hf : ∀ n k c, f (n, k) c = if k == .free then (do let a ← cellOf env n; pure (.yield ((n, a) :: c))) else pure (.yield c)) :
    ∀ (names : List (Str × NameKind)) (acc : List (Str × Addr)), (∀ y ∈ names, y.2 = .free → ∃ c, env.cells.lookup y.1 = some c) → forIn names acc f = pure (cloFrom env.cells names acc)
  | [], acc, _ => by rw [List.forIn_nil]; rfl
  | (n, k) :: r, acc, h => by
    rw [List.forIn_cons, hf]
    have ih := fun acc => closure_loop env f hf r acc fun y hy => h y (List.mem_cons_of_mem _ hy)
    unfold cloFrom
    by_cases hk : (k == NameKind.free) = true
    · rw [if_pos hk, if_pos hk]
      obtain ⟨c, hc⟩ := h (n, k) List.mem_cons_self (by simpa using hk)
      have e : cellOf env n = pure c := by unfold cellOf; rw [hc]
      rw [e]
      have e2 : (env.cells.lookup n).getD 0 = c := by rw [hc]; rfl
      rw [e2]
      exact ih _
    · rw [if_neg hk, if_neg hk]
      exact ih _
theorem closure_ok {scope : Scope} {env : Env} (h : ∀ y ∈ scope.names, y.2 = .free → ∃ c, env.cells.lookup y.1 = some c) : closureFor scope env = pure (cloFrom env.cells scope.names []) := by
  simp only [closureFor]
  rw [closure_loop env _ (fun n k c => rfl) scope.names [] h]
  rfl
theorem mem_lookup {α : Type} : ∀ {l : List (Str × α)} {n : Str} {c : α}, (n, c) ∈ l → ∃ c', l.lookup n = some c'
  | (k, v) :: r, n, c, h => by
    rw [List.lookup_cons]
    cases hb : n == k with
    | true => exact ⟨_, rfl⟩
    | false =>
      rcases List.mem_cons.mp h with e | h
      · cases e; simp at hb
      · exact mem_lookup h
theorem cloFrom_mem {cells : List (Str × Addr)} : ∀ {names : List (Str × NameKind)} {acc : List (Str × Addr)} {n : Str} {c : Addr}, (n, c) ∈ cloFrom cells names acc → (n, c) ∈ acc ∨ ((n, .free) ∈ names ∧ c = (cells.lookup n).getD 0)
  | [], _, _, _, h => .inl h
  | (m, k) :: r, acc, n, c, h => by
    unfold cloFrom at h
    split at h
    · rename_i hk
      have hk : k = .free := by simpa using hk
      rcases cloFrom_mem h with h | ⟨h1, h2⟩
      · rcases List.mem_cons.mp h with e | h
        · cases e; exact .inr ⟨hk ▸ List.mem_cons_self, rfl⟩
        · exact .inl h
      · exact .inr ⟨List.mem_cons_of_mem _ h1, h2⟩
    · rcases cloFrom_mem h with h | ⟨h1, h2⟩
      · exact .inl h
      · exact .inr ⟨List.mem_cons_of_mem _ h1, h2⟩
theorem cloFrom_acc {cells : List (Str × Addr)} : ∀ {names : List (Str × NameKind)} {acc : List (Str × Addr)} {p : Str × Addr}, p ∈ acc → p ∈ cloFrom cells names acc
  | [], _, _, h => h
  | (m, k) :: r, acc, p, h => by
    unfold cloFrom
    split
    · exact cloFrom_acc (List.mem_cons_of_mem _ h)
    · exact cloFrom_acc h
theorem cloFrom_has {cells : List (Str × Addr)} : ∀ {names : List (Str × NameKind)} {acc : List (Str × Addr)} {n : Str}, (n, .free) ∈ names → (n, (cells.lookup n).getD 0) ∈ cloFrom cells names acc
  | (m, k) :: r, acc, n, h => by
    unfold cloFrom
    rcases List.mem_cons.mp h with e | h
    · cases e
      exact cloFrom_acc List.mem_cons_self
    · split
      · exact cloFrom_has h
      · exact cloFrom_has h
theorem cells_mem : ∀ {names : List (Str × NameKind)} {h : Heap} {acc : List (Str × Addr)} {x : Str} {c : Addr}, (x, c) ∈ cellsFrom h.objs.size names acc →
    (x, c) ∈ acc ∨ ((x, .cell) ∈ names ∧ h.objs.size ≤ c ∧ CellAt (pushCells h names) c none)
  | [], _, _, _, _, h => .inl h
  | (n, k) :: r, h, acc, x, c, hm => by
    unfold cellsFrom at hm
    unfold pushCells
    split at hm
    · rename_i hk
      rw [if_pos hk]
      have hk : k = .cell := by simpa using hk
      rw [← Heap.size_push h { cls := .type "cell", data := .cell none }] at hm
      rcases cells_mem hm with hm | ⟨h1, h2, h3⟩
      · rcases List.mem_cons.mp hm with e | hm
        · cases e
          exact .inr ⟨hk ▸ List.mem_cons_self, Nat.le_refl _, _, pushCells_keeps r _ _ _ (Heap.get?_push_size _ rfl), rfl⟩
        · exact .inl hm
      · rw [Heap.size_push] at h2
        exact .inr ⟨List.mem_cons_of_mem _ h1, Nat.le_of_succ_le h2, h3⟩
    · rename_i hk
      rw [if_neg hk]
      rcases cells_mem hm with hm | ⟨h1, h2, h3⟩
      · exact .inl hm
      · exact .inr ⟨List.mem_cons_of_mem _ h1, h2, h3⟩
theorem cells_acc : ∀ {names : List (Str × NameKind)} {n : Nat} {acc : List (Str × Addr)} {p : Str × Addr}, p ∈ acc → p ∈ cellsFrom n names acc
  | [], _, _, _, h => h
  | (m, k) :: r, n, acc, p, h => by
    unfold cellsFrom
    split
    · exact cells_acc (List.mem_cons_of_mem _ h)
    · exact cells_acc h
theorem cells_has : ∀ {names : List (Str × NameKind)} {n : Nat} {acc : List (Str × Addr)} {x : Str}, (x, .cell) ∈ names → ∃ c, (x, c) ∈ cellsFrom n names acc
  | (m, k) :: r, n, acc, x, h => by
    unfold cellsFrom
    rcases List.mem_cons.mp h with e | h
    · cases e
      exact ⟨n, cells_acc List.mem_cons_self⟩
    · split
      · exact cells_has h
      · exact cells_has h
theorem cells_inj : ∀ {names : List (Str × NameKind)} {h : Heap} {acc : List (Str × Addr)} {x y : Str} {c : Addr}, (∀ p ∈ acc, p.2 < h.objs.size) → (∀ x y c, (x, c) ∈ acc → (y, c) ∈ acc → x = y) →
    (x, c) ∈ cellsFrom h.objs.size names acc → (y, c) ∈ cellsFrom h.objs.size names acc → x = y
  | [], _, _, _, _, _, _, hi, h1, h2 => hi _ _ _ h1 h2
  | (n, k) :: r, h, acc, x, y, c, hl, hi, h1, h2 => by
    unfold cellsFrom at h1 h2
    split at h1
    · rename_i hk
      rw [if_pos hk] at h2
      rw [← Heap.size_push h { cls := .type "cell", data := .cell none }] at h1 h2
      refine cells_inj (h := h.push _) (fun p hp => ?_) (fun x y c a b => ?_) h1 h2
      · rw [Heap.size_push]
        rcases List.mem_cons.mp hp with rfl | hp
        · exact Nat.lt_succ_self _
        · exact Nat.lt_succ_of_lt (hl p hp)
      · rcases List.mem_cons.mp a with e | a <;> rcases List.mem_cons.mp b with e' | b
        · cases e; cases e'; rfl
        · cases e; exact absurd (hl _ b) (Nat.lt_irrefl _)
        · cases e'; exact absurd (hl _ a) (Nat.lt_irrefl _)
        · exact hi _ _ _ a b
    · rename_i hk
      rw [if_neg hk] at h2
      exact cells_inj hl hi h1 h2
theorem newEnv_comp {M : Model} {A : Around} {E : Value → Shared → Prop} {s : Shared} {scope : Scope} {globals : Addr} {closure : List (Str × Addr)} {qual : Str} {func : Option Addr} {code : Value} {around : Env} {builtins : Addr} {Q : Env → Shared → Prop}
    (h : Q (newEnv scope s.heap.objs.size globals (cellsFrom (s.heap.objs.size + 1) scope.names closure) qual func code (some around) builtins)
      { s with heap := pushCells (s.heap.push { cls := .type "dict", data := .dict #[] }) scope.names }) :
    wpAny M A (newFunctionEnv scope globals closure [] qual func code (some around) builtins) Q E s := by
  simp only [newFunctionEnv, Option.isSome_some, if_true]
  refine wpAny_bind (wpAny_alloc ?_)
  refine wpAny_bind (wpAny_layCells _ (fun n k c => rfl) scope.names closure _ _ ?_)
  rw [show ({ s with heap := s.heap.push { cls := .type "dict", data := .dict #[] } } : Shared).heap.objs.size = s.heap.objs.size + 1 from Heap.size_push ..]
  rw [List.forIn_nil]
  exact wpAny_bind (wpAny_pure (wpAny_pure h))
theorem lookup_relS {sc : Scope} : ∀ {names : List (Str × NameKind)} {x : Str} {k : NameKind},
    (names.map fun (n, k) => if (k == NameKind.free && sc.kind == .function && sc.names.lookup n == some .cell) then (n, NameKind.cell) else (n, k)).lookup x = some k →
    ∃ k', names.lookup x = some k' ∧ (k = k' ∨ (k' = .free ∧ k = .cell))
  | [], _, _, h => by simp at h
  | (n, k₀) :: r, x, k, h => by
    have ih := @lookup_relS sc r x k
    have h' : List.lookup x ((if (k₀ == NameKind.free && sc.kind == .function && sc.names.lookup n == some .cell) = true then (n, NameKind.cell) else (n, k₀)) :: (r.map _)) = some k := h
    cases hx : x == n with
    | true =>
      simp only [List.lookup_cons, hx]
      by_cases hc : (k₀ == NameKind.free && sc.kind == .function && sc.names.lookup n == some .cell) = true
      · rw [if_pos hc] at h'
        simp only [List.lookup_cons, hx] at h'
        cases h'
        simp only [Bool.and_eq_true, beq_iff_eq] at hc
        exact ⟨k₀, rfl, .inr ⟨hc.1.1, rfl⟩⟩
      · rw [if_neg hc] at h'
        simp only [List.lookup_cons, hx] at h'
        cases h'
        exact ⟨_, rfl, .inl rfl⟩
    | false =>
      simp only [List.lookup_cons, hx]
      by_cases hc : (k₀ == NameKind.free && sc.kind == .function && sc.names.lookup n == some .cell) = true
      · rw [if_pos hc] at h'
        simp only [List.lookup_cons, hx] at h'
        exact ih h'
      · rw [if_neg hc] at h'
        simp only [List.lookup_cons, hx] at h'
        exact ih h'
structure BlkOk (N : List Str) (sc scope : Scope) (own : List (Str × Nat)) : Prop where
  kind : scope.kind = .function
  uniq : ∀ y ∈ scope.names, scope.names.lookup y.1 = some y.2
  ix : ∀ p ∈ own, N[p.2]? = some p.1
  free : ∀ y ∈ scope.names, y.2 = .free → sc.names.lookup y.1 = some .cell ∨ sc.names.lookup y.1 = some .free
  own : ∀ y ∈ scope.names, y.2 = .local ∨ y.2 = .cell → y.1 ∈ own.map (·.1) ∨ y.1 ∉ N
def wipe (σ : St) : List Nat → St
  | [] => σ
  | v :: vs => (wipe σ vs).set v none
theorem wipe_length (σ : St) : ∀ vs : List Nat, (wipe σ vs).length = σ.length
  | [] => rfl
  | v :: vs => by unfold wipe; rw [List.length_set, wipe_length σ vs]
theorem wipe_some {σ : St} {i : Nat} {x : V} : ∀ {vs : List Nat}, (wipe σ vs)[i]? = some (some x) → σ[i]? = some (some x) ∧ i ∉ vs
  | [], h => ⟨h, by simp⟩
  | v :: vs, h => by
    unfold wipe at h
    by_cases hi : v = i
    · subst hi
      by_cases hv : v < (wipe σ vs).length
      · rw [List.getElem?_set_self hv] at h; cases h
      · rw [List.getElem?_eq_none (by simpa using hv)] at h; cases h
    · rw [List.getElem?_set_ne hi] at h
      obtain ⟨h1, h2⟩ := wipe_some h
      exact ⟨h1, by simp only [List.mem_cons, not_or]; exact ⟨fun e => hi e.symm, h2⟩⟩
abbrev Cx.blk (X : Cx) (s : Shared) (H : Hp) (scope : Scope) (cenv : Env) (fp : List Addr) : Cx := { X with s_0 := s, H_0 := H, env := cenv, outer := X.stack, ex := fp, fn := fun x => scope.names.lookup x == some .cell, pn := [], xe := fun _ _ => False }
section
variable {X : Cx} {pins : List (Addr × Obj)} {σ : St} {H : Hp} {s : Shared}
theorem block_start {scope : Scope} {own : List (Str × Nat)} {fp : List Addr} (I : Inv X pins σ H s) (ok : BlkOk X.N X.env.scope scope own) (hN : X.N.Nodup) (hfp : ∀ b ∈ fp, FpOk X pins H b ∧ b < s.heap.objs.size) :
    Inv (X.blk s H scope (compEnvC scope (cellsFrom (s.heap.objs.size + 1) scope.names (cloFrom X.env.cells scope.names [])) s.heap.objs.size X.env) fp) [] (wipe σ (own.map (·.2))) H { s with heap := pushCells (s.heap.push { cls := .type "dict", data := .dict #[] }) scope.names } := by
  have hfree : ∀ y ∈ scope.names, y.2 = .free → ∃ c, X.env.cells.lookup y.1 = some c := fun y hy e => by
    rcases ok.free y hy e with k | k
    · exact I.ok.has _ (.inl k)
    · exact I.ok.has _ (.inr k)
  generalize hcenv : compEnvC scope (cellsFrom (s.heap.objs.size + 1) scope.names (cloFrom X.env.cells scope.names [])) s.heap.objs.size X.env = cenv
  have kp : ∀ b o, s.heap.get? b = some o → (pushCells (s.heap.push { cls := .type "dict", data := .dict #[] }) scope.names).get? b = some o := fun b o e => pushCells_keeps _ _ _ _ (Heap.get?_push_of_some _ e)
  have hL : cenv.locals = s.heap.objs.size := by rw [← hcenv]; rfl
  have hcl : cenv.cells = cellsFrom (s.heap.objs.size + 1) scope.names (cloFrom X.env.cells scope.names []) := by rw [← hcenv]; rfl
  have hsc : cenv.scope = relS scope X.env.scope := by rw [← hcenv]; rfl
  rw [← Heap.size_push s.heap { cls := .type "dict", data := .dict #[] }] at hcl
  have cm : ∀ {y c}, (y, c) ∈ cloFrom X.env.cells scope.names [] → X.env.cells.lookup y = some c ∧ c < s.heap.objs.size := fun {y c} hm => by
    rcases cloFrom_mem hm with hm | ⟨h1, rfl⟩
    · cases hm
    · obtain ⟨c, hc⟩ := hfree _ h1 rfl
      rw [hc]
      obtain ⟨w, z⟩ := I.cell _ _ hc
      exact ⟨rfl, z.lt⟩
  have mem : ∀ {y c}, cenv.cells.lookup y = some c → (X.env.cells.lookup y = some c ∧ c < s.heap.objs.size) ∨ (s.heap.objs.size + 1 ≤ c ∧ CellAt (pushCells (s.heap.push { cls := .type "dict", data := .dict #[] }) scope.names) c none) := fun {y c} e => by
    rw [hcl] at e
    rcases cells_mem (PySem.mem_of_lookup e) with hm | ⟨_, h2, h3⟩
    · exact .inl (cm hm)
    · rw [Heap.size_push] at h2; exact .inr ⟨h2, h3⟩
  have look : ∀ {y}, scope.names.lookup y = some .free → ∃ c, cenv.cells.lookup y = some c ∧ X.env.cells.lookup y = some c := fun {y} hl => by
    have hy : (y, NameKind.free) ∈ scope.names := PySem.mem_of_lookup hl
    obtain ⟨c', e'⟩ := mem_lookup (cells_acc (names := scope.names) (n := (s.heap.push { cls := .type "dict", data := .dict #[] }).objs.size) (cloFrom_has (cells := X.env.cells) (acc := []) hy))
    rw [← hcl] at e'
    refine ⟨c', e', ?_⟩
    rw [hcl] at e'
    rcases cells_mem (PySem.mem_of_lookup e') with hm | ⟨h1, _, _⟩
    · exact (cm hm).1
    · have := ok.uniq _ h1
      rw [hl] at this; cases this
  have okB : (X.blk s H scope cenv fp).Ok := by
    refine ⟨I.ok.mod, by show cenv.scope.kind = _; rw [hsc]; exact ok.kind, by show cenv.globals = _; rw [← hcenv]; exact I.ok.glob, by show cenv.builtins = _; rw [← hcenv]; exact I.ok.blt, by show s.heap.objs.size ≤ cenv.locals; rw [hL]; exact Nat.le_refl _,
      fun y z c e1 e2 => ?_, fun y hy => ?_, fun y c z e => ?_, I.ok.hd, I.ok.frames, .inl rfl, fun b hb => ⟨?_, fun y c e z => ?_⟩, I.bs, Nat.le_trans I.ok.bsz I.sz, fun b o e hb => ?_, fun b hb z => ?_, I.stack, I.stkFree⟩
    · have e1 : cenv.cells.lookup y = some c := e1
      have e2 : cenv.cells.lookup z = some c := e2
      rw [hcl] at e1 e2
      refine cells_inj (fun p hp => ?_) (fun y z c a b => I.ok.inj y z c (cm a).1 (cm b).1) (PySem.mem_of_lookup e1) (PySem.mem_of_lookup e2)
      rw [Heap.size_push]
      exact Nat.lt_succ_of_lt (cm (y := p.1) (c := p.2) hp).2
    · show ∃ c, cenv.cells.lookup y = some c
      have key : ∀ k, cenv.kindOf y = some k → (k = .cell ∨ k = .free) → ∃ c, cenv.cells.lookup y = some c := fun k hk hk' => by
        unfold Env.kindOf at hk
        rw [hsc] at hk
        obtain ⟨k', e, r⟩ := lookup_relS hk
        have : k' = .cell ∨ k' = .free := by
          rcases r with rfl | ⟨rfl, _⟩
          · exact hk'
          · exact .inr rfl
        rcases this with rfl | rfl
        · obtain ⟨c, hm⟩ := cells_has (n := (s.heap.push { cls := .type "dict", data := .dict #[] }).objs.size) (acc := cloFrom X.env.cells scope.names []) (PySem.mem_of_lookup e)
          obtain ⟨c', e'⟩ := mem_lookup hm
          exact ⟨c', by rw [hcl]; exact e'⟩
        · obtain ⟨c, h1, _⟩ := look e
          exact ⟨c, h1⟩
      rcases hy with hy | hy
      · exact key _ hy (.inl rfl)
      · exact key _ hy (.inr rfl)
    · have z : (scope.names.lookup y == some NameKind.cell) = true := z
      have z : scope.names.lookup y = some .cell := by simpa using z
      have e : cenv.cells.lookup y = some c := e
      rw [hcl] at e
      rcases cells_mem (PySem.mem_of_lookup e) with hm | ⟨_, h2, _⟩
      · rcases cloFrom_mem hm with hm | ⟨h1, _⟩
        · cases hm
        · have q := ok.uniq _ h1
          rw [z] at q; cases q
      · rw [Heap.size_push] at h2
        exact Nat.le_of_succ_le h2
    · show b ≠ cenv.locals
      rw [hL]; exact Nat.ne_of_lt (hfp b hb).2
    · have e : cenv.cells.lookup y = some c := e
      rcases mem e with ⟨h1, _⟩ | ⟨h1, _⟩
      · exact (hfp b hb).1.2.2.2.2.1 y c h1 z
      · have h2 : s.heap.objs.size + 1 ≤ b := by rw [← z]; exact h1
        exact absurd (Nat.lt_of_lt_of_le (hfp b hb).2 (Nat.le_of_succ_le h2)) (Nat.lt_irrefl _)
    · rcases (hfp b hb).1.2.2.2.1 with z | z
      · exact I.ok.noex b o e z
      · exact absurd (Nat.lt_of_lt_of_le (Heap.lt_size e) (Nat.le_trans I.ok.bsz z)) (Nat.lt_irrefl _)
    · rcases List.mem_cons.mp (I.stkSub b z) with z | z
      · exact (hfp b hb).1.2.1 z
      · exact (hfp b hb).1.2.2.1 z
  refine ⟨okB, rfl, I.bare, Un.kept kp, ⟨fun _ => none, ?_, fun i y av e1 e2 e3 => ?_⟩, fun y c e => ?_, ?_, fun y c e => ?_, fun p hp => ?_, I.hok.kept kp, by rw [wipe_length]; exact I.len⟩
  · show Heap.Ns _ cenv.locals _
    rw [hL]
    exact Heap.Ns.keeps (Heap.Ns.new ..) fun b o e => pushCells_keeps _ _ _ _ e
  · obtain ⟨e2, hne⟩ := wipe_some e2
    have hfr : scope.names.lookup y = some .free ∧ (cenv.kindOf y = some .cell ∨ cenv.kindOf y = some .free) := by
      have key : ∀ k, cenv.scope.names.lookup y = some k → k = .local ∨ k = .cell ∨ k = .free → scope.names.lookup y = some .free ∧ (cenv.kindOf y = some .cell ∨ cenv.kindOf y = some .free) := fun k hk hk' => by
        have hk0 := hk
        rw [hsc] at hk
        obtain ⟨k', e, r⟩ := lookup_relS hk
        have no : ¬ (k' = .local ∨ k' = .cell) := fun hh => by
          rcases ok.own _ (PySem.mem_of_lookup e) hh with e' | e'
          · obtain ⟨p, hp, hpy⟩ := List.mem_map.mp e'
            have e3 := ok.ix p hp
            have : p.1 = y := hpy
            rw [this] at e3
            exact hne (List.mem_map.mpr ⟨p, hp, nodup_ix hN e3 e1⟩)
          · exact e' (List.mem_of_getElem? e1)
        rcases r with rfl | ⟨rfl, rfl⟩
        · rcases hk' with rfl | rfl | rfl
          · exact absurd (.inl rfl) no
          · exact absurd (.inr rfl) no
          · exact ⟨e, .inr hk0⟩
        · exact ⟨e, .inl hk0⟩
      have e3 : Vis cenv.scope y := e3
      rcases e3 with e3 | e3 | e3
      · exact key _ e3 (.inl rfl)
      · exact key _ e3 (.inr (.inl rfl))
      · exact key _ e3 (.inr (.inr rfl))
    obtain ⟨m, hn, hl⟩ := I.loc
    have hvis : Vis X.env.scope y := (ok.free _ (PySem.mem_of_lookup hfr.1) rfl).elim (fun k => .inr (.inl k)) (fun k => .inr (.inr k))
    obtain ⟨w, r, q⟩ := hl i y av e1 e2 hvis
    refine ⟨w, r, .inr ⟨hfr.2, ?_⟩⟩
    obtain ⟨c, h1, h2⟩ := look hfr.1
    rcases q with ⟨k, _⟩ | ⟨_, c', e', z⟩
    · have k : X.env.scope.names.lookup y = some .local := k
      rcases ok.free _ (PySem.mem_of_lookup hfr.1) rfl with k' | k' <;> rw [show X.env.scope.names.lookup y = _ from k'] at k <;> cases k
    · rw [h2] at e'; cases e'
      exact ⟨c, h1, z.keeps kp⟩
  · have e : cenv.cells.lookup y = some c := e
    rcases mem e with ⟨h1, _⟩ | ⟨_, z⟩
    · obtain ⟨w, z⟩ := I.cell y c h1
      exact ⟨w, z.keeps kp⟩
    · exact ⟨_, z⟩
  · show H cenv.locals = none
    rw [hL]; exact I.hok.fresh (Nat.le_refl _)
  · have e : cenv.cells.lookup y = some c := e
    rcases mem e with ⟨h1, _⟩ | ⟨h1, _⟩
    · exact I.freeC y c h1
    · exact I.hok.fresh (Nat.le_of_succ_le h1)
  · exact absurd (show p ∈ ([] : List (Addr × Obj)) ++ [] from hp) (by simp)
theorem app_ok {E : Value → Shared → Prop} {D : Addr} {xs : List V} {y : V} {v : Value} {Q : Value → Shared → Prop} (I : Inv X pins σ H s) (hD : H D = some (.lst xs)) (hz : xs.length < sizeLine) (r : RelV y v)
    (h : ∀ s', Inv X pins σ (upd H D (.lst (xs ++ [y]))) s' → Q .none s') : wpAny (model X.prog X.w) X.A (call (.builtin "list.append") [.ref D, v]) Q E s := by
  obtain ⟨hz', its, n, ri, e⟩ := I.hok D _ hD
  have hl := ri.length
  refine append_at (hsz := by rw [List.size_toArray]; omega) e fun h' sb ho' => ?_
  refine h { s with heap := h' } (I.write (t' := s.toks) (by rw [hD]; trivial) (.inl rfl) (fun b u hb q => (sb.2 b hb).trans q) ⟨_, ho'⟩ ⟨by rw [List.length_append]; exact hz, its ++ [v], n + 1, ri.append (.cons r .nil), ?_⟩)
  rw [ho']
  simp
def PTs (X : Cx) (ifs : List Expr) (t : TT) : Prop :=
  ∀ (pins : List (Addr × Obj)) (s : Shared) (σ : St) (H : Hp) (Q : Bool → Hp → Prop), Inv X pins σ H s → t σ H Q →
    wpAny (model X.prog X.w) X.A (forIn ifs true fun c r => if r = true then do let ok ← isTrue c X.env (eval c X.env); pure (ForInStep.yield ok) else pure (ForInStep.yield r)) (TP X pins σ Q) X.xe s
def tYes : TT := fun _ H Q => Q true H
theorem pts_nil : PTs X [] tYes := fun _ _ _ H _ I h => wpAny_tests_nil ⟨H, I, h⟩
theorem pts_one {c : Expr} {t : TT} (h : PT X c t) : PTs X [c] t := fun pins s σ H Q I hw => wpAny_tests_one (h pins s σ H Q I hw)
end
theorem thnF {α : Type} {t : Sem α} {Q Q' : α → Shared → Prop} {M : Model} {A : Around} {E : Value → Shared → Prop} {s : Shared} (h : wpAny M A t Q (fun _ _ => False) s) (hQ : ∀ a s, Q a s → Q' a s) : wpAny M A t Q' E s := wpAny_mono h hQ fun _ _ z => False.elim z
theorem compLoop_any {prog : Program} {w : World} {A : Around} {R : Result → Shared → Prop} {s : Shared} {elt target iter : Expr} {ifs : List Expr} {scope : Scope} {pos : Pos} {it acc : Value} {env : Env} (I : Nat → Shared → Prop)
    (turn : ∀ n s, I n s → wpAny (model prog w) A (pyNext it) (fun r s₁ => match r with
      | none => R (.ok .next) s₁
      | some v => wpAny (model prog w) A (letOwnedTupleGo target it v) (fun _ s₁' => wpAny (model prog w) A (assign target env v) (fun _ s₂ =>
          wpAny (model prog w) A (forIn ifs true fun c r => if r = true then do let ok ← isTrue c env (eval c env); pure (ForInStep.yield ok) else pure (ForInStep.yield r)) (fun ok s₃ =>
            if ok = true then wpAny (model prog w) A (eval elt env) (fun x s₄ =>
              wpAny (model prog w) A (call (.builtin "list.append") [acc, x]) (fun _ s₅ => ∃ m, m < n ∧ I m s₅) (notedBy (model prog w) A env fun e s' => R (.error e) s') s₄) (notedBy (model prog w) A env fun e s' => R (.error e) s') s₃
            else ∃ m, m < n ∧ I m s₃) (notedBy (model prog w) A env fun e s' => R (.error e) s') s₂) (notedBy (model prog w) A env fun e s' => R (.error e) s') s₁') (notedBy (model prog w) A env fun e s' => R (.error e) s') s₁) (notedBy (model prog w) A env fun e s' => R (.error e) s') s)
    (n : Nat) (h : I n s) :
    codeAny (model prog w) A (.compLoop (.ListComp elt [⟨target, iter, ifs, 0⟩] scope pos) 0 it acc env) R s := by
  refine codeAny_loop rfl I (fun n s hI => ?_) n h
  show wpAny _ A ((compTurn (.ListComp elt [⟨target, iter, ifs, 0⟩] scope pos) 0 it acc env).onRaise (fun x => do noteFrame x env; theTreesLotGoes x)) _ _ s
  refine wpAny_noted ?_
  rw [compTurn_list]
  refine wpAny_bind (wpAny_standAt (wpAny_bind (wpAny_mono (turn n s hI) (fun r s₁ h₁ => ?_) fun _ _ h' => h')))
  cases r with
  | none => exact wpAny_pure h₁
  | some v =>
    refine wpAny_bind (wpAny_mono h₁ (fun _ s₁' h₁' => ?_) fun _ _ h' => h')
    refine wpAny_bind (wpAny_mono h₁' (fun _ s₂ h₂ => wpAny_bind (wpAny_mono h₂ (fun ok s₃ h₃ => ?_) fun _ _ h' => h')) fun _ _ h' => h')
    cases ok with
    | false => exact wpAny_pure ⟨rfl, h₃⟩
    | true =>
      exact wpAny_bind (wpAny_bind (wpAny_mono h₃ (fun x s₄ h₄ => wpAny_bind (wpAny_mono h₄ (fun _ s₅ h₅ => wpAny_pure (wpAny_pure ⟨rfl, h₅⟩)) fun _ _ h' => h')) fun _ _ h' => h'))
section
variable {X : Cx}
def tLc (wi : TI) (g : TG) (tt : TT) (te : TE) (vs : List Nat) : TE := fun σ H Q => wi σ H fun J H1 => ∀ D, H1 D = none → ∃ W : Nat → Nat → Hp → Prop, (∃ m, W 0 m (upd H1 D (.lst []))) ∧ ∀ i m H, W i m H →
  (J.stop i H ∧ Q (.ref D) H) ∨ (J.go i H ∧ ∃ Nx : Hp → Prop, (∀ H', Nx H' → ∃ m', m' < m ∧ W (i + 1) m' H') ∧ ∀ x H', J.yld i H x H' → g x (wipe σ vs) H' fun σ2 H2 => wipe σ2 vs = wipe σ vs ∧ tt σ2 H2 fun b H3 =>
    if b = true then te σ2 H3 fun y H4 => ∃ acc, H4 D = some (.lst acc) ∧ acc.length < sizeLine ∧ Nx (upd H4 D (.lst (acc ++ [y]))) else Nx H3)
theorem lc_core {pins : List (Addr × Obj)} {s : Shared} {σ : St} {H : Hp} {Q : VK} {elt tg iter : Expr} {ifs : List Expr} {scope : Scope} {own : List (Str × Nat)} {pos pos' : Pos} {wi : TI} {g : TG} {tt : TT} {te : TE} {use : Option (Value → Sem Unit)} {Qf : Value → Shared → Prop}
    (hc : X.calm = true) (hN : X.N.Nodup) (I : Inv X pins σ H s) (hi : PI X tg iter wi) (ok : BlkOk X.N X.env.scope scope own)
    (hg : ∀ (s : Shared) (H : Hp) (C : Addr) (cl : List (Str × Addr)) (fp : List Addr), PG (X.blk s H scope (compEnvC scope cl C X.env) fp) tg g) (ht : ∀ (s : Shared) (H : Hp) (C : Addr) (cl : List (Str × Addr)) (fp : List Addr), PTs (X.blk s H scope (compEnvC scope cl C X.env) fp) ifs tt)
    (he : ∀ (s : Shared) (H : Hp) (C : Addr) (cl : List (Str × Addr)) (fp : List Addr), PE (X.blk s H scope (compEnvC scope cl C X.env) fp) elt te) (hs : ∀ x, foldedSetIterable iter X.env x = pure x)
    (h : tLc wi g tt te (own.map (·.2)) σ H Q)
    (hRR : ∀ D C s' m H', Inv X pins σ H' s' → Q (.ref D) H' → s'.heap.Ns C m → FpOk X pins H' C → compPost (model X.prog X.w) X.A X.xe use Qf (.ref D) C (.ok .next) s') :
    wpAny (model X.prog X.w) X.A (comprehension (.ListComp elt [⟨tg, iter, ifs, 0⟩] scope pos) scope X.env pos' (newList []) false (eval iter X.env) use) Qf X.xe s := by
  have hfree : ∀ y ∈ scope.names, y.2 = .free → ∃ c, X.env.cells.lookup y.1 = some c := fun y hy e => by
    rcases ok.free y hy e with k | k
    · exact I.ok.has _ (.inl k)
    · exact I.ok.has _ (.inr k)
  refine wpAny_comprehension_free (use := use) rfl hs (closure_ok hfree) ok.kind (fun y hy e => by rw [ok.uniq y hy, e])
    (thn (hi pins s σ H _ I h) fun xv s1 hx => thn hx fun itv s2 h2 => ?_)
  obtain ⟨it, fp, tn, J, H2, e, I2, T, st2, f2, q⟩ := h2
  subst e
  refine wpAny_newObj_type (newEnv_comp ?_) (by show 0 ≤ sizeLine; decide)
  generalize hD : s2.heap.objs.size = D
  have hDn : H2 D = none := I2.hok.fresh (Nat.le_of_eq hD)
  obtain ⟨W, ⟨m0, w0⟩, turn⟩ := q D hDn
  generalize hs3 : ({ s2 with heap := s2.heap.push { cls := .type "list", data := .seq ([] : List Value).toArray } } : Shared) = s3
  have I3 : Inv X pins σ (upd H2 D (.lst [])) s3 := by
    rw [← hs3]
    refine I2.laid (t' := s2.toks) (fun b o e => Heap.get?_push_of_some _ e) (Nat.le_of_eq hD) ⟨Nat.zero_le _, [], 0, .nil, ?_⟩
    rw [← hD]
    exact Heap.get?_push_size _ rfl
  have h3 : s3.heap = s2.heap.push { cls := .type "list", data := .seq ([] : List Value).toArray } := by rw [← hs3]
  have sz : ∀ b ∈ fp, b < s2.heap.objs.size := fun b hb => by
    obtain ⟨o, e, _⟩ := T.obj _ _ st2 b hb
    exact Heap.lt_size e
  have f3 : ∀ b ∈ fp, FpOk X pins (upd H2 D (.lst [])) b ∧ b < s3.heap.objs.size := fun b hb => by
    have hlt := sz b hb
    refine ⟨⟨?_, (f2 b hb).2⟩, by rw [h3, Heap.size_push]; exact Nat.lt_succ_of_lt hlt⟩
    rw [upd_ne (by rw [← hD]; exact Nat.ne_of_lt hlt)]
    exact (f2 b hb).1
  have st3 : tn 0 s3.heap := T.keep _ _ _ st2 fun b _ o e => by rw [h3]; exact Heap.get?_push_of_some _ e
  have I4 := block_start I3 ok hN f3
  have pg := hg s3 (upd H2 D (.lst [])) s3.heap.objs.size (cellsFrom (s3.heap.objs.size + 1) scope.names (cloFrom X.env.cells scope.names [])) fp
  have pt := ht s3 (upd H2 D (.lst [])) s3.heap.objs.size (cellsFrom (s3.heap.objs.size + 1) scope.names (cloFrom X.env.cells scope.names [])) fp
  have pe := he s3 (upd H2 D (.lst [])) s3.heap.objs.size (cellsFrom (s3.heap.objs.size + 1) scope.names (cloFrom X.env.cells scope.names [])) fp
  show codeAny _ _ (.compStart (.ListComp elt [⟨tg, iter, ifs, 0⟩] scope pos) 0 (.ref it) (.ref D) (compEnvC scope (cellsFrom (s3.heap.objs.size + 1) scope.names (cloFrom X.env.cells scope.names [])) s3.heap.objs.size X.env)) (compPost (model X.prog X.w) X.A X.xe use Qf (.ref D) s3.heap.objs.size) { s3 with heap := pushCells (s3.heap.push { cls := .type "dict", data := .dict #[] }) scope.names }
  have nfp : ∀ b ∈ fp, (upd H2 D (.lst [])) b = none := fun b hb => (f3 b hb).1.1
  generalize hce : compEnvC scope (cellsFrom (s3.heap.objs.size + 1) scope.names (cloFrom X.env.cells scope.names [])) s3.heap.objs.size X.env = ce at I4 pg pt pe ⊢
  have cL : ce.locals = s3.heap.objs.size := by subst hce; rfl
  generalize hH3 : upd H2 D (.lst []) = H3 at I3 I4 pg pt pe w0 nfp f3
  generalize hs4 : ({ s3 with heap := pushCells (s3.heap.push { cls := .type "dict", data := .dict #[] }) scope.names } : Shared) = s4 at I4 ⊢
  have st4 : tn 0 s4.heap := T.keep _ _ _ st3 fun b _ o e => by rw [← hs4]; exact pushCells_keeps _ _ _ _ (Heap.get?_push_of_some _ e)
  have stat : ∀ {σ' : St} {H' : Hp} {s' : Shared}, Inv (X.blk s3 H3 scope ce fp) [] σ' H' s' → (∀ b ∈ fp, H' b = none) → ∀ b ∈ fp, FpOk (X.blk s3 H3 scope ce fp) [] H' b := fun {σ' H' s'} I' hn b hb =>
    ⟨hn b hb, (I'.ok.exf b hb).1, I'.ok.exfs b hb, .inl hb, fun x c e => (I'.ok.exf b hb).2 x c e, fun p hp => absurd (show p ∈ ([] : List (Addr × Obj)) ++ [] from hp) (by simp)⟩
  have loop : codeAny (model X.prog X.w) X.A (.compLoop (.ListComp elt [⟨tg, iter, ifs, 0⟩] scope pos) 0 (.ref it) (.ref D) ce) (compPost (model X.prog X.w) X.A X.xe use Qf (.ref D) s3.heap.objs.size) s4 := by
    refine compLoop_any (fun n s' => ∃ i H', Inv (X.blk s3 H3 scope ce fp) [] (wipe σ (own.map (·.2))) H' s' ∧ tn i s'.heap ∧ (∀ b ∈ fp, H' b = none) ∧ W i n H') ?_ m0 ⟨0, H3, I4, st4, nfp, w0⟩
    rintro n s5 ⟨i, H5, I5, st5, n5, w5⟩
    rcases turn i n H5 w5 with ⟨stop, qq⟩ | ⟨go, Nx, hNx, step⟩
    · have td := T.done (X.blk s3 H3 scope ce fp) rfl rfl rfl hc i [] s5 _ H5 (fun _ _ => False) I5 (stat I5 n5) st5 stop
      refine thnF td fun r s6 ⟨hr, I6⟩ => ?_
      subst hr
      have I7 : Inv X pins σ H5 s6 := I3.call' (ch := fp) I6.os I6.base I6.hok I6.bare fun b hb => ⟨(f3 b hb).1.2.2.2.1, (f3 b hb).1.2.1, (f3 b hb).1.2.2.2.2.1, (f3 b hb).1.2.2.2.2.2⟩
      have nC : H5 s3.heap.objs.size = none := by
        have z : H5 ce.locals = none := I6.free
        rw [cL] at z
        exact z
      obtain ⟨m, hn, _⟩ := I6.loc
      have hn : s6.heap.Ns ce.locals m := hn
      rw [cL] at hn
      exact hRR D s3.heap.objs.size s6 m H5 I7 qq hn (I3.fpOk (Nat.le_refl _) nC)
    · have ti := T.item (X.blk s3 H3 scope ce fp) rfl rfl rfl hc i [] s5 _ H5 (fun _ _ => False) I5 (stat I5 n5) st5 go
      refine thnF ti fun r s6 ⟨u, hr, h6⟩ => ?_
      subst hr
      refine thnF h6 fun _ s7 ⟨x, H7, I7, r7, y7, st7, n7⟩ => ?_
      have I7' := I7.pinned (stat I7 n7) (T.obj _ _ st7)
      refine thnF (pg _ s7 _ H7 x u _ I7' r7 (step x H7 y7)) fun _ s8 ⟨σ8, H8, I8, hw8, q8⟩ => ?_
      refine thnF (pt _ s8 σ8 H8 _ I8 q8) fun b s9 ⟨H9, I9, q9⟩ => ?_
      have fin : ∀ {s' : Shared} {H' : Hp}, Inv (X.blk s3 H3 scope ce fp) ([] ++ pinsAt fp s7.heap) σ8 H' s' → Nx H' → ∃ m, m < n ∧ ∃ i H', Inv (X.blk s3 H3 scope ce fp) [] (wipe σ (own.map (·.2))) H' s' ∧ tn i s'.heap ∧ (∀ b ∈ fp, H' b = none) ∧ W i m H' := fun {s' H'} I' nx => by
        obtain ⟨m', hm, w'⟩ := hNx H' nx
        have pin' : ∀ b ∈ fp, ∀ o, s7.heap.get? b = some o → s'.heap.get? b = some o ∧ H' b = none := fun b hb o e =>
          let z := I'.pin (b, o) (List.mem_append_right _ (List.mem_append_right _ (mem_pinsAt hb e)))
          ⟨z.1, z.2.1⟩
        have hl : (wipe σ (own.map (·.2))).length = σ8.length := by rw [← hw8, wipe_length]
        refine ⟨m', hm, i + 1, H', (I'.unpinned (pins := [])).weak hl (fun j v e => ?_), T.keep _ _ _ st7 fun b hb o e => (pin' b hb o e).1, fun b hb => ?_, w'⟩
        · rw [← hw8] at e
          exact (wipe_some e).1
        · obtain ⟨o, e, _⟩ := T.obj _ _ st7 b hb
          exact (pin' b hb o e).2
      cases b with
      | false =>
        simp only [Bool.false_eq_true, if_false] at q9 ⊢
        exact fin I9 q9
      | true =>
        simp only [if_true] at q9 ⊢
        refine thnF (pe _ s9 σ8 H9 _ I9 q9) fun z s10 ⟨yv, H10, I10, r10, acc, hD10, hz10, nx⟩ => ?_
        exact app_ok (X := X.blk s3 H3 scope ce fp) I10 hD10 hz10 r10 fun s11 I11 => fin I11 nx
  exact codeAny_compStart_list loop (T.self X.A 0 _ _ _ st4 loop)
theorem pe_lc {elt tg iter : Expr} {ifs : List Expr} {scope : Scope} {own : List (Str × Nat)} {pos : Pos} {wi : TI} {g : TG} {tt : TT} {te : TE} (hc : X.calm = true) (hN : X.N.Nodup) (hi : PI X tg iter wi) (ok : BlkOk X.N X.env.scope scope own)
    (hg : ∀ (s : Shared) (H : Hp) (C : Addr) (cl : List (Str × Addr)) (fp : List Addr), PG (X.blk s H scope (compEnvC scope cl C X.env) fp) tg g) (ht : ∀ (s : Shared) (H : Hp) (C : Addr) (cl : List (Str × Addr)) (fp : List Addr), PTs (X.blk s H scope (compEnvC scope cl C X.env) fp) ifs tt)
    (he : ∀ (s : Shared) (H : Hp) (C : Addr) (cl : List (Str × Addr)) (fp : List Addr), PE (X.blk s H scope (compEnvC scope cl C X.env) fp) elt te) (hs : ∀ x, foldedSetIterable iter X.env x = pure x := by intro _; rfl) :
    PE X (.ListComp elt [⟨tg, iter, ifs, 0⟩] scope pos) (tLc wi g tt te (own.map (·.2))) := by
  intro pins s σ H Q I h
  rw [eval_ListComp]
  refine lc_core hc hN I hi ok hg ht he hs h fun D C s' m H' I' q hn f => ⟨m, hn, fun h'' sb => ?_⟩
  obtain ⟨f0, f1, f2, f3, f4, f5⟩ := f
  exact ⟨.ref D, H', I'.turned (t' := s'.toks) (fun b o hb e => (sb.2 b hb).trans e) f0 f1 f3 f4 f5, rfl, q⟩
theorem ps_setLc {i : Nat} {y : Str} {py : Pos} {elt tg iter : Expr} {ifs : List Expr} {scope : Scope} {own : List (Str × Nat)} {pos spos : Pos} {wi : TI} {g : TG} {tt : TT} {te : TE} (hc : X.calm = true) (hN : X.N.Nodup) (hy : X.N[i]? = some y) (hyl : X.env.scope.names.lookup y = some .local)
    (hsw : swapsWith (.ListComp elt [⟨tg, iter, ifs, 0⟩] scope pos) (some (.Name y py)) spos.line X.env = pure true) (hi : PI X tg iter wi) (ok : BlkOk X.N X.env.scope scope own)
    (hg : ∀ (s : Shared) (H : Hp) (C : Addr) (cl : List (Str × Addr)) (fp : List Addr), PG (X.blk s H scope (compEnvC scope cl C X.env) fp) tg g) (ht : ∀ (s : Shared) (H : Hp) (C : Addr) (cl : List (Str × Addr)) (fp : List Addr), PTs (X.blk s H scope (compEnvC scope cl C X.env) fp) ifs tt)
    (he : ∀ (s : Shared) (H : Hp) (C : Addr) (cl : List (Str × Addr)) (fp : List Addr), PE (X.blk s H scope (compEnvC scope cl C X.env) fp) elt te) (hs : ∀ x, foldedSetIterable iter X.env x = pure x := by intro _; rfl) :
    PS X (.Assign [.Name y py] (.ListComp elt [⟨tg, iter, ifs, 0⟩] scope pos) spos) (tAsg (tLc wi g tt te (own.map (·.2))) (gName i)) := by
  intro pins s σ H D I h
  rw [exec_Assign_Name_used _ _ _ _ hsw]
  refine wpAny_bind (wpAny_standAt (wpAny_bind ?_))
  show wpAny _ X.A (do let _ ← comprehension (.ListComp elt [⟨tg, iter, ifs, 0⟩] scope pos) scope X.env (firstIterPos [⟨tg, iter, ifs, 0⟩] pos) (newList []) false (eval iter X.env) (some (assign (.Name y py) X.env))) _ _ s
  have h : tLc wi g tt te (own.map (·.2)) σ H (fun x H1 => gName i x σ H1 D.nx) := h
  refine wpAny_bind (thn (lc_core (Qf := fun _ s' => SP X pins D .next s') hc hN I hi ok hg ht he hs h fun L C s' m H' I' q hn f => ?_) fun _ s' hq => wpAny_pure (wpAny_pure hq))
  show wpAny _ _ (assign (.Name y py) X.env (.ref L)) _ _ _
  refine wpAny_assign_Name (store_ok2 (v := V.ref L) I' hN hy (.inl hyl) rfl (fun s2 I2 ⟨a, sb, ha⟩ => ?_) (.inr hyl))
  obtain ⟨f0, f1, f2, f3, f4, f5⟩ := f
  have haC : C ≠ a := by
    rcases ha with z | z
    · rw [z]; exact f1
    · exact fun e => f4 y a z e.symm
  refine ⟨m, hn.sameBut sb haC, fun h3 sb3 => ?_⟩
  exact ⟨_, H', I2.turned (t' := s2.toks) (fun b o hb e => (sb3.2 b hb).trans e) f0 f1 f3 f4 f5, q⟩
end
theorem lc_range {lo : Int} {n : Nat} {g : TG} {tt : TT} {te : TE} {vs : List Nat} {σ : St} {H1 : Hp} {D : Addr} {Qd : Hp → Prop} (Pv : Nat → Hp → Prop) (h0 : Pv 0 (upd H1 D (.lst [])))
    (hs : ∀ i H, i < n → Pv i H → g (.int (lo + i)) (wipe σ vs) H fun σ2 H2 => wipe σ2 vs = wipe σ vs ∧ tt σ2 H2 fun b H3 =>
      if b = true then te σ2 H3 fun y H4 => ∃ acc, H4 D = some (.lst acc) ∧ acc.length < sizeLine ∧ Pv (i + 1) (upd H4 D (.lst (acc ++ [y]))) else Pv (i + 1) H3) (hd : ∀ H, Pv n H → Qd H) :
    ∃ W : Nat → Nat → Hp → Prop, (∃ m, W 0 m (upd H1 D (.lst []))) ∧ ∀ i m H, W i m H →
      ((Itr lo n).stop i H ∧ Qd H) ∨ ((Itr lo n).go i H ∧ ∃ Nx : Hp → Prop, (∀ H', Nx H' → ∃ m', m' < m ∧ W (i + 1) m' H') ∧ ∀ x H', (Itr lo n).yld i H x H' → g x (wipe σ vs) H' fun σ2 H2 => wipe σ2 vs = wipe σ vs ∧ tt σ2 H2 fun b H3 =>
        if b = true then te σ2 H3 fun y H4 => ∃ acc, H4 D = some (.lst acc) ∧ acc.length < sizeLine ∧ Nx (upd H4 D (.lst (acc ++ [y]))) else Nx H3) := by
  refine ⟨fun i m H => m = n - i ∧ i ≤ n ∧ Pv i H, ⟨n, by simp, Nat.zero_le _, h0⟩, ?_⟩
  rintro i m H ⟨rfl, hi, p⟩
  by_cases hlt : i < n
  · refine .inr ⟨hlt, Pv (i + 1), fun H' p' => ⟨n - (i + 1), by omega, rfl, hlt, p'⟩, fun x H' y => ?_⟩
    obtain ⟨e, y⟩ := y
    subst e y
    exact hs i _ hlt p
  · have e : i = n := by omega
    subst e
    exact .inl ⟨Nat.le_refl _, hd H p⟩
theorem lc_list {K : PySem.W.Frag} {a : Addr} {xs : List V} {g : TG} {tt : TT} {te : TE} {vs : List Nat} {σ : St} {H1 : Hp} {D : Addr} {Qd : Hp → Prop} (Pv : Nat → Hp → Prop) (h0 : Pv 0 (upd H1 D (.lst []))) (hl : ∀ i H, i ≤ xs.length → Pv i H → SqL K H a xs)
    (hs : ∀ i x H, xs[i]? = some x → Pv i H → g x (wipe σ vs) H fun σ2 H2 => wipe σ2 vs = wipe σ vs ∧ tt σ2 H2 fun b H3 =>
      if b = true then te σ2 H3 fun y H4 => ∃ acc, H4 D = some (.lst acc) ∧ acc.length < sizeLine ∧ Pv (i + 1) (upd H4 D (.lst (acc ++ [y]))) else Pv (i + 1) H3) (hd : ∀ H, Pv xs.length H → Qd H) :
    ∃ W : Nat → Nat → Hp → Prop, (∃ m, W 0 m (upd H1 D (.lst []))) ∧ ∀ i m H, W i m H →
      ((Itl K a).stop i H ∧ Qd H) ∨ ((Itl K a).go i H ∧ ∃ Nx : Hp → Prop, (∀ H', Nx H' → ∃ m', m' < m ∧ W (i + 1) m' H') ∧ ∀ x H', (Itl K a).yld i H x H' → g x (wipe σ vs) H' fun σ2 H2 => wipe σ2 vs = wipe σ vs ∧ tt σ2 H2 fun b H3 =>
        if b = true then te σ2 H3 fun y H4 => ∃ acc, H4 D = some (.lst acc) ∧ acc.length < sizeLine ∧ Nx (upd H4 D (.lst (acc ++ [y]))) else Nx H3) := by
  refine ⟨fun i m H => m = xs.length - i ∧ i ≤ xs.length ∧ Pv i H, ⟨xs.length, by simp, Nat.zero_le _, h0⟩, ?_⟩
  rintro i m H ⟨rfl, hi, p⟩
  have q := hl i H hi p
  by_cases hlt : i < xs.length
  · refine .inr ⟨⟨xs, xs[i], q, by simp [hlt]⟩, Pv (i + 1), fun H' p' => ⟨xs.length - (i + 1), by omega, rfl, hlt, p'⟩, fun x H' y => ?_⟩
    obtain ⟨e, y⟩ := y
    subst e
    exact hs i x _ (y xs q) p
  · have e : i = xs.length := by omega
    subst e
    exact .inl ⟨⟨xs, q, Nat.le_refl _⟩, hd H p⟩
def blkC (N : List Str) (sc scope : Scope) (own : List (Str × Nat)) : Bool :=
  (match scope.kind with | .function => true | _ => false) && (scope.names.all fun y => decide (scope.names.lookup y.1 = some y.2)) && (own.all fun p => decide (N[p.2]? = some p.1)) &&
    (scope.names.all fun y => match y.2 with
      | .free => (match sc.names.lookup y.1 with | some .cell => true | some .free => true | _ => false)
      | .local => decide (y.1 ∈ own.map (·.1)) || decide (y.1 ∉ N)
      | .cell => decide (y.1 ∈ own.map (·.1)) || decide (y.1 ∉ N)
      | _ => true)
theorem blkOk_by {N : List Str} {sc scope : Scope} {own : List (Str × Nat)} (h : blkC N sc scope own = true) : BlkOk N sc scope own := by
  unfold blkC at h
  simp only [Bool.and_eq_true, List.all_eq_true, decide_eq_true_eq] at h
  obtain ⟨⟨⟨h1, h2⟩, h3⟩, h4⟩ := h
  refine ⟨?_, h2, h3, fun y hy e => ?_, fun y hy e => ?_⟩
  · split at h1
    · assumption
    · cases h1
  · have q := h4 y hy
    simp only [e] at q
    split at q <;> first | exact .inl (by assumption) | exact .inr (by assumption) | cases q
  · have q := h4 y hy
    rcases e with e | e <;> (simp only [e, Bool.or_eq_true, decide_eq_true_eq] at q; exact q)
end L2
namespace L2
open PySem PySem.Spec PyProof.Rows
section
variable {prog : Program} {w : World} {A : Around} {R : Result → Shared → Prop} {s : Shared} {elt t0 i0 t1 i1 : Expr} {ifs0 ifs1 : List Expr} {scope : Scope} {pos : Pos} {it acc : Value} {env : Env}
end
section
variable {X : Cx}
end
end L2
namespace L2
open PySem PySem.Spec PyProof.Rows
section
variable {κ : Type} [DecidableEq κ]
def valV (kvs : List (κ × V)) (k : κ) : Option V := (kvs.find? fun kv => decide (kv.1 = k)).map (·.2)
def putK (kvs : List (κ × V)) (k : κ) (v : V) : List (κ × V) :=
  if (kvs.any fun kv => decide (kv.1 = k)) = true then kvs.map (fun kv => if kv.1 = k then (kv.1, v) else kv) else kvs ++ [(k, v)]
theorem valV_pos {p : κ × V} {r : List (κ × V)} {k : κ} (e : p.1 = k) : valV (p :: r) k = some p.2 := by simp [valV, List.find?_cons, e]
theorem valV_neg {p : κ × V} {r : List (κ × V)} {k : κ} (e : ¬ p.1 = k) : valV (p :: r) k = valV r k := by simp [valV, List.find?_cons, e]
theorem valV_any (k : κ) : ∀ kvs : List (κ × V), (kvs.any fun kv => decide (kv.1 = k)) = (valV kvs k).isSome
  | [] => rfl
  | p :: r => by
    rw [List.any_cons]
    by_cases e : p.1 = k
    · simp only [valV_pos e, decide_eq_true e, Bool.true_or, Option.isSome_some]
    · rw [valV_neg e, decide_eq_false e, Bool.false_or]; exact valV_any k r
theorem valV_map (k j : κ) (y : V) : ∀ kvs : List (κ × V), valV (kvs.map fun kv => if kv.1 = k then (kv.1, y) else kv) j = (valV kvs j).map fun x => if j = k then y else x
  | [] => rfl
  | p :: r => by
    have ih := valV_map k j y r
    rw [List.map_cons]
    by_cases h : p.1 = k
    · rw [if_pos h]
      by_cases e : p.1 = j
      · rw [valV_pos (p := (p.1, y)) e, valV_pos e, Option.map_some, if_pos (e.symm.trans h)]
      · rw [valV_neg (p := (p.1, y)) e, valV_neg e, ih]
    · rw [if_neg h]
      by_cases e : p.1 = j
      · rw [valV_pos (p := p) e, valV_pos e, Option.map_some, if_neg (fun z => h (e.trans z))]
      · rw [valV_neg (p := p) e, valV_neg e, ih]
theorem valV_snoc (k j : κ) (y : V) : ∀ kvs : List (κ × V), valV kvs k = none → valV (kvs ++ [(k, y)]) j = if j = k then some y else valV kvs j
  | [], _ => by
    by_cases e : k = j
    · rw [if_pos e.symm]; exact valV_pos (p := (k, y)) e
    · rw [if_neg (fun z => e z.symm)]; exact valV_neg (p := (k, y)) e
  | p :: r, hn => by
    rw [List.cons_append]
    have hk : ¬ p.1 = k := fun z => by rw [valV_pos z] at hn; cases hn
    rw [valV_neg hk] at hn
    have ih := valV_snoc k j y r hn
    by_cases e : p.1 = j
    · rw [valV_pos e, valV_pos e, if_neg (fun z => hk (e.trans z))]
    · rw [valV_neg e, valV_neg e, ih]
theorem valV_put (kvs : List (κ × V)) (k j : κ) (y : V) : valV (putK kvs k y) j = if j = k then some y else valV kvs j := by
  unfold putK
  by_cases a : (kvs.any fun kv => decide (kv.1 = k)) = true
  · rw [if_pos a, valV_map]
    rw [valV_any] at a
    by_cases e : j = k
    · obtain ⟨x, hx⟩ := Option.isSome_iff_exists.mp a
      rw [if_pos e, e, hx, Option.map_some, if_pos rfl]
    · rw [if_neg e]
      cases valV kvs j with
      | none => rfl
      | some x => rw [Option.map_some, if_neg e]
  · rw [if_neg a]
    refine valV_snoc k j y kvs ?_
    rw [valV_any] at a
    cases q : valV kvs k with
    | none => rfl
    | some x => rw [q] at a; exact (a rfl).elim
theorem length_putK (kvs : List (κ × V)) (k : κ) (v : V) : (putK kvs k v).length ≤ kvs.length + 1 := by
  unfold putK
  split
  · rw [List.length_map]; omega
  · rw [List.length_append, List.length_cons, List.length_nil]; omega
theorem RelO.isSome_eq {o : Option V} {u : Option Value} (r : RelO o u) : o.isSome = u.isSome := by
  cases o with
  | none => cases u with
    | none => rfl
    | some _ => exact (show False from r).elim
  | some _ => cases u with
    | none => exact (show False from r).elim
    | some _ => rfl
theorem KV.val {kvs : List (κ × V)} {vs : List (κ × Value)} (r : KV kvs vs) (k : κ) : RelO (valV kvs k) (valueAt vs k) := by
  unfold KV at r
  induction r with
  | nil => exact True.intro
  | @cons p q ps qs h t ih =>
    obtain ⟨h1, h2⟩ := h
    by_cases e : p.1 = k
    · have e' : q.1 = k := h1.symm.trans e
      have b : valueAt (q :: qs) k = some q.2 := by simp [valueAt, List.find?_cons, e']
      rw [valV_pos e, b]; exact h2
    · have e' : ¬ q.1 = k := fun z => e (h1.trans z)
      have b : valueAt (q :: qs) k = valueAt qs k := by simp [valueAt, List.find?_cons, e']
      rw [valV_neg e, b]; exact ih
theorem KV.any {kvs : List (κ × V)} {vs : List (κ × Value)} (r : KV kvs vs) (k : κ) : (kvs.any fun kv => decide (kv.1 = k)) = vs.any fun kv => decide (kv.1 = k) := by
  unfold KV at r
  induction r with
  | nil => rfl
  | cons h t ih => rw [List.any_cons, List.any_cons, ih, h.1]
theorem KV.repl {kvs : List (κ × V)} {vs : List (κ × Value)} (r : KV kvs vs) (k : κ) {y : V} {u : Value} (ry : RelV y u) :
    KV (kvs.map fun kv => if kv.1 = k then (kv.1, y) else kv) (vs.map fun kv => if kv.1 = k then (kv.1, u) else kv) := by
  unfold KV at r ⊢
  induction r with
  | nil => exact .nil
  | @cons p q ps qs h t ih =>
    rw [List.map_cons, List.map_cons]
    refine .cons ?_ ih
    obtain ⟨h1, h2⟩ := h
    by_cases e : p.1 = k
    · rw [if_pos e, if_pos (h1.symm.trans e)]; exact ⟨h1, ry⟩
    · rw [if_neg e, if_neg (fun z => e (h1.trans z))]; exact ⟨h1, h2⟩
theorem KV.put {kvs : List (κ × V)} {vs : List (κ × Value)} (r : KV kvs vs) (k : κ) {y : V} {u : Value} (ry : RelV y u) : KV (putK kvs k y) (stored vs k u) := by
  unfold putK stored
  rw [r.any k]
  by_cases e : (vs.any fun kv => decide (kv.1 = k)) = true
  · rw [if_pos e, if_pos e]; exact r.repl k ry
  · rw [if_neg e, if_neg e]; exact Paired.snoc r ⟨rfl, ry⟩
theorem KV.length {kvs : List (κ × V)} {vs : List (κ × Value)} (r : KV kvs vs) : kvs.length = vs.length := Paired.length r
end
theorem kV_is {P : Program} {w : World} {k : Key} {u : Value} (r : RelV (kV k) u) : (mixKind P w).is k u = true := by
  cases k with
  | inl i => obtain ⟨t, e⟩ := (show ∃ t, u = Value.int i t from r); subst e; exact mixKind_int P w i t
  | inr x => obtain ⟨t, e⟩ := (show ∃ t, u = Value.str x t from r); subst e; exact mixKind_str P w x t
theorem items_are {P : Program} {w : World} : ∀ {ks : List Key} {us : List Value}, Vals (ks.map kV) us → ItemsAre (mixKind P w) ks us
  | [], _, r => by rw [List.map_nil] at r; cases r; exact .nil
  | k :: ks, _, r => by
    rw [List.map_cons] at r
    cases r with
    | cons h t => exact .cons (kV_is h) (items_are t)
abbrev KT (H : Hp) : List (List Key × V) → List (List Key × Addr × Value) → Prop := Paired fun p q => p.1 = q.1 ∧ H q.2.1 = some (.tup (p.1.map kV)) ∧ RelV p.2 q.2.2
theorem KT.val {H : Hp} {kvs : List (List Key × V)} {xs : List (List Key × Addr × Value)} (r : KT H kvs xs) (k : List Key) : RelO (valV kvs k) ((atKey xs k).map (·.2)) := by
  induction r with
  | nil => exact True.intro
  | @cons p q ps qs h t ih =>
    obtain ⟨h1, _, h2⟩ := h
    by_cases e : p.1 = k
    · have e' : q.1 = k := h1.symm.trans e
      have b : atKey (q :: qs) k = some q.2 := by simp [atKey, List.find?_cons, e']
      rw [valV_pos e, b]; exact h2
    · have e' : ¬ q.1 = k := fun z => e (h1.trans z)
      have b : atKey (q :: qs) k = atKey qs k := by simp [atKey, List.find?_cons, e']
      rw [valV_neg e, b]; exact ih
theorem KT.repl {H : Hp} {kvs : List (List Key × V)} {xs : List (List Key × Addr × Value)} (r : KT H kvs xs) (k : List Key) {y : V} {u : Value} (ry : RelV y u) :
    KT H (kvs.map fun kv => if kv.1 = k then (kv.1, y) else kv) (xs.map (putAt k u)) := by
  induction r with
  | nil => exact .nil
  | @cons p q ps qs h t ih =>
    rw [List.map_cons, List.map_cons]
    refine .cons ?_ ih
    obtain ⟨h1, h2, h3⟩ := h
    unfold putAt
    by_cases e : p.1 = k
    · rw [if_pos e, if_pos (h1.symm.trans e)]; exact ⟨h1, h2, ry⟩
    · rw [if_neg e, if_neg (fun z => e (h1.trans z))]; exact ⟨h1, h2, h3⟩
theorem KT.put {H : Hp} {kvs : List (List Key × V)} {xs : List (List Key × Addr × Value)} (r : KT H kvs xs) (k : List Key) {b : Addr} {y : V} {u : Value} (hb : H b = some (.tup (k.map kV))) (ry : RelV y u) :
    KT H (putK kvs k y) (storedH xs k b u) := by
  have e : (kvs.any fun kv => decide (kv.1 = k)) = (atKey xs k).isSome := by
    rw [valV_any, (r.val k).isSome_eq, Option.isSome_map]
  unfold putK storedH
  rw [e]
  by_cases q : (atKey xs k).isSome = true
  · rw [if_pos q, if_pos q]; exact r.repl k ry
  · rw [if_neg q, if_neg q]; exact Paired.snoc r ⟨rfl, hb, ry⟩
theorem KT.keeps {H H' : Hp} {kvs : List (List Key × V)} {xs : List (List Key × Addr × Value)} (r : KT H kvs xs) (ht : ∀ b ys, H b = some (.tup ys) → H' b = some (.tup ys)) : KT H' kvs xs :=
  Paired.mapP r fun _ _ z => ⟨z.1, ht _ _ z.2.1, z.2.2⟩
section
variable {P : Program} {w : World} {H : Hp} {h : Heap} {a : Addr}
theorem rd_of {u : HO} (ok : HOk P w H h) (e : Rd H a u) : ObjOk P w H h a u := e.ok ok
theorem dk_rd {kvs : List (Key × V)} (ok : HOk P w H h) (e : Rd H a (.dK kvs)) : kvs.length ≤ sizeLine ∧ (a == sysModules) = false ∧ ∃ vs, KV kvs vs ∧ h.DictOf (mixKind P w) a vs :=
  show ObjOk P w H h a (.dK kvs) from rd_of ok e
theorem dk_of {kvs : List (Key × V)} (ok : HOk P w H h) (e : H a = some (.dK kvs)) : kvs.length ≤ sizeLine ∧ (a == sysModules) = false ∧ ∃ vs, KV kvs vs ∧ h.DictOf (mixKind P w) a vs := dk_rd ok (.inl e)
theorem key_of {ks : List Key} (ok : HOk P w H h) (e : H a = some (.tup (ks.map kV))) : (tupleKind (mixKind P w)).is h ks a := by
  obtain ⟨_, its, r, o, h1, h2, n, h3⟩ := (show ObjOk P w H h a (.tup (ks.map kV)) from ok a _ e)
  exact ⟨o, its.toArray, n, h1, h2, h3, by simpa using items_are r⟩
theorem dt_rd {kvs : List (List Key × V)} (ok : HOk P w H h) (e : Rd H a (.dT kvs)) : kvs.length ≤ sizeLine ∧ (a == sysModules) = false ∧
    ∃ xs, KT H kvs xs ∧ h.DictOfH (tupleKind (mixKind P w)) a xs := by
  obtain ⟨z, y, xs, r, o, es, ep, h1, h2, h3, h4, h5⟩ := (show ObjOk P w H h a (.dT kvs) from rd_of ok e)
  refine ⟨z, y, xs, r, o, es, ep, h1, h2, h3, h4, fun x hx => ?_, h5⟩
  have all : ∀ {l : List (List Key × V)} {m : List (List Key × Addr × Value)}, KT H l m → ∀ x ∈ m, (tupleKind (mixKind P w)).is h x.1 x.2.1 := by
    intro l m q
    induction q with
    | nil => intro x hx; exact nomatch hx
    | @cons p q ps qs hq t ih =>
      intro x hx
      rcases List.mem_cons.mp hx with e | hx
      · subst e
        exact key_of ok (by rw [← hq.1]; exact hq.2.1)
      · exact ih x hx
  exact all r x hx
theorem dt_of {kvs : List (List Key × V)} (ok : HOk P w H h) (e : H a = some (.dT kvs)) : kvs.length ≤ sizeLine ∧ (a == sysModules) = false ∧
    ∃ xs, KT H kvs xs ∧ h.DictOfH (tupleKind (mixKind P w)) a xs := dt_rd ok (.inl e)
end
def DGet (H : Hp) (a : Addr) (y : V) (r : Option V) : Prop :=
  (∃ kvs k, Rd H a (.dK kvs) ∧ y = kV k ∧ r = valV kvs k) ∨ ∃ kvs k b, Rd H a (.dT kvs) ∧ y = .ref b ∧ H b = some (.tup (k.map kV)) ∧ r = valV kvs k
def DPut (H : Hp) (a : Addr) (y v : V) (H' : Hp) : Prop :=
  (∃ kvs k, H a = some (.dK kvs) ∧ y = kV k ∧ kvs.length < sizeLine ∧ H' = upd H a (.dK (putK kvs k v))) ∨
  ∃ kvs k b, H a = some (.dT kvs) ∧ y = .ref b ∧ H b = some (.tup (k.map kV)) ∧ kvs.length < sizeLine ∧ H' = upd H a (.dT (putK kvs k v))
theorem DGet.k {H : Hp} {a : Addr} {kvs : List (Key × V)} {k : Key} (e : H a = some (.dK kvs)) : DGet H a (kV k) (valV kvs k) := .inl ⟨kvs, k, .inl e, rfl, rfl⟩
theorem DPut.k {H : Hp} {a : Addr} {kvs : List (Key × V)} {k : Key} {v : V} (e : H a = some (.dK kvs)) (hl : kvs.length < sizeLine) : DPut H a (kV k) v (upd H a (.dK (putK kvs k v))) := .inl ⟨kvs, k, e, rfl, hl, rfl⟩
theorem DPut.t {H : Hp} {a b : Addr} {kvs : List (List Key × V)} {k : List Key} {v : V} (e : H a = some (.dT kvs)) (eb : H b = some (.tup (k.map kV))) (hl : kvs.length < sizeLine) :
    DPut H a (.ref b) v (upd H a (.dT (putK kvs k v))) := .inr ⟨kvs, k, b, e, rfl, eb, hl, rfl⟩
section
variable {X : Cx} {pins : List (Addr × Obj)} {σ : St} {H : Hp} {s : Shared} {a : Addr} {y v : V} {u r : Value} {o : Option V} {A : Around} {E : Value → Shared → Prop}
theorem Inv.big (I : Inv X pins σ H s) : sysModules < s.heap.objs.size := by
  have h : mainGlobals < s.heap.objs.size := (I.mod.glob.keeps I.bk).lt
  exact Nat.lt_trans (by decide) h
theorem d_getItem {Q : Value → Shared → Prop} (hu : A.units + 1 < cLine) (I : Inv X pins σ H s) (g : DGet H a y (some v)) (ry : RelV y u) (h : ∀ w' s', Inv X pins σ H s' → RelV v w' → Q w' s') :
    wpAny (model X.prog X.w) A (getItem (.ref a) u) Q E s := by
  rcases g with ⟨kvs, k, e, ey, l⟩ | ⟨kvs, k, b, e, ey, eb, l⟩
  · subst ey
    obtain ⟨z, hd, vs, rel, dd⟩ := dk_rd I.hok e
    obtain ⟨w', hw, rw'⟩ := RelO.some_of (v := v) (o := valueAt vs k) (by rw [l]; exact rel.val k)
    exact wpAny_getItem_of (kV_is ry) dd.mapOf hw (h w' _ (I.tok _) rw')
  · subst ey
    cases (show u = Value.ref b from ry)
    obtain ⟨z, hd, xs, rel, dd⟩ := dt_rd I.hok e
    obtain ⟨w', hw, rw'⟩ := RelO.some_of (v := v) (o := (atKey xs k).map (·.2)) (by rw [l]; exact rel.val k)
    obtain ⟨p, hp, hp2⟩ := Option.map_eq_some_iff.mp hw
    refine wpAny_getItem_heap (tupleKind_room_in1 hu) (key_of I.hok eb) dd hp ?_
    rw [hp2]
    exact h w' _ (I.tok _) rw'
theorem d_in {Q : Value → Shared → Prop} (hu : A.units + 1 < cLine) (I : Inv X pins σ H s) (g : DGet H a y o) (ry : RelV y u) (h : ∀ s', Inv X pins σ H s' → Q (.bool o.isSome) s') :
    wpAny (model X.prog X.w) A (compareOp .In u (.ref a)) Q E s := by
  rcases g with ⟨kvs, k, e, ey, l⟩ | ⟨kvs, k, b, e, ey, eb, l⟩
  · subst ey
    obtain ⟨z, hd, vs, rel, dd⟩ := dk_rd I.hok e
    refine wpAny_in_of (kV_is ry) hd dd.mapOf ?_
    rw [← (rel.val k).isSome_eq, ← l]
    exact h _ (I.tok _)
  · subst ey
    cases (show u = Value.ref b from ry)
    obtain ⟨z, hd, xs, rel, dd⟩ := dt_rd I.hok e
    refine wpAny_in_heap (tupleKind_room_in1 hu) (key_of I.hok eb) hd dd ?_
    have q := (rel.val k).isSome_eq
    rw [Option.isSome_map] at q
    rw [← q, ← l]
    exact h _ (I.tok _)
theorem d_write {h' : Heap} {t' : Nat} {ob : HO} (I : Inv X pins σ H s) (mu : Mut (H a)) (hs : Heap.SameBut a s.heap h') (he : ∃ q, h'.get? a = some q) (new : ObjOk X.prog X.w (upd H a ob) h' a ob) :
    Inv X pins σ (upd H a ob) { s with heap := h', toks := t' } :=
  I.write (x := a) (e := a) mu (.inl rfl) (fun b q hb z => (hs.2 b hb).trans z) he new
theorem dk_new {P : Program} {w : World} {H' : Hp} {h' : Heap} {kvs : List (Key × V)} {vs : List (Key × Value)} (z : kvs.length ≤ sizeLine) (hd : (a == sysModules) = false) (rel : KV kvs vs) (dd : h'.DictOf (mixKind P w) a vs) :
    ObjOk P w H' h' a (.dK kvs) := ⟨z, hd, vs, rel, dd⟩
theorem d_setItem {H' : Hp} {Q : Unit → Shared → Prop} (hu : A.units + 1 < cLine) (I : Inv X pins σ H s) (g : DPut H a y v H') (ry : RelV y u) (rv : RelV v r) (h : ∀ s', Inv X pins σ H' s' → Q () s') :
    wpAny (model X.prog X.w) A (setItem (.ref a) u r) Q E s := by
  rcases g with ⟨kvs, k, e, ey, l, eH⟩ | ⟨kvs, k, b, e, ey, eb, l, eH⟩
  · subst ey eH
    obtain ⟨z, hd, vs, rel, dd⟩ := dk_of I.hok e
    have hz : vs.length ≤ sizeLine := by rw [← rel.length]; exact z
    have hl : (putK kvs k v).length ≤ sizeLine := by have := length_putK kvs k v; omega
    refine wpAny_setItem_pairs (hsz := hz) (kV_is ry) dd fun h' dd' hs => h _ ?_
    have he : ∃ q, h'.get? a = some q := let ⟨q, _, _, hq, _⟩ := dd'; ⟨q, hq⟩
    exact d_write I (by rw [e]; exact True.intro) hs he (dk_new hl hd (rel.put k rv) dd')
  · subst ey eH
    cases (show u = Value.ref b from ry)
    obtain ⟨z, hd, xs, rel, dd⟩ := dt_of I.hok e
    have hz : xs.length ≤ sizeLine := by rw [← Paired.length rel]; exact z
    have hl : (putK kvs k v).length ≤ sizeLine := by have := length_putK kvs k v; omega
    refine wpAny_setItem_heap (hsz := hz) (tupleKind_room_in1 hu) (key_of I.hok eb) dd fun h' dd' hs => h _ ?_
    obtain ⟨q, es, ep, hq, h2, h3, h4, _, h5⟩ := dd'
    refine d_write I (by rw [e]; exact True.intro) hs ⟨q, hq⟩ ⟨hl, hd, _, (rel.put k eb rv).keeps fun c ys ec => ?_, q, es, ep, hq, h2, h3, h4, h5⟩
    rw [upd_ne (ne_of ec e (fun z => nomatch z))]
    exact ec
end
section
variable {X : Cx} {pins : List (Addr × Obj)} {σ : St} {H : Hp} {s : Shared} {a : Addr} {kvs : List (Key × V)} {k : Key} {u : Value} {A : Around} {E : Value → Shared → Prop}
end
def NoSl (i : Expr) : Prop := ∀ ov iv, subscripted i false ov iv = operate [ov, iv] (getItem ov iv)
theorem subD_of {prog : Program} {w : World} {A : Around} {E : Value → Shared → Prop} {s : Shared} {env : Env} {value slice : Expr} {pos : Pos} {T id : String} {Q : Value → Shared → Prop}
    (hl : typeLookup (.type T) "__getitem__" = pure (some (.builtin id))) (hs : NoSl slice)
    (h : wpAny (model prog w) A (eval value env) (fun o s₁ => wpAny (model prog w) A (eval slice env) (fun i s₂ => s₂.TypeIs o T ∧ wpAny (model prog w) A (getItem o i) Q E s₂) E s₁) E s) :
    wpAny (model prog w) A (eval (.Subscript value slice pos) env) Q E s := by
  refine Subscript_ (wpAny_mono h (fun o s₁ h₁ => wpAny_mono h₁ (fun i s₂ h₂ => ?_) fun _ _ x => x) fun _ _ x => x)
  obtain ⟨hT, h₂⟩ := h₂
  unfold subscriptTail
  refine wpAny_bind ?_
  rw [getitemInPython_of_ne hT.not_modules]
  refine wpAny_bind (wpAny_specialOf hT hl ?_)
  have fin : wpAny (model prog w) A (subscripted slice false o i) (fun r s₃ => wpAny (model prog w) A (letTemporaryGo value o r >>= fun _ => pure r) Q E s₃) E s₂ := by
    rw [hs o i]
    exact wpAny_operating (wpAny_mono h₂ (fun r s₃ h₃ => wpAny_bind (wpAny_letTemporaryGo (wpAny_pure h₃))) fun _ _ x => x)
  first
    | exact wpAny_pure (wpAny_bind fin)
    | exact wpAny_bind (wpAny_pure (wpAny_bind fin))
    | exact wpAny_bind fin
theorem dict_typeIs {X : Cx} {pins : List (Addr × Obj)} {σ : St} {H : Hp} {s : Shared} {a : Addr} {y : V} {o : Option V} (I : Inv X pins σ H s) (g : DGet H a y o) : s.TypeIs (.ref a) "dict" := by
  rcases g with ⟨kvs, k, e, _, _⟩ | ⟨kvs, k, b, e, _, _, _⟩
  · obtain ⟨_, _, vs, _, dd⟩ := dk_rd I.hok e
    exact dd.typeIs
  · obtain ⟨_, _, xs, _, dd⟩ := dt_rd I.hok e
    exact dd.typeIs
def tDGet (td ty : TE) : TE := fun σ H Q => td σ H fun x H1 => ty σ H1 fun y H2 => ∃ a v, x = .ref a ∧ DGet H2 a y (some v) ∧ Q v H2
def tDIn (ty td : TE) : TE := fun σ H Q => ty σ H fun y H1 => td σ H1 fun x H2 => ∃ a o, x = .ref a ∧ DGet H2 a y o ∧ Q (.bl o.isSome) H2
def sDPut (td ty tv : TE) : TS := fun D σ H => tv σ H fun v H1 => td σ H1 fun x H2 => ty σ H2 fun y H3 => ∃ a H4, x = .ref a ∧ DPut H3 a y v H4 ∧ D.nx σ H4
section
variable {X : Cx} {o i e value : Expr} {pos pos' tpos : Pos} {td ty tv : TE}
theorem pe_dget (hu : X.A.units + 1 < cLine) (ho : PE X o td) (hi : PE X i ty) (hs : NoSl i) : PE X (.Subscript o i pos) (tDGet td ty) := by
  intro pins s σ H Q I h
  refine subD_of PySem.F.slot_dict_getitem.lookup hs (thn (ho pins s σ H _ I h) fun u s1 ⟨x, H1, I1, rx, q1⟩ => thn (hi pins s1 σ H1 _ I1 q1) fun iv s2 ⟨y, H2, I2, ry, a, v, ex, g, q2⟩ => ?_)
  subst ex
  obtain rfl : u = Value.ref a := rx
  exact ⟨dict_typeIs I2 g, d_getItem hu I2 g ry fun w' s3 I3 rw' => ⟨v, H2, I3, rw', q2⟩⟩
theorem pc_din (hu : X.A.units + 1 < cLine) (hi : PE X i ty) (ho : PE X o td) : PC X .In i o (tDIn ty td) := by
  intro pins s σ H Q I h
  refine thn (hi pins s σ H _ I h) fun iv s1 ⟨y, H1, I1, ry, q1⟩ => thn (ho pins s1 σ H1 _ I1 q1) fun u s2 ⟨x, H2, I2, rx, a, ov, ex, g, q2⟩ => ?_
  subst ex
  obtain rfl : u = Value.ref a := rx
  exact d_in hu I2 g ry fun s3 I3 => ⟨.bl ov.isSome, H2, I3, rfl, q2⟩
theorem ps_dput (hu : X.A.units + 1 < cLine) (ho : PE X o td) (hi : PE X i ty) (hv : PE X value tv) (hs : swapsWith value (some (.Subscript o i pos')) pos.line X.env = pure false) :
    PS X (.Assign [.Subscript o i pos'] value pos) (sDPut td ty tv) := by
  intro pins s σ H D I h
  refine wpAny_Assign_Subscript (thn (hv pins s σ H _ I h) fun r s1 ⟨v, H1, I1, rv, q1⟩ => thn (ho pins s1 σ H1 _ I1 q1) fun u s2 ⟨x, H2, I2, rx, q2⟩ => thn (hi pins s2 σ H2 _ I2 q2) fun iv s3 ⟨y, H3, I3, ry, a, H4, ex, g, q3⟩ => ?_) hs
  subst ex
  obtain rfl : u = Value.ref a := rx
  exact d_setItem hu I3 g ry rv fun s4 I4 => ⟨σ, H4, I4, q3⟩
end
theorem dk_empty {P : Program} {w : World} {H : Hp} (h : Heap) (hb : sysModules < h.objs.size) : ObjOk P w H (h.push { cls := .type "dict", data := .dict #[] }) h.objs.size (.dK []) :=
  ⟨Nat.zero_le _, beq_eq_false_iff_ne.mpr (Ne.symm (Nat.ne_of_lt hb)), [], .nil, Heap.DictOf.new h⟩
theorem dt_empty {P : Program} {w : World} {H : Hp} (h : Heap) (hb : sysModules < h.objs.size) : ObjOk P w H (h.push { cls := .type "dict", data := .dict #[] }) h.objs.size (.dT []) :=
  ⟨Nat.zero_le _, beq_eq_false_iff_ne.mpr (Ne.symm (Nat.ne_of_lt hb)), [], .nil, _, #[], 0, Heap.get?_push_size _ rfl, ⟨rfl, rfl, rfl⟩, rfl, rfl, List.nodup_nil⟩
def tDNewK : TE := fun _ H Q => ∀ p, H p = none → Q (.ref p) (upd H p (.dK []))
def tDNewT : TE := fun _ H Q => ∀ p, H p = none → Q (.ref p) (upd H p (.dT []))
section
variable {X : Cx} {pos : Pos}
theorem pe_dnewK : PE X (.Dict [] [] pos) tDNewK := fun pins s σ H Q I h =>
  wpAny_Dict_empty ⟨.ref s.heap.objs.size, _, I.laid (a := s.heap.objs.size) (o := .dK []) (t' := s.toks) (fun _ _ q => Heap.get?_push_of_some _ q) (Nat.le_refl _) (dk_empty s.heap I.big), rfl, h _ (I.hok.fresh (Nat.le_refl _))⟩
theorem pe_dnewT : PE X (.Dict [] [] pos) tDNewT := fun pins s σ H Q I h =>
  wpAny_Dict_empty ⟨.ref s.heap.objs.size, _, I.laid (a := s.heap.objs.size) (o := .dT []) (t' := s.toks) (fun _ _ q => Heap.get?_push_of_some _ q) (Nat.le_refl _) (dt_empty s.heap I.big), rfl, h _ (I.hok.fresh (Nat.le_refl _))⟩
end
def tPairs : List (TE × TE) → St → Hp → (List (V × V) → Hp → Prop) → Prop
  | [], _, H, Q => Q [] H
  | (tk, tv) :: r, σ, H, Q => tk σ H fun x H1 => tv σ H1 fun y H2 => tPairs r σ H2 fun ps H3 => Q ((x, y) :: ps) H3
abbrev VV : List (V × V) → List (Value × Value) → Prop := Paired fun p q => RelV p.1 q.1 ∧ RelV p.2 q.2
def PPs (X : Cx) (pos : Pos) (keys : List (Option Expr)) (values : List Expr) (trs : List (TE × TE)) : Prop :=
  ∀ (pins : List (Addr × Obj)) (s : Shared) (σ : St) (H : Hp) (Q : List (V × V) → Hp → Prop), Inv X pins σ H s → tPairs trs σ H Q →
    wpAny (model X.prog X.w) X.A (evalPairs (pairTrees keys values X.env pos)) (fun vs s' => ∃ ps H', Inv X pins σ H' s' ∧ VV ps vs ∧ Q ps H') X.xe s
theorem pps_nil {X : Cx} {pos : Pos} : PPs X pos [] [] [] := fun pins s σ H Q I h => pairTrees_nil_walk ⟨[], H, I, .nil, h⟩
theorem pps_cons {X : Cx} {pos : Pos} {k v : Expr} {ks : List (Option Expr)} {vs : List Expr} {tk tv : TE} {trs : List (TE × TE)} (hk : PE X k tk) (hv : PE X v tv) (hr : PPs X pos ks vs trs) :
    PPs X pos (some k :: ks) (v :: vs) ((tk, tv) :: trs) := fun pins s σ H Q I h =>
  pairTrees_cons_walk (thn (hk pins s σ H _ I h) fun u s1 ⟨x, H1, I1, rx, q1⟩ => thn (hv pins s1 σ H1 _ I1 q1) fun w2 s2 ⟨y, H2, I2, ry, q2⟩ =>
    thn (hr pins s2 σ H2 _ I2 q2) fun ws s3 ⟨ps, H3, I3, rel, q3⟩ => ⟨(x, y) :: ps, H3, I3, .cons ⟨rx, ry⟩ rel, q3⟩)
structure M1 (X : Cx) (o : Expr) (m : Str) (apos : Pos) (e : Expr) (cpos : Pos) : Prop where
  base : attributeBase o m X.env (eval o X.env) = eval o X.env
  few : ((backTo cpos (starEach [e] X.env)).all (fun x => !x.1) && (backToKw cpos (keywordEach [] X.env)).all (fun x => x.1.isSome)
    && decide (([e] : List Expr).length + ([] : List Keyword).length + (if ([] : List Keyword).isEmpty then 0 else 1) < 30)) = true
  line : (apos.endLine == cpos.line) = true
  trees : backTo cpos (starEach [e] X.env) = [(false, eval e X.env)]
structure M2 (X : Cx) (o : Expr) (m : Str) (apos : Pos) (e f : Expr) (cpos : Pos) : Prop where
  base : attributeBase o m X.env (eval o X.env) = eval o X.env
  few : ((backTo cpos (starEach [e, f] X.env)).all (fun x => !x.1) && (backToKw cpos (keywordEach [] X.env)).all (fun x => x.1.isSome)
    && decide (([e, f] : List Expr).length + ([] : List Keyword).length + (if ([] : List Keyword).isEmpty then 0 else 1) < 30)) = true
  line : (apos.endLine == cpos.line) = true
  trees : backTo cpos (starEach [e, f] X.env) = [(false, eval e X.env), (false, eval f X.env)]
section
variable {X : Cx} {pins : List (Addr × Obj)} {σ : St} {H : Hp} {s : Shared} {a : Addr} {y d : V} {u r : Value} {o : Option V} {A : Around} {E : Value → Shared → Prop}
end
section
variable {X : Cx} {o e f : Expr} {apos cpos : Pos} {td ty tx : TE}
end
section
variable {X : Cx} {pins : List (Addr × Obj)} {σ : St} {H : Hp} {s : Shared} {a : Addr} {kvs : List (Key × V)} {A : Around} {E : Value → Shared → Prop}
end
section
variable {X : Cx} {pins : List (Addr × Obj)} {σ : St} {H : Hp} {s : Shared} {a : Addr} {y : V} {u : Value} {A : Around} {E : Value → Shared → Prop}
end
end L2
namespace L2
open PySem PySem.Spec PyProof.Rows
section
variable {prog : Program} {w : World} {A : Around} {E : Value → Shared → Prop}
end
section
variable {X : Cx}
end
end L2
namespace L2
open PySem PySem.Spec PyProof.Rows
section
variable {X : Cx} {pins : List (Addr × Obj)} {σ : St} {H : Hp} {s : Shared} {h' : Heap}
theorem Inv.turnedNew {t' : Nat} {ch : List Addr} {T : Addr} {ob : HO} (I : Inv X pins σ H s) (k : ∀ b o, b ∉ ch → s.heap.get? b = some o → h'.get? b = some o) (hf : ∀ b ∈ ch, FpOk X pins H b) (hT : s.heap.objs.size ≤ T)
    (new : ObjOk X.prog X.w (upd H T ob) h' T ob) : Inv X pins σ (upd H T ob) { s with heap := h', toks := t' } := by
  have hn : H T = none := I.hok.fresh hT
  have nit : ∀ b u, H b = some u → b ∉ ch := fun b u e z => by
    have q := (hf b z).1
    rw [q] at e; cases e
  refine I.step (g' := s.gens) (d' := s.drawn) (ch := ch) (fun b hb => ⟨(hf b hb).2.2.2.1, (hf b hb).2.1, (hf b hb).2.2.2.2.1, (hf b hb).2.2.2.2.2⟩) (fun b o _ _ hc e _ => k b o hc e) (fun b o _ _ hc e _ => ⟨o.slots, k b o hc e⟩)
    (fun b o _ e n => ?_) (fun b o hc e => ⟨o, k b o hc e⟩) (fun b xs e => ?_) (fun b o u e => ?_) (fun b ps e => ⟨#[], ?_⟩) (fun m hm => ?_) (fun b u e => ?_) I.bare
  · rw [upd_ne (Nat.ne_of_lt (Nat.lt_of_lt_of_le (Heap.lt_size e) hT))]; exact n
  · rw [upd_ne (ne_of_none e hn)]; exact e
  · rw [upd_ne (ne_of_none e hn)]; exact e
  · rw [upd_ne (ne_of_none e hn), e]; simp
  · obtain ⟨o, es, ep, ho, r⟩ := hm
    exact ⟨o, es, ep, k _ o (fun z => (hf _ z).2.1 rfl) ho, r⟩
  · by_cases hb : b = T
    · subst hb
      rw [upd_same] at e
      cases e
      exact new
    · rw [upd_ne hb] at e
      refine (I.hok b u e).stay (fun c v hc q => k c v ?_ q) (fun c q => by rw [upd_ne (ne_of_none q hn)]; exact q) fun c xs q => by rw [upd_ne (ne_of_none q hn)]; exact q
      rcases hc with z | z
      · rw [z]; exact nit b u e
      · exact nit c _ z
theorem Inv.lock {d : Addr} {u : HO} (I : Inv X pins σ H s) (h : H d = some u) (mu : Mut (some u)) : ∃ od, Inv X pins σ (upd H d (.frz od u)) s := by
  have x := I.hok d u h
  have ex : ∃ od, s.heap.get? d = some od := by
    cases u with
    | lst xs => obtain ⟨_, _, _, _, e⟩ := x; exact ⟨_, e⟩
    | dK kvs => obtain ⟨_, _, _, _, o, _, _, e, _⟩ := x; exact ⟨o, e⟩
    | dT kvs => obtain ⟨_, _, _, _, o, _, _, e, _⟩ := x; exact ⟨o, e⟩
    | set S n => obtain ⟨o, _, _, _, e, _⟩ := x; exact ⟨o, e⟩
    | ins C dx fs => obtain ⟨_, _, _, e, _⟩ := x; exact ⟨_, e⟩
    | ext φ => obtain ⟨_, ⟨_, e⟩, _⟩ := x; exact ⟨_, e⟩
    | _ => exact False.elim mu
  obtain ⟨od, e⟩ := ex
  have new : ObjOk X.prog X.w (upd H d (.frz od u)) s.heap d (.frz od u) := by
    refine ⟨e, x.stay (fun b v _ q => q) (fun b q => ?_) fun b xs q => ?_⟩
    · rw [upd_ne (fun z => by rw [z, h] at q; cases q; exact mu)]; exact q
    · rw [upd_ne (fun z => by rw [z, h] at q; cases q; exact mu)]; exact q
  exact ⟨od, I.write (x := d) (e := d) (t' := s.toks) (h' := s.heap) (by rw [h]; exact mu) (.inl rfl) (fun b v _ q => q) ⟨od, e⟩ new⟩
theorem Inv.nofrz {d : Addr} {u : HO} (I : Inv X pins σ H s) (h : H d = some u) (mu : Mut (some u)) : ∀ o' u', X.H_0 d ≠ some (.frz o' u') := fun o' u' e => by
  have q := I.base.frzs d o' u' e
  rw [h] at q
  cases q
  exact mu
theorem Inv.unlock {d : Addr} {od : Obj} {u : HO} (I : Inv X pins σ H s) (h : H d = some (.frz od u)) (hn : ∀ o' u', X.H_0 d ≠ some (.frz o' u')) : Inv X pins σ (upd H d u) s := by
  have neH : ∀ b o, H b = some o → (∀ o' u', o ≠ .frz o' u') → b ≠ d := fun b o e hne z => by
    rw [z, h] at e
    cases e
    exact hne _ _ rfl
  have neN : ∀ b, H b = none → b ≠ d := fun b e z => by rw [z, h] at e; cases e
  refine ⟨I.ok, I.os, I.bare, ⟨I.base.keep, I.base.slot, fun b o e n hx => ?_, I.base.there, fun b xs e => ?_, fun b o x e => ?_, fun b ps e => ?_⟩, I.loc, I.cell, ?_, fun x c e => ?_, fun p hp => ?_, fun b o e => ?_, I.len⟩
  · rw [upd_ne (neN b (I.base.free b o e n hx))]; exact I.base.free b o e n hx
  · have q := I.base.tups b xs e
    rw [upd_ne (neH b _ q (fun _ _ z => nomatch z))]; exact q
  · have q := I.base.frzs b o x e
    rw [upd_ne (fun z => by rw [z] at e; exact hn _ _ e)]; exact q
  · obtain ⟨m, q⟩ := I.base.tbls b ps e
    exact ⟨m, by rw [upd_ne (neH b _ q (fun _ _ z => nomatch z))]; exact q⟩
  · rw [upd_ne (neN _ I.free)]; exact I.free
  · rw [upd_ne (neN c (I.freeC x c e))]; exact I.freeC x c e
  · obtain ⟨e, n, r⟩ := I.pin p hp
    exact ⟨e, by rw [upd_ne (neN _ n)]; exact n, r⟩
  · by_cases hb : b = d
    · rw [hb, upd_same] at e
      cases e
      rw [hb]
      obtain ⟨_, x⟩ := I.hok d _ h
      exact x.stay (fun c v _ q => q) (fun c q => by rw [upd_ne (neH c _ q (fun _ _ z => nomatch z))]; exact q) fun c xs q => by rw [upd_ne (neH c _ q (fun _ _ z => nomatch z))]; exact q
    · rw [upd_ne hb] at e
      exact (I.hok b o e).stay (fun c v _ q => q) (fun c q => by rw [upd_ne (neH c _ q (fun _ _ z => nomatch z))]; exact q) fun c xs q => by rw [upd_ne (neH c _ q (fun _ _ z => nomatch z))]; exact q
end
def tLock (t : TS) : TS := fun D σ H => ∃ d u, H d = some u ∧ Mut (some u) ∧ ∀ od, t ⟨fun σ' H' => H' d = some (.frz od u) ∧ D.nx σ' (upd H' d u), fun v H' => H' d = some (.frz od u) ∧ D.rt v (upd H' d u), fun σ' H' => H' d = some (.frz od u) ∧ D.bk σ' (upd H' d u), fun σ' H' => H' d = some (.frz od u) ∧ D.ct σ' (upd H' d u)⟩ σ (upd H d (.frz od u))
section
variable {X : Cx}
theorem ps_lock {st : Stmt} {t : TS} (h : PS X st t) : PS X st (tLock t) := by
  intro pins s σ H D I hw
  obtain ⟨d, u, hd, mu, hw⟩ := hw
  obtain ⟨od, I1⟩ := I.lock hd mu
  refine thn (h pins s σ _ _ I1 (hw od)) fun f s1 q => ?_
  cases f with
  | next => obtain ⟨σ', H', I2, e, q⟩ := q; exact ⟨σ', _, I2.unlock e (I.nofrz hd mu), q⟩
  | brk => obtain ⟨σ', H', I2, e, q⟩ := q; exact ⟨σ', _, I2.unlock e (I.nofrz hd mu), q⟩
  | cont => obtain ⟨σ', H', I2, e, q⟩ := q; exact ⟨σ', _, I2.unlock e (I.nofrz hd mu), q⟩
  | ret v => obtain ⟨x, σ', H', I2, r, e, q⟩ := q; exact ⟨x, σ', _, I2.unlock e (I.nofrz hd mu), r, q⟩
theorem pi_one {tg : Expr} {pins : List (Addr × Obj)} {σ : St} {H : Hp} {s : Shared} {R : It → Hp → Prop} {J : It} {tn : Nat → Heap → Prop} {tk : Nat} (I : Inv X pins σ H s) (o : Obj)
    (T : Turn X.prog X.w X.K tg J [s.heap.objs.size] s.heap.objs.size tn) (st : tn 0 (s.heap.push o)) (q : R J H) : PIE X pins σ tg R (.ref s.heap.objs.size) { s with heap := s.heap.push o, toks := tk } := by
  refine ⟨s.heap.objs.size, [s.heap.objs.size], tn, J, H, rfl, I.kept fun b ob e => Heap.get?_push_of_some _ e, T, st, fun b hb => ?_, q⟩
  have e : b = s.heap.objs.size := by simpa using hb
  subst e
  exact I.fpOk (Nat.le_refl _) (I.hok.fresh (Nat.le_refl _))
end
def Itc (lo c : Int) (n : Nat) : It := ⟨fun i _ => i < n, fun i H x H' => H' = H ∧ x = .int (lo + (i : Nat) * c), fun i _ => n ≤ i⟩
theorem turn_rangeC {P : Program} {w : World} {K : PySem.W.Frag} {tg : Expr} (it : Addr) (lo c : Int) (n : Nat) : Turn P w K tg (Itc lo c n) [it] it (fun i h => IsRangeIter h it (lo + (i : Nat) * c) ((n : Int) - (i : Nat)) c) where
  mem := by simp
  obj := fun i h st b hb => by
    have e : b = it := by simpa using hb
    subst e
    exact ⟨_, st, fun v z => nomatch z⟩
  keep := fun i h h' st k => k it (by simp) _ st
  item := by
    intro X hP hw hK hc i pins s σ H E I hf st hg
    subst hP hw hK
    obtain ⟨f0, f1, f2, f3, f4, f5⟩ := hf it (by simp)
    have W := Walks.range (prog := X.prog) (w := X.w) (I.ok.hd hc) it lo c n
    refine W.item i s _ _ hg st fun v h' tk hv st' kk => ?_
    obtain ⟨t, rfl⟩ := hv
    have I1 : Inv X pins σ H { s with heap := h', toks := tk } := I.turned (fun b o hb e => kk b o (by simpa using hb) e) f0 f1 f3 f4 f5
    exact ⟨_, rfl, go_of (s := { s with heap := h', toks := tk }) (n := "range_iterator") st' rfl rfl (by decide) ⟨.int (lo + (i : Nat) * c), H, I1, ⟨t, rfl⟩, ⟨rfl, rfl⟩, st', fun b hb => (hf b hb).1⟩⟩
  done := by
    intro X hP hw hK hc i pins s σ H E I hf st hg
    subst hP hw hK
    obtain ⟨f0, f1, f2, f3, f4, f5⟩ := hf it (by simp)
    exact wpAny_pyNext_range_end (I.ok.hd hc) st (by have : n ≤ i := hg; omega) fun h' eb => ⟨rfl, I.turned (t' := s.toks) (fun b o hb e => eb b o hb e) f0 f1 f3 f4 f5⟩
  self := fun A i s Q E st h => wpAny_pyIter_rangeiter st h
def RgC (i j c : Int) (n : Nat) : Prop := c ≠ 0 ∧ c.natAbs < 1073741824 ∧ Builtin.Range.small i j c = true ∧ Builtin.Range.rangeSize i j c = n
theorem RgC.neg {i j : Int} (ha : -(2 ^ 62) ≤ i) (ha' : i < 2 ^ 62) (hb : -(2 ^ 62) ≤ j) (hb' : j < 2 ^ 62) : RgC i j (-1) (i - j).toNat :=
  ⟨by decide, by decide, PySem.W.small_down ha ha' hb hb', PySem.W.rangeSize_downNat i j⟩
def iRng3 (ta : TA) : TI := fun σ H R => ta σ H fun vs H1 => ∃ (i j c : Int) (n : Nat), vs = [.int i, .int j, .int c] ∧ RgC i j c n ∧ R (Itc i c n) H1
section
variable {X : Cx} {tg : Expr}
theorem pi_range3 {a b c : Expr} {ta : TA} {p pos : Pos} (hg : Gl X "range") (hm : X.mg "range" = none) (ha : PA X [a, b, c] ta)
    (hs : starEach [a, b, c] X.env = (false, eval a X.env) :: starEach [b, c] X.env := by rfl) (hpl : (backTo pos (starEach [b, c] X.env)).any (·.1) = false := by rfl) :
    PI X tg (.Call (.Name "range" p) [a, b, c] [] pos) (iRng3 ta) := by
  intro pins s σ H R I h
  refine Call_ (ld_blt I hg hm boot_range (PyProof.Rows.callWith_type1 (thn (ha pos pins s σ H _ I h) fun us s1 ⟨vs, H1, I1, r1, q1⟩ => ?_) hs hpl))
  obtain ⟨i, j, k, n, e, ⟨c0, c1, c2, c3⟩, q⟩ := q1
  subst e
  cases r1 with
  | cons r rr =>
    cases rr with
    | cons r' rr =>
      cases rr with
      | cons r'' rr =>
        cases rr
        obtain ⟨t, rfl⟩ := r
        obtain ⟨t', rfl⟩ := r'
        obtain ⟨t'', rfl⟩ := r''
        refine call_range_3 c0 ?_ (.inl (PyProof.noPylong_small c1))
        refine wpAny_pyIter_range (IsRange.new ..) c2 ?_
        have I2 : Inv X pins σ H1 { s1 with heap := s1.heap.push { cls := .type "range", data := .fields #[.int i t, .int j t', .int k t''] } } := I1.kept (t' := s1.toks) fun b o e => Heap.get?_push_of_some _ e
        refine pi_one (tk := s1.toks) I2 _ (turn_rangeC _ i k n) ?_ q
        have e1 : i + ((0 : Nat) : Int) * k = i := by simp
        have e2 : (n : Int) - ((0 : Nat) : Int) = Builtin.Range.rangeSize i j k := by rw [c3]; simp
        show IsRangeIter _ _ (i + ((0 : Nat) : Int) * k) ((n : Int) - ((0 : Nat) : Int)) k
        rw [e1, e2]
        exact Heap.get?_push_size _ rfl
end
theorem for_rangeC {lo c : Int} {n : Nat} {g : TG} {tb : TS} {D : Ends} {σ : St} {H : Hp} (Pv : Nat → St → Hp → Prop) (h0 : Pv 0 σ H)
    (hs : ∀ i σ H, i < n → Pv i σ H → g (.int (lo + (i : Nat) * c)) σ H fun σ2 H2 => tb { D with nx := Pv (i + 1), ct := Pv (i + 1), bk := D.nx } σ2 H2) (hd : ∀ σ H, Pv n σ H → D.nx σ H) :
    ∃ W : Nat → Nat → St → Hp → Prop, (∃ m, W 0 m σ H) ∧ ∀ i m σ H, W i m σ H →
      ((Itc lo c n).stop i H ∧ D.nx σ H) ∨ ((Itc lo c n).go i H ∧ ∃ N : St → Hp → Prop, (∀ σ' H', N σ' H' → ∃ m', m' < m ∧ W (i + 1) m' σ' H') ∧ ∀ x H', (Itc lo c n).yld i H x H' → g x σ H' fun σ2 H2 => tb { D with nx := N, ct := N, bk := D.nx } σ2 H2) := by
  refine ⟨fun i m σ H => m = n - i ∧ i ≤ n ∧ Pv i σ H, ⟨n, by simp, Nat.zero_le _, h0⟩, ?_⟩
  rintro i m σ H ⟨rfl, hi, p⟩
  by_cases hlt : i < n
  · refine .inr ⟨hlt, Pv (i + 1), fun σ' H' p' => ⟨n - (i + 1), by omega, rfl, hlt, p'⟩, fun x H' y => ?_⟩
    obtain ⟨e, y⟩ := y
    subst e y
    exact hs i σ _ hlt p
  · have e : i = n := by omega
    subst e
    exact .inl ⟨Nat.le_refl _, hd σ H p⟩
section
variable {X : Cx} {tg : Expr}
end
section
variable {prog : Program} {w : World} {A : Around} {E : Value → Shared → Prop} {s : Shared}
theorem iter_keys {d : Addr} {o : Obj} {es : Array DictEntry} {ep : Nat} {Q : Value → Shared → Prop} (hd : (d == sysModules) = false) (ho : s.heap.get? d = some o) (hc : o.ExactDict) (hdat : o.data = .dict es ep)
    (hQ : Q (.ref s.heap.objs.size) { s with heap := s.heap.push { cls := .type "dict_keyiterator", data := .fields #[.ref d, .int 0 0, .int es.size 0, .int ep 0] } }) :
    wpAny (model prog w) A (pyIter (.ref d)) Q E s := by
  have hT : s.TypeIs (.ref d) "dict" := ⟨o, ho, hc.1⟩
  refine wpAny_pyIter_slot hT F.slot_dict_iter (wpAny_call_entry F.slot_dict_iter hT F.entry_dict_iter ?_ (F.args_dict_iter_1 _))
  unfold Builtin.«dict.__iter__»
  refine wpAny_bind ?_
  unfold Builtin.Dict.dictSlotNone
  refine wpAny_bind (wpAny_notOrdered_dict hT ?_)
  show wpAny _ _ (pure (Value.ref d)) _ _ s
  refine wpAny_pure ?_
  show wpAny _ _ (Builtin.Dict.showsAll d >>= _) _ _ s
  unfold Builtin.Dict.showsAll
  rw [if_neg (by rw [hd]; exact Bool.false_ne_true)]
  refine wpAny_bind (wpAny_pure ?_)
  refine wpAny_bind (wpAny_dictEntries ho hdat ?_)
  refine wpAny_bind (wpAny_dictEpoch ho hdat ?_)
  refine wpAny_bind (wpAny_newObj_type (wpAny_pure ⟨_, rfl, "dict_keyiterator", _, ⟨_, Heap.get?_push_size _ rfl, rfl⟩, F.slot_dict_keyiterator_next.lookup, ?_⟩))
  simpa [rawInt] using hQ
theorem next_key_item {it d : Addr} {i n ep : Nat} {od : Obj} {es : Array DictEntry} {en : DictEntry} {Q : Option Value → Shared → Prop} (hit : s.heap.IsKeyIter it d i n ep) (hod : s.heap.get? d = some od) (hdd : od.data = .dict es ep)
    (hsz : es.size = n) (hx : es[i]? = some en) (hQ : ∀ h', h'.IsKeyIter it d (i + 1) n ep → Heap.SameBut it s.heap h' → Q (some en.key) { s with heap := h' }) : wpAny (model prog w) A (pyNext (.ref it)) Q E s := by
  obtain ⟨o, ho, hc, hd⟩ := id hit
  unfold pyNext
  refine wpAny_bind (wpAny_attempt (wpAny_callSpecial?_slot (name := Str.ofString "__next__") hit.typeIs F.slot_dict_keyiterator_next
    (wpAny_call_entry F.slot_dict_keyiterator_next hit.typeIs F.entry_dict_keyiterator_next ?_ (F.args_dict_keyiterator_next_1 _))))
  refine wpAny_bind (wpAny_pure ?_)
  refine wpAny_bind ?_
  refine wpAny_bind ?_
  first | refine wpAny_bind (wpAny_typeNameOfWhole_keyiter hit.typeIs (wpAny_pure ?_)) | refine wpAny_bind (wpAny_typeNameOf_keyiter hit.typeIs (wpAny_pure ?_))
  refine wpAny_bind (wpAny_fieldsOf ho hd ?_)
  have hown : Builtin.Dict_items.ownsTuple "dict_keyiterator" = false := by decide
  simp only [hown, Bool.false_eq_true, if_false]
  show wpAny _ _ (if (Value.ref d == Value.none) = true then _ else _) _ _ s
  rw [if_neg (show ¬ ((Value.ref d == Value.none) = true) from Bool.false_ne_true)]
  refine wpAny_bind (wpAny_pure ?_)
  refine wpAny_bind (wpAny_dictEntries hod hdd ?_)
  rw [if_neg (by rw [hsz]; simp)]
  refine wpAny_bind (wpAny_pure ?_)
  refine wpAny_bind (wpAny_dictEpoch hod hdd ?_)
  rw [if_neg (by simp)]
  refine wpAny_pure ?_
  obtain ⟨hlt', hen⟩ := Array.getElem?_eq_some_iff.mp hx
  simp only [show ¬ ((i : Int) < 0) from by omega, if_false, Int.toNat_natCast, Array.getElem?_eq_getElem hlt']
  refine wpAny_bind ?_
  first | refine wpAny_bind (wpAny_typeNameOfWhole_keyiter hit.typeIs (wpAny_pure ?_)) | refine wpAny_bind (wpAny_typeNameOf_keyiter hit.typeIs (wpAny_pure ?_))
  refine wpAny_bind (wpAny_isOneOf_keyiter hit.typeIs ?_)
  show wpAny _ _ (setField (.ref it) 1 (rawInt ((i : Int) + 1)) >>= _) _ _ s
  refine wpAny_bind (wpAny_setField ho hd (by simp) ?_)
  have hit' : (s.heap.update it (Obj.mapFields (·.setIfInBounds 1 (rawInt ((i : Int) + 1))))).IsKeyIter it d (i + 1) n ep :=
    ⟨_, Heap.get?_update_self _ ho (Obj.isFreed_of_fields (Obj.data_mapFields hd _)), (Obj.cls_mapFields ..).trans hc, by rw [Obj.data_mapFields hd]; simp [rawInt]⟩
  refine wpAny_bind (wpAny_holding ?_)
  refine wpAny_bind (wpAny_isOneOf_keyiter (s := { s with heap := s.heap.update it (Obj.mapFields (·.setIfInBounds 1 (rawInt ((i : Int) + 1)))) }) hit'.typeIs ?_)
  show wpAny _ _ (pure es[i].key) _ _ _
  rw [hen]
  exact wpAny_pure (wpAny_pure ⟨_, rfl, wpAny_pure (hQ _ hit' (Heap.SameBut.update ..))⟩)
theorem next_key_end {it d : Addr} {i n ep : Nat} {od : Obj} {es : Array DictEntry} {Q : Option Value → Shared → Prop} (hh : A.handled = none) (hit : s.heap.IsKeyIter it d i n ep) (hod : s.heap.get? d = some od) (hdd : od.data = .dict es ep)
    (hsz : es.size = n) (hge : n ≤ i) (hQ : ∀ h', Heap.ExtBut it s.heap h' → Q none { s with heap := h' }) : wpAny (model prog w) A (pyNext (.ref it)) Q E s := by
  obtain ⟨o, ho, hc, hd⟩ := id hit
  unfold pyNext
  refine wpAny_bind (wpAny_attempt (wpAny_callSpecial?_slot (name := Str.ofString "__next__") hit.typeIs F.slot_dict_keyiterator_next
    (wpAny_call_entry F.slot_dict_keyiterator_next hit.typeIs F.entry_dict_keyiterator_next ?_ (F.args_dict_keyiterator_next_1 _))))
  refine wpAny_bind (wpAny_pure ?_)
  refine wpAny_bind ?_
  refine wpAny_bind ?_
  first | refine wpAny_bind (wpAny_typeNameOfWhole_keyiter hit.typeIs (wpAny_pure ?_)) | refine wpAny_bind (wpAny_typeNameOf_keyiter hit.typeIs (wpAny_pure ?_))
  refine wpAny_bind (wpAny_fieldsOf ho hd ?_)
  have hown : Builtin.Dict_items.ownsTuple "dict_keyiterator" = false := by decide
  simp only [hown, Bool.false_eq_true, if_false]
  show wpAny _ _ (if (Value.ref d == Value.none) = true then _ else _) _ _ s
  rw [if_neg (show ¬ ((Value.ref d == Value.none) = true) from Bool.false_ne_true)]
  refine wpAny_bind (wpAny_pure ?_)
  refine wpAny_bind (wpAny_dictEntries hod hdd ?_)
  rw [if_neg (by rw [hsz]; simp)]
  refine wpAny_bind (wpAny_pure ?_)
  refine wpAny_bind (wpAny_dictEpoch hod hdd ?_)
  rw [if_neg (by simp)]
  refine wpAny_pure ?_
  have hge' : es.size ≤ i := by rw [hsz]; exact hge
  simp only [show ¬ ((i : Int) < 0) from by omega, if_false, Int.toNat_natCast, Array.getElem?_eq_none hge']
  refine wpAny_bind ?_
  first | refine wpAny_bind (wpAny_typeNameOfWhole_keyiter hit.typeIs (wpAny_pure ?_)) | refine wpAny_bind (wpAny_typeNameOf_keyiter hit.typeIs (wpAny_pure ?_))
  show wpAny _ _ (setField (.ref it) 0 .none >>= _) _ _ s
  refine wpAny_bind (wpAny_setField ho hd (by simp) ?_)
  show wpAny _ _ (newExc (.type "StopIteration") [] >>= _) _ _ _
  refine wpAny_bind ?_
  simp only [newExc, newTuple]
  refine wpAny_bind (wpAny_newObj_type ?_ (by size_fits))
  refine wpAny_bind (m := firstArgMember _ _) (wpAny_of_eq (a := Value.none) (by first | rfl | (simp only [firstArgMember]; rfl)) ?_)
  refine wpAny_newObj_type ?_ (by size_fits)
  simp only [raiseNew]
  refine wpAny_bind (wpAny_handled ?_)
  rw [show A.in1.handled = none from hh]
  refine wpAny_bind (wpAny_pure (wpAny_throw ?_))
  refine wpAny_bind (wpAny_isInstance (T := "StopIteration") (b := true) ⟨_, Heap.get?_push_size _ rfl, rfl⟩ isSubtype_stop ?_)
  exact wpAny_pure (hQ _ (((Heap.SameBut.update ..).extBut.push _).push _))
end
theorem kv_get {κ : Type} {kvs : List (κ × V)} {vs : List (κ × Value)} (h : KV kvs vs) : ∀ {i : Nat} {k : κ} {v : V}, kvs[i]? = some (k, v) → ∃ u, vs[i]? = some (k, u) ∧ RelV v u := by
  unfold KV at h
  induction h with
  | nil => intro i k v e; simp at e
  | @cons a b l₁ l₂ r t ih =>
    intro i k v e
    cases i with
    | zero =>
      simp only [List.getElem?_cons_zero, Option.some.injEq] at e
      subst e
      refine ⟨b.2, ?_, r.2⟩
      simp only [List.getElem?_cons_zero]
      exact congrArg some (Prod.ext r.1.symm rfl)
    | succ j =>
      simp only [List.getElem?_cons_succ] at e ⊢
      exact ih e
theorem paired_get {α β : Type} {G : α → β → Prop} {l₁ : List α} {l₂ : List β} (h : Paired G l₁ l₂) : ∀ {i : Nat} {a : α}, l₁[i]? = some a → ∃ b, l₂[i]? = some b ∧ G a b := by
  induction h with
  | nil => intro i a e; simp at e
  | @cons a b l₁ l₂ r t ih =>
    intro i a' e
    cases i with
    | zero =>
      simp only [List.getElem?_cons_zero, Option.some.injEq] at e
      subst e
      exact ⟨b, rfl, r⟩
    | succ j =>
      simp only [List.getElem?_cons_succ] at e ⊢
      exact ih e
theorem relV_key {k : Key} {u : Value} (h : keyIs k u = true) : RelV (kV k) u := by
  rcases keyIs_shape h with ⟨i, t, rfl, rfl⟩ | ⟨x, t, rfl, rfl⟩
  · exact ⟨t, rfl⟩
  · exact ⟨t, rfl⟩
section
variable {X : Cx} {pins : List (Addr × Obj)} {σ : St} {H : Hp} {s : Shared} {d : Addr} {o : Obj}
theorem Inv.frzK {kvs : List (Key × V)} (I : Inv X pins σ H s) (h : H d = some (.frz o (.dK kvs))) :
    (d == sysModules) = false ∧ s.heap.get? d = some o ∧ o.ExactDict ∧ ∃ (es : Array DictEntry) (ep : Nat) (vs : List (Key × Value)), o.data = .dict es ep ∧ es.size = kvs.length ∧ KV kvs vs ∧ s.heap.DictAt (mixKind X.prog X.w) d vs ep := by
  obtain ⟨hd, z, hs, vs, kv, o', es, ep, ho, hx, hdt, r⟩ := I.hok d _ h
  rw [hd] at ho
  cases ho
  refine ⟨hs, hd, hx, es, ep, vs, hdt, ?_, kv, o, es, hd, hx, hdt, r⟩
  have l1 := r.2.1.length
  have l2 : kvs.length = vs.length := Paired.length kv
  rw [Array.length_toList] at l1
  omega
theorem Inv.frzT {kvs : List (List Key × V)} (I : Inv X pins σ H s) (h : H d = some (.frz o (.dT kvs))) :
    (d == sysModules) = false ∧ s.heap.get? d = some o ∧ o.ExactDict ∧ ∃ (es : Array DictEntry) (ep : Nat), o.data = .dict es ep ∧ es.size = kvs.length ∧
      ∀ (i : Nat) (k : List Key) (v : V), kvs[i]? = some (k, v) → ∃ (en : DictEntry) (q : Addr), es[i]? = some en ∧ en.key = .ref q ∧ H q = some (.tup (k.map kV)) := by
  obtain ⟨hd, z, hs, xs, pr, o', es, ep, ho, hx, hdt, he, _⟩ := I.hok d _ h
  rw [hd] at ho
  cases ho
  refine ⟨hs, hd, hx, es, ep, hdt, ?_, fun i k v e => ?_⟩
  · have l1 : es.size = xs.length := size_of_entries he
    have l2 : kvs.length = xs.length := Paired.length pr
    omega
  · obtain ⟨b, hb, e1, e2, _⟩ := paired_get pr e
    have q := entry_at he i
    rw [hb] at q
    exact ⟨_, b.2.1, q, rfl, e2⟩
end
def Itk (d : Addr) (o : Obj) (kvs : List (Key × V)) : It :=
  ⟨fun i H => H d = some (.frz o (.dK kvs)) ∧ i < kvs.length, fun i H x H' => H' = H ∧ ∃ k v, kvs[i]? = some (k, v) ∧ x = kV k, fun i H => H d = some (.frz o (.dK kvs)) ∧ kvs.length ≤ i⟩
def Itkt (d : Addr) (o : Obj) (kvs : List (List Key × V)) : It :=
  ⟨fun i H => H d = some (.frz o (.dT kvs)) ∧ i < kvs.length, fun i H x H' => H' = H ∧ ∃ (k : List Key) (v : V) (q : Addr), kvs[i]? = some (k, v) ∧ x = .ref q ∧ H q = some (.tup (k.map kV)), fun i H => H d = some (.frz o (.dT kvs)) ∧ kvs.length ≤ i⟩
theorem dict_ep {o : Obj} {es es' : Array DictEntry} {ep ep' : Nat} (h : o.data = .dict es ep) (h' : o.data = .dict es' ep') : es' = es ∧ ep' = ep := by
  rw [h] at h'
  cases h'
  exact ⟨rfl, rfl⟩
section
variable {P : Program} {w : World} {K : PySem.W.Frag} {tg : Expr} {d : Addr} {o : Obj} {es : Array DictEntry} {ep : Nat}
theorem turn_keys {kvs : List (Key × V)} (it : Addr) (hod : o.data = .dict es ep) : Turn P w K tg (Itk d o kvs) [it] it (fun i h => h.IsKeyIter it d i kvs.length ep) where
  mem := by simp
  obj := fun i h st b hb => by
    have e : b = it := by simpa using hb
    subst e
    obtain ⟨oi, e, c, dd⟩ := st
    exact ⟨oi, e, fun v z => by rw [dd] at z; cases z⟩
  keep := fun i h h' st k => st.at fun oi e => k it (by simp) oi e
  item := by
    intro X hP hw hK hc i pins s σ H E I hf st hg
    subst hP hw hK
    obtain ⟨hd, hi⟩ := hg
    obtain ⟨f0, f1, f2, f3, f4, f5⟩ := hf it (by simp)
    obtain ⟨hs, hgd, hx, es', ep', vs, hdt, hsz, kv, hm⟩ := I.frzK hd
    obtain ⟨rfl, rfl⟩ := dict_ep hod hdt
    obtain ⟨⟨k, v⟩, hkv⟩ : ∃ p, kvs[i]? = some p := ⟨kvs[i], List.getElem?_eq_getElem hi⟩
    obtain ⟨u, hu, ru⟩ := kv_get kv hkv
    have hl : kvs.length = vs.length := Paired.length kv
    rw [hl] at st
    refine wpAny_pyNext_dict_item st hm hu fun key h' hkey st' sb => ?_
    have I1 : Inv X pins σ H { s with heap := h' } := I.turned (t' := s.toks) (fun b ob hb e => (sb.2 b hb).trans e) f0 f1 f3 f4 f5
    obtain ⟨oi, e, c, dd⟩ := id st'
    refine ⟨key, rfl, go_of (s := { s with heap := h' }) e c dd (by decide) ⟨kV k, H, I1, relV_key (show keyIs k key = true from hkey), ⟨rfl, k, v, hkv, rfl⟩, ?_, fun b hb => (hf b hb).1⟩⟩
    show h'.IsKeyIter it d (i + 1) kvs.length _
    rw [hl]
    exact st'
  done := by
    intro X hP hw hK hc i pins s σ H E I hf st hg
    subst hP hw hK
    obtain ⟨hd, hi⟩ := hg
    obtain ⟨f0, f1, f2, f3, f4, f5⟩ := hf it (by simp)
    obtain ⟨hs, hgd, hx, es', ep', vs, hdt, hsz, kv, hm⟩ := I.frzK hd
    obtain ⟨rfl, rfl⟩ := dict_ep hod hdt
    exact next_key_end (I.ok.hd hc) st hgd hdt hsz hi fun h' eb => ⟨rfl, I.turned (t' := s.toks) (fun b ob hb e => eb b ob hb e) f0 f1 f3 f4 f5⟩
  self := fun A i s Q E st h => wpAny_pyIter_keyiter st h
theorem turn_keysT {kvs : List (List Key × V)} (it : Addr) (hod : o.data = .dict es ep) : Turn P w K tg (Itkt d o kvs) [it] it (fun i h => h.IsKeyIter it d i kvs.length ep) where
  mem := by simp
  obj := fun i h st b hb => by
    have e : b = it := by simpa using hb
    subst e
    obtain ⟨oi, e, c, dd⟩ := st
    exact ⟨oi, e, fun v z => by rw [dd] at z; cases z⟩
  keep := fun i h h' st k => st.at fun oi e => k it (by simp) oi e
  item := by
    intro X hP hw hK hc i pins s σ H E I hf st hg
    subst hP hw hK
    obtain ⟨hd, hi⟩ := hg
    obtain ⟨f0, f1, f2, f3, f4, f5⟩ := hf it (by simp)
    obtain ⟨hs, hgd, hx, es', ep', hdt, hsz, ent⟩ := I.frzT hd
    obtain ⟨rfl, rfl⟩ := dict_ep hod hdt
    obtain ⟨⟨k, v⟩, hkv⟩ : ∃ p, kvs[i]? = some p := ⟨kvs[i], List.getElem?_eq_getElem hi⟩
    obtain ⟨en, q, hen, hkey, hq⟩ := ent i k v hkv
    refine next_key_item st hgd hdt hsz hen fun h' st' sb => ?_
    have I1 : Inv X pins σ H { s with heap := h' } := I.turned (t' := s.toks) (fun b ob hb e => (sb.2 b hb).trans e) f0 f1 f3 f4 f5
    obtain ⟨oi, e, c, dd⟩ := id st'
    exact ⟨en.key, rfl, go_of (s := { s with heap := h' }) e c dd (by decide) ⟨.ref q, H, I1, hkey, ⟨rfl, k, v, q, hkv, rfl, hq⟩, st', fun b hb => (hf b hb).1⟩⟩
  done := by
    intro X hP hw hK hc i pins s σ H E I hf st hg
    subst hP hw hK
    obtain ⟨hd, hi⟩ := hg
    obtain ⟨f0, f1, f2, f3, f4, f5⟩ := hf it (by simp)
    obtain ⟨hs, hgd, hx, es', ep', hdt, hsz, ent⟩ := I.frzT hd
    obtain ⟨rfl, rfl⟩ := dict_ep hod hdt
    exact next_key_end (I.ok.hd hc) st hgd hdt hsz hi fun h' eb => ⟨rfl, I.turned (t' := s.toks) (fun b ob hb e => eb b ob hb e) f0 f1 f3 f4 f5⟩
  self := fun A i s Q E st h => by
    refine wpAny_pyIter_slot st.typeIs F.slot_dict_keyiterator_iter (wpAny_call_entry F.slot_dict_keyiterator_iter st.typeIs F.entry_dict_keyiterator_iter ?_ (F.args_dict_keyiterator_iter_1 _))
    show wpAny _ _ (ret (.ref it)) _ _ s
    exact wpAny_pure ⟨_, rfl, "dict_keyiterator", _, st.typeIs, F.slot_dict_keyiterator_next.lookup, h⟩
end
def iKeys (td : TE) : TI := fun σ H R => td σ H fun x H1 => ∃ d o, x = .ref d ∧ ((∃ kvs, H1 d = some (.frz o (.dK kvs)) ∧ R (Itk d o kvs) H1) ∨ ∃ kvs, H1 d = some (.frz o (.dT kvs)) ∧ R (Itkt d o kvs) H1)
section
variable {X : Cx} {tg e : Expr} {td : TE} {apos cpos : Pos}
theorem pi_keys (he : PE X e td) : PI X tg e (iKeys td) := by
  intro pins s σ H R I h
  refine thn (he pins s σ H _ I h) fun u s1 ⟨x, H1, I1, rx, d, o, ex, q⟩ => ?_
  subst ex
  obtain rfl : u = Value.ref d := rx
  rcases q with ⟨kvs, hd, q⟩ | ⟨kvs, hd, q⟩
  · obtain ⟨hs, hgd, hx, es, ep, vs, hdt, hsz, kv, hm⟩ := I1.frzK hd
    refine iter_keys hs hgd hx hdt (pi_one (tk := s1.toks) I1 _ (turn_keys _ hdt) ⟨_, Heap.get?_push_size _ rfl, rfl, ?_⟩ q)
    rw [hsz] <;> rfl
  · obtain ⟨hs, hgd, hx, es, ep, hdt, hsz, ent⟩ := I1.frzT hd
    refine iter_keys hs hgd hx hdt (pi_one (tk := s1.toks) I1 _ (turn_keysT _ hdt) ⟨_, Heap.get?_push_size _ rfl, rfl, ?_⟩ q)
    rw [hsz] <;> rfl
end
def Ite (K : PySem.W.Frag) (a : Addr) : It :=
  ⟨fun i H => ∃ (xs : List V) (x : V), SqL K H a xs ∧ xs[i]? = some x, fun i H v H' => ∃ T x, v = .ref T ∧ H T = none ∧ H' = upd H T (.tup [.int (i : Nat), x]) ∧ ∀ xs, SqL K H a xs → xs[i]? = some x, fun i H => ∃ xs : List V, SqL K H a xs ∧ xs.length ≤ i⟩
theorem turn_enum {P : Program} {w : World} {K : PySem.W.Frag} {elts : List Expr} {kk : Nat} {tpos : Pos} (a e it : Addr) :
    Turn P w K (.Tuple elts kk tpos) (Ite K a) [e, it] e (fun i h => (∃ old, IsEnum h e it ((i : Nat) : Int) old) ∧ h.IsListIter it a i ∧ e ≠ it) where
  mem := by simp
  obj := fun i h st b hb => by
    obtain ⟨⟨old, he⟩, ⟨o, ho, hc, hd⟩, _⟩ := st
    have e' : b = e ∨ b = it := by simpa using hb
    rcases e' with z | z
    · rw [z]; exact ⟨_, he, fun v q => nomatch q⟩
    · rw [z]; exact ⟨o, ho, fun v q => by rw [hd] at q; cases q⟩
  keep := fun i h h' st k => let ⟨⟨old, he⟩, hi, hne⟩ := st; ⟨⟨old, k e (by simp) _ he⟩, hi.at fun o q => k it (by simp) o q, hne⟩
  item := by
    intro X hP hw hK hc i pins s σ H E I hf st hg
    subst hP hw hK
    obtain ⟨⟨old, he⟩, hit, hne⟩ := st
    obtain ⟨xs, x, hq, hx⟩ := hg
    obtain ⟨its, rv, p, hz⟩ := I.list hq
    obtain ⟨u, hu, ru⟩ := rv.get hx
    have hel : e < s.heap.objs.size := Heap.lt_size he
    have hil : it < s.heap.objs.size := by obtain ⟨_, q, _⟩ := hit; exact Heap.lt_size q
    refine wpAny_pyNext_enum_item he hit p.isList (x := u) (by simpa using hu) hne fun h' ho hit' hT hsz hk => ?_
    refine ⟨_, rfl, wpAny_letOwnedTupleGo_enum (s := { s with heap := h', toks := s.toks + 1 }) ho fun h'' he' sb => ?_⟩
    have hT2 : h''.get? s.heap.objs.size = some { cls := .type "tuple", data := .seq #[.int i s.toks, u] } := (sb.2 _ (Nat.ne_of_gt hel)).trans hT
    have new : ObjOk X.prog X.w (upd H s.heap.objs.size (.tup [.int (i : Nat), x])) h'' s.heap.objs.size (.tup [.int (i : Nat), x]) :=
      ⟨by show 2 ≤ sizeLine; decide, [.int i s.toks, u], .cons ⟨_, rfl⟩ (.cons ru .nil), ⟨_, hT2, rfl, _, rfl⟩⟩
    have I1 : Inv X pins σ (upd H s.heap.objs.size (.tup [.int (i : Nat), x])) { s with heap := h'', toks := s.toks + 1 } :=
      I.turnedNew (ch := [e, it]) (fun b ob hb q => (sb.2 b (fun z => hb (by simp [z]))).trans (hk b ob (fun z => hb (by simp [z])) (fun z => hb (by simp [z])) q)) hf (Nat.le_refl _) new
    refine ⟨.ref s.heap.objs.size, _, I1, rfl, ⟨_, x, rfl, I.hok.fresh (Nat.le_refl _), rfl, fun ys hy => by rw [I.list_inj hy hq]; exact hx⟩, ⟨⟨u, ?_⟩, hit'.at fun o q => (sb.2 it (Ne.symm hne)).trans q, hne⟩, fun b hb => ?_⟩
    · have e1 : ((i + 1 : Nat) : Int) = (i : Int) + 1 := by omega
      rw [e1]; exact he'
    · have hb' : b < s.heap.objs.size := by
        have e' : b = e ∨ b = it := by simpa using hb
        rcases e' with z | z
        · rw [z]; exact hel
        · rw [z]; exact hil
      rw [upd_ne (Nat.ne_of_lt hb')]
      exact (hf b hb).1
  done := by
    intro X hP hw hK hc i pins s σ H E I hf st hg
    subst hP hw hK
    obtain ⟨⟨old, he⟩, hit, hne⟩ := st
    obtain ⟨xs, hq, hx⟩ := hg
    obtain ⟨its, rv, p, hz⟩ := I.list hq
    obtain ⟨f0, f1, f2, f3, f4, f5⟩ := hf it (by simp)
    have hl := rv.length
    exact wpAny_pyNext_enum_end (I.ok.hd hc) he hit p.isList (by simp; omega) fun h' eb => ⟨rfl, I.turned (t' := s.toks) (fun b o hb q => eb b o hb q) f0 f1 f3 f4 f5⟩
  self := fun A i s Q E st h => let ⟨⟨_, he⟩, _⟩ := st; wpAny_pyIter_enum he h
def iEnum (K : PySem.W.Frag) (ta : TA) : TI := fun σ H R => ta σ H fun vs H1 => ∃ a xs, vs = [.ref a] ∧ SqL K H1 a xs ∧ R (Ite K a) H1
theorem pi_enum {X : Cx} {e : Expr} {ta : TA} {p pos tpos : Pos} {elts : List Expr} {kk : Nat} (hg : Gl X "enumerate") (hm : X.mg "enumerate" = none) (ha : PA X [e] ta) (hs : starEach [e] X.env = [(false, eval e X.env)] := by rfl) :
    PI X (.Tuple elts kk tpos) (.Call (.Name "enumerate" p) [e] [] pos) (iEnum X.K ta) := by
  intro pins s σ H R I h
  refine Call_ (ld_blt I hg hm boot_enumerate (PyProof.Rows.callWith_type1 (thn (ha pos pins s σ H _ I h) fun us s1 ⟨vs, H1, I1, r1, q1⟩ => ?_) hs rfl))
  obtain ⟨a, xs, ex, hq, q⟩ := q1
  subst ex
  cases r1 with
  | cons r rr =>
    cases rr
    cases r
    obtain ⟨its, rv, p', hz⟩ := I1.list hq
    refine call_enumerate_list p'.isList fun h' he hit hsz hk => wpAny_pyIter_enum he ?_
    have I2 : Inv X pins σ H1 { s1 with heap := h' } := I1.kept (t' := s1.toks) hk
    refine ⟨s1.heap.objs.size + 1, [s1.heap.objs.size + 1, s1.heap.objs.size], _, _, H1, rfl, I2, turn_enum a (s1.heap.objs.size + 1) s1.heap.objs.size, ⟨⟨.none, he⟩, hit, Nat.succ_ne_self _⟩, fun b hb => ?_, q⟩
    have e' : b = s1.heap.objs.size + 1 ∨ b = s1.heap.objs.size := by simpa using hb
    have hle : s1.heap.objs.size ≤ b := by
      rcases e' with z | z
      · rw [z]; exact Nat.le_add_right _ _
      · rw [z]; exact Nat.le_refl _
    exact I1.fpOk hle (I1.hok.fresh hle)
end L2
section
namespace Bits
open PySem PyProof.Rows
end Bits
end
section
namespace TL
open PySem PySem.Builtin PySem.Builtin.Str PySem.StrLaws
end TL
end
namespace L2
open PySem PySem.Spec PyProof.Rows
section
variable {X : Cx} {pins : List (Addr × Obj)} {σ : St} {H : Hp} {s : Shared} {Q : VK}
end
section
variable {X : Cx}
end
section
variable {X : Cx} {o e : Expr} {to te : TE}
end
end L2
namespace L2
open PySem PySem.Spec PyProof.Rows
section
variable {X : Cx}
end
end L2
namespace Att
open PySem PySem.W PySem.Calls PyProof.Rows
section
variable {prog : Program} {w : World} {A : Around} {E : Value → Shared → Prop} {s : Shared} {K : Frag}
end
end Att
namespace L2
open PySem PySem.Spec PyProof.Rows
end L2
namespace L2
open PySem PySem.Spec PyProof.Rows
end L2
namespace L2
open PySem PySem.Spec PyProof.Rows
def inClass (s : Stmt) (j : Nat) : Stmt := match s with
  | .ClassDef _ _ _ body _ _ _ _ _ _ _ => body.getD j (.Pass ⟨0, 0, 0, 0⟩)
  | _ => .Pass ⟨0, 0, 0, 0⟩
def defArgs (s : Stmt) : Arguments := match s with
  | .FunctionDef _ a _ _ _ _ _ _ _ _ => a
  | _ => { posonlyargs := [], args := [], vararg := none, kwonlyargs := [], kw_defaults := [], kwarg := none, defaults := [] }
def defBody (s : Stmt) : List Stmt := match s with
  | .FunctionDef _ _ b _ _ _ _ _ _ _ => b
  | _ => []
def defScope (s : Stmt) : Scope := match s with
  | .FunctionDef _ _ _ _ _ _ sc _ _ _ => sc
  | _ => { kind := .function, names := [], isGenerator := false, isCoroutine := false }
abbrev CX0 : CXT := fun _ _ _ _ _ _ => False
abbrev E0 : XK := fun _ _ _ => False
theorem pass0 {X : Cx} : Passes CX0 X E0 := fun _ _ _ _ _ _ _ h => h.elim
structure Fun (K : PySem.W.Frag) (x qual : Str) (st : Stmt) (f : Addr) (fd : FuncData) : Prop where
  ex : ∃ (oc : Value) (od : Option Addr) (kV doc pm : Value) (an : Option Addr) (cdv ct : Value) (osl : Array (Option Value)),
    fd = PySem.W.fnOf x qual (defArgs st) (defBody st) (defScope st) .none kV doc pm an cdv ct ∧ K.lookup f = some ⟨oc, od, .func fd, osl⟩ ∧ PySem.W.codeIn K cdv qual = true
  kp : PySem.W.keepIn K (.ref f) = true
section
variable {P : Program} {w : World} {K : PySem.W.Frag} {mg : Str → Option Value} {base : Heap}
theorem Fun.ok {x qual : Str} {st : Stmt} {f : Addr} {fd : FuncData} {N ps : List Str} {k : Nat} {sp : Sp} (F : Fun K x qual st f fd) (S : FnScope N ps (defScope st)) (len : ∀ vs H Q E, sp vs H Q E → vs.length = ps.length)
    (hbody : ∀ (cdv : Value) (A : Around) (outer : List Env) (s : Shared) (H : Hp) (vs : List V) (Q : VK) (E : XK), Room k (A.deeper (envOfC qual (defScope st) s.heap.objs.size f cdv)) → sp vs H Q E →
      ∃ t, PSs (cxOf CX0 P w K mg base N qual (defScope st) f cdv A outer s H E).nox (defBody st) t ∧ t { nx := fun _ H' => Q .non H', rt := Q } (start N vs) H) : FnOk P w K mg base CX0 (k + 1) f fd ps sp := by
  obtain ⟨oc, od, kV, doc, pm, an, cdv, ct, osl, rfl, lk, hcd⟩ := F.ex
  refine fn_of lk hcd S len fun A outer s H vs Q E hr hsp => ?_
  obtain ⟨t, h, q⟩ := hbody cdv A outer s H vs Q E hr hsp
  exact ⟨t, h.nox, q⟩
theorem Fun.binds {x qual : Str} {st : Stmt} {f : Addr} {fd : FuncData} {ps : List Str} (F : Fun K x qual st f fd)
    (h : ∀ (kV doc pm : Value) (an : Option Addr) (cdv ct : Value) (us : List Value), us.length = ps.length → bindArgs (PySem.W.fnOf x qual (defArgs st) (defBody st) (defScope st) .none kV doc pm an cdv ct) ⟨us, []⟩ = pure (ps.zip us)) : Binds K fd ps [] := by
  obtain ⟨oc, od, kV, doc, pm, an, cdv, ct, osl, rfl, lk, hcd⟩ := F.ex
  exact .all (h kV doc pm an cdv ct)
theorem fun_mk {x qual : Str} {st : Stmt} {f : Addr} {oc : Value} {od an : Option Addr} {osl : Array (Option Value)} {kV doc pm cdv ct : Value} (l : K.lookup f = some ⟨oc, od, .func (PySem.W.fnOf x qual (defArgs st) (defBody st) (defScope st) .none kV doc pm an cdv ct), osl⟩)
    (c : PySem.W.codeIn K cdv qual = true) (k : PySem.W.keepIn K (.ref f) = true) : Fun K x qual st f (PySem.W.fnOf x qual (defArgs st) (defBody st) (defScope st) .none kV doc pm an cdv ct) := ⟨⟨oc, od, kV, doc, pm, an, cdv, ct, osl, rfl, l, c⟩, k⟩
end
section
variable {X : Cx}
theorem pv (i : Nat) {x : Str} {pos : Pos} (hN : X.N[i]? = some x := by rfl) (hv : Vis X.env.scope x := by first | exact Or.inl rfl | exact Or.inr (Or.inl rfl) | exact Or.inr (Or.inr rfl)) (hd : (x == ("__debug__" : Str)) = false := by decide)
    (hcd : (x == ("__classdict__" : Str)) = false := by decide) : PE X (.Name x pos) (tVar i) := pe_var hN hv hd hcd
end
theorem iteF {A B : Prop} (h : B) : if false = true then A else B := by
  rw [if_neg Bool.false_ne_true]
  exact h
theorem iteT {A B : Prop} (h : A) : if true = true then A else B := by
  rw [if_pos rfl]
  exact h
theorem ite2 {c A B : Prop} [Decidable c] (h1 : c → A) (h2 : ¬ c → B) : if c then A else B := by
  by_cases h : c
  · rw [if_pos h]
    exact h1 h
  · rw [if_neg h]
    exact h2 h
def Same (H H' : Hp) : Prop := ∀ b o, H b = some o → H' b = some o
theorem Same.refl (H : Hp) : Same H H := fun _ _ h => h
theorem Same.trans {H H1 H2 : Hp} (a : Same H H1) (b : Same H1 H2) : Same H H2 := fun c o h => b c o (a c o h)
theorem Same.free {H H' : Hp} (e : Same H H') {l : Addr} (h : H' l = Option.none) : H l = Option.none := by
  cases q : H l with
  | none => rfl
  | some o =>
    rw [e l o q] at h
    cases h
section
variable {κ : Type} [DecidableEq κ]
theorem nd_snoc : ∀ {l : List κ} {k : κ}, l.Nodup → ¬ k ∈ l → (l ++ [k]).Nodup
  | [], k, _, _ => by simp
  | a :: r, k, h, hk => by
    obtain ⟨h1, h2⟩ := List.nodup_cons.mp h
    show (a :: (r ++ [k])).Nodup
    refine List.nodup_cons.mpr ⟨fun m => ?_, nd_snoc h2 fun m => hk (List.mem_cons.mpr (Or.inr m))⟩
    rcases List.mem_append.mp m with q | q
    · exact h1 q
    · exact hk (List.mem_cons.mpr (Or.inl (List.mem_singleton.mp q).symm))
end
theorem at_of {xs : List V} {z : Int} {j : Nat} {v : V} (e : z = (j : Int)) (h : xs[j]? = some v) : atI xs z = some v := by
  rw [e]
  exact atI_nat h
theorem nd_ix {α : Type} {l : List α} (hN : l.Nodup) {i j : Nat} {x : α} (a : l[i]? = some x) (b : l[j]? = some x) : i = j := by
  obtain ⟨h1, e1⟩ := List.getElem?_eq_some_iff.mp a
  obtain ⟨h2, e2⟩ := List.getElem?_eq_some_iff.mp b
  exact (List.getElem_inj hN).mp (e1.trans e2.symm)
end L2
section
namespace L2
open PySem PySem.Spec PyProof.Rows
open PySem.W (WData Codec OpenSpec Well WellAll ReadsW ReadsAllW)
mutual
inductive Dw (K : PySem.W.Frag) (H : Hp) : V → WData → Prop
  | non : Dw K H .non .none
  | bl (b : Bool) : Dw K H (.bl b) (.bool b)
  | int (i : Int) : Dw K H (.int i) (.int i)
  | str (x : Str) : Dw K H (.str x) (.str x)
  | byt (b : Array UInt8) : Dw K H (.byt b) (.bytes b.toList)
  | lst {a : Addr} {xs : List V} {ds : List WData} : SqL K H a xs → DwAll K H xs ds → Dw K H (.ref a) (.list ds)
  | tup {a : Addr} {xs : List V} {ds : List WData} : SqT K H a xs → DwAll K H xs ds → Dw K H (.ref a) (.tuple ds)
inductive DwAll (K : PySem.W.Frag) (H : Hp) : List V → List WData → Prop
  | nil : DwAll K H [] []
  | cons {v : V} {vs : List V} {d : WData} {ds : List WData} : Dw K H v d → DwAll K H vs ds → DwAll K H (v :: vs) (d :: ds)
end
theorem dw_ints {K : PySem.W.Frag} {H : Hp} : ∀ ns : List Int, DwAll K H (ns.map V.int) (ns.map WData.int)
  | [] => .nil
  | n :: r => .cons (.int n) (dw_ints r)
theorem ints_dw {K : PySem.W.Frag} {H : Hp} : ∀ (ns : List Int) (xs : List V), DwAll K H xs (ns.map WData.int) → xs = ns.map V.int
  | [], xs, h => by
    cases h
    rfl
  | n :: r, xs, h => by
    cases h with
    | cons h1 h2 =>
      cases h1
      rw [ints_dw r _ h2] <;> rfl
section
variable {P : Program} {w : World} {K : PySem.W.Frag} {H : Hp} {h : Heap} {R : PySem.W.WRecords} {cl : Str → Option Addr}
theorem sqL_at {a : Addr} {xs : List V} (hok : HOk P w H h) (KX : K.In h) (q : SqL K H a xs) : ∃ (its : List Value) (o : Obj) (n : Nat), Vals xs its ∧ h.get? a = some o ∧ o.cls = .type "list" ∧ o.data = .seq its.toArray n := by
  rcases q with q | ⟨o, its, n, e, hc, _, hd, _, hv⟩
  · obtain ⟨_, its, n, hv, e⟩ := (show ObjOk P w H h a (.lst xs) from q.ok hok)
    exact ⟨its, _, n, hv, e, rfl, rfl⟩
  · exact ⟨its.toList, o, n, hv, KX _ _ e, hc, by simp [hd]⟩
theorem sqT_at {a : Addr} {xs : List V} (hok : HOk P w H h) (KX : K.In h) (q : SqT K H a xs) : ∃ (its : List Value) (o : Obj) (n : Nat), Vals xs its ∧ h.get? a = some o ∧ o.cls = .type "tuple" ∧ o.data = .seq its.toArray n := by
  rcases q with q | ⟨o, its, n, e, hc, hd, _, hv⟩
  · obtain ⟨_, its, hv, o, e, hc, n, hd⟩ := (show ObjOk P w H h a (.tup xs) from q.ok hok)
    exact ⟨its, o, n, hv, e, hc, hd⟩
  · exact ⟨its.toList, o, n, hv, KX _ _ e, hc, by simp [hd]⟩
mutual
theorem Dw.reads (hok : HOk P w H h) (KX : K.In h) : ∀ (d : WData) (v : V) (u : Value), Dw K H v d → RelV v u → ∃ as, ReadsW R cl h u d as
  | .none, _, _, x, r => by
    cases x
    cases r
    exact ⟨_, ReadsW.none⟩
  | .bool b, _, _, x, r => by
    cases x
    cases r
    exact ⟨_, ReadsW.bool b⟩
  | .int i, _, _, x, r => by
    cases x
    obtain ⟨t, rfl⟩ := r
    exact ⟨_, ReadsW.int i t⟩
  | .str s, _, _, x, r => by
    cases x
    obtain ⟨t, rfl⟩ := r
    exact ⟨_, ReadsW.str s t⟩
  | .bytes b, _, _, x, r => by
    cases x
    obtain ⟨t, rfl⟩ := r
    exact ⟨_, ReadsW.bytes _ t⟩
  | .list ds, _, _, x, r => by
    cases x with
    | lst hs ha =>
      cases r
      obtain ⟨its, o, n, rv, ho, hc, hd⟩ := sqL_at hok KX hs
      obtain ⟨as, hr⟩ := Dw.readsAll hok KX ds _ its ha rv
      exact ⟨_, ReadsW.list ho hc hd hr⟩
  | .tuple ds, _, _, x, r => by
    cases x with
    | tup hs ha =>
      cases r
      obtain ⟨its, o, n, rv, ho, hc, hd⟩ := sqT_at hok KX hs
      obtain ⟨as, hr⟩ := Dw.readsAll hok KX ds _ its ha rv
      exact ⟨_, ReadsW.tuple ho hc hd hr⟩
  | .float _, _, _, x, _ => by cases x
  | .dict _, _, _, x, _ => by cases x
  | .bytearray _, _, _, x, _ => by cases x
  | .set _, _, _, x, _ => by cases x
  | .frozenset _, _, _, x, _ => by cases x
  | .obj _ _, _, _, x, _ => by cases x
theorem Dw.readsAll (hok : HOk P w H h) (KX : K.In h) : ∀ (ds : List WData) (vs : List V) (us : List Value), DwAll K H vs ds → Vals vs us → ∃ as, ReadsAllW R cl h us ds as
  | [], _, _, x, r => by
    cases x
    cases r
    exact ⟨_, ReadsAllW.nil⟩
  | d :: ds, _, _, x, r => by
    cases x with
    | cons h1 h2 =>
      cases r with
      | cons r1 r2 =>
        obtain ⟨as, q1⟩ := Dw.reads hok KX d _ _ h1 r1
        obtain ⟨bs, q2⟩ := Dw.readsAll hok KX ds _ _ h2 r2
        exact ⟨_, ReadsAllW.cons q1 q2⟩
end
end
mutual
def plW : WData → Bool
  | .none => true
  | .bool _ => true
  | .int _ => true
  | .str _ => true
  | .bytes _ => true
  | .list xs => plWs xs
  | .tuple xs => plWs xs
  | _ => false
def plWs : List WData → Bool
  | [] => true
  | x :: r => plW x && plWs r
end
theorem plWs_map {α : Type} {f : α → WData} (h : ∀ a, plW (f a) = true) : ∀ l : List α, plWs (l.map f) = true
  | [] => rfl
  | x :: r => by
    show (plW (f x) && plWs (r.map f)) = true
    rw [h x, plWs_map h r] <;> rfl
theorem pl_enc : ∀ (c : Codec) (a : c.denote), plW (c.enc a) = true
  | .unit, _ => rfl
  | .bool, _ => rfl
  | .int _ _, _ => rfl
  | .nat _ _, _ => rfl
  | .u8, _ => rfl
  | .bytes _ _, _ => rfl
  | .text _ _ _ _, _ => rfl
  | .list _ _ c, a => plWs_map (fun x => pl_enc c x) a
  | .pair c d, a => by
    show (plW (c.enc a.1) && (plW (d.enc a.2) && true)) = true
    rw [pl_enc c a.1, pl_enc d a.2] <;> rfl
  | .triple c d e, a => by
    show (plW (c.enc a.1) && (plW (d.enc a.2.1) && (plW (e.enc a.2.2) && true))) = true
    rw [pl_enc c a.1, pl_enc d a.2.1, pl_enc e a.2.2] <;> rfl
  | .option c, none => rfl
  | .option c, some x => pl_enc c x
theorem pl_encAll : ∀ (cs : List Codec) (a : Codec.denoteAll cs), plWs (Codec.encAll cs a) = true
  | [], _ => rfl
  | c :: cs, a => by
    show (plW (c.enc a.1) && plWs (Codec.encAll cs a.2)) = true
    rw [pl_enc c a.1, pl_encAll cs a.2] <;> rfl
theorem weight_mem : ∀ {xs : List WData} {d : WData}, d ∈ xs → d.weight ≤ WData.weightAll xs
  | [], d, h => absurd h (by simp)
  | x :: r, d, h => by
    show d.weight ≤ x.weight + 1 + WData.weightAll r
    rcases List.mem_cons.mp h with e | m
    · rw [e]
      omega
    · have z := weight_mem m
      omega
def toV : Value → V
  | .none => .non
  | .bool b => .bl b
  | .int i _ => .int i
  | .str x _ => .str x
  | .bytes b _ => .byt b
  | .ref a => .ref a
  | _ => .non
def OkU (A : List Addr) : Value → Prop
  | .none => True
  | .bool _ => True
  | .int _ _ => True
  | .str _ _ => True
  | .bytes _ _ => True
  | .ref a => a ∈ A
  | _ => False
theorem OkU.mono {A B : List Addr} (h : ∀ a ∈ A, a ∈ B) : ∀ {u : Value}, OkU A u → OkU B u := fun {u} x => by
  cases u with
  | ref a => exact h a x
  | none => trivial
  | bool b => trivial
  | int i t => trivial
  | str s t => trivial
  | bytes b t => trivial
  | _ => exact False.elim x
theorem relV_toV {A : List Addr} {u : Value} (x : OkU A u) : RelV (toV u) u := by
  cases u with
  | ref a => rfl
  | none => rfl
  | bool b => rfl
  | int i t => exact ⟨t, rfl⟩
  | str s t => exact ⟨t, rfl⟩
  | bytes b t => exact ⟨t, rfl⟩
  | _ => exact False.elim x
theorem vals_toV {A : List Addr} : ∀ {vs : List Value}, (∀ u ∈ vs, OkU A u) → Vals (vs.map toV) vs
  | [], _ => .nil
  | u :: r, h => .cons (relV_toV (h u (List.mem_cons_self ..))) (vals_toV fun x hx => h x (List.mem_cons_of_mem _ hx))
def ArgOb (h : Heap) (A : List Addr) (a : Addr) : Prop := ∃ vs : List Value, vs.length ≤ sizeLine ∧ (∀ u ∈ vs, OkU A u) ∧
  (h.get? a = some { cls := .type "list", data := .seq vs.toArray } ∨ h.get? a = some { cls := .type "tuple", data := .seq vs.toArray })
theorem ArgOb.mono {h : Heap} {A B : List Addr} {a : Addr} (k : ∀ a ∈ A, a ∈ B) (x : ArgOb h A a) : ArgOb h B a := by
  obtain ⟨vs, h1, h2, h3⟩ := x
  exact ⟨vs, h1, fun u hu => (h2 u hu).mono k, h3⟩
theorem wellAll_len {P : Params} {h : Heap} : ∀ {vs : List Value} {ds : List WData}, WellAll P h vs ds → vs.length = ds.length
  | _, _, .nil => rfl
  | _, _, .cons _ b => by
    show _ + 1 = _ + 1
    rw [wellAll_len b]
theorem well_list {P : Params} {h : Heap} {v : Value} {ds : List WData} (x : Well P h v (.list ds)) : ∃ (a : Addr) (vs : List Value), v = .ref a ∧ h.get? a = some { cls := .type "list", data := .seq vs.toArray } ∧ WellAll P h vs ds := by
  cases x with
  | list ho hall => exact ⟨_, _, rfl, ho, hall⟩
theorem well_tuple {P : Params} {h : Heap} {v : Value} {ds : List WData} (x : Well P h v (.tuple ds)) : ∃ (a : Addr) (vs : List Value), v = .ref a ∧ h.get? a = some { cls := .type "tuple", data := .seq vs.toArray } ∧ WellAll P h vs ds := by
  cases x with
  | tuple ho hall => exact ⟨_, _, rfl, ho, hall⟩
theorem well_cons {P : Params} {h : Heap} {us : List Value} {d : WData} {ds : List WData} (x : WellAll P h us (d :: ds)) : ∃ (v : Value) (vs : List Value), us = v :: vs ∧ Well P h v d ∧ WellAll P h vs ds := by
  cases x with
  | cons a b => exact ⟨_, _, rfl, a, b⟩
theorem line_of {n : Nat} (h : n ≤ 1048576) : n ≤ sizeLine := Nat.le_trans h (by decide)
section
variable {P : Params} {h : Heap}
mutual
theorem area_one : ∀ (d : WData) (v : Value), Well P h v d → plW d = true → d.weight ≤ 1048576 → ∃ A : List Addr, OkU A v ∧ ∀ a ∈ A, ArgOb h A a
  | .none, _, x, _, _ => by
    cases x
    exact ⟨[], trivial, fun a m => absurd m (by simp)⟩
  | .bool b, _, x, _, _ => by
    cases x
    exact ⟨[], trivial, fun a m => absurd m (by simp)⟩
  | .int i, _, x, _, _ => by
    cases x
    exact ⟨[], trivial, fun a m => absurd m (by simp)⟩
  | .str s, _, x, _, _ => by
    cases x
    exact ⟨[], trivial, fun a m => absurd m (by simp)⟩
  | .bytes b, _, x, _, _ => by
    cases x
    exact ⟨[], trivial, fun a m => absurd m (by simp)⟩
  | .list ds, _, x, p, z => by
    obtain ⟨a, vs, rfl, ho, hall⟩ := well_list x
    have z2 : WData.weightAll ds ≤ 1048576 := z
    obtain ⟨A, h1, h2⟩ := area_all ds _ hall p fun d hd => Nat.le_trans (weight_mem hd) z2
    have k : ∀ b ∈ A, b ∈ a :: A := fun b hb => List.mem_cons_of_mem _ hb
    refine ⟨a :: A, List.mem_cons_self .., fun b hb => ?_⟩
    rcases List.mem_cons.mp hb with e | m
    · rw [e]
      exact ⟨vs, line_of (by rw [wellAll_len hall]; exact Nat.le_trans (PySem.W.length_le_weightAllW ds) z2), fun u hu => (h1 u hu).mono k, .inl ho⟩
    · exact (h2 b m).mono k
  | .tuple ds, _, x, p, z => by
    obtain ⟨a, vs, rfl, ho, hall⟩ := well_tuple x
    have z2 : WData.weightAll ds ≤ 1048576 := z
    obtain ⟨A, h1, h2⟩ := area_all ds _ hall p fun d hd => Nat.le_trans (weight_mem hd) z2
    have k : ∀ b ∈ A, b ∈ a :: A := fun b hb => List.mem_cons_of_mem _ hb
    refine ⟨a :: A, List.mem_cons_self .., fun b hb => ?_⟩
    rcases List.mem_cons.mp hb with e | m
    · rw [e]
      exact ⟨vs, line_of (by rw [wellAll_len hall]; exact Nat.le_trans (PySem.W.length_le_weightAllW ds) z2), fun u hu => (h1 u hu).mono k, .inr ho⟩
    · exact (h2 b m).mono k
  | .float _, _, _, p, _ => Bool.noConfusion (show false = true from p)
  | .dict _, _, _, p, _ => Bool.noConfusion (show false = true from p)
  | .bytearray _, _, _, p, _ => Bool.noConfusion (show false = true from p)
  | .set _, _, _, p, _ => Bool.noConfusion (show false = true from p)
  | .frozenset _, _, _, p, _ => Bool.noConfusion (show false = true from p)
  | .obj _ _, _, _, p, _ => Bool.noConfusion (show false = true from p)
theorem area_all : ∀ (ds : List WData) (vs : List Value), WellAll P h vs ds → plWs ds = true → (∀ d ∈ ds, d.weight ≤ 1048576) → ∃ A : List Addr, (∀ u ∈ vs, OkU A u) ∧ ∀ a ∈ A, ArgOb h A a
  | [], _, x, _, _ => by
    cases x
    exact ⟨[], fun u m => absurd m (by simp), fun a m => absurd m (by simp)⟩
  | d :: ds, _, x, p, z => by
    obtain ⟨v, vs, rfl, x1, x2⟩ := well_cons x
    have q : plW d = true ∧ plWs ds = true := Bool.and_eq_true_iff.mp p
    obtain ⟨A, a1, a2⟩ := area_one d v x1 q.1 (z d (List.mem_cons_self ..))
    obtain ⟨B, b1, b2⟩ := area_all ds vs x2 q.2 fun e he => z e (List.mem_cons_of_mem _ he)
    have kA : ∀ b ∈ A, b ∈ A ++ B := fun b hb => List.mem_append.mpr (.inl hb)
    have kB : ∀ b ∈ B, b ∈ A ++ B := fun b hb => List.mem_append.mpr (.inr hb)
    refine ⟨A ++ B, fun u hu => ?_, fun b hb => ?_⟩
    · rcases List.mem_cons.mp hu with e | m
      · rw [e]
        exact a1.mono kA
      · exact (b1 u m).mono kB
    · rcases List.mem_append.mp hb with m | m
      · exact (a2 b m).mono kA
      · exact (b2 b m).mono kB
end
end
def hoOf (o : Obj) : Option HO := match o.data with
  | .seq vs _ => if (o.cls == Value.type "list") = true then some (.frz o (.lst (vs.toList.map toV))) else some (.frz o (.tup (vs.toList.map toV)))
  | _ => none
def argH (K : PySem.W.Frag) (h : Heap) (A : List Addr) : Hp := fun b => if b ∈ A then (if (K.lookup b).isNone = true then (h.get? b).bind hoOf else none) else none
def OnlyF (H : Hp) : Prop := ∀ b, H b = none ∨ ∃ o u, H b = some (.frz o u)
theorem hoOf_lst (vs : List Value) : hoOf { cls := .type "list", data := .seq vs.toArray } = some (.frz { cls := .type "list", data := .seq vs.toArray } (.lst (vs.map toV))) := by
  show (if (Value.type "list" == Value.type "list") = true then some (HO.frz { cls := .type "list", data := .seq vs.toArray } (.lst (vs.toArray.toList.map toV))) else some (HO.frz { cls := .type "list", data := .seq vs.toArray } (.tup (vs.toArray.toList.map toV)))) = _
  rw [if_pos (beq_self_eq_true _)]
theorem hoOf_tup (vs : List Value) : hoOf { cls := .type "tuple", data := .seq vs.toArray } = some (.frz { cls := .type "tuple", data := .seq vs.toArray } (.tup (vs.map toV))) := by
  show (if (Value.type "tuple" == Value.type "list") = true then some (HO.frz { cls := .type "tuple", data := .seq vs.toArray } (.lst (vs.toArray.toList.map toV))) else some (HO.frz { cls := .type "tuple", data := .seq vs.toArray } (.tup (vs.toArray.toList.map toV)))) = _
  rw [if_neg (by decide)]
section
variable {P : Program} {w : World} {K : PySem.W.Frag} {h : Heap} {A : List Addr}
theorem argH_at {b : Addr} {o : Obj} (hb : b ∈ A) (hk : K.lookup b = none) (e : h.get? b = some o) : argH K h A b = hoOf o := by
  unfold argH
  rw [if_pos hb, hk, if_pos (show (none : Option Obj).isNone = true from rfl), e] <;> rfl
theorem of_argH {b : Addr} {u : HO} (q : argH K h A b = some u) : b ∈ A ∧ K.lookup b = none := by
  unfold argH at q
  by_cases hb : b ∈ A
  · rw [if_pos hb] at q
    cases hk : K.lookup b with
    | none => exact ⟨hb, rfl⟩
    | some o =>
      rw [hk, if_neg (by simp)] at q
      cases q
  · rw [if_neg hb] at q
    cases q
theorem argH_is (ar : ∀ a ∈ A, ArgOb h A a) {b : Addr} {u : HO} (q : argH K h A b = some u) : K.lookup b = none ∧ ∃ vs : List Value, vs.length ≤ sizeLine ∧ (∀ u ∈ vs, OkU A u) ∧
    ((h.get? b = some { cls := .type "list", data := .seq vs.toArray } ∧ u = .frz { cls := .type "list", data := .seq vs.toArray } (.lst (vs.map toV))) ∨
     (h.get? b = some { cls := .type "tuple", data := .seq vs.toArray } ∧ u = .frz { cls := .type "tuple", data := .seq vs.toArray } (.tup (vs.map toV)))) := by
  obtain ⟨hb, hk⟩ := of_argH q
  obtain ⟨vs, h1, h2, h3⟩ := ar b hb
  refine ⟨hk, vs, h1, h2, ?_⟩
  rcases h3 with e | e
  · rw [argH_at hb hk e, hoOf_lst] at q
    exact .inl ⟨e, (Option.some.inj q).symm⟩
  · rw [argH_at hb hk e, hoOf_tup] at q
    exact .inr ⟨e, (Option.some.inj q).symm⟩
theorem argH_only (ar : ∀ a ∈ A, ArgOb h A a) : OnlyF (argH K h A) := fun b => by
  cases q : argH K h A b with
  | none => exact .inl rfl
  | some u =>
    obtain ⟨_, vs, _, _, ⟨_, e⟩ | ⟨_, e⟩⟩ := argH_is ar q
    · exact .inr ⟨_, _, by rw [e]⟩
    · exact .inr ⟨_, _, by rw [e]⟩
theorem argH_ok (ar : ∀ a ∈ A, ArgOb h A a) : HOk P w (argH K h A) h := fun b u q => by
  obtain ⟨_, vs, h1, h2, ⟨e, rfl⟩ | ⟨e, rfl⟩⟩ := argH_is ar q
  · exact ⟨e, by rw [List.length_map]; exact h1, vs, _, vals_toV h2, e⟩
  · exact ⟨e, by rw [List.length_map]; exact h1, vs, vals_toV h2, _, e, rfl, _, rfl⟩
theorem seq_inj {c c' : Value} {vs us : List Value} (e : (some { cls := c, data := .seq vs.toArray } : Option Obj) = some { cls := c', data := .seq us.toArray }) : c = c' ∧ vs = us := by
  have e1 := Option.some.inj e
  have e2 : c = c' := congrArg Obj.cls e1
  have e3 : Data.seq vs.toArray = Data.seq us.toArray := congrArg Obj.data e1
  injection e3 with e4
  refine ⟨e2, ?_⟩
  have e5 := congrArg Array.toList e4
  simpa using e5
theorem argL (KX : K.In h) (ar : ∀ a ∈ A, ArgOb h A a) {a : Addr} {vs : List Value} (ha : a ∈ A) (e : h.get? a = some { cls := .type "list", data := .seq vs.toArray }) : (∀ u ∈ vs, OkU A u) ∧ SqL K (argH K h A) a (vs.map toV) := by
  obtain ⟨us, h1, h2, h3⟩ := ar a ha
  have hu : us = vs := by
    rcases h3 with q | q
    · rw [e] at q
      exact (seq_inj q).2.symm
    · rw [e] at q
      exact absurd (Value.type.inj (seq_inj q).1) (by decide)
  subst hu
  refine ⟨h2, ?_⟩
  cases hk : K.lookup a with
  | none => exact .inl (.inr ⟨_, by rw [argH_at ha hk e, hoOf_lst]⟩)
  | some o =>
    have e2 := KX a o hk
    rw [e] at e2
    obtain rfl := Option.some.inj e2
    exact .inr ⟨_, us.toArray, _, hk, rfl, rfl, rfl, by rw [List.size_toArray]; exact h1, by simpa using vals_toV h2⟩
theorem argT (KX : K.In h) (ar : ∀ a ∈ A, ArgOb h A a) {a : Addr} {vs : List Value} (ha : a ∈ A) (e : h.get? a = some { cls := .type "tuple", data := .seq vs.toArray }) : (∀ u ∈ vs, OkU A u) ∧ SqT K (argH K h A) a (vs.map toV) := by
  obtain ⟨us, h1, h2, h3⟩ := ar a ha
  have hu : us = vs := by
    rcases h3 with q | q
    · rw [e] at q
      exact absurd (Value.type.inj (seq_inj q).1) (by decide)
    · rw [e] at q
      exact (seq_inj q).2.symm
  subst hu
  refine ⟨h2, ?_⟩
  cases hk : K.lookup a with
  | none => exact .inl (.inr ⟨_, by rw [argH_at ha hk e, hoOf_tup]⟩)
  | some o =>
    have e2 := KX a o hk
    rw [e] at e2
    obtain rfl := Option.some.inj e2
    exact .inr ⟨_, us.toArray, _, hk, rfl, rfl, by rw [List.size_toArray]; exact h1, by simpa using vals_toV h2⟩
mutual
theorem dw_one {Pm : Params} (KX : K.In h) (ar : ∀ a ∈ A, ArgOb h A a) : ∀ (d : WData) (v : Value), Well Pm h v d → plW d = true → OkU A v → Dw K (argH K h A) (toV v) d
  | .none, _, x, _, _ => by
    cases x
    exact .non
  | .bool b, _, x, _, _ => by
    cases x
    exact .bl b
  | .int i, _, x, _, _ => by
    cases x
    exact .int i
  | .str s, _, x, _, _ => by
    cases x
    exact .str s
  | .bytes b, _, x, _, _ => by
    cases x
    have z := Dw.byt (K := K) (H := argH K h A) b.toArray
    exact z
  | .list ds, _, x, p, hu => by
    obtain ⟨a, vs, rfl, ho, hall⟩ := well_list x
    obtain ⟨h2, hs⟩ := argL KX ar hu ho
    exact .lst hs (dw_all KX ar ds _ hall p h2)
  | .tuple ds, _, x, p, hu => by
    obtain ⟨a, vs, rfl, ho, hall⟩ := well_tuple x
    obtain ⟨h2, hs⟩ := argT KX ar hu ho
    exact .tup hs (dw_all KX ar ds _ hall p h2)
  | .float _, _, _, p, _ => Bool.noConfusion (show false = true from p)
  | .dict _, _, _, p, _ => Bool.noConfusion (show false = true from p)
  | .bytearray _, _, _, p, _ => Bool.noConfusion (show false = true from p)
  | .set _, _, _, p, _ => Bool.noConfusion (show false = true from p)
  | .frozenset _, _, _, p, _ => Bool.noConfusion (show false = true from p)
  | .obj _ _, _, _, p, _ => Bool.noConfusion (show false = true from p)
theorem dw_all {Pm : Params} (KX : K.In h) (ar : ∀ a ∈ A, ArgOb h A a) : ∀ (ds : List WData) (vs : List Value), WellAll Pm h vs ds → plWs ds = true → (∀ u ∈ vs, OkU A u) → DwAll K (argH K h A) (vs.map toV) ds
  | [], _, x, _, _ => by
    cases x
    exact .nil
  | d :: ds, _, x, p, hu => by
    obtain ⟨v, vs, rfl, x1, x2⟩ := well_cons x
    have q : plW d = true ∧ plWs ds = true := Bool.and_eq_true_iff.mp p
    exact .cons (dw_one KX ar d v x1 q.1 (hu _ (List.mem_cons_self ..))) (dw_all KX ar ds vs x2 q.2 fun u m => hu u (List.mem_cons_of_mem _ m))
end
end
theorem spec_call {P : Program} {w : World} {K : PySem.W.Frag} {mg mb : Str → Option Value} {CX : CXT} {k : Nat} {fa : Addr} {fd : FuncData} {ps : List Str} {sp : Sp} {s₁ : Shared} {vals : List Value} {ds : List WData} {R : PySem.W.WRecords} {cl : Str → Option Addr} {d0 : WData}
    (KX : K.In s₁.heap) (hns : s₁.heap.Ns mainGlobals mg) (hb : s₁.heap.Ns builtinsNs mb) (hbb : ∀ x : Str, x ≠ "__name__" → mb x = bootBuiltins x) (hlim : s₁.heap.NoLimit) (hg : s₁.gens = #[])
    (hwl : WellAll w.params s₁.heap vals ds) (hpl : plWs ds = true) (hwt : ∀ d ∈ ds, d.weight ≤ 1048576) (hr : Room k callerA)
    (F : ∀ base : Heap, K.In base → base.Ns mainGlobals mg → FnOk P w K mg base CX k fa fd ps sp) (hbind : ∀ (s : Shared) (us : List Value), us.length = ps.length → BindsTo s fd ⟨us, []⟩ (ps.zip us)) (hlen : ds.length = ps.length)
    (hsp : ∀ (H : Hp) (xs : List V), OnlyF H → DwAll K H xs ds → sp xs H (fun v H' => Dw K H' v d0) fun _ _ _ => False)
    (hCX : ∀ H e s', CX [] H s₁ (fun _ _ _ => False) e s' → False) :
    codeAny (model P w) callerA (.call (.ref fa) ⟨vals, []⟩) (fun r s' => ∃ u as, r = .ok (.ret u) ∧ ReadsW R cl s'.heap u d0 as ∧ OldK s₁.heap s'.heap ∧ s'.os = s₁.os ∧ AllBare s'.gens) s₁ := by
  obtain ⟨A, ho, ar⟩ := area_all ds vals hwl hpl hwt
  have hO : OnlyF (argH K s₁.heap A) := argH_only ar
  have hok : HOk P w (argH K s₁.heap A) s₁.heap := argH_ok ar
  have hS := dw_all KX ar ds vals hwl hpl ho
  have hV := vals_toV ho
  have hK : ∀ b u, argH K s₁.heap A b = some u → K.lookup b = none := fun b u q => (argH_is ar q).1
  have noA : ∀ {b : Addr} {o : Obj} {es : Array DictEntry} {ep : Nat}, s₁.heap.get? b = some o → o.data = .dict es ep → argH K s₁.heap A b = none := fun {b o es ep} e d => by
    cases q : argH K s₁.heap A b with
    | none => rfl
    | some u =>
      obtain ⟨_, vs, _, _, ⟨e2, _⟩ | ⟨e2, _⟩⟩ := argH_is ar q
      · rw [e2] at e
        cases e
        have d' : Data.seq vs.toArray _ = Data.dict es ep := d
        cases d'
      · rw [e2] at e
        cases e
        have d' : Data.seq vs.toArray _ = Data.dict es ep := d
        cases d'
  generalize argH K s₁.heap A = H at hO hok hS hK noA
  have base_of : ∀ {b : Addr} {o : Obj}, s₁.heap.get? b = some o → H b = none → (hidT s₁.heap H).get? b = some o := fun e n => hidT_get e n
  have nsK : ∀ {b : Addr} {m : Str → Option Value}, s₁.heap.Ns b m → (hidT s₁.heap H).Ns b m := fun {b m} ⟨o, es, ep, e, d, r⟩ => ⟨o, es, ep, base_of e (noA e d), d, r⟩
  have nK : ∀ b o, K.lookup b = some o → H b = none := fun b o e => by
    cases q : H b with
    | none => rfl
    | some u =>
      rw [hK b u q] at e
      cases e
  have hKb : K.In (hidT s₁.heap H) := fun b o e => base_of (KX b o e) (nK b o e)
  have hM : Mod K mg (hidT s₁.heap H) := ⟨hKb, nsK hns, ⟨mb, nsK hb, hbb⟩, let ⟨mc, h1, h2⟩ := hlim; ⟨mc, nsK h1, h2⟩⟩
  have e0 : Env0 P w K mg (hidT s₁.heap H) callerA [] s₁ H := ⟨rfl, hM, fun b o e => of_hidT e, Nat.le_of_eq (hidT_size _ _), trivial, fun b hb => absurd (show b ∈ ([] : List Addr) from hb) (by simp), hok, .of_eq hg⟩
  have hl : vals.length = ps.length := by rw [wellAll_len hwl]; exact hlen
  refine codeAny_mono ((F _ hKb (nsK hns)).run callerA [] s₁ H ⟨vals, []⟩ vals (vals.map toV) _ _ hr e0 (hbind s₁ vals hl) hV (hsp H _ hO hS)) fun r s' x => ?_
  cases r with
  | error e => exact (hCX H e s' x).elim
  | ok fl =>
    cases fl with
    | next => exact False.elim x
    | brk => exact False.elim x
    | cont => exact False.elim x
    | ret u =>
      obtain ⟨v, H', os, bare, un, hok', r', q⟩ := x
      have kept : ∀ b o, s₁.heap.get? b = some o → s'.heap.get? b = some o := fun b o e => by
        cases q2 : H b with
        | none => exact un.keep b o e q2 (by intro z; exact absurd (show b ∈ ([] : List Addr) from z) (by simp)) (by simp)
        | some u2 =>
          rcases hO b with z | ⟨ob, u3, z⟩
          · rw [q2] at z
            cases z
          · have z2 := un.frzs b ob _ z
            obtain ⟨e1, _⟩ := hok b _ z
            obtain ⟨e2, _⟩ := hok' b _ z2
            rw [e] at e1
            cases e1
            exact e2
      have KX' : K.In s'.heap := fun b o e => kept b o (KX b o e)
      obtain ⟨as, hrd⟩ := Dw.reads (R := R) (cl := cl) hok' KX' d0 v u q r'
      exact ⟨u, as, rfl, hrd, OldK.of_keep kept, os, bare⟩
theorem layable_weight {ds : List WData} (h : WData.layableAll ds = true) : ∀ d ∈ ds, d.weight ≤ 1048576 := fun d hd =>
  (PySem.W.layableW_iff.mp (List.all_eq_true.mp h d hd)).2.2
theorem encAll_len : ∀ (cs : List Codec) (a : Codec.denoteAll cs), (Codec.encAll cs a).length = cs.length
  | [], _ => rfl
  | c :: cs, a => by
    show (Codec.encAll cs a.2).length + 1 = cs.length + 1
    rw [encAll_len cs a.2]
theorem walk_spec {r : OpenSpec} {k : Nat} {q : Program} {loose : List Str} {XP : (Str → Option Value) → Heap → Prop} {YP : World → Heap → Prop} {d : DefRec} {K : Params → PySem.W.Frag} {CX : World → CXT} {ps : List Str} {sp : World → Sp}
    (hwell : r.wellSaid = true) (hdf : d.params.defaults = []) (hlen : r.args.length = ps.length) (hr : Room k callerA)
    (hY : ∀ (w : World) (h : Heap), YP w h → (K w.params).In h)
    (F : ∀ (w : World) (mg : Str → Option Value) (fa : Addr) (h : Heap), YP w h → (K w.params).In h → h.Ns mainGlobals mg → mg d.name = some (.ref fa) →
      ∃ fd : FuncData, (∀ (s : Shared) (us : List Value), us.length = ps.length → BindsTo s fd ⟨us, []⟩ (ps.zip us)) ∧
        ∀ base : Heap, (K w.params).In base → base.Ns mainGlobals mg → FnOk r.prog w (K w.params) mg base (CX w) k fa fd ps (sp w))
    (hsp : ∀ (w : World) (H : Hp) (xs : List V) (a : Codec.denoteAll r.args), OnlyF H → Codec.withinAll r.args a = true → Codec.app r.args r.asked a = true → DwAll (K w.params) H xs (Codec.encAll r.args a) →
      sp w xs H (fun v H' => Dw (K w.params) H' v (r.ret.enc (Codec.app r.args r.f a))) fun _ _ _ => False)
    (hCX : ∀ (w : World) (H : Hp) (s : Shared) (e : Value) (s' : Shared), CX w [] H s (fun _ _ _ => False) e s' → False) :
    PySem.W.WalkOS q loose XP YP r d [] (fun f vs => PySem.call f vs) := by
  intro w s_0 s₁ mg mb G Y fa o pm cd doc dV kV ho hd hcd hD hmg hg args vals as hpre hlay hrd hwl hlo
  obtain ⟨a, e1, e2⟩ := PySem.W.os_pre_some hpre
  obtain ⟨e3, hwi⟩ := Codec.encAll_of_decAll r.args args a e1
  subst e3
  have KX := hY w _ Y
  obtain ⟨fd, hb, hF⟩ := F w mg fa _ Y KX G.T.g hmg
  refine PySem.W.enter_call (codeAny_mono (spec_call (R := []) (cl := classAt s_0.heap) (d0 := r.ret.enc (Codec.app r.args r.f a)) KX G.T.g G.T.b G.T.builtins G.T.nolimit hg hwl (pl_encAll _ _) (layable_weight hlay) hr hF hb (by rw [encAll_len]; exact hlen)
    (fun H xs hO hS => hsp w H xs a hO hwi e2 hS) fun H e s' => hCX w H s₁ e s') fun r' s' hq => ?_)
  obtain ⟨u, as', rfl, h1, h2, h3, h4⟩ := hq
  exact ⟨.inl ⟨u, _, as', rfl, fun _ => rfl, h1, (OpenSpec.post_iff hwell hwi _ _).mpr rfl, fun z => Bool.noConfusion (show false = true from z)⟩, h2, h3, h4⟩
theorem walk_specK {r : OpenSpec} {k : Nat} {q : Program} {loose : List Str} {XP : (Str → Option Value) → Heap → Prop} {YP : World → Heap → Prop} {d : DefRec} {K : Params → PySem.W.Frag} {CX : CXT} {ps : List Str} {sp : PySem.W.Frag → Sp}
    (hwell : r.wellSaid = true) (hdf : d.params.defaults = []) (hlen : r.args.length = ps.length) (hr : Room k callerA)
    (hY : ∀ (w : World) (h : Heap), YP w h → (K w.params).In h)
    (F : ∀ (w : World) (mg : Str → Option Value) (fa : Addr) (h : Heap), YP w h → (K w.params).In h → h.Ns mainGlobals mg → mg d.name = some (.ref fa) →
      ∃ fd : FuncData, (∀ (s : Shared) (us : List Value), us.length = ps.length → BindsTo s fd ⟨us, []⟩ (ps.zip us)) ∧
        ∀ base : Heap, (K w.params).In base → base.Ns mainGlobals mg → FnOk r.prog w (K w.params) mg base CX k fa fd ps (sp (K w.params)))
    (hsp : ∀ (K : PySem.W.Frag) (H : Hp) (xs : List V) (a : Codec.denoteAll r.args), OnlyF H → Codec.withinAll r.args a = true → Codec.app r.args r.asked a = true → DwAll K H xs (Codec.encAll r.args a) →
      sp K xs H (fun v H' => Dw K H' v (r.ret.enc (Codec.app r.args r.f a))) fun _ _ _ => False)
    (hCX : ∀ (H : Hp) (s : Shared) (e : Value) (s' : Shared), CX [] H s (fun _ _ _ => False) e s' → False) :
    PySem.W.WalkOS q loose XP YP r d [] (fun f vs => PySem.call f vs) :=
  walk_spec (K := K) (CX := fun _ => CX) (sp := fun w => sp (K w.params)) hwell hdf hlen hr hY F (fun w H xs a h1 h2 h3 h4 => hsp (K w.params) H xs a h1 h2 h3 h4) fun _ H s e s' => hCX H s e s'
end L2
end
namespace XL
open PySem
def XAt (h : Heap) (e : Addr) (cls : Value) (dx : Option Addr) (t : Option (Addr × Value)) : Prop :=
  ∃ oe vs, h.get? e = some oe ∧ oe.cls = cls ∧ oe.dict = dx ∧ oe.data = .fields vs ∧
    match t with
    | none => vs[1]? = some .none
    | some (T, fl) => vs[1]? = some (.ref T) ∧ T ≠ e ∧ ∃ oT ts, h.get? T = some oT ∧ oT.data = .fields ts ∧ ts[3]? = some fl
def heads (e : Addr) (t : Option (Addr × Value)) : List Addr := match t with
  | none => [e]
  | some (T, _) => [e, T]
theorem mem_heads {e : Addr} {t : Option (Addr × Value)} : e ∈ heads e t := by cases t <;> simp [heads]
theorem dict_mapFields (o : Obj) (f : Array Value → Array Value) : (o.mapFields f).dict = o.dict := by
  obtain ⟨c, d, dt, sl⟩ := o
  cases dt <;> rfl
theorem XAt.rec {h : Heap} {e : Addr} {cls : Value} {dx : Option Addr} {t : Option (Addr × Value)} (x : XAt h e cls dx t) : ∀ b ∈ heads e t, ∃ o ws, h.get? b = some o ∧ o.data = .fields ws := by
  obtain ⟨oe, vs, he, _, _, hd, r⟩ := x
  intro b hb
  cases t with
  | none => rw [show b = e by simpa [heads] using hb]; exact ⟨oe, vs, he, hd⟩
  | some p =>
    obtain ⟨_, _, oT, ts, hT, hdT, _⟩ := r
    rcases (show b = e ∨ b = p.1 by simpa [heads] using hb) with q | q
    · rw [q]; exact ⟨oe, vs, he, hd⟩
    · rw [q]; exact ⟨oT, ts, hT, hdT⟩
structure Noted (fr ch : List Addr) (h h' : Heap) : Prop where
  keep : ∀ b o, b ∉ fr → b ∉ ch → h.get? b = some o → h'.get? b = some o
  slot : ∀ b o, b ∈ fr → h.get? b = some o → ∃ sl, h'.get? b = some { o with slots := sl }
  there : ∀ b o, h.get? b = some o → ∃ o', h'.get? b = some o'
  size : h.objs.size ≤ h'.objs.size
theorem Noted.refl {fr ch : List Addr} {h : Heap} : Noted fr ch h h := ⟨fun _ _ _ _ e => e, fun _ o _ e => ⟨o.slots, e⟩, fun _ o e => ⟨o, e⟩, Nat.le_refl _⟩
theorem set_other {h : Heap} {a b : Addr} (f : Obj → Obj) (n : b ≠ a) : (h.update a f).get? b = h.get? b := Heap.get?_update_other _ _ fun q => n q.symm
theorem set_self {h : Heap} {a : Addr} {o : Obj} {ws : Array Value} (ho : h.get? a = some o) (hw : o.data = .fields ws) (i : Nat) (v : Value) :
    (h.update a (Obj.mapFields (·.setIfInBounds i v))).get? a = some (o.mapFields (·.setIfInBounds i v)) := Heap.get?_update_self _ ho (Obj.isFreed_of_fields (Obj.data_mapFields hw _))
theorem hang {h : Heap} {e : Addr} {oe ob : Obj} {vs ts : Array Value} {fl : Value} (he : h.get? e = some oe) (hd : oe.data = .fields vs) (n1 : 1 < vs.size) (hb : ob.data = .fields ts) (h3 : ts[3]? = some fl) :
    XAt ((h.push ob).update e (Obj.mapFields (·.setIfInBounds 1 (.ref h.objs.size)))) e oe.cls oe.dict (some (h.objs.size, fl)) ∧
      (∀ b o, b ≠ e → h.get? b = some o → ((h.push ob).update e (Obj.mapFields (·.setIfInBounds 1 (.ref h.objs.size)))).get? b = some o) := by
  have up : ∀ b o, h.get? b = some o → (h.push ob).get? b = some o := fun b o q => Heap.get?_push_of_some ob q
  have ne : h.objs.size ≠ e := Nat.ne_of_gt (Heap.lt_size he)
  have nf : ob.isFreed = false := Obj.isFreed_of_fields hb
  refine ⟨⟨_, _, set_self (up e oe he) hd 1 _, Obj.cls_mapFields _ _, dict_mapFields _ _, Obj.data_mapFields hd _, by simp [n1], ne, ob, ts, ?_, hb, h3⟩, fun b o q z => ?_⟩
  · rw [set_other _ ne]
    exact Heap.get?_push_size h nf
  · rw [set_other _ q]
    exact up b o z
section
variable {M : Model} {A : Around} {E : Value → Shared → Prop} {s : Shared}
theorem entry_at {base : Heap} {env : Env} {outer : List Env} {L e : Addr} {oe : Obj} {vs : Array Value} {head : Value} {more : Bool} {Q : Unit → Shared → Prop}
    (fr : A.frames = some (env :: outer)) (ff : s.heap.FunFrames base (env :: outer)) (lf : env.frame = some L) (he : s.heap.get? e = some oe) (hd : oe.data = .fields vs) (n1 : 1 < vs.size)
    (k : ∀ h' T, XAt h' e oe.cls oe.dict (some (T, rawInt L)) → s.heap.objs.size ≤ T → Noted ((env :: outer).filterMap (·.frame)) [e] s.heap h' → Q () { s with heap := h' }) :
    wpAny M A (do let a ← frameOf env; let pl ← entryPlaceOf L more; let b ← EntryCells.newEntry head a .none (rawInt L) .none pl; setField (.ref e) 1 b) Q E s := by
  have ef : e ∉ (env :: outer).filterMap (·.frame) := fun m => let ⟨_, o, ho, no⟩ := ff.mem m; no vs (by rw [he] at ho; cases ho; exact hd)
  refine wpAny_bind (wpAny_frameOf_fun fr ff lf fun g sg => wpAny_bind (wpAny_entryPlaceOf fun pl ip => ?_))
  have ge : g.get? e = some oe := by rw [sg.2.1 e ef]; exact he
  unfold EntryCells.newEntry newFields
  refine wpAny_bind (wpAny_newObj_type ?_ (ip.sizeOk5 _ _ _ _ _))
  refine wpAny_setField (Heap.get?_push_of_some _ ge) hd n1 ?_
  obtain ⟨x, kp⟩ := hang (fl := rawInt L) (ob := { cls := .type "traceback", dict := none, data := .fields ([head, .ref L, .none, rawInt L, .none] ++ (if pl.isEmpty then List.replicate 6 Value.none else pl)).toArray }) ge hd n1 rfl (by simp)
  refine k _ _ x (by rw [sg.1]; exact Nat.le_refl _) ⟨fun b o hb hc ho => kp b o (fun q => hc (by simp [q])) (by rw [sg.2.1 b hb]; exact ho), fun b o hb ho => ?_, fun b o ho => ?_, ?_⟩
  · obtain ⟨sl, q⟩ := sg.2.2 b o ho
    exact ⟨sl, kp b _ (fun z => ef (z ▸ hb)) q⟩
  · by_cases z : b = e
    · obtain ⟨ox, _, q, _⟩ := x
      exact ⟨ox, z ▸ q⟩
    · obtain ⟨sl, q⟩ := sg.2.2 b o ho
      exact ⟨_, kp b _ z q⟩
  · rw [Heap.size_after_update, Heap.size_push, sg.1]
    exact Nat.le_succ _
theorem note_at {base : Heap} {env : Env} {outer : List Env} {L e : Addr} {cls : Value} {dx : Option Addr} {t : Option (Addr × Value)} {Q : Unit → Shared → Prop}
    (fr : A.frames = some (env :: outer)) (ff : s.heap.FunFrames base (env :: outer)) (lf : env.frame = some L) (hx : XAt s.heap e cls dx t) (hfl : ∀ T fl, t = some (T, fl) → fl = .none ∨ fl = rawInt L)
    (k : ∀ h' T, XAt h' e cls dx (some (T, rawInt L)) → (T ∈ heads e t ∨ s.heap.objs.size ≤ T) → Noted ((env :: outer).filterMap (·.frame)) (heads e t) s.heap h' → Q () { s with heap := h' }) :
    wpAny M A (noteFrame (.ref e) env) Q E s := by
  have rc := hx.rec
  obtain ⟨oe, vs, he, rfl, rfl, hd, r⟩ := id hx
  unfold noteFrame
  simp only [lf]
  cases t with
  | none =>
    refine wpAny_bind (wpAny_field he hd r ?_)
    rw [if_neg (by decide)]
    exact entry_at fr ff lf he hd (Array.getElem?_eq_some_iff.mp r).1 fun h' T x1 x2 x3 => k h' T x1 (.inr x2) x3
  | some p =>
    obtain ⟨T, fl⟩ := p
    obtain ⟨h1, hTe, oT, ts, hT, hdT, h3⟩ := r
    have l3 := (Array.getElem?_eq_some_iff.mp h3).1
    refine wpAny_bind (wpAny_field he hd h1 ?_)
    rw [if_pos (by simp)]
    refine wpAny_bind (wpAny_field hT hdT h3 ?_)
    rcases hfl T fl rfl with rfl | rfl
    · rw [if_neg (by simp [rawInt])]
      refine wpAny_bind (wpAny_setField hT hdT l3 ?_)
      have off : ∀ b o, s.heap.get? b = some o → b ≠ T → (s.heap.update T (Obj.mapFields (·.setIfInBounds 3 Value.none))).get? b = some o := fun b o q n => by rw [set_other _ n]; exact q
      have noT : ∀ b o, s.heap.get? b = some o → (∀ ws, o.data ≠ .fields ws) → b ≠ T := fun b o q n z => n ts (by rw [z, hT] at q; cases q; exact hdT)
      have fT : T ∉ (env :: outer).filterMap (·.frame) := fun m => let ⟨_, o, ho, no⟩ := ff.mem m; noT T o ho no rfl
      refine entry_at (s := { s with heap := s.heap.update T (Obj.mapFields (·.setIfInBounds 3 Value.none)) }) fr (ff.of_keeps fun b o q n => ⟨o, off b o q (noT b o q n), rfl⟩) lf (off e oe he (Ne.symm hTe)) hd (Array.getElem?_eq_some_iff.mp h1).1 fun h' T' x1 x2 x3 => ?_
      have x2 : s.heap.objs.size ≤ T' := by rw [Heap.size_after_update] at x2; exact x2
      have x4 : s.heap.objs.size ≤ h'.objs.size := by have := x3.size; rw [Heap.size_after_update] at this; exact this
      refine k h' T' x1 (.inr x2) ⟨fun b o hb hc ho => ?_, fun b o hb ho => ?_, fun b o ho => ?_, x4⟩
      · have hc : b ≠ e ∧ b ≠ T := by simpa [heads] using hc
        exact x3.keep b o hb (by simpa using hc.1) (off b o ho hc.2)
      · exact x3.slot b o hb (off b o ho fun z => fT (z ▸ hb))
      · by_cases z : b = T
        · rw [z]; exact x3.there T _ (set_self hT hdT 3 _)
        · exact x3.there b o (off b o ho z)
    · rw [if_pos (by simp)]
      exact wpAny_pure (k s.heap T hx (.inl (by simp [heads])) .refl)
theorem flight_at {e T : Addr} {cls fl : Value} {dx : Option Addr} {fr : Option Addr} {Q : Unit → Shared → Prop} (hx : XAt s.heap e cls dx (some (T, fl)))
    (k : ∀ h', XAt h' e cls dx (some (T, fr.elim Value.none fun f => rawInt f)) → (∀ b, b ≠ T → h'.get? b = s.heap.get? b) → h'.objs.size = s.heap.objs.size → (∃ o, h'.get? T = some o) → Q () { s with heap := h' }) :
    wpAny M A (setFlight (.ref e) fr) Q E s := by
  obtain ⟨oe, vs, he, hc, hx, hd, h1, hTe, oT, ts, hT, hdT, h3⟩ := hx
  have l3 := (Array.getElem?_eq_some_iff.mp h3).1
  have me := set_self hT hdT 3 (fr.elim Value.none fun f => rawInt f)
  unfold setFlight
  refine wpAny_bind (wpAny_field he hd h1 ?_)
  rw [if_pos (by simp)]
  refine wpAny_setField hT hdT l3 (k _ ⟨oe, vs, ?_, hc, hx, hd, h1, hTe, _, _, me, Obj.data_mapFields hdT _, by simp [l3]⟩ (fun b n => set_other _ n) (Heap.size_after_update ..) ⟨_, me⟩)
  rw [set_other _ (Ne.symm hTe)]
  exact he
end
end XL
namespace XL
open PySem
section
variable {M : Model} {A : Around} {E : Value → Shared → Prop} {env : Env}
variable {nm q : Str} {C N : Addr} {bs bm : List Value} {hdct : Bool} {sn : List Str} {sub : List Value} {ab : Bool} {col : Option Bool} {dd : Option Addr} {k0 k1 k2 k3 k5 : Option Value} {newId : String}
theorem raise_exc {s : Shared} {x : Sem Value} {Q : Flow → Shared → Prop} (isB : bm.contains (.type "BaseException") = true) (calm : A.handled = none)
    (k : wpAny M A x (fun v s' => ∃ e t dx sl, v = .ref e ∧ s'.heap.get? C = some (excClassObj nm q C N bs bm hdct sn sub ab col dd k0 k1 k2 k3 k5 newId) ∧
      s'.heap.get? e = some ⟨.ref C, dx, .fields #[.ref t, .none, .none, .none, .bool false, .none], sl⟩ ∧ E (.ref e) s') E s) : wpAny M A (raiseStmt env (some x) none) Q E s := by
  have up : (Value.ref C :: bm).contains (.type "BaseException") = true := by simp only [List.contains_cons, isB, Bool.or_true]
  unfold raiseStmt
  refine wpAny_bind (wpAny_mono k ?_ fun _ _ z => z)
  rintro v ⟨hp, gs, dr, tk, os⟩ ⟨e, t, dx, sl, rfl, cC, ce, last⟩
  repeat (first | (with_reducible refine wpAny_isSubtype_exc cC ?_; rw [up]) | with_reducible refine wpAny_loadPart_at cC ?_ | with_reducible refine wpAny_loadPart_at ce ?_ | wp_step)
  exact wpAny_raiseNew_none calm last
end
end XL
namespace XL
open PySem
open Builtin Builtin.ObjectAttr
abbrev excTail : List Value := [.type "Exception", .type "BaseException", .type "object"]
section
variable {prog : Program} {w : World} {A : Around} {E : Value → Shared → Prop} {h : Heap} {g : Array GenState} {d : Drawn} {t : Nat} {os : OsState}
variable {nm q : Str} {C N x : Addr} {bs : List Value} {sn : List Str} {sub : List Value} {ab : Bool} {col : Option Bool} {dd : Option Addr} {k0 k1 k2 k3 k5 : Option Value} {newId : String}
  {mN mA : Str → Option Value} {name : Str} {v : Value}
theorem own_got {tk : Tok} {Q : Fin → Shared → Prop} (cC : h.get? C = some (excClassObj nm q C N bs excTail true sn sub ab col dd k0 k1 k2 k3 k5 newId)) (cN : h.Ns N mN) (no : mN name = none)
    (noB : typeLookup (.type "Exception") name = pure none) (I : h.Inst x C mA) (hv : mA name = some v) (k : Q (.done (.ret v)) ⟨h, g, d, t, os⟩) :
    wpAny (model prog w) A (Builtin.«object.__getattribute__» ⟨[.ref x, .str name tk], []⟩) Q E ⟨h, g, d, t, os⟩ := by
  obtain ⟨o, cx, oC, nocls, ⟨_, z⟩ | ⟨dx, odx, _, at_⟩⟩ := I
  · exact absurd hv (by simp [z])
  · unfold Builtin.«object.__getattribute__»
    repeat (first | (refine wpAny_typeLookup_exc cC cN PySem.F.excBase_Exception.mroIs noB ?_; rw [no]) | (with_reducible refine wpAny_loadPart_at cx ?_; rw [oC]) | wp_step)
    split
    · exact absurd (by assumption) (nocls _)
    · unfold instanceDict
      repeat (first | with_reducible refine wpAny_loadPart_at cC ?_ | (with_reducible refine wpAny_loadPart_at cx ?_; rw [oC]) | wp_step)
      rw [odx]
      repeat (first | (with_reducible refine wpAny_nsGet at_.ns ?_; rw [hv]) | wp_step)
      exact k
theorem exc_attr {expr : Bool} {Q : Value → Shared → Prop} (cC : h.get? C = some (excClassObj nm q C N bs excTail true sn sub ab col dd k0 k1 k2 k3 k5 newId)) (cN : h.Ns N mN)
    (n1 : mN "__getattribute__" = none) (n2 : mN "__getattr__" = none) (no : mN name = none) (noB : typeLookup (.type "Exception") name = pure none) (I : h.Inst x C mA) (hv : mA name = some v) (hh : handedOut v = pure v)
    (k : Q v ⟨h, g, d, t + 1, os⟩) : wpAny (model prog w) A (getAttr (.ref x) name expr) Q E ⟨h, g, d, t, os⟩ := by
  obtain ⟨o, cx, oC, _⟩ := id I
  have bd := PySem.F.attr_Exception.ga.bind (.ref x)
  have e0 : (expr && onTheHeap (Value.builtin "BaseException.__getattribute__")) = false := by cases expr <;> rfl
  unfold getAttr getAttrBy
  repeat (first | (with_reducible refine wpAny_typeLookup_exc cC cN PySem.F.excBase_Exception.mroIs PySem.F.attr_Exception.ga.lookup ?_; rw [n1]) | (with_reducible refine wpAny_loadPart_at cx ?_; rw [oC]) | wp_step)
  repeat (first | (with_reducible refine wpAny_typeLookup_exc cC cN PySem.F.excBase_Exception.mroIs PySem.F.attrBase_Exception.noGetattr ?_; rw [n2]) | wp_step)
  refine codeAny_call_builtin PySem.F.attr_Exception.ga.plain F.entry_bexc_ga (wpAny_check_ga_own PySem.F.attrBase_Exception cC .base cx oC (own_got cC cN no noB I hv ?_))
  show wpAny _ _ (handedOut v) _ _ _
  rw [hh]
  exact wpAny_pure k
theorem first_store {tk : Tok} {o : Obj} {Q : Fin → Shared → Prop} (cC : h.get? C = some (excClassObj nm q C N bs excTail true sn sub ab col dd k0 k1 k2 k3 k5 newId)) (cN : h.Ns N mN) (no : mN name = none)
    (noB : typeLookup (.type "Exception") name = pure none) (cx : h.get? x = some o) (oC : o.cls = .ref C) (nocls : ∀ c, o.data ≠ .cls c) (od : o.dict = none)
    (k : ∀ h' tk', h'.get? x = some { o with dict := some h.objs.size } → h'.Ns1 h.objs.size (fun y => if y = name then some v else none) → (∀ b u, b ≠ x → h.get? b = some u → h'.get? b = some u) → Q (.done (.ret .none)) ⟨h', g, d, tk', os⟩) :
    wpAny (model prog w) A (Builtin.«object.__setattr__» ⟨[.ref x, .str name tk, v], []⟩) Q E ⟨h, g, d, t, os⟩ := by
  have ok := PySem.F.store_Exception.passes (.ref x)
  have nx : h.objs.size ≠ x := Nat.ne_of_gt (Heap.lt_size cx)
  have ou : ({ o with dict := some h.objs.size } : Obj).isFreed = false := by
    have z := (Heap.get?_some_iff.mp cx).2
    obtain ⟨c, dc, dt, sl⟩ := o
    cases dt <;> first | rfl | exact z
  unfold Builtin.«object.__setattr__»
  repeat (first | (rw [refuseLoop_ref, ok]) | rw [refuse_eq] | (refine wpAny_typeLookup_exc cC cN PySem.F.store_Exception.mro noB ?_; rw [no]) | with_reducible refine wpAny_mroOf_exc cC ?_ | (with_reducible refine wpAny_loadPart_at cx ?_; rw [oC]) | wp_step)
  rw [od, if_neg (by simp [typeHasDict])]
  split
  · exact absurd (by assumption) (by intro q; cases q)
  · split
    · exact absurd (by assumption) (nocls _)
    · refine wpAny_bind (wpAny_alloc' (wpAny_bind (wpAny_update' (Heap.get?_push_of_some _ cx) (wpAny_pure ?_))))
      show wpAny _ _ (storeInDict h.objs.size (.str name tk) name v) _ _ _
      unfold storeInDict newKeyGuard
      have em : ((h.push { cls := .type "dict", data := .dict #[] }).update x fun o => { cls := o.cls, dict := some h.objs.size, data := o.data, slots := o.slots }).Ns h.objs.size (fun _ => none) := by
        refine ⟨{ cls := .type "dict", data := .dict #[] }, #[], _, ?_, rfl, fun e he => absurd he (by simp), fun _ => rfl⟩
        rw [set_other _ nx]
        exact Heap.get?_push_size h rfl
      refine wpAny_bind (wpAny_pure (wpAny_bind (wpAny_nsSet1 (Heap.Ns1.of_empty em) fun h' n' sb => ?_)))
      obtain ⟨oD, esD, epD, aD, dD, cD⟩ := n'.count (Within.cons name v Within.nil)
      refine wpAny_bind (wpAny_lookBehind aD (by rw [dD]; exact pastItsLine_dict (Nat.le_trans cD (by rw [sizeLine_eq]; simp))) ?_)
      wp_walk
      refine k h' _ ?_ n' fun b u n z => ?_
      · rw [sb.2 x (Ne.symm nx)]
        exact Heap.get?_update_self _ (Heap.get?_push_of_some _ cx) ou
      · rw [sb.2 b (Nat.ne_of_lt (Heap.lt_size z)), set_other _ n]
        exact Heap.get?_push_of_some _ z
theorem first_call {tk : Tok} {o : Obj} {sa owner : String} {R : Result → Shared → Prop} (SF : StoreFacts "Exception" excTail sa owner) (cC : h.get? C = some (excClassObj nm q C N bs excTail true sn sub ab col dd k0 k1 k2 k3 k5 newId)) (cN : h.Ns N mN) (no : mN name = none)
    (noB : typeLookup (.type "Exception") name = pure none) (cx : h.get? x = some o) (oC : o.cls = .ref C) (nocls : ∀ c, o.data ≠ .cls c) (od : o.dict = none)
    (k : ∀ h' tk', h'.get? x = some { o with dict := some h.objs.size } → h'.Ns1 h.objs.size (fun y => if y = name then some v else none) → (∀ b u, b ≠ x → h.get? b = some u → h'.get? b = some u) → R (.ok (.ret .none)) ⟨h', g, d, tk', os⟩) :
    codeAny (model prog w) A (.call (.builtin sa) ⟨[.ref x, .str name tk, v], []⟩) R ⟨h, g, d, t, os⟩ := by
  refine codeAny_call_builtin SF.slot.plain SF.entry (wpAny_check_sa SF cC cx oC ?_)
  exact first_store cC cN no noB cx oC nocls od k
theorem first_attr {o : Obj} {sa owner : String} {Q : Unit → Shared → Prop} (SF : StoreFacts "Exception" excTail sa owner) (cC : h.get? C = some (excClassObj nm q C N bs excTail true sn sub ab col dd k0 k1 k2 k3 k5 newId)) (cN : h.Ns N mN) (ns : mN "__setattr__" = none) (no : mN name = none)
    (noB : typeLookup (.type "Exception") name = pure none) (cx : h.get? x = some o) (oC : o.cls = .ref C) (nocls : ∀ c, o.data ≠ .cls c) (od : o.dict = none)
    (k : ∀ h' tk', h'.get? x = some { o with dict := some h.objs.size } → h'.Ns1 h.objs.size (fun y => if y = name then some v else none) → (∀ b u, b ≠ x → h.get? b = some u → h'.get? b = some u) → Q () ⟨h', g, d, tk', os⟩) :
    wpAny (model prog w) A (setAttr (.ref x) name v) Q E ⟨h, g, d, t, os⟩ := by
  have bd := SF.slot.bind (.ref x)
  unfold setAttr callSpecial? specialOf
  repeat (any_goals (first | (with_reducible refine wpAny_typeLookup_exc cC cN SF.mro SF.slot.lookup ?_; rw [ns]) | (with_reducible refine wpAny_loadPart_at cx ?_; rw [oC]) | assumption | wp_step))
  refine first_call SF cC cN no noB cx oC nocls od fun h' tk' x1 x2 x3 => ?_
  have z := k h' tk' x1 x2 x3
  repeat (any_goals (first | assumption | wp_step))
end
end XL
namespace L2
open PySem PySem.Spec PyProof.Rows XL
def CXF (P : Program) (w : World) : CXT := fun outer H s E e s' =>
  ∃ (a T : Addr) (C dx : Addr) (H' : Hp), e = .ref a ∧ s'.os = s.os ∧ AllBare s'.gens ∧ Un (frs outer) [] H H' s.heap s'.heap ∧ HOk P w H' s'.heap ∧
    XAt s'.heap a (.ref C) (some dx) (some (T, .none)) ∧ (∀ b ∈ [a, T], H' b = none ∧ s.heap.get? b = none) ∧ E (.ref C) (some dx) H'
structure Own (X : Cx) : Prop where
  stk : X.stack = X.env :: X.outer
  fr : X.env.frame = some X.env.locals
def Newl (X : Cx) (pins : List (Addr × Obj)) (H : Hp) (l : List Addr) : Prop := ∀ b ∈ l, H b = none ∧ X.s_0.heap.get? b = none ∧ ∀ p ∈ X.pn ++ pins, p.1 ≠ b
section
variable {X : Cx} {pins : List (Addr × Obj)} {σ : St} {H H' : Hp} {s : Shared} {h' : Heap} {a : Addr} {cls : Value} {dx : Option Addr} {E : Value → Shared → Prop} {Q : Unit → Shared → Prop}
theorem Inv.step2 {g' : Array GenState} {t' : Nat} {d' : Drawn} {ch : List Addr} (I : Inv X pins σ H s)
    (hch : ∀ b ∈ ch, X.s_0.heap.get? b = none ∧ b ≠ X.env.locals ∧ (∀ x c, X.env.cells.lookup x = some c → c ≠ b) ∧ ∀ p ∈ X.pn ++ pins, p.1 ≠ b)
    (keep : ∀ b o, b ≠ X.env.locals → b ∉ X.fs → b ∉ ch → s.heap.get? b = some o → H b = none → h'.get? b = some o)
    (slot : ∀ b o, b ≠ X.env.locals → b ∈ X.fs → b ∉ ch → s.heap.get? b = some o → H b = none → ∃ sl, h'.get? b = some { o with slots := sl })
    (there : ∀ b o, b ∉ ch → s.heap.get? b = some o → ∃ o', h'.get? b = some o')
    (ns : ∀ m, s.heap.Ns X.env.locals m → h'.Ns X.env.locals m) (hok : HOk X.prog X.w H h') (hg : AllBare g') :
    Inv X pins σ H { s with heap := h', gens := g', drawn := d', toks := t' } := by
  have neL : ∀ b o, X.s_0.heap.get? b = some o → b ≠ X.env.locals := fun b o e => Nat.ne_of_lt (Nat.lt_of_lt_of_le (Heap.lt_size e) I.ok.above)
  have neC : ∀ b o, X.s_0.heap.get? b = some o → b ∉ ch := fun b o e hb => by rw [(hch b hb).1] at e; cases e
  have cellK : ∀ x c, X.env.cells.lookup x = some c → ∀ v, s.heap.IsCell c v → h'.IsCell c v := fun x c e v ⟨o, ho, hd⟩ => by
    have nch : c ∉ ch := fun z => (hch c z).2.2.1 x c e rfl
    by_cases hc : c ∈ X.fs
    · obtain ⟨sl, q⟩ := slot c o (I.cne x c e) hc nch ho (I.freeC x c e)
      exact ⟨_, q, hd⟩
    · exact ⟨o, keep c o (I.cne x c e) hc nch ho (I.freeC x c e), hd⟩
  refine ⟨I.ok, I.os, hg, ⟨fun b o e n hb hx => ?_, fun b o e n hb hx => ?_, I.base.free, fun b o e hx => ?_, I.base.tups, I.base.frzs, I.base.tbls⟩, ?_, fun x c e => ?_, I.free, I.freeC, fun p hp => ?_, hok, I.len⟩
  · exact keep b o (neL b o e) hb (neC b o e) (I.base.keep b o e n hb hx) (I.base.free b o e n hx)
  · obtain ⟨sl, e1⟩ := I.base.slot b o e n hb hx
    obtain ⟨sl', e2⟩ := slot b _ (neL b o e) hb (neC b o e) e1 (I.base.free b o e n hx)
    exact ⟨sl', e2⟩
  · obtain ⟨o', e1⟩ := I.base.there b o e hx
    exact there b o' (neC b o e) e1
  · obtain ⟨m, hn, hl⟩ := I.loc
    refine ⟨m, ns m hn, fun i x v e1 e2 e3 => ?_⟩
    obtain ⟨u, r, l⟩ := hl i x v e1 e2 e3
    refine ⟨u, r, ?_⟩
    rcases l with l | ⟨k, c, e, z⟩
    · exact .inl l
    · exact .inr ⟨k, c, e, cellK x c e _ z⟩
  · obtain ⟨v, z⟩ := I.cell x c e
    exact ⟨v, cellK x c e v z⟩
  · obtain ⟨e, n, ne, nf, d⟩ := I.pin p hp
    exact ⟨keep p.1 p.2 ne nf (fun z => (hch p.1 z).2.2.2 p hp rfl) e n, n, ne, nf, d⟩
theorem Inv.apart (I : Inv X pins σ H s) {b : Addr} {o : Obj} {ws : Array Value} (ho : s.heap.get? b = some o) (hd : o.data = .fields ws) : b ≠ X.env.locals ∧ ∀ x c, X.env.cells.lookup x = some c → c ≠ b := by
  refine ⟨fun q => ?_, fun x c e q => ?_⟩
  · obtain ⟨m, ⟨ol, es, ep, hl, hdl, _⟩, _⟩ := I.loc
    rw [q, hl] at ho
    cases ho
    rw [hdl] at hd
    cases hd
  · obtain ⟨v, oc, hc, hdc⟩ := I.cell x c e
    rw [q, ho] at hc
    cases hc
    rw [hd] at hdc
    cases hdc
theorem ns_slots {h h' : Heap} {L : Addr} {m : Str → Option Value} (k : ∀ o, h.get? L = some o → ∃ sl, h'.get? L = some { o with slots := sl }) (n : h.Ns L m) : h'.Ns L m := by
  obtain ⟨o, es, ep, ho, hd, r⟩ := n
  obtain ⟨sl, q⟩ := k o ho
  exact ⟨_, es, ep, q, hd, r⟩
theorem Inv.newl (I : Inv X pins σ H s) {b : Addr} (h : s.heap.get? b = none) (hx : X.ex = []) : X.s_0.heap.get? b = none ∧ ∀ p ∈ X.pn ++ pins, p.1 ≠ b := by
  refine ⟨?_, fun p hp q => ?_⟩
  · cases q : X.s_0.heap.get? b with
    | none => rfl
    | some o =>
      obtain ⟨o', e⟩ := I.base.there b o q (by rw [hx]; simp)
      rw [h] at e
      cases e
  · have e := (I.pin p hp).1
    rw [q, h] at e
    cases e
theorem Inv.noted (I : Inv X pins σ H s) (W : Own X) (hx0 : X.ex = []) {t : Option (Addr × Value)} (hx : XAt s.heap a cls dx t) (hfl : ∀ T fl, t = some (T, fl) → fl = .none ∨ fl = rawInt X.env.locals) (hH : Newl X pins H (heads a t))
    (k : ∀ h' T, Inv X pins σ H { s with heap := h' } → XAt h' a cls dx (some (T, rawInt X.env.locals)) → Newl X pins H [a, T] → Q () { s with heap := h' }) :
    wpAny (model X.prog X.w) X.A (noteFrame (.ref a) X.env) Q E s := by
  have hst := I.stack
  have hfr := I.ok.frames
  have hfree := I.stkFree
  rw [W.stk] at hst hfr hfree
  refine note_at hfr hst W.fr hx hfl fun h' T x1 x2 x3 => ?_
  have hL : X.env.locals ∈ (X.env :: X.outer).filterMap (·.frame) := by rw [List.filterMap_cons, W.fr]; exact List.mem_cons_self
  have hfs : ∀ b, b ∈ (X.env :: X.outer).filterMap (·.frame) ↔ b = X.env.locals ∨ b ∈ X.fs := fun b => by rw [List.filterMap_cons, W.fr]; exact List.mem_cons
  have tr : ∀ b u, H b = some u → b ∉ (X.env :: X.outer).filterMap (·.frame) ∧ b ∉ heads a t := fun b u e => ⟨fun m => (by rw [hfree b m] at e; cases e), fun m => (by rw [(hH b m).1] at e; cases e)⟩
  have hok : HOk X.prog X.w H h' := fun b u e => (I.hok b u e).stay (fun c v hc q => by
    have z : ∃ w, H c = some w := by
      rcases hc with hc | hc
      · exact ⟨u, hc ▸ e⟩
      · exact ⟨_, hc⟩
    obtain ⟨w', z⟩ := z
    exact x3.keep c v (tr c w' z).1 (tr c w' z).2 q) (fun _ q => q) fun _ _ q => q
  have I' : Inv X pins σ H { s with heap := h' } := by
    refine I.step2 (g' := s.gens) (t' := s.toks) (d' := s.drawn) (ch := heads a t) (fun b hb => ?_) (fun b o n1 n2 n3 e _ => ?_) (fun b o n1 n2 _ e _ => ?_) (fun b o _ e => x3.there b o e)
      (fun m hm => ns_slots (fun o q => x3.slot _ o hL q) hm) hok I.bare
    · obtain ⟨o, ws, ho, hd⟩ := hx.rec b hb
      obtain ⟨z1, z2⟩ := I.apart ho hd
      exact ⟨(hH b hb).2.1, z1, z2, (hH b hb).2.2⟩
    · exact x3.keep b o (fun m => by rcases (hfs b).mp m with q | q; exact n1 q; exact n2 q) n3 e
    · exact x3.slot b o ((hfs b).mpr (.inr n2)) e
  refine k h' T I' x1 fun b hb => ?_
  rcases (show b = a ∨ b = T by simpa using hb) with q | q
  · rw [q]; exact hH a mem_heads
  · rw [q]
    rcases x2 with m | m
    · exact hH T m
    · have z := Heap.get?_none_of_le m
      obtain ⟨z1, z2⟩ := I.newl z hx0
      exact ⟨I.hok.fresh m, z1, z2⟩
theorem Inv.flown (I : Inv X pins σ H s) {T : Addr} {fl : Value} {fr : Option Addr} (hx : XAt s.heap a cls dx (some (T, fl))) (hN : Newl X pins H [a, T])
    (k : ∀ h', Inv X pins σ H { s with heap := h' } → XAt h' a cls dx (some (T, fr.elim Value.none fun f => rawInt f)) → Q () { s with heap := h' }) :
    wpAny (model X.prog X.w) X.A (setFlight (.ref a) fr) Q E s := by
  obtain ⟨oT, ts, hoT, hdT⟩ := hx.rec T (by simp [heads])
  obtain ⟨nT, zT, pT⟩ := hN T (by simp)
  refine flight_at hx fun h' x1 x2 x3 x4 => k h' ?_ x1
  have ap := I.apart hoT hdT
  have kp : ∀ b o, b ≠ T → s.heap.get? b = some o → h'.get? b = some o := fun b o n e => by rw [x2 b n]; exact e
  have tr : ∀ b u, H b = some u → b ≠ T := fun b u e q => by rw [q, nT] at e; cases e
  refine I.step2 (g' := s.gens) (t' := s.toks) (d' := s.drawn) (ch := [T]) (fun b hb => ?_) (fun b o _ _ n e _ => kp b o (fun q => n (by simp [q])) e) (fun b o _ _ n e _ => ⟨o.slots, kp b o (fun q => n (by simp [q])) e⟩)
    (fun b o n e => ⟨o, kp b o (fun q => n (by simp [q])) e⟩) (fun m hm => ns_slots (fun o q => ⟨o.slots, kp _ o (Ne.symm ap.1) q⟩) hm) (fun b u e => ?_) I.bare
  · rw [show b = T by simpa using hb]
    exact ⟨zT, ap.1, ap.2, pT⟩
  · refine (I.hok b u e).stay (fun c v hc q => kp c v ?_ q) (fun _ q => q) fun _ _ q => q
    rcases hc with hc | hc
    · exact tr c u (hc ▸ e)
    · exact tr c _ hc
theorem Inv.back {P : Program} {w : World} {EX : XK} {e : Value} {s' : Shared} (I : Inv X pins σ H s) (hx0 : X.ex = []) (h : CXF X.prog X.w X.stack H s EX e s') :
    ∃ a T C dx H', e = .ref a ∧ Inv X pins σ H' s' ∧ XAt s'.heap a (.ref C) (some dx) (some (T, .none)) ∧ Newl X pins H' [a, T] ∧ EX (.ref C) (some dx) H' := by
  obtain ⟨a, T, C, dx, H', rfl, ho, hb, un, hok, x, hH, hE⟩ := h
  obtain ⟨hh, g, d, tk, os⟩ := s'
  obtain rfl : os = s.os := ho
  refine ⟨a, T, C, dx, H', rfl, I.call (h' := hh) (g' := g) (d' := d) (t' := tk) (ch := []) un hok hb (fun b z => absurd z (by simp)), x, fun b hb => ?_, hE⟩
  obtain ⟨z1, z2⟩ := I.newl (hH b hb).2 hx0
  exact ⟨(hH b hb).1, z1, z2⟩
end
section
variable {P : Program} {w : World} {K : PySem.W.Frag} {mg : Str → Option Value} {base : Heap} {N : List Str} {qual : Str} {scope : Scope} {f : Addr} {cd : Value} {A : Around} {outer : List Env} {s0 : Shared} {H0 : Hp} {E : XK}
theorem own_cx : Own (cxOf (CXF P w) P w K mg base N qual scope f cd A outer s0 H0 E) := ⟨rfl, rfl⟩
theorem leaves {pins : List (Addr × Obj)} {σ : St} {H : Hp} {s : Shared} {a C dx : Addr} {t : Option (Addr × Value)} (I : Inv (cxOf (CXF P w) P w K mg base N qual scope f cd A outer s0 H0 E) pins σ H s) (hx : XAt s.heap a (.ref C) (some dx) t)
    (hfl : ∀ T fl, t = some (T, fl) → fl = .none) (hH : Newl (cxOf (CXF P w) P w K mg base N qual scope f cd A outer s0 H0 E) pins H (heads a t)) (hE : E (.ref C) (some dx) H) :
    (cxOf (CXF P w) P w K mg base N qual scope f cd A outer s0 H0 E).xe (.ref a) s := by
  show wpAny _ _ (leaving _ _) _ _ s
  unfold leaving
  refine wpAny_bind (I.noted own_cx rfl hx (fun T fl e => .inl (hfl T fl e)) hH fun h1 T I1 x1 nw => ?_)
  refine I1.flown (fr := none) x1 nw fun h2 I2 x2 => ?_
  exact ⟨a, T, C, dx, H, rfl, I2.os, I2.bare, I2.base, I2.hok, x2, fun b hb => ⟨(nw b hb).1, (nw b hb).2.1⟩, hE⟩
theorem passF : Passes (CXF P w) (cxOf (CXF P w) P w K mg base N qual scope f cd A outer s0 H0 E) E := by
  intro pins σ H s e s' I h
  obtain ⟨a, T, C, dx, H', rfl, I', x, nw, hE⟩ := I.back (P := P) (w := w) rfl h
  exact leaves I' x (fun T fl e => by cases e; rfl) nw hE
theorem ownF : PassesOwn (model P w) (cxOf (CXF P w) P w K mg base N qual scope f cd A outer s0 H0 E).A (cxOf (CXF P w) P w K mg base N qual scope f cd A outer s0 H0 E).env (cxOf (CXF P w) P w K mg base N qual scope f cd A outer s0 H0 E).xe := PassesOwn.leaving
theorem Fun.okF {x qual : Str} {st : Stmt} {f : Addr} {fd : FuncData} {N ps : List Str} {k : Nat} {sp : Sp} (F : Fun K x qual st f fd) (S : FnScope N ps (defScope st)) (len : ∀ vs H Q E, sp vs H Q E → vs.length = ps.length)
    (hbody : ∀ (cdv : Value) (A : Around) (outer : List Env) (s : Shared) (H : Hp) (vs : List V) (Q : VK) (E : XK), Room k (A.deeper (envOfC qual (defScope st) s.heap.objs.size f cdv)) → sp vs H Q E →
      ∃ t, PSs (cxOf (CXF P w) P w K mg base N qual (defScope st) f cdv A outer s H E) (defBody st) t ∧ t { nx := fun _ H' => Q .non H', rt := Q } (start N vs) H) : FnOk P w K mg base (CXF P w) (k + 1) f fd ps sp := by
  obtain ⟨oc, od, kV, doc, pm, an, cdv, ct, osl, rfl, lk, hcd⟩ := F.ex
  exact fn_of lk hcd S len fun A outer s H vs Q E hr hsp => hbody cdv A outer s H vs Q E hr hsp
end
end L2
namespace L2
open PySem PySem.Spec PyProof.Rows XL
theorem ObjOk.there {P : Program} {w : World} {H : Hp} {h : Heap} {a : Addr} {o : HO} (x : ObjOk P w H h a o) : ∃ ob, h.get? a = some ob := by
  cases o with
  | lst xs => obtain ⟨_, _, _, _, e⟩ := x; exact ⟨_, e⟩
  | tup xs => obtain ⟨_, _, _, _, e, _⟩ := x; exact ⟨_, e⟩
  | dK kvs => obtain ⟨_, _, _, _, o, _, _, e, _⟩ := x; exact ⟨_, e⟩
  | dT kvs => obtain ⟨_, _, _, _, o, _, _, e, _⟩ := x; exact ⟨_, e⟩
  | set S n => obtain ⟨o, _, _, _, e, _⟩ := x; exact ⟨_, e⟩
  | ins C dx fs => obtain ⟨_, _, _, e, _⟩ := x; exact ⟨_, e⟩
  | own y => exact x
  | xd fs => obtain ⟨_, ⟨_, _, _, e, _⟩, _⟩ := x; exact ⟨_, e⟩
  | rng lo hi => obtain ⟨_, _, _, e⟩ := x; exact ⟨_, e⟩
  | frz ob u => obtain ⟨e, _⟩ := x; exact ⟨_, e⟩
  | tbl ps => exact ⟨_, (show h.get? a = some _ from x)⟩
  | met f y => exact ⟨_, (show h.get? a = some _ from x)⟩
  | ext φ => obtain ⟨_, e, _⟩ := x; exact e
structure XCl (K : PySem.W.Frag) (C fI : Addr) (names : List Str) : Prop where
  ex : ∃ (nm q : Str) (N : Addr) (bs : List Value) (sn : List Str) (sub : List Value) (ab : Bool) (col : Option Bool) (dd : Option Addr) (k0 k1 k2 k3 k5 : Option Value),
    K.lookup C = some (excClassObj nm q C N bs excTail true sn sub ab col dd k0 k1 k2 k3 k5 "Exception.__new__") ∧ PySem.W.nsOkIn K N = true ∧ PySem.W.nsIn K N "__init__" = some (some (.ref fI)) ∧ ∀ x ∈ names, PySem.W.nsIn K N x = some none
  fn : PySem.W.isFn K (.ref fI) = true
  kp : PySem.W.keepIn K (.ref C) = true
  sa : PySem.W.findIn K (.ref C) "__setattr__" = some (some (.builtin "object.__setattr__"))
  ga : ("__getattribute__" : Str) ∈ names
  gh : ("__getattr__" : Str) ∈ names
  ss : ("__setattr__" : Str) ∈ names
theorem ns_some_of {K : PySem.W.Frag} {h : Heap} {N : Addr} {m : Str → Option Value} {x : Str} {v : Value} (X : K.In h) (G : h.Ns N m) (e : PySem.W.nsIn K N x = some (some v)) : m x = some v := by
  obtain ⟨o, es, ep, ho, hd, _, hf⟩ := G
  cases hk : K.lookup N with
  | none => simp [PySem.W.nsIn, hk] at e
  | some ob =>
    have z := X _ _ hk
    rw [ho] at z
    cases z
    obtain ⟨c, dd, dt, sl⟩ := o
    have hd : dt = .dict es ep := hd
    subst hd
    simp only [PySem.W.nsIn, hk] at e
    cases hq : es.toList.find? (·.key.isStr x) with
    | none => rw [hq] at e; split at e <;> simp_all
    | some en =>
      rw [hq] at e
      have e : en.val = v := by simpa using e
      rw [← hf]
      unfold nsFind findBy
      rw [← Array.find?_toList, hq]
      exact congrArg some e
theorem XCl.at {K : PySem.W.Frag} {C fI : Addr} {names : List Str} (c : XCl K C fI names) {h : Heap} (X : K.In h) :
    ∃ (nm q : Str) (N : Addr) (bs : List Value) (sn : List Str) (sub : List Value) (ab : Bool) (col : Option Bool) (dd : Option Addr) (k0 k1 k2 k3 k5 : Option Value) (mN : Str → Option Value),
      h.get? C = some (excClassObj nm q C N bs excTail true sn sub ab col dd k0 k1 k2 k3 k5 "Exception.__new__") ∧ h.Ns N mN ∧ mN "__init__" = some (.ref fI) ∧ ∀ x ∈ names, mN x = none := by
  obtain ⟨nm, q, N, bs, sn, sub, ab, col, dd, k0, k1, k2, k3, k5, l, ok, hi, hn⟩ := c.ex
  have G : h.Ns N (h.nsMap N) := .of_isNs (PySem.W.isNs_of_in X ok)
  exact ⟨nm, q, N, bs, sn, sub, ab, col, dd, k0, k1, k2, k3, k5, _, X _ _ l, G, ns_some_of X G hi, fun x hx => PySem.W.ns_none_of X G (hn x hx)⟩
theorem XCl.init {K : PySem.W.Frag} {C fI : Addr} {names : List Str} (c : XCl K C fI names) {h : Heap} (X : K.In h) : ∃ o, h.get? fI = some o ∧ o.cls = .type "function" := by
  have f := c.fn
  unfold PySem.W.isFn PySem.W.typeIn at f
  dsimp only at f
  cases hk : K.lookup fI with
  | none => rw [hk] at f; simp at f
  | some o =>
    rw [hk] at f
    exact ⟨o, X _ _ hk, by simpa using f⟩
def XO (a C : Addr) (d : Option Addr) : HO := .ext fun h => ∃ t, h.get? a = some ⟨.ref C, d, .fields #[.ref t, .none, .none, .none, .bool false, .none], #[]⟩
def XR (a C dx : Addr) : HO := .ext fun h => ∃ oe, h.get? a = some oe ∧ oe.cls = .ref C ∧ oe.dict = some dx ∧ ∀ c, oe.data ≠ .cls c
section
variable {P : Program} {w : World} {H : Hp} {h : Heap} {a C dx : Addr} {d : Option Addr}
theorem XO.ok {t : Addr} (e : h.get? a = some ⟨.ref C, d, .fields #[.ref t, .none, .none, .none, .bool false, .none], #[]⟩) : ObjOk P w H h a (XO a C d) :=
  ⟨⟨t, e⟩, ⟨_, e⟩, fun h1 h2 ⟨t, q⟩ k => ⟨t, k _ q⟩⟩
theorem XR.ok {oe : Obj} (e : h.get? a = some oe) (h1 : oe.cls = .ref C) (h2 : oe.dict = some dx) (h3 : ∀ c, oe.data ≠ .cls c) : ObjOk P w H h a (XR a C dx) :=
  ⟨⟨oe, e, h1, h2, h3⟩, ⟨_, e⟩, fun g1 g2 ⟨o, q, r⟩ k => ⟨o, k _ q, r⟩⟩
end
def drop (H : Hp) (a : Addr) : Hp := fun b => if b = a then none else H b
theorem drop_ne {H : Hp} {a b : Addr} (h : b ≠ a) : drop H a b = H b := if_neg h
theorem drop_self {H : Hp} {a : Addr} : drop H a a = none := if_pos rfl
section
variable {X : Cx} {pins : List (Addr × Obj)} {σ : St} {H : Hp} {s : Shared} {a C dx fI : Addr} {names : List Str} {E : Value → Shared → Prop} {Q : Unit → Shared → Prop} {A : Around}
theorem Inv.dropped {φ : Heap → Prop} (I : Inv X pins σ H s) (e : H a = some (.ext φ)) : Inv X pins σ (drop H a) s := by
  have sub : ∀ b u, drop H a b = some u → H b = some u ∧ b ≠ a := fun b u q => by
    by_cases z : b = a
    · rw [z, drop_self] at q; cases q
    · rw [drop_ne z] at q; exact ⟨q, z⟩
  have no : ∀ b, H b = none → drop H a b = none := fun b q => by
    by_cases z : b = a
    · rw [z, drop_self]
    · rw [drop_ne z]; exact q
  have kp : ∀ b u, H b = some u → (∀ φ, u ≠ .ext φ) → drop H a b = some u := fun b u q n => by
    rw [drop_ne (fun z => by rw [z, e] at q; cases q; exact n φ rfl)]; exact q
  refine ⟨I.ok, I.os, I.bare, ⟨I.base.keep, I.base.slot, fun b o q n hx => no b (I.base.free b o q n hx), I.base.there, fun b xs q => kp b _ (I.base.tups b xs q) (fun _ z => by cases z), fun b o u q => kp b _ (I.base.frzs b o u q) (fun _ z => by cases z),
    fun b ps q => ?_⟩, I.loc, I.cell, no _ I.free, fun x c q => no c (I.freeC x c q), fun p hp => ?_, fun b u q => ?_, I.len⟩
  · obtain ⟨more, z⟩ := I.base.tbls b ps q
    exact ⟨more, kp b _ z (fun _ z => by cases z)⟩
  · obtain ⟨z1, z2, z3⟩ := I.pin p hp
    exact ⟨z1, no _ z2, z3⟩
  · obtain ⟨q1, q2⟩ := sub b u q
    exact (I.hok b u q1).stay (fun _ _ _ z => z) (fun c z => kp c _ z (fun _ z => by cases z)) fun c xs z => kp c _ z (fun _ z => by cases z)
theorem Inv.tracked {φ : Heap → Prop} (I : Inv X pins σ H s) (n : H a = none) (nw : X.s_0.heap.get? a = none) (nl : a ≠ X.env.locals) (nc : ∀ x c, X.env.cells.lookup x = some c → c ≠ a) (np : ∀ p ∈ X.pn ++ pins, p.1 ≠ a)
    (ok : ObjOk X.prog X.w (upd H a (.ext φ)) s.heap a (.ext φ)) : Inv X pins σ (upd H a (.ext φ)) s := by
  have kp : ∀ b u, H b = some u → upd H a (.ext φ) b = some u := fun b u q => by rw [upd_ne (ne_of_none q n)]; exact q
  have no : ∀ b, H b = none → b ≠ a → upd H a (.ext φ) b = none := fun b q z => by rw [upd_ne z]; exact q
  refine ⟨I.ok, I.os, I.bare, ⟨I.base.keep, I.base.slot, fun b o q m hx => no b (I.base.free b o q m hx) (fun z => by rw [z, nw] at q; cases q), I.base.there, fun b xs q => kp b _ (I.base.tups b xs q), fun b o u q => kp b _ (I.base.frzs b o u q),
    fun b ps q => ?_⟩, I.loc, I.cell, no _ I.free (Ne.symm nl), fun x c q => no c (I.freeC x c q) (nc x c q), fun p hp => ?_, fun b u q => ?_, I.len⟩
  · obtain ⟨more, z⟩ := I.base.tbls b ps q
    exact ⟨more, kp b _ z⟩
  · obtain ⟨z1, z2, z3⟩ := I.pin p hp
    exact ⟨z1, no _ z2 (np p hp), z3⟩
  · by_cases z : b = a
    · subst z; rw [upd_same] at q; cases q; exact ok
    · rw [upd_ne z] at q
      exact (I.hok b u q).stay (fun _ _ _ z => z) (fun c z => kp c _ z) fun c xs z => kp c _ z
theorem relO_within {fs : List (Str × V)} {mA : Str → Option Value} (r : ∀ f, RelO (fs.lookup f) (mA f)) : PySem.Within mA (fs.map (·.1)) := fun f hf => by
  cases q : fs.lookup f with
  | none =>
    have z := r f
    rw [q] at z
    exact absurd (RelO.none_of z) hf
  | some v => exact List.mem_map.mpr ⟨(f, v), PySem.mem_of_lookup q, rfl⟩
theorem set_x0 {f : Str} {y : V} {u : Value} (I : Inv X pins σ H s) (c : XCl X.K C fI names) (e : H a = some (XO a C none)) (hf : f ∈ names) (noB : typeLookup (.type "Exception") f = pure none) (ry : RelV y u)
    (k : ∀ dx s', H dx = none → Inv X pins σ (upd (upd H dx (.xd [(f, y)])) a (XO a C (some dx))) s' → Q () s') : wpAny (model X.prog X.w) A (setAttr (.ref a) f u) Q E s := by
  obtain ⟨⟨t, ea⟩, _, _⟩ := (show ObjOk X.prog X.w H s.heap a (XO a C none) from I.hok a _ e)
  obtain ⟨nm, q, N, bs, sn, sub, ab, col, dd, k0, k1, k2, k3, k5, mN, cC, cN, _, hn⟩ := c.at I.kIn
  obtain ⟨hh, g, d, tk, os⟩ := s
  have ea : hh.get? a = some ⟨.ref C, none, .fields #[.ref t, .none, .none, .none, .bool false, .none], #[]⟩ := ea
  refine first_attr PySem.F.store_Exception cC cN (hn _ c.ss) (hn f hf) noB ea rfl (fun _ z => by cases z) rfl fun h' tk' x1 x2 x3 => ?_
  have nd : H hh.objs.size = none := I.hok.fresh (Nat.le_refl _)
  have na : hh.objs.size ≠ a := Nat.ne_of_gt (Heap.lt_size ea)
  refine k hh.objs.size _ nd (I.un (h' := h') (t' := tk') ⟨fun b o z n _ _ => x3 b o (fun w => by rw [w, e] at n; cases n) z, fun b o z n _ _ => ⟨o.slots, x3 b o (fun w => by rw [w, e] at n; cases n) z⟩, fun b o z n _ => ?_, fun b o z _ => ?_, fun b xs z => ?_, fun b o v z => ?_, fun b ps z => ?_⟩ ?_)
  · rw [upd_ne (fun w => by rw [w, e] at n; cases n), upd_ne (Nat.ne_of_lt (Heap.lt_size z))]; exact n
  · by_cases w : b = a
    · rw [w]; exact ⟨_, x1⟩
    · exact ⟨o, x3 b o w z⟩
  · rw [upd_ne (fun w => by rw [w, e] at z; cases z), upd_ne (ne_of_none z nd)]; exact z
  · rw [upd_ne (fun w => by rw [w, e] at z; cases z), upd_ne (ne_of_none z nd)]; exact z
  · exact ⟨#[], by rw [upd_ne (fun w => by rw [w, e] at z; cases z), upd_ne (ne_of_none z nd), z]; simp⟩
  · intro b v z
    by_cases wa : b = a
    · subst wa; rw [upd_same] at z; cases z; exact XO.ok x1
    · rw [upd_ne wa] at z
      by_cases wd : b = hh.objs.size
      · subst wd
        rw [upd_same] at z
        cases z
        refine ⟨_, x2, fun g => ?_⟩
        by_cases w : g = f
        · subst w; simp [RelO]; exact ry
        · rw [if_neg w]
          have : ([(f, y)] : List (Str × V)).lookup g = none := by
            rw [List.lookup_cons]
            have : (g == f) = false := by simpa using w
            rw [this]; rfl
          rw [this]; trivial
      · rw [upd_ne wd] at z
        refine (I.hok b v z).stay (fun c' v' hc q' => x3 c' v' (fun w => ?_) q') (fun c' q' => ?_) fun c' xs q' => ?_
        · rcases hc with hc | hc
          · exact wa (hc ▸ w)
          · rw [w, e] at hc; cases hc
        · rw [upd_ne (fun w => by rw [w, e] at q'; cases q'), upd_ne (ne_of_none q' nd)]; exact q'
        · rw [upd_ne (fun w => by rw [w, e] at q'; cases q'), upd_ne (ne_of_none q' nd)]; exact q'
theorem set_x1 {f : Str} {y : V} {u : Value} {fs : List (Str × V)} (I : Inv X pins σ H s) (c : XCl X.K C fI names) (e : H a = some (XO a C (some dx))) (ed : H dx = some (.xd fs)) (hl : fs.length < 1000) (hf : f ∈ names) (noB : typeLookup (.type "Exception") f = pure none) (ry : RelV y u)
    (k : ∀ s', Inv X pins σ (upd H dx (.xd (putF f y fs))) s' → Q () s') : wpAny (model X.prog X.w) A (setAttr (.ref a) f u) Q E s := by
  obtain ⟨⟨t, ea⟩, _, _⟩ := (show ObjOk X.prog X.w H s.heap a (XO a C (some dx)) from I.hok a _ e)
  obtain ⟨mA, n1, rl⟩ := (show ObjOk X.prog X.w H s.heap dx (.xd fs) from I.hok dx _ ed)
  obtain ⟨nm, q, N, bs, sn, sub, ab, col, dd, k0, k1, k2, k3, k5, mN, cC, cN, _, hn⟩ := c.at I.kIn
  have da : dx ≠ a := fun w => by rw [w, e] at ed; cases ed
  have aC : a ≠ C := fun w => by rw [w, cC] at ea; cases ea
  obtain ⟨hh, g, d, tk, os⟩ := s
  refine store_attr PySem.F.store_Exception cC cN (hn _ c.ss) (hn f hf) noB aC ⟨_, ea, rfl, (fun _ z => by cases z), .inr ⟨dx, rfl, da, n1⟩⟩ (fun h' tk' x1 x2 x3 => ?_) (relO_within rl) (by rw [List.length_map, sizeLine_eq]; omega)
  obtain ⟨o1, y1, y2, y3, y4, y5⟩ := x3 _ ea
  have y6 := y5 dx rfl
  have eo : o1 = ⟨.ref C, some dx, .fields #[.ref t, .none, .none, .none, .bool false, .none], #[]⟩ := by
    obtain ⟨c1, d1, t1, s1⟩ := o1
    dsimp only at y2 y3 y4 y6
    rw [y2, y3, y4, y6]
  subst eo
  have n2 : h'.Ns1 dx (fun y' => if y' = f then some u else mA y') := by
    obtain ⟨o2, z1, z2, z3, z4⟩ := x1
    rw [y1] at z1
    cases z1
    rcases z4 with ⟨z, _⟩ | ⟨d2, z, _, z5⟩
    · cases z
    · cases z; exact z5
  have kp : ∀ b o, b ≠ dx → hh.get? b = some o → h'.get? b = some o := fun b o nd z => by
    by_cases w : b = a
    · rw [w] at z ⊢
      rw [ea] at z; cases z; exact y1
    · exact x2 b o w (fun o0 d0 q1 q2 => by rw [ea] at q1; cases q1; cases q2; exact nd) z
  have thr : ∃ o, h'.get? dx = some o := let ⟨o, _, _, z, _⟩ := n2; ⟨o, z⟩
  refine k _ (I.un (h' := h') (t' := tk') ⟨fun b o z n _ _ => kp b o (fun w => by rw [w, ed] at n; cases n) z, fun b o z n _ _ => ⟨o.slots, kp b o (fun w => by rw [w, ed] at n; cases n) z⟩, fun b o z n _ => ?_, fun b o z _ => ?_, fun b xs z => ?_, fun b o v z => ?_, fun b ps z => ?_⟩ ?_)
  · rw [upd_ne (fun w => by rw [w, ed] at n; cases n)]; exact n
  · by_cases w : b = dx
    · rw [w]; exact thr
    · exact ⟨o, kp b o w z⟩
  · rw [upd_ne (fun w => by rw [w, ed] at z; cases z)]; exact z
  · rw [upd_ne (fun w => by rw [w, ed] at z; cases z)]; exact z
  · exact ⟨#[], by rw [upd_ne (fun w => by rw [w, ed] at z; cases z), z]; simp⟩
  · intro b v z
    by_cases wd : b = dx
    · subst wd
      rw [upd_same] at z
      cases z
      refine ⟨_, n2, fun g => ?_⟩
      rw [lookup_putF]
      by_cases w : g = f
      · rw [if_pos w, if_pos w]; exact ry
      · rw [if_neg w, if_neg w]; exact rl g
    · rw [upd_ne wd] at z
      refine (I.hok b v z).stay (fun c' v' hc q' => kp c' v' (fun w => ?_) q') (fun c' q' => ?_) fun c' xs q' => ?_
      · rcases hc with hc | hc
        · exact wd (hc ▸ w)
        · rw [w, ed] at hc; cases hc
      · rw [upd_ne (fun w => by rw [w, ed] at q'; cases q')]; exact q'
      · rw [upd_ne (fun w => by rw [w, ed] at q'; cases q')]; exact q'
theorem get_x {f : Str} {v : V} {b : Bool} {fs : List (Str × V)} {Q : Value → Shared → Prop} (I : Inv X pins σ H s) (c : XCl X.K C fI names) (e : H a = some (XR a C dx)) (ed : H dx = some (.xd fs)) (l : fs.lookup f = some v) (hf : f ∈ names) (noB : typeLookup (.type "Exception") f = pure none)
    (k : ∀ u s', Inv X pins σ H s' → RelV v u → Q u s') : wpAny (model X.prog X.w) A (getAttr (.ref a) f b) Q E s := by
  obtain ⟨⟨oe, ea, e1, e2, e3⟩, _, _⟩ := (show ObjOk X.prog X.w H s.heap a (XR a C dx) from I.hok a _ e)
  obtain ⟨mA, n1, rl⟩ := (show ObjOk X.prog X.w H s.heap dx (.xd fs) from I.hok dx _ ed)
  obtain ⟨nm, q, N, bs, sn, sub, ab, col, dd, k0, k1, k2, k3, k5, mN, cC, cN, _, hn⟩ := c.at I.kIn
  have da : dx ≠ a := fun w => by rw [w, e] at ed; cases ed
  obtain ⟨u, hu, ru⟩ := RelO.some_of (v := v) (o := mA f) (by rw [← l]; exact rl f)
  obtain ⟨hh, g, d, tk, os⟩ := s
  exact exc_attr cC cN (hn _ c.ga) (hn _ c.gh) (hn f hf) noB ⟨oe, ea, e1, e3, .inr ⟨dx, e2, da, n1⟩⟩ hu (PySem.W.handedOut_of (handed_of ru)) (k u _ (I.tok _) ru)
end
section
variable {X : Cx} {C fI : Addr} {names : List Str} {o e value : Expr} {es : List Expr} {f : Str} {pos pos' np cpos : Pos} {ta tv : TE}
def sX0 (C : Addr) (ta tv : TE) (f : Str) : TS := fun D σ H => tv σ H fun y H1 => ta σ H1 fun x H2 => ∃ a, x = .ref a ∧ H2 a = some (XO a C none) ∧ ∀ dx, H2 dx = none → D.nx σ (upd (upd H2 dx (.xd [(f, y)])) a (XO a C (some dx)))
def sX1 (C : Addr) (ta tv : TE) (f : Str) : TS := fun D σ H => tv σ H fun y H1 => ta σ H1 fun x H2 => ∃ a dx fs, x = .ref a ∧ H2 a = some (XO a C (some dx)) ∧ H2 dx = some (.xd fs) ∧ fs.length < 1000 ∧ D.nx σ (upd H2 dx (.xd (putF f y fs)))
theorem ps_x0 (c : XCl X.K C fI names) (ha : PE X o ta) (hv : PE X value tv) (hf : f ∈ names) (noB : typeLookup (.type "Exception") f = pure none) (hs : swapsWith value (some (.Attribute o f pos')) pos.line X.env = pure false) :
    PS X (.Assign [.Attribute o f pos'] value pos) (sX0 C ta tv f) := by
  intro pins s σ H D I h
  refine plainObj_wpAny_Assign_Attribute (thn (hv pins s σ H _ I h) fun u s1 ⟨y, H1, I1, ry, q⟩ => thn (ha pins s1 σ H1 _ I1 q) fun ov s2 ⟨x, H2, I2, rx, a, ex, e1, q2⟩ => ?_) hs
  subst ex
  obtain rfl : ov = Value.ref a := rx
  exact set_x0 I2 c e1 hf noB ry fun dx s3 nd I3 => ⟨σ, _, I3, q2 dx nd⟩
theorem ps_x1 (c : XCl X.K C fI names) (ha : PE X o ta) (hv : PE X value tv) (hf : f ∈ names) (noB : typeLookup (.type "Exception") f = pure none) (hs : swapsWith value (some (.Attribute o f pos')) pos.line X.env = pure false) :
    PS X (.Assign [.Attribute o f pos'] value pos) (sX1 C ta tv f) := by
  intro pins s σ H D I h
  refine plainObj_wpAny_Assign_Attribute (thn (hv pins s σ H _ I h) fun u s1 ⟨y, H1, I1, ry, q⟩ => thn (ha pins s1 σ H1 _ I1 q) fun ov s2 ⟨x, H2, I2, rx, a, dx, fs, ex, e1, e2, l, q2⟩ => ?_) hs
  subst ex
  obtain rfl : ov = Value.ref a := rx
  exact set_x1 I2 c e1 e2 l hf noB ry fun s3 I3 => ⟨σ, _, I3, q2⟩
def tXf (C : Addr) (ta : TE) (f : Str) : TE := fun σ H Q => ta σ H fun x H1 => ∃ a dx fs v, x = .ref a ∧ H1 a = some (XR a C dx) ∧ H1 dx = some (.xd fs) ∧ fs.lookup f = some v ∧ Q v H1
theorem pe_xf (c : XCl X.K C fI names) (he : PE X e ta) (hf : f ∈ names) (noB : typeLookup (.type "Exception") f = pure none) (hb : attributeBase e f X.env (eval e X.env) = eval e X.env) : PE X (.Attribute e f pos) (tXf C ta f) := by
  intro pins s σ H Q I h
  refine attr_of hb (thn (he pins s σ H _ I h) fun u s1 ⟨x, H1, I1, rx, a, dx, fs, v, ex, e1, e2, l, q⟩ => ?_)
  subst ex
  obtain rfl : u = Value.ref a := rx
  exact get_x I1 c e1 e2 l hf noB fun u' s2 I2 ru => ⟨v, H1, I2, ru, q⟩
def tRaise (C : Addr) (sp : Sp) (E : XK) (t : TA) : TS := fun _ σ H => t σ H fun vs H1 => vs.length ≤ sizeLine ∧ ∀ a, H1 a = none →
  sp (.ref a :: vs) (upd H1 a (XO a C none)) (fun v H2 => v = .non ∧ ∃ dx, H2 a = some (XO a C (some dx)) ∧ E (.ref C) (some dx) (drop H2 a)) E0
def Raises (X : Cx) (E : XK) : Prop := ∀ (pins : List (Addr × Obj)) (σ : St) (H : Hp) (s : Shared) (a C dx : Addr), Inv X pins σ H s → XAt s.heap a (.ref C) (some dx) none → Newl X pins H [a] → E (.ref C) (some dx) H → X.xe (.ref a) s
theorem ps_raise {k : Nat} {fd : FuncData} {ps : List Str} {sp : Sp} {x : Str} {t : TA} {E : XK} (hx0 : X.ex = []) (c : XCl X.K C fI names) (F : FnOk X.prog X.w X.K X.mg X.base CX0 k fI fd ps sp) (hr : Room (k + 1) X.A) (hg : Gl X x) (hm : X.mg x = some (.ref C))
    (hb : Binds X.K fd ps []) (hR : Raises X E) (ha : PA X (e :: es) t) (hdb : (x == ("__debug__" : Str)) = false := by decide) (he : starEach (e :: es) X.env = (false, eval e X.env) :: starEach es X.env := by rfl) (hpl : (backTo cpos (starEach es X.env)).any (·.1) = false := by rfl) :
    PS X (.Raise (some (.Call (.Name x np) (e :: es) [] cpos)) none pos) (tRaise C sp E t) := by
  intro pins s σ H D I h
  rw [arm_exec_Raise]
  obtain ⟨nm, q, N, bs, sn, sub, ab, col, dd, k0, k1, k2, k3, k5, mN, cC, _, _, _⟩ := c.at I.kIn
  refine wpAny_bind (wpAny_standAt (raise_exc (C := C) (nm := nm) (q := q) (N := N) (bs := bs) (bm := excTail) (hdct := true) (sn := sn) (sub := sub) (ab := ab) (col := col) (dd := dd) (k0 := k0) (k1 := k1) (k2 := k2) (k3 := k3) (k5 := k5) (newId := "Exception.__new__") (by decide) hr.hd ?_))
  refine wpAny_bind (thn (Q := fun v s1 => ∃ e t dx sl, v = .ref e ∧ s1.heap.get? C = some (excClassObj nm q C N bs excTail true sn sub ab col dd k0 k1 k2 k3 k5 "Exception.__new__") ∧ s1.heap.get? e = some ⟨.ref C, dx, .fields #[.ref t, .none, .none, .none, .bool false, .none], sl⟩ ∧ X.xe (.ref e) s1) ?_ fun v s1 z => wpAny_bind (wpAny_standAt (wpAny_pure z)))
  refine wpAny_Call_Name_kw (ld_glob I hg hm ?_ hdb)
  refine PySem.W.callWith_K (h₀ := X.base) I.ok.mod.kin c.kp (thn (ha cpos pins s σ H _ I h) fun us s1 ⟨vs, H1, I1, r, hz, q1⟩ => ⟨I1.kIn, ?_⟩) he hpl
  obtain ⟨nm', q', N', bs', sn', sub', ab', col', dd', k0', k1', k2', k3', k5', mN, cC1, cN, ci, hn⟩ := c.at I1.kIn
  have same : ∀ s' : Shared, X.K.In s'.heap → s'.heap.get? C = some (excClassObj nm q C N bs excTail true sn sub ab col dd k0 k1 k2 k3 k5 "Exception.__new__") := fun s' z => by
    obtain ⟨_, _, _, _, _, _, _, _, _, _, _, _, _, _, l, _⟩ := c.ex
    have z1 := I.kIn _ _ l
    rw [cC] at z1
    rw [Option.some.inj z1]
    exact z _ _ l
  obtain ⟨oI, fi, fc⟩ := c.init I1.kIn
  obtain ⟨hh, g, d, tk, os⟩ := s1
  show wpAny _ _ (call (.ref C) us) _ _ _
  refine wpAny_call_exc_init PySem.F.excBase_Exception cC1 cN ci fi fc (fun h' ea made => ?_) (by rw [← r.length]; exact hz)
  obtain ⟨t0, t1, t2, t3⟩ := made.there
  have nH : H1 ea = none := by
    cases z : H1 ea with
    | none => rfl
    | some u =>
      obtain ⟨o, w⟩ := (I1.hok ea u z).there
      have w' : hh.get? ea = some o := w
      rw [made.new] at w'
      cases w'
  obtain ⟨nw, np⟩ := I1.newl (b := ea) made.new hx0
  have e3 : ea ≠ X.env.locals := fun z => by
    obtain ⟨m, ⟨o, _, _, ho, _⟩, _⟩ := I1.loc
    have ho' : hh.get? X.env.locals = some o := ho
    rw [← z, made.new] at ho'
    cases ho'
  have e4 : ∀ x c, X.env.cells.lookup x = some c → c ≠ ea := fun x c hc z => by
    obtain ⟨v, o, ho, _⟩ := I1.cell x c hc
    have ho' : hh.get? c = some o := ho
    rw [z, made.new] at ho'
    cases ho'
  have I2 : Inv X pins σ H1 ⟨h', g, d, tk, os⟩ := I1.kept (h' := h') (t' := tk) made.keeps
  have I3 : Inv X pins σ (upd H1 ea (XO ea C none)) ⟨h', g, d, tk, os⟩ := I2.tracked nH nw e3 e4 np (XO.ok t1)
  have hq := q1 ea nH
  have r2 : Vals (V.ref ea :: vs) (Value.ref ea :: us) := .cons rfl r
  have hl : (Value.ref ea :: us ++ []).length = ps.length := by
    rw [List.append_nil, ← r2.length]
    exact F.len _ _ _ _ hq
  have hbn := hb _ (Value.ref ea :: us) I3.kIn hl
  rw [List.append_nil] at hbn
  refine wpAny_call (codeAny_mono (F.run _ X.stack _ _ ⟨Value.ref ea :: us, []⟩ (Value.ref ea :: us) _ _ E0 (hr.make C us []) (I3.env0.make C us []) hbn r2 hq) fun r s' hq' => ?_)
  cases r with
  | error e => exact False.elim hq'
  | ok fl =>
    cases fl with
    | next => exact False.elim hq'
    | brk => exact False.elim hq'
    | cont => exact False.elim hq'
    | ret u =>
      obtain ⟨v, H', I4, rv, ev, dx, ex, hE⟩ := I3.after hq'
      subst ev
      obtain ⟨⟨tt, ea'⟩, _, _⟩ := (show ObjOk X.prog X.w H' s'.heap ea (XO ea C (some dx)) from I4.hok ea _ ex)
      have I5 := I4.dropped ex
      refine ⟨rv, ea, tt, some dx, #[], rfl, same s' I4.kIn, ea', ?_⟩
      exact hR pins σ _ s' ea C dx I5 ⟨_, _, ea', rfl, rfl, rfl, rfl⟩ (fun b hb => by rw [show b = ea by simpa using hb]; exact ⟨drop_self, nw, np⟩) hE
end
section
variable {P : Program} {w : World} {K : PySem.W.Frag} {mg : Str → Option Value} {base : Heap} {N : List Str} {qual : Str} {scope : Scope} {f : Addr} {cd : Value} {A : Around} {outer : List Env} {s0 : Shared} {H0 : Hp} {E : XK}
theorem raisesF : Raises (cxOf (CXF P w) P w K mg base N qual scope f cd A outer s0 H0 E) E := fun pins σ H s a C dx I x nw hE => leaves I x (fun _ _ z => by cases z) nw hE
end
end L2
namespace HT
open PySem PyProof.Rows
def lexLe : List Int → List Int → Bool
  | [], _ => true
  | _ :: _, [] => false
  | x :: xs, y :: ys => if x = y then lexLe xs ys else decide (x ≤ y)
theorem lexLe_cons (x y : Int) (xs ys : List Int) : lexLe (x :: xs) (y :: ys) = if x = y then lexLe xs ys else decide (x ≤ y) := rfl
theorem lexLe_nil (ys : List Int) : lexLe [] ys = true := by cases ys <;> rfl
theorem lexLe_cons_nil (x : Int) (xs : List Int) : lexLe (x :: xs) [] = false := rfl
theorem rcLe_int (A : Around) (s : Shared) (a : Int) (t : Tok) (c : Int) (u : Tok) (prog : Program) (w : World) (E : Value → Shared → Prop) (Q : Value → Shared → Prop) (h : Q (.bool (decide (a ≤ c))) s) :
    wpAny (model prog w) A (richCompare .LtE (.int a t) (.int c u)) Q E s :=
  (PyProof.Rows.le_int h : wpAny (model prog w) A (compareOp .LtE (.int a t) (.int c u)) Q E s)
section
open PySem.SeqAt
open PySem.AutoSeq1 (wpAny_loadPart')
open PySem.MeetsSeq PySem.MeetsSeq2 PySem.MeetsSeq3
theorem tuple_le_ints (l b : Addr) (items items2 : Array Value) (n n2 : Nat) (dd dd2 : Option Addr) (sl sl2 : Array (Option Value)) (ns ms : List Int) (hi : IntsAre items.toList ns) (hj : IntsAre items2.toList ms) :
    Meets (Builtin.«tuple.__le__» ⟨[.ref l, .ref b], []⟩)
      (fun _ R s => s.heap.get? l = some { cls := .type "tuple", dict := dd, data := .seq items n, slots := sl } ∧ s.heap.get? b = some { cls := .type "tuple", dict := dd2, data := .seq items2 n2, slots := sl2 } ∧
        R (.ok (.ret (.bool (lexLe ns ms)))) s) :=
  .of_wp fun prog w A R s h => by
    obtain ⟨hp, g, d, tk, os⟩ := s; obtain ⟨hl, hb, h⟩ := h
    have f2 := AutoSeq1.sub_tuple_tuple
    have z1 : items.size = ns.length := by rw [← hi.length]; simp
    have z2 : items2.size = ms.length := by rw [← hj.length]; simp
    wp_walk using wpAny_loadPart' hl, wpAny_loadPart' hb, wpAny_forIn_list _ (fun rest b s' => b.1 = none ∧ s' = ⟨hp, g, d, tk, os⟩ ∧ ∃ (vs ws : List Value) (ns' ms' : List Int), rest = vs.zip ws ∧
      IntsAre vs ns' ∧ IntsAre ws ms' ∧ ns'.length + items2.size = ms'.length + items.size ∧ R (.ok (.ret (.bool (lexLe ns' ms')))) ⟨hp, g, d, tk, os⟩) _
    case turn =>
      rintro ⟨y, x⟩ rest b s' ⟨hb', rfl, vs, ws, ns', ms', hz, hvi, hwi, hlen, hR⟩
      cases hvi with
      | nil => rw [List.zip_nil_left] at hz; cases hz
      | cons a t hvi' =>
        cases hwi with
        | nil => rw [List.zip_nil_right] at hz; cases hz
        | cons c u hwi' =>
          rw [List.zip_cons_cons] at hz
          injection hz with hyx hrest
          injection hyx with hy hx
          subst hy hx
          rw [lexLe_cons] at hR
          simp only [List.length_cons] at hlen
          obtain ⟨e, he, hiff⟩ := eqAt_int A.in1 ⟨hp, g, d, tk, os⟩ a t c u
          refine wpAny_bind (he prog w _ _ ?_)
          cases e with
          | true =>
            rw [if_pos (hiff.mp rfl)] at hR
            wp_walk
            exact ⟨rfl, rfl, _, _, _, _, hrest, hvi', hwi', by omega, hR⟩
          | false =>
            rw [if_neg (fun q => absurd (hiff.mpr q) Bool.false_ne_true)] at hR
            have hri := rcLe_int A.in1 ⟨hp, g, d, tk, os⟩ a t c u prog w
            wp_walk using hri
            exact ⟨_, rfl, by simpa using hR⟩
    case fin =>
      rintro ⟨b1, b2⟩ s' ⟨hb', rfl, vs, ws, ns', ms', hz, hvi, hwi, hlen, hR⟩
      simp only at hb'
      subst hb'
      have hv : lexLe ns' ms' = decide (items.size ≤ items2.size) := by
        cases hvi with
        | nil =>
          have : ms'.length = ms'.length := rfl
          simp only [List.length_nil] at hlen
          rw [lexLe_nil]
          exact (decide_eq_true (by omega)).symm
        | cons a t hv =>
          cases hwi with
          | nil =>
            simp only [List.length_nil, List.length_cons] at hlen
            rw [lexLe_cons_nil]
            exact (decide_eq_false (by omega)).symm
          | cons c u hw =>
            rw [List.zip_cons_cons] at hz
            cases hz
      rw [hv] at hR
      wp_walk
      exact ⟨_, rfl, by simpa [Builtin.Tuple.tupleCompareSizes] using hR⟩
    case h =>
      exact ⟨rfl, rfl, items.toList, items2.toList, ns, ms, rfl, hi, hj, by omega, h⟩
end
section
variable {prog : Program} {w : World} {A : Around} {E : Value → Shared → Prop} {s : Shared}
theorem le_tupInts {l b : Addr} {items items2 : Array Value} {ns ms : List Int} {Q : Value → Shared → Prop} (hl : IsTup s.heap l items) (hb : IsTup s.heap b items2) (hi : IntsAre items.toList ns) (hj : IntsAre items2.toList ms)
    (hu : A.units < cLine) (h : Q (.bool (lexLe ns ms)) s) : wpAny (model prog w) A (compareOp .LtE (.ref l) (.ref b)) Q E s := by
  obtain ⟨⟨cls, dd, data, sl⟩, ho, hc, n, hd⟩ := id hl
  obtain ⟨⟨cls2, dd2, data2, sl2⟩, ho2, hc2, n2, hd2⟩ := id hb
  simp only at hc hd hc2 hd2
  subst hc hd hc2 hd2
  exact richCompare_meets_room (op := .LtE) ⟨_, ho, rfl⟩ ⟨_, ho2, rfl⟩ PySem.F.slot_tuple_le PySem.F.entry_tuple_le (PySem.F.args_tuple_le_2 _ _) (tuple_le_ints l b items items2 n n2 dd dd2 sl sl2 ns ms hi hj)
    ⟨ho, ho2, show Value.bool (lexLe ns ms) ≠ Value.notImplemented ∧ Q (.bool (lexLe ns ms)) s from ⟨(fun x => nomatch x), h⟩⟩ hu
end
end HT
namespace L2
open PySem PySem.Spec PyProof.Rows XL
section
variable {X : Cx}
def rLeT (K : PySem.W.Frag) : R2 := fun x y H Q => ∃ a b ns ms, x = .ref a ∧ y = .ref b ∧ SqT K H a (ns.map V.int) ∧ SqT K H b (ms.map V.int) ∧ Q (.bl (HT.lexLe ns ms)) H
theorem op_leT (hu : X.A.units < cLine) : OpR X (compareOp .LtE) (rLeT X.K) := by
  intro pins s σ H x y v u Q I rx ry h
  obtain ⟨a, b, ns, ms, rfl, rfl, ha, hb, q⟩ := h
  cases rx
  cases ry
  obtain ⟨its, r1, p1, _⟩ := I.tuple ha
  obtain ⟨its2, r2, p2, _⟩ := I.tuple hb
  have i1 : IntsAre its.toArray.toList ns := intsAre_of r1
  have i2 : IntsAre its2.toArray.toList ms := intsAre_of r2
  exact HT.le_tupInts p1 p2 i1 i2 hu ⟨.bl (HT.lexLe ns ms), H, I, rfl, q⟩
def tCallV (i : Nat) (f : Addr) (sp : Sp) (E : XK) (t : TA) : TE := fun σ H Q => σ[i]? = some (some (.ref f)) ∧ t σ H fun vs H1 => sp vs H1 Q E
theorem pe_callV {CX : CXT} {k i : Nat} {f : Addr} {fd : FuncData} {ps : List Str} {sp : Sp} {E : XK} {x : Str} {p pos : Pos} {e : Expr} {es : List Expr} {t : TA} (F : FnOk X.prog X.w X.K X.mg X.base CX k f fd ps sp) (hr : Room k X.A)
    (hk : PySem.W.keepIn X.K (.ref f) = true) (hb : Binds X.K fd ps []) (hx : Passes CX X E) (ha : PA X (e :: es) t) (hN : X.N[i]? = some x := by rfl)
    (hv : Vis X.env.scope x := by first | exact Or.inl rfl | exact Or.inr (Or.inl rfl) | exact Or.inr (Or.inr rfl)) (hdb : (x == ("__debug__" : Str)) = false := by decide) (hcd : (x == ("__classdict__" : Str)) = false := by decide)
    (he : starEach (e :: es) X.env = (false, eval e X.env) :: starEach es X.env := by rfl) (hpl : (backTo pos (starEach es X.env)).any (·.1) = false := by rfl) :
    PE X (.Call (.Name x p) (e :: es) [] pos) (tCallV i f sp E t) := by
  intro pins s σ H Q I h
  obtain ⟨h1, h⟩ := h
  refine wpAny_Call_Name_kw (thn (pe_var (X := X) (i := i) (x := x) (pos := p) hN hv hdb hcd pins s σ H (fun v H1 => v = .ref f ∧ H1 = H) I ⟨_, h1, rfl, rfl⟩) fun u s1 ⟨v, H1, I1, rv, ev, eH⟩ => ?_)
  subst ev eH
  obtain rfl : u = Value.ref f := rv
  refine PySem.W.callWith_K (h₀ := X.base) I.ok.mod.kin hk (thn (ha pos pins s1 σ H1 _ I1 h) fun us s2 ⟨vs, H2, I2, r, q⟩ => ⟨I2.kIn, ?_⟩) he hpl
  exact run_fn F hr hb .nil hx I2 r (by rw [List.append_nil]; exact q)
end
structure RoomU (k : Nat) (A : Around) : Prop where
  dp : A.depth + 3 * k + 5 < recursionLimit
  un : A.units + 16 * k + 200 < cLine
theorem RoomU.deeper {k : Nat} {A : Around} (r : RoomU (k + 1) A) (env : Env) : RoomU k (A.deeper env) :=
  ⟨by have := r.dp; show A.depth + 1 + 3 * k + 5 < _; omega, by have := r.un; show A.units + 3 + 16 * k + 200 < _; omega⟩
theorem RoomU.depth {k : Nat} {A : Around} (r : RoomU k A) : A.depth < recursionLimit := by have := r.dp; omega
structure FnOkU (P : Program) (w : World) (K : PySem.W.Frag) (mg : Str → Option Value) (base : Heap) (k : Nat) (f : Addr) (fd : FuncData) (ps : List Str) (sp : Sp) : Prop where
  len : ∀ vs H Q E, sp vs H Q E → vs.length = ps.length
  run : ∀ (A : Around) (outer : List Env) (s : Shared) (H : Hp) (args : Args) (us : List Value) (vs : List V) (Q : VK) (E : XK), RoomU k A → Env0 P w K mg base A outer s H → BindsTo s fd args (ps.zip us) → Vals vs us → sp vs H Q E →
    codeAny (model P w) A (.call (.ref f) args) (CR CX0 outer P w H s Q E) s
abbrev Cx.wild (X : Cx) : Cx := { X with calm := false }
theorem inv_startU {P : Program} {w : World} {K : PySem.W.Frag} {mg : Str → Option Value} {base : Heap} {N ps : List Str} {qual : Str} {scope : Scope} {f : Addr} {cd : Value} {A : Around} {outer : List Env} {s s1 : Shared} {H : Hp} {E : XK} {us : List Value} {vs : List V}
    (S : FnScope N ps scope) (e0 : Env0 P w K mg base A outer s H) (hl : vs.length = ps.length) (r : Vals vs us)
    (x : InCallC s s.heap.objs.size (bindL (envOfC qual scope s.heap.objs.size f cd).kindOf (ps.zip us) fun _ => none) (cellsFrom (s.heap.objs.size + 1) scope.names []) (bindC (envOfC qual scope s.heap.objs.size f cd).kindOf (ps.zip us) fun _ => none) s1) :
    Inv (cxOf CX0 P w K mg base N qual scope f cd A outer s H E).wild [] (start N vs) H s1 := by
  have I : Inv (cxOf CX0 P w K mg base N qual scope f cd { A with handled := none } outer s H E) [] (start N vs) H s1 := inv_start S rfl ⟨e0.frames, e0.mod, e0.bs, e0.bsz, e0.funs, e0.frf, e0.hok, e0.bare⟩ hl r x
  exact ⟨⟨I.ok.mod, I.ok.kind, I.ok.glob, I.ok.blt, I.ok.above, I.ok.inj, I.ok.has, I.ok.cab, (fun z => Bool.noConfusion z), I.ok.frames, I.ok.stk, I.ok.exf, I.ok.bs, I.ok.bsz, I.ok.noex, I.ok.exfs, I.ok.funs, I.ok.frf⟩, I.os, I.bare, I.base, I.loc, I.cell, I.free, I.freeC, I.pin, I.hok, I.len⟩
theorem fn_ofU {P : Program} {w : World} {K : PySem.W.Frag} {mg : Str → Option Value} {base : Heap} {k : Nat} {f : Addr} {name qual : Str} {params : Arguments} {body : List Stmt} {scope : Scope} {dV kV doc pm cdv ct oc : Value} {an od : Option Addr}
    {osl : Array (Option Value)} {N ps : List Str} {sp : Sp} (lk : K.lookup f = some ⟨oc, od, .func (PySem.W.fnOf name qual params body scope dV kV doc pm an cdv ct), osl⟩) (hcd : PySem.W.codeIn K cdv qual = true) (S : FnScope N ps scope)
    (len : ∀ vs H Q E, sp vs H Q E → vs.length = ps.length)
    (hbody : ∀ (A : Around) (outer : List Env) (s : Shared) (H : Hp) (vs : List V) (Q : VK) (E : XK), RoomU k (A.deeper (envOfC qual scope s.heap.objs.size f cdv)) → sp vs H Q E →
      ∃ t, PSs (cxOf CX0 P w K mg base N qual scope f cdv A outer s H E).wild.nox body t ∧ t { nx := fun _ H' => Q .non H', rt := Q } (start N vs) H) :
    FnOkU P w K mg base (k + 1) f (PySem.W.fnOf name qual params body scope dV kV doc pm an cdv ct) ps sp := by
  refine ⟨len, fun A outer s H args us vs Q E hr e0 hb r hsp => ?_⟩
  have hl := len _ _ _ _ hsp
  have KX : K.In s.heap := e0.mod.kin.keeps fun b o e => (e0.bs b o e).1
  have lim : s.heap.NoLimit := e0.mod.nolimit.keeps fun b o e => (e0.bs b o e).1
  have hkind : ∀ y ∈ ps.zip us, scope.names.lookup y.1 = some .local ∨ (scope.names.lookup y.1 = some .cell ∧ ((cellsFrom (s.heap.objs.size + 1) scope.names []).lookup y.1).isSome = true) := fun ⟨n, v⟩ hy => by
    rcases S.par n (List.of_mem_zip hy).1 with q | q
    · exact .inl q
    · exact .inr ⟨q, PySem.W.cellsFrom_some _ _ _ (.inl q)⟩
  refine codeAny_call_function hr.depth (KX _ _ lk) rfl S.co S.gen rfl (PySem.W.codeRec_of KX hcd) (hb _ _ _ _ ?_)
  refine wpAny_newFunctionEnv_cells S.kind hkind fun env he s1 x => ?_
  subst he
  refine ⟨lim.keeps x.toInCall.keep, codeAny_func ?_⟩
  obtain ⟨t, ht, hq⟩ := hbody A outer s H vs Q E (hr.deeper _) hsp
  have I := inv_startU (E := E) S e0 hl r x
  refine wpAny_mono (ht [] s1 (start N vs) H _ (I.wish _) hq) (fun fl s' hs => ?_) fun e s' hs => False.elim hs
  cases fl with
  | ret u =>
    obtain ⟨v, σ', H', J, rv, q⟩ := hs
    exact ⟨v, H', J.os, J.bare, J.base, J.hok, rv, q⟩
  | next =>
    obtain ⟨σ', H', J, q⟩ := hs
    exact ⟨.non, H', J.os, J.bare, J.base, J.hok, rfl, q⟩
  | brk =>
    obtain ⟨_, _, _, q⟩ := hs
    exact False.elim q
  | cont =>
    obtain ⟨_, _, _, q⟩ := hs
    exact False.elim q
section
variable {X : Cx}
theorem pe_callU {k : Nat} {f : Addr} {fd : FuncData} {ps : List Str} {sp : Sp} {x : Str} {p pos : Pos} {e : Expr} {es : List Expr} {t : TA} (F : FnOkU X.prog X.w X.K X.mg X.base k f fd ps sp) (hr : RoomU k X.A) (hg : Gl X x) (hm : X.mg x = some (.ref f))
    (hk : PySem.W.keepIn X.K (.ref f) = true) (hb : Binds X.K fd ps []) (ha : PA X (e :: es) t) (hdb : (x == ("__debug__" : Str)) = false := by decide)
    (he : starEach (e :: es) X.env = (false, eval e X.env) :: starEach es X.env := by rfl) (hpl : (backTo pos (starEach es X.env)).any (·.1) = false := by rfl) : PE X (.Call (.Name x p) (e :: es) [] pos) (tCall sp [] E0 t) := by
  intro pins s σ H Q I h
  refine wpAny_Call_Name_kw (ld_glob I hg hm ?_ hdb)
  refine PySem.W.callWith_K (h₀ := X.base) I.ok.mod.kin hk (thn (ha pos pins s σ H _ I h) fun us s1 ⟨vs, H1, I1, r, q⟩ => ⟨I1.kIn, ?_⟩) he hpl
  have q : sp (vs ++ []) H1 Q E0 := q
  rw [List.append_nil] at q
  have hl : (us ++ []).length = ps.length := by rw [List.append_nil, ← r.length]; exact F.len _ _ _ _ q
  have hbn := hb s1 us I1.kIn hl
  rw [List.append_nil] at hbn
  refine wpAny_call (codeAny_mono (F.run X.A X.stack s1 H1 ⟨us, []⟩ us vs Q E0 hr I1.env0 hbn r q) fun r s' hq => ?_)
  cases r with
  | error e => exact False.elim hq
  | ok fl =>
    cases fl with
    | ret u => exact I1.after hq
    | next => exact False.elim hq
    | brk => exact False.elim hq
    | cont => exact False.elim hq
end
abbrev Cx.hand (X : Cx) (ea : Addr) : Cx := { X with A := X.A.mark (some (.ref ea)), calm := false, xe := fun _ _ => False }
section
variable {X : Cx} {pins : List (Addr × Obj)} {σ : St} {H : Hp} {s : Shared}
theorem Inv.hand (I : Inv X pins σ H s) (ea : Addr) : Inv (X.hand ea) pins σ H s :=
  ⟨⟨I.ok.mod, I.ok.kind, I.ok.glob, I.ok.blt, I.ok.above, I.ok.inj, I.ok.has, I.ok.cab, (fun z => Bool.noConfusion z), I.ok.frames, I.ok.stk, I.ok.exf, I.ok.bs, I.ok.bsz, I.ok.noex, I.ok.exfs, I.ok.funs, I.ok.frf⟩, I.os, I.bare, I.base, I.loc, I.cell, I.free, I.freeC, I.pin, I.hok, I.len⟩
theorem Inv.unhanded {ea : Addr} {h' : Heap} {t' : Nat} {m' : Str → Option Value} (ok : X.Ok) (hxe : X.ex = []) (I : Inv (X.hand ea) pins σ H s) (n : h'.Ns X.env.locals m') (sb : Heap.SameBut X.env.locals s.heap h') :
    Inv X pins (List.replicate X.N.length none) H { s with heap := h', toks := t' } := by
  have kp : ∀ b o, b ≠ X.env.locals → s.heap.get? b = some o → h'.get? b = some o := fun b o n q => by rw [sb.2 b n]; exact q
  have neL : ∀ b o, X.s_0.heap.get? b = some o → b ≠ X.env.locals := fun b o e => Nat.ne_of_lt (Nat.lt_of_lt_of_le (Heap.lt_size e) ok.above)
  have fr : H X.env.locals = none := I.free
  refine ⟨ok, I.os, I.bare, ⟨fun b o e n hb hx => kp b o (neL b o e) (I.base.keep b o e n hb hx), fun b o e n hb hx => ?_, I.base.free, fun b o e hx => ?_, I.base.tups, I.base.frzs, I.base.tbls⟩, ⟨m', n, fun i x v _ e2 _ => ?_⟩, fun x c e => ?_, I.free, I.freeC, fun p hp => ?_, fun b u e => ?_, by simp⟩
  · obtain ⟨sl, q⟩ := I.base.slot b o e n hb hx
    exact ⟨sl, kp b _ (neL b o e) q⟩
  · obtain ⟨o', q⟩ := I.base.there b o e hx
    exact ⟨o', kp b o' (neL b o e) q⟩
  · rw [List.getElem?_replicate] at e2
    split at e2 <;> cases e2
  · obtain ⟨v, o, ho, hd⟩ := I.cell x c e
    exact ⟨v, o, kp c o (I.cne x c e) ho, hd⟩
  · obtain ⟨z1, z2, z3, z4⟩ := I.pin p hp
    exact ⟨kp _ _ z3 z1, z2, z3, z4⟩
  · refine (I.hok b u e).stay (fun c v hc q => kp c v (fun z => ?_) q) (fun _ q => q) fun _ _ q => q
    rcases hc with hc | hc
    · rw [z] at hc; rw [← hc, fr] at e; cases e
    · rw [z, fr] at hc; cases hc
end
abbrev Cx.tryB (X : Cx) (pn : List (Addr × Obj)) (Z : Value → Shared → Prop) : Cx := { X with pn := pn, xe := Z }
def CatchOk (X : Cx) (pn : List (Addr × Obj)) (Z : Value → Shared → Prop) (E : XK) : Prop := Passes (CXF X.prog X.w) (X.tryB pn Z) E
section
variable {X : Cx} {pins pins1 : List (Addr × Obj)} {σ : St} {H : Hp} {s : Shared} {Z : Value → Shared → Prop}
theorem Inv.tryB (I : Inv X pins σ H s) : Inv (X.tryB (X.pn ++ pins) Z) [] σ H s :=
  ⟨⟨I.ok.mod, I.ok.kind, I.ok.glob, I.ok.blt, I.ok.above, I.ok.inj, I.ok.has, I.ok.cab, I.ok.hd, I.ok.frames, I.ok.stk, I.ok.exf, I.ok.bs, I.ok.bsz, I.ok.noex, I.ok.exfs, I.ok.funs, I.ok.frf⟩, I.os, I.bare, I.base, I.loc, I.cell, I.free, I.freeC,
    fun p hp => I.pin p (by simpa using hp), I.hok, I.len⟩
theorem Inv.untry (ok : X.Ok) (I : Inv (X.tryB (X.pn ++ pins) Z) pins1 σ H s) : Inv X pins σ H s :=
  ⟨ok, I.os, I.bare, I.base, I.loc, I.cell, I.free, I.freeC, fun p hp => I.pin p (List.mem_append_left _ hp), I.hok, I.len⟩
end
section
variable {X : Cx} {C fI : Addr} {names : List Str} {xc n : Str} {np hpos pos : Pos} {body suite : List Stmt} {b0 : Stmt} {tb th : TS} {E : XK} {i : Nat} {Qr : VK}
def tTry (tb : TS) (Qr : VK) : TS := fun D σ H => (∀ v H', Qr v H' → D.rt v H') ∧ tb D σ H
theorem ps_try (W : Own X) (hx0 : X.ex = []) (hN : X.N.Nodup) (c : XCl X.K C fI names) (hg : Gl X xc) (hm : X.mg xc = some (.ref C)) (hi : X.N[i]? = some n) (hl : X.env.kindOf n = some .local) (hln : X.env.scope.names.lookup n = some .local)
    (hb : ∀ pn Z, CatchOk X pn Z E → PSs (X.tryB pn Z) body tb) (hs : ∀ ea, PSs (X.hand ea) (b0 :: suite) th)
    (hE : ∀ C' dx H, E C' (some dx) H → C' = .ref C ∧ ∀ a, H a = none → th { nx := fun _ _ => False, rt := Qr } ((List.replicate X.N.length none).set i (some (.ref a))) (upd H a (XR a C dx))) (hdb : (xc == ("__debug__" : Str)) = false := by decide) :
    PS X (.Try body [.ExceptHandler (some (.Name xc np)) (some n) (b0 :: suite) hpos] [] [] pos) (tTry tb Qr) := by
  intro pins s σ H D I h
  obtain ⟨hQ, h⟩ := h
  have okX := I.ok
  have hcls : (X.env.scope.kind == .class || (X.env.scope.kind == .module && X.env.locals != X.env.globals)) = false := by rw [I.ok.kind]; rfl
  refine wpAny_Try_except (wpAny_mono (hb (X.pn ++ pins) (fun e s1 => wpAny (model X.prog X.w) X.A (noteFrame e X.env) (fun _ s2 => wpAny (model X.prog X.w) X.A (setFlight e none) (fun _ s3 =>
    wpAny (model X.prog X.w) X.A (handleBy e X.env [.ExceptHandler (some (.Name xc np)) (some n) (b0 :: suite) hpos]) (SP X pins D) X.xe s3) X.xe s2) X.xe s1) ?_ [] s σ H D I.tryB h) (fun f s1 q => ?_) fun e s1 q => q)
  rotate_left
  · cases f with
    | next => obtain ⟨σ', H', I', q⟩ := q; exact wpAny_execs_nil ⟨σ', H', I'.untry okX, q⟩
    | ret u => obtain ⟨v, σ', H', I', r, q⟩ := q; exact ⟨v, σ', H', I'.untry okX, r, q⟩
    | brk => obtain ⟨σ', H', I', q⟩ := q; exact ⟨σ', H', I'.untry okX, q⟩
    | cont => obtain ⟨σ', H', I', q⟩ := q; exact ⟨σ', H', I'.untry okX, q⟩
  intro pins1 σ1 H1 s1 e s2 I1 hx
  have I1' : Inv X pins σ1 H1 s1 := I1.untry okX
  obtain ⟨a, T, C', dx, H', rfl, I2, x2, nw, hE2⟩ := I1'.back (P := X.prog) (w := X.w) hx0 hx
  obtain ⟨eC, hsuite⟩ := hE _ _ _ hE2
  cases eC
  show wpAny _ _ (noteFrame (.ref a) X.env) _ _ s2
  refine I2.noted W hx0 x2 (fun T fl e => by cases e; exact .inl rfl) nw fun h3 T3 I3 x3 nw3 => ?_
  refine I3.flown (fr := none) x3 nw3 fun h4 I4 x4 => ?_
  have J4 := I4.hand a
  obtain ⟨nm, q, N, bs, sn, sub, ab, col, dd, k0, k1, k2, k3, k5, mN, cC, _, _, _⟩ := c.at I4.kIn
  obtain ⟨oe, vs, ce, e1, e2, e3, _⟩ := id x4
  refine wpAny_handleBy_cons (codeAny_handlers_test (ld_glob (X := X.hand a) J4 hg hm ?_ hdb)) (by intro q; cases q)
  refine wpAny_excMatches_sub_self cC ce e1 (by decide) ?_
  refine codeAny_handlers_suite_as ?_
  refine Inv.flown (X := X.hand a) (fr := none) J4 x4 nw3 fun h5 J5 x5 => ?_
  obtain ⟨oe5, vs5, ce5, d1, d2, d3, _⟩ := id x5
  obtain ⟨nl, nc⟩ := J5.apart ce5 d3
  obtain ⟨nH, nz, np'⟩ := nw3 a (by simp)
  refine store_ok2 (X := X.hand a) J5 hN hi (.inl hln) (v := .ref a) rfl (fun s6 J6 ⟨ad, sb, hor⟩ => ?_) (.inr hln)
  have ne6 : a ≠ ad := fun z => by
    rcases hor with w | w
    · exact nl (z.trans w)
    · exact nc _ _ w z.symm
  have ce6 : s6.heap.get? a = some oe5 := by rw [sb.2 a ne6]; exact ce5
  have hiN : i < X.N.length := (List.getElem?_eq_some_iff.mp hi).1
  have J6' : Inv (X.hand a) pins ((List.replicate X.N.length none).set i (some (.ref a))) H' s6 := J6.weak (by
    have := J5.len
    simp only [List.length_set, List.length_replicate]
    exact this.symm) fun j v ej => by
      by_cases z : j = i
      · subst z
        rw [List.getElem?_set_self (by simpa using hiN)] at ej
        have hl5 : σ1.length = X.N.length := J5.len
        rw [List.getElem?_set_self (by rw [hl5]; exact hiN)]
        exact ej
      · rw [List.getElem?_set_ne (Ne.symm z), List.getElem?_replicate] at ej
        split at ej <;> cases ej
  have J7 := J6'.tracked (a := a) nH nz nl nc np' (XR.ok (dx := dx) ce6 d1 d2 fun cc z => by rw [d3] at z; cases z)
  refine wpAny_mono (hs a pins s6 _ _ _ J7 (hsuite a nH)) (fun f s7 q => ?_) fun _ _ z => z.elim
  cases f with
  | ret u =>
    obtain ⟨v, σ7, H7, J8, rv, qv⟩ := q
    obtain ⟨m, hn, _⟩ := J8.loc
    refine wpAny_nameGoes (env := X.env) hl hn hcls fun h9 m9 n9 sb9 => ?_
    exact ⟨v, _, H7, J8.unhanded okX hx0 n9 sb9, rv, hQ _ _ qv⟩
  | next => obtain ⟨_, _, _, q⟩ := q; exact q.elim
  | brk => obtain ⟨_, _, _, q⟩ := q; exact q.elim
  | cont => obtain ⟨_, _, _, q⟩ := q; exact q.elim
end
end L2
namespace L2
open PySem PySem.Spec PyProof.Rows XL
structure CMeth (K : PySem.W.Frag) (C : Addr) (m : Str) (f : Addr) : Prop where
  sp : PySem.W.specialIn K (.ref C) "__getattribute__" = some (some (.builtin "type.__getattribute__"))
  rd : PySem.W.readsIn K C (.type "type") = true
  fc : PySem.W.findCls K (.ref C) (.type "type") m = some (.val (.ref f))
  kp : PySem.W.keepIn K (.ref f) = true
section
variable {X : Cx} {CX : CXT} {k : Nat} {C f : Addr} {fd : FuncData} {ps : List Str} {sp : Sp} {E : XK} {x m : Str} {p apos pos : Pos} {e : Expr} {es : List Expr} {t : TA}
theorem pe_cmeth {pl : Sem Bool} (hg : Gl X x) (hm : X.mg x = some (.ref C)) (c : CMeth X.K C m f) (F : FnOk X.prog X.w X.K X.mg X.base CX k f fd ps sp) (hr : Room k X.A) (hb : Binds X.K fd ps []) (hx : Passes CX X E) (ha : PA X (e :: es) t)
    (hdb : (x == ("__debug__" : Str)) = false := by decide) (hst : starEach (e :: es) X.env = (false, eval e X.env) :: starEach es X.env := by rfl) (hpl : (backTo pos (starEach es X.env)).any (·.1) = false := by rfl)
    (ht : eval (.Call (.Attribute (.Name x p) m apos) (e :: es) [] pos) X.env = (do
      let ov ← eval (.Name x p) X.env
      standAt apos.atName
      let (f, first) ← holding [ov] (getMethod ov m pl)
      callWith pos f first (backTo pos (starEach (e :: es) X.env)) (backToKw pos (keywordEach [] X.env))) := by rfl) :
    PE X (.Call (.Attribute (.Name x p) m apos) (e :: es) [] pos) (tCall sp [] E t) := by
  intro pins s σ H Q I h
  refine PySem.W.methodCall_KW (pl := pl) (thn (pe_glob (X := X) (x := x) (v := .ref C) (pos := p) hg hm rfl hdb pins s σ H (fun v H1 => v = .ref C ∧ H1 = H) I ⟨rfl, rfl⟩) fun u s1 ⟨v, H1, I1, rv, ev, eH⟩ => ?_) ht
  subst ev eH
  obtain rfl : u = Value.ref C := rv
  refine PySem.W.method_cls I1.kIn c.sp (PySem.W.cls_value I1.kIn c.rd c.fc rfl ?_)
  have I2 := I1.tok (s1.toks + 1)
  refine PySem.W.callWith_K (first := []) (h₀ := X.base) I.ok.mod.kin c.kp (thn (ha pos pins _ σ H1 _ I2 h) fun us s2 ⟨vs, H2, I3, r, q⟩ => ⟨I3.kIn, ?_⟩) hst hpl
  exact run_fn F hr hb .nil hx I3 r q
end
end L2
namespace JM
open Fk
theorem andThen_ok {α β : Type} (y : α) (f : α → Except Fault β) : andThen (.ok y) f = f y := rfl
theorem andThen_assoc {α β γ : Type} (x : Except Fault α) (f : α → Except Fault β) (g : β → Except Fault γ) : andThen (andThen x f) g = andThen x fun y => andThen (f y) g := by
  cases x <;> rfl
theorem andThen_congr {α β : Type} {x x' : Except Fault α} {f f' : α → Except Fault β} (h : x = x') (hf : ∀ y, x = .ok y → f y = f' y) : andThen x f = andThen x' f' := by
  subst h
  cases x with
  | error e => rfl
  | ok y => exact hf y rfl
theorem numIn_congr {k : Nat} {g g' : Nat → Bool} (h : ∀ v, g v = g' v) (b : Bytes) (p : Nat) : numIn k g b p = numIn k g' b p := by
  have e : g = g' := funext h
  rw [e]
theorem numIn_ok {k : Nat} {g : Nat → Bool} {b : Bytes} {p : Nat} {y : Nat × Bytes × Nat} (h : numIn k g b p = .ok y) : k ≤ b.length ∧ g y.1 = true ∧ y.1 = num (b.take k) ∧ y.2.1 = b.drop k ∧ y.2.2 = p + k := by
  unfold numIn at h
  split at h
  · cases h
  · rename_i h1
    split at h
    · rename_i h2
      cases h
      exact ⟨by omega, h2, rfl, rfl, rfl⟩
    · cases h
def many {α : Type} (one : Bytes → Nat → Except Fault (α × Bytes × Nat)) : Nat → Bytes → Nat → Except Fault (List α × Bytes × Nat)
  | 0, b, p => .ok ([], b, p)
  | k + 1, b, p => andThen (one b p) fun x => andThen (many one k x.2.1 x.2.2) fun l => .ok (x.1 :: l.1, l.2.1, l.2.2)
def markIn : Bytes → Bytes → Nat → Except Fault (Bytes × Nat)
  | [], b, p => .ok (b, p)
  | c :: m, b, p => andThen (numIn 1 (fun _ => true) b p) fun x => andThen (need (decide (x.1 = c.toNat)) 1 p) fun _ => markIn m x.2.1 x.2.2
theorem num_one (c : UInt8) : num [c] = c.toNat := by
  simp [num]
theorem mark_gen : ∀ (m b : Bytes) (p : Nat), markIn m b p = match (List.range m.length).find? fun i => b[i]? != m[i]? with
    | some i => .error ⟨if i < b.length then 1 else 5, p + min i b.length⟩
    | none => .ok (b.drop m.length, p + m.length)
  | [], b, p => by simp [markIn]
  | c :: m, [], p => by
    have e : (List.range (c :: m).length).find? (fun i => ([] : Bytes)[i]? != (c :: m)[i]?) = some 0 := by
      rw [List.length_cons, List.range_succ_eq_map, List.find?_cons]
      have q : (([] : Bytes)[0]? != (c :: m)[0]?) = true := by simp
      rw [q]
    rw [e]
    simp [markIn, numIn, andThen]
  | c :: m, x :: b, p => by
    have ih := mark_gen m b (p + 1)
    rw [List.length_cons, List.range_succ_eq_map, List.find?_cons, List.find?_map]
    have e1 : numIn 1 (fun _ => true) (x :: b) p = .ok (x.toNat, b, p + 1) := by
      simp [numIn, num_one]
    unfold markIn
    rw [e1, andThen_ok]
    show andThen (need (decide (x.toNat = c.toNat)) 1 p) (fun _ => markIn m b (p + 1)) = _
    by_cases hx : x = c
    · subst hx
      have e2 : ((x :: b)[0]? != (x :: m)[0]?) = false := by simp
      rw [e2]
      have e3 : (fun i => (x :: b)[i]? != (x :: m)[i]?) ∘ Nat.succ = fun i => b[i]? != m[i]? := by
        funext i
        simp
      rw [e3]
      have e4 : need (decide (x.toNat = x.toNat)) 1 p = .ok () := by simp [need]
      rw [e4, andThen_ok, ih]
      cases (List.range m.length).find? fun i => b[i]? != m[i]? with
      | none => simp; omega
      | some i =>
        simp only [Option.map_some]
        by_cases hi : i < b.length
        · have : i.succ < (x :: b).length := by simp; omega
          simp [hi]
          omega
        · have : ¬ i.succ < (x :: b).length := by simp; omega
          simp [hi]
          omega
    · have e2 : ((x :: b)[0]? != (c :: m)[0]?) = true := by simp [hx]
      rw [e2]
      have e4 : need (decide (x.toNat = c.toNat)) 1 p = .error ⟨1, p⟩ := by
        have : ¬ x.toNat = c.toNat := fun q => hx (UInt8.toNat_inj.mp q)
        simp [need, this]
      rw [e4]
      simp [andThen]
theorem mark_eq (m b : Bytes) : mark m b = markIn m b 0 := by
  rw [mark_gen]
  unfold mark
  cases (List.range m.length).find? fun i => b[i]? != m[i]? <;> simp
theorem sorted_ext : ∀ {l m : List Nat}, l.Pairwise (· < ·) → m.Pairwise (· < ·) → (∀ x, x ∈ l ↔ x ∈ m) → l = m
  | [], [], _, _, _ => rfl
  | [], y :: m, _, _, h => by have := (h y).mpr (by simp); simp at this
  | x :: l, [], _, _, h => by have := (h x).mp (by simp); simp at this
  | x :: l, y :: m, hl, hm, h => by
    obtain ⟨hx, hl'⟩ := List.pairwise_cons.mp hl
    obtain ⟨hy, hm'⟩ := List.pairwise_cons.mp hm
    have e : x = y := by
      rcases List.mem_cons.mp ((h x).mp (by simp)) with q | q
      · exact q
      · rcases List.mem_cons.mp ((h y).mpr (by simp)) with r | r
        · exact r.symm
        · have a := hx y r
          have b := hy x q
          omega
    subst e
    have ih : l = m := sorted_ext hl' hm' fun z => by
      constructor
      · intro hz
        rcases List.mem_cons.mp ((h z).mp (List.mem_cons.mpr (.inr hz))) with q | q
        · subst q; have := hx z hz; omega
        · exact q
      · intro hz
        rcases List.mem_cons.mp ((h z).mpr (List.mem_cons.mpr (.inr hz))) with q | q
        · subst q; have := hy z hz; omega
        · exact q
    rw [ih]
theorem range_rises (n : Nat) : (List.range n).Pairwise (· < ·) := List.pairwise_lt_range
theorem filter_rises {n : Nat} (p : Nat → Bool) : ((List.range n).filter p).Pairwise (· < ·) := (range_rises n).filter p
def Rising (n : Nat) (l : List (Nat × Nat)) : Prop := (∀ x ∈ l, x.1 < x.2 ∧ x.2 < n) ∧ l.Pairwise fun x y => x.1 < y.1 ∨ (x.1 = y.1 ∧ x.2 < y.2)
def otherEnd (v : Nat) (x : Nat × Nat) : Option Nat := if x.1 = v then some x.2 else if x.2 = v then some x.1 else none
def nbrs (l : List (Nat × Nat)) (v : Nat) : List Nat := l.filterMap (otherEnd v)
theorem nbrs_rises {n : Nat} {l : List (Nat × Nat)} (h : Rising n l) (v : Nat) : (nbrs l v).Pairwise (· < ·) := by
  obtain ⟨h1, h2⟩ := h
  unfold nbrs
  rw [List.pairwise_filterMap]
  have h3 : l.Pairwise fun x y => (x.1 < x.2 ∧ y.1 < y.2) ∧ (x.1 < y.1 ∨ (x.1 = y.1 ∧ x.2 < y.2)) := by
    refine List.Pairwise.imp_of_mem ?_ h2
    intro a b ha hb hab
    exact ⟨⟨(h1 a ha).1, (h1 b hb).1⟩, hab⟩
  refine h3.imp ?_
  rintro ⟨xa, xb⟩ ⟨ya, yb⟩ ⟨⟨p1, p2⟩, p3⟩ u hu w hw
  unfold otherEnd at hu hw
  simp only at p1 p2 p3 hu hw
  have cu : (xa = v ∧ xb = u) ∨ (xa ≠ v ∧ xb = v ∧ xa = u) := by
    by_cases q : xa = v
    · rw [if_pos q] at hu; exact .inl ⟨q, Option.some.inj hu⟩
    · rw [if_neg q] at hu
      by_cases q2 : xb = v
      · rw [if_pos q2] at hu; exact .inr ⟨q, q2, Option.some.inj hu⟩
      · rw [if_neg q2] at hu; cases hu
  have cw : (ya = v ∧ yb = w) ∨ (ya ≠ v ∧ yb = v ∧ ya = w) := by
    by_cases q : ya = v
    · rw [if_pos q] at hw; exact .inl ⟨q, Option.some.inj hw⟩
    · rw [if_neg q] at hw
      by_cases q2 : yb = v
      · rw [if_pos q2] at hw; exact .inr ⟨q, q2, Option.some.inj hw⟩
      · rw [if_neg q2] at hw; cases hw
  omega
theorem mem_nbrs {l : List (Nat × Nat)} {v w : Nat} : w ∈ nbrs l v ↔ ∃ x ∈ l, (x.1 = v ∧ x.2 = w) ∨ (x.1 ≠ v ∧ x.2 = v ∧ x.1 = w) := by
  unfold nbrs
  rw [List.mem_filterMap]
  constructor
  · rintro ⟨x, hx, e⟩
    refine ⟨x, hx, ?_⟩
    unfold otherEnd at e
    split at e
    · rename_i q; exact .inl ⟨q, Option.some.inj e⟩
    · rename_i q
      split at e
      · rename_i q2; exact .inr ⟨q, q2, Option.some.inj e⟩
      · cases e
  · rintro ⟨x, hx, e⟩
    refine ⟨x, hx, ?_⟩
    unfold otherEnd
    rcases e with ⟨q1, q2⟩ | ⟨q1, q2, q3⟩
    · rw [if_pos q1, q2]
    · rw [if_neg q1, if_pos q2, q3]
theorem nbrs_filter {n : Nat} {l : List (Nat × Nat)} (h : Rising n l) (v : Nat) (j : Nat → Bool) (hj : ∀ w, j w = l.any fun x => (x.1 == v && x.2 == w) || (x.1 == w && x.2 == v)) : (List.range n).filter j = nbrs l v := by
  refine sorted_ext (filter_rises j) (nbrs_rises h v) fun w => ?_
  rw [List.mem_filter, mem_nbrs, hj, List.mem_range, List.any_eq_true]
  constructor
  · rintro ⟨_, x, hx, e⟩
    refine ⟨x, hx, ?_⟩
    have := h.1 x hx
    simp only [Bool.or_eq_true, Bool.and_eq_true, beq_iff_eq] at e
    omega
  · rintro ⟨x, hx, e⟩
    have := h.1 x hx
    refine ⟨by omega, x, hx, ?_⟩
    simp only [Bool.or_eq_true, Bool.and_eq_true, beq_iff_eq]
    omega
end JM
namespace JM
open Fk
def endsIn (n : Nat) (had : Option (Nat × Nat)) (b : Bytes) (p : Nat) : Except Fault ((Nat × Nat) × Bytes × Nat) :=
    andThen (numIn 1 (fun v => decide (v < n)) b p) fun x =>
    andThen (numIn 1 (fun v => decide (x.1 < v) && decide (v < n)) x.2.1 x.2.2) fun y =>
    andThen (need (match had with
      | some (u, w) => decide (u < x.1) || (u == x.1 && decide (w < y.1))
      | none => true) 3 p) fun _ =>
    .ok ((x.1, y.1), y.2.1, y.2.2)
def manyB {α : Type} (n : Nat) (one : Nat × Nat → Bytes → Nat → Except Fault (α × Bytes × Nat)) : Nat → Option (Nat × Nat) → Bytes → Nat → Except Fault (List α × Bytes × Nat)
  | 0, _, b, p => .ok ([], b, p)
  | k + 1, had, b, p =>
    andThen (endsIn n had b p) fun q => andThen (one q.1 q.2.1 q.2.2) fun x => andThen (manyB n one k (some q.1) x.2.1 x.2.2) fun l => .ok (x.1 :: l.1, l.2.1, l.2.2)
def oneMAtom (b : Bytes) (p : Nat) : Except Fault (Atom × Bytes × Nat) :=
    andThen (numIn 1 (fun v => decide (1 ≤ v) && decide (v ≤ ELEMENTS)) b p) fun e =>
    andThen (numIn 2 (fun v => decide (v ≤ ISOTOPE)) e.2.1 e.2.2) fun i =>
    andThen (numIn 1 (fun v => decide (v ≤ 8)) i.2.1 i.2.2) fun c =>
    andThen (numIn 1 (fun v => decide (v ≤ 7)) c.2.1 c.2.2) fun h =>
    andThen (numIn 1 (fun v => decide (v ≤ 2)) h.2.1 h.2.2) fun s =>
    .ok (⟨e.1, i.1, (c.1 : Int) - 4, h.1, s.1⟩, s.2.1, s.2.2)
theorem atomsIn_eq : ∀ (k : Nat) (b : Bytes) (p : Nat), atomsIn k b p = many oneMAtom k b p
  | 0, b, p => rfl
  | k + 1, b, p => by
    unfold atomsIn many oneMAtom
    simp only [andThen_assoc, andThen_ok, atomsIn_eq k]
    rfl
def oneMBond (q : Nat × Nat) (b : Bytes) (p : Nat) : Except Fault (Bond × Bytes × Nat) :=
    andThen (numIn 1 (fun v => decide (1 ≤ v) && decide (v ≤ 3)) b p) fun o =>
    andThen (numIn 1 (fun v => decide (v ≤ 2)) o.2.1 o.2.2) fun s =>
    .ok (⟨q.1, q.2, o.1, s.1⟩, s.2.1, s.2.2)
theorem bondsIn_eq (n : Nat) : ∀ (k : Nat) (had : Option (Nat × Nat)) (b : Bytes) (p : Nat), bondsIn n k had b p = manyB n oneMBond k had b p
  | 0, had, b, p => rfl
  | k + 1, had, b, p => by
    unfold bondsIn manyB oneMBond endsIn
    simp only [andThen_assoc, andThen_ok, bondsIn_eq n k]
    rfl
theorem many_length {α : Type} {one : Bytes → Nat → Except Fault (α × Bytes × Nat)} : ∀ {k : Nat} {b : Bytes} {p : Nat} {y : List α × Bytes × Nat}, many one k b p = .ok y → y.1.length = k
  | 0, b, p, y, h => by cases h; rfl
  | k + 1, b, p, y, h => by
    unfold many at h
    cases h1 : one b p with
    | error e => rw [h1] at h; cases h
    | ok x =>
      rw [h1, andThen_ok] at h
      cases h2 : many one k x.2.1 x.2.2 with
      | error e => rw [h2] at h; cases h
      | ok l =>
        rw [h2, andThen_ok] at h
        cases h
        simp [many_length h2]
theorem manyB_length {α : Type} {n : Nat} {one : Nat × Nat → Bytes → Nat → Except Fault (α × Bytes × Nat)} : ∀ {k : Nat} {had : Option (Nat × Nat)} {b : Bytes} {p : Nat} {y : List α × Bytes × Nat}, manyB n one k had b p = .ok y → y.1.length = k
  | 0, _, b, p, y, h => by cases h; rfl
  | k + 1, had, b, p, y, h => by
    unfold manyB at h
    cases h0 : endsIn n had b p with
    | error e => rw [h0] at h; cases h
    | ok q =>
      rw [h0, andThen_ok] at h
      cases h1 : one q.1 q.2.1 q.2.2 with
      | error e => rw [h1] at h; cases h
      | ok x =>
        rw [h1, andThen_ok] at h
        cases h2 : manyB n one k (some q.1) x.2.1 x.2.2 with
        | error e => rw [h2] at h; cases h
        | ok l =>
          rw [h2, andThen_ok] at h
          cases h
          simp [manyB_length h2]
theorem endsIn_ok {n : Nat} {had : Option (Nat × Nat)} {b : Bytes} {p : Nat} {q : (Nat × Nat) × Bytes × Nat} (h : endsIn n had b p = .ok q) :
    q.1.1 < q.1.2 ∧ q.1.2 < n ∧ ∀ u, had = some u → u.1 < q.1.1 ∨ (u.1 = q.1.1 ∧ u.2 < q.1.2) := by
  unfold endsIn at h
  cases h1 : numIn 1 (fun v => decide (v < n)) b p with
  | error e => rw [h1] at h; cases h
  | ok x =>
    rw [h1, andThen_ok] at h
    cases h2 : numIn 1 (fun v => decide (x.1 < v) && decide (v < n)) x.2.1 x.2.2 with
    | error e => rw [h2] at h; cases h
    | ok y =>
      rw [h2, andThen_ok] at h
      have g2 := (numIn_ok h2).2.1
      simp only [Bool.and_eq_true, decide_eq_true_eq] at g2
      cases had with
      | none =>
        cases h
        exact ⟨g2.1, g2.2, fun u hu => by cases hu⟩
      | some uw =>
        obtain ⟨u, w⟩ := uw
        have h : andThen (need (decide (u < x.1) || (u == x.1 && decide (w < y.1))) 3 p) (fun _ => Except.ok ((x.1, y.1), y.2.1, y.2.2)) = Except.ok q := h
        cases hc : (decide (u < x.1) || (u == x.1 && decide (w < y.1))) with
        | false =>
          rw [hc] at h
          cases h
        | true =>
          rw [hc] at h
          cases h
          refine ⟨g2.1, g2.2, fun u' hu => ?_⟩
          cases hu
          simp only [Bool.or_eq_true, Bool.and_eq_true, beq_iff_eq, decide_eq_true_eq] at hc
          exact hc
theorem manyB_rises {α : Type} {n : Nat} {one : Nat × Nat → Bytes → Nat → Except Fault (α × Bytes × Nat)} {ends : α → Nat × Nat} (ho : ∀ q b p x, one q b p = .ok x → ends x.1 = q) :
    ∀ {k : Nat} {had : Option (Nat × Nat)} {b : Bytes} {p : Nat} {y : List α × Bytes × Nat}, manyB n one k had b p = .ok y →
      Rising n (y.1.map ends) ∧ ∀ u, had = some u → ∀ x ∈ y.1.map ends, u.1 < x.1 ∨ (u.1 = x.1 ∧ u.2 < x.2)
  | 0, _, b, p, y, h => by
    cases h
    exact ⟨⟨by simp, by simp⟩, by simp⟩
  | k + 1, had, b, p, y, h => by
    unfold manyB at h
    cases h0 : endsIn n had b p with
    | error e => rw [h0] at h; cases h
    | ok q =>
      rw [h0, andThen_ok] at h
      obtain ⟨g1, g2, g3⟩ := endsIn_ok h0
      cases h1 : one q.1 q.2.1 q.2.2 with
      | error e => rw [h1] at h; cases h
      | ok x =>
        rw [h1, andThen_ok] at h
        have ex := ho _ _ _ _ h1
        cases h2 : manyB n one k (some q.1) x.2.1 x.2.2 with
        | error e => rw [h2] at h; cases h
        | ok l =>
          rw [h2, andThen_ok] at h
          cases h
          obtain ⟨⟨i1, i2⟩, i3⟩ := manyB_rises ho h2
          have i3 := i3 _ rfl
          simp only [List.map_cons, ex]
          refine ⟨⟨fun z hz => ?_, List.pairwise_cons.mpr ⟨fun z hz => i3 z hz, i2⟩⟩, fun u hu z hz => ?_⟩
          · rcases List.mem_cons.mp hz with r | r
            · subst r; exact ⟨g1, g2⟩
            · exact i1 z r
          · have g := g3 u hu
            rcases List.mem_cons.mp hz with r | r
            · subst r; exact g
            · have := i3 z r
              omega
def pends (z : PBond × Nat) : Nat × Nat := (z.1.a, z.1.b)
end JM
namespace MP
open PySem PySem.Spec PyProof.Rows L2
def top (i : Nat) : Stmt := PySem.Challenge.pw_moleculeparts_s03_cut.main.body.getD i (.Pass ⟨0, 0, 0, 0⟩)
abbrev s_z16 : Stmt := inClass (top 2) 0
abbrev s_z15 : Stmt := inClass (top 2) 1
abbrev s_z12 : Stmt := inClass (top 17) 0
abbrev s_z42 : Stmt := inClass (top 18) 0
abbrev s_z41 : Stmt := inClass (top 18) 1
abbrev s_z48 : Stmt := inClass (top 18) 2
abbrev s_z44 : Stmt := inClass (top 18) 3
abbrev s_z50 : Stmt := inClass (top 18) 4
abbrev s_z47 : Stmt := inClass (top 18) 5
abbrev s_z43 : Stmt := inClass (top 18) 6
abbrev s_z49 : Stmt := inClass (top 18) 7
abbrev s_z45 : Stmt := inClass (top 18) 8
abbrev s_z46 : Stmt := inClass (top 18) 9
abbrev s_z53 : Stmt := inClass (top 27) 0
abbrev s_z55 : Stmt := inClass (top 28) 0
abbrev s_z4 : Stmt := inClass (top 50) 0
abbrev s_z6 : Stmt := inClass (top 51) 0
abbrev s_z33 : Stmt := inClass (top 52) 0
abbrev s_z35 : Stmt := inClass (top 52) 1
abbrev s_z34 : Stmt := inClass (top 52) 2
abbrev s_z57 : Stmt := top 0
abbrev s_z69 : Stmt := top 3
abbrev s_z81 : Stmt := top 19
abbrev s_z73 : Stmt := top 29
abbrev s_z59 : Stmt := top 30
abbrev s_z82 : Stmt := top 31
abbrev s_z63 : Stmt := top 32
abbrev s_z77 : Stmt := top 33
abbrev s_z70 : Stmt := top 38
abbrev s_z71 : Stmt := top 39
abbrev s_z75 : Stmt := top 40
abbrev s_z78 : Stmt := top 41
abbrev s_z66 : Stmt := top 42
abbrev s_z60 : Stmt := top 43
abbrev s_z61 : Stmt := top 44
abbrev s_z72 : Stmt := top 53
abbrev s_z74 : Stmt := top 54
abbrev s_z79 : Stmt := top 55
abbrev s_z80 : Stmt := top 56
abbrev s_z67 : Stmt := top 57
abbrev s_z68 : Stmt := top 58
abbrev s_z64 : Stmt := top 59
abbrev s_z62 : Stmt := top 65
abbrev s_z65 : Stmt := top 66
abbrev s_z76 : Stmt := top 67
abbrev s_z58 : Stmt := top 68
structure Ad where
  c_z14 : Addr
  c_z11 : Addr
  c_z40 : Addr
  c_z52 : Addr
  c_z54 : Addr
  c_z3 : Addr
  c_z5 : Addr
  c_z32 : Addr
  f_z16 : Addr
  d_z16 : FuncData
  f_z15 : Addr
  d_z15 : FuncData
  f_z12 : Addr
  d_z12 : FuncData
  f_z42 : Addr
  d_z42 : FuncData
  f_z41 : Addr
  d_z41 : FuncData
  f_z48 : Addr
  d_z48 : FuncData
  f_z44 : Addr
  d_z44 : FuncData
  f_z50 : Addr
  d_z50 : FuncData
  f_z47 : Addr
  d_z47 : FuncData
  f_z43 : Addr
  d_z43 : FuncData
  f_z49 : Addr
  d_z49 : FuncData
  f_z45 : Addr
  d_z45 : FuncData
  f_z46 : Addr
  d_z46 : FuncData
  f_z53 : Addr
  d_z53 : FuncData
  f_z55 : Addr
  d_z55 : FuncData
  f_z4 : Addr
  d_z4 : FuncData
  f_z6 : Addr
  d_z6 : FuncData
  f_z33 : Addr
  d_z33 : FuncData
  f_z35 : Addr
  d_z35 : FuncData
  f_z34 : Addr
  d_z34 : FuncData
  f_z57 : Addr
  d_z57 : FuncData
  f_z69 : Addr
  d_z69 : FuncData
  f_z81 : Addr
  d_z81 : FuncData
  f_z73 : Addr
  d_z73 : FuncData
  f_z59 : Addr
  d_z59 : FuncData
  f_z82 : Addr
  d_z82 : FuncData
  f_z63 : Addr
  d_z63 : FuncData
  f_z77 : Addr
  d_z77 : FuncData
  f_z70 : Addr
  d_z70 : FuncData
  f_z71 : Addr
  d_z71 : FuncData
  f_z75 : Addr
  d_z75 : FuncData
  f_z78 : Addr
  d_z78 : FuncData
  f_z66 : Addr
  d_z66 : FuncData
  f_z60 : Addr
  d_z60 : FuncData
  f_z61 : Addr
  d_z61 : FuncData
  f_z72 : Addr
  d_z72 : FuncData
  f_z74 : Addr
  d_z74 : FuncData
  f_z79 : Addr
  d_z79 : FuncData
  f_z80 : Addr
  d_z80 : FuncData
  f_z67 : Addr
  d_z67 : FuncData
  f_z68 : Addr
  d_z68 : FuncData
  f_z64 : Addr
  d_z64 : FuncData
  f_z62 : Addr
  d_z62 : FuncData
  f_z65 : Addr
  d_z65 : FuncData
  f_z76 : Addr
  d_z76 : FuncData
  f_z58 : Addr
  d_z58 : FuncData
  a_z21 : Addr
  a_z38 : Addr
  a_z20 : Addr
structure Txt (K : PySem.W.Frag) (mg : Str → Option Value) (t : Ad) : Prop where
  F_z16 : Fun K "__init__" "Graph.__init__" s_z16 t.f_z16 t.d_z16
  B_z16 : Binds K t.d_z16 ["self", "atoms", "bonds"] []
  F_z15 : Fun K "besides" "Graph.besides" s_z15 t.f_z15 t.d_z15
  B_z15 : Binds K t.d_z15 ["self", "end", "other"] []
  F_z12 : Fun K "__init__" "FormFault.__init__" s_z12 t.f_z12 t.d_z12
  B_z12 : Binds K t.d_z12 ["self", "which", "rule", "place"] []
  F_z42 : Fun K "__init__" "Reader.__init__" s_z42 t.f_z42 t.d_z42
  B_z42 : Binds K t.d_z42 ["self", "form", "which"] []
  F_z41 : Fun K "fault" "Reader.fault" s_z41 t.f_z41 t.d_z41
  B_z41 : Binds K t.d_z41 ["self", "rule", "place"] []
  F_z48 : Fun K "take_number" "Reader.take_number" s_z48 t.f_z48 t.d_z48
  B_z48 : Binds K t.d_z48 ["self", "size"] []
  F_z44 : Fun K "take_between" "Reader.take_between" s_z44 t.f_z44 t.d_z44
  B_z44 : Binds K t.d_z44 ["self", "size", "least", "greatest"] []
  F_z50 : Fun K "take_range" "Reader.take_range" s_z50 t.f_z50 t.d_z50
  B_z50 : Binds K t.d_z50 ["self", "size", "most"] []
  F_z47 : Fun K "take_mark" "Reader.take_mark" s_z47 t.f_z47 t.d_z47
  B_z47 : Binds K t.d_z47 ["self", "mark"] []
  F_z43 : Fun K "take_atoms" "Reader.take_atoms" s_z43 t.f_z43 t.d_z43
  B_z43 : Binds K t.d_z43 ["self", "n", "take_atom"] []
  F_z49 : Fun K "take_pair" "Reader.take_pair" s_z49 t.f_z49 t.d_z49
  B_z49 : Binds K t.d_z49 ["self", "n", "before"] []
  F_z45 : Fun K "take_bonds" "Reader.take_bonds" s_z45 t.f_z45 t.d_z45
  B_z45 : Binds K t.d_z45 ["self", "n", "m", "take_bond"] []
  F_z46 : Fun K "take_end" "Reader.take_end" s_z46 t.f_z46 t.d_z46
  B_z46 : Binds K t.d_z46 ["self"] []
  F_z53 : Fun K "__init__" "SaidOfAtom.__init__" s_z53 t.f_z53 t.d_z53
  B_z53 : Binds K t.d_z53 ["self", "named", "isotope", "charge", "hydrogens", "neighbours", "total", "ring", "hand"] []
  F_z55 : Fun K "__init__" "SaidOfBond.__init__" s_z55 t.f_z55 t.d_z55
  B_z55 : Binds K t.d_z55 ["self", "pair", "orders", "how", "ring", "side"] []
  F_z4 : Fun K "__init__" "Atom.__init__" s_z4 t.f_z4 t.d_z4
  B_z4 : Binds K t.d_z4 ["self", "element", "isotope", "charge", "hydrogens", "hand"] []
  F_z6 : Fun K "__init__" "Bond.__init__" s_z6 t.f_z6 t.d_z6
  B_z6 : Binds K t.d_z6 ["self", "pair", "order", "side"] []
  F_z33 : Fun K "__init__" "Molecule.__init__" s_z33 t.f_z33 t.d_z33
  B_z33 : Binds K t.d_z33 ["self", "atoms", "bonds"] []
  F_z35 : Fun K "row_around" "Molecule.row_around" s_z35 t.f_z35 t.d_z35
  B_z35 : Binds K t.d_z35 ["self", "atom"] []
  F_z34 : Fun K "orders_between" "Molecule.orders_between" s_z34 t.f_z34 t.d_z34
  B_z34 : Binds K t.d_z34 ["self", "atom", "other"] []
  F_z57 : Fun K "_wall" "_wall" s_z57 t.f_z57 t.d_z57
  B_z57 : Binds K t.d_z57 ["k"] []
  F_z69 : Fun K "neighbour_rows" "neighbour_rows" s_z69 t.f_z69 t.d_z69
  B_z69 : Binds K t.d_z69 ["n", "bonds"] []
  F_z81 : Fun K "take_graph" "take_graph" s_z81 t.f_z81 t.d_z81
  B_z81 : Binds K t.d_z81 ["reader", "mark", "take_atom", "take_bond"] []
  F_z73 : Fun K "pattern_form" "pattern_form" s_z73 t.f_z73 t.d_z73
  B_z73 : Binds K t.d_z73 ["pattern"] []
  F_z59 : Fun K "atom_bytes" "atom_bytes" s_z59 t.f_z59 t.d_z59
  B_z59 : Binds K t.d_z59 ["atom"] []
  F_z82 : Fun K "two_bytes" "two_bytes" s_z82 t.f_z82 t.d_z82
  B_z82 : Binds K t.d_z82 ["number"] []
  F_z63 : Fun K "cut_pattern" "cut_pattern" s_z63 t.f_z63 t.d_z63
  B_z63 : Binds K t.d_z63 ["molecule", "atoms"] []
  F_z77 : Fun K "said_of_element" "said_of_element" s_z77 t.f_z77 t.d_z77
  B_z77 : Binds K t.d_z77 ["element"] []
  F_z70 : Fun K "order_bit" "order_bit" s_z70 t.f_z70 t.d_z70
  B_z70 : Binds K t.d_z70 ["order"] []
  F_z71 : Fun K "order_sums" "order_sums" s_z71 t.f_z71 t.d_z71
  B_z71 : Binds K t.d_z71 ["n", "bonds"] []
  F_z75 : Fun K "redrawn_orders" "redrawn_orders" s_z75 t.f_z75 t.d_z75
  B_z75 : Binds K t.d_z75 ["sums", "bonds"] []
  F_z78 : Fun K "states_behind" "states_behind" s_z78 t.f_z78 t.d_z78
  B_z78 : Binds K t.d_z78 ["states", "bonds", "k"] []
  F_z66 : Fun K "less_order" "less_order" s_z66 t.f_z66 t.d_z66
  B_z66 : Binds K t.d_z66 ["state", "bond", "order"] []
  F_z60 : Fun K "bonds_behind" "bonds_behind" s_z60 t.f_z60 t.d_z60
  B_z60 : Binds K t.d_z60 ["bonds", "k", "atom"] []
  F_z61 : Fun K "can_be_met" "can_be_met" s_z61 t.f_z61 t.d_z61
  B_z61 : Binds K t.d_z61 ["left", "bonds"] []
  F_z72 : Fun K "pair_numbers" "pair_numbers" s_z72 t.f_z72 t.d_z72
  B_z72 : Binds K t.d_z72 ["bonds"] []
  F_z74 : Fun K "read_molecule" "read_molecule" s_z74 t.f_z74 t.d_z74
  B_z74 : Binds K t.d_z74 ["form", "which"] []
  F_z79 : Fun K "take_atom" "take_atom" s_z79 t.f_z79 t.d_z79
  B_z79 : Binds K t.d_z79 ["reader"] []
  F_z80 : Fun K "take_bond" "take_bond" s_z80 t.f_z80 t.d_z80
  B_z80 : Binds K t.d_z80 ["reader", "pair"] []
  F_z67 : Fun K "may_have_hand" "may_have_hand" s_z67 t.f_z67 t.d_z67
  B_z67 : Binds K t.d_z67 ["molecule", "k"] []
  F_z68 : Fun K "may_have_side" "may_have_side" s_z68 t.f_z68 t.d_z68
  B_z68 : Binds K t.d_z68 ["molecule", "k"] []
  F_z64 : Fun K "end_takes_side" "end_takes_side" s_z64 t.f_z64 t.d_z64
  B_z64 : Binds K t.d_z64 ["molecule", "end", "other"] []
  F_z62 : Fun K "cut" "cut" s_z62 t.f_z62 t.d_z62
  B_z62 : Binds K t.d_z62 ["molecule", "atoms"] []
  F_z65 : Fun K "fault_answer" "fault_answer" s_z65 t.f_z65 t.d_z65
  B_z65 : Binds K t.d_z65 ["fault"] []
  F_z76 : Fun K "row_answer" "row_answer" s_z76 t.f_z76 t.d_z76
  B_z76 : Binds K t.d_z76 ["row"] []
  F_z58 : Fun K "are_rising_below" "are_rising_below" s_z58 t.f_z58 t.d_z58
  B_z58 : Binds K t.d_z58 ["atoms", "n"] []
  g_z57 : mg "_wall" = some (.ref t.f_z57)
  g_z69 : mg "neighbour_rows" = some (.ref t.f_z69)
  g_z81 : mg "take_graph" = some (.ref t.f_z81)
  g_z73 : mg "pattern_form" = some (.ref t.f_z73)
  g_z59 : mg "atom_bytes" = some (.ref t.f_z59)
  g_z82 : mg "two_bytes" = some (.ref t.f_z82)
  g_z63 : mg "cut_pattern" = some (.ref t.f_z63)
  g_z77 : mg "said_of_element" = some (.ref t.f_z77)
  g_z70 : mg "order_bit" = some (.ref t.f_z70)
  g_z71 : mg "order_sums" = some (.ref t.f_z71)
  g_z75 : mg "redrawn_orders" = some (.ref t.f_z75)
  g_z78 : mg "states_behind" = some (.ref t.f_z78)
  g_z66 : mg "less_order" = some (.ref t.f_z66)
  g_z60 : mg "bonds_behind" = some (.ref t.f_z60)
  g_z61 : mg "can_be_met" = some (.ref t.f_z61)
  g_z72 : mg "pair_numbers" = some (.ref t.f_z72)
  g_z74 : mg "read_molecule" = some (.ref t.f_z74)
  g_z79 : mg "take_atom" = some (.ref t.f_z79)
  g_z80 : mg "take_bond" = some (.ref t.f_z80)
  g_z67 : mg "may_have_hand" = some (.ref t.f_z67)
  g_z68 : mg "may_have_side" = some (.ref t.f_z68)
  g_z64 : mg "end_takes_side" = some (.ref t.f_z64)
  g_z62 : mg "cut" = some (.ref t.f_z62)
  g_z65 : mg "fault_answer" = some (.ref t.f_z65)
  g_z76 : mg "row_answer" = some (.ref t.f_z76)
  g_z58 : mg "are_rising_below" = some (.ref t.f_z58)
  g_z14 : mg "Graph" = some (.ref t.c_z14)
  C_z14 : Cls K t.c_z14
  K_z14 : Mk K t.c_z14 t.f_z16
  M_z15 : Meth K t.c_z14 "besides" t.f_z15
  n_Graph_atoms : NoAttr K t.c_z14 "atoms"
  n_Graph_bonds : NoAttr K t.c_z14 "bonds"
  n_Graph_neighbours : NoAttr K t.c_z14 "neighbours"
  g_z11 : mg "FormFault" = some (.ref t.c_z11)
  X_z11 : XCl K t.c_z11 t.f_z12 ["__getattribute__", "__getattr__", "__setattr__", "which", "rule", "place"]
  g_z40 : mg "Reader" = some (.ref t.c_z40)
  C_z40 : Cls K t.c_z40
  K_z40 : Mk K t.c_z40 t.f_z42
  M_z41 : Meth K t.c_z40 "fault" t.f_z41
  M_z48 : Meth K t.c_z40 "take_number" t.f_z48
  M_z44 : Meth K t.c_z40 "take_between" t.f_z44
  M_z50 : Meth K t.c_z40 "take_range" t.f_z50
  M_z47 : Meth K t.c_z40 "take_mark" t.f_z47
  M_z43 : Meth K t.c_z40 "take_atoms" t.f_z43
  M_z49 : Meth K t.c_z40 "take_pair" t.f_z49
  M_z45 : Meth K t.c_z40 "take_bonds" t.f_z45
  M_z46 : Meth K t.c_z40 "take_end" t.f_z46
  n_Reader_form : NoAttr K t.c_z40 "form"
  n_Reader_which : NoAttr K t.c_z40 "which"
  n_Reader_place : NoAttr K t.c_z40 "place"
  n_Reader_hand_places : NoAttr K t.c_z40 "hand_places"
  n_Reader_side_places : NoAttr K t.c_z40 "side_places"
  g_z52 : mg "SaidOfAtom" = some (.ref t.c_z52)
  C_z52 : Cls K t.c_z52
  K_z52 : Mk K t.c_z52 t.f_z53
  n_SaidOfAtom_named : NoAttr K t.c_z52 "named"
  n_SaidOfAtom_isotope : NoAttr K t.c_z52 "isotope"
  n_SaidOfAtom_charge : NoAttr K t.c_z52 "charge"
  n_SaidOfAtom_hydrogens : NoAttr K t.c_z52 "hydrogens"
  n_SaidOfAtom_neighbours : NoAttr K t.c_z52 "neighbours"
  n_SaidOfAtom_total : NoAttr K t.c_z52 "total"
  n_SaidOfAtom_ring : NoAttr K t.c_z52 "ring"
  n_SaidOfAtom_hand : NoAttr K t.c_z52 "hand"
  g_z54 : mg "SaidOfBond" = some (.ref t.c_z54)
  C_z54 : Cls K t.c_z54
  K_z54 : Mk K t.c_z54 t.f_z55
  n_SaidOfBond_a : NoAttr K t.c_z54 "a"
  n_SaidOfBond_b : NoAttr K t.c_z54 "b"
  n_SaidOfBond_orders : NoAttr K t.c_z54 "orders"
  n_SaidOfBond_how : NoAttr K t.c_z54 "how"
  n_SaidOfBond_ring : NoAttr K t.c_z54 "ring"
  n_SaidOfBond_side : NoAttr K t.c_z54 "side"
  g_z3 : mg "Atom" = some (.ref t.c_z3)
  C_z3 : Cls K t.c_z3
  K_z3 : Mk K t.c_z3 t.f_z4
  n_Atom_element : NoAttr K t.c_z3 "element"
  n_Atom_isotope : NoAttr K t.c_z3 "isotope"
  n_Atom_charge : NoAttr K t.c_z3 "charge"
  n_Atom_hydrogens : NoAttr K t.c_z3 "hydrogens"
  n_Atom_hand : NoAttr K t.c_z3 "hand"
  g_z5 : mg "Bond" = some (.ref t.c_z5)
  C_z5 : Cls K t.c_z5
  K_z5 : Mk K t.c_z5 t.f_z6
  n_Bond_a : NoAttr K t.c_z5 "a"
  n_Bond_b : NoAttr K t.c_z5 "b"
  n_Bond_order : NoAttr K t.c_z5 "order"
  n_Bond_side : NoAttr K t.c_z5 "side"
  g_z32 : mg "Molecule" = some (.ref t.c_z32)
  C_z32 : Cls K t.c_z32
  K_z32 : Mk K t.c_z32 t.f_z33
  M_z35 : Meth K t.c_z32 "row_around" t.f_z35
  M_z34 : Meth K t.c_z32 "orders_between" t.f_z34
  M_Molecule_besides : Meth K t.c_z32 "besides" t.f_z15
  n_Molecule_atoms : NoAttr K t.c_z32 "atoms"
  n_Molecule_bonds : NoAttr K t.c_z32 "bonds"
  n_Molecule_neighbours : NoAttr K t.c_z32 "neighbours"
  n_Molecule_sums : NoAttr K t.c_z32 "sums"
  n_Molecule_orders : NoAttr K t.c_z32 "orders"
  n_Molecule_bond_numbers : NoAttr K t.c_z32 "bond_numbers"
  S_z16 : CMeth K t.c_z14 "__init__" t.f_z16
  k_z56 : ∃ tk, mg "WRONG_MARK" = some (.int (1) tk)
  k_z39 : ∃ tk, mg "OUT_OF_BOUNDS" = some (.int (2) tk)
  k_z36 : ∃ tk, mg "NOT_BEHIND" = some (.int (3) tk)
  k_z17 : ∃ tk, mg "HAND_MISPLACED" = some (.int (4) tk)
  k_z8 : ∃ tk, mg "ENDS_EARLY" = some (.int (5) tk)
  k_z51 : ∃ tk, mg "SIDE_MISPLACED" = some (.int (6) tk)
  k_z19 : ∃ tk, mg "LEFT_OVER" = some (.int (7) tk)
  k_z22 : ∃ tk, mg "MOST_ATOMS" = some (.int (128) tk)
  k_z23 : ∃ tk, mg "MOST_BONDS" = some (.int (192) tk)
  k_z25 : ∃ tk, mg "MOST_ELEMENT" = some (.int (118) tk)
  k_z24 : ∃ tk, mg "MOST_CHARGE" = some (.int (8) tk)
  k_z27 : ∃ tk, mg "MOST_HYDROGENS" = some (.int (7) tk)
  k_z2 : ∃ tk, mg "ANY_ISOTOPE" = some (.int (501) tk)
  k_z29 : ∃ tk, mg "MOST_NEIGHBOURS" = some (.int (127) tk)
  k_z31 : ∃ tk, mg "MOST_SUM" = some (.int (381) tk)
  k_z0 : ∃ tk, mg "ALL_REDRAWINGS" = some (.int (1) tk)
  k_z7 : ∃ tk, mg "EITHER" = some (.int (0) tk)
  k_z18 : ∃ tk, mg "LEAST_ORDER" = some (.int (1) tk)
  k_z13 : ∃ tk, mg "GREATEST_ORDER" = some (.int (3) tk)
  k_z28 : ∃ tk, mg "MOST_ISOTOPE" = some (.int (500) tk)
  k_z26 : ∃ tk, mg "MOST_HAND" = some (.int (2) tk)
  k_z30 : ∃ tk, mg "MOST_SIDE" = some (.int (2) tk)
  k_z1 : ∃ tk, mg "ANSWERED" = some (.int (0) tk)
  k_z37 : ∃ tk, mg "NOT_RISING" = some (.int (-1) tk)
  k_z9 : ∃ tk, mg "FAULTY_FORM" = some (.int (-5) tk)
  k_z10 : ∃ tk, mg "FIRST_FORM" = some (.int (0) tk)
  g_z21 : mg "MARK_patterns" = some (.ref t.a_z21)
  T_z21 : ∀ H, SqT K H t.a_z21 [.int 70, .int 75, .int 80, .int 49]
  g_z38 : mg "ORDERS" = some (.ref t.a_z38)
  T_z38 : ∀ H, SqT K H t.a_z38 [.int 1, .int 2, .int 3]
  g_z20 : mg "MARK_molecules" = some (.ref t.a_z20)
  T_z20 : ∀ H, SqT K H t.a_z20 [.int 70, .int 75, .int 77, .int 49]
  b_enumerate : mg "enumerate" = none
  b_len : mg "len" = none
  b_list : mg "list" = none
  b_range : mg "range" = none
  b_tuple : mg "tuple" = none
set_option maxHeartbeats 4000000 in
theorem txt_mk {K : PySem.W.Frag} {h : Heap} {mg : Str → Option Value} (X : K.In h) (G : h.Ns mainGlobals mg)
    {c_z14 c_z11 c_z40 c_z52 c_z54 c_z3 c_z5 c_z32 f_z16 f_z15 f_z12 f_z42 f_z41 f_z48 f_z44 f_z50 f_z47 f_z43 f_z49 f_z45 f_z46 f_z53 f_z55 f_z4 f_z6 f_z33 f_z35 f_z34 f_z57 f_z69 f_z81 f_z73 f_z59 f_z82 f_z63 f_z77 f_z70 f_z71 f_z75 f_z78 f_z66 f_z60 f_z61 f_z72 f_z74 f_z79 f_z80 f_z67 f_z68 f_z64 f_z62 f_z65 f_z76 f_z58 a_z21 a_z38 a_z20 : Addr}
    {nm_z11 q_z11 : Str} {N_z11 : Addr} {bs_z11 sub_z11 : List Value} {sn_z11 : List Str} {ab_z11 : Bool} {col_z11 : Option Bool} {dd_z11 nd_z11 : Option Addr} {k0_z11 k1_z11 k2_z11 k3_z11 k5_z11 : Option Value} {nc_z11 : Value} {nes_z11 : Array DictEntry} {nn_z11 : Nat} {nsl_z11 : Array (Option Value)}
    {oc_z16 kV_z16 dc_z16 pm_z16 cd_z16 ct_z16 : Value} {od_z16 an_z16 : Option Addr} {sl_z16 : Array (Option Value)}
    {oc_z15 kV_z15 dc_z15 pm_z15 cd_z15 ct_z15 : Value} {od_z15 an_z15 : Option Addr} {sl_z15 : Array (Option Value)}
    {oc_z12 kV_z12 dc_z12 pm_z12 cd_z12 ct_z12 : Value} {od_z12 an_z12 : Option Addr} {sl_z12 : Array (Option Value)}
    {oc_z42 kV_z42 dc_z42 pm_z42 cd_z42 ct_z42 : Value} {od_z42 an_z42 : Option Addr} {sl_z42 : Array (Option Value)}
    {oc_z41 kV_z41 dc_z41 pm_z41 cd_z41 ct_z41 : Value} {od_z41 an_z41 : Option Addr} {sl_z41 : Array (Option Value)}
    {oc_z48 kV_z48 dc_z48 pm_z48 cd_z48 ct_z48 : Value} {od_z48 an_z48 : Option Addr} {sl_z48 : Array (Option Value)}
    {oc_z44 kV_z44 dc_z44 pm_z44 cd_z44 ct_z44 : Value} {od_z44 an_z44 : Option Addr} {sl_z44 : Array (Option Value)}
    {oc_z50 kV_z50 dc_z50 pm_z50 cd_z50 ct_z50 : Value} {od_z50 an_z50 : Option Addr} {sl_z50 : Array (Option Value)}
    {oc_z47 kV_z47 dc_z47 pm_z47 cd_z47 ct_z47 : Value} {od_z47 an_z47 : Option Addr} {sl_z47 : Array (Option Value)}
    {oc_z43 kV_z43 dc_z43 pm_z43 cd_z43 ct_z43 : Value} {od_z43 an_z43 : Option Addr} {sl_z43 : Array (Option Value)}
    {oc_z49 kV_z49 dc_z49 pm_z49 cd_z49 ct_z49 : Value} {od_z49 an_z49 : Option Addr} {sl_z49 : Array (Option Value)}
    {oc_z45 kV_z45 dc_z45 pm_z45 cd_z45 ct_z45 : Value} {od_z45 an_z45 : Option Addr} {sl_z45 : Array (Option Value)}
    {oc_z46 kV_z46 dc_z46 pm_z46 cd_z46 ct_z46 : Value} {od_z46 an_z46 : Option Addr} {sl_z46 : Array (Option Value)}
    {oc_z53 kV_z53 dc_z53 pm_z53 cd_z53 ct_z53 : Value} {od_z53 an_z53 : Option Addr} {sl_z53 : Array (Option Value)}
    {oc_z55 kV_z55 dc_z55 pm_z55 cd_z55 ct_z55 : Value} {od_z55 an_z55 : Option Addr} {sl_z55 : Array (Option Value)}
    {oc_z4 kV_z4 dc_z4 pm_z4 cd_z4 ct_z4 : Value} {od_z4 an_z4 : Option Addr} {sl_z4 : Array (Option Value)}
    {oc_z6 kV_z6 dc_z6 pm_z6 cd_z6 ct_z6 : Value} {od_z6 an_z6 : Option Addr} {sl_z6 : Array (Option Value)}
    {oc_z33 kV_z33 dc_z33 pm_z33 cd_z33 ct_z33 : Value} {od_z33 an_z33 : Option Addr} {sl_z33 : Array (Option Value)}
    {oc_z35 kV_z35 dc_z35 pm_z35 cd_z35 ct_z35 : Value} {od_z35 an_z35 : Option Addr} {sl_z35 : Array (Option Value)}
    {oc_z34 kV_z34 dc_z34 pm_z34 cd_z34 ct_z34 : Value} {od_z34 an_z34 : Option Addr} {sl_z34 : Array (Option Value)}
    {oc_z57 kV_z57 dc_z57 pm_z57 cd_z57 ct_z57 : Value} {od_z57 an_z57 : Option Addr} {sl_z57 : Array (Option Value)}
    {oc_z69 kV_z69 dc_z69 pm_z69 cd_z69 ct_z69 : Value} {od_z69 an_z69 : Option Addr} {sl_z69 : Array (Option Value)}
    {oc_z81 kV_z81 dc_z81 pm_z81 cd_z81 ct_z81 : Value} {od_z81 an_z81 : Option Addr} {sl_z81 : Array (Option Value)}
    {oc_z73 kV_z73 dc_z73 pm_z73 cd_z73 ct_z73 : Value} {od_z73 an_z73 : Option Addr} {sl_z73 : Array (Option Value)}
    {oc_z59 kV_z59 dc_z59 pm_z59 cd_z59 ct_z59 : Value} {od_z59 an_z59 : Option Addr} {sl_z59 : Array (Option Value)}
    {oc_z82 kV_z82 dc_z82 pm_z82 cd_z82 ct_z82 : Value} {od_z82 an_z82 : Option Addr} {sl_z82 : Array (Option Value)}
    {oc_z63 kV_z63 dc_z63 pm_z63 cd_z63 ct_z63 : Value} {od_z63 an_z63 : Option Addr} {sl_z63 : Array (Option Value)}
    {oc_z77 kV_z77 dc_z77 pm_z77 cd_z77 ct_z77 : Value} {od_z77 an_z77 : Option Addr} {sl_z77 : Array (Option Value)}
    {oc_z70 kV_z70 dc_z70 pm_z70 cd_z70 ct_z70 : Value} {od_z70 an_z70 : Option Addr} {sl_z70 : Array (Option Value)}
    {oc_z71 kV_z71 dc_z71 pm_z71 cd_z71 ct_z71 : Value} {od_z71 an_z71 : Option Addr} {sl_z71 : Array (Option Value)}
    {oc_z75 kV_z75 dc_z75 pm_z75 cd_z75 ct_z75 : Value} {od_z75 an_z75 : Option Addr} {sl_z75 : Array (Option Value)}
    {oc_z78 kV_z78 dc_z78 pm_z78 cd_z78 ct_z78 : Value} {od_z78 an_z78 : Option Addr} {sl_z78 : Array (Option Value)}
    {oc_z66 kV_z66 dc_z66 pm_z66 cd_z66 ct_z66 : Value} {od_z66 an_z66 : Option Addr} {sl_z66 : Array (Option Value)}
    {oc_z60 kV_z60 dc_z60 pm_z60 cd_z60 ct_z60 : Value} {od_z60 an_z60 : Option Addr} {sl_z60 : Array (Option Value)}
    {oc_z61 kV_z61 dc_z61 pm_z61 cd_z61 ct_z61 : Value} {od_z61 an_z61 : Option Addr} {sl_z61 : Array (Option Value)}
    {oc_z72 kV_z72 dc_z72 pm_z72 cd_z72 ct_z72 : Value} {od_z72 an_z72 : Option Addr} {sl_z72 : Array (Option Value)}
    {oc_z74 kV_z74 dc_z74 pm_z74 cd_z74 ct_z74 : Value} {od_z74 an_z74 : Option Addr} {sl_z74 : Array (Option Value)}
    {oc_z79 kV_z79 dc_z79 pm_z79 cd_z79 ct_z79 : Value} {od_z79 an_z79 : Option Addr} {sl_z79 : Array (Option Value)}
    {oc_z80 kV_z80 dc_z80 pm_z80 cd_z80 ct_z80 : Value} {od_z80 an_z80 : Option Addr} {sl_z80 : Array (Option Value)}
    {oc_z67 kV_z67 dc_z67 pm_z67 cd_z67 ct_z67 : Value} {od_z67 an_z67 : Option Addr} {sl_z67 : Array (Option Value)}
    {oc_z68 kV_z68 dc_z68 pm_z68 cd_z68 ct_z68 : Value} {od_z68 an_z68 : Option Addr} {sl_z68 : Array (Option Value)}
    {oc_z64 kV_z64 dc_z64 pm_z64 cd_z64 ct_z64 : Value} {od_z64 an_z64 : Option Addr} {sl_z64 : Array (Option Value)}
    {oc_z62 kV_z62 dc_z62 pm_z62 cd_z62 ct_z62 : Value} {od_z62 an_z62 : Option Addr} {sl_z62 : Array (Option Value)}
    {oc_z65 kV_z65 dc_z65 pm_z65 cd_z65 ct_z65 : Value} {od_z65 an_z65 : Option Addr} {sl_z65 : Array (Option Value)}
    {oc_z76 kV_z76 dc_z76 pm_z76 cd_z76 ct_z76 : Value} {od_z76 an_z76 : Option Addr} {sl_z76 : Array (Option Value)}
    {oc_z58 kV_z58 dc_z58 pm_z58 cd_z58 ct_z58 : Value} {od_z58 an_z58 : Option Addr} {sl_z58 : Array (Option Value)}
    {tk_z56 : Tok}
    {tk_z39 : Tok}
    {tk_z36 : Tok}
    {tk_z17 : Tok}
    {tk_z8 : Tok}
    {tk_z51 : Tok}
    {tk_z19 : Tok}
    {tk_z22 : Tok}
    {tk_z23 : Tok}
    {tk_z25 : Tok}
    {tk_z24 : Tok}
    {tk_z27 : Tok}
    {tk_z2 : Tok}
    {tk_z29 : Tok}
    {tk_z31 : Tok}
    {tk_z0 : Tok}
    {tk_z7 : Tok}
    {tk_z18 : Tok}
    {tk_z13 : Tok}
    {tk_z28 : Tok}
    {tk_z26 : Tok}
    {tk_z30 : Tok}
    {tk_z1 : Tok}
    {tk_z37 : Tok}
    {tk_z9 : Tok}
    {tk_z10 : Tok}
    {td_z21 : Option Addr} {tn_z21 : Nat} {tsl_z21 : Array (Option Value)} {t0_z21 t1_z21 t2_z21 t3_z21 : Tok}
    {td_z38 : Option Addr} {tn_z38 : Nat} {tsl_z38 : Array (Option Value)} {t0_z38 t1_z38 t2_z38 : Tok}
    {td_z20 : Option Addr} {tn_z20 : Nat} {tsl_z20 : Array (Option Value)} {t0_z20 t1_z20 t2_z20 t3_z20 : Tok}
    (h_z14 : PySem.W.nsIn K mainGlobals "Graph" = some (some (.ref c_z14)))
    (pg_z14 : PySem.W.plainGet K c_z14 Str.empty = true)
    (hd_z14 : PySem.W.hasDictIn K c_z14 = true)
    (po_z14 : PySem.W.plainOver K c_z14 = true)
    (sa_z14 : PySem.W.findIn K (.ref c_z14) "__setattr__" = some (some (.builtin "object.__setattr__")))
    (a_z16 : PySem.W.findIn K (.ref c_z14) "__init__" = some (some (.ref f_z16)))
    (i_z16 : PySem.W.isFn K (.ref f_z16) = true)
    (a_z15 : PySem.W.findIn K (.ref c_z14) "besides" = some (some (.ref f_z15)))
    (i_z15 : PySem.W.isFn K (.ref f_z15) = true)
    (mk_z14 : PySem.W.makesIn K c_z14 = true)
    (kc_z14 : PySem.W.keepIn K (.ref c_z14) = true)
    (n_Graph_atoms : PySem.W.findIn K (.ref c_z14) "atoms" = some none)
    (n_Graph_bonds : PySem.W.findIn K (.ref c_z14) "bonds" = some none)
    (n_Graph_neighbours : PySem.W.findIn K (.ref c_z14) "neighbours" = some none)
    (h_z11 : PySem.W.nsIn K mainGlobals "FormFault" = some (some (.ref c_z11)))
    (l_z11 : K.lookup c_z11 = some (excClassObj nm_z11 q_z11 c_z11 N_z11 bs_z11 XL.excTail true sn_z11 sub_z11 ab_z11 col_z11 dd_z11 k0_z11 k1_z11 k2_z11 k3_z11 k5_z11 "Exception.__new__"))
    (ln_z11 : K.lookup N_z11 = some ⟨nc_z11, nd_z11, .dict nes_z11 nn_z11, nsl_z11⟩)
    (in_z11 : PySem.W.nsIn K N_z11 "__init__" = some (some (.ref f_z12)))
    (is_z11 : PySem.W.isFn K (.ref f_z12) = true)
    (kp_z11 : PySem.W.keepIn K (.ref c_z11) = true)
    (sa_z11 : PySem.W.findIn K (.ref c_z11) "__setattr__" = some (some (.builtin "object.__setattr__")))
    (xn_FormFault_getattribute : PySem.W.nsIn K N_z11 "__getattribute__" = some none)
    (xn_FormFault_getattr : PySem.W.nsIn K N_z11 "__getattr__" = some none)
    (xn_FormFault_setattr : PySem.W.nsIn K N_z11 "__setattr__" = some none)
    (xn_FormFault_which : PySem.W.nsIn K N_z11 "which" = some none)
    (xn_FormFault_rule : PySem.W.nsIn K N_z11 "rule" = some none)
    (xn_FormFault_place : PySem.W.nsIn K N_z11 "place" = some none)
    (h_z40 : PySem.W.nsIn K mainGlobals "Reader" = some (some (.ref c_z40)))
    (pg_z40 : PySem.W.plainGet K c_z40 Str.empty = true)
    (hd_z40 : PySem.W.hasDictIn K c_z40 = true)
    (po_z40 : PySem.W.plainOver K c_z40 = true)
    (sa_z40 : PySem.W.findIn K (.ref c_z40) "__setattr__" = some (some (.builtin "object.__setattr__")))
    (a_z42 : PySem.W.findIn K (.ref c_z40) "__init__" = some (some (.ref f_z42)))
    (i_z42 : PySem.W.isFn K (.ref f_z42) = true)
    (a_z41 : PySem.W.findIn K (.ref c_z40) "fault" = some (some (.ref f_z41)))
    (i_z41 : PySem.W.isFn K (.ref f_z41) = true)
    (a_z48 : PySem.W.findIn K (.ref c_z40) "take_number" = some (some (.ref f_z48)))
    (i_z48 : PySem.W.isFn K (.ref f_z48) = true)
    (a_z44 : PySem.W.findIn K (.ref c_z40) "take_between" = some (some (.ref f_z44)))
    (i_z44 : PySem.W.isFn K (.ref f_z44) = true)
    (a_z50 : PySem.W.findIn K (.ref c_z40) "take_range" = some (some (.ref f_z50)))
    (i_z50 : PySem.W.isFn K (.ref f_z50) = true)
    (a_z47 : PySem.W.findIn K (.ref c_z40) "take_mark" = some (some (.ref f_z47)))
    (i_z47 : PySem.W.isFn K (.ref f_z47) = true)
    (a_z43 : PySem.W.findIn K (.ref c_z40) "take_atoms" = some (some (.ref f_z43)))
    (i_z43 : PySem.W.isFn K (.ref f_z43) = true)
    (a_z49 : PySem.W.findIn K (.ref c_z40) "take_pair" = some (some (.ref f_z49)))
    (i_z49 : PySem.W.isFn K (.ref f_z49) = true)
    (a_z45 : PySem.W.findIn K (.ref c_z40) "take_bonds" = some (some (.ref f_z45)))
    (i_z45 : PySem.W.isFn K (.ref f_z45) = true)
    (a_z46 : PySem.W.findIn K (.ref c_z40) "take_end" = some (some (.ref f_z46)))
    (i_z46 : PySem.W.isFn K (.ref f_z46) = true)
    (mk_z40 : PySem.W.makesIn K c_z40 = true)
    (kc_z40 : PySem.W.keepIn K (.ref c_z40) = true)
    (n_Reader_form : PySem.W.findIn K (.ref c_z40) "form" = some none)
    (n_Reader_which : PySem.W.findIn K (.ref c_z40) "which" = some none)
    (n_Reader_place : PySem.W.findIn K (.ref c_z40) "place" = some none)
    (n_Reader_hand_places : PySem.W.findIn K (.ref c_z40) "hand_places" = some none)
    (n_Reader_side_places : PySem.W.findIn K (.ref c_z40) "side_places" = some none)
    (h_z52 : PySem.W.nsIn K mainGlobals "SaidOfAtom" = some (some (.ref c_z52)))
    (pg_z52 : PySem.W.plainGet K c_z52 Str.empty = true)
    (hd_z52 : PySem.W.hasDictIn K c_z52 = true)
    (po_z52 : PySem.W.plainOver K c_z52 = true)
    (sa_z52 : PySem.W.findIn K (.ref c_z52) "__setattr__" = some (some (.builtin "object.__setattr__")))
    (a_z53 : PySem.W.findIn K (.ref c_z52) "__init__" = some (some (.ref f_z53)))
    (i_z53 : PySem.W.isFn K (.ref f_z53) = true)
    (mk_z52 : PySem.W.makesIn K c_z52 = true)
    (kc_z52 : PySem.W.keepIn K (.ref c_z52) = true)
    (n_SaidOfAtom_named : PySem.W.findIn K (.ref c_z52) "named" = some none)
    (n_SaidOfAtom_isotope : PySem.W.findIn K (.ref c_z52) "isotope" = some none)
    (n_SaidOfAtom_charge : PySem.W.findIn K (.ref c_z52) "charge" = some none)
    (n_SaidOfAtom_hydrogens : PySem.W.findIn K (.ref c_z52) "hydrogens" = some none)
    (n_SaidOfAtom_neighbours : PySem.W.findIn K (.ref c_z52) "neighbours" = some none)
    (n_SaidOfAtom_total : PySem.W.findIn K (.ref c_z52) "total" = some none)
    (n_SaidOfAtom_ring : PySem.W.findIn K (.ref c_z52) "ring" = some none)
    (n_SaidOfAtom_hand : PySem.W.findIn K (.ref c_z52) "hand" = some none)
    (h_z54 : PySem.W.nsIn K mainGlobals "SaidOfBond" = some (some (.ref c_z54)))
    (pg_z54 : PySem.W.plainGet K c_z54 Str.empty = true)
    (hd_z54 : PySem.W.hasDictIn K c_z54 = true)
    (po_z54 : PySem.W.plainOver K c_z54 = true)
    (sa_z54 : PySem.W.findIn K (.ref c_z54) "__setattr__" = some (some (.builtin "object.__setattr__")))
    (a_z55 : PySem.W.findIn K (.ref c_z54) "__init__" = some (some (.ref f_z55)))
    (i_z55 : PySem.W.isFn K (.ref f_z55) = true)
    (mk_z54 : PySem.W.makesIn K c_z54 = true)
    (kc_z54 : PySem.W.keepIn K (.ref c_z54) = true)
    (n_SaidOfBond_a : PySem.W.findIn K (.ref c_z54) "a" = some none)
    (n_SaidOfBond_b : PySem.W.findIn K (.ref c_z54) "b" = some none)
    (n_SaidOfBond_orders : PySem.W.findIn K (.ref c_z54) "orders" = some none)
    (n_SaidOfBond_how : PySem.W.findIn K (.ref c_z54) "how" = some none)
    (n_SaidOfBond_ring : PySem.W.findIn K (.ref c_z54) "ring" = some none)
    (n_SaidOfBond_side : PySem.W.findIn K (.ref c_z54) "side" = some none)
    (h_z3 : PySem.W.nsIn K mainGlobals "Atom" = some (some (.ref c_z3)))
    (pg_z3 : PySem.W.plainGet K c_z3 Str.empty = true)
    (hd_z3 : PySem.W.hasDictIn K c_z3 = true)
    (po_z3 : PySem.W.plainOver K c_z3 = true)
    (sa_z3 : PySem.W.findIn K (.ref c_z3) "__setattr__" = some (some (.builtin "object.__setattr__")))
    (a_z4 : PySem.W.findIn K (.ref c_z3) "__init__" = some (some (.ref f_z4)))
    (i_z4 : PySem.W.isFn K (.ref f_z4) = true)
    (mk_z3 : PySem.W.makesIn K c_z3 = true)
    (kc_z3 : PySem.W.keepIn K (.ref c_z3) = true)
    (n_Atom_element : PySem.W.findIn K (.ref c_z3) "element" = some none)
    (n_Atom_isotope : PySem.W.findIn K (.ref c_z3) "isotope" = some none)
    (n_Atom_charge : PySem.W.findIn K (.ref c_z3) "charge" = some none)
    (n_Atom_hydrogens : PySem.W.findIn K (.ref c_z3) "hydrogens" = some none)
    (n_Atom_hand : PySem.W.findIn K (.ref c_z3) "hand" = some none)
    (h_z5 : PySem.W.nsIn K mainGlobals "Bond" = some (some (.ref c_z5)))
    (pg_z5 : PySem.W.plainGet K c_z5 Str.empty = true)
    (hd_z5 : PySem.W.hasDictIn K c_z5 = true)
    (po_z5 : PySem.W.plainOver K c_z5 = true)
    (sa_z5 : PySem.W.findIn K (.ref c_z5) "__setattr__" = some (some (.builtin "object.__setattr__")))
    (a_z6 : PySem.W.findIn K (.ref c_z5) "__init__" = some (some (.ref f_z6)))
    (i_z6 : PySem.W.isFn K (.ref f_z6) = true)
    (mk_z5 : PySem.W.makesIn K c_z5 = true)
    (kc_z5 : PySem.W.keepIn K (.ref c_z5) = true)
    (n_Bond_a : PySem.W.findIn K (.ref c_z5) "a" = some none)
    (n_Bond_b : PySem.W.findIn K (.ref c_z5) "b" = some none)
    (n_Bond_order : PySem.W.findIn K (.ref c_z5) "order" = some none)
    (n_Bond_side : PySem.W.findIn K (.ref c_z5) "side" = some none)
    (h_z32 : PySem.W.nsIn K mainGlobals "Molecule" = some (some (.ref c_z32)))
    (pg_z32 : PySem.W.plainGet K c_z32 Str.empty = true)
    (hd_z32 : PySem.W.hasDictIn K c_z32 = true)
    (po_z32 : PySem.W.plainOver K c_z32 = true)
    (sa_z32 : PySem.W.findIn K (.ref c_z32) "__setattr__" = some (some (.builtin "object.__setattr__")))
    (a_z33 : PySem.W.findIn K (.ref c_z32) "__init__" = some (some (.ref f_z33)))
    (i_z33 : PySem.W.isFn K (.ref f_z33) = true)
    (a_z35 : PySem.W.findIn K (.ref c_z32) "row_around" = some (some (.ref f_z35)))
    (i_z35 : PySem.W.isFn K (.ref f_z35) = true)
    (a_z34 : PySem.W.findIn K (.ref c_z32) "orders_between" = some (some (.ref f_z34)))
    (i_z34 : PySem.W.isFn K (.ref f_z34) = true)
    (mk_z32 : PySem.W.makesIn K c_z32 = true)
    (kc_z32 : PySem.W.keepIn K (.ref c_z32) = true)
    (a_Molecule_besides : PySem.W.findIn K (.ref c_z32) "besides" = some (some (.ref f_z15)))
    (n_Molecule_atoms : PySem.W.findIn K (.ref c_z32) "atoms" = some none)
    (n_Molecule_bonds : PySem.W.findIn K (.ref c_z32) "bonds" = some none)
    (n_Molecule_neighbours : PySem.W.findIn K (.ref c_z32) "neighbours" = some none)
    (n_Molecule_sums : PySem.W.findIn K (.ref c_z32) "sums" = some none)
    (n_Molecule_orders : PySem.W.findIn K (.ref c_z32) "orders" = some none)
    (n_Molecule_bond_numbers : PySem.W.findIn K (.ref c_z32) "bond_numbers" = some none)
    (sp_z16 : PySem.W.specialIn K (.ref c_z14) "__getattribute__" = some (some (.builtin "type.__getattribute__")))
    (rd_z16 : PySem.W.readsIn K c_z14 (.type "type") = true)
    (fc_z16 : PySem.W.findCls K (.ref c_z14) (.type "type") "__init__" = some (.val (.ref f_z16)))
    (h_z57 : PySem.W.nsIn K mainGlobals "_wall" = some (some (.ref f_z57)))
    (h_z69 : PySem.W.nsIn K mainGlobals "neighbour_rows" = some (some (.ref f_z69)))
    (h_z81 : PySem.W.nsIn K mainGlobals "take_graph" = some (some (.ref f_z81)))
    (h_z73 : PySem.W.nsIn K mainGlobals "pattern_form" = some (some (.ref f_z73)))
    (h_z59 : PySem.W.nsIn K mainGlobals "atom_bytes" = some (some (.ref f_z59)))
    (h_z82 : PySem.W.nsIn K mainGlobals "two_bytes" = some (some (.ref f_z82)))
    (h_z63 : PySem.W.nsIn K mainGlobals "cut_pattern" = some (some (.ref f_z63)))
    (h_z77 : PySem.W.nsIn K mainGlobals "said_of_element" = some (some (.ref f_z77)))
    (h_z70 : PySem.W.nsIn K mainGlobals "order_bit" = some (some (.ref f_z70)))
    (h_z71 : PySem.W.nsIn K mainGlobals "order_sums" = some (some (.ref f_z71)))
    (h_z75 : PySem.W.nsIn K mainGlobals "redrawn_orders" = some (some (.ref f_z75)))
    (h_z78 : PySem.W.nsIn K mainGlobals "states_behind" = some (some (.ref f_z78)))
    (h_z66 : PySem.W.nsIn K mainGlobals "less_order" = some (some (.ref f_z66)))
    (h_z60 : PySem.W.nsIn K mainGlobals "bonds_behind" = some (some (.ref f_z60)))
    (h_z61 : PySem.W.nsIn K mainGlobals "can_be_met" = some (some (.ref f_z61)))
    (h_z72 : PySem.W.nsIn K mainGlobals "pair_numbers" = some (some (.ref f_z72)))
    (h_z74 : PySem.W.nsIn K mainGlobals "read_molecule" = some (some (.ref f_z74)))
    (h_z79 : PySem.W.nsIn K mainGlobals "take_atom" = some (some (.ref f_z79)))
    (h_z80 : PySem.W.nsIn K mainGlobals "take_bond" = some (some (.ref f_z80)))
    (h_z67 : PySem.W.nsIn K mainGlobals "may_have_hand" = some (some (.ref f_z67)))
    (h_z68 : PySem.W.nsIn K mainGlobals "may_have_side" = some (some (.ref f_z68)))
    (h_z64 : PySem.W.nsIn K mainGlobals "end_takes_side" = some (some (.ref f_z64)))
    (h_z62 : PySem.W.nsIn K mainGlobals "cut" = some (some (.ref f_z62)))
    (h_z65 : PySem.W.nsIn K mainGlobals "fault_answer" = some (some (.ref f_z65)))
    (h_z76 : PySem.W.nsIn K mainGlobals "row_answer" = some (some (.ref f_z76)))
    (h_z58 : PySem.W.nsIn K mainGlobals "are_rising_below" = some (some (.ref f_z58)))
    (l_z16 : K.lookup f_z16 = some ⟨oc_z16, od_z16, .func (PySem.W.fnOf "__init__" "Graph.__init__" (defArgs s_z16) (defBody s_z16) (defScope s_z16) .none kV_z16 dc_z16 pm_z16 an_z16 cd_z16 ct_z16), sl_z16⟩)
    (c_dGraph_init : PySem.W.codeIn K cd_z16 "Graph.__init__" = true)
    (k_pGraph_init : PySem.W.keepIn K (.ref f_z16) = true)
    (l_z15 : K.lookup f_z15 = some ⟨oc_z15, od_z15, .func (PySem.W.fnOf "besides" "Graph.besides" (defArgs s_z15) (defBody s_z15) (defScope s_z15) .none kV_z15 dc_z15 pm_z15 an_z15 cd_z15 ct_z15), sl_z15⟩)
    (c_dGraph_besides : PySem.W.codeIn K cd_z15 "Graph.besides" = true)
    (k_pGraph_besides : PySem.W.keepIn K (.ref f_z15) = true)
    (l_z12 : K.lookup f_z12 = some ⟨oc_z12, od_z12, .func (PySem.W.fnOf "__init__" "FormFault.__init__" (defArgs s_z12) (defBody s_z12) (defScope s_z12) .none kV_z12 dc_z12 pm_z12 an_z12 cd_z12 ct_z12), sl_z12⟩)
    (c_dFormFault_init : PySem.W.codeIn K cd_z12 "FormFault.__init__" = true)
    (k_pFormFault_init : PySem.W.keepIn K (.ref f_z12) = true)
    (l_z42 : K.lookup f_z42 = some ⟨oc_z42, od_z42, .func (PySem.W.fnOf "__init__" "Reader.__init__" (defArgs s_z42) (defBody s_z42) (defScope s_z42) .none kV_z42 dc_z42 pm_z42 an_z42 cd_z42 ct_z42), sl_z42⟩)
    (c_dReader_init : PySem.W.codeIn K cd_z42 "Reader.__init__" = true)
    (k_pReader_init : PySem.W.keepIn K (.ref f_z42) = true)
    (l_z41 : K.lookup f_z41 = some ⟨oc_z41, od_z41, .func (PySem.W.fnOf "fault" "Reader.fault" (defArgs s_z41) (defBody s_z41) (defScope s_z41) .none kV_z41 dc_z41 pm_z41 an_z41 cd_z41 ct_z41), sl_z41⟩)
    (c_dReader_fault : PySem.W.codeIn K cd_z41 "Reader.fault" = true)
    (k_pReader_fault : PySem.W.keepIn K (.ref f_z41) = true)
    (l_z48 : K.lookup f_z48 = some ⟨oc_z48, od_z48, .func (PySem.W.fnOf "take_number" "Reader.take_number" (defArgs s_z48) (defBody s_z48) (defScope s_z48) .none kV_z48 dc_z48 pm_z48 an_z48 cd_z48 ct_z48), sl_z48⟩)
    (c_dReader_take_number : PySem.W.codeIn K cd_z48 "Reader.take_number" = true)
    (k_pReader_take_number : PySem.W.keepIn K (.ref f_z48) = true)
    (l_z44 : K.lookup f_z44 = some ⟨oc_z44, od_z44, .func (PySem.W.fnOf "take_between" "Reader.take_between" (defArgs s_z44) (defBody s_z44) (defScope s_z44) .none kV_z44 dc_z44 pm_z44 an_z44 cd_z44 ct_z44), sl_z44⟩)
    (c_dReader_take_between : PySem.W.codeIn K cd_z44 "Reader.take_between" = true)
    (k_pReader_take_between : PySem.W.keepIn K (.ref f_z44) = true)
    (l_z50 : K.lookup f_z50 = some ⟨oc_z50, od_z50, .func (PySem.W.fnOf "take_range" "Reader.take_range" (defArgs s_z50) (defBody s_z50) (defScope s_z50) .none kV_z50 dc_z50 pm_z50 an_z50 cd_z50 ct_z50), sl_z50⟩)
    (c_dReader_take_range : PySem.W.codeIn K cd_z50 "Reader.take_range" = true)
    (k_pReader_take_range : PySem.W.keepIn K (.ref f_z50) = true)
    (l_z47 : K.lookup f_z47 = some ⟨oc_z47, od_z47, .func (PySem.W.fnOf "take_mark" "Reader.take_mark" (defArgs s_z47) (defBody s_z47) (defScope s_z47) .none kV_z47 dc_z47 pm_z47 an_z47 cd_z47 ct_z47), sl_z47⟩)
    (c_dReader_take_mark : PySem.W.codeIn K cd_z47 "Reader.take_mark" = true)
    (k_pReader_take_mark : PySem.W.keepIn K (.ref f_z47) = true)
    (l_z43 : K.lookup f_z43 = some ⟨oc_z43, od_z43, .func (PySem.W.fnOf "take_atoms" "Reader.take_atoms" (defArgs s_z43) (defBody s_z43) (defScope s_z43) .none kV_z43 dc_z43 pm_z43 an_z43 cd_z43 ct_z43), sl_z43⟩)
    (c_dReader_take_atoms : PySem.W.codeIn K cd_z43 "Reader.take_atoms" = true)
    (k_pReader_take_atoms : PySem.W.keepIn K (.ref f_z43) = true)
    (l_z49 : K.lookup f_z49 = some ⟨oc_z49, od_z49, .func (PySem.W.fnOf "take_pair" "Reader.take_pair" (defArgs s_z49) (defBody s_z49) (defScope s_z49) .none kV_z49 dc_z49 pm_z49 an_z49 cd_z49 ct_z49), sl_z49⟩)
    (c_dReader_take_pair : PySem.W.codeIn K cd_z49 "Reader.take_pair" = true)
    (k_pReader_take_pair : PySem.W.keepIn K (.ref f_z49) = true)
    (l_z45 : K.lookup f_z45 = some ⟨oc_z45, od_z45, .func (PySem.W.fnOf "take_bonds" "Reader.take_bonds" (defArgs s_z45) (defBody s_z45) (defScope s_z45) .none kV_z45 dc_z45 pm_z45 an_z45 cd_z45 ct_z45), sl_z45⟩)
    (c_dReader_take_bonds : PySem.W.codeIn K cd_z45 "Reader.take_bonds" = true)
    (k_pReader_take_bonds : PySem.W.keepIn K (.ref f_z45) = true)
    (l_z46 : K.lookup f_z46 = some ⟨oc_z46, od_z46, .func (PySem.W.fnOf "take_end" "Reader.take_end" (defArgs s_z46) (defBody s_z46) (defScope s_z46) .none kV_z46 dc_z46 pm_z46 an_z46 cd_z46 ct_z46), sl_z46⟩)
    (c_dReader_take_end : PySem.W.codeIn K cd_z46 "Reader.take_end" = true)
    (k_pReader_take_end : PySem.W.keepIn K (.ref f_z46) = true)
    (l_z53 : K.lookup f_z53 = some ⟨oc_z53, od_z53, .func (PySem.W.fnOf "__init__" "SaidOfAtom.__init__" (defArgs s_z53) (defBody s_z53) (defScope s_z53) .none kV_z53 dc_z53 pm_z53 an_z53 cd_z53 ct_z53), sl_z53⟩)
    (c_dSaidOfAtom_init : PySem.W.codeIn K cd_z53 "SaidOfAtom.__init__" = true)
    (k_pSaidOfAtom_init : PySem.W.keepIn K (.ref f_z53) = true)
    (l_z55 : K.lookup f_z55 = some ⟨oc_z55, od_z55, .func (PySem.W.fnOf "__init__" "SaidOfBond.__init__" (defArgs s_z55) (defBody s_z55) (defScope s_z55) .none kV_z55 dc_z55 pm_z55 an_z55 cd_z55 ct_z55), sl_z55⟩)
    (c_dSaidOfBond_init : PySem.W.codeIn K cd_z55 "SaidOfBond.__init__" = true)
    (k_pSaidOfBond_init : PySem.W.keepIn K (.ref f_z55) = true)
    (l_z4 : K.lookup f_z4 = some ⟨oc_z4, od_z4, .func (PySem.W.fnOf "__init__" "Atom.__init__" (defArgs s_z4) (defBody s_z4) (defScope s_z4) .none kV_z4 dc_z4 pm_z4 an_z4 cd_z4 ct_z4), sl_z4⟩)
    (c_dAtom_init : PySem.W.codeIn K cd_z4 "Atom.__init__" = true)
    (k_pAtom_init : PySem.W.keepIn K (.ref f_z4) = true)
    (l_z6 : K.lookup f_z6 = some ⟨oc_z6, od_z6, .func (PySem.W.fnOf "__init__" "Bond.__init__" (defArgs s_z6) (defBody s_z6) (defScope s_z6) .none kV_z6 dc_z6 pm_z6 an_z6 cd_z6 ct_z6), sl_z6⟩)
    (c_dBond_init : PySem.W.codeIn K cd_z6 "Bond.__init__" = true)
    (k_pBond_init : PySem.W.keepIn K (.ref f_z6) = true)
    (l_z33 : K.lookup f_z33 = some ⟨oc_z33, od_z33, .func (PySem.W.fnOf "__init__" "Molecule.__init__" (defArgs s_z33) (defBody s_z33) (defScope s_z33) .none kV_z33 dc_z33 pm_z33 an_z33 cd_z33 ct_z33), sl_z33⟩)
    (c_dMolecule_init : PySem.W.codeIn K cd_z33 "Molecule.__init__" = true)
    (k_pMolecule_init : PySem.W.keepIn K (.ref f_z33) = true)
    (l_z35 : K.lookup f_z35 = some ⟨oc_z35, od_z35, .func (PySem.W.fnOf "row_around" "Molecule.row_around" (defArgs s_z35) (defBody s_z35) (defScope s_z35) .none kV_z35 dc_z35 pm_z35 an_z35 cd_z35 ct_z35), sl_z35⟩)
    (c_dMolecule_row_around : PySem.W.codeIn K cd_z35 "Molecule.row_around" = true)
    (k_pMolecule_row_around : PySem.W.keepIn K (.ref f_z35) = true)
    (l_z34 : K.lookup f_z34 = some ⟨oc_z34, od_z34, .func (PySem.W.fnOf "orders_between" "Molecule.orders_between" (defArgs s_z34) (defBody s_z34) (defScope s_z34) .none kV_z34 dc_z34 pm_z34 an_z34 cd_z34 ct_z34), sl_z34⟩)
    (c_dMolecule_orders_between : PySem.W.codeIn K cd_z34 "Molecule.orders_between" = true)
    (k_pMolecule_orders_between : PySem.W.keepIn K (.ref f_z34) = true)
    (l_z57 : K.lookup f_z57 = some ⟨oc_z57, od_z57, .func (PySem.W.fnOf "_wall" "_wall" (defArgs s_z57) (defBody s_z57) (defScope s_z57) .none kV_z57 dc_z57 pm_z57 an_z57 cd_z57 ct_z57), sl_z57⟩)
    (c_d_wall : PySem.W.codeIn K cd_z57 "_wall" = true)
    (k_p_wall : PySem.W.keepIn K (.ref f_z57) = true)
    (l_z69 : K.lookup f_z69 = some ⟨oc_z69, od_z69, .func (PySem.W.fnOf "neighbour_rows" "neighbour_rows" (defArgs s_z69) (defBody s_z69) (defScope s_z69) .none kV_z69 dc_z69 pm_z69 an_z69 cd_z69 ct_z69), sl_z69⟩)
    (c_dneighbour_rows : PySem.W.codeIn K cd_z69 "neighbour_rows" = true)
    (k_pneighbour_rows : PySem.W.keepIn K (.ref f_z69) = true)
    (l_z81 : K.lookup f_z81 = some ⟨oc_z81, od_z81, .func (PySem.W.fnOf "take_graph" "take_graph" (defArgs s_z81) (defBody s_z81) (defScope s_z81) .none kV_z81 dc_z81 pm_z81 an_z81 cd_z81 ct_z81), sl_z81⟩)
    (c_dtake_graph : PySem.W.codeIn K cd_z81 "take_graph" = true)
    (k_ptake_graph : PySem.W.keepIn K (.ref f_z81) = true)
    (l_z73 : K.lookup f_z73 = some ⟨oc_z73, od_z73, .func (PySem.W.fnOf "pattern_form" "pattern_form" (defArgs s_z73) (defBody s_z73) (defScope s_z73) .none kV_z73 dc_z73 pm_z73 an_z73 cd_z73 ct_z73), sl_z73⟩)
    (c_dpattern_form : PySem.W.codeIn K cd_z73 "pattern_form" = true)
    (k_ppattern_form : PySem.W.keepIn K (.ref f_z73) = true)
    (l_z59 : K.lookup f_z59 = some ⟨oc_z59, od_z59, .func (PySem.W.fnOf "atom_bytes" "atom_bytes" (defArgs s_z59) (defBody s_z59) (defScope s_z59) .none kV_z59 dc_z59 pm_z59 an_z59 cd_z59 ct_z59), sl_z59⟩)
    (c_datom_bytes : PySem.W.codeIn K cd_z59 "atom_bytes" = true)
    (k_patom_bytes : PySem.W.keepIn K (.ref f_z59) = true)
    (l_z82 : K.lookup f_z82 = some ⟨oc_z82, od_z82, .func (PySem.W.fnOf "two_bytes" "two_bytes" (defArgs s_z82) (defBody s_z82) (defScope s_z82) .none kV_z82 dc_z82 pm_z82 an_z82 cd_z82 ct_z82), sl_z82⟩)
    (c_dtwo_bytes : PySem.W.codeIn K cd_z82 "two_bytes" = true)
    (k_ptwo_bytes : PySem.W.keepIn K (.ref f_z82) = true)
    (l_z63 : K.lookup f_z63 = some ⟨oc_z63, od_z63, .func (PySem.W.fnOf "cut_pattern" "cut_pattern" (defArgs s_z63) (defBody s_z63) (defScope s_z63) .none kV_z63 dc_z63 pm_z63 an_z63 cd_z63 ct_z63), sl_z63⟩)
    (c_dcut_pattern : PySem.W.codeIn K cd_z63 "cut_pattern" = true)
    (k_pcut_pattern : PySem.W.keepIn K (.ref f_z63) = true)
    (l_z77 : K.lookup f_z77 = some ⟨oc_z77, od_z77, .func (PySem.W.fnOf "said_of_element" "said_of_element" (defArgs s_z77) (defBody s_z77) (defScope s_z77) .none kV_z77 dc_z77 pm_z77 an_z77 cd_z77 ct_z77), sl_z77⟩)
    (c_dsaid_of_element : PySem.W.codeIn K cd_z77 "said_of_element" = true)
    (k_psaid_of_element : PySem.W.keepIn K (.ref f_z77) = true)
    (l_z70 : K.lookup f_z70 = some ⟨oc_z70, od_z70, .func (PySem.W.fnOf "order_bit" "order_bit" (defArgs s_z70) (defBody s_z70) (defScope s_z70) .none kV_z70 dc_z70 pm_z70 an_z70 cd_z70 ct_z70), sl_z70⟩)
    (c_dorder_bit : PySem.W.codeIn K cd_z70 "order_bit" = true)
    (k_porder_bit : PySem.W.keepIn K (.ref f_z70) = true)
    (l_z71 : K.lookup f_z71 = some ⟨oc_z71, od_z71, .func (PySem.W.fnOf "order_sums" "order_sums" (defArgs s_z71) (defBody s_z71) (defScope s_z71) .none kV_z71 dc_z71 pm_z71 an_z71 cd_z71 ct_z71), sl_z71⟩)
    (c_dorder_sums : PySem.W.codeIn K cd_z71 "order_sums" = true)
    (k_porder_sums : PySem.W.keepIn K (.ref f_z71) = true)
    (l_z75 : K.lookup f_z75 = some ⟨oc_z75, od_z75, .func (PySem.W.fnOf "redrawn_orders" "redrawn_orders" (defArgs s_z75) (defBody s_z75) (defScope s_z75) .none kV_z75 dc_z75 pm_z75 an_z75 cd_z75 ct_z75), sl_z75⟩)
    (c_dredrawn_orders : PySem.W.codeIn K cd_z75 "redrawn_orders" = true)
    (k_predrawn_orders : PySem.W.keepIn K (.ref f_z75) = true)
    (l_z78 : K.lookup f_z78 = some ⟨oc_z78, od_z78, .func (PySem.W.fnOf "states_behind" "states_behind" (defArgs s_z78) (defBody s_z78) (defScope s_z78) .none kV_z78 dc_z78 pm_z78 an_z78 cd_z78 ct_z78), sl_z78⟩)
    (c_dstates_behind : PySem.W.codeIn K cd_z78 "states_behind" = true)
    (k_pstates_behind : PySem.W.keepIn K (.ref f_z78) = true)
    (l_z66 : K.lookup f_z66 = some ⟨oc_z66, od_z66, .func (PySem.W.fnOf "less_order" "less_order" (defArgs s_z66) (defBody s_z66) (defScope s_z66) .none kV_z66 dc_z66 pm_z66 an_z66 cd_z66 ct_z66), sl_z66⟩)
    (c_dless_order : PySem.W.codeIn K cd_z66 "less_order" = true)
    (k_pless_order : PySem.W.keepIn K (.ref f_z66) = true)
    (l_z60 : K.lookup f_z60 = some ⟨oc_z60, od_z60, .func (PySem.W.fnOf "bonds_behind" "bonds_behind" (defArgs s_z60) (defBody s_z60) (defScope s_z60) .none kV_z60 dc_z60 pm_z60 an_z60 cd_z60 ct_z60), sl_z60⟩)
    (c_dbonds_behind : PySem.W.codeIn K cd_z60 "bonds_behind" = true)
    (k_pbonds_behind : PySem.W.keepIn K (.ref f_z60) = true)
    (l_z61 : K.lookup f_z61 = some ⟨oc_z61, od_z61, .func (PySem.W.fnOf "can_be_met" "can_be_met" (defArgs s_z61) (defBody s_z61) (defScope s_z61) .none kV_z61 dc_z61 pm_z61 an_z61 cd_z61 ct_z61), sl_z61⟩)
    (c_dcan_be_met : PySem.W.codeIn K cd_z61 "can_be_met" = true)
    (k_pcan_be_met : PySem.W.keepIn K (.ref f_z61) = true)
    (l_z72 : K.lookup f_z72 = some ⟨oc_z72, od_z72, .func (PySem.W.fnOf "pair_numbers" "pair_numbers" (defArgs s_z72) (defBody s_z72) (defScope s_z72) .none kV_z72 dc_z72 pm_z72 an_z72 cd_z72 ct_z72), sl_z72⟩)
    (c_dpair_numbers : PySem.W.codeIn K cd_z72 "pair_numbers" = true)
    (k_ppair_numbers : PySem.W.keepIn K (.ref f_z72) = true)
    (l_z74 : K.lookup f_z74 = some ⟨oc_z74, od_z74, .func (PySem.W.fnOf "read_molecule" "read_molecule" (defArgs s_z74) (defBody s_z74) (defScope s_z74) .none kV_z74 dc_z74 pm_z74 an_z74 cd_z74 ct_z74), sl_z74⟩)
    (c_dread_molecule : PySem.W.codeIn K cd_z74 "read_molecule" = true)
    (k_pread_molecule : PySem.W.keepIn K (.ref f_z74) = true)
    (l_z79 : K.lookup f_z79 = some ⟨oc_z79, od_z79, .func (PySem.W.fnOf "take_atom" "take_atom" (defArgs s_z79) (defBody s_z79) (defScope s_z79) .none kV_z79 dc_z79 pm_z79 an_z79 cd_z79 ct_z79), sl_z79⟩)
    (c_dtake_atom : PySem.W.codeIn K cd_z79 "take_atom" = true)
    (k_ptake_atom : PySem.W.keepIn K (.ref f_z79) = true)
    (l_z80 : K.lookup f_z80 = some ⟨oc_z80, od_z80, .func (PySem.W.fnOf "take_bond" "take_bond" (defArgs s_z80) (defBody s_z80) (defScope s_z80) .none kV_z80 dc_z80 pm_z80 an_z80 cd_z80 ct_z80), sl_z80⟩)
    (c_dtake_bond : PySem.W.codeIn K cd_z80 "take_bond" = true)
    (k_ptake_bond : PySem.W.keepIn K (.ref f_z80) = true)
    (l_z67 : K.lookup f_z67 = some ⟨oc_z67, od_z67, .func (PySem.W.fnOf "may_have_hand" "may_have_hand" (defArgs s_z67) (defBody s_z67) (defScope s_z67) .none kV_z67 dc_z67 pm_z67 an_z67 cd_z67 ct_z67), sl_z67⟩)
    (c_dmay_have_hand : PySem.W.codeIn K cd_z67 "may_have_hand" = true)
    (k_pmay_have_hand : PySem.W.keepIn K (.ref f_z67) = true)
    (l_z68 : K.lookup f_z68 = some ⟨oc_z68, od_z68, .func (PySem.W.fnOf "may_have_side" "may_have_side" (defArgs s_z68) (defBody s_z68) (defScope s_z68) .none kV_z68 dc_z68 pm_z68 an_z68 cd_z68 ct_z68), sl_z68⟩)
    (c_dmay_have_side : PySem.W.codeIn K cd_z68 "may_have_side" = true)
    (k_pmay_have_side : PySem.W.keepIn K (.ref f_z68) = true)
    (l_z64 : K.lookup f_z64 = some ⟨oc_z64, od_z64, .func (PySem.W.fnOf "end_takes_side" "end_takes_side" (defArgs s_z64) (defBody s_z64) (defScope s_z64) .none kV_z64 dc_z64 pm_z64 an_z64 cd_z64 ct_z64), sl_z64⟩)
    (c_dend_takes_side : PySem.W.codeIn K cd_z64 "end_takes_side" = true)
    (k_pend_takes_side : PySem.W.keepIn K (.ref f_z64) = true)
    (l_z62 : K.lookup f_z62 = some ⟨oc_z62, od_z62, .func (PySem.W.fnOf "cut" "cut" (defArgs s_z62) (defBody s_z62) (defScope s_z62) .none kV_z62 dc_z62 pm_z62 an_z62 cd_z62 ct_z62), sl_z62⟩)
    (c_dcut : PySem.W.codeIn K cd_z62 "cut" = true)
    (k_pcut : PySem.W.keepIn K (.ref f_z62) = true)
    (l_z65 : K.lookup f_z65 = some ⟨oc_z65, od_z65, .func (PySem.W.fnOf "fault_answer" "fault_answer" (defArgs s_z65) (defBody s_z65) (defScope s_z65) .none kV_z65 dc_z65 pm_z65 an_z65 cd_z65 ct_z65), sl_z65⟩)
    (c_dfault_answer : PySem.W.codeIn K cd_z65 "fault_answer" = true)
    (k_pfault_answer : PySem.W.keepIn K (.ref f_z65) = true)
    (l_z76 : K.lookup f_z76 = some ⟨oc_z76, od_z76, .func (PySem.W.fnOf "row_answer" "row_answer" (defArgs s_z76) (defBody s_z76) (defScope s_z76) .none kV_z76 dc_z76 pm_z76 an_z76 cd_z76 ct_z76), sl_z76⟩)
    (c_drow_answer : PySem.W.codeIn K cd_z76 "row_answer" = true)
    (k_prow_answer : PySem.W.keepIn K (.ref f_z76) = true)
    (l_z58 : K.lookup f_z58 = some ⟨oc_z58, od_z58, .func (PySem.W.fnOf "are_rising_below" "are_rising_below" (defArgs s_z58) (defBody s_z58) (defScope s_z58) .none kV_z58 dc_z58 pm_z58 an_z58 cd_z58 ct_z58), sl_z58⟩)
    (c_dare_rising_below : PySem.W.codeIn K cd_z58 "are_rising_below" = true)
    (k_pare_rising_below : PySem.W.keepIn K (.ref f_z58) = true)
    (h_z56 : PySem.W.nsIn K mainGlobals "WRONG_MARK" = some (some (.int (1) tk_z56)))
    (h_z39 : PySem.W.nsIn K mainGlobals "OUT_OF_BOUNDS" = some (some (.int (2) tk_z39)))
    (h_z36 : PySem.W.nsIn K mainGlobals "NOT_BEHIND" = some (some (.int (3) tk_z36)))
    (h_z17 : PySem.W.nsIn K mainGlobals "HAND_MISPLACED" = some (some (.int (4) tk_z17)))
    (h_z8 : PySem.W.nsIn K mainGlobals "ENDS_EARLY" = some (some (.int (5) tk_z8)))
    (h_z51 : PySem.W.nsIn K mainGlobals "SIDE_MISPLACED" = some (some (.int (6) tk_z51)))
    (h_z19 : PySem.W.nsIn K mainGlobals "LEFT_OVER" = some (some (.int (7) tk_z19)))
    (h_z22 : PySem.W.nsIn K mainGlobals "MOST_ATOMS" = some (some (.int (128) tk_z22)))
    (h_z23 : PySem.W.nsIn K mainGlobals "MOST_BONDS" = some (some (.int (192) tk_z23)))
    (h_z25 : PySem.W.nsIn K mainGlobals "MOST_ELEMENT" = some (some (.int (118) tk_z25)))
    (h_z24 : PySem.W.nsIn K mainGlobals "MOST_CHARGE" = some (some (.int (8) tk_z24)))
    (h_z27 : PySem.W.nsIn K mainGlobals "MOST_HYDROGENS" = some (some (.int (7) tk_z27)))
    (h_z2 : PySem.W.nsIn K mainGlobals "ANY_ISOTOPE" = some (some (.int (501) tk_z2)))
    (h_z29 : PySem.W.nsIn K mainGlobals "MOST_NEIGHBOURS" = some (some (.int (127) tk_z29)))
    (h_z31 : PySem.W.nsIn K mainGlobals "MOST_SUM" = some (some (.int (381) tk_z31)))
    (h_z0 : PySem.W.nsIn K mainGlobals "ALL_REDRAWINGS" = some (some (.int (1) tk_z0)))
    (h_z7 : PySem.W.nsIn K mainGlobals "EITHER" = some (some (.int (0) tk_z7)))
    (h_z18 : PySem.W.nsIn K mainGlobals "LEAST_ORDER" = some (some (.int (1) tk_z18)))
    (h_z13 : PySem.W.nsIn K mainGlobals "GREATEST_ORDER" = some (some (.int (3) tk_z13)))
    (h_z28 : PySem.W.nsIn K mainGlobals "MOST_ISOTOPE" = some (some (.int (500) tk_z28)))
    (h_z26 : PySem.W.nsIn K mainGlobals "MOST_HAND" = some (some (.int (2) tk_z26)))
    (h_z30 : PySem.W.nsIn K mainGlobals "MOST_SIDE" = some (some (.int (2) tk_z30)))
    (h_z1 : PySem.W.nsIn K mainGlobals "ANSWERED" = some (some (.int (0) tk_z1)))
    (h_z37 : PySem.W.nsIn K mainGlobals "NOT_RISING" = some (some (.int (-1) tk_z37)))
    (h_z9 : PySem.W.nsIn K mainGlobals "FAULTY_FORM" = some (some (.int (-5) tk_z9)))
    (h_z10 : PySem.W.nsIn K mainGlobals "FIRST_FORM" = some (some (.int (0) tk_z10)))
    (h_z21 : PySem.W.nsIn K mainGlobals "MARK_patterns" = some (some (.ref a_z21)))
    (l_z21 : K.lookup a_z21 = some ⟨.type "tuple", td_z21, .seq #[.int 70 t0_z21, .int 75 t1_z21, .int 80 t2_z21, .int 49 t3_z21] tn_z21, tsl_z21⟩)
    (h_z38 : PySem.W.nsIn K mainGlobals "ORDERS" = some (some (.ref a_z38)))
    (l_z38 : K.lookup a_z38 = some ⟨.type "tuple", td_z38, .seq #[.int 1 t0_z38, .int 2 t1_z38, .int 3 t2_z38] tn_z38, tsl_z38⟩)
    (h_z20 : PySem.W.nsIn K mainGlobals "MARK_molecules" = some (some (.ref a_z20)))
    (l_z20 : K.lookup a_z20 = some ⟨.type "tuple", td_z20, .seq #[.int 70 t0_z20, .int 75 t1_z20, .int 77 t2_z20, .int 49 t3_z20] tn_z20, tsl_z20⟩)
    (h_enumerate : PySem.W.nsIn K mainGlobals "enumerate" = some none)
    (h_len : PySem.W.nsIn K mainGlobals "len" = some none)
    (h_list : PySem.W.nsIn K mainGlobals "list" = some none)
    (h_range : PySem.W.nsIn K mainGlobals "range" = some none)
    (h_tuple : PySem.W.nsIn K mainGlobals "tuple" = some none)
    (ok_z11 : (nes_z11.all fun e => match e.key with | .str _ _ => true | _ => false) = true)
    : ∃ t : Ad, t.f_z62 = f_z62 ∧ Txt K mg t := by
  have nsok_z11 : PySem.W.nsOkIn K N_z11 = true := by unfold PySem.W.nsOkIn; rw [ln_z11]; exact ok_z11
  refine ⟨⟨c_z14, c_z11, c_z40, c_z52, c_z54, c_z3, c_z5, c_z32, f_z16, PySem.W.fnOf "__init__" "Graph.__init__" (defArgs s_z16) (defBody s_z16) (defScope s_z16) .none kV_z16 dc_z16 pm_z16 an_z16 cd_z16 ct_z16, f_z15, PySem.W.fnOf "besides" "Graph.besides" (defArgs s_z15) (defBody s_z15) (defScope s_z15) .none kV_z15 dc_z15 pm_z15 an_z15 cd_z15 ct_z15, f_z12, PySem.W.fnOf "__init__" "FormFault.__init__" (defArgs s_z12) (defBody s_z12) (defScope s_z12) .none kV_z12 dc_z12 pm_z12 an_z12 cd_z12 ct_z12, f_z42, PySem.W.fnOf "__init__" "Reader.__init__" (defArgs s_z42) (defBody s_z42) (defScope s_z42) .none kV_z42 dc_z42 pm_z42 an_z42 cd_z42 ct_z42, f_z41, PySem.W.fnOf "fault" "Reader.fault" (defArgs s_z41) (defBody s_z41) (defScope s_z41) .none kV_z41 dc_z41 pm_z41 an_z41 cd_z41 ct_z41, f_z48, PySem.W.fnOf "take_number" "Reader.take_number" (defArgs s_z48) (defBody s_z48) (defScope s_z48) .none kV_z48 dc_z48 pm_z48 an_z48 cd_z48 ct_z48, f_z44, PySem.W.fnOf "take_between" "Reader.take_between" (defArgs s_z44) (defBody s_z44) (defScope s_z44) .none kV_z44 dc_z44 pm_z44 an_z44 cd_z44 ct_z44, f_z50, PySem.W.fnOf "take_range" "Reader.take_range" (defArgs s_z50) (defBody s_z50) (defScope s_z50) .none kV_z50 dc_z50 pm_z50 an_z50 cd_z50 ct_z50, f_z47, PySem.W.fnOf "take_mark" "Reader.take_mark" (defArgs s_z47) (defBody s_z47) (defScope s_z47) .none kV_z47 dc_z47 pm_z47 an_z47 cd_z47 ct_z47, f_z43, PySem.W.fnOf "take_atoms" "Reader.take_atoms" (defArgs s_z43) (defBody s_z43) (defScope s_z43) .none kV_z43 dc_z43 pm_z43 an_z43 cd_z43 ct_z43, f_z49, PySem.W.fnOf "take_pair" "Reader.take_pair" (defArgs s_z49) (defBody s_z49) (defScope s_z49) .none kV_z49 dc_z49 pm_z49 an_z49 cd_z49 ct_z49, f_z45, PySem.W.fnOf "take_bonds" "Reader.take_bonds" (defArgs s_z45) (defBody s_z45) (defScope s_z45) .none kV_z45 dc_z45 pm_z45 an_z45 cd_z45 ct_z45, f_z46, PySem.W.fnOf "take_end" "Reader.take_end" (defArgs s_z46) (defBody s_z46) (defScope s_z46) .none kV_z46 dc_z46 pm_z46 an_z46 cd_z46 ct_z46, f_z53, PySem.W.fnOf "__init__" "SaidOfAtom.__init__" (defArgs s_z53) (defBody s_z53) (defScope s_z53) .none kV_z53 dc_z53 pm_z53 an_z53 cd_z53 ct_z53, f_z55, PySem.W.fnOf "__init__" "SaidOfBond.__init__" (defArgs s_z55) (defBody s_z55) (defScope s_z55) .none kV_z55 dc_z55 pm_z55 an_z55 cd_z55 ct_z55, f_z4, PySem.W.fnOf "__init__" "Atom.__init__" (defArgs s_z4) (defBody s_z4) (defScope s_z4) .none kV_z4 dc_z4 pm_z4 an_z4 cd_z4 ct_z4, f_z6, PySem.W.fnOf "__init__" "Bond.__init__" (defArgs s_z6) (defBody s_z6) (defScope s_z6) .none kV_z6 dc_z6 pm_z6 an_z6 cd_z6 ct_z6, f_z33, PySem.W.fnOf "__init__" "Molecule.__init__" (defArgs s_z33) (defBody s_z33) (defScope s_z33) .none kV_z33 dc_z33 pm_z33 an_z33 cd_z33 ct_z33, f_z35, PySem.W.fnOf "row_around" "Molecule.row_around" (defArgs s_z35) (defBody s_z35) (defScope s_z35) .none kV_z35 dc_z35 pm_z35 an_z35 cd_z35 ct_z35, f_z34, PySem.W.fnOf "orders_between" "Molecule.orders_between" (defArgs s_z34) (defBody s_z34) (defScope s_z34) .none kV_z34 dc_z34 pm_z34 an_z34 cd_z34 ct_z34, f_z57, PySem.W.fnOf "_wall" "_wall" (defArgs s_z57) (defBody s_z57) (defScope s_z57) .none kV_z57 dc_z57 pm_z57 an_z57 cd_z57 ct_z57, f_z69, PySem.W.fnOf "neighbour_rows" "neighbour_rows" (defArgs s_z69) (defBody s_z69) (defScope s_z69) .none kV_z69 dc_z69 pm_z69 an_z69 cd_z69 ct_z69, f_z81, PySem.W.fnOf "take_graph" "take_graph" (defArgs s_z81) (defBody s_z81) (defScope s_z81) .none kV_z81 dc_z81 pm_z81 an_z81 cd_z81 ct_z81, f_z73, PySem.W.fnOf "pattern_form" "pattern_form" (defArgs s_z73) (defBody s_z73) (defScope s_z73) .none kV_z73 dc_z73 pm_z73 an_z73 cd_z73 ct_z73, f_z59, PySem.W.fnOf "atom_bytes" "atom_bytes" (defArgs s_z59) (defBody s_z59) (defScope s_z59) .none kV_z59 dc_z59 pm_z59 an_z59 cd_z59 ct_z59, f_z82, PySem.W.fnOf "two_bytes" "two_bytes" (defArgs s_z82) (defBody s_z82) (defScope s_z82) .none kV_z82 dc_z82 pm_z82 an_z82 cd_z82 ct_z82, f_z63, PySem.W.fnOf "cut_pattern" "cut_pattern" (defArgs s_z63) (defBody s_z63) (defScope s_z63) .none kV_z63 dc_z63 pm_z63 an_z63 cd_z63 ct_z63, f_z77, PySem.W.fnOf "said_of_element" "said_of_element" (defArgs s_z77) (defBody s_z77) (defScope s_z77) .none kV_z77 dc_z77 pm_z77 an_z77 cd_z77 ct_z77, f_z70, PySem.W.fnOf "order_bit" "order_bit" (defArgs s_z70) (defBody s_z70) (defScope s_z70) .none kV_z70 dc_z70 pm_z70 an_z70 cd_z70 ct_z70, f_z71, PySem.W.fnOf "order_sums" "order_sums" (defArgs s_z71) (defBody s_z71) (defScope s_z71) .none kV_z71 dc_z71 pm_z71 an_z71 cd_z71 ct_z71, f_z75, PySem.W.fnOf "redrawn_orders" "redrawn_orders" (defArgs s_z75) (defBody s_z75) (defScope s_z75) .none kV_z75 dc_z75 pm_z75 an_z75 cd_z75 ct_z75, f_z78, PySem.W.fnOf "states_behind" "states_behind" (defArgs s_z78) (defBody s_z78) (defScope s_z78) .none kV_z78 dc_z78 pm_z78 an_z78 cd_z78 ct_z78, f_z66, PySem.W.fnOf "less_order" "less_order" (defArgs s_z66) (defBody s_z66) (defScope s_z66) .none kV_z66 dc_z66 pm_z66 an_z66 cd_z66 ct_z66, f_z60, PySem.W.fnOf "bonds_behind" "bonds_behind" (defArgs s_z60) (defBody s_z60) (defScope s_z60) .none kV_z60 dc_z60 pm_z60 an_z60 cd_z60 ct_z60, f_z61, PySem.W.fnOf "can_be_met" "can_be_met" (defArgs s_z61) (defBody s_z61) (defScope s_z61) .none kV_z61 dc_z61 pm_z61 an_z61 cd_z61 ct_z61, f_z72, PySem.W.fnOf "pair_numbers" "pair_numbers" (defArgs s_z72) (defBody s_z72) (defScope s_z72) .none kV_z72 dc_z72 pm_z72 an_z72 cd_z72 ct_z72, f_z74, PySem.W.fnOf "read_molecule" "read_molecule" (defArgs s_z74) (defBody s_z74) (defScope s_z74) .none kV_z74 dc_z74 pm_z74 an_z74 cd_z74 ct_z74, f_z79, PySem.W.fnOf "take_atom" "take_atom" (defArgs s_z79) (defBody s_z79) (defScope s_z79) .none kV_z79 dc_z79 pm_z79 an_z79 cd_z79 ct_z79, f_z80, PySem.W.fnOf "take_bond" "take_bond" (defArgs s_z80) (defBody s_z80) (defScope s_z80) .none kV_z80 dc_z80 pm_z80 an_z80 cd_z80 ct_z80, f_z67, PySem.W.fnOf "may_have_hand" "may_have_hand" (defArgs s_z67) (defBody s_z67) (defScope s_z67) .none kV_z67 dc_z67 pm_z67 an_z67 cd_z67 ct_z67, f_z68, PySem.W.fnOf "may_have_side" "may_have_side" (defArgs s_z68) (defBody s_z68) (defScope s_z68) .none kV_z68 dc_z68 pm_z68 an_z68 cd_z68 ct_z68, f_z64, PySem.W.fnOf "end_takes_side" "end_takes_side" (defArgs s_z64) (defBody s_z64) (defScope s_z64) .none kV_z64 dc_z64 pm_z64 an_z64 cd_z64 ct_z64, f_z62, PySem.W.fnOf "cut" "cut" (defArgs s_z62) (defBody s_z62) (defScope s_z62) .none kV_z62 dc_z62 pm_z62 an_z62 cd_z62 ct_z62, f_z65, PySem.W.fnOf "fault_answer" "fault_answer" (defArgs s_z65) (defBody s_z65) (defScope s_z65) .none kV_z65 dc_z65 pm_z65 an_z65 cd_z65 ct_z65, f_z76, PySem.W.fnOf "row_answer" "row_answer" (defArgs s_z76) (defBody s_z76) (defScope s_z76) .none kV_z76 dc_z76 pm_z76 an_z76 cd_z76 ct_z76, f_z58, PySem.W.fnOf "are_rising_below" "are_rising_below" (defArgs s_z58) (defBody s_z58) (defScope s_z58) .none kV_z58 dc_z58 pm_z58 an_z58 cd_z58 ct_z58, a_z21, a_z38, a_z20⟩, rfl, ?_⟩
  exact {
    F_z16 := fun_mk (st := s_z16) l_z16 c_dGraph_init k_pGraph_init,
    B_z16 := (fun_mk (st := s_z16) l_z16 c_dGraph_init k_pGraph_init).binds (ps := ["self", "atoms", "bonds"]) fun _ _ _ _ _ _ us hl => match us, hl with | [_, _, _], _ => rfl,
    F_z15 := fun_mk (st := s_z15) l_z15 c_dGraph_besides k_pGraph_besides,
    B_z15 := (fun_mk (st := s_z15) l_z15 c_dGraph_besides k_pGraph_besides).binds (ps := ["self", "end", "other"]) fun _ _ _ _ _ _ us hl => match us, hl with | [_, _, _], _ => rfl,
    F_z12 := fun_mk (st := s_z12) l_z12 c_dFormFault_init k_pFormFault_init,
    B_z12 := (fun_mk (st := s_z12) l_z12 c_dFormFault_init k_pFormFault_init).binds (ps := ["self", "which", "rule", "place"]) fun _ _ _ _ _ _ us hl => match us, hl with | [_, _, _, _], _ => rfl,
    F_z42 := fun_mk (st := s_z42) l_z42 c_dReader_init k_pReader_init,
    B_z42 := (fun_mk (st := s_z42) l_z42 c_dReader_init k_pReader_init).binds (ps := ["self", "form", "which"]) fun _ _ _ _ _ _ us hl => match us, hl with | [_, _, _], _ => rfl,
    F_z41 := fun_mk (st := s_z41) l_z41 c_dReader_fault k_pReader_fault,
    B_z41 := (fun_mk (st := s_z41) l_z41 c_dReader_fault k_pReader_fault).binds (ps := ["self", "rule", "place"]) fun _ _ _ _ _ _ us hl => match us, hl with | [_, _, _], _ => rfl,
    F_z48 := fun_mk (st := s_z48) l_z48 c_dReader_take_number k_pReader_take_number,
    B_z48 := (fun_mk (st := s_z48) l_z48 c_dReader_take_number k_pReader_take_number).binds (ps := ["self", "size"]) fun _ _ _ _ _ _ us hl => match us, hl with | [_, _], _ => rfl,
    F_z44 := fun_mk (st := s_z44) l_z44 c_dReader_take_between k_pReader_take_between,
    B_z44 := (fun_mk (st := s_z44) l_z44 c_dReader_take_between k_pReader_take_between).binds (ps := ["self", "size", "least", "greatest"]) fun _ _ _ _ _ _ us hl => match us, hl with | [_, _, _, _], _ => rfl,
    F_z50 := fun_mk (st := s_z50) l_z50 c_dReader_take_range k_pReader_take_range,
    B_z50 := (fun_mk (st := s_z50) l_z50 c_dReader_take_range k_pReader_take_range).binds (ps := ["self", "size", "most"]) fun _ _ _ _ _ _ us hl => match us, hl with | [_, _, _], _ => rfl,
    F_z47 := fun_mk (st := s_z47) l_z47 c_dReader_take_mark k_pReader_take_mark,
    B_z47 := (fun_mk (st := s_z47) l_z47 c_dReader_take_mark k_pReader_take_mark).binds (ps := ["self", "mark"]) fun _ _ _ _ _ _ us hl => match us, hl with | [_, _], _ => rfl,
    F_z43 := fun_mk (st := s_z43) l_z43 c_dReader_take_atoms k_pReader_take_atoms,
    B_z43 := (fun_mk (st := s_z43) l_z43 c_dReader_take_atoms k_pReader_take_atoms).binds (ps := ["self", "n", "take_atom"]) fun _ _ _ _ _ _ us hl => match us, hl with | [_, _, _], _ => rfl,
    F_z49 := fun_mk (st := s_z49) l_z49 c_dReader_take_pair k_pReader_take_pair,
    B_z49 := (fun_mk (st := s_z49) l_z49 c_dReader_take_pair k_pReader_take_pair).binds (ps := ["self", "n", "before"]) fun _ _ _ _ _ _ us hl => match us, hl with | [_, _, _], _ => rfl,
    F_z45 := fun_mk (st := s_z45) l_z45 c_dReader_take_bonds k_pReader_take_bonds,
    B_z45 := (fun_mk (st := s_z45) l_z45 c_dReader_take_bonds k_pReader_take_bonds).binds (ps := ["self", "n", "m", "take_bond"]) fun _ _ _ _ _ _ us hl => match us, hl with | [_, _, _, _], _ => rfl,
    F_z46 := fun_mk (st := s_z46) l_z46 c_dReader_take_end k_pReader_take_end,
    B_z46 := (fun_mk (st := s_z46) l_z46 c_dReader_take_end k_pReader_take_end).binds (ps := ["self"]) fun _ _ _ _ _ _ us hl => match us, hl with | [_], _ => rfl,
    F_z53 := fun_mk (st := s_z53) l_z53 c_dSaidOfAtom_init k_pSaidOfAtom_init,
    B_z53 := (fun_mk (st := s_z53) l_z53 c_dSaidOfAtom_init k_pSaidOfAtom_init).binds (ps := ["self", "named", "isotope", "charge", "hydrogens", "neighbours", "total", "ring", "hand"]) fun _ _ _ _ _ _ us hl => match us, hl with | [_, _, _, _, _, _, _, _, _], _ => rfl,
    F_z55 := fun_mk (st := s_z55) l_z55 c_dSaidOfBond_init k_pSaidOfBond_init,
    B_z55 := (fun_mk (st := s_z55) l_z55 c_dSaidOfBond_init k_pSaidOfBond_init).binds (ps := ["self", "pair", "orders", "how", "ring", "side"]) fun _ _ _ _ _ _ us hl => match us, hl with | [_, _, _, _, _, _], _ => rfl,
    F_z4 := fun_mk (st := s_z4) l_z4 c_dAtom_init k_pAtom_init,
    B_z4 := (fun_mk (st := s_z4) l_z4 c_dAtom_init k_pAtom_init).binds (ps := ["self", "element", "isotope", "charge", "hydrogens", "hand"]) fun _ _ _ _ _ _ us hl => match us, hl with | [_, _, _, _, _, _], _ => rfl,
    F_z6 := fun_mk (st := s_z6) l_z6 c_dBond_init k_pBond_init,
    B_z6 := (fun_mk (st := s_z6) l_z6 c_dBond_init k_pBond_init).binds (ps := ["self", "pair", "order", "side"]) fun _ _ _ _ _ _ us hl => match us, hl with | [_, _, _, _], _ => rfl,
    F_z33 := fun_mk (st := s_z33) l_z33 c_dMolecule_init k_pMolecule_init,
    B_z33 := (fun_mk (st := s_z33) l_z33 c_dMolecule_init k_pMolecule_init).binds (ps := ["self", "atoms", "bonds"]) fun _ _ _ _ _ _ us hl => match us, hl with | [_, _, _], _ => rfl,
    F_z35 := fun_mk (st := s_z35) l_z35 c_dMolecule_row_around k_pMolecule_row_around,
    B_z35 := (fun_mk (st := s_z35) l_z35 c_dMolecule_row_around k_pMolecule_row_around).binds (ps := ["self", "atom"]) fun _ _ _ _ _ _ us hl => match us, hl with | [_, _], _ => rfl,
    F_z34 := fun_mk (st := s_z34) l_z34 c_dMolecule_orders_between k_pMolecule_orders_between,
    B_z34 := (fun_mk (st := s_z34) l_z34 c_dMolecule_orders_between k_pMolecule_orders_between).binds (ps := ["self", "atom", "other"]) fun _ _ _ _ _ _ us hl => match us, hl with | [_, _, _], _ => rfl,
    F_z57 := fun_mk (st := s_z57) l_z57 c_d_wall k_p_wall,
    B_z57 := (fun_mk (st := s_z57) l_z57 c_d_wall k_p_wall).binds (ps := ["k"]) fun _ _ _ _ _ _ us hl => match us, hl with | [_], _ => rfl,
    g_z57 := PySem.W.mg_of X G h_z57,
    F_z69 := fun_mk (st := s_z69) l_z69 c_dneighbour_rows k_pneighbour_rows,
    B_z69 := (fun_mk (st := s_z69) l_z69 c_dneighbour_rows k_pneighbour_rows).binds (ps := ["n", "bonds"]) fun _ _ _ _ _ _ us hl => match us, hl with | [_, _], _ => rfl,
    g_z69 := PySem.W.mg_of X G h_z69,
    F_z81 := fun_mk (st := s_z81) l_z81 c_dtake_graph k_ptake_graph,
    B_z81 := (fun_mk (st := s_z81) l_z81 c_dtake_graph k_ptake_graph).binds (ps := ["reader", "mark", "take_atom", "take_bond"]) fun _ _ _ _ _ _ us hl => match us, hl with | [_, _, _, _], _ => rfl,
    g_z81 := PySem.W.mg_of X G h_z81,
    F_z73 := fun_mk (st := s_z73) l_z73 c_dpattern_form k_ppattern_form,
    B_z73 := (fun_mk (st := s_z73) l_z73 c_dpattern_form k_ppattern_form).binds (ps := ["pattern"]) fun _ _ _ _ _ _ us hl => match us, hl with | [_], _ => rfl,
    g_z73 := PySem.W.mg_of X G h_z73,
    F_z59 := fun_mk (st := s_z59) l_z59 c_datom_bytes k_patom_bytes,
    B_z59 := (fun_mk (st := s_z59) l_z59 c_datom_bytes k_patom_bytes).binds (ps := ["atom"]) fun _ _ _ _ _ _ us hl => match us, hl with | [_], _ => rfl,
    g_z59 := PySem.W.mg_of X G h_z59,
    F_z82 := fun_mk (st := s_z82) l_z82 c_dtwo_bytes k_ptwo_bytes,
    B_z82 := (fun_mk (st := s_z82) l_z82 c_dtwo_bytes k_ptwo_bytes).binds (ps := ["number"]) fun _ _ _ _ _ _ us hl => match us, hl with | [_], _ => rfl,
    g_z82 := PySem.W.mg_of X G h_z82,
    F_z63 := fun_mk (st := s_z63) l_z63 c_dcut_pattern k_pcut_pattern,
    B_z63 := (fun_mk (st := s_z63) l_z63 c_dcut_pattern k_pcut_pattern).binds (ps := ["molecule", "atoms"]) fun _ _ _ _ _ _ us hl => match us, hl with | [_, _], _ => rfl,
    g_z63 := PySem.W.mg_of X G h_z63,
    F_z77 := fun_mk (st := s_z77) l_z77 c_dsaid_of_element k_psaid_of_element,
    B_z77 := (fun_mk (st := s_z77) l_z77 c_dsaid_of_element k_psaid_of_element).binds (ps := ["element"]) fun _ _ _ _ _ _ us hl => match us, hl with | [_], _ => rfl,
    g_z77 := PySem.W.mg_of X G h_z77,
    F_z70 := fun_mk (st := s_z70) l_z70 c_dorder_bit k_porder_bit,
    B_z70 := (fun_mk (st := s_z70) l_z70 c_dorder_bit k_porder_bit).binds (ps := ["order"]) fun _ _ _ _ _ _ us hl => match us, hl with | [_], _ => rfl,
    g_z70 := PySem.W.mg_of X G h_z70,
    F_z71 := fun_mk (st := s_z71) l_z71 c_dorder_sums k_porder_sums,
    B_z71 := (fun_mk (st := s_z71) l_z71 c_dorder_sums k_porder_sums).binds (ps := ["n", "bonds"]) fun _ _ _ _ _ _ us hl => match us, hl with | [_, _], _ => rfl,
    g_z71 := PySem.W.mg_of X G h_z71,
    F_z75 := fun_mk (st := s_z75) l_z75 c_dredrawn_orders k_predrawn_orders,
    B_z75 := (fun_mk (st := s_z75) l_z75 c_dredrawn_orders k_predrawn_orders).binds (ps := ["sums", "bonds"]) fun _ _ _ _ _ _ us hl => match us, hl with | [_, _], _ => rfl,
    g_z75 := PySem.W.mg_of X G h_z75,
    F_z78 := fun_mk (st := s_z78) l_z78 c_dstates_behind k_pstates_behind,
    B_z78 := (fun_mk (st := s_z78) l_z78 c_dstates_behind k_pstates_behind).binds (ps := ["states", "bonds", "k"]) fun _ _ _ _ _ _ us hl => match us, hl with | [_, _, _], _ => rfl,
    g_z78 := PySem.W.mg_of X G h_z78,
    F_z66 := fun_mk (st := s_z66) l_z66 c_dless_order k_pless_order,
    B_z66 := (fun_mk (st := s_z66) l_z66 c_dless_order k_pless_order).binds (ps := ["state", "bond", "order"]) fun _ _ _ _ _ _ us hl => match us, hl with | [_, _, _], _ => rfl,
    g_z66 := PySem.W.mg_of X G h_z66,
    F_z60 := fun_mk (st := s_z60) l_z60 c_dbonds_behind k_pbonds_behind,
    B_z60 := (fun_mk (st := s_z60) l_z60 c_dbonds_behind k_pbonds_behind).binds (ps := ["bonds", "k", "atom"]) fun _ _ _ _ _ _ us hl => match us, hl with | [_, _, _], _ => rfl,
    g_z60 := PySem.W.mg_of X G h_z60,
    F_z61 := fun_mk (st := s_z61) l_z61 c_dcan_be_met k_pcan_be_met,
    B_z61 := (fun_mk (st := s_z61) l_z61 c_dcan_be_met k_pcan_be_met).binds (ps := ["left", "bonds"]) fun _ _ _ _ _ _ us hl => match us, hl with | [_, _], _ => rfl,
    g_z61 := PySem.W.mg_of X G h_z61,
    F_z72 := fun_mk (st := s_z72) l_z72 c_dpair_numbers k_ppair_numbers,
    B_z72 := (fun_mk (st := s_z72) l_z72 c_dpair_numbers k_ppair_numbers).binds (ps := ["bonds"]) fun _ _ _ _ _ _ us hl => match us, hl with | [_], _ => rfl,
    g_z72 := PySem.W.mg_of X G h_z72,
    F_z74 := fun_mk (st := s_z74) l_z74 c_dread_molecule k_pread_molecule,
    B_z74 := (fun_mk (st := s_z74) l_z74 c_dread_molecule k_pread_molecule).binds (ps := ["form", "which"]) fun _ _ _ _ _ _ us hl => match us, hl with | [_, _], _ => rfl,
    g_z74 := PySem.W.mg_of X G h_z74,
    F_z79 := fun_mk (st := s_z79) l_z79 c_dtake_atom k_ptake_atom,
    B_z79 := (fun_mk (st := s_z79) l_z79 c_dtake_atom k_ptake_atom).binds (ps := ["reader"]) fun _ _ _ _ _ _ us hl => match us, hl with | [_], _ => rfl,
    g_z79 := PySem.W.mg_of X G h_z79,
    F_z80 := fun_mk (st := s_z80) l_z80 c_dtake_bond k_ptake_bond,
    B_z80 := (fun_mk (st := s_z80) l_z80 c_dtake_bond k_ptake_bond).binds (ps := ["reader", "pair"]) fun _ _ _ _ _ _ us hl => match us, hl with | [_, _], _ => rfl,
    g_z80 := PySem.W.mg_of X G h_z80,
    F_z67 := fun_mk (st := s_z67) l_z67 c_dmay_have_hand k_pmay_have_hand,
    B_z67 := (fun_mk (st := s_z67) l_z67 c_dmay_have_hand k_pmay_have_hand).binds (ps := ["molecule", "k"]) fun _ _ _ _ _ _ us hl => match us, hl with | [_, _], _ => rfl,
    g_z67 := PySem.W.mg_of X G h_z67,
    F_z68 := fun_mk (st := s_z68) l_z68 c_dmay_have_side k_pmay_have_side,
    B_z68 := (fun_mk (st := s_z68) l_z68 c_dmay_have_side k_pmay_have_side).binds (ps := ["molecule", "k"]) fun _ _ _ _ _ _ us hl => match us, hl with | [_, _], _ => rfl,
    g_z68 := PySem.W.mg_of X G h_z68,
    F_z64 := fun_mk (st := s_z64) l_z64 c_dend_takes_side k_pend_takes_side,
    B_z64 := (fun_mk (st := s_z64) l_z64 c_dend_takes_side k_pend_takes_side).binds (ps := ["molecule", "end", "other"]) fun _ _ _ _ _ _ us hl => match us, hl with | [_, _, _], _ => rfl,
    g_z64 := PySem.W.mg_of X G h_z64,
    F_z62 := fun_mk (st := s_z62) l_z62 c_dcut k_pcut,
    B_z62 := (fun_mk (st := s_z62) l_z62 c_dcut k_pcut).binds (ps := ["molecule", "atoms"]) fun _ _ _ _ _ _ us hl => match us, hl with | [_, _], _ => rfl,
    g_z62 := PySem.W.mg_of X G h_z62,
    F_z65 := fun_mk (st := s_z65) l_z65 c_dfault_answer k_pfault_answer,
    B_z65 := (fun_mk (st := s_z65) l_z65 c_dfault_answer k_pfault_answer).binds (ps := ["fault"]) fun _ _ _ _ _ _ us hl => match us, hl with | [_], _ => rfl,
    g_z65 := PySem.W.mg_of X G h_z65,
    F_z76 := fun_mk (st := s_z76) l_z76 c_drow_answer k_prow_answer,
    B_z76 := (fun_mk (st := s_z76) l_z76 c_drow_answer k_prow_answer).binds (ps := ["row"]) fun _ _ _ _ _ _ us hl => match us, hl with | [_], _ => rfl,
    g_z76 := PySem.W.mg_of X G h_z76,
    F_z58 := fun_mk (st := s_z58) l_z58 c_dare_rising_below k_pare_rising_below,
    B_z58 := (fun_mk (st := s_z58) l_z58 c_dare_rising_below k_pare_rising_below).binds (ps := ["atoms", "n"]) fun _ _ _ _ _ _ us hl => match us, hl with | [_, _], _ => rfl,
    g_z58 := PySem.W.mg_of X G h_z58,
    g_z14 := PySem.W.mg_of X G h_z14,
    C_z14 := ⟨pg_z14, hd_z14, po_z14, sa_z14⟩,
    K_z14 := ⟨mk_z14, a_z16, i_z16, kc_z14⟩,
    M_z15 := ⟨a_z15, i_z15, k_pGraph_besides⟩,
    n_Graph_atoms := n_Graph_atoms,
    n_Graph_bonds := n_Graph_bonds,
    n_Graph_neighbours := n_Graph_neighbours,
    g_z11 := PySem.W.mg_of X G h_z11,
    X_z11 := ⟨⟨_, _, _, _, _, _, _, _, _, _, _, _, _, _, l_z11, nsok_z11, in_z11, fun x hx => by simp only [List.mem_cons, List.mem_nil_iff, or_false] at hx; rcases hx with rfl | rfl | rfl | rfl | rfl | rfl <;> first | exact xn_FormFault_getattribute | exact xn_FormFault_getattr | exact xn_FormFault_setattr | exact xn_FormFault_which | exact xn_FormFault_rule | exact xn_FormFault_place⟩, is_z11, kp_z11, sa_z11, by simp, by simp, by simp⟩,
    g_z40 := PySem.W.mg_of X G h_z40,
    C_z40 := ⟨pg_z40, hd_z40, po_z40, sa_z40⟩,
    K_z40 := ⟨mk_z40, a_z42, i_z42, kc_z40⟩,
    M_z41 := ⟨a_z41, i_z41, k_pReader_fault⟩,
    M_z48 := ⟨a_z48, i_z48, k_pReader_take_number⟩,
    M_z44 := ⟨a_z44, i_z44, k_pReader_take_between⟩,
    M_z50 := ⟨a_z50, i_z50, k_pReader_take_range⟩,
    M_z47 := ⟨a_z47, i_z47, k_pReader_take_mark⟩,
    M_z43 := ⟨a_z43, i_z43, k_pReader_take_atoms⟩,
    M_z49 := ⟨a_z49, i_z49, k_pReader_take_pair⟩,
    M_z45 := ⟨a_z45, i_z45, k_pReader_take_bonds⟩,
    M_z46 := ⟨a_z46, i_z46, k_pReader_take_end⟩,
    n_Reader_form := n_Reader_form,
    n_Reader_which := n_Reader_which,
    n_Reader_place := n_Reader_place,
    n_Reader_hand_places := n_Reader_hand_places,
    n_Reader_side_places := n_Reader_side_places,
    g_z52 := PySem.W.mg_of X G h_z52,
    C_z52 := ⟨pg_z52, hd_z52, po_z52, sa_z52⟩,
    K_z52 := ⟨mk_z52, a_z53, i_z53, kc_z52⟩,
    n_SaidOfAtom_named := n_SaidOfAtom_named,
    n_SaidOfAtom_isotope := n_SaidOfAtom_isotope,
    n_SaidOfAtom_charge := n_SaidOfAtom_charge,
    n_SaidOfAtom_hydrogens := n_SaidOfAtom_hydrogens,
    n_SaidOfAtom_neighbours := n_SaidOfAtom_neighbours,
    n_SaidOfAtom_total := n_SaidOfAtom_total,
    n_SaidOfAtom_ring := n_SaidOfAtom_ring,
    n_SaidOfAtom_hand := n_SaidOfAtom_hand,
    g_z54 := PySem.W.mg_of X G h_z54,
    C_z54 := ⟨pg_z54, hd_z54, po_z54, sa_z54⟩,
    K_z54 := ⟨mk_z54, a_z55, i_z55, kc_z54⟩,
    n_SaidOfBond_a := n_SaidOfBond_a,
    n_SaidOfBond_b := n_SaidOfBond_b,
    n_SaidOfBond_orders := n_SaidOfBond_orders,
    n_SaidOfBond_how := n_SaidOfBond_how,
    n_SaidOfBond_ring := n_SaidOfBond_ring,
    n_SaidOfBond_side := n_SaidOfBond_side,
    g_z3 := PySem.W.mg_of X G h_z3,
    C_z3 := ⟨pg_z3, hd_z3, po_z3, sa_z3⟩,
    K_z3 := ⟨mk_z3, a_z4, i_z4, kc_z3⟩,
    n_Atom_element := n_Atom_element,
    n_Atom_isotope := n_Atom_isotope,
    n_Atom_charge := n_Atom_charge,
    n_Atom_hydrogens := n_Atom_hydrogens,
    n_Atom_hand := n_Atom_hand,
    g_z5 := PySem.W.mg_of X G h_z5,
    C_z5 := ⟨pg_z5, hd_z5, po_z5, sa_z5⟩,
    K_z5 := ⟨mk_z5, a_z6, i_z6, kc_z5⟩,
    n_Bond_a := n_Bond_a,
    n_Bond_b := n_Bond_b,
    n_Bond_order := n_Bond_order,
    n_Bond_side := n_Bond_side,
    g_z32 := PySem.W.mg_of X G h_z32,
    C_z32 := ⟨pg_z32, hd_z32, po_z32, sa_z32⟩,
    K_z32 := ⟨mk_z32, a_z33, i_z33, kc_z32⟩,
    M_z35 := ⟨a_z35, i_z35, k_pMolecule_row_around⟩,
    M_z34 := ⟨a_z34, i_z34, k_pMolecule_orders_between⟩,
    M_Molecule_besides := ⟨a_Molecule_besides, i_z15, k_pGraph_besides⟩,
    n_Molecule_atoms := n_Molecule_atoms,
    n_Molecule_bonds := n_Molecule_bonds,
    n_Molecule_neighbours := n_Molecule_neighbours,
    n_Molecule_sums := n_Molecule_sums,
    n_Molecule_orders := n_Molecule_orders,
    n_Molecule_bond_numbers := n_Molecule_bond_numbers,
    S_z16 := ⟨sp_z16, rd_z16, fc_z16, k_pGraph_init⟩,
    k_z56 := ⟨_, PySem.W.mg_of X G h_z56⟩,
    k_z39 := ⟨_, PySem.W.mg_of X G h_z39⟩,
    k_z36 := ⟨_, PySem.W.mg_of X G h_z36⟩,
    k_z17 := ⟨_, PySem.W.mg_of X G h_z17⟩,
    k_z8 := ⟨_, PySem.W.mg_of X G h_z8⟩,
    k_z51 := ⟨_, PySem.W.mg_of X G h_z51⟩,
    k_z19 := ⟨_, PySem.W.mg_of X G h_z19⟩,
    k_z22 := ⟨_, PySem.W.mg_of X G h_z22⟩,
    k_z23 := ⟨_, PySem.W.mg_of X G h_z23⟩,
    k_z25 := ⟨_, PySem.W.mg_of X G h_z25⟩,
    k_z24 := ⟨_, PySem.W.mg_of X G h_z24⟩,
    k_z27 := ⟨_, PySem.W.mg_of X G h_z27⟩,
    k_z2 := ⟨_, PySem.W.mg_of X G h_z2⟩,
    k_z29 := ⟨_, PySem.W.mg_of X G h_z29⟩,
    k_z31 := ⟨_, PySem.W.mg_of X G h_z31⟩,
    k_z0 := ⟨_, PySem.W.mg_of X G h_z0⟩,
    k_z7 := ⟨_, PySem.W.mg_of X G h_z7⟩,
    k_z18 := ⟨_, PySem.W.mg_of X G h_z18⟩,
    k_z13 := ⟨_, PySem.W.mg_of X G h_z13⟩,
    k_z28 := ⟨_, PySem.W.mg_of X G h_z28⟩,
    k_z26 := ⟨_, PySem.W.mg_of X G h_z26⟩,
    k_z30 := ⟨_, PySem.W.mg_of X G h_z30⟩,
    k_z1 := ⟨_, PySem.W.mg_of X G h_z1⟩,
    k_z37 := ⟨_, PySem.W.mg_of X G h_z37⟩,
    k_z9 := ⟨_, PySem.W.mg_of X G h_z9⟩,
    k_z10 := ⟨_, PySem.W.mg_of X G h_z10⟩,
    g_z21 := PySem.W.mg_of X G h_z21,
    T_z21 := fun H => .inr ⟨_, _, _, l_z21, rfl, rfl, (by show 4 ≤ sizeLine; decide), .cons ⟨_, rfl⟩ (.cons ⟨_, rfl⟩ (.cons ⟨_, rfl⟩ (.cons ⟨_, rfl⟩ (.nil))))⟩,
    g_z38 := PySem.W.mg_of X G h_z38,
    T_z38 := fun H => .inr ⟨_, _, _, l_z38, rfl, rfl, (by show 3 ≤ sizeLine; decide), .cons ⟨_, rfl⟩ (.cons ⟨_, rfl⟩ (.cons ⟨_, rfl⟩ (.nil)))⟩,
    g_z20 := PySem.W.mg_of X G h_z20,
    T_z20 := fun H => .inr ⟨_, _, _, l_z20, rfl, rfl, (by show 4 ≤ sizeLine; decide), .cons ⟨_, rfl⟩ (.cons ⟨_, rfl⟩ (.cons ⟨_, rfl⟩ (.cons ⟨_, rfl⟩ (.nil))))⟩,
    b_enumerate := PySem.W.ns_none_of X G h_enumerate,
    b_len := PySem.W.ns_none_of X G h_len,
    b_list := PySem.W.ns_none_of X G h_list,
    b_range := PySem.W.ns_none_of X G h_range,
    b_tuple := PySem.W.ns_none_of X G h_tuple }
end MP
namespace MP
open PySem PySem.Spec PyProof.Rows L2
open XL (excTail)
open Fk (Fault Bytes numIn need andThen)
def FaultAt (H : Hp) (dx : Addr) (w r p : Int) : Prop := H dx = some (.xd [("which", .int w), ("rule", .int r), ("place", .int p)])
def Ans {α : Type} (C : Addr) (w : Int) (x : Except Fault α) (k : α → Prop) (E : XK) : Prop := match x with
  | .ok y => k y
  | .error f => ∀ H dx, FaultAt H dx w f.rule f.place → E (.ref C) (some dx) H
theorem Ans.andThen {α β : Type} {C : Addr} {w : Int} {x : Except Fault α} {f : α → Except Fault β} {k : β → Prop} {E : XK} : Ans C w (Fk.andThen x f) k E ↔ Ans C w x (fun y => Ans C w (f y) k E) E := by cases x <;> exact Iff.rfl
theorem Ans.mono {α : Type} {C : Addr} {w : Int} {x : Except Fault α} {k k' : α → Prop} {E : XK} (h : Ans C w x k E) (f : ∀ y, x = .ok y → k y → k' y) : Ans C w x k' E := by
  cases x with
  | ok y => exact f y rfl h
  | error e => exact h
def vB (B : Bytes) : List V := B.map fun c => V.int (c.toNat : Int)
def FrmAt (K : PySem.W.Frag) (H : Hp) (a : Addr) (B : Bytes) : Prop := (∃ o, H a = some (.frz o (.lst (vB B)))) ∨ ∀ H', SqL K H' a (vB B)
theorem FrmAt.sq {K : PySem.W.Frag} {H : Hp} {a : Addr} {B : Bytes} (h : FrmAt K H a B) : SqL K H a (vB B) := by
  rcases h with ⟨o, h⟩ | h
  · exact .inl (.inr ⟨o, h⟩)
  · exact h H
def Frm (S : List Addr) (H H' : Hp) : Prop := ∀ b o, H b = some o → b ∉ S → H' b = some o
theorem Frm.refl {S : List Addr} {H : Hp} : Frm S H H := fun _ _ h _ => h
theorem Frm.trans {S : List Addr} {H H1 H2 : Hp} (a : Frm S H H1) (b : Frm S H1 H2) : Frm S H H2 := fun c o h n => b c o (a c o h n) n
theorem Frm.mono {S S' : List Addr} {H H1 : Hp} (a : Frm S H H1) (h : ∀ b ∈ S, b ∈ S') : Frm S' H H1 := fun c o q n => a c o q fun z => n (h c z)
theorem Frm.frm {K : PySem.W.Frag} {S : List Addr} {H H' : Hp} {a : Addr} {B : Bytes} (e : Frm S H H') (h : FrmAt K H a B) (n : ∀ o xs, H a = some (.frz o xs) → a ∉ S) : FrmAt K H' a B := by
  rcases h with ⟨o, h⟩ | h
  · exact .inl ⟨o, e a _ h (n _ _ h)⟩
  · exact .inr h
structure Rdr where
  a : Addr
  w : Int
  B : Bytes
  b : Bytes
  p : Nat
  hp : Addr
  hps : List Int
  sp : Addr
  sps : List Int
def rfs (x : Rdr) : List (Str × V) := [("form", .ref x.a), ("which", .int x.w), ("place", .int x.p), ("hand_places", .ref x.hp), ("side_places", .ref x.sp)]
structure RdAt (K : PySem.W.Frag) (C : Addr) (H : Hp) (r : Addr) (x : Rdr) : Prop where
  obj : ∃ dx, H r = some (.ins C dx (rfs x))
  form : FrmAt K H x.a x.B
  hpl : H x.hp = some (.lst (x.hps.map V.int))
  spl : H x.sp = some (.lst (x.sps.map V.int))
  ne : x.hp ≠ x.sp
  rest : x.b = x.B.drop x.p
  le : x.p ≤ x.B.length
  small : x.B.length ≤ 6000
theorem frz_ne {H : Hp} {a b : Addr} {o : Obj} {u v : HO} (h : H a = some (.frz o u)) (h' : H b = some v) (n : ∀ o u, v ≠ .frz o u) : a ≠ b := fun e => by rw [e, h'] at h; exact n _ _ (Option.some.inj h)
theorem RdAt.stay {K : PySem.W.Frag} {C : Addr} {H H' : Hp} {r : Addr} {x : Rdr} {S : List Addr} (R : RdAt K C H r x) (f : Frm S H H') (n1 : r ∉ S) (n2 : x.hp ∉ S) (n3 : x.sp ∉ S) (n4 : ∀ b ∈ S, ∀ o u, H b ≠ some (.frz o u)) : RdAt K C H' r x := by
  obtain ⟨dx, e⟩ := R.obj
  exact ⟨⟨dx, f r _ e n1⟩, f.frm R.form fun o xs h hm => n4 _ hm o xs h, f _ _ R.hpl n2, f _ _ R.spl n3, R.ne, R.rest, R.le, R.small⟩
theorem RdAt.place {K : PySem.W.Frag} {C : Addr} {H H' : Hp} {r dx : Addr} {x : Rdr} {b : Bytes} {p : Nat} (R : RdAt K C H r x) (f : Frm [r] H H') (e : H' r = some (.ins C dx (rfs { x with b := b, p := p }))) (hb : b = x.B.drop p) (hp : p ≤ x.B.length) :
    RdAt K C H' r { x with b := b, p := p } := by
  obtain ⟨d0, e0⟩ := R.obj
  exact ⟨⟨dx, e⟩, f.frm R.form (fun o xs h hm => by
    rw [show x.a = r by simpa using hm, e0] at h; cases h), f _ _ R.hpl (by simp; exact ne_of R.hpl e0 (by intro z; cases z)), f _ _ R.spl (by simp; exact ne_of R.spl e0 (by intro z; cases z)), R.ne, hb, hp, R.small⟩
def spXInit (C : Addr) : Sp := fun vs H Q _ => ∃ (a : Addr) (w r p : Int), vs = [.ref a, .int w, .int r, .int p] ∧ H a = some (XO a C none) ∧ ∀ (H' : Hp) (dx : Addr), dx ≠ a → H' a = some (XO a C (some dx)) → FaultAt H' dx w r p → Q .non H'
def spFault (CR CF : Addr) : Sp := fun vs H _ E => ∃ (r : Addr) (w ru pl : Int) (dx : Addr) (fs : List (Str × V)), vs = [.ref r, .int ru, .int pl] ∧ H r = some (.ins CR dx fs) ∧ fs.lookup ("which" : Str) = some (V.int w) ∧ ∀ H' dx, FaultAt H' dx w ru pl → E (.ref CF) (some dx) H'
def spNum (K : PySem.W.Frag) (CR CF : Addr) : Sp := fun vs H Q E => ∃ (r : Addr) (k : Nat) (x : Rdr), vs = [.ref r, .int (k : Int)] ∧ RdAt K CR H r x ∧ (k = 1 ∨ k = 2) ∧
  Ans CF x.w (numIn k (fun _ => true) x.b x.p) (fun y => ∀ H', RdAt K CR H' r { x with b := y.2.1, p := y.2.2 } → Frm [r] H H' → Q (.int (y.1 : Int)) H') E
def spBetween (K : PySem.W.Frag) (CR CF : Addr) : Sp := fun vs H Q E => ∃ (r : Addr) (k : Nat) (lo hi : Int) (x : Rdr), vs = [.ref r, .int (k : Int), .int lo, .int hi] ∧ RdAt K CR H r x ∧ (k = 1 ∨ k = 2) ∧
  Ans CF x.w (numIn k (fun v => decide (lo ≤ (v : Int)) && decide ((v : Int) ≤ hi)) x.b x.p) (fun y => ∀ H', RdAt K CR H' r { x with b := y.2.1, p := y.2.2 } → Frm [r] H H' → Q (.int (y.1 : Int)) H') E
section
variable {P : Program} {w : World} {K : PySem.W.Frag} {mg : Str → Option Value} {base : Heap} {t : Ad}
theorem noB_which : typeLookup (.type "Exception") "which" = pure none := by rw [typeLookup_type, builtinLookup_eq_fast]; kernel_rfl
theorem noB_rule : typeLookup (.type "Exception") "rule" = pure none := by rw [typeLookup_type, builtinLookup_eq_fast]; kernel_rfl
theorem noB_place : typeLookup (.type "Exception") "place" = pure none := by rw [typeLookup_type, builtinLookup_eq_fast]; kernel_rfl
theorem sc_xinit : FnScope ["self", "which", "rule", "place"] ["self", "which", "rule", "place"] (defScope s_z12) := ⟨rfl, rfl, rfl, by decide +kernel, rfl, by decide +kernel, by decide +kernel⟩
theorem ok_xinit (T : Txt K mg t) : FnOk P w K mg base CX0 1 t.f_z12 t.d_z12 ["self", "which", "rule", "place"] (spXInit t.c_z11) := by
  refine T.F_z12.ok sc_xinit (fun vs H Q E h => ?_) (fun cdv A outer s H vs Q E hr h => ?_)
  · obtain ⟨a, w, r, p, rfl, _⟩ := h
    rfl
  · obtain ⟨a, w, r, p, rfl, ha, k⟩ := h
    refine ⟨_, pss_cons (ps_x0 T.X_z11 (pv 0) (pv 1) (by simp) noB_which rfl) (pss_cons (ps_x1 T.X_z11 (pv 0) (pv 2) (by simp) noB_rule rfl) (pss_one (ps_x1 T.X_z11 (pv 0) (pv 3) (by simp) noB_place rfl))), ?_⟩
    refine ⟨_, rfl, _, rfl, a, rfl, ha, fun dx hd => ?_⟩
    have da : dx ≠ a := fun z => by rw [z, ha] at hd; cases hd
    have e1 : upd (upd H dx (.xd [("which", V.int w)])) a (XO a t.c_z11 (some dx)) dx = some (.xd [("which", V.int w)]) := by rw [upd_ne da, upd_same]
    refine ⟨_, rfl, _, rfl, a, dx, _, rfl, upd_same, e1, (by show 1 < 1000; decide), ?_⟩
    refine ⟨_, rfl, _, rfl, a, dx, _, rfl, ?_, upd_same, (by show 2 < 1000; decide), ?_⟩
    · rw [upd_ne (Ne.symm da)]; exact upd_same
    · refine k _ dx da ?_ upd_same
      rw [upd_ne (Ne.symm da), upd_ne (Ne.symm da)]; exact upd_same
theorem sc_fault : FnScope ["self", "rule", "place"] ["self", "rule", "place"] (defScope s_z41) := ⟨rfl, rfl, rfl, by decide +kernel, rfl, by decide +kernel, by decide +kernel⟩
theorem ok_fault (T : Txt K mg t) : FnOk P w K mg base (CXF P w) 3 t.f_z41 t.d_z41 ["self", "rule", "place"] (spFault t.c_z40 t.c_z11) := by
  have GI : FnOk P w K mg base CX0 1 t.f_z12 t.d_z12 ["self", "which", "rule", "place"] (spXInit t.c_z11) := ok_xinit T
  refine T.F_z41.okF sc_fault (fun vs H Q E h => ?_) (fun cdv A outer s H vs Q E hr h => ?_)
  · obtain ⟨r, w, ru, pl, dx, fs, rfl, _⟩ := h
    rfl
  · obtain ⟨r, w, ru, pl, dx, fs, rfl, hr0, hw, k⟩ := h
    refine ⟨_, pss_one (ps_raise rfl T.X_z11 GI hr rfl T.g_z11 T.B_z12 raisesF (pa_cons (pe_fld (pv 0) rfl) (pa_cons (pv 1) (pa_cons (pv 2) pa_nil)))), ?_⟩
    refine ⟨_, rfl, r, t.c_z40, dx, fs, _, rfl, hr0, T.C_z40, T.n_Reader_which, hw, _, rfl, _, rfl, (by show 3 ≤ sizeLine; decide), fun a ha => ?_⟩
    refine ⟨a, w, ru, pl, rfl, upd_same, fun H' dx' da h1 h2 => ⟨rfl, dx', h1, k _ _ ?_⟩⟩
    show drop H' a dx' = _
    rw [drop_ne da]
    exact h2
def spRInit (K : PySem.W.Frag) (C : Addr) : Sp := fun vs H Q _ => ∃ (r dx a : Addr) (w : Int) (B : Bytes), vs = [.ref r, .ref a, .int w] ∧ H r = some (.ins C dx []) ∧ FrmAt K H a B ∧ B.length ≤ 6000 ∧
  ∀ (H' : Hp) (hp sp : Addr), H hp = none → H sp = none → RdAt K C H' r ⟨a, w, B, B, 0, hp, [], sp, []⟩ → Frm [r] H H' → Q .non H'
theorem sc_rinit : FnScope ["self", "form", "which"] ["self", "form", "which"] (defScope s_z42) := ⟨rfl, rfl, rfl, by decide +kernel, rfl, by decide +kernel, by decide +kernel⟩
theorem ok_rinit (T : Txt K mg t) : FnOk P w K mg base CX0 1 t.f_z42 t.d_z42 ["self", "form", "which"] (spRInit K t.c_z40) := by
  refine T.F_z42.ok sc_rinit (fun vs H Q E h => ?_) (fun cdv A outer s H vs Q E hr h => ?_)
  · obtain ⟨r, dx, a, w, B, rfl, _⟩ := h
    rfl
  · obtain ⟨r, dx, a, w, B, rfl, h0, hf, hB, k⟩ := h
    refine ⟨_, pss_cons (ps_fld (pv 0) (pv 1) rfl) (pss_cons (ps_fld (pv 0) (pv 2) rfl) (pss_cons (ps_fld (pv 0) pe_int rfl) (pss_cons (ps_fld (pv 0) (pe_lst pa_nil) rfl) (pss_one (ps_fld (pv 0) (pe_lst pa_nil) rfl))))), ?_⟩
    refine ⟨_, rfl, _, rfl, r, _, dx, _, rfl, h0, T.C_z40, T.n_Reader_form, (by show 0 < 1000; decide), ?_⟩
    refine ⟨_, rfl, _, rfl, r, _, dx, _, rfl, upd_same, T.C_z40, T.n_Reader_which, (by show 1 < 1000; decide), ?_⟩
    rw [upd_upd]
    refine ⟨_, rfl, r, _, dx, _, rfl, upd_same, T.C_z40, T.n_Reader_place, (by show 2 < 1000; decide), ?_⟩
    rw [upd_upd]
    refine ⟨Nat.zero_le _, fun l1 n1 => ?_⟩
    have r1 : r ≠ l1 := fun z => by rw [← z, upd_same] at n1; cases n1
    have n1' : H l1 = none := by rw [upd_ne (Ne.symm r1)] at n1; exact n1
    refine ⟨_, rfl, r, _, dx, _, rfl, (by rw [upd_ne r1]; exact upd_same), T.C_z40, T.n_Reader_hand_places, (by show 3 < 1000; decide), ?_⟩
    refine ⟨Nat.zero_le _, fun l2 n2 => ?_⟩
    have r2 : r ≠ l2 := fun z => by rw [← z, upd_same] at n2; cases n2
    have n2b := n2
    rw [upd_ne (Ne.symm r2)] at n2b
    have l12 : l1 ≠ l2 := fun z => by rw [← z, upd_same] at n2b; cases n2b
    have n2' : H l2 = none := by rw [upd_ne (Ne.symm l12), upd_ne (Ne.symm r2)] at n2b; exact n2b
    refine ⟨_, rfl, r, _, dx, _, rfl, (by rw [upd_ne r2]; exact upd_same), T.C_z40, T.n_Reader_side_places, (by show 4 < 1000; decide), ?_⟩
    have F : Frm [r] H (upd (upd (upd (upd (upd H r (.ins t.c_z40 dx (putF "place" (.int 0) (putF "which" (.int w) (putF "form" (.ref a) []))))) l1 (.lst [])) r (.ins t.c_z40 dx (putF "hand_places" (.ref l1) (putF "place" (.int 0) (putF "which" (.int w) (putF "form" (.ref a) [])))))) l2 (.lst []))
      r (.ins t.c_z40 dx (putF "side_places" (.ref l2) (putF "hand_places" (.ref l1) (putF "place" (.int 0) (putF "which" (.int w) (putF "form" (.ref a) []))))))) := fun b o e n => by
      have nb : b ≠ r := by simpa using n
      rw [upd_ne nb, upd_ne (ne_of_none e n2'), upd_ne nb, upd_ne (ne_of_none e n1'), upd_ne nb]
      exact e
    refine k _ l1 l2 n1' n2' ⟨⟨dx, upd_same⟩, F.frm hf (fun o xs h hm => ?_), ?_, ?_, l12, rfl, Nat.zero_le _, hB⟩ F
    · rw [show a = r by simpa using hm, h0] at h; cases h
    · rw [upd_ne (Ne.symm r1), upd_ne l12, upd_ne (Ne.symm r1)]; exact upd_same
    · rw [upd_ne (Ne.symm r2)]; exact upd_same
theorem sc_num : FnScope ["self", "size", "number", "k"] ["self", "size"] (defScope s_z48) := ⟨rfl, rfl, rfl, by decide +kernel, rfl, by decide +kernel, by decide +kernel⟩
theorem num_step {b : Bytes} {k : Nat} {c : UInt8} (hk : k < 2) (hc : b[k]? = some c) : (Fk.num (b.take (k + 1)) : Int) = (Fk.num (b.take k) : Int) + (c.toNat : Int) * 2 ^ (8 * (k : Int)).toNat := by
  match k, b, hk, hc with
  | 0, x :: b, _, hc =>
    cases hc
    simp [Fk.num]
  | 1, x :: y :: b, _, hc =>
    cases hc
    simp [Fk.num]
    omega
  | 0, [], _, hc => cases hc
  | 1, [], _, hc => cases hc
  | 1, [x], _, hc => cases hc
theorem ok_num (T : Txt K mg t) : FnOk P w K mg base (CXF P w) 4 t.f_z48 t.d_z48 ["self", "size"] (spNum K t.c_z40 t.c_z11) := by
  have GF : FnOk P w K mg base (CXF P w) 3 t.f_z41 t.d_z41 ["self", "rule", "place"] (spFault t.c_z40 t.c_z11) := ok_fault T
  obtain ⟨tk5, g5⟩ := T.k_z8
  refine T.F_z48.okF sc_num (fun vs H Q E h => ?_) (fun cdv A outer s H vs Q E hr h => ?_)
  · obtain ⟨r, k, x, rfl, _⟩ := h
    rfl
  · obtain ⟨r, k, x, rfl, R, hk, ans⟩ := h
    obtain ⟨dx, e0⟩ := R.obj
    refine ⟨_, pss_cons (ps_if (pt_cmpR op_gt (pe_op op_add (pe_fld (pv 0) rfl) (pv 1)) (pe_callB call_len_seq (by rfl) T.b_len PySem.boot_len (pa_cons (pe_fld (pv 0) rfl) pa_nil)) (nomark _))
        (pss_one (ps_expr (pe_meth (pv 0) T.C_z40 T.M_z41 GF hr T.B_z41 .nil passF (pa_cons (pe_glob rfl g5 (v := .int 5) ⟨_, rfl⟩) (pa_cons (pe_callB call_len_seq (by rfl) T.b_len PySem.boot_len (pa_cons (pe_fld (pv 0) rfl) pa_nil)) pa_nil))))) pss_nil)
      (pss_cons (ps_set (i := 2) sc_num.nd rfl (Or.inl rfl) pe_int)
      (pss_cons (ps_for ownF rfl (pi_range1 rfl T.b_range (pa_cons (pv 1) pa_nil)) (pg_name (i := 3) sc_num.nd rfl (Or.inl rfl))
        (pss_one (ps_aug (i := 2) sc_num.nd rfl (Or.inl rfl) (pe_op op_shl (pe_ix ix_list (pe_fld (pv 0) rfl) (pe_op op_add (pe_fld (pv 0) rfl) (pv 3)) (fun _ _ => rfl)) (pe_op op_mul pe_int (pv 3))) ip_add)))
      (pss_cons (ps_fldaug (pv 0) (pv 1) in_add) (pss_one (ps_ret (pv 2)))))), ?_⟩
    have hf := R.form.sq
    have hlB : (vB x.B).length = x.B.length := by simp [vB]
    refine ⟨_, rfl, r, _, dx, _, _, rfl, e0, T.C_z40, T.n_Reader_place, rfl, _, rfl, _, _, rfl, rfl, ?_⟩
    refine ⟨_, rfl, r, _, dx, _, _, rfl, e0, T.C_z40, T.n_Reader_form, rfl, x.a, _, rfl, .inl hf, _, _, rfl, rfl, _, rfl, ?_⟩
    rw [hlB]
    have hlen : x.b.length = x.B.length - x.p := by rw [R.rest, List.length_drop]
    have hle := R.le
    refine ite2 (fun h => ?_) (fun h => ?_)
    · have h' : (x.B.length : Int) < (x.p : Int) + (k : Int) := of_decide_eq_true h
      have e1 : numIn k (fun _ => true) x.b x.p = .error ⟨5, x.p + x.b.length⟩ := if_pos (by omega)
      rw [e1] at ans
      refine ⟨_, rfl, r, dx, _, rfl, e0, rfl, ?_⟩
      refine ⟨_, rfl, r, _, dx, _, _, rfl, e0, T.C_z40, T.n_Reader_form, rfl, x.a, _, rfl, .inl hf, ?_⟩
      refine ⟨r, x.w, 5, ((vB x.B).length : Int), dx, _, rfl, e0, rfl, fun H' d' hF => ans H' d' ?_⟩
      rw [hlB] at hF
      have e2 : x.p + x.b.length = x.B.length := by omega
      show FaultAt H' d' x.w 5 ((x.p + x.b.length : Nat) : Int)
      rw [e2]
      exact hF
    · have h' : ¬ (x.B.length : Int) < (x.p : Int) + (k : Int) := fun z => h (decide_eq_true z)
      have e1 : numIn k (fun _ => true) x.b x.p = .ok (Fk.num (x.b.take k), x.b.drop k, x.p + k) := by
        unfold numIn
        rw [if_neg (by omega), if_pos rfl]
      rw [e1] at ans
      refine ⟨_, rfl, (k : Int), rfl, by omega, by omega, ?_⟩
      rw [Int.toNat_natCast]
      refine for_range (n := k) (fun i σ H' => ∃ v, H' = H ∧ σ = [some (.ref r), some (.int (k : Int)), some (.int (Fk.num (x.b.take i) : Int)), v]) ⟨none, rfl, rfl⟩ ?_ ?_
      · rintro i σ H' hi ⟨v, rfl, rfl⟩
        obtain ⟨c, hc⟩ : ∃ c, x.b[i]? = some c := ⟨_, List.getElem?_eq_getElem (by omega)⟩
        have hcB : x.B[x.p + i]? = some c := by
          rw [R.rest, List.getElem?_drop] at hc
          exact hc
        have hcV : (vB x.B)[x.p + i]? = some (V.int (c.toNat : Int)) := by
          unfold vB
          rw [List.getElem?_map, hcB]
          rfl
        refine ⟨_, rfl, ?_⟩
        refine ⟨_, rfl, r, _, dx, _, _, rfl, e0, T.C_z40, T.n_Reader_form, rfl, _, rfl, r, _, dx, _, _, rfl, e0, T.C_z40, T.n_Reader_place, rfl, _, rfl, _, _, rfl, rfl, x.a, _, _, _, rfl, rfl, hf, at_of (j := x.p + i) (by simp) hcV, ?_⟩
        refine ⟨_, rfl, _, _, rfl, rfl, .inl ⟨by decide, by decide⟩, _, _, rfl, rfl, ⟨by omega, by omega, ?_⟩, ?_⟩
        · have := c.toNat_lt
          have e : ((c.toNat : Int)).natAbs = c.toNat := Int.natAbs_natCast _
          rw [e]
          omega
        · refine ⟨_, _, rfl, rfl, some (.int (0 + (i : Int))), rfl, ?_⟩
          have e8 : (8 * (0 + (i : Int))).toNat = (8 * (i : Int)).toNat := by rw [Int.zero_add]
          rw [num_step (by omega) hc, ← e8]
          rfl
      · rintro σ H' ⟨v, rfl, rfl⟩
        refine ⟨_, rfl, r, _, dx, _, _, rfl, e0, T.C_z40, T.n_Reader_place, rfl, _, rfl, _, _, rfl, rfl, dx, _, e0, (by show 5 < 1000; decide), ?_⟩
        refine ⟨_, rfl, ?_⟩
        have F : Frm [r] H' (upd H' r (.ins t.c_z40 dx (putF "place" (V.int ((x.p : Int) + (k : Int))) (rfs x)))) := fun b o e n => by rw [upd_ne (by simpa using n)]; exact e
        exact ans _ (R.place F (dx := dx) upd_same (by rw [R.rest, List.drop_drop]) (by show x.p + k ≤ _; omega)) F
theorem sc_between : FnScope ["self", "size", "least", "greatest", "start", "number"] ["self", "size", "least", "greatest"] (defScope s_z44) := ⟨rfl, rfl, rfl, by decide +kernel, rfl, by decide +kernel, by decide +kernel⟩
theorem ok_between (T : Txt K mg t) : FnOk P w K mg base (CXF P w) 5 t.f_z44 t.d_z44 ["self", "size", "least", "greatest"] (spBetween K t.c_z40 t.c_z11) := by
  have GF : FnOk P w K mg base (CXF P w) 3 t.f_z41 t.d_z41 ["self", "rule", "place"] (spFault t.c_z40 t.c_z11) := ok_fault T
  have GN : FnOk P w K mg base (CXF P w) 4 t.f_z48 t.d_z48 ["self", "size"] (spNum K t.c_z40 t.c_z11) := ok_num T
  obtain ⟨tk2, g2⟩ := T.k_z39
  refine T.F_z44.okF sc_between (fun vs H Q E h => ?_) (fun cdv A outer s H vs Q E hr h => ?_)
  · obtain ⟨r, k, lo, hi, x, rfl, _⟩ := h
    rfl
  · obtain ⟨r, k, lo, hi, x, rfl, R, hk, ans⟩ := h
    obtain ⟨dx, e0⟩ := R.obj
    have hr3 : Room 3 _ := hr.mono (by decide)
    refine ⟨_, pss_cons (ps_set (i := 4) sc_between.nd rfl (Or.inl rfl) (pe_fld (pv 0) rfl))
      (pss_cons (ps_set (i := 5) sc_between.nd rfl (Or.inl rfl) (pe_meth (pv 0) T.C_z40 T.M_z48 GN hr T.B_z48 .nil passF (pa_cons (pv 1) pa_nil)))
      (pss_cons (ps_if (pw_or (pt_cmpR op_lt (pv 5) (pv 2) (nomark _)) (pw_or1 (pt_cmpR op_gt (pv 5) (pv 3) (nomark _)))).pt
        (pss_one (ps_expr (pe_meth (pv 0) T.C_z40 T.M_z41 GF hr3 T.B_z41 .nil passF (pa_cons (pe_glob rfl g2 (v := .int 2) ⟨_, rfl⟩) (pa_cons (pv 4) pa_nil))))) pss_nil)
      (pss_one (ps_ret (pv 5))))), ?_⟩
    refine ⟨_, rfl, r, _, dx, _, _, rfl, e0, T.C_z40, T.n_Reader_place, rfl, ?_⟩
    refine ⟨_, rfl, r, dx, _, rfl, e0, rfl, _, rfl, ?_⟩
    refine ⟨r, k, x, rfl, R, hk, ?_⟩
    have split : numIn k (fun v => decide (lo ≤ (v : Int)) && decide ((v : Int) ≤ hi)) x.b x.p = Fk.andThen (numIn k (fun _ => true) x.b x.p) fun y => Fk.andThen (need (decide (lo ≤ (y.1 : Int)) && decide ((y.1 : Int) ≤ hi)) 2 x.p) fun _ => .ok y := by
      unfold numIn
      split
      · rfl
      · rw [if_pos rfl]
        show _ = Fk.andThen (need _ 2 x.p) _
        unfold need
        split <;> rfl
    rw [split, Ans.andThen] at ans
    refine ans.mono fun y hy ans H1 R1 F1 => ?_
    obtain ⟨d1, e1⟩ := R1.obj
    have hw : x.w = x.w := rfl
    refine ⟨_, rfl, _, rfl, _, _, rfl, rfl, _, rfl, ?_⟩
    by_cases h1 : (y.1 : Int) < lo
    · have bad : need (decide (lo ≤ (y.1 : Int)) && decide ((y.1 : Int) ≤ hi)) 2 x.p = .error ⟨2, x.p⟩ := by simp [need]; omega
      rw [bad] at ans
      rw [decide_eq_true h1]
      refine ⟨_, rfl, r, d1, _, rfl, e1, rfl, _, rfl, ?_⟩
      exact ⟨r, x.w, 2, (x.p : Int), d1, _, rfl, e1, rfl, fun H' d' hF => ans H' d' hF⟩
    · rw [decide_eq_false h1]
      refine ⟨_, rfl, _, rfl, _, _, rfl, rfl, _, rfl, ?_⟩
      by_cases h2 : hi < (y.1 : Int)
      · have bad : need (decide (lo ≤ (y.1 : Int)) && decide ((y.1 : Int) ≤ hi)) 2 x.p = .error ⟨2, x.p⟩ := by simp [need]; omega
        rw [bad] at ans
        rw [decide_eq_true h2]
        refine ⟨_, rfl, r, d1, _, rfl, e1, rfl, _, rfl, ?_⟩
        exact ⟨r, x.w, 2, (x.p : Int), d1, _, rfl, e1, rfl, fun H' d' hF => ans H' d' hF⟩
      · have good : need (decide (lo ≤ (y.1 : Int)) && decide ((y.1 : Int) ≤ hi)) 2 x.p = .ok () := by simp [need]; omega
        rw [good] at ans
        rw [decide_eq_false h2]
        exact ⟨_, rfl, ans H1 R1 F1⟩
end
end MP
namespace MP
open PySem PySem.Spec PyProof.Rows L2
open XL (excTail)
open Fk (Fault Bytes numIn need andThen PAtom PBond)
theorem Ans.good {C : Addr} {w : Int} {k : Nat} {g g' : Nat → Bool} {b : Bytes} {p : Nat} {kk : Nat × Bytes × Nat → Prop} {E : XK} (h : ∀ v, g v = g' v) (a : Ans C w (numIn k g' b p) kk E) : Ans C w (numIn k g b p) kk E := by
  rw [JM.numIn_congr h]; exact a
theorem Ans.andThen' {α β : Type} {C : Addr} {w : Int} {x : Except Fault α} {f : α → Except Fault β} {k : β → Prop} {E : XK} (h : Ans C w (Fk.andThen x f) k E) : Ans C w x (fun y => Ans C w (f y) k E) E := Ans.andThen.mp h
section
variable {P : Program} {w : World} {K : PySem.W.Frag} {mg : Str → Option Value} {base : Heap} {t : Ad}
def spMark (K : PySem.W.Frag) (CR CF : Addr) : Sp := fun vs H Q E => ∃ (r m : Addr) (M : Bytes) (x : Rdr), vs = [.ref r, .ref m] ∧ RdAt K CR H r x ∧ (∀ H, SqT K H m (vB M)) ∧
  Ans CF x.w (JM.markIn M x.b x.p) (fun y => ∀ H', RdAt K CR H' r { x with b := y.1, p := y.2 } → Frm [r] H H' → Q .non H') E
theorem sc_mark : FnScope ["self", "mark", "byte"] ["self", "mark"] (defScope s_z47) := ⟨rfl, rfl, rfl, by decide +kernel, rfl, by decide +kernel, by decide +kernel⟩
theorem ok_mark (T : Txt K mg t) : FnOk P w K mg base (CXF P w) 6 t.f_z47 t.d_z47 ["self", "mark"] (spMark K t.c_z40 t.c_z11) := by
  have GF : FnOk P w K mg base (CXF P w) 3 t.f_z41 t.d_z41 ["self", "rule", "place"] (spFault t.c_z40 t.c_z11) := ok_fault T
  have GN : FnOk P w K mg base (CXF P w) 4 t.f_z48 t.d_z48 ["self", "size"] (spNum K t.c_z40 t.c_z11) := ok_num T
  obtain ⟨tk1, g1⟩ := T.k_z56
  refine T.F_z47.okF sc_mark (fun vs H Q E h => ?_) (fun cdv A outer s H vs Q E hr h => ?_)
  · obtain ⟨r, m, M, x, rfl, _⟩ := h
    rfl
  · obtain ⟨r, m, M, x, rfl, R, hM, ans⟩ := h
    have hr3 : Room 3 _ := hr.mono (by decide)
    have hr4 : Room 4 _ := hr.mono (by decide)
    refine ⟨_, pss_one (ps_for ownF rfl (pi_tup (pv 1)) (pg_name (i := 2) sc_mark.nd rfl (Or.inl rfl))
      (pss_one (ps_if (pt_cmpR op_ne (pe_meth (pv 0) T.C_z40 T.M_z48 GN hr4 T.B_z48 .nil passF (pa_cons pe_int pa_nil)) (pv 2) (nomark _))
        (pss_one (ps_expr (pe_meth (pv 0) T.C_z40 T.M_z41 GF hr3 T.B_z41 .nil passF (pa_cons (pe_glob rfl g1 (v := .int 1) ⟨_, rfl⟩) (pa_cons (pe_op op_sub (pe_fld (pv 0) rfl) pe_int) pa_nil))))) pss_nil))), ?_⟩
    refine ⟨_, rfl, m, rfl, ⟨_, hM H⟩, for_tup (K := K) (a := m) (xs := vB M) (fun i σ H' => ∃ (b : Bytes) (p : Nat) (v : Option V), σ = [some (.ref r), some (.ref m), v] ∧ RdAt K t.c_z40 H' r { x with b := b, p := p } ∧ Frm [r] H H' ∧
      Ans t.c_z11 x.w (JM.markIn (M.drop i) b p) (fun y => ∀ H', RdAt K t.c_z40 H' r { x with b := y.1, p := y.2 } → Frm [r] H H' → Q .non H') E) ⟨x.b, x.p, none, rfl, R, Frm.refl, ans⟩ (fun i σ H' _ _ => hM H') ?_ ?_⟩
    · rintro i y σ H' hi ⟨b, p, v, rfl, R1, F1, ans⟩
      obtain ⟨c, hc, rfl⟩ : ∃ c, M[i]? = some c ∧ y = V.int (c.toNat : Int) := by
        unfold vB at hi
        rw [List.getElem?_map] at hi
        cases e : M[i]? with
        | none => rw [e] at hi; cases hi
        | some c => rw [e] at hi; exact ⟨c, rfl, (Option.some.inj hi).symm⟩
      have hd : M.drop i = c :: M.drop (i + 1) := by
        obtain ⟨hl, hg⟩ := List.getElem?_eq_some_iff.mp hc
        rw [List.drop_eq_getElem_cons hl, hg]
      rw [hd] at ans
      obtain ⟨dx, e0⟩ := R1.obj
      refine ⟨_, rfl, r, dx, _, rfl, e0, rfl, ?_⟩
      refine ⟨r, 1, _, rfl, R1, .inl rfl, ans.andThen'.mono fun z hz ans H2 R2 F2 => ?_⟩
      refine ⟨_, rfl, rfl, _, rfl, ?_⟩
      obtain ⟨d2, e2⟩ := R2.obj
      obtain ⟨_, _, _, z1, z2⟩ := JM.numIn_ok hz
      refine ite2 (fun h => ?_) (fun h => ?_)
      · have ne : ¬ z.1 = c.toNat := fun q => by rw [q] at h; simp at h
        have bad : need (decide (z.1 = c.toNat)) 1 p = .error ⟨1, p⟩ := by simp [need, ne]
        rw [bad] at ans
        refine ⟨_, rfl, r, d2, _, rfl, e2, rfl, _, rfl, r, _, d2, _, _, rfl, e2, T.C_z40, T.n_Reader_place, rfl, _, _, rfl, rfl, ?_⟩
        refine ⟨r, x.w, 1, ((z.2.2 : Nat) : Int) - 1, d2, _, rfl, e2, rfl, fun H' d' hF => ans H' d' ?_⟩
        have e3 : ((z.2.2 : Nat) : Int) - 1 = (p : Int) := by omega
        rw [e3] at hF
        exact hF
      · have eq : z.1 = c.toNat := by
          by_cases q : z.1 = c.toNat
          · exact q
          · exact absurd (by simp; omega) h
        have good : need (decide (z.1 = c.toNat)) 1 p = .ok () := by simp [need, eq]
        rw [good] at ans
        exact ⟨_, _, _, rfl, R2, F1.trans F2, ans⟩
    · rintro σ H' ⟨b, p, v, rfl, R1, F1, ans⟩
      rw [show (vB M).length = M.length by simp [vB], List.drop_length] at ans
      exact ans H' R1 F1
end
end MP
namespace MP
open PySem PySem.Spec PyProof.Rows L2
open XL (excTail)
open Fk (Fault Bytes numIn need andThen PAtom PBond)
theorem Frm.fresh {r : Addr} {H H1 : Hp} {p : Addr} (F : Frm [r] H H1) {o : HO} (e : H1 r = some o) (hp : H1 p = none) : H p = none := by
  cases q : H p with
  | none => rfl
  | some u =>
    by_cases z : p = r
    · rw [z, e] at hp; cases hp
    · rw [F p u q (by simpa using z)] at hp; cases hp
theorem Frm.laid {S : List Addr} {H : Hp} {p : Addr} {o : HO} (hp : H p = none) : Frm S H (upd H p o) := fun b u e n => by rw [upd_ne (ne_of_none e hp)]; exact e
theorem RdAt.laid {K : PySem.W.Frag} {C : Addr} {H : Hp} {r p : Addr} {x : Rdr} {o : HO} (R : RdAt K C H r x) (hp : H p = none) : RdAt K C (upd H p o) r x := by
  obtain ⟨dx, e⟩ := R.obj
  exact R.stay (S := []) (Frm.laid hp) (by simp) (by simp) (by simp) (by simp)
theorem RdAt.wrote {K : PySem.W.Frag} {C : Addr} {H : Hp} {r p : Addr} {x : Rdr} {o u : HO} (R : RdAt K C H r x) (hp : H p = some u) (n1 : p ≠ r) (n2 : p ≠ x.hp) (n3 : p ≠ x.sp) (n4 : ∀ o v, u ≠ .frz o v) : RdAt K C (upd H p o) r x :=
  R.stay (S := [p]) (fun b o e n => by rw [upd_ne (by simpa using n)]; exact e) (by simpa using Ne.symm n1) (by simpa using Ne.symm n2) (by simpa using Ne.symm n3) (fun b hb o v z => by
    rw [show b = p by simpa using hb, hp] at z; exact n4 _ _ (Option.some.inj z))
section
variable {P : Program} {w : World} {K : PySem.W.Frag} {mg : Str → Option Value} {base : Heap} {t : Ad}
def vN (l : List Nat) : List V := l.map fun (n : Nat) => V.int (n : Int)
def bfs (z : PBond) : List (Str × V) := [("a", .int (z.a : Int)), ("b", .int (z.b : Int)), ("orders", .int (z.orders : Int)), ("how", .int (z.how : Int)), ("ring", .int (z.ring : Int)), ("side", .int (z.side : Int))]
def spBInit (K : PySem.W.Frag) (C : Addr) : Sp := fun vs H Q _ => ∃ (o dx p : Addr) (z : PBond), vs = [.ref o, .ref p, .int (z.orders : Int), .int (z.how : Int), .int (z.ring : Int), .int (z.side : Int)] ∧ H o = some (.ins C dx []) ∧
  H p = some (.tup [.int (z.a : Int), .int (z.b : Int)]) ∧ ∀ H', H' o = some (.ins C dx (bfs z)) → Frm [o] H H' → Q .non H'
theorem sc_binit : FnScope ["self", "pair", "orders", "how", "ring", "side"] ["self", "pair", "orders", "how", "ring", "side"] (defScope s_z55) := ⟨rfl, rfl, rfl, by decide +kernel, rfl, by decide +kernel, by decide +kernel⟩
theorem ok_binit (T : Txt K mg t) : FnOk P w K mg base CX0 1 t.f_z55 t.d_z55 ["self", "pair", "orders", "how", "ring", "side"] (spBInit K t.c_z54) := by
  refine T.F_z55.ok sc_binit (fun vs H Q E h => ?_) (fun cdv A outer s H vs Q E hr h => ?_)
  · obtain ⟨o, dx, p, z, rfl, _⟩ := h
    rfl
  · obtain ⟨o, dx, p, z, rfl, h0, hp, k⟩ := h
    refine ⟨_, pss_cons (ps_fld (pv 0) (pe_ix ix_tup (pv 1) pe_int (fun _ _ => rfl)) rfl) (pss_cons (ps_fld (pv 0) (pe_ix ix_tup (pv 1) pe_int (fun _ _ => rfl)) rfl) (pss_cons (ps_fld (pv 0) (pv 2) rfl) (pss_cons (ps_fld (pv 0) (pv 3) rfl) (pss_cons (ps_fld (pv 0) (pv 4) rfl) (pss_one (ps_fld (pv 0) (pv 5) rfl)))))), ?_⟩
    have po : p ≠ o := ne_of hp h0 (by intro z; cases z)
    refine ⟨_, rfl, p, _, _, _, rfl, rfl, SqT.of hp, rfl, _, rfl, o, _, dx, _, rfl, h0, T.C_z54, T.n_SaidOfBond_a, (by show 0 < 1000; decide), ?_⟩
    refine ⟨_, rfl, p, _, _, _, rfl, rfl, SqT.of (by rw [upd_ne po]; exact hp), rfl, _, rfl, o, _, dx, _, rfl, upd_same, T.C_z54, T.n_SaidOfBond_b, (by show 1 < 1000; decide), ?_⟩
    refine ⟨_, rfl, _, rfl, o, _, dx, _, rfl, upd_same, T.C_z54, T.n_SaidOfBond_orders, (by show 2 < 1000; decide), ?_⟩
    refine ⟨_, rfl, _, rfl, o, _, dx, _, rfl, upd_same, T.C_z54, T.n_SaidOfBond_how, (by show 3 < 1000; decide), ?_⟩
    refine ⟨_, rfl, _, rfl, o, _, dx, _, rfl, upd_same, T.C_z54, T.n_SaidOfBond_ring, (by show 4 < 1000; decide), ?_⟩
    refine ⟨_, rfl, _, rfl, o, _, dx, _, rfl, upd_same, T.C_z54, T.n_SaidOfBond_side, (by show 5 < 1000; decide), ?_⟩
    refine k _ upd_same fun b u e n => ?_
    have nb : b ≠ o := by simpa using n
    simp only [upd_upd]
    rw [upd_ne nb]
    exact e
end
end MP
namespace MP
open PySem PySem.Spec PyProof.Rows L2
open XL (excTail)
open Fk (Fault Bytes numIn need andThen PAtom PBond)
abbrev RepT (α : Type) := (Addr → Prop) → Hp → V → α → Prop
structure RepOk {α : Type} (Rep : RepT α) : Prop where
  stay : ∀ {D : Addr → Prop} {H H' : Hp} {v : V} {z : α}, Rep D H v z → (∀ b o, D b → H b = some o → H' b = some o) → Rep D H' v z
  mono : ∀ {D D' : Addr → Prop} {H : Hp} {v : V} {z : α}, Rep D H v z → (∀ b, D b → D' b) → Rep D' H v z
structure Reps {α : Type} (Rep : RepT α) (D : Addr → Prop) (H : Hp) (vs : List V) (zs : List α) : Prop where
  len : vs.length = zs.length
  at_ : ∀ (i : Nat) (v : V) (z : α), vs[i]? = some v → zs[i]? = some z → Rep D H v z
theorem Reps.nil {α : Type} {Rep : RepT α} {D : Addr → Prop} {H : Hp} : Reps Rep D H [] [] := ⟨rfl, fun i v z h _ => by simp at h⟩
theorem Reps.snoc {α : Type} {Rep : RepT α} {D : Addr → Prop} {H : Hp} {vs : List V} {zs : List α} {v : V} {z : α} (R : Reps Rep D H vs zs) (r : Rep D H v z) : Reps Rep D H (vs ++ [v]) (zs ++ [z]) := by
  refine ⟨by simp [R.len], fun i v' z' h1 h2 => ?_⟩
  rcases Nat.lt_trichotomy i vs.length with h | h | h
  · rw [List.getElem?_append_left h] at h1
    rw [List.getElem?_append_left (R.len ▸ h)] at h2
    exact R.at_ i v' z' h1 h2
  · subst h
    rw [List.getElem?_append_right (Nat.le_refl _), Nat.sub_self] at h1
    rw [R.len, List.getElem?_append_right (Nat.le_refl _), Nat.sub_self] at h2
    cases h1; cases h2; exact r
  · have : (vs ++ [v])[i]? = none := List.getElem?_eq_none (by simp; omega)
    rw [this] at h1; cases h1
theorem Reps.stay {α : Type} {Rep : RepT α} (ok : RepOk Rep) {D : Addr → Prop} {H H' : Hp} {vs : List V} {zs : List α} (R : Reps Rep D H vs zs) (k : ∀ b o, D b → H b = some o → H' b = some o) : Reps Rep D H' vs zs :=
  ⟨R.len, fun i v z h1 h2 => ok.stay (R.at_ i v z h1 h2) k⟩
theorem Reps.mono {α : Type} {Rep : RepT α} (ok : RepOk Rep) {D D' : Addr → Prop} {H : Hp} {vs : List V} {zs : List α} (R : Reps Rep D H vs zs) (k : ∀ b, D b → D' b) : Reps Rep D' H vs zs :=
  ⟨R.len, fun i v z h1 h2 => ok.mono (R.at_ i v z h1 h2) k⟩
def RepB (C : Addr) : RepT (PBond × Nat) := fun D H v z => ∃ o dx, v = .ref o ∧ D o ∧ H o = some (.ins C dx (bfs z.1))
theorem RepB.ok (C : Addr) : RepOk (RepB C) := ⟨fun ⟨o, dx, e, d, h⟩ k => ⟨o, dx, e, d, k _ _ d h⟩, fun ⟨o, dx, e, d, h⟩ k => ⟨o, dx, e, k _ d, h⟩⟩
def afs (z : PAtom) (ln tc th tn tt : Addr) : List (Str × V) := [("named", .ref ln), ("isotope", .int (z.isotope : Int)), ("charge", .ref tc), ("hydrogens", .ref th), ("neighbours", .ref tn), ("total", .ref tt), ("ring", .int (z.ring : Int)), ("hand", .int (z.hand : Int))]
def vP (x : Nat × Nat) : List V := [.int (x.1 : Int), .int (x.2 : Int)]
structure RepAt (C : Addr) (D : Addr → Prop) (H : Hp) (z : PAtom) (o dx ln tc th tn tt : Addr) : Prop where
  obj : H o = some (.ins C dx (afs z ln tc th tn tt))
  nam : H ln = some (.lst (vN z.elements))
  cha : H tc = some (.tup (vP z.charge))
  hyd : H th = some (.tup (vP z.hydrogens))
  bes : H tn = some (.tup (vP z.beside))
  sum : H tt = some (.tup (vP z.sum))
  do_ : D o
  dn : D ln
  dc : D tc
  dh : D th
  db : D tn
  dt : D tt
def RepA (C : Addr) : RepT (PAtom × Nat) := fun D H v z => ∃ o dx ln tc th tn tt, v = .ref o ∧ RepAt C D H z.1 o dx ln tc th tn tt
theorem RepA.ok (C : Addr) : RepOk (RepA C) :=
  ⟨fun ⟨o, dx, ln, tc, th, tn, tt, e, r⟩ k => ⟨o, dx, ln, tc, th, tn, tt, e, k _ _ r.do_ r.obj, k _ _ r.dn r.nam, k _ _ r.dc r.cha, k _ _ r.dh r.hyd, k _ _ r.db r.bes, k _ _ r.dt r.sum, r.do_, r.dn, r.dc, r.dh, r.db, r.dt⟩,
   fun ⟨o, dx, ln, tc, th, tn, tt, e, r⟩ k => ⟨o, dx, ln, tc, th, tn, tt, e, r.obj, r.nam, r.cha, r.hyd, r.bes, r.sum, k _ r.do_, k _ r.dn, k _ r.dc, k _ r.dh, k _ r.db, k _ r.dt⟩⟩
def spOne {α : Type} (K : PySem.W.Frag) (CR CF : Addr) (one : Bytes → Nat → Except Fault (α × Bytes × Nat)) (Rep : RepT α) : Sp := fun vs H Q E => ∃ (r : Addr) (x : Rdr), vs = [.ref r] ∧ RdAt K CR H r x ∧
  Ans CF x.w (one x.b x.p) (fun y => ∀ H' v, RdAt K CR H' r { x with b := y.2.1, p := y.2.2 } → Frm [r] H H' → Rep (fun b => H b = none) H' v y.1 → Q v H') E
def spOneB {α : Type} (K : PySem.W.Frag) (CR CF : Addr) (one : Nat × Nat → Bytes → Nat → Except Fault (α × Bytes × Nat)) (Rep : RepT α) : Sp := fun vs H Q E => ∃ (r p : Addr) (q : Nat × Nat) (x : Rdr), vs = [.ref r, .ref p] ∧ RdAt K CR H r x ∧ H p = some (.tup (vP q)) ∧
  Ans CF x.w (one q x.b x.p) (fun y => ∀ H' v, RdAt K CR H' r { x with b := y.2.1, p := y.2.2 } → Frm [r] H H' → Rep (fun b => H b = none) H' v y.1 → Q v H') E
section
variable {P : Program} {w : World} {K : PySem.W.Frag} {mg : Str → Option Value} {base : Heap} {t : Ad}
theorem Frm.made {H H1 : Hp} {o dx C : Addr} {S : List Addr} (nx : H o = none) (nd : H dx = none) (k : Frm [o] (upd (upd H dx (.own o)) o (.ins C dx [])) H1) : Frm S H H1 := fun b u e n =>
  k b u (by rw [upd_ne (ne_of_none e nx), upd_ne (ne_of_none e nd)]; exact e) (by simpa using ne_of_none e nx)
end
end MP
namespace MP
open PySem PySem.Spec PyProof.Rows L2
open XL (excTail)
open Fk (Fault Bytes numIn need andThen PAtom PBond)
section
variable {P : Program} {w : World} {K : PySem.W.Frag} {mg : Str → Option Value} {base : Heap} {t : Ad}
def spAInit (C : Addr) : Sp := fun vs H Q _ => ∃ (o dx ln tc th tn tt : Addr) (z : PAtom), vs = [.ref o, .ref ln, .int (z.isotope : Int), .ref tc, .ref th, .ref tn, .ref tt, .int (z.ring : Int), .int (z.hand : Int)] ∧ H o = some (.ins C dx []) ∧
  ∀ H', H' o = some (.ins C dx (afs z ln tc th tn tt)) → Frm [o] H H' → Q .non H'
theorem sc_ainit : FnScope ["self", "named", "isotope", "charge", "hydrogens", "neighbours", "total", "ring", "hand"] ["self", "named", "isotope", "charge", "hydrogens", "neighbours", "total", "ring", "hand"] (defScope s_z53) := ⟨rfl, rfl, rfl, by decide +kernel, rfl, by decide +kernel, by decide +kernel⟩
theorem ok_ainit (T : Txt K mg t) : FnOk P w K mg base CX0 1 t.f_z53 t.d_z53 ["self", "named", "isotope", "charge", "hydrogens", "neighbours", "total", "ring", "hand"] (spAInit t.c_z52) := by
  refine T.F_z53.ok sc_ainit (fun vs H Q E h => ?_) (fun cdv A outer s H vs Q E hr h => ?_)
  · obtain ⟨o, dx, ln, tc, th, tn, tt, z, rfl, _⟩ := h
    rfl
  · obtain ⟨o, dx, ln, tc, th, tn, tt, z, rfl, h0, k⟩ := h
    refine ⟨_, pss_cons (ps_fld (pv 0) (pv 1) rfl) (pss_cons (ps_fld (pv 0) (pv 2) rfl) (pss_cons (ps_fld (pv 0) (pv 3) rfl) (pss_cons (ps_fld (pv 0) (pv 4) rfl) (pss_cons (ps_fld (pv 0) (pv 5) rfl) (pss_cons (ps_fld (pv 0) (pv 6) rfl) (pss_cons (ps_fld (pv 0) (pv 7) rfl) (pss_one (ps_fld (pv 0) (pv 8) rfl)))))))), ?_⟩
    refine ⟨_, rfl, _, rfl, o, _, dx, _, rfl, h0, T.C_z52, T.n_SaidOfAtom_named, (by show 0 < 1000; decide), ?_⟩
    refine ⟨_, rfl, _, rfl, o, _, dx, _, rfl, upd_same, T.C_z52, T.n_SaidOfAtom_isotope, (by show 1 < 1000; decide), ?_⟩
    refine ⟨_, rfl, _, rfl, o, _, dx, _, rfl, upd_same, T.C_z52, T.n_SaidOfAtom_charge, (by show 2 < 1000; decide), ?_⟩
    refine ⟨_, rfl, _, rfl, o, _, dx, _, rfl, upd_same, T.C_z52, T.n_SaidOfAtom_hydrogens, (by show 3 < 1000; decide), ?_⟩
    refine ⟨_, rfl, _, rfl, o, _, dx, _, rfl, upd_same, T.C_z52, T.n_SaidOfAtom_neighbours, (by show 4 < 1000; decide), ?_⟩
    refine ⟨_, rfl, _, rfl, o, _, dx, _, rfl, upd_same, T.C_z52, T.n_SaidOfAtom_total, (by show 5 < 1000; decide), ?_⟩
    refine ⟨_, rfl, _, rfl, o, _, dx, _, rfl, upd_same, T.C_z52, T.n_SaidOfAtom_ring, (by show 6 < 1000; decide), ?_⟩
    refine ⟨_, rfl, _, rfl, o, _, dx, _, rfl, upd_same, T.C_z52, T.n_SaidOfAtom_hand, (by show 7 < 1000; decide), ?_⟩
    refine k _ upd_same fun b u e n => ?_
    have nb : b ≠ o := by simpa using n
    simp only [upd_upd]
    rw [upd_ne nb]
    exact e
end
end MP
namespace MP
open PySem PySem.Spec PyProof.Rows L2
open XL (excTail)
open Fk (Fault Bytes numIn need andThen PAtom PBond)
section
variable {P : Program} {w : World} {K : PySem.W.Frag} {mg : Str → Option Value} {base : Heap} {t : Ad}
def spEnd (K : PySem.W.Frag) (CR CF : Addr) : Sp := fun vs H Q E => ∃ (r : Addr) (x : Rdr), vs = [.ref r] ∧ RdAt K CR H r x ∧ Ans CF x.w (need x.b.isEmpty 7 x.p) (fun _ => Q .non H) E
theorem sc_end : FnScope ["self"] ["self"] (defScope s_z46) := ⟨rfl, rfl, rfl, by decide +kernel, rfl, by decide +kernel, by decide +kernel⟩
theorem ok_end (T : Txt K mg t) : FnOk P w K mg base (CXF P w) 4 t.f_z46 t.d_z46 ["self"] (spEnd K t.c_z40 t.c_z11) := by
  have GF : FnOk P w K mg base (CXF P w) 3 t.f_z41 t.d_z41 ["self", "rule", "place"] (spFault t.c_z40 t.c_z11) := ok_fault T
  obtain ⟨tk5, g5⟩ := T.k_z19
  refine T.F_z46.okF sc_end (fun vs H Q E h => ?_) (fun cdv A outer s H vs Q E hr h => ?_)
  · obtain ⟨r, x, rfl, _⟩ := h
    rfl
  · obtain ⟨r, x, rfl, R, ans⟩ := h
    obtain ⟨dx, e0⟩ := R.obj
    refine ⟨_, pss_one (ps_if (pt_cmpR op_lt (pe_fld (pv 0) rfl) (pe_callB call_len_seq (by rfl) T.b_len PySem.boot_len (pa_cons (pe_fld (pv 0) rfl) pa_nil)) (nomark _))
        (pss_one (ps_expr (pe_meth (pv 0) T.C_z40 T.M_z41 GF hr T.B_z41 .nil passF (pa_cons (pe_glob rfl g5 (v := .int 7) ⟨_, rfl⟩) (pa_cons (pe_fld (pv 0) rfl) pa_nil))))) pss_nil), ?_⟩
    have hf := R.form.sq
    have hlB : (vB x.B).length = x.B.length := by simp [vB]
    have hlen : x.b.length = x.B.length - x.p := by rw [R.rest, List.length_drop]
    have hle := R.le
    refine ⟨_, rfl, r, _, dx, _, _, rfl, e0, T.C_z40, T.n_Reader_place, rfl, ?_⟩
    refine ⟨_, rfl, r, _, dx, _, _, rfl, e0, T.C_z40, T.n_Reader_form, rfl, x.a, _, rfl, .inl hf, _, _, rfl, rfl, _, rfl, ?_⟩
    rw [hlB]
    refine ite2 (fun h => ?_) (fun h => ?_)
    · have h' : (x.p : Int) < (x.B.length : Int) := of_decide_eq_true h
      have bad : need x.b.isEmpty 7 x.p = .error ⟨7, x.p⟩ := by
        cases hb : x.b with
        | nil => rw [hb] at hlen; simp at hlen; omega
        | cons c b => rfl
      rw [bad] at ans
      refine ⟨_, rfl, r, dx, _, rfl, e0, rfl, _, rfl, r, _, dx, _, _, rfl, e0, T.C_z40, T.n_Reader_place, rfl, ?_⟩
      exact ⟨r, x.w, 7, (x.p : Int), dx, _, rfl, e0, rfl, fun H' d' hF => ans H' d' hF⟩
    · have h' : ¬ (x.p : Int) < (x.B.length : Int) := fun z => h (decide_eq_true z)
      have good : need x.b.isEmpty 7 x.p = .ok () := by
        cases hb : x.b with
        | nil => rfl
        | cons c b => rw [hb] at hlen; simp at hlen; omega
      rw [good] at ans
      exact ans
def vHad : Option (Nat × Nat) → List V
  | none => [.int (-1), .int (-1)]
  | some q => vP q
def okHad (had : Option (Nat × Nat)) (a b : Nat) : Bool := match had with
  | some (u, w) => decide (u < a) || (u == a && decide (w < b))
  | none => true
theorem le_had (had : Option (Nat × Nat)) (a b : Nat) : ∃ ms : List Int, vHad had = ms.map V.int ∧ HT.lexLe [(a : Int), (b : Int)] ms = !okHad had a b := by
  cases had with
  | none =>
    refine ⟨[-1, -1], rfl, ?_⟩
    rw [HT.lexLe_cons, if_neg (by omega), decide_eq_false (by omega)]
    rfl
  | some uw =>
    obtain ⟨u, w⟩ := uw
    refine ⟨[(u : Int), (w : Int)], rfl, ?_⟩
    show _ = !(decide (u < a) || (u == a && decide (w < b)))
    rw [HT.lexLe_cons]
    by_cases h1 : (a : Int) = (u : Int)
    · rw [if_pos h1, HT.lexLe_cons]
      have h1' : u = a := by omega
      by_cases h2 : (b : Int) = (w : Int)
      · rw [if_pos h2, HT.lexLe_nil]
        have : w = b := by omega
        simp [h1', this]
      · rw [if_neg h2]
        have e1 : decide (u < a) = false := decide_eq_false (by omega)
        have e2 : (u == a) = true := by simp [h1']
        rw [e1, e2, Bool.false_or, Bool.true_and]
        by_cases h3 : w < b
        · rw [decide_eq_true h3, decide_eq_false (by omega)]; rfl
        · rw [decide_eq_false h3, decide_eq_true (by omega)]; rfl
    · rw [if_neg h1]
      have e2 : (u == a) = false := by simp; omega
      rw [e2, Bool.false_and, Bool.or_false]
      by_cases h3 : u < a
      · rw [decide_eq_true h3, decide_eq_false (by omega)]; rfl
      · rw [decide_eq_false h3, decide_eq_true (by omega)]; rfl
def spPair (K : PySem.W.Frag) (CR CF : Addr) : Sp := fun vs H Q E => ∃ (r p : Addr) (n : Nat) (had : Option (Nat × Nat)) (x : Rdr), vs = [.ref r, .int (n : Int), .ref p] ∧ RdAt K CR H r x ∧ H p = some (.tup (vHad had)) ∧
  Ans CF x.w (JM.endsIn n had x.b x.p) (fun y => ∀ H' q, RdAt K CR H' r { x with b := y.2.1, p := y.2.2 } → Frm [r] H H' → H q = none → H' q = some (.tup (vP y.1)) → Q (.ref q) H') E
theorem sc_pair : FnScope ["self", "n", "before", "start", "a", "b"] ["self", "n", "before"] (defScope s_z49) := ⟨rfl, rfl, rfl, by decide +kernel, rfl, by decide +kernel, by decide +kernel⟩
theorem ok_pair (T : Txt K mg t) : FnOk P w K mg base (CXF P w) 6 t.f_z49 t.d_z49 ["self", "n", "before"] (spPair K t.c_z40 t.c_z11) := by
  have GF : FnOk P w K mg base (CXF P w) 3 t.f_z41 t.d_z41 ["self", "rule", "place"] (spFault t.c_z40 t.c_z11) := ok_fault T
  have GB : FnOk P w K mg base (CXF P w) 5 t.f_z44 t.d_z44 ["self", "size", "least", "greatest"] (spBetween K t.c_z40 t.c_z11) := ok_between T
  obtain ⟨tk3, g3⟩ := T.k_z36
  refine T.F_z49.okF sc_pair (fun vs H Q E h => ?_) (fun cdv A outer s H vs Q E hr h => ?_)
  · obtain ⟨r, p, n, had, x, rfl, _⟩ := h
    rfl
  · obtain ⟨r, p, n, had, x, rfl, R, hp, ans⟩ := h
    obtain ⟨d0, e0⟩ := R.obj
    have hr3 : Room 3 _ := hr.mono (by decide)
    have pr : p ≠ r := ne_of hp e0 (by intro z; cases z)
    refine ⟨_, pss_cons (ps_set (i := 3) sc_pair.nd rfl (Or.inl rfl) (pe_fld (pv 0) rfl))
      (pss_cons (ps_set (i := 4) sc_pair.nd rfl (Or.inl rfl) (pe_meth (pv 0) T.C_z40 T.M_z44 GB hr T.B_z44 .nil passF (pa_cons pe_int (pa_cons pe_int (pa_cons (pe_op op_sub (pv 1) pe_int) pa_nil)))))
      (pss_cons (ps_set (i := 5) sc_pair.nd rfl (Or.inl rfl) (pe_meth (pv 0) T.C_z40 T.M_z44 GB hr T.B_z44 .nil passF (pa_cons pe_int (pa_cons (pe_op op_add (pv 4) pe_int) (pa_cons (pe_op op_sub (pv 1) pe_int) pa_nil)))))
      (pss_cons (ps_if (pt_cmpR (op_leT hr.units0) (pe_tup (pa_cons (pv 4) (pa_cons (pv 5) pa_nil))) (pv 2) (nomark _))
        (pss_one (ps_expr (pe_meth (pv 0) T.C_z40 T.M_z41 GF hr3 T.B_z41 .nil passF (pa_cons (pe_glob rfl g3 (v := .int 3) ⟨_, rfl⟩) (pa_cons (pv 3) pa_nil))))) pss_nil)
      (pss_one (ps_ret (pe_tup (pa_cons (pv 4) (pa_cons (pv 5) pa_nil)))))))), ?_⟩
    refine ⟨_, rfl, r, _, d0, _, _, rfl, e0, T.C_z40, T.n_Reader_place, rfl, ?_⟩
    refine ⟨_, rfl, r, d0, _, rfl, e0, rfl, _, rfl, _, _, rfl, rfl, ?_⟩
    refine ⟨r, 1, 0, (n : Int) - 1, _, rfl, R, .inl rfl, Ans.good (g' := fun v => decide (v < n)) (fun v => by rw [Bool.eq_iff_iff]; simp only [Bool.and_eq_true, decide_eq_true_eq]; omega) (ans.andThen'.mono fun y1 hy1 ans H1 R1 F1 => ?_)⟩
    obtain ⟨d1, e1⟩ := R1.obj
    refine ⟨_, rfl, r, d1, _, rfl, e1, rfl, _, rfl, _, _, rfl, rfl, _, rfl, _, _, rfl, rfl, ?_⟩
    refine ⟨r, 1, (y1.1 : Int) + 1, (n : Int) - 1, _, rfl, R1, .inl rfl, Ans.good (g' := fun v => decide (y1.1 < v) && decide (v < n)) (fun v => by rw [Bool.eq_iff_iff]; simp only [Bool.and_eq_true, decide_eq_true_eq]; omega) (ans.andThen'.mono fun y2 hy2 ans H2 R2 F2 => ?_)⟩
    obtain ⟨d2, e2⟩ := R2.obj
    have F := F1.trans F2
    have hp2 := F p _ hp (by simpa using pr)
    refine ⟨_, rfl, _, rfl, (by show 2 ≤ sizeLine; decide), fun q1 n1 => ?_⟩
    obtain ⟨ms, hms, hle⟩ := le_had had y1.1 y2.1
    refine ⟨_, rfl, q1, p, [(y1.1 : Int), (y2.1 : Int)], ms, rfl, rfl, SqT.of upd_same, SqT.of (by rw [upd_ne (ne_of_none hp2 n1), ← hms]; exact hp2), _, rfl, ?_⟩
    rw [hle]
    have R3 := R2.laid (o := .tup [.int (y1.1 : Int), .int (y2.1 : Int)]) n1
    obtain ⟨d3, e3⟩ := R3.obj
    have F3 : Frm [r] H (upd H2 q1 (.tup [.int (y1.1 : Int), .int (y2.1 : Int)])) := F.trans (Frm.laid n1)
    have ans : Ans t.c_z11 x.w (need (okHad had y1.1 y2.1) 3 x.p) _ E := ans.andThen'
    refine ite2 (fun h => ?_) (fun h => ?_)
    · have hc : okHad had y1.1 y2.1 = false := by simpa using h
      rw [hc] at ans
      refine ⟨_, rfl, r, d3, _, rfl, e3, rfl, _, rfl, ?_⟩
      exact ⟨r, x.w, 3, (x.p : Int), d3, _, rfl, e3, rfl, fun H' d' hF => ans H' d' hF⟩
    · have hc : okHad had y1.1 y2.1 = true := by simpa using h
      rw [hc] at ans
      refine ⟨_, rfl, _, rfl, (by show 2 ≤ sizeLine; decide), fun q2 n2 => ?_⟩
      exact ans _ q2 (R3.laid n2) (F3.trans (Frm.laid n2)) (F3.fresh e3 n2) upd_same
end
end MP
namespace MP
open PySem PySem.Spec PyProof.Rows L2
open XL (excTail)
open Fk (Fault Bytes numIn need andThen PAtom PBond)
theorem RdAt.hand {K : PySem.W.Frag} {C : Addr} {H : Hp} {r : Addr} {x : Rdr} {z : Int} (R : RdAt K C H r x) : RdAt K C (upd H x.hp (.lst (x.hps.map V.int ++ [.int z]))) r { x with hps := x.hps ++ [z] } := by
  obtain ⟨dx, e⟩ := R.obj
  have n1 : r ≠ x.hp := ne_of e R.hpl (by intro q; cases q)
  refine ⟨⟨dx, by rw [upd_ne n1]; exact e⟩, ?_, by rw [upd_same]; simp, by rw [upd_ne (Ne.symm R.ne)]; exact R.spl, R.ne, R.rest, R.le, R.small⟩
  rcases R.form with ⟨o, h⟩ | h
  · exact .inl ⟨o, by rw [upd_ne (frz_ne h R.hpl (fun _ _ q => by cases q))]; exact h⟩
  · exact .inr h
theorem RdAt.side {K : PySem.W.Frag} {C : Addr} {H : Hp} {r : Addr} {x : Rdr} {z : Int} (R : RdAt K C H r x) : RdAt K C (upd H x.sp (.lst (x.sps.map V.int ++ [.int z]))) r { x with sps := x.sps ++ [z] } := by
  obtain ⟨dx, e⟩ := R.obj
  have n1 : r ≠ x.sp := ne_of e R.spl (by intro q; cases q)
  refine ⟨⟨dx, by rw [upd_ne n1]; exact e⟩, ?_, by rw [upd_ne R.ne]; exact R.hpl, by rw [upd_same]; simp, R.ne, R.rest, R.le, R.small⟩
  rcases R.form with ⟨o, h⟩ | h
  · exact .inl ⟨o, by rw [upd_ne (frz_ne h R.spl (fun _ _ q => by cases q))]; exact h⟩
  · exact .inr h
theorem many_snoc {α : Type} {one : Bytes → Nat → Except Fault (α × Bytes × Nat)} (k : Nat) (b : Bytes) (p : Nat) (pre : List α) : Fk.andThen (JM.many one (k + 1) b p) (fun l => .ok (pre ++ l.1, l.2.1, l.2.2)) =
    Fk.andThen (one b p) fun x => Fk.andThen (JM.many one k x.2.1 x.2.2) fun l => .ok ((pre ++ [x.1]) ++ l.1, l.2.1, l.2.2) := by
  rw [show JM.many one (k + 1) b p = Fk.andThen (one b p) (fun x => Fk.andThen (JM.many one k x.2.1 x.2.2) fun l => .ok (x.1 :: l.1, l.2.1, l.2.2)) from rfl, JM.andThen_assoc]
  congr 1
  funext x
  rw [JM.andThen_assoc]
  congr 1
  funext l
  show Except.ok (pre ++ (x.1 :: l.1), l.2.1, l.2.2) = _
  rw [List.append_assoc]
  rfl
theorem manyB_snoc {α : Type} {n : Nat} {one : Nat × Nat → Bytes → Nat → Except Fault (α × Bytes × Nat)} (k : Nat) (had : Option (Nat × Nat)) (b : Bytes) (p : Nat) (pre : List α) : Fk.andThen (JM.manyB n one (k + 1) had b p) (fun l => .ok (pre ++ l.1, l.2.1, l.2.2)) =
    Fk.andThen (JM.endsIn n had b p) fun q => Fk.andThen (one q.1 q.2.1 q.2.2) fun x => Fk.andThen (JM.manyB n one k (some q.1) x.2.1 x.2.2) fun l => .ok ((pre ++ [x.1]) ++ l.1, l.2.1, l.2.2) := by
  rw [show JM.manyB n one (k + 1) had b p = Fk.andThen (JM.endsIn n had b p) (fun q => Fk.andThen (one q.1 q.2.1 q.2.2) fun x => Fk.andThen (JM.manyB n one k (some q.1) x.2.1 x.2.2) fun l => .ok (x.1 :: l.1, l.2.1, l.2.2)) from rfl, JM.andThen_assoc]
  congr 1
  funext q
  rw [JM.andThen_assoc]
  congr 1
  funext x
  rw [JM.andThen_assoc]
  congr 1
  funext l
  show Except.ok (pre ++ (x.1 :: l.1), l.2.1, l.2.2) = _
  rw [List.append_assoc]
  rfl
theorem same_all {α : Type} (x : Except Fault (List α × Bytes × Nat)) : (Fk.andThen x fun l => Except.ok ([] ++ l.1, l.2.1, l.2.2)) = x := by cases x <;> rfl
section
variable {P : Program} {w : World} {K : PySem.W.Frag} {mg : Str → Option Value} {base : Heap} {t : Ad} {α : Type}
def spAtoms (K : PySem.W.Frag) (CR CF f : Addr) (one : Bytes → Nat → Except Fault (α × Bytes × Nat)) (Rep : RepT α) (pl : α → Nat) : Sp := fun vs H Q E => ∃ (r : Addr) (n : Nat) (x : Rdr), vs = [.ref r, .int (n : Int), .ref f] ∧ RdAt K CR H r x ∧ n ≤ 1000 ∧ x.hps = [] ∧
  Ans CF x.w (JM.many one n x.b x.p) (fun y => ∀ H' la us, RdAt K CR H' r { x with b := y.2.1, p := y.2.2, hps := y.1.map fun z => (pl z : Int) } → Frm [r, x.hp] H H' → H la = none → H' la = some (.lst us) →
    Reps Rep (fun b => H b = none ∧ b ≠ la) H' us y.1 → Q (.ref la) H') E
theorem sc_atoms : FnScope ["self", "n", "take_atom", "atoms", "k"] ["self", "n", "take_atom"] (defScope s_z43) := ⟨rfl, rfl, rfl, by decide +kernel, rfl, by decide +kernel, by decide +kernel⟩
theorem ok_atoms (T : Txt K mg t) {kc : Nat} {f : Addr} {fd : FuncData} {one : Bytes → Nat → Except Fault (α × Bytes × Nat)} {Rep : RepT α} {pl : α → Nat} (ok : RepOk Rep) (hpl : ∀ b p y, one b p = .ok y → (pl y.1 : Int) = (y.2.2 : Int) - 1)
    (G : FnOk P w K mg base (CXF P w) kc f fd ["reader"] (spOne K t.c_z40 t.c_z11 one Rep)) (kp : PySem.W.keepIn K (.ref f) = true) (hb : Binds K fd ["reader"] []) :
    FnOk P w K mg base (CXF P w) (kc + 1) t.f_z43 t.d_z43 ["self", "n", "take_atom"] (spAtoms K t.c_z40 t.c_z11 f one Rep pl) := by
  refine T.F_z43.okF sc_atoms (fun vs H Q E h => ?_) (fun cdv A outer s H vs Q E hr h => ?_)
  · obtain ⟨r, n, x, rfl, _⟩ := h
    rfl
  · obtain ⟨r, n, x, rfl, R, hn, hx0, ans⟩ := h
    refine ⟨_, pss_cons (ps_set (i := 3) sc_atoms.nd rfl (Or.inl rfl) (pe_lst pa_nil))
      (pss_cons (ps_for ownF rfl (pi_range1 rfl T.b_range (pa_cons (pv 1) pa_nil)) (pg_name (i := 4) sc_atoms.nd rfl (Or.inl rfl))
        (pss_cons (ps_expr (pe_bm PySem.F.plainAttrs_list PySem.F.slot_list_append PySem.F.type_list_append mt_append (pv 3) (pa_cons (pe_callV (i := 2) G hr kp hb passF (pa_cons (pv 0) pa_nil)) pa_nil)))
        (pss_one (ps_expr (pe_bm PySem.F.plainAttrs_list PySem.F.slot_list_append PySem.F.type_list_append mt_append (pe_fld (pv 0) rfl) (pa_cons (pe_op op_sub (pe_fld (pv 0) rfl) pe_int) pa_nil))))))
      (pss_one (ps_ret (pv 3)))), ?_⟩
    refine ⟨Nat.zero_le _, fun l hl => ?_⟩
    have R0 := R.laid (o := .lst []) hl
    have rl : r ≠ l := fun z => by obtain ⟨d, e⟩ := R.obj; rw [← z, e] at hl; cases hl
    have hpl' : x.hp ≠ l := ne_of_none R.hpl hl
    have spl' : x.sp ≠ l := ne_of_none R.spl hl
    refine ⟨_, rfl, (n : Int), rfl, by omega, by omega, ?_⟩
    rw [Int.toNat_natCast]
    refine for_range (n := n) (fun i σ H' => ∃ (b : Bytes) (p : Nat) (v : Option V) (us : List V) (pre : List α), i ≤ n ∧ us.length = i ∧ σ = [some (.ref r), some (.int (n : Int)), some (.ref f), some (.ref l), v] ∧
        RdAt K t.c_z40 H' r { x with b := b, p := p, hps := pre.map fun z => (pl z : Int) } ∧ Frm [r, x.hp] H H' ∧ H' l = some (.lst us) ∧ Reps Rep (fun b => H b = none ∧ b ≠ l) H' us pre ∧
        Ans t.c_z11 x.w (Fk.andThen (JM.many one (n - i) b p) fun l => .ok (pre ++ l.1, l.2.1, l.2.2)) (fun y => ∀ H' la us, RdAt K t.c_z40 H' r { x with b := y.2.1, p := y.2.2, hps := y.1.map fun z => (pl z : Int) } → Frm [r, x.hp] H H' → H la = none → H' la = some (.lst us) →
          Reps Rep (fun b => H b = none ∧ b ≠ la) H' us y.1 → Q (.ref la) H') E)
      ⟨x.b, x.p, none, [], [], Nat.zero_le _, rfl, rfl, ?_, Frm.laid hl, upd_same, Reps.nil, ?_⟩ ?_ ?_
    · have := R0
      rw [show x = { x with b := x.b, p := x.p, hps := [] } by rw [← hx0]] at this
      exact this
    · rw [Nat.sub_zero, same_all]; exact ans
    · rintro i σ H' hi ⟨b, p, v, us, pre, hin, hus, rfl, R2, F2, hl2, RS, ans⟩
      obtain ⟨d2, e2⟩ := R2.obj
      rw [show n - i = (n - (i + 1)) + 1 by omega, many_snoc] at ans
      refine ⟨_, rfl, .inl ⟨rfl, _, SqL.of hl2⟩, rfl, _, rfl, ?_⟩
      refine ⟨r, _, rfl, R2, ans.andThen'.mono fun y hy ans H3 u R3 F3 rep => ?_⟩
      have hl3 : H3 l = some (.lst us) := F3 l _ hl2 (by simpa using Ne.symm rl)
      obtain ⟨d3, e3⟩ := R3.obj
      refine ⟨l, us, u, rfl, rfl, hl3, (by rw [hus, sizeLine_eq]; omega), ?_⟩
      have R4 := R3.wrote (o := .lst (us ++ [u])) hl3 (Ne.symm rl) (Ne.symm hpl') (Ne.symm spl') (fun _ _ z => by cases z)
      obtain ⟨d4, e4⟩ := R4.obj
      refine ⟨_, rfl, r, _, d4, _, _, rfl, e4, T.C_z40, T.n_Reader_hand_places, rfl, .inl ⟨rfl, _, SqL.of R4.hpl⟩, ?_⟩
      refine ⟨_, rfl, r, _, d4, _, _, rfl, e4, T.C_z40, T.n_Reader_place, rfl, _, _, rfl, rfl, ?_⟩
      refine ⟨x.hp, _, _, rfl, rfl, R4.hpl, ?_, ?_⟩
      · have := RS.len
        simp only [List.length_map]
        rw [sizeLine_eq]
        omega
      · have epl := hpl _ _ _ hy
        have R5 := R4.hand (z := ((y.2.2 : Nat) : Int) - 1)
        refine ⟨y.2.1, y.2.2, some (.int (0 + (i : Int))), us ++ [u], pre ++ [y.1], by omega, by simp [hus], rfl, ?_, ?_, ?_, ?_, ans⟩
        · rw [List.map_append, List.map_cons, List.map_nil, epl]
          exact R5
        · intro b' o e n'
          have n'' : b' ≠ r ∧ b' ≠ x.hp := by simpa using n'
          rw [upd_ne n''.2, upd_ne (ne_of_none e hl)]
          exact F3 b' o (F2 b' o e n') (by simpa using n''.1)
        · rw [upd_ne (Ne.symm hpl'), upd_same]
        · have old : ∀ b' o, (H b' = none ∧ b' ≠ l) → H' b' = some o → b' ≠ r ∧ b' ≠ x.hp ∧ b' ≠ l := fun b' o d _ => by
            refine ⟨fun q => ?_, fun q => ?_, d.2⟩
            · obtain ⟨d', e'⟩ := R.obj; rw [q, e'] at d; cases d.1
            · have := R.hpl; rw [← q, d.1] at this; cases this
          refine (RS.stay ok fun b' o d h => ?_).snoc (ok.stay (ok.mono rep fun b' d => ?_) fun b' o d h => ?_)
          · obtain ⟨q1, q2, q3⟩ := old b' o d h
            rw [upd_ne q2, upd_ne q3]
            exact F3 b' o h (by simpa using q1)
          · refine ⟨?_, fun q => by rw [q, hl2] at d; cases d⟩
            cases q : H b' with
            | none => rfl
            | some o =>
              by_cases z1 : b' = r
              · rw [z1, e2] at d; cases d
              · by_cases z2 : b' = x.hp
                · have := R2.hpl; rw [← show b' = x.hp from z2, d] at this; cases this
                · rw [F2 b' o q (by simp [z1, z2])] at d; cases d
          · have q2 : b' ≠ x.hp := fun q => by have := R.hpl; rw [← q, d.1] at this; cases this
            rw [upd_ne q2, upd_ne d.2]
            exact h
    · rintro σ H' ⟨b, p, v, us, pre, _, hus, rfl, R2, F2, hl2, RS, ans⟩
      rw [Nat.sub_self] at ans
      have ans : ∀ H' la us, _ := ans
      refine ⟨_, rfl, ?_⟩
      have a2 := ans H' l us (by rw [List.append_nil]; exact R2) F2 hl hl2
      rw [List.append_nil] at a2
      exact a2 RS
end
end MP
namespace MP
open PySem PySem.Spec PyProof.Rows L2
open XL (excTail)
open Fk (Fault Bytes numIn need andThen PAtom PBond)
section
variable {P : Program} {w : World} {K : PySem.W.Frag} {mg : Str → Option Value} {base : Heap} {t : Ad} {α : Type}
def spBonds (K : PySem.W.Frag) (CR CF f : Addr) (one : Nat × Nat → Bytes → Nat → Except Fault (α × Bytes × Nat)) (Rep : RepT α) (pl : α → Nat) : Sp := fun vs H Q E => ∃ (r : Addr) (n m : Nat) (x : Rdr), vs = [.ref r, .int (n : Int), .int (m : Int), .ref f] ∧ RdAt K CR H r x ∧ m ≤ 1000 ∧ x.sps = [] ∧
  Ans CF x.w (JM.manyB n one m none x.b x.p) (fun y => ∀ H' la us, RdAt K CR H' r { x with b := y.2.1, p := y.2.2, sps := y.1.map fun z => (pl z : Int) } → Frm [r, x.sp] H H' → H la = none → H' la = some (.lst us) →
    Reps Rep (fun b => H b = none ∧ b ≠ la) H' us y.1 → Q (.ref la) H') E
theorem sc_bonds : FnScope ["self", "n", "m", "take_bond", "bonds", "before", "k"] ["self", "n", "m", "take_bond"] (defScope s_z45) := ⟨rfl, rfl, rfl, by decide +kernel, rfl, by decide +kernel, by decide +kernel⟩
theorem ok_bonds (T : Txt K mg t) {kc : Nat} (h6 : 6 ≤ kc) {f : Addr} {fd : FuncData} {one : Nat × Nat → Bytes → Nat → Except Fault (α × Bytes × Nat)} {Rep : RepT α} {pl : α → Nat} (ok : RepOk Rep) (hpl : ∀ q b p y, one q b p = .ok y → (pl y.1 : Int) = (y.2.2 : Int) - 1)
    (G : FnOk P w K mg base (CXF P w) kc f fd ["reader", "pair"] (spOneB K t.c_z40 t.c_z11 one Rep)) (kp : PySem.W.keepIn K (.ref f) = true) (hb : Binds K fd ["reader", "pair"] []) :
    FnOk P w K mg base (CXF P w) (kc + 1) t.f_z45 t.d_z45 ["self", "n", "m", "take_bond"] (spBonds K t.c_z40 t.c_z11 f one Rep pl) := by
  have GP : FnOk P w K mg base (CXF P w) 6 t.f_z49 t.d_z49 ["self", "n", "before"] (spPair K t.c_z40 t.c_z11) := ok_pair T
  refine T.F_z45.okF sc_bonds (fun vs H Q E h => ?_) (fun cdv A outer s H vs Q E hr h => ?_)
  · obtain ⟨r, n, m, x, rfl, _⟩ := h
    rfl
  · obtain ⟨r, n, m, x, rfl, R, hn, hx0, ans⟩ := h
    have hr6 : Room 6 _ := hr.mono h6
    refine ⟨_, pss_cons (ps_set (i := 4) sc_bonds.nd rfl (Or.inl rfl) (pe_lst pa_nil))
      (pss_cons (ps_set (i := 5) sc_bonds.nd rfl (Or.inl rfl) (pe_tup (pa_cons (pe_un un_neg pe_int) (pa_cons (pe_un un_neg pe_int) pa_nil))))
      (pss_cons (ps_for ownF rfl (pi_range1 rfl T.b_range (pa_cons (pv 2) pa_nil)) (pg_name (i := 6) sc_bonds.nd rfl (Or.inl rfl))
        (pss_cons (ps_set (i := 5) sc_bonds.nd rfl (Or.inl rfl) (pe_meth (pv 0) T.C_z40 T.M_z49 GP hr6 T.B_z49 .nil passF (pa_cons (pv 1) (pa_cons (pv 5) pa_nil))))
        (pss_cons (ps_expr (pe_bm PySem.F.plainAttrs_list PySem.F.slot_list_append PySem.F.type_list_append mt_append (pv 4) (pa_cons (pe_callV (i := 3) G hr kp hb passF (pa_cons (pv 0) (pa_cons (pv 5) pa_nil))) pa_nil)))
        (pss_one (ps_expr (pe_bm PySem.F.plainAttrs_list PySem.F.slot_list_append PySem.F.type_list_append mt_append (pe_fld (pv 0) rfl) (pa_cons (pe_op op_sub (pe_fld (pv 0) rfl) pe_int) pa_nil)))))))
      (pss_one (ps_ret (pv 4))))), ?_⟩
    refine ⟨Nat.zero_le _, fun l hl => ?_⟩
    have R0 := R.laid (o := .lst []) hl
    have rl : r ≠ l := fun z => by obtain ⟨d, e⟩ := R.obj; rw [← z, e] at hl; cases hl
    have hpl' : x.hp ≠ l := ne_of_none R.hpl hl
    have spl' : x.sp ≠ l := ne_of_none R.spl hl
    refine ⟨1, rfl, 1, rfl, (by show 2 ≤ sizeLine; decide), fun q0 hq0 => ?_⟩
    have R1 := R0.laid (o := .tup [.int (-1), .int (-1)]) hq0
    have lq : l ≠ q0 := ne_of_none upd_same hq0
    refine ⟨_, rfl, (m : Int), rfl, by omega, by omega, ?_⟩
    rw [Int.toNat_natCast]
    refine for_range (n := m) (fun i σ H' => ∃ (had : Option (Nat × Nat)) (qa : Addr) (b : Bytes) (p : Nat) (v : Option V) (us : List V) (pre : List α), i ≤ m ∧ us.length = i ∧ σ = [some (.ref r), some (.int (n : Int)), some (.int (m : Int)), some (.ref f), some (.ref l), some (.ref qa), v] ∧
        RdAt K t.c_z40 H' r { x with b := b, p := p, sps := pre.map fun z => (pl z : Int) } ∧ Frm [r, x.sp] H H' ∧ H' l = some (.lst us) ∧ H' qa = some (.tup (vHad had)) ∧ Reps Rep (fun b => H b = none ∧ b ≠ l) H' us pre ∧
        Ans t.c_z11 x.w (Fk.andThen (JM.manyB n one (m - i) had b p) fun l => .ok (pre ++ l.1, l.2.1, l.2.2)) (fun y => ∀ H' la us, RdAt K t.c_z40 H' r { x with b := y.2.1, p := y.2.2, sps := y.1.map fun z => (pl z : Int) } → Frm [r, x.sp] H H' → H la = none → H' la = some (.lst us) →
          Reps Rep (fun b => H b = none ∧ b ≠ la) H' us y.1 → Q (.ref la) H') E)
      ⟨none, q0, x.b, x.p, none, [], [], Nat.zero_le _, rfl, rfl, ?_, (Frm.laid hl).trans (Frm.laid hq0), by rw [upd_ne lq, upd_same], upd_same, Reps.nil, ?_⟩ ?_ ?_
    · have := R1
      rw [show x = { x with b := x.b, p := x.p, sps := [] } by rw [← hx0]] at this
      exact this
    · rw [Nat.sub_zero, same_all]; exact ans
    · rintro i σ H' hi ⟨had, qa, b, p, v, us, pre, hin, hus, rfl, R2, F2, hl2, hqa, RS, ans⟩
      obtain ⟨d2, e2⟩ := R2.obj
      rw [show m - i = (m - (i + 1)) + 1 by omega, manyB_snoc] at ans
      refine ⟨_, rfl, r, d2, _, rfl, e2, rfl, _, rfl, _, rfl, ?_⟩
      refine ⟨r, qa, n, had, _, rfl, R2, hqa, ans.andThen'.mono fun q hq ans H3 qb R3 F3 nq hqb => ?_⟩
      have hl3 : H3 l = some (.lst us) := F3 l _ hl2 (by simpa using Ne.symm rl)
      obtain ⟨d3, e3⟩ := R3.obj
      refine ⟨_, rfl, .inl ⟨rfl, _, SqL.of hl3⟩, rfl, _, rfl, _, rfl, ?_⟩
      refine ⟨r, qb, q.1, _, rfl, R3, hqb, ans.andThen'.mono fun y hy ans H4 u R4 F4 rep => ?_⟩
      have hl4 : H4 l = some (.lst us) := F4 l _ hl3 (by simpa using Ne.symm rl)
      have qbr : qb ≠ r := ne_of hqb e3 (by intro z; cases z)
      have hqb4 := F4 qb _ hqb (by simpa using qbr)
      have qbl : qb ≠ l := ne_of hqb4 hl4 (by intro z; cases z)
      refine ⟨l, us, u, rfl, rfl, hl4, (by rw [hus, sizeLine_eq]; omega), ?_⟩
      have R5 := R4.wrote (o := .lst (us ++ [u])) hl4 (Ne.symm rl) (Ne.symm hpl') (Ne.symm spl') (fun _ _ z => by cases z)
      obtain ⟨d5, e5⟩ := R5.obj
      refine ⟨_, rfl, r, _, d5, _, _, rfl, e5, T.C_z40, T.n_Reader_side_places, rfl, .inl ⟨rfl, _, SqL.of R5.spl⟩, ?_⟩
      refine ⟨_, rfl, r, _, d5, _, _, rfl, e5, T.C_z40, T.n_Reader_place, rfl, _, _, rfl, rfl, ?_⟩
      refine ⟨x.sp, _, _, rfl, rfl, R5.spl, ?_, ?_⟩
      · have := RS.len
        simp only [List.length_map]
        rw [sizeLine_eq]
        omega
      · have epl := hpl _ _ _ _ hy
        have R6 := R5.side (z := ((y.2.2 : Nat) : Int) - 1)
        have qbs : qb ≠ x.sp := fun z => by have h9 := R4.spl; rw [← show qb = x.sp from z, hqb4] at h9; cases h9
        have F34 : Frm [r] H' H4 := F3.trans F4
        refine ⟨some q.1, qb, y.2.1, y.2.2, some (.int (0 + (i : Int))), us ++ [u], pre ++ [y.1], by omega, by simp [hus], rfl, ?_, ?_, ?_, ?_, ?_, ans⟩
        · rw [List.map_append, List.map_cons, List.map_nil, epl]
          exact R6
        · intro b' o e n'
          have n'' : b' ≠ r ∧ b' ≠ x.sp := by simpa using n'
          rw [upd_ne n''.2, upd_ne (ne_of_none e hl)]
          exact F34 b' o (F2 b' o e n') (by simpa using n''.1)
        · rw [upd_ne (Ne.symm spl'), upd_same]
        · rw [upd_ne qbs, upd_ne qbl]; exact hqb4
        · have old : ∀ b' o, (H b' = none ∧ b' ≠ l) → H' b' = some o → b' ≠ r ∧ b' ≠ x.sp ∧ b' ≠ l := fun b' o d _ => by
            refine ⟨fun q => ?_, fun q => ?_, d.2⟩
            · obtain ⟨d', e'⟩ := R.obj; rw [q, e'] at d; cases d.1
            · have := R.spl; rw [← q, d.1] at this; cases this
          refine (RS.stay ok fun b' o d h => ?_).snoc (ok.stay (ok.mono rep fun b' d => ?_) fun b' o d h => ?_)
          · obtain ⟨q1, q2, q3⟩ := old b' o d h
            rw [upd_ne q2, upd_ne q3]
            exact F34 b' o h (by simpa using q1)
          · refine ⟨?_, fun q => by rw [q, hl3] at d; cases d⟩
            have d' : H' b' = none := F3.fresh e3 d
            cases q : H b' with
            | none => rfl
            | some o =>
              by_cases z1 : b' = r
              · rw [z1, e2] at d'; cases d'
              · by_cases z2 : b' = x.sp
                · have := R2.spl; rw [← show b' = x.sp from z2, d'] at this; cases this
                · rw [F2 b' o q (by simp [z1, z2])] at d'; cases d'
          · have q2 : b' ≠ x.sp := fun q => by have := R.spl; rw [← q, d.1] at this; cases this
            rw [upd_ne q2, upd_ne d.2]
            exact h
    · rintro σ H' ⟨had, qa, b, p, v, us, pre, _, hus, rfl, R2, F2, hl2, hqa, RS, ans⟩
      rw [Nat.sub_self] at ans
      have ans : ∀ H' la us, _ := ans
      refine ⟨_, rfl, ?_⟩
      have a2 := ans H' l us (by rw [List.append_nil]; exact R2) F2 hl hl2
      rw [List.append_nil] at a2
      exact a2 RS
end
end MP
namespace MP
open PySem PySem.Spec PyProof.Rows L2
open XL (excTail)
open Fk (Fault Bytes numIn need andThen PAtom PBond)
def EndsAt (K : PySem.W.Frag) (H : Hp) (v : V) (q : Nat × Nat) : Prop := ∃ o C dx fs, v = .ref o ∧ H o = some (.ins C dx fs) ∧ Cls K C ∧ NoAttr K C "a" ∧ NoAttr K C "b" ∧ fs.lookup ("a" : Str) = some (V.int (q.1 : Int)) ∧ fs.lookup ("b" : Str) = some (V.int (q.2 : Int))
structure RowsAt (H : Hp) (lr : Addr) (rs : List Addr) (n : Nat) (row : Nat → List Nat) : Prop where
  lst : H lr = some (.lst (rs.map V.ref))
  len : rs.length = n
  nd : rs.Nodup
  out : lr ∉ rs
  at_ : ∀ v a, rs[v]? = some a → H a = some (.lst (vN (row v)))
theorem nbrs_snoc (l : List (Nat × Nat)) (q : Nat × Nat) (v : Nat) : JM.nbrs (l ++ [q]) v = JM.nbrs l v ++ (if q.1 = v then [q.2] else if q.2 = v then [q.1] else []) := by
  unfold JM.nbrs
  rw [List.filterMap_append]
  congr 1
  unfold JM.otherEnd
  by_cases h1 : q.1 = v
  · simp [h1]
  · by_cases h2 : q.2 = v <;> simp [h1, h2]
theorem take_snoc {α : Type} : ∀ {l : List α} {i : Nat} {x : α}, l[i]? = some x → l.take (i + 1) = l.take i ++ [x]
  | [], i, x, h => by simp at h
  | a :: l, 0, x, h => by
    have e : a = x := Option.some.inj h
    subst e
    rfl
  | a :: l, i + 1, x, h => by
    have ih := take_snoc (l := l) (i := i) (x := x) h
    show a :: l.take (i + 1) = a :: l.take i ++ [x]
    rw [ih]
    rfl
theorem nbrs_len (l : List (Nat × Nat)) (v : Nat) : (JM.nbrs l v).length ≤ l.length := List.length_filterMap_le _ _
section
variable {P : Program} {w : World} {K : PySem.W.Frag} {mg : Str → Option Value} {base : Heap} {t : Ad}
def spRows (K : PySem.W.Frag) : Sp := fun vs H Q _ => ∃ (n : Nat) (lb : Addr) (us : List V) (l : List (Nat × Nat)), vs = [.int (n : Int), .ref lb] ∧ n ≤ 1000 ∧ l.length ≤ 1000 ∧ H lb = some (.lst us) ∧ us.length = l.length ∧ (∀ (i : Nat) v q, us[i]? = some v → l[i]? = some q → EndsAt K H v q) ∧
  (∀ q ∈ l, q.1 < q.2 ∧ q.2 < n) ∧ ∀ H' lr rs, Same H H' → H lr = none → (∀ a ∈ rs, H a = none) → RowsAt H' lr rs n (JM.nbrs l) → Q (.ref lr) H'
theorem sc_rows : FnScope ["n", "bonds", "rows", "bond", "k"] ["n", "bonds"] (defScope s_z69) := ⟨rfl, rfl, rfl, by decide +kernel, rfl, by decide +kernel, by decide +kernel⟩
theorem RowsAt.push {H : Hp} {lr : Addr} {rs : List Addr} {n v : Nat} {a : Addr} {row : Nat → List Nat} {u : Nat} (R : RowsAt H lr rs n row) (ha : rs[v]? = some a) :
    RowsAt (upd H a (.lst (vN (row v) ++ [.int (u : Int)]))) lr rs n (fun x => if x = v then row x ++ [u] else row x) := by
  have z : lr ≠ a := fun q => R.out (q ▸ List.mem_of_getElem? ha)
  refine ⟨by rw [upd_ne z]; exact R.lst, R.len, R.nd, R.out, fun x b hb => ?_⟩
  by_cases hx : x = v
  · subst hx
    rw [ha] at hb
    cases hb
    rw [upd_same, if_pos rfl]
    simp [vN]
  · have : b ≠ a := fun q => hx (nd_ix R.nd hb (q ▸ ha))
    rw [upd_ne this, if_neg hx]
    exact R.at_ x b hb
theorem RowsAt.eq {H : Hp} {lr : Addr} {rs : List Addr} {n : Nat} {row row' : Nat → List Nat} (R : RowsAt H lr rs n row) (h : ∀ v, v < n → row v = row' v) : RowsAt H lr rs n row' :=
  ⟨R.lst, R.len, R.nd, R.out, fun v a ha => by
    have := R.at_ v a ha
    rw [h v (by rw [← R.len]; exact (List.getElem?_eq_some_iff.mp ha).1)] at this
    exact this⟩
theorem ok_rows (T : Txt K mg t) : FnOk P w K mg base CX0 1 t.f_z69 t.d_z69 ["n", "bonds"] (spRows K) := by
  refine T.F_z69.ok sc_rows (fun vs H Q E h => ?_) (fun cdv A outer s H vs Q E hr h => ?_)
  · obtain ⟨n, lb, us, l, rfl, _⟩ := h
    rfl
  · obtain ⟨n, lb, us, l, rfl, hn, hl, hlb, hlen, hends, hbd, k⟩ := h
    refine ⟨_, pss_cons (ps_setLc (i := 2) rfl sc_rows.nd rfl rfl rfl (pi_range1 rfl T.b_range (pa_cons (pv 0) pa_nil)) (blkOk_by (own := [("k", 4)]) rfl) (fun _ _ _ _ _ => pg_name (i := 4) sc_rows.nd rfl (Or.inl rfl)) (fun _ _ _ _ _ => pts_nil) (fun _ _ _ _ _ => pe_lst pa_nil))
      (pss_cons (ps_for PassesOwn.never rfl (pi_list (pv 1)) (pg_name (i := 3) sc_rows.nd rfl (Or.inl rfl))
        (pss_cons (ps_expr (pe_bm PySem.F.plainAttrs_list PySem.F.slot_list_append PySem.F.type_list_append mt_append (pe_ix ix_list (pv 2) (pe_fld (pv 3) rfl) (fun _ _ => rfl)) (pa_cons (pe_fld (pv 3) rfl) pa_nil)))
        (pss_one (ps_expr (pe_bm PySem.F.plainAttrs_list PySem.F.slot_list_append PySem.F.type_list_append mt_append (pe_ix ix_list (pv 2) (pe_fld (pv 3) rfl) (fun _ _ => rfl)) (pa_cons (pe_fld (pv 3) rfl) pa_nil))))))
      (pss_one (ps_ret (pv 2)))), ?_⟩
    refine ⟨_, rfl, (n : Int), rfl, by omega, by omega, ?_⟩
    rw [Int.toNat_natCast]
    intro D hD
    refine lc_range (n := n) (fun i H' => ∃ rs : List Addr, rs.length = i ∧ rs.Nodup ∧ D ∉ rs ∧ (∀ a ∈ rs, H a = none) ∧ Same H H' ∧ H' D = some (.lst (rs.map V.ref)) ∧ ∀ a ∈ rs, H' a = some (.lst []))
      ⟨[], rfl, List.nodup_nil, by simp, by simp, fun b o e => by rw [upd_ne (ne_of_none e hD)]; exact e, upd_same, by simp⟩ ?_ ?_
    · rintro i H' hi ⟨rs, hrs, nd, hDn, hn0, sm, hD', hem⟩
      refine ⟨rfl, Nat.zero_le _, fun a ha => ⟨rs.map V.ref, ?_, ?_, rs ++ [a], ?_, ?_, ?_, ?_, ?_, ?_, ?_⟩⟩
      · rw [upd_ne (ne_of_none hD' ha)]; exact hD'
      · simp only [List.length_map, hrs]; rw [sizeLine_eq]; omega
      · simp [hrs]
      · exact nd_snoc nd fun m => by rw [hem a m] at ha; cases ha
      · simp only [List.mem_append, List.mem_singleton, not_or]
        exact ⟨hDn, ne_of_none hD' ha⟩
      · intro b hb
        rcases List.mem_append.mp hb with m | m
        · exact hn0 b m
        · rw [List.mem_singleton.mp m]; exact sm.free ha
      · intro b o e
        rw [upd_ne (ne_of_none e hD), upd_ne (ne_of_none (sm b o e) ha)]
        exact sm b o e
      · rw [upd_same]; simp
      · intro b hb
        rcases List.mem_append.mp hb with m | m
        · have nb : b ≠ a := fun q => by rw [← q, hem b m] at ha; cases ha
          have nD : b ≠ D := fun q => hDn (q ▸ m)
          rw [upd_ne nD, upd_ne nb]
          exact hem b m
        · have e := List.mem_singleton.mp m
          have nD : a ≠ D := fun q => by rw [q, hD'] at ha; cases ha
          rw [e, upd_ne nD, upd_same]
    · rintro H1 ⟨rs, hrs, nd, hDn, hn0, sm, hD', hem⟩
      have R0 : RowsAt H1 D rs n (JM.nbrs (l.take 0)) := ⟨hD', hrs, nd, hDn, fun v a ha => hem a (List.mem_of_getElem? ha)⟩
      refine ⟨_, rfl, lb, rfl, ⟨_, SqL.of (sm _ _ hlb)⟩, for_list (K := K) (a := lb) (xs := us) (fun i σ H' => ∃ v : Option V, σ = [some (.int (n : Int)), some (.ref lb), some (.ref D), v, none] ∧ Same H H' ∧ RowsAt H' D rs n (JM.nbrs (l.take i)))
        ⟨none, rfl, sm, R0⟩ (fun i σ H' _ ⟨_, _, s5, _⟩ => SqL.of (s5 _ _ hlb)) ?_ ?_⟩
      · rintro i y σ H' hi ⟨v, rfl, s5, R⟩
        have hil : i < l.length := by rw [← hlen]; exact (List.getElem?_eq_some_iff.mp hi).1
        obtain ⟨q, hq⟩ : ∃ q, l[i]? = some q := ⟨_, List.getElem?_eq_getElem hil⟩
        obtain ⟨o, C, dx, fs, rfl, ho, cl, na, nb, la, lb'⟩ := hends i y q hi hq
        obtain ⟨hq1, hq2⟩ := hbd q (List.mem_of_getElem? hq)
        obtain ⟨ra, hra⟩ : ∃ ra, rs[q.1]? = some ra := ⟨_, List.getElem?_eq_getElem (by omega)⟩
        obtain ⟨rb, hrb⟩ : ∃ rb, rs[q.2]? = some rb := ⟨_, List.getElem?_eq_getElem (by omega)⟩
        have ho' := s5 _ _ ho
        have e1 : (rs.map V.ref)[q.1]? = some (V.ref ra) := by rw [List.getElem?_map, hra]; rfl
        have e2 : (rs.map V.ref)[q.2]? = some (V.ref rb) := by rw [List.getElem?_map, hrb]; rfl
        have hA := R.at_ _ _ hra
        have oa : o ≠ ra := ne_of ho' hA (by intro z; cases z)
        have R1 := R.push (u := q.2) hra
        have lenA : (vN (JM.nbrs (l.take i) q.1)).length < sizeLine := by
          have := nbrs_len (l.take i) q.1
          simp only [vN, List.length_map, List.length_take] at this ⊢
          rw [sizeLine_eq]
          omega
        refine ⟨_, rfl, _, rfl, o, C, dx, fs, _, rfl, ho', cl, na, la, D, _, _, _, rfl, rfl, SqL.of R.lst, atI_nat e1, .inl ⟨rfl, _, SqL.of hA⟩, ?_⟩
        refine ⟨_, rfl, o, C, dx, fs, _, rfl, ho', cl, nb, lb', ra, _, _, rfl, rfl, hA, lenA, ?_⟩
        have hB := R1.at_ _ _ hrb
        have ho2 : upd H' ra (.lst (vN (JM.nbrs (l.take i) q.1) ++ [.int (q.2 : Int)])) o = some (.ins C dx fs) := by rw [upd_ne oa]; exact ho'
        have lenB : (vN (if q.2 = q.1 then JM.nbrs (l.take i) q.2 ++ [q.2] else JM.nbrs (l.take i) q.2)).length < sizeLine := by
          rw [if_neg (by omega)]
          have := nbrs_len (l.take i) q.2
          simp only [vN, List.length_map, List.length_take] at this ⊢
          rw [sizeLine_eq]
          omega
        have R2 := R1.push (u := q.1) hrb
        refine ⟨_, rfl, _, rfl, o, C, dx, fs, _, rfl, ho2, cl, nb, lb', D, _, _, _, rfl, rfl, SqL.of R1.lst, atI_nat e2, .inl ⟨rfl, _, SqL.of hB⟩, ?_⟩
        refine ⟨_, rfl, o, C, dx, fs, _, rfl, ho2, cl, na, la, rb, _, _, rfl, rfl, hB, lenB, ?_⟩
        refine ⟨_, rfl, fun b u e => ?_, R2.eq fun v hv => ?_⟩
        · have za : b ≠ ra := fun z => by rw [z, hn0 ra (List.mem_of_getElem? hra)] at e; cases e
          have zb : b ≠ rb := fun z => by rw [z, hn0 rb (List.mem_of_getElem? hrb)] at e; cases e
          rw [upd_ne zb, upd_ne za]
          exact s5 b u e
        · rw [take_snoc hq, nbrs_snoc]
          by_cases z1 : q.1 = v
          · subst z1
            rw [if_neg (by omega), if_pos rfl, if_pos rfl]
          · by_cases z2 : q.2 = v
            · subst z2
              rw [if_pos rfl, if_neg (Ne.symm z1), if_neg z1, if_pos rfl]
            · rw [if_neg (Ne.symm z2), if_neg (Ne.symm z1), if_neg z1, if_neg z2, List.append_nil]
      · rintro σ H' ⟨v, rfl, s5, R⟩
        rw [hlen, List.take_length] at R
        exact ⟨_, rfl, k H' D rs s5 hD hn0 R⟩
end
end MP
namespace MP
open PySem PySem.Spec PyProof.Rows L2
open XL (excTail)
open Fk (Fault Bytes numIn need andThen PAtom PBond)
def gfs (la lb lr : Addr) : List (Str × V) := [("atoms", .ref la), ("bonds", .ref lb), ("neighbours", .ref lr)]
structure GrAt (C : Addr) (H : Hp) (g la lb lr : Addr) (as us : List V) (rs : List Addr) (l : List (Nat × Nat)) : Prop where
  obj : ∃ dx, H g = some (.ins C dx (gfs la lb lr))
  atoms : H la = some (.lst as)
  bonds : H lb = some (.lst us)
  rows : RowsAt H lr rs as.length (JM.nbrs l)
theorem RowsAt.stay {H H' : Hp} {lr : Addr} {rs : List Addr} {n : Nat} {row : Nat → List Nat} (R : RowsAt H lr rs n row) (f : ∀ b o, H b = some o → (b = lr ∨ b ∈ rs) → H' b = some o) : RowsAt H' lr rs n row :=
  ⟨f _ _ R.lst (.inl rfl), R.len, R.nd, R.out, fun v a ha => f _ _ (R.at_ v a ha) (.inr (List.mem_of_getElem? ha))⟩
theorem Same.frm {S : List Addr} {H H' : Hp} (s : Same H H') : Frm S H H' := fun b o e _ => s b o e
section
variable {P : Program} {w : World} {K : PySem.W.Frag} {mg : Str → Option Value} {base : Heap} {t : Ad}
def spGInit (K : PySem.W.Frag) (C : Addr) : Sp := fun vs H Q _ => ∃ (o dx la lb : Addr) (as us : List V) (l : List (Nat × Nat)), vs = [.ref o, .ref la, .ref lb] ∧ H o = some (.ins C dx []) ∧ H la = some (.lst as) ∧ H lb = some (.lst us) ∧ as.length ≤ 1000 ∧ l.length ≤ 1000 ∧ us.length = l.length ∧
  (∀ (i : Nat) v q, us[i]? = some v → l[i]? = some q → EndsAt K H v q ∧ v ≠ .ref o) ∧ (∀ q ∈ l, q.1 < q.2 ∧ q.2 < as.length) ∧ ∀ H' lr rs, GrAt C H' o la lb lr as us rs l → Frm [o] H H' → Q .non H'
theorem sc_ginit : FnScope ["self", "atoms", "bonds"] ["self", "atoms", "bonds"] (defScope s_z16) := ⟨rfl, rfl, rfl, by decide +kernel, rfl, by decide +kernel, by decide +kernel⟩
theorem ok_ginit (T : Txt K mg t) {C : Addr} (cl : Cls K C) (n1 : NoAttr K C "atoms") (n2 : NoAttr K C "bonds") (n3 : NoAttr K C "neighbours") : FnOk P w K mg base CX0 2 t.f_z16 t.d_z16 ["self", "atoms", "bonds"] (spGInit K C) := by
  have GR : FnOk P w K mg base CX0 1 t.f_z69 t.d_z69 ["n", "bonds"] (spRows K) := ok_rows T
  refine T.F_z16.ok sc_ginit (fun vs H Q E h => ?_) (fun cdv A outer s H vs Q E hr h => ?_)
  · obtain ⟨o, dx, la, lb, as, us, l, rfl, _⟩ := h
    rfl
  · obtain ⟨o, dx, la, lb, as, us, l, rfl, h0, ha, hb, hn, hl, hlen, hends, hbd, k⟩ := h
    refine ⟨_, pss_cons (ps_fld (pv 0) (pv 1) rfl) (pss_cons (ps_fld (pv 0) (pv 2) rfl) (pss_one (ps_fld (pv 0) (pe_call GR hr rfl T.g_z69 T.F_z69.kp T.B_z69 .nil pass0 (pa_cons (pe_callB call_len_seq (by rfl) T.b_len PySem.boot_len (pa_cons (pv 1) pa_nil)) (pa_cons (pv 2) pa_nil))) rfl))), ?_⟩
    have ao : la ≠ o := ne_of ha h0 (by intro z; cases z)
    have bo : lb ≠ o := ne_of hb h0 (by intro z; cases z)
    refine ⟨_, rfl, _, rfl, o, C, dx, _, rfl, h0, cl, n1, (by show 0 < 1000; decide), ?_⟩
    refine ⟨_, rfl, _, rfl, o, C, dx, _, rfl, upd_same, cl, n2, (by show 1 < 1000; decide), ?_⟩
    rw [upd_upd]
    have keep : ∀ b u, H b = some u → b ≠ o → upd H o (.ins C dx (putF "bonds" (.ref lb) (putF "atoms" (.ref la) []))) b = some u := fun b u e n => by rw [upd_ne n]; exact e
    refine ⟨_, rfl, la, _, rfl, .inl (SqL.of (keep _ _ ha ao)), _, rfl, ?_⟩
    refine ⟨as.length, lb, us, l, rfl, hn, hl, keep _ _ hb bo, hlen, fun i v q h1 h2 => ?_, hbd, fun H1 lr rs sm nlr nrs R => ?_⟩
    · obtain ⟨⟨o', C', dx', fs, rfl, e1, e2⟩, ne⟩ := hends i v q h1 h2
      exact ⟨o', C', dx', fs, rfl, keep _ _ e1 (fun z => ne (by rw [z])), e2⟩
    · have e1 := sm o _ upd_same
      refine ⟨_, rfl, o, C, dx, _, rfl, e1, cl, n3, (by show 2 < 1000; decide), ?_⟩
      have F : Frm [o] H (upd H1 o (.ins C dx (putF "neighbours" (.ref lr) (putF "bonds" (.ref lb) (putF "atoms" (.ref la) []))))) := fun b u e n => by
        have nb : b ≠ o := by simpa using n
        rw [upd_ne nb]
        exact sm b u (keep b u e nb)
      refine k _ lr rs ⟨⟨dx, upd_same⟩, F _ _ ha (by simpa using ao), F _ _ hb (by simpa using bo), R.stay fun b u e hb' => ?_⟩ F
      have nb : b ≠ o := by
        rcases hb' with z | z
        · intro q; rw [← z, q, upd_same] at nlr; cases nlr
        · intro q; have := nrs b z; rw [q, upd_same] at this; cases this
      rw [upd_ne nb]
      exact e
def graphIn {α β : Type} (M : Bytes) (oneA : Bytes → Nat → Except Fault (α × Bytes × Nat)) (oneB : Nat × Nat → Bytes → Nat → Except Fault (β × Bytes × Nat)) (b : Bytes) (p : Nat) : Except Fault (List α × List β) :=
  Fk.andThen (JM.markIn M b p) fun m =>
  Fk.andThen (numIn 1 (fun v => decide (v ≤ Fk.ATOMS)) m.1 m.2) fun n =>
  Fk.andThen (numIn 1 (fun v => decide (v ≤ Fk.BONDS)) n.2.1 n.2.2) fun k =>
  Fk.andThen (JM.many oneA n.1 k.2.1 k.2.2) fun x =>
  Fk.andThen (JM.manyB n.1 oneB k.1 none x.2.1 x.2.2) fun y =>
  Fk.andThen (need y.2.1.isEmpty 7 y.2.2) fun _ => .ok (x.1, y.1)
def spGraph {α β : Type} (K : PySem.W.Frag) (CR CF CG f1 f2 : Addr) (oneA : Bytes → Nat → Except Fault (α × Bytes × Nat)) (oneB : Nat × Nat → Bytes → Nat → Except Fault (β × Bytes × Nat)) (RA : RepT α) (RB : RepT β) (plA : α → Nat) (plB : β → Nat) (ends : β → Nat × Nat) : Sp :=
  fun vs H Q E => ∃ (r m : Addr) (M : Bytes) (x : Rdr), vs = [.ref r, .ref m, .ref f1, .ref f2] ∧ RdAt K CR H r x ∧ x.hps = [] ∧ x.sps = [] ∧ (∀ H, SqT K H m (vB M)) ∧
    Ans CF x.w (graphIn M oneA oneB x.b x.p) (fun y => ∀ H' g la lb lr as us rs b p, RdAt K CR H' r { x with b := b, p := p, hps := y.1.map fun z => (plA z : Int), sps := y.2.map fun z => (plB z : Int) } → Frm [r, x.hp, x.sp] H H' →
      GrAt CG H' g la lb lr as us rs (y.2.map ends) → Reps RA (fun b => H b = none) H' as y.1 → Reps RB (fun b => H b = none) H' us y.2 → JM.Rising as.length (y.2.map ends) → Q (.ref g) H') E
theorem sc_graph : FnScope ["reader", "mark", "take_atom", "take_bond", "n", "m", "atoms", "bonds"] ["reader", "mark", "take_atom", "take_bond"] (defScope s_z81) := ⟨rfl, rfl, rfl, by decide +kernel, rfl, by decide +kernel, by decide +kernel⟩
theorem ok_graph (T : Txt K mg t) {α β : Type} {f1 f2 : Addr} {fd1 fd2 : FuncData} {oneA : Bytes → Nat → Except Fault (α × Bytes × Nat)} {oneB : Nat × Nat → Bytes → Nat → Except Fault (β × Bytes × Nat)} {RA : RepT α} {RB : RepT β} {plA : α → Nat} {plB : β → Nat} {ends : β → Nat × Nat}
    (okA : RepOk RA) (okB : RepOk RB) (hplA : ∀ b p y, oneA b p = .ok y → (plA y.1 : Int) = (y.2.2 : Int) - 1) (hplB : ∀ q b p y, oneB q b p = .ok y → (plB y.1 : Int) = (y.2.2 : Int) - 1) (hends : ∀ q b p x, oneB q b p = .ok x → ends x.1 = q)
    (hE : ∀ {D : Addr → Prop} {H : Hp} {v : V} {z : β}, RB D H v z → ∃ o, v = .ref o ∧ D o ∧ EndsAt K H v (ends z))
    (G1 : FnOk P w K mg base (CXF P w) 7 f1 fd1 ["reader"] (spOne K t.c_z40 t.c_z11 oneA RA)) (kp1 : PySem.W.keepIn K (.ref f1) = true) (hb1 : Binds K fd1 ["reader"] [])
    (G2 : FnOk P w K mg base (CXF P w) 7 f2 fd2 ["reader", "pair"] (spOneB K t.c_z40 t.c_z11 oneB RB)) (kp2 : PySem.W.keepIn K (.ref f2) = true) (hb2 : Binds K fd2 ["reader", "pair"] []) :
    FnOk P w K mg base (CXF P w) 9 t.f_z81 t.d_z81 ["reader", "mark", "take_atom", "take_bond"] (spGraph K t.c_z40 t.c_z11 t.c_z14 f1 f2 oneA oneB RA RB plA plB ends) := by
  have GM : FnOk P w K mg base (CXF P w) 6 t.f_z47 t.d_z47 ["self", "mark"] (spMark K t.c_z40 t.c_z11) := ok_mark T
  have GB : FnOk P w K mg base (CXF P w) 5 t.f_z44 t.d_z44 ["self", "size", "least", "greatest"] (spBetween K t.c_z40 t.c_z11) := ok_between T
  have GA : FnOk P w K mg base (CXF P w) 8 t.f_z43 t.d_z43 ["self", "n", "take_atom"] (spAtoms K t.c_z40 t.c_z11 f1 oneA RA plA) := ok_atoms T okA hplA G1 kp1 hb1
  have GO : FnOk P w K mg base (CXF P w) 8 t.f_z45 t.d_z45 ["self", "n", "m", "take_bond"] (spBonds K t.c_z40 t.c_z11 f2 oneB RB plB) := ok_bonds T (by decide) okB hplB G2 kp2 hb2
  have GE : FnOk P w K mg base (CXF P w) 4 t.f_z46 t.d_z46 ["self"] (spEnd K t.c_z40 t.c_z11) := ok_end T
  have GI : FnOk P w K mg base CX0 2 t.f_z16 t.d_z16 ["self", "atoms", "bonds"] (spGInit K t.c_z14) := ok_ginit T T.C_z14 T.n_Graph_atoms T.n_Graph_bonds T.n_Graph_neighbours
  obtain ⟨tk1, g1⟩ := T.k_z22
  obtain ⟨tk2, g2⟩ := T.k_z23
  refine T.F_z81.okF sc_graph (fun vs H Q E h => ?_) (fun cdv A outer s H vs Q E hr h => ?_)
  · obtain ⟨r, m, M, x, rfl, _⟩ := h
    rfl
  · obtain ⟨r, m, M, x, rfl, R, hx1, hx2, hM, ans⟩ := h
    have hr6 : Room 6 _ := hr.mono (by decide)
    have hr5 : Room 5 _ := hr.mono (by decide)
    have hr4 : Room 4 _ := hr.mono (by decide)
    have hr3 : Room 3 _ := hr.mono (by decide)
    refine ⟨_, pss_cons (ps_expr (pe_meth (pv 0) T.C_z40 T.M_z47 GM hr6 T.B_z47 .nil passF (pa_cons (pv 1) pa_nil)))
      (pss_cons (ps_set (i := 4) sc_graph.nd rfl (Or.inl rfl) (pe_meth (pv 0) T.C_z40 T.M_z44 GB hr5 T.B_z44 .nil passF (pa_cons pe_int (pa_cons pe_int (pa_cons (pe_glob rfl g1 (v := .int 128) ⟨_, rfl⟩) pa_nil)))))
      (pss_cons (ps_set (i := 5) sc_graph.nd rfl (Or.inl rfl) (pe_meth (pv 0) T.C_z40 T.M_z44 GB hr5 T.B_z44 .nil passF (pa_cons pe_int (pa_cons pe_int (pa_cons (pe_glob rfl g2 (v := .int 192) ⟨_, rfl⟩) pa_nil)))))
      (pss_cons (ps_set (i := 6) sc_graph.nd rfl (Or.inl rfl) (pe_meth (pv 0) T.C_z40 T.M_z43 GA hr T.B_z43 .nil passF (pa_cons (pv 4) (pa_cons (pv 2) pa_nil))))
      (pss_cons (ps_set (i := 7) sc_graph.nd rfl (Or.inl rfl) (pe_meth (pv 0) T.C_z40 T.M_z45 GO hr T.B_z45 .nil passF (pa_cons (pv 4) (pa_cons (pv 5) (pa_cons (pv 3) pa_nil)))))
      (pss_cons (ps_expr (pe_meth0 (pv 0) T.C_z40 T.M_z46 GE hr4 T.B_z46 .nil passF))
      (pss_one (ps_ret (pe_make T.K_z14 GI hr3 rfl T.g_z14 T.B_z16 .nil pass0 (pa_cons (pv 6) (pa_cons (pv 7) pa_nil)))))))))), ?_⟩
    obtain ⟨d0, e0⟩ := R.obj
    refine ⟨_, rfl, r, d0, _, rfl, e0, rfl, _, rfl, ?_⟩
    refine ⟨r, m, M, x, rfl, R, hM, ans.andThen'.mono fun y1 hy1 ans H1 R1 F1 => ?_⟩
    obtain ⟨d1, e1⟩ := R1.obj
    refine ⟨_, rfl, r, d1, _, rfl, e1, rfl, ?_⟩
    refine ⟨r, 1, 0, 128, _, rfl, R1, .inl rfl, Ans.good (g' := fun v => decide (v ≤ Fk.ATOMS)) (fun v => by rw [Bool.eq_iff_iff]; simp only [Bool.and_eq_true, decide_eq_true_eq]; unfold Fk.ATOMS; omega) (ans.andThen'.mono fun n hn ans H2 R2 F2 => ?_)⟩
    obtain ⟨d2, e2⟩ := R2.obj
    have n128 : n.1 ≤ 128 := of_decide_eq_true (JM.numIn_ok hn).2.1
    refine ⟨_, rfl, r, d2, _, rfl, e2, rfl, ?_⟩
    refine ⟨r, 1, 0, 192, _, rfl, R2, .inl rfl, Ans.good (g' := fun v => decide (v ≤ Fk.BONDS)) (fun v => by rw [Bool.eq_iff_iff]; simp only [Bool.and_eq_true, decide_eq_true_eq]; unfold Fk.BONDS; omega) (ans.andThen'.mono fun mm hmm ans H3 R3 F3 => ?_)⟩
    obtain ⟨d3, e3⟩ := R3.obj
    have m192 : mm.1 ≤ 192 := of_decide_eq_true (JM.numIn_ok hmm).2.1
    refine ⟨_, rfl, r, d3, _, rfl, e3, rfl, _, rfl, _, rfl, ?_⟩
    refine ⟨r, n.1, _, rfl, R3, by omega, hx1, ans.andThen'.mono fun y4 hy4 ans H4 la as R4 F4 nla hla RAs => ?_⟩
    obtain ⟨d4, e4⟩ := R4.obj
    refine ⟨_, rfl, r, d4, _, rfl, e4, rfl, _, rfl, _, rfl, _, rfl, ?_⟩
    refine ⟨r, n.1, mm.1, _, rfl, R4, by omega, hx2, ans.andThen'.mono fun y5 hy5 ans H5 lb us R5 F5 nlb hlb RBs => ?_⟩
    obtain ⟨d5, e5⟩ := R5.obj
    refine ⟨_, rfl, r, d5, _, rfl, e5, rfl, ?_⟩
    refine ⟨r, _, rfl, R5, ans.andThen'.mono fun y6 hy6 ans => ?_⟩
    have F13 : Frm [r] H H3 := (F1.trans F2).trans F3
    have F14 : Frm [r, x.hp, x.sp] H H4 := (F13.mono (by simp)).trans (F4.mono (by simp))
    have F15 : Frm [r, x.hp, x.sp] H H5 := F14.trans (F5.mono (by simp))
    have new3 : ∀ b, H3 b = none → H b = none := fun b h => F13.fresh e3 h
    have new4 : ∀ b, H4 b = none → H b = none := fun b h => by
      refine new3 b ?_
      cases q : H3 b with
      | none => rfl
      | some o =>
        by_cases z1 : b = r
        · rw [z1, e4] at h; cases h
        · by_cases z2 : b = x.hp
          · have := R4.hpl; rw [← show b = x.hp from z2, h] at this; cases this
          · rw [F4 b o q (by simp [z1]; exact z2)] at h; cases h
    have notr : ∀ b, H b = none → b ≠ r ∧ b ≠ x.hp ∧ b ≠ x.sp := fun b h => by
      refine ⟨fun q => ?_, fun q => ?_, fun q => ?_⟩
      · rw [q, e0] at h; cases h
      · have := R.hpl; rw [← q, h] at this; cases this
      · have := R.spl; rw [← q, h] at this; cases this
    have hnla := new3 la nla
    have hnlb := new4 lb nlb
    have hla5 : H5 la = some (.lst as) := F5 la _ hla (by have := notr la hnla; simp [this.1]; exact this.2.2)
    have RA5 : Reps RA (fun b => H b = none ∧ b ≠ la) H5 as y4.1 := (RAs.mono okA (fun b d => ⟨new3 b d.1, d.2⟩)).stay okA fun b o d h => F5 b o h (by have := notr b d.1; simp [this.1]; exact this.2.2)
    have RB5 : Reps RB (fun b => H4 b = none ∧ b ≠ lb) H5 us y5.1 := RBs
    have rise := (JM.manyB_rises (ends := ends) hends hy5).1
    have alen : as.length = n.1 := RAs.len.trans (JM.many_length hy4)
    refine ⟨_, rfl, _, rfl, fun o dx no nd ne => ?_⟩
    have keep6 : ∀ b u, H5 b = some u → upd (upd H5 dx (.own o)) o (.ins t.c_z14 dx []) b = some u := fun b u e => by rw [upd_ne (ne_of_none e no), upd_ne (ne_of_none e nd)]; exact e
    refine ⟨o, dx, la, lb, as, us, y5.1.map ends, rfl, upd_same, keep6 _ _ hla5, keep6 _ _ hlb, by omega, ?_, by rw [List.length_map]; exact RB5.len, fun i v q h1 h2 => ?_, fun q hq => ?_, fun H7 lr rs GR F7 => ⟨rfl, ?_⟩⟩
    · rw [List.length_map, JM.manyB_length hy5]; omega
    · rw [List.getElem?_map] at h2
      cases hz : y5.1[i]? with
      | none => rw [hz] at h2; cases h2
      | some z =>
        rw [hz] at h2
        cases h2
        obtain ⟨o', rfl, _, o2, C2, dx2, fs2, e2', e3', rest⟩ := hE (RB5.at_ i v z h1 hz)
        cases e2'
        exact ⟨⟨o', C2, dx2, fs2, rfl, keep6 _ _ e3', rest⟩, fun z => by cases z; rw [no] at e3'; cases e3'⟩
    · have := rise.1 q hq
      rw [alen]
      exact this
    · have F8 : Frm [] H5 H7 := Frm.made no nd F7
      have rd7 := R5.stay F8 (by simp) (by simp) (by simp) (by simp)
      refine ans H7 o la lb lr as us rs _ _ rd7 (F15.trans (F8.mono (by simp))) GR ((RA5.mono okA fun b d => d.1).stay okA fun b u _ h => F8 b u h (by simp)) ((RB5.mono okB fun b d => new4 b d.1).stay okB fun b u _ h => F8 b u h (by simp)) ?_
      rw [alen]
      exact rise
end
end MP
namespace MP
open PySem PySem.Spec PyProof.Rows L2
open XL (excTail)
open Fk (Fault Bytes numIn need andThen PAtom PBond)
theorem for_enum {K : PySem.W.Frag} {a : Addr} {xs : List V} {g : TG} {tb : TS} {D : Ends} {σ : L2.St} {H : Hp} (Pv : Nat → L2.St → Hp → Prop) (h0 : Pv 0 σ H) (hl : ∀ i σ H, i ≤ xs.length → Pv i σ H → SqL K H a xs)
    (hs : ∀ i x σ H T, xs[i]? = some x → Pv i σ H → H T = none → g (.ref T) σ (upd H T (.tup [.int (i : Nat), x])) fun σ2 H2 => tb { D with nx := Pv (i + 1), ct := Pv (i + 1), bk := D.nx } σ2 H2) (hd : ∀ σ H, Pv xs.length σ H → D.nx σ H) :
    ∃ W : Nat → Nat → L2.St → Hp → Prop, (∃ m, W 0 m σ H) ∧ ∀ i m σ H, W i m σ H →
      ((Ite K a).stop i H ∧ D.nx σ H) ∨ ((Ite K a).go i H ∧ ∃ N : L2.St → Hp → Prop, (∀ σ' H', N σ' H' → ∃ m', m' < m ∧ W (i + 1) m' σ' H') ∧ ∀ x H', (Ite K a).yld i H x H' → g x σ H' fun σ2 H2 => tb { D with nx := N, ct := N, bk := D.nx } σ2 H2) := by
  refine ⟨fun i m σ H => m = xs.length - i ∧ i ≤ xs.length ∧ Pv i σ H, ⟨xs.length, by simp, Nat.zero_le _, h0⟩, ?_⟩
  rintro i m σ H ⟨rfl, hi, p⟩
  have q := hl i σ H hi p
  by_cases hlt : i < xs.length
  · refine .inr ⟨⟨xs, xs[i], q, by simp [hlt]⟩, Pv (i + 1), fun σ' H' p' => ⟨xs.length - (i + 1), by omega, rfl, hlt, p'⟩, fun x H' y => ?_⟩
    obtain ⟨T, x', rfl, hT, rfl, y⟩ := y
    exact hs i x' σ H T (y xs q) p hT
  · have e : i = xs.length := by omega
    subst e
    exact .inl ⟨⟨xs, q, Nat.le_refl _⟩, hd σ H p⟩
theorem in_two (h : Nat) (x y : Nat) : inV (.int (h : Int)) [.int (x : Int), .int (y : Int)] = (h == x || h == y) := by
  rw [Bool.eq_iff_iff]
  simp [inV, eqV]
  omega
theorem lt_sz {n : Nat} (h : n ≤ 1000) : n < sizeLine := by rw [sizeLine_eq]; omega
section
variable {P : Program} {w : World} {K : PySem.W.Frag} {mg : Str → Option Value} {base : Heap} {t : Ad}
theorem laid_same {H : Hp} {p : Addr} {o : HO} (hp : H p = none) : Same H (upd H p o) := fun b u e => by rw [upd_ne (ne_of_none e hp)]; exact e
def spBesides (K : PySem.W.Frag) (C : Addr) : Sp := fun vs H Q _ => ∃ (g dx lr : Addr) (fs : List (Str × V)) (rs : List Addr) (n e o : Nat) (row : Nat → List Nat), vs = [.ref g, .int (e : Int), .int (o : Int)] ∧ H g = some (.ins C dx fs) ∧ fs.lookup ("neighbours" : Str) = some (V.ref lr) ∧ RowsAt H lr rs n row ∧ e < n ∧ (row e).length ≤ 1000 ∧
  ∀ H' l, Same H H' → H l = none → H' l = some (.lst (vN ((row e).filter fun x => x != o))) → Q (.ref l) H'
theorem sc_besides : FnScope ["self", "end", "other", "atom"] ["self", "end", "other"] (defScope s_z15) := ⟨rfl, rfl, rfl, by decide +kernel, rfl, by decide +kernel, by decide +kernel⟩
theorem ok_besides (T : Txt K mg t) {C : Addr} (cl : Cls K C) (n3 : NoAttr K C "neighbours") : FnOk P w K mg base CX0 1 t.f_z15 t.d_z15 ["self", "end", "other"] (spBesides K C) := by
  refine T.F_z15.ok sc_besides (fun vs H Q E h => ?_) (fun cdv A outer s H vs Q E hr h => ?_)
  · obtain ⟨g, dx, lr, fs, rs, n, e, o, row, rfl, _⟩ := h
    rfl
  · obtain ⟨g, dx, lr, fs, rs, n, e, o, row, rfl, hg, hl, R, he, hlen, k⟩ := h
    obtain ⟨ra, hra⟩ : ∃ ra, rs[e]? = some ra := ⟨_, List.getElem?_eq_getElem (by rw [R.len]; exact he)⟩
    have hA := R.at_ _ _ hra
    have e1 : (rs.map V.ref)[e]? = some (V.ref ra) := by rw [List.getElem?_map, hra]; rfl
    refine ⟨_, pss_one (ps_ret (pe_lc rfl sc_besides.nd (pi_list (pe_ix ix_list (pe_fld (pv 0) rfl) (pv 1) (fun _ _ => rfl))) (blkOk_by (own := [("atom", 3)]) rfl) (fun _ _ _ _ _ => pg_name (i := 3) sc_besides.nd rfl (Or.inl rfl)) (fun _ _ _ _ _ => pts_one (pt_cmpR op_ne (pv 3) (pv 2) (nomark _))) (fun _ _ _ _ _ => pv 3))), ?_⟩
    refine ⟨_, rfl, g, C, dx, fs, _, rfl, hg, cl, n3, hl, _, rfl, lr, _, _, _, rfl, rfl, SqL.of R.lst, atI_nat e1, ra, rfl, ⟨_, SqL.of hA⟩, ?_⟩
    intro D hD
    refine lc_list (K := K) (a := ra) (xs := vN (row e)) (fun i H' => Same H H' ∧ H' D = some (.lst (vN (((row e).take i).filter fun x => x != o)))) ⟨laid_same hD, upd_same⟩ (fun i H' _ h => SqL.of (h.1 _ _ hA)) ?_ ?_
    · rintro i x H' hx ⟨sm, hD'⟩
      obtain ⟨c, hc, rfl⟩ : ∃ c, (row e)[i]? = some c ∧ x = V.int (c : Int) := by
        unfold vN at hx
        rw [List.getElem?_map] at hx
        cases q : (row e)[i]? with
        | none => rw [q] at hx; cases hx
        | some c => rw [q] at hx; exact ⟨c, rfl, (Option.some.inj hx).symm⟩
      refine ⟨rfl, _, rfl, _, rfl, rfl, _, rfl, ?_⟩
      refine ite2 (fun h => ?_) (fun h => ?_)
      · have ne : (c != o) = true := by simp at h ⊢; omega
        refine ⟨_, rfl, _, hD', ?_, fun b u e' => ?_, ?_⟩
        · have : (((row e).take i).filter fun x => x != o).length ≤ (row e).length := Nat.le_trans (List.length_filter_le _ _) (by rw [List.length_take]; omega)
          simp only [vN, List.length_map]
          exact lt_sz (by omega)
        · rw [upd_ne (ne_of_none e' hD)]; exact sm b u e'
        · rw [upd_same, take_snoc hc, List.filter_append, List.filter_cons, if_pos ne]
          simp [vN]
      · have ne : ¬ (c != o) = true := by simp at h ⊢; omega
        refine ⟨sm, ?_⟩
        rw [take_snoc hc, List.filter_append, List.filter_cons, if_neg ne]
        simpa using hD'
    · rintro H' ⟨sm, hD'⟩
      rw [show (vN (row e)).length = (row e).length by simp [vN], List.take_length] at hD'
      exact k H' D sm hD hD'
theorem EndsAt.same {H H' : Hp} {v : V} {q : Nat × Nat} (e : EndsAt K H v q) (f : Same H H') : EndsAt K H' v q := let ⟨o, C, dx, fs, a, b, c⟩ := e; ⟨o, C, dx, fs, a, f _ _ b, c⟩
end
end MP
namespace JM
open Fk
def oneMA (b : Bytes) (p : Nat) : Except Fault ((Atom × Nat) × Bytes × Nat) := andThen (oneMAtom b p) fun y => .ok ((y.1, y.2.2 - 1), y.2.1, y.2.2)
def oneMB (q : Nat × Nat) (b : Bytes) (p : Nat) : Except Fault ((Bond × Nat) × Bytes × Nat) := andThen (oneMBond q b p) fun y => .ok ((y.1, y.2.2 - 1), y.2.1, y.2.2)
theorem step_ok {α β : Type} {x : Except Fault α} {f : α → Except Fault β} {r : β} (h : andThen x f = .ok r) : ∃ a, x = .ok a ∧ f a = .ok r := by
  cases x with
  | error e => cases h
  | ok a => exact ⟨a, rfl, h⟩
def untag {α : Type} (y : List (α × Nat) × Bytes × Nat) : List α × Bytes × Nat := (y.1.map fun z => z.1, y.2.1, y.2.2)
theorem many_tag {α : Type} {one : Bytes → Nat → Except Fault (α × Bytes × Nat)} : ∀ (k : Nat) (b : Bytes) (p : Nat),
    many one k b p = andThen (many (fun b p => andThen (one b p) fun y => .ok ((y.1, y.2.2 - 1), y.2.1, y.2.2)) k b p) fun y => .ok (untag y)
  | 0, b, p => rfl
  | k + 1, b, p => by
    unfold many
    simp only [andThen_assoc, andThen_ok]
    cases one b p with
    | error e => rfl
    | ok x =>
      simp only [andThen_ok]
      rw [many_tag k]
      simp only [andThen_assoc, andThen_ok]
      rfl
theorem manyB_tag {α : Type} {n : Nat} {one : Nat × Nat → Bytes → Nat → Except Fault (α × Bytes × Nat)} : ∀ (k : Nat) (had : Option (Nat × Nat)) (b : Bytes) (p : Nat),
    manyB n one k had b p = andThen (manyB n (fun q b p => andThen (one q b p) fun y => .ok ((y.1, y.2.2 - 1), y.2.1, y.2.2)) k had b p) fun y => .ok (untag y)
  | 0, had, b, p => rfl
  | k + 1, had, b, p => by
    unfold manyB
    simp only [andThen_assoc, andThen_ok]
    cases endsIn n had b p with
    | error e => rfl
    | ok q =>
      simp only [andThen_ok]
      cases one q.1 q.2.1 q.2.2 with
      | error e => rfl
      | ok x =>
        simp only [andThen_ok]
        rw [manyB_tag k]
        simp only [andThen_assoc, andThen_ok]
        rfl
theorem oneMAtom_place {b : Bytes} {p : Nat} {y : Atom × Bytes × Nat} (h : oneMAtom b p = .ok y) : y.2.2 = p + 6 := by
  unfold oneMAtom at h
  obtain ⟨a1, h1, h⟩ := step_ok h
  obtain ⟨a2, h2, h⟩ := step_ok h
  obtain ⟨a3, h3, h⟩ := step_ok h
  obtain ⟨a4, h4, h⟩ := step_ok h
  obtain ⟨a5, h5, h⟩ := step_ok h
  cases h
  have := (numIn_ok h1).2.2.2.2
  have := (numIn_ok h2).2.2.2.2
  have := (numIn_ok h3).2.2.2.2
  have := (numIn_ok h4).2.2.2.2
  have := (numIn_ok h5).2.2.2.2
  simp only
  omega
theorem oneMBond_place {q : Nat × Nat} {b : Bytes} {p : Nat} {y : Bond × Bytes × Nat} (h : oneMBond q b p = .ok y) : y.2.2 = p + 2 := by
  unfold oneMBond at h
  obtain ⟨a1, h1, h⟩ := step_ok h
  obtain ⟨a2, h2, h⟩ := step_ok h
  cases h
  have := (numIn_ok h1).2.2.2.2
  have := (numIn_ok h2).2.2.2.2
  simp only
  omega
theorem endsIn_place {n : Nat} {had : Option (Nat × Nat)} {b : Bytes} {p : Nat} {y : (Nat × Nat) × Bytes × Nat} (h : endsIn n had b p = .ok y) : y.2.2 = p + 2 := by
  unfold endsIn at h
  obtain ⟨a1, h1, h⟩ := step_ok h
  obtain ⟨a2, h2, h⟩ := step_ok h
  obtain ⟨a3, h3, h⟩ := step_ok h
  cases h
  have := (numIn_ok h1).2.2.2.2
  have := (numIn_ok h2).2.2.2.2
  simp only
  omega
theorem atoms_places : ∀ {k : Nat} {b : Bytes} {p : Nat} {y : List (Atom × Nat) × Bytes × Nat}, many oneMA k b p = .ok y → (∀ i z, y.1[i]? = some z → z.2 = p + 6 * i + 5) ∧ y.2.2 = p + 6 * k
  | 0, b, p, y, h => by
    cases h
    exact ⟨fun i z h => by simp at h, rfl⟩
  | k + 1, b, p, y, h => by
    unfold many at h
    obtain ⟨x, h1, h⟩ := step_ok h
    obtain ⟨l, h2, h⟩ := step_ok h
    cases h
    unfold oneMA at h1
    obtain ⟨w, h3, h1⟩ := step_ok h1
    cases h1
    have e1 := oneMAtom_place h3
    obtain ⟨i1, i2⟩ := atoms_places h2
    simp only at i1 i2 ⊢
    refine ⟨fun i z hz => ?_, by omega⟩
    cases i with
    | zero =>
      cases hz
      simp only
      omega
    | succ i =>
      have := i1 i z (by simpa using hz)
      omega
theorem bonds_places {n : Nat} : ∀ {k : Nat} {had : Option (Nat × Nat)} {b : Bytes} {p : Nat} {y : List (Bond × Nat) × Bytes × Nat}, manyB n oneMB k had b p = .ok y → (∀ i z, y.1[i]? = some z → z.2 = p + 4 * i + 3)
  | 0, had, b, p, y, h => by
    cases h
    exact fun i z h => by simp at h
  | k + 1, had, b, p, y, h => by
    unfold manyB at h
    obtain ⟨q, h0, h⟩ := step_ok h
    obtain ⟨x, h1, h⟩ := step_ok h
    obtain ⟨l, h2, h⟩ := step_ok h
    cases h
    unfold oneMB at h1
    obtain ⟨w, h3, h1⟩ := step_ok h1
    cases h1
    have e0 := endsIn_place h0
    have e1 := oneMBond_place h3
    have i1 := bonds_places h2
    simp only at i1 ⊢
    intro i z hz
    cases i with
    | zero =>
      cases hz
      simp only
      omega
    | succ i =>
      have := i1 i z (by simpa using hz)
      omega
theorem markIn_place : ∀ {m b : Bytes} {p : Nat} {y : Bytes × Nat}, markIn m b p = .ok y → y.2 = p + m.length
  | [], b, p, y, h => by cases h; rfl
  | c :: m, b, p, y, h => by
    unfold markIn at h
    obtain ⟨x, h1, h⟩ := step_ok h
    obtain ⟨u, h2, h⟩ := step_ok h
    have e := markIn_place h
    have := (numIn_ok h1).2.2.2.2
    simp only [List.length_cons]
    omega
abbrev MItems := List (Atom × Nat) × List (Bond × Nat)
def molOf (y : MItems) : Mol := ⟨y.1.map fun z => z.1, y.2.map fun z => z.1⟩
def badH (M : Mol) (z : (Atom × Nat) × Nat) : Bool := z.1.1.hand != 0 && !M.handed z.2
def badS (M : Mol) (z : (Bond × Nat) × Nat) : Bool := z.1.1.side != 0 && !M.sided z.2
def fromS (M : Mol) (l : List ((Bond × Nat) × Nat)) : Except Fault Mol := match l.find? (badS M) with
  | some z => .error ⟨6, z.1.2⟩
  | none => .ok M
def fromH (M : Mol) (l : List ((Atom × Nat) × Nat)) (m : List ((Bond × Nat) × Nat)) : Except Fault Mol := match l.find? (badH M) with
  | some z => .error ⟨4, z.1.2⟩
  | none => fromS M m
theorem fromH_cons (M : Mol) (z : (Atom × Nat) × Nat) (l : List ((Atom × Nat) × Nat)) (m : List ((Bond × Nat) × Nat)) : fromH M (z :: l) m = if badH M z = true then .error ⟨4, z.1.2⟩ else fromH M l m := by
  unfold fromH
  rw [List.find?_cons]
  cases badH M z <;> rfl
theorem fromS_cons (M : Mol) (z : (Bond × Nat) × Nat) (l : List ((Bond × Nat) × Nat)) : fromS M (z :: l) = if badS M z = true then .error ⟨6, z.1.2⟩ else fromS M l := by
  unfold fromS
  rw [List.find?_cons]
  cases badS M z <;> rfl
theorem find_range {α : Type} (l : List α) (f : Nat → Bool) (g : α × Nat → Bool) (h : ∀ i x, l[i]? = some x → f i = g (x, i)) : (List.range l.length).find? f = (l.zipIdx.find? g).map (·.2) := by
  have e : List.range l.length = l.zipIdx.map (·.2) := by
    rw [List.zipIdx_map_snd, List.range'_eq_map_range]
    simp
  rw [e, List.find?_map]
  congr 1
  have : ∀ m : List (α × Nat), (∀ z ∈ m, l[z.2]? = some z.1) → m.find? (f ∘ fun z => z.2) = m.find? g := by
    intro m
    induction m with
    | nil => intro _; rfl
    | cons z m ih =>
      intro hm
      rw [List.find?_cons, List.find?_cons, ih fun w hw => hm w (by simp [hw])]
      have : (f ∘ fun z : α × Nat => z.2) z = g z := h z.2 z.1 (hm z (by simp))
      rw [this]
  exact this _ fun z hz => by
    have := List.mem_zipIdx hz
    simp at this
    rw [List.getElem?_eq_getElem (by omega)]
    exact congrArg some this.2.symm
theorem judgeMol_eq (b : Bytes) : judgeMol b =
    andThen (markIn MOLMARK b 0) fun m =>
    andThen (numIn 1 (fun v => decide (v ≤ ATOMS)) m.1 m.2) fun n =>
    andThen (numIn 1 (fun v => decide (v ≤ BONDS)) n.2.1 n.2.2) fun k =>
    andThen (many oneMA n.1 k.2.1 k.2.2) fun x =>
    andThen (manyB n.1 oneMB k.1 none x.2.1 x.2.2) fun y =>
    andThen (need y.2.1.isEmpty 7 y.2.2) fun _ => fromH (molOf (x.1, y.1)) x.1.zipIdx y.1.zipIdx := by
  unfold judgeMol
  simp only [mark_eq, atomsIn_eq, bondsIn_eq]
  refine andThen_congr rfl fun m hm => andThen_congr rfl fun n hn => andThen_congr rfl fun k hk => ?_
  rw [many_tag, andThen_assoc]
  refine andThen_congr rfl fun x hx => ?_
  rw [andThen_ok, manyB_tag, andThen_assoc]
  show andThen (manyB n.1 oneMB k.1 none x.2.1 x.2.2) _ = _
  refine andThen_congr rfl fun y hy => ?_
  rw [andThen_ok]
  refine andThen_congr rfl fun _ _ => ?_
  have pl : k.2.2 = 6 := by
    have h1 := markIn_place hm
    have h2 := (numIn_ok hn).2.2.2.2
    have h3 := (numIn_ok hk).2.2.2.2
    have : MOLMARK.length = 4 := rfl
    omega
  obtain ⟨pa, pe⟩ := atoms_places hx
  have pb := bonds_places hy
  have hlen := many_length hx
  show (match (List.range (molOf (x.1, y.1)).n).find? fun v => ((molOf (x.1, y.1)).atom v).hand != 0 && !(molOf (x.1, y.1)).handed v with
    | some v => Except.error (⟨4, 6 + 6 * v + 5⟩ : Fault)
    | none => match (List.range (molOf (x.1, y.1)).bonds.length).find? fun j => ((molOf (x.1, y.1)).bonds[j]?.map Bond.side).getD 0 != 0 && !(molOf (x.1, y.1)).sided j with
      | some j => .error ⟨6, 6 + 6 * (molOf (x.1, y.1)).n + 4 * j + 3⟩
      | none => .ok (molOf (x.1, y.1))) = _
  have en : (molOf (x.1, y.1)).n = x.1.length := by simp [molOf, Mol.n]
  have eb : (molOf (x.1, y.1)).bonds.length = y.1.length := by simp [molOf]
  rw [en, eb, find_range x.1 _ (badH (molOf (x.1, y.1))) fun i z hz => by
    have e : (molOf (x.1, y.1)).atom i = z.1 := by simp [Mol.atom, molOf, List.getD, hz]
    unfold badH
    rw [e], find_range y.1 _ (badS (molOf (x.1, y.1))) fun i z hz => by
    have e : (molOf (x.1, y.1)).bonds[i]? = some z.1 := by simp [molOf, hz]
    unfold badS
    rw [e]
    rfl]
  unfold fromH fromS
  cases h1 : x.1.zipIdx.find? (badH (molOf (x.1, y.1))) with
  | some z =>
    have hm := List.mem_zipIdx (List.mem_of_find?_eq_some h1)
    simp at hm
    have := pa z.2 z.1 (by rw [List.getElem?_eq_getElem (by omega)]; exact congrArg some hm.2.symm)
    simp only [Option.map_some]
    rw [this, pl]
  | none =>
    simp only [Option.map_none]
    cases h2 : y.1.zipIdx.find? (badS (molOf (x.1, y.1))) with
    | some z =>
      have hm := List.mem_zipIdx (List.mem_of_find?_eq_some h2)
      simp at hm
      have := pb z.2 z.1 (by rw [List.getElem?_eq_getElem (by omega)]; exact congrArg some hm.2.symm)
      simp only [Option.map_some]
      rw [this, pe, pl, hlen]
    | none => rfl
def mends (z : Bond × Nat) : Nat × Nat := (z.1.a, z.1.b)
theorem oneMB_ends (q : Nat × Nat) (b : Bytes) (p : Nat) (x : (Bond × Nat) × Bytes × Nat) (h : oneMB q b p = .ok x) : mends x.1 = q := by
  unfold oneMB at h
  obtain ⟨w, h3, h⟩ := step_ok h
  cases h
  unfold oneMBond at h3
  obtain ⟨a1, h1, h3⟩ := step_ok h3
  obtain ⟨a2, h2, h3⟩ := step_ok h3
  cases h3
  rfl
theorem mbeside_nbrs {M : Mol} (h : Rising M.n (M.bonds.map fun x => (x.a, x.b))) (v : Nat) : M.beside v = nbrs (M.bonds.map fun x => (x.a, x.b)) v := by
  unfold Mol.beside
  refine nbrs_filter h v _ fun w => ?_
  rw [List.any_map]
  unfold Mol.joined Mol.bond
  rw [Bool.eq_iff_iff, List.find?_isSome, List.any_eq_true]
  rfl
end JM
namespace JM
open Fk
abbrev Ways := List ((Nat × Nat) × Nat)
def touch (q : Nat × Nat) (v : Nat) : Bool := q.1 == v || q.2 == v
def csum (z : Ways) (v : Nat) : Nat := (z.map fun x => if touch x.1 v = true then x.2 else 0).sum
theorem csum_nil (v : Nat) : csum [] v = 0 := rfl
theorem csum_cons (x : (Nat × Nat) × Nat) (z : Ways) (v : Nat) : csum (x :: z) v = (if touch x.1 v = true then x.2 else 0) + csum z v := by simp [csum]
theorem csum_append (y z : Ways) (v : Nat) : csum (y ++ z) v = csum y v + csum z v := by simp [csum]
def beh (bs : List (Nat × Nat)) (v : Nat) : Nat := (bs.filter fun q => touch q v).length
theorem beh_cons (q : Nat × Nat) (bs : List (Nat × Nat)) (v : Nat) : beh (q :: bs) v = (if touch q v = true then 1 else 0) + beh bs v := by
  unfold beh
  rw [List.filter_cons]
  cases touch q v <;> simp
  omega
def All3 (z : Ways) : Prop := ∀ x ∈ z, 1 ≤ x.2 ∧ x.2 ≤ 3
theorem csum_bounds : ∀ {z : Ways}, All3 z → ∀ v, beh (z.map fun x => x.1) v ≤ csum z v ∧ csum z v ≤ 3 * beh (z.map fun x => x.1) v
  | [], _, v => by simp [beh, csum]
  | x :: z, h, v => by
    have ih := csum_bounds (z := z) (fun y hy => h y (by simp [hy])) v
    have hx := h x (by simp)
    rw [List.map_cons, beh_cons, csum_cons]
    cases touch x.1 v with
    | true => simp only [if_true]; omega
    | false => simp only [Bool.false_eq_true, if_false]; omega
def less (s : List Int) (q : Nat × Nat) (o : Nat) : List Int := (s.modify q.1 (· - (o : Int))).modify q.2 (· - (o : Int))
theorem less_len (s : List Int) (q : Nat × Nat) (o : Nat) : (less s q o).length = s.length := by simp [less]
theorem less_get {s : List Int} {q : Nat × Nat} (hq : q.1 < q.2) (o v : Nat) : (less s q o)[v]? = (s[v]?).map fun x => if touch q v = true then x - (o : Int) else x := by
  unfold less touch
  rw [List.getElem?_modify, List.getElem?_modify]
  by_cases h1 : q.1 = v
  · have h2 : ¬ q.2 = v := by omega
    cases s[v]? <;> simp [h1, h2]
  · by_cases h2 : q.2 = v
    · cases s[v]? <;> simp [h1, h2]
    · cases s[v]? <;> simp [h1, h2]
def run (s : List Int) (z : Ways) : List Int := z.foldl (fun s x => less s x.1 x.2) s
theorem run_append (s : List Int) (y z : Ways) : run s (y ++ z) = run (run s y) z := by simp [run]
theorem run_len (s : List Int) (z : Ways) : (run s z).length = s.length := by
  induction z generalizing s with
  | nil => rfl
  | cons x z ih => exact (ih _).trans (less_len _ _ _)
theorem run_get : ∀ {z : Ways} {s : List Int} (_ : ∀ x ∈ z, x.1.1 < x.1.2) (v : Nat), (run s z)[v]? = (s[v]?).map fun x => x - (csum z v : Int)
  | [], s, _, v => by
    show s[v]? = _
    cases s[v]? <;> simp [csum]
  | x :: z, s, h, v => by
    have ih := run_get (z := z) (s := less s x.1 x.2) (fun y hy => h y (by simp [hy])) v
    show (run (less s x.1 x.2) z)[v]? = _
    rw [ih, less_get (h x (by simp)), csum_cons]
    cases s[v]? with
    | none => rfl
    | some u =>
      cases touch x.1 v with
      | true => simp; omega
      | false => simp
structure Valid (n : Nat) (S : List Int) (bs : List (Nat × Nat)) (z : Ways) : Prop where
  of : z.map (fun x => x.1) = bs
  all : All3 z
  sum : ∀ v, v < n → S[v]? = some (csum z v : Int)
def met (left : Int) (k : Nat) : Bool := decide ((k : Int) ≤ left) && decide (left ≤ 3 * (k : Int))
def Lev (S : List Int) (bs : List (Nat × Nat)) : Nat → List Int → Prop
  | 0, s => s = S
  | k + 1, s' => ∃ s q o, Lev S bs k s ∧ bs[k]? = some q ∧ (1 ≤ o ∧ o ≤ 3) ∧ s' = less s q o ∧ met (s'.getD q.1 0) (beh (bs.drop (k + 1)) q.1) = true ∧ met (s'.getD q.2 0) (beh (bs.drop (k + 1)) q.2) = true
def Wel (S : List Int) (bs : List (Nat × Nat)) : Nat → List Int → Prop
  | 0, s => Lev S bs bs.length s
  | j + 1, s => Lev S bs (bs.length - (j + 1)) s ∧ ∃ q o, bs[bs.length - (j + 1)]? = some q ∧ (1 ≤ o ∧ o ≤ 3) ∧ Wel S bs j (less s q o)
def Found (S : List Int) (bs : List (Nat × Nat)) (k o : Nat) : Prop := ∃ s q, Lev S bs k s ∧ bs[k]? = some q ∧ Wel S bs (bs.length - (k + 1)) (less s q o)
section
variable {n : Nat} {S : List Int} {bs : List (Nat × Nat)}
theorem Lev.way : ∀ {k : Nat} {s : List Int}, Lev S bs k s → ∃ z : Ways, z.map (fun x => x.1) = bs.take k ∧ All3 z ∧ s = run S z
  | 0, s, h => ⟨[], by simp, fun x hx => by simp at hx, h⟩
  | k + 1, s', ⟨s, q, o, hL, hq, ho, hs, _⟩ => by
    obtain ⟨z, h1, h2, h3⟩ := hL.way
    refine ⟨z ++ [(q, o)], ?_, ?_, ?_⟩
    · rw [List.map_append, h1, List.take_add_one, hq]
      rfl
    · intro x hx
      rcases List.mem_append.mp hx with hx | hx
      · exact h2 x hx
      · rw [List.mem_singleton.mp hx]; exact ho
    · rw [run_append, ← h3, hs]
      rfl
theorem Lev.len {k : Nat} {s : List Int} (h : Lev S bs k s) : s.length = S.length := by
  obtain ⟨z, _, _, rfl⟩ := h.way
  exact run_len _ _
theorem drop_cons_of {α : Type} {l : List α} {k : Nat} {x : α} (h : l[k]? = some x) : l.drop k = x :: l.drop (k + 1) := by
  obtain ⟨hl, hg⟩ := List.getElem?_eq_some_iff.mp h
  rw [List.drop_eq_getElem_cons hl, hg]
theorem Lev.zero (hr : ∀ q ∈ bs, q.1 < q.2) (hS : ∀ v x, S[v]? = some x → beh bs v = 0 → x = 0) : ∀ {k : Nat} {s : List Int}, Lev S bs k s → ∀ v x, s[v]? = some x → beh (bs.drop k) v = 0 → x = 0
  | 0, s, h, v, x, hx, hb => by
    rw [show s = S from h] at hx
    exact hS v x hx (by simpa using hb)
  | k + 1, s', ⟨s, q, o, hL, hq, ho, hs, m1, m2⟩, v, x, hx, hb => by
    have hlt : q.1 < q.2 := hr q (List.mem_of_getElem? hq)
    by_cases t1 : q.1 = v
    · have e : s'.getD q.1 0 = x := by rw [List.getD, t1, hx]; rfl
      rw [e, t1, hb] at m1
      unfold met at m1
      simp only [Bool.and_eq_true, decide_eq_true_eq] at m1
      omega
    · by_cases t2 : q.2 = v
      · have e : s'.getD q.2 0 = x := by rw [List.getD, t2, hx]; rfl
        rw [e, t2, hb] at m2
        unfold met at m2
        simp only [Bool.and_eq_true, decide_eq_true_eq] at m2
        omega
      · have ht : touch q v = false := by simp [touch, t1, t2]
        rw [hs, less_get hlt, ht] at hx
        cases hy : s[v]? with
        | none => rw [hy] at hx; cases hx
        | some y =>
          rw [hy] at hx
          have e : y = x := by simpa using hx
          subst e
          refine Lev.zero hr hS hL v y hy ?_
          rw [drop_cons_of hq, beh_cons, ht, hb]
          rfl
theorem Wel.way : ∀ {j : Nat} {s : List Int}, j ≤ bs.length → Wel S bs j s → ∃ z : Ways, z.map (fun x => x.1) = bs.drop (bs.length - j) ∧ All3 z ∧ Lev S bs bs.length (run s z)
  | 0, s, _, h => ⟨[], by simp, fun x hx => by simp at hx, h⟩
  | j + 1, s, hj, ⟨_, q, o, hq, ho, hW⟩ => by
    obtain ⟨z, h1, h2, h3⟩ := hW.way (by omega)
    refine ⟨(q, o) :: z, ?_, ?_, h3⟩
    · rw [List.map_cons, h1, drop_cons_of hq, show bs.length - (j + 1) + 1 = bs.length - j by omega]
    · intro x hx
      rcases List.mem_cons.mp hx with hx | hx
      · rw [hx]; exact ho
      · exact h2 x hx
theorem found_valid (hr : ∀ q ∈ bs, q.1 < q.2) (hn : S.length = n) (hS : ∀ v x, S[v]? = some x → beh bs v = 0 → x = 0) {k o : Nat} (ho : 1 ≤ o ∧ o ≤ 3) (h : Found S bs k o) : ∃ z, Valid n S bs z ∧ (z[k]?).map (fun x => x.2) = some o := by
  obtain ⟨s, q, hL, hq, hW⟩ := h
  have hk : k < bs.length := (List.getElem?_eq_some_iff.mp hq).1
  obtain ⟨y, y1, y2, y3⟩ := hL.way
  obtain ⟨z, z1, z2, z3⟩ := hW.way (by omega)
  have yl : y.length = k := by
    have := congrArg List.length y1
    simp at this
    omega
  have e : (y ++ (q, o) :: z).map (fun x => x.1) = bs := by
    rw [List.map_append, List.map_cons, y1, z1, show bs.length - (bs.length - (k + 1)) = k + 1 by omega]
    show bs.take k ++ q :: bs.drop (k + 1) = bs
    rw [← drop_cons_of hq, List.take_append_drop]
  have er : run S (y ++ (q, o) :: z) = run (less s q o) z := by
    rw [run_append, ← y3]
    rfl
  have hlt : ∀ x ∈ y ++ (q, o) :: z, x.1.1 < x.1.2 := fun x hx => hr x.1 (by rw [← e]; exact List.mem_map_of_mem hx)
  refine ⟨y ++ (q, o) :: z, ⟨e, ?_, fun v hv => ?_⟩, ?_⟩
  · intro x hx
    rcases List.mem_append.mp hx with hx | hx
    · exact y2 x hx
    · rcases List.mem_cons.mp hx with hx | hx
      · rw [hx]; exact ho
      · exact z2 x hx
  · have g := run_get (s := S) hlt v
    have hSv : S[v]? = some S[v] := List.getElem?_eq_getElem (by omega)
    rw [er, hSv] at g
    have h0 : S[v] - (csum (y ++ (q, o) :: z) v : Int) = 0 := z3.zero hr hS v _ g (by simp [beh])
    rw [hSv]
    congr 1
    omega
  · rw [List.getElem?_append_right (by omega), yl, Nat.sub_self]
    rfl
theorem Valid.at {z : Ways} (h : Valid n S bs z) {k : Nat} {x : (Nat × Nat) × Nat} (hz : z[k]? = some x) : bs[k]? = some x.1 := by
  have := congrArg (fun l => l[k]?) h.of
  simp only [List.getElem?_map, hz] at this
  exact this.symm
theorem valid_lev (hr : ∀ q ∈ bs, q.1 < q.2 ∧ q.2 < n) (hn : S.length = n) {z : Ways} (h : Valid n S bs z) : ∀ k, k ≤ bs.length → Lev S bs k (run S (z.take k))
  | 0, _ => rfl
  | k + 1, hk => by
    have ih := valid_lev hr hn h k (by omega)
    have zl : z.length = bs.length := by rw [← h.of]; simp
    have hz : z[k]? = some z[k] := List.getElem?_eq_getElem (by omega)
    have hq : bs[k]? = some z[k].1 := h.at hz
    have hlt := hr _ (List.mem_of_getElem? hq)
    have e : run S (z.take (k + 1)) = less (run S (z.take k)) z[k].1 z[k].2 := by
      rw [List.take_add_one, hz, run_append]
      rfl
    have a3 := h.all z[k] (List.getElem_mem _)
    have hm : ∀ v, v < n → met ((run S (z.take (k + 1))).getD v 0) (beh (bs.drop (k + 1)) v) = true := fun v hv => by
      have g := run_get (s := S) (z := z.take (k + 1)) (fun x hx => (hr x.1 (by rw [← h.of]; exact List.mem_map_of_mem (List.mem_of_mem_take hx))).1) v
      rw [h.sum v hv] at g
      have c : csum z v = csum (z.take (k + 1)) v + csum (z.drop (k + 1)) v := by rw [← csum_append, List.take_append_drop]
      have b := csum_bounds (z := z.drop (k + 1)) (fun x hx => h.all x (List.mem_of_mem_drop hx)) v
      rw [List.map_drop, h.of] at b
      have e : (run S (z.take (k + 1))).getD v 0 = (csum z v : Int) - (csum (z.take (k + 1)) v : Int) := by
        rw [List.getD, g]; rfl
      rw [e]
      unfold met
      simp only [Bool.and_eq_true, decide_eq_true_eq]
      omega
    exact ⟨_, z[k].1, z[k].2, ih, hq, a3, e, hm _ (by omega), hm _ (by omega)⟩
theorem valid_wel (hr : ∀ q ∈ bs, q.1 < q.2 ∧ q.2 < n) (hn : S.length = n) {z : Ways} (h : Valid n S bs z) : ∀ j, j ≤ bs.length → Wel S bs j (run S (z.take (bs.length - j)))
  | 0, _ => by
    have := valid_lev hr hn h bs.length (Nat.le_refl _)
    exact this
  | j + 1, hj => by
    have ih := valid_wel hr hn h j (by omega)
    have zl : z.length = bs.length := by rw [← h.of]; simp
    have hz : z[bs.length - (j + 1)]? = some z[bs.length - (j + 1)] := List.getElem?_eq_getElem (by omega)
    have hq : bs[bs.length - (j + 1)]? = some z[bs.length - (j + 1)].1 := h.at hz
    refine ⟨valid_lev hr hn h _ (by omega), _, z[bs.length - (j + 1)].2, hq, h.all _ (List.getElem_mem _), ?_⟩
    have e : run S (z.take (bs.length - j)) = less (run S (z.take (bs.length - (j + 1)))) z[bs.length - (j + 1)].1 z[bs.length - (j + 1)].2 := by
      rw [show bs.length - j = bs.length - (j + 1) + 1 by omega, List.take_add_one, hz, run_append]
      rfl
    rw [← e]
    exact ih
theorem valid_found (hr : ∀ q ∈ bs, q.1 < q.2 ∧ q.2 < n) (hn : S.length = n) {z : Ways} (h : Valid n S bs z) {k o : Nat} (hk : (z[k]?).map (fun x => x.2) = some o) : Found S bs k o := by
  have zl : z.length = bs.length := by rw [← h.of]; simp
  cases hz : z[k]? with
  | none => rw [hz] at hk; cases hk
  | some x =>
    rw [hz] at hk
    have ho : x.2 = o := by simpa using hk
    have hlt : k < z.length := (List.getElem?_eq_some_iff.mp hz).1
    refine ⟨run S (z.take k), x.1, valid_lev hr hn h k (by omega), by rw [← h.of, List.getElem?_map, hz]; rfl, ?_⟩
    have w := valid_wel hr hn h (bs.length - (k + 1)) (by omega)
    rw [show bs.length - (bs.length - (k + 1)) = k + 1 by omega, List.take_add_one, hz, run_append] at w
    rw [← ho]
    exact w
end
end JM
namespace JM
open Fk
theorem addTo_get (l : List Nat) (v n i : Nat) : (addTo l v n)[i]? = (l[i]?).map fun x => if i = v then x + n else x := by
  unfold addTo
  rw [List.getElem?_map, List.getElem?_zipIdx]
  cases l[i]? <;> simp
theorem addTo_len (l : List Nat) (v n : Nat) : (addTo l v n).length = l.length := by simp [addTo]
def bends (x : Bond) : Nat × Nat := (x.a, x.b)
theorem part_get {part : List Nat} {x : Bond} (hx : x.a < x.b) (o v : Nat) (hv : v < part.length) : (addTo (addTo part x.a o) x.b o).getD v 0 = part.getD v 0 + (if touch (bends x) v = true then o else 0) := by
  have e : part[v]? = some part[v] := List.getElem?_eq_getElem hv
  rw [List.getD, List.getD, addTo_get, addTo_get, e]
  unfold touch bends
  by_cases h1 : x.a = v
  · have h2 : ¬ v = x.b := by omega
    simp [h1, h2]
  · by_cases h2 : x.b = v
    · have h3 : ¬ v = x.a := by omega
      simp [h2, h3]
    · have h3 : ¬ v = x.a := by omega
      have h4 : ¬ v = x.b := by omega
      simp [h1, h2, h3, h4]
theorem zip_fst {α β : Type} : ∀ (l : List α) (r : List β), l.length = r.length → (l.zip r).map (fun x => x.1) = l
  | [], [], _ => rfl
  | [], _ :: _, h => by simp at h
  | _ :: _, [], h => by simp at h
  | a :: l, b :: r, h => by simp [zip_fst l r (by simpa using h)]
theorem zip_snd {α β : Type} : ∀ (l : List α) (r : List β), l.length = r.length → (l.zip r).map (fun x => x.2) = r
  | [], [], _ => rfl
  | [], _ :: _, h => by simp at h
  | _ :: _, [], h => by simp at h
  | a :: l, b :: r, h => by simp [zip_snd l r (by simpa using h)]
theorem zip_all {l : List (Nat × Nat)} {r : List Nat} (h : ∀ o ∈ r, 1 ≤ o ∧ o ≤ 3) : All3 (l.zip r) := fun x hx => h x.2 (List.of_mem_zip hx).2
theorem beh_at (l : List Bond) (v : Nat) : beh (l.map bends) v = (l.filter fun x => x.at_ v).length := by
  unfold beh
  rw [List.filter_map, List.length_map]
  rfl
theorem ordersFor_mem (want : List Nat) : ∀ (l : List Bond) (part : List Nat), part.length = want.length → (∀ x ∈ l, x.a < x.b ∧ x.b < want.length) → ∀ r, r ∈ ordersFor want l part ↔
    (r.length = l.length ∧ (∀ o ∈ r, 1 ≤ o ∧ o ≤ 3) ∧ ∀ v, v < want.length → want.getD v 0 = part.getD v 0 + csum ((l.map bends).zip r) v)
  | [], part, hp, _, r => by
    unfold ordersFor
    by_cases h : part = want
    · subst h
      simp [csum]
      rintro rfl
      simp
    · have : (part == want) = false := by simpa using h
      rw [this]
      simp only [Bool.false_eq_true, if_false, List.not_mem_nil, false_iff]
      rintro ⟨h1, _, h3⟩
      have hr : r = [] := List.eq_nil_of_length_eq_zero (by simpa using h1)
      subst hr
      refine h (List.ext_getElem? fun v => ?_)
      by_cases hv : v < want.length
      · have := h3 v hv
        simp only [List.map_nil, List.zip_nil_left, csum_nil] at this
        rw [List.getElem?_eq_getElem hv, List.getElem?_eq_getElem (by omega)]
        rw [List.getD, List.getD, List.getElem?_eq_getElem hv, List.getElem?_eq_getElem (show v < part.length by omega)] at this
        simp only [Option.getD_some] at this
        rw [show part[v] = want[v] by omega]
      · rw [List.getElem?_eq_none (by omega), List.getElem?_eq_none (by omega)]
  | x :: l, part, hp, hx, r => by
    have hxa := hx x (by simp)
    have hl : ∀ y ∈ l, y.a < y.b ∧ y.b < want.length := fun y hy => hx y (by simp [hy])
    unfold ordersFor
    rw [List.mem_flatMap]
    have qlen : ∀ o, (addTo (addTo part x.a o) x.b o).length = want.length := fun o => by rw [addTo_len, addTo_len, hp]
    constructor
    · rintro ⟨o, ho, hr⟩
      have ho' : 1 ≤ o ∧ o ≤ 3 := by
        simp at ho
        omega
      simp only at hr
      split at hr
      · obtain ⟨r', hr', rfl⟩ := List.mem_map.mp hr
        obtain ⟨h1, h2, h3⟩ := (ordersFor_mem want l _ (qlen o) hl r').mp hr'
        refine ⟨by simp [h1], fun y hy => ?_, fun v hv => ?_⟩
        · rcases List.mem_cons.mp hy with hy | hy
          · rw [hy]; exact ho'
          · exact h2 y hy
        · have := h3 v hv
          rw [part_get hxa.1 o v (by omega)] at this
          rw [List.map_cons, List.zip_cons_cons, csum_cons]
          dsimp only
          omega
      · simp at hr
    · rintro ⟨h1, h2, h3⟩
      cases r with
      | nil => simp at h1
      | cons o r' =>
        have ho := h2 o (by simp)
        have h3' : ∀ v, v < want.length → want.getD v 0 = (addTo (addTo part x.a o) x.b o).getD v 0 + csum ((l.map bends).zip r') v := fun v hv => by
          have := h3 v hv
          rw [List.map_cons, List.zip_cons_cons, csum_cons] at this
          rw [part_get hxa.1 o v (by omega)]
          dsimp only at this
          omega
        have hlen : r'.length = l.length := by simpa using h1
        have a3 : ∀ y ∈ r', 1 ≤ y ∧ y ≤ 3 := fun y hy => h2 y (by simp [hy])
        have can : ∀ v, v < want.length → canStill (addTo (addTo part x.a o) x.b o) want l v = true := fun v hv => by
          have b := csum_bounds (z := (l.map bends).zip r') (zip_all a3) v
          rw [zip_fst _ _ (by simp [hlen]), beh_at] at b
          have := h3' v hv
          unfold canStill
          simp only [Bool.and_eq_true, decide_eq_true_eq]
          omega
        refine ⟨o, by simp; omega, ?_⟩
        simp only
        rw [can x.a (by omega), can x.b hxa.2]
        simp only [Bool.and_self, if_true]
        exact List.mem_map.mpr ⟨r', (ordersFor_mem want l _ (qlen o) hl r').mpr ⟨hlen, a3, h3'⟩, rfl⟩
theorem fold_sum : ∀ (l : List Nat) (a : Nat), l.foldl (· + ·) a = a + l.sum
  | [], a => by simp
  | x :: l, a => by rw [List.foldl_cons, fold_sum l, List.sum_cons]; omega
theorem sum_own : ∀ (l : List Bond) (v : Nat), ((l.filter fun x => x.at_ v).map Bond.order).sum = csum ((l.map bends).zip (l.map Bond.order)) v
  | [], v => rfl
  | x :: l, v => by
    have ih := sum_own l v
    rw [List.map_cons, List.map_cons, List.zip_cons_cons, csum_cons, ← ih, List.filter_cons]
    show _ = (if x.at_ v = true then x.order else 0) + _
    cases x.at_ v <;> simp
section
variable {M : Mol}
def MEnds (M : Mol) : List (Nat × Nat) := M.bonds.map bends
def MSums (M : Mol) : List Int := M.sums.map fun (n : Nat) => (n : Int)
theorem msum_own (v : Nat) : M.sum v = csum ((MEnds M).zip M.orders) v := by
  unfold Mol.sum
  rw [fold_sum, Nat.zero_add]
  exact sum_own _ _
theorem sums_get {v : Nat} (hv : v < M.n) : M.sums[v]? = some (M.sum v) := by
  unfold Mol.sums
  rw [List.getElem?_map, List.getElem?_range hv]
  rfl
theorem sums_len : M.sums.length = M.n := by simp [Mol.sums]
theorem msums_len : (MSums M).length = M.n := by simp [MSums, sums_len]
theorem msums_get {v : Nat} (hv : v < M.n) : (MSums M)[v]? = some (M.sum v : Int) := by
  unfold MSums
  rw [List.getElem?_map, sums_get hv]
  rfl
structure GoodM (M : Mol) : Prop where
  ends : ∀ q ∈ MEnds M, q.1 < q.2 ∧ q.2 < M.n
  ords : ∀ x ∈ M.bonds, 1 ≤ x.order ∧ x.order ≤ 3
theorem GoodM.own (g : GoodM M) : Valid M.n (MSums M) (MEnds M) ((MEnds M).zip M.orders) := by
  refine ⟨zip_fst _ _ (by simp [MEnds, Mol.orders]), zip_all fun o ho => ?_, fun v hv => by rw [msums_get hv, msum_own]⟩
  obtain ⟨x, hx, rfl⟩ := List.mem_map.mp ho
  exact g.ords x hx
theorem GoodM.zero (g : GoodM M) : ∀ v x, (MSums M)[v]? = some x → beh (MEnds M) v = 0 → x = 0 := fun v x hx hb => by
  have hv : v < M.n := by rw [← msums_len]; exact (List.getElem?_eq_some_iff.mp hx).1
  rw [g.own.sum v hv] at hx
  have b := csum_bounds g.own.all v
  rw [g.own.of, hb] at b
  have := Option.some.inj hx
  omega
def MRows (M : Mol) : List (List Nat) := M.redrawings.map Mol.orders
theorem ordered_orders {r : List Nat} (h : r.length = M.bonds.length) : (M.ordered r).orders = r := by
  unfold Mol.ordered Mol.orders
  simp only [List.map_map]
  show (M.bonds.zip r).map (fun x => x.2) = r
  exact zip_snd _ _ h.symm
theorem GoodM.rows (g : GoodM M) (r : List Nat) : r ∈ MRows M ↔ r.length = M.bonds.length ∧ Valid M.n (MSums M) (MEnds M) ((MEnds M).zip r) := by
  have e : ∀ r', r' ∈ ordersFor M.sums M.bonds (M.sums.map fun _ => 0) ↔ (r'.length = M.bonds.length ∧ (∀ o ∈ r', 1 ≤ o ∧ o ≤ 3) ∧ ∀ v, v < M.sums.length → M.sums.getD v 0 = (M.sums.map fun _ => 0).getD v 0 + csum ((M.bonds.map bends).zip r') v) :=
    ordersFor_mem _ _ _ (by simp) fun x hx => by rw [sums_len]; exact g.ends (bends x) (List.mem_map_of_mem hx)
  have z : ∀ v, (M.sums.map fun _ => 0).getD v 0 = 0 := fun v => by
    rw [List.getD, List.getElem?_map]
    cases M.sums[v]? <;> rfl
  constructor
  · intro h
    obtain ⟨N, hN, rfl⟩ := List.mem_map.mp h
    obtain ⟨r', hr', rfl⟩ := List.mem_map.mp hN
    obtain ⟨h1, h2, h3⟩ := (e r').mp hr'
    rw [ordered_orders h1]
    refine ⟨h1, zip_fst _ _ (by simp [MEnds, h1]), zip_all h2, fun v hv => ?_⟩
    have := h3 v (by rw [sums_len]; exact hv)
    rw [z, List.getD, sums_get hv] at this
    rw [msums_get hv]
    simp only [Option.getD_some] at this
    rw [this]
    simp [MEnds]
  · rintro ⟨h1, h2⟩
    refine List.mem_map.mpr ⟨M.ordered r, List.mem_map.mpr ⟨r, (e r).mpr ⟨h1, fun o ho => ?_, fun v hv => ?_⟩, rfl⟩, ordered_orders h1⟩
    · have e2 := zip_snd (MEnds M) r (by simp [MEnds, h1])
      rw [← e2] at ho
      obtain ⟨x, hx, rfl⟩ := List.mem_map.mp ho
      exact h2.all x hx
    · rw [sums_len] at hv
      have := h2.sum v hv
      rw [msums_get hv] at this
      rw [z, List.getD, sums_get hv]
      have := Option.some.inj this
      simp only [Option.getD_some]
      show M.sum v = 0 + csum ((MEnds M).zip r) v
      omega
theorem GoodM.found (g : GoodM M) {k o : Nat} (hk : k < M.bonds.length) (ho : 1 ≤ o ∧ o ≤ 3) : Found (MSums M) (MEnds M) k o ↔ ∃ r ∈ MRows M, r[k]? = some o := by
  constructor
  · intro h
    obtain ⟨z, hz, hk'⟩ := found_valid (fun q hq => (g.ends q hq).1) msums_len g.zero ho h
    have zl : z.length = M.bonds.length := by
      have := congrArg List.length hz.of
      simpa [MEnds] using this
    have ez : (MEnds M).zip (z.map fun x => x.2) = z := by
      rw [← hz.of, List.zip_map']
      simp
    refine ⟨z.map fun x => x.2, (g.rows _).mpr ⟨by simp [zl], by rw [ez]; exact hz⟩, ?_⟩
    rw [List.getElem?_map]
    exact hk'
  · rintro ⟨r, hr, hk'⟩
    obtain ⟨h1, h2⟩ := (g.rows r).mp hr
    refine valid_found g.ends msums_len h2 ?_
    have e2 := zip_snd (MEnds M) r (by simp [MEnds, h1])
    rw [← List.getElem?_map, e2]
    exact hk'
noncomputable def bits3 (P : Nat → Prop) : Nat := by
  classical exact (if P 1 then 1 else 0) + (if P 2 then 2 else 0) + (if P 3 then 4 else 0)
theorem bits3_two (P : Nat → Prop) : bits3 P = 2 ↔ ¬ P 1 ∧ P 2 ∧ ¬ P 3 := by
  unfold bits3
  by_cases h1 : P 1 <;> by_cases h2 : P 2 <;> by_cases h3 : P 3 <;> simp [h1, h2, h3]
theorem GoodM.fixed (g : GoodM M) {k : Nat} (hk : k < M.bonds.length) : (M.fixedAt k == 2) = decide (bits3 (Found (MSums M) (MEnds M) k) = 2) := by
  have hx : M.bonds[k]? = some M.bonds[k] := List.getElem?_eq_getElem hk
  have own : M.orders ∈ MRows M := (g.rows _).mpr ⟨by simp [Mol.orders], g.own⟩
  have ok : M.orders[k]? = some M.bonds[k].order := by unfold Mol.orders; rw [List.getElem?_map, hx]; rfl
  have e : M.fixedAt k = if ((MRows M).all fun r => r[k]? == some M.bonds[k].order) = true then M.bonds[k].order else 0 := by
    unfold Mol.fixedAt Mol.fixed
    simp only
    rw [List.getD, List.getElem?_map, List.getElem?_zipIdx, hx]
    simp only [Option.map_some, Option.getD_some, Nat.zero_add]
    rfl
  rw [Bool.eq_iff_iff, beq_iff_eq, decide_eq_true_eq, bits3_two, g.found hk (by omega), g.found hk (by omega), g.found hk (by omega), e]
  have b3 := g.ords _ (List.getElem_mem hk)
  constructor
  · intro h
    split at h
    · rename_i ha
      rw [List.all_eq_true] at ha
      have ha' : ∀ r ∈ MRows M, r[k]? = some 2 := fun r hr => by
        have := ha r hr
        rw [h] at this
        simpa using this
      have no : ∀ o, o ≠ 2 → ¬ ∃ r, r ∈ MRows M ∧ r[k]? = some o := fun o ho ⟨r, hr, q⟩ => by
        rw [ha' r hr] at q
        exact ho (Option.some.inj q).symm
      exact ⟨no 1 (by decide), ⟨_, own, by rw [ok, h]⟩, no 3 (by decide)⟩
    · omega
  · rintro ⟨n1, _, n3⟩
    have all2 : ∀ r ∈ MRows M, r[k]? = some 2 := fun r hr => by
      obtain ⟨h1, h2⟩ := (g.rows r).mp hr
      have hrk : r[k]? = some r[k] := List.getElem?_eq_getElem (by omega)
      have : 1 ≤ r[k] ∧ r[k] ≤ 3 := by
        have e2 := zip_snd (MEnds M) r (by simp [MEnds, h1])
        have hm : r[k] ∈ ((MEnds M).zip r).map fun x => x.2 := e2.symm ▸ List.getElem_mem (by omega)
        obtain ⟨x, hx', q⟩ := List.mem_map.mp hm
        rw [← q]
        exact h2.all x hx'
      have c1 : r[k] ≠ 1 := fun q => n1 ⟨r, hr, by rw [hrk, q]⟩
      have c3 : r[k] ≠ 3 := fun q => n3 ⟨r, hr, by rw [hrk, q]⟩
      rw [hrk, show r[k] = 2 by omega]
    have o2 : M.bonds[k].order = 2 := by
      have := all2 _ own
      rw [ok] at this
      exact Option.some.inj this
    rw [if_pos, o2]
    rw [List.all_eq_true]
    intro r hr
    rw [all2 r hr, o2]
    rfl
theorem GoodM.mays (g : GoodM M) {k : Nat} (hk : k < M.bonds.length) : orderBits (M.mays.getD k []) = bits3 (Found (MSums M) (MEnds M) k) := by
  have e : M.mays.getD k [] = [1, 2, 3].filter fun o => (MRows M).any fun r => r[k]? == some o := by
    unfold Mol.mays
    simp only
    rw [List.getD, List.getElem?_map, List.getElem?_range hk]
    rfl
  have f : ∀ o, 1 ≤ o ∧ o ≤ 3 → (((MRows M).any fun r => r[k]? == some o) = true ↔ Found (MSums M) (MEnds M) k o) := fun o ho => by
    rw [g.found hk ho, List.any_eq_true]
    simp
  have f1 := f 1 (by omega)
  have f2 := f 2 (by omega)
  have f3 := f 3 (by omega)
  rw [e]
  unfold bits3 orderBits
  rw [List.filter_cons, List.filter_cons, List.filter_cons]
  by_cases h1 : Found (MSums M) (MEnds M) k 1 <;> by_cases h2 : Found (MSums M) (MEnds M) k 2 <;> by_cases h3 : Found (MSums M) (MEnds M) k 3 <;> simp [h1, h2, h3, f1, f2, f3]
end
end JM
namespace MP
open PySem PySem.Spec PyProof.Rows L2
open XL (excTail)
open Fk (Fault Bytes numIn need andThen Atom Bond Mol)
def mafs (a : Atom) : List (Str × V) := [("element", .int (a.element : Int)), ("isotope", .int (a.isotope : Int)), ("charge", .int (a.charge + 4)), ("hydrogens", .int (a.hydrogens : Int)), ("hand", .int (a.hand : Int))]
def mbfs (x : Bond) : List (Str × V) := [("a", .int (x.a : Int)), ("b", .int (x.b : Int)), ("order", .int (x.order : Int)), ("side", .int (x.side : Int))]
def RepMA (C : Addr) : RepT (Atom × Nat) := fun D H v z => ∃ o dx, v = .ref o ∧ D o ∧ H o = some (.ins C dx (mafs z.1))
theorem RepMA.ok (C : Addr) : RepOk (RepMA C) := ⟨fun ⟨o, dx, e, d, h⟩ k => ⟨o, dx, e, d, k _ _ d h⟩, fun ⟨o, dx, e, d, h⟩ k => ⟨o, dx, e, k _ d, h⟩⟩
def RepMB (C : Addr) : RepT (Bond × Nat) := fun D H v z => ∃ o dx, v = .ref o ∧ D o ∧ H o = some (.ins C dx (mbfs z.1))
theorem RepMB.ok (C : Addr) : RepOk (RepMB C) := ⟨fun ⟨o, dx, e, d, h⟩ k => ⟨o, dx, e, d, k _ _ d h⟩, fun ⟨o, dx, e, d, h⟩ k => ⟨o, dx, e, k _ d, h⟩⟩
section
variable {P : Program} {w : World} {K : PySem.W.Frag} {mg : Str → Option Value} {base : Heap} {t : Ad}
def spMAInit (C : Addr) : Sp := fun vs H Q _ => ∃ (o dx : Addr) (a : Atom), vs = [.ref o, .int (a.element : Int), .int (a.isotope : Int), .int (a.charge + 4), .int (a.hydrogens : Int), .int (a.hand : Int)] ∧ H o = some (.ins C dx []) ∧
  ∀ H', H' o = some (.ins C dx (mafs a)) → Frm [o] H H' → Q .non H'
theorem sc_mainit : FnScope ["self", "element", "isotope", "charge", "hydrogens", "hand"] ["self", "element", "isotope", "charge", "hydrogens", "hand"] (defScope s_z4) := ⟨rfl, rfl, rfl, by decide +kernel, rfl, by decide +kernel, by decide +kernel⟩
theorem ok_mainit (T : Txt K mg t) : FnOk P w K mg base CX0 1 t.f_z4 t.d_z4 ["self", "element", "isotope", "charge", "hydrogens", "hand"] (spMAInit t.c_z3) := by
  refine T.F_z4.ok sc_mainit (fun vs H Q E h => ?_) (fun cdv A outer s H vs Q E hr h => ?_)
  · obtain ⟨o, dx, a, rfl, _⟩ := h
    rfl
  · obtain ⟨o, dx, a, rfl, h0, k⟩ := h
    refine ⟨_, pss_cons (ps_fld (pv 0) (pv 1) rfl) (pss_cons (ps_fld (pv 0) (pv 2) rfl) (pss_cons (ps_fld (pv 0) (pv 3) rfl) (pss_cons (ps_fld (pv 0) (pv 4) rfl) (pss_one (ps_fld (pv 0) (pv 5) rfl))))), ?_⟩
    refine ⟨_, rfl, _, rfl, o, _, dx, _, rfl, h0, T.C_z3, T.n_Atom_element, (by show 0 < 1000; decide), ?_⟩
    refine ⟨_, rfl, _, rfl, o, _, dx, _, rfl, upd_same, T.C_z3, T.n_Atom_isotope, (by show 1 < 1000; decide), ?_⟩
    refine ⟨_, rfl, _, rfl, o, _, dx, _, rfl, upd_same, T.C_z3, T.n_Atom_charge, (by show 2 < 1000; decide), ?_⟩
    refine ⟨_, rfl, _, rfl, o, _, dx, _, rfl, upd_same, T.C_z3, T.n_Atom_hydrogens, (by show 3 < 1000; decide), ?_⟩
    refine ⟨_, rfl, _, rfl, o, _, dx, _, rfl, upd_same, T.C_z3, T.n_Atom_hand, (by show 4 < 1000; decide), ?_⟩
    refine k _ upd_same fun b u e n => ?_
    have nb : b ≠ o := by simpa using n
    simp only [upd_upd]
    rw [upd_ne nb]
    exact e
def spMBInit (C : Addr) : Sp := fun vs H Q _ => ∃ (o dx p : Addr) (x : Bond), vs = [.ref o, .ref p, .int (x.order : Int), .int (x.side : Int)] ∧ H o = some (.ins C dx []) ∧
  H p = some (.tup [.int (x.a : Int), .int (x.b : Int)]) ∧ ∀ H', H' o = some (.ins C dx (mbfs x)) → Frm [o] H H' → Q .non H'
theorem sc_mbinit : FnScope ["self", "pair", "order", "side"] ["self", "pair", "order", "side"] (defScope s_z6) := ⟨rfl, rfl, rfl, by decide +kernel, rfl, by decide +kernel, by decide +kernel⟩
theorem ok_mbinit (T : Txt K mg t) : FnOk P w K mg base CX0 1 t.f_z6 t.d_z6 ["self", "pair", "order", "side"] (spMBInit t.c_z5) := by
  refine T.F_z6.ok sc_mbinit (fun vs H Q E h => ?_) (fun cdv A outer s H vs Q E hr h => ?_)
  · obtain ⟨o, dx, p, x, rfl, _⟩ := h
    rfl
  · obtain ⟨o, dx, p, z, rfl, h0, hp, k⟩ := h
    refine ⟨_, pss_cons (ps_fld (pv 0) (pe_ix ix_tup (pv 1) pe_int (fun _ _ => rfl)) rfl) (pss_cons (ps_fld (pv 0) (pe_ix ix_tup (pv 1) pe_int (fun _ _ => rfl)) rfl) (pss_cons (ps_fld (pv 0) (pv 2) rfl) (pss_one (ps_fld (pv 0) (pv 3) rfl)))), ?_⟩
    have po : p ≠ o := ne_of hp h0 (by intro z; cases z)
    refine ⟨_, rfl, p, _, _, _, rfl, rfl, SqT.of hp, rfl, _, rfl, o, _, dx, _, rfl, h0, T.C_z5, T.n_Bond_a, (by show 0 < 1000; decide), ?_⟩
    refine ⟨_, rfl, p, _, _, _, rfl, rfl, SqT.of (by rw [upd_ne po]; exact hp), rfl, _, rfl, o, _, dx, _, rfl, upd_same, T.C_z5, T.n_Bond_b, (by show 1 < 1000; decide), ?_⟩
    refine ⟨_, rfl, _, rfl, o, _, dx, _, rfl, upd_same, T.C_z5, T.n_Bond_order, (by show 2 < 1000; decide), ?_⟩
    refine ⟨_, rfl, _, rfl, o, _, dx, _, rfl, upd_same, T.C_z5, T.n_Bond_side, (by show 3 < 1000; decide), ?_⟩
    refine k _ upd_same fun b u e n => ?_
    have nb : b ≠ o := by simpa using n
    simp only [upd_upd]
    rw [upd_ne nb]
    exact e
theorem sc_tma : FnScope ["reader", "element", "isotope", "charge", "hydrogens", "hand"] ["reader"] (defScope s_z79) := ⟨rfl, rfl, rfl, by decide +kernel, rfl, by decide +kernel, by decide +kernel⟩
theorem ok_tma (T : Txt K mg t) : FnOk P w K mg base (CXF P w) 6 t.f_z79 t.d_z79 ["reader"] (spOne K t.c_z40 t.c_z11 JM.oneMA (RepMA t.c_z3)) := by
  have GB : FnOk P w K mg base (CXF P w) 5 t.f_z44 t.d_z44 ["self", "size", "least", "greatest"] (spBetween K t.c_z40 t.c_z11) := ok_between T
  have GI : FnOk P w K mg base CX0 1 t.f_z4 t.d_z4 ["self", "element", "isotope", "charge", "hydrogens", "hand"] (spMAInit t.c_z3) := ok_mainit T
  obtain ⟨tk1, g1⟩ := T.k_z25
  obtain ⟨tk2, g2⟩ := T.k_z28
  obtain ⟨tk3, g3⟩ := T.k_z24
  obtain ⟨tk4, g4⟩ := T.k_z27
  obtain ⟨tk5, g5⟩ := T.k_z26
  refine T.F_z79.okF sc_tma (fun vs H Q E h => ?_) (fun cdv A outer s H vs Q E hr h => ?_)
  · obtain ⟨r, x, rfl, _⟩ := h
    rfl
  · obtain ⟨r, x, rfl, R, ans⟩ := h
    have hr2 : Room 2 _ := hr.mono (by decide)
    have hr5 : Room 5 _ := hr.mono (by decide)
    refine ⟨_, pss_cons (ps_set (i := 1) sc_tma.nd rfl (Or.inl rfl) (pe_meth (pv 0) T.C_z40 T.M_z44 GB hr5 T.B_z44 .nil passF (pa_cons pe_int (pa_cons pe_int (pa_cons (pe_glob rfl g1 (v := .int 118) ⟨_, rfl⟩) pa_nil)))))
      (pss_cons (ps_set (i := 2) sc_tma.nd rfl (Or.inl rfl) (pe_meth (pv 0) T.C_z40 T.M_z44 GB hr5 T.B_z44 .nil passF (pa_cons pe_int (pa_cons pe_int (pa_cons (pe_glob rfl g2 (v := .int 500) ⟨_, rfl⟩) pa_nil)))))
      (pss_cons (ps_set (i := 3) sc_tma.nd rfl (Or.inl rfl) (pe_meth (pv 0) T.C_z40 T.M_z44 GB hr5 T.B_z44 .nil passF (pa_cons pe_int (pa_cons pe_int (pa_cons (pe_glob rfl g3 (v := .int 8) ⟨_, rfl⟩) pa_nil)))))
      (pss_cons (ps_set (i := 4) sc_tma.nd rfl (Or.inl rfl) (pe_meth (pv 0) T.C_z40 T.M_z44 GB hr5 T.B_z44 .nil passF (pa_cons pe_int (pa_cons pe_int (pa_cons (pe_glob rfl g4 (v := .int 7) ⟨_, rfl⟩) pa_nil)))))
      (pss_cons (ps_set (i := 5) sc_tma.nd rfl (Or.inl rfl) (pe_meth (pv 0) T.C_z40 T.M_z44 GB hr5 T.B_z44 .nil passF (pa_cons pe_int (pa_cons pe_int (pa_cons (pe_glob rfl g5 (v := .int 2) ⟨_, rfl⟩) pa_nil)))))
      (pss_one (ps_ret (pe_make T.K_z3 GI hr2 rfl T.g_z3 T.B_z4 .nil pass0 (pa_cons (pv 1) (pa_cons (pv 2) (pa_cons (pv 3) (pa_cons (pv 4) (pa_cons (pv 5) pa_nil)))))))))))), ?_⟩
    unfold JM.oneMA JM.oneMAtom at ans
    simp only [JM.andThen_assoc] at ans
    obtain ⟨d0, e0⟩ := R.obj
    refine ⟨_, rfl, r, d0, _, rfl, e0, rfl, ?_⟩
    refine ⟨r, 1, 1, 118, _, rfl, R, .inl rfl, Ans.good (g' := fun v => decide (1 ≤ v) && decide (v ≤ Fk.ELEMENTS)) (fun v => by rw [Bool.eq_iff_iff]; simp only [Bool.and_eq_true, decide_eq_true_eq]; unfold Fk.ELEMENTS; omega) (ans.andThen'.mono fun y1 hy1 ans H1 R1 F1 => ?_)⟩
    obtain ⟨d1, e1⟩ := R1.obj
    refine ⟨_, rfl, r, d1, _, rfl, e1, rfl, ?_⟩
    refine ⟨r, 2, 0, 500, _, rfl, R1, .inr rfl, Ans.good (g' := fun v => decide (v ≤ Fk.ISOTOPE)) (fun v => by rw [Bool.eq_iff_iff]; simp only [Bool.and_eq_true, decide_eq_true_eq]; unfold Fk.ISOTOPE; omega) (ans.andThen'.mono fun y2 hy2 ans H2 R2 F2 => ?_)⟩
    obtain ⟨d2, e2⟩ := R2.obj
    refine ⟨_, rfl, r, d2, _, rfl, e2, rfl, ?_⟩
    refine ⟨r, 1, 0, 8, _, rfl, R2, .inl rfl, Ans.good (g' := fun v => decide (v ≤ 8)) (fun v => by rw [Bool.eq_iff_iff]; simp only [Bool.and_eq_true, decide_eq_true_eq]; omega) (ans.andThen'.mono fun y3 hy3 ans H3 R3 F3 => ?_)⟩
    obtain ⟨d3, e3⟩ := R3.obj
    refine ⟨_, rfl, r, d3, _, rfl, e3, rfl, ?_⟩
    refine ⟨r, 1, 0, 7, _, rfl, R3, .inl rfl, Ans.good (g' := fun v => decide (v ≤ 7)) (fun v => by rw [Bool.eq_iff_iff]; simp only [Bool.and_eq_true, decide_eq_true_eq]; omega) (ans.andThen'.mono fun y4 hy4 ans H4 R4 F4 => ?_)⟩
    obtain ⟨d4, e4⟩ := R4.obj
    refine ⟨_, rfl, r, d4, _, rfl, e4, rfl, ?_⟩
    refine ⟨r, 1, 0, 2, _, rfl, R4, .inl rfl, Ans.good (g' := fun v => decide (v ≤ 2)) (fun v => by rw [Bool.eq_iff_iff]; simp only [Bool.and_eq_true, decide_eq_true_eq]; omega) (ans.andThen'.mono fun y5 hy5 ans H5 R5 F5 => ?_)⟩
    obtain ⟨d5, e5⟩ := R5.obj
    have F : Frm [r] H H5 := (((F1.trans F2).trans F3).trans F4).trans F5
    refine ⟨_, rfl, _, rfl, _, rfl, _, rfl, _, rfl, fun o dx no nd ne => ?_⟩
    refine ⟨o, dx, ⟨y1.1, y2.1, (y3.1 : Int) - 4, y4.1, y5.1⟩, ?_, upd_same, fun H6 h6 F6 => ⟨rfl, ?_⟩⟩
    · simp
    · have F7 : Frm [] H5 H6 := Frm.made no nd F6
      exact ans H6 (.ref o) (R5.stay F7 (by simp) (by simp) (by simp) (by simp)) (F.trans (F7.mono (by simp))) ⟨o, dx, rfl, F.fresh e5 no, h6⟩
theorem sc_tmb : FnScope ["reader", "pair", "order", "side"] ["reader", "pair"] (defScope s_z80) := ⟨rfl, rfl, rfl, by decide +kernel, rfl, by decide +kernel, by decide +kernel⟩
theorem ok_tmb (T : Txt K mg t) : FnOk P w K mg base (CXF P w) 6 t.f_z80 t.d_z80 ["reader", "pair"] (spOneB K t.c_z40 t.c_z11 JM.oneMB (RepMB t.c_z5)) := by
  have GB : FnOk P w K mg base (CXF P w) 5 t.f_z44 t.d_z44 ["self", "size", "least", "greatest"] (spBetween K t.c_z40 t.c_z11) := ok_between T
  have GI : FnOk P w K mg base CX0 1 t.f_z6 t.d_z6 ["self", "pair", "order", "side"] (spMBInit t.c_z5) := ok_mbinit T
  obtain ⟨tk1, g1⟩ := T.k_z18
  obtain ⟨tk2, g2⟩ := T.k_z13
  obtain ⟨tk3, g3⟩ := T.k_z30
  refine T.F_z80.okF sc_tmb (fun vs H Q E h => ?_) (fun cdv A outer s H vs Q E hr h => ?_)
  · obtain ⟨r, p, q, x, rfl, _⟩ := h
    rfl
  · obtain ⟨r, p, q, x, rfl, R, hp, ans⟩ := h
    have hr2 : Room 2 _ := hr.mono (by decide)
    refine ⟨_, pss_cons (ps_set (i := 2) sc_tmb.nd rfl (Or.inl rfl) (pe_meth (pv 0) T.C_z40 T.M_z44 GB hr T.B_z44 .nil passF (pa_cons pe_int (pa_cons (pe_glob rfl g1 (v := .int 1) ⟨_, rfl⟩) (pa_cons (pe_glob rfl g2 (v := .int 3) ⟨_, rfl⟩) pa_nil)))))
      (pss_cons (ps_set (i := 3) sc_tmb.nd rfl (Or.inl rfl) (pe_meth (pv 0) T.C_z40 T.M_z44 GB hr T.B_z44 .nil passF (pa_cons pe_int (pa_cons pe_int (pa_cons (pe_glob rfl g3 (v := .int 2) ⟨_, rfl⟩) pa_nil)))))
      (pss_one (ps_ret (pe_make T.K_z5 GI hr2 rfl T.g_z5 T.B_z6 .nil pass0 (pa_cons (pv 1) (pa_cons (pv 2) (pa_cons (pv 3) pa_nil))))))), ?_⟩
    unfold JM.oneMB JM.oneMBond at ans
    simp only [JM.andThen_assoc] at ans
    obtain ⟨d0, e0⟩ := R.obj
    have pr : p ≠ r := ne_of hp e0 (by intro z; cases z)
    refine ⟨_, rfl, r, d0, _, rfl, e0, rfl, ?_⟩
    refine ⟨r, 1, 1, 3, _, rfl, R, .inl rfl, Ans.good (g' := fun v => decide (1 ≤ v) && decide (v ≤ 3)) (fun v => by rw [Bool.eq_iff_iff]; simp only [Bool.and_eq_true, decide_eq_true_eq]; omega) (ans.andThen'.mono fun y1 hy1 ans H1 R1 F1 => ?_)⟩
    obtain ⟨d1, e1⟩ := R1.obj
    refine ⟨_, rfl, r, d1, _, rfl, e1, rfl, ?_⟩
    refine ⟨r, 1, 0, 2, _, rfl, R1, .inl rfl, Ans.good (g' := fun v => decide (v ≤ 2)) (fun v => by rw [Bool.eq_iff_iff]; simp only [Bool.and_eq_true, decide_eq_true_eq]; omega) (ans.andThen'.mono fun y2 hy2 ans H2 R2 F2 => ?_)⟩
    obtain ⟨d2, e2⟩ := R2.obj
    have F : Frm [r] H H2 := F1.trans F2
    have hp2 := F p _ hp (by simpa using pr)
    refine ⟨_, rfl, _, rfl, _, rfl, fun o dx no nd ne => ?_⟩
    refine ⟨o, dx, p, ⟨q.1, q.2, y1.1, y2.1⟩, rfl, upd_same, ?_, fun H5 h5 F5 => ⟨rfl, ?_⟩⟩
    · rw [upd_ne (ne_of_none hp2 no), upd_ne (ne_of_none hp2 nd)]; exact hp2
    · have F6 : Frm [] H2 H5 := Frm.made no nd F5
      exact ans H5 (.ref o) (R2.stay F6 (by simp) (by simp) (by simp) (by simp)) (F.trans (F6.mono (by simp))) ⟨o, dx, rfl, F.fresh e2 no, h5⟩
end
end MP
namespace L2
open PySem PySem.Spec PyProof.Rows XL
def DispT (p : Addr) (Q : VK) (ps : List (V × V)) (H2 : Hp) : Prop := H2 p = some (.dT []) ∧ ∃ (k : List Key) (b : Addr) (y : V), ps = [(.ref b, y)] ∧ H2 b = some (.tup (k.map kV)) ∧ Q (.ref p) (upd H2 p (.dT [(k, y)]))
def tDisp1 (tk tv : TE) : TE := fun σ H Q => ∀ p, H p = none → tk σ (upd H p (.dT [])) fun x H1 => tv σ H1 fun y H2 => DispT p Q [(x, y)] H2
theorem pe_disp1 {X : Cx} {pos : Pos} {e v : Expr} {tk tv : TE} (hu : X.A.units + 1 < cLine) (hk : PE X e tk) (hv : PE X v tv) : PE X (.Dict [some e] [v] pos) (tDisp1 tk tv) := by
  intro pins s σ H Q I q
  have hn := I.hok.fresh (Nat.le_refl s.heap.objs.size)
  have I1 := I.laid (a := s.heap.objs.size) (o := .dT []) (h' := s.heap.push { cls := .type "dict", data := .dict #[] }) (t' := s.toks) (fun _ _ q => Heap.get?_push_of_some _ q) (Nat.le_refl _) (dt_empty s.heap I.big)
  have pp := pps_cons (pos := pos) hk hv pps_nil
  refine wpAny_Dict_any rfl rfl (by simp) (by simp) (thn (pp pins _ σ _ (DispT s.heap.objs.size Q) I1 (q _ hn)) fun ws s2 ⟨ps, H2, I2, rel, e2, k, b, y, ep, eb, q2⟩ => ?_)
  subst ep
  cases rel with
  | @cons p' w' as bs h t =>
    cases t
    obtain ⟨w1, w2⟩ := w'
    obtain ⟨h1, h2⟩ := h
    cases (show w1 = Value.ref b from h1)
    obtain ⟨z, hd, xs, rl, dd⟩ := dt_of I2.hok e2
    cases rl
    unfold storeAll
    rw [List.forIn_cons]
    refine wpAny_bind (wpAny_bind (wpAny_dictSet_heap (hsz := Nat.zero_le _) (knd := tupleKind (mixKind X.prog X.w)) ?_ (key_of I2.hok eb) dd fun h' dd' hs => wpAny_pure ?_))
    · exact (by show X.A.units < cLine; omega)
    · show wpAny _ _ (forIn [] PUnit.unit _) _ _ _
      rw [List.forIn_nil]
      refine wpAny_pure ⟨.ref s.heap.objs.size, _, ?_, rfl, q2⟩
      obtain ⟨q, es, ep, hq, g2, g3, g4, _, g5⟩ := dd'
      refine d_write I2 (by rw [e2]; exact True.intro) hs ⟨q, hq⟩ ⟨by show 1 ≤ sizeLine; decide, hd, [(k, b, w2)], .cons ⟨rfl, ?_, h2⟩ .nil, q, es, ep, hq, g2, g3, g4, g5⟩
      rw [upd_ne (ne_of eb e2 (fun z => nomatch z))]
      exact eb
end L2
namespace L2
open PySem PySem.Spec PyProof.Rows
section
variable {X : Cx}
def rGetL (K : PySem.W.Frag) : V → V → Hp → VK → Prop := fun o i H Q => ∃ (p : Addr) (xs : List V) (j : Nat) (v : V), o = .ref p ∧ i = .int (j : Int) ∧ SqL K H p xs ∧ xs[j]? = some v ∧ Q v H
theorem get_list : PGet X (rGetL X.K) := by
  intro pins s σ H o i ov iv Q I ro ri h
  obtain ⟨p, xs, j, z, rfl, rfl, hq, he, q⟩ := h
  cases ro
  obtain ⟨t, rfl⟩ := ri
  obtain ⟨its, r, pl, hz⟩ := I.list hq
  obtain ⟨w, ew, rw'⟩ := r.get he
  have hl := r.length
  have hn := line63
  have hj : j < xs.length := (List.getElem?_eq_some_iff.mp he).1
  exact wpAny_getItem_list pl.isList (by omega) (by omega) (by simpa using ew) ⟨z, H, I, rw', q⟩
theorem pe_fldK {K0 : PySem.W.Frag} {e : Expr} {f : Str} {pos : Pos} {ta : TE} (hK : X.K = K0) (he : PE X e ta) (hb : attributeBase e f X.env (eval e X.env) = eval e X.env) : PE X (.Attribute e f pos) (tFld K0 ta f) := by
  rw [← hK]
  exact pe_fld he hb
theorem ixN_nat {n j : Nat} (h : j < n) : ixN n (j : Int) = some j := by
  unfold ixN
  rw [if_pos (by omega), if_pos (by omega)]
  simp
end
end L2
namespace MP
open PySem PySem.Spec PyProof.Rows L2
open XL (excTail)
open Fk (Fault Bytes numIn need andThen Atom Bond Mol)
def vI (l : List Int) : List V := l.map V.int
section
variable {P : Program} {w : World} {K : PySem.W.Frag} {mg : Str → Option Value} {base : Heap} {t : Ad}
def spBit : Sp := fun vs H Q _ => ∃ o : Nat, vs = [.int (o : Int)] ∧ 1 ≤ o ∧ o ≤ 3 ∧ Q (.int ((2 ^ (o - 1) : Nat) : Int)) H
theorem sc_bit : FnScope ["order"] ["order"] (defScope s_z70) := ⟨rfl, rfl, rfl, by decide +kernel, rfl, by decide +kernel, by decide +kernel⟩
theorem ok_bit (T : Txt K mg t) : FnOk P w K mg base CX0 1 t.f_z70 t.d_z70 ["order"] spBit := by
  refine T.F_z70.ok sc_bit (fun vs H Q E h => ?_) (fun cdv A outer s H vs Q E hr h => ?_)
  · obtain ⟨o, rfl, _⟩ := h
    rfl
  · obtain ⟨o, rfl, h1, h3, k⟩ := h
    refine ⟨_, pss_one (ps_ret (pe_op op_shl pe_int (pe_op op_sub (pv 0) pe_int))), ?_⟩
    refine ⟨_, rfl, _, _, rfl, rfl, _, _, rfl, rfl, ⟨by omega, by omega, by decide⟩, ?_⟩
    have e : (1 : Int) * 2 ^ ((o : Int) - 1).toNat = ((2 ^ (o - 1) : Nat) : Int) := by
      rw [show ((o : Int) - 1).toNat = o - 1 by omega]
      simp
    show Q (.int (1 * 2 ^ ((o : Int) - 1).toNat)) H
    rw [e]
    exact k
def spMet : Sp := fun vs H Q _ => ∃ (l : Int) (k : Nat), vs = [.int l, .int (k : Int)] ∧ k < 1000 ∧ Q (.bl (JM.met l k)) H
theorem sc_met : FnScope ["left", "bonds"] ["left", "bonds"] (defScope s_z61) := ⟨rfl, rfl, rfl, by decide +kernel, rfl, by decide +kernel, by decide +kernel⟩
theorem ok_met (T : Txt K mg t) : FnOk P w K mg base CX0 1 t.f_z61 t.d_z61 ["left", "bonds"] spMet := by
  obtain ⟨tk1, g1⟩ := T.k_z18
  obtain ⟨tk2, g2⟩ := T.k_z13
  refine T.F_z61.ok sc_met (fun vs H Q E h => ?_) (fun cdv A outer s H vs Q E hr h => ?_)
  · obtain ⟨o, k, rfl, _⟩ := h
    rfl
  · obtain ⟨l, n, rfl, hn, k⟩ := h
    refine ⟨_, pss_one (ps_ret (pe_chain op_le op_le (pe_op op_mul (pe_glob rfl g1 (v := .int 1) ⟨_, rfl⟩) (pv 1)) (pv 0) (pe_op op_mul (pe_glob rfl g2 (v := .int 3) ⟨_, rfl⟩) (pv 1)))), ?_⟩
    refine ⟨_, rfl, _, _, rfl, rfl, .inl ⟨by decide, by decide⟩, _, rfl, _, _, rfl, rfl, _, rfl, ?_⟩
    have e : JM.met l n = (decide (1 * (n : Int) ≤ l) && decide (l ≤ 3 * (n : Int))) := by
      unfold JM.met
      rw [Int.one_mul]
    rw [e] at k
    refine ite2 (fun h => ?_) (fun h => ?_)
    · refine ⟨_, rfl, _, _, rfl, rfl, .inl ⟨by decide, by decide⟩, _, _, rfl, rfl, ?_⟩
      rw [h, Bool.true_and] at k
      exact k
    · rw [Bool.not_eq_true] at h
      rw [h, Bool.false_and] at k
      exact k
def BondsAt (K : PySem.W.Frag) (H : Hp) (lb : Addr) (us : List V) (l : List (Nat × Nat)) : Prop := H lb = some (.lst us) ∧ us.length = l.length ∧ ∀ (i : Nat) v q, us[i]? = some v → l[i]? = some q → EndsAt K H v q
theorem BondsAt.same {H H' : Hp} {lb : Addr} {us : List V} {l : List (Nat × Nat)} (b : BondsAt K H lb us l) (f : Same H H') : BondsAt K H' lb us l :=
  ⟨f _ _ b.1, b.2.1, fun i v q h1 h2 => (b.2.2 i v q h1 h2).same f⟩
def spBehind (K : PySem.W.Frag) : Sp := fun vs H Q _ => ∃ (lb : Addr) (k v : Nat) (us : List V) (l : List (Nat × Nat)), vs = [.ref lb, .int (k : Int), .int (v : Int)] ∧ BondsAt K H lb us l ∧ k < l.length ∧ l.length ≤ 1000 ∧
  ∀ H', Same H H' → Q (.int (JM.beh (l.drop (k + 1)) v : Int)) H'
theorem sc_behind : FnScope ["bonds", "k", "atom", "bond"] ["bonds", "k", "atom"] (defScope s_z60) := ⟨rfl, rfl, rfl, by decide +kernel, rfl, by decide +kernel, by decide +kernel⟩
theorem cut_from {xs : List V} {k : Nat} (h : k ≤ xs.length) : cutV xs (some (k : Int)) none = xs.drop k := by
  unfold cutV
  rw [HT.sIx_nat, HT.sIx_none, Nat.min_eq_left h]
  exact List.take_of_length_le (by rw [List.length_drop]; omega)
theorem beh_snoc (l : List (Nat × Nat)) (q : Nat × Nat) (v : Nat) : JM.beh (l ++ [q]) v = JM.beh l v + (if JM.touch q v = true then 1 else 0) := by
  unfold JM.beh
  rw [List.filter_append, List.length_append]
  congr 1
  cases h : JM.touch q v <;> simp [h]
theorem ok_behind (T : Txt K mg t) : FnOk P w K mg base CX0 1 t.f_z60 t.d_z60 ["bonds", "k", "atom"] (spBehind K) := by
  refine T.F_z60.ok sc_behind (fun vs H Q E h => ?_) (fun cdv A outer s H vs Q E hr h => ?_)
  · obtain ⟨lb, k, v, us, l, rfl, _⟩ := h
    rfl
  · obtain ⟨lb, n, v, us, l, rfl, B, hn, hl, k⟩ := h
    refine ⟨_, pss_one (ps_ret (pe_callB call_len_seq (by rfl) T.b_len PySem.boot_len (pa_cons (pe_lc rfl sc_behind.nd (pi_list (pe_slice sl_list (pv 0) (po_some (pe_op op_add (pv 1) pe_int)) po_none)) (blkOk_by (own := [("bond", 3)]) rfl) (fun _ _ _ _ _ => pg_name (i := 3) sc_behind.nd rfl (Or.inl rfl))
      (fun _ _ _ _ _ => pts_one (PW.pt (pw_or (pt_cmpR op_eq (pv 2) (pe_fldK (K0 := K) rfl (pv 3) rfl) (nomark _)) (pw_or1 (pt_cmpR op_eq (pv 2) (pe_fldK (K0 := K) rfl (pv 3) rfl) (nomark _)))))) (fun _ _ _ _ _ => pv 3)) pa_nil))), ?_⟩
    refine ⟨_, rfl, _, rfl, _, _, rfl, rfl, _, rfl, lb, us, rfl, SqL.of B.1, fun p hp => ?_⟩
    have e : cutV us (some ((n : Int) + 1)) none = us.drop (n + 1) := by
      rw [show (n : Int) + 1 = ((n + 1 : Nat) : Int) by omega]
      exact cut_from (by rw [B.2.1]; omega)
    rw [e]
    have sp : Same H (upd H p (.lst (us.drop (n + 1)))) := laid_same hp
    refine ⟨p, rfl, ⟨_, SqL.of upd_same⟩, fun D hD => ?_⟩
    have sD : Same H (upd (upd H p (.lst (us.drop (n + 1)))) D (.lst [])) := sp.trans (laid_same hD)
    have pD : p ≠ D := fun z => by rw [← z, upd_same] at hD; cases hD
    refine lc_list (K := K) (a := p) (xs := us.drop (n + 1)) (fun i H' => Same H H' ∧ H' p = some (.lst (us.drop (n + 1))) ∧ ∃ acc, H' D = some (.lst acc) ∧ acc.length = JM.beh ((l.drop (n + 1)).take i) v) ⟨sD, by rw [upd_ne pD]; exact upd_same, [], upd_same, rfl⟩ (fun i H' _ h => SqL.of h.2.1) ?_ ?_
    · rintro i x H' hx ⟨sm, hp', acc, hD', hacc⟩
      have hil : i < l.length - (n + 1) := by
        have := (List.getElem?_eq_some_iff.mp hx).1
        rw [List.length_drop, B.2.1] at this
        exact this
      obtain ⟨q, hq⟩ : ∃ q, (l.drop (n + 1))[i]? = some q := ⟨_, List.getElem?_eq_getElem (by rw [List.length_drop]; exact hil)⟩
      have en : EndsAt K H' x q := ((B.2.2 (n + 1 + i) x q (by rw [← hx, List.getElem?_drop]) (by rw [← hq, List.getElem?_drop]))).same sm
      obtain ⟨o, C, dx, fs, rfl, e1, cl, na, nb, ea, eb⟩ := en
      have tk := MP.take_snoc hq
      have ac : acc.length < sizeLine := by
        have : acc.length ≤ l.length := by
          rw [hacc]
          refine Nat.le_trans (List.length_filter_le _ _) ?_
          rw [List.length_take, List.length_drop]
          omega
        rw [sizeLine_eq]; omega
      have pd' : D ≠ p := Ne.symm pD
      have keepD : ∀ ys, Same H (upd H' D (.lst ys)) := fun ys b u e => by
        have : b ≠ D := fun z => by
          have h1 := sp b u e
          rw [z, hD] at h1; cases h1
        rw [upd_ne this]; exact sm b u e
      have go : JM.touch q v = true → ∀ y, ∃ acc, H' D = some (.lst acc) ∧ acc.length < sizeLine ∧ (Same H (upd H' D (.lst (acc ++ [y]))) ∧ upd H' D (.lst (acc ++ [y])) p = some (.lst (us.drop (n + 1))) ∧ ∃ acc', upd H' D (.lst (acc ++ [y])) D = some (.lst acc') ∧ acc'.length = JM.beh ((l.drop (n + 1)).take (i + 1)) v) := fun ht y =>
        ⟨acc, hD', ac, keepD _, by rw [upd_ne pD]; exact hp', _, upd_same, by rw [tk, beh_snoc, ht, ← hacc]; simp⟩
      have no : JM.touch q v = false → (Same H H' ∧ H' p = some (.lst (us.drop (n + 1))) ∧ ∃ acc', H' D = some (.lst acc') ∧ acc'.length = JM.beh ((l.drop (n + 1)).take (i + 1)) v) := fun ht =>
        ⟨sm, hp', acc, hD', by rw [tk, beh_snoc, ht, ← hacc]; simp⟩
      refine ⟨rfl, _, rfl, _, rfl, o, C, dx, fs, _, rfl, e1, cl, na, ea, rfl, _, rfl, ?_⟩
      by_cases h1 : q.1 = v
      · have ht : JM.touch q v = true := by simp [JM.touch, h1]
        rw [decide_eq_true (by rw [h1])]
        exact ⟨_, rfl, go ht _⟩
      · rw [decide_eq_false (fun z => h1 (by injection z with z; omega))]
        refine ⟨_, rfl, _, rfl, o, C, dx, fs, _, rfl, e1, cl, nb, eb, rfl, _, rfl, ?_⟩
        by_cases h2 : q.2 = v
        · have ht : JM.touch q v = true := by simp [JM.touch, h2]
          rw [decide_eq_true (by rw [h2])]
          exact ⟨_, rfl, go ht _⟩
        · have ht : JM.touch q v = false := by simp [JM.touch, h1, h2]
          rw [decide_eq_false (fun z => h2 (by injection z with z; omega))]
          exact no ht
    · rintro H' ⟨sm, hp', acc, hD', hacc⟩
      rw [List.length_drop, B.2.1, ← List.length_drop, List.take_length] at hacc
      refine ⟨D, acc, rfl, .inl (SqL.of hD'), ?_⟩
      rw [hacc]
      exact k H' sm
end
end MP
namespace MP
open PySem PySem.Spec PyProof.Rows L2
open XL (excTail)
open Fk (Fault Bytes numIn need andThen Atom Bond Mol)
section
variable {P : Program} {w : World} {K : PySem.W.Frag} {mg : Str → Option Value} {base : Heap} {t : Ad}
def spLess (K : PySem.W.Frag) : Sp := fun vs H Q _ => ∃ (st : Addr) (v : V) (o n : Nat) (s : List Int) (q : Nat × Nat), vs = [.ref st, v, .int (o : Int)] ∧ H st = some (.tup (vI s)) ∧ EndsAt K H v q ∧ q.1 < q.2 ∧ q.2 < s.length ∧ s.length ≤ 1000 ∧
  ∀ H' p, Same H H' → H p = none → H' p = some (.tup (vI (JM.less s q o))) → Q (.ref p) H'
theorem sc_less : FnScope ["state", "bond", "order", "left"] ["state", "bond", "order"] (defScope s_z66) := ⟨rfl, rfl, rfl, by decide +kernel, rfl, by decide +kernel, by decide +kernel⟩
theorem modify_set {l : List Int} {i : Nat} {x : Int} (f : Int → Int) (h : l[i]? = some x) : l.set i (f x) = l.modify i f := by
  refine List.ext_getElem? fun j => ?_
  rw [List.getElem?_modify, List.getElem?_set]
  by_cases e : i = j
  · subst e
    obtain ⟨hl, rfl⟩ := List.getElem?_eq_some_iff.mp h
    simp [hl]
  · simp [e]
theorem vI_set (l : List Int) (i : Nat) (x : Int) : (vI l).set i (.int x) = vI (l.set i x) := by
  unfold vI
  rw [List.map_set]
theorem vI_get {l : List Int} {i : Nat} {x : Int} (h : l[i]? = some x) : (vI l)[i]? = some (.int x) := by
  unfold vI
  rw [List.getElem?_map, h]
  rfl
theorem ok_less (T : Txt K mg t) : FnOk P w K mg base CX0 1 t.f_z66 t.d_z66 ["state", "bond", "order"] (spLess K) := by
  refine T.F_z66.ok sc_less (fun vs H Q E h => ?_) (fun cdv A outer s H vs Q E hr h => ?_)
  · obtain ⟨st, v, o, n, s, q, rfl, _⟩ := h
    rfl
  · obtain ⟨st, v, o, n, st0, q, rfl, hst, en, h12, h2n, hn, k⟩ := h
    refine ⟨_, pss_cons (ps_set (i := 3) sc_less.nd rfl (Or.inl rfl) (pe_callTy call_list_of (by rfl) T.b_list PyProof.Rows.boot_list (pa_cons (pv 0) pa_nil)))
      (pss_cons (ps_augS (pv 3) (pe_fld (pv 1) rfl) get_list (pv 2) ip_sub set_list)
      (pss_cons (ps_augS (pv 3) (pe_fld (pv 1) rfl) get_list (pv 2) ip_sub set_list)
      (pss_one (ps_ret (pe_callTy call_tuple_of (by rfl) T.b_tuple PyProof.Rows.boot_tuple (pa_cons (pv 3) pa_nil)))))), ?_⟩
    obtain ⟨b, C, dx, fs, rfl, e1, cl, na, nb, ea, eb⟩ := en
    refine ⟨_, rfl, st, _, rfl, .inr (SqT.of hst), fun l hl => ?_⟩
    have s1 : Same H (upd H l (.lst (vI st0))) := laid_same hl
    obtain ⟨x1, hx1⟩ : ∃ x, st0[q.1]? = some x := ⟨_, List.getElem?_eq_getElem (by omega)⟩
    have hlen : (vI st0).length = st0.length := by simp [vI]
    refine ⟨_, rfl, _, rfl, b, C, dx, fs, _, rfl, s1 _ _ e1, cl, na, ea, l, _, q.1, _, rfl, rfl, SqL.of upd_same, vI_get hx1, _, rfl, _, _, rfl, rfl, l, _, (q.1 : Int), q.1, rfl, rfl, upd_same, ixN_nat (by rw [hlen]; omega), ?_⟩
    rw [vI_set, upd_upd, modify_set (f := fun x => x - (o : Int)) hx1]
    obtain ⟨x2, hx2⟩ : ∃ x, (st0.modify q.1 fun x => x - (o : Int))[q.2]? = some x := ⟨_, List.getElem?_eq_getElem (by simp; omega)⟩
    have s2 : Same H (upd H l (.lst (vI (st0.modify q.1 fun x => x - (o : Int))))) := laid_same hl
    refine ⟨_, rfl, _, rfl, b, C, dx, fs, _, rfl, s2 _ _ e1, cl, nb, eb, l, _, q.2, _, rfl, rfl, SqL.of upd_same, vI_get hx2, _, rfl, _, _, rfl, rfl, l, _, (q.2 : Int), q.2, rfl, rfl, upd_same, ixN_nat (by simp [vI]; omega), ?_⟩
    rw [vI_set, upd_upd, modify_set (f := fun x => x - (o : Int)) hx2]
    refine ⟨_, rfl, l, _, rfl, .inl ⟨SqL.of upd_same, fun p hp => ?_⟩⟩
    have s3 : Same H (upd H l (.lst (vI (JM.less st0 q o)))) := laid_same hl
    exact k _ p (s3.trans (laid_same hp)) (s3.free hp) upd_same
def ways (ys : List (Bond × Nat)) : JM.Ways := ys.map fun z => (JM.mends z, z.1.order)
def sumsOf (n : Nat) (z : JM.Ways) : List Int := (List.range n).map fun v => (JM.csum z v : Int)
def spSums (K : PySem.W.Frag) (C : Addr) : Sp := fun vs H Q _ => ∃ (n : Nat) (lb : Addr) (us : List V) (ys : List (Bond × Nat)) (D : Addr → Prop), vs = [.int (n : Int), .ref lb] ∧ n ≤ 1000 ∧ H lb = some (.lst us) ∧ Reps (RepMB C) D H us ys ∧
  (∀ q ∈ ys.map JM.mends, q.1 < q.2 ∧ q.2 < n) ∧ ∀ H' l, Same H H' → H l = none → H' l = some (.lst (vI (sumsOf n (ways ys)))) → Q (.ref l) H'
theorem sc_sums : FnScope ["n", "bonds", "sums", "bond"] ["n", "bonds"] (defScope s_z71) := ⟨rfl, rfl, rfl, by decide +kernel, rfl, by decide +kernel, by decide +kernel⟩
theorem sums_get {n : Nat} {f : Nat → Int} {v : Nat} (h : v < n) : ((List.range n).map f)[v]? = some (f v) := by
  rw [List.getElem?_map, List.getElem?_range h]
  rfl
theorem sums_set {n : Nat} {f : Nat → Int} {v : Nat} {x : Int} : ((List.range n).map f).set v x = (List.range n).map fun u => if u = v then x else f u := by
  refine List.ext_getElem? fun j => ?_
  rw [List.getElem?_set]
  by_cases hj : j < n
  · rw [sums_get hj]
    by_cases e : v = j
    · subst e
      simp [hj]
    · have e' : ¬ j = v := fun z => e z.symm
      simp [e, e', sums_get hj]
  · have e1 : ((List.range n).map fun u => if u = v then x else f u)[j]? = none := List.getElem?_eq_none (by simp; omega)
    rw [e1]
    by_cases e : v = j
    · subst e; simp [hj]
    · rw [if_neg e]
      exact List.getElem?_eq_none (by simp; omega)
theorem zeros (n : Nat) : (List.replicate n [V.int 0]).flatten = vI (sumsOf n []) := by
  unfold vI sumsOf
  rw [List.map_map]
  refine List.ext_getElem? fun j => ?_
  have e : (List.replicate n [V.int 0]).flatten = List.replicate n (V.int 0) := by
    induction n with
    | zero => rfl
    | succ n ih => rw [List.replicate_succ, List.flatten_cons, ih]; rfl
  rw [e, List.getElem?_replicate]
  by_cases hj : j < n
  · rw [if_pos hj, List.getElem?_map, List.getElem?_range hj]
    rfl
  · rw [if_neg hj]
    exact (List.getElem?_eq_none (by simp; omega)).symm
theorem ok_sums (T : Txt K mg t) : FnOk P w K mg base CX0 1 t.f_z71 t.d_z71 ["n", "bonds"] (spSums K t.c_z5) := by
  refine T.F_z71.ok sc_sums (fun vs H Q E h => ?_) (fun cdv A outer s H vs Q E hr h => ?_)
  · obtain ⟨n, lb, us, ys, D, rfl, _⟩ := h
    rfl
  · obtain ⟨n, lb, us, ys, D, rfl, hn, hlb, R, hq, k⟩ := h
    refine ⟨_, pss_cons (ps_set (i := 2) sc_sums.nd rfl (Or.inl rfl) (pe_op op_rep (pe_lst (pa_cons pe_int pa_nil)) (pv 0)))
      (pss_cons (ps_for PassesOwn.never rfl (pi_list (pv 1)) (pg_name (i := 3) sc_sums.nd rfl (Or.inl rfl))
        (pss_cons (ps_augS (pv 2) (pe_fld (pv 3) rfl) get_list (pe_fld (pv 3) rfl) ip_add set_list)
        (pss_one (ps_augS (pv 2) (pe_fld (pv 3) rfl) get_list (pe_fld (pv 3) rfl) ip_add set_list))))
      (pss_one (ps_ret (pv 2)))), ?_⟩
    refine ⟨by show 1 ≤ sizeLine; decide, fun p0 hp0 => ⟨_, rfl, p0, _, _, rfl, rfl, upd_same, by omega, by omega, by rw [sizeLine_eq]; simp; omega, fun l hl => ?_⟩⟩
    rw [Int.toNat_natCast, zeros]
    have s0 : Same H (upd H p0 (.lst [V.int 0])) := laid_same hp0
    have s1 : Same H (upd (upd H p0 (.lst [V.int 0])) l (.lst (vI (sumsOf n [])))) := s0.trans (laid_same hl)
    have hl0 : H l = none := s0.free hl
    refine ⟨_, rfl, lb, rfl, ⟨_, SqL.of (s1 _ _ hlb)⟩, ?_⟩
    refine for_list (K := K) (a := lb) (xs := us) (fun i σ H' => ∃ vb, σ = [some (.int (n : Int)), some (.ref lb), some (.ref l), vb] ∧ Same H H' ∧ H' l = some (.lst (vI (sumsOf n ((ways ys).take i))))) ⟨none, rfl, s1, upd_same⟩ (fun i σ H' _ ⟨_, _, sm, _⟩ => SqL.of (sm _ _ hlb)) ?_ ?_
    · rintro i x σ H' hx ⟨vb, rfl, sm, hl'⟩
      have hi : i < us.length := (List.getElem?_eq_some_iff.mp hx).1
      obtain ⟨z, hz⟩ : ∃ z, ys[i]? = some z := ⟨_, List.getElem?_eq_getElem (by rw [← R.len]; exact hi)⟩
      obtain ⟨o, dx, rfl, _, rep⟩ := R.at_ i x z hx hz
      have hqz := hq (JM.mends z) (List.mem_map_of_mem (List.mem_of_getElem? hz))
      have ez : (ways ys)[i]? = some (JM.mends z, z.1.order) := by unfold ways; rw [List.getElem?_map, hz]; rfl
      have ol : o ≠ l := fun q => by
        have := sm _ _ rep
        rw [q, hl'] at this; cases this
      have ln : ∀ w : JM.Ways, (vI (sumsOf n w)).length = n := fun w => by simp [vI, sumsOf]
      refine ⟨_, rfl, _, rfl, o, _, dx, _, _, rfl, sm _ _ rep, T.C_z5, T.n_Bond_a, rfl, l, _, z.1.a, _, rfl, rfl, SqL.of hl', vI_get (sums_get (by have : z.1.a < z.1.b ∧ z.1.b < n := hqz; omega)), ?_⟩
      refine ⟨_, rfl, o, _, dx, _, _, rfl, sm _ _ rep, T.C_z5, T.n_Bond_order, rfl, _, _, rfl, rfl, l, _, (z.1.a : Int), z.1.a, rfl, rfl, hl', ixN_nat (by rw [ln]; have : z.1.a < z.1.b ∧ z.1.b < n := hqz; omega), ?_⟩
      have keep : ∀ u, Same H (upd H' l u) := fun u b v e => by
        rw [upd_ne (ne_of_none e hl0)]; exact sm b v e
      rw [vI_set]
      unfold sumsOf
      rw [sums_set]
      refine ⟨_, rfl, _, rfl, o, _, dx, _, _, rfl, keep _ _ _ rep, T.C_z5, T.n_Bond_b, rfl, l, _, z.1.b, _, rfl, rfl, SqL.of upd_same, vI_get (sums_get hqz.2), ?_⟩
      refine ⟨_, rfl, o, _, dx, _, _, rfl, keep _ _ _ rep, T.C_z5, T.n_Bond_order, rfl, _, _, rfl, rfl, l, _, (z.1.b : Int), z.1.b, rfl, rfl, upd_same, ixN_nat (by simp [vI]; exact hqz.2), ?_⟩
      rw [vI_set, sums_set, upd_upd]
      refine ⟨_, rfl, keep _, ?_⟩
      rw [upd_same, take_snoc ez]
      congr 3
      refine List.map_congr_left fun u hu => ?_
      rw [JM.csum_append, JM.csum_cons, JM.csum_nil]
      have hlt : z.1.a < z.1.b := hqz.1
      by_cases h1 : u = z.1.a
      · have h2 : ¬ u = z.1.b := by omega
        have ht : JM.touch (JM.mends z) u = true := by simp [JM.touch, JM.mends, h1]
        rw [if_neg h2, if_pos h1, if_pos ht, h1]
        simp
      · by_cases h2 : u = z.1.b
        · have ht : JM.touch (JM.mends z) u = true := by simp [JM.touch, JM.mends, h2]
          have h3 : ¬ z.1.b = z.1.a := by omega
          rw [if_pos h2, if_pos ht, if_neg h3, h2]
          simp
        · have ht : ¬ JM.touch (JM.mends z) u = true := by
            simp [JM.touch, JM.mends]
            omega
          rw [if_neg h2, if_neg h1, if_neg ht]
          simp
    · rintro σ H' ⟨vb, rfl, sm, hl'⟩
      have e : (ways ys).take us.length = ways ys := List.take_of_length_le (by unfold ways; rw [List.length_map, R.len]; exact Nat.le_refl _)
      rw [e] at hl'
      exact ⟨_, rfl, k H' l sm hl0 hl'⟩
end
end MP
namespace MP
open PySem PySem.Spec PyProof.Rows L2
open XL (excTail)
open Fk (Fault Bytes numIn need andThen Atom Bond Mol)
def kI (s : List Int) : List Key := s.map Sum.inl
theorem kI_V (s : List Int) : (kI s).map kV = vI s := by
  unfold kI vI
  rw [List.map_map]
  rfl
theorem kI_inj {s u : List Int} (h : kI s = kI u) : s = u := List.map_inj_right (fun a b e => by injection e) |>.mp h
structure StD (kvs : List (List Key × V)) (Pr : List Int → Prop) : Prop where
  of : ∀ kv ∈ kvs, ∃ s, kv.1 = kI s ∧ Pr s
  all : ∀ s, Pr s → (valV kvs (kI s)).isSome = true
theorem valV_key {kvs : List (List Key × V)} {k : List Key} (h : (valV kvs k).isSome = true) : ∃ kv ∈ kvs, kv.1 = k := by
  rw [← valV_any, List.any_eq_true] at h
  obtain ⟨kv, h1, h2⟩ := h
  exact ⟨kv, h1, of_decide_eq_true h2⟩
theorem key_valV {kvs : List (List Key × V)} {kv : List Key × V} (h : kv ∈ kvs) : (valV kvs kv.1).isSome = true := by
  rw [← valV_any, List.any_eq_true]
  exact ⟨kv, h, decide_eq_true rfl⟩
theorem StD.iff {kvs : List (List Key × V)} {Pr : List Int → Prop} (d : StD kvs Pr) (s : List Int) : (valV kvs (kI s)).isSome = true ↔ Pr s :=
  ⟨fun h => by
    obtain ⟨kv, h1, h2⟩ := valV_key h
    obtain ⟨u, e, p⟩ := d.of kv h1
    rw [e] at h2
    rw [← kI_inj h2]
    exact p, d.all s⟩
theorem StD.nil : StD [] fun _ => False := ⟨fun kv h => by simp at h, fun _ h => h.elim⟩
theorem StD.put {kvs : List (List Key × V)} {Pr : List Int → Prop} (d : StD kvs Pr) (s : List Int) (v : V) : StD (putK kvs (kI s) v) fun u => Pr u ∨ u = s := by
  refine ⟨fun kv h => ?_, fun u hu => ?_⟩
  · have := key_valV h
    rw [valV_put] at this
    by_cases e : kv.1 = kI s
    · exact ⟨s, e, .inr rfl⟩
    · rw [if_neg e] at this
      obtain ⟨kv', h1, h2⟩ := valV_key this
      obtain ⟨u, e', p⟩ := d.of kv' h1
      exact ⟨u, h2 ▸ e', .inl p⟩
  · rw [valV_put]
    by_cases e : kI u = kI s
    · rw [if_pos e]; rfl
    · rw [if_neg e]
      rcases hu with hu | hu
      · exact d.all u hu
      · exact absurd (by rw [hu]) e
theorem StD.eq {kvs : List (List Key × V)} {Pr Pr' : List Int → Prop} (d : StD kvs Pr) (h : ∀ s, Pr s ↔ Pr' s) : StD kvs Pr' :=
  ⟨fun kv hk => let ⟨s, e, p⟩ := d.of kv hk; ⟨s, e, (h s).mp p⟩, fun s p => d.all s ((h s).mpr p)⟩
theorem for_keysT {d : Addr} {o : Obj} {kvs : List (List Key × V)} {g : TG} {tb : TS} {D : Ends} {σ : L2.St} {H : Hp} (Pv : Nat → L2.St → Hp → Prop) (h0 : Pv 0 σ H) (hl : ∀ i σ H, Pv i σ H → H d = some (.frz o (.dT kvs)))
    (hs : ∀ i k v b σ H, kvs[i]? = some (k, v) → Pv i σ H → H b = some (.tup (k.map kV)) → g (.ref b) σ H fun σ2 H2 => tb { D with nx := Pv (i + 1), ct := Pv (i + 1), bk := D.nx } σ2 H2) (hd : ∀ σ H, Pv kvs.length σ H → D.nx σ H) :
    ∃ W : Nat → Nat → L2.St → Hp → Prop, (∃ m, W 0 m σ H) ∧ ∀ i m σ H, W i m σ H →
      ((Itkt d o kvs).stop i H ∧ D.nx σ H) ∨ ((Itkt d o kvs).go i H ∧ ∃ N : L2.St → Hp → Prop, (∀ σ' H', N σ' H' → ∃ m', m' < m ∧ W (i + 1) m' σ' H') ∧ ∀ x H', (Itkt d o kvs).yld i H x H' → g x σ H' fun σ2 H2 => tb { D with nx := N, ct := N, bk := D.nx } σ2 H2) := by
  refine ⟨fun i m σ H => m = kvs.length - i ∧ i ≤ kvs.length ∧ Pv i σ H, ⟨kvs.length, by simp, Nat.zero_le _, h0⟩, ?_⟩
  rintro i m σ H ⟨rfl, hi, p⟩
  have q := hl i σ H p
  by_cases hlt : i < kvs.length
  · refine .inr ⟨⟨q, hlt⟩, Pv (i + 1), fun σ' H' p' => ⟨kvs.length - (i + 1), by omega, rfl, hlt, p'⟩, fun x H' y => ?_⟩
    obtain ⟨rfl, k, v, b, e, rfl, hb⟩ := y
    exact hs i k v b σ _ e p hb
  · have e : i = kvs.length := by omega
    subst e
    exact .inl ⟨⟨q, Nat.le_refl _⟩, hd σ H p⟩
section
variable {P : Program} {w : World} {K : PySem.W.Frag} {mg : Str → Option Value} {base : Heap} {t : Ad}
def Rch (q : Nat × Nat) (b1 b2 : Nat) (s : List Int) (o : Nat) (s' : List Int) : Prop := s' = JM.less s q o ∧ JM.met (s'.getD q.1 0) b1 = true ∧ JM.met (s'.getD q.2 0) b2 = true
def spStates (K : PySem.W.Frag) : Sp := fun vs H Q _ => ∃ (d lb : Addr) (k n : Nat) (kvs : List (List Key × V)) (Pr : List Int → Prop) (us : List V) (l : List (Nat × Nat)) (q : Nat × Nat), vs = [.ref d, .ref lb, .int (k : Int)] ∧ H d = some (.dT kvs) ∧ StD kvs Pr ∧ (∀ s, Pr s → s.length = n) ∧
  BondsAt K H lb us l ∧ l[k]? = some q ∧ l.length ≤ 1000 ∧ n ≤ 1000 ∧ q.1 < q.2 ∧ q.2 < n ∧ 3 * kvs.length ≤ 10000000 ∧
  ∀ H' d' kvs', Same H H' → H d' = none → H' d' = some (.dT kvs') → StD kvs' (fun s' => ∃ s o, Pr s ∧ (1 ≤ o ∧ o ≤ 3) ∧ Rch q (JM.beh (l.drop (k + 1)) q.1) (JM.beh (l.drop (k + 1)) q.2) s o s') → kvs'.length ≤ 3 * kvs.length → Q (.ref d') H'
theorem sc_states : FnScope ["states", "bonds", "k", "bond", "at_a", "at_b", "found", "state", "order", "left"] ["states", "bonds", "k"] (defScope s_z78) := ⟨rfl, rfl, rfl, by decide +kernel, rfl, by decide +kernel, by decide +kernel⟩
theorem ok_states (T : Txt K mg t) : FnOk P w K mg base CX0 2 t.f_z78 t.d_z78 ["states", "bonds", "k"] (spStates K) := by
  have GB : FnOk P w K mg base CX0 1 t.f_z60 t.d_z60 ["bonds", "k", "atom"] (spBehind K) := ok_behind T
  have GL : FnOk P w K mg base CX0 1 t.f_z66 t.d_z66 ["state", "bond", "order"] (spLess K) := ok_less T
  have GM : FnOk P w K mg base CX0 1 t.f_z61 t.d_z61 ["left", "bonds"] spMet := ok_met T
  refine T.F_z78.ok sc_states (fun vs H Q E h => ?_) (fun cdv A outer s H vs Q E hr h => ?_)
  · obtain ⟨d, lb, k, n, kvs, Pr, us, l, q, rfl, _⟩ := h
    rfl
  · obtain ⟨d, lb, n0, n, kvs, Pr, us, l, q, rfl, hd, SD, hPr, B, hq, hl, hn, h12, h2n, hsz, k⟩ := h
    have hu := hr.un
    have hu' : (A.deeper (envOfC "states_behind" (defScope s_z78) s.heap.objs.size t.f_z78 cdv)).units + 1 < cLine := by omega
    refine ⟨_, pss_cons (ps_set (i := 3) sc_states.nd rfl (Or.inl rfl) (pe_ix ix_list (pv 1) (pv 2) (fun _ _ => rfl)))
      (pss_cons (ps_set (i := 4) sc_states.nd rfl (Or.inl rfl) (pe_call GB hr rfl T.g_z60 T.F_z60.kp T.B_z60 .nil pass0 (pa_cons (pv 1) (pa_cons (pv 2) (pa_cons (pe_fld (pv 3) rfl) pa_nil)))))
      (pss_cons (ps_set (i := 5) sc_states.nd rfl (Or.inl rfl) (pe_call GB hr rfl T.g_z60 T.F_z60.kp T.B_z60 .nil pass0 (pa_cons (pv 1) (pa_cons (pv 2) (pa_cons (pe_fld (pv 3) rfl) pa_nil)))))
      (pss_cons (ps_set (i := 6) sc_states.nd rfl (Or.inl rfl) pe_dnewT)
      (pss_cons (ps_lock (ps_for PassesOwn.never rfl (pi_keys (pv 0)) (pg_name (i := 7) sc_states.nd rfl (Or.inl rfl))
        (pss_one (ps_for PassesOwn.never rfl (pi_tup (pe_glob rfl T.g_z38 (v := .ref t.a_z38) rfl)) (pg_name (i := 8) sc_states.nd rfl (Or.inl rfl))
          (pss_cons (ps_set (i := 9) sc_states.nd rfl (Or.inl rfl) (pe_call GL hr rfl T.g_z66 T.F_z66.kp T.B_z66 .nil pass0 (pa_cons (pv 7) (pa_cons (pv 3) (pa_cons (pv 8) pa_nil)))))
          (pss_one (ps_if (PW.pt (pw_and (pt_val (pe_call GM hr rfl T.g_z61 T.F_z61.kp T.B_z61 .nil pass0 (pa_cons (pe_ix ix_tup (pv 9) (pe_fld (pv 3) rfl) (fun _ _ => rfl)) (pa_cons (pv 4) pa_nil))))
              (pw_and1 (pt_val (pe_call GM hr rfl T.g_z61 T.F_z61.kp T.B_z61 .nil pass0 (pa_cons (pe_ix ix_tup (pv 9) (pe_fld (pv 3) rfl) (fun _ _ => rfl)) (pa_cons (pv 5) pa_nil)))))))
            (pss_one (ps_dput hu' (pv 6) (pv 9) pe_bl rfl)) pss_nil)))))))
      (pss_one (ps_ret (pv 6))))))), ?_⟩
    have hk : n0 < l.length := (List.getElem?_eq_some_iff.mp hq).1
    obtain ⟨bv, hbv⟩ : ∃ v, us[n0]? = some v := ⟨_, List.getElem?_eq_getElem (by rw [B.2.1]; exact hk)⟩
    have en := B.2.2 n0 bv q hbv hq
    obtain ⟨o, C, dx, fs, rfl, e1, cl, na, nb, ea, eb⟩ := id en
    refine ⟨_, rfl, _, rfl, lb, us, _, _, rfl, rfl, SqL.of B.1, atI_nat hbv, ?_⟩
    refine ⟨_, rfl, _, rfl, _, rfl, o, C, dx, fs, _, rfl, e1, cl, na, ea, ?_⟩
    refine ⟨lb, n0, q.1, us, l, rfl, B, hk, hl, fun H1 s1 => ?_⟩
    refine ⟨_, rfl, _, rfl, _, rfl, o, C, dx, fs, _, rfl, s1 _ _ e1, cl, nb, eb, ?_⟩
    refine ⟨lb, n0, q.2, us, l, rfl, B.same s1, hk, hl, fun H2 s2 => ?_⟩
    intro fd hfd
    have s12 : Same H H2 := s1.trans s2
    have s3 : Same H (upd H2 fd (.dT [])) := s12.trans (laid_same hfd)
    have hfd0 : H fd = none := s12.free hfd
    have fdd : fd ≠ d := fun z => by rw [z, hd] at hfd0; cases hfd0
    have bd : ∀ v, JM.beh (l.drop (n0 + 1)) v < 1000 := fun v => by
      have := List.length_filter_le (fun q => JM.touch q v) (l.drop (n0 + 1))
      rw [List.length_drop] at this
      unfold JM.beh
      omega
    refine ⟨d, _, s3 _ _ hd, True.intro, fun od => ?_⟩
    refine ⟨_, rfl, d, od, rfl, .inr ⟨kvs, upd_same, ?_⟩⟩
    let SetI : Nat → List Int → Prop := fun i s' => ∃ i' kv s o, i' < i ∧ kvs[i']? = some kv ∧ kv.1 = kI s ∧ (1 ≤ o ∧ o ≤ 3) ∧ Rch q (JM.beh (l.drop (n0 + 1)) q.1) (JM.beh (l.drop (n0 + 1)) q.2) s o s'
    refine for_keysT (d := d) (o := od) (kvs := kvs) (fun i σ H' => ∃ v7 v8 v9 kv, σ = [some (.ref d), some (.ref lb), some (.int (n0 : Int)), some (.ref o), some (.int (JM.beh (l.drop (n0 + 1)) q.1 : Int)), some (.int (JM.beh (l.drop (n0 + 1)) q.2 : Int)), some (.ref fd), v7, v8, v9] ∧
      (∀ b u, H b = some u → b ≠ d → H' b = some u) ∧ H' d = some (.frz od (.dT kvs)) ∧ H' fd = some (.dT kv) ∧ StD kv (SetI i) ∧ kv.length ≤ 3 * i)
      ⟨none, none, none, [], rfl, fun b u e n => by rw [upd_ne n]; exact s3 b u e, upd_same, by rw [upd_ne fdd]; exact upd_same, StD.nil.eq fun s => ⟨fun h => h.elim, fun ⟨i', _, _, _, h, _⟩ => by omega⟩, Nat.zero_le _⟩ (fun i σ H' ⟨_, _, _, _, _, _, h, _⟩ => h) ?_ ?_
    · rintro i ky v b σ HY hky ⟨v7, v8, v9, kv, rfl, kp, hdY, hfY, SY, lY⟩ hb
      have hi : i < kvs.length := (List.getElem?_eq_some_iff.mp hky).1
      obtain ⟨si, ek, hsi⟩ := SD.of (ky, v) (List.mem_of_getElem? hky)
      simp only at ek
      subst ek
      rw [kI_V] at hb
      have sl : si.length = n := hPr si hsi
      refine ⟨t.a_z38, rfl, ⟨_, T.T_z38 HY⟩, ?_⟩
      refine for_tup (K := K) (a := t.a_z38) (xs := [.int 1, .int 2, .int 3]) (fun j σ H' => ∃ v8 v9 kv, σ = [some (.ref d), some (.ref lb), some (.int (n0 : Int)), some (.ref o), some (.int (JM.beh (l.drop (n0 + 1)) q.1 : Int)), some (.int (JM.beh (l.drop (n0 + 1)) q.2 : Int)), some (.ref fd), some (.ref b), v8, v9] ∧
        (∀ b u, HY b = some u → b ≠ fd → H' b = some u) ∧ H' fd = some (.dT kv) ∧ StD kv (fun s' => SetI i s' ∨ ∃ o, (1 ≤ o ∧ o ≤ j) ∧ Rch q (JM.beh (l.drop (n0 + 1)) q.1) (JM.beh (l.drop (n0 + 1)) q.2) si o s') ∧ kv.length ≤ 3 * i + j)
        ⟨v8, v9, kv, rfl, fun b u e _ => e, hfY, SY.eq fun s => ⟨.inl, fun h => by rcases h with h | ⟨o, h, _⟩; exact h; omega⟩, by omega⟩ (fun j σ H' _ _ => T.T_z38 H') ?_ ?_
      · rintro j x σ H' hx ⟨v8, v9, kv, rfl, kq, hf', S', l'⟩
        have hj : j < 3 := by simpa using (List.getElem?_eq_some_iff.mp hx).1
        obtain rfl : x = .int ((j + 1 : Nat) : Int) := by
          have : j = 0 ∨ j = 1 ∨ j = 2 := by omega
          rcases this with r | r | r <;> subst r <;> simp at hx <;> rw [← hx] <;> rfl
        have bf : b ≠ fd := fun z => by rw [z, hfY] at hb; cases hb
        have oo : ∀ u, H o = some u → H' o = some u := fun u e => kq _ _ (kp _ _ e (fun z => by rw [z, hd] at e1; cases e1)) (fun z => by rw [z, hfd0] at e1; cases e1)
        refine ⟨_, rfl, _, rfl, _, rfl, ?_⟩
        refine ⟨b, .ref o, j + 1, n, si, q, rfl, kq _ _ hb bf, ⟨o, C, dx, fs, rfl, oo _ e1, cl, na, nb, ea, eb⟩, h12, by omega, by omega, fun H5 p s5 np hp => ?_⟩
        have ll : (JM.less si q (j + 1)).length = n := (JM.less_len _ _ _).trans sl
        obtain ⟨y1, hy1⟩ : ∃ y, (JM.less si q (j + 1))[q.1]? = some y := ⟨_, List.getElem?_eq_getElem (by omega)⟩
        obtain ⟨y2, hy2⟩ : ∃ y, (JM.less si q (j + 1))[q.2]? = some y := ⟨_, List.getElem?_eq_getElem (by omega)⟩
        have d1 : (JM.less si q (j + 1)).getD q.1 0 = y1 := by rw [List.getD, hy1]; rfl
        have d2 : (JM.less si q (j + 1)).getD q.2 0 = y2 := by rw [List.getD, hy2]; rfl
        have o5 := s5 _ _ (oo _ e1)
        have hf5 := s5 _ _ hf'
        have kq5 : ∀ b u, HY b = some u → b ≠ fd → H5 b = some u := fun b u e n => s5 _ _ (kq b u e n)
        have no : ¬ Rch q (JM.beh (l.drop (n0 + 1)) q.1) (JM.beh (l.drop (n0 + 1)) q.2) si (j + 1) (JM.less si q (j + 1)) → StD kv (fun s' => SetI i s' ∨ ∃ o, (1 ≤ o ∧ o ≤ j + 1) ∧ Rch q (JM.beh (l.drop (n0 + 1)) q.1) (JM.beh (l.drop (n0 + 1)) q.2) si o s') := fun hno => S'.eq fun s' => by
          constructor
          · rintro (h | ⟨o, h, r⟩)
            · exact .inl h
            · exact .inr ⟨o, ⟨h.1, by omega⟩, r⟩
          · rintro (h | ⟨o, h, r⟩)
            · exact .inl h
            · by_cases e : o = j + 1
              · subst e
                exact absurd (r.1 ▸ r) hno
              · exact .inr ⟨o, ⟨h.1, by omega⟩, r⟩
        refine ⟨_, rfl, _, rfl, o, C, dx, fs, _, rfl, o5, cl, na, ea, p, _, _, _, rfl, rfl, SqT.of hp, atI_nat (vI_get hy1), _, rfl, ?_⟩
        refine ⟨y1, _, rfl, bd _, ⟨_, rfl, ?_⟩⟩
        cases m1 : JM.met y1 (JM.beh (l.drop (n0 + 1)) q.1) with
        | false => exact ⟨_, _, kv, rfl, kq5, hf5, no (fun r => by have z := r.2.1; rw [d1, m1] at z; cases z), by omega⟩
        | true =>
          refine ⟨_, rfl, _, rfl, o, C, dx, fs, _, rfl, o5, cl, nb, eb, p, _, _, _, rfl, rfl, SqT.of hp, atI_nat (vI_get hy2), _, rfl, ?_⟩
          refine ⟨y2, _, rfl, bd _, ⟨_, rfl, ?_⟩⟩
          cases m2 : JM.met y2 (JM.beh (l.drop (n0 + 1)) q.2) with
          | false => exact ⟨_, _, kv, rfl, kq5, hf5, no (fun r => by have z := r.2.2; rw [d2, m2] at z; cases z), by omega⟩
          | true =>
            have r : Rch q (JM.beh (l.drop (n0 + 1)) q.1) (JM.beh (l.drop (n0 + 1)) q.2) si (j + 1) (JM.less si q (j + 1)) := ⟨rfl, by rw [d1]; exact m1, by rw [d2]; exact m2⟩
            refine ⟨_, rfl, _, rfl, fd, _, rfl, DPut.t (k := kI (JM.less si q (j + 1))) hf5 (by rw [kI_V]; exact hp) (by rw [sizeLine_eq]; omega), ?_⟩
            refine ⟨_, _, _, rfl, fun b u e n => by rw [upd_ne n]; exact kq5 b u e n, upd_same, (S'.put _ _).eq fun s' => ?_, ?_⟩
            · constructor
              · rintro ((h | ⟨o, h, r'⟩) | h)
                · exact .inl h
                · exact .inr ⟨o, ⟨h.1, by omega⟩, r'⟩
                · subst h; exact .inr ⟨j + 1, ⟨by omega, by omega⟩, r⟩
              · rintro (h | ⟨o, h, r'⟩)
                · exact .inl (.inl h)
                · by_cases e : o = j + 1
                  · subst e; exact .inr r'.1
                  · exact .inl (.inr ⟨o, ⟨h.1, by omega⟩, r'⟩)
            · have := length_putK kv (kI (JM.less si q (j + 1))) (V.bl true)
              omega
      · rintro σ H' ⟨v8, v9, kv, rfl, kq, hf', S', l'⟩
        refine ⟨_, _, _, kv, rfl, fun b' u e n => kq b' u (kp b' u e n) (fun z => by rw [z, hfd0] at e; cases e), kq _ _ hdY (Ne.symm fdd), hf', S'.eq fun s' => ?_, ?_⟩
        · constructor
          · rintro (⟨i', kv', s, o, h1, h2, h3, h4, h5⟩ | ⟨o, h, r⟩)
            · exact ⟨i', kv', s, o, by omega, h2, h3, h4, h5⟩
            · exact ⟨i, _, si, o, by omega, hky, rfl, ⟨h.1, h.2⟩, r⟩
          · rintro ⟨i', kv', s, o, h1, h2, h3, h4, h5⟩
            by_cases e : i' = i
            · subst e
              rw [hky] at h2
              cases h2
              have := kI_inj h3
              subst this
              exact .inr ⟨o, h4, h5⟩
            · exact .inl ⟨i', kv', s, o, by omega, h2, h3, h4, h5⟩
        · have : ([V.int 1, V.int 2, V.int 3] : List V).length = 3 := rfl
          omega
    · rintro σ H' ⟨v7, v8, v9, kv, rfl, kp, hd', hf', S', l'⟩
      refine ⟨hd', _, rfl, k _ fd kv (fun b u e => ?_) hfd0 (by rw [upd_ne fdd]; exact hf') (S'.eq fun s' => ?_) l'⟩
      · by_cases z : b = d
        · subst z
          rw [hd] at e
          cases e
          exact upd_same
        · rw [upd_ne z]
          exact kp b u e z
      · constructor
        · rintro ⟨i', kv', s, o, h1, h2, h3, h4, h5⟩
          obtain ⟨s2', e, p⟩ := SD.of kv' (List.mem_of_getElem? h2)
          have : s = s2' := kI_inj (h3.symm.trans e)
          subst this
          exact ⟨s, o, p, h4, h5⟩
        · rintro ⟨s, o, p, h4, h5⟩
          obtain ⟨kv', h1, h2⟩ := valV_key (SD.all s p)
          obtain ⟨i', h3⟩ := List.getElem?_of_mem h1
          exact ⟨i', kv', s, o, (List.getElem?_eq_some_iff.mp h3).1, h3, h2, h4, h5⟩
end
end MP
namespace MP
open PySem PySem.Spec PyProof.Rows L2
open XL (excTail)
open Fk (Fault Bytes numIn need andThen Atom Bond Mol)
theorem bits3_or (P : Nat → Prop) {o : Nat} (h1 : 1 ≤ o) (h3 : o ≤ 3) : Builtin.bitOr (JM.bits3 P : Int) ((2 ^ (o - 1) : Nat) : Int) = (JM.bits3 (fun x => P x ∨ x = o) : Int) := by
  have : o = 1 ∨ o = 2 ∨ o = 3 := by omega
  unfold JM.bits3
  by_cases p1 : P 1 <;> by_cases p2 : P 2 <;> by_cases p3 : P 3 <;> rcases this with r | r | r <;> subst r <;> simp [p1, p2, p3] <;> decide
theorem bits3_eq {P P' : Nat → Prop} (h : ∀ o, 1 ≤ o → o ≤ 3 → (P o ↔ P' o)) : JM.bits3 P = JM.bits3 P' := by
  have h1 := h 1 (by decide) (by decide)
  have h2 := h 2 (by decide) (by decide)
  have h3 := h 3 (by decide) (by decide)
  have e1 := propext h1
  have e2 := propext h2
  have e3 := propext h3
  unfold JM.bits3
  rw [e1, e2, e3]
theorem bits3_none {P : Nat → Prop} (h : ∀ o, ¬ P o) : JM.bits3 P = 0 := by
  unfold JM.bits3
  simp [h]
end MP
namespace MP
open PySem PySem.Spec PyProof.Rows L2
open XL (excTail)
open Fk (Fault Bytes numIn need andThen Atom Bond Mol)
section
variable {P : Program} {w : World} {K : PySem.W.Frag} {mg : Str → Option Value} {base : Heap} {t : Ad}
noncomputable def foundOf (S : List Int) (bs : List (Nat × Nat)) : List Int := (List.range bs.length).map fun k => (JM.bits3 (JM.Found S bs k) : Int)
def spRedrawn (K : PySem.W.Frag) : Sp := fun vs H Q _ => ∃ (ls lb : Addr) (n : Nat) (S : List Int) (us : List V) (bs : List (Nat × Nat)), vs = [.ref ls, .ref lb] ∧ H ls = some (.lst (vI S)) ∧ S.length = n ∧ n ≤ 1000 ∧ BondsAt K H lb us bs ∧ bs.length ≤ 12 ∧
  (∀ q ∈ bs, q.1 < q.2 ∧ q.2 < n) ∧ ∀ H' l, Same H H' → H l = none → H' l = some (.lst (vI (foundOf S bs))) → Q (.ref l) H'
theorem sc_redrawn : FnScope ["sums", "bonds", "levels", "k", "found", "ending_well", "ahead", "state", "order"] ["sums", "bonds"] (defScope s_z75) := ⟨rfl, rfl, rfl, by decide +kernel, rfl, by decide +kernel, by decide +kernel⟩
theorem ok_redrawn (T : Txt K mg t) : FnOk P w K mg base CX0 3 t.f_z75 t.d_z75 ["sums", "bonds"] (spRedrawn K) := by
  have GS : FnOk P w K mg base CX0 2 t.f_z78 t.d_z78 ["states", "bonds", "k"] (spStates K) := ok_states T
  have GL : FnOk P w K mg base CX0 1 t.f_z66 t.d_z66 ["state", "bond", "order"] (spLess K) := ok_less T
  have GB : FnOk P w K mg base CX0 1 t.f_z70 t.d_z70 ["order"] spBit := ok_bit T
  refine T.F_z75.ok sc_redrawn (fun vs H Q E h => ?_) (fun cdv A outer s H vs Q E hr h => ?_)
  · obtain ⟨ls, lb, n, S, us, bs, rfl, _⟩ := h
    rfl
  · obtain ⟨ls, lb, n, S, us, bs, rfl, hls, hS, hn, B, hm, hbs, k⟩ := h
    have hu := hr.un
    have hu' : (A.deeper (envOfC "redrawn_orders" (defScope s_z75) s.heap.objs.size t.f_z75 cdv)).units + 1 < cLine := by omega
    have hr1 : Room 1 _ := hr.mono (by decide)
    refine ⟨_, pss_cons (ps_set (i := 2) sc_redrawn.nd rfl (Or.inl rfl) (pe_lst (pa_cons (pe_disp1 hu' (pe_callTy call_tuple_of (by rfl) T.b_tuple PyProof.Rows.boot_tuple (pa_cons (pv 0) pa_nil)) pe_bl) pa_nil)))
      (pss_cons (ps_for PassesOwn.never rfl (pi_range1 rfl T.b_range (pa_cons (pe_callB call_len_seq (by rfl) T.b_len PySem.boot_len (pa_cons (pv 1) pa_nil)) pa_nil)) (pg_name (i := 3) sc_redrawn.nd rfl (Or.inl rfl))
        (pss_one (ps_expr (pe_bm PySem.F.plainAttrs_list PySem.F.slot_list_append PySem.F.type_list_append mt_append (pv 2) (pa_cons (pe_call GS hr rfl T.g_z78 T.F_z78.kp T.B_z78 .nil pass0 (pa_cons (pe_ix ix_list (pv 2) (pv 3) (fun _ _ => rfl)) (pa_cons (pv 1) (pa_cons (pv 3) pa_nil)))) pa_nil)))))
      (pss_cons (ps_set (i := 4) sc_redrawn.nd rfl (Or.inl rfl) (pe_op op_rep (pe_lst (pa_cons pe_int pa_nil)) (pe_callB call_len_seq (by rfl) T.b_len PySem.boot_len (pa_cons (pv 1) pa_nil))))
      (pss_cons (ps_set (i := 5) sc_redrawn.nd rfl (Or.inl rfl) (pe_ix ix_list (pv 2) (pe_callB call_len_seq (by rfl) T.b_len PySem.boot_len (pa_cons (pv 1) pa_nil)) (fun _ _ => rfl)))
      (pss_cons (ps_for PassesOwn.never rfl (pi_range3 rfl T.b_range (pa_cons (pe_op op_sub (pe_callB call_len_seq (by rfl) T.b_len PySem.boot_len (pa_cons (pv 1) pa_nil)) pe_int) (pa_cons (pe_un un_neg pe_int) (pa_cons (pe_un un_neg pe_int) pa_nil)))) (pg_name (i := 3) sc_redrawn.nd rfl (Or.inl rfl))
        (pss_cons (ps_set (i := 6) sc_redrawn.nd rfl (Or.inl rfl) pe_dnewT)
        (pss_cons (ps_lock (ps_for PassesOwn.never rfl (pi_keys (pe_ix ix_list (pv 2) (pv 3) (fun _ _ => rfl))) (pg_name (i := 7) sc_redrawn.nd rfl (Or.inl rfl))
          (pss_one (ps_for PassesOwn.never rfl (pi_tup (pe_glob rfl T.g_z38 (v := .ref t.a_z38) rfl)) (pg_name (i := 8) sc_redrawn.nd rfl (Or.inl rfl))
            (pss_one (ps_if (pt_cmp (pc_din hu' (pe_call GL hr1 rfl T.g_z66 T.F_z66.kp T.B_z66 .nil pass0 (pa_cons (pv 7) (pa_cons (pe_ix ix_list (pv 1) (pv 3) (fun _ _ => rfl)) (pa_cons (pv 8) pa_nil)))) (pv 5)))
              (pss_cons (ps_asg (pe_op op_or (pe_ix ix_list (pv 4) (pv 3) (fun _ _ => rfl)) (pe_call GB hr1 rfl T.g_z70 T.F_z70.kp T.B_z70 .nil pass0 (pa_cons (pv 8) pa_nil))) (pg_sub (pv 4) (pv 3) set_list))
              (pss_one (ps_dput hu' (pv 6) (pv 7) pe_bl rfl))) pss_nil))))))
        (pss_one (ps_set (i := 5) sc_redrawn.nd rfl (Or.inl rfl) (pv 6))))))
      (pss_one (ps_ret (pv 4))))))), ?_⟩
    intro d0 hd0
    have sa : Same H (upd H d0 (.dT [])) := laid_same hd0
    refine ⟨_, rfl, ls, _, rfl, .inl ⟨SqL.of (sa _ _ hls), fun pt hpt => ?_⟩⟩
    have sb : Same H (upd (upd H d0 (.dT [])) pt (.tup (vI S))) := sa.trans (laid_same hpt)
    have d0pt : d0 ≠ pt := fun z => by rw [← z, upd_same] at hpt; cases hpt
    refine ⟨by rw [upd_ne d0pt]; exact upd_same, kI S, pt, _, rfl, by rw [upd_same, kI_V], ?_⟩
    have sc : Same H (upd (upd (upd H d0 (.dT [])) pt (.tup (vI S))) d0 (.dT [(kI S, V.bl true)])) := fun b u e => by rw [upd_ne (ne_of_none e hd0)]; exact sb b u e
    refine ⟨by show 1 ≤ sizeLine; decide, fun ll hll => ?_⟩
    have sd : Same H (upd (upd (upd (upd H d0 (.dT [])) pt (.tup (vI S))) d0 (.dT [(kI S, V.bl true)])) ll (.lst [.ref d0])) := sc.trans (laid_same hll)
    have hll0 : H ll = none := sc.free hll
    have Lv : ∀ {H1 H2 : Hp} {ds : List Addr}, (∀ (j : Nat) d, ds[j]? = some d → ∃ kvs, H1 d = some (.dT kvs) ∧ StD kvs (JM.Lev S bs j) ∧ kvs.length ≤ 3 ^ j) → (∀ b kvs, H1 b = some (.dT kvs) → H2 b = some (.dT kvs)) → ∀ (j : Nat) d, ds[j]? = some d → ∃ kvs, H2 d = some (.dT kvs) ∧ StD kvs (JM.Lev S bs j) ∧ kvs.length ≤ 3 ^ j :=
      fun L f j d hd => let ⟨kvs, a, b⟩ := L j d hd; ⟨kvs, f _ _ a, b⟩
    have mlen : us.length = bs.length := B.2.1
    refine ⟨_, rfl, lb, us, rfl, .inl (SqL.of (sd _ _ B.1)), (us.length : Int), rfl, by omega, by omega, ?_⟩
    rw [Int.toNat_natCast]
    refine for_range (n := us.length) (fun i σ H' => ∃ vk ds, σ = [some (.ref ls), some (.ref lb), some (.ref ll), vk, none, none, none, none, none] ∧ Same H H' ∧ H' ll = some (.lst (ds.map V.ref)) ∧ ds.length = i + 1 ∧
      ∀ (j : Nat) d, ds[j]? = some d → ∃ kvs, H' d = some (.dT kvs) ∧ StD kvs (JM.Lev S bs j) ∧ kvs.length ≤ 3 ^ j) ⟨none, [d0], rfl, sd, upd_same, rfl, fun j d hd => ?_⟩ ?_ ?_
    · cases j with
      | succ j => simp at hd
      | zero =>
        obtain rfl : d0 = d := by simpa using hd
        have dl : d0 ≠ ll := fun z => by rw [← z, upd_same] at hll; cases hll
        refine ⟨[(kI S, V.bl true)], by rw [upd_ne dl]; exact upd_same, ⟨fun kv hk => ⟨S, by rw [List.mem_singleton.mp hk], rfl⟩, fun s hs => ?_⟩, Nat.le_refl _⟩
        rw [show s = S from hs, valV_pos rfl]
        rfl
    · rintro i σ H' hi ⟨vk, ds, rfl, sm, hl', hds, L⟩
      obtain ⟨di, hdi⟩ : ∃ d, ds[i]? = some d := ⟨_, List.getElem?_eq_getElem (by omega)⟩
      obtain ⟨kvs, hk, SD, hkl⟩ := L i di hdi
      have hi' : i < bs.length := by omega
      obtain ⟨q, hq⟩ : ∃ q, bs[i]? = some q := ⟨_, List.getElem?_eq_getElem hi'⟩
      have hqb := hbs q (List.mem_of_getElem? hq)
      have p3 : 3 ^ i ≤ 3 ^ 11 := Nat.pow_le_pow_right (by decide) (by omega)
      have e1 : (ds.map V.ref)[i]? = some (V.ref di) := by rw [List.getElem?_map, hdi]; rfl
      rw [Int.zero_add]
      have p11 : (3 : Nat) ^ 11 = 177147 := by decide
      have pk : 3 * kvs.length ≤ 10000000 := by omega
      refine ⟨_, rfl, .inl ⟨rfl, _, SqL.of hl'⟩, _, rfl, _, rfl, ll, _, _, _, rfl, rfl, SqL.of hl', atI_nat e1, _, rfl, _, rfl, ?_⟩
      refine ⟨di, lb, i, n, kvs, JM.Lev S bs i, us, bs, q, rfl, hk, SD, fun s hs => hs.len.trans hS, B.same sm, hq, by omega, hn, hqb.1, hqb.2, pk, fun H2 d' kvs' s2 nd' hd' SD' hl2 => ?_⟩
      have hl2' := s2 _ _ hl'
      refine ⟨ll, _, _, rfl, rfl, hl2', by rw [sizeLine_eq, List.length_map]; omega, ?_⟩
      have dl : ∀ b kvs, H2 b = some (.dT kvs) → b ≠ ll := fun b kvs e z => by rw [z, hl2'] at e; cases e
      refine ⟨_, ds ++ [d'], rfl, fun b u e => by rw [upd_ne (ne_of_none e hll0)]; exact s2 _ _ (sm b u e), by rw [upd_same]; simp, by simp [hds], fun j d hd => ?_⟩
      rcases Nat.lt_or_ge j ds.length with hj | hj
      · rw [List.getElem?_append_left hj] at hd
        obtain ⟨kv2, a, b, c⟩ := L j d hd
        exact ⟨kv2, by rw [upd_ne (dl _ _ (s2 _ _ a))]; exact s2 _ _ a, b, c⟩
      · have ej : j = ds.length := by
          have := (List.getElem?_eq_some_iff.mp hd).1
          simp at this
          omega
        subst ej
        rw [List.getElem?_append_right (Nat.le_refl _), Nat.sub_self] at hd
        obtain rfl : d' = d := by simpa using hd
        refine ⟨kvs', by rw [upd_ne (dl _ _ hd')]; exact hd', ?_, ?_⟩
        · rw [hds]
          refine SD'.eq fun s' => ?_
          constructor
          · rintro ⟨s, o, h1, h2, h3, h4, h5⟩
            exact ⟨s, q, o, h1, hq, h2, h3, h4, h5⟩
          · rintro ⟨s, q', o, h1, h6, h2, h3, h4, h5⟩
            rw [hq] at h6
            cases h6
            exact ⟨s, o, h1, h2, h3, h4, h5⟩
        · rw [hds, Nat.pow_succ]
          omega
    · rintro σ H1 ⟨vk, ds, rfl, sm, hl1, hds, L⟩
      refine ⟨by show 1 ≤ sizeLine; decide, fun p0 hp0 => ?_⟩
      have s1 : Same H1 (upd H1 p0 (.lst [V.int 0])) := laid_same hp0
      refine ⟨_, rfl, lb, us, rfl, .inl (SqL.of (s1 _ _ (sm _ _ B.1))), p0, _, _, rfl, rfl, upd_same, by omega, by omega, by rw [sizeLine_eq]; simp; omega, fun lf hlf => ?_⟩
      rw [Int.toNat_natCast, zeros]
      have s2 : Same H1 (upd (upd H1 p0 (.lst [V.int 0])) lf (.lst (vI (sumsOf us.length [])))) := s1.trans (laid_same hlf)
      have hlf1 : H1 lf = none := s1.free hlf
      have hlf0 : H lf = none := sm.free hlf1
      obtain ⟨dm, hdm⟩ : ∃ d, ds[us.length]? = some d := ⟨_, List.getElem?_eq_getElem (by omega)⟩
      have em : (ds.map V.ref)[us.length]? = some (V.ref dm) := by rw [List.getElem?_map, hdm]; rfl
      refine ⟨_, rfl, _, rfl, lb, us, rfl, .inl (SqL.of (s2 _ _ (sm _ _ B.1))), ll, _, _, _, rfl, rfl, SqL.of (s2 _ _ hl1), atI_nat em, ?_⟩
      obtain ⟨kvm, hkm, SDm, _⟩ := L us.length dm hdm
      refine ⟨_, rfl, lb, us, rfl, .inl (SqL.of (s2 _ _ (sm _ _ B.1))), _, _, rfl, rfl, _, rfl, _, rfl, _, _, _, _, rfl, RgC.neg (by omega) (by omega) (by omega) (by omega), ?_⟩
      rw [show ((us.length : Int) - 1 - -1).toNat = us.length by omega]
      let fl : Nat → Nat → Int := fun i k => if us.length - i ≤ k then (JM.bits3 (JM.Found S bs k) : Int) else 0
      refine for_rangeC (n := us.length) (fun i σ H' => ∃ vk v6 v7 v8 ew kvE, σ = [some (.ref ls), some (.ref lb), some (.ref ll), vk, some (.ref lf), some (.ref ew), v6, v7, v8] ∧ Same H H' ∧ H' ll = some (.lst (ds.map V.ref)) ∧
        (∀ (j : Nat) d, ds[j]? = some d → ∃ kvs, H' d = some (.dT kvs) ∧ StD kvs (JM.Lev S bs j) ∧ kvs.length ≤ 3 ^ j) ∧ H' lf = some (.lst (vI ((List.range us.length).map (fl i)))) ∧ H' ew = some (.dT kvE) ∧ StD kvE (JM.Wel S bs i))
        ⟨_, none, none, none, dm, kvm, rfl, sm.trans s2, s2 _ _ hl1, Lv L (fun b kvs e => s2 _ _ e), ?_, s2 _ _ hkm, ?_⟩ ?_ ?_
      · rw [upd_same]
        congr 3
        refine List.map_congr_left fun u hu => ?_
        have : u < us.length := List.mem_range.mp hu
        show (JM.csum [] u : Int) = if us.length - 0 ≤ u then _ else _
        rw [if_neg (by omega)]
        rfl
      · show StD kvm (JM.Lev S bs bs.length)
        rw [← mlen]
        exact SDm
      · rintro i σ H' hi ⟨vk, v6, v7, v8, ew, kvE, rfl, sm', hl', L', hf', he', SE⟩
        rw [show (us.length : Int) - 1 + (i : Nat) * -1 = ((us.length - 1 - i : Nat) : Int) by omega]
        have hk : us.length - 1 - i < us.length := by omega
        have hkb : us.length - 1 - i < bs.length := by omega
        obtain ⟨d, hd⟩ : ∃ d, ds[us.length - 1 - i]? = some d := ⟨_, List.getElem?_eq_getElem (by omega)⟩
        have ed : (ds.map V.ref)[us.length - 1 - i]? = some (V.ref d) := by rw [List.getElem?_map, hd]; rfl
        obtain ⟨kvs, hkv, SD, hkl⟩ := L' _ d hd
        have p3 : 3 ^ (us.length - 1 - i) ≤ 3 ^ 12 := Nat.pow_le_pow_right (by decide) (by omega)
        have p12 : (3 : Nat) ^ 12 = 531441 := by decide
        obtain ⟨q, hq⟩ : ∃ q, bs[us.length - 1 - i]? = some q := ⟨_, List.getElem?_eq_getElem hkb⟩
        have hqb := hbs q (List.mem_of_getElem? hq)
        obtain ⟨bv, hbv⟩ : ∃ v, us[us.length - 1 - i]? = some v := ⟨_, List.getElem?_eq_getElem hk⟩
        have ek : bs.length - (i + 1) = us.length - 1 - i := by omega
        have ek2 : bs.length - (us.length - 1 - i + 1) = i := by omega
        intro ah hah
        have sh : Same H' (upd H' ah (.dT [])) := laid_same hah
        have ne_d : ∀ {b u}, H' b = some u → (∀ kvs, u ≠ .dT kvs) → b ≠ d := fun {b u} e n z => by rw [z, hkv] at e; cases e; exact n _ rfl
        have ahd : ah ≠ d := fun z => by rw [z, hkv] at hah; cases hah
        have ahf : ah ≠ lf := fun z => by rw [z, hf'] at hah; cases hah
        have lfd : lf ≠ d := ne_d hf' (fun _ z => by cases z)
        have lld : ll ≠ d := ne_d hl' (fun _ z => by cases z)
        have llf : ll ≠ lf := fun z => by rw [z, hlf1] at hl1; cases hl1
        have lbf : lb ≠ lf := ne_of_none B.1 hlf0
        have lbd : lb ≠ d := ne_d (sm' _ _ B.1) (fun _ z => by cases z)
        have ewf : ew ≠ lf := fun z => by rw [z, hf'] at he'; cases he'
        refine ⟨d, _, sh _ _ hkv, True.intro, fun od => ?_⟩
        refine ⟨_, rfl, _, rfl, ll, _, _, _, rfl, rfl, SqL.of (by rw [upd_ne lld]; exact sh _ _ hl'), atI_nat ed, d, od, rfl, .inr ⟨kvs, upd_same, ?_⟩⟩
        let FA : Nat → Nat → Prop := fun a o => ∃ a' kv s, a' < a ∧ kvs[a']? = some kv ∧ kv.1 = kI s ∧ JM.Wel S bs i (JM.less s q o)
        let SA : Nat → List Int → Prop := fun a s => ∃ a' kv, a' < a ∧ kvs[a']? = some kv ∧ kv.1 = kI s ∧ ∃ o, (1 ≤ o ∧ o ≤ 3) ∧ JM.Wel S bs i (JM.less s q o)
        refine for_keysT (d := d) (o := od) (kvs := kvs) (fun a σ H3 => ∃ v7 v8 kvA, σ = [some (.ref ls), some (.ref lb), some (.ref ll), some (.int ((us.length - 1 - i : Nat) : Int)), some (.ref lf), some (.ref ew), some (.ref ah), v7, v8] ∧
          (∀ b u, H' b = some u → b ≠ d → b ≠ lf → H3 b = some u) ∧ H3 d = some (.frz od (.dT kvs)) ∧ H3 lf = some (.lst (vI (((List.range us.length).map (fl i)).set (us.length - 1 - i) (JM.bits3 (FA a) : Int)))) ∧ H3 ah = some (.dT kvA) ∧ StD kvA (SA a) ∧ kvA.length ≤ 3 * a)
          ⟨v7, v8, [], rfl, fun b u e n _ => by rw [upd_ne n]; exact sh _ _ e, upd_same, ?_, by rw [upd_ne ahd]; exact upd_same, StD.nil.eq fun s => ⟨fun h => h.elim, fun ⟨a', _, h, _⟩ => by omega⟩, Nat.zero_le _⟩ (fun a σ H3 ⟨_, _, _, _, _, h, _⟩ => h) ?_ ?_
        · rw [upd_ne lfd, upd_ne (Ne.symm ahf), hf', bits3_none (P := FA 0) (fun o ⟨a', _, _, h, _⟩ => by omega), sums_set]
          congr 3
          refine List.map_congr_left fun u hu => ?_
          by_cases e : u = us.length - 1 - i
          · rw [if_pos e]
            show (if us.length - i ≤ u then _ else _) = _
            rw [if_neg (by omega)]
            rfl
          · rw [if_neg e]
        · rintro a ky v b σ H3 hky ⟨v7, v8, kvA, rfl, kp, hd3, hf3, ha3, SA3, lA3⟩ hb
          have hal : a < kvs.length := (List.getElem?_eq_some_iff.mp hky).1
          obtain ⟨si, esi, hsi⟩ := SD.of (ky, v) (List.mem_of_getElem? hky)
          simp only at esi
          subst esi
          rw [kI_V] at hb
          have sl : si.length = n := hsi.len.trans hS
          have bah : b ≠ ah := fun z => by rw [z, ha3] at hb; cases hb
          have blf : b ≠ lf := fun z => by rw [z, hf3] at hb; cases hb
          have dah : d ≠ ah := Ne.symm ahd
          have dlf : d ≠ lf := Ne.symm lfd
          refine ⟨t.a_z38, rfl, ⟨_, T.T_z38 H3⟩, ?_⟩
          let FJ : Nat → Nat → Prop := fun j o => FA a o ∨ ((1 ≤ o ∧ o ≤ j) ∧ JM.Wel S bs i (JM.less si q o))
          let SJ : Nat → List Int → Prop := fun j s => SA a s ∨ (s = si ∧ ∃ o, (1 ≤ o ∧ o ≤ j) ∧ JM.Wel S bs i (JM.less si q o))
          refine for_tup (K := K) (a := t.a_z38) (xs := [.int 1, .int 2, .int 3]) (fun j σ H4 => ∃ v8 kvA, σ = [some (.ref ls), some (.ref lb), some (.ref ll), some (.int ((us.length - 1 - i : Nat) : Int)), some (.ref lf), some (.ref ew), some (.ref ah), some (.ref b), v8] ∧
            (∀ b u, H3 b = some u → b ≠ ah → b ≠ lf → H4 b = some u) ∧ H4 lf = some (.lst (vI (((List.range us.length).map (fl i)).set (us.length - 1 - i) (JM.bits3 (FJ j) : Int)))) ∧ H4 ah = some (.dT kvA) ∧ StD kvA (SJ j) ∧ kvA.length ≤ 3 * a + j)
            ⟨v8, kvA, rfl, fun b u e _ _ => e, ?_, ha3, SA3.eq fun s => ⟨.inl, fun h => by rcases h with h | ⟨_, o, h, _⟩; exact h; omega⟩, by omega⟩ (fun j σ H' _ _ => T.T_z38 H') ?_ ?_
          · rw [hf3, bits3_eq (P := FA a) (P' := FJ 0) fun o h1 _ => ⟨.inl, fun h => by rcases h with h | ⟨h, _⟩; exact h; omega⟩]
          · rintro j x σ H4 hx ⟨v8, kvA, rfl, kq, hf4, ha4, S4, l4⟩
            have hj : j < 3 := by simpa using (List.getElem?_eq_some_iff.mp hx).1
            obtain rfl : x = .int ((j + 1 : Nat) : Int) := by
              have : j = 0 ∨ j = 1 ∨ j = 2 := by omega
              rcases this with r | r | r <;> subst r <;> simp at hx <;> rw [← hx] <;> rfl
            have k4 : ∀ b u, H' b = some u → b ≠ d → b ≠ lf → H4 b = some u := fun b u e n1 n2 => kq _ _ (kp b u e n1 n2) (ne_of_none e hah) n2
            have B4 : H4 lb = some (.lst us) := k4 _ _ (sm' _ _ B.1) lbd lbf
            have en := B.2.2 _ bv q hbv hq
            have en4 : EndsAt K H4 bv q := by
              obtain ⟨o, C, dx, fs, e0, e1, rest⟩ := en
              exact ⟨o, C, dx, fs, e0, k4 _ _ (sm' _ _ e1) (ne_d (sm' _ _ e1) (fun _ z => by cases z)) (ne_of_none e1 hlf0), rest⟩
            refine ⟨_, rfl, _, rfl, _, rfl, lb, us, _, _, rfl, rfl, SqL.of B4, atI_nat hbv, _, rfl, ?_⟩
            refine ⟨b, bv, j + 1, n, si, q, rfl, kq _ _ hb bah blf, en4, hqb.1, by omega, by omega, fun H5 p s5 np hp => ?_⟩
            have hf5 := s5 _ _ hf4
            have ha5 := s5 _ _ ha4
            have kq5 : ∀ b u, H3 b = some u → b ≠ ah → b ≠ lf → H5 b = some u := fun b u e n1 n2 => s5 _ _ (kq b u e n1 n2)
            have rdE : Rd H5 ew (.dT kvE) := by
              by_cases z : ew = d
              · have : kvE = kvs := by rw [z, hkv] at he'; cases he'; rfl
                rw [z, this]
                exact .inr ⟨od, kq5 _ _ hd3 dah dlf⟩
              · exact .inl (s5 _ _ (k4 _ _ he' z ewf))
            refine ⟨_, rfl, ew, _, rfl, .inr ⟨kvE, kI (JM.less si q (j + 1)), p, rdE, rfl, by rw [kI_V]; exact hp, rfl⟩, _, rfl, ?_⟩
            have iffW := SE.iff (JM.less si q (j + 1))
            have orJ : ∀ (W : Prop), (W ↔ JM.Wel S bs i (JM.less si q (j + 1))) → ∀ o, FJ (j + 1) o ↔ (FJ j o ∨ (W ∧ o = j + 1)) := fun W hW o => by
              constructor
              · rintro (h | ⟨h, w⟩)
                · exact .inl (.inl h)
                · by_cases e : o = j + 1
                  · subst e; exact .inr ⟨hW.mpr w, rfl⟩
                  · exact .inl (.inr ⟨⟨h.1, by omega⟩, w⟩)
              · rintro ((h | ⟨h, w⟩) | ⟨w, rfl⟩)
                · exact .inl h
                · exact .inr ⟨⟨h.1, by omega⟩, w⟩
                · exact .inr ⟨⟨by omega, by omega⟩, hW.mp w⟩
            have orS : ∀ (W : Prop), (W ↔ JM.Wel S bs i (JM.less si q (j + 1))) → ∀ s, SJ (j + 1) s ↔ (SJ j s ∨ (W ∧ s = si)) := fun W hW s => by
              constructor
              · rintro (h | ⟨h, o, h2, w⟩)
                · exact .inl (.inl h)
                · by_cases e : o = j + 1
                  · subst e; exact .inr ⟨hW.mpr w, h⟩
                  · exact .inl (.inr ⟨h, o, ⟨h2.1, by omega⟩, w⟩)
              · rintro ((h | ⟨h, o, h2, w⟩) | ⟨w, rfl⟩)
                · exact .inl h
                · exact .inr ⟨h, o, ⟨h2.1, by omega⟩, w⟩
                · exact .inr ⟨rfl, j + 1, ⟨by omega, by omega⟩, hW.mp w⟩
            cases hin : (valV kvE (kI (JM.less si q (j + 1)))).isSome with
            | false =>
              have nW : ¬ JM.Wel S bs i (JM.less si q (j + 1)) := fun w => by rw [iffW.mpr w] at hin; cases hin
              have wF : False ↔ JM.Wel S bs i (JM.less si q (j + 1)) := ⟨False.elim, nW⟩
              refine ⟨_, kvA, rfl, kq5, ?_, ha5, S4.eq fun s => ?_, by omega⟩
              · rw [hf5, bits3_eq (P := FJ j) (P' := FJ (j + 1)) fun o _ _ => by rw [orJ False wF o]; simp]
              · rw [orS False wF s]; simp
            | true =>
              have hW := iffW.mp hin
              have wT : True ↔ JM.Wel S bs i (JM.less si q (j + 1)) := ⟨fun _ => hW, fun _ => trivial⟩
              have gk : (vI (((List.range us.length).map (fl i)).set (us.length - 1 - i) (JM.bits3 (FJ j) : Int)))[us.length - 1 - i]? = some (.int (JM.bits3 (FJ j) : Int)) := vI_get (by rw [List.getElem?_set_self (by simp; exact hk)])
              refine ⟨_, rfl, _, rfl, lf, _, _, _, rfl, rfl, SqL.of hf5, atI_nat gk, _, rfl, ?_⟩
              refine ⟨j + 1, rfl, by omega, by omega, _, _, rfl, rfl, ?_⟩
              refine ⟨_, rfl, _, rfl, lf, _, _, us.length - 1 - i, rfl, rfl, hf5, ixN_nat (by simp [vI]; omega), ?_⟩
              rw [vI_set, bits3_or _ (by omega) (by omega), List.set_set]
              refine ⟨_, rfl, _, rfl, ah, _, rfl, DPut.t (k := kI si) (by rw [upd_ne ahf]; exact ha5) (by rw [upd_ne blf, kI_V]; exact kq5 _ _ hb bah blf) (by rw [sizeLine_eq]; omega), ?_⟩
              refine ⟨_, _, rfl, fun b u e n1 n2 => by rw [upd_ne n1, upd_ne n2]; exact kq5 b u e n1 n2, ?_, upd_same, (S4.put _ _).eq fun s => ?_, ?_⟩
              · rw [upd_ne (Ne.symm ahf), upd_same, bits3_eq (P := fun x => FJ j x ∨ x = j + 1) (P' := FJ (j + 1)) fun o _ _ => by rw [orJ True wT o]; simp]
              · rw [orS True wT s]; simp
              · have := length_putK kvA (kI si) (V.bl true)
                omega
          · rintro σ H4 ⟨v8, kvA, rfl, kq, hf4, ha4, S4, l4⟩
            have l3 : ([V.int 1, V.int 2, V.int 3] : List V).length = 3 := rfl
            rw [l3] at hf4 S4 l4
            refine ⟨_, _, kvA, rfl, fun b' u e n1 n2 => kq _ _ (kp b' u e n1 n2) (ne_of_none e hah) n2, kq _ _ hd3 dah dlf, ?_, ha4, S4.eq fun s => ?_, by omega⟩
            · rw [hf4, bits3_eq (P := FJ 3) (P' := FA (a + 1)) fun o h1 h3 => ?_]
              constructor
              · rintro (⟨a', kv, s, g1, g2, g3, g4⟩ | ⟨_, w⟩)
                · exact ⟨a', kv, s, by omega, g2, g3, g4⟩
                · exact ⟨a, _, si, by omega, hky, rfl, w⟩
              · rintro ⟨a', kv, s, g1, g2, g3, g4⟩
                by_cases e : a' = a
                · subst e
                  rw [hky] at g2
                  cases g2
                  have := kI_inj g3
                  subst this
                  exact .inr ⟨⟨h1, h3⟩, g4⟩
                · exact .inl ⟨a', kv, s, by omega, g2, g3, g4⟩
            · constructor
              · rintro (⟨a', kv, g1, g2, g3, g4⟩ | ⟨rfl, o, h, w⟩)
                · exact ⟨a', kv, by omega, g2, g3, g4⟩
                · exact ⟨a, _, by omega, hky, rfl, o, h, w⟩
              · rintro ⟨a', kv, g1, g2, g3, o, h, w⟩
                by_cases e : a' = a
                · subst e
                  rw [hky] at g2
                  cases g2
                  have := kI_inj g3
                  subst this
                  exact .inr ⟨rfl, o, h, w⟩
                · exact .inl ⟨a', kv, by omega, g2, g3, o, h, w⟩
        · rintro σ H3 ⟨v7, v8, kvA, rfl, kp, hd3, hf3, ha3, SA3, lA3⟩
          refine ⟨hd3, _, rfl, ?_⟩
          have keep : ∀ b u, H' b = some u → b ≠ lf → upd H3 d (.dT kvs) b = some u := fun b u e n => by
            by_cases z : b = d
            · subst z
              rw [hkv] at e
              cases e
              exact upd_same
            · rw [upd_ne z]
              exact kp b u e z n
          refine ⟨_, _, _, _, ah, kvA, rfl, fun b u e => keep b u (sm' b u e) (ne_of_none e hlf0), keep _ _ hl' llf, Lv L' (fun b kvs e => keep _ _ e (fun z => by rw [z, hf'] at e; cases e)), ?_, by rw [upd_ne ahd]; exact ha3, SA3.eq fun s => ?_⟩
          · rw [upd_ne lfd, hf3, sums_set]
            congr 3
            refine List.map_congr_left fun u hu => ?_
            show _ = if us.length - (i + 1) ≤ u then _ else _
            by_cases e : u = us.length - 1 - i
            · rw [if_pos e, if_pos (by omega), e]
              congr 1
              refine bits3_eq fun o _ _ => ?_
              constructor
              · rintro ⟨a', kv, s, _, h1, h2, h3⟩
                obtain ⟨s', e1, p⟩ := SD.of kv (List.mem_of_getElem? h1)
                have := kI_inj (h2.symm.trans e1)
                subst this
                exact ⟨s, q, p, hq, by rw [ek2]; exact h3⟩
              · rintro ⟨s, q', p, h1, h2⟩
                rw [hq] at h1
                cases h1
                rw [ek2] at h2
                obtain ⟨kv, g1, g2⟩ := valV_key (SD.all s p)
                obtain ⟨a', g3⟩ := List.getElem?_of_mem g1
                exact ⟨a', kv, s, (List.getElem?_eq_some_iff.mp g3).1, g3, g2, h2⟩
            · rw [if_neg e]
              show (if us.length - i ≤ u then _ else _) = _
              by_cases e2 : us.length - i ≤ u
              · rw [if_pos e2, if_pos (by omega)]
              · rw [if_neg e2, if_neg (by omega)]
          · constructor
            · rintro ⟨a', kv, _, h1, h2, o, h3, h4⟩
              obtain ⟨s', e1, p⟩ := SD.of kv (List.mem_of_getElem? h1)
              have := kI_inj (h2.symm.trans e1)
              subst this
              exact ⟨by rw [ek]; exact p, q, o, by rw [ek]; exact hq, h3, h4⟩
            · rintro ⟨p, q', o, h1, h3, h4⟩
              rw [ek] at p h1
              rw [hq] at h1
              cases h1
              obtain ⟨kv, g1, g2⟩ := valV_key (SD.all s p)
              obtain ⟨a', g3⟩ := List.getElem?_of_mem g1
              exact ⟨a', kv, (List.getElem?_eq_some_iff.mp g3).1, g3, g2, o, h3, h4⟩
      · rintro σ H' ⟨vk, v6, v7, v8, ew, kvE, rfl, sm', hl', L', hf', he', SE⟩
        refine ⟨_, rfl, k H' lf sm' hlf0 ?_⟩
        rw [hf']
        congr 3
        unfold foundOf
        rw [mlen]
        refine List.map_congr_left fun u hu => ?_
        show (if us.length - bs.length ≤ u then _ else _) = _
        rw [if_pos (by omega)]
end
end MP
namespace MP
open PySem PySem.Spec PyProof.Rows L2
open XL (excTail)
open Fk (Fault Bytes numIn need andThen Atom Bond Mol)
def joinsQ (v w : Nat) (q : Nat × Nat) : Bool := (q.1 == v && q.2 == w) || (q.1 == w && q.2 == v)
def NumD (kvs : List (List Key × V)) (l : List (Nat × Nat)) : Prop := ∀ v w : Nat, valV kvs (kI [(v : Int), (w : Int)]) = (l.findIdx? (joinsQ v w)).map fun k => V.int (k : Int)
theorem kI_two {a b c d : Nat} (h : kI [(a : Int), (b : Int)] = kI [(c : Int), (d : Int)]) : a = c ∧ b = d := by
  have := kI_inj h
  simp at this
  omega
theorem NumD.snoc {kvs : List (List Key × V)} {l : List (Nat × Nat)} {q : Nat × Nat} (d : NumD kvs l) (hn : ∀ p ∈ l, p ≠ q) (hl : ∀ p ∈ l, p.1 < p.2) (hq : q.1 < q.2) :
    NumD (putK (putK kvs (kI [(q.1 : Int), (q.2 : Int)]) (V.int (l.length : Int))) (kI [(q.2 : Int), (q.1 : Int)]) (V.int (l.length : Int))) (l ++ [q]) := by
  intro v w
  rw [valV_put, valV_put, List.findIdx?_append]
  have old : joinsQ v w q = true → l.findIdx? (joinsQ v w) = none := fun h => by
    rw [List.findIdx?_eq_none_iff]
    intro p hp
    have h1 := hl p hp
    have h2 := hn p hp
    unfold joinsQ at h ⊢
    simp only [Bool.or_eq_true, Bool.and_eq_true, beq_iff_eq] at h
    rw [Bool.eq_false_iff]
    intro hc
    simp only [Bool.or_eq_true, Bool.and_eq_true, beq_iff_eq] at hc
    refine h2 (Prod.ext ?_ ?_) <;> omega
  by_cases h1 : kI [(v : Int), (w : Int)] = kI [(q.2 : Int), (q.1 : Int)]
  · obtain ⟨rfl, rfl⟩ := kI_two h1
    have hj : joinsQ q.2 q.1 q = true := by simp [joinsQ]
    rw [if_pos rfl, old hj]
    simp [List.findIdx?_cons, hj]
  · rw [if_neg h1]
    by_cases h2 : kI [(v : Int), (w : Int)] = kI [(q.1 : Int), (q.2 : Int)]
    · obtain ⟨rfl, rfl⟩ := kI_two h2
      have hj : joinsQ q.1 q.2 q = true := by simp [joinsQ]
      rw [if_pos rfl, old hj]
      simp [List.findIdx?_cons, hj]
    · rw [if_neg h2, d v w]
      have hj : joinsQ v w q = false := by
        rw [Bool.eq_false_iff]
        intro h
        unfold joinsQ at h
        simp only [Bool.or_eq_true, Bool.and_eq_true, beq_iff_eq] at h
        rcases h with ⟨rfl, rfl⟩ | ⟨rfl, rfl⟩
        · exact h2 rfl
        · exact h1 rfl
      cases l.findIdx? (joinsQ v w) <;> simp [List.findIdx?_cons, hj]
section
variable {P : Program} {w : World} {K : PySem.W.Frag} {mg : Str → Option Value} {base : Heap} {t : Ad}
def spPairs (K : PySem.W.Frag) : Sp := fun vs H Q _ => ∃ (lb : Addr) (us : List V) (l : List (Nat × Nat)) (n : Nat), vs = [.ref lb] ∧ BondsAt K H lb us l ∧ l.length ≤ 1000 ∧ JM.Rising n l ∧
  ∀ H' d kvs, Same H H' → H d = none → H' d = some (.dT kvs) → NumD kvs l → Q (.ref d) H'
theorem sc_pairs : FnScope ["bonds", "numbers", "k", "bond"] ["bonds"] (defScope s_z72) := ⟨rfl, rfl, rfl, by decide +kernel, rfl, by decide +kernel, by decide +kernel⟩
theorem ok_pairs (T : Txt K mg t) : FnOk P w K mg base CX0 1 t.f_z72 t.d_z72 ["bonds"] (spPairs K) := by
  refine T.F_z72.ok sc_pairs (fun vs H Q E h => ?_) (fun cdv A outer s H vs Q E hr h => ?_)
  · obtain ⟨lb, us, l, n, rfl, _⟩ := h
    rfl
  · obtain ⟨lb, us, l, n, rfl, B, hl, hrise, k⟩ := h
    have hu := hr.un
    have hu' : (A.deeper (envOfC "pair_numbers" (defScope s_z72) s.heap.objs.size t.f_z72 cdv)).units + 1 < cLine := by omega
    refine ⟨_, pss_cons (ps_set (i := 1) sc_pairs.nd rfl (Or.inl rfl) pe_dnewT)
      (pss_cons (ps_for PassesOwn.never rfl (pi_enum rfl T.b_enumerate (pa_cons (pv 0) pa_nil)) (pg_tup rfl (pgs_cons (pg_name (i := 2) sc_pairs.nd rfl (Or.inl rfl)) (pgs_cons (pg_name (i := 3) sc_pairs.nd rfl (Or.inl rfl)) pgs_nil)))
        (pss_cons (ps_dput hu' (pv 1) (pe_tup (pa_cons (pe_fld (pv 3) rfl) (pa_cons (pe_fld (pv 3) rfl) pa_nil))) (pv 2) rfl)
        (pss_one (ps_dput hu' (pv 1) (pe_tup (pa_cons (pe_fld (pv 3) rfl) (pa_cons (pe_fld (pv 3) rfl) pa_nil))) (pv 2) rfl))))
      (pss_one (ps_ret (pv 1)))), ?_⟩
    intro d hd
    have s1 : Same H (upd H d (.dT [])) := laid_same hd
    refine ⟨_, rfl, lb, us, rfl, SqL.of (s1 _ _ B.1), ?_⟩
    refine for_enum (K := K) (a := lb) (xs := us) (fun i σ H' => ∃ v2 v3 kvs, σ = [some (.ref lb), some (.ref d), v2, v3] ∧ Same H H' ∧ H' d = some (.dT kvs) ∧ NumD kvs (l.take i) ∧ kvs.length ≤ 2 * i) ⟨none, none, [], rfl, s1, upd_same, fun v w => rfl, Nat.zero_le _⟩ (fun i σ H' _ ⟨_, _, _, _, sm, _⟩ => SqL.of (sm _ _ B.1)) ?_ ?_
    · rintro i x σ H' Tt hx ⟨v2, v3, kvs, rfl, sm, hd', N, hlen⟩ hT
      have hi : i < us.length := (List.getElem?_eq_some_iff.mp hx).1
      have hil : i < l.length := by rw [← B.2.1]; exact hi
      obtain ⟨q, hq⟩ : ∃ q, l[i]? = some q := ⟨_, List.getElem?_eq_getElem hil⟩
      obtain ⟨o, C, dx, fs, rfl, e1, cl, na, nb, ea, eb⟩ := B.2.2 i x q hx hq
      have sT : Same H (upd H' Tt (.tup [.int (i : Int), .ref o])) := sm.trans (laid_same hT)
      have dT' : d ≠ Tt := fun z => by rw [← z, hd'] at hT; cases hT
      refine ⟨Tt, _, rfl, SqT.of upd_same, rfl, _, _, rfl, _, _, rfl, rfl, ?_⟩
      refine ⟨_, rfl, _, rfl, _, rfl, o, C, dx, fs, _, rfl, sT _ _ e1, cl, na, ea, _, rfl, o, C, dx, fs, _, rfl, sT _ _ e1, cl, nb, eb, (by show 2 ≤ sizeLine; decide), fun p1 hp1 => ?_⟩
      have hd1 : upd (upd H' Tt (.tup [.int (i : Int), .ref o])) p1 (.tup [.int (q.1 : Int), .int (q.2 : Int)]) d = some (.dT kvs) := by
        have : upd H' Tt (.tup [.int (i : Int), .ref o]) d = some (.dT kvs) := by rw [upd_ne dT']; exact hd'
        rw [upd_ne (ne_of_none this hp1)]; exact this
      have sp1 : Same H (upd (upd H' Tt (.tup [.int (i : Int), .ref o])) p1 (.tup [.int (q.1 : Int), .int (q.2 : Int)])) := sT.trans (laid_same hp1)
      refine ⟨d, _, rfl, DPut.t (k := kI [(q.1 : Int), (q.2 : Int)]) hd1 (by rw [kI_V]; exact upd_same) (by rw [sizeLine_eq]; omega), ?_⟩
      have sp2 : Same H (upd (upd (upd H' Tt (.tup [.int (i : Int), .ref o])) p1 (.tup [.int (q.1 : Int), .int (q.2 : Int)])) d (.dT (putK kvs (kI [(q.1 : Int), (q.2 : Int)]) (.int (i : Int))))) := fun b u e => by rw [upd_ne (ne_of_none e hd)]; exact sp1 b u e
      refine ⟨_, rfl, _, rfl, _, rfl, o, C, dx, fs, _, rfl, sp2 _ _ e1, cl, nb, eb, _, rfl, o, C, dx, fs, _, rfl, sp2 _ _ e1, cl, na, ea, (by show 2 ≤ sizeLine; decide), fun p2 hp2 => ?_⟩
      have l1 := length_putK kvs (kI [(q.1 : Int), (q.2 : Int)]) (V.int (i : Int))
      have d2 : d ≠ p2 := fun z => by rw [← z, upd_same] at hp2; cases hp2
      refine ⟨d, _, rfl, DPut.t (k := kI [(q.2 : Int), (q.1 : Int)]) (by rw [upd_ne d2]; exact upd_same) (by rw [kI_V]; exact upd_same) (by rw [sizeLine_eq]; omega), ?_⟩
      have l2 := length_putK (putK kvs (kI [(q.1 : Int), (q.2 : Int)]) (V.int (i : Int))) (kI [(q.2 : Int), (q.1 : Int)]) (V.int (i : Int))
      refine ⟨_, _, _, rfl, fun b u e => by rw [upd_ne (ne_of_none e hd)]; exact (sp2.trans (laid_same hp2)) b u e, upd_same, ?_, by omega⟩
      rw [take_snoc hq]
      have tl : (l.take i).length = i := by rw [List.length_take]; omega
      have := N.snoc (q := q) (fun p hp e => ?_) (fun p hp => (hrise.1 p (List.mem_of_mem_take hp)).1) (hrise.1 q (List.mem_of_getElem? hq)).1
      · rw [tl] at this
        exact this
      · obtain ⟨j, hj⟩ := List.getElem?_of_mem hp
        have hji : j < i := by
          have := (List.getElem?_eq_some_iff.mp hj).1
          rw [tl] at this; exact this
        rw [List.getElem?_take_of_lt hji] at hj
        have pw := List.pairwise_iff_getElem.mp hrise.2 j i (by omega) hil hji
        rw [List.getElem?_eq_getElem (by omega)] at hj hq
        have e1 := Option.some.inj hj
        have e2 := Option.some.inj hq
        rw [e1, e2, e] at pw
        omega
    · rintro σ H' ⟨v2, v3, kvs, rfl, sm, hd', N, hlen⟩
      rw [B.2.1, List.take_length] at N
      exact ⟨_, rfl, k H' d kvs sm hd hd' N⟩
end
end MP
namespace MP
open PySem PySem.Spec PyProof.Rows L2
open XL (excTail)
open Fk (Fault Bytes numIn need andThen Atom Bond Mol)
open JM (MItems molOf MSums MEnds)
def mfs (la lb lr ls lo ln : Addr) : List (Str × V) := [("atoms", .ref la), ("bonds", .ref lb), ("neighbours", .ref lr), ("sums", .ref ls), ("orders", .ref lo), ("bond_numbers", .ref ln)]
structure MolLs where
  la : Addr
  lb : Addr
  lr : Addr
  ls : Addr
  lo : Addr
  ln : Addr
  as : List V
  us : List V
  rs : List Addr
  kvs : List (List Key × V)
structure MolAt (t : Ad) (D : Addr → Prop) (H : Hp) (g : Addr) (z : MolLs) (y : MItems) : Prop where
  obj : ∃ dx, H g = some (.ins t.c_z32 dx (mfs z.la z.lb z.lr z.ls z.lo z.ln))
  atoms : H z.la = some (.lst z.as)
  bonds : H z.lb = some (.lst z.us)
  rows : RowsAt H z.lr z.rs z.as.length (JM.nbrs (y.2.map JM.mends))
  sums : H z.ls = some (.lst (vI (MSums (molOf y))))
  orders : H z.lo = some (.lst (vI (foundOf (MSums (molOf y)) (MEnds (molOf y)))))
  nums : H z.ln = some (.dT z.kvs)
  num : NumD z.kvs (y.2.map JM.mends)
  ra : Reps (RepMA t.c_z3) D H z.as y.1
  rb : Reps (RepMB t.c_z5) D H z.us y.2
theorem mol_ends (y : MItems) : MEnds (molOf y) = y.2.map JM.mends := by
  unfold MEnds molOf JM.mends JM.bends
  simp
theorem mol_n (y : MItems) : (molOf y).n = y.1.length := by simp [molOf, Mol.n]
theorem mol_ways (y : MItems) : ways y.2 = (MEnds (molOf y)).zip (molOf y).orders := by
  rw [mol_ends]
  unfold ways Mol.orders molOf
  simp only [List.map_map]
  rw [List.zip_map']
  rfl
theorem sums_mol (y : MItems) {n : Nat} (hn : y.1.length = n) : sumsOf n (ways y.2) = MSums (molOf y) := by
  unfold sumsOf MSums Mol.sums
  rw [mol_n, hn, List.map_map]
  refine List.map_congr_left fun v _ => ?_
  show _ = (((molOf y).sum v : Nat) : Int)
  rw [JM.msum_own, mol_ways]
section
variable {P : Program} {w : World} {K : PySem.W.Frag} {mg : Str → Option Value} {base : Heap} {t : Ad}
theorem RowsAt.same' {H H' : Hp} {lr : Addr} {rs : List Addr} {n : Nat} {row : Nat → List Nat} (R : RowsAt H lr rs n row) (f : Same H H') : RowsAt H' lr rs n row := R.stay fun b o e _ => f b o e
theorem MolAt.same {D : Addr → Prop} {H H' : Hp} {g : Addr} {z : MolLs} {y : MItems} (M : MolAt t D H g z y) (f : Same H H') : MolAt t D H' g z y :=
  ⟨let ⟨dx, e⟩ := M.obj; ⟨dx, f _ _ e⟩, f _ _ M.atoms, f _ _ M.bonds, M.rows.same' f, f _ _ M.sums, f _ _ M.orders, f _ _ M.nums, M.num, M.ra.stay (RepMA.ok _) fun b o _ e => f b o e, M.rb.stay (RepMB.ok _) fun b o _ e => f b o e⟩
theorem bonds_at (T : Txt K mg t) {D : Addr → Prop} {H : Hp} {lb : Addr} {us : List V} {ys : List (Bond × Nat)} (hb : H lb = some (.lst us)) (R : Reps (RepMB t.c_z5) D H us ys) : BondsAt K H lb us (ys.map JM.mends) :=
  ⟨hb, by rw [List.length_map]; exact R.len, fun i v q h1 h2 => by
    rw [List.getElem?_map] at h2
    cases hz : ys[i]? with
    | none => rw [hz] at h2; cases h2
    | some z =>
      rw [hz] at h2
      cases h2
      obtain ⟨o, dx, rfl, _, e⟩ := R.at_ i v z h1 hz
      exact ⟨o, _, dx, _, rfl, e, T.C_z5, T.n_Bond_a, T.n_Bond_b, rfl, rfl⟩⟩
theorem Reps.neB {C C' : Addr} {D : Addr → Prop} {H : Hp} {us : List V} {ys : List (Bond × Nat)} {o dx : Addr} (R : Reps (RepMB C) D H us ys) (h : H o = some (.ins C' dx [])) : Reps (RepMB C) (fun b => D b ∧ b ≠ o) H us ys :=
  ⟨R.len, fun i v z h1 h2 => by
    obtain ⟨b, d, e, hd, hb⟩ := R.at_ i v z h1 h2
    exact ⟨b, d, e, ⟨hd, fun q => by rw [q, h] at hb; cases hb⟩, hb⟩⟩
theorem Reps.neA {C C' : Addr} {D : Addr → Prop} {H : Hp} {us : List V} {ys : List (Atom × Nat)} {o dx : Addr} (R : Reps (RepMA C) D H us ys) (h : H o = some (.ins C' dx [])) : Reps (RepMA C) (fun b => D b ∧ b ≠ o) H us ys :=
  ⟨R.len, fun i v z h1 h2 => by
    obtain ⟨b, d, e, hd, hb⟩ := R.at_ i v z h1 h2
    exact ⟨b, d, e, ⟨hd, fun q => by rw [q, h] at hb; cases hb⟩, hb⟩⟩
def spMolInit (t : Ad) : Sp := fun vs H Q _ => ∃ (o dx la lb : Addr) (as us : List V) (y : MItems) (D : Addr → Prop), vs = [.ref o, .ref la, .ref lb] ∧ H o = some (.ins t.c_z32 dx []) ∧ H la = some (.lst as) ∧ H lb = some (.lst us) ∧
  Reps (RepMA t.c_z3) D H as y.1 ∧ Reps (RepMB t.c_z5) D H us y.2 ∧ as.length ≤ 1000 ∧ y.2.length ≤ 12 ∧ JM.Rising as.length (y.2.map JM.mends) ∧
  ∀ H' z, z.la = la → z.lb = lb → z.as = as → z.us = us → MolAt t D H' o z y → Frm [o] H H' → Q .non H'
theorem sc_minit : FnScope ["self", "atoms", "bonds"] ["self", "atoms", "bonds"] (defScope s_z33) := ⟨rfl, rfl, rfl, by decide +kernel, rfl, by decide +kernel, by decide +kernel⟩
theorem ok_minit (T : Txt K mg t) : FnOk P w K mg base CX0 4 t.f_z33 t.d_z33 ["self", "atoms", "bonds"] (spMolInit t) := by
  have GI : FnOk P w K mg base CX0 2 t.f_z16 t.d_z16 ["self", "atoms", "bonds"] (spGInit K t.c_z32) := ok_ginit T T.C_z32 T.n_Molecule_atoms T.n_Molecule_bonds T.n_Molecule_neighbours
  have GS : FnOk P w K mg base CX0 1 t.f_z71 t.d_z71 ["n", "bonds"] (spSums K t.c_z5) := ok_sums T
  have GR : FnOk P w K mg base CX0 3 t.f_z75 t.d_z75 ["sums", "bonds"] (spRedrawn K) := ok_redrawn T
  have GP : FnOk P w K mg base CX0 1 t.f_z72 t.d_z72 ["bonds"] (spPairs K) := ok_pairs T
  refine T.F_z33.ok sc_minit (fun vs H Q E h => ?_) (fun cdv A outer s H vs Q E hr h => ?_)
  · obtain ⟨o, dx, la, lb, as, us, y, D, rfl, _⟩ := h
    rfl
  · obtain ⟨o, dx, la, lb, as, us, y, D, rfl, h0, ha, hb, RA, RB, hn, hm, rise, k⟩ := h
    have hr2 : Room 2 _ := hr.mono (by decide)
    have hr1 : Room 1 _ := hr.mono (by decide)
    refine ⟨_, pss_cons (ps_expr (pe_cmeth rfl T.g_z14 T.S_z16 GI hr2 T.B_z16 pass0 (pa_cons (pv 0) (pa_cons (pv 1) (pa_cons (pv 2) pa_nil)))))
      (pss_cons (ps_fld (pv 0) (pe_call GS hr1 rfl T.g_z71 T.F_z71.kp T.B_z71 .nil pass0 (pa_cons (pe_callB call_len_seq (by rfl) T.b_len PySem.boot_len (pa_cons (pv 1) pa_nil)) (pa_cons (pv 2) pa_nil))) rfl)
      (pss_cons (ps_fld (pv 0) (pe_call GR hr rfl T.g_z75 T.F_z75.kp T.B_z75 .nil pass0 (pa_cons (pe_fld (pv 0) rfl) (pa_cons (pv 2) pa_nil))) rfl)
      (pss_one (ps_fld (pv 0) (pe_call GP hr1 rfl T.g_z72 T.F_z72.kp T.B_z72 .nil pass0 (pa_cons (pv 2) pa_nil)) rfl)))), ?_⟩
    have RA' := RA.neA h0
    have RB' := RB.neB h0
    have B0 := bonds_at T hb RB
    have ao : la ≠ o := ne_of ha h0 (by intro z; cases z)
    have bo : lb ≠ o := ne_of hb h0 (by intro z; cases z)
    refine ⟨_, rfl, _, rfl, _, rfl, ?_⟩
    refine ⟨o, dx, la, lb, as, us, y.2.map JM.mends, rfl, h0, ha, hb, hn, by rw [List.length_map]; omega, B0.2.1, fun i v q h1 h2 => ⟨B0.2.2 i v q h1 h2, fun z => ?_⟩, rise.1, fun H1 lr rs G F1 => ?_⟩
    · obtain ⟨o', C', dx', fs', e, e', _, _, _, e4, _⟩ := B0.2.2 i v q h1 h2
      rw [z] at e
      cases e
      rw [h0] at e'
      cases e'
      cases e4
    obtain ⟨d1, e1⟩ := G.obj
    have RA1 : Reps (RepMA t.c_z3) (fun b => D b ∧ b ≠ o) H1 as y.1 := RA'.stay (RepMA.ok _) fun b u hd h => F1 b u h (by simpa using hd.2)
    have RB1 : Reps (RepMB t.c_z5) (fun b => D b ∧ b ≠ o) H1 us y.2 := RB'.stay (RepMB.ok _) fun b u hd h => F1 b u h (by simpa using hd.2)
    have alen : y.1.length = as.length := RA.len.symm
    refine ⟨_, rfl, la, as, rfl, .inl (SqL.of G.atoms), _, rfl, ?_⟩
    refine ⟨as.length, lb, us, y.2, _, rfl, hn, G.bonds, RB1, rise.1, fun H2 ls s2 nls hls => ?_⟩
    rw [sums_mol y alen] at hls
    have e2 := s2 _ _ e1
    refine ⟨_, rfl, o, _, d1, _, rfl, e2, T.C_z32, T.n_Molecule_sums, (by show 3 < 1000; decide), ?_⟩
    have neO : ∀ {Hx : Hp} {b : Addr} {u : HO} {C' d' : Addr} {f' : List (Str × V)}, Hx b = some u → Hx o = some (.ins C' d' f') → (∀ x, u ≠ .ins C' d' x) → b ≠ o := fun {Hx b u C' d' f'} h1 h2 n z => by
      rw [z, h2] at h1
      exact n _ (Option.some.inj h1).symm
    have lso : ls ≠ o := fun z => by rw [z, e1] at nls; cases nls
    have st : ∀ {Hx : Hp} (b : Addr) (u v : HO), b ≠ o → Hx b = some u → upd Hx o v b = some u := fun {Hx} b u v n e => by rw [upd_ne n]; exact e
    have ends_ne : ∀ (i : Nat) v q, us[i]? = some v → (y.2.map JM.mends)[i]? = some q → ∃ b, v = .ref b ∧ b ≠ o := fun i v q h1 h2 => by
      rw [List.getElem?_map] at h2
      cases hz : y.2[i]? with
      | none => rw [hz] at h2; cases h2
      | some z =>
        obtain ⟨b, d, e, hd, _⟩ := RB'.at_ i v z h1 hz
        exact ⟨b, e, hd.2⟩
    have B1 := bonds_at T G.bonds RB1
    have Bo : ∀ {Hx : Hp} (v : HO), BondsAt K Hx lb us (y.2.map JM.mends) → BondsAt K (upd Hx o v) lb us (y.2.map JM.mends) := fun {Hx} v b => ⟨st _ _ _ bo b.1, b.2.1, fun i x q h1 h2 => by
      obtain ⟨b', e, n⟩ := ends_ne i x q h1 h2
      obtain ⟨o', C', dx', fs', e0, e', rest⟩ := b.2.2 i x q h1 h2
      rw [e] at e0
      cases e0
      exact ⟨b', C', dx', fs', e, st _ _ _ n e', rest⟩⟩
    have B3 := Bo (.ins t.c_z32 d1 (putF "sums" (.ref ls) (gfs la lb lr))) (B1.same s2)
    refine ⟨_, rfl, o, _, d1, _, _, rfl, upd_same, T.C_z32, T.n_Molecule_sums, rfl, _, rfl, ?_⟩
    refine ⟨ls, lb, as.length, MSums (molOf y), us, y.2.map JM.mends, rfl, st _ _ _ lso hls, by rw [JM.msums_len, mol_n, alen], hn, B3, by rw [List.length_map]; exact hm, rise.1, fun H4 lo s4 nlo hlo => ?_⟩
    have e4 := s4 _ _ upd_same
    have loo : lo ≠ o := fun z => by rw [z, upd_same] at nlo; cases nlo
    refine ⟨_, rfl, o, _, d1, _, rfl, e4, T.C_z32, T.n_Molecule_orders, (by show 4 < 1000; decide), ?_⟩
    have B5 := Bo (.ins t.c_z32 d1 (putF "orders" (.ref lo) (putF "sums" (.ref ls) (gfs la lb lr)))) (B3.same s4)
    refine ⟨_, rfl, ?_⟩
    refine ⟨lb, us, y.2.map JM.mends, as.length, rfl, B5, by rw [List.length_map]; omega, rise, fun H6 ln kvs s6 nln hln N => ?_⟩
    have e6 := s6 _ _ upd_same
    have lno : ln ≠ o := fun z => by rw [z, upd_same] at nln; cases nln
    refine ⟨_, rfl, o, _, d1, _, rfl, e6, T.C_z32, T.n_Molecule_bond_numbers, (by show 5 < 1000; decide), ?_⟩
    have F26 : ∀ b u, b ≠ o → H2 b = some u → H6 b = some u := fun b u n e => s6 _ _ (st _ _ _ n (s4 _ _ (st _ _ _ n e)))
    have F16 : ∀ b u, b ≠ o → H1 b = some u → H6 b = some u := fun b u n e => F26 b u n (s2 _ _ e)
    have Fin : ∀ b u, b ≠ o → H1 b = some u → upd H6 o (.ins t.c_z32 d1 (putF "bond_numbers" (.ref ln) (putF "orders" (.ref lo) (putF "sums" (.ref ls) (gfs la lb lr))))) b = some u := fun b u n e => st _ _ _ n (F16 b u n e)
    refine k _ ⟨la, lb, lr, ls, lo, ln, as, us, rs, kvs⟩ rfl rfl rfl rfl ⟨⟨d1, upd_same⟩, Fin _ _ ao G.atoms, Fin _ _ bo G.bonds, G.rows.stay fun b u e hb' => ?_, st _ _ _ lso (F26 _ _ lso hls), ?_, st _ _ _ lno hln, N, ?_, ?_⟩ ?_
    · refine Fin b u (fun z => ?_) e
      rw [z, e1] at e
      cases e
      rcases hb' with r | r
      · have := G.rows.lst
        rw [← r, z, e1] at this; cases this
      · obtain ⟨j, hj⟩ := List.getElem?_of_mem r
        have := G.rows.at_ j b hj
        rw [z, e1] at this; cases this
    · refine st _ _ _ loo (s6 _ _ (st _ _ _ loo ?_))
      rw [mol_ends]
      exact hlo
    · exact (RA1.stay (RepMA.ok _) fun b u hd h => Fin b u hd.2 h).mono (RepMA.ok _) fun b hd => hd.1
    · exact (RB1.stay (RepMB.ok _) fun b u hd h => Fin b u hd.2 h).mono (RepMB.ok _) fun b hd => hd.1
    · intro b u e n
      have nb : b ≠ o := by simpa using n
      exact Fin b u nb (F1 b u e n)
end
end MP
namespace MP
open PySem PySem.Spec PyProof.Rows L2
open XL (excTail)
open Fk (Fault Bytes numIn need andThen Atom Bond Mol)
open JM (MItems molOf MSums MEnds)
structure GoodY (y : MItems) : Prop where
  rise : JM.Rising y.1.length (y.2.map JM.mends)
  few : y.2.length ≤ 12
  small : y.1.length ≤ 128
  ords : ∀ z ∈ y.2, (1 ≤ z.1.order ∧ z.1.order ≤ 3) ∧ z.1.side ≤ 2
  atm : ∀ z ∈ y.1, z.1.element ≤ 118 ∧ z.1.isotope ≤ 500 ∧ (-4 ≤ z.1.charge ∧ z.1.charge ≤ 4) ∧ z.1.hydrogens ≤ 7 ∧ z.1.hand ≤ 2
theorem GoodY.good {y : MItems} (g : GoodY y) : JM.GoodM (molOf y) := by
  refine ⟨?_, fun x hx => ?_⟩
  · rw [mol_ends, mol_n]; exact g.rise.1
  · obtain ⟨z, hz, rfl⟩ := List.mem_map.mp (show x ∈ y.2.map fun z => z.1 from hx)
    exact (g.ords z hz).1
theorem GoodY.beside {y : MItems} (g : GoodY y) (v : Nat) : (molOf y).beside v = JM.nbrs (y.2.map JM.mends) v := by
  have e : (molOf y).bonds.map (fun x => (x.a, x.b)) = y.2.map JM.mends := mol_ends y
  have := JM.mbeside_nbrs (M := molOf y) (by rw [e, mol_n]; exact g.rise) v
  rw [this, e]
theorem mol_atom {y : MItems} {v : Nat} {z : Atom × Nat} (h : y.1[v]? = some z) : (molOf y).atom v = z.1 := by simp [Mol.atom, molOf, List.getD, h]
theorem GoodY.rowl {y : MItems} (g : GoodY y) (v : Nat) : (JM.nbrs (y.2.map JM.mends) v).length ≤ 1000 := by
  have := nbrs_len (y.2.map JM.mends) v
  rw [List.length_map] at this
  have := g.few
  omega
section
variable {P : Program} {w : World} {K : PySem.W.Frag} {mg : Str → Option Value} {base : Heap} {t : Ad}
def spHand (t : Ad) : Sp := fun vs H Q _ => ∃ (g : Addr) (k : Nat) (z : MolLs) (y : MItems) (D : Addr → Prop), vs = [.ref g, .int (k : Int)] ∧ MolAt t D H g z y ∧ GoodY y ∧ k < y.1.length ∧ ∀ H', Same H H' → Q (.bl ((molOf y).handed k)) H'
theorem sc_hand : FnScope ["molecule", "k", "neighbours", "hydrogens"] ["molecule", "k"] (defScope s_z67) := ⟨rfl, rfl, rfl, by decide +kernel, rfl, by decide +kernel, by decide +kernel⟩
theorem ok_hand (T : Txt K mg t) : FnOk P w K mg base CX0 1 t.f_z67 t.d_z67 ["molecule", "k"] (spHand t) := by
  refine T.F_z67.ok sc_hand (fun vs H Q E h => ?_) (fun cdv A outer s H vs Q E hr h => ?_)
  · obtain ⟨g, k, z, y, D, rfl, _⟩ := h
    rfl
  · obtain ⟨g, n, z, y, D, rfl, M, gy, hn, k⟩ := h
    refine ⟨_, pss_cons (ps_set (i := 2) sc_hand.nd rfl (Or.inl rfl) (pe_callB call_len_seq (by rfl) T.b_len PySem.boot_len (pa_cons (pe_ix ix_list (pe_fld (pv 0) rfl) (pv 1) (fun _ _ => rfl)) pa_nil)))
      (pss_cons (ps_set (i := 3) sc_hand.nd rfl (Or.inl rfl) (pe_fld (pe_ix ix_list (pe_fld (pv 0) rfl) (pv 1) (fun _ _ => rfl)) rfl))
      (pss_one (ps_ret (pe_and (pe_cmpR op_in_seq (pv 2) (pe_tup (pa_cons pe_int (pa_cons pe_int pa_nil))) rfl) (pe_one (pe_cmpR op_le (pe_op op_add (pv 2) (pv 3)) pe_int (nomark _))))))), ?_⟩
    obtain ⟨dg, eg⟩ := M.obj
    obtain ⟨ra, hra⟩ : ∃ ra, z.rs[n]? = some ra := ⟨_, List.getElem?_eq_getElem (by rw [M.rows.len, M.ra.len]; exact hn)⟩
    have hA := M.rows.at_ _ _ hra
    have e1 : (z.rs.map V.ref)[n]? = some (V.ref ra) := by rw [List.getElem?_map, hra]; rfl
    obtain ⟨a, ha⟩ : ∃ a, y.1[n]? = some a := ⟨_, List.getElem?_eq_getElem hn⟩
    obtain ⟨va, hva⟩ : ∃ v, z.as[n]? = some v := ⟨_, List.getElem?_eq_getElem (by rw [M.ra.len]; exact hn)⟩
    obtain ⟨o, dx, rfl, _, rep⟩ := M.ra.at_ n va a hva ha
    refine ⟨_, rfl, g, _, dg, _, _, rfl, eg, T.C_z32, T.n_Molecule_neighbours, rfl, _, rfl, z.lr, _, _, _, rfl, rfl, SqL.of M.rows.lst, atI_nat e1, ra, _, rfl, .inl (SqL.of hA), ?_⟩
    refine ⟨_, rfl, g, _, dg, _, _, rfl, eg, T.C_z32, T.n_Molecule_atoms, rfl, _, rfl, z.la, _, _, _, rfl, rfl, SqL.of M.atoms, atI_nat hva, o, _, dx, _, _, rfl, rep, T.C_z3, T.n_Atom_hydrogens, rfl, ?_⟩
    refine ⟨_, rfl, (by show 2 ≤ sizeLine; decide), fun p hp => ⟨p, _, rfl, .inr (SqT.of upd_same), rfl, rfl, _, rfl, ?_⟩⟩
    have len1 : ∀ l : List Nat, (vN l).length = l.length := fun l => by simp [vN]
    have e2 : inV (.int ((vN (JM.nbrs (y.2.map JM.mends) n)).length : Int)) [.int 3, .int 4] = ((JM.nbrs (y.2.map JM.mends) n).length == 3 || (JM.nbrs (y.2.map JM.mends) n).length == 4) := by rw [len1]; exact in_two _ 3 4
    have s3 : Same H (upd H p (.tup [.int 3, .int 4])) := laid_same hp
    have kk := k _ s3
    have hd : (molOf y).handed n = (decide (3 ≤ (JM.nbrs (y.2.map JM.mends) n).length) && (decide (a.1.hydrogens ≤ 1) && decide ((JM.nbrs (y.2.map JM.mends) n).length + a.1.hydrogens ≤ 4))) := by
      unfold Mol.handed
      rw [gy.beside, mol_atom ha]
    rw [if_neg Bool.false_ne_true, e2]
    refine ite2 (fun h => ?_) (fun h => ?_)
    · refine ⟨_, rfl, _, rfl, _, _, rfl, rfl, _, _, rfl, rfl, ?_⟩
      simp only [Bool.or_eq_true, beq_iff_eq] at h
      have e3 : decide (((vN (JM.nbrs (y.2.map JM.mends) n)).length : Int) + (a.1.hydrogens : Int) ≤ 4) = (molOf y).handed n := by
        rw [hd, len1, Bool.eq_iff_iff]
        simp only [Bool.and_eq_true, decide_eq_true_eq]
        omega
      rw [← e3] at kk
      exact kk
    · rw [Bool.not_eq_true] at h
      have e3 : (molOf y).handed n = false := by
        rw [hd, Bool.eq_false_iff]
        intro hc
        simp only [Bool.and_eq_true, decide_eq_true_eq] at hc
        have : ¬ (((JM.nbrs (y.2.map JM.mends) n).length == 3 || (JM.nbrs (y.2.map JM.mends) n).length == 4) = true) := by rw [h]; decide
        simp only [Bool.or_eq_true, beq_iff_eq] at this
        omega
      rw [e3] at kk
      exact kk
def spEndM (t : Ad) : Sp := fun vs H Q _ => ∃ (g : Addr) (e o : Nat) (z : MolLs) (y : MItems) (D : Addr → Prop), vs = [.ref g, .int (e : Int), .int (o : Int)] ∧ MolAt t D H g z y ∧ GoodY y ∧ e < y.1.length ∧ ∀ H', Same H H' → Q (.bl ((molOf y).endMay e o)) H'
theorem sc_endm : FnScope ["molecule", "end", "other", "others"] ["molecule", "end", "other"] (defScope s_z64) := ⟨rfl, rfl, rfl, by decide +kernel, rfl, by decide +kernel, by decide +kernel⟩
theorem ok_endm (T : Txt K mg t) : FnOk P w K mg base CX0 2 t.f_z64 t.d_z64 ["molecule", "end", "other"] (spEndM t) := by
  have GB : FnOk P w K mg base CX0 1 t.f_z15 t.d_z15 ["self", "end", "other"] (spBesides K t.c_z32) := ok_besides T T.C_z32 T.n_Molecule_neighbours
  refine T.F_z64.ok sc_endm (fun vs H Q E h => ?_) (fun cdv A outer s H vs Q E hr h => ?_)
  · obtain ⟨g, e, o, z, y, D, rfl, _⟩ := h
    rfl
  · obtain ⟨g, n, o, z, y, D, rfl, M, gy, hn, k⟩ := h
    refine ⟨_, pss_cons (ps_set (i := 3) sc_endm.nd rfl (Or.inl rfl) (pe_callB call_len_seq (by rfl) T.b_len PySem.boot_len (pa_cons (pe_meth (pv 0) T.C_z32 T.M_Molecule_besides GB hr T.B_z15 .nil pass0 (pa_cons (pv 1) (pa_cons (pv 2) pa_nil))) pa_nil)))
      (pss_one (ps_ret (pe_and (pe_cmpR op_in_seq (pv 3) (pe_tup (pa_cons pe_int (pa_cons pe_int pa_nil))) rfl) (pe_one (pe_cmpR op_le (pe_op op_add (pv 3) (pe_fld (pe_ix ix_list (pe_fld (pv 0) rfl) (pv 1) (fun _ _ => rfl)) rfl)) pe_int (nomark _)))))), ?_⟩
    obtain ⟨dg, eg⟩ := M.obj
    obtain ⟨a, ha⟩ : ∃ a, y.1[n]? = some a := ⟨_, List.getElem?_eq_getElem hn⟩
    obtain ⟨va, hva⟩ : ∃ v, z.as[n]? = some v := ⟨_, List.getElem?_eq_getElem (by rw [M.ra.len]; exact hn)⟩
    obtain ⟨b, dx, rfl, _, rep⟩ := M.ra.at_ n va a hva ha
    refine ⟨_, rfl, g, dg, _, rfl, eg, rfl, _, rfl, _, rfl, ?_⟩
    refine ⟨g, dg, z.lr, _, z.rs, z.as.length, n, o, _, rfl, eg, rfl, M.rows, by rw [M.ra.len]; exact hn, gy.rowl _, fun H1 l1 s1 nl1 hl1 => ?_⟩
    refine ⟨l1, _, rfl, .inl (SqL.of hl1), ?_⟩
    refine ⟨_, rfl, (by show 2 ≤ sizeLine; decide), fun p hp => ⟨p, _, rfl, .inr (SqT.of upd_same), rfl, rfl, _, rfl, ?_⟩⟩
    have s3 : Same H (upd H1 p (.tup [.int 1, .int 2])) := s1.trans (laid_same hp)
    have kk := k _ s3
    have len1 : ∀ l : List Nat, (vN l).length = l.length := fun l => by simp [vN]
    have e2 : inV (.int ((vN ((JM.nbrs (y.2.map JM.mends) n).filter fun x => x != o)).length : Int)) [.int 1, .int 2] = (((JM.nbrs (y.2.map JM.mends) n).filter fun x => x != o).length == 1 || ((JM.nbrs (y.2.map JM.mends) n).filter fun x => x != o).length == 2) := by rw [len1]; exact in_two _ 1 2
    have hd : (molOf y).endMay n o = (decide (1 ≤ ((JM.nbrs (y.2.map JM.mends) n).filter fun x => x != o).length) && decide (((JM.nbrs (y.2.map JM.mends) n).filter fun x => x != o).length + a.1.hydrogens ≤ 2)) := by
      unfold Mol.endMay Mol.besides
      rw [gy.beside, mol_atom ha]
    rw [if_neg Bool.false_ne_true, e2]
    refine ite2 (fun h => ?_) (fun h => ?_)
    · refine ⟨_, rfl, _, rfl, g, _, dg, _, _, rfl, s3 _ _ eg, T.C_z32, T.n_Molecule_atoms, rfl, _, rfl, z.la, _, _, _, rfl, rfl, SqL.of (s3 _ _ M.atoms), atI_nat hva, b, _, dx, _, _, rfl, s3 _ _ rep, T.C_z3, T.n_Atom_hydrogens, rfl, _, _, rfl, rfl, _, _, rfl, rfl, ?_⟩
      simp only [Bool.or_eq_true, beq_iff_eq] at h
      have e3 : decide (((vN ((JM.nbrs (y.2.map JM.mends) n).filter fun x => x != o)).length : Int) + (a.1.hydrogens : Int) ≤ 2) = (molOf y).endMay n o := by
        rw [hd, len1, Bool.eq_iff_iff]
        simp only [Bool.and_eq_true, decide_eq_true_eq]
        omega
      rw [← e3] at kk
      exact kk
    · rw [Bool.not_eq_true] at h
      have e3 : (molOf y).endMay n o = false := by
        rw [hd, Bool.eq_false_iff]
        intro hc
        simp only [Bool.and_eq_true, decide_eq_true_eq] at hc
        have : ¬ ((((JM.nbrs (y.2.map JM.mends) n).filter fun x => x != o).length == 1 || ((JM.nbrs (y.2.map JM.mends) n).filter fun x => x != o).length == 2) = true) := by rw [h]; decide
        simp only [Bool.or_eq_true, beq_iff_eq] at this
        omega
      rw [e3] at kk
      exact kk
def spSide (t : Ad) : Sp := fun vs H Q _ => ∃ (g : Addr) (k : Nat) (z : MolLs) (y : MItems) (D : Addr → Prop), vs = [.ref g, .int (k : Int)] ∧ MolAt t D H g z y ∧ GoodY y ∧ k < y.2.length ∧ ∀ H', Same H H' → Q (.bl ((molOf y).sided k)) H'
theorem sc_side : FnScope ["molecule", "k", "bond", "fixed_double"] ["molecule", "k"] (defScope s_z68) := ⟨rfl, rfl, rfl, by decide +kernel, rfl, by decide +kernel, by decide +kernel⟩
theorem ok_side (T : Txt K mg t) : FnOk P w K mg base CX0 3 t.f_z68 t.d_z68 ["molecule", "k"] (spSide t) := by
  have GE : FnOk P w K mg base CX0 2 t.f_z64 t.d_z64 ["molecule", "end", "other"] (spEndM t) := ok_endm T
  have GB : FnOk P w K mg base CX0 1 t.f_z70 t.d_z70 ["order"] spBit := ok_bit T
  refine T.F_z68.ok sc_side (fun vs H Q E h => ?_) (fun cdv A outer s H vs Q E hr h => ?_)
  · obtain ⟨g, k, z, y, D, rfl, _⟩ := h
    rfl
  · obtain ⟨g, n, z, y, D, rfl, M, gy, hn, k⟩ := h
    have hr1 : Room 1 _ := hr.mono (by decide)
    refine ⟨_, pss_cons (ps_set (i := 2) sc_side.nd rfl (Or.inl rfl) (pe_ix ix_list (pe_fld (pv 0) rfl) (pv 1) (fun _ _ => rfl)))
      (pss_cons (ps_set (i := 3) sc_side.nd rfl (Or.inl rfl) (pe_cmpR op_eq (pe_ix ix_list (pe_fld (pv 0) rfl) (pv 1) (fun _ _ => rfl)) (pe_call GB hr1 rfl T.g_z70 T.F_z70.kp T.B_z70 .nil pass0 (pa_cons pe_int pa_nil)) (nomark _)))
      (pss_one (ps_ret (pe_and (pv 3) (pe_and (pe_call GE hr rfl T.g_z64 T.F_z64.kp T.B_z64 .nil pass0 (pa_cons (pv 0) (pa_cons (pe_fld (pv 2) rfl) (pa_cons (pe_fld (pv 2) rfl) pa_nil))))
        (pe_one (pe_call GE hr rfl T.g_z64 T.F_z64.kp T.B_z64 .nil pass0 (pa_cons (pv 0) (pa_cons (pe_fld (pv 2) rfl) (pa_cons (pe_fld (pv 2) rfl) pa_nil)))))))))), ?_⟩
    obtain ⟨dg, eg⟩ := M.obj
    obtain ⟨x, hx⟩ : ∃ x, y.2[n]? = some x := ⟨_, List.getElem?_eq_getElem hn⟩
    obtain ⟨vb, hvb⟩ : ∃ v, z.us[n]? = some v := ⟨_, List.getElem?_eq_getElem (by rw [M.rb.len]; exact hn)⟩
    obtain ⟨b, dx, rfl, _, rep⟩ := M.rb.at_ n vb x hvb hx
    have hq : x.1.a < x.1.b ∧ x.1.b < y.1.length := gy.rise.1 (JM.mends x) (List.mem_map_of_mem (List.mem_of_getElem? hx))
    have hfo : (vI (foundOf (MSums (molOf y)) (MEnds (molOf y))))[n]? = some (.int (JM.bits3 (JM.Found (MSums (molOf y)) (MEnds (molOf y)) n) : Int)) := vI_get (sums_get (by rw [mol_ends, List.length_map]; exact hn))
    refine ⟨_, rfl, g, _, dg, _, _, rfl, eg, T.C_z32, T.n_Molecule_bonds, rfl, _, rfl, z.lb, _, _, _, rfl, rfl, SqL.of M.bonds, atI_nat hvb, ?_⟩
    refine ⟨_, rfl, g, _, dg, _, _, rfl, eg, T.C_z32, T.n_Molecule_orders, rfl, _, rfl, z.lo, _, _, _, rfl, rfl, SqL.of M.orders, atI_nat hfo, ?_⟩
    refine ⟨2, rfl, by decide, by decide, rfl, ?_⟩
    have hb : (molOf y).bonds[n]? = some x.1 := by simp [molOf, hx]
    have hnb : n < (molOf y).bonds.length := (List.getElem?_eq_some_iff.mp hb).1
    have fx := gy.good.fixed hnb
    have sd : (molOf y).sided n = (decide (JM.bits3 (JM.Found (MSums (molOf y)) (MEnds (molOf y)) n) = 2) && ((molOf y).endMay x.1.a x.1.b && (molOf y).endMay x.1.b x.1.a)) := by
      unfold Mol.sided
      rw [hb]
      simp only
      rw [fx]
    have de : decide (V.int (JM.bits3 (JM.Found (MSums (molOf y)) (MEnds (molOf y)) n) : Int) = V.int ((2 ^ (2 - 1) : Nat) : Int)) = decide (JM.bits3 (JM.Found (MSums (molOf y)) (MEnds (molOf y)) n) = 2) := by
      rw [Bool.eq_iff_iff]
      simp only [decide_eq_true_eq]
      constructor
      · intro h
        injection h with h
        have : ((2 ^ (2 - 1) : Nat) : Int) = 2 := rfl
        omega
      · intro h
        rw [h]
    rw [de]
    rw [sd] at k
    refine ⟨_, rfl, _, rfl, ?_⟩
    cases h1 : decide (JM.bits3 (JM.Found (MSums (molOf y)) (MEnds (molOf y)) n) = 2) with
    | false =>
      have kk := k H (Same.refl _)
      rw [h1, Bool.false_and] at kk
      exact kk
    | true =>
      rw [h1, Bool.true_and] at k
      refine ⟨_, rfl, _, rfl, b, _, dx, _, _, rfl, rep, T.C_z5, T.n_Bond_a, rfl, _, rfl, b, _, dx, _, _, rfl, rep, T.C_z5, T.n_Bond_b, rfl, ?_⟩
      refine ⟨g, x.1.a, x.1.b, z, y, D, rfl, M, gy, by omega, fun H1 s1 => ⟨_, rfl, ?_⟩⟩
      cases h2 : (molOf y).endMay x.1.a x.1.b with
      | false =>
        have kk := k H1 s1
        rw [h2, Bool.false_and] at kk
        exact kk
      | true =>
        rw [h2, Bool.true_and] at k
        refine ⟨_, rfl, _, rfl, b, _, dx, _, _, rfl, s1 _ _ rep, T.C_z5, T.n_Bond_b, rfl, _, rfl, b, _, dx, _, _, rfl, s1 _ _ rep, T.C_z5, T.n_Bond_a, rfl, ?_⟩
        exact ⟨g, x.1.b, x.1.a, z, y, D, rfl, M.same s1, gy, hq.2, fun H2 s2 => k H2 (s1.trans s2)⟩
end
end MP
namespace MP
open PySem PySem.Spec PyProof.Rows L2
open XL (excTail)
open Fk (Fault Bytes numIn need andThen Atom Bond Mol)
open JM (MItems molOf MSums MEnds)
theorem judgeM_graph (b : Bytes) : Fk.judgeMol b = Fk.andThen (graphIn Fk.MOLMARK JM.oneMA JM.oneMB b 0) fun y => JM.fromH (molOf y) y.1.zipIdx y.2.zipIdx := by
  rw [JM.judgeMol_eq]
  unfold graphIn
  simp only [JM.andThen_assoc, JM.andThen_ok]
theorem drop_zip {α : Type} {l : List α} {i : Nat} {x : α} (h : l[i]? = some x) : l.zipIdx.drop i = (x, i) :: l.zipIdx.drop (i + 1) := by
  obtain ⟨hl, hg⟩ := List.getElem?_eq_some_iff.mp h
  rw [List.drop_eq_getElem_cons (by simpa using hl)]
  simp [hg]
theorem markIn_rest : ∀ {m b : Bytes} {p : Nat} {y : Bytes × Nat}, JM.markIn m b p = .ok y → y.1 = b.drop m.length
  | [], b, p, y, h => by cases h; rfl
  | c :: m, b, p, y, h => by
    unfold JM.markIn at h
    obtain ⟨x, h1, h⟩ := JM.step_ok h
    obtain ⟨u, h2, h⟩ := JM.step_ok h
    have e := markIn_rest h
    have := (JM.numIn_ok h1).2.2.2.1
    rw [e, this, List.drop_drop, List.length_cons, Nat.add_comm]
theorem num_at {B : Bytes} {k : Nat} (h : 1 ≤ (B.drop k).length) : Fk.num ((B.drop k).take 1) = (B.getD k 0).toNat := by
  have hk : k < B.length := by rw [List.length_drop] at h; omega
  rw [List.drop_eq_getElem_cons hk]
  show Fk.num [B[k]] = _
  rw [JM.num_one, List.getD, List.getElem?_eq_getElem hk]
  rfl
theorem many_mem {α : Type} {one : Bytes → Nat → Except Fault (α × Bytes × Nat)} {Pr : α → Prop} (ho : ∀ b p x, one b p = .ok x → Pr x.1) : ∀ {k : Nat} {b : Bytes} {p : Nat} {y : List α × Bytes × Nat}, JM.many one k b p = .ok y → ∀ z ∈ y.1, Pr z
  | 0, b, p, y, h => by cases h; simp
  | k + 1, b, p, y, h => by
    unfold JM.many at h
    obtain ⟨x, h1, h⟩ := JM.step_ok h
    obtain ⟨l, h2, h⟩ := JM.step_ok h
    cases h
    intro z hz
    rcases List.mem_cons.mp hz with r | r
    · rw [r]; exact ho _ _ _ h1
    · exact many_mem ho h2 z r
theorem manyB_mem {α : Type} {n : Nat} {one : Nat × Nat → Bytes → Nat → Except Fault (α × Bytes × Nat)} {Pr : α → Prop} (ho : ∀ q b p x, one q b p = .ok x → Pr x.1) : ∀ {k : Nat} {had : Option (Nat × Nat)} {b : Bytes} {p : Nat} {y : List α × Bytes × Nat}, JM.manyB n one k had b p = .ok y → ∀ z ∈ y.1, Pr z
  | 0, _, b, p, y, h => by cases h; simp
  | k + 1, had, b, p, y, h => by
    unfold JM.manyB at h
    obtain ⟨q, h0, h⟩ := JM.step_ok h
    obtain ⟨x, h1, h⟩ := JM.step_ok h
    obtain ⟨l, h2, h⟩ := JM.step_ok h
    cases h
    intro z hz
    rcases List.mem_cons.mp hz with r | r
    · rw [r]; exact ho _ _ _ _ h1
    · exact manyB_mem ho h2 z r
theorem oneMA_bounds (b : Bytes) (p : Nat) (x : (Atom × Nat) × Bytes × Nat) (h : JM.oneMA b p = .ok x) : x.1.1.element ≤ 118 ∧ x.1.1.isotope ≤ 500 ∧ (-4 ≤ x.1.1.charge ∧ x.1.1.charge ≤ 4) ∧ x.1.1.hydrogens ≤ 7 ∧ x.1.1.hand ≤ 2 := by
  unfold JM.oneMA JM.oneMAtom at h
  obtain ⟨w, h0, hw⟩ := JM.step_ok h
  cases hw
  obtain ⟨a1, h1, h0⟩ := JM.step_ok h0
  obtain ⟨a2, h2, h0⟩ := JM.step_ok h0
  obtain ⟨a3, h3, h0⟩ := JM.step_ok h0
  obtain ⟨a4, h4, h0⟩ := JM.step_ok h0
  obtain ⟨a5, h5, h0⟩ := JM.step_ok h0
  cases h0
  have g1 := (JM.numIn_ok h1).2.1
  have g2 := (JM.numIn_ok h2).2.1
  have g3 := (JM.numIn_ok h3).2.1
  have g4 := (JM.numIn_ok h4).2.1
  have g5 := (JM.numIn_ok h5).2.1
  simp only [Bool.and_eq_true, decide_eq_true_eq] at g1 g2 g3 g4 g5
  unfold Fk.ELEMENTS at g1
  unfold Fk.ISOTOPE at g2
  simp only
  omega
theorem oneMB_bounds (q : Nat × Nat) (b : Bytes) (p : Nat) (x : (Bond × Nat) × Bytes × Nat) (h : JM.oneMB q b p = .ok x) : (1 ≤ x.1.1.order ∧ x.1.1.order ≤ 3) ∧ x.1.1.side ≤ 2 := by
  unfold JM.oneMB JM.oneMBond at h
  obtain ⟨w, h0, hw⟩ := JM.step_ok h
  cases hw
  obtain ⟨a1, h1, h0⟩ := JM.step_ok h0
  obtain ⟨a2, h2, h0⟩ := JM.step_ok h0
  cases h0
  have g1 := (JM.numIn_ok h1).2.1
  have g2 := (JM.numIn_ok h2).2.1
  simp only [Bool.and_eq_true, decide_eq_true_eq] at g1 g2
  simp only
  omega
theorem graphM_good {B : Bytes} {y : MItems} (hy : graphIn Fk.MOLMARK JM.oneMA JM.oneMB B 0 = .ok y) (few : (B.getD 5 0).toNat ≤ 12) : GoodY y := by
  unfold graphIn at hy
  obtain ⟨m, hm, hy⟩ := JM.step_ok hy
  obtain ⟨n, hn, hy⟩ := JM.step_ok hy
  obtain ⟨k, hk, hy⟩ := JM.step_ok hy
  obtain ⟨x, hx, hy⟩ := JM.step_ok hy
  obtain ⟨z, hz, hy⟩ := JM.step_ok hy
  obtain ⟨_, _, hy⟩ := JM.step_ok hy
  cases hy
  have e1 := markIn_rest hm
  have e2 := (JM.numIn_ok hn).2.2.2.1
  have e3 := (JM.numIn_ok hk).2.2.1
  have e4 := (JM.numIn_ok hk).1
  have n128 := of_decide_eq_true (JM.numIn_ok hn).2.1
  unfold Fk.ATOMS at n128
  have lx := JM.many_length hx
  have lz := JM.manyB_length hz
  have e5 : n.2.1 = B.drop 5 := by rw [e2, e1, List.drop_drop]; rfl
  rw [e5] at e3 e4
  rw [num_at e4] at e3
  refine ⟨?_, by simp only; omega, by simp only; omega, manyB_mem oneMB_bounds hz, many_mem oneMA_bounds hx⟩
  have := (JM.manyB_rises (ends := JM.mends) JM.oneMB_ends hz).1
  simp only
  rw [lx]
  exact this
theorem plMA (b : Bytes) (p : Nat) (y : (Atom × Nat) × Bytes × Nat) (h : JM.oneMA b p = .ok y) : ((y.1.2 : Nat) : Int) = (y.2.2 : Int) - 1 := by
  unfold JM.oneMA at h
  obtain ⟨w, h1, h⟩ := JM.step_ok h
  cases h
  have := JM.oneMAtom_place h1
  simp only
  omega
theorem plMB (q : Nat × Nat) (b : Bytes) (p : Nat) (y : (Bond × Nat) × Bytes × Nat) (h : JM.oneMB q b p = .ok y) : ((y.1.2 : Nat) : Int) = (y.2.2 : Int) - 1 := by
  unfold JM.oneMB at h
  obtain ⟨w, h1, h⟩ := JM.step_ok h
  cases h
  have := JM.oneMBond_place h1
  simp only
  omega
section
variable {P : Program} {w : World} {K : PySem.W.Frag} {mg : Str → Option Value} {base : Heap} {t : Ad}
theorem RdAt.same {K : PySem.W.Frag} {C : Addr} {H H' : Hp} {r : Addr} {x : Rdr} (R : RdAt K C H r x) (f : Same H H') : RdAt K C H' r x := R.stay (S := []) (Same.frm f) (by simp) (by simp) (by simp) (by simp)
def spReadM (K : PySem.W.Frag) (t : Ad) : Sp := fun vs H Q E => ∃ (a : Addr) (w : Int) (B : Bytes), vs = [.ref a, .int w] ∧ FrmAt K H a B ∧ B.length ≤ 6000 ∧ (B.getD 5 0).toNat ≤ 12 ∧
  Ans t.c_z11 w (Fk.judgeMol B) (fun M => ∀ H' g z y, MolAt t (fun b => H b = none) H' g z y → GoodY y → M = molOf y → Same H H' → Q (.ref g) H') E
theorem sc_readm : FnScope ["form", "which", "reader", "graph", "molecule", "k", "atom", "bond"] ["form", "which"] (defScope s_z74) := ⟨rfl, rfl, rfl, by decide +kernel, rfl, by decide +kernel, by decide +kernel⟩
theorem ok_readm (T : Txt K mg t) : FnOk P w K mg base (CXF P w) 10 t.f_z74 t.d_z74 ["form", "which"] (spReadM K t) := by
  have GI : FnOk P w K mg base CX0 1 t.f_z42 t.d_z42 ["self", "form", "which"] (spRInit K t.c_z40) := ok_rinit T
  have GF : FnOk P w K mg base (CXF P w) 3 t.f_z41 t.d_z41 ["self", "rule", "place"] (spFault t.c_z40 t.c_z11) := ok_fault T
  have GH : FnOk P w K mg base CX0 1 t.f_z67 t.d_z67 ["molecule", "k"] (spHand t) := ok_hand T
  have GS : FnOk P w K mg base CX0 3 t.f_z68 t.d_z68 ["molecule", "k"] (spSide t) := ok_side T
  have GM : FnOk P w K mg base CX0 4 t.f_z33 t.d_z33 ["self", "atoms", "bonds"] (spMolInit t) := ok_minit T
  have GG : FnOk P w K mg base (CXF P w) 9 t.f_z81 t.d_z81 ["reader", "mark", "take_atom", "take_bond"] (spGraph K t.c_z40 t.c_z11 t.c_z14 t.f_z79 t.f_z80 JM.oneMA JM.oneMB (RepMA t.c_z3) (RepMB t.c_z5) (fun z => z.2) (fun z => z.2) JM.mends) :=
    ok_graph T (RepMA.ok _) (RepMB.ok _) plMA plMB JM.oneMB_ends (fun ⟨o, dx, e, d, h⟩ => ⟨o, e, d, o, _, dx, _, e, h, T.C_z5, T.n_Bond_a, T.n_Bond_b, rfl, rfl⟩) ((ok_tma T).mono (by decide)) T.F_z79.kp T.B_z79 ((ok_tmb T).mono (by decide)) T.F_z80.kp T.B_z80
  obtain ⟨tk4, g4⟩ := T.k_z17
  obtain ⟨tk6, g6⟩ := T.k_z51
  refine T.F_z74.okF sc_readm (fun vs H Q E h => ?_) (fun cdv A outer s H vs Q E hr h => ?_)
  · obtain ⟨a, w, B, rfl, _⟩ := h
    rfl
  · obtain ⟨a, w, B, rfl, hB, hlen, few, ans⟩ := h
    have hr1 : Room 1 _ := hr.mono (by decide)
    have hr2 : Room 2 _ := hr.mono (by decide)
    have hr3 : Room 3 _ := hr.mono (by decide)
    have hr5 : Room 5 _ := hr.mono (by decide)
    refine ⟨_, pss_cons (ps_set (i := 2) sc_readm.nd rfl (Or.inl rfl) (pe_make T.K_z40 GI hr2 rfl T.g_z40 T.B_z42 .nil pass0 (pa_cons (pv 0) (pa_cons (pv 1) pa_nil))))
      (pss_cons (ps_set (i := 3) sc_readm.nd rfl (Or.inl rfl) (pe_call GG hr rfl T.g_z81 T.F_z81.kp T.B_z81 .nil passF (pa_cons (pv 2) (pa_cons (pe_glob rfl T.g_z20 (v := .ref t.a_z20) rfl) (pa_cons (pe_glob rfl T.g_z79 (v := .ref t.f_z79) rfl) (pa_cons (pe_glob rfl T.g_z80 (v := .ref t.f_z80) rfl) pa_nil))))))
      (pss_cons (ps_set (i := 4) sc_readm.nd rfl (Or.inl rfl) (pe_make T.K_z32 GM hr5 rfl T.g_z32 T.B_z33 .nil pass0 (pa_cons (pe_fld (pv 3) rfl) (pa_cons (pe_fld (pv 3) rfl) pa_nil))))
      (pss_cons (ps_for ownF rfl (pi_enum rfl T.b_enumerate (pa_cons (pe_fld (pv 4) rfl) pa_nil)) (pg_tup rfl (pgs_cons (pg_name (i := 5) sc_readm.nd rfl (Or.inl rfl)) (pgs_cons (pg_name (i := 6) sc_readm.nd rfl (Or.inl rfl)) pgs_nil)))
        (pss_one (ps_if (PW.pt (pw_and (pt_cmpR op_ne (pe_fld (pv 6) rfl) pe_int (nomark _)) (pw_and1 (pt_not (pt_val (pe_call GH hr1 rfl T.g_z67 T.F_z67.kp T.B_z67 .nil pass0 (pa_cons (pv 4) (pa_cons (pv 5) pa_nil))))))))
          (pss_one (ps_expr (pe_meth (pv 2) T.C_z40 T.M_z41 GF hr3 T.B_z41 .nil passF (pa_cons (pe_glob rfl g4 (v := .int 4) ⟨_, rfl⟩) (pa_cons (pe_ix ix_list (pe_fld (pv 2) rfl) (pv 5) (fun _ _ => rfl)) pa_nil))))) pss_nil)))
      (pss_cons (ps_for ownF rfl (pi_enum rfl T.b_enumerate (pa_cons (pe_fld (pv 4) rfl) pa_nil)) (pg_tup rfl (pgs_cons (pg_name (i := 5) sc_readm.nd rfl (Or.inl rfl)) (pgs_cons (pg_name (i := 7) sc_readm.nd rfl (Or.inl rfl)) pgs_nil)))
        (pss_one (ps_if (PW.pt (pw_and (pt_cmpR op_ne (pe_fld (pv 7) rfl) pe_int (nomark _)) (pw_and1 (pt_not (pt_val (pe_call GS hr3 rfl T.g_z68 T.F_z68.kp T.B_z68 .nil pass0 (pa_cons (pv 4) (pa_cons (pv 5) pa_nil))))))))
          (pss_one (ps_expr (pe_meth (pv 2) T.C_z40 T.M_z41 GF hr3 T.B_z41 .nil passF (pa_cons (pe_glob rfl g6 (v := .int 6) ⟨_, rfl⟩) (pa_cons (pe_ix ix_list (pe_fld (pv 2) rfl) (pv 5) (fun _ _ => rfl)) pa_nil))))) pss_nil)))
      (pss_one (ps_ret (pv 4))))))), ?_⟩
    refine ⟨_, rfl, _, rfl, fun r dx nr nd ne => ?_⟩
    have keep0 : ∀ b u, H b = some u → upd (upd H dx (.own r)) r (.ins t.c_z40 dx []) b = some u := fun b u e => by rw [upd_ne (ne_of_none e nr), upd_ne (ne_of_none e nd)]; exact e
    have hB' : FrmAt K (upd (upd H dx (.own r)) r (.ins t.c_z40 dx [])) a B := by
      rcases hB with ⟨o, h⟩ | h
      · exact .inl ⟨o, keep0 _ _ h⟩
      · exact .inr h
    refine ⟨r, dx, a, w, B, rfl, upd_same, hB', hlen, fun H1 hp sp nhp nsp R1 F1 => ⟨rfl, ?_⟩⟩
    have S1 : Same H H1 := fun b u e => (Frm.made (S := []) nr nd F1) b u e (by simp)
    have old : ∀ b, upd (upd H dx (.own r)) r (.ins t.c_z40 dx []) b = none → H b = none := fun b h => by
      cases q : H b with
      | none => rfl
      | some u => rw [keep0 b u q] at h; cases h
    rw [judgeM_graph] at ans
    refine ⟨_, rfl, ?_⟩
    refine ⟨r, t.a_z20, Fk.MOLMARK, _, rfl, R1, rfl, rfl, T.T_z20, ans.andThen'.mono fun y hy ans H2 g la lb lr as us rs b p R2 F2 G2 RA2 RB2 rise => ?_⟩
    have S2 : Same H H2 := fun c u e => F2 c u (S1 c u e) (by
      have h1 : c ≠ r := ne_of_none e nr
      have h2 : c ≠ hp := ne_of_none e (old hp nhp)
      have h3 : c ≠ sp := ne_of_none e (old sp nsp)
      simp [h1]
      exact ⟨h2, h3⟩)
    have gy : GoodY y := graphM_good hy few
    have nn : ∀ b, H1 b = none → H b = none := fun b d => by
      cases q : H b with
      | none => rfl
      | some u => rw [S1 b u q] at d; cases d
    have alen : y.1.length = as.length := RA2.len.symm
    obtain ⟨dg, eg⟩ := G2.obj
    refine ⟨_, rfl, g, _, dg, _, _, rfl, eg, T.C_z14, T.n_Graph_atoms, rfl, _, rfl, g, _, dg, _, _, rfl, eg, T.C_z14, T.n_Graph_bonds, rfl, fun o d3 no nd3 ne3 => ?_⟩
    have keep3 : ∀ b u, H2 b = some u → upd (upd H2 d3 (.own o)) o (.ins t.c_z32 d3 []) b = some u := fun b u e => by rw [upd_ne (ne_of_none e no), upd_ne (ne_of_none e nd3)]; exact e
    refine ⟨o, d3, la, lb, as, us, y, fun b => H b = none, rfl, upd_same, keep3 _ _ G2.atoms, keep3 _ _ G2.bonds, (RA2.mono (RepMA.ok _) nn).stay (RepMA.ok _) (fun b u _ h => keep3 b u h), (RB2.mono (RepMB.ok _) nn).stay (RepMB.ok _) (fun b u _ h => keep3 b u h), by have := gy.small; omega, gy.few, rise, fun H4 z hz1 hz2 hz3 hz4 M F4 => ⟨rfl, ?_⟩⟩
    subst hz1 hz2 hz3 hz4
    have S24 : Same H2 H4 := fun b u e => (Frm.made (S := []) no nd3 F4) b u e (by simp)
    have R4 := R2.same S24
    have S4 : Same H H4 := S2.trans S24
    obtain ⟨dm, em⟩ := M.obj
    have alen4 : z.as.length = y.1.length := M.ra.len
    refine ⟨_, rfl, o, _, dm, _, _, rfl, em, T.C_z32, T.n_Molecule_atoms, rfl, z.la, z.as, rfl, SqL.of M.atoms, ?_⟩
    refine for_enum (K := K) (a := z.la) (xs := z.as) (fun i σ H' => ∃ vk va, σ = [some (.ref a), some (.int w), some (.ref r), some (.ref g), some (.ref o), vk, va, none] ∧ Same H4 H' ∧
      Ans t.c_z11 w (JM.fromH (molOf y) (y.1.zipIdx.drop i) y.2.zipIdx) (fun Mo => ∀ H' g z y, MolAt t (fun b => H b = none) H' g z y → GoodY y → Mo = molOf y → Same H H' → Q (.ref g) H') E)
      ⟨none, none, rfl, Same.refl _, ans⟩ (fun i σ H' _ ⟨_, _, _, sm, _⟩ => SqL.of (sm _ _ M.atoms)) ?_ ?_
    · rintro i x σ H' Tt hx ⟨vk, va, rfl, sm, ans⟩ hT
      have hi : i < z.as.length := (List.getElem?_eq_some_iff.mp hx).1
      obtain ⟨c, hc⟩ : ∃ c, y.1[i]? = some c := ⟨_, List.getElem?_eq_getElem (by omega)⟩
      obtain ⟨q, dq, rfl, _, rep⟩ := M.ra.at_ i x c hx hc
      rw [drop_zip hc, JM.fromH_cons] at ans
      have sm' : Same H4 (upd H' Tt (.tup [.int (i : Int), .ref q])) := sm.trans (laid_same hT)
      refine ⟨Tt, _, rfl, SqT.of upd_same, rfl, _, _, rfl, _, _, rfl, rfl, ?_⟩
      refine ⟨_, rfl, q, _, dq, _, _, rfl, sm' _ _ rep, T.C_z3, T.n_Atom_hand, rfl, rfl, _, rfl, ?_⟩
      have de : (!decide (V.int (c.1.hand : Int) = V.int 0)) = (c.1.hand != 0) := by
        rw [Bool.eq_iff_iff]
        simp
      rw [de]
      cases h1 : (c.1.hand != 0) with
      | false =>
        have nb : ¬ JM.badH (molOf y) (c, i) = true := by simp [JM.badH, h1]
        rw [if_neg nb] at ans
        exact ⟨_, _, rfl, sm', ans⟩
      | true =>
        refine ⟨_, rfl, _, rfl, ?_⟩
        refine ⟨o, i, z, y, _, rfl, M.same sm', gy, by omega, fun H5 s5 => ⟨_, rfl, ?_⟩⟩
        have sm5 : Same H4 H5 := sm'.trans s5
        cases h2 : (molOf y).handed i with
        | true =>
          have nb : ¬ JM.badH (molOf y) (c, i) = true := by simp [JM.badH, h1, h2]
          rw [if_neg nb] at ans
          exact ⟨_, _, rfl, sm5, ans⟩
        | false =>
          have nb : JM.badH (molOf y) (c, i) = true := by simp [JM.badH, h1, h2]
          rw [if_pos nb] at ans
          have R5 := R4.same sm5
          obtain ⟨d5, e5⟩ := R5.obj
          have e6 : ((y.1.map fun z => ((z.2 : Nat) : Int)).map V.int)[i]? = some (V.int (c.2 : Int)) := by simp [hc]
          refine ⟨_, rfl, r, d5, _, rfl, e5, rfl, _, rfl, r, _, d5, _, _, rfl, e5, T.C_z40, T.n_Reader_hand_places, rfl, _, rfl, hp, _, _, _, rfl, rfl, SqL.of R5.hpl, atI_nat e6, ?_⟩
          exact ⟨r, w, 4, (c.2 : Int), d5, _, rfl, e5, rfl, fun H' d' hF => ans H' d' hF⟩
    · rintro σ H' ⟨vk, va, rfl, sm, ans⟩
      rw [alen4, show y.1.zipIdx.drop y.1.length = [] from List.drop_eq_nil_of_le (by simp)] at ans
      have M5 := M.same sm
      obtain ⟨dm5, em5⟩ := M5.obj
      refine ⟨_, rfl, o, _, dm5, _, _, rfl, em5, T.C_z32, T.n_Molecule_bonds, rfl, z.lb, z.us, rfl, SqL.of M5.bonds, ?_⟩
      refine for_enum (K := K) (a := z.lb) (xs := z.us) (fun i σ H' => ∃ vk vb, σ = [some (.ref a), some (.int w), some (.ref r), some (.ref g), some (.ref o), vk, va, vb] ∧ Same H4 H' ∧
        Ans t.c_z11 w (JM.fromS (molOf y) (y.2.zipIdx.drop i)) (fun Mo => ∀ H' g z y, MolAt t (fun b => H b = none) H' g z y → GoodY y → Mo = molOf y → Same H H' → Q (.ref g) H') E)
        ⟨vk, none, rfl, sm, ans⟩ (fun i σ H' _ ⟨_, _, _, sm, _⟩ => SqL.of (sm _ _ M.bonds)) ?_ ?_
      · rintro i x σ H' Tt hx ⟨vk, vb, rfl, sm, ans⟩ hT
        have hi : i < z.us.length := (List.getElem?_eq_some_iff.mp hx).1
        have hi2 : i < y.2.length := by rw [← M.rb.len]; exact hi
        obtain ⟨c, hc⟩ : ∃ c, y.2[i]? = some c := ⟨_, List.getElem?_eq_getElem hi2⟩
        obtain ⟨q, dq, rfl, _, rep⟩ := M.rb.at_ i x c hx hc
        rw [drop_zip hc, JM.fromS_cons] at ans
        have sm' : Same H4 (upd H' Tt (.tup [.int (i : Int), .ref q])) := sm.trans (laid_same hT)
        refine ⟨Tt, _, rfl, SqT.of upd_same, rfl, _, _, rfl, _, _, rfl, rfl, ?_⟩
        refine ⟨_, rfl, q, _, dq, _, _, rfl, sm' _ _ rep, T.C_z5, T.n_Bond_side, rfl, rfl, _, rfl, ?_⟩
        have de : (!decide (V.int (c.1.side : Int) = V.int 0)) = (c.1.side != 0) := by
          rw [Bool.eq_iff_iff]
          simp
        rw [de]
        cases h1 : (c.1.side != 0) with
        | false =>
          have nb : ¬ JM.badS (molOf y) (c, i) = true := by simp [JM.badS, h1]
          rw [if_neg nb] at ans
          exact ⟨_, _, rfl, sm', ans⟩
        | true =>
          refine ⟨_, rfl, _, rfl, ?_⟩
          refine ⟨o, i, z, y, _, rfl, M.same sm', gy, hi2, fun H5 s5 => ⟨_, rfl, ?_⟩⟩
          have sm5 : Same H4 H5 := sm'.trans s5
          cases h2 : (molOf y).sided i with
          | true =>
            have nb : ¬ JM.badS (molOf y) (c, i) = true := by simp [JM.badS, h1, h2]
            rw [if_neg nb] at ans
            exact ⟨_, _, rfl, sm5, ans⟩
          | false =>
            have nb : JM.badS (molOf y) (c, i) = true := by simp [JM.badS, h1, h2]
            rw [if_pos nb] at ans
            have R5 := R4.same sm5
            obtain ⟨d5, e5⟩ := R5.obj
            have e6 : ((y.2.map fun z => ((z.2 : Nat) : Int)).map V.int)[i]? = some (V.int (c.2 : Int)) := by simp [hc]
            refine ⟨_, rfl, r, d5, _, rfl, e5, rfl, _, rfl, r, _, d5, _, _, rfl, e5, T.C_z40, T.n_Reader_side_places, rfl, _, rfl, sp, _, _, _, rfl, rfl, SqL.of R5.spl, atI_nat e6, ?_⟩
            exact ⟨r, w, 6, (c.2 : Int), d5, _, rfl, e5, rfl, fun H' d' hF => ans H' d' hF⟩
      · rintro σ H' ⟨vk, vb, rfl, sm, ans⟩
        rw [M.rb.len, show y.2.zipIdx.drop y.2.length = [] from List.drop_eq_nil_of_le (by simp)] at ans
        exact ⟨_, rfl, ans H' o z y (M.same sm) gy rfl (S4.trans sm)⟩
end
end MP
namespace MP
open PySem PySem.Spec PyProof.Rows L2
open XL (excTail)
open Fk (Fault Bytes numIn need andThen Atom Bond Mol PAtom PBond Part)
open JM (MItems molOf MSums MEnds)
section
variable {P : Program} {w : World} {K : PySem.W.Frag} {mg : Str → Option Value} {base : Heap} {t : Ad}
end
end MP
namespace MP
open PySem PySem.Spec PyProof.Rows L2
open XL (excTail)
open Fk (Fault Bytes numIn need andThen Atom Bond Mol PAtom PBond Part)
open JM (MItems molOf MSums MEnds)
abbrev PItems := List (PAtom × Nat) × List (PBond × Nat)
structure PaAt (t : Ad) (D : Addr → Prop) (H : Hp) (g la lb lr : Addr) (as us : List V) (rs : List Addr) (y : PItems) : Prop where
  gr : GrAt t.c_z14 H g la lb lr as us rs (y.2.map JM.pends)
  at_ : Reps (RepA t.c_z52) D H as y.1
  bo : Reps (RepB t.c_z54) D H us y.2
section
variable {P : Program} {w : World} {K : PySem.W.Frag} {mg : Str → Option Value} {base : Heap} {t : Ad}
end
end MP
namespace MP
open PySem PySem.Spec PyProof.Rows L2
open XL (excTail)
open Fk (Fault Bytes numIn need andThen Atom Bond Mol PAtom PBond Part)
open JM (MItems molOf MSums MEnds)
def iB (b : Bytes) : List Int := b.map fun c => (c.toNat : Int)
theorem iB_append (a b : Bytes) : iB (a ++ b) = iB a ++ iB b := by simp [iB]
def nI (l : List Nat) : List Int := l.map fun (n : Nat) => (n : Int)
theorem le1 {n : Nat} (h : n < 256) : iB (Fk.le 1 n) = [(n : Int)] := by
  unfold Fk.le Fk.le iB
  simp
  omega
theorem le2 {n : Nat} (h : n < 65536) : iB (Fk.le 2 n) = [((n % 256 : Nat) : Int), ((n / 256 : Nat) : Int)] := by
  unfold Fk.le Fk.le Fk.le iB
  simp
  omega
theorem le1s : ∀ {l : List Nat}, (∀ n ∈ l, n < 256) → iB (l.flatMap (Fk.le 1)) = nI l
  | [], _ => rfl
  | n :: l, h => by
    rw [List.flatMap_cons, iB_append, le1 (h n (by simp)), le1s fun m hm => h m (by simp [hm])]
    rfl
structure FitsA (z : PAtom) : Prop where
  els : z.elements.length < 256
  el : ∀ n ∈ z.elements, n < 256
  iso : z.isotope < 65536
  cha : z.charge.1 < 256 ∧ z.charge.2 < 256
  hyd : z.hydrogens.1 < 256 ∧ z.hydrogens.2 < 256
  bes : z.beside.1 < 256 ∧ z.beside.2 < 256
  sum : z.sum.1 < 65536 ∧ z.sum.2 < 65536
  ring : z.ring < 256
  hand : z.hand < 256
def two (n : Nat) : List Int := [((n % 256 : Nat) : Int), ((n / 256 : Nat) : Int)]
def pI (x : Nat × Nat) : List Int := [(x.1 : Int), (x.2 : Int)]
theorem atom_bytes_eq {z : PAtom} (f : FitsA z) : iB (Fk.patomBytes z) = ((([(z.elements.length : Int)] ++ nI z.elements ++ two z.isotope) ++ (pI z.charge ++ pI z.hydrogens ++ pI z.beside)) ++ (two z.sum.1 ++ two z.sum.2)) ++ [(z.ring : Int), (z.hand : Int)] := by
  unfold Fk.patomBytes Fk.pair
  simp only [iB_append, le1 f.els, le1s f.el, le2 f.iso, le1 f.cha.1, le1 f.cha.2, le1 f.hyd.1, le1 f.hyd.2, le1 f.bes.1, le1 f.bes.2, le2 f.sum.1, le2 f.sum.2, le1 f.ring, le1 f.hand]
  simp [two, pI]
theorem vI_append (a b : List Int) : vI (a ++ b) = vI a ++ vI b := by simp [vI]
section
variable {P : Program} {w : World} {K : PySem.W.Frag} {mg : Str → Option Value} {base : Heap} {t : Ad}
def spTwo : Sp := fun vs H Q _ => ∃ n : Nat, vs = [.int (n : Int)] ∧ n < 65536 ∧ ∀ H' p, Same H H' → H p = none → H' p = some (.lst (vI (two n))) → Q (.ref p) H'
theorem sc_two : FnScope ["number"] ["number"] (defScope s_z82) := ⟨rfl, rfl, rfl, by decide +kernel, rfl, by decide +kernel, by decide +kernel⟩
theorem ok_two (T : Txt K mg t) : FnOk P w K mg base CX0 1 t.f_z82 t.d_z82 ["number"] spTwo := by
  refine T.F_z82.ok sc_two (fun vs H Q E h => ?_) (fun cdv A outer s H vs Q E hr h => ?_)
  · obtain ⟨n, rfl, _⟩ := h
    rfl
  · obtain ⟨n, rfl, hn, k⟩ := h
    refine ⟨_, pss_one (ps_ret (pe_lst (pa_cons (pe_op op_mod (pv 0) pe_int) (pa_cons (pe_op op_fdiv (pv 0) pe_int) pa_nil)))), ?_⟩
    refine ⟨_, rfl, _, _, rfl, rfl, (by show (0 : Int) < 256; decide), _, rfl, _, _, rfl, rfl, ⟨by decide, by decide⟩, (by show 2 ≤ sizeLine; decide), fun p hp => k _ p (laid_same hp) hp ?_⟩
    rw [upd_same]
    rfl
def spABytes (t : Ad) : Sp := fun vs H Q _ => ∃ (v : V) (z : PAtom × Nat) (D : Addr → Prop), vs = [v] ∧ RepA t.c_z52 D H v z ∧ FitsA z.1 ∧ ∀ H' l, Same H H' → H l = none → H' l = some (.lst (vI (iB (Fk.patomBytes z.1)))) → Q (.ref l) H'
theorem sc_abytes : FnScope ["atom", "row"] ["atom"] (defScope s_z59) := ⟨rfl, rfl, rfl, by decide +kernel, rfl, by decide +kernel, by decide +kernel⟩
theorem ok_abytes (T : Txt K mg t) : FnOk P w K mg base CX0 2 t.f_z59 t.d_z59 ["atom"] (spABytes t) := by
  have G2 : FnOk P w K mg base CX0 1 t.f_z82 t.d_z82 ["number"] spTwo := ok_two T
  refine T.F_z59.ok sc_abytes (fun vs H Q E h => ?_) (fun cdv A outer s H vs Q E hr h => ?_)
  · obtain ⟨v, z, D, rfl, _⟩ := h
    rfl
  · obtain ⟨v, z, D, rfl, rep, fit, k⟩ := h
    refine ⟨_, pss_cons (ps_set (i := 1) sc_abytes.nd rfl (Or.inl rfl) (pe_op op_cat (pe_op op_cat (pe_lst (pa_cons (pe_callB call_len_seq (by rfl) T.b_len PySem.boot_len (pa_cons (pe_fld (pv 0) rfl) pa_nil)) pa_nil)) (pe_fld (pv 0) rfl)) (pe_call G2 hr rfl T.g_z82 T.F_z82.kp T.B_z82 .nil pass0 (pa_cons (pe_fld (pv 0) rfl) pa_nil))))
      (pss_cons (ps_expr (pe_bm PySem.F.plainAttrs_list PySem.F.slot_list_extend PySem.F.type_list_extend mt_extend (pv 1) (pa_cons (pe_op op_cat (pe_op op_cat (pe_callTy call_list_of (by rfl) T.b_list PyProof.Rows.boot_list (pa_cons (pe_fld (pv 0) rfl) pa_nil)) (pe_callTy call_list_of (by rfl) T.b_list PyProof.Rows.boot_list (pa_cons (pe_fld (pv 0) rfl) pa_nil))) (pe_callTy call_list_of (by rfl) T.b_list PyProof.Rows.boot_list (pa_cons (pe_fld (pv 0) rfl) pa_nil))) pa_nil)))
      (pss_cons (ps_expr (pe_bm PySem.F.plainAttrs_list PySem.F.slot_list_extend PySem.F.type_list_extend mt_extend (pv 1) (pa_cons (pe_op op_cat (pe_call G2 hr rfl T.g_z82 T.F_z82.kp T.B_z82 .nil pass0 (pa_cons (pe_ix ix_tup (pe_fld (pv 0) rfl) pe_int (fun _ _ => rfl)) pa_nil)) (pe_call G2 hr rfl T.g_z82 T.F_z82.kp T.B_z82 .nil pass0 (pa_cons (pe_ix ix_tup (pe_fld (pv 0) rfl) pe_int (fun _ _ => rfl)) pa_nil))) pa_nil)))
      (pss_one (ps_ret (pe_op op_cat (pv 1) (pe_lst (pa_cons (pe_fld (pv 0) rfl) (pa_cons (pe_fld (pv 0) rfl) pa_nil)))))))), ?_⟩
    obtain ⟨o, dx, ln, tc, th, tn, tt, rfl, R⟩ := rep
    have vNI : ∀ l : List Nat, vN l = vI (nI l) := fun l => by unfold vN vI nI; rw [List.map_map]; rfl
    have nam : H ln = some (.lst (vI (nI z.1.elements))) := by rw [← vNI]; exact R.nam
    have hsz : ∀ {n : Nat}, n ≤ 10000 → n ≤ sizeLine := fun {n} h => by rw [sizeLine_eq]; omega
    have nl : (vI (nI z.1.elements)).length = z.1.elements.length := by simp [vI, nI]
    have els := fit.els
    refine ⟨_, rfl, o, _, dx, _, _, rfl, R.obj, T.C_z52, T.n_SaidOfAtom_named, rfl, ln, _, rfl, .inl (SqL.of nam), (by show 1 ≤ sizeLine; decide), fun p1 hp1 => ?_⟩
    rw [nl]
    have s1 : Same H (upd H p1 (.lst [V.int (z.1.elements.length : Int)])) := laid_same hp1
    refine ⟨_, rfl, o, _, dx, _, _, rfl, s1 _ _ R.obj, T.C_z52, T.n_SaidOfAtom_named, rfl, p1, ln, _, _, rfl, rfl, upd_same, s1 _ _ nam, hsz (by simp [nl]; omega), fun p2 hp2 => ?_⟩
    have s2 := s1.trans (laid_same (o := .lst ([V.int (z.1.elements.length : Int)] ++ vI (nI z.1.elements))) hp2)
    refine ⟨_, rfl, o, _, dx, _, _, rfl, s2 _ _ R.obj, T.C_z52, T.n_SaidOfAtom_isotope, rfl, ?_⟩
    refine ⟨z.1.isotope, rfl, fit.iso, fun H3 p3 s3 n3 h3 => ?_⟩
    refine ⟨p2, p3, _, _, rfl, rfl, s3 _ _ upd_same, h3, hsz (by simp [vI, nI, two]; omega), fun row hrow => ?_⟩
    have s4 : Same H (upd H3 row (.lst (([V.int (z.1.elements.length : Int)] ++ vI (nI z.1.elements)) ++ vI (two z.1.isotope)))) := (s2.trans s3).trans (laid_same hrow)
    have er : (([V.int (z.1.elements.length : Int)] ++ vI (nI z.1.elements)) ++ vI (two z.1.isotope)) = vI ([(z.1.elements.length : Int)] ++ nI z.1.elements ++ two z.1.isotope) := by rw [vI_append, vI_append]; rfl
    rw [er] at s4 ⊢
    have row0 : H row = none := (s2.trans s3).free hrow
    refine ⟨_, rfl, .inl ⟨rfl, _, SqL.of upd_same⟩, ?_⟩
    have tup : ∀ {Hx : Hp} (q : Addr) (x : Nat × Nat), Same H Hx → H q = some (.tup (vP x)) → SqT K Hx q (vI (pI x)) := fun {Hx} q x sm e => SqT.of (sm _ _ e)
    refine ⟨_, rfl, o, _, dx, _, _, rfl, s4 _ _ R.obj, T.C_z52, T.n_SaidOfAtom_charge, rfl, tc, _, rfl, .inr (tup tc _ s4 R.cha), fun q1 hq1 => ?_⟩
    have t1 := s4.trans (laid_same (o := .lst (vI (pI z.1.charge))) hq1)
    refine ⟨_, rfl, o, _, dx, _, _, rfl, t1 _ _ R.obj, T.C_z52, T.n_SaidOfAtom_hydrogens, rfl, th, _, rfl, .inr (tup th _ t1 R.hyd), fun q2 hq2 => ?_⟩
    have u2 := laid_same (o := .lst (vI (pI z.1.hydrogens))) hq2
    have t2 := t1.trans u2
    refine ⟨q1, q2, _, _, rfl, rfl, u2 _ _ upd_same, upd_same, hsz (by simp [vI, pI]), fun q3 hq3 => ?_⟩
    have u3 := laid_same (o := .lst (vI (pI z.1.charge) ++ vI (pI z.1.hydrogens))) hq3
    have t3 := t2.trans u3
    refine ⟨_, rfl, o, _, dx, _, _, rfl, t3 _ _ R.obj, T.C_z52, T.n_SaidOfAtom_neighbours, rfl, tn, _, rfl, .inr (tup tn _ t3 R.bes), fun q4 hq4 => ?_⟩
    have u4 := laid_same (o := .lst (vI (pI z.1.beside))) hq4
    have t4 := t3.trans u4
    refine ⟨q3, q4, _, _, rfl, rfl, u4 _ _ upd_same, upd_same, hsz (by simp [vI, pI]), fun q5 hq5 => ?_⟩
    have u5 := laid_same (o := .lst ((vI (pI z.1.charge) ++ vI (pI z.1.hydrogens)) ++ vI (pI z.1.beside))) hq5
    have t5 := t4.trans u5
    have rowAt : ∀ {Hx : Hp} {xs : List V}, upd H3 row (.lst xs) row = some (.lst xs) := fun {_ _} => upd_same
    have r5 := u5 _ _ (u4 _ _ (u3 _ _ (u2 _ _ (laid_same (o := .lst (vI (pI z.1.charge))) hq1 _ _ (upd_same (H := H3) (a := row) (o := .lst (vI ([(z.1.elements.length : Int)] ++ nI z.1.elements ++ two z.1.isotope))))))))
    refine ⟨row, q5, _, _, rfl, rfl, r5, upd_same, hsz (by simp [nl, vI, nI, pI, two]; omega), ?_⟩
    have e5 : vI ([(z.1.elements.length : Int)] ++ nI z.1.elements ++ two z.1.isotope) ++ ((vI (pI z.1.charge) ++ vI (pI z.1.hydrogens)) ++ vI (pI z.1.beside)) = vI (([(z.1.elements.length : Int)] ++ nI z.1.elements ++ two z.1.isotope) ++ (pI z.1.charge ++ pI z.1.hydrogens ++ pI z.1.beside)) := by simp only [vI_append, List.append_assoc]
    rw [e5]
    have t6 : ∀ u, Same H (upd (upd (upd (upd (upd (upd (upd H3 row (.lst (vI ([(z.1.elements.length : Int)] ++ nI z.1.elements ++ two z.1.isotope)))) q1 (.lst (vI (pI z.1.charge)))) q2 (.lst (vI (pI z.1.hydrogens)))) q3 (.lst (vI (pI z.1.charge) ++ vI (pI z.1.hydrogens)))) q4 (.lst (vI (pI z.1.beside)))) q5 (.lst ((vI (pI z.1.charge) ++ vI (pI z.1.hydrogens)) ++ vI (pI z.1.beside)))) row u) := fun u b v e => by
      rw [upd_ne (ne_of_none e row0)]; exact t5 b v e
    refine ⟨_, rfl, .inl ⟨rfl, _, SqL.of upd_same⟩, ?_⟩
    have tts : ∀ {Hx : Hp}, Same H Hx → SqT K Hx tt [V.int (z.1.sum.1 : Int), V.int (z.1.sum.2 : Int)] := fun {Hx} sm => SqT.of (sm _ _ R.sum)
    refine ⟨_, rfl, o, _, dx, _, _, rfl, t6 _ _ _ R.obj, T.C_z52, T.n_SaidOfAtom_total, rfl, tt, _, _, _, rfl, rfl, tts (t6 _), rfl, ?_⟩
    refine ⟨z.1.sum.1, rfl, fit.sum.1, fun H7 p7 s7 n7 h7 => ?_⟩
    have t7 := (t6 _).trans s7
    refine ⟨_, rfl, o, _, dx, _, _, rfl, t7 _ _ R.obj, T.C_z52, T.n_SaidOfAtom_total, rfl, tt, _, _, _, rfl, rfl, tts t7, rfl, ?_⟩
    refine ⟨z.1.sum.2, rfl, fit.sum.2, fun H8 p8 s8 n8 h8 => ?_⟩
    have t8 := t7.trans s8
    refine ⟨p7, p8, _, _, rfl, rfl, s8 _ _ h7, h8, hsz (by simp [vI, two]), fun p9 hp9 => ?_⟩
    have u9 := laid_same (o := .lst (vI (two z.1.sum.1) ++ vI (two z.1.sum.2))) hp9
    have r9 := u9 _ _ (s8 _ _ (s7 _ _ upd_same))
    refine ⟨row, p9, _, _, rfl, rfl, r9, upd_same, hsz (by simp [nl, vI, nI, pI, two]; omega), ?_⟩
    have t9 : ∀ u, Same H (upd (upd H8 p9 (.lst (vI (two z.1.sum.1) ++ vI (two z.1.sum.2)))) row u) := fun u b v e => by
      rw [upd_ne (ne_of_none e row0)]; exact (t8.trans u9) b v e
    refine ⟨_, rfl, _, rfl, o, _, dx, _, _, rfl, t9 _ _ _ R.obj, T.C_z52, T.n_SaidOfAtom_ring, rfl, _, rfl, o, _, dx, _, _, rfl, t9 _ _ _ R.obj, T.C_z52, T.n_SaidOfAtom_hand, rfl, (by show 2 ≤ sizeLine; decide), fun pa hpa => ?_⟩
    have ua := laid_same (o := .lst [V.int (z.1.ring : Int), V.int (z.1.hand : Int)]) hpa
    refine ⟨row, pa, _, _, rfl, rfl, ua _ _ upd_same, upd_same, hsz (by simp [nl, vI, nI, pI, two]; omega), fun pb hpb => ?_⟩
    refine k _ pb (((t9 _).trans ua).trans (laid_same hpb)) (((t9 _).trans ua).free hpb) ?_
    rw [upd_same, atom_bytes_eq fit]
    simp only [vI_append, List.append_assoc]
    rfl
end
end MP
namespace MP
open PySem PySem.Spec PyProof.Rows L2
open XL (excTail)
open Fk (Fault Bytes numIn need andThen PAtom PBond Part)
section
variable {P : Program} {w : World} {K : PySem.W.Frag} {mg : Str → Option Value} {base : Heap} {t : Ad}
def spFA (CF : Addr) : Sp := fun vs H Q _ => ∃ (a dx : Addr) (w r p : Int), vs = [.ref a] ∧ H a = some (XR a CF dx) ∧ FaultAt H dx w r p ∧ ∀ H' l, H' l = some (.lst ([-5, w, r, p].map V.int)) → Q (.ref l) H'
theorem sc_fa : FnScope ["fault"] ["fault"] (defScope s_z65) := ⟨rfl, rfl, rfl, by decide +kernel, rfl, by decide +kernel, by decide +kernel⟩
theorem ok_fa (T : Txt K mg t) : FnOkU P w K mg base 1 t.f_z65 t.d_z65 ["fault"] (spFA t.c_z11) := by
  obtain ⟨tk, g⟩ := T.k_z9
  obtain ⟨oc, od, kV, doc, pm, an, cdv, ct, osl, e, lk, hcd⟩ := T.F_z65.ex
  rw [e] at lk
  rw [e]
  refine fn_ofU lk hcd sc_fa (fun vs H Q E h => ?_) (fun A outer s H vs Q E hr h => ?_)
  · obtain ⟨a, dx, w, r, p, rfl, _⟩ := h
    rfl
  · obtain ⟨a, dx, w, r, p, rfl, ha, hf, k⟩ := h
    refine ⟨_, pss_one (ps_ret (pe_lst (pa_cons (pe_glob rfl g (v := .int (-5)) ⟨_, rfl⟩) (pa_cons (pe_xf T.X_z11 (pv 0) (by simp) noB_which rfl) (pa_cons (pe_xf T.X_z11 (pv 0) (by simp) noB_rule rfl) (pa_cons (pe_xf T.X_z11 (pv 0) (by simp) noB_place rfl) pa_nil)))))), ?_⟩
    exact ⟨_, rfl, a, dx, _, _, rfl, ha, hf, rfl, _, rfl, a, dx, _, _, rfl, ha, hf, rfl, _, rfl, a, dx, _, _, rfl, ha, hf, rfl, (by show 4 ≤ sizeLine; decide), fun l hl => k _ l upd_same⟩
end
end MP
namespace MP
open PySem PySem.Spec PyProof.Rows L2
open XL (excTail)
open Fk (Fault Bytes numIn need andThen Atom Bond Mol PAtom PBond Part)
open JM (MItems molOf MSums MEnds)
def partP (y : PItems) : Part := ⟨y.1.map fun z => z.1, y.2.map fun z => z.1⟩
def FitsB (x : PBond) : Prop := x.a < 256 ∧ x.b < 256 ∧ x.orders < 256 ∧ x.how < 256 ∧ x.ring < 256 ∧ x.side < 256
structure FitsP (y : PItems) : Prop where
  na : y.1.length < 256
  nb : y.2.length < 256
  at_ : ∀ z ∈ y.1, FitsA z.1
  bo : ∀ z ∈ y.2, FitsB z.1
def bI (x : PBond) : List Int := [(x.a : Int), (x.b : Int), (x.orders : Int), (x.how : Int), (x.ring : Int), (x.side : Int)]
theorem bond_bytes_eq {x : PBond} (f : FitsB x) : iB (Fk.pbondBytes x) = bI x := by
  obtain ⟨h1, h2, h3, h4, h5, h6⟩ := f
  unfold Fk.pbondBytes
  simp only [iB_append, le1 h1, le1 h2, le1 h3, le1 h4, le1 h5, le1 h6]
  rfl
def headI (y : PItems) : List Int := [70, 75, 80, 49, (y.1.length : Int), (y.2.length : Int)]
def atomsI (l : List (PAtom × Nat)) : List Int := l.flatMap fun z => iB (Fk.patomBytes z.1)
def bondsI (l : List (PBond × Nat)) : List Int := l.flatMap fun z => bI z.1
theorem form_eq {y : PItems} (f : FitsP y) : iB (Fk.writePart (partP y)) = headI y ++ atomsI y.1 ++ bondsI y.2 := by
  have e1 : ∀ l : List (PAtom × Nat), iB ((l.map fun z => z.1).flatMap Fk.patomBytes) = atomsI l := fun l => by
    induction l with
    | nil => rfl
    | cons z l ih => rw [List.map_cons, List.flatMap_cons, iB_append, ih]; rfl
  have e2 : ∀ l : List (PBond × Nat), (∀ z ∈ l, FitsB z.1) → iB ((l.map fun z => z.1).flatMap Fk.pbondBytes) = bondsI l := fun l h => by
    induction l with
    | nil => rfl
    | cons z l ih => rw [List.map_cons, List.flatMap_cons, iB_append, ih (fun w hw => h w (by simp [hw])), bond_bytes_eq (h z (by simp))]; rfl
  have n1 : (partP y).n = y.1.length := by simp [partP, Part.n]
  have n2 : (partP y).bonds.length = y.2.length := by simp [partP]
  unfold Fk.writePart
  rw [n1, n2]
  simp only [iB_append, le1 f.na, le1 f.nb]
  rw [show iB ((partP y).atoms.flatMap Fk.patomBytes) = atomsI y.1 from e1 y.1, show iB ((partP y).bonds.flatMap Fk.pbondBytes) = bondsI y.2 from e2 y.2 f.bo]
  rfl
theorem abytes_len {z : PAtom} (f : FitsA z) : (iB (Fk.patomBytes z)).length ≤ 280 := by
  rw [atom_bytes_eq f]
  have := f.els
  simp [nI, two, pI]
  omega
theorem atomsI_snoc (l : List (PAtom × Nat)) (z : PAtom × Nat) : atomsI (l ++ [z]) = atomsI l ++ iB (Fk.patomBytes z.1) := by simp [atomsI]
theorem bondsI_snoc (l : List (PBond × Nat)) (z : PBond × Nat) : bondsI (l ++ [z]) = bondsI l ++ bI z.1 := by simp [bondsI]
section
variable {P : Program} {w : World} {K : PySem.W.Frag} {mg : Str → Option Value} {base : Heap} {t : Ad}
def spForm (t : Ad) : Sp := fun vs H Q _ => ∃ (g la lb lr : Addr) (as us : List V) (rs : List Addr) (y : PItems) (D : Addr → Prop), vs = [.ref g] ∧ PaAt t D H g la lb lr as us rs y ∧ FitsP y ∧
  ∀ H' l, Same H H' → H l = none → H' l = some (.lst (vI (iB (Fk.writePart (partP y))))) → (iB (Fk.writePart (partP y))).length ≤ 100000 → Q (.ref l) H'
theorem sc_form : FnScope ["pattern", "form", "atom", "bond"] ["pattern"] (defScope s_z73) := ⟨rfl, rfl, rfl, by decide +kernel, rfl, by decide +kernel, by decide +kernel⟩
theorem ok_form (T : Txt K mg t) : FnOk P w K mg base CX0 3 t.f_z73 t.d_z73 ["pattern"] (spForm t) := by
  have GA : FnOk P w K mg base CX0 2 t.f_z59 t.d_z59 ["atom"] (spABytes t) := ok_abytes T
  refine T.F_z73.ok sc_form (fun vs H Q E h => ?_) (fun cdv A outer s H vs Q E hr h => ?_)
  · obtain ⟨g, la, lb, lr, as, us, rs, y, D, rfl, _⟩ := h
    rfl
  · obtain ⟨g, la, lb, lr, as, us, rs, y, D, rfl, M, fit, k⟩ := h
    refine ⟨_, pss_cons (ps_set (i := 1) sc_form.nd rfl (Or.inl rfl) (pe_op op_cat (pe_callTy call_list_of (by rfl) T.b_list PyProof.Rows.boot_list (pa_cons (pe_glob rfl T.g_z21 (v := .ref t.a_z21) rfl) pa_nil)) (pe_lst (pa_cons (pe_callB call_len_seq (by rfl) T.b_len PySem.boot_len (pa_cons (pe_fld (pv 0) rfl) pa_nil)) (pa_cons (pe_callB call_len_seq (by rfl) T.b_len PySem.boot_len (pa_cons (pe_fld (pv 0) rfl) pa_nil)) pa_nil)))))
      (pss_cons (ps_for PassesOwn.never rfl (pi_list (pe_fld (pv 0) rfl)) (pg_name (i := 2) sc_form.nd rfl (Or.inl rfl))
        (pss_one (ps_expr (pe_bm PySem.F.plainAttrs_list PySem.F.slot_list_extend PySem.F.type_list_extend mt_extend (pv 1) (pa_cons (pe_call GA hr rfl T.g_z59 T.F_z59.kp T.B_z59 .nil pass0 (pa_cons (pv 2) pa_nil)) pa_nil)))))
      (pss_cons (ps_for PassesOwn.never rfl (pi_list (pe_fld (pv 0) rfl)) (pg_name (i := 3) sc_form.nd rfl (Or.inl rfl))
        (pss_one (ps_expr (pe_bm PySem.F.plainAttrs_list PySem.F.slot_list_extend PySem.F.type_list_extend mt_extend (pv 1) (pa_cons (pe_lst (pa_cons (pe_fld (pv 3) rfl) (pa_cons (pe_fld (pv 3) rfl) (pa_cons (pe_fld (pv 3) rfl) (pa_cons (pe_fld (pv 3) rfl) (pa_cons (pe_fld (pv 3) rfl) (pa_cons (pe_fld (pv 3) rfl) pa_nil))))))) pa_nil)))))
      (pss_one (ps_ret (pv 1))))), ?_⟩
    obtain ⟨dg, eg⟩ := M.gr.obj
    have hsz : ∀ {n : Nat}, n ≤ 200000 → n ≤ sizeLine := fun {n} h => by rw [sizeLine_eq]; omega
    have na := fit.na
    have nb := fit.nb
    refine ⟨t.a_z21, _, rfl, .inr (T.T_z21 H), fun p1 hp1 => ?_⟩
    have s1 := laid_same (o := .lst [V.int 70, V.int 75, V.int 80, V.int 49]) hp1
    refine ⟨_, rfl, g, _, dg, _, _, rfl, s1 _ _ eg, T.C_z14, T.n_Graph_atoms, rfl, la, as, rfl, .inl (SqL.of (s1 _ _ M.gr.atoms)), _, rfl, g, _, dg, _, _, rfl, s1 _ _ eg, T.C_z14, T.n_Graph_bonds, rfl, lb, us, rfl, .inl (SqL.of (s1 _ _ M.gr.bonds)), (by show 2 ≤ sizeLine; decide), fun p2 hp2 => ?_⟩
    have u2 := laid_same (o := .lst [V.int (as.length : Int), V.int (us.length : Int)]) hp2
    refine ⟨p1, p2, _, _, rfl, rfl, u2 _ _ upd_same, upd_same, hsz (by simp), fun f hf => ?_⟩
    have s3 := (s1.trans u2).trans (laid_same (o := .lst ([V.int 70, V.int 75, V.int 80, V.int 49] ++ [V.int (as.length : Int), V.int (us.length : Int)])) hf)
    have f0 : H f = none := (s1.trans u2).free hf
    have eh : ([V.int 70, V.int 75, V.int 80, V.int 49] ++ [V.int (as.length : Int), V.int (us.length : Int)] : List V) = vI (headI y) := by rw [M.at_.len, M.bo.len]; rfl
    rw [eh] at s3 ⊢
    have keep : ∀ {Hx : Hp} (u : HO), Same H Hx → Same H (upd Hx f u) := fun {Hx} u sm b v e => by rw [upd_ne (ne_of_none e f0)]; exact sm b v e
    refine ⟨_, rfl, g, _, dg, _, _, rfl, s3 _ _ eg, T.C_z14, T.n_Graph_atoms, rfl, la, rfl, ⟨_, SqL.of (s3 _ _ M.gr.atoms)⟩, ?_⟩
    refine for_list (K := K) (a := la) (xs := as) (fun i σ H' => ∃ v2, σ = [some (.ref g), some (.ref f), v2, none] ∧ Same H H' ∧ H' f = some (.lst (vI (headI y ++ atomsI (y.1.take i)))) ∧ (headI y ++ atomsI (y.1.take i)).length ≤ 6 + 280 * i) ⟨none, rfl, s3, by rw [upd_same]; simp [atomsI], by simp [atomsI, headI]⟩ (fun i σ H' _ ⟨_, _, sm, _⟩ => SqL.of (sm _ _ M.gr.atoms)) ?_ ?_
    · rintro i x σ H' hx ⟨v2, rfl, sm, hf', hl⟩
      have hi : i < as.length := (List.getElem?_eq_some_iff.mp hx).1
      have hiy : i < y.1.length := by rw [← M.at_.len]; exact hi
      obtain ⟨c, hc⟩ : ∃ c, y.1[i]? = some c := ⟨_, List.getElem?_eq_getElem hiy⟩
      have rep := M.at_.at_ i x c hx hc
      have fc := fit.at_ c (List.mem_of_getElem? hc)
      have al := abytes_len fc
      refine ⟨_, rfl, .inl ⟨rfl, _, SqL.of hf'⟩, _, rfl, ?_⟩
      refine ⟨x, c, D, rfl, (RepA.ok _).stay rep (fun b o _ e => sm _ _ e), fc, fun H2 l s2 nl hl2 => ?_⟩
      refine ⟨f, l, _, _, rfl, rfl, s2 _ _ hf', hl2, hsz (by simp only [vI, List.length_map]; omega), ?_⟩
      refine ⟨_, rfl, keep _ (sm.trans s2), ?_, ?_⟩
      · rw [upd_same, take_snoc hc, atomsI_snoc, ← vI_append, List.append_assoc]
      · rw [take_snoc hc, atomsI_snoc, ← List.append_assoc, List.length_append]
        omega
    · rintro σ H1 ⟨v2, rfl, sm, hf', hl⟩
      rw [M.at_.len, List.take_length] at hf' hl
      refine ⟨_, rfl, g, _, dg, _, _, rfl, sm _ _ eg, T.C_z14, T.n_Graph_bonds, rfl, lb, rfl, ⟨_, SqL.of (sm _ _ M.gr.bonds)⟩, ?_⟩
      refine for_list (K := K) (a := lb) (xs := us) (fun i σ H' => ∃ v3, σ = [some (.ref g), some (.ref f), v2, v3] ∧ Same H H' ∧ H' f = some (.lst (vI (headI y ++ atomsI y.1 ++ bondsI (y.2.take i)))) ∧ (headI y ++ atomsI y.1 ++ bondsI (y.2.take i)).length ≤ 72000 + 6 * i) ⟨none, rfl, sm, by rw [hf']; simp [bondsI], by simp [bondsI]; simp at hl; omega⟩ (fun i σ H' _ ⟨_, _, sm, _⟩ => SqL.of (sm _ _ M.gr.bonds)) ?_ ?_
      · rintro i x σ H' hx ⟨v3, rfl, sm, hf', hl⟩
        have hi : i < us.length := (List.getElem?_eq_some_iff.mp hx).1
        have hiy : i < y.2.length := by rw [← M.bo.len]; exact hi
        obtain ⟨c, hc⟩ : ∃ c, y.2[i]? = some c := ⟨_, List.getElem?_eq_getElem hiy⟩
        obtain ⟨o, dx, rfl, _, rep⟩ := M.bo.at_ i x c hx hc
        have r' := sm _ _ rep
        refine ⟨_, rfl, .inl ⟨rfl, _, SqL.of hf'⟩, ?_⟩
        refine ⟨_, rfl, o, _, dx, _, _, rfl, r', T.C_z54, T.n_SaidOfBond_a, rfl, _, rfl, o, _, dx, _, _, rfl, r', T.C_z54, T.n_SaidOfBond_b, rfl, _, rfl, o, _, dx, _, _, rfl, r', T.C_z54, T.n_SaidOfBond_orders, rfl,
          _, rfl, o, _, dx, _, _, rfl, r', T.C_z54, T.n_SaidOfBond_how, rfl, _, rfl, o, _, dx, _, _, rfl, r', T.C_z54, T.n_SaidOfBond_ring, rfl, _, rfl, o, _, dx, _, _, rfl, r', T.C_z54, T.n_SaidOfBond_side, rfl, (by show 6 ≤ sizeLine; decide), fun p hp => ?_⟩
        have up := laid_same (o := .lst (vI (bI c.1))) hp
        refine ⟨f, p, _, vI (bI c.1), rfl, rfl, up _ _ hf', upd_same, hsz (by simp only [vI, List.length_map]; have : (bI c.1).length = 6 := rfl; omega), ?_⟩
        refine ⟨_, rfl, keep _ (sm.trans up), ?_, ?_⟩
        · rw [upd_same, take_snoc hc, bondsI_snoc, ← vI_append, List.append_assoc, List.append_assoc]
        · rw [take_snoc hc, bondsI_snoc, ← List.append_assoc, List.length_append]
          have : (bI c.1).length = 6 := rfl
          omega
      · rintro σ H2 ⟨v3, rfl, sm, hf', hl⟩
        rw [M.bo.len, List.take_length] at hf' hl
        rw [← form_eq fit] at hf' hl
        exact ⟨_, rfl, k H2 f sm f0 hf' (by omega)⟩
def spRow : Sp := fun vs H Q _ => ∃ (l : Addr) (r : List Int), vs = [.ref l] ∧ H l = some (.lst (vI r)) ∧ r.length ≤ 200000 ∧ ∀ H' p, H' p = some (.lst (vI (0 :: (r.length : Int) :: r))) → Q (.ref p) H'
theorem sc_row : FnScope ["row"] ["row"] (defScope s_z76) := ⟨rfl, rfl, rfl, by decide +kernel, rfl, by decide +kernel, by decide +kernel⟩
theorem ok_row (T : Txt K mg t) : FnOk P w K mg base CX0 1 t.f_z76 t.d_z76 ["row"] spRow := by
  obtain ⟨tk, g⟩ := T.k_z1
  refine T.F_z76.ok sc_row (fun vs H Q E h => ?_) (fun cdv A outer s H vs Q E hr h => ?_)
  · obtain ⟨l, r, rfl, _⟩ := h
    rfl
  · obtain ⟨l, r, rfl, hl, hr0, k⟩ := h
    refine ⟨_, pss_one (ps_ret (pe_op op_cat (pe_lst (pa_cons (pe_glob rfl g (v := .int 0) ⟨_, rfl⟩) (pa_cons (pe_callB call_len_seq (by rfl) T.b_len PySem.boot_len (pa_cons (pv 0) pa_nil)) pa_nil))) (pv 0))), ?_⟩
    have ln : (vI r).length = r.length := by simp [vI]
    refine ⟨_, rfl, l, _, rfl, .inl (SqL.of hl), (by show 2 ≤ sizeLine; decide), fun p1 hp1 => ?_⟩
    have s1 := laid_same (o := .lst [V.int 0, V.int ((vI r).length : Int)]) hp1
    refine ⟨_, rfl, p1, l, _, _, rfl, rfl, upd_same, s1 _ _ hl, by rw [sizeLine_eq]; simp [ln]; omega, fun p2 hp2 => k _ p2 ?_⟩
    rw [upd_same, ln]
    rfl
end
end MP
namespace MP
open PySem PySem.Spec PyProof.Rows L2
open XL (excTail)
open Fk (Fault Bytes numIn need andThen Atom Bond Mol PAtom PBond Part)
open JM (MItems molOf MSums MEnds)
section
variable {P : Program} {w : World} {K : PySem.W.Frag} {mg : Str → Option Value} {base : Heap} {t : Ad}
end
theorem frm_of {K : PySem.W.Frag} {H : Hp} {a : Addr} {B : Bytes} (hO : OnlyF H) (hs : SqL K H a (vB B)) : FrmAt K H a B := by
  rcases hs with hs | hs
  · rcases hs with h | ⟨o, h⟩
    · rcases hO a with z | ⟨o, u, z⟩ <;> (rw [z] at h; cases h)
    · exact .inl ⟨o, h⟩
  · exact .inr fun H' => .inr hs
def bytesOf (l : List Int) : Bytes := l.map fun (z : Int) => UInt8.ofNat z.toNat
theorem bytesOf_len (l : List Int) : (bytesOf l).length = l.length := by simp [bytesOf]
theorem vB_of : ∀ l : List Int, (∀ z ∈ l, 0 ≤ z ∧ z ≤ 255) → l.map V.int = vB (bytesOf l)
  | [], _ => rfl
  | z :: r, h => by
    have hz := h z (by simp)
    have ih := vB_of r fun y hy => h y (by simp [hy])
    have e : ((UInt8.ofNat z.toNat).toNat : Int) = z := by
      rw [UInt8.toNat_ofNat', Nat.mod_eq_of_lt (by omega)]
      omega
    unfold vB bytesOf at ih ⊢
    simp only [List.map_cons, e, ih]
theorem bytes_some (l : List Int) (h : ∀ z ∈ l, 0 ≤ z ∧ z ≤ 255) : PartNeutral.bytes l = some (bytesOf l) := by
  have hb : NeutralIO.bytes l = true := by
    unfold NeutralIO.bytes
    rw [List.all_eq_true]
    intro z hz
    have := h z hz
    simp [this]
  unfold PartNeutral.bytes
  rw [if_pos hb]
  rfl
end MP
namespace MP
open PySem PySem.Spec PyProof.Rows L2
open XL (excTail)
open Fk (Fault Bytes numIn need andThen Atom Bond Mol PAtom PBond Part)
open JM (MItems molOf MSums MEnds)
def LiAt (K : PySem.W.Frag) (H : Hp) (a : Addr) (xs : List V) : Prop := (∃ o, H a = some (.frz o (.lst xs))) ∨ ∀ H', SqL K H' a xs
theorem LiAt.sq {K : PySem.W.Frag} {H : Hp} {a : Addr} {xs : List V} (h : LiAt K H a xs) : SqL K H a xs := by
  rcases h with ⟨o, h⟩ | h
  · exact .inl (.inr ⟨o, h⟩)
  · exact h H
theorem LiAt.same {K : PySem.W.Frag} {H H' : Hp} {a : Addr} {xs : List V} (h : LiAt K H a xs) (f : Same H H') : LiAt K H' a xs := by
  rcases h with ⟨o, h⟩ | h
  · exact .inl ⟨o, f _ _ h⟩
  · exact .inr h
theorem li_of {K : PySem.W.Frag} {H : Hp} {a : Addr} {xs : List V} (hO : OnlyF H) (hs : SqL K H a xs) : LiAt K H a xs := by
  rcases hs with hs | hs
  · rcases hs with h | ⟨o, h⟩
    · rcases hO a with z | ⟨o, u, z⟩ <;> (rw [z] at h; cases h)
    · exact .inl ⟨o, h⟩
  · exact .inr fun H' => .inr hs
def riseFrom (n : Nat) : Int → List Nat → Bool
  | _, [] => true
  | b, v :: r => !(decide ((v : Int) ≤ b) || decide ((n : Int) ≤ (v : Int))) && riseFrom n (v : Int) r
theorem riseFrom_cons (n : Nat) (b : Int) (v : Nat) (r : List Nat) : riseFrom n b (v :: r) = (!(decide ((v : Int) ≤ b) || decide ((n : Int) ≤ (v : Int))) && riseFrom n (v : Int) r) := rfl
theorem rise_gen (n : Nat) : ∀ (l : List Nat) (b : Int), riseFrom n b l = ((match l with | [] => true | v :: _ => decide (b < (v : Int))) && (FkP.rising l && l.all fun v => decide (v < n)))
  | [], b => by simp [riseFrom, FkP.rising]
  | v :: r, b => by
    unfold riseFrom
    rw [rise_gen n r v]
    cases r with
    | nil =>
      rw [Bool.eq_iff_iff]
      simp [FkP.rising]
    | cons u r =>
      have e : FkP.rising (v :: u :: r) = (decide (v < u) && FkP.rising (u :: r)) := by simp [FkP.rising]
      have e2 : ((v :: u :: r).all fun v => decide (v < n)) = (decide (v < n) && (u :: r).all fun v => decide (v < n)) := List.all_cons
      rw [e, e2, Bool.eq_iff_iff]
      simp only [Bool.and_eq_true, Bool.not_eq_true', Bool.or_eq_false_iff, decide_eq_false_iff_not, decide_eq_true_eq]
      constructor
      · rintro ⟨⟨h1, h2⟩, h3, h4, h5⟩
        exact ⟨by omega, ⟨by omega, h4⟩, by omega, h5⟩
      · rintro ⟨h1, ⟨h2, h4⟩, h3, h5⟩
        exact ⟨⟨by omega, by omega⟩, by omega, h4, h5⟩
theorem rise_eq (n : Nat) (l : List Nat) : riseFrom n (-1) l = (FkP.rising l && l.all fun v => decide (v < n)) := by
  rw [rise_gen]
  cases l with
  | nil => rfl
  | cons v r =>
    have : decide ((-1 : Int) < (v : Int)) = true := decide_eq_true (by omega)
    simp only [this, Bool.true_and]
section
variable {P : Program} {w : World} {K : PySem.W.Frag} {mg : Str → Option Value} {base : Heap} {t : Ad}
def spRise (K : PySem.W.Frag) : Sp := fun vs H Q _ => ∃ (a : Addr) (n : Nat) (l : List Nat), vs = [.ref a, .int (n : Int)] ∧ LiAt K H a (vN l) ∧ Q (.bl (riseFrom n (-1) l)) H
theorem sc_rise : FnScope ["atoms", "n", "before", "atom"] ["atoms", "n"] (defScope s_z58) := ⟨rfl, rfl, rfl, by decide +kernel, rfl, by decide +kernel, by decide +kernel⟩
theorem ok_rise (T : Txt K mg t) : FnOk P w K mg base CX0 1 t.f_z58 t.d_z58 ["atoms", "n"] (spRise K) := by
  refine T.F_z58.ok sc_rise (fun vs H Q E h => ?_) (fun cdv A outer s H vs Q E hr h => ?_)
  · obtain ⟨a, n, l, rfl, _⟩ := h
    rfl
  · obtain ⟨a, n, l, rfl, hl, k⟩ := h
    have ev : ∀ i : Nat, (vN l)[i]? = (l[i]?).map (fun (v : Nat) => V.int (v : Int)) := fun i => by simp [vN]
    refine ⟨_, pss_cons (ps_set (i := 2) sc_rise.nd rfl (Or.inl rfl) (pe_un un_neg pe_int))
      (pss_cons (ps_for PassesOwn.never rfl (pi_list (pv 0)) (pg_name (i := 3) sc_rise.nd rfl (Or.inl rfl))
        (pss_cons (ps_if (PW.pt (pw_or (pt_cmpR op_le (pv 3) (pv 2) (nomark _)) (pw_or1 (pt_cmpR op_ge (pv 3) (pv 1) (nomark _))))) (pss_one (ps_ret pe_bl)) pss_nil)
        (pss_one (ps_set (i := 2) sc_rise.nd rfl (Or.inl rfl) (pv 3)))))
      (pss_one (ps_ret pe_bl))), ?_⟩
    refine ⟨_, rfl, _, rfl, a, rfl, ⟨_, hl.sq⟩, ?_⟩
    refine for_list (K := K) (a := a) (xs := vN l) (fun i σ H' => ∃ (b : Int), ∃ v3, σ = [some (.ref a), some (.int (n : Int)), some (.int b), v3] ∧ H' = H ∧ riseFrom n b (l.drop i) = riseFrom n (-1) l) ⟨-1, none, rfl, rfl, rfl⟩ (fun i σ H' _ ⟨_, _, _, e, _⟩ => by rw [e]; exact hl.sq) ?_ ?_
    · rintro i x σ H' hx ⟨b, v3, rfl, rfl, e⟩
      obtain ⟨v, hv, rfl⟩ : ∃ v, l[i]? = some v ∧ x = .int (v : Int) := by
        rw [ev] at hx
        cases h : l[i]? with
        | none => rw [h] at hx; cases hx
        | some v => rw [h] at hx; exact ⟨v, rfl, (Option.some.inj hx).symm⟩
      have ed : l.drop i = v :: l.drop (i + 1) := by
        have hi := (List.getElem?_eq_some_iff.mp hv)
        obtain ⟨hlt, hv'⟩ := hi
        rw [List.drop_eq_getElem_cons hlt, hv']
      rw [ed] at e
      rw [riseFrom_cons] at e
      refine ⟨_, rfl, _, rfl, _, _, rfl, rfl, _, rfl, ?_⟩
      refine ite2 (fun c => ?_) (fun c => ?_)
      · refine iteT ?_
        have f : riseFrom n (-1) l = false := by rw [← e, c]; rfl
        rw [f] at k
        exact k
      · have c' : decide ((v : Int) ≤ b) = false := by
          cases h : decide ((v : Int) ≤ b) with
          | false => rfl
          | true => exact absurd h c
        refine ⟨_, rfl, _, rfl, _, _, rfl, rfl, _, rfl, ?_⟩
        refine ite2 (fun d => ?_) (fun d => ?_)
        · have f : riseFrom n (-1) l = false := by rw [← e, d]; simp
          rw [f] at k
          exact k
        · have d' : decide ((n : Int) ≤ (v : Int)) = false := by
            cases h : decide ((n : Int) ≤ (v : Int)) with
            | false => rfl
            | true => exact absurd h d
          refine ⟨_, rfl, (v : Int), _, rfl, rfl, ?_⟩
          rw [← e, c', d']
          simp
    · rintro σ H' ⟨b, v3, rfl, rfl, e⟩
      rw [show l.drop (vN l).length = [] from List.drop_eq_nil_of_le (by simp [vN])] at e
      rw [← e] at k
      exact k
end
end MP
namespace MP
open PySem PySem.Spec PyProof.Rows L2
open Fk (Fault Bytes Atom Bond Mol PAtom PBond Part)
open JM (MItems molOf MSums MEnds)
structure RiseL (n : Nat) (l : List Nat) : Prop where
  pw : l.Pairwise (· < ·)
  lt : ∀ v ∈ l, v < n
theorem riseFrom_all (n : Nat) : ∀ (l : List Nat) (b : Int), riseFrom n b l = true → (∀ v ∈ l, b < (v : Int)) ∧ RiseL n l
  | [], b, _ => ⟨by simp, by simp, by simp⟩
  | v :: r, b, h => by
    unfold riseFrom at h
    simp only [Bool.and_eq_true, Bool.not_eq_true', Bool.or_eq_false_iff, decide_eq_false_iff_not] at h
    obtain ⟨⟨h1, h2⟩, h3⟩ := h
    obtain ⟨i1, i2⟩ := riseFrom_all n r v h3
    refine ⟨fun u hu => ?_, List.pairwise_cons.mpr ⟨fun u hu => ?_, i2.pw⟩, fun u hu => ?_⟩
    · rcases List.mem_cons.mp hu with rfl | hu
      · omega
      · have := i1 u hu; omega
    · have := i1 u hu; omega
    · rcases List.mem_cons.mp hu with rfl | hu
      · omega
      · exact i2.lt u hu
theorem riseL_of {n : Nat} {l : List Nat} (h : riseFrom n (-1) l = true) : RiseL n l := (riseFrom_all n l (-1) h).2
theorem RiseL.len {n : Nat} {l : List Nat} (h : RiseL n l) : l.length ≤ n := by
  have key : ∀ i (hi : i < l.length), i ≤ l[i] := by
    intro i
    induction i with
    | zero => intro _; omega
    | succ i ih =>
      intro hi
      have a := ih (by omega)
      have b := List.pairwise_iff_getElem.mp h.pw i (i + 1) (by omega) hi (by omega)
      omega
  cases hl : l.length with
  | zero => omega
  | succ m =>
    have a := key m (by omega)
    have b := h.lt l[m] (List.getElem_mem _)
    omega
abbrev seat? (l : List Nat) (v : Nat) : Option Nat := l.findIdx? fun w => w == v
theorem seat_get {l : List Nat} {v k : Nat} (h : seat? l v = some k) : l[k]? = some v := by
  obtain ⟨hk, e, _⟩ := List.findIdx?_eq_some_iff_getElem.mp h
  rw [List.getElem?_eq_getElem hk]
  exact congrArg some (beq_iff_eq.mp e)
theorem seat_has (l : List Nat) (v : Nat) : l.contains v = (seat? l v).isSome := by
  rw [Bool.eq_iff_iff, List.contains_iff_mem, List.findIdx?_isSome, List.any_eq_true]
  simp
theorem seat_snoc {l : List Nat} {x : Nat} (v : Nat) (h : x ∉ l) : seat? (l ++ [x]) v = if v = x then some l.length else seat? l v := by
  unfold seat?
  rw [List.findIdx?_append]
  by_cases e : v = x
  · subst e
    have : l.findIdx? (fun w => w == v) = none := by
      rw [List.findIdx?_eq_none_iff]
      intro w hw
      exact beq_eq_false_iff_ne.mpr fun q => h (q ▸ hw)
    rw [this, if_pos rfl]
    simp [List.findIdx?_cons]
  · rw [if_neg e]
    have e' : (x == v) = false := beq_eq_false_iff_ne.mpr fun q => e q.symm
    cases hl : l.findIdx? (fun w => w == v) <;> simp [List.findIdx?_cons, e']
theorem seat_lt {n : Nat} {l : List Nat} (h : RiseL n l) {a b i j : Nat} (hi : seat? l a = some i) (hj : seat? l b = some j) (ab : a < b) : i < j ∧ j < l.length := by
  obtain ⟨hi', ea⟩ := List.getElem?_eq_some_iff.mp (seat_get hi)
  obtain ⟨hj', eb⟩ := List.getElem?_eq_some_iff.mp (seat_get hj)
  refine ⟨?_, hj'⟩
  rcases Nat.lt_trichotomy i j with q | q | q
  · exact q
  · subst q; omega
  · have := List.pairwise_iff_getElem.mp h.pw j i hj' hi' q
    omega
theorem seat_in {l : List Nat} {v k : Nat} (h : seat? l v = some k) : Fk.seatIn l v = k := by
  unfold Fk.seatIn
  rw [show (l.findIdx? fun w => w == v) = some k from h]
  rfl
def cutAtom (e : Nat) : PAtom := ⟨[e], 501, (0, 8), (0, 7), (0, 127), (0, 381), 0, 0⟩
noncomputable def cutBond (y : MItems) (l : List Nat) (z : (Bond × Nat) × Nat) : PBond × Nat := (⟨Fk.seatIn l z.1.1.a, Fk.seatIn l z.1.1.b, JM.bits3 (JM.Found (MSums (molOf y)) (MEnds (molOf y)) z.2), 1, 0, 0⟩, 0)
def isCut (l : List Nat) (z : (Bond × Nat) × Nat) : Bool := l.contains z.1.1.a && l.contains z.1.1.b
noncomputable def cutBonds (y : MItems) (l : List Nat) (zs : List ((Bond × Nat) × Nat)) : List (PBond × Nat) := (zs.filter (isCut l)).map (cutBond y l)
noncomputable def cutItems (y : MItems) (l : List Nat) : List (PAtom × Nat) × List (PBond × Nat) := (l.map fun v => (cutAtom ((molOf y).atom v).element, 0), cutBonds y l y.2.zipIdx)
theorem cutBonds_snoc (y : MItems) (l : List Nat) (zs : List ((Bond × Nat) × Nat)) (z : (Bond × Nat) × Nat) : cutBonds y l (zs ++ [z]) = if isCut l z = true then cutBonds y l zs ++ [cutBond y l z] else cutBonds y l zs := by
  unfold cutBonds
  rw [List.filter_append, List.map_append]
  cases h : isCut l z <;> simp [h]
theorem cutBonds_len (y : MItems) (l : List Nat) (zs : List ((Bond × Nat) × Nat)) : (cutBonds y l zs).length ≤ zs.length := by
  unfold cutBonds
  rw [List.length_map]
  exact List.length_filter_le _ _
theorem cut_part {y : MItems} (g : JM.GoodM (molOf y)) (l : List Nat) : Fk.cutPart (molOf y) l = ⟨(cutItems y l).1.map fun z => z.1, (cutItems y l).2.map fun z => z.1⟩ := by
  unfold Fk.cutPart cutItems cutBonds
  simp only
  rw [Part.mk.injEq]
  refine ⟨?_, ?_⟩
  · simp only [List.map_map]
    rfl
  · have e : (molOf y).bonds.zipIdx = y.2.zipIdx.map fun z => (z.1.1, z.2) := by
      show (y.2.map fun z => z.1).zipIdx = _
      rw [List.zipIdx_map]
      rfl
    simp only [e, List.filter_map, List.map_map]
    refine List.map_congr_left fun z hz => ?_
    have hm := List.mem_zipIdx (List.mem_filter.mp hz).1
    simp at hm
    have hk : z.2 < (molOf y).bonds.length := by
      show z.2 < (y.2.map fun z => z.1).length
      rw [List.length_map]
      exact hm.1
    show (⟨_, _, Fk.orderBits ((molOf y).mays.getD z.2 []), 1, 0, 0⟩ : PBond) = _
    rw [g.mays hk]
    rfl
theorem bits3_le (P : Nat → Prop) : JM.bits3 P ≤ 7 := by
  unfold JM.bits3
  by_cases h1 : P 1 <;> by_cases h2 : P 2 <;> by_cases h3 : P 3 <;> simp [h1, h2, h3]
theorem cut_mem {y : MItems} {l : List Nat} {x : PBond × Nat} (h : x ∈ cutBonds y l y.2.zipIdx) : ∃ z ∈ y.2, ∃ i j k, seat? l z.1.a = some i ∧ seat? l z.1.b = some j ∧ x = (⟨i, j, JM.bits3 (JM.Found (MSums (molOf y)) (MEnds (molOf y)) k), 1, 0, 0⟩, 0) := by
  obtain ⟨z, hz, rfl⟩ := List.mem_map.mp h
  obtain ⟨h1, h2⟩ := List.mem_filter.mp hz
  unfold isCut at h2
  rw [Bool.and_eq_true, seat_has, seat_has, Option.isSome_iff_exists, Option.isSome_iff_exists] at h2
  obtain ⟨⟨i, hi⟩, ⟨j, hj⟩⟩ := h2
  have hm := List.mem_zipIdx h1
  simp at hm
  refine ⟨z.1, by rw [hm.2]; exact List.getElem_mem _, i, j, z.2, hi, hj, ?_⟩
  unfold cutBond
  rw [seat_in hi, seat_in hj]
theorem cut_ends {y : MItems} {n : Nat} {l : List Nat} (hr : JM.Rising n (y.2.map JM.mends)) {m : Nat} (h : RiseL m l) : ∀ q ∈ (cutItems y l).2.map JM.pends, q.1 < q.2 ∧ q.2 < l.length := by
  intro q hq
  obtain ⟨x, hx, rfl⟩ := List.mem_map.mp hq
  obtain ⟨z, hz, i, j, k, hi, hj, rfl⟩ := cut_mem hx
  have ab := (hr.1 (JM.mends z) (List.mem_map_of_mem hz)).1
  exact seat_lt h hi hj ab
end MP
namespace MP
open PySem PySem.Spec PyProof.Rows L2
open XL (excTail)
open Fk (Fault Bytes numIn need andThen Atom Bond Mol PAtom PBond Part)
open JM (MItems molOf MSums MEnds)
section
variable {P : Program} {w : World} {K : PySem.W.Frag} {mg : Str → Option Value} {base : Heap} {t : Ad}
def spElem (t : Ad) : Sp := fun vs H Q _ => ∃ e : Nat, vs = [.int (e : Int)] ∧ ∀ H' v, Same H H' → RepA t.c_z52 (fun b => H b = none) H' v (cutAtom e, 0) → Q v H'
theorem sc_elem : FnScope ["element", "charge", "hydrogens", "neighbours", "total"] ["element"] (defScope s_z77) := ⟨rfl, rfl, rfl, by decide +kernel, rfl, by decide +kernel, by decide +kernel⟩
theorem ok_elem (T : Txt K mg t) : FnOk P w K mg base CX0 3 t.f_z77 t.d_z77 ["element"] (spElem t) := by
  have GI : FnOk P w K mg base CX0 1 t.f_z53 t.d_z53 ["self", "named", "isotope", "charge", "hydrogens", "neighbours", "total", "ring", "hand"] (spAInit t.c_z52) := ok_ainit T
  obtain ⟨tk0, g0⟩ := T.k_z7
  obtain ⟨tk1, g1⟩ := T.k_z24
  obtain ⟨tk2, g2⟩ := T.k_z27
  obtain ⟨tk3, g3⟩ := T.k_z29
  obtain ⟨tk4, g4⟩ := T.k_z31
  obtain ⟨tk5, g5⟩ := T.k_z2
  refine T.F_z77.ok sc_elem (fun vs H Q E h => ?_) (fun cdv A outer s H vs Q E hr h => ?_)
  · obtain ⟨e, rfl, _⟩ := h
    rfl
  · obtain ⟨e, rfl, k⟩ := h
    refine ⟨_, pss_cons (ps_set (i := 1) sc_elem.nd rfl (Or.inl rfl) (pe_tup (pa_cons pe_int (pa_cons (pe_glob rfl g1 (v := .int 8) ⟨_, rfl⟩) pa_nil))))
      (pss_cons (ps_set (i := 2) sc_elem.nd rfl (Or.inl rfl) (pe_tup (pa_cons pe_int (pa_cons (pe_glob rfl g2 (v := .int 7) ⟨_, rfl⟩) pa_nil))))
      (pss_cons (ps_set (i := 3) sc_elem.nd rfl (Or.inl rfl) (pe_tup (pa_cons pe_int (pa_cons (pe_glob rfl g3 (v := .int 127) ⟨_, rfl⟩) pa_nil))))
      (pss_cons (ps_set (i := 4) sc_elem.nd rfl (Or.inl rfl) (pe_tup (pa_cons pe_int (pa_cons (pe_glob rfl g4 (v := .int 381) ⟨_, rfl⟩) pa_nil))))
      (pss_one (ps_ret (pe_make T.K_z52 GI hr rfl T.g_z52 T.B_z53 .nil pass0 (pa_cons (pe_lst (pa_cons (pv 0) pa_nil)) (pa_cons (pe_glob rfl g5 (v := .int 501) ⟨_, rfl⟩) (pa_cons (pv 1) (pa_cons (pv 2) (pa_cons (pv 3) (pa_cons (pv 4) (pa_cons (pe_glob rfl g0 (v := .int 0) ⟨_, rfl⟩) (pa_cons (pe_glob rfl g0 (v := .int 0) ⟨_, rfl⟩) pa_nil)))))))))))))), ?_⟩
    refine ⟨(by show 2 ≤ sizeLine; decide), fun p1 n1 => ?_⟩
    have s1 : Same H (upd H p1 (.tup [.int 0, .int 8])) := laid_same n1
    refine ⟨(by show 2 ≤ sizeLine; decide), fun p2 n2 => ?_⟩
    have s2 := laid_same (o := .tup [.int 0, .int 7]) n2
    have s02 := s1.trans s2
    refine ⟨(by show 2 ≤ sizeLine; decide), fun p3 n3 => ?_⟩
    have s3 := laid_same (o := .tup [.int 0, .int 127]) n3
    have s03 := s02.trans s3
    refine ⟨(by show 2 ≤ sizeLine; decide), fun p4 n4 => ?_⟩
    have s4 := laid_same (o := .tup [.int 0, .int 381]) n4
    have s04 := s03.trans s4
    refine ⟨_, rfl, (by show 1 ≤ sizeLine; decide), fun l hl => ?_⟩
    have s5 := laid_same (o := .lst [.int (e : Int)]) hl
    have s05 := s04.trans s5
    refine ⟨_, rfl, _, rfl, _, rfl, _, rfl, fun x d nx nd ne => ?_⟩
    refine ⟨x, d, l, p1, p2, p3, p4, cutAtom e, rfl, upd_same, fun H6 h6 F6 => ⟨rfl, ?_⟩⟩
    have F7 := fun b u (e : _ = some u) => (Frm.made (S := []) nx nd F6) b u e (by simp)
    refine k H6 _ (s05.trans F7) ⟨x, d, l, p1, p2, p3, p4, rfl, h6, F7 _ _ upd_same, F7 _ _ (s5 _ _ (s4 _ _ (s3 _ _ (s2 _ _ upd_same)))), F7 _ _ (s5 _ _ (s4 _ _ (s3 _ _ upd_same))), F7 _ _ (s5 _ _ (s4 _ _ upd_same)), F7 _ _ (s5 _ _ upd_same), s05.free nx, s04.free hl, n1, s1.free n2, s02.free n3, s03.free n4⟩
end
end MP
namespace MP
open PySem PySem.Spec PyProof.Rows L2
open XL (excTail)
open Fk (Fault Bytes numIn need andThen Atom Bond Mol PAtom PBond Part)
open JM (MItems molOf MSums MEnds)
def NumL (kvs : List (Key × V)) (l : List Nat) : Prop := ∀ v : Nat, valV kvs (Sum.inl (v : Int)) = (seat? l v).map fun k => V.int (k : Int)
theorem NumL.snoc {kvs : List (Key × V)} {l : List Nat} {x : Nat} (N : NumL kvs l) (h : x ∉ l) : NumL (putK kvs (Sum.inl (x : Int)) (.int (l.length : Int))) (l ++ [x]) := fun v => by
  rw [valV_put, seat_snoc v h]
  by_cases e : v = x
  · subst e
    rw [if_pos rfl, if_pos rfl]
    rfl
  · rw [if_neg e, if_neg (fun q => e (by have := Sum.inl.inj q; omega))]
    exact N v
theorem vN_get {l : List Nat} {i : Nat} {x : V} (h : (vN l)[i]? = some x) : ∃ v, l[i]? = some v ∧ x = .int (v : Int) := by
  have ev : (vN l)[i]? = (l[i]?).map (fun (v : Nat) => V.int (v : Int)) := by simp [vN]
  rw [ev] at h
  cases q : l[i]? with
  | none => rw [q] at h; cases h
  | some v => rw [q] at h; exact ⟨v, rfl, (Option.some.inj h).symm⟩
theorem zip_get {α : Type} {l : List α} {i : Nat} {c : α} (h : l[i]? = some c) : l.zipIdx[i]? = some (c, i) := by
  rw [List.getElem?_zipIdx, h]
  simp
section
variable {P : Program} {w : World} {K : PySem.W.Frag} {mg : Str → Option Value} {base : Heap} {t : Ad}
theorem ix_listK {X : Cx} {K0 : PySem.W.Frag} (hK : X.K = K0) : IxR X (rIxL K0) := by
  subst hK
  exact ix_list
def spCutP (K : PySem.W.Frag) (t : Ad) : Sp := fun vs H Q _ => ∃ (g a : Addr) (z : MolLs) (y : MItems) (l : List Nat) (D : Addr → Prop), vs = [.ref g, .ref a] ∧ MolAt t D H g z y ∧ GoodY y ∧ LiAt K H a (vN l) ∧ RiseL y.1.length l ∧
  ∀ H' g la lb lr as us rs, Same H H' → PaAt t (fun b => H b = none) H' g la lb lr as us rs (cutItems y l) → Q (.ref g) H'
theorem sc_cutp : FnScope ["molecule", "atoms", "numbers", "k", "atom", "bonds", "bond", "pair"] ["molecule", "atoms"] (defScope s_z63) := ⟨rfl, rfl, rfl, by decide +kernel, rfl, by decide +kernel, by decide +kernel⟩
theorem ok_cutp (T : Txt K mg t) : FnOk P w K mg base CX0 4 t.f_z63 t.d_z63 ["molecule", "atoms"] (spCutP K t) := by
  have GE : FnOk P w K mg base CX0 3 t.f_z77 t.d_z77 ["element"] (spElem t) := ok_elem T
  have GB : FnOk P w K mg base CX0 1 t.f_z55 t.d_z55 ["self", "pair", "orders", "how", "ring", "side"] (spBInit K t.c_z54) := ok_binit T
  have GI : FnOk P w K mg base CX0 2 t.f_z16 t.d_z16 ["self", "atoms", "bonds"] (spGInit K t.c_z14) := ok_ginit T T.C_z14 T.n_Graph_atoms T.n_Graph_bonds T.n_Graph_neighbours
  obtain ⟨tk7, g7⟩ := T.k_z0
  obtain ⟨tk1, g1⟩ := T.k_z7
  refine T.F_z63.ok sc_cutp (fun vs H Q E h => ?_) (fun cdv A outer s H vs Q E hr h => ?_)
  · obtain ⟨g, a, z, y, l, D, rfl, _⟩ := h
    rfl
  · obtain ⟨g, a, z, y, l, D, rfl, M, gy, hli, rl, k⟩ := h
    have hr2 : Room 2 _ := hr.mono (by decide)
    have hu := hr.un
    have hu' : (A.deeper (envOfC "cut_pattern" (defScope s_z63) s.heap.objs.size t.f_z63 cdv)).units + 1 < cLine := by omega
    refine ⟨_, pss_cons (ps_set (i := 2) sc_cutp.nd rfl (Or.inl rfl) pe_dnewK)
      (pss_cons (ps_for PassesOwn.never rfl (pi_enum rfl T.b_enumerate (pa_cons (pv 1) pa_nil)) (pg_tup rfl (pgs_cons (pg_name (i := 3) sc_cutp.nd rfl (Or.inl rfl)) (pgs_cons (pg_name (i := 4) sc_cutp.nd rfl (Or.inl rfl)) pgs_nil)))
        (pss_one (ps_dput hu' (pv 2) (pv 4) (pv 3) rfl)))
      (pss_cons (ps_set (i := 5) sc_cutp.nd rfl (Or.inl rfl) (pe_lst pa_nil))
      (pss_cons (ps_for PassesOwn.never rfl (pi_enum rfl T.b_enumerate (pa_cons (pe_fld (pv 0) rfl) pa_nil)) (pg_tup rfl (pgs_cons (pg_name (i := 3) sc_cutp.nd rfl (Or.inl rfl)) (pgs_cons (pg_name (i := 6) sc_cutp.nd rfl (Or.inl rfl)) pgs_nil)))
        (pss_one (ps_if (PW.pt (pw_and (pt_cmp (pc_din hu' (pe_fld (pv 6) rfl) (pv 2))) (pw_and1 (pt_cmp (pc_din hu' (pe_fld (pv 6) rfl) (pv 2))))))
          (pss_cons (ps_set (i := 7) sc_cutp.nd rfl (Or.inl rfl) (pe_tup (pa_cons (pe_dget hu' (pv 2) (pe_fld (pv 6) rfl) (fun _ _ => rfl)) (pa_cons (pe_dget hu' (pv 2) (pe_fld (pv 6) rfl) (fun _ _ => rfl)) pa_nil))))
          (pss_one (ps_expr (pe_bm PySem.F.plainAttrs_list PySem.F.slot_list_append PySem.F.type_list_append mt_append (pv 5) (pa_cons (pe_make T.K_z54 GB hr2 rfl T.g_z54 T.B_z55 .nil pass0
            (pa_cons (pv 7) (pa_cons (pe_ix ix_list (pe_fld (pv 0) rfl) (pv 3) (fun _ _ => rfl)) (pa_cons (pe_glob rfl g7 (v := .int 1) ⟨_, rfl⟩) (pa_cons (pe_glob rfl g1 (v := .int 0) ⟨_, rfl⟩) (pa_cons (pe_glob rfl g1 (v := .int 0) ⟨_, rfl⟩) pa_nil)))))) pa_nil)))))
          pss_nil)))
      (pss_one (ps_ret (pe_make T.K_z14 GI hr rfl T.g_z14 T.B_z16 .nil pass0 (pa_cons (pe_lc rfl sc_cutp.nd (pi_list (pv 1)) (blkOk_by (own := [("atom", 4)]) rfl) (fun _ _ _ _ _ => pg_name (i := 4) sc_cutp.nd rfl (Or.inl rfl)) (fun _ _ _ _ _ => pts_nil)
        (fun _ _ _ _ _ => pe_call GE hr rfl T.g_z77 T.F_z77.kp T.B_z77 .nil pass0 (pa_cons (pe_fldK (K0 := K) rfl (pe_ix (ix_listK (K0 := K) rfl) (pe_fldK (K0 := K) rfl (pv 0) rfl) (pv 4) (fun _ _ => rfl)) rfl) pa_nil))) (pa_cons (pv 5) pa_nil)))))))), ?_⟩
    obtain ⟨dg, eg⟩ := M.obj
    have al : z.as.length = y.1.length := M.ra.len
    have sm := gy.small
    have fw := gy.few
    have ll := rl.len
    have vl : (vN l).length = l.length := by simp [vN]
    have okA := RepA.ok t.c_z52
    have okB := RepB.ok t.c_z54
    intro d hd
    have s0 : Same H (upd H d (.dK [])) := laid_same hd
    refine ⟨_, rfl, a, vN l, rfl, (hli.same s0).sq, ?_⟩
    refine for_enum (K := K) (a := a) (xs := vN l) (fun i σ H' => ∃ v3 v4 kvs, σ = [some (.ref g), some (.ref a), some (.ref d), v3, v4, none, none, none] ∧ Same H H' ∧ H' d = some (.dK kvs) ∧ NumL kvs (l.take i) ∧ kvs.length ≤ i) ⟨none, none, [], rfl, s0, upd_same, fun v => rfl, Nat.zero_le _⟩ (fun i σ H' _ ⟨_, _, _, _, sm, _⟩ => (hli.same sm).sq) ?_ ?_
    · rintro i x σ H' Tt hx ⟨v3, v4, kvs, rfl, sm, hd', N, hlen⟩ hT
      obtain ⟨v, hv, rfl⟩ := vN_get hx
      have hil : i < l.length := (List.getElem?_eq_some_iff.mp hv).1
      have dT' : d ≠ Tt := fun z => by rw [← z, hd'] at hT; cases hT
      have sT : Same H (upd H' Tt (.tup [.int (i : Int), .int (v : Int)])) := sm.trans (laid_same hT)
      refine ⟨Tt, _, rfl, SqT.of upd_same, rfl, _, _, rfl, _, _, rfl, rfl, ?_⟩
      refine ⟨_, rfl, _, rfl, _, rfl, d, _, rfl, DPut.k (k := Sum.inl (v : Int)) (by rw [upd_ne dT']; exact hd') (by rw [sizeLine_eq]; omega), ?_⟩
      have l1 := length_putK kvs (Sum.inl (v : Int)) (V.int (i : Int))
      refine ⟨_, _, _, rfl, fun b u e => by rw [upd_ne (ne_of_none e hd)]; exact sT b u e, upd_same, ?_, by omega⟩
      rw [take_snoc hv]
      have tl : (l.take i).length = i := by rw [List.length_take]; omega
      have nin : v ∉ l.take i := fun hm => by
        obtain ⟨j, hj⟩ := List.getElem?_of_mem hm
        have hji : j < i := by
          have := (List.getElem?_eq_some_iff.mp hj).1
          rw [tl] at this; exact this
        rw [List.getElem?_take_of_lt hji] at hj
        have pw := List.pairwise_iff_getElem.mp rl.pw j i (by omega) hil hji
        rw [List.getElem?_eq_getElem (by omega)] at hj hv
        have e1 := Option.some.inj hj
        have e2 := Option.some.inj hv
        omega
      have := N.snoc nin
      rw [tl] at this
      exact this
    · rintro σ H1 ⟨v3, v4, kvs, rfl, s1, hd1, N, _⟩
      rw [vl, List.take_length] at N
      refine ⟨Nat.zero_le _, fun lb hlb => ?_⟩
      have s2 : Same H1 (upd H1 lb (.lst [])) := laid_same hlb
      have hlb0 : H lb = none := s1.free hlb
      refine ⟨_, rfl, g, _, dg, _, _, rfl, s2 _ _ (s1 _ _ eg), T.C_z32, T.n_Molecule_bonds, rfl, z.lb, z.us, rfl, SqL.of (s2 _ _ (s1 _ _ M.bonds)), ?_⟩
      refine for_enum (K := K) (a := z.lb) (xs := z.us) (fun i σ H' => ∃ v3 v6 v7 ws, σ = [some (.ref g), some (.ref a), some (.ref d), v3, v4, some (.ref lb), v6, v7] ∧ Same H1 H' ∧ H' lb = some (.lst ws) ∧ Reps (RepB t.c_z54) (fun b => H1 b = none ∧ b ≠ lb) H' ws (cutBonds y l (y.2.zipIdx.take i))) ⟨v3, none, none, [], rfl, s2, upd_same, Reps.nil⟩ (fun i σ H' _ ⟨_, _, _, _, _, sm, _⟩ => SqL.of (sm _ _ (s1 _ _ M.bonds))) ?_ ?_
      · rintro i x σ H' Tt hx ⟨v3, v6, v7, ws, rfl, s3, hl3, R3⟩ hT
        have hi : i < z.us.length := (List.getElem?_eq_some_iff.mp hx).1
        obtain ⟨c, hc⟩ : ∃ c, y.2[i]? = some c := ⟨_, List.getElem?_eq_getElem (by rw [← M.rb.len]; exact hi)⟩
        have hi2 : i < y.2.length := (List.getElem?_eq_some_iff.mp hc).1
        obtain ⟨o, dx, rfl, _, rep⟩ := M.rb.at_ i x c hx hc
        have sT : Same H1 (upd H' Tt (.tup [.int (i : Int), .ref o])) := s3.trans (laid_same hT)
        have sT' : Same H' (upd H' Tt (.tup [.int (i : Int), .ref o])) := laid_same hT
        have repT := sT _ _ (s1 _ _ rep)
        have hdT := sT _ _ hd1
        have hlT := sT' _ _ hl3
        have e : y.2.zipIdx[i]? = some (c, i) := zip_get hc
        have R3T : Reps (RepB t.c_z54) (fun b => H1 b = none ∧ b ≠ lb) (upd H' Tt (.tup [.int (i : Int), .ref o])) ws (cutBonds y l (y.2.zipIdx.take i)) := R3.stay okB fun b u _ h => sT' _ _ h
        refine ⟨Tt, _, rfl, SqT.of upd_same, rfl, _, _, rfl, _, _, rfl, rfl, ?_⟩
        refine ⟨_, rfl, o, _, dx, _, _, rfl, repT, T.C_z5, T.n_Bond_a, rfl, _, rfl, d, _, rfl, DGet.k (k := Sum.inl (c.1.a : Int)) hdT, _, rfl, ?_⟩
        rw [N c.1.a]
        have stay : isCut l (c, i) = false → ∀ v7', ∃ v3 v6 v7 ws, [some (V.ref g), some (.ref a), some (.ref d), some (.int (i : Int)), v4, some (.ref lb), some (.ref o), v7'] = [some (.ref g), some (.ref a), some (.ref d), v3, v4, some (.ref lb), v6, v7] ∧ Same H1 (upd H' Tt (.tup [.int (i : Int), .ref o])) ∧ upd H' Tt (.tup [.int (i : Int), .ref o]) lb = some (.lst ws) ∧ Reps (RepB t.c_z54) (fun b => H1 b = none ∧ b ≠ lb) (upd H' Tt (.tup [.int (i : Int), .ref o])) ws (cutBonds y l (y.2.zipIdx.take (i + 1))) := fun hn v7' => ⟨_, _, _, ws, rfl, sT, hlT, by rw [take_snoc e, cutBonds_snoc, hn]; exact R3T⟩
        cases hA : seat? l c.1.a with
        | none => exact iteF (iteF (stay (by unfold isCut; rw [seat_has, hA]; rfl) _))
        | some ia =>
          refine iteT ?_
          refine ⟨_, rfl, o, _, dx, _, _, rfl, repT, T.C_z5, T.n_Bond_b, rfl, _, rfl, d, _, rfl, DGet.k (k := Sum.inl (c.1.b : Int)) hdT, _, rfl, ?_⟩
          rw [N c.1.b]
          cases hB : seat? l c.1.b with
          | none => exact iteF (stay (by unfold isCut; rw [seat_has, seat_has, hA, hB]; rfl) _)
          | some ib =>
            refine iteT ?_
            have gA : DGet (upd H' Tt (.tup [.int (i : Int), .ref o])) d (.int (c.1.a : Int)) (some (.int (ia : Int))) := by
              have := DGet.k (k := Sum.inl (c.1.a : Int)) hdT
              rw [N, hA] at this
              exact this
            have gB : DGet (upd H' Tt (.tup [.int (i : Int), .ref o])) d (.int (c.1.b : Int)) (some (.int (ib : Int))) := by
              have := DGet.k (k := Sum.inl (c.1.b : Int)) hdT
              rw [N, hB] at this
              exact this
            refine ⟨_, rfl, _, rfl, o, _, dx, _, _, rfl, repT, T.C_z5, T.n_Bond_a, rfl, d, _, rfl, gA, _, rfl, _, rfl, o, _, dx, _, _, rfl, repT, T.C_z5, T.n_Bond_b, rfl, d, _, rfl, gB, (by show 2 ≤ sizeLine; decide), fun p hp => ?_⟩
            have s4 : Same (upd H' Tt (.tup [.int (i : Int), .ref o])) (upd (upd H' Tt (.tup [.int (i : Int), .ref o])) p (.tup [.int (ia : Int), .int (ib : Int)])) := laid_same hp
            have hfo : (vI (foundOf (MSums (molOf y)) (MEnds (molOf y))))[i]? = some (.int (JM.bits3 (JM.Found (MSums (molOf y)) (MEnds (molOf y)) i) : Int)) := vI_get (sums_get (by rw [mol_ends, List.length_map]; exact hi2))
            have ec : cutBond y l (c, i) = (⟨ia, ib, JM.bits3 (JM.Found (MSums (molOf y)) (MEnds (molOf y)) i), 1, 0, 0⟩, 0) := by
              unfold cutBond
              rw [seat_in hA, seat_in hB]
            refine ⟨_, rfl, .inl ⟨rfl, _, SqL.of (s4 _ _ hlT)⟩, ?_⟩
            refine ⟨_, rfl, _, rfl, g, _, dg, _, _, rfl, s4 _ _ (sT _ _ (s1 _ _ eg)), T.C_z32, T.n_Molecule_orders, rfl, _, rfl, z.lo, _, _, _, rfl, rfl, SqL.of (s4 _ _ (sT _ _ (s1 _ _ M.orders))), atI_nat hfo, fun q dq nq ndq ne => ?_⟩
            have keep : ∀ b u, upd (upd H' Tt (.tup [.int (i : Int), .ref o])) p (.tup [.int (ia : Int), .int (ib : Int)]) b = some u → upd (upd (upd (upd H' Tt (.tup [.int (i : Int), .ref o])) p (.tup [.int (ia : Int), .int (ib : Int)])) dq (.own q)) q (.ins t.c_z54 dq []) b = some u := fun b u e => by rw [upd_ne (ne_of_none e nq), upd_ne (ne_of_none e ndq)]; exact e
            refine ⟨q, dq, p, ⟨ia, ib, JM.bits3 (JM.Found (MSums (molOf y)) (MEnds (molOf y)) i), 1, 0, 0⟩, rfl, upd_same, keep _ _ upd_same, fun H5 h5 F5 => ⟨rfl, ?_⟩⟩
            have s5 : Same (upd H' Tt (.tup [.int (i : Int), .ref o])) H5 := fun b u e => (Frm.made (S := []) nq ndq F5) b u (s4 b u e) (by simp)
            have hl5 := s5 _ _ hlT
            refine ⟨lb, ws, _, rfl, rfl, hl5, ?_, ?_⟩
            · have := R3.len
              have l2 := cutBonds_len y l (y.2.zipIdx.take i)
              rw [List.length_take, List.length_zipIdx] at l2
              rw [this, sizeLine_eq]
              omega
            refine ⟨_, _, _, ws ++ [.ref q], rfl, fun b u e => by rw [upd_ne (ne_of_none e hlb)]; exact s5 _ _ (sT b u e), upd_same, ?_⟩
            have hcut : isCut l (c, i) = true := by unfold isCut; rw [seat_has, seat_has, hA, hB]; rfl
            rw [take_snoc e, cutBonds_snoc, if_pos hcut, ec]
            have nq' : upd H' Tt (.tup [.int (i : Int), .ref o]) q = none := s4.free nq
            refine ((R3T.stay okB fun b u _ h => s5 _ _ h).snoc ⟨q, dq, rfl, ⟨sT.free nq', fun z => by rw [z, hlT] at nq'; cases nq'⟩, h5⟩).stay okB fun b u d h => ?_
            rw [upd_ne d.2]
            exact h
      · rintro σ H2 ⟨v3, v6, v7, ws, rfl, s3, hl3, R3⟩
        rw [M.rb.len, show y.2.zipIdx.take y.2.length = y.2.zipIdx from List.take_of_length_le (by simp)] at R3
        have s02 : Same H H2 := s1.trans s3
        refine ⟨_, rfl, a, rfl, ⟨_, (hli.same s02).sq⟩, fun la hla => ?_⟩
        have hla0 : H la = none := s02.free hla
        have lab : la ≠ lb := fun z => by rw [z, hl3] at hla; cases hla
        refine lc_list (K := K) (a := a) (xs := vN l) (fun i H' => Same H2 H' ∧ ∃ vs, H' la = some (.lst vs) ∧ Reps (RepA t.c_z52) (fun b => H2 b = none ∧ b ≠ la) H' vs ((cutItems y l).1.take i)) ⟨laid_same hla, [], upd_same, Reps.nil⟩ (fun i H' _ ⟨sm, _⟩ => (hli.same (s02.trans sm)).sq) ?_ ?_
        · rintro i x H' hx ⟨s4, vs, hl4, R4⟩
          obtain ⟨v, hv, rfl⟩ := vN_get hx
          have vn : v < y.1.length := rl.lt v (List.mem_of_getElem? hv)
          obtain ⟨c, hc⟩ : ∃ c, y.1[v]? = some c := ⟨_, List.getElem?_eq_getElem vn⟩
          obtain ⟨va, hva⟩ : ∃ u, z.as[v]? = some u := ⟨_, List.getElem?_eq_getElem (by rw [al]; exact vn)⟩
          obtain ⟨o, dx, rfl, _, rep⟩ := M.ra.at_ v va c hva hc
          have s04 := s02.trans s4
          have ea : (molOf y).atom v = c.1 := by
            unfold Mol.atom molOf
            simp [List.getD, hc]
          have e : (cutItems y l).1[i]? = some (cutAtom c.1.element, 0) := by
            unfold cutItems
            rw [List.getElem?_map, hv]
            simp [ea]
          refine ⟨rfl, ?_⟩
          refine ⟨_, rfl, g, _, dg, _, _, rfl, s04 _ _ eg, T.C_z32, T.n_Molecule_atoms, rfl, _, rfl, z.la, _, _, _, rfl, rfl, SqL.of (s04 _ _ M.atoms), atI_nat hva, o, _, dx, _, _, rfl, s04 _ _ rep, T.C_z3, T.n_Atom_element, rfl, ?_⟩
          refine ⟨c.1.element, rfl, fun H5 v5 s5 rep5 => ?_⟩
          have hl5 := s5 _ _ hl4
          refine ⟨vs, hl5, ?_, ?_, vs ++ [v5], upd_same, ?_⟩
          · have := R4.len
            have il : i < l.length := (List.getElem?_eq_some_iff.mp hv).1
            rw [this, List.length_take, sizeLine_eq]
            omega
          · intro b u e
            rw [upd_ne (ne_of_none e hla)]
            exact s5 _ _ (s4 b u e)
          · rw [take_snoc e]
            refine ((R4.stay okA fun b u _ h => s5 _ _ h).snoc (okA.mono rep5 fun b d => ⟨s4.free d, fun z => by rw [z, hl4] at d; cases d⟩)).stay okA fun b u d h => ?_
            rw [upd_ne d.2]
            exact h
        · rintro H4 ⟨s4, vs, hl4, R4⟩
          have l1 : (cutItems y l).1.length = l.length := by unfold cutItems; simp
          have l2 : (cutItems y l).2.length ≤ y.2.length := by
            have := cutBonds_len y l y.2.zipIdx
            rw [List.length_zipIdx] at this
            exact this
          rw [vl, show (cutItems y l).1.take l.length = (cutItems y l).1 from List.take_of_length_le (by omega)] at R4
          have s04 := s02.trans s4
          have hl34 := s4 _ _ hl3
          have R4' : Reps (RepA t.c_z52) (fun b => H b = none) H4 vs (cutItems y l).1 := R4.mono okA fun b d => s02.free d.1
          have R3' : Reps (RepB t.c_z54) (fun b => H b = none) H4 ws (cutItems y l).2 := (R3.stay okB fun b u _ h => s4 _ _ h).mono okB fun b d => s1.free d.1
          refine ⟨_, rfl, fun q dq nq ndq ne => ?_⟩
          have keep : ∀ b u, H4 b = some u → upd (upd H4 dq (.own q)) q (.ins t.c_z14 dq []) b = some u := fun b u e => by rw [upd_ne (ne_of_none e nq), upd_ne (ne_of_none e ndq)]; exact e
          refine ⟨q, dq, la, lb, vs, ws, (cutItems y l).2.map JM.pends, rfl, upd_same, keep _ _ hl4, keep _ _ hl34, by rw [R4'.len]; omega, by rw [List.length_map]; omega, by rw [List.length_map]; exact R3'.len, fun i v c h1 h2 => ?_, ?_, fun H5 lr rs G F5 => ⟨rfl, ?_⟩⟩
          · rw [List.getElem?_map] at h2
            cases hz : (cutItems y l).2[i]? with
            | none => rw [hz] at h2; cases h2
            | some b =>
              rw [hz] at h2
              cases h2
              obtain ⟨o', dx', rfl, _, e'⟩ := R3'.at_ i v b h1 hz
              exact ⟨⟨o', _, dx', _, rfl, keep _ _ e', T.C_z54, T.n_SaidOfBond_a, T.n_SaidOfBond_b, rfl, rfl⟩, fun z => by cases z; rw [nq] at e'; cases e'⟩
          · rw [R4'.len, l1]
            exact cut_ends gy.rise rl
          · have s5 : Same H4 H5 := fun b u e => (Frm.made (S := []) nq ndq F5) b u e (by simp)
            exact k H5 q la lb lr vs ws rs (s04.trans s5) ⟨G, R4'.stay okA fun b u _ h => s5 _ _ h, R3'.stay okB fun b u _ h => s5 _ _ h⟩
end
end MP
namespace MP
open PySem PySem.Spec PyProof.Rows L2
open XL (excTail)
open Fk (Fault Bytes numIn need andThen Atom Bond Mol PAtom PBond Part)
open JM (MItems molOf MSums MEnds)
theorem cut_fits {y : MItems} {l : List Nat} (g : GoodY y) (rl : RiseL y.1.length l) : FitsP (cutItems y l) := by
  have sm := g.small
  have fw := g.few
  have ll := rl.len
  have l2 := cutBonds_len y l y.2.zipIdx
  rw [List.length_zipIdx] at l2
  refine ⟨by unfold cutItems; simp; omega, by show (cutBonds y l y.2.zipIdx).length < 256; omega, fun z hz => ?_, fun z hz => ?_⟩
  · obtain ⟨v, hv, rfl⟩ := List.mem_map.mp (show z ∈ l.map fun v => (cutAtom ((molOf y).atom v).element, 0) from hz)
    have vn := rl.lt v hv
    obtain ⟨c, hc⟩ : ∃ c, y.1[v]? = some c := ⟨_, List.getElem?_eq_getElem vn⟩
    have ea : (molOf y).atom v = c.1 := by
      unfold Mol.atom molOf
      simp [List.getD, hc]
    have bnd := g.atm c (List.mem_of_getElem? hc)
    rw [ea]
    exact ⟨by show 1 < 256; decide, fun n hn => by
      have : n = c.1.element := by simpa [cutAtom] using hn
      omega, by show 501 < 65536; decide, ⟨by show 0 < 256; decide, by show 8 < 256; decide⟩, ⟨by show 0 < 256; decide, by show 7 < 256; decide⟩, ⟨by show 0 < 256; decide, by show 127 < 256; decide⟩, ⟨by show 0 < 65536; decide, by show 381 < 65536; decide⟩, by show 0 < 256; decide, by show 0 < 256; decide⟩
  · obtain ⟨c, hc, i, j, k, hi, hj, rfl⟩ := cut_mem hz
    have ab := (g.rise.1 (JM.mends c) (List.mem_map_of_mem hc)).1
    have st := seat_lt rl hi hj ab
    have b3 := bits3_le (JM.Found (MSums (molOf y)) (MEnds (molOf y)) k)
    exact ⟨by show i < 256; omega, by show j < 256; omega, by show JM.bits3 _ < 256; omega, by show 1 < 256; decide, by show 0 < 256; decide, by show 0 < 256; decide⟩
def cutAns (B : Bytes) (l : List Nat) : List Int := match Fk.judgeMol B with
  | .error f => [-5, 0, (f.rule : Int), (f.place : Int)]
  | .ok M => if (FkP.rising l && l.all fun (v : Nat) => decide (v < M.n)) = true then 0 :: ((iB (Fk.writePart (Fk.cutPart M l))).length : Int) :: iB (Fk.writePart (Fk.cutPart M l)) else [-1]
section
variable {P : Program} {w : World} {K : PySem.W.Frag} {mg : Str → Option Value} {base : Heap} {t : Ad}
def spCut (K : PySem.W.Frag) : Sp := fun vs H Q _ => ∃ (a b : Addr) (B : Bytes) (l : List Nat), vs = [.ref a, .ref b] ∧ FrmAt K H a B ∧ LiAt K H b (vN l) ∧ B.length ≤ 6000 ∧ (B.getD 5 0).toNat ≤ 12 ∧ ∀ H' p, H' p = some (.lst (vI (cutAns B l))) → Q (.ref p) H'
theorem sc_cut : FnScope ["molecule", "atoms", "given", "fault"] ["molecule", "atoms"] (defScope s_z62) := ⟨rfl, rfl, rfl, by decide +kernel, rfl, by decide +kernel, by decide +kernel⟩
theorem ok_z62 (T : Txt K mg t) : FnOk P w K mg base CX0 11 t.f_z62 t.d_z62 ["molecule", "atoms"] (spCut K) := by
  have GR : FnOk P w K mg base (CXF P w) 10 t.f_z74 t.d_z74 ["form", "which"] (spReadM K t) := ok_readm T
  have GA : FnOkU P w K mg base 1 t.f_z65 t.d_z65 ["fault"] (spFA t.c_z11) := ok_fa T
  have GU : FnOk P w K mg base CX0 1 t.f_z58 t.d_z58 ["atoms", "n"] (spRise K) := ok_rise T
  have GO : FnOk P w K mg base CX0 4 t.f_z63 t.d_z63 ["molecule", "atoms"] (spCutP K t) := ok_cutp T
  have GF : FnOk P w K mg base CX0 3 t.f_z73 t.d_z73 ["pattern"] (spForm t) := ok_form T
  have GW : FnOk P w K mg base CX0 1 t.f_z76 t.d_z76 ["row"] spRow := ok_row T
  obtain ⟨tk1, g1⟩ := T.k_z10
  obtain ⟨tk2, g2⟩ := T.k_z37
  refine T.F_z62.ok sc_cut (fun vs H Q E h => ?_) (fun cdv A outer s H vs Q E hr h => ?_)
  · obtain ⟨a, b, B, l, rfl, _⟩ := h
    rfl
  · obtain ⟨a, b, B, l, rfl, hB, hL, hlen, few, k⟩ := h
    have hr1 : Room 1 _ := hr.mono (by decide)
    have hr3 : Room 3 _ := hr.mono (by decide)
    have hr4 : Room 4 _ := hr.mono (by decide)
    let E1 : XK := fun cls d H' => cls = .ref t.c_z11 ∧ ∃ (dx : Addr) (r p : Int), d = some dx ∧ FaultAt H' dx 0 r p ∧ ∀ H'' l, H'' l = some (.lst ([-5, 0, r, p].map V.int)) → Q (.ref l) H''
    refine ⟨_, pss_cons (ps_try (E := E1) (Qr := Q) (i := 3) ⟨rfl, rfl⟩ rfl sc_cut.nd T.X_z11 rfl T.g_z11 rfl rfl rfl
        (fun pn Z c => pss_one (ps_set (i := 2) sc_cut.nd rfl (Or.inl rfl) (pe_call GR hr rfl T.g_z74 T.F_z74.kp T.B_z74 .nil c (pa_cons (pv 0) (pa_cons (pe_glob rfl g1 (v := .int 0) ⟨_, rfl⟩) pa_nil)))))
        (fun ea => pss_one (ps_ret (pe_callU GA ⟨hr1.dp, hr1.un⟩ rfl T.g_z65 T.F_z65.kp T.B_z65 (pa_cons (pv 3) pa_nil)))) ?_)
      (pss_cons (ps_if (pt_not (pt_val (pe_call GU hr1 rfl T.g_z58 T.F_z58.kp T.B_z58 .nil pass0 (pa_cons (pv 1) (pa_cons (pe_callB call_len_seq (by rfl) T.b_len PySem.boot_len (pa_cons (pe_fld (pv 2) rfl) pa_nil)) pa_nil)))))
        (pss_one (ps_ret (pe_lst (pa_cons (pe_glob rfl g2 (v := .int (-1)) ⟨_, rfl⟩) pa_nil)))) pss_nil)
      (pss_one (ps_ret (pe_call GW hr1 rfl T.g_z76 T.F_z76.kp T.B_z76 .nil pass0 (pa_cons (pe_call GF hr3 rfl T.g_z73 T.F_z73.kp T.B_z73 .nil pass0 (pa_cons (pe_call GO hr4 rfl T.g_z63 T.F_z63.kp T.B_z63 .nil pass0 (pa_cons (pv 2) (pa_cons (pv 1) pa_nil))) pa_nil)) pa_nil))))), ?_⟩
    · rintro C' dx H1 ⟨rfl, dx', r, p, e, hf, k'⟩
      cases e
      refine ⟨rfl, fun ea hea => ?_⟩
      refine ⟨_, rfl, ea, dx, 0, r, p, rfl, upd_same, ?_, k'⟩
      show upd H1 ea _ dx = _
      rw [upd_ne (ne_of_none hf hea)]
      exact hf
    · refine ⟨fun v H' q => q, ?_⟩
      refine ⟨_, rfl, a, 0, B, rfl, hB, hlen, few, ?_⟩
      unfold cutAns at k
      cases hj : Fk.judgeMol B with
      | error f =>
        rw [hj] at k
        exact fun H' dx hf => ⟨rfl, dx, _, _, rfl, hf, k⟩
      | ok Mo =>
        rw [hj] at k
        intro H' g z y M gy e sm
        simp only at k
        rw [e, mol_n, ← rise_eq, cut_part gy.good] at k
        obtain ⟨dg, eg⟩ := M.obj
        have al : z.as.length = y.1.length := M.ra.len
        refine ⟨_, rfl, _, rfl, g, _, dg, _, _, rfl, eg, T.C_z32, T.n_Molecule_atoms, rfl, z.la, _, rfl, .inl (SqL.of M.atoms), ?_⟩
        refine ⟨b, y.1.length, l, by rw [al]; rfl, hL.same sm, _, rfl, ?_⟩
        cases hc : riseFrom y.1.length (-1) l with
        | false =>
          rw [hc, if_neg (by decide)] at k
          refine iteT ⟨(by show 1 ≤ sizeLine; decide), fun p hp => k _ p upd_same⟩
        | true =>
          rw [hc, if_pos rfl] at k
          refine iteF ?_
          refine ⟨_, rfl, _, rfl, ?_⟩
          refine ⟨g, b, z, y, l, _, rfl, M, gy, hL.same sm, riseL_of hc, fun H2 g2 la lb lr as us rs s2 Pa => ?_⟩
          refine ⟨g2, la, lb, lr, as, us, rs, cutItems y l, _, rfl, Pa, cut_fits gy (riseL_of hc), fun H3 p s3 nl hl hz => ?_⟩
          exact ⟨p, _, rfl, hl, by omega, k⟩
end
def natsOf (l : List Int) : List Nat := l.map Int.toNat
theorem vN_of : ∀ l : List Int, (∀ z ∈ l, 0 ≤ z) → l.map V.int = vN (natsOf l)
  | [], _ => rfl
  | z :: r, h => by
    have hz := h z (by simp)
    have ih := vN_of r fun y hy => h y (by simp [hy])
    have e : ((z.toNat : Nat) : Int) = z := by omega
    unfold vN natsOf at ih ⊢
    simp only [List.map_cons, e, ih]
theorem nats_some : ∀ l : List Int, (∀ z ∈ l, 0 ≤ z) → l.mapM PartNeutral.nat = some (natsOf l)
  | [], _ => rfl
  | z :: r, h => by
    have hz := h z (by simp)
    have ih := nats_some r fun y hy => h y (by simp [hy])
    rw [List.mapM_cons, ih]
    unfold PartNeutral.nat
    rw [if_neg (by omega)]
    rfl
theorem cut_due (l m : List Int) (h : ∀ z ∈ l, 0 ≤ z ∧ z ≤ 255) (hm : ∀ z ∈ m, 0 ≤ z) : PyYqfkba.cut l m = cutAns (bytesOf l) (natsOf m) := by
  unfold PyYqfkba.cut PartNeutral.f PartNeutral.callOf
  simp only [bytes_some l h, nats_some m hm, Option.bind_eq_bind, Option.bind_some]
  show PartNeutral.told (FkP.judged 0 (Fk.judgeMol (bytesOf l)) fun (M : Mol) => if (FkP.rising (natsOf m) && (natsOf m).all fun (v : Nat) => decide (v < M.n)) = true then .bytes (Fk.writePart (Fk.cutPart M (natsOf m))) else FkP.no (-1)) = _
  unfold cutAns FkP.judged
  cases Fk.judgeMol (bytesOf l) with
  | error f => rfl
  | ok M =>
    simp only
    split <;> rfl
theorem cut_few (l m : List Int) (h : ∀ z ∈ l, 0 ≤ z ∧ z ≤ 255) (hm : ∀ z ∈ m, 0 ≤ z) (ha : PyYqfkba.cut_asked l m = true) : ((bytesOf l).getD 5 0).toNat ≤ 12 := by
  unfold PyYqfkba.cut_asked PartNeutral.asked at ha
  simp only [Bool.and_eq_true, List.all_cons, List.all_nil, Bool.and_true] at ha
  have hf := ha.2.2.1
  unfold PartNeutral.fits PartNeutral.callOf at hf
  simp only [bytes_some l h, nats_some m hm, Option.bind_eq_bind, Option.bind_some] at hf
  have hf' : PartNeutral.few (bytesOf l) = true := by simpa [PartNeutral.moderate] using hf
  unfold PartNeutral.few at hf'
  simp only [Bool.and_eq_true, decide_eq_true_eq] at hf'
  exact hf'.2
end MP
namespace PySem.W.Fast
theorem tw12931801437640149554 : True := trivial
theorem tw15642809223009285903 : True := trivial
theorem tw7618229243823730046 : True := trivial
theorem tw12261585249085823533 : True := trivial
theorem tw8156442778488539919 : True := trivial
theorem tw1903769999406060146 : True := trivial
theorem tw11732207057922720426 : True := trivial
theorem tw8578392256431144657 : True := trivial
theorem tw17779962210001903291 : True := trivial
theorem tw9495810849015185158 : True := trivial
theorem tw4514328465208778874 : True := trivial
theorem tw17855679026703059676 : True := trivial
end PySem.W.Fast
open PySem PySem.W PyProof.Rows
set_option maxRecDepth 100000 in
set_option maxHeartbeats 0 in
theorem PySem.Challenge.cw_moleculeparts_s03_cut_holds : PySem.Challenge.rw_moleculeparts_s03_cut.Holds := by
  w_on; k_headS; (case hw => exact ⟨[.list [], .list []], by decide +kernel, by decide +kernel⟩)
  k_fillS
  refine L2.walk_specK (r := PySem.Challenge.rw_moleculeparts_s03_cut) (k := 11) (CX := L2.CX0) (ps := ["molecule", "atoms"]) (sp := MP.spCut) (by decide +kernel) rfl rfl ⟨rfl, by decide, by decide⟩ (fun w h Y => PySem.W.kIn_of Y) ?F ?S (fun _ _ _ _ z => z)
  case F =>
    intro w mg fa h Y KX G hmg
    suffices TT : ∃ (f : Addr) (t : MP.Ad), t.f_z62 = f ∧ MP.Txt _ mg t by
      obtain ⟨f, t, e, T⟩ := TT
      have e2 := hmg.symm.trans T.g_z62
      cases e2
      refine ⟨t.d_z62, fun s us hu => ?_, fun base _ _ => MP.ok_z62 T⟩
      obtain ⟨oc, od, kV, doc, pm, an, cdv, ct, osl, ed, lk, hcd⟩ := T.F_z62.ex
      rw [ed]
      exact match us, hu with | [_, _], _ => .of_eq rfl
    refine' ⟨_, ?TT⟩
    rotate_left
    refine' MP.txt_mk KX G ?h_z14 ?pg_z14 ?hd_z14 ?po_z14 ?sa_z14 ?a_z16 ?i_z16 ?a_z15 ?i_z15 ?mk_z14 ?kc_z14 ?n_Graph_atoms ?n_Graph_bonds ?n_Graph_neighbours ?h_z11 ?l_z11 ?ln_z11 ?in_z11 ?is_z11 ?kp_z11 ?sa_z11 ?xn_FormFault_getattribute ?xn_FormFault_getattr ?xn_FormFault_setattr ?xn_FormFault_which ?xn_FormFault_rule ?xn_FormFault_place ?h_z40 ?pg_z40 ?hd_z40 ?po_z40 ?sa_z40 ?a_z42 ?i_z42 ?a_z41 ?i_z41 ?a_z48 ?i_z48 ?a_z44 ?i_z44 ?a_z50 ?i_z50 ?a_z47 ?i_z47 ?a_z43 ?i_z43 ?a_z49 ?i_z49 ?a_z45 ?i_z45 ?a_z46 ?i_z46 ?mk_z40 ?kc_z40 ?n_Reader_form ?n_Reader_which ?n_Reader_place ?n_Reader_hand_places ?n_Reader_side_places ?h_z52 ?pg_z52 ?hd_z52 ?po_z52 ?sa_z52 ?a_z53 ?i_z53 ?mk_z52 ?kc_z52 ?n_SaidOfAtom_named ?n_SaidOfAtom_isotope ?n_SaidOfAtom_charge ?n_SaidOfAtom_hydrogens ?n_SaidOfAtom_neighbours ?n_SaidOfAtom_total ?n_SaidOfAtom_ring ?n_SaidOfAtom_hand ?h_z54 ?pg_z54 ?hd_z54 ?po_z54 ?sa_z54 ?a_z55 ?i_z55 ?mk_z54 ?kc_z54 ?n_SaidOfBond_a ?n_SaidOfBond_b ?n_SaidOfBond_orders ?n_SaidOfBond_how ?n_SaidOfBond_ring ?n_SaidOfBond_side ?h_z3 ?pg_z3 ?hd_z3 ?po_z3 ?sa_z3 ?a_z4 ?i_z4 ?mk_z3 ?kc_z3 ?n_Atom_element ?n_Atom_isotope ?n_Atom_charge ?n_Atom_hydrogens ?n_Atom_hand ?h_z5 ?pg_z5 ?hd_z5 ?po_z5 ?sa_z5 ?a_z6 ?i_z6 ?mk_z5 ?kc_z5 ?n_Bond_a ?n_Bond_b ?n_Bond_order ?n_Bond_side ?h_z32 ?pg_z32 ?hd_z32 ?po_z32 ?sa_z32 ?a_z33 ?i_z33 ?a_z35 ?i_z35 ?a_z34 ?i_z34 ?mk_z32 ?kc_z32 ?a_Molecule_besides ?n_Molecule_atoms ?n_Molecule_bonds ?n_Molecule_neighbours ?n_Molecule_sums ?n_Molecule_orders ?n_Molecule_bond_numbers ?sp_z16 ?rd_z16 ?fc_z16 ?h_z57 ?h_z69 ?h_z81 ?h_z73 ?h_z59 ?h_z82 ?h_z63 ?h_z77 ?h_z70 ?h_z71 ?h_z75 ?h_z78 ?h_z66 ?h_z60 ?h_z61 ?h_z72 ?h_z74 ?h_z79 ?h_z80 ?h_z67 ?h_z68 ?h_z64 ?h_z62 ?h_z65 ?h_z76 ?h_z58 ?l_z16 ?c_dGraph_init ?k_pGraph_init ?l_z15 ?c_dGraph_besides ?k_pGraph_besides ?l_z12 ?c_dFormFault_init ?k_pFormFault_init ?l_z42 ?c_dReader_init ?k_pReader_init ?l_z41 ?c_dReader_fault ?k_pReader_fault ?l_z48 ?c_dReader_take_number ?k_pReader_take_number ?l_z44 ?c_dReader_take_between ?k_pReader_take_between ?l_z50 ?c_dReader_take_range ?k_pReader_take_range ?l_z47 ?c_dReader_take_mark ?k_pReader_take_mark ?l_z43 ?c_dReader_take_atoms ?k_pReader_take_atoms ?l_z49 ?c_dReader_take_pair ?k_pReader_take_pair ?l_z45 ?c_dReader_take_bonds ?k_pReader_take_bonds ?l_z46 ?c_dReader_take_end ?k_pReader_take_end ?l_z53 ?c_dSaidOfAtom_init ?k_pSaidOfAtom_init ?l_z55 ?c_dSaidOfBond_init ?k_pSaidOfBond_init ?l_z4 ?c_dAtom_init ?k_pAtom_init ?l_z6 ?c_dBond_init ?k_pBond_init ?l_z33 ?c_dMolecule_init ?k_pMolecule_init ?l_z35 ?c_dMolecule_row_around ?k_pMolecule_row_around ?l_z34 ?c_dMolecule_orders_between ?k_pMolecule_orders_between ?l_z57 ?c_d_wall ?k_p_wall ?l_z69 ?c_dneighbour_rows ?k_pneighbour_rows ?l_z81 ?c_dtake_graph ?k_ptake_graph ?l_z73 ?c_dpattern_form ?k_ppattern_form ?l_z59 ?c_datom_bytes ?k_patom_bytes ?l_z82 ?c_dtwo_bytes ?k_ptwo_bytes ?l_z63 ?c_dcut_pattern ?k_pcut_pattern ?l_z77 ?c_dsaid_of_element ?k_psaid_of_element ?l_z70 ?c_dorder_bit ?k_porder_bit ?l_z71 ?c_dorder_sums ?k_porder_sums ?l_z75 ?c_dredrawn_orders ?k_predrawn_orders ?l_z78 ?c_dstates_behind ?k_pstates_behind ?l_z66 ?c_dless_order ?k_pless_order ?l_z60 ?c_dbonds_behind ?k_pbonds_behind ?l_z61 ?c_dcan_be_met ?k_pcan_be_met ?l_z72 ?c_dpair_numbers ?k_ppair_numbers ?l_z74 ?c_dread_molecule ?k_pread_molecule ?l_z79 ?c_dtake_atom ?k_ptake_atom ?l_z80 ?c_dtake_bond ?k_ptake_bond ?l_z67 ?c_dmay_have_hand ?k_pmay_have_hand ?l_z68 ?c_dmay_have_side ?k_pmay_have_side ?l_z64 ?c_dend_takes_side ?k_pend_takes_side ?l_z62 ?c_dcut ?k_pcut ?l_z65 ?c_dfault_answer ?k_pfault_answer ?l_z76 ?c_drow_answer ?k_prow_answer ?l_z58 ?c_dare_rising_below ?k_pare_rising_below ?h_z56 ?h_z39 ?h_z36 ?h_z17 ?h_z8 ?h_z51 ?h_z19 ?h_z22 ?h_z23 ?h_z25 ?h_z24 ?h_z27 ?h_z2 ?h_z29 ?h_z31 ?h_z0 ?h_z7 ?h_z18 ?h_z13 ?h_z28 ?h_z26 ?h_z30 ?h_z1 ?h_z37 ?h_z9 ?h_z10 ?h_z21 ?l_z21 ?h_z38 ?l_z38 ?h_z20 ?l_z20 ?h_enumerate ?h_len ?h_list ?h_range ?h_tuple ?ok_z11
    (case h_z14 => k_is)
    (case pg_z14 => k_is)
    (case hd_z14 => k_is)
    (case po_z14 => k_is)
    (case sa_z14 => k_is)
    (case a_z16 => k_is)
    (case i_z16 => k_is)
    (case a_z15 => k_is)
    (case i_z15 => k_is)
    (case mk_z14 => k_is)
    (case kc_z14 => k_is)
    (case n_Graph_atoms => k_is)
    (case n_Graph_bonds => k_is)
    (case n_Graph_neighbours => k_is)
    (case h_z11 => k_is)
    (case l_z11 => k_is)
    (case ln_z11 => k_is)
    (case in_z11 => k_is)
    (case is_z11 => k_is)
    (case kp_z11 => k_is)
    (case sa_z11 => k_is)
    (case xn_FormFault_getattribute => k_is)
    (case xn_FormFault_getattr => k_is)
    (case xn_FormFault_setattr => k_is)
    (case xn_FormFault_which => k_is)
    (case xn_FormFault_rule => k_is)
    (case xn_FormFault_place => k_is)
    (case h_z40 => k_is)
    (case pg_z40 => k_is)
    (case hd_z40 => k_is)
    (case po_z40 => k_is)
    (case sa_z40 => k_is)
    (case a_z42 => k_is)
    (case i_z42 => k_is)
    (case a_z41 => k_is)
    (case i_z41 => k_is)
    (case a_z48 => k_is)
    (case i_z48 => k_is)
    (case a_z44 => k_is)
    (case i_z44 => k_is)
    (case a_z50 => k_is)
    (case i_z50 => k_is)
    (case a_z47 => k_is)
    (case i_z47 => k_is)
    (case a_z43 => k_is)
    (case i_z43 => k_is)
    (case a_z49 => k_is)
    (case i_z49 => k_is)
    (case a_z45 => k_is)
    (case i_z45 => k_is)
    (case a_z46 => k_is)
    (case i_z46 => k_is)
    (case mk_z40 => k_is)
    (case kc_z40 => k_is)
    (case n_Reader_form => k_is)
    (case n_Reader_which => k_is)
    (case n_Reader_place => k_is)
    (case n_Reader_hand_places => k_is)
    (case n_Reader_side_places => k_is)
    (case h_z52 => k_is)
    (case pg_z52 => k_is)
    (case hd_z52 => k_is)
    (case po_z52 => k_is)
    (case sa_z52 => k_is)
    (case a_z53 => k_is)
    (case i_z53 => k_is)
    (case mk_z52 => k_is)
    (case kc_z52 => k_is)
    (case n_SaidOfAtom_named => k_is)
    (case n_SaidOfAtom_isotope => k_is)
    (case n_SaidOfAtom_charge => k_is)
    (case n_SaidOfAtom_hydrogens => k_is)
    (case n_SaidOfAtom_neighbours => k_is)
    (case n_SaidOfAtom_total => k_is)
    (case n_SaidOfAtom_ring => k_is)
    (case n_SaidOfAtom_hand => k_is)
    (case h_z54 => k_is)
    (case pg_z54 => k_is)
    (case hd_z54 => k_is)
    (case po_z54 => k_is)
    (case sa_z54 => k_is)
    (case a_z55 => k_is)
    (case i_z55 => k_is)
    (case mk_z54 => k_is)
    (case kc_z54 => k_is)
    (case n_SaidOfBond_a => k_is)
    (case n_SaidOfBond_b => k_is)
    (case n_SaidOfBond_orders => k_is)
    (case n_SaidOfBond_how => k_is)
    (case n_SaidOfBond_ring => k_is)
    (case n_SaidOfBond_side => k_is)
    (case h_z3 => k_is)
    (case pg_z3 => k_is)
    (case hd_z3 => k_is)
    (case po_z3 => k_is)
    (case sa_z3 => k_is)
    (case a_z4 => k_is)
    (case i_z4 => k_is)
    (case mk_z3 => k_is)
    (case kc_z3 => k_is)
    (case n_Atom_element => k_is)
    (case n_Atom_isotope => k_is)
    (case n_Atom_charge => k_is)
    (case n_Atom_hydrogens => k_is)
    (case n_Atom_hand => k_is)
    (case h_z5 => k_is)
    (case pg_z5 => k_is)
    (case hd_z5 => k_is)
    (case po_z5 => k_is)
    (case sa_z5 => k_is)
    (case a_z6 => k_is)
    (case i_z6 => k_is)
    (case mk_z5 => k_is)
    (case kc_z5 => k_is)
    (case n_Bond_a => k_is)
    (case n_Bond_b => k_is)
    (case n_Bond_order => k_is)
    (case n_Bond_side => k_is)
    (case h_z32 => k_is)
    (case pg_z32 => k_is)
    (case hd_z32 => k_is)
    (case po_z32 => k_is)
    (case sa_z32 => k_is)
    (case a_z33 => k_is)
    (case i_z33 => k_is)
    (case a_z35 => k_is)
    (case i_z35 => k_is)
    (case a_z34 => k_is)
    (case i_z34 => k_is)
    (case mk_z32 => k_is)
    (case kc_z32 => k_is)
    (case a_Molecule_besides => k_is)
    (case n_Molecule_atoms => k_is)
    (case n_Molecule_bonds => k_is)
    (case n_Molecule_neighbours => k_is)
    (case n_Molecule_sums => k_is)
    (case n_Molecule_orders => k_is)
    (case n_Molecule_bond_numbers => k_is)
    (case sp_z16 => k_is)
    (case rd_z16 => k_is)
    (case fc_z16 => k_is)
    (case h_z57 => k_is)
    (case h_z69 => k_is)
    (case h_z81 => k_is)
    (case h_z73 => k_is)
    (case h_z59 => k_is)
    (case h_z82 => k_is)
    (case h_z63 => k_is)
    (case h_z77 => k_is)
    (case h_z70 => k_is)
    (case h_z71 => k_is)
    (case h_z75 => k_is)
    (case h_z78 => k_is)
    (case h_z66 => k_is)
    (case h_z60 => k_is)
    (case h_z61 => k_is)
    (case h_z72 => k_is)
    (case h_z74 => k_is)
    (case h_z79 => k_is)
    (case h_z80 => k_is)
    (case h_z67 => k_is)
    (case h_z68 => k_is)
    (case h_z64 => k_is)
    (case h_z62 => k_is)
    (case h_z65 => k_is)
    (case h_z76 => k_is)
    (case h_z58 => k_is)
    (case l_z16 => k_is)
    (case c_dGraph_init => k_is)
    (case k_pGraph_init => k_is)
    (case l_z15 => k_is)
    (case c_dGraph_besides => k_is)
    (case k_pGraph_besides => k_is)
    (case l_z12 => k_is)
    (case c_dFormFault_init => k_is)
    (case k_pFormFault_init => k_is)
    (case l_z42 => k_is)
    (case c_dReader_init => k_is)
    (case k_pReader_init => k_is)
    (case l_z41 => k_is)
    (case c_dReader_fault => k_is)
    (case k_pReader_fault => k_is)
    (case l_z48 => k_is)
    (case c_dReader_take_number => k_is)
    (case k_pReader_take_number => k_is)
    (case l_z44 => k_is)
    (case c_dReader_take_between => k_is)
    (case k_pReader_take_between => k_is)
    (case l_z50 => k_is)
    (case c_dReader_take_range => k_is)
    (case k_pReader_take_range => k_is)
    (case l_z47 => k_is)
    (case c_dReader_take_mark => k_is)
    (case k_pReader_take_mark => k_is)
    (case l_z43 => k_is)
    (case c_dReader_take_atoms => k_is)
    (case k_pReader_take_atoms => k_is)
    (case l_z49 => k_is)
    (case c_dReader_take_pair => k_is)
    (case k_pReader_take_pair => k_is)
    (case l_z45 => k_is)
    (case c_dReader_take_bonds => k_is)
    (case k_pReader_take_bonds => k_is)
    (case l_z46 => k_is)
    (case c_dReader_take_end => k_is)
    (case k_pReader_take_end => k_is)
    (case l_z53 => k_is)
    (case c_dSaidOfAtom_init => k_is)
    (case k_pSaidOfAtom_init => k_is)
    (case l_z55 => k_is)
    (case c_dSaidOfBond_init => k_is)
    (case k_pSaidOfBond_init => k_is)
    (case l_z4 => k_is)
    (case c_dAtom_init => k_is)
    (case k_pAtom_init => k_is)
    (case l_z6 => k_is)
    (case c_dBond_init => k_is)
    (case k_pBond_init => k_is)
    (case l_z33 => k_is)
    (case c_dMolecule_init => k_is)
    (case k_pMolecule_init => k_is)
    (case l_z35 => k_is)
    (case c_dMolecule_row_around => k_is)
    (case k_pMolecule_row_around => k_is)
    (case l_z34 => k_is)
    (case c_dMolecule_orders_between => k_is)
    (case k_pMolecule_orders_between => k_is)
    (case l_z57 => k_is)
    (case c_d_wall => k_is)
    (case k_p_wall => k_is)
    (case l_z69 => k_is)
    (case c_dneighbour_rows => k_is)
    (case k_pneighbour_rows => k_is)
    (case l_z81 => k_is)
    (case c_dtake_graph => k_is)
    (case k_ptake_graph => k_is)
    (case l_z73 => k_is)
    (case c_dpattern_form => k_is)
    (case k_ppattern_form => k_is)
    (case l_z59 => k_is)
    (case c_datom_bytes => k_is)
    (case k_patom_bytes => k_is)
    (case l_z82 => k_is)
    (case c_dtwo_bytes => k_is)
    (case k_ptwo_bytes => k_is)
    (case l_z63 => k_is)
    (case c_dcut_pattern => k_is)
    (case k_pcut_pattern => k_is)
    (case l_z77 => k_is)
    (case c_dsaid_of_element => k_is)
    (case k_psaid_of_element => k_is)
    (case l_z70 => k_is)
    (case c_dorder_bit => k_is)
    (case k_porder_bit => k_is)
    (case l_z71 => k_is)
    (case c_dorder_sums => k_is)
    (case k_porder_sums => k_is)
    (case l_z75 => k_is)
    (case c_dredrawn_orders => k_is)
    (case k_predrawn_orders => k_is)
    (case l_z78 => k_is)
    (case c_dstates_behind => k_is)
    (case k_pstates_behind => k_is)
    (case l_z66 => k_is)
    (case c_dless_order => k_is)
    (case k_pless_order => k_is)
    (case l_z60 => k_is)
    (case c_dbonds_behind => k_is)
    (case k_pbonds_behind => k_is)
    (case l_z61 => k_is)
    (case c_dcan_be_met => k_is)
    (case k_pcan_be_met => k_is)
    (case l_z72 => k_is)
    (case c_dpair_numbers => k_is)
    (case k_ppair_numbers => k_is)
    (case l_z74 => k_is)
    (case c_dread_molecule => k_is)
    (case k_pread_molecule => k_is)
    (case l_z79 => k_is)
    (case c_dtake_atom => k_is)
    (case k_ptake_atom => k_is)
    (case l_z80 => k_is)
    (case c_dtake_bond => k_is)
    (case k_ptake_bond => k_is)
    (case l_z67 => k_is)
    (case c_dmay_have_hand => k_is)
    (case k_pmay_have_hand => k_is)
    (case l_z68 => k_is)
    (case c_dmay_have_side => k_is)
    (case k_pmay_have_side => k_is)
    (case l_z64 => k_is)
    (case c_dend_takes_side => k_is)
    (case k_pend_takes_side => k_is)
    (case l_z62 => k_is)
    (case c_dcut => k_is)
    (case k_pcut => k_is)
    (case l_z65 => k_is)
    (case c_dfault_answer => k_is)
    (case k_pfault_answer => k_is)
    (case l_z76 => k_is)
    (case c_drow_answer => k_is)
    (case k_prow_answer => k_is)
    (case l_z58 => k_is)
    (case c_dare_rising_below => k_is)
    (case k_pare_rising_below => k_is)
    (case h_z56 => k_is)
    (case h_z39 => k_is)
    (case h_z36 => k_is)
    (case h_z17 => k_is)
    (case h_z8 => k_is)
    (case h_z51 => k_is)
    (case h_z19 => k_is)
    (case h_z22 => k_is)
    (case h_z23 => k_is)
    (case h_z25 => k_is)
    (case h_z24 => k_is)
    (case h_z27 => k_is)
    (case h_z2 => k_is)
    (case h_z29 => k_is)
    (case h_z31 => k_is)
    (case h_z0 => k_is)
    (case h_z7 => k_is)
    (case h_z18 => k_is)
    (case h_z13 => k_is)
    (case h_z28 => k_is)
    (case h_z26 => k_is)
    (case h_z30 => k_is)
    (case h_z1 => k_is)
    (case h_z37 => k_is)
    (case h_z9 => k_is)
    (case h_z10 => k_is)
    (case h_z21 => k_is)
    (case l_z21 => k_is)
    (case h_z38 => k_is)
    (case l_z38 => k_is)
    (case h_z20 => k_is)
    (case l_z20 => k_is)
    (case h_enumerate => k_is)
    (case h_len => k_is)
    (case h_list => k_is)
    (case h_range => k_is)
    (case h_tuple => k_is)
    (case ok_z11 => (rw [← Array.all_toList]; rfl))
  case S =>
    intro K H xs a hO hwi hask hx
    cases hx with
    | cons h1 h2 =>
      cases h2 with
      | cons h3 h4 =>
        cases h4
        cases h1 with
        | lst hs ha =>
          cases h3 with
          | lst hs2 ha2 =>
            have e := L2.ints_dw a.1 _ ha
            subst e
            have e2 := L2.ints_dw a.2.1 _ ha2
            subst e2
            have q : ((Codec.inLen 0 6000 a.1 && a.1.all (Codec.inInt 0 255)) && ((Codec.inLen 0 200 a.2.1 && a.2.1.all (Codec.inInt 0 4294967295)) && true)) = true := hwi
            rw [Bool.and_eq_true, Bool.and_eq_true, Bool.and_eq_true, Bool.and_eq_true, List.all_eq_true, List.all_eq_true] at q
            have rng : ∀ z ∈ a.1, 0 ≤ z ∧ z ≤ 255 := fun z hz => Codec.inInt_iff.mp (q.1.2 z hz)
            have rng2 : ∀ z ∈ a.2.1, 0 ≤ z := fun z hz => (Codec.inInt_iff.mp (q.2.1.2 z hz)).1
            have hlen := (Codec.inNat_iff.mp q.1.1).2
            rw [MP.vB_of a.1 rng] at hs
            rw [MP.vN_of a.2.1 rng2] at hs2
            refine ⟨_, _, MP.bytesOf a.1, MP.natsOf a.2.1, rfl, MP.frm_of hO hs, MP.li_of hO hs2, by rw [MP.bytesOf_len]; exact hlen, MP.cut_few a.1 a.2.1 rng rng2 hask, fun H' p hp => ?_⟩
            have due : Codec.app PySem.Challenge.rw_moleculeparts_s03_cut.args PySem.Challenge.rw_moleculeparts_s03_cut.f a = MP.cutAns (MP.bytesOf a.1) (MP.natsOf a.2.1) := MP.cut_due a.1 a.2.1 rng rng2
            rw [due]
            exact .lst (L2.SqL.of hp) (L2.dw_ints _)
#print axioms PySem.Challenge.cw_moleculeparts_s03_cut_holds
