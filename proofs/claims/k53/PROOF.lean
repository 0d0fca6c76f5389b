import PyProof.Rows.All
import Wide.All
import OpenK.AllK
import Wide.FinOn
import Lean
import PyProof.EqAt
import PyProof.EqKinds
import PyProof.TupleCall
import PyProof.Rows.SetFrom
import PyProof.ExcAttrAll.ValueError
import KE.KDictList
import KE.KRevIter
import KE.KPairComp
import PyProof.EqAt
import KE.KSortTup
import PyProof.DictValues
import PySem.Challenge.RW_homeround_k53_whole_never_much_longer
set_option Elab.async false
set_option linter.all false
set_option maxRecDepth 100000
set_option maxHeartbeats 4000000
namespace L2
open PySem PySem.Spec PyProof.Rows
abbrev Key := Sum Int Str
def keyIs : Key → Value → Bool
  | .inl k, v => Value.isInt k v
  | .inr x, v => Value.isStrOf x v
def keyH (w : World) : Key → Int
  | .inl k => hashInt k
  | .inr x => hashStr w x
theorem keyIs_shape : ∀ {k : Key} {v : Value}, keyIs k v = true → (∃ i t, k = Sum.inl i ∧ v = Value.int i t) ∨ (∃ x t, k = Sum.inr x ∧ v = Value.str x t)
  | .inl i, v, h => by
    obtain ⟨t, e⟩ := Value.isInt_shape (k := i) (v := v) h
    exact .inl ⟨i, t, rfl, e⟩
  | .inr x, v, h => by
    obtain ⟨t, e⟩ := Value.isStrOf_shape (x := x) (v := v) h
    exact .inr ⟨x, t, rfl, e⟩
theorem key_ll (a b : Int) : decide ((Sum.inl a : Key) = Sum.inl b) = (a == b) := by
  by_cases e : a = b
  · subst e; simp
  · have h : ¬ (Sum.inl a : Key) = Sum.inl b := fun q => e (Sum.inl.inj q)
    rw [decide_eq_false h]
    exact (beq_eq_false_iff_ne.mpr e).symm
theorem key_rr (a b : Str) : decide ((Sum.inr a : Key) = Sum.inr b) = decide (a = b) := by
  by_cases e : a = b
  · subst e; simp
  · have h : ¬ (Sum.inr a : Key) = Sum.inr b := fun q => e (Sum.inr.inj q)
    rw [decide_eq_false h, decide_eq_false e]
theorem key_lr (a : Int) (b : Str) : decide ((Sum.inl a : Key) = Sum.inr b) = false := decide_eq_false (fun q => nomatch q)
theorem key_rl (a : Str) (b : Int) : decide ((Sum.inr a : Key) = Sum.inl b) = false := decide_eq_false (fun q => nomatch q)
def mixKind (prog : Program) (w : World) : PySem.KeyKind prog w Key where
  is := keyIs
  hash := keyH w
  inj := fun v a b ha hb => by
    rcases keyIs_shape ha with ⟨i, t, rfl, rfl⟩ | ⟨x, t, rfl, rfl⟩
    · rcases keyIs_shape hb with ⟨j, u, rfl, e⟩ | ⟨y, u, rfl, e⟩
      · injection e with e1 _; rw [e1]
      · exact nomatch e
    · rcases keyIs_shape hb with ⟨j, u, rfl, e⟩ | ⟨y, u, rfl, e⟩
      · exact nomatch e
      · injection e with e1 _; rw [e1]
  byValue := fun k v h => by
    rcases keyIs_shape h with ⟨i, t, rfl, rfl⟩ | ⟨x, t, rfl, rfl⟩ <;> rfl
  pyHash := fun hv h => by
    rcases keyIs_shape hv with ⟨i, t, rfl, rfl⟩ | ⟨x, t, rfl, rfl⟩
    · exact wpAny_pyHash_int h
    · exact wpAny_pyHash_str h
  eqBool := fun hu hv h => by
    rcases keyIs_shape hu with ⟨i, t, rfl, rfl⟩ | ⟨x, t, rfl, rfl⟩
    · rcases keyIs_shape hv with ⟨j, u, rfl, rfl⟩ | ⟨y, u, rfl, rfl⟩
      · rw [key_ll] at h; exact wpAny_eqBool_int h
      · rw [key_lr] at h; exact SeqAt.EqAt.int_str i t y u _ _ _ _ h
    · rcases keyIs_shape hv with ⟨j, u, rfl, rfl⟩ | ⟨y, u, rfl, rfl⟩
      · rw [key_rl] at h; exact SeqAt.EqAt.str_int x t j u _ _ _ _ h
      · rw [key_rr] at h; exact wpAny_eqBool_str h
  «strs» := fun k x t v h => by
    rcases keyIs_shape h with ⟨i, u, rfl, e⟩ | ⟨y, u, rfl, e⟩
    · exact nomatch e
    · injection e with e1 _
      subst e1
      cases v <;> rfl
end L2
namespace L2
open PySem PySem.Spec PyProof.Rows
inductive V where
  | non | bl (b : Bool) | int (i : Int) | str (x : Str) | byt (b : Array UInt8) | flt (b : UInt64) | ref (a : Addr) | ty (n : String)
  deriving DecidableEq
def RelV : V → Value → Prop
  | .non, u => u = Value.none
  | .bl b, u => u = Value.bool b
  | .int i, u => ∃ t, u = Value.int i t
  | .str x, u => ∃ t, u = Value.str x t
  | .byt b, u => ∃ t, u = Value.bytes b t
  | .flt b, u => ∃ t, u = Value.float b t
  | .ref a, u => u = Value.ref a
  | .ty n, u => u = Value.type n
abbrev Vals : List V → List Value → Prop := Paired RelV
theorem Vals.length {xs : List V} {us : List Value} (r : Vals xs us) : xs.length = us.length := Paired.length r
theorem Vals.get : ∀ {xs : List V} {us : List Value} {i : Nat} {x : V}, Vals xs us → xs[i]? = some x → ∃ u, us[i]? = some u ∧ RelV x u
  | _, _, _, _, .nil, e => by simp at e
  | _, _, 0, _, .cons r _, e => by simp at e; subst e; exact ⟨_, rfl, r⟩
  | _, _, i + 1, x, .cons _ t, e => by
    obtain ⟨u, h1, h2⟩ := Vals.get (i := i) (x := x) t (by simpa using e)
    exact ⟨u, by simpa using h1, h2⟩
theorem Vals.set {x : V} {u : Value} (r : RelV x u) : ∀ {xs : List V} {us : List Value} (i : Nat), Vals xs us → Vals (xs.set i x) (us.set i u)
  | _, _, _, .nil => .nil
  | _, _, 0, .cons _ t => .cons r t
  | _, _, i + 1, .cons q t => .cons q (Vals.set r i t)
theorem Vals.append : ∀ {xs ys : List V} {us ws : List Value}, Vals xs us → Vals ys ws → Vals (xs ++ ys) (us ++ ws)
  | _, _, _, _, .nil, s => s
  | _, _, _, _, .cons r t, s => .cons r (Vals.append t s)
theorem Vals.take : ∀ {xs : List V} {us : List Value} (n : Nat), Vals xs us → Vals (xs.take n) (us.take n)
  | _, _, 0, _ => .nil
  | _, _, _ + 1, .nil => .nil
  | _, _, n + 1, .cons r t => .cons r (Vals.take n t)
theorem Vals.drop : ∀ {xs : List V} {us : List Value} (n : Nat), Vals xs us → Vals (xs.drop n) (us.drop n)
  | _, _, 0, r => r
  | _, _, _ + 1, .nil => .nil
  | _, _, n + 1, .cons _ t => Vals.drop n t
def RelO : Option V → Option Value → Prop
  | some v, some u => RelV v u
  | none, none => True
  | _, _ => False
def KV {κ : Type} : List (κ × V) → List (κ × Value) → Prop := Paired fun (p : κ × V) (q : κ × Value) => p.1 = q.1 ∧ RelV p.2 q.2
def kV : Key → V
  | .inl i => .int i
  | .inr x => .str x
inductive HO where
  | lst (xs : List V)
  | tup (xs : List V)
  | dK (kvs : List (Key × V)) | dT (kvs : List (List Key × V))
  | set (S : Int → Bool) (n : Nat)
  | ins (C dx : Addr) (fs : List (Str × V))
  | own (x : Addr)
  | xd (fs : List (Str × V))
  | met (f x : Addr)
  | rng (lo hi : Int)
  | frz (o : Obj) (u : HO)
  | tbl (ps : Array Value)
  | ext (φ : Heap → Prop)
abbrev Hp := Addr → Option HO
def upd (H : Hp) (a : Addr) (o : HO) : Hp := fun b => if b = a then some o else H b
theorem upd_same {H : Hp} {a : Addr} {o : HO} : upd H a o a = some o := by unfold upd; rw [if_pos rfl]
theorem upd_ne {H : Hp} {a b : Addr} {o : HO} (h : b ≠ a) : upd H a o b = H b := by unfold upd; rw [if_neg h]
theorem ne_of {H : Hp} {a b : Addr} {o u : HO} (h : H a = some o) (h' : H b = some u) (d : o ≠ u) : a ≠ b := by
  intro e; subst e; rw [h] at h'; exact d (Option.some.inj h')
theorem ne_of_none {H : Hp} {a b : Addr} {o : HO} (h : H a = some o) (h' : H b = none) : a ≠ b := by
  intro e; subst e; rw [h] at h'; cases h'
def TupN (h : Heap) (a : Addr) (items : Array Value) : Prop := ∃ o, h.get? a = some o ∧ o.cls = .type "tuple" ∧ (∃ n, o.data = .seq items n) ∧ o.dict = none
theorem TupN.tup {h : Heap} {a : Addr} {items : Array Value} (p : TupN h a items) : IsTup h a items := let ⟨o, e, c, n, _⟩ := p; ⟨o, e, c, n⟩
theorem TupN.new (h : Heap) (items : Array Value) : TupN (h.push { cls := .type "tuple", data := .seq items }) h.objs.size items := ⟨_, Heap.get?_push_size _ rfl, rfl, ⟨_, rfl⟩, rfl⟩
section
variable (P : Program) (w : World)
def ObjOk (H : Hp) (h : Heap) (a : Addr) : HO → Prop
  | .lst xs => xs.length ≤ sizeLine ∧ ∃ (its : List Value) (n : Nat), Vals xs its ∧ h.get? a = some { cls := .type "list", data := .seq its.toArray n }
  | .tup xs => xs.length ≤ sizeLine ∧ ∃ its : List Value, Vals xs its ∧ TupN h a its.toArray
  | .dK kvs => kvs.length ≤ sizeLine ∧ (a == sysModules) = false ∧ ∃ vs, KV kvs vs ∧ h.DictOf (mixKind P w) a vs
  | .dT kvs => kvs.length ≤ sizeLine ∧ (a == sysModules) = false ∧ ∃ xs : List (List Key × Addr × Value),
      Paired (fun (p : List Key × V) (q : List Key × Addr × Value) => p.1 = q.1 ∧ H q.2.1 = some (.tup (p.1.map kV)) ∧ RelV p.2 q.2.2) kvs xs ∧
      ∃ o es ep, h.get? a = some o ∧ o.ExactDict ∧ o.data = .dict es ep ∧ es.toList = xs.map (entryOfKey (tupleKind (mixKind P w))) ∧ (xs.map (·.1)).Nodup
  | .set S n => h.SetOf (intKind P w) a S n
  | .ins C dx fs => H dx = some (.own a) ∧ fs.length ≤ 1000 ∧ dx ≠ a ∧ h.get? a = some (PySem.W.instObj C dx) ∧
      ∃ mA, h.Ns1 dx mA ∧ (∀ f, RelO (fs.lookup f) (mA f)) ∧ PySem.Within mA (fs.map (·.1))
  | .own _ => ∃ o, h.get? a = some o
  | .xd fs => ∃ mA, h.Ns1 a mA ∧ ∀ f, RelO (fs.lookup f) (mA f)
  | .rng lo hi => ∃ t u v, h.get? a = some { cls := .type "range", data := .fields #[.int lo t, .int hi u, .int 1 v] }
  | .frz o u => h.get? a = some o ∧ ObjOk H h a u
  | .tbl ps => h.get? a = some { cls := .none, data := .fields ps }
  | .met f x => h.get? a = some (PySem.W.methodObj (.ref f) (.ref x))
  | .ext φ => φ h ∧ (∃ o, h.get? a = some o) ∧ ∀ h1 h2 : Heap, φ h1 → (∀ o, h1.get? a = some o → h2.get? a = some o) → φ h2
def HOk (H : Hp) (h : Heap) : Prop := ∀ a o, H a = some o → ObjOk P w H h a o
end
section
variable {P : Program} {w : World} {H H' : Hp} {h h' : Heap} {a : Addr} {o : HO}
theorem ObjOk.lt (x : ObjOk P w H h a o) : a < h.objs.size := by
  cases o with
  | lst xs => obtain ⟨_, _, _, _, e⟩ := x; exact Heap.lt_size e
  | tup xs => obtain ⟨_, _, _, p⟩ := x; exact p.tup.lt
  | dK kvs => obtain ⟨_, _, _, _, o, _, _, e, _⟩ := x; exact Heap.lt_size e
  | dT kvs => obtain ⟨_, _, _, _, o, _, _, e, _⟩ := x; exact Heap.lt_size e
  | set S n => obtain ⟨o, _, _, _, e, _⟩ := x; exact Heap.lt_size e
  | ins C dx fs => obtain ⟨_, _, _, e, _⟩ := x; exact Heap.lt_size e
  | own y => obtain ⟨_, e⟩ := x; exact Heap.lt_size e
  | xd fs => obtain ⟨_, ⟨_, _, _, e, _⟩, _⟩ := x; exact Heap.lt_size e
  | rng lo hi => obtain ⟨_, _, _, e⟩ := x; exact Heap.lt_size e
  | frz ob u => obtain ⟨e, _⟩ := x; exact Heap.lt_size e
  | tbl ps => exact Heap.lt_size (show h.get? a = some _ from x)
  | met f y => exact Heap.lt_size (show h.get? a = some _ from x)
  | ext φ => obtain ⟨_, ⟨_, e⟩, _⟩ := x; exact Heap.lt_size e
theorem Paired.mapP {α β : Type} {F G : α → β → Prop} : ∀ {l₁ : List α} {l₂ : List β}, Paired F l₁ l₂ → (∀ a b, F a b → G a b) → Paired G l₁ l₂
  | _, _, .nil, _ => .nil
  | _, _, .cons r t, f => .cons (f _ _ r) (Paired.mapP t f)
theorem ObjOk.stay (x : ObjOk P w H h a o) (k : ∀ b u, (b = a ∨ H b = some (.own a)) → h.get? b = some u → h'.get? b = some u)
    (ho : ∀ b, H b = some (.own a) → H' b = some (.own a)) (ht : ∀ b xs, H b = some (.tup xs) → H' b = some (.tup xs)) : ObjOk P w H' h' a o := by
  induction o with
  | lst xs => obtain ⟨z, its, n, r, e⟩ := x; exact ⟨z, its, n, r, k _ _ (.inl rfl) e⟩
  | tup xs => obtain ⟨z, its, r, ob, e, c⟩ := x; exact ⟨z, its, r, ob, k _ _ (.inl rfl) e, c⟩
  | dK kvs => obtain ⟨z, y, vs, r, ob, es, ep, e, c⟩ := x; exact ⟨z, y, vs, r, ob, es, ep, k _ _ (.inl rfl) e, c⟩
  | dT kvs =>
    obtain ⟨z, y, xs, r, ob, es, ep, e, c⟩ := x
    exact ⟨z, y, xs, Paired.mapP r fun p q z => ⟨z.1, ht _ _ z.2.1, z.2.2⟩, ob, es, ep, k _ _ (.inl rfl) e, c⟩
  | set S n => obtain ⟨ob, es, ep, t, e, c⟩ := x; exact ⟨ob, es, ep, t, k _ _ (.inl rfl) e, c⟩
  | ins C dx fs =>
    obtain ⟨d, z, ne, e, mA, ⟨od, es, ep, e2, c⟩, r⟩ := x
    exact ⟨ho _ d, z, ne, k _ _ (.inl rfl) e, mA, ⟨od, es, ep, k _ _ (.inr d) e2, c⟩, r⟩
  | own y => obtain ⟨ob, e⟩ := x; exact ⟨ob, k _ _ (.inl rfl) e⟩
  | xd fs => obtain ⟨mA, ⟨od, es, ep, e, c⟩, r⟩ := x; exact ⟨mA, ⟨od, es, ep, k _ _ (.inl rfl) e, c⟩, r⟩
  | rng lo hi => obtain ⟨t, u, v, e⟩ := x; exact ⟨t, u, v, k _ _ (.inl rfl) e⟩
  | frz ob u ih => obtain ⟨e, q⟩ := x; exact ⟨k _ _ (.inl rfl) e, ih q⟩
  | tbl ps =>
    have e : h.get? a = some { cls := .none, data := .fields ps } := x
    show h'.get? a = some { cls := .none, data := .fields ps }
    exact k a _ (.inl rfl) e
  | met f y =>
    have e : h.get? a = some (PySem.W.methodObj (.ref f) (.ref y)) := x
    show h'.get? a = some (PySem.W.methodObj (.ref f) (.ref y))
    exact k a _ (.inl rfl) e
  | ext φ => obtain ⟨p, ⟨o, e⟩, st⟩ := x; exact ⟨st _ _ p fun o q => k _ _ (.inl rfl) q, ⟨o, k _ _ (.inl rfl) e⟩, st⟩
theorem HOk.lt (x : HOk P w H h) (e : H a = some o) : a < h.objs.size := (x a o e).lt
theorem HOk.fresh (x : HOk P w H h) (e : h.objs.size ≤ a) : H a = none := by
  cases q : H a with
  | none => rfl
  | some u => exact absurd (Nat.lt_of_lt_of_le (x.lt q) e) (Nat.lt_irrefl _)
theorem HOk.kept (x : HOk P w H h) (k : ∀ b u, h.get? b = some u → h'.get? b = some u) : HOk P w H h' := fun a o e =>
  (x a o e).stay (fun b u _ q => k b u q) (fun _ q => q) fun _ _ q => q
theorem HOk.laid (x : HOk P w H h) (k : ∀ b u, h.get? b = some u → h'.get? b = some u) (hp : h.objs.size ≤ a) (new : ObjOk P w (upd H a o) h' a o) : HOk P w (upd H a o) h' := fun b u e => by
  have hn := x.fresh hp
  by_cases hb : b = a
  · subst hb; rw [upd_same] at e; cases e; exact new
  · rw [upd_ne hb] at e
    exact (x b u e).stay (fun c v _ q => k c v q) (fun c q => by rw [upd_ne (ne_of_none q hn)]; exact q) fun c xs q => by rw [upd_ne (ne_of_none q hn)]; exact q
end
def Rd (H : Hp) (a : Addr) (u : HO) : Prop := H a = some u ∨ ∃ o, H a = some (.frz o u)
theorem Rd.ok {P : Program} {w : World} {H : Hp} {h : Heap} {a : Addr} {u : HO} (r : Rd H a u) (x : HOk P w H h) : ObjOk P w H h a u := by
  rcases r with r | ⟨o, r⟩
  · exact x a u r
  · obtain ⟨_, q⟩ := x a _ r
    exact q
def Mut : Option HO → Prop
  | some (.lst _) => True
  | some (.dK _) => True
  | some (.dT _) => True
  | some (.set _ _) => True
  | some (.ins _ _ _) => True
  | some (.ext _) => True
  | _ => False
section
variable {P : Program} {w : World} {H : Hp} {h h' : Heap} {x e : Addr} {o' : HO}
theorem HOk.write (ok : HOk P w H h) (mu : Mut (H x)) (he : e = x ∨ H e = some (.own x)) (k : ∀ b u, b ≠ e → h.get? b = some u → h'.get? b = some u) (heo : ∃ u, h'.get? e = some u)
    (new : ObjOk P w (upd H x o') h' x o') : HOk P w (upd H x o') h' := fun b u q => by
  have nown : ∀ c y, H c = some (.own y) → c ≠ x := fun c y r z => by subst z; rw [r] at mu; exact mu
  have ntup : ∀ c xs, H c = some (.tup xs) → c ≠ x := fun c xs r z => by subst z; rw [r] at mu; exact mu
  by_cases hb : b = x
  · subst hb; rw [upd_same] at q; cases q; exact new
  · rw [upd_ne hb] at q
    by_cases hbe : b = e
    · have q' : H b = some (.own x) := by
        rcases he with z | z
        · exact absurd (hbe.trans z) hb
        · rw [hbe]; exact z
      rw [q] at q'; cases q'
      obtain ⟨v, hv⟩ := heo
      exact ⟨v, by rw [hbe]; exact hv⟩
    · refine (ok b u q).stay (fun c v hc r => k c v ?_ r) (fun c r => by rw [upd_ne (nown c b r)]; exact r) fun c xs r => by rw [upd_ne (ntup c xs r)]; exact r
      rcases hc with rfl | hc
      · exact hbe
      · rintro rfl
        rcases he with z | z
        · exact nown c b hc z
        · rw [hc] at z; cases z; exact hb rfl
end
structure Un (fs ex : List Addr) (H H' : Hp) (h h' : Heap) : Prop where
  keep : ∀ b o, h.get? b = some o → H b = none → b ∉ fs → b ∉ ex → h'.get? b = some o
  slot : ∀ b o, h.get? b = some o → H b = none → b ∈ fs → b ∉ ex → ∃ sl, h'.get? b = some { o with slots := sl }
  free : ∀ b o, h.get? b = some o → H b = none → b ∉ ex → H' b = none
  there : ∀ b o, h.get? b = some o → b ∉ ex → ∃ o', h'.get? b = some o'
  tups : ∀ b xs, H b = some (.tup xs) → H' b = some (.tup xs)
  frzs : ∀ b o u, H b = some (.frz o u) → H' b = some (.frz o u)
  tbls : ∀ b ps, H b = some (.tbl ps) → ∃ more, H' b = some (.tbl (ps ++ more))
section
variable {fs fs' ex ex' : List Addr} {H H1 H2 : Hp} {h h1 h2 h' : Heap} {a x e : Addr} {o : HO}
theorem Un.any (u : Un fs ex H H1 h h1) {b : Addr} {ob : Obj} (q : h.get? b = some ob) (n : H b = none) (hx : b ∉ ex) : ∃ sl, h1.get? b = some { ob with slots := sl } := by
  by_cases hb : b ∈ fs
  · exact u.slot b ob q n hb hx
  · exact ⟨ob.slots, u.keep b ob q n hb hx⟩
theorem Un.kept (k : ∀ b u, h.get? b = some u → h'.get? b = some u) : Un fs ex H H h h' :=
  ⟨fun b ob q _ _ _ => k b ob q, fun b ob q _ _ _ => ⟨ob.slots, k b ob q⟩, fun _ _ _ n _ => n, fun b ob q _ => ⟨ob, k b ob q⟩, fun _ _ q => q, fun _ _ _ q => q, fun _ ps q => ⟨#[], by rw [q]; simp⟩⟩
theorem Un.refl : Un fs ex H H h h := Un.kept fun _ _ q => q
theorem Un.laid (k : ∀ b u, h.get? b = some u → h'.get? b = some u) (hp : h.objs.size ≤ a) (hn : H a = none) : Un fs ex H (upd H a o) h h' where
  keep := fun b u q _ _ _ => k b u q
  slot := fun b u q _ _ _ => ⟨u.slots, k b u q⟩
  free := fun b u q n _ => by rw [upd_ne (Nat.ne_of_lt (Nat.lt_of_lt_of_le (Heap.lt_size q) hp))]; exact n
  there := fun b u q _ => ⟨u, k b u q⟩
  tups := fun b xs q => by rw [upd_ne (ne_of_none q hn)]; exact q
  frzs := fun b u xs q => by rw [upd_ne (ne_of_none q hn)]; exact q
  tbls := fun b ps q => ⟨#[], by rw [upd_ne (ne_of_none q hn), q]; simp⟩
theorem Un.write (mu : Mut (H x)) (he : e = x ∨ H e = some (.own x)) (k : ∀ b u, b ≠ e → h.get? b = some u → h'.get? b = some u) (heo : ∃ u, h'.get? e = some u) : Un fs ex H (upd H x o) h h' := by
  have hx : ∀ b, H b = none → b ≠ x := fun b n z => by subst z; rw [n] at mu; exact mu
  have hb : ∀ b, H b = none → b ≠ e := fun b n z => by
    subst z
    rcases he with r | r
    · exact hx b n r
    · rw [n] at r; cases r
  have hm : ∀ b u, H b = some u → ¬ Mut (some u) → b ≠ x := fun b u q nm z => by subst z; rw [q] at mu; exact nm mu
  refine ⟨fun b u q n _ _ => k b u (hb b n) q, fun b u q n _ _ => ⟨u.slots, k b u (hb b n) q⟩, fun b u q n _ => by rw [upd_ne (hx b n)]; exact n, fun b u q _ => ?_,
    fun b xs q => by rw [upd_ne (hm b _ q fun z => z)]; exact q, fun b u xs q => by rw [upd_ne (hm b _ q fun z => z)]; exact q, fun b ps q => ⟨#[], by rw [upd_ne (hm b _ q fun z => z), q]; simp⟩⟩
  by_cases hbe : b = e
  · subst hbe; exact heo
  · exact ⟨u, k b u hbe q⟩
end
def trk (h : Heap) (H : Hp) : List Addr := (List.range h.objs.size).filter fun a => (H a).isSome
def hidT (h : Heap) (H : Hp) : Heap := PySem.W.hideAll h (trk h H)
theorem hidT_size (h : Heap) (H : Hp) : (hidT h H).objs.size = h.objs.size := PySem.W.hideAll_size _ _
theorem hidT_get {h : Heap} {H : Hp} {b : Addr} {o : Obj} (e : h.get? b = some o) (n : H b = none) : (hidT h H).get? b = some o :=
  PySem.W.hideAll_get _ e fun hm => by
    have q : (H b).isSome = true := (List.mem_filter.mp hm).2
    rw [n] at q; simp at q
theorem of_hidT {h : Heap} {H : Hp} {b : Addr} {o : Obj} (e : (hidT h H).get? b = some o) : h.get? b = some o ∧ H b = none := by
  have e' : h.get? b = some o := PySem.W.of_hideAll (trk h H) e
  refine ⟨e', ?_⟩
  cases q : H b with
  | none => rfl
  | some x =>
    have hm : b ∈ trk h H := List.mem_filter.mpr ⟨List.mem_range.mpr (Heap.lt_size e'), by simp [q]⟩
    have z : (hidT h H).get? b = none := PySem.W.hideAll_none (trk h H) hm
    rw [z] at e; cases e
def allNews (g h : Heap) (L : Addr) : List (Addr × Obj) := (List.range h.objs.size).filterMap fun a => if a = L ∨ (g.get? a).isSome = true then none else (h.get? a).map fun o => (a, o)
def rest (g h : Heap) (L d : Addr) : List (Addr × Obj) := (allNews g h L).filter fun p => decide (p.1 ≠ d)
end L2
namespace L2
open PySem PySem.Spec PyProof.Rows
structure Mod (K : PySem.W.Frag) (mg : Str → Option Value) (base : Heap) : Prop where
  kin : K.In base
  glob : base.Ns mainGlobals mg
  blt : ∃ mb, base.Ns builtinsNs mb ∧ ∀ x : Str, x ≠ "__name__" → mb x = bootBuiltins x
  nolimit : base.NoLimit
structure Cx where
  prog : Program
  w : World
  K : PySem.W.Frag
  mg : Str → Option Value
  base : Heap
  A : Around
  N : List Str
  s₀ : Shared
  H₀ : Hp
  env : Env
  outer : List Env
  stack : List Env
  ex : List Addr
  fn : Str → Bool
  calm : Bool
  pn : List (Addr × Obj)
  xe : Value → Shared → Prop
def frs (l : List Env) : List Addr := l.filterMap (·.frame)
abbrev Cx.fs (X : Cx) : List Addr := frs X.outer
def Vis (sc : Scope) (x : Str) : Prop := sc.names.lookup x = some .local ∨ sc.names.lookup x = some .cell ∨ sc.names.lookup x = some .free
def Loc (sc : Scope) (x : Str) : Prop := sc.names.lookup x = some .local ∨ sc.names.lookup x = some .cell
def Look (env : Env) (h : Heap) (m : Str → Option Value) (x : Str) (u : Value) : Prop :=
  (env.kindOf x = some .local ∧ m x = some u) ∨ ((env.kindOf x = some .cell ∨ env.kindOf x = some .free) ∧ ∃ c, env.cells.lookup x = some c ∧ h.IsCell c (some u))
structure Cx.Ok (X : Cx) : Prop where
  mod : Mod X.K X.mg X.base
  kind : X.env.scope.kind = .function
  glob : X.env.globals = mainGlobals
  blt : X.env.builtins = builtinsNs
  above : X.s₀.heap.objs.size ≤ X.env.locals
  inj : ∀ x y c, X.env.cells.lookup x = some c → X.env.cells.lookup y = some c → x = y
  has : ∀ x, (X.env.kindOf x = some .cell ∨ X.env.kindOf x = some .free) → ∃ c, X.env.cells.lookup x = some c
  cab : ∀ x c, X.fn x = true → X.env.cells.lookup x = some c → X.s₀.heap.objs.size ≤ c
  hd : X.calm = true → X.A.handled = none
  frames : X.A.frames = some X.stack
  stk : X.stack = X.outer ∨ (X.stack = X.env :: X.outer ∧ X.env.frame = some X.env.locals)
  exf : ∀ b ∈ X.ex, b ≠ X.env.locals ∧ ∀ x c, X.env.cells.lookup x = some c → c ≠ b
  bs : ∀ b o, X.base.get? b = some o → X.s₀.heap.get? b = some o ∧ X.H₀ b = none
  bsz : X.base.objs.size ≤ X.s₀.heap.objs.size
  noex : ∀ b o, X.base.get? b = some o → b ∉ X.ex
  exfs : ∀ b ∈ X.ex, b ∉ X.fs
  funs : X.s₀.heap.FunFrames X.base X.outer
  frf : ∀ b ∈ X.fs, X.H₀ b = none
structure Inv (X : Cx) (pins : List (Addr × Obj)) (σ : List (Option V)) (H : Hp) (s : Shared) : Prop where
  ok : X.Ok
  os : s.os = X.s₀.os
  bare : AllBare s.gens
  base : Un X.fs X.ex X.H₀ H X.s₀.heap s.heap
  loc : ∃ m, s.heap.Ns X.env.locals m ∧ ∀ (i : Nat) (x : Str) (v : V), X.N[i]? = some x → σ[i]? = some (some v) → Vis X.env.scope x → ∃ u, RelV v u ∧ Look X.env s.heap m x u
  cell : ∀ x c, X.env.cells.lookup x = some c → ∃ v, s.heap.IsCell c v
  free : H X.env.locals = none
  freeC : ∀ x c, X.env.cells.lookup x = some c → H c = none
  pin : ∀ p ∈ X.pn ++ pins, s.heap.get? p.1 = some p.2 ∧ H p.1 = none ∧ p.1 ≠ X.env.locals ∧ p.1 ∉ X.fs ∧ ∀ v, p.2.data ≠ .cell v
  hok : HOk X.prog X.w H s.heap
  len : σ.length = X.N.length
section
variable {X : Cx} {pins : List (Addr × Obj)} {σ : List (Option V)} {H H' : Hp} {s : Shared} {h' : Heap}
theorem Cx.Ok.nofr (ok : X.Ok) {b : Addr} {o : Obj} (e : X.base.get? b = some o) : b ∉ X.fs := fun hb => by
  have := (ok.funs.mem hb).1
  rw [e] at this; cases this
theorem Inv.bs (I : Inv X pins σ H s) : ∀ b o, X.base.get? b = some o → s.heap.get? b = some o ∧ H b = none := fun b o e =>
  ⟨I.base.keep b o (I.ok.bs b o e).1 (I.ok.bs b o e).2 (I.ok.nofr e) (I.ok.noex b o e), I.base.free b o (I.ok.bs b o e).1 (I.ok.bs b o e).2 (I.ok.noex b o e)⟩
theorem Inv.bk (I : Inv X pins σ H s) : ∀ b o, X.base.get? b = some o → s.heap.get? b = some o := fun b o e => (I.bs b o e).1
theorem Inv.mod (I : Inv X pins σ H s) : Mod X.K X.mg X.base := I.ok.mod
theorem Inv.kIn (I : Inv X pins σ H s) : X.K.In s.heap := I.ok.mod.kin.keeps I.bk
theorem Inv.lt (I : Inv X pins σ H s) : X.env.locals < s.heap.objs.size := let ⟨_, hn, _⟩ := I.loc; hn.lt
theorem Inv.sz (I : Inv X pins σ H s) : X.s₀.heap.objs.size ≤ s.heap.objs.size := Nat.le_trans I.ok.above (Nat.le_of_lt I.lt)
theorem Inv.nofs (I : Inv X pins σ H s) {a : Addr} (h : s.heap.objs.size ≤ a) : a ∉ X.fs := fun hb => by
  obtain ⟨_, o, ho, _⟩ := I.ok.funs.mem hb
  exact absurd (Nat.lt_of_lt_of_le (Heap.lt_size ho) (Nat.le_trans I.sz h)) (Nat.lt_irrefl _)
theorem Inv.cne (I : Inv X pins σ H s) : ∀ x c, X.env.cells.lookup x = some c → c ≠ X.env.locals := fun x c e z => by
  obtain ⟨v, o, ho, hd⟩ := I.cell x c e
  obtain ⟨m, ⟨o', es, ep, ho', hd', _⟩, _⟩ := I.loc
  rw [z, ho'] at ho; cases ho; rw [hd'] at hd; cases hd
theorem Inv.funs (I : Inv X pins σ H s) : s.heap.FunFrames X.base X.outer := by
  have all : ∀ (l : List Env), (∀ b ∈ frs l, b ∈ X.fs) → X.s₀.heap.FunFrames X.base l → s.heap.FunFrames X.base l := by
    intro l
    induction l with
    | nil => intro _ _; trivial
    | cons env r ih =>
      intro hs hl
      obtain ⟨hk, ⟨L, o, hf, hn, ho, hd⟩, hr⟩ := hl
      have hL : L ∈ X.fs := hs L (by unfold frs; rw [List.filterMap_cons, hf]; exact List.mem_cons_self)
      obtain ⟨sl, e⟩ := I.base.slot L o ho (I.ok.frf L hL) hL fun z => I.ok.exfs L z hL
      exact ⟨hk, ⟨L, _, hf, hn, e, hd⟩, ih (fun b hb => hs b (by unfold frs; rw [List.filterMap_cons, hf]; exact List.mem_cons_of_mem _ hb)) hr⟩
  exact all X.outer (fun _ hb => hb) I.ok.funs
theorem Inv.stack (I : Inv X pins σ H s) : s.heap.FunFrames X.base X.stack := by
  rcases I.ok.stk with e | ⟨e, hf⟩
  · rw [e]; exact I.funs
  · rw [e]
    obtain ⟨m, hn, _⟩ := I.loc
    refine .cons (by rw [I.ok.kind]; decide) hf hn ?_ I.funs
    exact Heap.get?_none_of_le (Nat.le_trans I.ok.bsz I.ok.above)
theorem Inv.stkSub (I : Inv X pins σ H s) : ∀ b ∈ frs X.stack, b ∈ X.env.locals :: X.fs := fun b hb => by
  rcases I.ok.stk with e | ⟨e, hf⟩
  · rw [e] at hb; exact List.mem_cons_of_mem _ hb
  · rw [e] at hb
    unfold frs at hb
    rw [List.filterMap_cons, hf] at hb
    exact hb
theorem Inv.stkFree (I : Inv X pins σ H s) : ∀ b ∈ frs X.stack, H b = none := fun b hb => by
  rcases List.mem_cons.mp (I.stkSub b hb) with e | hb
  · rw [e]; exact I.free
  · obtain ⟨_, o, ho, _⟩ := I.ok.funs.mem hb
    exact I.base.free b o ho (I.ok.frf b hb) fun z => I.ok.exfs b z hb
theorem Inv.step {g' : Array GenState} {t' : Nat} {d' : Drawn} {ch : List Addr} (I : Inv X pins σ H s)
    (hch : ∀ b ∈ ch, (b ∈ X.ex ∨ X.s₀.heap.objs.size ≤ b) ∧ b ≠ X.env.locals ∧ (∀ x c, X.env.cells.lookup x = some c → c ≠ b) ∧ ∀ p ∈ X.pn ++ pins, p.1 ≠ b)
    (keep : ∀ b o, b ≠ X.env.locals → b ∉ X.fs → b ∉ ch → s.heap.get? b = some o → H b = none → h'.get? b = some o)
    (slot : ∀ b o, b ≠ X.env.locals → b ∈ X.fs → b ∉ ch → s.heap.get? b = some o → H b = none → ∃ sl, h'.get? b = some { o with slots := sl }) (free : ∀ b o, b ∉ ch → s.heap.get? b = some o → H b = none → H' b = none)
    (there : ∀ b o, b ∉ ch → s.heap.get? b = some o → ∃ o', h'.get? b = some o')
    (tups : ∀ b xs, H b = some (.tup xs) → H' b = some (.tup xs)) (frzs : ∀ b o u, H b = some (.frz o u) → H' b = some (.frz o u)) (tbls : ∀ b ps, H b = some (.tbl ps) → ∃ more, H' b = some (.tbl (ps ++ more)))
    (ns : ∀ m, s.heap.Ns X.env.locals m → h'.Ns X.env.locals m) (hok : HOk X.prog X.w H' h') (hg : AllBare g') :
    Inv X pins σ H' { s with heap := h', gens := g', drawn := d', toks := t' } := by
  have neL : ∀ b o, X.s₀.heap.get? b = some o → b ≠ X.env.locals := fun b o e => Nat.ne_of_lt (Nat.lt_of_lt_of_le (Heap.lt_size e) I.ok.above)
  have neC : ∀ b o, X.s₀.heap.get? b = some o → b ∉ X.ex → b ∉ ch := fun b o e hx hb => by
    rcases (hch b hb).1 with z | z
    · exact hx z
    · exact absurd (Nat.lt_of_lt_of_le (Heap.lt_size e) z) (Nat.lt_irrefl _)
  have cellK : ∀ x c, X.env.cells.lookup x = some c → ∀ v, s.heap.IsCell c v → h'.IsCell c v := fun x c e v ⟨o, ho, hd⟩ => by
    have nch : c ∉ ch := fun z => (hch c z).2.2.1 x c e rfl
    by_cases hc : c ∈ X.fs
    · obtain ⟨sl, q⟩ := slot c o (I.cne x c e) hc nch ho (I.freeC x c e)
      exact ⟨_, q, hd⟩
    · exact ⟨o, keep c o (I.cne x c e) hc nch ho (I.freeC x c e), hd⟩
  refine ⟨I.ok, I.os, hg, ⟨fun b o e n hb hx => ?_, fun b o e n hb hx => ?_, fun b o e n hx => ?_, fun b o e hx => ?_, fun b xs e => tups b xs (I.base.tups b xs e), fun b o xs e => frzs b o xs (I.base.frzs b o xs e), fun b ps e => ?_⟩, ?_, fun x c e => ?_, ?_, fun x c e => ?_, fun p hp => ?_, hok, I.len⟩
  · exact keep b o (neL b o e) hb (neC b o e hx) (I.base.keep b o e n hb hx) (I.base.free b o e n hx)
  · obtain ⟨sl, e1⟩ := I.base.slot b o e n hb hx
    obtain ⟨sl', e2⟩ := slot b _ (neL b o e) hb (neC b o e hx) e1 (I.base.free b o e n hx)
    exact ⟨sl', e2⟩
  · obtain ⟨o', e1⟩ := I.base.there b o e hx
    exact free b o' (neC b o e hx) e1 (I.base.free b o e n hx)
  · obtain ⟨o', e1⟩ := I.base.there b o e hx
    exact there b o' (neC b o e hx) e1
  · obtain ⟨m1, e1⟩ := I.base.tbls b ps e
    obtain ⟨m2, e2⟩ := tbls b _ e1
    exact ⟨m1 ++ m2, by rw [e2, Array.append_assoc]⟩
  · obtain ⟨m, hn, hl⟩ := I.loc
    refine ⟨m, ns m hn, fun i x v e1 e2 e3 => ?_⟩
    obtain ⟨u, r, l⟩ := hl i x v e1 e2 e3
    refine ⟨u, r, ?_⟩
    rcases l with l | ⟨k, c, e, z⟩
    · exact .inl l
    · exact .inr ⟨k, c, e, cellK x c e _ z⟩
  · obtain ⟨v, z⟩ := I.cell x c e
    exact ⟨v, cellK x c e v z⟩
  · obtain ⟨m, ⟨o, _, _, ho, _⟩, _⟩ := I.loc
    exact free _ o (fun z => (hch _ z).2.1 rfl) ho I.free
  · obtain ⟨v, o, ho, hd⟩ := I.cell x c e
    exact free c o (fun z => (hch c z).2.2.1 x c e rfl) ho (I.freeC x c e)
  · obtain ⟨e, n, ne, nf, d⟩ := I.pin p hp
    have nch : p.1 ∉ ch := fun z => (hch p.1 z).2.2.2 p hp rfl
    exact ⟨keep p.1 p.2 ne nf nch e n, free p.1 p.2 nch e n, ne, nf, d⟩
theorem Inv.un {t' : Nat} (I : Inv X pins σ H s) (u : Un X.fs [] H H' s.heap h') (hok : HOk X.prog X.w H' h') : Inv X pins σ H' { s with heap := h', toks := t' } := by
  obtain ⟨m, ⟨o, es, ep, ho, r⟩, _⟩ := id I.loc
  obtain ⟨sl, hL⟩ := u.any ho I.free (by simp)
  exact I.step (g' := s.gens) (d' := s.drawn) (ch := []) (fun _ z => nomatch z) (fun b o _ hb _ e n => u.keep b o e n hb (by simp)) (fun b o _ hb _ e n => u.slot b o e n hb (by simp)) (fun b o _ e n => u.free b o e n (by simp)) (fun b o _ e => u.there b o e (by simp)) u.tups u.frzs u.tbls (fun m' hm => by
    obtain ⟨o', es', ep', ho', r'⟩ := hm
    rw [ho] at ho'; cases ho'
    exact ⟨_, es', ep', hL, r'⟩) hok I.bare
theorem Inv.call {g' : Array GenState} {t' : Nat} {d' : Drawn} {ch : List Addr} (I : Inv X pins σ H s) (u : Un (frs X.stack) ch H H' s.heap h') (hok : HOk X.prog X.w H' h') (hg : AllBare g')
    (hch : ∀ b ∈ ch, (b ∈ X.ex ∨ X.s₀.heap.objs.size ≤ b) ∧ b ≠ X.env.locals ∧ (∀ x c, X.env.cells.lookup x = some c → c ≠ b) ∧ ∀ p ∈ X.pn ++ pins, p.1 ≠ b) :
    Inv X pins σ H' { s with heap := h', gens := g', drawn := d', toks := t' } := by
  obtain ⟨m, ⟨o, es, ep, ho, r⟩, _⟩ := id I.loc
  obtain ⟨sl, hL⟩ := u.any ho I.free fun z => (hch _ z).2.1 rfl
  exact I.step (ch := ch) hch (fun b o hL hb hc e n => u.keep b o e n (fun z => (List.mem_cons.mp (I.stkSub b z)).elim hL hb) hc) (fun b o _ _ hc e n => u.any e n hc) (fun b o hc e n => u.free b o e n hc) (fun b o hc e => u.there b o e hc) u.tups u.frzs u.tbls (fun m' hm => by
    obtain ⟨o', es', ep', ho', r'⟩ := hm
    rw [ho] at ho'; cases ho'
    exact ⟨_, es', ep', hL, r'⟩) hok hg
theorem Inv.turned {t' : Nat} {it : Addr} (I : Inv X pins σ H s) (k : ∀ b o, b ≠ it → s.heap.get? b = some o → h'.get? b = some o) (hn : H it = none) (hL : it ≠ X.env.locals)
    (h1 : it ∈ X.ex ∨ X.s₀.heap.objs.size ≤ it) (h2 : ∀ x c, X.env.cells.lookup x = some c → c ≠ it) (h3 : ∀ p ∈ X.pn ++ pins, p.1 ≠ it) : Inv X pins σ H { s with heap := h', toks := t' } := by
  have nit : ∀ b u, H b = some u → b ≠ it := fun b u e z => by rw [z, hn] at e; cases e
  refine I.step (g' := s.gens) (d' := s.drawn) (ch := [it]) (fun b hb => ?_) (fun b o _ _ hc e _ => k b o (fun z => hc (by simp [z])) e) (fun b o _ _ hc e _ => ⟨o.slots, k b o (fun z => hc (by simp [z])) e⟩) (fun _ _ _ _ n => n)
    (fun b o hc e => ⟨o, k b o (fun z => hc (by simp [z])) e⟩) (fun _ _ e => e) (fun _ _ _ e => e) (fun b ps e => ⟨#[], by rw [e]; simp⟩) (fun m hm => ?_) (fun b u e => ?_) I.bare
  · have e : b = it := by simpa using hb
    subst e
    exact ⟨h1, hL, h2, h3⟩
  · obtain ⟨o, es, ep, ho, r⟩ := hm
    exact ⟨o, es, ep, k _ o (Ne.symm hL) ho, r⟩
  · refine (I.hok b u e).stay (fun c v hc q => k c v ?_ q) (fun _ q => q) fun _ _ q => q
    rcases hc with z | z
    · rw [z]; exact nit b u e
    · exact nit c _ z
theorem Inv.tok (I : Inv X pins σ H s) (t : Nat) : Inv X pins σ H { s with toks := t } := I.un (h' := s.heap) (t' := t) Un.refl I.hok
theorem Inv.kept {t' : Nat} (I : Inv X pins σ H s) (k : ∀ b u, s.heap.get? b = some u → h'.get? b = some u) : Inv X pins σ H { s with heap := h', toks := t' } := I.un (Un.kept k) (I.hok.kept k)
theorem Inv.laid {a : Addr} {o : HO} {t' : Nat} (I : Inv X pins σ H s) (k : ∀ b u, s.heap.get? b = some u → h'.get? b = some u) (hp : s.heap.objs.size ≤ a) (new : ObjOk X.prog X.w (upd H a o) h' a o) :
    Inv X pins σ (upd H a o) { s with heap := h', toks := t' } := I.un (Un.laid k hp (I.hok.fresh hp)) (I.hok.laid k hp new)
theorem Inv.write {x e : Addr} {o : HO} {t' : Nat} (I : Inv X pins σ H s) (mu : Mut (H x)) (he : e = x ∨ H e = some (.own x)) (k : ∀ b u, b ≠ e → s.heap.get? b = some u → h'.get? b = some u) (heo : ∃ u, h'.get? e = some u)
    (new : ObjOk X.prog X.w (upd H x o) h' x o) : Inv X pins σ (upd H x o) { s with heap := h', toks := t' } := I.un (Un.write mu he k heo) (I.hok.write mu he k heo new)
theorem Inv.pins_of {pins' : List (Addr × Obj)} (I : Inv X pins σ H s) (h : ∀ p ∈ pins', s.heap.get? p.1 = some p.2 ∧ H p.1 = none ∧ p.1 ≠ X.env.locals ∧ p.1 ∉ X.fs ∧ ∀ v, p.2.data ≠ .cell v) : Inv X pins' σ H s :=
  ⟨I.ok, I.os, I.bare, I.base, I.loc, I.cell, I.free, I.freeC, fun p hp => (List.mem_append.mp hp).elim (fun z => I.pin p (List.mem_append_left _ z)) (h p), I.hok, I.len⟩
theorem nodup_ix {N : List Str} (hN : N.Nodup) {i j : Nat} {x : Str} (a : N[i]? = some x) (b : N[j]? = some x) : i = j := by
  obtain ⟨h1, e1⟩ := List.getElem?_eq_some_iff.mp a
  obtain ⟨h2, e2⟩ := List.getElem?_eq_some_iff.mp b
  exact (List.getElem_inj hN).mp (e1.trans e2.symm)
theorem store_ok2 {M : Model} {A : Around} {E : Value → Shared → Prop} {i : Nat} {x : Str} {v : V} {u : Value} {Q : Unit → Shared → Prop} (I : Inv X pins σ H s) (hN : X.N.Nodup) (hi : X.N[i]? = some x) (hx : Loc X.env.scope x) (r : RelV v u)
    (h : ∀ s', Inv X pins (σ.set i (some v)) H s' → (∃ a, Heap.SameBut a s.heap s'.heap ∧ (a = X.env.locals ∨ X.env.cells.lookup x = some a)) → Q () s') (hf : X.fn x = true ∨ X.env.scope.names.lookup x = some .local := by first | exact .inl rfl | exact .inr rfl | assumption) : wpAny M A (storeName X.env x u) Q E s := by
  obtain ⟨m, hn, hl⟩ := id I.loc
  have hcls : (X.env.scope.kind == .class || (X.env.scope.kind == .module && X.env.locals != X.env.globals)) = false := by rw [I.ok.kind]; rfl
  have hiσ : i < σ.length := by rw [I.len]; exact (List.getElem?_eq_some_iff.mp hi).1
  have cne := I.cne
  have tracked : ∀ {a : Addr} {h' : Heap}, (∃ o, s.heap.get? a = some o ∧ H a = none) → Heap.SameBut a s.heap h' → HOk X.prog X.w H h' := fun {a h'} ha hs b ob e => by
    obtain ⟨_, _, hfree⟩ := ha
    refine (I.hok b ob e).stay (fun c w' hc q => (hs.2 c ?_).trans q) (fun _ q => q) fun _ _ q => q
    rintro rfl
    rcases hc with rfl | hc
    · rw [hfree] at e; cases e
    · rw [hfree] at hc; cases hc
  rcases hx with hk | hk
  · refine wpAny_storeName_local hk hn (fun h' hn' hs => ?_) hcls
    obtain ⟨oL, _, _, hoL, _⟩ := id hn
    refine h _ ⟨I.ok, I.os, I.bare, ⟨fun b o e n hb hx => ?_, fun b o e n hb hx => ?_, I.base.free, fun b o e hx => ?_, I.base.tups, I.base.frzs, I.base.tbls⟩, ⟨_, hn', fun j y v' e1 e2 e3 => ?_⟩, fun y c e => ?_, I.free, I.freeC, fun p hp => ?_, tracked ⟨oL, hoL, I.free⟩ hs, by simpa using I.len⟩ ⟨_, hs, .inl rfl⟩
    · exact (hs.2 b (Nat.ne_of_lt (Nat.lt_of_lt_of_le (Heap.lt_size e) I.ok.above))).trans (I.base.keep b o e n hb hx)
    · obtain ⟨sl, e1⟩ := I.base.slot b o e n hb hx
      exact ⟨sl, (hs.2 b (Nat.ne_of_lt (Nat.lt_of_lt_of_le (Heap.lt_size e) I.ok.above))).trans e1⟩
    · obtain ⟨o', e1⟩ := I.base.there b o e hx
      exact ⟨o', (hs.2 b (Nat.ne_of_lt (Nat.lt_of_lt_of_le (Heap.lt_size e) I.ok.above))).trans e1⟩
    · by_cases hj : j = i
      · subst hj
        rw [hi] at e1; cases e1
        rw [List.getElem?_set_self hiσ] at e2
        cases e2
        exact ⟨u, r, .inl ⟨hk, by simp⟩⟩
      · rw [List.getElem?_set_ne (Ne.symm hj)] at e2
        obtain ⟨u', r', q⟩ := hl j y v' e1 e2 e3
        refine ⟨u', r', ?_⟩
        rcases q with ⟨k, e⟩ | ⟨k, c, e, z⟩
        · refine .inl ⟨k, ?_⟩
          have : y ≠ x := fun e => hj (nodup_ix hN e1 (e ▸ hi))
          simp [this, e]
        · exact .inr ⟨k, c, e, z.sameBut hs (cne y c e)⟩
    · obtain ⟨w', z⟩ := I.cell y c e
      exact ⟨w', z.sameBut hs (cne y c e)⟩
    · obtain ⟨e, n, ne, nf, d⟩ := I.pin p hp
      exact ⟨(hs.2 p.1 ne).trans e, n, ne, nf, d⟩
  · have hfn : X.fn x = true := by
      rcases hf with z | z
      · exact z
      · rw [z] at hk; cases hk
    obtain ⟨c, hc⟩ := I.ok.has x (.inl hk)
    obtain ⟨w', z⟩ := I.cell x c hc
    refine wpAny_storeName_cell I.ok.kind hk hc z (fun h' hc' hs => ?_)
    obtain ⟨oc, hoc, hocd⟩ := id z
    refine h { s with heap := h' } ⟨I.ok, I.os, I.bare, ⟨fun b o e n hb hx => ?_, fun b o e n hb hx => ?_, I.base.free, fun b o e hx => ?_, I.base.tups, I.base.frzs, I.base.tbls⟩, ⟨m, hn.sameBut hs (Ne.symm (cne x c hc)), fun j y v' e1 e2 e3 => ?_⟩, fun y c' e => ?_, I.free, I.freeC, fun p hp => ?_, tracked ⟨oc, hoc, I.freeC x c hc⟩ hs, by simpa using I.len⟩ ⟨c, hs, .inr hc⟩
    · exact (hs.2 b (Nat.ne_of_lt (Nat.lt_of_lt_of_le (Heap.lt_size e) (I.ok.cab x c hfn hc)))).trans (I.base.keep b o e n hb hx)
    · obtain ⟨sl, e1⟩ := I.base.slot b o e n hb hx
      exact ⟨sl, (hs.2 b (Nat.ne_of_lt (Nat.lt_of_lt_of_le (Heap.lt_size e) (I.ok.cab x c hfn hc)))).trans e1⟩
    · obtain ⟨o', e1⟩ := I.base.there b o e hx
      exact ⟨o', (hs.2 b (Nat.ne_of_lt (Nat.lt_of_lt_of_le (Heap.lt_size e) (I.ok.cab x c hfn hc)))).trans e1⟩
    · by_cases hj : j = i
      · subst hj
        rw [hi] at e1; cases e1
        rw [List.getElem?_set_self hiσ] at e2
        cases e2
        exact ⟨u, r, .inr ⟨.inl hk, c, hc, hc'⟩⟩
      · rw [List.getElem?_set_ne (Ne.symm hj)] at e2
        obtain ⟨u', r', q⟩ := hl j y v' e1 e2 e3
        refine ⟨u', r', ?_⟩
        rcases q with q | ⟨k, c', e, z'⟩
        · exact .inl q
        · refine .inr ⟨k, c', e, z'.sameBut hs ?_⟩
          rintro rfl
          exact hj (nodup_ix hN e1 (I.ok.inj _ _ _ e hc ▸ hi))
    · by_cases hcc : c' = c
      · subst hcc; exact ⟨_, hc'⟩
      · obtain ⟨w2, z2⟩ := I.cell y c' e
        exact ⟨w2, z2.sameBut hs hcc⟩
    · obtain ⟨e, n, ne, nf, d⟩ := I.pin p hp
      refine ⟨(hs.2 p.1 ?_).trans e, n, ne, nf, d⟩
      intro q
      rw [q, hoc] at e
      have q' : oc = p.2 := Option.some.inj e
      exact d w' (by rw [← q']; exact hocd)
theorem store_ok {M : Model} {A : Around} {E : Value → Shared → Prop} {i : Nat} {x : Str} {v : V} {u : Value} {Q : Unit → Shared → Prop} (I : Inv X pins σ H s) (hN : X.N.Nodup) (hi : X.N[i]? = some x) (hx : Loc X.env.scope x) (r : RelV v u)
    (h : ∀ s', Inv X pins (σ.set i (some v)) H s' → Q () s') (hf : X.fn x = true ∨ X.env.scope.names.lookup x = some .local := by first | exact .inl rfl | exact .inr rfl | assumption) : wpAny M A (storeName X.env x u) Q E s :=
  store_ok2 I hN hi hx r (fun s' I' _ => h s' I') hf
theorem Inv.call' {s' : Shared} {ch : List Addr} (I : Inv X pins σ H s) (ho : s'.os = s.os) (u : Un (frs X.stack) ch H H' s.heap s'.heap) (hok : HOk X.prog X.w H' s'.heap) (hg : AllBare s'.gens)
    (hch : ∀ b ∈ ch, (b ∈ X.ex ∨ X.s₀.heap.objs.size ≤ b) ∧ b ≠ X.env.locals ∧ (∀ x c, X.env.cells.lookup x = some c → c ≠ b) ∧ ∀ p ∈ X.pn ++ pins, p.1 ≠ b) : Inv X pins σ H' s' := by
  obtain ⟨h', g', d', t', o'⟩ := s'
  have e : o' = s.os := ho
  subst e
  exact I.call (g' := g') (t' := t') (d' := d') u hok hg hch
end
abbrev XK := Value → Option Addr → Hp → Prop
abbrev St := List (Option V)
abbrev VK := V → Hp → Prop
abbrev TE := St → Hp → VK → Prop
abbrev TT := St → Hp → (Bool → Hp → Prop) → Prop
abbrev TA := St → Hp → (List V → Hp → Prop) → Prop
structure Ends where
  nx : St → Hp → Prop
  rt : VK
  bk : St → Hp → Prop := fun _ _ => False
  ct : St → Hp → Prop := fun _ _ => False
abbrev TS := Ends → St → Hp → Prop
def EP (X : Cx) (pins : List (Addr × Obj)) (σ : St) (Q : VK) (u : Value) (s' : Shared) : Prop := ∃ v H', Inv X pins σ H' s' ∧ RelV v u ∧ Q v H'
def TP (X : Cx) (pins : List (Addr × Obj)) (σ : St) (Q : Bool → Hp → Prop) (b : Bool) (s' : Shared) : Prop := ∃ H', Inv X pins σ H' s' ∧ Q b H'
def AP (X : Cx) (pins : List (Addr × Obj)) (σ : St) (Q : List V → Hp → Prop) (us : List Value) (s' : Shared) : Prop := ∃ vs H', Inv X pins σ H' s' ∧ Vals vs us ∧ Q vs H'
def SP (X : Cx) (pins : List (Addr × Obj)) (D : Ends) (f : Flow) (s' : Shared) : Prop :=
  match f with
  | .next => ∃ σ' H', Inv X pins σ' H' s' ∧ D.nx σ' H'
  | .brk => ∃ σ' H', Inv X pins σ' H' s' ∧ D.bk σ' H'
  | .cont => ∃ σ' H', Inv X pins σ' H' s' ∧ D.ct σ' H'
  | .ret u => ∃ v σ' H', Inv X pins σ' H' s' ∧ RelV v u ∧ D.rt v H'
def PE (X : Cx) (e : Expr) (t : TE) : Prop :=
  ∀ (pins : List (Addr × Obj)) (s : Shared) (σ : St) (H : Hp) (Q : VK), Inv X pins σ H s → t σ H Q → wpAny (model X.prog X.w) X.A (eval e X.env) (EP X pins σ Q) X.xe s
def PT (X : Cx) (e : Expr) (t : TT) : Prop :=
  ∀ (pins : List (Addr × Obj)) (s : Shared) (σ : St) (H : Hp) (Q : Bool → Hp → Prop), Inv X pins σ H s → t σ H Q → wpAny (model X.prog X.w) X.A (isTrue e X.env (eval e X.env)) (TP X pins σ Q) X.xe s
def PW (X : Cx) (e : Expr) (t : TT) : Prop :=
  ∀ (whole : Sem Value) (pins : List (Addr × Obj)) (s : Shared) (σ : St) (H : Hp) (Q : Bool → Hp → Prop), Inv X pins σ H s → t σ H Q → wpAny (model X.prog X.w) X.A (isTrue e X.env whole) (TP X pins σ Q) X.xe s
theorem PW.pt {X : Cx} {e : Expr} {t : TT} (h : PW X e t) : PT X e t := h _
def PA (X : Cx) (es : List Expr) (t : TA) : Prop :=
  ∀ (pos : Pos) (pins : List (Addr × Obj)) (s : Shared) (σ : St) (H : Hp) (Q : List V → Hp → Prop), Inv X pins σ H s → t σ H Q → wpAny (model X.prog X.w) X.A (spliced (backTo pos (starEach es X.env))) (AP X pins σ Q) X.xe s
def PS (X : Cx) (st : Stmt) (t : TS) : Prop :=
  ∀ (pins : List (Addr × Obj)) (s : Shared) (σ : St) (H : Hp) (D : Ends), Inv X pins σ H s → t D σ H → wpAny (model X.prog X.w) X.A (exec st X.env) (SP X pins D) X.xe s
def PSs (X : Cx) (st : List Stmt) (t : TS) : Prop :=
  ∀ (pins : List (Addr × Obj)) (s : Shared) (σ : St) (H : Hp) (D : Ends), Inv X pins σ H s → t D σ H → wpAny (model X.prog X.w) X.A (execs st X.env) (SP X pins D) X.xe s
theorem thn {α : Type} {t : Sem α} {Q Q' : α → Shared → Prop} {M : Model} {A : Around} {E : Value → Shared → Prop} {s : Shared} (h : wpAny M A t Q E s) (hQ : ∀ a s, Q a s → Q' a s) : wpAny M A t Q' E s := wpAny_mono h hQ fun _ _ x => x
end L2
namespace L2
open PySem PySem.Spec PyProof.Rows
section
variable {X : Cx}
def tVar (i : Nat) : TE := fun σ H Q => ∃ v, σ[i]? = some (some v) ∧ Q v H
def tC (v : V) : TE := fun _ H Q => Q v H
theorem pe_var {i : Nat} {x : Str} {pos : Pos} (hN : X.N[i]? = some x) (hv : Vis X.env.scope x) (hd : (x == ("__debug__" : Str)) = false := by decide) (hcd : (x == ("__classdict__" : Str)) = false := by decide) : PE X (.Name x pos) (tVar i) := by
  intro pins s σ H Q I h
  obtain ⟨v, e, h⟩ := h
  obtain ⟨m, hn, hl⟩ := I.loc
  obtain ⟨u, r, l⟩ := hl i x v hN e hv
  have fin : EP X pins σ Q u s := ⟨v, H, I, r, h⟩
  rcases l with ⟨hk, hm⟩ | ⟨hk, c, hc, hcell⟩
  · exact wpAny_Name (wpAny_loadName_local I.ok.kind hk hn hm fin) hd
  · rcases hk with hk | hk
    · exact wpAny_Name (wpAny_loadName_cell I.ok.kind hk hc hcell fin) hd
    · exact wpAny_Name (wpAny_loadName_free I.ok.kind hk hc hcell fin hcd) hd
theorem pe_int {i j pos} : PE X (.Constant (.int i) j pos) (tC (.int i)) := fun _ _ _ H _ I h => wpAny_Constant_int ⟨.int i, H, I.tok _, ⟨_, rfl⟩, h⟩
theorem pe_bl {b j pos} : PE X (.Constant (.bool b) j pos) (tC (.bl b)) := fun _ _ _ H _ I h => Constant_bool ⟨.bl b, H, I, rfl, h⟩
def Gl (X : Cx) (x : Str) : Prop := X.env.kindOf x = some .globalImplicit
theorem ld_glob {E : Value → Shared → Prop} {pins : List (Addr × Obj)} {s : Shared} {σ : St} {H : Hp} {x : Str} {u : Value} {pos : Pos} {Q : Value → Shared → Prop} (I : Inv X pins σ H s) (hg : Gl X x) (hm : X.mg x = some u) (h : Q u s)
    (hd : (x == ("__debug__" : Str)) = false := by decide) : wpAny (model X.prog X.w) X.A (eval (.Name x pos) X.env) Q E s :=
  Calls.Name_function_global I.ok.kind hg (Calls.loadGlobal_global (by rw [I.ok.glob]; exact I.mod.glob.keeps I.bk) hm h) hd
theorem ld_blt {E : Value → Shared → Prop} {pins : List (Addr × Obj)} {s : Shared} {σ : St} {H : Hp} {x : Str} {u : Value} {pos : Pos} {Q : Value → Shared → Prop} (I : Inv X pins σ H s) (hg : Gl X x) (hm : X.mg x = none) (hv : bootBuiltins x = some u) (h : Q u s)
    (hn : x ≠ "__name__" := by decide) (hd : (x == ("__debug__" : Str)) = false := by decide) : wpAny (model X.prog X.w) X.A (eval (.Name x pos) X.env) Q E s := by
  obtain ⟨mb, h1, h2⟩ := I.mod.blt
  exact Calls.Name_function_global I.ok.kind hg (Calls.loadGlobal_builtin (by rw [I.ok.glob]; exact I.mod.glob.keeps I.bk) hm (by rw [I.ok.blt]; exact h1.keeps I.bk) ((h2 x hn).trans hv) h) hd
theorem pe_glob {x : Str} {v : V} {u : Value} {pos : Pos} (hg : Gl X x) (hm : X.mg x = some u) (r : RelV v u) (hd : (x == ("__debug__" : Str)) = false := by decide) : PE X (.Name x pos) (tC v) :=
  fun _ _ _ H _ I h => ld_glob I hg hm ⟨v, H, I, r, h⟩ hd
theorem pe_bltn {x : Str} {v : V} {u : Value} {pos : Pos} (hg : Gl X x) (hm : X.mg x = none) (hv : bootBuiltins x = some u) (r : RelV v u) (hn : x ≠ "__name__" := by decide) (hd : (x == ("__debug__" : Str)) = false := by decide) : PE X (.Name x pos) (tC v) :=
  fun _ _ _ H _ I h => ld_blt I hg hm hv ⟨v, H, I, r, h⟩ hn hd
variable {a b : Expr} {ta tb : TE} {pos : Pos}
def tB (t : TE) : TT := fun σ H Q => t σ H fun x H1 => ∃ c, x = .bl c ∧ Q c H1
theorem pt_val {e : Expr} {t : TE} (h : PE X e t) (he : ∀ whole, isTrue e X.env whole = (do let v ← whole; standAt e.pos; holding [v] (truthy v)) := by intro _; rfl) : PT X e (tB t) := by
  intro pins s σ H Q I hw
  refine isTrue_plain (thn (h pins s σ H _ I hw) fun v s1 ⟨x, H1, I1, r1, q1⟩ => ?_) (he _)
  obtain ⟨d, rfl, q⟩ := q1
  cases r1
  exact wpAny_truthy_bool ⟨H1, I1, q⟩
variable {tA tB' : TT} {rest : List Expr}
def tOr (t u : TT) : TT := fun σ H Q => t σ H fun c H1 => if c = true then Q true H1 else u σ H1 Q
def tNot (t : TT) : TT := fun σ H Q => t σ H fun c H1 => Q (!c) H1
theorem pw_or1 (ha : PT X a tA) : PW X (.BoolOp .Or [a] pos) tA := by
  intro wh pins s σ H Q I h
  refine isTrue_or (thn (ha pins s σ H Q I h) fun c s1 e => ?_)
  cases c with
  | false => exact isTrue_or_nil e
  | true => exact e
theorem pw_or (ha : PT X a tA) (hb : PW X (.BoolOp .Or (b :: rest) pos) tB') : PW X (.BoolOp .Or (a :: b :: rest) pos) (tOr tA tB') := by
  intro wh pins s σ H Q I h
  refine isTrue_or (thn (ha pins s σ H _ I h) fun c s1 ⟨H1, I1, q1⟩ => ?_)
  cases c with
  | true => exact ⟨H1, I1, q1⟩
  | false => exact hb wh pins s1 σ H1 Q I1 q1
theorem pt_not (ha : PT X a tA) : PT X (.UnaryOp .Not a pos) (tNot tA) := by
  intro pins s σ H Q I h
  exact isTrue_not (ha pins s σ H (fun c H1 => Q (!c) H1) I h)
def tAndV (ta tb : TE) : TE := fun σ H Q => ta σ H fun x H1 => ∃ c, x = .bl c ∧ if c = true then tb σ H1 Q else Q (.bl false) H1
def tNotV (ta : TE) : TE := fun σ H Q => ta σ H fun x H1 => ∃ c, x = .bl c ∧ Q (.bl (!c)) H1
theorem pe_one {op} {t : TE} (h : PE X a t) : PE X (.BoolOp op [a] pos) t := fun pins s σ H Q I hw => BoolOp_one (h pins s σ H Q I hw)
theorem pe_and (ha : PE X a ta) (hb : PE X (.BoolOp .And (b :: rest) pos) tb) : PE X (.BoolOp .And (a :: b :: rest) pos) (tAndV ta tb) := by
  intro pins s σ H Q I h
  refine BoolOp_and (thn (ha pins s σ H _ I h) fun v s1 ⟨x, H1, I1, r1, q1⟩ => ?_)
  obtain ⟨c, rfl, q1⟩ := q1
  cases r1
  refine wpAny_truthy_bool ?_
  cases c with
  | true => exact hb pins s1 σ H1 Q I1 q1
  | false => exact ⟨.bl false, H1, I1, rfl, q1⟩
theorem pe_not (ha : PE X a ta) : PE X (.UnaryOp .Not a pos) (tNotV ta) := by
  intro pins s σ H Q I h
  refine UnaryOp_ (thn (ha pins s σ H _ I h) fun v s1 ⟨x, H1, I1, r1, q1⟩ => ?_)
  obtain ⟨c, rfl, q1⟩ := q1
  cases r1
  exact not_of (wpAny_truthy_bool ⟨.bl (!c), H1, I1, rfl, q1⟩)
end
end L2
namespace L2
open PySem PySem.Spec PyProof.Rows
def SqL (K : PySem.W.Frag) (H : Hp) (a : Addr) (xs : List V) : Prop :=
  Rd H a (.lst xs) ∨
    ∃ (o : Obj) (its : Array Value) (n : Nat), K.lookup a = some o ∧ o.cls = .type "list" ∧ o.dict = none ∧ o.data = .seq its n ∧ its.size ≤ sizeLine ∧ Vals xs its.toList
def SqT (K : PySem.W.Frag) (H : Hp) (a : Addr) (xs : List V) : Prop :=
  Rd H a (.tup xs) ∨
    ∃ (o : Obj) (its : Array Value) (n : Nat), K.lookup a = some o ∧ o.cls = .type "tuple" ∧ o.dict = none ∧ o.data = .seq its n ∧ its.size ≤ sizeLine ∧ Vals xs its.toList
def absV : Value → Option V
  | .none => some .non
  | .bool b => some (.bl b)
  | .int i _ => some (.int i)
  | .str x _ => some (.str x)
  | .bytes b _ => some (.byt b)
  | .float b _ => some (.flt b)
  | .ref a => some (.ref a)
  | .type n => some (.ty n)
  | _ => none
theorem RelV.abs {x : V} {u : Value} (r : RelV x u) : absV u = some x := by
  cases x with
  | non => cases r; rfl
  | bl _ => cases r; rfl
  | int _ => obtain ⟨t, rfl⟩ := r; rfl
  | str _ => obtain ⟨t, rfl⟩ := r; rfl
  | byt _ => obtain ⟨t, rfl⟩ := r; rfl
  | flt _ => obtain ⟨t, rfl⟩ := r; rfl
  | ref _ => cases r; rfl
  | ty _ => cases r; rfl
theorem RelV.inj {x y : V} {u : Value} (r : RelV x u) (q : RelV y u) : x = y := Option.some.inj (r.abs.symm.trans q.abs)
theorem Vals.inj : ∀ {xs ys : List V} {us : List Value}, Vals xs us → Vals ys us → xs = ys
  | _, _, _, .nil, .nil => rfl
  | _, _, _, .cons r t, .cons r' t' => by rw [r.inj r', Vals.inj t t']
section
variable {X : Cx} {pins : List (Addr × Obj)} {σ : St} {H : Hp} {s : Shared} {a : Addr} {xs ys : List V}
theorem SqL.of {K : PySem.W.Frag} (h : H a = some (.lst xs)) : SqL K H a xs := .inl (.inl h)
theorem SqT.of {K : PySem.W.Frag} (h : H a = some (.tup xs)) : SqT K H a xs := .inl (.inl h)
theorem Inv.list (I : Inv X pins σ H s) (h : SqL X.K H a xs) : ∃ its : List Value, Vals xs its ∧ PlainL s.heap a its.toArray ∧ xs.length ≤ sizeLine := by
  rcases h with h | ⟨o, its, n, hk, hc, hd, hs, hz, r⟩
  · obtain ⟨z, its, n, r, e⟩ := h.ok I.hok
    exact ⟨its, r, ⟨_, n, e, rfl, rfl, rfl⟩, z⟩
  · refine ⟨its.toList, r, ⟨o, n, I.kIn a o hk, hc, hd, by simpa using hs⟩, ?_⟩
    have e := r.length
    simp only [Array.length_toList] at e
    omega
theorem Inv.tuple (I : Inv X pins σ H s) (h : SqT X.K H a xs) : ∃ its : List Value, Vals xs its ∧ IsTup s.heap a its.toArray ∧ xs.length ≤ sizeLine := by
  rcases h with h | ⟨o, its, n, hk, hc, _, hs, hz, r⟩
  · obtain ⟨z, its, r, p⟩ := h.ok I.hok
    exact ⟨its, r, p.tup, z⟩
  · refine ⟨its.toList, r, ⟨o, I.kIn a o hk, hc, n, by simpa using hs⟩, ?_⟩
    have e := r.length
    simp only [Array.length_toList] at e
    omega
theorem Inv.list_inj (I : Inv X pins σ H s) (h : SqL X.K H a xs) (h' : SqL X.K H a ys) : xs = ys := by
  obtain ⟨its, r, ⟨o, n, e, _, _, d⟩, _⟩ := I.list h
  obtain ⟨its', r', ⟨o', n', e', _, _, d'⟩, _⟩ := I.list h'
  rw [e] at e'; cases e'
  rw [d] at d'
  injection d' with d1 _
  have : its = its' := by simpa using congrArg Array.toList d1
  subst this
  exact r.inj r'
theorem Inv.tuple_inj (I : Inv X pins σ H s) (h : SqT X.K H a xs) (h' : SqT X.K H a ys) : xs = ys := by
  obtain ⟨its, r, ⟨o, e, _, n, d⟩, _⟩ := I.tuple h
  obtain ⟨its', r', ⟨o', e', _, n', d'⟩, _⟩ := I.tuple h'
  rw [e] at e'; cases e'
  rw [d] at d'
  injection d' with d1 _
  have : its = its' := by simpa using congrArg Array.toList d1
  subst this
  exact r.inj r'
end
abbrev Cx.wish (X : Cx) (E : Value → Shared → Prop) : Cx := { X with xe := E }
abbrev Cx.nox (X : Cx) : Cx := X.wish fun _ _ => False
theorem Cx.Ok.wish {X : Cx} (ok : X.Ok) (E : Value → Shared → Prop) : (X.wish E).Ok :=
  ⟨ok.mod, ok.kind, ok.glob, ok.blt, ok.above, ok.inj, ok.has, ok.cab, ok.hd, ok.frames, ok.stk, ok.exf, ok.bs, ok.bsz, ok.noex, ok.exfs, ok.funs, ok.frf⟩
theorem Cx.Ok.unwish {X : Cx} {E : Value → Shared → Prop} (ok : (X.wish E).Ok) : X.Ok :=
  ⟨ok.mod, ok.kind, ok.glob, ok.blt, ok.above, ok.inj, ok.has, ok.cab, ok.hd, ok.frames, ok.stk, ok.exf, ok.bs, ok.bsz, ok.noex, ok.exfs, ok.funs, ok.frf⟩
section
variable {X : Cx} {pins : List (Addr × Obj)} {σ : St} {H : Hp} {s : Shared} {E : Value → Shared → Prop}
theorem Inv.wish (I : Inv X pins σ H s) (E : Value → Shared → Prop) : Inv (X.wish E) pins σ H s := ⟨I.ok.wish E, I.os, I.bare, I.base, I.loc, I.cell, I.free, I.freeC, I.pin, I.hok, I.len⟩
theorem Inv.unwish (I : Inv (X.wish E) pins σ H s) : Inv X pins σ H s := ⟨I.ok.unwish, I.os, I.bare, I.base, I.loc, I.cell, I.free, I.freeC, I.pin, I.hok, I.len⟩
theorem SP.unwish {D : Ends} {f : Flow} {s' : Shared} (h : SP (X.wish E) pins D f s') : SP X pins D f s' := by
  cases f with
  | next => obtain ⟨σ', H', I, q⟩ := h; exact ⟨σ', H', I.unwish, q⟩
  | brk => obtain ⟨σ', H', I, q⟩ := h; exact ⟨σ', H', I.unwish, q⟩
  | cont => obtain ⟨σ', H', I, q⟩ := h; exact ⟨σ', H', I.unwish, q⟩
  | ret u => obtain ⟨v, σ', H', I, r, q⟩ := h; exact ⟨v, σ', H', I.unwish, r, q⟩
theorem PSs.nox {st : List Stmt} {t : TS} (h : PSs X.nox st t) : PSs X st t := fun pins s σ H D I hw =>
  wpAny_mono (h pins s σ H D (I.wish _) hw) (fun _ _ q => q.unwish) fun _ _ z => False.elim z
end
section
variable {X : Cx} {st : Stmt} {rest : List Stmt} {t u : TS} {e : Expr} {te : TE} {pos : Pos}
def tNext : TS := fun D σ H => D.nx σ H
def tSeq (t u : TS) : TS := fun D σ H => t { D with nx := u D } σ H
theorem pss_nil : PSs X [] tNext := fun _ _ σ H _ I h => wpAny_execs_nil ⟨σ, H, I, h⟩
theorem pss_cons (h1 : PS X st t) (h2 : PSs X rest u) : PSs X (st :: rest) (tSeq t u) := by
  intro pins s σ H D I h
  refine wpAny_execs_cons (thn (h1 pins s σ H { D with nx := u D } I h) fun f s1 q => ?_)
  cases f with
  | next =>
    obtain ⟨σ', H', I', q⟩ := q
    exact h2 pins s1 σ' H' D I' q
  | ret v => exact q
  | brk => exact q
  | cont => exact q
theorem Inv.quiet {pins : List (Addr × Obj)} {σ : St} {H : Hp} {s : Shared} (I : Inv X pins σ H s) : interactive X.env = false := by simp [interactive, I.ok.kind]
def tDrop (te : TE) : TS := fun D σ H => te σ H fun _ H1 => D.nx σ H1
theorem ps_expr (he : PE X e te) (hs : swapsWith e none pos.line X.env = pure false := by rfl) : PS X (.Expr e pos) (tDrop te) := by
  intro pins s σ H D I h
  exact wpAny_Expr_any (thn (he pins s σ H _ I h) fun v s1 ⟨x, H1, I1, r1, q1⟩ => ⟨σ, H1, I1, q1⟩) I.quiet hs
def tRet (te : TE) : TS := fun D σ H => te σ H D.rt
theorem ps_ret (he : PE X e te) : PS X (.Return (some e) pos) (tRet te) := by
  intro pins s σ H D I h
  exact wpAny_Return_some (thn (he pins s σ H _ I h) fun v s1 ⟨x, H1, I1, r1, q1⟩ => ⟨x, σ, H1, I1, r1, q1⟩)
def tIfS (c : TT) (t u : TS) : TS := fun D σ H => c σ H fun b H1 => if b = true then t D σ H1 else u D σ H1
theorem ps_if {c : Expr} {a b : List Stmt} {tc : TT} (hc : PT X c tc) (ha : PSs X a t) (hb : PSs X b u) : PS X (.If c a b pos) (tIfS tc t u) := by
  intro pins s σ H D I h
  refine wpAny_If (thn (hc pins s σ H _ I h) fun d s1 ⟨H1, I1, q1⟩ => ?_)
  cases d with
  | true => exact ha pins s1 σ H1 D I1 q1
  | false => exact hb pins s1 σ H1 D I1 q1
def tNever : TS := fun _ _ _ => False
theorem ps_never : PS X st tNever := fun _ _ _ _ _ _ h => h.elim
end
abbrev TG := V → St → Hp → (St → Hp → Prop) → Prop
abbrev TGs := List V → St → Hp → (St → Hp → Prop) → Prop
def PG (X : Cx) (target : Expr) (t : TG) : Prop :=
  ∀ (pins : List (Addr × Obj)) (s : Shared) (σ : St) (H : Hp) (v : V) (u : Value) (Q : St → Hp → Prop), Inv X pins σ H s → RelV v u → t v σ H Q →
    wpAny (model X.prog X.w) X.A (assign target X.env u) (fun _ s' => ∃ σ' H', Inv X pins σ' H' s' ∧ Q σ' H') X.xe s
def PGs (X : Cx) (ts : List Expr) (t : TGs) : Prop :=
  ∀ (pins : List (Addr × Obj)) (s : Shared) (σ : St) (H : Hp) (vs : List V) (us : List Value) (Q : St → Hp → Prop), Inv X pins σ H s → Vals vs us → t vs σ H Q →
    wpAny (model X.prog X.w) X.A (assignInOrder ((assignEach ts X.env).map (·.2)) us) (fun _ s' => ∃ σ' H', Inv X pins σ' H' s' ∧ Q σ' H') X.xe s
abbrev TSet := V → V → V → Hp → (Hp → Prop) → Prop
def PSet (X : Cx) (t : TSet) : Prop :=
  ∀ (pins : List (Addr × Obj)) (s : Shared) (σ : St) (H : Hp) (o i v : V) (ov iv u : Value) (Q : Hp → Prop), Inv X pins σ H s → RelV o ov → RelV i iv → RelV v u → t o i v H Q →
    wpAny (model X.prog X.w) X.A (setItem ov iv u) (fun _ s' => ∃ H', Inv X pins σ H' s' ∧ Q H') X.xe s
section
variable {X : Cx} {pos : Pos}
def gName (i : Nat) : TG := fun v σ H Q => Q (σ.set i (some v)) H
theorem pg_name {i : Nat} {x : Str} (hN : X.N.Nodup) (hi : X.N[i]? = some x) (hx : Loc X.env.scope x) (hf : X.fn x = true ∨ X.env.scope.names.lookup x = some .local := by first | exact .inl rfl | exact .inr rfl | assumption) : PG X (.Name x pos) (gName i) := by
  intro pins s σ H v u Q I r h
  exact wpAny_assign_Name (store_ok I hN hi hx r (fun s' I' => ⟨_, H, I', h⟩) hf)
def gNil : TGs := fun vs σ H Q => vs = [] ∧ Q σ H
def gCons (t : TG) (u : TGs) : TGs := fun vs σ H Q => ∃ v r, vs = v :: r ∧ t v σ H fun σ' H' => u r σ' H' Q
theorem pgs_nil : PGs X [] gNil := by
  intro pins s σ H vs us Q I r h
  obtain ⟨e, h⟩ := h
  subst e
  cases r
  exact assignInOrder_nil ⟨σ, H, I, h⟩
theorem pgs_cons {e : Expr} {es : List Expr} {t : TG} {u : TGs} (h1 : PG X e t) (h2 : PGs X es u)
    (hs : (assignEach (e :: es) X.env).map (·.2) = assign e X.env :: (assignEach es X.env).map (·.2) := by rfl) : PGs X (e :: es) (gCons t u) := by
  intro pins s σ H vs us Q I r h
  obtain ⟨v, vr, e1, h⟩ := h
  subst e1
  cases r with
  | cons r rr =>
    rw [hs]
    refine assignInOrder_cons (thn (h1 pins s σ H _ _ _ I r h) fun _ s1 ⟨σ1, H1, I1, q1⟩ => ?_)
    exact h2 pins s1 σ1 H1 _ _ Q I1 rr q1
def gTup (K : PySem.W.Frag) (n : Nat) (t : TGs) : TG := fun v σ H Q => ∃ a xs, v = .ref a ∧ SqT K H a xs ∧ xs.length = n ∧ t xs σ H Q
theorem pg_tup {es : List Expr} {k : Nat} {t : TGs} {n : Nat} (hc : X.calm = true) (h : PGs X es t)
    (hn : (assignEach es X.env).length = n := by rfl) (hst : (assignEach es X.env).findIdx? (·.1) = none := by rfl) : PG X (.Tuple es k pos) (gTup X.K n t) := by
  intro pins s σ H v u Q I r hw
  obtain ⟨a, xs, e1, hq, hl, hw⟩ := hw
  subst e1
  cases r
  obtain ⟨its, rv, ht, hz⟩ := I.tuple hq
  refine assign_Tuple_tuple (I.ok.hd hc) ht (by simp [hn, ← hl, rv.length]) hst fun h' hx => ?_
  have I1 : Inv X pins σ H { s with heap := h' } := I.kept (t' := s.toks) fun b o e => hx b o (Nat.ne_of_lt (Heap.lt_size e)) e
  exact h pins _ σ H xs _ Q I1 (by simpa using rv) hw
def gSub (to ti : TE) (t : TSet) : TG := fun v σ H Q => to σ H fun o H1 => ti σ H1 fun i H2 => t o i v H2 fun H3 => Q σ H3
theorem pg_sub {o i : Expr} {to ti : TE} {t : TSet} (ho : PE X o to) (hi : PE X i ti) (hs : PSet X t)
    (ha : ∀ v, assign (.Subscript o i pos) X.env v = (do
      let ov ← holding [v] (eval o X.env)
      let iv ← holding [v, ov] (eval i X.env)
      standAt pos
      holding [v, ov, iv] (setItem ov iv v)
      release [v, ov, iv] []) := by intro _; rfl) : PG X (.Subscript o i pos) (gSub to ti t) := by
  intro pins s σ H v u Q I r h
  rw [ha]
  refine wpAny_bind (wpAny_holding (thn (ho pins s σ H _ I h) fun ov s1 ⟨x, H1, I1, r1, q1⟩ => ?_))
  refine wpAny_bind (wpAny_holding (thn (hi pins s1 σ H1 _ I1 q1) fun iv s2 ⟨y, H2, I2, r2, q2⟩ => ?_))
  refine wpAny_bind (wpAny_standAt (wpAny_bind (wpAny_holding (thn (hs pins s2 σ H2 x y v ov iv u _ I2 r1 r2 r q2) fun _ s3 ⟨H3, I3, q3⟩ => ?_))))
  exact wpAny_release ⟨σ, H3, I3, q3⟩
def tAsg (te : TE) (g : TG) : TS := fun D σ H => te σ H fun x H1 => g x σ H1 D.nx
theorem ps_asg {tg e : Expr} {te : TE} {g : TG} (he : PE X e te) (hg : PG X tg g) (hs : swapsWithSole [tg] e pos.line X.env = pure false := by rfl) (hw : swappedStores [tg] e X.env = pure none := by rfl)
    (h1 : (assignEach [tg] X.env).map (·.2) = [assign tg X.env] := by rfl) : PS X (.Assign [tg] e pos) (tAsg te g) := by
  intro pins s σ H D I h
  refine wpAny_Assign_stores (thn (he pins s σ H _ I h) fun v s1 ⟨x, H1, I1, r1, q1⟩ => ?_) hs hw
  rw [h1]
  exact thn (hg pins s1 σ H1 x v _ I1 r1 q1) fun _ s2 q => q
theorem ps_set {i : Nat} {x : Str} {e : Expr} {te : TE} {pos' : Pos} (hN : X.N.Nodup) (hi : X.N[i]? = some x) (hx : Loc X.env.scope x) (he : PE X e te) (hs : swapsWith e (some (.Name x pos')) pos.line X.env = pure false := by rfl) (hf : X.fn x = true ∨ X.env.scope.names.lookup x = some .local := by first | exact .inl rfl | exact .inr rfl | assumption) :
    PS X (.Assign [.Name x pos'] e pos) (tAsg te (gName i)) := by
  intro pins s σ H D I h
  refine wpAny_Assign_Name (thn (he pins s σ H _ I h) fun v s1 ⟨y, H1, I1, r1, q1⟩ => ?_) hs
  exact store_ok I1 hN hi hx r1 (fun s2 I2 => ⟨_, H1, I2, q1⟩) hf
end
section
variable {X : Cx} {pos : Pos}
def tWhile (c : TT) (tb : TS) : TS := fun D σ H => ∃ W : Nat → St → Hp → Prop, (∃ m, W m σ H) ∧ ∀ m σ H, W m σ H →
  c σ H fun b H1 => if b = true then ∃ N : St → Hp → Prop, (∀ σ' H', N σ' H' → ∃ m', m' < m ∧ W m' σ' H') ∧ tb { D with nx := N, ct := N, bk := D.nx } σ H1 else D.nx σ H1
theorem ps_while {c : Expr} {body : List Stmt} {tc : TT} {tb : TS} (hp : PassesOwn (model X.prog X.w) X.A X.env X.xe) (hc : PT X c tc) (hb : PSs X body tb) : PS X (.While c body [] pos) (tWhile tc tb) := by
  intro pins s σ H D I h
  obtain ⟨W, ⟨m0, w0⟩, turn⟩ := h
  refine wpAny_While (codeAny_whileLoop (fun n s' => ∃ σ' H', Inv X pins σ' H' s' ∧ W n σ' H') ?_ m0 ⟨σ, H, I, w0⟩)
  rintro n s1 ⟨σ1, H1, I1, w1⟩
  refine wpAny_passesOwn hp (thn (hc pins s1 σ1 H1 _ I1 (turn n σ1 H1 w1)) fun b s2 ⟨H2, I2, q2⟩ => ?_)
  cases b with
  | true =>
    obtain ⟨N, hN, q2⟩ := q2
    rw [if_pos rfl]
    refine wpAny_passesOwn hp (thn (hb pins s2 σ1 H2 _ I2 q2) fun f s3 q3 => ?_)
    cases f with
    | next =>
      obtain ⟨σ3, H3, I3, n3⟩ := q3
      obtain ⟨m', hm, w3⟩ := hN σ3 H3 n3
      exact ⟨m', hm, σ3, H3, I3, w3⟩
    | cont =>
      obtain ⟨σ3, H3, I3, n3⟩ := q3
      obtain ⟨m', hm, w3⟩ := hN σ3 H3 n3
      exact ⟨m', hm, σ3, H3, I3, w3⟩
    | brk => exact q3
    | ret v => exact q3
  | false =>
    rw [if_neg Bool.false_ne_true]
    exact wpAny_execs_nil ⟨σ1, H2, I2, q2⟩
end
structure It where
  go : Nat → Hp → Prop
  yld : Nat → Hp → V → Hp → Prop
  stop : Nat → Hp → Prop
def FpOk (X : Cx) (pins : List (Addr × Obj)) (H : Hp) (b : Addr) : Prop :=
  H b = none ∧ b ≠ X.env.locals ∧ b ∉ X.fs ∧ (b ∈ X.ex ∨ X.s₀.heap.objs.size ≤ b) ∧ (∀ x c, X.env.cells.lookup x = some c → c ≠ b) ∧ ∀ p ∈ X.pn ++ pins, p.1 ≠ b
theorem Inv.fpOk {X : Cx} {pins : List (Addr × Obj)} {σ : St} {H H' : Hp} {s : Shared} {b : Addr} (I : Inv X pins σ H s) (hb : s.heap.objs.size ≤ b) (hn : H' b = none) : FpOk X pins H' b := by
  refine ⟨hn, Nat.ne_of_gt (Nat.lt_of_lt_of_le I.lt hb), I.nofs hb, .inr (Nat.le_trans I.sz hb), fun x c e z => ?_, fun p hp z => ?_⟩
  · obtain ⟨v, q⟩ := I.cell x c e
    exact absurd (Nat.lt_of_lt_of_le q.lt (by rw [z]; exact hb)) (Nat.lt_irrefl _)
  · exact absurd (Nat.lt_of_lt_of_le (Heap.lt_size (I.pin p hp).1) (by rw [z]; exact hb)) (Nat.lt_irrefl _)
structure Turn (P : Program) (w : World) (K : PySem.W.Frag) (tg : Expr) (J : It) (fp : List Addr) (it : Addr) (tn : Nat → Heap → Prop) : Prop where
  mem : it ∈ fp
  obj : ∀ i h, tn i h → ∀ b ∈ fp, ∃ o, h.get? b = some o ∧ ∀ v, o.data ≠ .cell v
  keep : ∀ i h h', tn i h → (∀ b ∈ fp, ∀ o, h.get? b = some o → h'.get? b = some o) → tn i h'
  item : ∀ (X : Cx), X.prog = P → X.w = w → X.K = K → X.calm = true → ∀ (i : Nat) (pins : List (Addr × Obj)) (s : Shared) (σ : St) (H : Hp) (E : Value → Shared → Prop), Inv X pins σ H s → (∀ b ∈ fp, FpOk X pins H b) → tn i s.heap → J.go i H →
    wpAny (model P w) X.A (pyNext (.ref it)) (fun r s1 => ∃ u, r = some u ∧
      wpAny (model P w) X.A (letOwnedTupleGo tg (.ref it) u) (fun _ s2 => ∃ x H', Inv X pins σ H' s2 ∧ RelV x u ∧ J.yld i H x H' ∧ tn (i + 1) s2.heap ∧ ∀ b ∈ fp, H' b = none) E s1) E s
  done : ∀ (X : Cx), X.prog = P → X.w = w → X.K = K → X.calm = true → ∀ (i : Nat) (pins : List (Addr × Obj)) (s : Shared) (σ : St) (H : Hp) (E : Value → Shared → Prop), Inv X pins σ H s → (∀ b ∈ fp, FpOk X pins H b) → tn i s.heap → J.stop i H →
    wpAny (model P w) X.A (pyNext (.ref it)) (fun r s1 => r = none ∧ Inv X pins σ H s1) E s
  self : ∀ (A : Around) (i : Nat) (s : Shared) (Q : Value → Shared → Prop) (E : Value → Shared → Prop), tn i s.heap → Q (.ref it) s → wpAny (model P w) A (pyIter (.ref it)) Q E s
abbrev TI := St → Hp → (It → Hp → Prop) → Prop
def PIE (X : Cx) (pins : List (Addr × Obj)) (σ : St) (tg : Expr) (R : It → Hp → Prop) (itv : Value) (s2 : Shared) : Prop :=
  ∃ (it : Addr) (fp : List Addr) (tn : Nat → Heap → Prop) (J : It) (H' : Hp), itv = .ref it ∧ Inv X pins σ H' s2 ∧ Turn X.prog X.w X.K tg J fp it tn ∧ tn 0 s2.heap ∧ (∀ b ∈ fp, FpOk X pins H' b) ∧ R J H'
def PI (X : Cx) (tg iter : Expr) (wi : TI) : Prop :=
  ∀ (pins : List (Addr × Obj)) (s : Shared) (σ : St) (H : Hp) (R : It → Hp → Prop), Inv X pins σ H s → wi σ H R →
    wpAny (model X.prog X.w) X.A (eval iter X.env) (fun v s1 => wpAny (model X.prog X.w) X.A (pyIter v) (PIE X pins σ tg R) X.xe s1) X.xe s
theorem go_of {M : Model} {A : Around} {E : Value → Shared → Prop} {s : Shared} {tg : Expr} {it : Addr} {u : Value} {o : Obj} {n : String} {vs : Array Value} {Q : Unit → Shared → Prop} (ho : s.heap.get? it = some o) (hc : o.cls = .type n) (hd : o.data = .fields vs)
    (hn : ["enumerate", "zip", "dict_itemiterator", "dict_reverseitemiterator", "odict_iterator", "itertools.zip_longest", "itertools.pairwise"].contains n = false) (hQ : Q () s) : wpAny M A (letOwnedTupleGo tg (.ref it) u) Q E s := by
  unfold letOwnedTupleGo
  cases tg <;> first
    | exact wpAny_pure hQ
    | (cases u <;> first
        | exact wpAny_pure hQ
        | (refine wpAny_bind (wpAny_load ho ?_)
           rw [hc, hd]
           show wpAny M A (if (["enumerate", "zip", "dict_itemiterator", "dict_reverseitemiterator", "odict_iterator", "itertools.zip_longest", "itertools.pairwise"].contains n && vs[0]? == some (rawInt _)) = true then _ else _) Q E s
           rw [if_neg (by intro h; rw [hn, Bool.false_and] at h; cases h)]
           exact wpAny_pure hQ))
def Itl (K : PySem.W.Frag) (a : Addr) : It :=
  ⟨fun i H => ∃ xs x, SqL K H a xs ∧ xs[i]? = some x, fun i H x H' => H' = H ∧ ∀ xs, SqL K H a xs → xs[i]? = some x, fun i H => ∃ xs, SqL K H a xs ∧ xs.length ≤ i⟩
def Itt (K : PySem.W.Frag) (a : Addr) : It :=
  ⟨fun i H => ∃ xs x, SqT K H a xs ∧ xs[i]? = some x, fun i H x H' => H' = H ∧ ∀ xs, SqT K H a xs → xs[i]? = some x, fun i H => ∃ xs, SqT K H a xs ∧ xs.length ≤ i⟩
def Itr (lo : Int) (n : Nat) : It := ⟨fun i _ => i < n, fun i H x H' => H' = H ∧ x = .int (lo + i), fun i _ => n ≤ i⟩
theorem turn_list {P : Program} {w : World} {K : PySem.W.Frag} {tg : Expr} (a it : Addr) : Turn P w K tg (Itl K a) [it] it (fun i h => h.IsListIter it a i) where
  mem := by simp
  obj := fun i h st b hb => by
    have e : b = it := by simpa using hb
    subst e
    obtain ⟨o, e, c, d⟩ := st
    exact ⟨o, e, fun v z => by rw [d] at z; cases z⟩
  keep := fun i h h' st k => st.at fun o e => k it (by simp) o e
  item := by
    intro X hP hw hK hc i pins s σ H E I hf st hg
    subst hP hw hK
    obtain ⟨xs, x, hq, hx⟩ := hg
    obtain ⟨its, rv, p, hz⟩ := I.list hq
    obtain ⟨u, hu, ru⟩ := rv.get hx
    obtain ⟨f0, f1, f2, f3, f4, f5⟩ := hf it (by simp)
    refine wpAny_pyNext_list_item st p.isList (x := u) (by simpa using hu) fun h' st' sb => ?_
    have I1 : Inv X pins σ H { s with heap := h' } := I.turned (t' := s.toks) (fun b o hb e => (sb.2 b hb).trans e) f0 f1 f3 f4 f5
    obtain ⟨o, e, c, d⟩ := id st'
    exact ⟨u, rfl, go_of (s := { s with heap := h' }) e c d (by decide) ⟨x, H, I1, ru, ⟨rfl, fun ys hy => by rw [I.list_inj hy hq]; exact hx⟩, st', fun b hb => (hf b hb).1⟩⟩
  done := by
    intro X hP hw hK hc i pins s σ H E I hf st hg
    subst hP hw hK
    obtain ⟨xs, hq, hx⟩ := hg
    obtain ⟨its, rv, p, hz⟩ := I.list hq
    obtain ⟨f0, f1, f2, f3, f4, f5⟩ := hf it (by simp)
    have hl := rv.length
    exact wpAny_pyNext_list_end (I.ok.hd hc) st p.isList (by simp; omega) fun h' eb => ⟨rfl, I.turned (t' := s.toks) (fun b o hb e => eb b o hb e) f0 f1 f3 f4 f5⟩
  self := fun _ _ _ _ _ st h => wpAny_pyIter_listiter st h
theorem turn_tuple {P : Program} {w : World} {K : PySem.W.Frag} {tg : Expr} (a it : Addr) : Turn P w K tg (Itt K a) [it] it (fun i h => h.IsTupleIter it a i) where
  mem := by simp
  obj := fun i h st b hb => by
    have e : b = it := by simpa using hb
    subst e
    obtain ⟨o, e, c, d⟩ := st
    exact ⟨o, e, fun v z => by rw [d] at z; cases z⟩
  keep := fun i h h' st k => st.at fun o e => k it (by simp) o e
  item := by
    intro X hP hw hK hc i pins s σ H E I hf st hg
    subst hP hw hK
    obtain ⟨xs, x, hq, hx⟩ := hg
    obtain ⟨its, rv, p, hz⟩ := I.tuple hq
    obtain ⟨u, hu, ru⟩ := rv.get hx
    obtain ⟨f0, f1, f2, f3, f4, f5⟩ := hf it (by simp)
    refine wpAny_pyNext_tuple_item st (show s.heap.IsTuple a its.toArray from p) (x := u) (by simpa using hu) fun h' st' sb => ?_
    have I1 : Inv X pins σ H { s with heap := h' } := I.turned (t' := s.toks) (fun b o hb e => (sb.2 b hb).trans e) f0 f1 f3 f4 f5
    obtain ⟨o, e, c, d⟩ := id st'
    exact ⟨u, rfl, go_of (s := { s with heap := h' }) e c d (by decide) ⟨x, H, I1, ru, ⟨rfl, fun ys hy => by rw [I.tuple_inj hy hq]; exact hx⟩, st', fun b hb => (hf b hb).1⟩⟩
  done := by
    intro X hP hw hK hc i pins s σ H E I hf st hg
    subst hP hw hK
    obtain ⟨xs, hq, hx⟩ := hg
    obtain ⟨its, rv, p, hz⟩ := I.tuple hq
    obtain ⟨f0, f1, f2, f3, f4, f5⟩ := hf it (by simp)
    have hl := rv.length
    exact wpAny_pyNext_tuple_end (I.ok.hd hc) st (show s.heap.IsTuple a its.toArray from p) (by simp; omega) fun h' eb => ⟨rfl, I.turned (t' := s.toks) (fun b o hb e => eb b o hb e) f0 f1 f3 f4 f5⟩
  self := fun _ _ _ _ _ st h => wpAny_pyIter_tupleiter st h
theorem turn_range {P : Program} {w : World} {K : PySem.W.Frag} {tg : Expr} (it : Addr) (lo : Int) (n : Nat) : Turn P w K tg (Itr lo n) [it] it (fun i h => IsRangeIter h it (lo + (i : Nat) * 1) ((n : Int) - (i : Nat)) 1) where
  mem := by simp
  obj := fun i h st b hb => by
    have e : b = it := by simpa using hb
    subst e
    exact ⟨_, st, fun v z => by
      have z' : Data.fields _ = Data.cell v := z
      cases z'⟩
  keep := fun i h h' st k => k it (by simp) _ st
  item := by
    intro X hP hw hK hc i pins s σ H E I hf st hg
    subst hP hw hK
    obtain ⟨f0, f1, f2, f3, f4, f5⟩ := hf it (by simp)
    have W := Walks.range (prog := X.prog) (w := X.w) (I.ok.hd hc) it lo 1 n
    refine W.item i s _ _ hg st fun v h' tk hv st' kk => ?_
    obtain ⟨t, rfl⟩ := hv
    have I1 : Inv X pins σ H { s with heap := h', toks := tk } := I.turned (fun b o hb e => kk b o (by simpa using hb) e) f0 f1 f3 f4 f5
    refine ⟨_, rfl, go_of (s := { s with heap := h', toks := tk }) (n := "range_iterator") st' rfl rfl (by decide) ⟨.int (lo + i), H, I1, ⟨t, ?_⟩, ⟨rfl, rfl⟩, st', fun b hb => (hf b hb).1⟩⟩
    rw [Int.mul_one]
  done := by
    intro X hP hw hK hc i pins s σ H E I hf st hg
    subst hP hw hK
    obtain ⟨f0, f1, f2, f3, f4, f5⟩ := hf it (by simp)
    exact wpAny_pyNext_range_end (I.ok.hd hc) st (by have : n ≤ i := hg; omega) fun h' eb => ⟨rfl, I.turned (t' := s.toks) (fun b o hb e => eb b o hb e) f0 f1 f3 f4 f5⟩
  self := fun _ _ _ _ _ st h => wpAny_pyIter_rangeiter st h
end L2
namespace L2
open PySem PySem.Spec PyProof.Rows
section
variable {X : Cx} {tg : Expr}
theorem range_it {pins : List (Addr × Obj)} {σ : St} {H : Hp} {s : Shared} {R : It → Hp → Prop} {E : Value → Shared → Prop} {lo hi : Int} {t u v : Tok} {tk : Nat} (I : Inv X pins σ H s) (h1 : -(2 ^ 62) ≤ lo) (h2 : lo < 2 ^ 62) (h3 : -(2 ^ 62) ≤ hi) (h4 : hi < 2 ^ 62)
    (q : R (Itr lo (hi - lo).toNat) H) : wpAny (model X.prog X.w) X.A (pyIter (.ref s.heap.objs.size)) (PIE X pins σ tg R) E { s with heap := s.heap.push { cls := .type "range", data := .fields #[.int lo t, .int hi u, .int 1 v] }, toks := tk } := by
  refine wpAny_pyIter_range (IsRange.new ..) (small_one h1 h2 h3 h4) ?_
  have I1 : Inv X pins σ H { s with heap := s.heap.push { cls := .type "range", data := .fields #[.int lo t, .int hi u, .int 1 v] }, toks := tk } := I.kept fun b o e => Heap.get?_push_of_some _ e
  refine ⟨(s.heap.push { cls := .type "range", data := .fields #[.int lo t, .int hi u, .int 1 v] }).objs.size, [(s.heap.push { cls := .type "range", data := .fields #[.int lo t, .int hi u, .int 1 v] }).objs.size], _, _, H, rfl,
    I1.kept (t' := tk) fun b o e => Heap.get?_push_of_some _ e, turn_range _ lo (hi - lo).toNat, ?_, fun b hb => ?_, q⟩
  · have e1 : lo + ((0 : Nat) : Int) * 1 = lo := by simp
    have e2 : (((hi - lo).toNat : Nat) : Int) - ((0 : Nat) : Int) = Builtin.Range.rangeSize lo hi 1 := by rw [rangeSize_one]; split <;> omega
    show IsRangeIter _ _ (lo + ((0 : Nat) : Int) * 1) ((((hi - lo).toNat : Nat) : Int) - ((0 : Nat) : Int)) 1
    rw [e1, e2]
    exact Heap.get?_push_size _ rfl
  · have e : b = (s.heap.push { cls := .type "range", data := .fields #[.int lo t, .int hi u, .int 1 v] }).objs.size := by simpa using hb
    subst e
    exact I1.fpOk (Nat.le_refl _) (I1.hok.fresh (Nat.le_refl _))
def iRng1 (ta : TA) : TI := fun σ H R => ta σ H fun vs H1 => ∃ j : Int, vs = [.int j] ∧ -(2 ^ 62) ≤ j ∧ j < 2 ^ 62 ∧ R (Itr 0 j.toNat) H1
def iRng2 (ta : TA) : TI := fun σ H R => ta σ H fun vs H1 => ∃ i j : Int, vs = [.int i, .int j] ∧ (-(2 ^ 62) ≤ i ∧ i < 2 ^ 62 ∧ -(2 ^ 62) ≤ j ∧ j < 2 ^ 62) ∧ R (Itr i (j - i).toNat) H1
theorem pi_range1 {a : Expr} {ta : TA} {p pos : Pos} (hg : Gl X "range") (hm : X.mg "range" = none) (ha : PA X [a] ta) (hs : starEach [a] X.env = [(false, eval a X.env)] := by rfl) : PI X tg (.Call (.Name "range" p) [a] [] pos) (iRng1 ta) := by
  intro pins s σ H R I h
  refine Call_ (ld_blt I hg hm boot_range (PyProof.Rows.callWith_type1 (thn (ha pos pins s σ H _ I h) fun us s1 ⟨vs, H1, I1, r1, q1⟩ => ?_) hs rfl))
  obtain ⟨j, e, q1, q2, q⟩ := q1
  subst e
  cases r1 with
  | cons r rr =>
    cases rr
    obtain ⟨t, rfl⟩ := r
    exact call_range_1 (range_it I1 (by omega) (by omega) q1 q2 (by simpa using q))
theorem pi_range2 {a b : Expr} {ta : TA} {p pos : Pos} (hg : Gl X "range") (hm : X.mg "range" = none) (ha : PA X [a, b] ta) (hs : starEach [a, b] X.env = [(false, eval a X.env), (false, eval b X.env)] := by rfl) (hs2 : starEach [b] X.env = [(false, eval b X.env)] := by rfl) :
    PI X tg (.Call (.Name "range" p) [a, b] [] pos) (iRng2 ta) := by
  intro pins s σ H R I h
  refine Call_ (ld_blt I hg hm boot_range (PyProof.Rows.callWith_type1 (thn (ha pos pins s σ H _ I h) fun us s1 ⟨vs, H1, I1, r1, q1⟩ => ?_) (by rw [hs, hs2]) (by rw [hs2]; rfl)))
  obtain ⟨i, j, e, ⟨q1, q2, q3, q4⟩, q⟩ := q1
  subst e
  cases r1 with
  | cons r rr =>
    cases rr with
    | cons r' rr =>
      cases rr
      obtain ⟨t, rfl⟩ := r
      obtain ⟨t', rfl⟩ := r'
      exact call_range_2 (range_it I1 q1 q2 q3 q4 q)
def tFor (wi : TI) (g : TG) (tb : TS) : TS := fun D σ H => wi σ H fun J H1 => ∃ W : Nat → Nat → St → Hp → Prop, (∃ m, W 0 m σ H1) ∧ ∀ i m σ H, W i m σ H →
  (J.stop i H ∧ D.nx σ H) ∨ (J.go i H ∧ ∃ N : St → Hp → Prop, (∀ σ' H', N σ' H' → ∃ m', m' < m ∧ W (i + 1) m' σ' H') ∧ ∀ x H', J.yld i H x H' → g x σ H' fun σ2 H2 => tb { D with nx := N, ct := N, bk := D.nx } σ2 H2)
def pinsAt (fp : List Addr) (h : Heap) : List (Addr × Obj) := fp.filterMap fun b => (h.get? b).map fun o => (b, o)
theorem mem_pinsAt {fp : List Addr} {h : Heap} {b : Addr} {o : Obj} (hb : b ∈ fp) (e : h.get? b = some o) : (b, o) ∈ pinsAt fp h := List.mem_filterMap.mpr ⟨b, hb, by rw [e]; rfl⟩
theorem of_pinsAt {fp : List Addr} {h : Heap} {p : Addr × Obj} (hp : p ∈ pinsAt fp h) : p.1 ∈ fp ∧ h.get? p.1 = some p.2 := by
  obtain ⟨b, hb, e⟩ := List.mem_filterMap.mp hp
  cases q : h.get? b with
  | none => rw [q] at e; cases e
  | some o =>
    rw [q] at e
    have e' : (b, o) = p := Option.some.inj e
    subst e'
    exact ⟨hb, q⟩
theorem Inv.pinned {pins : List (Addr × Obj)} {σ : St} {H : Hp} {s : Shared} {fp : List Addr} (I : Inv X pins σ H s) (hf : ∀ b ∈ fp, FpOk X pins H b) (ho : ∀ b ∈ fp, ∃ o, s.heap.get? b = some o ∧ ∀ v, o.data ≠ .cell v) : Inv X (pins ++ pinsAt fp s.heap) σ H s :=
  I.pins_of fun p hp => (List.mem_append.mp hp).elim (fun z => I.pin p (List.mem_append_right _ z)) fun z => by
    obtain ⟨hb, e⟩ := of_pinsAt z
    obtain ⟨f0, f1, f2, _⟩ := hf p.1 hb
    obtain ⟨o, e', d⟩ := ho p.1 hb
    rw [e] at e'; cases e'
    exact ⟨e, f0, f1, f2, d⟩
theorem Inv.unpinned {pins pl : List (Addr × Obj)} {σ : St} {H : Hp} {s : Shared} (I : Inv X (pins ++ pl) σ H s) : Inv X pins σ H s := I.pins_of fun p hp => I.pin p (List.mem_append_right _ (List.mem_append_left _ hp))
theorem ps_for {iter : Expr} {body : List Stmt} {wi : TI} {g : TG} {tb : TS} {pos : Pos} (hp : PassesOwn (model X.prog X.w) X.A X.env X.xe) (hc : X.calm = true) (hi : PI X tg iter wi) (hg : PG X tg g) (hb : PSs X body tb)
    (hs : ∀ x, foldedSetIterable iter X.env x = pure x := by intro _; rfl) : PS X (.For tg iter body [] pos) (tFor wi g tb) := by
  intro pins s σ H D I h
  refine wpAny_For (thn (hi pins s σ H _ I h) fun v s1 h1 => thn h1 fun itv s2 h2 => ?_) hs
  obtain ⟨it, fp, tn, J, H2, e, I2, T, st2, f2, W, ⟨m0, w0⟩, turn⟩ := h2
  subst e
  have stat : ∀ {H' : Hp}, (∀ b ∈ fp, H' b = none) → ∀ b ∈ fp, FpOk X pins H' b := fun hn b hb => ⟨hn b hb, (f2 b hb).2⟩
  refine codeAny_forLoop_any (fun n s' => ∃ i σ' H', Inv X pins σ' H' s' ∧ tn i s'.heap ∧ (∀ b ∈ fp, H' b = none) ∧ W i n σ' H') ?_ m0 ⟨0, σ, H2, I2, st2, fun b hb => (f2 b hb).1, w0⟩
  rintro n s3 ⟨i, σ3, H3, I3, st3, fr3, w3⟩
  rcases turn i n σ3 H3 w3 with ⟨stop, qn⟩ | ⟨go, N, hN, step⟩
  · refine wpAny_passesOwn hp (thn (T.done X rfl rfl rfl hc i pins s3 σ3 H3 X.xe I3 (stat fr3) st3 stop) fun r s4 ⟨hr, I4⟩ => ?_)
    subst hr
    exact wpAny_execs_nil ⟨σ3, H3, I4, qn⟩
  · refine wpAny_passesOwn hp (thn (T.item X rfl rfl rfl hc i pins s3 σ3 H3 X.xe I3 (stat fr3) st3 go) fun r s4 ⟨u, hr, h4⟩ => ?_)
    subst hr
    refine wpAny_passesOwn hp (thn h4 fun _ s5 ⟨x, H5, I5, r5, y5, st5, fr5⟩ => ?_)
    have I5' := I5.pinned (stat fr5) (T.obj _ _ st5)
    refine wpAny_passesOwn hp (thn (hg _ s5 σ3 H5 x u _ I5' r5 (step x H5 y5)) fun _ s6 ⟨σ6, H6, I6, q6⟩ => ?_)
    refine wpAny_passesOwn hp (thn (hb _ s6 σ6 H6 _ I6 q6) fun f s7 q7 => ?_)
    have again : ∀ {σ7 : St} {H7 : Hp}, Inv X (pins ++ pinsAt fp s5.heap) σ7 H7 s7 → N σ7 H7 → ∃ m, m < n ∧ ∃ i σ' H', Inv X pins σ' H' s7 ∧ tn i s7.heap ∧ (∀ b ∈ fp, H' b = none) ∧ W i m σ' H' := fun {σ7 H7} I7 n7 => by
      obtain ⟨m', hm, w7⟩ := hN σ7 H7 n7
      refine ⟨m', hm, i + 1, σ7, H7, I7.unpinned, T.keep _ _ _ st5 fun b hb o e => (I7.pin (b, o) (List.mem_append_right _ (List.mem_append_right _ (mem_pinsAt hb e)))).1, fun b hb => ?_, w7⟩
      obtain ⟨o, e, d⟩ := T.obj _ _ st5 b hb
      exact (I7.pin (b, o) (List.mem_append_right _ (List.mem_append_right _ (mem_pinsAt hb e)))).2.1
    cases f with
    | next => obtain ⟨σ7, H7, I7, n7⟩ := q7; exact again I7 n7
    | cont => obtain ⟨σ7, H7, I7, n7⟩ := q7; exact again I7 n7
    | brk => obtain ⟨σ7, H7, I7, q7⟩ := q7; exact ⟨σ7, H7, I7.unpinned, q7⟩
    | ret v => obtain ⟨x7, σ7, H7, I7, r7, q7⟩ := q7; exact ⟨x7, σ7, H7, I7.unpinned, r7, q7⟩
end
theorem for_list {K : PySem.W.Frag} {a : Addr} {xs : List V} {g : TG} {tb : TS} {D : Ends} {σ : St} {H : Hp} (Pv : Nat → St → Hp → Prop) (h0 : Pv 0 σ H) (hl : ∀ i σ H, i ≤ xs.length → Pv i σ H → SqL K H a xs)
    (hs : ∀ i x σ H, xs[i]? = some x → Pv i σ H → g x σ H fun σ2 H2 => tb { D with nx := Pv (i + 1), ct := Pv (i + 1), bk := D.nx } σ2 H2) (hd : ∀ σ H, Pv xs.length σ H → D.nx σ H) :
    ∃ W : Nat → Nat → St → Hp → Prop, (∃ m, W 0 m σ H) ∧ ∀ i m σ H, W i m σ H →
      ((Itl K a).stop i H ∧ D.nx σ H) ∨ ((Itl K a).go i H ∧ ∃ N : St → Hp → Prop, (∀ σ' H', N σ' H' → ∃ m', m' < m ∧ W (i + 1) m' σ' H') ∧ ∀ x H', (Itl K a).yld i H x H' → g x σ H' fun σ2 H2 => tb { D with nx := N, ct := N, bk := D.nx } σ2 H2) := by
  refine ⟨fun i m σ H => m = xs.length - i ∧ i ≤ xs.length ∧ Pv i σ H, ⟨xs.length, by simp, Nat.zero_le _, h0⟩, ?_⟩
  rintro i m σ H ⟨rfl, hi, p⟩
  have q := hl i σ H hi p
  by_cases hlt : i < xs.length
  · refine .inr ⟨⟨xs, xs[i], q, by simp [hlt]⟩, Pv (i + 1), fun σ' H' p' => ⟨xs.length - (i + 1), by omega, rfl, hlt, p'⟩, fun x H' y => ?_⟩
    obtain ⟨e, y⟩ := y
    subst e
    exact hs i x σ _ (y xs q) p
  · have e : i = xs.length := by omega
    subst e
    exact .inl ⟨⟨xs, q, Nat.le_refl _⟩, hd σ H p⟩
theorem for_tup {K : PySem.W.Frag} {a : Addr} {xs : List V} {g : TG} {tb : TS} {D : Ends} {σ : St} {H : Hp} (Pv : Nat → St → Hp → Prop) (h0 : Pv 0 σ H) (hl : ∀ i σ H, i ≤ xs.length → Pv i σ H → SqT K H a xs)
    (hs : ∀ i x σ H, xs[i]? = some x → Pv i σ H → g x σ H fun σ2 H2 => tb { D with nx := Pv (i + 1), ct := Pv (i + 1), bk := D.nx } σ2 H2) (hd : ∀ σ H, Pv xs.length σ H → D.nx σ H) :
    ∃ W : Nat → Nat → St → Hp → Prop, (∃ m, W 0 m σ H) ∧ ∀ i m σ H, W i m σ H →
      ((Itt K a).stop i H ∧ D.nx σ H) ∨ ((Itt K a).go i H ∧ ∃ N : St → Hp → Prop, (∀ σ' H', N σ' H' → ∃ m', m' < m ∧ W (i + 1) m' σ' H') ∧ ∀ x H', (Itt K a).yld i H x H' → g x σ H' fun σ2 H2 => tb { D with nx := N, ct := N, bk := D.nx } σ2 H2) := by
  refine ⟨fun i m σ H => m = xs.length - i ∧ i ≤ xs.length ∧ Pv i σ H, ⟨xs.length, by simp, Nat.zero_le _, h0⟩, ?_⟩
  rintro i m σ H ⟨rfl, hi, p⟩
  have q := hl i σ H hi p
  by_cases hlt : i < xs.length
  · refine .inr ⟨⟨xs, xs[i], q, by simp [hlt]⟩, Pv (i + 1), fun σ' H' p' => ⟨xs.length - (i + 1), by omega, rfl, hlt, p'⟩, fun x H' y => ?_⟩
    obtain ⟨e, y⟩ := y
    subst e
    exact hs i x σ _ (y xs q) p
  · have e : i = xs.length := by omega
    subst e
    exact .inl ⟨⟨xs, q, Nat.le_refl _⟩, hd σ H p⟩
theorem for_range {lo : Int} {n : Nat} {g : TG} {tb : TS} {D : Ends} {σ : St} {H : Hp} (Pv : Nat → St → Hp → Prop) (h0 : Pv 0 σ H)
    (hs : ∀ i σ H, i < n → Pv i σ H → g (.int (lo + i)) σ H fun σ2 H2 => tb { D with nx := Pv (i + 1), ct := Pv (i + 1), bk := D.nx } σ2 H2) (hd : ∀ σ H, Pv n σ H → D.nx σ H) :
    ∃ W : Nat → Nat → St → Hp → Prop, (∃ m, W 0 m σ H) ∧ ∀ i m σ H, W i m σ H →
      ((Itr lo n).stop i H ∧ D.nx σ H) ∨ ((Itr lo n).go i H ∧ ∃ N : St → Hp → Prop, (∀ σ' H', N σ' H' → ∃ m', m' < m ∧ W (i + 1) m' σ' H') ∧ ∀ x H', (Itr lo n).yld i H x H' → g x σ H' fun σ2 H2 => tb { D with nx := N, ct := N, bk := D.nx } σ2 H2) := by
  refine ⟨fun i m σ H => m = n - i ∧ i ≤ n ∧ Pv i σ H, ⟨n, by simp, Nat.zero_le _, h0⟩, ?_⟩
  rintro i m σ H ⟨rfl, hi, p⟩
  by_cases hlt : i < n
  · refine .inr ⟨hlt, Pv (i + 1), fun σ' H' p' => ⟨n - (i + 1), by omega, rfl, hlt, p'⟩, fun x H' y => ?_⟩
    obtain ⟨e, y⟩ := y
    subst e y
    exact hs i σ _ hlt p
  · have e : i = n := by omega
    subst e
    exact .inl ⟨Nat.le_refl _, hd σ H p⟩
end L2
namespace L2
open PySem PySem.Spec PyProof.Rows
abbrev R2 := V → V → Hp → VK → Prop
def OpR (X : Cx) (f : Value → Value → Sem Value) (r : R2) : Prop :=
  ∀ (pins : List (Addr × Obj)) (s : Shared) (σ : St) (H : Hp) (x y : V) (v u : Value) (Q : VK), Inv X pins σ H s → RelV x v → RelV y u → r x y H Q →
    wpAny (model X.prog X.w) X.A (f v u) (EP X pins σ Q) X.xe s
def UnR (X : Cx) (f : Value → Sem Value) (r : V → Hp → VK → Prop) : Prop :=
  ∀ (pins : List (Addr × Obj)) (s : Shared) (σ : St) (H : Hp) (x : V) (v : Value) (Q : VK), Inv X pins σ H s → RelV x v → r x H Q →
    wpAny (model X.prog X.w) X.A (f v) (EP X pins σ Q) X.xe s
def CallR (X : Cx) (f : Value) (r : List V → Hp → VK → Prop) : Prop :=
  ∀ (pins : List (Addr × Obj)) (s : Shared) (σ : St) (H : Hp) (xs : List V) (us : List Value) (Q : VK), Inv X pins σ H s → Vals xs us → r xs H Q →
    wpAny (model X.prog X.w) X.A (call f us) (EP X pins σ Q) X.xe s
def TruR (X : Cx) (r : V → Hp → (Bool → Hp → Prop) → Prop) : Prop :=
  ∀ (pins : List (Addr × Obj)) (s : Shared) (σ : St) (H : Hp) (x : V) (v : Value) (Q : Bool → Hp → Prop), Inv X pins σ H s → RelV x v → r x H Q →
    wpAny (model X.prog X.w) X.A (truthy v) (TP X pins σ Q) X.xe s
def tOp (r : R2) (ta tb : TE) : TE := fun σ H Q => ta σ H fun x H1 => tb σ H1 fun y H2 => r x y H2 Q
def tUn (r : V → Hp → VK → Prop) (ta : TE) : TE := fun σ H Q => ta σ H fun x H1 => r x H1 Q
def rI (C : Int → Int → Prop) (g : Int → Int → V) : R2 := fun x y H Q => ∃ i j, x = .int i ∧ y = .int j ∧ C i j ∧ Q (g i j) H
def rI0 (g : Int → Int → V) : R2 := fun x y H Q => ∃ i j, x = .int i ∧ y = .int j ∧ Q (g i j) H
def rU (g : Int → V) : V → Hp → VK → Prop := fun x H Q => ∃ i, x = .int i ∧ Q (g i) H
section
variable {X : Cx} {a b c : Expr} {ta tb tc : TE} {pos : Pos}
theorem binT (ha : PE X a ta) (hb : PE X b tb) {pins : List (Addr × Obj)} {s : Shared} {σ : St} {H : Hp} {R : V → V → Hp → Prop} (I : Inv X pins σ H s)
    (h : ta σ H fun x H1 => tb σ H1 fun y H2 => R x y H2) {Q : Value → Shared → Prop} {f : Value → Value → Sem Value}
    (hf : ∀ v u s2 x y H2, Inv X pins σ H2 s2 → RelV x v → RelV y u → R x y H2 → wpAny (model X.prog X.w) X.A (f v u) Q X.xe s2) :
    wpAny (model X.prog X.w) X.A (eval a X.env) (fun v s₁ => wpAny (model X.prog X.w) X.A (eval b X.env) (fun u s₂ => wpAny (model X.prog X.w) X.A (f v u) Q X.xe s₂) X.xe s₁) X.xe s := by
  refine thn (ha pins s σ H _ I h) fun v s1 ⟨x, H1, I1, r1, q1⟩ => ?_
  refine thn (hb pins s1 σ H1 _ I1 q1) fun u s2 ⟨y, H2, I2, r2, q2⟩ => ?_
  exact hf v u s2 x y H2 I2 r1 r2 q2
theorem pe_op {op : Operator} {r : R2} (ho : OpR X (binaryOp op) r) (ha : PE X a ta) (hb : PE X b tb) : PE X (.BinOp a op b pos) (tOp r ta tb) := by
  intro pins s σ H Q I h
  exact wpAny_BinOp (binT ha hb I h fun v u s2 x y H2 I2 rx ry q => ho pins s2 σ H2 x y v u Q I2 rx ry q)
theorem pe_un {op : UnaryOp} {r : V → Hp → VK → Prop} (ho : UnR X (unaryOp op) r) (ha : PE X a ta) : PE X (.UnaryOp op a pos) (tUn r ta) := by
  intro pins s σ H Q I h
  exact UnaryOp_ (thn (ha pins s σ H _ I h) fun v s1 ⟨x, H1, I1, r1, q1⟩ => ho pins s1 σ H1 x v Q I1 r1 q1)
theorem opI {f : Value → Value → Sem Value} {C : Int → Int → Prop} {g : Int → Int → Int}
    (rule : ∀ (i j : Int) (t u : Tok) (s : Shared) (Q : Value → Shared → Prop) (E : Value → Shared → Prop), C i j → Q (.int (g i j) s.toks) { s with toks := s.toks + 1 } → wpAny (model X.prog X.w) X.A (f (.int i t) (.int j u)) Q E s) :
    OpR X f (rI C fun i j => .int (g i j)) := by
  intro pins s σ H x y v u Q I rx ry h
  obtain ⟨i, j, rfl, rfl, hc, q⟩ := h
  obtain ⟨t, rfl⟩ := rx
  obtain ⟨t', rfl⟩ := ry
  exact rule i j t t' s _ _ hc ⟨.int (g i j), H, I.tok _, ⟨_, rfl⟩, q⟩
theorem opI0 {f : Value → Value → Sem Value} {g : Int → Int → Int}
    (rule : ∀ (i j : Int) (t u : Tok) (s : Shared) (Q : Value → Shared → Prop) (E : Value → Shared → Prop), Q (.int (g i j) s.toks) { s with toks := s.toks + 1 } → wpAny (model X.prog X.w) X.A (f (.int i t) (.int j u)) Q E s) :
    OpR X f (rI0 fun i j => .int (g i j)) := by
  intro pins s σ H x y v u Q I rx ry h
  obtain ⟨i, j, rfl, rfl, q⟩ := h
  obtain ⟨t, rfl⟩ := rx
  obtain ⟨t', rfl⟩ := ry
  exact rule i j t t' s _ _ ⟨.int (g i j), H, I.tok _, ⟨_, rfl⟩, q⟩
theorem opB0 {f : Value → Value → Sem Value} {g : Int → Int → Bool}
    (rule : ∀ (i j : Int) (t u : Tok) (s : Shared) (Q : Value → Shared → Prop) (E : Value → Shared → Prop), Q (.bool (g i j)) s → wpAny (model X.prog X.w) X.A (f (.int i t) (.int j u)) Q E s) :
    OpR X f (rI0 fun i j => .bl (g i j)) := by
  intro pins s σ H x y v u Q I rx ry h
  obtain ⟨i, j, rfl, rfl, q⟩ := h
  obtain ⟨t, rfl⟩ := rx
  obtain ⟨t', rfl⟩ := ry
  exact rule i j t t' s _ _ ⟨.bl (g i j), H, I, rfl, q⟩
def CDiv (i j : Int) : Prop := 0 < j ∧ j < 1073741824
def CPow (i j : Int) : Prop := 0 ≤ j ∧ j ≤ 1000000 ∧ i.natAbs < 2 ^ 64
def CMul (i j : Int) : Prop := (-(2 ^ 64) < i ∧ i < 2 ^ 64) ∨ (-(2 ^ 64) < j ∧ j < 2 ^ 64)
theorem CMul.ok {i j : Int} (h : CMul i j) : IntMulOk i j := by
  rcases h with ⟨h1, h2⟩ | ⟨h1, h2⟩
  · exact .of_left (intBits_le_64 h1 h2)
  · exact .of_right (intBits_le_64 h1 h2)
theorem op_add : OpR X (binaryOp .Add) (rI0 fun i j => .int (i + j)) := opI0 fun _ _ _ _ _ _ _ q => add_int q
theorem op_sub : OpR X (binaryOp .Sub) (rI0 fun i j => .int (i - j)) := opI0 fun _ _ _ _ _ _ _ q => sub_int q
theorem op_mul : OpR X (binaryOp .Mult) (rI CMul fun i j => .int (i * j)) := opI fun _ _ _ _ _ _ _ hc q => mul_int q hc.ok
theorem op_fdiv : OpR X (binaryOp .FloorDiv) (rI CDiv fun i j => .int (i / j)) := opI fun i j _ _ _ _ _ hc q => by
  have h1 : (0 : Int) < j := hc.1
  have h2 : j < 1073741824 := hc.2
  exact floordiv_int (by omega) (by rw [Int.fdiv_eq_ediv_of_nonneg i (by omega)]; exact q) (.inl (PyProof.noPylong_small (by omega)))
theorem op_mod : OpR X (binaryOp .Mod) (rI (fun _ j => 0 < j) fun i j => .int (i % j)) := opI fun i j _ _ _ _ _ hc q => by
  have h1 : (0 : Int) < j := hc
  exact mod_int' (by omega) (by rw [Int.fmod_eq_emod_of_nonneg i (by omega)]; exact q)
theorem op_pow : OpR X (binaryOp .Pow) (rI CPow fun i j => .int (i ^ j.toNat)) := opI fun _ _ _ _ _ _ _ hc q => pow_int_small hc.1 hc.2.1 hc.2.2 q
theorem unI {f : Value → Sem Value} {g : Int → Int}
    (rule : ∀ (i : Int) (t : Tok) (s : Shared) (Q : Value → Shared → Prop) (E : Value → Shared → Prop), Q (.int (g i) s.toks) { s with toks := s.toks + 1 } → wpAny (model X.prog X.w) X.A (f (.int i t)) Q E s) :
    UnR X f (rU fun i => .int (g i)) := by
  intro pins s σ H x v Q I rx h
  obtain ⟨i, rfl, q⟩ := h
  obtain ⟨t, rfl⟩ := rx
  exact rule i t s _ _ ⟨.int (g i), H, I.tok _, ⟨_, rfl⟩, q⟩
theorem un_neg : UnR X (unaryOp .USub) (rU fun i => .int (-i)) := unI fun _ _ _ _ _ q => neg_int q
end
section
variable {X : Cx} {a b c : Expr} {ta tb tc : TE} {pos : Pos}
theorem fin_bl {pins : List (Addr × Obj)} {σ : St} {H : Hp} {s : Shared} {Q : VK} {k k' : Bool} (I : Inv X pins σ H s) (q : Q (.bl k) H) (e : k = k') : EP X pins σ Q (.bool k') s := by
  subst e
  exact ⟨.bl k, H, I, rfl, q⟩
theorem op_lt : OpR X (compareOp .Lt) (rI0 fun i j => .bl (decide (i < j))) := opB0 fun _ _ _ _ _ _ _ q => lt_int q
theorem op_le : OpR X (compareOp .LtE) (rI0 fun i j => .bl (decide (i ≤ j))) := opB0 fun _ _ _ _ _ _ _ q => le_int q
theorem op_gt : OpR X (compareOp .Gt) (rI0 fun i j => .bl (decide (j < i))) := opB0 fun _ _ _ _ _ _ _ q => gt_int q
theorem op_ge : OpR X (compareOp .GtE) (rI0 fun i j => .bl (decide (j ≤ i))) := opB0 fun _ _ _ _ _ _ _ q => ge_int q
theorem op_isN : OpR X (compareOp .Is) (fun x y H Q => y = .non ∧ Q (.bl (decide (x = .non))) H) := by
  intro pins s σ H x y v u Q I rx ry h
  obtain ⟨rfl, q⟩ := h
  cases ry
  refine is_none_gen (fin_bl I q ?_)
  cases x <;> first
    | (cases rx; rfl)
    | (obtain ⟨t, rfl⟩ := rx; rfl)
theorem op_notN : OpR X (compareOp .IsNot) (fun x y H Q => y = .non ∧ Q (.bl (!decide (x = .non))) H) := by
  intro pins s σ H x y v u Q I rx ry h
  obtain ⟨rfl, q⟩ := h
  cases ry
  refine isnot_none_gen (fin_bl I q ?_)
  cases x <;> first
    | (cases rx; rfl)
    | (obtain ⟨t, rfl⟩ := rx; rfl)
theorem OpR.or {f : Value → Value → Sem Value} {r r' : R2} (h : OpR X f r) (h' : OpR X f r') : OpR X f (fun x y H Q => r x y H Q ∨ r' x y H Q) := by
  intro pins s σ H x y v u Q I rx ry q
  rcases q with q | q
  · exact h pins s σ H x y v u Q I rx ry q
  · exact h' pins s σ H x y v u Q I rx ry q
theorem nomark (b : Expr) {op : CmpOp} (h : op ≠ .In := by decide) (h2 : op ≠ .NotIn := by decide) : behindInMarks op b = false := by
  have e1 : (op == CmpOp.In) = false := by cases op <;> first | rfl | exact absurd rfl h
  have e2 : (op == CmpOp.NotIn) = false := by cases op <;> first | rfl | exact absurd rfl h2
  cases b <;> simp [behindInMarks, e1, e2]
theorem pe_cmpR {op : CmpOp} {r : R2} (ho : OpR X (compareOp op) r) (ha : PE X a ta) (hb : PE X b tb) (hm : behindInMarks op b = false) : PE X (.Compare a [op] [b] pos) (tOp r ta tb) := by
  intro pins s σ H Q I h
  exact wpAny_Compare1 (binT ha hb I h fun v u s2 x y H2 I2 rx ry q => ho pins s2 σ H2 x y v u Q I2 rx ry q) hm
def tTest (t : TE) : TT := fun σ H Q => t σ H fun x H' => ∃ k, x = .bl k ∧ Q k H'
theorem pt_cmpR {op : CmpOp} {r : R2} (ho : OpR X (compareOp op) r) (ha : PE X a ta) (hb : PE X b tb) (hm : behindInMarks op b = false) : PT X (.Compare a [op] [b] pos) (tTest (tOp r ta tb)) := by
  intro pins s σ H Q I h
  refine wpAny_isTrue_Compare1 (thn (ha pins s σ H _ I h) fun v s1 ⟨x, H1, I1, r1, q1⟩ => thn (hb pins s1 σ H1 _ I1 q1) fun u s2 ⟨y, H2, I2, r2, q2⟩ =>
    thn (ho pins s2 σ H2 x y v u _ I2 r1 r2 q2) fun c s3 ⟨z, H3, I3, r3, k, e, q3⟩ => ?_) hm
  subst e
  cases r3
  exact wpAny_truthy_bool ⟨H3, I3, q3⟩
def TruV (K : PySem.W.Frag) (x : V) (H : Hp) (k : Bool) : Prop :=
  match x with
  | .non => k = false
  | .bl b => k = b
  | .int i => k = (i != 0)
  | .str y => y.length ≤ sizeLine ∧ k = ((y.length : Int) != 0)
  | .byt y => y.size ≤ sizeLine ∧ k = ((y.size : Int) != 0)
  | .ref p => (∃ xs, SqL K H p xs ∧ k = !xs.isEmpty) ∨ (∃ xs, SqT K H p xs ∧ k = !xs.isEmpty) ∨ ∃ kvs, H p = some (.dK kvs) ∧ k = !kvs.isEmpty
  | _ => False
theorem isEmpty_kv {κ : Type} {kvs : List (κ × V)} {vs : List (κ × Value)} (r : KV kvs vs) : (!vs.isEmpty) = !kvs.isEmpty := by
  cases r <;> rfl
theorem isEmpty_of {xs : List V} {its : List Value} (r : Vals xs its) : (!its.toArray.isEmpty) = !xs.isEmpty := by
  cases r <;> simp
theorem line63 : (sizeLine : Nat) < 2 ^ 63 := by rw [sizeLine_eq]; decide
theorem tru_ok : TruR X (fun x H Q => ∃ k, TruV X.K x H k ∧ Q k H) := by
  intro pins s σ H x v Q I rx h
  obtain ⟨k, e, q⟩ := h
  have hl := line63
  have hs : sizeLine = 16777216 := sizeLine_eq
  cases x with
  | non =>
    cases rx
    have e' : k = false := e
    subst e'
    exact truthy_none ⟨H, I, q⟩
  | bl b =>
    cases rx
    have e' : k = b := e
    subst e'
    exact wpAny_truthy_bool ⟨H, I, q⟩
  | int i =>
    obtain ⟨t, rfl⟩ := rx
    have e' : k = (i != 0) := e
    subst e'
    exact PySem.P.truthy_int ⟨H, I, q⟩
  | str y =>
    obtain ⟨t, rfl⟩ := rx
    obtain ⟨hy, e'⟩ : y.length ≤ sizeLine ∧ k = ((y.length : Int) != 0) := e
    subst e'
    exact PySem.P.truthy_str (by omega) ⟨H, I.tok _, q⟩
  | byt y =>
    obtain ⟨t, rfl⟩ := rx
    obtain ⟨hy, e'⟩ : y.size ≤ sizeLine ∧ k = ((y.size : Int) != 0) := e
    subst e'
    exact PySem.W.truthy_bytes (by omega) ⟨H, I.tok _, q⟩
  | ref p =>
    cases rx
    have e' : (∃ xs, SqL X.K H p xs ∧ k = !xs.isEmpty) ∨ (∃ xs, SqT X.K H p xs ∧ k = !xs.isEmpty) ∨ ∃ kvs, H p = some (.dK kvs) ∧ k = !kvs.isEmpty := e
    rcases e' with ⟨xs, hx, e'⟩ | ⟨xs, hx, e'⟩ | ⟨kvs, hx, e'⟩
    · subst e'
      obtain ⟨its, r, pl, hz⟩ := I.list hx
      have hlen := r.length
      exact wpAny_truthy_list pl.isList (by simp only [List.size_toArray]; omega) ⟨H, I.tok _, by rw [isEmpty_of r]; exact q⟩
    · subst e'
      obtain ⟨its, r, pl, hz⟩ := I.tuple hx
      have hlen := r.length
      exact truthy_tuple pl (by simp only [List.size_toArray]; omega) ⟨H, I.tok _, by rw [isEmpty_of r]; exact q⟩
    · subst e'
      obtain ⟨hz, hS, vs, r, m⟩ : kvs.length ≤ sizeLine ∧ (p == sysModules) = false ∧ ∃ vs, KV kvs vs ∧ s.heap.DictOf (mixKind X.prog X.w) p vs := I.hok p _ hx
      have hlen : kvs.length = vs.length := Paired.length r
      exact wpAny_truthy_dict hS m (by omega) ⟨H, I.tok _, by rw [isEmpty_kv r]; exact q⟩
  | _ => exact (show False from e).elim
theorem pt_truth (ha : PE X a ta) (he : ∀ whole, isTrue a X.env whole = (do let v ← whole; standAt a.pos; holding [v] (truthy v))) :
    PT X a (fun σ H Q => ta σ H fun x H' => ∃ k, TruV X.K x H' k ∧ Q k H') := by
  intro pins s σ H Q I h
  exact isTrue_plain (thn (ha pins s σ H _ I h) fun v s1 ⟨x, H1, I1, r1, q1⟩ => tru_ok pins s1 σ H1 x v Q I1 r1 q1) (he _)
theorem op_add_str : OpR X (binaryOp .Add) (fun x y H Q => ∃ i j, x = .str i ∧ y = .str j ∧ i.length + j.length ≤ sizeLine ∧ Q (.str (i ++ j)) H) := by
  intro pins s σ H x y v u Q I rx ry h
  obtain ⟨i, j, rfl, rfl, hz, q⟩ := h
  obtain ⟨t, rfl⟩ := rx
  obtain ⟨t', rfl⟩ := ry
  exact add_str (fun t' tk => ⟨.str (i ++ j), H, I.tok _, ⟨_, rfl⟩, q⟩) hz
theorem vals1 {x : V} {us : List Value} (r : Vals [x] us) : ∃ u, us = [u] ∧ RelV x u := by
  cases r with
  | cons r1 r2 => cases r2; exact ⟨_, rfl, r1⟩
theorem vals2 {x y : V} {us : List Value} (r : Vals [x, y] us) : ∃ u w', us = [u, w'] ∧ RelV x u ∧ RelV y w' := by
  cases r with
  | cons r1 r2 =>
    cases r2 with
    | cons r3 r4 => cases r4; exact ⟨_, _, rfl, r1, r3⟩
theorem call_max2 (hc : X.calm = true) : CallR X (.builtin "max") (fun xs H Q => ∃ i j, xs = [.int i, .int j] ∧ Q (.int (if j > i then j else i)) H) := by
  intro pins s σ H xs us Q I r h
  obtain ⟨i, j, rfl, q⟩ := h
  obtain ⟨u, w', rfl, ⟨t, rfl⟩, ⟨t', rfl⟩⟩ := vals2 r
  refine max_two_ints (I.ok.hd hc) fun h' tk k => ⟨_, H, I.kept k, ?_, q⟩
  by_cases hj : j > i
  · rw [if_pos hj, if_pos hj]; exact ⟨_, rfl⟩
  · rw [if_neg hj, if_neg hj]; exact ⟨_, rfl⟩
theorem call_min2 (hc : X.calm = true) : CallR X (.builtin "min") (fun xs H Q => ∃ i j, xs = [.int i, .int j] ∧ Q (.int (if j < i then j else i)) H) := by
  intro pins s σ H xs us Q I r h
  obtain ⟨i, j, rfl, q⟩ := h
  obtain ⟨u, w', rfl, ⟨t, rfl⟩, ⟨t', rfl⟩⟩ := vals2 r
  refine min_two_ints (I.ok.hd hc) fun h' tk k => ⟨_, H, I.kept k, ?_, q⟩
  by_cases hj : j < i
  · rw [if_pos hj, if_pos hj]; exact ⟨_, rfl⟩
  · rw [if_neg hj, if_neg hj]; exact ⟨_, rfl⟩
theorem call_int1 : CallR X (.type "int") (fun xs H Q => (∃ i, xs = [.int i] ∧ Q (.int i) H) ∨ ∃ k, xs = [.bl k] ∧ Q (.int (if k then 1 else 0)) H) := by
  intro pins s σ H xs us Q I r h
  rcases h with ⟨i, rfl, q⟩ | ⟨k, rfl, q⟩
  · obtain ⟨u, rfl, t, rfl⟩ := vals1 r
    exact call_int_int ⟨.int i, H, I, ⟨_, rfl⟩, q⟩
  · obtain ⟨u, rfl, r1⟩ := vals1 r
    cases r1
    exact call_int_bool ⟨.int (if k then 1 else 0), H, I.tok _, ⟨_, rfl⟩, q⟩
end
end L2
namespace L2
open PySem PySem.Spec PyProof.Rows
section
variable {prog : Program} {w : World} {A : Around} {E : Value → Shared → Prop} {s : Shared} {K : PySem.W.Frag} {x dx C f : Addr} {mA : Str → Option Value} {name : Str} {v : Value}
end
section
variable {P : Program} {w : World} {H H' : Hp} {h h' : Heap} {a C dx : Addr} {fs fs' : List (Str × V)}
end
section
variable {X : Cx} {pins : List (Addr × Obj)} {σ : St} {H : Hp} {s : Shared} {a C dx : Addr} {fs : List (Str × V)} {f : Str} {v : V} {A : Around} {E : Value → Shared → Prop}
end
section
variable {X : Cx} {o e value : Expr} {f : Str} {pos pos' tpos : Pos} {ta tv : TE}
end
section
variable {X : Cx} {pins : List (Addr × Obj)} {σ : St} {H : Hp} {s : Shared} {A : Around} {E : Value → Shared → Prop} {Q : Value → Shared → Prop} {c : Value} {b : Bool}
end
end L2
namespace L2
open PySem PySem.Spec PyProof.Rows
structure Room (k : Nat) (A : Around) : Prop where
  hd : A.handled = none
  dp : A.depth + 3 * k + 5 < recursionLimit
  un : A.units + 16 * k + 200 < cLine
  gd : A.guards = some []
theorem Room.mono {j k : Nat} {A : Around} (r : Room k A) (h : j ≤ k) : Room j A := ⟨r.hd, by have := r.dp; omega, by have := r.un; omega, r.gd⟩
theorem Room.deeper {k : Nat} {A : Around} (r : Room (k + 1) A) (env : Env) : Room k (A.deeper env) :=
  ⟨r.hd, by have := r.dp; show A.depth + 1 + 3 * k + 5 < _; omega, by have := r.un; show A.units + 3 + 16 * k + 200 < _; omega, r.gd⟩
theorem Room.depth {k : Nat} {A : Around} (r : Room k A) : A.depth < recursionLimit := by have := r.dp; omega
theorem Room.units {k : Nat} {A : Around} (r : Room k A) : A.units + 64 < cLine := by have := r.un; omega
def tNil : TA := fun _ H Q => Q [] H
def tCons (ta : TE) (tr : TA) : TA := fun σ H Q => ta σ H fun x H1 => tr σ H1 fun xs H2 => Q (x :: xs) H2
section
variable {X : Cx} {e : Expr} {es : List Expr} {te : TE} {t : TA} {pos : Pos}
theorem pa_nil : PA X [] tNil := fun _ _ _ _ H Q I h => Calls.spliced_nil ⟨[], H, I, .nil, h⟩
theorem pa_cons (ha : PE X e te) (hr : PA X es t) (hs : starEach (e :: es) X.env = (false, eval e X.env) :: starEach es X.env := by rfl) : PA X (e :: es) (tCons te t) := by
  intro pos pins s σ H Q I h
  rw [hs]
  show wpAny _ _ (spliced ((false, eval e X.env) :: backTo pos (starEach es X.env))) _ _ s
  refine Calls.spliced_cons (thn (ha pins s σ H _ I h) fun u s1 ⟨x, H1, I1, r1, q1⟩ => ?_)
  exact thn (hr pos pins s1 σ H1 _ I1 q1) fun us s2 ⟨xs, H2, I2, r2, q2⟩ => ⟨x :: xs, H2, I2, .cons r1 r2, q2⟩
def tTup (t : TA) : TE := fun σ H Q => t σ H fun xs H1 => xs.length ≤ sizeLine ∧ ∀ p, H1 p = none → Q (.ref p) (upd H1 p (.tup xs))
def tLst (t : TA) : TE := fun σ H Q => t σ H fun xs H1 => xs.length ≤ sizeLine ∧ ∀ p, H1 p = none → Q (.ref p) (upd H1 p (.lst xs))
theorem pe_tup {x1} (h : PA X es t) : PE X (.Tuple es x1 pos) (tTup t) := by
  intro pins s σ H Q I hq
  refine wpAny_Tuple_spliced (thn (h pos pins s σ H _ I hq) fun us s1 ⟨xs, H1, I1, r, z, q⟩ => ⟨by rw [← r.length]; exact z, ?_⟩)
  have hf : H1 s1.heap.objs.size = none := I1.hok.fresh (Nat.le_refl _)
  refine ⟨.ref s1.heap.objs.size, upd H1 s1.heap.objs.size (.tup xs), I1.laid (t' := s1.toks) (fun b u e => Heap.get?_push_of_some _ e) (Nat.le_refl _) ?_, rfl, q _ hf⟩
  exact ⟨z, us, r, TupN.new _ _⟩
theorem pe_lst (h : PA X es t) : PE X (.List es pos) (tLst t) := by
  intro pins s σ H Q I hq
  refine wpAny_List_spliced (thn (h pos pins s σ H _ I hq) fun us s1 ⟨xs, H1, I1, r, z, q⟩ => ⟨by rw [← r.length]; exact z, ?_⟩)
  have hf : H1 s1.heap.objs.size = none := I1.hok.fresh (Nat.le_refl _)
  refine ⟨.ref s1.heap.objs.size, upd H1 s1.heap.objs.size (.lst xs), I1.laid (t' := s1.toks) (fun b u e => Heap.get?_push_of_some _ e) (Nat.le_refl _) ?_, rfl, q _ hf⟩
  exact ⟨z, us, 0, r, Heap.get?_push_size _ rfl⟩
end
abbrev Sp := List V → Hp → VK → XK → Prop
abbrev CXT := List Env → Hp → Shared → XK → Value → Shared → Prop
structure Env0 (P : Program) (w : World) (K : PySem.W.Frag) (mg : Str → Option Value) (base : Heap) (A : Around) (outer : List Env) (s : Shared) (H : Hp) : Prop where
  frames : A.frames = some outer
  mod : Mod K mg base
  bs : ∀ b o, base.get? b = some o → s.heap.get? b = some o ∧ H b = none
  bsz : base.objs.size ≤ s.heap.objs.size
  funs : s.heap.FunFrames base outer
  frf : ∀ b ∈ frs outer, H b = none
  hok : HOk P w H s.heap
  bare : AllBare s.gens
def CE (outer : List Env) (P : Program) (w : World) (H : Hp) (s : Shared) (Q : VK) (u : Value) (s' : Shared) : Prop :=
  ∃ v H', s'.os = s.os ∧ AllBare s'.gens ∧ Un (frs outer) [] H H' s.heap s'.heap ∧ HOk P w H' s'.heap ∧ RelV v u ∧ Q v H'
def CR (CX : CXT) (outer : List Env) (P : Program) (w : World) (H : Hp) (s : Shared) (Q : VK) (E : XK) (r : Result) (s' : Shared) : Prop :=
  match r with
  | .ok (.ret u) => CE outer P w H s Q u s'
  | .ok _ => False
  | .error e => CX outer H s E e s'
structure FnOk (P : Program) (w : World) (K : PySem.W.Frag) (mg : Str → Option Value) (base : Heap) (CX : CXT) (k : Nat) (f : Addr) (fd : FuncData) (ps : List Str) (sp : Sp) : Prop where
  len : ∀ vs H Q E, sp vs H Q E → vs.length = ps.length
  run : ∀ (A : Around) (outer : List Env) (s : Shared) (H : Hp) (args : Args) (us : List Value) (vs : List V) (Q : VK) (E : XK), Room k A → Env0 P w K mg base A outer s H → BindsTo s fd args (ps.zip us) → Vals vs us → sp vs H Q E →
    codeAny (model P w) A (.call (.ref f) args) (CR CX outer P w H s Q E) s
theorem FnOk.mono {P : Program} {w : World} {K : PySem.W.Frag} {mg : Str → Option Value} {base : Heap} {CX : CXT} {j k : Nat} {f : Addr} {fd : FuncData} {ps : List Str} {sp : Sp} (F : FnOk P w K mg base CX j f fd ps sp) (h : j ≤ k) :
    FnOk P w K mg base CX k f fd ps sp := ⟨F.len, fun A outer s H args us vs Q E hr => F.run A outer s H args us vs Q E (hr.mono h)⟩
section
variable {X : Cx} {pins : List (Addr × Obj)} {σ : St} {H : Hp} {s s' : Shared}
theorem Inv.env0 (I : Inv X pins σ H s) : Env0 X.prog X.w X.K X.mg X.base X.A X.stack s H :=
  ⟨I.ok.frames, I.ok.mod, I.bs, Nat.le_trans I.ok.bsz I.sz, I.stack, I.stkFree, I.hok, I.bare⟩
theorem Inv.after {Q : VK} {u : Value} (I : Inv X pins σ H s) (h : CE X.stack X.prog X.w H s Q u s') : EP X pins σ Q u s' := by
  obtain ⟨v, H', os, bare, un, hok, r, q⟩ := h
  obtain ⟨hh, g, d, t, os'⟩ := s'
  obtain rfl : os' = s.os := os
  exact ⟨v, H', I.call (h' := hh) (g' := g) (d' := d) (t' := t) (ch := []) un hok bare (fun b z => absurd z (by simp)), r, q⟩
end
def tCall (sp : Sp) (dvs : List V) (E : XK) (t : TA) : TE := fun σ H Q => t σ H fun vs H1 => sp (vs ++ dvs) H1 Q E
def Binds (K : PySem.W.Frag) (fd : FuncData) (ps : List Str) (ds : List Value) : Prop :=
  ∀ (s : Shared) (us : List Value), K.In s.heap → (us ++ ds).length = ps.length → BindsTo s fd ⟨us, []⟩ (ps.zip (us ++ ds))
theorem Binds.all {K : PySem.W.Frag} {fd : FuncData} {ps : List Str} (h : ∀ us : List Value, us.length = ps.length → bindArgs fd ⟨us, []⟩ = pure (ps.zip us)) : Binds K fd ps [] := fun s us _ hl => by
  rw [List.append_nil] at hl ⊢
  exact .of_eq (h us hl)
def Passes (CX : CXT) (X : Cx) (E : XK) : Prop := ∀ (pins : List (Addr × Obj)) (σ : St) (H : Hp) (s : Shared) (e : Value) (s' : Shared), Inv X pins σ H s → CX X.stack H s E e s' → X.xe e s'
section
variable {X : Cx} {CX : CXT} {k : Nat} {f C : Addr} {fd : FuncData} {ps : List Str} {sp : Sp} {dvs : List V} {ds : List Value} {E : XK} {x m : Str} {p pos apos : Pos} {e o : Expr} {es : List Expr} {ta : TE} {t : TA}
theorem run_fn {pins : List (Addr × Obj)} {σ : St} {H : Hp} {s : Shared} {Q : VK} {us : List Value} {vs : List V} (F : FnOk X.prog X.w X.K X.mg X.base CX k f fd ps sp) (hr : Room k X.A) (hb : Binds X.K fd ps ds) (hd : Vals dvs ds) (hx : Passes CX X E)
    (I : Inv X pins σ H s) (r : Vals vs us) (h : sp (vs ++ dvs) H Q E) : wpAny (model X.prog X.w) X.A (call (.ref f) us) (EP X pins σ Q) X.xe s := by
  have r2 : Vals (vs ++ dvs) (us ++ ds) := r.append hd
  have hl : (us ++ ds).length = ps.length := by rw [← r2.length]; exact F.len _ _ _ _ h
  refine wpAny_call (codeAny_mono (F.run X.A X.stack s H ⟨us, []⟩ (us ++ ds) (vs ++ dvs) Q E hr I.env0 (hb s us I.kIn hl) r2 h) fun r s' hq => ?_)
  cases r with
  | error e => exact hx pins σ H s e s' I hq
  | ok fl =>
    cases fl with
    | ret u => exact I.after hq
    | next => exact False.elim hq
    | brk => exact False.elim hq
    | cont => exact False.elim hq
theorem pe_call (F : FnOk X.prog X.w X.K X.mg X.base CX k f fd ps sp) (hr : Room k X.A) (hg : Gl X x) (hm : X.mg x = some (.ref f)) (hk : PySem.W.keepIn X.K (.ref f) = true) (hb : Binds X.K fd ps ds) (hd : Vals dvs ds) (hx : Passes CX X E)
    (ha : PA X (e :: es) t) (hdb : (x == ("__debug__" : Str)) = false := by decide) (he : starEach (e :: es) X.env = (false, eval e X.env) :: starEach es X.env := by rfl) (hpl : (backTo pos (starEach es X.env)).any (·.1) = false := by rfl) :
    PE X (.Call (.Name x p) (e :: es) [] pos) (tCall sp dvs E t) := by
  intro pins s σ H Q I h
  refine wpAny_Call_Name_kw (ld_glob I hg hm ?_ hdb)
  refine PySem.W.callWith_K (h₀ := X.base) I.ok.mod.kin hk (thn (ha pos pins s σ H _ I h) fun us s1 ⟨vs, H1, I1, r, q⟩ => ⟨I1.kIn, ?_⟩) he hpl
  exact run_fn F hr hb hd hx I1 r q
end
section
variable {X : Cx} {CX : CXT} {k : Nat} {f C : Addr} {fd : FuncData} {ps ks : List Str} {sp : Sp} {E : XK} {x m : Str} {p pos apos kpos : Pos} {e o : Expr} {es : List Expr} {kws : List Keyword} {te ta : TE} {t tk : TA} {nm : Option Str}
variable {g : List Value → List Value → List Value} {gV : List V → List V → List V}
end
structure FnScope (N P : List Str) (sc : Scope) : Prop where
  kind : sc.kind = .function
  co : sc.isCoroutine = false
  gen : sc.isGenerator = false
  nd : N.Nodup
  pre : N.take P.length = P
  par : ∀ x ∈ P, sc.names.lookup x = some .local ∨ sc.names.lookup x = some .cell
  nofree : ∀ y ∈ sc.names, y.2 ≠ .free
theorem bindL_out {kindOf : Str → Option NameKind} {x : Str} : ∀ {binds : List (Str × Value)} {m : Str → Option Value}, (∀ v, (x, v) ∉ binds) → bindL kindOf binds m x = m x
  | [], _, _ => rfl
  | (n, v) :: r, m, h => by
    unfold bindL
    rw [bindL_out fun w hw => h w (List.mem_cons_of_mem _ hw)]
    split
    · have : x ≠ n := by rintro rfl; exact h v List.mem_cons_self
      simp [this]
    · rfl
theorem bindC_out {kindOf : Str → Option NameKind} {x : Str} : ∀ {binds : List (Str × Value)} {m : Str → Option Value}, (∀ v, (x, v) ∉ binds) → bindC kindOf binds m x = m x
  | [], _, _ => rfl
  | (n, v) :: r, m, h => by
    unfold bindC
    rw [bindC_out fun w hw => h w (List.mem_cons_of_mem _ hw)]
    split
    · rfl
    · have : x ≠ n := by rintro rfl; exact h v List.mem_cons_self
      simp [this]
theorem bindL_get {kindOf : Str → Option NameKind} {x : Str} {v : Value} : ∀ {P : List Str} {vs : List Value} {i : Nat} {m : Str → Option Value}, P.Nodup → P[i]? = some x → vs[i]? = some v → kindOf x = some .local →
    bindL kindOf (P.zip vs) m x = some v
  | [], _, _, _, _, h, _, _ => by simp at h
  | _ :: _, [], _, _, _, _, h, _ => by simp at h
  | p :: P, w :: vs, 0, m, nd, h1, h2, hk => by
    simp at h1 h2; subst h1; subst h2
    show bindL kindOf ((p, w) :: P.zip vs) m p = _
    unfold bindL
    rw [bindL_out fun v hv => (List.nodup_cons.mp nd).1 (List.of_mem_zip hv).1, if_pos hk]
    simp
  | p :: P, w :: vs, i + 1, m, nd, h1, h2, hk => by
    show bindL kindOf ((p, w) :: P.zip vs) m x = _
    unfold bindL
    exact bindL_get (i := i) (List.nodup_cons.mp nd).2 (by simpa using h1) (by simpa using h2) hk
theorem bindC_get {kindOf : Str → Option NameKind} {x : Str} {v : Value} : ∀ {P : List Str} {vs : List Value} {i : Nat} {m : Str → Option Value}, P.Nodup → P[i]? = some x → vs[i]? = some v → kindOf x ≠ some .local →
    bindC kindOf (P.zip vs) m x = some v
  | [], _, _, _, _, h, _, _ => by simp at h
  | _ :: _, [], _, _, _, _, h, _ => by simp at h
  | p :: P, w :: vs, 0, m, nd, h1, h2, hk => by
    simp at h1 h2; subst h1; subst h2
    show bindC kindOf ((p, w) :: P.zip vs) m p = _
    unfold bindC
    rw [bindC_out fun v hv => (List.nodup_cons.mp nd).1 (List.of_mem_zip hv).1, if_neg hk]
    simp
  | p :: P, w :: vs, i + 1, m, nd, h1, h2, hk => by
    show bindC kindOf ((p, w) :: P.zip vs) m x = _
    unfold bindC
    exact bindC_get (i := i) (List.nodup_cons.mp nd).2 (by simpa using h1) (by simpa using h2) hk
def start (N : List Str) (vs : List V) : St := vs.map some ++ List.replicate (N.length - vs.length) none
def cxOf (CX : CXT) (P : Program) (w : World) (K : PySem.W.Frag) (mg : Str → Option Value) (base : Heap) (N : List Str) (qual : Str) (scope : Scope) (f : Addr) (cd : Value) (A : Around) (outer : List Env) (s : Shared) (H : Hp) (E : XK) : Cx where
  prog := P
  w := w
  K := K
  mg := mg
  base := base
  A := A.deeper (envOfC qual scope s.heap.objs.size f cd)
  N := N
  s₀ := s
  H₀ := H
  env := envOfC qual scope s.heap.objs.size f cd
  outer := outer
  stack := envOfC qual scope s.heap.objs.size f cd :: outer
  ex := []
  calm := true
  fn := fun _ => true
  pn := []
  xe := fun e s' => wpAny (model P w) (A.deeper (envOfC qual scope s.heap.objs.size f cd)) (leaving (envOfC qual scope s.heap.objs.size f cd) e) (fun _ s'' => CX outer H s E e s'') (fun e' s'' => CX outer H s E e' s'') s'
theorem cell_has {sc : Scope} {n : Nat} {x : Str} (h : sc.names.lookup x = some .cell) : ∃ c, (cellsFrom n sc.names []).lookup x = some c := by
  have q := PySem.W.cellsFrom_some sc.names n [] (.inl h)
  exact Option.isSome_iff_exists.mp q
theorem inv_start {CX : CXT} {P : Program} {w : World} {K : PySem.W.Frag} {mg : Str → Option Value} {base : Heap} {N ps : List Str} {qual : Str} {scope : Scope} {f : Addr} {cd : Value} {A : Around} {outer : List Env} {s s1 : Shared} {H : Hp} {E : XK} {us : List Value} {vs : List V}
    (S : FnScope N ps scope) (hd : A.handled = none) (e0 : Env0 P w K mg base A outer s H) (hl : vs.length = ps.length) (r : Vals vs us)
    (x : InCallC s s.heap.objs.size (bindL (envOfC qual scope s.heap.objs.size f cd).kindOf (ps.zip us) fun _ => none) (cellsFrom (s.heap.objs.size + 1) scope.names []) (bindC (envOfC qual scope s.heap.objs.size f cd).kindOf (ps.zip us) fun _ => none) s1) :
    Inv (cxOf CX P w K mg base N qual scope f cd A outer s H E) [] (start N vs) H s1 := by
  have hpl : ps.length ≤ N.length := by have := congrArg List.length S.pre; rw [List.length_take] at this; omega
  obtain ⟨h1, tk, rfl, hk⟩ := x.done
  have noA : ∀ b : Addr, b ∉ (cxOf CX P w K mg base N qual scope f cd A outer s H E).ex := fun b z => absurd (show b ∈ ([] : List Addr) from z) (by simp)
  refine ⟨⟨e0.mod, S.kind, rfl, rfl, Nat.le_refl _, fun y z c h1 h2 => ?_, fun y hy => ?_, fun y c _ h => ?_, fun _ => hd, Around.frames_deeper e0.frames, .inr ⟨rfl, rfl⟩, fun b z => absurd z (noA b), e0.bs, e0.bsz, fun b _ _ => noA b, fun b z => absurd z (noA b), e0.funs, e0.frf⟩,
    rfl, e0.bare, Un.kept hk, ⟨_, x.toInCall.ns, fun i y v h1 h2 h3 => ?_⟩, fun y c h => ⟨_, x.cell y c h⟩, e0.hok.fresh (Nat.le_refl _), fun y c h => ?_, fun p hp => absurd (show p ∈ ([] : List (Addr × Obj)) from hp) (by simp), e0.hok.kept hk, ?_⟩
  · exact name_of_addr x.apart (PySem.mem_of_lookup h1) (PySem.mem_of_lookup h2)
  · have hy : scope.names.lookup y = some .cell ∨ scope.names.lookup y = some .free := hy
    rcases hy with hy | hy
    · exact cell_has hy
    · exact absurd rfl (S.nofree _ (PySem.mem_of_lookup hy))
  · exact Nat.le_of_lt (x.above y c (PySem.mem_of_lookup h))
  · have hi : i < vs.length := by
      unfold start at h2
      by_cases hi : i < vs.length
      · exact hi
      · rw [List.getElem?_append_right (by simpa using hi)] at h2
        rw [List.getElem?_replicate] at h2
        split at h2 <;> cases h2
    have ha : vs[i]? = some v := by
      unfold start at h2
      rw [List.getElem?_append_left (by simpa using hi), List.getElem?_map] at h2
      cases e : vs[i]? with
      | none => rw [e] at h2; cases h2
      | some a => rw [e] at h2; cases h2; rfl
    obtain ⟨u, hu, rv⟩ := r.get ha
    have hp : ps[i]? = some y := by
      rw [← S.pre, List.getElem?_take_of_lt (by omega)]; exact h1
    have ndP : ps.Nodup := by rw [← S.pre]; exact S.nd.sublist (List.take_sublist _ _)
    refine ⟨u, rv, ?_⟩
    rcases S.par y (List.mem_of_getElem? hp) with k | k
    · exact .inl ⟨k, bindL_get ndP hp hu k⟩
    · obtain ⟨c, e⟩ := cell_has (n := s.heap.objs.size + 1) k
      refine .inr ⟨.inl k, c, e, ?_⟩
      have q := x.cell y c e
      rw [bindC_get ndP hp hu (by show scope.names.lookup y ≠ _; rw [k]; decide)] at q
      exact q
  · exact e0.hok.fresh (Nat.le_of_lt (x.above y c (PySem.mem_of_lookup h)))
  · unfold start
    show _ = N.length
    rw [List.length_append, List.length_map, List.length_replicate]
    omega
theorem fn_of {CX : CXT} {P : Program} {w : World} {K : PySem.W.Frag} {mg : Str → Option Value} {base : Heap} {k : Nat} {f : Addr} {name qual : Str} {params : Arguments} {body : List Stmt} {scope : Scope} {dV kV doc pm cdv ct oc : Value} {an od : Option Addr}
    {osl : Array (Option Value)} {N ps : List Str} {sp : Sp} (lk : K.lookup f = some ⟨oc, od, .func (PySem.W.fnOf name qual params body scope dV kV doc pm an cdv ct), osl⟩) (hcd : PySem.W.codeIn K cdv qual = true) (S : FnScope N ps scope)
    (len : ∀ vs H Q E, sp vs H Q E → vs.length = ps.length)
    (hbody : ∀ (A : Around) (outer : List Env) (s : Shared) (H : Hp) (vs : List V) (Q : VK) (E : XK), Room k (A.deeper (envOfC qual scope s.heap.objs.size f cdv)) → sp vs H Q E →
      ∃ t, PSs (cxOf CX P w K mg base N qual scope f cdv A outer s H E) body t ∧ t { nx := fun _ H' => Q .non H', rt := Q } (start N vs) H) :
    FnOk P w K mg base CX (k + 1) f (PySem.W.fnOf name qual params body scope dV kV doc pm an cdv ct) ps sp := by
  refine ⟨len, fun A outer s H args us vs Q E hr e0 hb r hsp => ?_⟩
  have hl := len _ _ _ _ hsp
  have KX : K.In s.heap := e0.mod.kin.keeps fun b o e => (e0.bs b o e).1
  have lim : s.heap.NoLimit := e0.mod.nolimit.keeps fun b o e => (e0.bs b o e).1
  have hkind : ∀ y ∈ ps.zip us, scope.names.lookup y.1 = some .local ∨ (scope.names.lookup y.1 = some .cell ∧ ((cellsFrom (s.heap.objs.size + 1) scope.names []).lookup y.1).isSome = true) := fun ⟨n, v⟩ hy => by
    rcases S.par n (List.of_mem_zip hy).1 with q | q
    · exact .inl q
    · exact .inr ⟨q, PySem.W.cellsFrom_some _ _ _ (.inl q)⟩
  refine codeAny_call_function hr.depth (KX _ _ lk) rfl S.co S.gen rfl (PySem.W.codeRec_of KX hcd) (hb _ _ _ _ ?_)
  refine wpAny_newFunctionEnv_cells S.kind hkind fun env he s1 x => ?_
  subst he
  refine ⟨lim.keeps x.toInCall.keep, codeAny_func ?_⟩
  obtain ⟨t, ht, hq⟩ := hbody A outer s H vs Q E (hr.deeper _) hsp
  have I : Inv (cxOf CX P w K mg base N qual scope f cdv A outer s H E) [] (start N vs) H s1 := inv_start S hr.hd e0 hl r x
  refine wpAny_mono (ht [] s1 (start N vs) H _ I hq) (fun fl s' hs => ?_) fun e s' hs => hs
  have fin : ∀ {σ' : St} {H' : Hp} {v : V} {u : Value}, Inv (cxOf CX P w K mg base N qual scope f cdv A outer s H E) [] σ' H' s' → RelV v u → Q v H' → CE outer P w H s Q u s' :=
    fun {σ' H' v u} J rv q => ⟨v, H', J.os, J.bare, J.base, J.hok, rv, q⟩
  cases fl with
  | ret u =>
    obtain ⟨v, σ', H', J, rv, q⟩ := hs
    exact fin J rv q
  | next =>
    obtain ⟨σ', H', J, q⟩ := hs
    exact fin (v := V.non) (u := Value.none) J rfl q
  | brk =>
    obtain ⟨_, _, _, q⟩ := hs
    exact False.elim q
  | cont =>
    obtain ⟨_, _, _, q⟩ := hs
    exact False.elim q
end L2
namespace L2
open PySem PySem.Spec PyProof.Rows
section
variable {X : Cx} {x : Str} {p pos : Pos} {e : Expr} {es : List Expr} {t : TA} {id T : String} {r : List V → Hp → VK → Prop}
def tCB (r : List V → Hp → VK → Prop) (t : TA) : TE := fun σ H Q => t σ H fun vs H1 => r vs H1 Q
theorem pe_callB (hc : CallR X (.builtin id) r) (hg : Gl X x) (hm : X.mg x = none) (hv : bootBuiltins x = some (.builtin id)) (ha : PA X (e :: es) t) (hn : x ≠ "__name__" := by decide) (hdb : (x == ("__debug__" : Str)) = false := by decide)
    (he : starEach (e :: es) X.env = (false, eval e X.env) :: starEach es X.env := by rfl) (hpl : (backTo pos (starEach es X.env)).any (·.1) = false := by rfl) : PE X (.Call (.Name x p) (e :: es) [] pos) (tCB r t) := by
  intro pins s σ H Q I h
  refine wpAny_Call_Name_kw (ld_blt I hg hm hv ?_ hn hdb)
  exact PyProof.Rows.callWith_builtin1 (thn (ha pos pins s σ H _ I h) fun us s1 ⟨vs, H1, I1, r1, q1⟩ => hc pins s1 σ H1 vs us Q I1 r1 q1) he hpl
theorem pe_callTy (hc : CallR X (.type T) r) (hg : Gl X x) (hm : X.mg x = none) (hv : bootBuiltins x = some (.type T)) (ha : PA X (e :: es) t) (hn : x ≠ "__name__" := by decide) (hdb : (x == ("__debug__" : Str)) = false := by decide)
    (he : starEach (e :: es) X.env = (false, eval e X.env) :: starEach es X.env := by rfl) (hpl : (backTo pos (starEach es X.env)).any (·.1) = false := by rfl) : PE X (.Call (.Name x p) (e :: es) [] pos) (tCB r t) := by
  intro pins s σ H Q I h
  refine wpAny_Call_Name_kw (ld_blt I hg hm hv ?_ hn hdb)
  exact PyProof.Rows.callWith_type1 (thn (ha pos pins s σ H _ I h) fun us s1 ⟨vs, H1, I1, r1, q1⟩ => hc pins s1 σ H1 vs us Q I1 r1 q1) he hpl
end
end L2
namespace HT
open PySem PyProof.Rows
section
open PySem.SeqAt
open PySem.AutoSeq1 (wpAny_loadPart')
open PySem.MeetsSeq PySem.MeetsSeq2 PySem.MeetsSeq3
end
section
variable {prog : Program} {w : World} {A : Around} {E : Value → Shared → Prop} {s : Shared}
theorem cat_tup {t b : Addr} {vs ws : List Value} {Q : Value → Shared → Prop} (ht : IsTup s.heap t vs.toArray) (hb : IsTup s.heap b ws.toArray) (hv : vs ≠ [])
    (h1 : ws = [] → Q (.ref t) s) (h2 : ws ≠ [] → Q (.ref s.heap.objs.size) { s with heap := s.heap.push { cls := .type "tuple", data := .seq (vs ++ ws).toArray } })
    (hsz : vs.length + ws.length ≤ sizeLine) : wpAny (model prog w) A (binaryOp .Add (.ref t) (.ref b)) Q E s := by
  obtain ⟨⟨cls, dd, data, sl⟩, ho, hc, n, hd⟩ := id ht
  obtain ⟨⟨cls2, dd2, data2, sl2⟩, ho2, hc2, n2, hd2⟩ := id hb
  simp only at hc hd hc2 hd2
  subst hc hd hc2 hd2
  have e : vs.toArray ++ ws.toArray = (vs ++ ws).toArray := by simp
  by_cases hw : ws = []
  · exact concat_meets ⟨_, ho, rfl⟩ ⟨_, ho2, rfl⟩ noFill_tuple_add seq_tuple_add PySem.F.slot_tuple_add PySem.F.entry_tuple_add (PySem.F.args_tuple_add_2 _ _)
      (tuple_addW1 t b vs.toArray ws.toArray n n2 dd dd2 sl sl2 (by simpa using hv) (by simp [hw])) ⟨ho, ho2, h1 hw⟩
  · refine concat_meets ⟨_, ho, rfl⟩ ⟨_, ho2, rfl⟩ noFill_tuple_add seq_tuple_add PySem.F.slot_tuple_add PySem.F.entry_tuple_add (PySem.F.args_tuple_add_2 _ _)
      (tuple_addW2 t b vs.toArray ws.toArray n n2 dd dd2 sl sl2 (by simpa using hv) (by simpa using hw) (by rw [List.size_toArray, List.size_toArray]; exact hsz)) ⟨ho, ho2, ?_⟩
    rw [e]
    exact h2 hw
def sIx (n d : Nat) : Option Int → Nat
  | none => d
  | some v => if v < 0 then (v + (n : Int)).toNat else min v.toNat n
theorem sIx_le (n d : Nat) (hd : d ≤ n) (o : Option Int) : sIx n d o ≤ n := by
  cases o with
  | none => exact hd
  | some v =>
    show (if v < 0 then (v + (n : Int)).toNat else min v.toNat n) ≤ n
    by_cases hv : v < 0
    · rw [if_pos hv]; omega
    · rw [if_neg hv]; exact Nat.min_le_right _ _
theorem clip_eq (v : Int) (n d : Nat) : (if v < 0 then max (v + (n : Int)) 0 else min v (n : Int)) = ((sIx n d (some v) : Nat) : Int) := by
  show (if v < 0 then max (v + (n : Int)) 0 else min v (n : Int)) = (((if v < 0 then (v + (n : Int)).toNat else min v.toNat n) : Nat) : Int)
  by_cases hv : v < 0
  · simp only [if_pos hv]; omega
  · simp only [if_neg hv]; omega
theorem adjust_gen (lo hi : Option Int) (n : Nat) : Builtin.Slice.sliceAdjust lo hi 1 (n : Int) = (((sIx n 0 lo : Nat) : Int), ((sIx n n hi : Nat) : Int)) := by
  have h1 : ¬ ((1 : Int) < 0) := by omega
  unfold Builtin.Slice.sliceAdjust
  simp only [h1, if_false]
  refine Prod.ext ?_ ?_
  · cases lo with
    | none => rfl
    | some v => exact clip_eq v n 0
  · cases hi with
    | none => rfl
    | some v => exact clip_eq v n n
theorem places_gen (i j : Nat) : Builtin.Slice.slicePlaces (i : Int) (j : Int) 1 = j - i := by
  unfold Builtin.Slice.slicePlaces
  have h1 : (1 : Int) > 0 := by omega
  simp only [h1, if_true, Int.ediv_one]
  split <;> omega
theorem slicePart_ {v : Value} {o : Option Int} {Q : Option Int → Shared → Prop} (p : IsPart v o) (h : Q o s) : wpAny (model prog w) A (Builtin.Slice.slicePartIndex v) Q E s := by
  cases p with
  | none => exact slicePart_none h
  | int i t => exact slicePart_int h
theorem sliceApplied_gen {sl : Addr} {vl vu : Value} {lo hi : Option Int} {n : Nat} {Q : Int × Int × Nat → Shared → Prop} (hs : s.heap.IsSliceOf sl vl vu .none) (pl : IsPart vl lo) (pu : IsPart vu hi)
    (h : Q (((sIx n 0 lo : Nat) : Int), 1, sIx n n hi - sIx n 0 lo) s) : wpAny (model prog w) A (Builtin.Slice.sliceApplied (.ref sl) (pure (n : Int))) Q E s := by
  obtain ⟨os, hos, hcs, hds⟩ := id hs
  unfold Builtin.Slice.sliceApplied Builtin.Slice.sliceFields
  refine wpAny_bind (wpAny_bind (wpAny_field hos hds (x := vl) rfl (wpAny_bind (wpAny_field hos hds (x := vu) rfl (wpAny_bind (wpAny_field hos hds (x := .none) rfl (wpAny_pure ?_)))))))
  refine wpAny_bind (slicePart_none ?_)
  show wpAny _ _ (if ((1 : Int) == 0) = true then _ else _) _ _ s
  rw [if_neg (by decide)]
  refine wpAny_bind (slicePart_ pl (wpAny_bind (slicePart_ pu (wpAny_bind (wpAny_pure ?_)))))
  show wpAny _ _ (match Builtin.Slice.sliceAdjust lo hi 1 (n : Int) with | (lo, hi) => pure (lo, (1 : Int), Builtin.Slice.slicePlaces lo hi 1)) _ _ s
  rw [adjust_gen lo hi n]
  show wpAny _ _ (pure (((sIx n 0 lo : Nat) : Int), (1 : Int), Builtin.Slice.slicePlaces ((sIx n 0 lo : Nat) : Int) ((sIx n n hi : Nat) : Int) 1)) _ _ s
  rw [places_gen]
  exact wpAny_pure h
theorem pick_gen (xs : Array Value) (i k : Nat) : ((List.range k).filterMap fun (m : Nat) => xs[((i : Int) + (m : Int) * 1).toNat]?).toArray = ((xs.toList.drop i).take k).toArray := by
  have e : (fun (m : Nat) => xs[((i : Int) + (m : Int) * 1).toNat]?) = fun m => xs[i + m]? := by
    funext m
    have : ((i : Int) + (m : Int) * 1).toNat = i + m := by omega
    rw [this]
  rw [e]
  have := pick_run xs i k
  rw [List.filterMap_map] at this
  have e2 : ((fun x => xs[x]?) ∘ fun x => i + x) = fun m => xs[i + m]? := rfl
  rw [e2] at this
  rw [this]
theorem getItem_tuple_cut {t sl : Addr} {items : Array Value} {vl vu : Value} {lo hi : Option Int} {Q : Value → Shared → Prop} (ht : IsTup s.heap t items) (hs : s.heap.IsSliceOf sl vl vu .none) (pl : IsPart vl lo) (pu : IsPart vu hi)
    (hw : ¬ (sIx items.size 0 lo = 0 ∧ sIx items.size items.size hi = items.size))
    (h : Q (.ref s.heap.objs.size) { s with heap := s.heap.push { cls := .type "tuple", data := .seq ((items.toList.drop (sIx items.size 0 lo)).take (sIx items.size items.size hi - sIx items.size 0 lo)).toArray } })
    (hsz : items.size ≤ sizeLine) : wpAny (model prog w) A (getItem (.ref t) (.ref sl)) Q E s := by
  have htake : sizeOk (.seq ((items.toList.drop (sIx items.size 0 lo)).take (sIx items.size items.size hi - sIx items.size 0 lo)).toArray) := by
    show ((items.toList.drop (sIx items.size 0 lo)).take (sIx items.size items.size hi - sIx items.size 0 lo)).toArray.size ≤ sizeLine
    rw [List.size_toArray, List.length_take, List.length_drop, Array.length_toList]
    omega
  have hj : sIx items.size items.size hi ≤ items.size := sIx_le _ _ (Nat.le_refl _) hi
  obtain ⟨os, hos, hcs, hds⟩ := id hs
  have hTs : s.TypeIs (.ref sl) "slice" := ⟨os, hos, hcs⟩
  unfold getItem
  try with_reducible refine wpAny_holding ?_
  first | refine wpAny_bind (wpAny_pure ?_) | skip
  refine wpAny_bind (wpAny_sequenceKey ht.typeIs (by decide) ?_)
  refine wpAny_bind (wpAny_callSpecial?_slot (name := Str.ofString "__getitem__") ht.typeIs PyProof.Rows.slot_tuple_getitem
    (wpAny_call_entry PyProof.Rows.slot_tuple_getitem ht.typeIs entry_tuple_getitem ?_ (args_tuple_getitem _ _)))
  show wpAny _ _ (Builtin.Tuple.tupleItemsOf (.ref t) >>= _) _ _ s
  refine wpAny_bind (tupleItemsOf_ ht ?_)
  refine wpAny_bind (wpAny_typeOf hTs ?_)
  rw [if_pos (by decide)]
  refine wpAny_bind (sliceApplied_gen hs pl pu ?_)
  have hno : ¬ ((((sIx items.size 0 lo : Nat) : Int) == 0 && (1 : Int) == 1 && (sIx items.size items.size hi - sIx items.size 0 lo) == items.size) = true) := by
    intro q
    rw [Bool.and_eq_true, Bool.and_eq_true] at q
    have q1 : ((sIx items.size 0 lo : Nat) : Int) = 0 := eq_of_beq q.1.1
    have q2 : sIx items.size items.size hi - sIx items.size 0 lo = items.size := eq_of_beq q.2
    exact hw ⟨by omega, by omega⟩
  show wpAny _ _ (if (((sIx items.size 0 lo : Nat) : Int) == 0 && (1 : Int) == 1 && (sIx items.size items.size hi - sIx items.size 0 lo) == items.size) = true then _ else _) _ _ s
  rw [if_neg hno, pick_gen]
  first
    | exact wpAny_bind (m := Builtin.Tuple.tupleExact _) (wpAny_newObj_type (wpAny_pure ⟨_, rfl, wpAny_pure h⟩) htake)
    | exact wpAny_bind (m := Builtin.Tuple.tupleExact _) (wpAny_newObj_type (wpAny_bind (wpAny_pure (wpAny_pure ⟨_, rfl, wpAny_pure h⟩))) htake)
    | exact wpAny_bind (wpAny_bind (m := Builtin.Tuple.tupleExact _) (wpAny_newObj_type (wpAny_pure (wpAny_pure ⟨_, rfl, wpAny_pure h⟩)) htake))
    | exact wpAny_bind (wpAny_bind (m := Builtin.Tuple.tupleExact _) (wpAny_newObj_type (wpAny_pure ⟨_, rfl, wpAny_pure h⟩) htake))
end
end HT
namespace L2
open PySem PySem.Spec PyProof.Rows
abbrev TO := St → Hp → (Option Int → Hp → Prop) → Prop
def PO (X : Cx) (e : Option Expr) (t : TO) : Prop :=
  ∀ (pins : List (Addr × Obj)) (s : Shared) (σ : St) (H : Hp) (Q : Option Int → Hp → Prop), Inv X pins σ H s → t σ H Q →
    wpAny (model X.prog X.w) X.A (evalPart e X.env) (fun u s' => ∃ o H', Inv X pins σ H' s' ∧ IsPart u o ∧ Q o H') X.xe s
def tNoPart : TO := fun _ H Q => Q none H
def tPart (t : TE) : TO := fun σ H Q => t σ H fun x H1 => ∃ i, x = .int i ∧ Q (some i) H1
theorem intsAre_of {ns : List Int} : ∀ {us : List Value}, Vals (ns.map V.int) us → IntsAre us ns := by
  induction ns with
  | nil => intro us r; rw [List.map_nil] at r; cases r; exact .nil
  | cons n ns ih =>
    intro us r
    rw [List.map_cons] at r
    cases r with
    | cons r1 r2 =>
      obtain ⟨t, e⟩ := r1
      subst e
      exact .cons n t (ih r2)
section
variable {X : Cx} {e : Expr} {te : TE} {lo hi : Option Expr} {tl th : TO} {pos p2 : Pos}
theorem po_none : PO X none tNoPart := by
  intro pins s σ H Q I h
  rw [evalPart_none]
  exact wpAny_pure ⟨none, H, I, .none, h⟩
theorem po_some (h : PE X e te) : PO X (some e) (tPart te) := by
  intro pins s σ H Q I hw
  rw [evalPart_some]
  refine thn (h pins s σ H _ I hw) fun u s1 ⟨x, H1, I1, r1, q1⟩ => ?_
  obtain ⟨i, rfl, q⟩ := q1
  obtain ⟨t, rfl⟩ := r1
  exact ⟨some i, H1, I1, .int i t, q⟩
def SlR (X : Cx) (r : V → Option Int → Option Int → Hp → VK → Prop) : Prop :=
  ∀ (pins : List (Addr × Obj)) (s : Shared) (σ : St) (H : Hp) (x : V) (v vl vu : Value) (lo hi : Option Int) (sl : Addr) (Q : VK), Inv X pins σ H s → RelV x v → s.heap.IsSliceOf sl vl vu .none → IsPart vl lo → IsPart vu hi → r x lo hi H Q →
    ∃ T id, typeLookup (.type T) "__getitem__" = pure (some (.builtin id)) ∧ s.TypeIs v T ∧ wpAny (model X.prog X.w) X.A (getItem v (.ref sl)) (EP X pins σ Q) X.xe s
theorem SlR.or {r r' : V → Option Int → Option Int → Hp → VK → Prop} (h : SlR X r) (h' : SlR X r') : SlR X (fun x lo hi H Q => r x lo hi H Q ∨ r' x lo hi H Q) := by
  intro pins s σ H x v vl vu lo hi sl Q I rx hs pl pu q
  rcases q with q | q
  · exact h pins s σ H x v vl vu lo hi sl Q I rx hs pl pu q
  · exact h' pins s σ H x v vl vu lo hi sl Q I rx hs pl pu q
def tSl (r : V → Option Int → Option Int → Hp → VK → Prop) (te : TE) (tl th : TO) : TE := fun σ H Q => te σ H fun x H1 => tl σ H1 fun l H2 => th σ H2 fun u H3 => r x l u H3 Q
theorem pe_slice {r : V → Option Int → Option Int → Hp → VK → Prop} (hr : SlR X r) (he : PE X e te) (hl : PO X lo tl) (hu : PO X hi th) : PE X (.Subscript e (.Slice lo hi none p2) pos) (tSl r te tl th) := by
  intro pins s σ H Q I h
  refine Subscript_ (thn (he pins s σ H _ I h) fun v s1 ⟨x, H1, I1, r1, q1⟩ => ?_)
  refine wpAny_Slice (thn (hl pins s1 σ H1 _ I1 q1) fun vl s2 ⟨l, H2, I2, pl, q2⟩ => thn (hu pins s2 σ H2 _ I2 q2) fun vu s3 ⟨u, H3, I3, pu, q3⟩ => ?_)
  rw [evalPart_none]
  refine wpAny_pure ?_
  have I4 : Inv X pins σ H3 { s3 with heap := s3.heap.push { cls := .type "slice", data := .fields #[vl, vu, .none] } } := I3.kept (t' := s3.toks) fun b ob q => Heap.get?_push_of_some _ q
  obtain ⟨T, id, hT, ht, hg⟩ := hr pins { s3 with heap := s3.heap.push { cls := .type "slice", data := .fields #[vl, vu, .none] } } σ H3 x v vl vu l u s3.heap.objs.size Q I4 r1 (Heap.IsSliceOf.new ..) pl pu q3
  show wpAny (model X.prog X.w) X.A (subscriptTail e (.Slice lo hi none p2) v (.ref s3.heap.objs.size)) (EP X pins σ Q) X.xe { s3 with heap := s3.heap.push { cls := .type "slice", data := .fields #[vl, vu, .none] } }
  exact tail_any (ops := [.ref s3.heap.objs.size, v]) ht hT hg (by with_unfolding_all rfl)
def cutV (xs : List V) (lo hi : Option Int) : List V := (xs.drop (HT.sIx xs.length 0 lo)).take (HT.sIx xs.length xs.length hi - HT.sIx xs.length 0 lo)
theorem cutV_length (xs : List V) (lo hi : Option Int) : (cutV xs lo hi).length ≤ xs.length := by
  unfold cutV
  rw [List.length_take, List.length_drop]
  omega
def rSlT (K : PySem.W.Frag) : V → Option Int → Option Int → Hp → VK → Prop := fun x lo hi H Q => ∃ a xs, x = .ref a ∧ SqT K H a xs ∧
  ¬ (HT.sIx xs.length 0 lo = 0 ∧ HT.sIx xs.length xs.length hi = xs.length) ∧ ∀ p, H p = none → Q (.ref p) (upd H p (.tup (cutV xs lo hi)))
theorem sl_tup : SlR X (rSlT X.K) := by
  intro pins s σ H x v vl vu lo hi sl Q I rx hs pl pu h
  obtain ⟨a, xs, rfl, hx, hw, q⟩ := h
  cases rx
  obtain ⟨its, r, ht, hz⟩ := I.tuple hx
  have hlen : its.toArray.size = xs.length := by rw [List.size_toArray]; exact r.length.symm
  refine ⟨"tuple", _, PyProof.Rows.slot_tuple_getitem.lookup, ht.typeIs, ?_⟩
  refine HT.getItem_tuple_cut ht hs pl pu (by rw [hlen]; exact hw) ?_ (by rw [hlen]; exact hz)
  rw [hlen]
  refine ⟨.ref s.heap.objs.size, _, I.laid (t' := s.toks) (o := .tup (cutV xs lo hi)) (fun b ob q => Heap.get?_push_of_some _ q) (Nat.le_refl _) ?_, rfl, q _ (I.hok.fresh (Nat.le_refl _))⟩
  exact ⟨Nat.le_trans (cutV_length xs lo hi) hz, _, (r.drop (HT.sIx xs.length 0 lo)).take (HT.sIx xs.length xs.length hi - HT.sIx xs.length 0 lo), TupN.new _ _⟩
def rCatT (K : PySem.W.Frag) : R2 := fun x y H Q => ∃ a b xs ys, x = .ref a ∧ y = .ref b ∧ SqT K H a xs ∧ SqT K H b ys ∧ xs ≠ [] ∧ xs.length + ys.length ≤ sizeLine ∧
  (ys = [] → Q (.ref a) H) ∧ (ys ≠ [] → ∀ p, H p = none → Q (.ref p) (upd H p (.tup (xs ++ ys))))
theorem Vals.nil_iff {xs : List V} {us : List Value} (r : Vals xs us) : us = [] ↔ xs = [] := by
  cases r with
  | nil => simp
  | cons _ _ => simp
theorem op_catT : OpR X (binaryOp .Add) (rCatT X.K) := by
  intro pins s σ H x y v u Q I rx ry h
  obtain ⟨a, b, xs, ys, rfl, rfl, ha, hb, hx, hz, q1, q2⟩ := h
  cases rx
  cases ry
  obtain ⟨its, r1, p1, _⟩ := I.tuple ha
  obtain ⟨its2, r2, p2, _⟩ := I.tuple hb
  refine HT.cat_tup p1 p2 (fun z => hx (r1.nil_iff.mp z)) (fun z => ⟨.ref a, H, I, rfl, q1 (r2.nil_iff.mp z)⟩) (fun z => ?_) (by rw [← r1.length, ← r2.length]; exact hz)
  refine ⟨.ref s.heap.objs.size, _, I.laid (t' := s.toks) (o := .tup (xs ++ ys)) (fun b ob q => Heap.get?_push_of_some _ q) (Nat.le_refl _) ?_, rfl, q2 (fun w => z (r2.nil_iff.mpr w)) _ (I.hok.fresh (Nat.le_refl _))⟩
  exact ⟨by rw [List.length_append]; exact hz, _, r1.append r2, TupN.new _ _⟩
end
end L2
namespace L2
open PySem PySem.Spec PyProof.Rows
def ixN (n : Nat) (i : Int) : Option Nat := if 0 ≤ i then (if i < n then some i.toNat else none) else if -(n : Int) ≤ i then some (i + n).toNat else none
def atI {α : Type} (xs : List α) (i : Int) : Option α := (ixN xs.length i).bind fun j => xs[j]?
theorem ixN_seq {n : Nat} {i : Int} {j : Nat} (h : ixN n i = some j) : seqIndex? i n = some j ∧ j < n ∧ -(n : Int) ≤ i ∧ i < n := by
  unfold ixN at h
  by_cases h0 : 0 ≤ i
  · rw [if_pos h0] at h
    by_cases h1 : i < n
    · rw [if_pos h1] at h
      have e : i.toNat = j := Option.some.inj h
      exact ⟨by rw [seqIndex_of h0 h1, e], by omega, by omega, h1⟩
    · rw [if_neg h1] at h; cases h
  · rw [if_neg h0] at h
    by_cases h1 : -(n : Int) ≤ i
    · rw [if_pos h1] at h
      have e : (i + n).toNat = j := Option.some.inj h
      exact ⟨by rw [seqIndex_neg (by omega) h1, e], by omega, h1, by omega⟩
    · rw [if_neg h1] at h; cases h
theorem atI_get {α : Type} {xs : List α} {i : Int} {v : α} (h : atI xs i = some v) : ∃ j, seqIndex? i xs.length = some j ∧ xs[j]? = some v ∧ j < xs.length ∧ -(xs.length : Int) ≤ i ∧ i < xs.length := by
  unfold atI at h
  cases e : ixN xs.length i with
  | none => rw [e] at h; cases h
  | some j =>
    rw [e] at h
    obtain ⟨h1, h2, h3, h4⟩ := ixN_seq e
    exact ⟨j, h1, h, h2, h3, h4⟩
theorem atI_nat {α : Type} {xs : List α} {j : Nat} {v : α} (h : xs[j]? = some v) : atI xs (j : Int) = some v := by
  have hj : j < xs.length := (List.getElem?_eq_some_iff.mp h).1
  have e : ixN xs.length (j : Int) = some j := by
    unfold ixN
    rw [if_pos (by omega), if_pos (by omega)]; simp
  unfold atI; rw [e]; exact h
def PlainIx (b : Expr) : Prop := ∀ o i, subscripted b false o i = operate [o, i] (getItem o i)
def IxR (X : Cx) (r : R2) : Prop :=
  ∀ (value slice : Expr) (pins : List (Addr × Obj)) (s : Shared) (σ : St) (H : Hp) (x y : V) (v u : Value) (Q : VK), Inv X pins σ H s → RelV x v → RelV y u → r x y H Q →
    subscripted slice false v u = operate [v, u] (getItem v u) → wpAny (model X.prog X.w) X.A (subscriptTail value slice v u) (EP X pins σ Q) X.xe s
def MtR (X : Cx) (id : String) (r : V → List V → Hp → VK → Prop) : Prop :=
  ∀ (pins : List (Addr × Obj)) (s : Shared) (σ : St) (H : Hp) (x : V) (xs : List V) (v : Value) (us : List Value) (Q : VK), Inv X pins σ H s → RelV x v → Vals xs us → r x xs H Q →
    wpAny (model X.prog X.w) X.A (call (.builtin id) (v :: us)) (EP X pins σ Q) X.xe s
section
variable {X : Cx} {a b : Expr} {ta tb : TE} {pos : Pos}
theorem IxR.or {r r' : R2} (h : IxR X r) (h' : IxR X r') : IxR X (fun x y H Q => r x y H Q ∨ r' x y H Q) := by
  intro value slice pins s σ H x y v u Q I rx ry q hs
  rcases q with q | q
  · exact h value slice pins s σ H x y v u Q I rx ry q hs
  · exact h' value slice pins s σ H x y v u Q I rx ry q hs
theorem pe_ix {r : R2} (hr : IxR X r) (ha : PE X a ta) (hb : PE X b tb) (hs : PlainIx b) : PE X (.Subscript a b pos) (tOp r ta tb) := by
  intro pins s σ H Q I h
  exact Subscript_ (binT ha hb I h fun v u s2 x y H2 I2 rx ry q => hr a b pins s2 σ H2 x y v u Q I2 rx ry q (hs _ _))
def rIxL (K : PySem.W.Frag) : R2 := fun x y H Q => ∃ p xs i v, x = .ref p ∧ y = .int i ∧ SqL K H p xs ∧ atI xs i = some v ∧ Q v H
def rIxT (K : PySem.W.Frag) : R2 := fun x y H Q => ∃ p xs i v, x = .ref p ∧ y = .int i ∧ SqT K H p xs ∧ atI xs i = some v ∧ Q v H
theorem ix_list : IxR X (rIxL X.K) := by
  intro value slice pins s σ H x y v u Q I rx ry h hs
  obtain ⟨p, xs, i, z, rfl, rfl, hq, he, q⟩ := h
  cases rx
  obtain ⟨t, rfl⟩ := ry
  obtain ⟨its, r, pl, hz⟩ := I.list hq
  obtain ⟨j, h1, h2, h3, h4, h5⟩ := atI_get he
  obtain ⟨w, ew, rw'⟩ := r.get h2
  have hl := r.length
  have hn := line63
  have fin : EP X pins σ Q w s := ⟨z, H, I, rw', q⟩
  by_cases h0 : 0 ≤ i
  · have hj : i.toNat = j := by
      rw [seqIndex_of h0 h5] at h1
      exact Option.some.inj h1
    exact item_listR pl.isList h0 (by omega) (by rw [hj]; simpa using ew) fin hs
  · have hj : (i + (its.toArray.size : Int)).toNat = j := by
      rw [seqIndex_neg (by omega) h4] at h1
      rw [List.size_toArray, ← hl]
      exact Option.some.inj h1
    exact subscriptTail_builtinR (x := w) pl.isList.typeIs slot_list_getitem.lookup
      (wpAny_getItem_list_neg (Q := fun r s' => r = w ∧ EP X pins σ Q r s') pl.isList (by omega) (by rw [List.size_toArray] <;> omega) (by omega) (by rw [hj]; simpa using ew) ⟨rfl, fin⟩) hs
theorem ix_tup : IxR X (rIxT X.K) := by
  intro value slice pins s σ H x y v u Q I rx ry h hs
  obtain ⟨p, xs, i, z, rfl, rfl, hq, he, q⟩ := h
  cases rx
  obtain ⟨t, rfl⟩ := ry
  obtain ⟨its, r, pl, hz⟩ := I.tuple hq
  obtain ⟨j, h1, h2, h3, h4, h5⟩ := atI_get he
  obtain ⟨w, ew, rw'⟩ := r.get h2
  have hl := r.length
  have hn := line63
  have fin : EP X pins σ Q w s := ⟨z, H, I, rw', q⟩
  exact subscriptTail_builtinR (x := w) pl.typeIs slot_tuple_getitem.lookup
    (getItem_tuple (j := j) (Q := fun r s' => r = w ∧ EP X pins σ Q r s') pl (by omega) (by omega) (by rw [List.size_toArray, ← hl]; exact h1) (by simpa using ew) ⟨rfl, fin⟩) hs
theorem mapSeq_set (its : List Value) (n j : Nat) (u : Value) : Obj.mapSeq (·.setIfInBounds j u) { cls := .type "list", data := .seq its.toArray n } = { cls := .type "list", data := .seq (its.set j u).toArray n } := by
  simp [Obj.mapSeq]
theorem Inv.lst {pins : List (Addr × Obj)} {σ : St} {H : Hp} {s : Shared} {p : Addr} {xs : List V} (I : Inv X pins σ H s) (h : H p = some (.lst xs)) :
    ∃ (its : List Value) (n : Nat), Vals xs its ∧ s.heap.get? p = some { cls := .type "list", data := .seq its.toArray n } ∧ xs.length ≤ sizeLine := by
  obtain ⟨z, its, n, r, e⟩ := I.hok p _ h
  exact ⟨its, n, r, e, z⟩
theorem Inv.lstUpd {pins : List (Addr × Obj)} {σ : St} {H : Hp} {s : Shared} {p : Addr} {xs ys : List V} {its its' : List Value} {n n' : Nat} {f : Obj → Obj} (I : Inv X pins σ H s) (h : H p = some (.lst xs))
    (ho : s.heap.get? p = some { cls := .type "list", data := .seq its.toArray n }) (hf : f { cls := .type "list", data := .seq its.toArray n } = { cls := .type "list", data := .seq its'.toArray n' }) (r : Vals ys its') (hz : ys.length ≤ sizeLine) (t : Nat) :
    Inv X pins σ (upd H p (.lst ys)) { s with heap := s.heap.update p f, toks := t } := by
  have e : (s.heap.update p f).get? p = some { cls := .type "list", data := .seq its'.toArray n' } := by
    rw [Heap.get?_update_self f ho (by rw [hf] <;> rfl), hf]
  refine I.write (x := p) (e := p) (by rw [h]; trivial) (.inl rfl) (fun b u hb q => (Heap.get?_update_other _ _ (Ne.symm hb)).trans q) ⟨_, e⟩ ?_
  exact ⟨hz, its', n', r, e⟩
def rSetL : V → V → V → Hp → (Hp → Prop) → Prop := fun o i v H Q => ∃ p xs k j, o = .ref p ∧ i = .int k ∧ H p = some (.lst xs) ∧ ixN xs.length k = some j ∧ Q (upd H p (.lst (xs.set j v)))
theorem set_list : PSet X rSetL := by
  intro pins s σ H o i v ov iv u Q I ro ri rv h
  obtain ⟨p, xs, k, j, rfl, rfl, hp, hj, q⟩ := h
  cases ro
  obtain ⟨t, rfl⟩ := ri
  obtain ⟨its, n, r, ho, hz⟩ := I.lst hp
  obtain ⟨h1, h2, h3, h4⟩ := ixN_seq hj
  have hl := r.length
  have hn := line63
  have I' : Inv X pins σ (upd H p (.lst (xs.set j v))) { s with heap := s.heap.update p (Obj.mapSeq (·.setIfInBounds j u)) } :=
    I.lstUpd hp ho (mapSeq_set its n j u) (r.set rv j) (by rw [List.length_set]; exact hz) s.toks
  by_cases h0 : 0 ≤ k
  · have hk : k.toNat = j := by
      rw [seqIndex_of h0 h4] at h1
      exact Option.some.inj h1
    exact PySem.W.ki_setAt ho h0 (by omega) (by rw [List.size_toArray, ← hl]; exact h4) (by rw [hk]; exact ⟨_, I', q⟩)
  · have hk : (k + (its.toArray.size : Int)).toNat = j := by
      rw [seqIndex_neg (by omega) h3] at h1
      rw [List.size_toArray, ← hl]
      exact Option.some.inj h1
    exact PySem.W.ki_setBack ho (by omega) (by rw [List.size_toArray, ← hl]; exact h3) (by omega) (by rw [hk]; exact ⟨_, I', q⟩)
theorem slice_bounds (lo hi : Option Int) (n : Nat) : (sliceBounds lo hi none n).1 = ((HT.sIx n 0 lo : Nat) : Int) ∧ (sliceBounds lo hi none n).2.1 = ((HT.sIx n n hi : Nat) : Int) ∧ (sliceBounds lo hi none n).2.2 = 1 := by
  refine ⟨?_, ?_, rfl⟩
  · cases lo with
    | none => simp [sliceBounds, HT.sIx]
    | some i =>
      simp only [sliceBounds, HT.sIx, Option.getD_none, show (1 : Int) > 0 by decide, if_true]
      by_cases h : i < 0
      · simp only [h, if_true] <;> omega
      · simp only [h, if_false] <;> omega
  · cases hi with
    | none => simp [sliceBounds, HT.sIx]
    | some i =>
      simp only [sliceBounds, HT.sIx, Option.getD_none, show (1 : Int) > 0 by decide, if_true]
      by_cases h : i < 0
      · simp only [h, if_true] <;> omega
      · simp only [h, if_false] <;> omega
theorem slicePick_cut (its : List Value) (lo hi : Option Int) : slicePick its.toArray lo hi none = ((its.drop (HT.sIx its.length 0 lo)).take (HT.sIx its.length its.length hi - HT.sIx its.length 0 lo)).toArray := by
  obtain ⟨h1, h2, h3⟩ := slice_bounds lo hi its.toArray.size
  unfold slicePick
  rw [h1, h2, h3]
  simp only [sliceRange_one, pick_run, List.size_toArray] <;> rfl
def rSlL (K : PySem.W.Frag) : V → Option Int → Option Int → Hp → VK → Prop := fun x lo hi H Q => ∃ a xs, x = .ref a ∧ SqL K H a xs ∧ ∀ p, H p = none → Q (.ref p) (upd H p (.lst (cutV xs lo hi)))
theorem sl_list : SlR X (rSlL X.K) := by
  intro pins s σ H x v vl vu lo hi sl Q I rx hs pl pu h
  obtain ⟨a, xs, rfl, hx, q⟩ := h
  cases rx
  obtain ⟨its, r, ht, hz⟩ := I.list hx
  have hlen := r.length
  refine ⟨"list", _, slot_list_getitem.lookup, ht.isList.typeIs, ?_⟩
  refine wpAny_getItem_list_slice ht.isList hs pl pu .none (by simp) ?_ (by rw [List.size_toArray] <;> omega)
  rw [slicePick_cut, ← hlen]
  refine ⟨.ref s.heap.objs.size, _, I.laid (t' := s.toks) (o := .lst (cutV xs lo hi)) (fun b ob q => Heap.get?_push_of_some _ q) (Nat.le_refl _) ?_, rfl, q _ (I.hok.fresh (Nat.le_refl _))⟩
  exact ⟨Nat.le_trans (cutV_length xs lo hi) hz, _, 0, (r.drop (HT.sIx xs.length 0 lo)).take (HT.sIx xs.length xs.length hi - HT.sIx xs.length 0 lo), Heap.get?_push_size _ rfl⟩
def flatV : V → Bool
  | .non => true
  | .bl _ => true
  | .int _ => true
  | .str _ => true
  | _ => false
def eqV : V → V → Bool
  | .non, .non => true
  | .bl a, .bl b => a == b
  | .bl a, .int b => (if a then 1 else 0) == b
  | .int a, .bl b => a == (if b then 1 else 0)
  | .int a, .int b => a == b
  | .str a, .str b => a == b
  | _, _ => false
theorem eqAt_V {A : Around} {s : Shared} {y x : V} {u v : Value} (ry : RelV y u) (rx : RelV x v) (fy : flatV y = true) (fx : flatV x = true) : SeqAt.EqAt A s u v (eqV y x) := by
  cases y with
  | non =>
    cases ry
    cases x with
    | non => cases rx; exact SeqAt.EqAt.same _
    | bl b => cases rx; exact SeqAt.EqAt.none_bool b
    | int b => obtain ⟨t, rfl⟩ := rx; exact SeqAt.EqAt.none_int b t
    | str b => obtain ⟨t, rfl⟩ := rx; exact SeqAt.EqAt.none_str b t
    | _ => exact absurd (show false = true from fx) Bool.false_ne_true
  | bl a =>
    cases ry
    cases x with
    | non => cases rx; exact SeqAt.EqAt.bool_none a
    | bl b => cases rx; exact SeqAt.EqAt.bool_bool a b
    | int b => obtain ⟨t, rfl⟩ := rx; exact SeqAt.EqAt.bool_int a b t
    | str b => obtain ⟨t, rfl⟩ := rx; exact SeqAt.EqAt.bool_str a b t
    | _ => exact absurd (show false = true from fx) Bool.false_ne_true
  | int a =>
    obtain ⟨t', rfl⟩ := ry
    cases x with
    | non => cases rx; exact SeqAt.EqAt.int_none a t'
    | bl b => cases rx; exact SeqAt.EqAt.int_bool a t' b
    | int b => obtain ⟨t, rfl⟩ := rx; exact SeqAt.EqAt.int_int a t' b t
    | str b => obtain ⟨t, rfl⟩ := rx; exact SeqAt.EqAt.int_str a t' b t
    | _ => exact absurd (show false = true from fx) Bool.false_ne_true
  | str a =>
    obtain ⟨t', rfl⟩ := ry
    cases x with
    | non => cases rx; exact SeqAt.EqAt.str_none a t'
    | bl b => cases rx; exact SeqAt.EqAt.str_bool a t' b
    | int b => obtain ⟨t, rfl⟩ := rx; exact SeqAt.EqAt.str_int a t' b t
    | str b => obtain ⟨t, rfl⟩ := rx; exact SeqAt.EqAt.str_str a t' b t
    | _ => exact absurd (show false = true from fx) Bool.false_ne_true
  | _ => exact absurd (show false = true from fy) Bool.false_ne_true
def eqU (x : V) (u : Value) : Bool := match u with
  | .none => eqV .non x
  | .bool b => eqV (.bl b) x
  | .int i _ => eqV (.int i) x
  | .str z _ => eqV (.str z) x
  | _ => false
theorem eqU_of {x y : V} {u : Value} (r : RelV y u) (f : flatV y = true) : eqU x u = eqV y x := by
  cases y with
  | non => cases r; rfl
  | bl b => cases r; rfl
  | int i => obtain ⟨t, rfl⟩ := r; rfl
  | str z => obtain ⟨t, rfl⟩ := r; rfl
  | _ => exact absurd (show false = true from f) Bool.false_ne_true
theorem any_eqU {x : V} : ∀ {xs : List V} {us : List Value}, Vals xs us → xs.all flatV = true → us.any (eqU x) = xs.any fun y => eqV y x
  | _, _, .nil, _ => rfl
  | y :: xs, u :: us, .cons r t, f => by
    rw [List.all_cons, Bool.and_eq_true] at f
    rw [List.any_cons, List.any_cons, eqU_of r f.1, any_eqU t f.2]
theorem mem_eqAt {A : Around} {s : Shared} {x : V} {v : Value} (rx : RelV x v) (fx : flatV x = true) : ∀ {xs : List V} {us : List Value}, Vals xs us → xs.all flatV = true → ∀ u ∈ us, SeqAt.EqAt A s u v (eqU x u)
  | _, _, .nil, _ => fun u hu => by cases hu
  | y :: xs, u :: us, .cons r t, f => fun u' hu => by
    rw [List.all_cons, Bool.and_eq_true] at f
    rcases List.mem_cons.mp hu with rfl | hu
    · rw [eqU_of r f.1]; exact eqAt_V r rx f.1 fx
    · exact mem_eqAt rx fx t f.2 u' hu
def inV (x : V) (xs : List V) : Bool := xs.any fun y => eqV y x
def rIn (K : PySem.W.Frag) (neg : Bool) : R2 := fun x y H Q => ∃ p xs, y = .ref p ∧ (SqL K H p xs ∨ SqT K H p xs) ∧ flatV x = true ∧ xs.all flatV = true ∧ Q (.bl (if neg then !inV x xs else inV x xs)) H
theorem op_notIn_seq : OpR X (compareOp .NotIn) (rIn X.K true) := by
  intro pins s σ H x y v u Q I rx ry h
  obtain ⟨p, xs, rfl, hq, fx, fs, q⟩ := h
  cases ry
  rcases hq with hq | hq
  · obtain ⟨its, r, pl, hz⟩ := I.list hq
    refine SeqAt.notIn_listAt (eqU x) pl.isList (fun w hw => mem_eqAt rx fx r fs w (by simpa using hw)) ⟨.bl _, H, I, rfl, ?_⟩
    rw [show its.toArray.any (eqU x) = its.any (eqU x) by simp, any_eqU r fs]
    exact q
  · obtain ⟨its, r, pl, hz⟩ := I.tuple hq
    refine SeqAt.notIn_tupleAt (eqU x) pl (fun w hw => mem_eqAt rx fx r fs w (by simpa using hw)) ⟨.bl _, H, I, rfl, ?_⟩
    rw [show its.toArray.any (eqU x) = its.any (eqU x) by simp, any_eqU r fs]
    exact q
theorem call_len_seq : CallR X (.builtin "len") (fun xs H Q => ∃ p ys, xs = [.ref p] ∧ (SqL X.K H p ys ∨ SqT X.K H p ys) ∧ Q (.int ys.length) H) := by
  intro pins s σ H xs us Q I r h
  obtain ⟨p, ys, rfl, hq, q⟩ := h
  obtain ⟨u, rfl, rx⟩ := vals1 r
  cases rx
  have hn := line63
  rcases hq with hq | hq
  · obtain ⟨its, r', pl, hz⟩ := I.list hq
    have hlen := r'.length
    exact Calls.call_len_list pl.isList (by simp only [List.size_toArray] <;> omega) ⟨.int ys.length, H, I.tok _, ⟨s.toks + 1, by rw [List.size_toArray, hlen]⟩, q⟩
  · obtain ⟨its, r', pl, hz⟩ := I.tuple hq
    have hlen := r'.length
    exact len_tuple pl (by simp only [List.size_toArray] <;> omega) ⟨.int ys.length, H, I.tok _, ⟨s.toks + 1, by rw [List.size_toArray, hlen]⟩, q⟩
theorem CallR.or {f : Value} {r r' : List V → Hp → VK → Prop} (h : CallR X f r) (h' : CallR X f r') : CallR X f (fun xs H Q => r xs H Q ∨ r' xs H Q) := by
  intro pins s σ H xs us Q I rs q
  rcases q with q | q
  · exact h pins s σ H xs us Q I rs q
  · exact h' pins s σ H xs us Q I rs q
theorem call_list_of : CallR X (.type "list") (fun xs H Q => ∃ p ys, xs = [.ref p] ∧ (SqL X.K H p ys ∨ SqT X.K H p ys) ∧ ∀ l, H l = none → Q (.ref l) (upd H l (.lst ys))) := by
  intro pins s σ H xs us Q I r h
  obtain ⟨p, ys, rfl, hq, q⟩ := h
  obtain ⟨u, rfl, rx⟩ := vals1 r
  cases rx
  have fin : ∀ (its : List Value), Vals ys its → ys.length ≤ sizeLine → ∀ (h' : Heap) (c' : Nat), (∀ b o', s.heap.get? b = some o' → h'.get? b = some o') →
      h'.get? s.heap.objs.size = some { cls := .type "list", dict := none, data := .seq its.toArray c', slots := #[] } → EP X pins σ Q (.ref s.heap.objs.size) { s with heap := h' } := fun its r' hz h' c' kp e =>
    ⟨.ref s.heap.objs.size, _, I.laid (t' := s.toks) kp (Nat.le_refl _) (show ObjOk X.prog X.w _ h' _ (.lst ys) from ⟨hz, its, c', r', e⟩), rfl, q _ (I.hok.fresh (Nat.le_refl _))⟩
  rcases hq with hq | hq
  · obtain ⟨its, r', pl, hz⟩ := I.list hq
    have hlen := r'.length
    obtain ⟨o, ho, hc, n, hd⟩ := pl.isList
    exact call_list_seq p (.inl rfl) ho hc hd (fun h' c' kp e => fin its r' hz h' c' kp e) (by simp only [List.size_toArray] <;> omega)
  · obtain ⟨its, r', pl, hz⟩ := I.tuple hq
    have hlen := r'.length
    obtain ⟨o, ho, hc, n, hd⟩ := pl
    exact call_list_seq p (.inr rfl) ho hc hd (fun h' c' kp e => fin its r' hz h' c' kp e) (by simp only [List.size_toArray] <;> omega)
theorem call_tuple_of : CallR X (.type "tuple") (fun xs H Q => ∃ p ys, xs = [.ref p] ∧ ((SqL X.K H p ys ∧ ∀ l, H l = none → Q (.ref l) (upd H l (.tup ys))) ∨ (SqT X.K H p ys ∧ Q (.ref p) H))) := by
  intro pins s σ H xs us Q I r h
  obtain ⟨p, ys, rfl, h⟩ := h
  obtain ⟨u, rfl, rx⟩ := vals1 r
  cases rx
  rcases h with ⟨hq, q⟩ | ⟨hq, q⟩
  · obtain ⟨its, r', pl, hz⟩ := I.list hq
    have hlen := r'.length
    refine call_tuple_list pl.isList (fun h' kp => ?_) (by simp only [List.size_toArray] <;> omega)
    have I1 : Inv X pins σ H { s with heap := h' } := I.kept (t' := s.toks) kp
    have I2 : Inv X pins σ (upd H h'.objs.size (.tup ys)) { s with heap := h'.push { cls := .type "tuple", data := .seq its.toArray } } :=
      I1.laid (t' := s.toks) (fun b o e => Heap.get?_push_of_some _ e) (Nat.le_refl _) (show ObjOk X.prog X.w _ _ _ (.tup ys) from ⟨hz, its, r', TupN.new _ _⟩)
    exact ⟨.ref h'.objs.size, _, I2, rfl, q _ (I1.hok.fresh (Nat.le_refl _))⟩
  · obtain ⟨its, r', pl, hz⟩ := I.tuple hq
    exact call_tuple_same pl ⟨.ref p, H, I, rfl, q⟩
def tyV (K : PySem.W.Frag) (T : String) (x : V) (H : Hp) : Prop := match x with
  | .str _ => T = "str"
  | .int _ => T = "int"
  | .ref p => (T = "list" ∧ ∃ xs, SqL K H p xs) ∨ (T = "tuple" ∧ ∃ o, K.lookup p = some o ∧ o.cls = .type "tuple" ∧ o.dict = none) ∨
      (T = "dict" ∧ ((∃ kvs, H p = some (.dK kvs)) ∨ ∃ kvs, H p = some (.dT kvs))) ∨ (T = "set" ∧ ∃ S n, H p = some (.set S n))
  | _ => False
theorem tyV_is {pins : List (Addr × Obj)} {σ : St} {H : Hp} {s : Shared} {T : String} {x : V} {v : Value} (I : Inv X pins σ H s) (r : RelV x v) (ty : tyV X.K T x H) :
    s.TypeIs v T ∧ ∀ a, v = .ref a → ∃ ob, s.heap.get? a = some ob ∧ ob.dict = none := by
  cases x with
  | str z =>
    obtain ⟨t, rfl⟩ := r
    cases (show T = "str" from ty)
    exact ⟨typeIs_str s z t, fun _ e => nomatch e⟩
  | int i =>
    obtain ⟨t, rfl⟩ := r
    cases (show T = "int" from ty)
    exact ⟨typeIs_int s i t, fun _ e => nomatch e⟩
  | ref p =>
    cases r
    rcases ty with ⟨rfl, xs, hq⟩ | ⟨rfl, o, hk, hc, hd⟩ | ⟨rfl, hk⟩ | ⟨rfl, S, n, hk⟩
    · obtain ⟨its, _, pl, _⟩ := I.list hq
      refine ⟨pl.isList.typeIs, fun a e => ?_⟩
      cases e
      obtain ⟨o, n, e, c, hd, _⟩ := pl
      exact ⟨o, e, hd⟩
    · refine ⟨⟨o, I.kIn p o hk, hc⟩, fun a e => ?_⟩
      cases e
      exact ⟨o, I.kIn _ o hk, hd⟩
    · have z : ∃ o, s.heap.get? p = some o ∧ o.ExactDict := by
        rcases hk with ⟨kvs, hk⟩ | ⟨kvs, hk⟩
        · obtain ⟨_, _, _, _, o, _, _, e, ex, _⟩ := I.hok p _ hk
          exact ⟨o, e, ex⟩
        · obtain ⟨_, _, _, _, o, _, _, e, ex, _⟩ := I.hok p _ hk
          exact ⟨o, e, ex⟩
      obtain ⟨o, e, ex⟩ := z
      refine ⟨⟨o, e, ex.1⟩, fun a e2 => ?_⟩
      cases e2
      exact ⟨o, e, ex.2.1⟩
    · obtain ⟨o, _, _, _, e, ex, _⟩ := I.hok p _ hk
      refine ⟨⟨o, e, ex.1⟩, fun a e2 => ?_⟩
      cases e2
      exact ⟨o, e, ex.2.1⟩
  | _ => exact False.elim ty
def tBM (K : PySem.W.Frag) (T : String) (r : V → List V → Hp → VK → Prop) (to : TE) (t : TA) : TE := fun σ H Q => to σ H fun x H1 => tyV K T x H1 ∧ t σ H1 fun xs H2 => r x xs H2 Q
variable {o e : Expr} {es : List Expr} {to : TE} {t : TA} {name : Str} {apos cpos : Pos} {T id : String} {r : V → List V → Hp → VK → Prop}
theorem pe_bm (pa : PlainAttrs T) (slot : Slot T name id) (hty : typeOf (.builtin id) = pure (.type "method_descriptor")) (hm : MtR X id r) (ho : PE X o to) (ha : PA X (e :: es) t)
    (hbase : attributeBase o name X.env (eval o X.env) = eval o X.env := by rfl)
    (hfew : ((backTo cpos (starEach (e :: es) X.env)).all (fun x => !x.1) && (backToKw cpos (keywordEach [] X.env)).all (fun x => x.1.isSome)
      && decide ((e :: es).length + ([] : List Keyword).length + (if ([] : List Keyword).isEmpty then 0 else 1) < 30)) = true := by rfl)
    (hline : (apos.endLine == cpos.line) = true := by rfl) (hs : starEach (e :: es) X.env = (false, eval e X.env) :: starEach es X.env := by rfl) (hplain : (backTo cpos (starEach es X.env)).any (·.1) = false := by rfl) :
    PE X (.Call (.Attribute o name apos) (e :: es) [] cpos) (tBM X.K T r to t) := by
  intro pins s σ H Q I h
  refine wpAny_Call_method_late hbase hfew hline rfl (thn (ho pins s σ H _ I h) fun v s1 ⟨x, H1, I1, r1, ty, q1⟩ => ?_)
  obtain ⟨h1, h2⟩ := tyV_is I1 r1 ty
  refine ⟨T, id, pa, slot, hty, h1, h2, ?_⟩
  have hA := ha cpos pins s1 σ H1 _ I1 q1
  rw [hs] at hA ⊢
  refine Calls.callWith_builtin (by show (false || (backTo cpos (starEach es X.env)).any (·.1)) = false; rw [hplain] <;> rfl) (Calls.evalArgs_plain ?_)
  exact thn hA fun us s2 ⟨vs, H2, I2, r2, q2⟩ => hm pins s2 σ H2 x vs v us Q I2 r1 r2 q2
end
end L2
namespace L2
open PySem PySem.Spec PyProof.Rows
def MtM (X : Cx) (id : String) (r : V → List V → Hp → VK → Prop) : Prop :=
  ∀ (pins : List (Addr × Obj)) (s : Shared) (σ : St) (H : Hp) (x : V) (xs : List V) (v : Value) (us : List Value) (Q : VK), Inv X pins σ H s → RelV x v → Vals xs us → r x xs H Q →
    wpAny (model X.prog X.w) X.A (call (.builtin id) (v :: us)) (EP X pins σ Q) X.xe s
theorem Vals.one : ∀ {x : V} {us : List Value}, Vals [x] us → ∃ u, us = [u] ∧ RelV x u
  | _, _, .cons r .nil => ⟨_, rfl, r⟩
theorem Vals.two : ∀ {x y : V} {us : List Value}, Vals [x, y] us → ∃ u v, us = [u, v] ∧ RelV x u ∧ RelV y v
  | _, _, _, .cons r (.cons q .nil) => ⟨_, _, rfl, r, q⟩
theorem Vals.eraseIdx : ∀ {xs : List V} {us : List Value} (i : Nat), Vals xs us → Vals (xs.eraseIdx i) (us.eraseIdx i)
  | _, _, _, .nil => .nil
  | _, _, 0, .cons _ t => t
  | _, _, i + 1, .cons r t => .cons r (Vals.eraseIdx i t)
theorem Vals.rep {xs : List V} {us : List Value} (h : Vals xs us) : ∀ k : Nat, Vals (List.replicate k xs).flatten (List.replicate k us).flatten
  | 0 => .nil
  | k + 1 => by
    rw [List.replicate_succ, List.replicate_succ, List.flatten_cons, List.flatten_cons]
    exact Vals.append h (Vals.rep h k)
theorem foldl_rep (its : List Value) : ∀ (k : Nat) (acc : List Value),
    List.foldl (fun x1 x2 => x1 ++ x2) acc.toArray (List.replicate k its.toArray) = (acc ++ (List.replicate k its).flatten).toArray
  | 0, acc => by simp
  | k + 1, acc => by
    have e : acc.toArray ++ its.toArray = (acc ++ its).toArray := by simp
    have e2 : (acc ++ its) ++ (List.replicate k its).flatten = acc ++ (List.replicate (k + 1) its).flatten := by
      rw [List.replicate_succ, List.flatten_cons, List.append_assoc]
    rw [← e2, ← foldl_rep its k (acc ++ its), ← e, List.replicate_succ, List.foldl_cons]
section
variable {X : Cx} {pins : List (Addr × Obj)} {σ : St} {H : Hp} {s : Shared} {l b : Addr} {xs ys zs : List V}
theorem Inv.lset {its its' : List Value} {n : Nat} {f : Array Value → Array Value} {t' : Nat} (I : Inv X pins σ H s) (hH : H l = some (.lst xs))
    (e : s.heap.get? l = some { cls := .type "list", data := .seq its.toArray n }) (hf : f its.toArray = its'.toArray) (hv : Vals ys its') (hz : ys.length ≤ sizeLine) :
    Inv X pins σ (upd H l (.lst ys)) { s with heap := s.heap.update l (Obj.mapSeq f), toks := t' } := by
  have q := PySem.IsL.update e f
  rw [hf] at q
  refine I.write (x := l) (e := l) (by rw [hH]; exact trivial) (.inl rfl) (fun b' u hb hu => (Heap.get?_update_other s.heap (Obj.mapSeq f) (Ne.symm hb)).trans hu) ⟨_, q⟩ ?_
  exact ⟨hz, its', _, hv, q⟩
theorem Inv.lnew {its : List Value} {t' : Nat} (I : Inv X pins σ H s) (hv : Vals ys its) (hz : ys.length ≤ sizeLine) :
    Inv X pins σ (upd H s.heap.objs.size (.lst ys)) { s with heap := s.heap.push { cls := .type "list", data := .seq its.toArray }, toks := t' } :=
  I.laid (fun _ _ q => Heap.get?_push_of_some _ q) (Nat.le_refl _) ⟨hz, its, 0, hv, Heap.get?_push_size _ rfl⟩
theorem Inv.fresh (I : Inv X pins σ H s) : H s.heap.objs.size = none := I.hok.fresh (Nat.le_refl _)
theorem Inv.lstM (I : Inv X pins σ H s) (hH : H l = some (.lst xs)) : xs.length ≤ sizeLine ∧ ∃ (its : List Value) (n : Nat), Vals xs its ∧ xs.length = its.length ∧ s.heap.get? l = some { cls := .type "list", data := .seq its.toArray n } := by
  obtain ⟨z, its, n, r, e⟩ := I.hok l _ hH
  exact ⟨z, its, n, r, r.length, e⟩
theorem notLongL {n : Nat} (h : n ≤ sizeLine) : Builtin.List.listTooLong n = false := by
  unfold Builtin.List.listTooLong
  exact decide_eq_false (by omega)
end
section
variable {X : Cx}
def rAppend : V → List V → Hp → VK → Prop := fun x vs H Q => ∃ l xs y, x = .ref l ∧ vs = [y] ∧ H l = some (.lst xs) ∧ xs.length < sizeLine ∧ Q .non (upd H l (.lst (xs ++ [y])))
theorem mt_append : MtM X "list.append" rAppend := by
  intro pins s σ H x vs v us Q I rx rv h
  obtain ⟨l, xs, y, rfl, rfl, hH, hz, q⟩ := h
  cases rx
  obtain ⟨u, rfl, ru⟩ := rv.one
  obtain ⟨z, its, n, r, hl, e⟩ := I.lstM hH
  refine call_meets F.slot_list_append ⟨_, e, rfl⟩ F.entry_list_append (F.args_list_append_2 _ _) (PySem.list_append l its.toArray n u (by rw [List.size_toArray]; omega)) ⟨e, ?_⟩
  refine ⟨.non, _, I.lset (its' := its ++ [u]) hH e (by simp) (r.append (.cons ru .nil)) ?_, rfl, q⟩
  rw [List.length_append, List.length_singleton]
  omega
def rCat : R2 := fun x y H Q => ∃ l b xs zs, x = .ref l ∧ y = .ref b ∧ H l = some (.lst xs) ∧ H b = some (.lst zs) ∧ xs.length + zs.length ≤ sizeLine ∧ ∀ p, H p = none → Q (.ref p) (upd H p (.lst (xs ++ zs)))
theorem op_cat : OpR X (binaryOp .Add) rCat := by
  intro pins s σ H x y v u Q I rx ry h
  obtain ⟨l, b, xs, zs, rfl, rfl, hH, hB, hz, q⟩ := h
  cases rx
  cases ry
  obtain ⟨z, its, n, r, hl, e⟩ := I.lstM hH
  obtain ⟨z2, its2, n2, r2, hl2, e2⟩ := I.lstM hB
  refine PySem.P.add_list e e2 ?_ (by rw [List.size_toArray, List.size_toArray]; omega)
  have ea : its.toArray ++ its2.toArray = (its ++ its2).toArray := by simp
  rw [ea]
  exact ⟨.ref _, _, I.lnew (t' := s.toks) (r.append r2) (by rw [List.length_append]; omega), rfl, q _ I.fresh⟩
def rRep : R2 := fun x y H Q => ∃ l k xs, x = .ref l ∧ y = .int k ∧ H l = some (.lst xs) ∧ -(2 ^ 63) ≤ k ∧ k < 2 ^ 63 ∧ xs.length * k.toNat ≤ sizeLine ∧
  ∀ p, H p = none → Q (.ref p) (upd H p (.lst (List.replicate k.toNat xs).flatten))
theorem len_rep {α : Type} (xs : List α) (k : Nat) : (List.replicate k xs).flatten.length = k * xs.length := by
  induction k with
  | zero => simp
  | succ k ih => rw [List.replicate_succ, List.flatten_cons, List.length_append, ih, Nat.succ_mul, Nat.add_comm]
theorem op_rep : OpR X (binaryOp .Mult) rRep := by
  intro pins s σ H x y v u Q I rx ry h
  obtain ⟨l, k, xs, rfl, rfl, hH, h1, h2, hz, q⟩ := h
  cases rx
  obtain ⟨t, rfl⟩ := ry
  obtain ⟨z, its, n, r, hl, e⟩ := I.lstM hH
  have hlen : its.toArray.size * k.toNat ≤ sizeLine := by rw [List.size_toArray, ← hl]; exact hz
  have hcap : ¬ its.toArray.size * k.toNat > (2 ^ 63 - 1) / 8 := by
    have : (sizeLine : Nat) ≤ (2 ^ 63 - 1) / 8 := by decide
    omega
  have hfit : ¬ (!Builtin.List.listFitsIndex k) = true := by
    rw [fitsIndex_both h1 h2]
    exact Bool.false_ne_true
  have hlong : ¬ Builtin.List.listTooLong (its.toArray.size * k.toNat) = true := by
    rw [notLongL hlen]
    exact Bool.false_ne_true
  have hnew : List.foldl (fun x1 x2 => x1 ++ x2) #[] (List.replicate (if its.toArray.isEmpty = true then 0 else k.toNat) its.toArray) = (List.replicate k.toNat its).flatten.toArray := by
    have f0 : ∀ m : Nat, List.foldl (fun x1 x2 => x1 ++ x2) #[] (List.replicate m its.toArray) = (List.replicate m its).flatten.toArray := fun m => by
      have := foldl_rep its m []
      rw [List.nil_append] at this
      exact this
    rw [f0]
    cases its with
    | nil => simp
    | cons a r' => rw [if_neg (by simp)]
  refine wpAny_binaryOp_repeat_ref (T := "list") (U := "int") (by decide) ⟨_, e, rfl⟩ (fun s' => typeIs_int s' k t) noFill_list_mul F.fills_int_mul F.slot_int_rmul repeat_list F.slot_int_index.lookup
    (call_meets F.slot_int_rmul (typeIs_int s k t) F.entry_int_rmul (F.args_int_rmul_2 _ _) (int___rmul___int_list k t l its.toArray n)
      ⟨e, rfl, ⟨_, e, rfl⟩, call_meets F.slot_list_mul ⟨_, e, rfl⟩ F.entry_list_mul (F.args_list_mul_2 _ _) (AutoListH.list___mul___list_int_3 l its.toArray n k t hfit hcap hlong) ⟨e, ?_⟩⟩)
  rw [hnew]
  exact ⟨.ref _, _, I.lnew (t' := s.toks) (r.rep k.toNat) (by rw [len_rep, Nat.mul_comm]; exact hz), rfl, q _ I.fresh⟩
end
section
variable {prog : Program} {w : World} {A : Around} {E : Value → Shared → Prop} {s : Shared}
end
section
variable {X : Cx}
end
end L2
namespace Att
open PySem PySem.W PySem.Calls PyProof.Rows
theorem ints_of_wellAll {P : Params} {h : Heap} : ∀ (ns : List Int) (vs : List Value), WellAll P h vs (ns.map WData.int) → IntsAre vs ns := by
  intro ns
  induction ns with
  | nil =>
    intro vs w
    rw [List.map_nil] at w
    cases w
    exact .nil
  | cons n ns ih =>
    intro vs w
    rw [List.map_cons] at w
    cases w with
    | cons a b =>
      cases a
      exact .cons _ _ (ih _ b)
theorem script_of {l : OpenLaw} {n : Nat} (hn : l.most = some n) {P : Params} {h : Heap} {args : List WData} {vals : List Value}
    (hpre : l.row.toRowW.claim.pre args = true) (hwl : WellAll P h vals args) :
    ∃ a vs ns, vals = [Value.ref a] ∧ args = [WData.list (ns.map WData.int)] ∧ h.get? a = some { cls := .type "list", data := .seq vs.toArray } ∧ IntsAre vs ns ∧ ns.length ≤ n := by
  have hsh : WShape.hasAll [] args [.list .int] = true := (pre_splitW hpre).1
  have hc : l.pre.holds [] { args := args } = true := (pre_splitW hpre).2
  obtain ⟨d, r, rfl, h1, h2⟩ := hasAllW_cons hsh
  obtain rfl := hasAllW_nil h2
  obtain ⟨xs, rfl, h3⟩ := hasW_list h1
  obtain ⟨ns, rfl⟩ := items_int h3
  have hlen : ns.length ≤ n := by
    unfold OpenLaw.pre at hc
    have h4 : (WTm.not (.lt (.lit (.int (n : Int))) (.len (.arg 0)))).holds [] { args := [.list (ns.map .int)] } = true := by
      have h4 := (holds_andW hc).1
      rw [hn] at h4
      exact h4
    have h5 := condW_of h4 (w_not (w_lt w_lit (w_len_list (w_arg rfl))))
    rw [List.length_map] at h5
    refine Nat.le_of_not_lt fun q => ?_
    have q' : (n : Int) < ((ns.length : Nat) : Int) := by omega
    first
      | (rw [decide_eq_true q'] at h5; exact absurd h5 (by decide))
      | (simp at h5; omega)
  cases hwl with
  | cons w1 w2 =>
    cases w2
    cases w1 with
    | list ho hall => exact ⟨_, _, ns, rfl, rfl, ho, ints_of_wellAll ns _ hall, hlen⟩
theorem post_true (l : OpenLaw) (args : List WData) : l.row.toRowW.claim.post args (.bool true) args = true :=
  postW_of (r := l.row.toRowW) (X := (true == true))
    (show WShape.has [] (.bool true) .bool = true by first | rfl | decide | simp [WShape.has, WShape.arms, WShape.armsAll])
    (show (WTm.eq .res (.lit (.bool true))).value [] { args := args, res := some (.bool true), after := args } = some (.bool (true == true)) from w_eq_bool (w_res rfl) w_lit) rfl
theorem attach_call {l : OpenLaw} {n : Nat} {q : Program} {loose : List Str} {XP : (Str → Option Value) → Heap → Prop} {YP : World → Heap → Prop} {d : DefRec}
    (hn : l.most = some n) (hdf : d.params.defaults = [])
    (call : ∀ (w : World) (s₀ s₁ : Shared) (mg mb : Str → Option Value) (fa : Addr) (o : Obj) (pm cd doc : Value) (a : Addr) (vs : List Value) (ns : List Int),
      Ground q loose [] XP w s₀ mg mb s₁.heap → YP w s₁.heap →
      s₁.heap.get? fa = some o → o.data = .func (docDef d.name d.params d.body d.scope pm cd doc) → s₁.heap.CodeRec cd d.name → mg d.name = some (.ref fa) →
      s₁.heap.get? a = some { cls := .type "list", data := .seq vs.toArray } → IntsAre vs ns → ns.length ≤ n → s₁.gens = #[] →
      codeAny (model l.prog w) callerA (.call (.ref fa) ⟨[.ref a], []⟩) (fun r s' => r = .ok (.ret (.bool true)) ∧ OldK s₁.heap s'.heap ∧ s'.os = s₁.os ∧ AllBare s'.gens) s₁) :
    WalkO q loose XP YP l.row.toRowW d [] (fun f vs => PySem.call f vs) := by
  intro w s₀ s₁ mg mb G Y fa o pm cd doc dV kV ho hd hcd hD hmg hg args vals as hpre hlay hrd hwl hlo
  obtain rfl : dV = .none := Dflts.none hD hdf
  obtain rfl : kV = .none := Dflts.noKw hD
  obtain ⟨a, vs, ns, rfl, rfl, hobj, hints, hlen⟩ := script_of hn hpre hwl
  refine enter_call (codeAny_mono (call w s₀ s₁ mg mb fa o pm cd doc a vs ns G Y ho (fd_plain hd) hcd hmg hobj hints hlen hg) fun r s' hq => ?_)
  obtain ⟨rfl, h2, h3, h4⟩ := hq
  exact ⟨.inl ⟨.bool true, .bool true, [], rfl, fun _ => rfl, .bool true, post_true l _, fun _ => ⟨List.Pairwise.nil, fun _ hm => (nomatch hm)⟩⟩, h2, h3, h4⟩
section
variable {prog : Program} {w : World} {A : Around} {E : Value → Shared → Prop} {s : Shared} {K : Frag}
end
end Att
namespace L2
open PySem PySem.Spec PyProof.Rows
theorem vals_ints : ∀ {vs : List Value} {ns : List Int}, IntsAre vs ns → Vals (ns.map V.int) vs
  | _, _, .nil => .nil
  | _, _, .cons n t h => .cons ⟨t, rfl⟩ (vals_ints h)
def Only (H : Hp) : Prop := ∀ b, H b = none ∨ ∃ o xs, H b = some (.frz o (.lst xs))
theorem law_call {P : Program} {w : World} {K : PySem.W.Frag} {mg mb : Str → Option Value} {CX : CXT} {k : Nat} {fa a : Addr} {fd : FuncData} {x : Str} {sp : Sp} {s₁ : Shared} {vs : List Value} {ns : List Int}
    (KX : K.In s₁.heap) (hns : s₁.heap.Ns mainGlobals mg) (hb : s₁.heap.Ns builtinsNs mb) (hbb : ∀ x : Str, x ≠ "__name__" → mb x = bootBuiltins x) (hlim : s₁.heap.NoLimit) (hg : s₁.gens = #[])
    (ha : s₁.heap.get? a = some { cls := .type "list", data := .seq vs.toArray }) (hi : IntsAre vs ns) (hl : ns.length ≤ sizeLine) (hr : Room k callerA)
    (F : ∀ base : Heap, K.In base → base.Ns mainGlobals mg → FnOk P w K mg base CX k fa fd [x] sp) (hbind : ∀ (s : Shared) (u : Value), BindsTo s fd ⟨[u], []⟩ [(x, u)])
    (hsp : ∀ H : Hp, Only H → SqL K H a (ns.map V.int) → sp [.ref a] H (fun v _ => v = .bl true) fun _ _ _ => False)
    (hCX : ∀ H e s', CX [] H s₁ (fun _ _ _ => False) e s' → False) :
    codeAny (model P w) callerA (.call (.ref fa) ⟨[.ref a], []⟩) (fun r s' => r = .ok (.ret (.bool true)) ∧ OldK s₁.heap s'.heap ∧ s'.os = s₁.os ∧ AllBare s'.gens) s₁ := by
  have rv := vals_ints hi
  have lenV := hi.length
  have core : ∀ H : Hp, Only H → SqL K H a (ns.map V.int) → HOk P w H s₁.heap → (∀ b, H b ≠ none → b = a) → (H a ≠ none → K.lookup a = none) →
      codeAny (model P w) callerA (.call (.ref fa) ⟨[.ref a], []⟩) (fun r s' => r = .ok (.ret (.bool true)) ∧ OldK s₁.heap s'.heap ∧ s'.os = s₁.os ∧ AllBare s'.gens) s₁ := by
    intro H hO hS hok hA hK
    have base_of : ∀ {b : Addr} {o : Obj}, s₁.heap.get? b = some o → H b = none → (hidT s₁.heap H).get? b = some o := fun e n => hidT_get e n
    have noA : ∀ {b : Addr} {o : Obj} {es : Array DictEntry} {ep : Nat}, s₁.heap.get? b = some o → o.data = .dict es ep → H b = none := fun {b o es ep} e d => by
      cases q : H b with
      | none => rfl
      | some u =>
        have e' : b = a := hA b (by rw [q]; simp)
        subst e'
        rw [ha] at e; cases e
        have d' : Data.seq vs.toArray _ = Data.dict es ep := d
        cases d'
    have nsK : ∀ {b : Addr} {m : Str → Option Value}, s₁.heap.Ns b m → (hidT s₁.heap H).Ns b m := fun {b m} ⟨o, es, ep, e, d, r⟩ => ⟨o, es, ep, base_of e (noA e d), d, r⟩
    have hKb : K.In (hidT s₁.heap H) := fun b o e => base_of (KX b o e) (by
      cases q : H b with
      | none => rfl
      | some u =>
        have e' : b = a := hA b (by rw [q]; simp)
        subst e'
        rw [hK (by rw [q]; simp)] at e; cases e)
    have hM : Mod K mg (hidT s₁.heap H) := ⟨hKb, nsK hns, ⟨mb, nsK hb, hbb⟩, let ⟨mc, h1, h2⟩ := hlim; ⟨mc, nsK h1, h2⟩⟩
    have e0 : Env0 P w K mg (hidT s₁.heap H) callerA [] s₁ H := ⟨rfl, hM, fun b o e => of_hidT e, Nat.le_of_eq (hidT_size _ _), trivial, fun b hb => absurd (show b ∈ ([] : List Addr) from hb) (by simp), hok, .of_eq hg⟩
    refine codeAny_mono ((F _ hKb (nsK hns)).run callerA [] s₁ H ⟨[.ref a], []⟩ [.ref a] [.ref a] _ _ hr e0 (hbind s₁ (.ref a)) (.cons rfl .nil) (hsp H hO hS)) fun r s' h => ?_
    cases r with
    | error e => exact (hCX H e s' h).elim
    | ok fl =>
      cases fl with
      | next => exact False.elim h
      | brk => exact False.elim h
      | cont => exact False.elim h
      | ret u =>
        obtain ⟨v, H', os, bare, un, hok', r', q⟩ := h
        have q' : v = .bl true := q
        subst q'
        obtain rfl : u = Value.bool true := r'
        refine ⟨rfl, OldK.of_keep fun b o e => ?_, os, bare⟩
        cases q : H b with
        | none => exact un.keep b o e q (by intro z; exact absurd (show b ∈ ([] : List Addr) from z) (by simp)) (by simp)
        | some u =>
          rcases hO b with z | ⟨ob, xs, z⟩
          · rw [q] at z; cases z
          · have z2 := un.frzs b ob _ z
            obtain ⟨e1, _⟩ := hok b _ z
            obtain ⟨e2, _⟩ := hok' b _ z2
            rw [e] at e1; cases e1
            exact e2
  cases hk : K.lookup a with
  | some o =>
    have e := KX a o hk
    rw [ha] at e
    cases e
    refine core (fun _ => none) (fun _ => .inl rfl) (.inr ⟨_, vs.toArray, _, hk, rfl, rfl, rfl, by rw [List.size_toArray, lenV]; exact hl, by simpa using rv⟩) (fun b u z => by have z' : (none : Option HO) = some u := z; cases z') (fun b z => absurd rfl z) fun z => absurd rfl z
  | none =>
    refine core (fun b => if b = a then some (.frz { cls := .type "list", data := .seq vs.toArray } (.lst (ns.map V.int))) else none) (fun b => ?_) (.inl (.inr ⟨{ cls := .type "list", data := .seq vs.toArray }, if_pos rfl⟩)) (fun b u z => ?_) (fun b z => ?_) fun _ => hk
    · by_cases hb : b = a
      · exact .inr ⟨_, _, if_pos hb⟩
      · exact .inl (if_neg hb)
    · by_cases hb : b = a
      · have z' := (if_pos hb).symm.trans z
        cases z'
        subst hb
        exact ⟨ha, by rw [List.length_map]; exact hl, vs, _, rv, ha⟩
      · have z' := (if_neg hb).symm.trans z
        cases z'
    · by_cases hb : b = a
      · exact hb
      · exact absurd (if_neg hb) z
end L2
namespace L2
open PySem PySem.Spec PyProof.Rows
theorem walk_of {l : PySem.W.OpenLaw} {n k : Nat} {q : Program} {loose : List Str} {XP : (Str → Option Value) → Heap → Prop} {YP : World → Heap → Prop} {d : DefRec} {K : Params → PySem.W.Frag} {CX : World → CXT} {sp : World → Sp} {x : Str}
    (hn : l.most = some n) (hn2 : n ≤ sizeLine) (hdf : d.params.defaults = []) (hr : Room k callerA)
    (hY : ∀ (w : World) (h : Heap), YP w h → (K w.params).In h)
    (F : ∀ (w : World) (mg : Str → Option Value) (fa : Addr) (h : Heap), (K w.params).In h → h.Ns mainGlobals mg → mg d.name = some (.ref fa) →
      ∃ fd : FuncData, (∀ (s : Shared) (u : Value), BindsTo s fd ⟨[u], []⟩ [(x, u)]) ∧
        ∀ base : Heap, (K w.params).In base → base.Ns mainGlobals mg → FnOk l.prog w (K w.params) mg base (CX w) k fa fd [x] (sp w))
    (hsp : ∀ (w : World) (H : Hp) (a : Addr) (ns : List Int), ns.length ≤ n → Only H → SqL (K w.params) H a (ns.map V.int) → sp w [.ref a] H (fun v _ => v = .bl true) fun _ _ _ => False)
    (hCX : ∀ (w : World) (H : Hp) (s : Shared) (e : Value) (s' : Shared), CX w [] H s (fun _ _ _ => False) e s' → False) :
    PySem.W.WalkO q loose XP YP l.row.toRowW d [] (fun f vs => PySem.call f vs) := by
  refine Att.attach_call hn hdf fun w s₀ s₁ mg mb fa o pm cd doc a vs ns G Y ho hd hcd hmg hobj hints hlen hg => ?_
  have KX := hY w _ Y
  obtain ⟨fd, hb, hF⟩ := F w mg fa _ KX G.T.g hmg
  exact law_call KX G.T.g G.T.b G.T.builtins G.T.nolimit hg hobj hints (Nat.le_trans hlen hn2) hr hF hb (fun H hO hS => hsp w H a ns hlen hO hS) fun H e s' => hCX w H s₁ e s'
end L2
namespace L2
open PySem PySem.Spec PyProof.Rows
def defArgs (s : Stmt) : Arguments := match s with
  | .FunctionDef _ a _ _ _ _ _ _ _ _ => a
  | _ => { posonlyargs := [], args := [], vararg := none, kwonlyargs := [], kw_defaults := [], kwarg := none, defaults := [] }
def defBody (s : Stmt) : List Stmt := match s with
  | .FunctionDef _ _ b _ _ _ _ _ _ _ => b
  | _ => []
def defScope (s : Stmt) : Scope := match s with
  | .FunctionDef _ _ _ _ _ _ sc _ _ _ => sc
  | _ => { kind := .function, names := [], isGenerator := false, isCoroutine := false }
abbrev CX0 : CXT := fun _ _ _ _ _ _ => False
abbrev E0 : XK := fun _ _ _ => False
theorem pass0 {X : Cx} : Passes CX0 X E0 := fun _ _ _ _ _ _ _ h => h.elim
structure Fun (K : PySem.W.Frag) (x qual : Str) (st : Stmt) (f : Addr) (fd : FuncData) : Prop where
  ex : ∃ (oc : Value) (od : Option Addr) (kV doc pm : Value) (an : Option Addr) (cdv ct : Value) (osl : Array (Option Value)),
    fd = PySem.W.fnOf x qual (defArgs st) (defBody st) (defScope st) .none kV doc pm an cdv ct ∧ K.lookup f = some ⟨oc, od, .func fd, osl⟩ ∧ PySem.W.codeIn K cdv qual = true
  kp : PySem.W.keepIn K (.ref f) = true
section
variable {P : Program} {w : World} {K : PySem.W.Frag} {mg : Str → Option Value} {base : Heap}
theorem Fun.ok {x qual : Str} {st : Stmt} {f : Addr} {fd : FuncData} {N ps : List Str} {k : Nat} {sp : Sp} (F : Fun K x qual st f fd) (S : FnScope N ps (defScope st)) (len : ∀ vs H Q E, sp vs H Q E → vs.length = ps.length)
    (hbody : ∀ (cdv : Value) (A : Around) (outer : List Env) (s : Shared) (H : Hp) (vs : List V) (Q : VK) (E : XK), Room k (A.deeper (envOfC qual (defScope st) s.heap.objs.size f cdv)) → sp vs H Q E →
      ∃ t, PSs (cxOf CX0 P w K mg base N qual (defScope st) f cdv A outer s H E).nox (defBody st) t ∧ t { nx := fun _ H' => Q .non H', rt := Q } (start N vs) H) : FnOk P w K mg base CX0 (k + 1) f fd ps sp := by
  obtain ⟨oc, od, kV, doc, pm, an, cdv, ct, osl, rfl, lk, hcd⟩ := F.ex
  refine fn_of lk hcd S len fun A outer s H vs Q E hr hsp => ?_
  obtain ⟨t, h, q⟩ := hbody cdv A outer s H vs Q E hr hsp
  exact ⟨t, h.nox, q⟩
theorem Fun.binds {x qual : Str} {st : Stmt} {f : Addr} {fd : FuncData} {ps : List Str} (F : Fun K x qual st f fd)
    (h : ∀ (kV doc pm : Value) (an : Option Addr) (cdv ct : Value) (us : List Value), us.length = ps.length → bindArgs (PySem.W.fnOf x qual (defArgs st) (defBody st) (defScope st) .none kV doc pm an cdv ct) ⟨us, []⟩ = pure (ps.zip us)) : Binds K fd ps [] := by
  obtain ⟨oc, od, kV, doc, pm, an, cdv, ct, osl, rfl, lk, hcd⟩ := F.ex
  exact .all (h kV doc pm an cdv ct)
theorem fun_mk {x qual : Str} {st : Stmt} {f : Addr} {oc : Value} {od an : Option Addr} {osl : Array (Option Value)} {kV doc pm cdv ct : Value} (l : K.lookup f = some ⟨oc, od, .func (PySem.W.fnOf x qual (defArgs st) (defBody st) (defScope st) .none kV doc pm an cdv ct), osl⟩)
    (c : PySem.W.codeIn K cdv qual = true) (k : PySem.W.keepIn K (.ref f) = true) : Fun K x qual st f (PySem.W.fnOf x qual (defArgs st) (defBody st) (defScope st) .none kV doc pm an cdv ct) := ⟨⟨oc, od, kV, doc, pm, an, cdv, ct, osl, rfl, l, c⟩, k⟩
end
section
variable {X : Cx}
theorem pv (i : Nat) {x : Str} {pos : Pos} (hN : X.N[i]? = some x := by rfl) (hv : Vis X.env.scope x := by first | exact Or.inl rfl | exact Or.inr (Or.inl rfl) | exact Or.inr (Or.inr rfl)) (hd : (x == ("__debug__" : Str)) = false := by decide)
    (hcd : (x == ("__classdict__" : Str)) = false := by decide) : PE X (.Name x pos) (tVar i) := pe_var hN hv hd hcd
end
theorem iteF {A B : Prop} (h : B) : if false = true then A else B := by
  rw [if_neg Bool.false_ne_true]
  exact h
theorem iteT {A B : Prop} (h : A) : if true = true then A else B := by
  rw [if_pos rfl]
  exact h
theorem ite2 {c A B : Prop} [Decidable c] (h1 : c → A) (h2 : ¬ c → B) : if c then A else B := by
  by_cases h : c
  · rw [if_pos h]
    exact h1 h
  · rw [if_neg h]
    exact h2 h
def Same (H H' : Hp) : Prop := ∀ b o, H b = some o → H' b = some o
theorem Same.refl (H : Hp) : Same H H := fun _ _ h => h
theorem Same.trans {H H1 H2 : Hp} (a : Same H H1) (b : Same H1 H2) : Same H H2 := fun c o h => b c o (a c o h)
theorem Same.free {H H' : Hp} (e : Same H H') {l : Addr} (h : H' l = Option.none) : H l = Option.none := by
  cases q : H l with
  | none => rfl
  | some o =>
    rw [e l o q] at h
    cases h
theorem Same.seq {K : PySem.W.Frag} {H H' : Hp} {a : Addr} {xs : List V} (e : Same H H') (h : SqL K H a xs) : SqL K H' a xs := by
  rcases h with (h | ⟨o, h⟩) | h
  · exact .inl (.inl (e _ _ h))
  · exact .inl (.inr ⟨o, e _ _ h⟩)
  · exact .inr h
end L2
namespace L2
open PySem PySem.Spec PyProof.Rows
section
variable {κ : Type} [DecidableEq κ]
def valV (kvs : List (κ × V)) (k : κ) : Option V := (kvs.find? fun kv => decide (kv.1 = k)).map (·.2)
def putK (kvs : List (κ × V)) (k : κ) (v : V) : List (κ × V) :=
  if (kvs.any fun kv => decide (kv.1 = k)) = true then kvs.map (fun kv => if kv.1 = k then (kv.1, v) else kv) else kvs ++ [(k, v)]
theorem KV.length {kvs : List (κ × V)} {vs : List (κ × Value)} (r : KV kvs vs) : kvs.length = vs.length := Paired.length r
end
section
variable {P : Program} {w : World} {H : Hp} {h : Heap} {a : Addr}
end
def DGet (H : Hp) (a : Addr) (y : V) (r : Option V) : Prop :=
  (∃ kvs k, Rd H a (.dK kvs) ∧ y = kV k ∧ r = valV kvs k) ∨ ∃ kvs k b, Rd H a (.dT kvs) ∧ y = .ref b ∧ H b = some (.tup (k.map kV)) ∧ r = valV kvs k
def DPut (H : Hp) (a : Addr) (y v : V) (H' : Hp) : Prop :=
  (∃ kvs k, H a = some (.dK kvs) ∧ y = kV k ∧ kvs.length < sizeLine ∧ H' = upd H a (.dK (putK kvs k v))) ∨
  ∃ kvs k b, H a = some (.dT kvs) ∧ y = .ref b ∧ H b = some (.tup (k.map kV)) ∧ kvs.length < sizeLine ∧ H' = upd H a (.dT (putK kvs k v))
theorem DGet.t {H : Hp} {a b : Addr} {kvs : List (List Key × V)} {k : List Key} (e : H a = some (.dT kvs)) (eb : H b = some (.tup (k.map kV))) : DGet H a (.ref b) (valV kvs k) := .inr ⟨kvs, k, b, .inl e, rfl, eb, rfl⟩
theorem DPut.t {H : Hp} {a b : Addr} {kvs : List (List Key × V)} {k : List Key} {v : V} (e : H a = some (.dT kvs)) (eb : H b = some (.tup (k.map kV))) (hl : kvs.length < sizeLine) :
    DPut H a (.ref b) v (upd H a (.dT (putK kvs k v))) := .inr ⟨kvs, k, b, e, rfl, eb, hl, rfl⟩
section
variable {X : Cx} {pins : List (Addr × Obj)} {σ : St} {H : Hp} {s : Shared} {a : Addr} {y v : V} {u r : Value} {o : Option V} {A : Around} {E : Value → Shared → Prop}
theorem Inv.big (I : Inv X pins σ H s) : sysModules < s.heap.objs.size := by
  have h : mainGlobals < s.heap.objs.size := (I.mod.glob.keeps I.bk).lt
  exact Nat.lt_trans (by decide) h
theorem d_write {h' : Heap} {t' : Nat} {ob : HO} (I : Inv X pins σ H s) (mu : Mut (H a)) (hs : Heap.SameBut a s.heap h') (he : ∃ q, h'.get? a = some q) (new : ObjOk X.prog X.w (upd H a ob) h' a ob) :
    Inv X pins σ (upd H a ob) { s with heap := h', toks := t' } :=
  I.write (x := a) (e := a) mu (.inl rfl) (fun b q hb z => (hs.2 b hb).trans z) he new
end
section
variable {X : Cx} {pins : List (Addr × Obj)} {σ : St} {H : Hp} {s : Shared} {a : Addr} {kvs : List (Key × V)} {k : Key} {u : Value} {A : Around} {E : Value → Shared → Prop}
end
def NoSl (i : Expr) : Prop := ∀ ov iv, subscripted i false ov iv = operate [ov, iv] (getItem ov iv)
theorem subD_of {prog : Program} {w : World} {A : Around} {E : Value → Shared → Prop} {s : Shared} {env : Env} {value slice : Expr} {pos : Pos} {T id : String} {Q : Value → Shared → Prop}
    (hl : typeLookup (.type T) "__getitem__" = pure (some (.builtin id))) (hs : NoSl slice)
    (h : wpAny (model prog w) A (eval value env) (fun o s₁ => wpAny (model prog w) A (eval slice env) (fun i s₂ => s₂.TypeIs o T ∧ wpAny (model prog w) A (getItem o i) Q E s₂) E s₁) E s) :
    wpAny (model prog w) A (eval (.Subscript value slice pos) env) Q E s := by
  refine Subscript_ (wpAny_mono h (fun o s₁ h₁ => wpAny_mono h₁ (fun i s₂ h₂ => ?_) fun _ _ x => x) fun _ _ x => x)
  obtain ⟨hT, h₂⟩ := h₂
  unfold subscriptTail
  refine wpAny_bind ?_
  rw [getitemInPython_of_ne hT.not_modules]
  refine wpAny_bind (wpAny_specialOf hT hl ?_)
  have fin : wpAny (model prog w) A (subscripted slice false o i) (fun r s₃ => wpAny (model prog w) A (letTemporaryGo value o r >>= fun _ => pure r) Q E s₃) E s₂ := by
    rw [hs o i]
    exact wpAny_operating (wpAny_mono h₂ (fun r s₃ h₃ => wpAny_bind (wpAny_letTemporaryGo (wpAny_pure h₃))) fun _ _ x => x)
  first
    | exact wpAny_pure (wpAny_bind fin)
    | exact wpAny_bind (wpAny_pure (wpAny_bind fin))
    | exact wpAny_bind fin
section
variable {X : Cx} {o i e value : Expr} {pos pos' tpos : Pos} {td ty tv : TE}
end
section
variable {X : Cx} {pos : Pos}
end
section
variable {X : Cx} {pins : List (Addr × Obj)} {σ : St} {H : Hp} {s : Shared} {a : Addr} {y d : V} {u r : Value} {o : Option V} {A : Around} {E : Value → Shared → Prop}
end
section
variable {X : Cx} {o e f : Expr} {apos cpos : Pos} {td ty tx : TE}
end
section
variable {X : Cx} {pins : List (Addr × Obj)} {σ : St} {H : Hp} {s : Shared} {a : Addr} {kvs : List (Key × V)} {A : Around} {E : Value → Shared → Prop}
end
section
variable {X : Cx} {pins : List (Addr × Obj)} {σ : St} {H : Hp} {s : Shared} {a : Addr} {y : V} {u : Value} {A : Around} {E : Value → Shared → Prop}
end
end L2
namespace L2
open PySem PySem.Spec PyProof.Rows
section
variable {X : Cx}
end
end L2
namespace L2
open PySem PySem.Spec PyProof.Rows
section
variable {κ : Type} [DecidableEq κ]
theorem nd_snoc : ∀ {l : List κ} {k : κ}, l.Nodup → ¬ k ∈ l → (l ++ [k]).Nodup
  | [], k, _, _ => by simp
  | a :: r, k, h, hk => by
    obtain ⟨h1, h2⟩ := List.nodup_cons.mp h
    show (a :: (r ++ [k])).Nodup
    refine List.nodup_cons.mpr ⟨fun m => ?_, nd_snoc h2 fun m => hk (List.mem_cons.mpr (Or.inr m))⟩
    rcases List.mem_append.mp m with q | q
    · exact h1 q
    · exact hk (List.mem_cons.mpr (Or.inl (List.mem_singleton.mp q).symm))
end
end L2
namespace L2
open PySem PySem.Spec PyProof.Rows
def tLoop (J : It) (g : TG) (tb : TS) : TS := fun D σ H => ∃ W : Nat → Nat → St → Hp → Prop, (∃ m, W 0 m σ H) ∧ ∀ i m σ H, W i m σ H →
  (J.stop i H ∧ D.nx σ H) ∨ (J.go i H ∧ ∃ N : St → Hp → Prop, (∀ σ' H', N σ' H' → ∃ m', m' < m ∧ W (i + 1) m' σ' H') ∧ ∀ x H', J.yld i H x H' → g x σ H' fun σ2 H2 => tb { D with nx := N, ct := N, bk := D.nx } σ2 H2)
def cInner (elt : Expr) (gens : List Comprehension) (scope : Scope) (pos : Pos) (d : Nat) (acc : Value) (env : Env) (k : Sem Fin) : Sem Fin :=
  match gens[d + 1]? with
  | some g' => eval g'.iter env >>= fun x => standAt g'.iter.pos >>= fun _ => foldedSetIterable g'.iter env x >>= fun x => holding [x] (pyIter x) >>= fun i =>
      runOwn (.compStart (.ListComp elt gens scope pos) (d + 1) i acc env) env >>= fun _ => k
  | none => (eval elt env >>= fun x => call (.builtin "list.append") [acc, x] >>= fun _ => pure ()) >>= fun _ => k
theorem compTurn_at {elt target iter : Expr} {ifs : List Expr} {gens : List Comprehension} {scope : Scope} {pos : Pos} {d : Nat} (it acc : Value) (env : Env) (hg : gens[d]? = some ⟨target, iter, ifs, 0⟩)
    (hn : ∀ g', gens[d + 1]? = some g' → g'.is_async = 0) :
    compTurn (.ListComp elt gens scope pos) d it acc env = (standAt iter.pos >>= fun _ => pyNext it >>= fun r => match r with
      | none => pure (.done .next)
      | some v => letOwnedTupleGo target it v >>= fun _ => assign target env v >>= fun _ =>
        (forIn ifs true fun c r => if r = true then do let ok ← isTrue c env (eval c env); pure (ForInStep.yield ok) else pure (ForInStep.yield r)) >>= fun ok =>
          if ok = true then cInner elt gens scope pos d acc env (again (.compLoop (.ListComp elt gens scope pos) d it acc env))
          else again (.compLoop (.ListComp elt gens scope pos) d it acc env)) := by
  unfold compTurn cInner
  simp only [hg]
  cases h : gens[d + 1]? with
  | none => rfl
  | some g' =>
    obtain ⟨t', i', f', a'⟩ := g'
    have e : a' = 0 := hn _ h
    subst e
    rfl
def tTests : List TT → TS → TS
  | [], tb => tb
  | c :: r, tb => tIfS c (tTests r tb) tNext
inductive PTs (X : Cx) : List Expr → List TT → Prop
  | nil : PTs X [] []
  | cons {c : Expr} {cs : List Expr} {t : TT} {ts : List TT} : PT X c t → PTs X cs ts → PTs X (c :: cs) (t :: ts)
section
variable {X : Cx}
theorem tests_false {cs : List Expr} {s : Shared} {Q : Bool → Shared → Prop} {E : Value → Shared → Prop} (h : Q false s) :
    wpAny (model X.prog X.w) X.A (forIn cs false fun c r => if r = true then do let ok ← isTrue c X.env (eval c X.env); pure (ForInStep.yield ok) else pure (ForInStep.yield r)) Q E s := by
  induction cs with
  | nil => rw [List.forIn_nil]; exact wpAny_pure h
  | cons c cs ih =>
    rw [List.forIn_cons, if_neg Bool.false_ne_true]
    exact wpAny_bind (wpAny_pure ih)
theorem tests_run {tb : TS} {D : Ends} {pins : List (Addr × Obj)} : ∀ {cs : List Expr} {ts : List TT}, PTs X cs ts → ∀ {s : Shared} {σ : St} {H : Hp}, Inv X pins σ H s → tTests ts tb D σ H →
    wpAny (model X.prog X.w) X.A (forIn cs true fun c r => if r = true then do let ok ← isTrue c X.env (eval c X.env); pure (ForInStep.yield ok) else pure (ForInStep.yield r))
      (fun ok s' => ∃ H', Inv X pins σ H' s' ∧ if ok = true then tb D σ H' else D.nx σ H') X.xe s
  | _, _, .nil, s, σ, H, I, h => by rw [List.forIn_nil]; exact wpAny_pure ⟨H, I, by rw [if_pos rfl]; exact h⟩
  | _, _, .cons (cs := cs) hc hr, s, σ, H, I, h => by
    rw [List.forIn_cons, if_pos rfl]
    refine wpAny_bind (wpAny_bind (thn (hc pins s σ H _ I h) fun b s1 ⟨H1, I1, q1⟩ => wpAny_pure ?_))
    cases b with
    | true =>
      rw [if_pos rfl] at q1
      exact tests_run hr I1 q1
    | false =>
      rw [if_neg Bool.false_ne_true] at q1
      exact tests_false ⟨H1, I1, by rw [if_neg Bool.false_ne_true]; exact q1⟩
end
def PB (X : Cx) (elt : Expr) (gens : List Comprehension) (scope : Scope) (pos : Pos) (d : Nat) (acc : Addr) (t : TS) : Prop :=
  ∀ (pins : List (Addr × Obj)) (s : Shared) (σ : St) (H : Hp) (D : Ends) (k : Sem Fin) (Q : Fin → Shared → Prop) (E : Value → Shared → Prop), Inv X pins σ H s → t D σ H →
    (∀ s' σ' H', Inv X pins σ' H' s' → D.nx σ' H' → wpAny (model X.prog X.w) X.A k Q E s') → wpAny (model X.prog X.w) X.A (cInner elt gens scope pos d (.ref acc) X.env k) Q E s
def tEmit (te : TE) (acc : Addr) : TS := fun D σ H => te σ H fun x H1 => ∃ xs, H1 acc = some (.lst xs) ∧ xs.length < sizeLine ∧ D.nx σ (upd H1 acc (.lst (xs ++ [x])))
section
variable {X : Cx}
theorem pb_emit {elt : Expr} {gens : List Comprehension} {scope : Scope} {pos : Pos} {d : Nat} {acc : Addr} {te : TE} (hx : X.xe = fun _ _ => False) (he : PE X elt te) (hl : gens[d + 1]? = none) : PB X elt gens scope pos d acc (tEmit te acc) := by
  intro pins s σ H D k Q E I h hk
  unfold cInner
  rw [hl]
  refine wpAny_bind (wpAny_bind (wpAny_mono (he pins s σ H _ I h) (fun v s1 ⟨x, H1, I1, r1, xs, ha, hz, q⟩ => ?_) fun _ _ z => by rw [hx] at z; exact z.elim))
  have hm := mt_append (X := X) pins s1 σ H1 (.ref acc) [x] (.ref acc) [v] (fun v H' => v = .non ∧ D.nx σ H') I1 rfl (.cons r1 .nil) ⟨acc, xs, x, rfl, rfl, ha, hz, rfl, q⟩
  refine wpAny_bind (wpAny_mono hm (fun _ s2 ⟨x2, H2, I2, r2, _, q2⟩ => wpAny_pure (hk s2 σ H2 I2 q2)) fun _ _ z => by rw [hx] at z; exact z.elim)
theorem comp_loop {elt target iter : Expr} {ifs : List Expr} {gens : List Comprehension} {scope : Scope} {pos : Pos} {d : Nat} {acc it : Addr} {fp : List Addr} {tn : Nat → Heap → Prop} {J : It} {g : TG} {ts : List TT} {tb : TS} {D : Ends} {pins : List (Addr × Obj)} {s : Shared} {σ : St} {H : Hp}
    (hx : X.xe = fun _ _ => False) (hc : X.calm = true) (hgd : gens[d]? = some ⟨target, iter, ifs, 0⟩) (hn : ∀ g', gens[d + 1]? = some g' → g'.is_async = 0)
    (hg : PG X target g) (hts : PTs X ifs ts) (hb : PB X elt gens scope pos d acc tb)
    (T : Turn X.prog X.w X.K target J fp it tn) (I : Inv X pins σ H s) (st : tn 0 s.heap) (hf : ∀ b ∈ fp, FpOk X pins H b) (h : tLoop J g (tTests ts tb) D σ H) :
    codeAny (model X.prog X.w) X.A (.compStart (.ListComp elt gens scope pos) d (.ref it) (.ref acc) X.env) (fun r s' => ∃ f, r = .ok f ∧ ∃ σ' H', Inv X pins σ' H' s' ∧ D.nx σ' H') s := by
  have stat : ∀ {H' : Hp}, (∀ b ∈ fp, H' b = none) → ∀ b ∈ fp, FpOk X pins H' b := fun hn b hb => ⟨hn b hb, (hf b hb).2⟩
  obtain ⟨W, ⟨m0, w0⟩, turn⟩ := h
  have E0 : ∀ (e : Value) (s' : Shared), X.xe e s' → notedBy (model X.prog X.w) X.A X.env (fun e s' => ∃ f, (Except.error e : Result) = .ok f ∧ ∃ σ' H', Inv X pins σ' H' s' ∧ D.nx σ' H') e s' := fun e s' z => by rw [hx] at z; exact z.elim
  have loop : codeAny (model X.prog X.w) X.A (.compLoop (.ListComp elt gens scope pos) d (.ref it) (.ref acc) X.env) (fun r s' => ∃ f, r = .ok f ∧ ∃ σ' H', Inv X pins σ' H' s' ∧ D.nx σ' H') s := by
    refine codeAny_loop rfl (fun n s' => ∃ i σ' H', Inv X pins σ' H' s' ∧ tn i s'.heap ∧ (∀ b ∈ fp, H' b = none) ∧ W i n σ' H') ?_ m0 ⟨0, σ, H, I, st, fun b hb => (hf b hb).1, w0⟩
    rintro n s3 ⟨i, σ3, H3, I3, st3, fr3, w3⟩
    show wpAny _ X.A ((compTurn (.ListComp elt gens scope pos) d (.ref it) (.ref acc) X.env).onRaise (fun x => do noteFrame x X.env; theTreesLotGoes x)) _ _ s3
    refine wpAny_noted ?_
    rw [compTurn_at _ _ _ hgd hn]
    refine wpAny_bind (wpAny_standAt (wpAny_bind ?_))
    rcases turn i n σ3 H3 w3 with ⟨stop, qn⟩ | ⟨go, N, hN, step⟩
    · refine wpAny_mono (T.done X rfl rfl rfl hc i pins s3 σ3 H3 (fun _ _ => False) I3 (stat fr3) st3 stop) (fun r s4 ⟨hr, I4⟩ => ?_) (fun _ _ z => z.elim)
      subst hr
      exact wpAny_pure ⟨.next, rfl, σ3, H3, I4, qn⟩
    · refine wpAny_mono (T.item X rfl rfl rfl hc i pins s3 σ3 H3 (fun _ _ => False) I3 (stat fr3) st3 go) (fun r s4 ⟨u, hr, h4⟩ => ?_) (fun _ _ z => z.elim)
      subst hr
      refine wpAny_bind (wpAny_mono h4 (fun _ s5 ⟨x, H5, I5, r5, y5, st5, fr5⟩ => ?_) (fun _ _ z => z.elim))
      have I5' := I5.pinned (stat fr5) (T.obj _ _ st5)
      refine wpAny_bind (wpAny_mono (hg _ s5 σ3 H5 x u _ I5' r5 (step x H5 y5)) (fun _ s6 ⟨σ6, H6, I6, q6⟩ => ?_) E0)
      refine wpAny_bind (wpAny_mono (tests_run hts I6 q6) (fun ok s7 ⟨H7, I7, q7⟩ => ?_) E0)
      have again : ∀ {σ7 : St} {H7 : Hp} {s7 : Shared}, Inv X (pins ++ pinsAt fp s5.heap) σ7 H7 s7 → N σ7 H7 → ∃ m, m < n ∧ ∃ i σ' H', Inv X pins σ' H' s7 ∧ tn i s7.heap ∧ (∀ b ∈ fp, H' b = none) ∧ W i m σ' H' := fun {σ7 H7 s7} I7 n7 => by
        obtain ⟨m', hm, w7⟩ := hN σ7 H7 n7
        refine ⟨m', hm, i + 1, σ7, H7, I7.unpinned, T.keep _ _ _ st5 fun b hb o e => (I7.pin (b, o) (List.mem_append_right _ (List.mem_append_right _ (mem_pinsAt hb e)))).1, fun b hb => ?_, w7⟩
        obtain ⟨o, e, d⟩ := T.obj _ _ st5 b hb
        exact (I7.pin (b, o) (List.mem_append_right _ (List.mem_append_right _ (mem_pinsAt hb e)))).2.1
      cases ok with
      | false =>
        rw [if_neg Bool.false_ne_true] at q7 ⊢
        exact wpAny_pure ⟨rfl, again I7 q7⟩
      | true =>
        rw [if_pos rfl] at q7 ⊢
        exact hb _ s7 σ6 H7 _ _ _ _ I7 q7 fun s8 σ8 H8 I8 q8 => wpAny_pure ⟨rfl, again I8 q8⟩
  refine codeAny_of_tree ?_
  show wpAny _ _ ((compStart (.ListComp elt gens scope pos) d (.ref it) (.ref acc) X.env).onRaise (fun x => do noteFrame x X.env; standAt theWindowsPlace)) _ _ s
  refine wpAny_notedAt ?_
  have hcl : clausesOf (.ListComp elt gens scope pos) = gens := rfl
  unfold compStart
  rw [hcl, hgd]
  show wpAny _ _ (ask >>= _) _ _ s
  refine wpAny_bind (wpAny_askSetting (wpAny_ite ?_))
  split
  · first
      | exact wpAny_bind (wpAny_pure (wpAny_pure (And.intro rfl loop)))
      | exact wpAny_pure (And.intro rfl loop)
  · refine wpAny_bind (wpAny_rule ?_)
    show wpAny _ _ (standAt iter.pos >>= _) _ _ s
    exact wpAny_bind (wpAny_standAt (wpAny_bind (T.self X.A 0 s _ _ st (wpAny_pure (And.intro rfl loop)))))
theorem pb_next {elt target iter : Expr} {ifs : List Expr} {gens : List Comprehension} {scope : Scope} {pos : Pos} {d : Nat} {acc : Addr} {wi : TI} {g : TG} {ts : List TT} {tb : TS}
    (hx : X.xe = fun _ _ => False) (hc : X.calm = true) (hgd : gens[d + 1]? = some ⟨target, iter, ifs, 0⟩) (hn : ∀ g', gens[d + 2]? = some g' → g'.is_async = 0)
    (hi : PI X target iter wi) (hg : PG X target g) (hts : PTs X ifs ts) (hb : PB X elt gens scope pos (d + 1) acc tb) (hs : ∀ x, foldedSetIterable iter X.env x = pure x := by intro _; rfl) :
    PB X elt gens scope pos d acc (tFor wi g (tTests ts tb)) := by
  intro pins s σ H D k Q E I h hk
  unfold cInner
  rw [hgd]
  have EX : ∀ (e : Value) (s' : Shared), X.xe e s' → E e s' := fun e s' z => by rw [hx] at z; exact z.elim
  refine wpAny_bind (wpAny_mono (hi pins s σ H (fun J H1 => tLoop J g (tTests ts tb) D σ H1) I h) (fun v s1 h1 => ?_) EX)
  refine wpAny_bind (wpAny_standAt (wpAny_bind (wpAny_of_eq (hs v) (wpAny_bind (wpAny_holding (wpAny_mono h1 (fun itv s2 h2 => ?_) EX))))))
  obtain ⟨it, fp, tn, J, H2, e, I2, T, st2, f2, q2⟩ := h2
  subst e
  refine wpAny_bind (wpAny_runOwn (codeAny_mono (comp_loop hx hc hgd hn hg hts hb T I2 st2 f2 q2) fun r s3 ⟨f, hr, σ3, H3, I3, q3⟩ => ?_))
  subst hr
  exact hk s3 σ3 H3 I3 q3
end
end L2
namespace L2
open PySem PySem.Spec PyProof.Rows
def closC (cells : List (Str × Addr)) : List (Str × NameKind) → List (Str × Addr) → List (Str × Addr)
  | [], acc => acc
  | (n, k) :: r, acc => if k == .free then closC cells r ((n, (cells.lookup n).getD 0) :: acc) else closC cells r acc
theorem closureFor_are {scope : Scope} {env : Env} (h : ∀ x ∈ scope.names, x.2 = .free → (env.cells.lookup x.1).isSome = true) : closureFor scope env = pure (closC env.cells scope.names []) := by
  have go : ∀ (names : List (Str × NameKind)) (acc : List (Str × Addr)), (∀ x ∈ names, x.2 = .free → (env.cells.lookup x.1).isSome = true) →
      (forIn names acc fun x (r : List (Str × Addr)) => if x.2 == NameKind.free then (do let c ← cellOf env x.1; pure (ForInStep.yield ((x.1, c) :: r))) else pure (ForInStep.yield r) : Sem (List (Str × Addr))) = pure (closC env.cells names acc) := by
    intro names
    induction names with
    | nil => intro acc _; rw [List.forIn_nil]; rfl
    | cons x r ih =>
      intro acc hh
      obtain ⟨n, k⟩ := x
      rw [List.forIn_cons]
      unfold closC
      cases hk : k == NameKind.free with
      | false =>
        rw [if_neg Bool.false_ne_true, if_neg Bool.false_ne_true]
        exact ih acc fun y hy => hh y (List.mem_cons_of_mem _ hy)
      | true =>
        rw [if_pos rfl, if_pos rfl]
        obtain ⟨c, hc⟩ := Option.isSome_iff_exists.mp (hh (n, k) List.mem_cons_self (by simpa using hk))
        have e : cellOf env n = pure c := by
          unfold cellOf
          rw [show env.cells.lookup n = some c from hc]
        show (do let x ← (do let c ← cellOf env n; pure (ForInStep.yield ((n, c) :: acc))); _) = _
        rw [e]
        rw [show ((env.cells.lookup n).getD 0) = c by rw [show env.cells.lookup n = some c from hc]; rfl]
        exact ih ((n, c) :: acc) fun y hy => hh y (List.mem_cons_of_mem _ hy)
  have := go scope.names [] h
  unfold closureFor
  refine Eq.trans ?_ (congrArg (fun m => m >>= fun r => pure r) this |>.trans rfl)
  rfl
theorem closC_out {cells : List (Str × Addr)} {x : Str} : ∀ (names : List (Str × NameKind)) (acc : List (Str × Addr)), (x, NameKind.free) ∉ names → (closC cells names acc).lookup x = acc.lookup x
  | [], _, _ => rfl
  | (n, k) :: r, acc, h => by
    unfold closC
    have hr : (x, NameKind.free) ∉ r := fun z => h (List.mem_cons_of_mem _ z)
    cases hk : k == NameKind.free with
    | false => rw [if_neg Bool.false_ne_true]; exact closC_out r acc hr
    | true =>
      rw [if_pos rfl, closC_out r _ hr, List.lookup_cons]
      have e : k = .free := by simpa using hk
      have ne : (x == n) = false := by
        cases q : x == n with
        | false => rfl
        | true => exact absurd (by rw [beq_iff_eq.mp q, e]; exact List.mem_cons_self) h
      rw [ne]
theorem closC_in {cells : List (Str × Addr)} {x : Str} {c : Addr} (hc : cells.lookup x = some c) : ∀ (names : List (Str × NameKind)) (acc : List (Str × Addr)), (x, NameKind.free) ∈ names → (closC cells names acc).lookup x = some c
  | [], _, h => by simp at h
  | (n, k) :: r, acc, h => by
    unfold closC
    by_cases hr : (x, NameKind.free) ∈ r
    · cases hk : k == NameKind.free with
      | false => rw [if_neg Bool.false_ne_true]; exact closC_in hc r acc hr
      | true => rw [if_pos rfl]; exact closC_in hc r _ hr
    · rcases List.mem_cons.mp h with e | e
      · cases e
        rw [if_pos (by decide), closC_out r _ hr, List.lookup_cons]
        simp [hc]
      · exact absurd e hr
theorem closC_from {cells : List (Str × Addr)} {x : Str} {c : Addr} : ∀ (names : List (Str × NameKind)) (acc : List (Str × Addr)), (∀ y ∈ names, y.2 = .free → (cells.lookup y.1).isSome = true) → (x, c) ∈ closC cells names acc →
    (x, c) ∈ acc ∨ ((x, NameKind.free) ∈ names ∧ cells.lookup x = some c)
  | [], _, _, h => .inl h
  | (n, k) :: r, acc, hh, h => by
    unfold closC at h
    have hr : ∀ y ∈ r, y.2 = .free → (cells.lookup y.1).isSome = true := fun y hy => hh y (List.mem_cons_of_mem _ hy)
    cases hk : k == NameKind.free with
    | false =>
      rw [hk, if_neg Bool.false_ne_true] at h
      exact (closC_from r acc hr h).imp id fun z => ⟨List.mem_cons_of_mem _ z.1, z.2⟩
    | true =>
      rw [hk, if_pos rfl] at h
      have ek : k = .free := by simpa using hk
      rcases closC_from r _ hr h with z | z
      · rcases List.mem_cons.mp z with z | z
        · cases z
          obtain ⟨d, hd⟩ := Option.isSome_iff_exists.mp (hh (x, k) List.mem_cons_self ek)
          exact .inr ⟨by rw [ek]; exact List.mem_cons_self, by rw [hd]; rfl⟩
        · exact .inl z
      · exact .inr ⟨List.mem_cons_of_mem _ z.1, z.2⟩
theorem closC_apart {cells : List (Str × Addr)} (inj : ∀ x y c, cells.lookup x = some c → cells.lookup y = some c → x = y) : ∀ (names : List (Str × NameKind)) (acc : List (Str × Addr)), (names.map (·.1)).Nodup →
    (∀ y ∈ names, y.2 = .free → (cells.lookup y.1).isSome = true) → (∀ p ∈ acc, cells.lookup p.1 = some p.2 ∧ p.1 ∉ names.map (·.1)) → (acc.Pairwise fun x y => x.2 ≠ y.2) → (closC cells names acc).Pairwise fun x y => x.2 ≠ y.2
  | [], _, _, _, _, h => h
  | (n, k) :: r, acc, nd, hh, ha, h => by
    unfold closC
    have hr : ∀ y ∈ r, y.2 = .free → (cells.lookup y.1).isSome = true := fun y hy => hh y (List.mem_cons_of_mem _ hy)
    obtain ⟨n1, n2⟩ := List.nodup_cons.mp nd
    cases hk : k == NameKind.free with
    | false =>
      rw [if_neg Bool.false_ne_true]
      exact closC_apart inj r acc n2 hr (fun p hp => ⟨(ha p hp).1, fun z => (ha p hp).2 (List.mem_cons_of_mem _ z)⟩) h
    | true =>
      rw [if_pos rfl]
      have ek : k = .free := by simpa using hk
      obtain ⟨d, hd⟩ := Option.isSome_iff_exists.mp (hh (n, k) List.mem_cons_self ek)
      have hd' : cells.lookup n = some d := hd
      refine closC_apart inj r _ n2 hr (fun p hp => ?_) (List.pairwise_cons.mpr ⟨fun p hp e => ?_, h⟩)
      · rcases List.mem_cons.mp hp with e | hp
        · subst e; exact ⟨by rw [hd']; rfl, n1⟩
        · exact ⟨(ha p hp).1, fun z => (ha p hp).2 (List.mem_cons_of_mem _ z)⟩
      · rw [hd'] at e
        have e' : d = p.2 := e
        have : n = p.1 := inj n p.1 d hd' (by rw [e']; exact (ha p hp).1)
        exact (ha p hp).2 (by rw [← this]; exact List.mem_cons_self)
theorem cellsFrom_from {x : Str} {c : Addr} : ∀ (names : List (Str × NameKind)) (n : Nat) (acc : List (Str × Addr)), (x, c) ∈ cellsFrom n names acc → (n ≤ c ∧ (x, NameKind.cell) ∈ names) ∨ (x, c) ∈ acc
  | [], _, _, h => .inr h
  | (y, k) :: r, n, acc, h => by
    unfold cellsFrom at h
    cases hk : k == NameKind.cell with
    | false =>
      rw [hk, if_neg Bool.false_ne_true] at h
      exact (cellsFrom_from r n acc h).imp (fun z => ⟨z.1, List.mem_cons_of_mem _ z.2⟩) id
    | true =>
      rw [hk, if_pos rfl] at h
      have ek : k = .cell := by simpa using hk
      rcases cellsFrom_from r (n + 1) _ h with z | z
      · exact .inl ⟨by omega, List.mem_cons_of_mem _ z.2⟩
      · rcases List.mem_cons.mp z with z | z
        · cases z
          exact .inl ⟨Nat.le_refl _, by rw [ek]; exact List.mem_cons_self⟩
        · exact .inr z
theorem cellsFrom_apart : ∀ (names : List (Str × NameKind)) (n : Nat) (acc : List (Str × Addr)), (∀ p ∈ acc, p.2 < n) → (acc.Pairwise fun x y => x.2 ≠ y.2) → (cellsFrom n names acc).Pairwise fun x y => x.2 ≠ y.2
  | [], _, _, _, h => h
  | (y, k) :: r, n, acc, hl, h => by
    unfold cellsFrom
    cases hk : k == NameKind.cell with
    | false => rw [if_neg Bool.false_ne_true]; exact cellsFrom_apart r n acc hl h
    | true =>
      rw [if_pos rfl]
      refine cellsFrom_apart r (n + 1) _ (fun p hp => ?_) (List.pairwise_cons.mpr ⟨fun p hp e => ?_, h⟩)
      · rcases List.mem_cons.mp hp with e | hp
        · subst e; exact Nat.lt_succ_self _
        · exact Nat.lt_succ_of_lt (hl p hp)
      · have e' : n = p.2 := e
        exact Nat.lt_irrefl _ (e' ▸ hl p hp)
theorem cellsFrom_out {x : Str} : ∀ (names : List (Str × NameKind)) (n : Nat) (acc : List (Str × Addr)), (x, NameKind.cell) ∉ names → (cellsFrom n names acc).lookup x = acc.lookup x
  | [], _, _, _ => rfl
  | (y, k) :: r, n, acc, h => by
    unfold cellsFrom
    have hr : (x, NameKind.cell) ∉ r := fun z => h (List.mem_cons_of_mem _ z)
    cases hk : k == NameKind.cell with
    | false => rw [if_neg Bool.false_ne_true]; exact cellsFrom_out r n acc hr
    | true =>
      rw [if_pos rfl, cellsFrom_out r _ _ hr, List.lookup_cons]
      have e : k = .cell := by simpa using hk
      have ne : (x == y) = false := by
        cases q : x == y with
        | false => rfl
        | true => exact absurd (by rw [beq_iff_eq.mp q, e]; exact List.mem_cons_self) h
      rw [ne]
theorem pushCells_empty {x : Str} {c : Addr} : ∀ (names : List (Str × NameKind)) (h : Heap) (acc : List (Str × Addr)), (x, c) ∈ cellsFrom h.objs.size names acc → (x, c) ∈ acc ∨ (pushCells h names).IsCell c none
  | [], _, _, hm => .inl hm
  | (y, k) :: r, h, acc, hm => by
    unfold cellsFrom at hm
    unfold pushCells
    cases hk : k == NameKind.cell with
    | false =>
      rw [hk, if_neg Bool.false_ne_true] at hm
      rw [if_neg Bool.false_ne_true]
      exact pushCells_empty r h acc hm
    | true =>
      rw [hk, if_pos rfl] at hm
      rw [if_pos rfl]
      have := pushCells_empty (x := x) (c := c) r (h.push { cls := .type "cell", data := .cell none }) ((y, h.objs.size) :: acc) (by rw [Heap.size_push]; exact hm)
      rcases this with z | z
      · rcases List.mem_cons.mp z with z | z
        · cases z
          exact .inr ⟨_, pushCells_keeps r _ _ _ (Heap.get?_push_size _ rfl), rfl⟩
        · exact .inl z
      · exact .inr z
theorem lookup_mem_nodup {x : Str} {k : NameKind} : ∀ {names : List (Str × NameKind)}, (names.map (·.1)).Nodup → (x, k) ∈ names → names.lookup x = some k
  | [], _, h => by simp at h
  | (y, j) :: r, nd, h => by
    obtain ⟨n1, n2⟩ := List.nodup_cons.mp nd
    rw [List.lookup_cons]
    rcases List.mem_cons.mp h with e | e
    · cases e; simp
    · have ne : (x == y) = false := by
        cases q : x == y with
        | false => rfl
        | true => exact absurd (List.mem_map.mpr ⟨(x, k), e, beq_iff_eq.mp q⟩) n1
      rw [ne]
      exact lookup_mem_nodup n2 e
theorem relabel_cases {scope : Scope} {env : Env} {x : Str} {k : NameKind} : (relabel scope env).names.lookup x = some k → (k = .cell ∨ k = .free) → scope.names.lookup x = some .cell ∨ scope.names.lookup x = some .free := by
  unfold relabel
  show (scope.names.map _).lookup x = some k → _
  induction scope.names with
  | nil => intro h; simp at h
  | cons p r ih =>
    obtain ⟨n, j⟩ := p
    intro h hk
    rw [List.map_cons] at h
    rw [List.lookup_cons]
    by_cases hc : (j == NameKind.free && env.scope.kind == .function && env.kindOf n == some .cell) = true
    · simp only [hc, if_true] at h
      rw [List.lookup_cons] at h
      cases q : x == n with
      | true =>
        have : j = .free := by
          have := (Bool.and_eq_true_iff.mp (Bool.and_eq_true_iff.mp hc).1).1
          simpa using this
        simp [this]
      | false => rw [q] at h; simpa using ih h hk
    · simp only [hc, Bool.false_eq_true, if_false] at h
      rw [List.lookup_cons] at h
      cases q : x == n with
      | true =>
        rw [q] at h
        simp only [Option.some.injEq] at h
        subst h
        rcases hk with e | e <;> simp [e]
      | false => rw [q] at h; simpa using ih h hk
theorem relabel_free {scope : Scope} {env : Env} {x : Str} (hf : env.scope.kind = .function) : scope.names.lookup x = some .free → (relabel scope env).names.lookup x = some .cell ∨ (relabel scope env).names.lookup x = some .free := by
  unfold relabel
  show _ → (scope.names.map _).lookup x = _ ∨ (scope.names.map _).lookup x = _
  induction scope.names with
  | nil => intro h; simp at h
  | cons p r ih =>
    obtain ⟨n, j⟩ := p
    intro h
    rw [List.lookup_cons] at h
    rw [List.map_cons]
    cases q : x == n with
    | true =>
      rw [q] at h
      simp only [Option.some.injEq] at h
      subst h
      by_cases hc : (NameKind.free == NameKind.free && env.scope.kind == .function && env.kindOf n == some .cell) = true
      · left; simp only [hc, if_true]; rw [List.lookup_cons, q]
      · right; simp only [hc, Bool.false_eq_true, if_false]; rw [List.lookup_cons, q]
    | false =>
      rw [q] at h
      by_cases hc : (j == NameKind.free && env.scope.kind == .function && env.kindOf n == some .cell) = true
      · simp only [hc, if_true]; rw [List.lookup_cons, q]; exact ih h
      · simp only [hc, Bool.false_eq_true, if_false]; rw [List.lookup_cons, q]; exact ih h
end L2
namespace L2
open PySem PySem.Spec PyProof.Rows
def cxComp (X : Cx) (N : List Str) (scope : Scope) (s : Shared) (H : Hp) (fp : List Addr) : Cx where
  prog := X.prog
  w := X.w
  K := X.K
  mg := X.mg
  base := X.base
  A := X.A
  N := N
  s₀ := s
  H₀ := H
  env := compEnvC scope (cellsFrom (s.heap.objs.size + 1) scope.names (closC X.env.cells scope.names [])) s.heap.objs.size X.env
  outer := X.stack
  stack := X.stack
  ex := fp
  fn := fun x => scope.names.lookup x == some .cell
  calm := X.calm
  pn := []
  xe := fun _ _ => False
def capt (σ : St) : Option Nat → Option V
  | none => none
  | some j => (σ[j]?).join
def compOk (N : List Str) (names encl : List (Str × NameKind)) (N' : List Str) (ix : List (Option Nat)) : Bool :=
  decide ((names.map (·.1)).Nodup) && names.all (fun p => !(p.2 == NameKind.free) || (encl.lookup p.1 == some NameKind.cell || encl.lookup p.1 == some NameKind.free)) && ix.length == N'.length &&
    ((N'.zip ix).all fun p => match p.2 with
      | none => true
      | some j => N[j]? == some p.1 && names.lookup p.1 == some NameKind.free)
def tComp (ix : List (Option Nat)) (wi : TI) (g : TG) (ts : List TT) (tb : Addr → TS) : TE := fun σ H Q => wi σ H fun J H1 => ∀ acc, H1 acc = none →
  tLoop J g (tTests ts (tb acc)) { nx := fun _ H' => Q (.ref acc) H', rt := fun _ _ => False } (ix.map (capt σ)) (upd H1 acc (.lst []))
section
variable {X : Cx} {elt target iter : Expr} {ifs : List Expr} {rest : List Comprehension} {scope : Scope} {pos : Pos} {N' : List Str} {ix : List (Option Nat)} {wi : TI} {g : TG} {ts : List TT} {tb : Addr → TS}
theorem comp_enter {pins : List (Addr × Obj)} {σ : St} {H : Hp} {s : Shared} {fp : List Addr} {Q : Env → Shared → Prop} {E : Value → Shared → Prop} (I : Inv X pins σ H s) (hok : compOk X.N scope.names X.env.scope.names N' ix = true) (hk : scope.kind = .function)
    (hf : ∀ b ∈ fp, FpOk X pins H b) (hfo : ∀ b ∈ fp, ∃ o, s.heap.get? b = some o)
    (h : ∀ s', (∀ b o, s.heap.get? b = some o → s'.heap.get? b = some o) → Inv (cxComp X N' scope s H fp) [] (ix.map (capt σ)) H s' → Q (newEnv scope s.heap.objs.size X.env.globals (cellsFrom (s.heap.objs.size + 1) scope.names (closC X.env.cells scope.names [])) X.env.qual none .none (some X.env) builtinsNs) s') :
    wpAny (model X.prog X.w) X.A (newFunctionEnv scope X.env.globals (closC X.env.cells scope.names []) [] X.env.qual none .none (some X.env)) Q E s := by
  have hok2 := hok
  simp only [compOk, Bool.and_eq_true, decide_eq_true_eq, List.all_eq_true] at hok
  obtain ⟨⟨⟨nd, hfr⟩, hlen⟩, hix⟩ := hok
  have hlen : ix.length = N'.length := by simpa using hlen
  have isF : ∀ y ∈ scope.names, y.2 = .free → X.env.kindOf y.1 = some .cell ∨ X.env.kindOf y.1 = some .free := fun y hy e => by
    have := hfr y hy
    have : X.env.scope.names.lookup y.1 = some .cell ∨ X.env.scope.names.lookup y.1 = some .free := by simpa [e] using this
    exact this
  have hasC : ∀ y ∈ scope.names, y.2 = .free → (X.env.cells.lookup y.1).isSome = true := fun y hy e => by
    obtain ⟨c, hc⟩ := I.ok.has y.1 (isF y hy e)
    rw [hc]; rfl
  have oldC : ∀ x c, (x, c) ∈ closC X.env.cells scope.names [] → (x, NameKind.free) ∈ scope.names ∧ X.env.cells.lookup x = some c := fun x c hm => (closC_from _ _ hasC hm).resolve_left (by simp)
  have ltC : ∀ x c, X.env.cells.lookup x = some c → c < s.heap.objs.size := fun x c e => by obtain ⟨v, q⟩ := I.cell x c e; exact q.lt
  have apart : (cellsFrom (s.heap.objs.size + 1) scope.names (closC X.env.cells scope.names [])).Pairwise fun x y => x.2 ≠ y.2 :=
    cellsFrom_apart _ _ _ (fun p hp => Nat.lt_succ_of_lt (ltC p.1 p.2 (oldC p.1 p.2 hp).2)) (closC_apart I.ok.inj _ _ nd hasC (by simp) List.Pairwise.nil)
  have fromC : ∀ x c, (cellsFrom (s.heap.objs.size + 1) scope.names (closC X.env.cells scope.names [])).lookup x = some c → (s.heap.objs.size + 1 ≤ c ∧ (x, NameKind.cell) ∈ scope.names) ∨ ((x, NameKind.free) ∈ scope.names ∧ X.env.cells.lookup x = some c) := fun x c e =>
    (cellsFrom_from _ _ _ (PySem.mem_of_lookup e)).imp id fun z => oldC x c z
  have sz1 : (s.heap.push { cls := .type "dict", data := .dict #[] }).objs.size = s.heap.objs.size + 1 := Heap.size_push ..
  simp only [newFunctionEnv, Option.isSome_some, if_true]
  refine wpAny_bind (wpAny_alloc ?_)
  refine wpAny_bind (wpAny_layCells _ (fun name kind cells => by cases hkc : kind == NameKind.cell <;> simp [hkc]) _ _ _ _ ?_)
  rw [show ({ s with heap := s.heap.push { cls := .type "dict", data := .dict #[] } } : Shared).heap.objs.size = s.heap.objs.size + 1 from sz1]
  refine wpAny_bind ?_
  rw [List.forIn_nil]
  refine wpAny_pure (wpAny_pure ?_)
  have keep : ∀ b o, s.heap.get? b = some o → (pushCells (s.heap.push { cls := .type "dict", data := .dict #[] }) scope.names).get? b = some o := fun b o e => pushCells_keeps _ _ b o (Heap.get?_push_of_some _ e)
  refine h _ keep ?_
  have kk : ∀ x : Str, (cxComp X N' scope s H fp).env.kindOf x = (relabel scope X.env).names.lookup x := fun _ => rfl
  have emptyC : ∀ x c, (cellsFrom (s.heap.objs.size + 1) scope.names (closC X.env.cells scope.names [])).lookup x = some c → ∃ v, (pushCells (s.heap.push { cls := .type "dict", data := .dict #[] }) scope.names).IsCell c v := fun x c e => by
    have := pushCells_empty (x := x) (c := c) scope.names (s.heap.push { cls := .type "dict", data := .dict #[] }) (closC X.env.cells scope.names []) (by rw [sz1]; exact PySem.mem_of_lookup e)
    rcases this with z | z
    · obtain ⟨v, q⟩ := I.cell x c (oldC x c z).2
      exact ⟨v, q.keeps keep⟩
    · exact ⟨none, z⟩
  refine ⟨⟨I.ok.mod, hk, I.ok.glob, I.ok.blt, Nat.le_refl _, fun y z c h1 h2 => ?_, fun y hy => ?_, fun y c hy e => ?_, I.ok.hd, I.ok.frames, .inl rfl, fun b hb => ⟨?_, fun x c e => ?_⟩, I.bs, Nat.le_trans I.ok.bsz I.sz, fun b o e hb => ?_, fun b hb hs => ?_, I.stack, I.stkFree⟩,
    rfl, I.bare, Un.kept keep, ⟨fun _ => none, (Heap.Ns.new s.heap (.type "dict")).keeps (pushCells_keeps _ _), fun i x v e1 e2 e3 => ?_⟩, emptyC, I.hok.fresh (Nat.le_refl _), fun y c e => ?_, fun p hp => absurd (show p ∈ ([] : List (Addr × Obj)) from hp) (by simp), I.hok.kept keep, by rw [List.length_map]; exact hlen⟩
  · exact name_of_addr apart (PySem.mem_of_lookup h1) (PySem.mem_of_lookup h2)
  · rw [kk] at hy
    have hy' : scope.names.lookup y = some .cell ∨ scope.names.lookup y = some .free := by
      rcases hy with q | q
      · exact relabel_cases q (.inl rfl)
      · exact relabel_cases q (.inr rfl)
    refine Option.isSome_iff_exists.mp (PySem.W.cellsFrom_some _ _ _ ?_)
    rcases hy' with q | q
    · exact .inl q
    · have hm := PySem.mem_of_lookup q
      obtain ⟨c, hc⟩ := Option.isSome_iff_exists.mp (hasC _ hm rfl)
      exact .inr (by rw [closC_in hc _ _ hm]; rfl)
  · have hy : scope.names.lookup y = some .cell := by simpa using (show (scope.names.lookup y == some NameKind.cell) = true from hy)
    rcases fromC y c e with z | z
    · exact Nat.le_of_succ_le z.1
    · have := lookup_mem_nodup nd z.1
      rw [hy] at this; cases this
  · obtain ⟨o, ho⟩ := hfo b hb
    exact Nat.ne_of_lt (Heap.lt_size ho)
  · rcases fromC x c e with z | z
    · obtain ⟨o, ho⟩ := hfo b hb
      exact Nat.ne_of_gt (Nat.lt_of_lt_of_le (Heap.lt_size ho) (Nat.le_of_succ_le z.1))
    · exact (hf b hb).2.2.2.2.1 x c z.2
  · rcases (hf b hb).2.2.2.1 with z | z
    · exact I.ok.noex b o e z
    · exact absurd (Nat.lt_of_lt_of_le (Heap.lt_size (I.ok.bs b o e).1) z) (Nat.lt_irrefl _)
  · rcases List.mem_cons.mp (I.stkSub b hs) with z | z
    · exact (hf b hb).2.1 z
    · exact (hf b hb).2.2.1 z
  · rw [List.getElem?_map] at e2
    cases hj : ix[i]? with
    | none => rw [hj] at e2; cases e2
    | some oj =>
      rw [hj] at e2
      have e2 : capt σ oj = some v := by simpa using e2
      cases oj with
      | none => cases e2
      | some j =>
        have hv : σ[j]? = some (some v) := by
          have e2' : (σ[j]?).join = some v := e2
          cases q : σ[j]? with
          | none => rw [q] at e2'; cases e2'
          | some w => rw [q] at e2'; have : w = some v := e2'; rw [this]
        have hz : (x, some j) ∈ N'.zip ix := by
          refine List.mem_of_getElem? (i := i) ?_
          rw [List.getElem?_zip_eq_some]
          exact ⟨e1, hj⟩
        have := hix _ hz
        simp only [Bool.and_eq_true, beq_iff_eq] at this
        obtain ⟨n1, n2⟩ := this
        have hm := PySem.mem_of_lookup n2
        obtain ⟨m, hn, hl⟩ := I.loc
        have kf := isF (x, .free) hm rfl
        have vis : Vis X.env.scope x := by
          rcases kf with q | q
          · exact .inr (.inl q)
          · exact .inr (.inr q)
        obtain ⟨u, r, l⟩ := hl j x v n1 hv vis
        refine ⟨u, r, .inr ?_⟩
        rcases l with ⟨k1, _⟩ | ⟨_, c, hc, hcell⟩
        · rcases kf with q | q <;> (rw [show X.env.kindOf x = some NameKind.local from k1] at q; cases q)
        · refine ⟨?_, c, ?_, hcell.keeps keep⟩
          · rw [kk]; exact relabel_free I.ok.kind n2
          · show (cellsFrom _ _ _).lookup x = some c
            rw [cellsFrom_out, closC_in hc _ _ hm]
            intro z
            have := lookup_mem_nodup nd z
            rw [n2] at this; cases this
  · rcases fromC y c e with z | z
    · exact I.hok.fresh (Nat.le_of_succ_le z.1)
    · exact I.freeC y c z.2
theorem comp_block {pins : List (Addr × Obj)} {σ : St} {H : Hp} {s : Shared} {it : Addr} {fp : List Addr} {tn : Nat → Heap → Prop} {J : It} {RR : Value → Addr → Result → Shared → Prop} {E : Value → Shared → Prop} {D : Addr → Ends}
    (hc : X.calm = true) (hok : compOk X.N scope.names X.env.scope.names N' ix = true) (hk : scope.kind = .function) (hn : ∀ g', rest[0]? = some g' → g'.is_async = 0)
    (hg : ∀ s H fp, PG (cxComp X N' scope s H fp) target g) (hts : ∀ s H fp, PTs (cxComp X N' scope s H fp) ifs ts)
    (hb : ∀ s H fp acc, PB (cxComp X N' scope s H fp) elt (⟨target, iter, ifs, 0⟩ :: rest) scope pos 0 acc (tb acc))
    (I : Inv X pins σ H s) (T : Turn X.prog X.w X.K target J fp it tn) (st : tn 0 s.heap) (hf : ∀ b ∈ fp, FpOk X pins H b)
    (h : ∀ acc, H acc = none → tLoop J g (tTests ts (tb acc)) (D acc) (ix.map (capt σ)) (upd H acc (.lst [])))
    (hR : ∀ acc C s' H' σ', H acc = none → s.heap.objs.size ≤ C → Inv X pins σ H' s' → FpOk X pins H' C → (∃ m, s'.heap.Ns C m) → (D acc).nx σ' H' → RR (.ref acc) C (.ok .next) s') :
    wpAny (model X.prog X.w) X.A (newList []) (fun acc s₃ => wpAny (model X.prog X.w) X.A (newFunctionEnv scope X.env.globals (closC X.env.cells scope.names []) [] X.env.qual none .none (some X.env)) (fun cenv s₄ =>
      codeAny (model X.prog X.w) X.A (.compStart (.ListComp elt (⟨target, iter, ifs, 0⟩ :: rest) scope pos) 0 (.ref it) acc { cenv with scope := relabel scope X.env }) (fun r s' => ∃ f, r = .ok f ∧ RR acc cenv.locals (.ok .next) s') s₄) E s₃) E s := by
  refine wpAny_newObj_type ?_
  have hnone : H s.heap.objs.size = none := I.hok.fresh (Nat.le_refl _)
  have I3 : Inv X pins σ (upd H s.heap.objs.size (.lst [])) { s with heap := s.heap.push { cls := .type "list", data := .seq ([] : List Value).toArray } } :=
    I.laid (t' := s.toks) (fun b u e => Heap.get?_push_of_some _ e) (Nat.le_refl _) ⟨Nat.zero_le _, [], 0, .nil, Heap.get?_push_size _ rfl⟩
  have hlt : ∀ b ∈ fp, b < s.heap.objs.size := fun b hb => by obtain ⟨o, ho, _⟩ := T.obj 0 _ st b hb; exact Heap.lt_size ho
  have hf3 : ∀ b ∈ fp, FpOk X pins (upd H s.heap.objs.size (.lst [])) b := fun b hb => ⟨by rw [upd_ne (Nat.ne_of_lt (hlt b hb))]; exact (hf b hb).1, (hf b hb).2⟩
  refine comp_enter (fp := fp) I3 hok hk hf3 (fun b hb => ?_) fun s4 keep I4 => ?_
  · obtain ⟨o, ho, _⟩ := T.obj 0 _ st b hb
    exact ⟨o, Heap.get?_push_of_some _ ho⟩
  have st4 : tn 0 s4.heap := T.keep 0 _ _ st fun b hb o e => keep b o (Heap.get?_push_of_some _ e)
  have size3 : ({ s with heap := s.heap.push { cls := .type "list", data := .seq ([] : List Value).toArray } } : Shared).heap.objs.size = s.heap.objs.size + 1 := Heap.size_push ..
  have hf4 : ∀ b ∈ fp, FpOk (cxComp X N' scope { s with heap := s.heap.push { cls := .type "list", data := .seq ([] : List Value).toArray } } (upd H s.heap.objs.size (.lst [])) fp) [] (upd H s.heap.objs.size (.lst [])) b := fun b hb =>
    ⟨(hf3 b hb).1, (I4.ok.exf b hb).1, I4.ok.exfs b hb, .inl hb, (I4.ok.exf b hb).2, fun p hp => absurd (show p ∈ ([] : List (Addr × Obj)) from hp) (by simp)⟩
  refine codeAny_mono (comp_loop (X := cxComp X N' scope { s with heap := s.heap.push { cls := .type "list", data := .seq ([] : List Value).toArray } } (upd H s.heap.objs.size (.lst [])) fp) rfl hc (d := 0) (gens := ⟨target, iter, ifs, 0⟩ :: rest) rfl hn (hg _ _ _) (hts _ _ _) (hb _ _ _ _) T I4 st4 hf4 (h _ hnone)) fun r s5 ⟨f, hr, σ5, H5, I5, q5⟩ => ⟨f, hr, ?_⟩
  have I6 : Inv X pins σ H5 s5 := I3.call' (ch := fp) (I5.os.trans rfl) I5.base I5.hok I5.bare fun b hb => ⟨(hf3 b hb).2.2.2.1, (hf3 b hb).2.1, (hf3 b hb).2.2.2.2.1, (hf3 b hb).2.2.2.2.2⟩
  have hC : s.heap.objs.size ≤ (cxComp X N' scope { s with heap := s.heap.push { cls := .type "list", data := .seq ([] : List Value).toArray } } (upd H s.heap.objs.size (.lst [])) fp).env.locals := by
    show s.heap.objs.size ≤ _
    exact Nat.le_trans (Nat.le_succ _) (Nat.le_of_eq size3.symm)
  refine hR _ _ s5 H5 σ5 hnone hC I6 (I3.fpOk (Nat.le_refl _) I5.free) ?_ q5
  obtain ⟨m, hm, _⟩ := I5.loc
  exact ⟨m, hm⟩
theorem compOk_names (hok : compOk X.N scope.names X.env.scope.names N' ix = true) : ∀ x ∈ scope.names, x.2 = .local → scope.names.lookup x.1 = some .local := by
  simp only [compOk, Bool.and_eq_true, decide_eq_true_eq, List.all_eq_true] at hok
  intro x hx e
  obtain ⟨n, k⟩ := x
  have e : k = .local := e
  subst e
  exact lookup_mem_nodup hok.1.1.1 hx
theorem compOk_clos {pins : List (Addr × Obj)} {σ : St} {H : Hp} {s : Shared} (I : Inv X pins σ H s) (hok : compOk X.N scope.names X.env.scope.names N' ix = true) : closureFor scope X.env = pure (closC X.env.cells scope.names []) := by
  refine closureFor_are fun y hy e => ?_
  simp only [compOk, Bool.and_eq_true, decide_eq_true_eq, List.all_eq_true] at hok
  have := hok.1.1.2 y hy
  have : X.env.scope.names.lookup y.1 = some .cell ∨ X.env.scope.names.lookup y.1 = some .free := by simpa [e] using this
  obtain ⟨c, hc⟩ := I.ok.has y.1 this
  rw [hc]; rfl
theorem pe_comp (hok : compOk X.N scope.names X.env.scope.names N' ix = true) (hk : scope.kind = .function) (hc : X.calm = true) (hi : PI X target iter wi)
    (hg : ∀ s H fp, PG (cxComp X N' scope s H fp) target g) (hts : ∀ s H fp, PTs (cxComp X N' scope s H fp) ifs ts)
    (hb : ∀ s H fp acc, PB (cxComp X N' scope s H fp) elt (⟨target, iter, ifs, 0⟩ :: rest) scope pos 0 acc (tb acc))
    (hn : ∀ g', rest[0]? = some g' → g'.is_async = 0 := by intro _ h; first | cases h; rfl | cases h) (hs : ∀ x, foldedSetIterable iter X.env x = pure x := by intro _; rfl) :
    PE X (.ListComp elt (⟨target, iter, ifs, 0⟩ :: rest) scope pos) (tComp ix wi g ts tb) := by
  intro pins s σ H Q I h
  rw [eval_ListComp]
  refine wpAny_comprehension_free (use := none) rfl hs (compOk_clos I hok) hk (compOk_names hok) (thn (hi pins s σ H _ I h) fun xv s₁ h₁ => thn h₁ fun itv s₂ h₂ => ?_)
  obtain ⟨it, fp, tn, J, H2, e, I2, T, st2, f2, q2⟩ := h₂
  subst e
  refine thn (comp_block (RR := fun acc C r s' => compPost (model X.prog X.w) X.A X.xe none (EP X pins σ Q) acc C r s') hc hok hk hn hg hts hb I2 T st2 f2 q2 fun acc C s' H' σ' ha hC I' fC hns q => ?_) fun acc s3 h3 => thn h3 fun cenv s4 h4 => codeAny_mono h4 fun r s5 ⟨f, hr, h5⟩ => ?_
  · obtain ⟨m, hm⟩ := hns
    refine ⟨m, hm, fun h' hs' => ⟨.ref acc, H', I'.turned (t' := s'.toks) (fun b o hb e => (hs'.2 b hb).trans e) fC.1 fC.2.1 fC.2.2.2.1 fC.2.2.2.2.1 fC.2.2.2.2.2, rfl, q⟩⟩
  · subst hr
    exact h5
theorem ps_setComp {i : Nat} {x : Str} {pos' spos : Pos} (hN : X.N.Nodup) (hix : X.N[i]? = some x) (hx : Loc X.env.scope x) (hok : compOk X.N scope.names X.env.scope.names N' ix = true) (hk : scope.kind = .function) (hc : X.calm = true) (hi : PI X target iter wi)
    (hg : ∀ s H fp, PG (cxComp X N' scope s H fp) target g) (hts : ∀ s H fp, PTs (cxComp X N' scope s H fp) ifs ts)
    (hb : ∀ s H fp acc, PB (cxComp X N' scope s H fp) elt (⟨target, iter, ifs, 0⟩ :: rest) scope pos 0 acc (tb acc))
    (hsw : swapsWith (.ListComp elt (⟨target, iter, ifs, 0⟩ :: rest) scope pos) (some (.Name x pos')) spos.line X.env = pure true := by rfl)
    (hf : X.fn x = true ∨ X.env.scope.names.lookup x = some .local := by first | exact .inl rfl | exact .inr rfl | assumption)
    (hn : ∀ g', rest[0]? = some g' → g'.is_async = 0 := by intro _ h; first | cases h; rfl | cases h) (hs : ∀ x, foldedSetIterable iter X.env x = pure x := by intro _; rfl) :
    PS X (.Assign [.Name x pos'] (.ListComp elt (⟨target, iter, ifs, 0⟩ :: rest) scope pos) spos) (tAsg (tComp ix wi g ts tb) (gName i)) := by
  intro pins s σ H D I h
  rw [exec_Assign_Name_used _ _ _ _ hsw]
  refine wpAny_bind (wpAny_standAt (wpAny_bind ?_))
  show wpAny _ X.A (do let _ ← comprehension (.ListComp elt (⟨target, iter, ifs, 0⟩ :: rest) scope pos) scope X.env _ (newList []) false (eval iter X.env) (some (assign (.Name x pos') X.env))) _ _ s
  refine wpAny_bind (wpAny_mono (wpAny_comprehension_free (use := some (assign (.Name x pos') X.env)) (Q := fun _ s' => SP X pins D .next s') rfl hs (compOk_clos I hok) hk (compOk_names hok) (thn (hi pins s σ H _ I h) fun xv s₁ h₁ => thn h₁ fun itv s₂ h₂ => ?_)) (fun _ s' hq => wpAny_pure (wpAny_pure hq)) fun _ _ e => e)
  obtain ⟨it, fp, tn, J, H2, e, I2, T, st2, f2, q2⟩ := h₂
  subst e
  refine thn (comp_block (RR := fun acc C r s' => compPost (model X.prog X.w) X.A X.xe (some (assign (.Name x pos') X.env)) (fun _ s' => SP X pins D .next s') acc C r s') hc hok hk hn hg hts hb I2 T st2 f2 q2 fun acc C s' H' σ' ha hC I' fC hns q => ?_) fun acc s3 h3 => thn h3 fun cenv s4 h4 => codeAny_mono h4 fun r s5 ⟨f, hr, h5⟩ => ?_
  · obtain ⟨m, hm⟩ := hns
    show wpAny _ X.A (assign (.Name x pos') X.env (.ref acc)) _ _ _
    refine wpAny_assign_Name (store_ok2 I' hN hix hx (v := .ref acc) rfl (fun s6 I6 ⟨a, hsb, ha6⟩ => ?_) hf)
    have hCa : C ≠ a := by
      rcases ha6 with z | z
      · rw [z]; exact fC.2.1
      · exact (fC.2.2.2.2.1 x a z).symm
    refine ⟨m, hm.sameBut hsb hCa, fun h' hs' => ⟨_, H', I6.turned (t' := s6.toks) (fun b o hb e => (hs'.2 b hb).trans e) fC.1 fC.2.1 fC.2.2.2.1 fC.2.2.2.2.1 fC.2.2.2.2.2, q⟩⟩
  · subst hr
    exact h5
end
end L2
namespace L2
open PySem PySem.Spec PyProof.Rows
theorem Same.tup {K : PySem.W.Frag} {H H' : Hp} {a : Addr} {xs : List V} (e : Same H H') (h : SqT K H a xs) : SqT K H' a xs := by
  rcases h with (h | ⟨o, h⟩) | h
  · exact .inl (.inl (e _ _ h))
  · exact .inl (.inr ⟨o, e _ _ h⟩)
  · exact .inr h
inductive Dt where
  | non | bl (b : Bool) | int (i : Int) | str (x : Str) | tup (ds : List Dt) | lst (ds : List Dt)
mutual
def Sh (K : PySem.W.Frag) (H : Hp) : Dt → V → Prop
  | .non, v => v = .non
  | .bl b, v => v = .bl b
  | .int i, v => v = .int i
  | .str x, v => v = .str x
  | .tup ds, v => ∃ a xs, v = .ref a ∧ SqT K H a xs ∧ ShL K H ds xs
  | .lst ds, v => ∃ a xs, v = .ref a ∧ SqL K H a xs ∧ ShL K H ds xs
def ShL (K : PySem.W.Frag) (H : Hp) : List Dt → List V → Prop
  | [], xs => xs = []
  | d :: ds, xs => ∃ x r, xs = x :: r ∧ Sh K H d x ∧ ShL K H ds r
end
mutual
def eqD : Dt → Dt → Bool
  | .non, .non => true
  | .bl a, .bl b => a == b
  | .int a, .int b => a == b
  | .str a, .str b => a == b
  | .bl a, .int b => (if a then 1 else 0) == b
  | .int a, .bl b => a == (if b then 1 else 0)
  | .tup ds, .tup es => eqL ds es
  | .lst ds, .lst es => eqL ds es
  | _, _ => false
def eqL : List Dt → List Dt → Bool
  | [], [] => true
  | d :: ds, e :: es => eqD d e && eqL ds es
  | _, _ => false
end
mutual
def dep : Dt → Nat
  | .tup ds => depL ds + 1
  | .lst ds => depL ds + 1
  | _ => 0
def depL : List Dt → Nat
  | [] => 0
  | d :: ds => max (dep d) (depL ds)
end
section
variable {K : PySem.W.Frag} {H H' : Hp}
mutual
theorem Sh.same (e : Same H H') : ∀ {d : Dt} {v : V}, Sh K H d v → Sh K H' d v
  | .non, _, h => h
  | .bl _, _, h => h
  | .int _, _, h => h
  | .str _, _, h => h
  | .tup ds, _, ⟨a, xs, h1, h2, h3⟩ => ⟨a, xs, h1, e.tup h2, ShL.same e h3⟩
  | .lst ds, _, ⟨a, xs, h1, h2, h3⟩ => ⟨a, xs, h1, e.seq h2, ShL.same e h3⟩
theorem ShL.same (e : Same H H') : ∀ {ds : List Dt} {xs : List V}, ShL K H ds xs → ShL K H' ds xs
  | [], _, h => h
  | d :: ds, _, ⟨x, r, h1, h2, h3⟩ => ⟨x, r, h1, Sh.same e h2, ShL.same e h3⟩
end
theorem ShL.length : ∀ {ds : List Dt} {xs : List V}, ShL K H ds xs → ds.length = xs.length
  | [], _, h => by rw [show _ = [] from h]; rfl
  | d :: ds, _, ⟨x, r, h1, h2, h3⟩ => by rw [h1, List.length_cons, List.length_cons, ShL.length h3]
theorem ShL.get : ∀ {ds : List Dt} {xs : List V} {j : Nat} {d : Dt}, ShL K H ds xs → ds[j]? = some d → ∃ x, xs[j]? = some x ∧ Sh K H d x
  | [], _, _, _, _, h => by simp at h
  | d :: ds, _, 0, e, ⟨x, r, h1, h2, h3⟩, h => by
    have : d = e := by simpa using h
    subst this
    exact ⟨x, by rw [h1]; rfl, h2⟩
  | d :: ds, _, j + 1, e, ⟨x, r, h1, h2, h3⟩, h => by
    obtain ⟨y, h4, h5⟩ := ShL.get (j := j) h3 (by simpa using h)
    exact ⟨y, by rw [h1]; simpa using h4, h5⟩
theorem ShL.ints : ∀ (ns : List Int), ShL K H (ns.map Dt.int) (ns.map V.int)
  | [] => rfl
  | n :: ns => ⟨.int n, ns.map V.int, rfl, rfl, ShL.ints ns⟩
theorem ShL.of_ints : ∀ {ns : List Int} {xs : List V}, ShL K H (ns.map Dt.int) xs → xs = ns.map V.int
  | [], _, h => h
  | n :: ns, _, ⟨x, r, h1, h2, h3⟩ => by rw [h1, ShL.of_ints h3, show x = V.int n from h2]; rfl
end
mutual
theorem eqD_refl : ∀ d : Dt, eqD d d = true
  | .non => by unfold eqD; rfl
  | .bl b => by unfold eqD; simp
  | .int b => by unfold eqD; simp
  | .str b => by unfold eqD; simp
  | .tup ds => by unfold eqD; exact eqL_refl ds
  | .lst ds => by unfold eqD; exact eqL_refl ds
theorem eqL_refl : ∀ ds : List Dt, eqL ds ds = true
  | [] => by unfold eqL; rfl
  | d :: ds => by unfold eqL; rw [eqD_refl d, eqL_refl ds]; rfl
end
theorem eqL_length : ∀ {ds es : List Dt}, eqL ds es = true → ds.length = es.length
  | [], [], _ => rfl
  | [], _ :: _, h => by unfold eqL at h; cases h
  | _ :: _, [], h => by unfold eqL at h; cases h
  | d :: ds, e :: es, h => by
    unfold eqL at h
    rw [List.length_cons, List.length_cons, eqL_length (Bool.and_eq_true_iff.mp h).2]
theorem all_range_succ (n : Nat) (f : Nat → Bool) : (List.range (n + 1)).all f = (f 0 && (List.range n).all fun j => f (j + 1)) := by
  rw [List.range_succ_eq_map, List.all_cons, List.all_map]
  rfl
theorem eqL_all : ∀ (ds es : List Dt), ((List.range (min ds.length es.length)).all (fun j => eqD (ds.getD j .non) (es.getD j .non)) && ds.length == es.length) = eqL ds es
  | [], [] => by unfold eqL; rfl
  | [], e :: es => by unfold eqL; simp
  | d :: ds, [] => by unfold eqL; simp
  | d :: ds, e :: es => by
    have ih := eqL_all ds es
    unfold eqL
    rw [← ih, List.length_cons, List.length_cons, Nat.succ_min_succ, all_range_succ, Bool.and_assoc]
    congr 1
    congr 1
    simp
theorem depL_le {ds : List Dt} {j : Nat} {d : Dt} (h : ds[j]? = some d) : dep d ≤ depL ds := by
  induction ds generalizing j with
  | nil => simp at h
  | cons e es ih =>
    unfold depL
    cases j with
    | zero =>
      have : e = d := by simpa using h
      subst this
      exact Nat.le_max_left _ _
    | succ j => exact Nat.le_trans (ih (by simpa using h)) (Nat.le_max_right _ _)
section
variable {X : Cx} {pins : List (Addr × Obj)} {σ : St} {H : Hp} {s : Shared}
theorem Inv.tl_ne (I : Inv X pins σ H s) {a : Addr} {xs ys : List V} (h : SqT X.K H a xs) (h' : SqL X.K H a ys) : False := by
  obtain ⟨its, r, ⟨o, e, c, n, d⟩, _⟩ := I.tuple h
  obtain ⟨its', r', ⟨o', n', e', c', _, d'⟩, _⟩ := I.list h'
  rw [e] at e'; cases e'
  rw [c] at c'; simp at c'
mutual
theorem Inv.sh_inj (I : Inv X pins σ H s) : ∀ {d e : Dt} {v : V}, Sh X.K H d v → Sh X.K H e v → d = e
  | .non, e, v, h, h' => by
    have h : v = .non := h
    subst h
    cases e <;> first | rfl | (exact absurd (show V.non = _ from h') (fun z => nomatch z)) | (obtain ⟨_, _, z, _⟩ := h'; cases z)
  | .bl b, e, v, h, h' => by
    have h : v = .bl b := h
    subst h
    cases e <;> first | (cases (show V.bl b = V.bl _ from h'); rfl) | (exact absurd (show V.bl b = _ from h') (fun z => nomatch z)) | (obtain ⟨_, _, z, _⟩ := h'; cases z)
  | .int b, e, v, h, h' => by
    have h : v = .int b := h
    subst h
    cases e <;> first | (cases (show V.int b = V.int _ from h'); rfl) | (exact absurd (show V.int b = _ from h') (fun z => nomatch z)) | (obtain ⟨_, _, z, _⟩ := h'; cases z)
  | .str b, e, v, h, h' => by
    have h : v = .str b := h
    subst h
    cases e <;> first | (cases (show V.str b = V.str _ from h'); rfl) | (exact absurd (show V.str b = _ from h') (fun z => nomatch z)) | (obtain ⟨_, _, z, _⟩ := h'; cases z)
  | .tup ds, e, v, ⟨a, xs, h1, h2, h3⟩, h' => by
    subst h1
    cases e with
    | tup es =>
      obtain ⟨a', xs', z, h2', h3'⟩ := h'
      cases z
      rw [I.tuple_inj h2' h2] at h3'
      rw [Inv.shL_inj I h3 h3']
    | lst es =>
      obtain ⟨a', xs', z, h2', h3'⟩ := h'
      cases z
      exact (I.tl_ne h2 h2').elim
    | _ => exact absurd (show V.ref a = _ from h') (fun z => nomatch z)
  | .lst ds, e, v, ⟨a, xs, h1, h2, h3⟩, h' => by
    subst h1
    cases e with
    | lst es =>
      obtain ⟨a', xs', z, h2', h3'⟩ := h'
      cases z
      rw [I.list_inj h2' h2] at h3'
      rw [Inv.shL_inj I h3 h3']
    | tup es =>
      obtain ⟨a', xs', z, h2', h3'⟩ := h'
      cases z
      exact (I.tl_ne h2' h2).elim
    | _ => exact absurd (show V.ref a = _ from h') (fun z => nomatch z)
theorem Inv.shL_inj (I : Inv X pins σ H s) : ∀ {ds es : List Dt} {xs : List V}, ShL X.K H ds xs → ShL X.K H es xs → ds = es
  | [], [], _, _, _ => rfl
  | [], e :: es, _, h, ⟨x, r, h1, _⟩ => by rw [show _ = [] from h] at h1; cases h1
  | d :: ds, [], _, ⟨x, r, h1, _⟩, h => by rw [show _ = [] from h] at h1; cases h1
  | d :: ds, e :: es, _, ⟨x, r, h1, h2, h3⟩, ⟨x', r', h1', h2', h3'⟩ => by
    rw [h1] at h1'
    cases h1'
    rw [Inv.sh_inj I h2 h2', Inv.shL_inj I h3 h3']
end
end
end L2
namespace L2
open PySem PySem.Spec PyProof.Rows
section
variable {X : Cx} {pins : List (Addr × Obj)} {σ : St} {H : Hp} {s : Shared}
open PySem.SeqAt
theorem items_at {ds es : List Dt} {xs ys : List V} {us vs : List Value} (hs : ShL X.K H ds xs) (hr : Vals xs us) (hs' : ShL X.K H es ys) (hr' : Vals ys vs) {A : Around}
    (h : ∀ (d e : Dt) (x y : V) (u v : Value), (∃ j : Nat, ds[j]? = some d) → RelV x u → RelV y v → Sh X.K H d x → Sh X.K H e y → EqAt A s u v (eqD d e)) :
    ∀ j (h1 : j < us.toArray.size) (h2 : j < vs.toArray.size), EqAt A s us.toArray[j] vs.toArray[j] (eqD (ds.getD j .non) (es.getD j .non)) := by
  intro j h1 h2
  have l1 := hs.length
  have l2 := hr.length
  have l3 := hs'.length
  have l4 := hr'.length
  have g1 : j < us.length := by simpa using h1
  have g2 : j < vs.length := by simpa using h2
  have e1 : ds[j]? = some (ds.getD j .non) := by rw [List.getD_eq_getElem?_getD, List.getElem?_eq_getElem (by omega)]; rfl
  have e2 : es[j]? = some (es.getD j .non) := by rw [List.getD_eq_getElem?_getD, List.getElem?_eq_getElem (by omega)]; rfl
  obtain ⟨x, hx, sx⟩ := hs.get e1
  obtain ⟨y, hy, sy⟩ := hs'.get e2
  obtain ⟨u, hu, ru⟩ := hr.get hx
  obtain ⟨v, hv, rv⟩ := hr'.get hy
  have q1 : us.toArray[j] = u := by
    rw [List.getElem?_eq_getElem g1] at hu
    simpa using hu
  have q2 : vs.toArray[j] = v := by
    rw [List.getElem?_eq_getElem g2] at hv
    simpa using hv
  rw [q1, q2]
  exact h _ _ x y u v ⟨j, e1⟩ ru rv sx sy
theorem Inv.eq_sh (I : Inv X pins σ H s) : ∀ (n : Nat) (A : Around) (d e : Dt) (x y : V) (u v : Value), dep d ≤ n → A.units + n < cLine → RelV x u → RelV y v → Sh X.K H d x → Sh X.K H e y → RcAt A s u v (eqD d e) ∧ EqAt A s u v (eqD d e) := by
  intro n
  induction n with
  | zero =>
    intro A d e x y u v hd hu rx ry hx hy
    have hu0 : A.units < cLine := by omega
    cases d with
    | tup ds => unfold dep at hd; omega
    | lst ds => unfold dep at hd; omega
    | non =>
      obtain rfl : x = .non := hx
      obtain rfl : u = Value.none := rx
      cases e with
      | non => obtain rfl : y = .non := hy; obtain rfl : v = Value.none := ry; unfold eqD; exact ⟨RcAt.none_none, EqAt.same _⟩
      | bl b => obtain rfl : y = .bl b := hy; obtain rfl : v = Value.bool b := ry; unfold eqD; exact ⟨RcAt.none_bool b, EqAt.none_bool b⟩
      | int b => obtain rfl : y = .int b := hy; obtain ⟨t, rfl⟩ := ry; unfold eqD; exact ⟨RcAt.none_int b t, EqAt.none_int b t⟩
      | str b => obtain rfl : y = .str b := hy; obtain ⟨t, rfl⟩ := ry; unfold eqD; exact ⟨RcAt.none_str b t, EqAt.none_str b t⟩
      | tup es => obtain ⟨b, ys, rfl, hq, _⟩ := hy; obtain rfl : v = Value.ref b := ry; obtain ⟨its, _, p, _⟩ := I.tuple hq; unfold eqD; exact ⟨RcAt.none_tuple (show s.heap.IsTuple b its.toArray from p) hu0, EqAt.none_tuple (show s.heap.IsTuple b its.toArray from p) hu0⟩
      | lst es => obtain ⟨b, ys, rfl, hq, _⟩ := hy; obtain rfl : v = Value.ref b := ry; obtain ⟨its, _, p, _⟩ := I.list hq; unfold eqD; exact ⟨RcAt.none_list p.isList hu0, EqAt.none_list p.isList hu0⟩
    | bl a =>
      obtain rfl : x = .bl a := hx
      obtain rfl : u = Value.bool a := rx
      cases e with
      | non => obtain rfl : y = .non := hy; obtain rfl : v = Value.none := ry; unfold eqD; exact ⟨RcAt.bool_none a, EqAt.bool_none a⟩
      | bl b => obtain rfl : y = .bl b := hy; obtain rfl : v = Value.bool b := ry; unfold eqD; exact ⟨RcAt.bool_bool a b, EqAt.bool_bool a b⟩
      | int b => obtain rfl : y = .int b := hy; obtain ⟨t, rfl⟩ := ry; unfold eqD; exact ⟨RcAt.bool_int a b t, EqAt.bool_int a b t⟩
      | str b => obtain rfl : y = .str b := hy; obtain ⟨t, rfl⟩ := ry; unfold eqD; exact ⟨RcAt.bool_str a b t, EqAt.bool_str a b t⟩
      | tup es => obtain ⟨b, ys, rfl, hq, _⟩ := hy; obtain rfl : v = Value.ref b := ry; obtain ⟨its, _, p, _⟩ := I.tuple hq; unfold eqD; exact ⟨RcAt.bool_tuple a (show s.heap.IsTuple b its.toArray from p) hu0, EqAt.bool_tuple a (show s.heap.IsTuple b its.toArray from p) hu0⟩
      | lst es => obtain ⟨b, ys, rfl, hq, _⟩ := hy; obtain rfl : v = Value.ref b := ry; obtain ⟨its, _, p, _⟩ := I.list hq; unfold eqD; exact ⟨RcAt.bool_list a p.isList hu0, EqAt.bool_list a p.isList hu0⟩
    | int a =>
      obtain rfl : x = .int a := hx
      obtain ⟨t0, rfl⟩ := rx
      cases e with
      | non => obtain rfl : y = .non := hy; obtain rfl : v = Value.none := ry; unfold eqD; exact ⟨RcAt.int_none a t0, EqAt.int_none a t0⟩
      | bl b => obtain rfl : y = .bl b := hy; obtain rfl : v = Value.bool b := ry; unfold eqD; exact ⟨RcAt.int_bool a t0 b, EqAt.int_bool a t0 b⟩
      | int b => obtain rfl : y = .int b := hy; obtain ⟨t, rfl⟩ := ry; unfold eqD; exact ⟨RcAt.int_int a t0 b t, EqAt.int_int a t0 b t⟩
      | str b => obtain rfl : y = .str b := hy; obtain ⟨t, rfl⟩ := ry; unfold eqD; exact ⟨RcAt.int_str a t0 b t, EqAt.int_str a t0 b t⟩
      | tup es => obtain ⟨b, ys, rfl, hq, _⟩ := hy; obtain rfl : v = Value.ref b := ry; obtain ⟨its, _, p, _⟩ := I.tuple hq; unfold eqD; exact ⟨RcAt.int_tuple a t0 (show s.heap.IsTuple b its.toArray from p) hu0, EqAt.int_tuple a t0 (show s.heap.IsTuple b its.toArray from p) hu0⟩
      | lst es => obtain ⟨b, ys, rfl, hq, _⟩ := hy; obtain rfl : v = Value.ref b := ry; obtain ⟨its, _, p, _⟩ := I.list hq; unfold eqD; exact ⟨RcAt.int_list a t0 p.isList hu0, EqAt.int_list a t0 p.isList hu0⟩
    | str a =>
      obtain rfl : x = .str a := hx
      obtain ⟨t0, rfl⟩ := rx
      cases e with
      | non => obtain rfl : y = .non := hy; obtain rfl : v = Value.none := ry; unfold eqD; exact ⟨RcAt.str_none a t0, EqAt.str_none a t0⟩
      | bl b => obtain rfl : y = .bl b := hy; obtain rfl : v = Value.bool b := ry; unfold eqD; exact ⟨RcAt.str_bool a t0 b, EqAt.str_bool a t0 b⟩
      | int b => obtain rfl : y = .int b := hy; obtain ⟨t, rfl⟩ := ry; unfold eqD; exact ⟨RcAt.str_int a t0 b t, EqAt.str_int a t0 b t⟩
      | str b => obtain rfl : y = .str b := hy; obtain ⟨t, rfl⟩ := ry; unfold eqD; exact ⟨RcAt.str_str a t0 b t, EqAt.str_str a t0 b t⟩
      | tup es => obtain ⟨b, ys, rfl, hq, _⟩ := hy; obtain rfl : v = Value.ref b := ry; obtain ⟨its, _, p, _⟩ := I.tuple hq; unfold eqD; exact ⟨RcAt.str_tuple a t0 (show s.heap.IsTuple b its.toArray from p) hu0, EqAt.str_tuple a t0 (show s.heap.IsTuple b its.toArray from p) hu0⟩
      | lst es => obtain ⟨b, ys, rfl, hq, _⟩ := hy; obtain rfl : v = Value.ref b := ry; obtain ⟨its, _, p, _⟩ := I.list hq; unfold eqD; exact ⟨RcAt.str_list a t0 p.isList hu0, EqAt.str_list a t0 p.isList hu0⟩
  | succ n ih =>
    intro A d e x y u v hd hu rx ry hx hy
    have hu0 : A.units < cLine := by omega
    by_cases hd0 : dep d ≤ n
    · exact ih A d e x y u v hd0 (by omega) rx ry hx hy
    cases d with
    | non => exact absurd (Nat.zero_le _) hd0
    | bl a => exact absurd (Nat.zero_le _) hd0
    | int a => exact absurd (Nat.zero_le _) hd0
    | str a => exact absurd (Nat.zero_le _) hd0
    | tup ds =>
      have hdd : depL ds ≤ n := by unfold dep at hd; omega
      have hx0 := hx
      obtain ⟨a, xs, rfl, hq, hl⟩ := hx
      obtain rfl : u = Value.ref a := rx
      obtain ⟨its, rv, p, _⟩ := I.tuple hq
      have p : s.heap.IsTuple a its.toArray := p
      cases e with
      | non => obtain rfl : y = .non := hy; obtain rfl : v = Value.none := ry; unfold eqD; exact ⟨RcAt.tuple_none p hu0, EqAt.tuple_none p hu0⟩
      | bl b => obtain rfl : y = .bl b := hy; obtain rfl : v = Value.bool b := ry; unfold eqD; exact ⟨RcAt.tuple_bool b p hu0, EqAt.tuple_bool b p hu0⟩
      | int b => obtain rfl : y = .int b := hy; obtain ⟨t, rfl⟩ := ry; unfold eqD; exact ⟨RcAt.tuple_int b t p hu0, EqAt.tuple_int b t p hu0⟩
      | str b => obtain rfl : y = .str b := hy; obtain ⟨t, rfl⟩ := ry; unfold eqD; exact ⟨RcAt.tuple_str b t p hu0, EqAt.tuple_str b t p hu0⟩
      | lst es => obtain ⟨b, ys, rfl, hq', _⟩ := hy; obtain rfl : v = Value.ref b := ry; obtain ⟨its', _, p', _⟩ := I.list hq'; unfold eqD; exact ⟨RcAt.tuple_list p p'.isList hu0, EqAt.tuple_list p p'.isList hu0⟩
      | tup es =>
        have hy0 := hy
        obtain ⟨b, ys, rfl, hq', hl'⟩ := hy
        obtain rfl : v = Value.ref b := ry
        obtain ⟨its', rv', p', _⟩ := I.tuple hq'
        have p' : s.heap.IsTuple b its'.toArray := p'
        have he := items_at (A := A.in1) (s := s) hl rv hl' rv' (fun d e x y u v ⟨j, hj⟩ r1 r2 s1 s2 => (ih A.in1 d e x y u v (Nat.le_trans (depL_le hj) hdd) (by show A.units + 1 + n < cLine; omega) r1 r2 s1 s2).2)
        have rc := RcAt.tuples p p' hu0 he
        have l1 := hl.length
        have l2 := rv.length
        have l3 := hl'.length
        have l4 := rv'.length
        rw [List.size_toArray, List.size_toArray, ← l2, ← l4, ← l1, ← l3, eqL_all] at rc
        unfold eqD
        refine ⟨rc, ?_⟩
        by_cases hab : a = b
        · subst hab
          have := I.sh_inj hx0 hy0
          cases this
          rw [eqL_refl]
          exact EqAt.same _
        · exact EqAt.of_refs hab rc
    | lst ds =>
      have hdd : depL ds ≤ n := by unfold dep at hd; omega
      have hx0 := hx
      obtain ⟨a, xs, rfl, hq, hl⟩ := hx
      obtain rfl : u = Value.ref a := rx
      obtain ⟨its, rv, p, _⟩ := I.list hq
      have p := p.isList
      cases e with
      | non => obtain rfl : y = .non := hy; obtain rfl : v = Value.none := ry; unfold eqD; exact ⟨RcAt.list_none p hu0, EqAt.list_none p hu0⟩
      | bl b => obtain rfl : y = .bl b := hy; obtain rfl : v = Value.bool b := ry; unfold eqD; exact ⟨RcAt.list_bool b p hu0, EqAt.list_bool b p hu0⟩
      | int b => obtain rfl : y = .int b := hy; obtain ⟨t, rfl⟩ := ry; unfold eqD; exact ⟨RcAt.list_int b t p hu0, EqAt.list_int b t p hu0⟩
      | str b => obtain rfl : y = .str b := hy; obtain ⟨t, rfl⟩ := ry; unfold eqD; exact ⟨RcAt.list_str b t p hu0, EqAt.list_str b t p hu0⟩
      | tup es => obtain ⟨b, ys, rfl, hq', _⟩ := hy; obtain rfl : v = Value.ref b := ry; obtain ⟨its', _, p', _⟩ := I.tuple hq'; unfold eqD; exact ⟨RcAt.list_tuple p (show s.heap.IsTuple b its'.toArray from p') hu0, EqAt.list_tuple p (show s.heap.IsTuple b its'.toArray from p') hu0⟩
      | lst es =>
        have hy0 := hy
        obtain ⟨b, ys, rfl, hq', hl'⟩ := hy
        obtain rfl : v = Value.ref b := ry
        obtain ⟨its', rv', p', _⟩ := I.list hq'
        have p' := p'.isList
        have l1 := hl.length
        have l2 := rv.length
        have l3 := hl'.length
        have l4 := rv'.length
        have rc : RcAt A s (.ref a) (.ref b) (eqL ds es) := by
          by_cases hz : ds.length = es.length
          · have he := items_at (A := A.in1) (s := s) hl rv hl' rv' (fun d e x y u v ⟨j, hj⟩ r1 r2 s1 s2 => (ih A.in1 d e x y u v (Nat.le_trans (depL_le hj) hdd) (by show A.units + 1 + n < cLine; omega) r1 r2 s1 s2).2)
            have rc := RcAt.lists p p' (by rw [List.size_toArray, List.size_toArray]; omega) hu0 he
            rw [List.size_toArray, ← l2, ← l1] at rc
            have q := eqL_all ds es
            rw [← hz, Nat.min_self, beq_self_eq_true, Bool.and_true] at q
            rw [← q]
            exact rc
          · have q : eqL ds es = false := by
              cases q : eqL ds es with
              | false => rfl
              | true => exact absurd (eqL_length q) hz
            rw [q]
            exact RcAt.lists_lengths p p' (by rw [List.size_toArray, List.size_toArray]; simp; omega) hu0
        unfold eqD
        refine ⟨rc, ?_⟩
        by_cases hab : a = b
        · subst hab
          have := I.sh_inj hx0 hy0
          cases this
          rw [eqL_refl]
          exact EqAt.same _
        · exact EqAt.of_refs hab rc
def rEqD (K : PySem.W.Frag) : R2 := fun x y H Q => ∃ d e, dep d ≤ 100 ∧ Sh K H d x ∧ Sh K H e y ∧ Q (.bl (eqD d e)) H
theorem op_eqD (hu : X.A.units + 100 < cLine) : OpR X (compareOp .Eq) (rEqD X.K) := by
  intro pins s σ H x y v u Q I rx ry ⟨d, e, hd, hx, hy, q⟩
  exact (I.eq_sh 100 X.A d e x y v u hd hu rx ry hx hy).1 X.prog X.w X.xe _ ⟨.bl _, H, I, rfl, q⟩
end
end L2
namespace L2
open PySem PySem.Spec PyProof.Rows
section
variable {X : Cx} {pins : List (Addr × Obj)} {σ : St} {H : Hp} {s : Shared}
open PySem.SeqAt
def isiD : Dt → String → Bool
  | .non, _ => false
  | .bl _, T => T == "bool" || T == "int"
  | .int _, T => T == "int"
  | .str _, T => T == "str"
  | .tup _, T => T == "tuple"
  | .lst _, T => T == "list"
def rIsi (K : PySem.W.Frag) : List V → Hp → VK → Prop := fun vs H Q => ∃ x d T, vs = [x, .ty T] ∧ (T = "int" ∨ T = "bool" ∨ T = "tuple" ∨ T = "list" ∨ T = "str") ∧ Sh K H d x ∧ Q (.bl (isiD d T)) H
theorem call_isi : CallR X (.builtin "isinstance") (rIsi X.K) := by
  intro pins s σ H xs us Q I r ⟨x, d, T, e, hT, hx, q⟩
  subst e
  obtain ⟨u, w', rfl, rx, rt⟩ := r.two
  obtain rfl : w' = Value.type T := rt
  have fin : ∀ (b : Bool) (t : Nat), isiD d T = b → EP X pins σ Q (.bool b) { s with toks := t } := fun b t e => ⟨.bl b, H, I.tok t, rfl, by rw [← e]; exact q⟩
  have fin0 : ∀ (b : Bool), isiD d T = b → EP X pins σ Q (.bool b) s := fun b e => ⟨.bl b, H, I, rfl, by rw [← e]; exact q⟩
  cases d with
  | non =>
    obtain rfl : x = .non := hx
    obtain rfl : u = Value.none := rx
    rcases hT with rfl | rfl | rfl | rfl | rfl
    · exact IsiPair.NoneType_int (fin _ _ rfl)
    · exact IsiPair.NoneType_bool (fin _ _ rfl)
    · exact IsiPair.NoneType_tuple (fin _ _ rfl)
    · exact IsiPair.NoneType_list (fin _ _ rfl)
    · exact IsiPair.NoneType_str (fin _ _ rfl)
  | bl b =>
    obtain rfl : x = .bl b := hx
    obtain rfl : u = Value.bool b := rx
    rcases hT with rfl | rfl | rfl | rfl | rfl
    · exact IsiPair.bool_int (fin0 _ rfl)
    · exact IsiPair.bool_bool (fin0 _ rfl)
    · exact IsiPair.bool_tuple (fin _ _ rfl)
    · exact IsiPair.bool_list (fin _ _ rfl)
    · exact IsiPair.bool_str (fin _ _ rfl)
  | int b =>
    obtain rfl : x = .int b := hx
    obtain ⟨t, rfl⟩ := rx
    rcases hT with rfl | rfl | rfl | rfl | rfl
    · exact IsiPair.int_int (fin0 _ rfl)
    · exact IsiPair.int_bool (fin _ _ rfl)
    · exact IsiPair.int_tuple (fin _ _ rfl)
    · exact IsiPair.int_list (fin _ _ rfl)
    · exact IsiPair.int_str (fin _ _ rfl)
  | str b =>
    obtain rfl : x = .str b := hx
    obtain ⟨t, rfl⟩ := rx
    rcases hT with rfl | rfl | rfl | rfl | rfl
    · exact IsiPair.str_int (fin _ _ rfl)
    · exact IsiPair.str_bool (fin _ _ rfl)
    · exact IsiPair.str_tuple (fin _ _ rfl)
    · exact IsiPair.str_list (fin _ _ rfl)
    · exact IsiPair.str_str (fin0 _ rfl)
  | tup ds =>
    obtain ⟨a, ys, rfl, hq, _⟩ := hx
    obtain rfl : u = Value.ref a := rx
    obtain ⟨its, _, ⟨o, ho, hc, _⟩, _⟩ := I.tuple hq
    rcases hT with rfl | rfl | rfl | rfl | rfl
    · exact IsiPair.tuple_int ho hc (fin _ _ rfl)
    · exact IsiPair.tuple_bool ho hc (fin _ _ rfl)
    · exact IsiPair.tuple_tuple ho hc (fin0 _ rfl)
    · exact IsiPair.tuple_list ho hc (fin _ _ rfl)
    · exact IsiPair.tuple_str ho hc (fin _ _ rfl)
  | lst ds =>
    obtain ⟨a, ys, rfl, hq, _⟩ := hx
    obtain rfl : u = Value.ref a := rx
    obtain ⟨its, _, p, _⟩ := I.list hq
    obtain ⟨o, ho, hc, _⟩ := p.isList
    rcases hT with rfl | rfl | rfl | rfl | rfl
    · exact IsiPair.list_int ho hc (fin _ _ rfl)
    · exact IsiPair.list_bool ho hc (fin _ _ rfl)
    · exact IsiPair.list_tuple ho hc (fin _ _ rfl)
    · exact IsiPair.list_list ho hc (fin0 _ rfl)
    · exact IsiPair.list_str ho hc (fin _ _ rfl)
theorem walks_tuple {prog : Program} {w : World} {A : Around} (hh : A.handled = none) (It ax : Addr) (hne : ax ≠ It) (items : Array Value) :
    Walks prog w A It [It, ax] [It] items.size (fun i v => items[i]? = some v) (fun i h => h.IsTupleIter It ax i ∧ h.IsTuple ax items) where
  sub := fun b hb => by simp at hb; simp [hb]
  frame := fun _ _ _ st hk => ⟨st.1.at fun o e => hk It (by simp) o e, let ⟨o, e, r⟩ := st.2; ⟨o, hk ax (by simp) o e, r⟩⟩
  item := fun i s Q E hi st hQ => by
    refine wpAny_pyNext_tuple_item st.1 st.2 (x := items[i]) (by simp [hi]) fun h' hit' hs' => ?_
    refine hQ _ h' s.toks (by simp [hi]) ⟨hit', ?_⟩ fun b o hb e => hs'.extBut b o (fun h => hb (by simp [h])) e
    obtain ⟨o, e, r⟩ := st.2
    exact ⟨o, hs'.extBut _ _ hne e, r⟩
  done := fun s Q E st hQ => wpAny_pyNext_tuple_end hh st.1 st.2 (by simp) fun h' he' => hQ h' s.toks fun b o hb e => he' b o (fun h => hb (by simp [h])) e
  self := fun _ _ _ _ st hQ => wpAny_pyIter_tupleiter st.1 hQ
def Sq (K : PySem.W.Frag) (H : Hp) (a : Addr) (xs : List V) : Prop := SqL K H a xs ∨ SqT K H a xs
theorem seq_walk {A : Around} {a : Addr} {xs : List V} {Q : Value → Shared → Prop} {E : Value → Shared → Prop} (hh : A.handled = none) (I : Inv X pins σ H s) (h : Sq X.K H a xs)
    (hq : ∀ (its : List Value) (It : Addr) (fp wr : List Addr) (S : Nat → Heap → Prop) (s2 : Shared), Vals xs its → xs.length ≤ sizeLine → Walks X.prog X.w A It fp wr its.length (fun i v => its[i]? = some v) S → S 0 s2.heap → (∀ b ∈ fp, b < s2.heap.objs.size) →
      (∀ h' tk, (∀ b o, b ∉ wr → s2.heap.get? b = some o → h'.get? b = some o) → Inv X pins σ H { s2 with heap := h', toks := tk }) → Q (.ref It) s2) : wpAny (model X.prog X.w) A (pyIter (.ref a)) Q E s := by
  rcases h with h | h
  · obtain ⟨its, rv, p, hz⟩ := I.list h
    refine wpAny_pyIter_list p.isList ?_
    have ha : a < s.heap.objs.size := by obtain ⟨o, e, _⟩ := p.isList; exact Heap.lt_size e
    refine hq its s.heap.objs.size [s.heap.objs.size, a] [s.heap.objs.size] (fun i h => h.IsListIter s.heap.objs.size a i ∧ h.IsList a its.toArray) _ rv hz (by simpa using Walks.list (prog := X.prog) (w := X.w) hh s.heap.objs.size a (Nat.ne_of_lt ha) its.toArray) ⟨⟨_, Heap.get?_push_size _ rfl, rfl, rfl⟩, ?_⟩ (fun b hb => ?_) fun h' tk hk => ?_
    · obtain ⟨o, e, r⟩ := p.isList
      exact ⟨o, Heap.get?_push_of_some _ e, r⟩
    · simp at hb
      show b < (s.heap.push _).objs.size
      rw [Heap.size_push]
      rcases hb with rfl | rfl
      · exact Nat.lt_succ_self _
      · exact Nat.lt_succ_of_lt ha
    · exact I.kept fun b o e => hk b o (by simpa using Nat.ne_of_lt (Heap.lt_size e)) (Heap.get?_push_of_some _ e)
  · obtain ⟨its, rv, p, hz⟩ := I.tuple h
    have p : s.heap.IsTuple a its.toArray := p
    refine wpAny_pyIter_tuple p ?_
    have ha : a < s.heap.objs.size := by obtain ⟨o, e, _⟩ := p; exact Heap.lt_size e
    refine hq its s.heap.objs.size [s.heap.objs.size, a] [s.heap.objs.size] (fun i h => h.IsTupleIter s.heap.objs.size a i ∧ h.IsTuple a its.toArray) _ rv hz (by simpa using walks_tuple (prog := X.prog) (w := X.w) hh s.heap.objs.size a (Nat.ne_of_lt ha) its.toArray) ⟨⟨_, Heap.get?_push_size _ rfl, rfl, rfl⟩, ?_⟩ (fun b hb => ?_) fun h' tk hk => ?_
    · obtain ⟨o, e, r⟩ := p
      exact ⟨o, Heap.get?_push_of_some _ e, r⟩
    · simp at hb
      show b < (s.heap.push _).objs.size
      rw [Heap.size_push]
      rcases hb with rfl | rfl
      · exact Nat.lt_succ_self _
      · exact Nat.lt_succ_of_lt ha
    · exact I.kept fun b o e => hk b o (by simpa using Nat.ne_of_lt (Heap.lt_size e)) (Heap.get?_push_of_some _ e)
theorem Vals.getR : ∀ {xs : List V} {us : List Value} {i : Nat} {u : Value}, Vals xs us → us[i]? = some u → ∃ x, xs[i]? = some x ∧ RelV x u
  | _, _, _, _, .nil, e => by simp at e
  | _, _, 0, _, .cons r _, e => by simp at e; subst e; exact ⟨_, rfl, r⟩
  | _, _, i + 1, u, .cons _ t, e => by
    obtain ⟨x, h1, h2⟩ := Vals.getR (i := i) (u := u) t (by simpa using e)
    exact ⟨x, by simpa using h1, h2⟩
theorem call_all (hc : X.calm = true) : CallR X (.builtin "all") (fun vs H Q => ∃ (a : Addr) (bs : List Bool), vs = [.ref a] ∧ Sq X.K H a (bs.map V.bl) ∧ Q (.bl (bs.all id)) H) := by
  intro pins s σ H xs us Q I r ⟨a, bs, e, hq, q⟩
  subst e
  obtain ⟨u, rfl, ru⟩ := r.one
  obtain rfl : u = Value.ref a := ru
  refine call_all_walk (seq_walk (I.ok.hd hc) I hq fun its It fp wr S s2 rv hz W st hf hI => ?_)
  refine ⟨It, fp, wr, its.length, _, S, fun j => bs.getD j false, rfl, W, st, fun i v s' Q' E' hv hQ' => ?_, fun h' tk hk => ?_⟩
  · obtain ⟨x, hx, rx⟩ := rv.getR hv
    rw [List.getElem?_map] at hx
    cases hb : bs[i]? with
    | none => rw [hb] at hx; cases hx
    | some b =>
      rw [hb] at hx
      obtain rfl : V.bl b = x := by simpa using hx
      obtain rfl : v = Value.bool b := rx
      have : bs.getD i false = b := by rw [List.getD_eq_getElem?_getD, hb]; rfl
      have hQ' : Q' (bs.getD i false) s' := hQ'
      rw [this] at hQ'
      exact wpAny_truthy_bool hQ'
  · refine ⟨.bl (bs.all id), H, hI h' tk hk, ?_, q⟩
    show Value.bool _ = Value.bool _
    congr 1
    have hl : its.length = bs.length := by rw [← rv.length, List.length_map]
    rw [hl]
    clear q hq rv hl hz
    induction bs with
    | nil => rfl
    | cons b bs ih => rw [List.length_cons, all_range_succ, List.all_cons]; exact congrArg (fun z => b && z) ih
theorem preSum_list : ∀ (ns : List Int) (k : Nat), k ≤ ns.length → preSum (fun j => ns.getD j 0) k = (ns.take k).sum
  | ns, 0, _ => by simp [preSum]
  | ns, k + 1, h => by
    have e : ns.take (k + 1) = ns.take k ++ [ns[k]] := by
      rw [List.take_add_one, List.getElem?_eq_getElem (by omega)]; rfl
    have g : ns.getD k 0 = ns[k] := by rw [List.getD_eq_getElem?_getD, List.getElem?_eq_getElem (by omega)]; rfl
    rw [preSum, preSum_list ns k (by omega), e, List.sum_append_int, g]
    simp
theorem call_sum (hc : X.calm = true) : CallR X (.builtin "sum") (fun vs H Q => ∃ (a : Addr) (ns : List Int), vs = [.ref a] ∧ Sq X.K H a (ns.map V.int) ∧ Q (.int ns.sum) H) := by
  intro pins s σ H xs us Q I r ⟨a, ns, e, hq, q⟩
  subst e
  obtain ⟨u, rfl, ru⟩ := r.one
  obtain rfl : u = Value.ref a := ru
  refine call_sum_walkG (seq_walk (I.ok.hd hc) I hq fun its It fp wr S s2 rv hz W st hf hI => ?_)
  refine ⟨It, fp, wr, its.length, _, S, fun j => ns.getD j 0, rfl, W, st, hf, fun i v hv => ?_, fun h' tk t' hk => ?_⟩
  · obtain ⟨x, hx, rx⟩ := rv.getR hv
    rw [List.getElem?_map] at hx
    cases hb : ns[i]? with
    | none => rw [hb] at hx; cases hx
    | some b =>
      rw [hb] at hx
      obtain rfl : V.int b = x := by simpa using hx
      obtain ⟨t, rfl⟩ := rx
      exact ⟨t, by show Value.int b t = Value.int (ns.getD i 0) t; rw [List.getD_eq_getElem?_getD, hb]; rfl⟩
  · have hl : its.length = ns.length := by rw [← rv.length, List.length_map]
    refine ⟨.int ns.sum, H, hI h' tk hk, ⟨t', ?_⟩, q⟩
    rw [hl, preSum_list ns ns.length (Nat.le_refl _), List.take_length]
theorem argBest_lt {bt : Nat → Nat → Bool} : ∀ k, argBest bt k ≤ k
  | 0 => Nat.le_refl _
  | k + 1 => by
    unfold argBest
    split
    · exact Nat.le_refl _
    · exact Nat.le_succ_of_le (argBest_lt k)
theorem argBest_least {ns : List Int} : ∀ (k : Nat), ∀ j, j ≤ k → ns.getD (argBest (fun i j => decide (ns.getD i 0 < ns.getD j 0)) k) 0 ≤ ns.getD j 0
  | 0, j, h => by
    have : j = 0 := by omega
    subst this
    exact Int.le_refl _
  | k + 1, j, h => by
    have ih := argBest_least (ns := ns) k
    unfold argBest
    by_cases c : ns.getD (k + 1) 0 < ns.getD (argBest (fun i j => decide (ns.getD i 0 < ns.getD j 0)) k) 0
    · rw [if_pos (decide_eq_true c)]
      by_cases e : j = k + 1
      · subst e; exact Int.le_refl _
      · have := ih j (by omega); omega
    · rw [if_neg (by simpa using c)]
      by_cases e : j = k + 1
      · subst e; omega
      · exact ih j (by omega)
theorem call_min (hc : X.calm = true) : CallR X (.builtin "min") (fun vs H Q => ∃ (a : Addr) (ns : List Int), vs = [.ref a] ∧ Sq X.K H a (ns.map V.int) ∧ ns ≠ [] ∧ ∀ m : Int, m ∈ ns → (∀ k ∈ ns, m ≤ k) → Q (.int m) H) := by
  intro pins s σ H xs us Q I r ⟨a, ns, e, hq, hne, q⟩
  subst e
  obtain ⟨u, rfl, ru⟩ := r.one
  obtain rfl : u = Value.ref a := ru
  refine call_min_walk (seq_walk (I.ok.hd hc) I hq fun its It fp wr S s2 rv hz W st hf hI => ?_)
  have hl : its.length = ns.length := by rw [← rv.length, List.length_map]
  have hpos : 0 < ns.length := List.length_pos_iff.mpr hne
  have item : ∀ (i : Nat) (v : Value), its[i]? = some v → ∃ t, v = .int (ns.getD i 0) t := fun i v hv => by
    obtain ⟨x, hx, rx⟩ := rv.getR hv
    rw [List.getElem?_map] at hx
    cases hb : ns[i]? with
    | none => rw [hb] at hx; cases hx
    | some b =>
      rw [hb] at hx
      obtain rfl : V.int b = x := by simpa using hx
      obtain ⟨t, rfl⟩ := rx
      exact ⟨t, by rw [List.getD_eq_getElem?_getD, hb]; rfl⟩
  refine ⟨It, fp, wr, its.length, _, S, fun i j => decide (ns.getD i 0 < ns.getD j 0), rfl, W, st, hf, by omega, fun i j vi vj s' Q' E' hi hj hQ' => ?_, fun v h' tk hv hk => ?_⟩
  · obtain ⟨t, rfl⟩ := item i vi hi
    obtain ⟨t', rfl⟩ := item j vj hj
    exact (lt_int hQ' : wpAny (model X.prog X.w) X.A.in1 (compareOp .Lt _ _) Q' E' s')
  · obtain ⟨t, rfl⟩ := item _ v hv
    have hb := argBest_lt (bt := fun i j => decide (ns.getD i 0 < ns.getD j 0)) (its.length - 1)
    refine ⟨.int _, H, hI h' tk hk, ⟨t, rfl⟩, q _ ?_ fun k hk => ?_⟩
    · rw [List.getD_eq_getElem?_getD, List.getElem?_eq_getElem (by omega)]
      exact List.getElem_mem _
    · obtain ⟨j, hj, rfl⟩ := List.mem_iff_getElem.mp hk
      have := argBest_least (ns := ns) (its.length - 1) j (by omega)
      rw [List.getD_eq_getElem?_getD (l := ns) (i := j), List.getElem?_eq_getElem hj] at this
      exact this
end
end L2
namespace L2
open PySem PySem.Spec PyProof.Rows
section
variable {X : Cx}
def rCatA (K : PySem.W.Frag) : R2 := fun x y H Q => ∃ a b xs ys, x = .ref a ∧ y = .ref b ∧ SqT K H a xs ∧ SqT K H b ys ∧ xs.length + ys.length ≤ sizeLine ∧
  ∀ p H', ((p = a ∧ H' = H ∧ ys = []) ∨ (p = b ∧ H' = H ∧ xs = []) ∨ (H p = none ∧ H' = upd H p (.tup (xs ++ ys)))) → SqT K H' p (xs ++ ys) → Same H H' → Q (.ref p) H'
theorem same_new {H : Hp} {p : Addr} (h : H p = none) (o : HO) : Same H (upd H p o) := fun b u q => by rw [upd_ne (ne_of_none q h)]; exact q
theorem op_catA : OpR X (binaryOp .Add) (rCatA X.K) := by
  intro pins s σ H x y v u Q I rx ry ⟨a, b, xs, ys, ex, ey, ha, hb, hz, q⟩
  subst ex ey
  obtain rfl : v = Value.ref a := rx
  obtain rfl : u = Value.ref b := ry
  by_cases hx : xs = []
  · obtain ⟨its, r1, p1, _⟩ := I.tuple ha
    obtain ⟨its2, r2, p2, _⟩ := I.tuple hb
    have he : its = [] := r1.nil_iff.mpr hx
    obtain ⟨⟨cls, dd, data, sl⟩, ho, hc, n, hd⟩ := id p1
    obtain ⟨⟨cls2, dd2, data2, sl2⟩, ho2, hc2, n2, hd2⟩ := id p2
    simp only at hc hd hc2 hd2
    subst hc hd hc2 hd2
    refine concat_meets ⟨_, ho, rfl⟩ ⟨_, ho2, rfl⟩ noFill_tuple_add seq_tuple_add PySem.F.slot_tuple_add PySem.F.entry_tuple_add (PySem.F.args_tuple_add_2 _ _)
      (tuple_addW0 a b its.toArray its2.toArray n n2 dd dd2 sl sl2 (by simp [he])) ⟨ho, ho2, ?_⟩
    exact ⟨.ref b, H, I, rfl, q b H (.inr (.inl ⟨rfl, rfl, hx⟩)) (by rw [hx]; exact hb) (Same.refl H)⟩
  · refine op_catT (X := X) pins s σ H (.ref a) (.ref b) (.ref a) (.ref b) Q I rfl rfl ⟨a, b, xs, ys, rfl, rfl, ha, hb, hx, hz, fun hy => ?_, fun hy p hp => ?_⟩
    · exact q a H (.inl ⟨rfl, rfl, hy⟩) (by rw [hy, List.append_nil]; exact ha) (Same.refl H)
    · exact q p _ (.inr (.inr ⟨hp, rfl⟩)) (.of upd_same) (same_new hp _)
def rAddA (K : PySem.W.Frag) : R2 := fun x y H Q => match x, y with
  | .int i, .int j => Q (.int (i + j)) H
  | .str i, .str j => i.length + j.length ≤ sizeLine ∧ Q (.str (i ++ j)) H
  | .ref a, .ref b => rCat (.ref a) (.ref b) H Q ∨ rCatA K (.ref a) (.ref b) H Q
  | _, _ => False
theorem op_addA : OpR X (binaryOp .Add) (rAddA X.K) := by
  intro pins s σ H x y v u Q I rx ry h
  unfold rAddA at h
  split at h
  · exact op_add (X := X) pins s σ H _ _ v u Q I rx ry ⟨_, _, rfl, rfl, h⟩
  · exact op_add_str (X := X) pins s σ H _ _ v u Q I rx ry ⟨_, _, rfl, rfl, h.1, h.2⟩
  · rcases h with h | h
    · exact op_cat (X := X) pins s σ H _ _ v u Q I rx ry h
    · exact op_catA (X := X) pins s σ H _ _ v u Q I rx ry h
  · exact h.elim
def rMulA : R2 := fun x y H Q => match x, y with
  | .int i, .int j => CMul i j ∧ Q (.int (i * j)) H
  | .ref a, .int k => rRep (.ref a) (.int k) H Q
  | _, _ => False
theorem op_mulA : OpR X (binaryOp .Mult) rMulA := by
  intro pins s σ H x y v u Q I rx ry h
  unfold rMulA at h
  split at h
  · exact op_mul (X := X) pins s σ H _ _ v u Q I rx ry ⟨_, _, rfl, rfl, h.1, h.2⟩
  · exact op_rep (X := X) pins s σ H _ _ v u Q I rx ry h
  · exact h.elim
theorem ix_sq : IxR X (fun x y H Q => rIxL X.K x y H Q ∨ rIxT X.K x y H Q) := ix_list.or ix_tup
theorem Vals.of_get : ∀ {xs : List V} {us : List Value}, xs.length = us.length → (∀ (i : Nat) x u, xs[i]? = some x → us[i]? = some u → RelV x u) → Vals xs us
  | [], [], _, _ => .nil
  | [], _ :: _, h, _ => by simp at h
  | _ :: _, [], h, _ => by simp at h
  | x :: xs, u :: us, h, hr => .cons (hr 0 x u rfl rfl) (Vals.of_get (by simpa using h) fun i y w h1 h2 => hr (i + 1) y w (by simpa using h1) (by simpa using h2))
theorem call_rng1 : CallR X (.type "range") (fun vs H Q => ∃ n : Int, vs = [.int n] ∧ ∀ p, H p = none → Q (.ref p) (upd H p (.rng 0 n))) := by
  intro pins s σ H xs us Q I r ⟨n, e, q⟩
  subst e
  obtain ⟨u, rfl, ru⟩ := r.one
  obtain ⟨t, rfl⟩ := ru
  refine call_range_1 ⟨.ref s.heap.objs.size, _, I.laid (a := s.heap.objs.size) (o := .rng 0 n) (fun b o e => Heap.get?_push_of_some _ e) (Nat.le_refl _) ⟨_, _, _, Heap.get?_push_size _ rfl⟩, rfl, q _ (I.hok.fresh (Nat.le_refl _))⟩
theorem call_rng2 : CallR X (.type "range") (fun vs H Q => ∃ m n : Int, vs = [.int m, .int n] ∧ ∀ p, H p = none → Q (.ref p) (upd H p (.rng m n))) := by
  intro pins s σ H xs us Q I r ⟨m, n, e, q⟩
  subst e
  obtain ⟨u, u', rfl, ru, ru'⟩ := r.two
  obtain ⟨t, rfl⟩ := ru
  obtain ⟨t', rfl⟩ := ru'
  refine call_range_2 ⟨.ref s.heap.objs.size, _, I.laid (a := s.heap.objs.size) (o := .rng m n) (fun b o e => Heap.get?_push_of_some _ e) (Nat.le_refl _) ⟨_, _, _, Heap.get?_push_size _ rfl⟩, rfl, q _ (I.hok.fresh (Nat.le_refl _))⟩
theorem call_rng : CallR X (.type "range") (fun vs H Q => (∃ n : Int, vs = [.int n] ∧ ∀ p, H p = none → Q (.ref p) (upd H p (.rng 0 n))) ∨ ∃ m n : Int, vs = [.int m, .int n] ∧ ∀ p, H p = none → Q (.ref p) (upd H p (.rng m n))) := call_rng1.or call_rng2
def rngI (lo hi : Int) : List Int := (List.range (hi - lo).toNat).map fun i : Nat => lo + (i : Int)
theorem call_list_rng (hc : X.calm = true) : CallR X (.type "list") (fun vs H Q => ∃ (a : Addr) (lo hi : Int), vs = [.ref a] ∧ H a = some (.rng lo hi) ∧ (-(2 ^ 62) ≤ lo ∧ lo < 2 ^ 62 ∧ -(2 ^ 62) ≤ hi ∧ hi < 2 ^ 62 ∧ hi - lo ≤ 1000000) ∧
    ∀ p, H p = none → Q (.ref p) (upd H p (.lst ((rngI lo hi).map V.int)))) := by
  intro pins s σ H xs us Q I r ⟨a, lo, hi, e, ha, ⟨b1, b2, b3, b4, b5⟩, q⟩
  subst e
  obtain ⟨u, rfl, ru⟩ := r.one
  obtain rfl : u = Value.ref a := ru
  obtain ⟨t, u, v, hr⟩ := I.hok a _ ha
  refine call_list_range (a := lo) (b := hi) (c := 1) (n := (hi - lo).toNat) (I.ok.hd hc) hr (small_one b1 b2 b3 b4) (by rw [rangeSize_one]; split <;> omega) (by omega) fun h' tk acc' c' hk hS hI => ?_
  refine ⟨.ref s.heap.objs.size, _, I.laid (a := s.heap.objs.size) (o := .lst ((rngI lo hi).map V.int)) hk (Nat.le_refl _) ⟨?_, acc'.toList, c', ?_, by simpa using hS⟩, rfl, q _ (I.hok.fresh (Nat.le_refl _))⟩
  · rw [List.length_map]; unfold rngI; rw [List.length_map, List.length_range]
    exact Nat.le_trans (show (hi - lo).toNat ≤ 1000000 by omega) (by decide)
  · refine Vals.of_get ?_ fun i x u hx hu => ?_
    · have el : acc'.toList.length = (hi - lo).toNat := by rw [← hI.1]; simp
      rw [List.length_map, el]; unfold rngI; rw [List.length_map, List.length_range]
    · obtain ⟨t, rfl⟩ := hI.2 i u (by simpa using hu)
      rw [List.getElem?_map] at hx
      unfold rngI at hx
      rw [List.getElem?_map] at hx
      cases hi' : (List.range (hi - lo).toNat)[i]? with
      | none => rw [hi'] at hx; cases hx
      | some j =>
        rw [hi'] at hx
        have : j = i := by
          obtain ⟨h1, h2⟩ := List.getElem?_eq_some_iff.mp hi'
          simpa using h2.symm
        subst this
        obtain rfl : V.int (lo + (j : Int)) = x := by simpa using hx
        exact ⟨t, by rw [Int.mul_one]⟩
theorem call_list_any (hc : X.calm = true) : CallR X (.type "list") (fun vs H Q => (∃ p ys, vs = [.ref p] ∧ (SqL X.K H p ys ∨ SqT X.K H p ys) ∧ ∀ l, H l = none → Q (.ref l) (upd H l (.lst ys))) ∨
    ∃ (a : Addr) (lo hi : Int), vs = [.ref a] ∧ H a = some (.rng lo hi) ∧ (-(2 ^ 62) ≤ lo ∧ lo < 2 ^ 62 ∧ -(2 ^ 62) ≤ hi ∧ hi < 2 ^ 62 ∧ hi - lo ≤ 1000000) ∧ ∀ p, H p = none → Q (.ref p) (upd H p (.lst ((rngI lo hi).map V.int)))) := call_list_of.or (call_list_rng hc)
def iSeq (K : PySem.W.Frag) (tl : TE) : TI := fun σ H R => tl σ H fun x H1 => ∃ a, x = .ref a ∧ (((∃ xs, SqL K H1 a xs) ∧ R (Itl K a) H1) ∨ ((∃ xs, SqT K H1 a xs) ∧ R (Itt K a) H1))
theorem pi_seq {tg l : Expr} {tl : TE} (hl : PE X l tl) : PI X tg l (iSeq X.K tl) := by
  intro pins s σ H R I h
  refine thn (hl pins s σ H _ I h) fun v s1 ⟨x, H1, I1, r1, q1⟩ => ?_
  obtain ⟨a, e, q⟩ := q1
  subst e
  cases r1
  rcases q with ⟨⟨xs, hq⟩, q⟩ | ⟨⟨xs, hq⟩, q⟩
  · obtain ⟨its, rv, p, hz⟩ := I1.list hq
    refine wpAny_pyIter_list p.isList ?_
    refine ⟨s1.heap.objs.size, [s1.heap.objs.size], _, _, H1, rfl, I1.kept (t' := s1.toks) fun b o e => Heap.get?_push_of_some _ e, turn_list a _, ⟨_, Heap.get?_push_size _ rfl, rfl, rfl⟩, fun b hb => ?_, q⟩
    have e : b = s1.heap.objs.size := by simpa using hb
    subst e
    exact I1.fpOk (Nat.le_refl _) (I1.hok.fresh (Nat.le_refl _))
  · obtain ⟨its, rv, p, hz⟩ := I1.tuple hq
    refine wpAny_pyIter_tuple (show s1.heap.IsTuple a its.toArray from p) ?_
    refine ⟨s1.heap.objs.size, [s1.heap.objs.size], _, _, H1, rfl, I1.kept (t' := s1.toks) fun b o e => Heap.get?_push_of_some _ e, turn_tuple a _, ⟨_, Heap.get?_push_size _ rfl, rfl, rfl⟩, fun b hb => ?_, q⟩
    have e : b = s1.heap.objs.size := by simpa using hb
    subst e
    exact I1.fpOk (Nat.le_refl _) (I1.hok.fresh (Nat.le_refl _))
end
structure Def (P : Program) (w : World) (K : PySem.W.Frag) (mg : Str → Option Value) (base : Heap) (x : Str) (k : Nat) (ps : List Str) (sp : Sp) : Prop where
  ex : ∃ (f : Addr) (fd : FuncData), FnOk P w K mg base CX0 k f fd ps sp ∧ mg x = some (.ref f) ∧ PySem.W.keepIn K (.ref f) = true ∧ Binds K fd ps []
theorem Def.mono {P : Program} {w : World} {K : PySem.W.Frag} {mg : Str → Option Value} {base : Heap} {x : Str} {j k : Nat} {ps : List Str} {sp : Sp} (D : Def P w K mg base x j ps sp) (h : j ≤ k) : Def P w K mg base x k ps sp := by
  obtain ⟨f, fd, F, r⟩ := D.ex
  exact ⟨f, fd, F.mono h, r⟩
theorem pe_def {X : Cx} {x : Str} {k : Nat} {ps : List Str} {sp : Sp} {p pos : Pos} {e : Expr} {es : List Expr} {t : TA} (D : Def X.prog X.w X.K X.mg X.base x k ps sp) (hr : Room k X.A) (hg : Gl X x) (ha : PA X (e :: es) t)
    (hdb : (x == ("__debug__" : Str)) = false := by decide) (he : starEach (e :: es) X.env = (false, eval e X.env) :: starEach es X.env := by rfl) (hpl : (backTo pos (starEach es X.env)).any (·.1) = false := by rfl) :
    PE X (.Call (.Name x p) (e :: es) [] pos) (tCall sp [] E0 t) := by
  obtain ⟨f, fd, F, hm, hk, hb⟩ := D.ex
  exact pe_call F hr hg hm hk hb .nil pass0 ha hdb he hpl
end L2
namespace L2
open PySem PySem.Spec PyProof.Rows
def SameX (acc : Addr) (H H' : Hp) : Prop := ∀ b o, b ≠ acc → H b = some o → H' b = some o
theorem SameX.refl (acc : Addr) (H : Hp) : SameX acc H H := fun _ _ _ h => h
theorem SameX.trans {acc : Addr} {H H1 H2 : Hp} (a : SameX acc H H1) (b : SameX acc H1 H2) : SameX acc H H2 := fun c o n h => b c o n (a c o n h)
theorem Same.x {acc : Addr} {H H' : Hp} (e : Same H H') : SameX acc H H' := fun b o _ h => e b o h
theorem SameX.put {acc : Addr} {H : Hp} (o : HO) : SameX acc H (upd H acc o) := fun b u n h => by rw [upd_ne n]; exact h
def Agree (vars : List Nat) (σ σ' : St) : Prop := ∀ k, k ∉ vars → σ'[k]? = σ[k]?
theorem Agree.refl (vars : List Nat) (σ : St) : Agree vars σ σ := fun _ _ => rfl
theorem Agree.trans {vars : List Nat} {σ σ1 σ2 : St} (a : Agree vars σ σ1) (b : Agree vars σ1 σ2) : Agree vars σ σ2 := fun k h => (b k h).trans (a k h)
theorem Agree.set {vars : List Nat} {σ : St} {j : Nat} (h : j ∈ vars) (v : Option V) : Agree vars σ (σ.set j v) := fun k hk => List.getElem?_set_ne (fun e : j = k => hk (by rw [← e]; exact h))
theorem set_at {σ : St} {j : Nat} {v : Option V} (h : j < σ.length) : (σ.set j v)[j]? = some v := List.getElem?_set_self h
def Emits (vars : List Nat) (tb : TS) (acc : Addr) (σ : St) (H : Hp) (L : List V) : Prop :=
  ∀ (D : Ends) (pre : List V), H acc = some (.lst pre) → pre.length + L.length ≤ 1000000 → (∀ σ' H', σ'.length = σ.length → Agree vars σ σ' → SameX acc H H' → H' acc = some (.lst (pre ++ L)) → D.nx σ' H') → tb D σ H
theorem emits_one {vars : List Nat} {te : TE} {acc : Addr} {σ : St} {H : Hp} {x : V} (h : ∀ Q : VK, (∀ H', Same H H' → Q x H') → te σ H Q) : Emits vars (tEmit te acc) acc σ H [x] := by
  intro D pre ha hz hd
  refine h _ fun H' e => ⟨pre, e _ _ ha, ?_, hd σ _ rfl (Agree.refl _ _) (e.x.trans (SameX.put _)) upd_same⟩
  exact Nat.lt_of_le_of_lt (show pre.length ≤ 1000000 by simp at hz; omega) (by decide)
theorem emits_if {vars : List Nat} {tc : TT} {tb : TS} {acc : Addr} {σ : St} {H : Hp} {c : Bool} {L : List V} (hne : ∀ pre, H acc = some (.lst pre) → True) (h : ∀ Q : Bool → Hp → Prop, (∀ H', Same H H' → Q c H') → tc σ H Q) (hb : c = true → ∀ H', Same H H' → Emits vars tb acc σ H' L) :
    Emits vars (tTests [tc] tb) acc σ H (if c = true then L else []) := by
  intro D pre ha hz hd
  refine h _ fun H' e => ?_
  cases c with
  | true =>
    refine iteT (hb rfl H' e D pre (e _ _ ha) hz fun σ' H2 hl ag sx h2 => hd σ' H2 hl ag (e.x.trans sx) h2)
  | false => exact iteF (hd σ H' rfl (Agree.refl _ _) e.x (by rw [if_neg Bool.false_ne_true, List.append_nil]; exact e _ _ ha))
theorem flatMap_range_succ {α : Type} (f : Nat → List α) (i : Nat) : (List.range (i + 1)).flatMap f = (List.range i).flatMap f ++ f i := by
  rw [List.range_succ, List.flatMap_append]
  simp
theorem flatMap_range_le {α : Type} (f : Nat → List α) {i n : Nat} (h : i ≤ n) : ((List.range i).flatMap f).length ≤ ((List.range n).flatMap f).length := by
  induction h with
  | refl => exact Nat.le_refl _
  | step _ ih => rw [flatMap_range_succ, List.length_append]; omega
theorem loop_range {vars : List Nat} {tb : TS} {acc : Addr} {σ : St} {H : Hp} {lo : Int} {n j : Nat} {L : Nat → List V} (hj : j ∈ vars) (hjl : j < σ.length)
    (h : ∀ i σ' H', i < n → σ'.length = σ.length → Agree vars σ σ' → σ'[j]? = some (some (.int (lo + (i : Int)))) → SameX acc H H' → (∃ pre, H' acc = some (.lst pre)) → Emits vars tb acc σ' H' (L i)) :
    Emits vars (tLoop (Itr lo n) (gName j) tb) acc σ H ((List.range n).flatMap L) := by
  intro D pre ha hz hd
  refine for_range (lo := lo) (n := n) (g := gName j) (D := D) (fun i σ' H' => i ≤ n ∧ σ'.length = σ.length ∧ Agree vars σ σ' ∧ SameX acc H H' ∧ H' acc = some (.lst (pre ++ (List.range i).flatMap L))) ⟨Nat.zero_le _, rfl, Agree.refl _ _, SameX.refl _ _, by simpa using ha⟩ (fun i σ1 H1 hi ⟨_, hl1, ag1, sx1, h1⟩ => ?_) fun σ1 H1 ⟨_, hl1, ag1, sx1, h1⟩ => hd σ1 H1 hl1 ag1 sx1 h1
  have hle := flatMap_range_le L (show i + 1 ≤ n from hi)
  rw [flatMap_range_succ, List.length_append] at hle
  have fin : ∀ σ' H', σ'.length = σ1.length → Agree vars (σ1.set j (some (.int (lo + (i : Int))))) σ' → SameX acc H1 H' → H' acc = some (.lst ((pre ++ (List.range i).flatMap L) ++ L i)) →
      (i + 1 ≤ n ∧ σ'.length = σ.length ∧ Agree vars σ σ' ∧ SameX acc H H' ∧ H' acc = some (.lst (pre ++ (List.range (i + 1)).flatMap L))) := fun σ' H' hl ag sx h2 =>
    ⟨hi, hl.trans hl1, (ag1.trans (Agree.set hj _)).trans ag, sx1.trans sx, by rw [h2, flatMap_range_succ, List.append_assoc]⟩
  refine h i (σ1.set j (some (.int (lo + (i : Int))))) H1 hi (by rw [List.length_set]; exact hl1) (ag1.trans (Agree.set hj _)) (set_at (by omega)) sx1 ⟨_, h1⟩ _ _ h1 (by rw [List.length_append]; omega) fun σ' H' hl ag sx h2 => fin σ' H' (hl.trans (List.length_set ..)) ag sx h2
theorem emits_range1 {vars : List Nat} {ta : TA} {tb : TS} {acc : Addr} {σ : St} {H : Hp} {n j : Nat} {L : Nat → List V} (hj : j ∈ vars) (hjl : j < σ.length) (hn : n ≤ 1000000)
    (hta : ∀ Q : List V → Hp → Prop, (∀ H', Same H H' → Q [.int (n : Int)] H') → ta σ H Q)
    (h : ∀ i σ' H', i < n → σ'.length = σ.length → Agree vars σ σ' → σ'[j]? = some (some (.int (i : Int))) → SameX acc H H' → (∃ pre, H' acc = some (.lst pre)) → Emits vars tb acc σ' H' (L i)) :
    Emits vars (tFor (iRng1 ta) (gName j) tb) acc σ H ((List.range n).flatMap L) := by
  intro D pre ha hz hd
  refine hta _ fun H' e => ⟨(n : Int), rfl, by omega, by omega, ?_⟩
  rw [Int.toNat_natCast]
  refine loop_range (L := L) hj hjl (fun i σ' H2 hi hl ag hs sx hp => h i σ' H2 hi hl ag (by rw [hs]; simp) (e.x.trans sx) hp) D pre (e _ _ ha) hz fun σ' H2 hl ag sx h2 => hd σ' H2 hl ag (e.x.trans sx) h2
theorem loop_list {K : PySem.W.Frag} {vars : List Nat} {tb : TS} {acc a : Addr} {σ : St} {H : Hp} {xs : List V} {j : Nat} {L : Nat → List V} (hj : j ∈ vars) (hjl : j < σ.length) (hs : ∀ H', SameX acc H H' → SqL K H' a xs)
    (h : ∀ i x σ' H', xs[i]? = some x → σ'.length = σ.length → Agree vars σ σ' → σ'[j]? = some (some x) → SameX acc H H' → (∃ pre, H' acc = some (.lst pre)) → Emits vars tb acc σ' H' (L i)) :
    Emits vars (tLoop (Itl K a) (gName j) tb) acc σ H ((List.range xs.length).flatMap L) := by
  intro D pre ha hz hd
  refine for_list (K := K) (a := a) (xs := xs) (g := gName j) (D := D) (fun i σ' H' => i ≤ xs.length ∧ σ'.length = σ.length ∧ Agree vars σ σ' ∧ SameX acc H H' ∧ H' acc = some (.lst (pre ++ (List.range i).flatMap L))) ⟨Nat.zero_le _, rfl, Agree.refl _ _, SameX.refl _ _, by simpa using ha⟩ (fun i σ1 H1 _ ⟨_, _, _, sx1, _⟩ => hs H1 sx1) (fun i x σ1 H1 hx ⟨_, hl1, ag1, sx1, h1⟩ => ?_) fun σ1 H1 ⟨_, hl1, ag1, sx1, h1⟩ => hd σ1 H1 hl1 ag1 sx1 h1
  have hi : i < xs.length := (List.getElem?_eq_some_iff.mp hx).1
  have hle := flatMap_range_le L (show i + 1 ≤ xs.length from hi)
  rw [flatMap_range_succ, List.length_append] at hle
  have fin : ∀ σ' H', σ'.length = σ1.length → Agree vars (σ1.set j (some x)) σ' → SameX acc H1 H' → H' acc = some (.lst ((pre ++ (List.range i).flatMap L) ++ L i)) →
      (i + 1 ≤ xs.length ∧ σ'.length = σ.length ∧ Agree vars σ σ' ∧ SameX acc H H' ∧ H' acc = some (.lst (pre ++ (List.range (i + 1)).flatMap L))) := fun σ' H' hl ag sx h2 =>
    ⟨hi, hl.trans hl1, (ag1.trans (Agree.set hj _)).trans ag, sx1.trans sx, by rw [h2, flatMap_range_succ, List.append_assoc]⟩
  refine h i x (σ1.set j (some x)) H1 hx (by rw [List.length_set]; exact hl1) (ag1.trans (Agree.set hj _)) (set_at (by omega)) sx1 ⟨_, h1⟩ _ _ h1 (by rw [List.length_append]; omega) fun σ' H' hl ag sx h2 => fin σ' H' (hl.trans (List.length_set ..)) ag sx h2
theorem loop_tup {K : PySem.W.Frag} {vars : List Nat} {tb : TS} {acc a : Addr} {σ : St} {H : Hp} {xs : List V} {j : Nat} {L : Nat → List V} (hj : j ∈ vars) (hjl : j < σ.length) (hs : ∀ H', SameX acc H H' → SqT K H' a xs)
    (h : ∀ i x σ' H', xs[i]? = some x → σ'.length = σ.length → Agree vars σ σ' → σ'[j]? = some (some x) → SameX acc H H' → (∃ pre, H' acc = some (.lst pre)) → Emits vars tb acc σ' H' (L i)) :
    Emits vars (tLoop (Itt K a) (gName j) tb) acc σ H ((List.range xs.length).flatMap L) := by
  intro D pre ha hz hd
  refine for_tup (K := K) (a := a) (xs := xs) (g := gName j) (D := D) (fun i σ' H' => i ≤ xs.length ∧ σ'.length = σ.length ∧ Agree vars σ σ' ∧ SameX acc H H' ∧ H' acc = some (.lst (pre ++ (List.range i).flatMap L))) ⟨Nat.zero_le _, rfl, Agree.refl _ _, SameX.refl _ _, by simpa using ha⟩ (fun i σ1 H1 _ ⟨_, _, _, sx1, _⟩ => hs H1 sx1) (fun i x σ1 H1 hx ⟨_, hl1, ag1, sx1, h1⟩ => ?_) fun σ1 H1 ⟨_, hl1, ag1, sx1, h1⟩ => hd σ1 H1 hl1 ag1 sx1 h1
  have hi : i < xs.length := (List.getElem?_eq_some_iff.mp hx).1
  have hle := flatMap_range_le L (show i + 1 ≤ xs.length from hi)
  rw [flatMap_range_succ, List.length_append] at hle
  have fin : ∀ σ' H', σ'.length = σ1.length → Agree vars (σ1.set j (some x)) σ' → SameX acc H1 H' → H' acc = some (.lst ((pre ++ (List.range i).flatMap L) ++ L i)) →
      (i + 1 ≤ xs.length ∧ σ'.length = σ.length ∧ Agree vars σ σ' ∧ SameX acc H H' ∧ H' acc = some (.lst (pre ++ (List.range (i + 1)).flatMap L))) := fun σ' H' hl ag sx h2 =>
    ⟨hi, hl.trans hl1, (ag1.trans (Agree.set hj _)).trans ag, sx1.trans sx, by rw [h2, flatMap_range_succ, List.append_assoc]⟩
  refine h i x (σ1.set j (some x)) H1 hx (by rw [List.length_set]; exact hl1) (ag1.trans (Agree.set hj _)) (set_at (by omega)) sx1 ⟨_, h1⟩ _ _ h1 (by rw [List.length_append]; omega) fun σ' H' hl ag sx h2 => fin σ' H' (hl.trans (List.length_set ..)) ag sx h2
end L2
namespace L2
open PySem PySem.Spec PyProof.Rows
theorem bt_len : bootBuiltins "len" = some (.builtin "len") := by decide +kernel
theorem bt_all : bootBuiltins "all" = some (.builtin "all") := by decide +kernel
theorem bt_min : bootBuiltins "min" = some (.builtin "min") := by decide +kernel
theorem bt_max : bootBuiltins "max" = some (.builtin "max") := by decide +kernel
theorem bt_sum : bootBuiltins "sum" = some (.builtin "sum") := by decide +kernel
theorem bt_isi : bootBuiltins "isinstance" = some (.builtin "isinstance") := by decide +kernel
theorem bt_sorted : bootBuiltins "sorted" = some (.builtin "sorted") := by decide +kernel
theorem bt_tuple : bootBuiltins "tuple" = some (.type "tuple") := by decide +kernel
theorem bt_list : bootBuiltins "list" = some (.type "list") := by decide +kernel
theorem bt_range : bootBuiltins "range" = some (.type "range") := by decide +kernel
theorem bt_int : bootBuiltins "int" = some (.type "int") := by decide +kernel
theorem bt_bool : bootBuiltins "bool" = some (.type "bool") := by decide +kernel
structure Blt (mg : Str → Option Value) : Prop where
  len : mg "len" = none
  all : mg "all" = none
  min : mg "min" = none
  max : mg "max" = none
  sum : mg "sum" = none
  isi : mg "isinstance" = none
  sorted : mg "sorted" = none
  tuple : mg "tuple" = none
  list : mg "list" = none
  range : mg "range" = none
  int : mg "int" = none
  bool : mg "bool" = none
end L2
namespace L2
open PySem
theorem hu100 {A : Around} {k : Nat} (hr : Room k A) : A.units + 100 < cLine := by have := hr.un; omega
end L2
namespace L2
open PySem PySem.Spec PyProof.Rows
section
variable {X : Cx} {K : PySem.W.Frag}
theorem ix_sqK (hK : X.K = K) : IxR X (fun x y H Q => rIxL K x y H Q ∨ rIxT K x y H Q) := by subst hK; exact ix_sq
theorem op_addK (hK : X.K = K) : OpR X (binaryOp .Add) (rAddA K) := by subst hK; exact op_addA
theorem op_eqK {k : Nat} (hK : X.K = K) (hr : Room k X.A) : OpR X (compareOp .Eq) (rEqD K) := by subst hK; exact op_eqD (hu100 hr)
theorem op_notInK (hK : X.K = K) : OpR X (compareOp .NotIn) (rIn K true) := by subst hK; exact op_notIn_seq
theorem call_isiK (hK : X.K = K) : CallR X (.builtin "isinstance") (rIsi K) := by subst hK; exact call_isi
def rLen (K : PySem.W.Frag) : List V → Hp → VK → Prop := fun xs H Q => ∃ p ys, xs = [.ref p] ∧ (SqL K H p ys ∨ SqT K H p ys) ∧ Q (.int ys.length) H
theorem call_lenK (hK : X.K = K) : CallR X (.builtin "len") (rLen K) := by subst hK; exact call_len_seq
def rAll (K : PySem.W.Frag) : List V → Hp → VK → Prop := fun vs H Q => ∃ (a : Addr) (bs : List Bool), vs = [.ref a] ∧ Sq K H a (bs.map V.bl) ∧ Q (.bl (bs.all id)) H
theorem call_allK (hK : X.K = K) (hc : X.calm = true) : CallR X (.builtin "all") (rAll K) := by subst hK; exact call_all hc
def rSum (K : PySem.W.Frag) : List V → Hp → VK → Prop := fun vs H Q => ∃ (a : Addr) (ns : List Int), vs = [.ref a] ∧ Sq K H a (ns.map V.int) ∧ Q (.int ns.sum) H
theorem call_sumK (hK : X.K = K) (hc : X.calm = true) : CallR X (.builtin "sum") (rSum K) := by subst hK; exact call_sum hc
def rMin (K : PySem.W.Frag) : List V → Hp → VK → Prop := fun vs H Q => ∃ (a : Addr) (ns : List Int), vs = [.ref a] ∧ Sq K H a (ns.map V.int) ∧ ns ≠ [] ∧ ∀ m : Int, m ∈ ns → (∀ k ∈ ns, m ≤ k) → Q (.int m) H
theorem call_minK (hK : X.K = K) (hc : X.calm = true) : CallR X (.builtin "min") (rMin K) := by subst hK; exact call_min hc
def rMin2 : List V → Hp → VK → Prop := fun xs H Q => ∃ i j : Int, xs = [.int i, .int j] ∧ Q (.int (if j < i then j else i)) H
theorem call_min2K (hc : X.calm = true) : CallR X (.builtin "min") rMin2 := call_min2 hc
def rMax2 : List V → Hp → VK → Prop := fun xs H Q => ∃ i j : Int, xs = [.int i, .int j] ∧ Q (.int (if j > i then j else i)) H
theorem call_max2K (hc : X.calm = true) : CallR X (.builtin "max") rMax2 := call_max2 hc
def rTuple (K : PySem.W.Frag) : List V → Hp → VK → Prop := fun xs H Q => ∃ p ys, xs = [.ref p] ∧ ((SqL K H p ys ∧ ∀ l, H l = none → Q (.ref l) (upd H l (.tup ys))) ∨ (SqT K H p ys ∧ Q (.ref p) H))
theorem call_tupleK (hK : X.K = K) : CallR X (.type "tuple") (rTuple K) := by subst hK; exact call_tuple_of
def rList (K : PySem.W.Frag) : List V → Hp → VK → Prop := fun vs H Q => (∃ p ys, vs = [.ref p] ∧ (SqL K H p ys ∨ SqT K H p ys) ∧ ∀ l, H l = none → Q (.ref l) (upd H l (.lst ys))) ∨
    ∃ (a : Addr) (lo hi : Int), vs = [.ref a] ∧ H a = some (.rng lo hi) ∧ (-(2 ^ 62) ≤ lo ∧ lo < 2 ^ 62 ∧ -(2 ^ 62) ≤ hi ∧ hi < 2 ^ 62 ∧ hi - lo ≤ 1000000) ∧ ∀ p, H p = none → Q (.ref p) (upd H p (.lst ((rngI lo hi).map V.int)))
theorem call_listK (hK : X.K = K) (hc : X.calm = true) : CallR X (.type "list") (rList K) := by subst hK; exact call_list_any hc
theorem pi_seqK {tg l : Expr} {tl : TE} (hK : X.K = K) (hl : PE X l tl) : PI X tg l (iSeq K tl) := by subst hK; exact pi_seq hl
theorem pg_tupK {es : List Expr} {k : Nat} {t : TGs} {n : Nat} {pos : Pos} (hK : X.K = K) (hc : X.calm = true) (h : PGs X es t) (hn : (assignEach es X.env).length = n := by rfl) (hst : (assignEach es X.env).findIdx? (·.1) = none := by rfl) : PG X (.Tuple es k pos) (gTup K n t) := by
  subst hK; exact pg_tup hc h hn hst
end
end L2
namespace L2
open PySem PySem.Spec PyProof.Rows
abbrev yLt : R2 := rI0 fun i j => .bl (decide (i < j))
abbrev yLe : R2 := rI0 fun i j => .bl (decide (i ≤ j))
abbrev yGt : R2 := rI0 fun i j => .bl (decide (j < i))
abbrev yGe : R2 := rI0 fun i j => .bl (decide (j ≤ i))
abbrev ySub : R2 := rI0 fun i j => .int (i - j)
abbrev yDiv : R2 := rI CDiv fun i j => .int (i / j)
abbrev yMod : R2 := rI (fun _ j => 0 < j) fun i j => .int (i % j)
abbrev yPow : R2 := rI CPow fun i j => .int (i ^ j.toNat)
abbrev yNeg : V → Hp → VK → Prop := rU fun i => .int (-i)
abbrev rIx2 (K : PySem.W.Frag) : R2 := fun x y H Q => rIxL K x y H Q ∨ rIxT K x y H Q
def rRng : List V → Hp → VK → Prop := fun vs H Q => (∃ n : Int, vs = [.int n] ∧ ∀ p, H p = none → Q (.ref p) (upd H p (.rng 0 n))) ∨ ∃ m n : Int, vs = [.int m, .int n] ∧ ∀ p, H p = none → Q (.ref p) (upd H p (.rng m n))
theorem call_rngK {X : Cx} : CallR X (.type "range") rRng := call_rng
end L2
namespace L2
open PySem
def tabD (T : List (List Int)) : Dt := .tup (T.map fun r => .tup (r.map .int))
structure Quad (T : List (List Int)) (n : Nat) : Prop where
  len : T.length = n
  row : ∀ r ∈ T, r.length = n
def at2 (T : List (List Int)) (i j : Nat) : Int := (T.getD i []).getD j 0
section
variable {K : PySem.W.Frag} {H : Hp} {T : List (List Int)} {n : Nat}
theorem ShL.rows : ∀ {T : List (List Int)} {rs : List V}, ShL K H (T.map fun r => Dt.tup (r.map Dt.int)) rs → rs.length = T.length ∧ ∀ (i : Nat) (row : List Int), T[i]? = some row → ∃ b, rs[i]? = some (.ref b) ∧ SqT K H b (row.map V.int)
  | [], rs, h => by
    have h : rs = [] := h
    subst h
    exact ⟨rfl, fun i row e => by simp at e⟩
  | r :: T, rs, ⟨x, rr, h1, ⟨b, xs, h2, h3, h4⟩, h5⟩ => by
    obtain ⟨e, g⟩ := ShL.rows h5
    subst h1
    refine ⟨by rw [List.length_cons, List.length_cons, e], fun i row er => ?_⟩
    cases i with
    | zero =>
      have : r = row := by simpa using er
      subst this
      exact ⟨b, by rw [h2]; rfl, by rw [← ShL.of_ints h4]; exact h3⟩
    | succ i => exact g i row (by simpa using er)
theorem Sh.tab {v : V} (h : Sh K H (tabD T) v) : ∃ a rs, v = .ref a ∧ SqT K H a rs ∧ rs.length = T.length ∧ ∀ (i : Nat) (row : List Int), T[i]? = some row → ∃ b, rs[i]? = some (.ref b) ∧ SqT K H b (row.map V.int) := by
  obtain ⟨a, rs, e, hq, hl⟩ := h
  obtain ⟨e2, g⟩ := ShL.rows hl
  exact ⟨a, rs, e, hq, e2, g⟩
theorem ShL.of_rows : ∀ {T : List (List Int)} {rs : List V}, rs.length = T.length → (∀ (i : Nat) (row : List Int), T[i]? = some row → ∃ b, rs[i]? = some (.ref b) ∧ SqT K H b (row.map V.int)) → ShL K H (T.map fun r => Dt.tup (r.map Dt.int)) rs
  | [], rs, h, _ => List.length_eq_zero_iff.mp h
  | r :: T, [], h, _ => by simp at h
  | r :: T, x :: rs, h, g => by
    obtain ⟨b, e, hq⟩ := g 0 r rfl
    have e : x = .ref b := by simpa using e
    exact ⟨x, rs, rfl, ⟨b, _, e, hq, ShL.ints r⟩, ShL.of_rows (by simpa using h) fun i row er => by
      obtain ⟨c, e2, q2⟩ := g (i + 1) row (by simpa using er)
      exact ⟨c, by simpa using e2, q2⟩⟩
theorem Quad.get (q : Quad T n) {i : Nat} (h : i < n) : ∃ row, T[i]? = some row ∧ row.length = n ∧ T.getD i [] = row := by
  have hi : i < T.length := by rw [q.len]; exact h
  refine ⟨T[i], List.getElem?_eq_getElem hi, q.row _ (List.getElem_mem hi), ?_⟩
  rw [List.getD_eq_getElem?_getD, List.getElem?_eq_getElem hi]; rfl
theorem getD_at {xs : List Int} {j : Nat} (h : j < xs.length) : xs[j]? = some (xs.getD j 0) := by
  rw [List.getD_eq_getElem?_getD, List.getElem?_eq_getElem h]; rfl
theorem ixT {p : Addr} {xs : List V} {j : Nat} {v : V} {Q : VK} (h : SqT K H p xs) (hj : xs[j]? = some v) (q : Q v H) : rIx2 K (.ref p) (.int (j : Int)) H Q := .inr ⟨p, xs, j, v, rfl, rfl, h, atI_nat hj, q⟩
theorem ixL {p : Addr} {xs : List V} {j : Nat} {v : V} {Q : VK} (h : SqL K H p xs) (hj : xs[j]? = some v) (q : Q v H) : rIx2 K (.ref p) (.int (j : Int)) H Q := .inl ⟨p, xs, j, v, rfl, rfl, h, atI_nat hj, q⟩
theorem tab_row {v : V} {i : Nat} {Q : VK} (hS : Sh K H (tabD T) v) (hq : Quad T n) (hi : i < n) (q : ∀ b, SqT K H b ((T.getD i []).map V.int) → Q (.ref b) H) : rIx2 K v (.int (i : Int)) H Q := by
  obtain ⟨a, rs, rfl, ha, hl, g⟩ := hS.tab
  obtain ⟨row, e1, e2, e3⟩ := hq.get hi
  obtain ⟨b, hb, hs⟩ := g i row e1
  exact ixT ha hb (q b (by rw [e3]; exact hs))
theorem tab_at {σ : St} {t si sj : Nat} {v : V} {i j : Nat} {Q : VK} (ht : σ[t]? = some (some v)) (hi : σ[si]? = some (some (.int (i : Int)))) (hj : σ[sj]? = some (some (.int (j : Int)))) (hS : Sh K H (tabD T) v) (hq : Quad T n) (li : i < n) (lj : j < n)
    (q : Q (.int (at2 T i j)) H) : tOp (rIx2 K) (tOp (rIx2 K) (tVar t) (tVar si)) (tVar sj) σ H Q := by
  refine ⟨_, ht, _, hi, tab_row hS hq li fun b hb => ⟨_, hj, ixT hb ?_ q⟩⟩
  obtain ⟨row, e1, e2, e3⟩ := hq.get li
  rw [List.getElem?_map, getD_at (by rw [e3]; omega)]
  rfl
end
theorem same_of_x {acc : Addr} {H H2 : Hp} {o : HO} (hacc : H acc = none) (sx : SameX acc (upd H acc o) H2) : Same H H2 := fun b u e => sx b u (ne_of_none e hacc) (by rw [upd_ne (ne_of_none e hacc)]; exact e)
theorem Emits.mono {vars vars' : List Nat} {tb : TS} {acc : Addr} {σ : St} {H : Hp} {L : List V} (h : Emits vars tb acc σ H L) (hs : ∀ k ∈ vars, k ∈ vars') : Emits vars' tb acc σ H L :=
  fun D pre ha hz hd => h D pre ha hz fun σ' H' hl ag sx h2 => hd σ' H' hl (fun k hk => ag k fun z => hk (hs k z)) sx h2
theorem Emits.cast {vars : List Nat} {tb : TS} {acc : Addr} {σ : St} {H : Hp} {L L' : List V} (h : Emits vars tb acc σ H L) (e : L = L') : Emits vars tb acc σ H L' := e ▸ h
theorem comp_emitsD (vars : List Nat) (L : List V) {g : TG} {J : It} {tb : TS} {acc : Addr} {σ : St} {H : Hp} {D : Ends} (ha : H acc = none) (hz : L.length ≤ 1000000) (h : Emits vars (tLoop J g tb) acc σ (upd H acc (.lst [])) L)
    (q : ∀ σ' H', Same H H' → H' acc = some (.lst L) → D.nx σ' H') : tLoop J g tb D σ (upd H acc (.lst [])) :=
  h _ [] upd_same (by simpa using hz) fun σ' H' _ _ sx h2 => q σ' H' (same_of_x ha sx) (by simpa using h2)
theorem len_flatMap_le {α : Type} (f : Nat → List α) (c : Nat) : ∀ n, (∀ i, i < n → (f i).length ≤ c) → ((List.range n).flatMap f).length ≤ n * c
  | 0, _ => by simp
  | n + 1, h => by
    rw [flatMap_range_succ, List.length_append, Nat.add_mul, Nat.one_mul]
    have := len_flatMap_le f c n fun i hi => h i (by omega)
    have := h n (by omega)
    omega
theorem map_flatMap' {α β : Type} (g : α → β) (f : Nat → List α) (l : List Nat) : (l.flatMap f).map g = l.flatMap fun i => (f i).map g := by
  induction l with
  | nil => rfl
  | cons x r ih => rw [List.flatMap_cons, List.map_append, ih, List.flatMap_cons]
theorem all_flatMap {α : Type} (p : α → Bool) (f : Nat → List α) (l : List Nat) : (l.flatMap f).all p = l.all fun i => (f i).all p := by
  induction l with
  | nil => rfl
  | cons x r ih => rw [List.flatMap_cons, List.all_append, ih, List.all_cons]
end L2
namespace L2
open PySem
section
variable {vars : List Nat} {tb : TS} {acc a : Addr} {σ : St} {H : Hp} {j : Nat} {D : Ends} {K : PySem.W.Frag}
theorem inv_range {lo : Int} {n : Nat} (R : Nat → List V → Hp → Prop) (hj : j ∈ vars) (hjl : j < σ.length) (h0 : R 0 [] (upd H acc (.lst []))) (ha : H acc = none)
    (h : ∀ i σ' H' L (D : Ends), i < n → σ'.length = σ.length → Agree vars σ σ' → σ'[j]? = some (some (.int (lo + (i : Int)))) → Same H H' → H' acc = some (.lst L) → R i L H' →
      (∀ σ'' H'' L', σ''.length = σ.length → Agree vars σ σ'' → Same H H'' → H'' acc = some (.lst L') → R (i + 1) L' H'' → D.nx σ'' H'') → tb D σ' H')
    (q : ∀ σ' H' L, Same H H' → H' acc = some (.lst L) → R n L H' → D.nx σ' H') : tLoop (Itr lo n) (gName j) tb D σ (upd H acc (.lst [])) := by
  refine for_range (lo := lo) (n := n) (g := gName j) (D := D) (fun i σ' H' => i ≤ n ∧ σ'.length = σ.length ∧ Agree vars σ σ' ∧ Same H H' ∧ ∃ L, H' acc = some (.lst L) ∧ R i L H') ⟨Nat.zero_le _, rfl, Agree.refl _ _, same_new ha _, [], upd_same, h0⟩ (fun i σ1 H1 hi ⟨_, hl1, ag1, sx1, L, h1, r1⟩ => ?_) fun σ1 H1 ⟨_, _, _, sm, L, h1, r1⟩ => q σ1 H1 L sm h1 r1
  exact h i (σ1.set j (some (.int (lo + (i : Int))))) H1 L _ hi (by rw [List.length_set]; exact hl1) (ag1.trans (Agree.set hj _)) (set_at (by omega)) sx1 h1 r1 fun σ2 H2 L' hl2 ag2 sm2 h2 r2 => ⟨hi, hl2, ag2, sm2, L', h2, r2⟩
theorem inv_list {xs : List V} (R : Nat → List V → Hp → Prop) (hj : j ∈ vars) (hjl : j < σ.length) (h0 : R 0 [] (upd H acc (.lst []))) (ha : H acc = none) (hs : ∀ i L H', Same H H' → R i L H' → SqL K H' a xs)
    (h : ∀ i x σ' H' L (D : Ends), xs[i]? = some x → σ'.length = σ.length → Agree vars σ σ' → σ'[j]? = some (some x) → Same H H' → H' acc = some (.lst L) → R i L H' →
      (∀ σ'' H'' L', σ''.length = σ.length → Agree vars σ σ'' → Same H H'' → H'' acc = some (.lst L') → R (i + 1) L' H'' → D.nx σ'' H'') → tb D σ' H')
    (q : ∀ σ' H' L, Same H H' → H' acc = some (.lst L) → R xs.length L H' → D.nx σ' H') : tLoop (Itl K a) (gName j) tb D σ (upd H acc (.lst [])) := by
  refine for_list (K := K) (a := a) (xs := xs) (g := gName j) (D := D) (fun i σ' H' => i ≤ xs.length ∧ σ'.length = σ.length ∧ Agree vars σ σ' ∧ Same H H' ∧ ∃ L, H' acc = some (.lst L) ∧ R i L H') ⟨Nat.zero_le _, rfl, Agree.refl _ _, same_new ha _, [], upd_same, h0⟩ (fun i σ1 H1 _ ⟨_, _, _, sm, L, _, r1⟩ => hs i L H1 sm r1) (fun i x σ1 H1 hx ⟨_, hl1, ag1, sx1, L, h1, r1⟩ => ?_) fun σ1 H1 ⟨_, _, _, sm, L, h1, r1⟩ => q σ1 H1 L sm h1 r1
  have hi : i < xs.length := (List.getElem?_eq_some_iff.mp hx).1
  exact h i x (σ1.set j (some x)) H1 L _ hx (by rw [List.length_set]; exact hl1) (ag1.trans (Agree.set hj _)) (set_at (by omega)) sx1 h1 r1 fun σ2 H2 L' hl2 ag2 sm2 h2 r2 => ⟨hi, hl2, ag2, sm2, L', h2, r2⟩
theorem inv_tup {xs : List V} (R : Nat → List V → Hp → Prop) (hj : j ∈ vars) (hjl : j < σ.length) (h0 : R 0 [] (upd H acc (.lst []))) (ha : H acc = none) (hs : SqT K H a xs)
    (h : ∀ i x σ' H' L (D : Ends), xs[i]? = some x → σ'.length = σ.length → Agree vars σ σ' → σ'[j]? = some (some x) → Same H H' → H' acc = some (.lst L) → R i L H' →
      (∀ σ'' H'' L', σ''.length = σ.length → Agree vars σ σ'' → Same H H'' → H'' acc = some (.lst L') → R (i + 1) L' H'' → D.nx σ'' H'') → tb D σ' H')
    (q : ∀ σ' H' L, Same H H' → H' acc = some (.lst L) → R xs.length L H' → D.nx σ' H') : tLoop (Itt K a) (gName j) tb D σ (upd H acc (.lst [])) := by
  refine for_tup (K := K) (a := a) (xs := xs) (g := gName j) (D := D) (fun i σ' H' => i ≤ xs.length ∧ σ'.length = σ.length ∧ Agree vars σ σ' ∧ Same H H' ∧ ∃ L, H' acc = some (.lst L) ∧ R i L H') ⟨Nat.zero_le _, rfl, Agree.refl _ _, same_new ha _, [], upd_same, h0⟩ (fun i σ1 H1 _ ⟨_, _, _, sm, L, _, r1⟩ => sm.tup hs) (fun i x σ1 H1 hx ⟨_, hl1, ag1, sx1, L, h1, r1⟩ => ?_) fun σ1 H1 ⟨_, _, _, sm, L, h1, r1⟩ => q σ1 H1 L sm h1 r1
  have hi : i < xs.length := (List.getElem?_eq_some_iff.mp hx).1
  exact h i x (σ1.set j (some x)) H1 L _ hx (by rw [List.length_set]; exact hl1) (ag1.trans (Agree.set hj _)) (set_at (by omega)) sx1 h1 r1 fun σ2 H2 L' hl2 ag2 sm2 h2 r2 => ⟨hi, hl2, ag2, sm2, L', h2, r2⟩
end
structure Mat (H : Hp) (F : Addr) (ls : List Addr) (M : List (List Int)) : Prop where
  top : H F = some (.lst (ls.map V.ref))
  len : ls.length = M.length
  row : ∀ (i : Nat) (l : Addr) (r : List Int), ls[i]? = some l → M[i]? = some r → H l = some (.lst (r.map V.int))
  nd : ls.Nodup
  out : F ∉ ls
theorem Mat.same {H H' : Hp} {F : Addr} {ls : List Addr} {M : List (List Int)} (m : Mat H F ls M) (e : Same H H') : Mat H' F ls M := ⟨e _ _ m.top, m.len, fun i l r a b => e _ _ (m.row i l r a b), m.nd, m.out⟩
theorem Mat.keep {H H' : Hp} {F : Addr} {ls : List Addr} {M : List (List Int)} (m : Mat H F ls M) (e : ∀ b o, (b = F ∨ b ∈ ls) → H b = some o → H' b = some o) : Mat H' F ls M :=
  ⟨e _ _ (.inl rfl) m.top, m.len, fun i l r a b => e _ _ (.inr (List.mem_of_getElem? a)) (m.row i l r a b), m.nd, m.out⟩
def put2 (M : List (List Int)) (i j : Nat) (v : Int) : List (List Int) := M.set i ((M.getD i []).set j v)
theorem put2_quad {M : List (List Int)} {n i j : Nat} {v : Int} (q : Quad M n) (hi : i < n) : Quad (put2 M i j v) n := by
  refine ⟨by unfold put2; rw [List.length_set]; exact q.len, fun r hr => ?_⟩
  unfold put2 at hr
  rcases List.mem_or_eq_of_mem_set hr with h | h
  · exact q.row r h
  · obtain ⟨row, e1, e2, e3⟩ := q.get hi
    rw [h, List.length_set, e3]; exact e2
theorem put2_at {M : List (List Int)} {n i j : Nat} {v : Int} (q : Quad M n) (hi : i < n) (hj : j < n) (a b : Nat) : at2 (put2 M i j v) a b = if a = i ∧ b = j then v else at2 M a b := by
  obtain ⟨row, e1, e2, e3⟩ := q.get hi
  unfold at2 put2
  by_cases ha : a = i
  · subst ha
    have : (M.set a ((M.getD a []).set j v)).getD a [] = (M.getD a []).set j v := by
      rw [List.getD_eq_getElem?_getD, List.getElem?_set_self (by rw [q.len]; exact hi)]; rfl
    rw [this, e3]
    by_cases hb : b = j
    · subst hb
      rw [if_pos ⟨rfl, rfl⟩, List.getD_eq_getElem?_getD, List.getElem?_set_self (by omega)]; rfl
    · rw [if_neg (fun z => hb z.2), List.getD_eq_getElem?_getD, List.getElem?_set_ne (Ne.symm hb), ← List.getD_eq_getElem?_getD]
  · have : (M.set i ((M.getD i []).set j v)).getD a [] = M.getD a [] := by
      rw [List.getD_eq_getElem?_getD, List.getElem?_set_ne (Ne.symm ha), ← List.getD_eq_getElem?_getD]
    rw [this, if_neg (fun z => ha z.1)]
theorem Mat.at {K : PySem.W.Frag} {H : Hp} {F : Addr} {ls : List Addr} {M : List (List Int)} {n i : Nat} (m : Mat H F ls M) (q : Quad M n) (hi : i < n) : ∃ l, ls[i]? = some l ∧ (ls.map V.ref)[i]? = some (.ref l) ∧ H l = some (.lst ((M.getD i []).map V.int)) := by
  obtain ⟨row, e1, e2, e3⟩ := q.get hi
  have hl : i < ls.length := by rw [m.len, q.len]; exact hi
  refine ⟨ls[i], List.getElem?_eq_getElem hl, by rw [List.getElem?_map, List.getElem?_eq_getElem hl]; rfl, ?_⟩
  rw [e3]
  exact m.row i _ row (List.getElem?_eq_getElem hl) e1
theorem Mat.put {H : Hp} {F : Addr} {ls : List Addr} {M : List (List Int)} {n i j : Nat} {v : Int} {l : Addr} (m : Mat H F ls M) (q : Quad M n) (hi : i < n) (hl : ls[i]? = some l) : Mat (upd H l (.lst (((M.getD i []).set j v).map V.int))) F ls (put2 M i j v) := by
  have hm : l ∈ ls := List.mem_of_getElem? hl
  have hF : F ≠ l := fun e => m.out (e ▸ hm)
  refine ⟨by rw [upd_ne hF]; exact m.top, by unfold put2; rw [List.length_set]; exact m.len, fun a b r h1 h2 => ?_, m.nd, m.out⟩
  by_cases ha : a = i
  · subst ha
    rw [hl] at h1
    cases h1
    rw [upd_same]
    unfold put2 at h2
    rw [List.getElem?_set_self (by rw [q.len]; exact hi)] at h2
    cases h2
    rfl
  · have hne : b ≠ l := by
      intro e
      subst e
      obtain ⟨i1, z1⟩ := List.getElem?_eq_some_iff.mp h1
      obtain ⟨i2, z2⟩ := List.getElem?_eq_some_iff.mp hl
      exact ha ((List.getElem_inj m.nd).mp (z1.trans z2.symm))
    rw [upd_ne hne]
    unfold put2 at h2
    rw [List.getElem?_set_ne (Ne.symm ha)] at h2
    exact m.row a b r h1 h2
theorem mat_at {K : PySem.W.Frag} {H : Hp} {F : Addr} {ls : List Addr} {M : List (List Int)} {n i j t si sj : Nat} {σ : St} {Q : VK} (m : Mat H F ls M) (q : Quad M n) (ht : σ[t]? = some (some (.ref F))) (hi : σ[si]? = some (some (.int (i : Int)))) (hj : σ[sj]? = some (some (.int (j : Int)))) (li : i < n) (lj : j < n)
    (h : Q (.int (at2 M i j)) H) : tOp (rIx2 K) (tOp (rIx2 K) (tVar t) (tVar si)) (tVar sj) σ H Q := by
  obtain ⟨l, h1, h2, h3⟩ := m.at (K := K) q li
  refine ⟨_, ht, _, hi, ixL (.of m.top) h2 ⟨_, hj, ixL (.of h3) ?_ h⟩⟩
  obtain ⟨row, e1, e2, e3⟩ := q.get li
  rw [List.getElem?_map, getD_at (by rw [e3]; omega)]
  rfl
theorem mat_set {K : PySem.W.Frag} {H : Hp} {F : Addr} {ls : List Addr} {M : List (List Int)} {n i j t si sj : Nat} {σ : St} {v : Int} {N : St → Hp → Prop} (m : Mat H F ls M) (q : Quad M n) (ht : σ[t]? = some (some (.ref F))) (hi : σ[si]? = some (some (.int (i : Int)))) (hj : σ[sj]? = some (some (.int (j : Int)))) (li : i < n) (lj : j < n)
    (h : ∀ l H', l ∈ ls → H' = upd H l (.lst (((M.getD i []).set j v).map V.int)) → Mat H' F ls (put2 M i j v) → N σ H') : gSub (tOp (rIx2 K) (tVar t) (tVar si)) (tVar sj) rSetL (.int v) σ H N := by
  obtain ⟨l, h1, h2, h3⟩ := m.at (K := K) q li
  obtain ⟨row, e1, e2, e3⟩ := q.get li
  refine ⟨_, ht, _, hi, ixL (.of m.top) h2 ⟨_, hj, l, _, (j : Int), j, rfl, rfl, h3, ?_, ?_⟩⟩
  rotate_left
  · rw [← List.map_set]
    exact h l _ (List.mem_of_getElem? h1) rfl (m.put q li h1)
  rw [List.length_map, e3, e2]
  unfold ixN
  rw [if_pos (by omega), if_pos (by omega), Int.toNat_natCast]
end L2
namespace L2
open PySem
theorem rd_freeze {K : PySem.W.Frag} {σ : St} {H : Hp} {t n : Nat} {F : Addr} {ls : List Addr} {M : List (List Int)} {Q : VK} (ht : σ[t]? = some (some (.ref F))) (m : Mat H F ls M) (q : Quad M n) (hn : n ≤ 100) (h : ∀ p H', Same H H' → Sh K H' (tabD M) (.ref p) → Q (.ref p) H') :
    tCB (rTuple K) (tCons (tComp [none] (iSeq K (tVar t)) (gName 0) [] fun acc => tEmit (tCB (rTuple K) (tCons (tVar 0) tNil)) acc) tNil) σ H Q := by
  refine ⟨_, ht, F, rfl, .inl ⟨⟨_, .of m.top⟩, fun acc hacc => ?_⟩⟩
  have hlen : (ls.map V.ref).length = n := by rw [List.length_map, m.len, q.len]
  refine inv_list (vars := [0]) (K := K) (a := F) (xs := ls.map V.ref) (fun i L H' => L.length = i ∧ ∀ (j : Nat) (row : List Int), j < i → M[j]? = some row → ∃ b, L[j]? = some (.ref b) ∧ H' b = some (.tup (row.map V.int))) (by decide) (by show 0 < 1; decide) ⟨rfl, fun j row hj => absurd hj (Nat.not_lt_zero _)⟩ hacc (fun i L H' sm _ => .of (sm _ _ m.top)) (fun i x σ1 H1 L D hx l1 ag1 s1 sm1 ha1 ⟨r1, r2⟩ hD => ?_) fun σ1 H1 L sm1 ha1 ⟨r1, r2⟩ => ?_
  · have hi : i < n := by rw [← hlen]; exact (List.getElem?_eq_some_iff.mp hx).1
    have hil : i < ls.length := by rw [m.len, q.len]; exact hi
    obtain ⟨row, e1, e2, e3⟩ := q.get hi
    have ex : x = .ref ls[i] := by
      rw [List.getElem?_map, List.getElem?_eq_getElem hil] at hx
      simpa using hx.symm
    subst ex
    have hrow := m.row i _ row (List.getElem?_eq_getElem hil) e1
    refine ⟨_, s1, ls[i], row.map V.int, rfl, .inl ⟨.of (sm1 _ _ hrow), fun p hp => ?_⟩⟩
    have hpa : p ≠ acc := fun e => by rw [e, ha1] at hp; cases hp
    refine ⟨L, by rw [upd_ne (Ne.symm hpa)]; exact ha1, Nat.lt_of_le_of_lt (show L.length ≤ 100 by omega) (by decide), ?_⟩
    refine hD σ1 _ (L ++ [.ref p]) l1 ag1 (fun b o e => ?_) upd_same ⟨by rw [List.length_append, r1]; rfl, fun j row' hj e => ?_⟩
    · have hb : b ≠ acc := ne_of_none e hacc
      rw [upd_ne hb, upd_ne (ne_of_none (sm1 _ _ e) hp)]
      exact sm1 _ _ e
    · by_cases hji : j < i
      · obtain ⟨b, g1, g2⟩ := r2 j row' hji e
        refine ⟨b, by rw [List.getElem?_append_left (by omega)]; exact g1, ?_⟩
        have hb : b ≠ acc := ne_of g2 ha1 (fun z => nomatch z)
        rw [upd_ne hb, upd_ne (ne_of_none g2 hp)]
        exact g2
      · have : j = i := by omega
        subst this
        rw [e1] at e
        cases e
        refine ⟨p, by rw [List.getElem?_append_right (by omega), r1]; simp, ?_⟩
        rw [upd_ne hpa]
        exact upd_same
  · refine ⟨acc, L, rfl, .inl ⟨.of ha1, fun p hp => ?_⟩⟩
    have sm2 : Same H (upd H1 p (.tup L)) := sm1.trans (same_new hp _)
    refine h p _ sm2 ⟨p, L, rfl, .of upd_same, ShL.of_rows (by rw [r1, hlen, q.len]) fun i row e => ?_⟩
    have hi : i < n := by rw [← q.len]; exact (List.getElem?_eq_some_iff.mp e).1
    obtain ⟨b, g1, g2⟩ := r2 i row (by omega) e
    exact ⟨b, g1, .of (by rw [upd_ne (ne_of_none g2 hp)]; exact g2)⟩
end L2
namespace L2
open PySem
section
variable {K : PySem.W.Frag} {H : Hp}
end
theorem cut_from {xs : List V} {t : Nat} (h : t ≤ xs.length) : cutV xs (some (t : Int)) none = xs.drop t := by
  unfold cutV HT.sIx
  simp only [Int.toNat_natCast]
  rw [if_neg (by omega), Nat.min_eq_left h, List.take_of_length_le (by rw [List.length_drop]; omega)]
theorem cut_ints (ns : List Int) (lo hi : Option Int) : ∃ ms : List Int, cutV (ns.map V.int) lo hi = ms.map V.int ∧ ms.length ≤ ns.length := by
  refine ⟨(ns.drop (HT.sIx ns.length 0 lo)).take (HT.sIx ns.length ns.length hi - HT.sIx ns.length 0 lo), ?_, ?_⟩
  · unfold cutV
    rw [List.length_map, List.map_take, List.map_drop]
  · rw [List.length_take, List.length_drop]; omega
end L2
namespace L2
open PySem
end L2
namespace L2
open PySem PySem.Spec PyProof.Rows
section
variable {X : Cx}
theorem getItem_tuple_all {prog : Program} {w : World} {A : Around} {E : Value → Shared → Prop} {s : Shared} {t sl : Addr} {items : Array Value} {vl vu : Value} {lo hi : Option Int} {Q : Value → Shared → Prop} (ht : IsTup s.heap t items) (hs : s.heap.IsSliceOf sl vl vu .none) (pl : IsPart vl lo) (pu : IsPart vu hi)
    (hw : HT.sIx items.size 0 lo = 0 ∧ HT.sIx items.size items.size hi = items.size) (h : Q (.ref t) s) : wpAny (model prog w) A (getItem (.ref t) (.ref sl)) Q E s := by
  obtain ⟨os, hos, hcs, hds⟩ := id hs
  have hTs : s.TypeIs (.ref sl) "slice" := ⟨os, hos, hcs⟩
  unfold getItem
  try with_reducible refine wpAny_holding ?_
  first | refine wpAny_bind (wpAny_pure ?_) | skip
  refine wpAny_bind (wpAny_sequenceKey ht.typeIs (by decide) ?_)
  refine wpAny_bind (wpAny_callSpecial?_slot (name := Str.ofString "__getitem__") ht.typeIs PyProof.Rows.slot_tuple_getitem
    (wpAny_call_entry PyProof.Rows.slot_tuple_getitem ht.typeIs entry_tuple_getitem ?_ (args_tuple_getitem _ _)))
  show wpAny _ _ (Builtin.Tuple.tupleItemsOf (.ref t) >>= _) _ _ s
  refine wpAny_bind (tupleItemsOf_ ht ?_)
  refine wpAny_bind (wpAny_typeOf hTs ?_)
  rw [if_pos (by decide)]
  refine wpAny_bind (HT.sliceApplied_gen hs pl pu ?_)
  rw [hw.1, hw.2]
  have hyes : ((((0 : Nat) : Int) == 0 && (1 : Int) == 1 && (items.size - 0) == items.size) = true) := by simp
  show wpAny _ _ (if (((0 : Nat) : Int) == 0 && (1 : Int) == 1 && (items.size - 0) == items.size) = true then _ else _) _ _ s
  rw [if_pos hyes]
  unfold Builtin.Tuple.tupleIsExact
  refine wpAny_bind (wpAny_bind (wpAny_typeOf ht.typeIs (wpAny_pure ?_)))
  rw [if_pos (show (Value.type "tuple" == Value.type "tuple") = true by rfl)]
  exact wpAny_bind (wpAny_rule (wpAny_pure ⟨_, rfl, wpAny_pure h⟩))
def rSlV (K : PySem.W.Frag) : V → Option Int → Option Int → Hp → VK → Prop := fun x lo hi H Q => ∃ a xs, x = .ref a ∧ SqT K H a xs ∧ ∀ p H', Same H H' → SqT K H' p (cutV xs lo hi) → Q (.ref p) H'
theorem sl_tupV : SlR X (rSlV X.K) := by
  intro pins s σ H x v vl vu lo hi sl Q I rx hs pl pu h
  obtain ⟨a, xs, rfl, hx, q⟩ := h
  by_cases hw : HT.sIx xs.length 0 lo = 0 ∧ HT.sIx xs.length xs.length hi = xs.length
  · obtain rfl : v = Value.ref a := rx
    obtain ⟨its, rv, p, hz⟩ := I.tuple hx
    have hl := rv.length
    have ec : cutV xs lo hi = xs := by unfold cutV; rw [hw.1, hw.2, List.drop_zero, Nat.sub_zero, List.take_length]
    refine ⟨"tuple", _, PyProof.Rows.slot_tuple_getitem.lookup, p.typeIs, ?_⟩
    refine getItem_tuple_all p hs pl pu (by simp only [List.size_toArray, ← hl]; exact hw) ?_
    exact ⟨.ref a, H, I, rfl, q a H (Same.refl H) (by rw [ec]; exact hx)⟩
  · exact sl_tup (X := X) pins s σ H (.ref a) v vl vu lo hi sl Q I rx hs pl pu ⟨a, xs, rfl, hx, hw, fun p hp => q p _ (same_new hp _) (.of upd_same)⟩
abbrev rSlU (K : PySem.W.Frag) : V → Option Int → Option Int → Hp → VK → Prop := fun x lo hi H Q => rSlL K x lo hi H Q ∨ rSlV K x lo hi H Q
theorem sl_uK {K : PySem.W.Frag} (hK : X.K = K) : SlR X (rSlU K) := by subst hK; exact sl_list.or sl_tupV
end
section
variable {prog : Program} {w : World} {A : Around} {E : Value → Shared → Prop} {s : Shared}
theorem collect_sq {l : Addr} {ob : Obj} {n : Nat} {T : String} {us : List Value} {Q : List Value → Shared → Prop} (e0 : s.heap.get? l = some ob) (ec : ob.cls = .type T) (eT : T = "list" ∨ T = "tuple") (ed : ob.data = .seq us.toArray n)
    (q : Q us { s with heap := (s.heap.push (seqObj "list" #[] 0)).update s.heap.objs.size (Obj.mapSeq (· ++ us.toArray)) }) (z : us.length ≤ sizeLine) : wpAny (model prog w) A (collect (.ref l)) Q E s := by
  unfold collect
  refine wpAny_bind (wpAny_runValue (codeAny_builtin entry_proto_collect' ?g1))
  case g1 =>
    show wpAny _ _ (do again (.builtin "list.__iadd__" ⟨[← newList [], Value.ref l], []⟩)) _ _ s
    refine wpAny_bind (wpAny_newList (wpAny_pure ⟨Code.quiet_builtin _ (by decide +kernel), codeAny_builtin entry_list_iadd' ?g2⟩))
    case g2 =>
      have e1 : (s.heap.push (seqObj "list" #[] 0)).get? l = some ob := Heap.get?_push_of_some _ e0
      show wpAny _ _ (Builtin.List.listExtendWith (Value.ref s.heap.objs.size) (Value.ref l) (Value.ref s.heap.objs.size)) _ _ { s with heap := s.heap.push (seqObj "list" #[] 0) }
      unfold Builtin.List.listExtendWith
      refine wpAny_bind (wpAny_typeOf (T := T) ⟨ob, e1, ec⟩ ?g3)
      case g3 =>
        have ht : ((Value.type T == Value.type "list") || (Value.type T == Value.type "tuple")) = true := by rcases eT with rfl | rfl <;> rfl
        rw [if_pos (by first | exact ht | (rcases eT with rfl | rfl <;> simp))]
        refine wpAny_bind (listItems_at e1 ed (wpAny_bind (listItems_at (xs := #[]) (n := 0) (Heap.get?_push_size _ rfl) rfl ?g4)))
        case g4 =>
          rw [if_neg (by simp)]
          refine wpAny_bind (listUpdate_at (xs := #[]) (n := 0) (Heap.get?_push_size _ rfl) rfl ?g5 (Nat.zero_le _) (by show (#[] ++ us.toArray).size ≤ sizeLine + 1; simp only [Array.size_append, List.size_toArray, List.length_nil]; omega))
          case g5 =>
            refine wpAny_pure ?g6
            case g6 =>
              show wpAny (model prog w) A (load s.heap.objs.size >>= fun o => match o.data with | .seq xs _ => pure xs.toList | _ => unsupported "internal:collect") Q E { s with heap := (s.heap.push (seqObj "list" #[] 0)).update s.heap.objs.size (Obj.mapSeq (· ++ us.toArray)) }
              refine wpAny_bind (wpAny_load (get?_update_seq (Heap.get?_push_size _ rfl) _) ?g7)
              case g7 =>
                show wpAny _ _ (pure ((#[] : Array Value) ++ us.toArray).toList) Q E _
                rw [show ((#[] : Array Value) ++ us.toArray).toList = us by simp]
                exact wpAny_pure q
theorem sorted_sq {l : Addr} {ob : Obj} {n : Nat} {T : String} {us : List Value} {ks : List Int} {Q : Value → Shared → Prop} (e0 : s.heap.get? l = some ob) (ec : ob.cls = .type T) (eT : T = "list" ∨ T = "tuple") (ed : ob.data = .seq us.toArray n) (hI : IntsAre us ks) (h64 : us.length < 64)
    (q : ∀ (out : Array Value) (ns' : List Int), IntsAre out.toList ns' → ns'.Perm ks → ns'.Pairwise (· ≤ ·) → Q (.ref (s.heap.objs.size + 1)) { s with heap := sortedAll s.heap us out }) : wpAny (model prog w) A (call (.builtin "sorted") [.ref l]) Q E s := by
  refine Calls.call_function_entry kind_sorted plain_sorted entry_sorted (args_sorted1 _) ?g1
  case g1 =>
    unfold Builtin.«sorted»
    refine wpAny_bind (m := checkCount "sorted" 1 1 _) (wpAny_pure (wpAny_bind (collect_sq e0 ec eT ed ?g2 (Nat.le_trans (Nat.le_of_lt h64) (by decide)))))
    case g2 =>
      refine wpAny_bind (wpAny_newList ?g3)
      case g3 =>
        have z1 : ((s.heap.push (seqObj "list" #[] 0)).update s.heap.objs.size (Obj.mapSeq (· ++ us.toArray))).objs.size = s.heap.objs.size + 1 := by rw [Heap.size_update, size_push']
        have e2 : (((s.heap.push (seqObj "list" #[] 0)).update s.heap.objs.size (Obj.mapSeq (· ++ us.toArray))).push (seqObj "list" us.toArray 0)).get? (s.heap.objs.size + 1) = some (seqObj "list" us.toArray 0) := by rw [← z1]; exact Heap.get?_push_size _ rfl
        show wpAny _ _ _ _ _ { s with heap := ((s.heap.push (seqObj "list" #[] 0)).update s.heap.objs.size (Obj.mapSeq (· ++ us.toArray))).push (seqObj "list" us.toArray 0) }
        rw [z1]
        refine wpAny_bind (wpAny_holding (wpAny_call_entry slot_list_sort ⟨_, e2, rfl⟩ entry_list_sort (list_sort_tree e2 hI h64 fun out ns' a1 a2 a3 => ⟨_, rfl, wpAny_pure ⟨_, rfl, q out ns' a1 a2 a3⟩⟩) (args_list_sort _)))
end
end L2
namespace L2
open PySem PySem.Spec PyProof.Rows
theorem vals_of_ints : ∀ {ns : List Int} {us : List Value}, IntsAre us ns → Vals (ns.map V.int) us
  | [], _, h => by cases h; exact .nil
  | n :: ns, _, h => by
    cases h with
    | cons _ t h => exact .cons ⟨t, rfl⟩ (vals_of_ints h)
theorem IntsAre.len : ∀ {ns : List Int} {us : List Value}, IntsAre us ns → us.length = ns.length
  | [], _, h => by cases h; rfl
  | n :: ns, _, h => by
    cases h with
    | cons _ t h => rw [List.length_cons, List.length_cons, IntsAre.len h]
def rSorted (K : PySem.W.Frag) : List V → Hp → VK → Prop := fun vs H Q => ∃ (a : Addr) (ns : List Int), vs = [.ref a] ∧ Sq K H a (ns.map V.int) ∧ ns.length < 64 ∧
  ∀ ms : List Int, ms.Perm ns → ms.Pairwise (· ≤ ·) → ∀ l, H l = none → Q (.ref l) (upd H l (.lst (ms.map V.int)))
theorem call_sorted {X : Cx} : CallR X (.builtin "sorted") (rSorted X.K) := by
  intro pins s σ H xs us Q I r ⟨a, ns, e, hq, h64, q⟩
  subst e
  obtain ⟨u, rfl, ru⟩ := vals1 r
  obtain rfl : u = Value.ref a := ru
  have go : ∀ (its : List Value) (ob : Obj) (n : Nat) (T : String), Vals (ns.map V.int) its → s.heap.get? a = some ob → ob.cls = .type T → (T = "list" ∨ T = "tuple") → ob.data = .seq its.toArray n → wpAny (model X.prog X.w) X.A (call (.builtin "sorted") [.ref a]) (EP X pins σ Q) X.xe s := by
    intro its ob n T rv e0 ec eT ed
    have hi := intsAre_of rv
    refine sorted_sq e0 ec eT ed hi (by rw [IntsAre.len hi]; exact h64) fun out ns' a1 a2 a3 => ?_
    obtain ⟨c, he⟩ := sortedAll_at s.heap its out
    refine ⟨.ref (s.heap.objs.size + 1), _, I.laid (t' := s.toks) (o := .lst (ns'.map V.int)) (fun b ob q => sortedAll_old q) (Nat.le_succ _) ?_, rfl, q ns' a2 a3 _ (I.hok.fresh (Nat.le_succ _))⟩
    refine ⟨?_, out.toList, c, vals_of_ints a1, he⟩
    rw [List.length_map, a2.length_eq]
    exact Nat.le_trans (Nat.le_of_lt h64) (by decide)
  rcases hq with hq | hq
  · obtain ⟨its, rv, pl, hz⟩ := I.list hq
    obtain ⟨o, ho, hc, n, hd⟩ := pl.isList
    exact go its o n "list" rv ho hc (.inl rfl) hd
  · obtain ⟨its, rv, pl, hz⟩ := I.tuple hq
    obtain ⟨o, ho, hc, n, hd⟩ := pl
    exact go its o n "tuple" rv ho hc (.inr rfl) hd
theorem call_sortedK {X : Cx} {K : PySem.W.Frag} (hK : X.K = K) : CallR X (.builtin "sorted") (rSorted K) := by subst hK; exact call_sorted
mutual
def toP : Dt → PyData
  | .non => .none
  | .bl b => .bool b
  | .int i => .int i
  | .str x => .str x
  | .tup ds => .tuple (toPs ds)
  | .lst ds => .list (toPs ds)
def toPs : List Dt → List PyData
  | [] => []
  | d :: ds => toP d :: toPs ds
end
mutual
theorem toP_dep : ∀ d, (toP d).depth = dep d
  | .non => rfl
  | .bl b => rfl
  | .int i => rfl
  | .str x => rfl
  | .tup ds => by show (PyData.tuple (toPs ds)).depth = _; unfold PyData.depth dep; rw [toPs_dep]
  | .lst ds => by show (PyData.list (toPs ds)).depth = _; unfold PyData.depth dep; rw [toPs_dep]
theorem toPs_dep : ∀ ds, PyData.depthAll (toPs ds) = depL ds
  | [] => by unfold toPs depL PyData.depthAll; rfl
  | d :: ds => by unfold toPs depL PyData.depthAll; rw [toP_dep, toPs_dep]
end
mutual
theorem toP_nodict : ∀ d, (toP d).hasDict = false
  | .non => by unfold toP PyData.hasDict; rfl
  | .bl b => by unfold toP PyData.hasDict; rfl
  | .int i => by unfold toP PyData.hasDict; rfl
  | .str x => by unfold toP PyData.hasDict; rfl
  | .tup ds => by unfold toP PyData.hasDict; exact toPs_nodict ds
  | .lst ds => by unfold toP PyData.hasDict; exact toPs_nodict ds
theorem toPs_nodict : ∀ ds, PyData.hasDictAll (toPs ds) = false
  | [] => by unfold toPs PyData.hasDictAll; rfl
  | d :: ds => by unfold toPs PyData.hasDictAll; rw [toP_nodict, toPs_nodict]; rfl
end
section
variable {X : Cx} {pins : List (Addr × Obj)} {σ : St} {H : Hp} {s : Shared}
mutual
theorem Inv.reads (I : Inv X pins σ H s) : ∀ {d : Dt} {x : V} {v : Value}, RelV x v → Sh X.K H d x → ∃ as, Reads s.heap v (toP d) as
  | .non, x, v, r, h => by obtain rfl : x = .non := h; obtain rfl : v = .none := r; exact ⟨_, .none⟩
  | .bl b, x, v, r, h => by obtain rfl : x = .bl b := h; obtain rfl : v = .bool b := r; exact ⟨_, .bool b⟩
  | .int i, x, v, r, h => by obtain rfl : x = .int i := h; obtain ⟨t, rfl⟩ := r; exact ⟨_, .int i t⟩
  | .str y, x, v, r, h => by obtain rfl : x = .str y := h; obtain ⟨t, rfl⟩ := r; exact ⟨_, .str y t⟩
  | .tup ds, x, v, r, ⟨a, xs, h1, h2, h3⟩ => by
    subst h1
    obtain rfl : v = Value.ref a := r
    obtain ⟨its, rv, ⟨o, ho, hc, n, hd⟩, _⟩ := I.tuple h2
    obtain ⟨as, ha⟩ := Inv.readsAll I rv h3
    exact ⟨_, .tuple ho hc hd ha⟩
  | .lst ds, x, v, r, ⟨a, xs, h1, h2, h3⟩ => by
    subst h1
    obtain rfl : v = Value.ref a := r
    obtain ⟨its, rv, pl, _⟩ := I.list h2
    obtain ⟨o, ho, hc, n, hd⟩ := pl.isList
    obtain ⟨as, ha⟩ := Inv.readsAll I rv h3
    exact ⟨_, .list ho hc hd ha⟩
theorem Inv.readsAll (I : Inv X pins σ H s) : ∀ {ds : List Dt} {xs : List V} {us : List Value}, Vals xs us → ShL X.K H ds xs → ∃ as, ReadsAll s.heap us (toPs ds) as
  | [], xs, us, r, h => by obtain rfl : xs = [] := h; cases r; exact ⟨_, .nil⟩
  | d :: ds, xs, us, r, ⟨x, t, h1, h2, h3⟩ => by
    subst h1
    cases r with
    | cons r1 r2 =>
      obtain ⟨as, h4⟩ := Inv.reads I r1 h2
      obtain ⟨bs, h5⟩ := Inv.readsAll I r2 h3
      exact ⟨_, .cons h4 h5⟩
end
end
def okR (d : Dt) : Prop := (toP d).showable = true ∧ (toP d).leavesShort 1930 = true ∧ (toP d).bulk ≤ 4000 ∧ dep d ≤ 100
end L2
namespace L2
open PySem PySem.Spec PyProof.Rows
def ItAt (b : Bool) (h : Heap) (it l : Addr) (i : Nat) : Prop := ∃ o, h.get? it = some o ∧ o.cls = .type (if b then "list_iterator" else "tuple_iterator") ∧ o.data = .fields #[.ref l, .int i 0]
def ObAt (b : Bool) (h : Heap) (l : Addr) (us : Array Value) : Prop := ∃ o, h.get? l = some o ∧ o.cls = .type (if b then "list" else "tuple") ∧ ∃ n, o.data = .seq us n
theorem ItAt.keep {b : Bool} {h h' : Heap} {it l : Addr} {i : Nat} (x : ItAt b h it l i) (e : ∀ o, h.get? it = some o → h'.get? it = some o) : ItAt b h' it l i := let ⟨o, ho, r⟩ := x; ⟨o, e _ ho, r⟩
theorem ObAt.keep {b : Bool} {h h' : Heap} {l : Addr} {us : Array Value} (x : ObAt b h l us) (e : ∀ o, h.get? l = some o → h'.get? l = some o) : ObAt b h' l us := let ⟨o, ho, r⟩ := x; ⟨o, e _ ho, r⟩
theorem ItAt.lt {b : Bool} {h : Heap} {it l : Addr} {i : Nat} (x : ItAt b h it l i) : it < h.objs.size := let ⟨_, ho, _⟩ := x; Heap.lt_size ho
section
variable {prog : Program} {w : World} {A : Around} {E : Value → Shared → Prop} {s : Shared}
theorem nextOf_tup_item {it t : Addr} {i : Nat} {us : Array Value} {x : Value} {Q : Value → Shared → Prop} (hit : s.heap.IsTupleIter it t i) (ht : s.heap.IsTuple t us) (hx : us[i]? = some x)
    (q : ∀ h', h'.IsTupleIter it t (i + 1) → Heap.SameBut it s.heap h' → Q x { s with heap := h' }) : wpAny (model prog w) A (Builtin.SmallTypes.nextOf (.ref it)) Q E s := by
  obtain ⟨ob, e1, e2, e3⟩ := id hit
  obtain ⟨ol, f1, _, nl, f2⟩ := ht
  unfold Builtin.SmallTypes.nextOf; refine wpAny_bind (wpAny_callSpecial?_slot (name := Str.ofString "__next__") hit.typeIs F.slot_tuple_iterator_next (wpAny_call_entry F.slot_tuple_iterator_next hit.typeIs F.entry_tuple_iterator_next ?g (F.args_tuple_iterator_next_1 _)))
  case g =>
    show wpAny _ _ (field (.ref it) 0 >>= _) _ _ s; refine wpAny_bind (wpAny_field e1 e3 (x := .ref t) rfl ?g)
    case g =>
      show wpAny _ _ (if (Value.ref t == Value.none) = true then _ else _) _ _ s; rw [if_neg (show ¬ ((Value.ref t == Value.none) = true) from Bool.false_ne_true)]
      show wpAny _ _ (field (.ref it) 1 >>= _) _ _ s; refine wpAny_bind (wpAny_field e1 e3 (x := .int i 0) rfl ?g)
      case g =>
        show wpAny _ _ (seqItems? (.ref t) >>= _) _ _ s; refine wpAny_bind (wpAny_seqItems f1 f2 ?g)
        case g =>
          simp only [Int.toNat_natCast, hx]; refine wpAny_bind (wpAny_setField e1 e3 (by simp) (wpAny_pure ⟨x, rfl, wpAny_pure (q _ ?g (Heap.SameBut.update ..))⟩))
          case g => exact ⟨_, Heap.get?_update_self _ e1 (Obj.isFreed_of_fields (Obj.data_mapFields e3 _)), (Obj.cls_mapFields ..).trans e2, by rw [Obj.data_mapFields e3]; simp [rawInt]⟩
theorem nextOf_tup_end {it t : Addr} {i : Nat} {us : Array Value} {Q : Value → Shared → Prop} (hh : A.handled = none) (hit : s.heap.IsTupleIter it t i) (ht : s.heap.IsTuple t us) (hx : us[i]? = none)
    (q : ∀ h' e, Heap.ExtBut it s.heap h' → (∃ o, h'.get? e = some o ∧ o.cls = .type "StopIteration") → E (.ref e) { s with heap := h' }) : wpAny (model prog w) A (Builtin.SmallTypes.nextOf (.ref it)) Q E s := by
  obtain ⟨ob, e1, e2, e3⟩ := id hit
  obtain ⟨ol, f1, _, nl, f2⟩ := ht
  unfold Builtin.SmallTypes.nextOf; refine wpAny_bind (wpAny_callSpecial?_slot (name := Str.ofString "__next__") hit.typeIs F.slot_tuple_iterator_next (wpAny_call_entry F.slot_tuple_iterator_next hit.typeIs F.entry_tuple_iterator_next ?g (F.args_tuple_iterator_next_1 _)))
  case g =>
    show wpAny _ _ (field (.ref it) 0 >>= _) _ _ s; refine wpAny_bind (wpAny_field e1 e3 (x := .ref t) rfl ?g)
    case g =>
      show wpAny _ _ (if (Value.ref t == Value.none) = true then _ else _) _ _ s; rw [if_neg (show ¬ ((Value.ref t == Value.none) = true) from Bool.false_ne_true)]
      show wpAny _ _ (field (.ref it) 1 >>= _) _ _ s; refine wpAny_bind (wpAny_field e1 e3 (x := .int i 0) rfl ?g)
      case g =>
        show wpAny _ _ (seqItems? (.ref t) >>= _) _ _ s; refine wpAny_bind (wpAny_seqItems f1 f2 ?g)
        case g =>
          simp only [Int.toNat_natCast, hx]; refine wpAny_bind (wpAny_rule (wpAny_bind (wpAny_setField e1 e3 (by simp) ?g)))
          case g =>
            show wpAny _ _ (newExc (.type "StopIteration") [] >>= _) _ _ _; refine wpAny_bind ?g
            case g =>
              simp only [newExc, newTuple]; refine wpAny_bind (wpAny_newObj_type ?g (by size_fits))
              case g =>
                refine wpAny_bind (m := firstArgMember _ _) (wpAny_of_eq (a := Value.none) (by first | rfl | (simp only [firstArgMember]; rfl)) ?g)
                case g =>
                  refine wpAny_newObj_type ?g (by size_fits)
                  case g =>
                    simp only [raiseNew]; refine wpAny_bind (wpAny_handled ?g)
                    case g =>
                      first | rw [show A.in1.handled = none from hh] | rw [hh]
                      exact wpAny_bind (wpAny_pure (wpAny_throw (q _ _ (((Heap.SameBut.update ..).extBut.push _).push _) ⟨_, Heap.get?_push_size _ rfl, rfl⟩)))
theorem next_src {b : Bool} {it l : Addr} {i : Nat} {us : Array Value} {x : Value} {Q : Value → Shared → Prop} (hit : ItAt b s.heap it l i) (ho : ObAt b s.heap l us) (hx : us[i]? = some x)
    (q : ∀ h', ItAt b h' it l (i + 1) → Heap.SameBut it s.heap h' → Q x { s with heap := h' }) : wpAny (model prog w) A (Builtin.SmallTypes.nextOf (.ref it)) Q E s := by
  cases b with
  | true => exact wpAny_nextOf_list_item (l := l) (i := i) (items := us) hit ho hx q
  | false => exact nextOf_tup_item (t := l) (i := i) (us := us) hit ho hx q
theorem end_src {b : Bool} {it l : Addr} {i : Nat} {us : Array Value} {Q : Value → Shared → Prop} (hh : A.handled = none) (hit : ItAt b s.heap it l i) (ho : ObAt b s.heap l us) (hx : us[i]? = none)
    (q : ∀ h' e, Heap.ExtBut it s.heap h' → (∃ o, h'.get? e = some o ∧ o.cls = .type "StopIteration") → E (.ref e) { s with heap := h' }) : wpAny (model prog w) A (Builtin.SmallTypes.nextOf (.ref it)) Q E s := by
  cases b with
  | true => exact wpAny_nextOf_list_end (l := l) (i := i) (items := us) hh hit ho hx q
  | false => exact nextOf_tup_end (t := l) (i := i) (us := us) hh hit ho hx q
abbrev itO (b : Bool) (l : Addr) : Obj := { cls := .type (if b then "list_iterator" else "tuple_iterator"), data := .fields #[.ref l, .int 0 0] }
theorem iter_src {b : Bool} {l : Addr} {us : Array Value} {Q : Value → Shared → Prop} (ho : ObAt b s.heap l us) (q : Q (.ref s.heap.objs.size) { s with heap := s.heap.push (itO b l) }) : wpAny (model prog w) A (pyIter (.ref l)) Q E s := by
  cases b with
  | true => exact wpAny_pyIter_list (show s.heap.IsList l us from ho) q
  | false => exact wpAny_pyIter_tuple (show s.heap.IsTuple l us from ho) q
structure ZA (z ti to i1 i2 : Addr) : Prop where
  a1 : ti ≠ z
  a2 : to ≠ z
  a3 : i1 ≠ z
  a4 : i2 ≠ z
  a5 : ti ≠ to
  a6 : ti ≠ i1
  a7 : ti ≠ i2
  a8 : to ≠ i1
  a9 : to ≠ i2
  a10 : i1 ≠ i2
def ZP (z to i1 i2 c : Addr) : Prop := c ≠ z ∧ c ≠ to ∧ c ≠ i1 ∧ c ≠ i2
end
end L2
namespace L2
open PySem PySem.Spec PyProof.Rows
section
variable {X : Cx} {pins : List (Addr × Obj)} {σ : St} {H : Hp} {s : Shared} {h' : Heap}
theorem Inv.turnedL {t' : Nat} {ch : List Addr} (I : Inv X pins σ H s) (hf : ∀ b ∈ ch, FpOk X pins H b) (k : ∀ b o, b ∉ ch → s.heap.get? b = some o → h'.get? b = some o) : Inv X pins σ H { s with heap := h', toks := t' } := by
  have nit : ∀ b u, H b = some u → b ∉ ch := fun b u e z => by rw [(hf b z).1] at e; cases e
  refine I.step (g' := s.gens) (d' := s.drawn) (ch := ch) (fun b hb => ?_) (fun b o _ _ hc e _ => k b o hc e) (fun b o _ _ hc e _ => ⟨o.slots, k b o hc e⟩) (fun _ _ _ _ n => n) (fun b o hc e => ⟨o, k b o hc e⟩) (fun _ _ e => e) (fun _ _ _ e => e) (fun b ps e => ⟨#[], by rw [e]; simp⟩) (fun m hm => ?_) (fun b u e => ?_) I.bare
  · obtain ⟨_, f1, _, f3, f4, f5⟩ := hf b hb
    exact ⟨f3, f1, f4, f5⟩
  · obtain ⟨o, es, ep, ho, r⟩ := hm
    exact ⟨o, es, ep, k _ o (fun z => (hf _ z).2.1 rfl) ho, r⟩
  · refine (I.hok b u e).stay (fun c v hc q => k c v ?_ q) (fun _ q => q) fun _ _ q => q
    rcases hc with z | z
    · rw [z]; exact nit b u e
    · exact nit c _ z
end
def SqB (b : Bool) (K : PySem.W.Frag) (H : Hp) (l : Addr) (xs : List V) : Prop := match b with | true => SqL K H l xs | false => SqT K H l xs
section
variable {X : Cx} {pins : List (Addr × Obj)} {σ : St} {H : Hp} {s : Shared}
theorem Inv.obAt {b : Bool} {l : Addr} {xs : List V} (I : Inv X pins σ H s) (h : SqB b X.K H l xs) : ∃ its : List Value, Vals xs its ∧ ObAt b s.heap l its.toArray ∧ xs.length ≤ sizeLine := by
  cases b with
  | true =>
    obtain ⟨its, rv, pl, hz⟩ := I.list h
    obtain ⟨o, ho, hc, n, hd⟩ := pl.isList
    exact ⟨its, rv, ⟨o, ho, hc, n, hd⟩, hz⟩
  | false =>
    obtain ⟨its, rv, ⟨o, ho, hc, n, hd⟩, hz⟩ := I.tuple h
    exact ⟨its, rv, ⟨o, ho, hc, n, hd⟩, hz⟩
theorem Inv.sqB_inj {b : Bool} {l : Addr} {xs ys : List V} (I : Inv X pins σ H s) (h : SqB b X.K H l xs) (h' : SqB b X.K H l ys) : xs = ys := by
  cases b with
  | true => exact I.list_inj h h'
  | false => exact I.tuple_inj h h'
end
def zTn (b1 b2 : Bool) (z ti to i1 i2 l1 l2 : Addr) (i : Nat) (h : Heap) : Prop := IsZip h z ti to .none ∧ IsPair h ti (.ref i1) (.ref i2) ∧ (∃ u v, IsPair h to u v) ∧ ItAt b1 h i1 l1 i ∧ ItAt b2 h i2 l2 i
abbrev zH1 (h : Heap) (b1 : Bool) (l1 : Addr) : Heap := h.push (itO b1 l1)
abbrev zH2 (h : Heap) (b1 b2 : Bool) (l1 l2 : Addr) : Heap := (zH1 h b1 l1).push (itO b2 l2)
abbrev zH3 (h : Heap) (b1 b2 : Bool) (l1 l2 : Addr) : Heap := (zH2 h b1 b2 l1 l2).push { cls := .type "tuple", data := .seq #[.ref h.objs.size, .ref (zH1 h b1 l1).objs.size] }
abbrev zH4 (h : Heap) (b1 b2 : Bool) (l1 l2 : Addr) : Heap := (zH3 h b1 b2 l1 l2).push { cls := .type "tuple", data := .seq #[.none, .none] }
abbrev zH5 (h : Heap) (b1 b2 : Bool) (l1 l2 : Addr) : Heap := (zH4 h b1 b2 l1 l2).push { cls := .type "zip", data := .fields #[.none, .bool false, .bool false, .ref (zH2 h b1 b2 l1 l2).objs.size, .ref (zH3 h b1 b2 l1 l2).objs.size] }
theorem ObAt.push {b : Bool} {h : Heap} {l : Addr} {us : Array Value} (x : ObAt b h l us) (o : Obj) : ObAt b (h.push o) l us := x.keep fun _ e => Heap.get?_push_of_some _ e
theorem zip_new (b1 b2 : Bool) (l1 l2 : Addr) (xs ys : Array Value) :
    Meets (Builtin.«zip.__new__» ⟨[.type "zip", .ref l1, .ref l2], []⟩) (fun _ R s => ObAt b1 s.heap l1 xs ∧ ObAt b2 s.heap l2 ys ∧ R (.ok (.ret (.ref (zH4 s.heap b1 b2 l1 l2).objs.size))) { s with heap := zH5 s.heap b1 b2 l1 l2 }) :=
  .of_wp fun prog w A R s h => by
    obtain ⟨hp, g, d, tk, os⟩ := s; obtain ⟨m1, m2, q⟩ := h
    have hsub := sub_zip; have n1 : ObAt b1 (Shared.heap ⟨hp, g, d, tk, os⟩) l1 xs := m1
    have n2 : ObAt b2 (Shared.heap ⟨hp.push (itO b1 l1), g, d, tk, os⟩) l2 ys := ObAt.push m2 _
    wp_walk using iter_src n1, iter_src n2
    exact ⟨_, rfl, q⟩
theorem zip_made {prog : Program} {w : World} {A : Around} {E : Value → Shared → Prop} {s : Shared} {b1 b2 : Bool} {l1 l2 : Addr} {xs ys : Array Value} {Q : Value → Shared → Prop} (o1 : ObAt b1 s.heap l1 xs) (o2 : ObAt b2 s.heap l2 ys)
    (q : ∀ h', zTn b1 b2 (s.heap.objs.size + 4) (s.heap.objs.size + 2) (s.heap.objs.size + 3) s.heap.objs.size (s.heap.objs.size + 1) l1 l2 0 h' → (∀ c o, s.heap.get? c = some o → h'.get? c = some o) → Q (.ref (s.heap.objs.size + 4)) { s with heap := h' }) :
    wpAny (model prog w) A (call (.type "zip") [.ref l1, .ref l2]) Q E s := by
  refine callType_new F.called_zip (by decide) (F.typeCall_zip_2 _ _) (F.newCall_zip_2 _ _) (fun ob => F.args_object_init_3 ob _ _) F.entry_zip_new (zip_new b1 b2 l1 l2 xs ys) ⟨o1, o2, ?g⟩
  case g =>
  have z1 : (zH1 s.heap b1 l1).objs.size = s.heap.objs.size + 1 := Heap.size_push ..
  have z2 : (zH2 s.heap b1 b2 l1 l2).objs.size = s.heap.objs.size + 2 := by rw [Heap.size_push, z1]
  have z3 : (zH3 s.heap b1 b2 l1 l2).objs.size = s.heap.objs.size + 3 := by rw [Heap.size_push, z2]
  have z4 : (zH4 s.heap b1 b2 l1 l2).objs.size = s.heap.objs.size + 4 := by rw [Heap.size_push, z3]
  have g5 : (zH5 s.heap b1 b2 l1 l2).get? (zH4 s.heap b1 b2 l1 l2).objs.size = some _ := Heap.get?_push_size _ rfl
  have g4 : (zH5 s.heap b1 b2 l1 l2).get? (zH3 s.heap b1 b2 l1 l2).objs.size = some _ := Heap.get?_push_of_some _ (Heap.get?_push_size _ rfl)
  have g3 : (zH5 s.heap b1 b2 l1 l2).get? (zH2 s.heap b1 b2 l1 l2).objs.size = some _ := Heap.get?_push_of_some _ (Heap.get?_push_of_some _ (Heap.get?_push_size _ rfl))
  have g2 : (zH5 s.heap b1 b2 l1 l2).get? (zH1 s.heap b1 l1).objs.size = some _ := Heap.get?_push_of_some _ (Heap.get?_push_of_some _ (Heap.get?_push_of_some _ (Heap.get?_push_size _ rfl)))
  have g1 : (zH5 s.heap b1 b2 l1 l2).get? s.heap.objs.size = some _ := Heap.get?_push_of_some _ (Heap.get?_push_of_some _ (Heap.get?_push_of_some _ (Heap.get?_push_of_some _ (Heap.get?_push_size _ rfl))))
  rw [z2, z3, z4] at g5; rw [z1, z2] at g3; rw [z3] at g4; rw [z1] at g2
  show _ ∧ _
  rw [z4]
  exact ⟨⟨_, g5, rfl⟩, q _ ⟨g5, g3, ⟨_, _, g4⟩, ⟨_, g1, rfl, rfl⟩, ⟨_, g2, rfl, rfl⟩⟩ fun c o x => Heap.get?_push_of_some _ (Heap.get?_push_of_some _ (Heap.get?_push_of_some _ (Heap.get?_push_of_some _ (Heap.get?_push_of_some _ x))))⟩
theorem za_new (n : Nat) : ZA (n + 4) (n + 2) (n + 3) n (n + 1) := by
  constructor <;> (intro h; replace h : (_ : Nat) = _ := h; omega)
theorem zp_new {n l : Nat} (h : l < n) : ZP (n + 4) (n + 3) n (n + 1) l :=
  ⟨Nat.ne_of_lt (Nat.lt_of_lt_of_le h (Nat.le_add_right _ _)), Nat.ne_of_lt (Nat.lt_of_lt_of_le h (Nat.le_add_right _ _)), Nat.ne_of_lt h, Nat.ne_of_lt (Nat.lt_of_lt_of_le h (Nat.le_add_right _ _))⟩
theorem bt_zip : bootBuiltins "zip" = some (.type "zip") := by decide +kernel
structure Blt2 (mg : Str → Option Value) : Prop extends Blt mg where
  zip : mg "zip" = none
  repr : mg "repr" = none
  enumerate : mg "enumerate" = none
  reversed : mg "reversed" = none
  str : mg "str" = none
end L2
namespace L2
open PySem PySem.Spec PyProof.Rows
section
variable {prog : Program} {w : World} {A : Around} {E : Value → Shared → Prop} {s : Shared}
end
theorem pe_bmK {X : Cx} {K : PySem.W.Frag} {o e : Expr} {es : List Expr} {to : TE} {t : TA} {name : Str} {apos cpos : Pos} {T id : String} {r : V → List V → Hp → VK → Prop} (hK : X.K = K) (pa : PlainAttrs T) (slot : Slot T name id) (hty : typeOf (.builtin id) = pure (.type "method_descriptor")) (hm : MtM X id r) (ho : PE X o to) (ha : PA X (e :: es) t)
    (b1 : attributeBase o name X.env (eval o X.env) = eval o X.env := by rfl)
    (b2 : ((backTo cpos (starEach (e :: es) X.env)).all (fun x => !x.1) && (backToKw cpos (keywordEach [] X.env)).all (fun x => x.1.isSome) && decide ((e :: es).length + ([] : List Keyword).length + (if ([] : List Keyword).isEmpty then 0 else 1) < 30)) = true := by rfl)
    (b3 : (apos.endLine == cpos.line) = true := by rfl) (b4 : starEach (e :: es) X.env = (false, eval e X.env) :: starEach es X.env := by rfl) (b5 : (backTo cpos (starEach es X.env)).any (·.1) = false := by rfl) :
    PE X (.Call (.Attribute o name apos) (e :: es) [] cpos) (tBM K T r to t) := by subst hK; exact pe_bm pa slot hty hm ho ha b1 b2 b3 b4 b5
def rIsB : R2 := fun x y H Q => (∃ a b, x = .bl a ∧ y = .bl b ∧ Q (.bl (a == b)) H) ∨ (y = .non ∧ Q (.bl (decide (x = .non))) H)
def rIsnotB : R2 := fun x y H Q => (∃ a b, x = .bl a ∧ y = .bl b ∧ Q (.bl (!(a == b))) H) ∨ (y = .non ∧ Q (.bl (!decide (x = .non))) H)
theorem op_isB {X : Cx} : OpR X (compareOp .Is) rIsB := by
  refine OpR.or (fun pins s σ H x y v u Q I rx ry h => ?g) op_isN
  case g =>
  obtain ⟨a, b, rfl, rfl, q⟩ := h
  obtain rfl : v = Value.bool a := rx
  obtain rfl : u = Value.bool b := ry
  exact wpAny_is_plain (by cases a <;> cases b <;> rfl) (fin_bl I q (by cases a <;> cases b <;> rfl))
theorem op_isnotB {X : Cx} : OpR X (compareOp .IsNot) rIsnotB := by
  refine OpR.or (fun pins s σ H x y v u Q I rx ry h => ?g) op_notN
  case g =>
  obtain ⟨a, b, rfl, rfl, q⟩ := h
  obtain rfl : v = Value.bool a := rx
  obtain rfl : u = Value.bool b := ry
  exact wpAny_isNot_plain (by cases a <;> cases b <;> rfl) (fin_bl I q (by cases a <;> cases b <;> rfl))
end L2
namespace L2
open PySem PySem.Spec PyProof.Rows
end L2
namespace L2
open PySem
def natV (p : Nat) : V := .int (p : Int)
theorem natV_map (ps : List Nat) : ps.map natV = (ps.map fun p : Nat => (p : Int)).map V.int := by rw [List.map_map]; rfl
theorem iteT' {c : Bool} {A B : Prop} (e : c = true) (h : A) : if c = true then A else B := by rw [if_pos e]; exact h
theorem iteF' {c : Bool} {A B : Prop} (e : c = false) (h : B) : if c = true then A else B := by subst e; exact iteF h
theorem sqT_put {K : PySem.W.Frag} {H : Hp} {a l : Addr} {xs ys : List V} {o : HO} (h : SqT K H a xs) (hl : H l = some (.lst ys)) : SqT K (upd H l o) a xs := by
  have key : ∀ u, H a = some u → (∀ zs, u ≠ .lst zs) → upd H l o a = some u := fun u e n => by
    rw [upd_ne]
    · exact e
    · intro z
      rw [z, hl] at e
      cases e
      exact n _ rfl
  rcases h with (h | ⟨u, h⟩) | h
  · exact .inl (.inl (key _ h fun _ z => by cases z))
  · exact .inl (.inr ⟨u, key _ h fun _ z => by cases z⟩)
  · exact .inr h
theorem perm_erase {fs ls : List Nat} {k : Nat} (hk : k < ls.length) : ((fs ++ [ls[k]]) ++ ls.eraseIdx k).Perm (fs ++ ls) := by
  rw [List.append_assoc]
  refine List.Perm.append_left _ ?_
  have e : ls = ls.take k ++ ls[k] :: ls.drop (k + 1) := by simp
  have e2 : ls.eraseIdx k = ls.take k ++ ls.drop (k + 1) := List.eraseIdx_eq_take_drop_succ _ _
  rw [e2]
  refine List.Perm.trans ?_ (List.Perm.of_eq e.symm)
  show (ls[k] :: (ls.take k ++ ls.drop (k + 1))).Perm _
  exact List.perm_middle.symm
theorem map_erase {α β : Type} (f : α → β) : ∀ (l : List α) (k : Nat), (l.map f).eraseIdx k = (l.eraseIdx k).map f
  | [], _ => rfl
  | _ :: _, 0 => rfl
  | a :: l, k + 1 => by
    show f a :: (l.map f).eraseIdx k = f a :: (l.eraseIdx k).map f
    rw [map_erase f l k]
section
variable {K : PySem.W.Frag} {H : Hp}
theorem atI_end {xs : List V} {v : V} (hj : xs[xs.length - 1]? = some v) : atI xs (-1) = some v := by
  have hl : xs.length - 1 < xs.length := (List.getElem?_eq_some_iff.mp hj).1
  unfold atI ixN
  rw [if_neg (by decide), if_pos (by omega), show ((-1 : Int) + (xs.length : Int)).toNat = xs.length - 1 by omega]
  exact hj
theorem ixT_last {p : Addr} {xs : List V} {v : V} {Q : VK} (h : SqT K H p xs) (hj : xs[xs.length - 1]? = some v) (q : Q v H) : rIx2 K (.ref p) (.int (-1)) H Q := .inr ⟨p, xs, -1, v, rfl, rfl, h, atI_end hj, q⟩
end
theorem mod_nat {c : Int} {n : Nat} (h : 1 ≤ n) : ∃ k : Nat, c % (n : Int) = (k : Int) ∧ k < n := by
  have g0 := Int.emod_nonneg c (show (n : Int) ≠ 0 by omega)
  have g1 := Int.emod_lt_of_pos c (show (0 : Int) < (n : Int) by omega)
  obtain ⟨k, hk⟩ := Int.eq_ofNat_of_zero_le g0
  exact ⟨k, hk, by omega⟩
theorem getV {ps : List Nat} {i : Nat} (h : i < ps.length) : (ps.map natV)[i]? = some (natV (ps.getD i 0)) := by
  rw [List.getElem?_map, List.getD_eq_getElem?_getD, List.getElem?_eq_getElem h]
  rfl
def Rows (K : PySem.W.Frag) (H : Hp) (xs : List V) (T : List (List Int)) : Prop := xs.length = T.length ∧ ∀ (i : Nat) (row : List Int), T[i]? = some row → ∃ b, xs[i]? = some (.ref b) ∧ SqT K H b (row.map V.int)
section
variable {K : PySem.W.Frag} {H H' : Hp} {xs : List V} {T : List (List Int)}
theorem Rows.map (h : Rows K H xs T) (f : ∀ b row, SqT K H b row → SqT K H' b row) : Rows K H' xs T := ⟨h.1, fun i row e => by
  obtain ⟨b, e1, e2⟩ := h.2 i row e
  exact ⟨b, e1, f _ _ e2⟩⟩
theorem Rows.same (h : Rows K H xs T) (e : Same H H') : Rows K H' xs T := h.map fun _ _ s => e.tup s
theorem Rows.put (h : Rows K H xs T) {l : Addr} {ys : List V} {o : HO} (hl : H l = some (.lst ys)) : Rows K (upd H l o) xs T := h.map fun _ _ s => sqT_put s hl
theorem Rows.nil : Rows K H [] [] := ⟨rfl, fun i row e => by cases e⟩
theorem Rows.snoc (h : Rows K H xs T) {b : Addr} {r : List Int} (hb : SqT K H b (r.map V.int)) : Rows K H (xs ++ [.ref b]) (T ++ [r]) := by
  refine ⟨by rw [List.length_append, List.length_append, h.1]; rfl, fun i row e => ?_⟩
  by_cases hi : i < T.length
  · rw [List.getElem?_append_left hi] at e
    obtain ⟨b', e1, e2⟩ := h.2 i row e
    exact ⟨b', by rw [List.getElem?_append_left (by rw [h.1]; exact hi)]; exact e1, e2⟩
  · rw [List.getElem?_append_right (by omega)] at e
    have : i - T.length = 0 := by
      rcases hk : i - T.length with _ | k
      · rfl
      · rw [hk] at e; cases e
    rw [this] at e
    cases e
    exact ⟨b, by rw [List.getElem?_append_right (by rw [h.1]; omega), h.1, this]; rfl, hb⟩
end
end L2
namespace L2
open PySem PySem.Spec PyProof.Rows
section
variable {prog : Program} {w : World} {A : Around} {E : Value → Shared → Prop} {s : Shared}
end
theorem bt_enumerate : bootBuiltins "enumerate" = some (.type "enumerate") := by decide +kernel
end L2
namespace L2
open PySem
section
variable {X : Cx} {es : List Expr} {te : TE} {t : TA}
theorem pa_consC {c : Const} {k : Nat} {p : Pos} (ha : PE X (.Constant c k p) te) (hr : PA X es t) : PA X (.Constant c k p :: es) (tCons te t) := pa_cons ha hr
theorem pa_consN {n : Str} {p : Pos} (ha : PE X (.Name n p) te) (hr : PA X es t) : PA X (.Name n p :: es) (tCons te t) := pa_cons ha hr
theorem pa_consT {l : List Expr} {k : Nat} {p : Pos} (ha : PE X (.Tuple l k p) te) (hr : PA X es t) : PA X (.Tuple l k p :: es) (tCons te t) := pa_cons ha hr
theorem pa_consB {a b : Expr} {o : Operator} {p : Pos} (ha : PE X (.BinOp a o b p) te) (hr : PA X es t) : PA X (.BinOp a o b p :: es) (tCons te t) := pa_cons ha hr
theorem pa_consU {a : Expr} {o : UnaryOp} {p : Pos} (ha : PE X (.UnaryOp o a p) te) (hr : PA X es t) : PA X (.UnaryOp o a p :: es) (tCons te t) := pa_cons ha hr
theorem pa_consS {a b : Expr} {p : Pos} (ha : PE X (.Subscript a b p) te) (hr : PA X es t) : PA X (.Subscript a b p :: es) (tCons te t) := pa_cons ha hr
theorem pa_consK {a : Expr} {l : List Expr} {kw : List Keyword} {p : Pos} (ha : PE X (.Call a l kw p) te) (hr : PA X es t) : PA X (.Call a l kw p :: es) (tCons te t) := pa_cons ha hr
end
end L2
namespace L2
open PySem
mutual
def thin : Dt → Bool
  | .tup ds => decide (ds.length < 64) && thinL ds
  | .lst ds => thinL ds
  | _ => true
def thinL : List Dt → Bool
  | [] => true
  | d :: ds => thin d && thinL ds
end
def okM (m e : Nat) (d : Dt) : Prop := (toP d).showable = true ∧ (toP d).leavesShort 1930 = true ∧ (toP d).bulk ≤ m ∧ dep d ≤ e ∧ thin d = true
def Am (K : PySem.W.Frag) (H : Hp) (m e : Nat) (x : V) : Prop := ∃ d, Sh K H d x ∧ okM m e d
def Goo (K : PySem.W.Frag) (H : Hp) (v : V) : Prop := ∃ d, Sh K H d v ∧ okR d ∧ thin d = true
section
variable {K : PySem.W.Frag} {H H' : Hp}
theorem Am.same {m e : Nat} {x : V} (s : Same H H') : Am K H m e x → Am K H' m e x := fun ⟨d, h, o⟩ => ⟨d, h.same s, o⟩
theorem Goo.same {v : V} (s : Same H H') : Goo K H v → Goo K H' v := fun ⟨d, h, o⟩ => ⟨d, h.same s, o⟩
def Tu (K : PySem.W.Frag) (H : Hp) (m e k : Nat) (v : V) : Prop := ∃ a xs, v = .ref a ∧ SqT K H a xs ∧ xs.length ≤ k ∧ ∀ x ∈ xs, Am K H m e x
theorem Tu.same {m e k : Nat} {v : V} (s : Same H H') : Tu K H m e k v → Tu K H' m e k v := fun ⟨a, xs, h1, h2, h3, h4⟩ => ⟨a, xs, h1, s.tup h2, h3, fun x hx => (h4 x hx).same s⟩
end
theorem yMod_nat {c : Int} {n k : Nat} {H : Hp} {Q : VK} (h : 1 ≤ n) (e : c % (n : Int) = (k : Int)) (q : Q (.int (k : Int)) H) : yMod (.int c) (.int (n : Int)) H Q := ⟨_, _, rfl, rfl, by omega, by show Q (.int (c % (n : Int))) H; rw [e]; exact q⟩
end L2
namespace L2
open PySem PySem.Spec PyProof.Rows
inductive PrsAre : List (Value × Value) → List (Int × Int) → Prop
  | nil : PrsAre [] []
  | cons (a b : Int) (t u : Tok) {r : List (Value × Value)} {zs : List (Int × Int)} : PrsAre r zs → PrsAre ((.int a t, .int b u) :: r) ((a, b) :: zs)
def lexZ (f : Bool) : List (Int × Int) → Bool
  | [] => f
  | (a, b) :: r => if a = b then lexZ f r else decide (a < b)
theorem rc_lt_int {prog : Program} {w : World} {A : Around} {E : Value → Shared → Prop} {s : Shared} {a b : Int} {t u : Tok} {Q : Value → Shared → Prop} (h : Q (.bool (decide (a < b))) s) : wpAny (model prog w) A (richCompare .Lt (.int a t) (.int b u)) Q E s := lt_int h
theorem tuple_ltI (l b : Addr) (us vs : Array Value) (n n2 : Nat) (dd dd2 : Option Addr) (sl sl2 : Array (Option Value)) (zs : List (Int × Int)) (hz : PrsAre (us.toList.zip vs.toList) zs) :
    Meets (Builtin.«tuple.__lt__» ⟨[.ref l, .ref b], []⟩)
      (fun _ R s => s.heap.get? l = some { cls := .type "tuple", dict := dd, data := .seq us n, slots := sl } ∧ s.heap.get? b = some { cls := .type "tuple", dict := dd2, data := .seq vs n2, slots := sl2 } ∧ R (.ok (.ret (.bool (lexZ (decide (us.size < vs.size)) zs)))) s) :=
  .of_wp fun prog w A R s h => by
    obtain ⟨s1, s2, s3, s4, s5⟩ := s
    obtain ⟨gl, gb, h⟩ := h
    have f2 := AutoSeq1.sub_tuple_tuple
    wp_walk using AutoSeq1.wpAny_loadPart' gl, AutoSeq1.wpAny_loadPart' gb, wpAny_forIn_list _ (fun rest b s' => b.1 = none ∧ s' = ⟨s1, s2, s3, s4, s5⟩ ∧ ∃ ys, PrsAre rest ys ∧ R (.ok (.ret (.bool (lexZ (decide (us.size < vs.size)) ys)))) ⟨s1, s2, s3, s4, s5⟩) _
    case turn =>
      rintro ⟨y, x⟩ rest b s' ⟨hb', rfl, ys, hy, hR⟩
      cases hy with
      | cons p q t u hr =>
        refine wpAny_bind (wpAny_eqBool_int ?_)
        by_cases e : p = q
        · rw [show (p == q) = true by simpa using e]
          rw [lexZ, if_pos e] at hR
          wp_walk
          exact ⟨rfl, rfl, _, hr, hR⟩
        · rw [show (p == q) = false by simpa using e]
          rw [lexZ, if_neg e] at hR
          wp_walk using rc_lt_int
          exact ⟨_, rfl, hR⟩
    case fin =>
      rintro ⟨b1, b2⟩ s' ⟨hb', rfl, ys, hy, hR⟩
      simp only at hb'
      subst hb'
      cases hy
      wp_walk
      exact ⟨_, rfl, hR⟩
    case h =>
      exact ⟨rfl, rfl, zs, hz, h⟩
section
variable {prog : Program} {w : World} {A : Around} {R : Result → Shared → Prop} {It : Addr} {fp wr : List Addr} {n : Nat} {P : Nat → Value → Prop} {St : Nat → Heap → Prop}
def LtAt (prog : Program) (w : World) (A : Around) (kp : Heap → Prop) (P : Nat → Value → Prop) (bt : Nat → Nat → Bool) : Prop :=
  ∀ i j x y (s : Shared) (Q : Value → Shared → Prop) (E : Value → Shared → Prop), kp s.heap → P i x → P j y → Q (.bool (bt i j)) s → wpAny (model prog w) A (richCompare .Lt x y) Q E s
def Kp (kp : Heap → Prop) (wr : List Addr) (z : Addr) : Prop := ∀ h h', kp h → (∀ b o, b ∉ wr → b ≠ z → h.get? b = some o → h'.get? b = some o) → kp h'
theorem minL (W : Walks prog w A.in1 It fp wr n P St) (bt : Nat → Nat → Bool) {kp : Heap → Prop} (z : Addr) (hz : z ∉ fp) (kk : Kp kp wr z) (hc : LtAt prog w A.in1 kp P bt) :
    ∀ (k j : Nat) (s : Shared) (x : Value) (c : Nat), n - (j + 1) = k → j + 1 ≤ n → kp s.heap → St (j + 1) s.heap → P (argBest bt j) x → s.heap.get? z = some { cls := .type "list", dict := none, data := .seq #[x, x] c, slots := #[] } →
    (∀ v h' tk, P (argBest bt (n - 1)) v → (∀ b o, b ∉ wr → b ≠ z → s.heap.get? b = some o → h'.get? b = some o) → R (.ok (.ret v)) { s with heap := h', toks := tk }) →
    codeAny (model prog w) A (.builtin "min.loop" ⟨[.ref It, .none, .ref z], []⟩) R s := by
  have zw : z ∉ wr := fun h => hz (W.sub _ h)
  have nm : (toString "min" ++ toString ".loop" : String) = "min.loop" := by decide
  intro k
  induction k with
  | zero =>
    intro j s x c hk hj kp0 st px gz hR
    have en : j + 1 = n := by omega
    refine codeAny_builtin F.entry_min_loop ?g
    case g =>
    rw [Around.under_plainId F.plain_min_loop _]; show wpAny _ A.in1 (seqItems? (.ref z) >>= _) _ _ s; refine wpAny_bind (wpAny_seqItems gz rfl ?g)
    case g =>
    show wpAny _ A.in1 (tryCatch (pyNext (.ref It)) _ >>= _) _ _ s; refine wpAny_bind (wpAny_tryCatch (W.done s _ _ (en ▸ st) fun h' tk kh => ?g))
    case g =>
    show wpAny _ A.in1 (updateSeq z (fun _ => #[]) >>= _) _ _ _; refine wpAny_bind (wpAny_updateSeq (kh z _ zw gz) rfl (wpAny_bind (wpAny_letGo (wpAny_pure ?g))))
    case g =>
    exact hR x _ tk (by rw [← en]; exact px) fun b o bw bz e => (Heap.get?_update_other _ _ (Ne.symm bz)).trans (kh b o bw e)
  | succ k ih =>
    intro j s x c hk hj kp0 st px gz hR
    have lt : j + 1 < n := by omega
    refine codeAny_builtin F.entry_min_loop ?g
    case g =>
    rw [Around.under_plainId F.plain_min_loop _]; show wpAny _ A.in1 (seqItems? (.ref z) >>= _) _ _ s; refine wpAny_bind (wpAny_seqItems gz rfl ?g)
    case g =>
    show wpAny _ A.in1 (tryCatch (pyNext (.ref It)) _ >>= _) _ _ s; refine wpAny_bind (wpAny_tryCatch (W.item (j + 1) s _ _ lt st fun v h' tk pv st' kh => ?g))
    case g =>
    have gz' := kh z _ zw gz
    have kp1 : kp h' := kk _ _ kp0 fun b o bw _ e => kh b o bw e
    show wpAny _ A.in1 (tryCatch (holding [v, v] (richCompare .Lt v x >>= _)) _ >>= _) _ _ _; refine wpAny_bind (wpAny_tryCatch (wpAny_holding (wpAny_bind (hc (j + 1) (argBest bt j) v x _ _ _ kp1 pv px ?g))))
    case g =>
    refine wpAny_bind (wpAny_holding (wpAny_truthy_bool (wpAny_bind (wpAny_letGo (wpAny_pure ?g)))))
    case g =>
    cases hb : bt (j + 1) (argBest bt j) with
    | true =>
      simp only [if_true]; refine wpAny_bind (wpAny_updateSeq gz' rfl (wpAny_bind (wpAny_letGo ?g)))
      case g =>
      have up : ∀ b o, b ≠ z → h'.get? b = some o → (h'.update z (Obj.mapSeq fun _ => #[v, v])).get? b = some o := fun b o bz e => (Heap.get?_update_other _ _ (Ne.symm bz)).trans e
      rw [nm]; refine wpAny_pure ⟨plainId_quiet F.plain_min_loop _, ih (j + 1) _ v _ (by omega) lt (kk _ _ kp1 fun b o _ bz e => up b o bz e) (W.frame _ _ _ st' fun b bf o e => up b o (fun q => hz (by rw [← q]; exact bf)) e) (by simp only [argBest, hb, if_true]; exact pv) (Heap.get?_update_self _ gz' rfl) fun v' h2 tk2 pv' kh2 => ?g⟩
      case g =>
      exact hR v' h2 tk2 pv' fun b o bw bz e => kh2 b o bw bz (up b o bz (kh b o bw e))
    | false =>
      simp only [Bool.false_eq_true, if_false]; refine wpAny_bind (wpAny_letGo ?g)
      case g =>
      rw [nm]; refine wpAny_pure ⟨plainId_quiet F.plain_min_loop _, ih (j + 1) _ x c (by omega) lt kp1 st' (by simp only [argBest, hb, Bool.false_eq_true, if_false]; exact px) gz' fun v' h2 tk2 pv' kh2 => ?g⟩
      case g =>
      exact hR v' h2 tk2 pv' fun b o bw bz e => kh2 b o bw bz (kh b o bw e)
theorem minF (W : Walks prog w A.in1 It fp wr n P St) (bt : Nat → Nat → Bool) {kp : Heap → Prop} (z : Addr) (hz : z ∉ fp) (kk : Kp kp wr z) (hc : LtAt prog w A.in1 kp P bt) (hn : 0 < n) {s : Shared} {c : Nat} (kp0 : kp s.heap) (st : St 0 s.heap) (gz : s.heap.get? z = some { cls := .type "list", dict := none, data := .seq #[] c, slots := #[] })
    (hR : ∀ v h' tk, P (argBest bt (n - 1)) v → (∀ b o, b ∉ wr → b ≠ z → s.heap.get? b = some o → h'.get? b = some o) → R (.ok (.ret v)) { s with heap := h', toks := tk }) :
    codeAny (model prog w) A (.builtin "min.loop" ⟨[.ref It, .none, .ref z], []⟩) R s := by
  have zw : z ∉ wr := fun h => hz (W.sub _ h)
  have nm : (toString "min" ++ toString ".loop" : String) = "min.loop" := by decide
  refine codeAny_builtin F.entry_min_loop ?g
  case g =>
  rw [Around.under_plainId F.plain_min_loop _]; show wpAny _ A.in1 (seqItems? (.ref z) >>= _) _ _ s; refine wpAny_bind (wpAny_seqItems gz rfl ?g)
  case g =>
  show wpAny _ A.in1 (tryCatch (pyNext (.ref It)) _ >>= _) _ _ s; refine wpAny_bind (wpAny_tryCatch (W.item 0 s _ _ hn st fun v h' tk pv st' kh => ?g))
  case g =>
  have gz' := kh z _ zw gz
  have kp1 : kp h' := kk _ _ kp0 fun b o bw _ e => kh b o bw e
  have up : ∀ b o, b ≠ z → h'.get? b = some o → (h'.update z (Obj.mapSeq fun _ => #[v, v])).get? b = some o := fun b o bz e => (Heap.get?_update_other _ _ (Ne.symm bz)).trans e
  show wpAny _ A.in1 (updateSeq z (fun _ => #[v, v]) >>= _) _ _ _; refine wpAny_bind (wpAny_updateSeq gz' rfl ?g)
  case g =>
  rw [nm]; refine wpAny_pure ⟨plainId_quiet F.plain_min_loop _, minL W bt z hz kk hc _ 0 _ v _ rfl hn (kk _ _ kp1 fun b o _ bz e => up b o bz e) (W.frame _ _ _ st' fun b bf o e => up b o (fun q => hz (by rw [← q]; exact bf)) e) pv (Heap.get?_update_self _ gz' rfl) fun v' h2 tk2 pv' kh2 => ?g⟩
  case g =>
  exact hR v' h2 tk2 pv' fun b o bw bz e => kh2 b o bw bz (up b o bz (kh b o bw e))
end
section
variable {prog : Program} {w : World} {A : Around} {E : Value → Shared → Prop} {s : Shared}
theorem min_walkAt {x : Value} {Q : Value → Shared → Prop}
    (h : wpAny (model prog w) A.in1 (pyIter x) (fun it s₂ => ∃ It fp wr n P St bt, ∃ kp : Heap → Prop, it = .ref It ∧ Walks prog w A.in1 It fp wr n P St ∧ St 0 s₂.heap ∧ (∀ b ∈ fp, b < s₂.heap.objs.size) ∧ 0 < n ∧ kp s₂.heap ∧ (∀ z, s₂.heap.objs.size ≤ z → Kp kp wr z) ∧ LtAt prog w A.in1 kp P bt ∧
      ∀ v h' tk, P (argBest bt (n - 1)) v → (∀ b o, b ∉ wr → s₂.heap.get? b = some o → h'.get? b = some o) → Q v { s₂ with heap := h', toks := tk }) E s) :
    wpAny (model prog w) A (call (.builtin "min") [x]) Q E s := by
  have nm : (toString "min" ++ toString ".loop" : String) = "min.loop" := by decide
  refine call_function_tree F.kind_min F.plain_min F.entry_min (F.args_min1 _) ?g
  case g =>
  show wpAny _ A.in1 (Builtin.Builtins.bindParams "min" ["key", "default"] 0 ⟨[], []⟩ >>= _) _ _ s; refine wpAny_bind (wpAny_of_eq (show Builtin.Builtins.bindParams "min" ["key", "default"] 0 ⟨[], []⟩ = pure [none, none] from rfl) (wpAny_bind (wpAny_pure (wpAny_bind (wpAny_mono h (fun it s2 h2 => ?g) fun _ _ e => e)))))
  case g =>
  obtain ⟨It, fp, wr, n, P, St, bt, kp, rfl, W, st, hf, hn, kp0, kk, hc, hQ⟩ := h2
  refine wpAny_bind (wpAny_newObj_type ?g)
  case g =>
  have zf : s2.heap.objs.size ∉ fp := fun m => Nat.lt_irrefl _ (hf _ m)
  have kz := kk s2.heap.objs.size (Nat.le_refl _)
  rw [nm]; refine wpAny_pure ⟨plainId_quiet F.plain_min_loop _, minF W bt s2.heap.objs.size zf kz hc hn (kz _ _ kp0 fun b o _ _ e => Heap.get?_push_of_some _ e) (W.frame _ _ _ st fun b _ o e => Heap.get?_push_of_some _ e) (Heap.get?_push_size _ rfl) fun v h' tk pv kh => ?g⟩
  case g =>
  exact hQ v h' tk pv fun b o bw e => kh b o bw (Nat.ne_of_lt (Heap.lt_size e)) (Heap.get?_push_of_some _ e)
end
end L2
namespace L2
open PySem PySem.Spec PyProof.Rows
def lexL : List Int → List Int → Bool
  | [], [] => false
  | [], _ :: _ => true
  | _ :: _, [] => false
  | a :: r, b :: q => if a = b then lexL r q else decide (a < b)
theorem lexZ_eq : ∀ (ns ms : List Int), lexZ (decide (ns.length < ms.length)) (ns.zip ms) = lexL ns ms
  | [], [] => rfl
  | [], m :: ms => by simp [lexZ, lexL]
  | n :: ns, [] => by simp [lexZ, lexL]
  | n :: ns, m :: ms => by
    rw [List.zip_cons_cons, lexZ, lexL, ← lexZ_eq ns ms]
    have : decide ((n :: ns).length < (m :: ms).length) = decide (ns.length < ms.length) := by
      by_cases h : ns.length < ms.length <;> simp [h]
    rw [this]
theorem lexL_irr : ∀ ns : List Int, lexL ns ns = false
  | [] => rfl
  | n :: ns => by rw [lexL, if_pos rfl]; exact lexL_irr ns
theorem lexL_trans : ∀ {a b c : List Int}, lexL a b = true → lexL b c = true → lexL a c = true
  | [], [], _, h, _ => by cases h
  | [], _ :: _, [], _, h => by cases h
  | [], _ :: _, _ :: _, _, _ => rfl
  | _ :: _, [], _, h, _ => by cases h
  | _ :: _, _ :: _, [], _, h => by cases h
  | x :: a, y :: b, z :: c, h1, h2 => by
    rw [lexL] at h1 h2 ⊢
    by_cases e1 : x = y <;> by_cases e2 : y = z
    · subst e1 e2
      rw [if_pos rfl] at h1 h2 ⊢
      exact lexL_trans h1 h2
    · subst e1
      rw [if_neg e2] at h2 ⊢
      exact h2
    · subst e2
      rw [if_neg e1] at h1 ⊢
      exact h1
    · rw [if_neg e1] at h1
      rw [if_neg e2] at h2
      have g1 := of_decide_eq_true h1
      have g2 := of_decide_eq_true h2
      rw [if_neg (by omega)]
      exact decide_eq_true (by omega)
theorem argBest_min {bt : Nat → Nat → Bool} (irr : ∀ i, bt i i = false) (tr : ∀ i j k, bt i j = true → bt j k = true → bt i k = true) : ∀ k j, j ≤ k → bt j (argBest bt k) = false
  | 0, j, h => by
    obtain rfl : j = 0 := by omega
    exact irr 0
  | k + 1, j, h => by
    unfold argBest
    by_cases c : bt (k + 1) (argBest bt k) = true
    · rw [if_pos c]
      by_cases e : j = k + 1
      · subst e; exact irr _
      · refine Bool.eq_false_iff.mpr fun q => ?_
        have := argBest_min irr tr k j (by omega)
        rw [tr _ _ _ q c] at this
        cases this
    · rw [if_neg c]
      by_cases e : j = k + 1
      · subst e; simpa using c
      · exact argBest_min irr tr k j (by omega)
theorem prs_of : ∀ {ns ms : List Int} {us vs : List Value}, IntsAre us ns → IntsAre vs ms → PrsAre (us.zip vs) (ns.zip ms)
  | [], _, _, _, h, _ => by cases h; exact .nil
  | _ :: _, [], _, _, h, g => by cases g; cases h; exact .nil
  | n :: ns, m :: ms, _, _, h, g => by
    cases h with
    | cons _ t h =>
      cases g with
      | cons _ u g => exact .cons n m t u (prs_of h g)
theorem lt_tups {prog : Program} {w : World} {A : Around} {E : Value → Shared → Prop} {s : Shared} {a b : Addr} {us vs : List Value} {ns ms : List Int} {Q : Value → Shared → Prop} (hu : A.units < cLine) (ha : IsTup s.heap a us.toArray) (hb : IsTup s.heap b vs.toArray) (h1 : IntsAre us ns) (h2 : IntsAre vs ms) (q : Q (.bool (lexL ns ms)) s) :
    wpAny (model prog w) A (richCompare .Lt (.ref a) (.ref b)) Q E s := by
  obtain ⟨⟨oc, od, odt, osl⟩, e1, c1, n1, d1⟩ := ha
  obtain ⟨⟨pc, pd, pdt, psl⟩, e2, c2, n2, d2⟩ := hb
  subst c1 d1 c2 d2
  refine richCompare_meets_room (op := .Lt) ⟨_, e1, rfl⟩ ⟨_, e2, rfl⟩ F.slot_tuple_lt F.entry_tuple_lt (F.args_tuple_lt_2 _ _) (tuple_ltI a b us.toArray vs.toArray n1 n2 od pd osl psl (ns.zip ms) (prs_of h1 h2)) ⟨e1, e2, ?g⟩ hu
  case g =>
  have l1 := IntsAre.len h1
  have l2 := IntsAre.len h2
  rw [List.size_toArray, List.size_toArray, l1, l2, lexZ_eq]
  exact ⟨fun z => (by cases z), q⟩
def rMinT (K : PySem.W.Frag) : List V → Hp → VK → Prop := fun vs H Q => ∃ (a : Addr) (xs : List V) (T : List (List Int)), vs = [.ref a] ∧ Sq K H a xs ∧ Rows K H xs T ∧ T ≠ [] ∧ ∀ (i : Nat) (b : Addr) (row : List Int), xs[i]? = some (.ref b) → T[i]? = some row → SqT K H b (row.map V.int) → (∀ r ∈ T, lexL r row = false) → Q (.ref b) H
theorem call_minT {X : Cx} {k : Nat} (hr : Room k X.A) (hc : X.calm = true) : CallR X (.builtin "min") (rMinT X.K) := by
  intro pins s σ H vs us Q I r ⟨a, xs, T, e, hq, hR, hne, q⟩
  subst e
  obtain ⟨u, rfl, ru⟩ := r.one
  obtain rfl : u = Value.ref a := ru
  refine min_walkAt (seq_walk (I.ok.hd hc) I hq fun its It fp wr S s2 rv hz W st hf hI => ?g)
  case g =>
  have hl : its.length = T.length := by rw [← rv.length, hR.1]
  have hpos : 0 < T.length := List.length_pos_iff.mpr hne
  have item : ∀ (i : Nat) (v : Value), its[i]? = some v → ∃ b row, v = .ref b ∧ T[i]? = some row ∧ xs[i]? = some (.ref b) ∧ SqT X.K H b (row.map V.int) := fun i v hv => by
    obtain ⟨x, hx, rx⟩ := rv.getR hv
    have hi : i < T.length := by rw [← hR.1]; exact (List.getElem?_eq_some_iff.mp hx).1
    obtain ⟨b, e1, e2⟩ := hR.2 i _ (List.getElem?_eq_getElem hi)
    rw [e1] at hx
    cases hx
    exact ⟨b, _, rx, List.getElem?_eq_getElem hi, e1, e2⟩
  refine ⟨It, fp, wr, its.length, _, S, fun i j => lexL (T.getD i []) (T.getD j []), fun h => ∀ b o, b ∉ wr → s2.heap.get? b = some o → h.get? b = some o, rfl, W, st, hf, by omega, fun b o _ e => e, fun z hz0 h h' k1 k2 b o bw e => k2 b o bw (fun q0 => Nat.not_lt.mpr hz0 (q0 ▸ Heap.lt_size e)) (k1 b o bw e), fun i j vi vj s' Q' E' kp hi hj hQ' => ?g, fun v h' tk hv hk => ?h⟩
  case g =>
    obtain ⟨b1, r1, rfl, t1, _, q1⟩ := item i vi hi
    obtain ⟨b2, r2, rfl, t2, _, q2⟩ := item j vj hj
    have I' := hI s'.heap s'.toks kp
    obtain ⟨us1, v1, p1, _⟩ := I'.tuple q1
    obtain ⟨us2, v2, p2, _⟩ := I'.tuple q2
    refine lt_tups (ns := r1) (ms := r2) (us := us1) (vs := us2) (by have := hr.un; show X.A.units + 1 < cLine; omega) p1 p2 (intsAre_of v1) (intsAre_of v2) ?g
    case g =>
    have e1 : T.getD i [] = r1 := by rw [List.getD_eq_getElem?_getD, t1]; rfl
    have e2 : T.getD j [] = r2 := by rw [List.getD_eq_getElem?_getD, t2]; rfl
    have hQ2 : Q' (Value.bool (lexL (T.getD i []) (T.getD j []))) s' := hQ'
    rw [e1, e2] at hQ2
    exact hQ2
  case h =>
    obtain ⟨b, row, rfl, t1, e1, q1⟩ := item _ v hv
    refine ⟨.ref b, H, hI h' tk hk, rfl, q _ b row e1 t1 q1 fun r0 hr0 => ?g⟩
    case g =>
    obtain ⟨j, hj, rfl⟩ := List.getElem_of_mem hr0
    have := argBest_min (bt := fun i j => lexL (T.getD i []) (T.getD j [])) (fun i => lexL_irr _) (fun i j k => lexL_trans) (its.length - 1) j (by omega)
    have e1 : T.getD j [] = T[j] := by rw [List.getD_eq_getElem?_getD, List.getElem?_eq_getElem hj]; rfl
    have e2 : T.getD (argBest (fun i j => lexL (T.getD i []) (T.getD j [])) (its.length - 1)) [] = row := by rw [List.getD_eq_getElem?_getD, t1]; rfl
    have g : lexL (T.getD j []) (T.getD (argBest (fun i j => lexL (T.getD i []) (T.getD j [])) (its.length - 1)) []) = false := this
    rw [e1, e2] at g
    exact g
theorem call_minTK {X : Cx} {K : PySem.W.Frag} {k : Nat} (hK : X.K = K) (hr : Room k X.A) (hc : X.calm = true) : CallR X (.builtin "min") (rMinT K) := by subst hK; exact call_minT hr hc
abbrev rMinA (K : PySem.W.Frag) : List V → Hp → VK → Prop := fun vs H Q => rMin K vs H Q ∨ rMinT K vs H Q
theorem call_minAK {X : Cx} {K : PySem.W.Frag} {k : Nat} (hK : X.K = K) (hr : Room k X.A) (hc : X.calm = true) : CallR X (.builtin "min") (rMinA K) := by
  intro pins s σ H vs us Q I r h
  rcases h with h | h
  · exact call_minK hK hc pins s σ H vs us Q I r h
  · exact call_minTK hK hr hc pins s σ H vs us Q I r h
abbrev rInt1 : List V → Hp → VK → Prop := fun xs H Q => (∃ i, xs = [.int i] ∧ Q (.int i) H) ∨ ∃ k, xs = [.bl k] ∧ Q (.int (if k then 1 else 0)) H
theorem call_int1K {X : Cx} : CallR X (.type "int") rInt1 := call_int1
end L2
namespace L2
open PySem PySem.Spec PyProof.Rows
abbrev IsZp (h : Heap) (z ti to : Addr) (f0 f1 : Value) : Prop := h.get? z = some { cls := .type "zip", dict := none, data := .fields #[f0, f1, .bool false, .ref ti, .ref to], slots := #[] }
def ZF (f0 : Value) : Prop := f0 = .none ∨ ∃ a : Nat, f0 = rawInt a
section
variable {prog : Program} {w : World} {A : Around} {E : Value → Shared → Prop} {s : Shared}
theorem alive_any {a : Addr} {Q : Option Obj → Shared → Prop} (h : Q (s.heap.get? a) s) : wpAny (model prog w) A (loadIfAlive a) Q E s := by
  intro Γ p hΓ
  show Sem.wp (model prog w) Γ (.loadIfAlive a pure) _ _ p s
  rw [Sem.wp_loadIfAlive]
  exact (wpAny_pure (M := model prog w) (A := A) (E := E) h) Γ p hΓ
theorem zip_free {b1 b2 : Bool} {z ti to i1 i2 l1 l2 : Addr} {k1 k2 : Nat} {xs ys : Array Value} {x y u v f0 f1 : Value} {Q : Value → Shared → Prop} (D : ZA z ti to i1 i2) (D1 : ZP z to i1 i2 l1) (D2 : ZP z to i1 i2 l2) (hz : IsZp s.heap z ti to f0 f1) (hti : IsPair s.heap ti (.ref i1) (.ref i2)) (hto : IsPair s.heap to u v)
    (h1 : ItAt b1 s.heap i1 l1 k1) (h2 : ItAt b2 s.heap i2 l2 k2) (o1 : ObAt b1 s.heap l1 xs) (o2 : ObAt b2 s.heap l2 ys) (hx : xs[k1]? = some x) (hy : ys[k2]? = some y) (hfree : ∀ R : Bool → Shared → Prop, R true s → wpAny (model prog w) A (Builtin.SmallTypes.ownedTupleIsFree (.ref z)) R E s)
    (q : ∀ h', IsZp h' z ti to (rawInt s.heap.objs.size) (.bool false) → IsPair h' to x y → ItAt b1 h' i1 l1 (k1 + 1) → ItAt b2 h' i2 l2 (k2 + 1) → IsPair h' s.heap.objs.size x y → h'.objs.size = s.heap.objs.size + 1 → (∀ c o, ZP z to i1 i2 c → s.heap.get? c = some o → h'.get? c = some o) → Q (.ref s.heap.objs.size) { s with heap := h' }) :
    wpAny (model prog w) A (Builtin.«zip.__next__» ⟨[.ref z], []⟩) (fun fin s' => ∃ r, fin = .done (.ret r) ∧ Q r s') E s := by
  show wpAny _ _ (field (.ref z) 2 >>= _) _ _ _; refine wpAny_bind (wpAny_field hz rfl (x := .bool false) rfl ?g)
  case g =>
  show wpAny _ _ (field (.ref z) 3 >>= _) _ _ _; refine wpAny_bind (wpAny_field hz rfl (x := .ref ti) rfl (wpAny_bind (wpAny_seqItems hti rfl ?g)))
  case g =>
  show wpAny _ _ (Builtin.SmallTypes.ownedTupleIsFree (.ref z) >>= _) _ _ _; refine wpAny_bind (hfree _ ?g)
  case g =>
  simp only [if_true]; refine wpAny_bind (wpAny_rule (wpAny_bind (wpAny_field hz rfl (x := .ref to) rfl (wpAny_bind (wpAny_setField_rec hz (by simp) fun H1 z1 s1 => ?g)))))
  case g =>
  replace z1 : IsZp H1 z ti to .ellipsis f1 := z1
  refine wpAny_bind ?g
  case g =>
  simp only [List.zipIdx_cons, List.zipIdx_nil, List.forIn_cons, List.forIn_nil]; refine wpAny_bind (wpAny_bind (wpAny_onRaise ?g))
  case g =>
  show wpAny _ _ (Builtin.SmallTypes.nextOf (.ref i1) >>= _) _ _ _; refine wpAny_bind (next_src (b := b1) (h1.keep fun o e => s1.extBut _ _ D.a3 e) (o1.keep fun o e => s1.extBut _ _ D1.1 e) hx fun H2 t1 s2 => wpAny_pure ?g)
  case g =>
  have p2 : IsPair H2 to u v := s2.extBut _ _ D.a8 (s1.extBut _ _ D.a2 hto)
  refine wpAny_bind (wpAny_seqItems p2 rfl (wpAny_bind (wpAny_updateSeq_pair p2 fun H3 p3 s3 => ?g)))
  case g =>
  replace p3 : IsPair H3 to x v := p3
  refine wpAny_bind (wpAny_letGo (wpAny_pure (wpAny_bind (wpAny_bind (wpAny_onRaise ?g)))))
  case g =>
  show wpAny _ _ (Builtin.SmallTypes.nextOf (.ref i2) >>= _) _ _ _
  refine wpAny_bind (next_src (b := b2) (h2.keep fun o e => s3.extBut _ _ D.a9.symm (s2.extBut _ _ D.a10.symm (s1.extBut _ _ D.a4 e))) (o2.keep fun o e => s3.extBut _ _ D2.2.1 (s2.extBut _ _ D2.2.2.1 (s1.extBut _ _ D2.1 e))) hy fun H4 t2 s4 => wpAny_pure ?g)
  case g =>
  have p4 : IsPair H4 to x v := s4.extBut _ _ D.a9 p3
  refine wpAny_bind (wpAny_seqItems p4 rfl (wpAny_bind (wpAny_updateSeq_pair p4 fun H5 p5 s5 => ?g)))
  case g =>
  replace p5 : IsPair H5 to x y := p5
  refine wpAny_bind (wpAny_letGo (wpAny_pure (wpAny_pure (wpAny_bind (wpAny_seqItems p5 rfl (wpAny_bind (wpAny_newTuple ?g)))))))
  case g =>
  have sz : H5.objs.size = s.heap.objs.size := by rw [s5.1, s4.1, s3.1, s2.1, s1.1]
  have z5 : IsZp H5 z ti to .ellipsis f1 := s5.extBut _ _ D.a2.symm (s4.extBut _ _ D.a4.symm (s3.extBut _ _ D.a2.symm (s2.extBut _ _ D.a3.symm z1)))
  have k5 : ∀ c o, ZP z to i1 i2 c → s.heap.get? c = some o → H5.get? c = some o := fun c o n e => s5.extBut _ _ n.2.1 (s4.extBut _ _ n.2.2.2 (s3.extBut _ _ n.2.1 (s2.extBut _ _ n.2.2.1 (s1.extBut _ _ n.1 e))))
  have t15 : ItAt b1 H5 i1 l1 (k1 + 1) := t1.keep fun o e => s5.extBut _ _ D.a8.symm (s4.extBut _ _ D.a10 (s3.extBut _ _ D.a8.symm e))
  have t25 : ItAt b2 H5 i2 l2 (k2 + 1) := t2.keep fun o e => s5.extBut _ _ D.a9.symm e
  have lz : z < H5.objs.size := Heap.lt_size z5
  show wpAny _ _ (Builtin.SmallTypes.ownedTupleHandOut (.ref z) (.ref H5.objs.size) >>= _) _ _ _; unfold Builtin.SmallTypes.ownedTupleHandOut
  have z6 : IsZp (H5.push { cls := .type "tuple", data := .seq #[x, y] }) z ti to .ellipsis f1 := Heap.get?_push_of_some _ z5
  refine wpAny_bind (wpAny_bind (wpAny_setField_rec z6 (by simp) fun H7 z7 s7 => ?g))
  case g =>
  replace z7 : IsZp H7 z ti to (rawInt H5.objs.size) f1 := z7
  refine wpAny_setField_rec z7 (by simp) fun H8 z8 s8 => ?g
  case g =>
  replace z8 : IsZp H8 z ti to (rawInt H5.objs.size) (.bool false) := z8
  have up : ∀ c o, c ≠ z → H5.get? c = some o → H8.get? c = some o := fun c o n e => s8.extBut _ _ n (s7.extBut _ _ n (Heap.get?_push_of_some _ e))
  have p8 : IsPair H8 H5.objs.size x y := s8.extBut _ _ (Nat.ne_of_gt lz) (s7.extBut _ _ (Nat.ne_of_gt lz) (Heap.get?_push_size _ rfl))
  have n8 : H8.objs.size = H5.objs.size + 1 := by rw [s8.1, s7.1, Heap.size_push]
  rw [sz] at z8 p8 n8
  refine wpAny_pure ⟨_, rfl, (?g : Q (.ref H5.objs.size) _)⟩
  case g =>
  rw [sz]
  exact q H8 z8 (up _ _ D.a2 p5) (t15.keep fun o e => up _ o D.a3 e) (t25.keep fun o e => up _ o D.a4 e) p8 n8 fun c o n e => up c o n.1 (k5 c o n e)
theorem held_not {z ti to : Addr} {a : Nat} {f1 : Value} {o : Obj} {R : Bool → Shared → Prop} (hz : IsZp s.heap z ti to (rawInt a) f1) (ha : s.heap.get? a = some o) (q : ∀ H1 f1', IsZp H1 z ti to (rawInt a) f1' → H1.objs.size = s.heap.objs.size → (∀ c o, c ≠ z → s.heap.get? c = some o → H1.get? c = some o) → R false { s with heap := H1 }) : wpAny (model prog w) A (Builtin.SmallTypes.ownedTupleIsFree (.ref z)) R E s := by
  unfold Builtin.SmallTypes.ownedTupleIsFree; refine wpAny_bind (wpAny_field hz rfl (x := rawInt a) rfl ?g)
  case g =>
  show wpAny _ _ (loadIfAlive ((a : Int)).toNat >>= _) _ _ _; refine wpAny_bind (alive_any ?g)
  case g =>
  rw [Int.toNat_natCast, ha]
  show wpAny _ _ (field (.ref z) 1 >>= _) _ _ _; refine wpAny_bind (wpAny_field hz rfl (x := f1) rfl ?g)
  case g =>
  by_cases hf : (f1 != Value.bool true) = true
  · rw [if_pos hf]
    exact wpAny_bind (wpAny_setField_rec hz (by simp) fun H1 z1 s1 => wpAny_pure (q H1 _ z1 s1.1 fun c o n e => s1.extBut _ _ n e))
  · rw [if_neg hf]
    exact wpAny_pure (q s.heap f1 hz rfl fun c o _ e => e)
theorem zip_held {b1 b2 : Bool} {z ti to i1 i2 l1 l2 : Addr} {k1 k2 a : Nat} {xs ys : Array Value} {x y f1 : Value} {o : Obj} {Q : Value → Shared → Prop} (D : ZA z ti to i1 i2) (D1 : ZP z to i1 i2 l1) (D2 : ZP z to i1 i2 l2) (hz : IsZp s.heap z ti to (rawInt a) f1) (hti : IsPair s.heap ti (.ref i1) (.ref i2))
    (h1 : ItAt b1 s.heap i1 l1 k1) (h2 : ItAt b2 s.heap i2 l2 k2) (o1 : ObAt b1 s.heap l1 xs) (o2 : ObAt b2 s.heap l2 ys) (hx : xs[k1]? = some x) (hy : ys[k2]? = some y) (ha : s.heap.get? a = some o)
    (q : ∀ h' f1', IsZp h' z ti to (rawInt a) f1' → ItAt b1 h' i1 l1 (k1 + 1) → ItAt b2 h' i2 l2 (k2 + 1) → IsPair h' s.heap.objs.size x y → h'.objs.size = s.heap.objs.size + 1 → (∀ c o, c ≠ z → c ≠ i1 → c ≠ i2 → s.heap.get? c = some o → h'.get? c = some o) → Q (.ref s.heap.objs.size) { s with heap := h' }) :
    wpAny (model prog w) A (Builtin.«zip.__next__» ⟨[.ref z], []⟩) (fun fin s' => ∃ r, fin = .done (.ret r) ∧ Q r s') E s := by
  show wpAny _ _ (field (.ref z) 2 >>= _) _ _ _; refine wpAny_bind (wpAny_field hz rfl (x := .bool false) rfl ?g)
  case g =>
  show wpAny _ _ (field (.ref z) 3 >>= _) _ _ _; refine wpAny_bind (wpAny_field hz rfl (x := .ref ti) rfl (wpAny_bind (wpAny_seqItems hti rfl ?g)))
  case g =>
  show wpAny _ _ (Builtin.SmallTypes.ownedTupleIsFree (.ref z) >>= _) _ _ _; refine wpAny_bind (held_not hz ha fun H1 f1' z1 n1 kp1 => ?g)
  case g =>
  simp only [Bool.false_eq_true, if_false, ← Array.forIn_toList, List.forIn_cons, List.forIn_nil]
  refine wpAny_bind (wpAny_bind (wpAny_bind (wpAny_holding ?g)))
  case g =>
  show wpAny _ _ (Builtin.SmallTypes.nextOf (.ref i1) >>= _) _ _ _; refine wpAny_bind (next_src (b := b1) (s := { s with heap := H1 }) (h1.keep fun o e => kp1 _ _ D.a3 e) (o1.keep fun o e => kp1 _ _ D1.1 e) hx fun H2 t1 s2 => wpAny_pure (wpAny_pure ?g))
  case g =>
  refine wpAny_bind (wpAny_bind (wpAny_holding ?g))
  case g =>
  show wpAny _ _ (Builtin.SmallTypes.nextOf (.ref i2) >>= _) _ _ _; refine wpAny_bind (next_src (b := b2) (s := { s with heap := H2 }) (h2.keep fun o e => s2.extBut _ _ D.a10.symm (kp1 _ _ D.a4 e)) (o2.keep fun o e => s2.extBut _ _ D2.2.2.1 (kp1 _ _ D2.1 e)) hy fun H3 t2 s3 => wpAny_pure (wpAny_pure (wpAny_pure ?g)))
  case g =>
  show wpAny _ _ (newTuple [x, y] >>= _) _ _ _; refine wpAny_bind (wpAny_newTuple ?g)
  case g =>
  have sz : H3.objs.size = s.heap.objs.size := by rw [s3.1]; show H2.objs.size = _; rw [s2.1]; exact n1
  have z3 : IsZp H3 z ti to (rawInt a) f1' := s3.extBut _ _ D.a4.symm (s2.extBut _ _ D.a3.symm z1)
  have up : ∀ c o, H3.get? c = some o → (H3.push { cls := .type "tuple", data := .seq #[x, y] }).get? c = some o := fun c o e => Heap.get?_push_of_some _ e
  refine wpAny_pure ⟨_, rfl, (?g : Q (.ref H3.objs.size) _)⟩
  case g =>
  have pp : IsPair (H3.push { cls := .type "tuple", data := .seq #[x, y] }) H3.objs.size x y := Heap.get?_push_size _ rfl
  have nn : (H3.push { cls := .type "tuple", data := .seq #[x, y] }).objs.size = H3.objs.size + 1 := Heap.size_push ..
  rw [sz] at pp nn
  rw [sz]
  exact q _ f1' (up _ _ z3) ((t1.keep fun o e => s3.extBut _ _ D.a10 e).keep fun o e => up _ o e) (t2.keep fun o e => up _ o e) pp nn fun c o n m k e => up _ _ (s3.extBut _ _ k (s2.extBut _ _ m (kp1 c o n e)))
theorem zip_any {b1 b2 : Bool} {z ti to i1 i2 l1 l2 : Addr} {k1 k2 : Nat} {xs ys : Array Value} {x y u v f0 f1 : Value} {Q : Value → Shared → Prop} (D : ZA z ti to i1 i2) (D1 : ZP z to i1 i2 l1) (D2 : ZP z to i1 i2 l2) (hf : ZF f0) (hz : IsZp s.heap z ti to f0 f1) (hti : IsPair s.heap ti (.ref i1) (.ref i2)) (hto : IsPair s.heap to u v)
    (h1 : ItAt b1 s.heap i1 l1 k1) (h2 : ItAt b2 s.heap i2 l2 k2) (o1 : ObAt b1 s.heap l1 xs) (o2 : ObAt b2 s.heap l2 ys) (hx : xs[k1]? = some x) (hy : ys[k2]? = some y)
    (q : ∀ h' g0 g1 u' v', ZF g0 → IsZp h' z ti to g0 g1 → IsPair h' to u' v' → ItAt b1 h' i1 l1 (k1 + 1) → ItAt b2 h' i2 l2 (k2 + 1) → IsPair h' s.heap.objs.size x y → h'.objs.size = s.heap.objs.size + 1 → (∀ c o, ZP z to i1 i2 c → s.heap.get? c = some o → h'.get? c = some o) → Q (.ref s.heap.objs.size) { s with heap := h' }) :
    wpAny (model prog w) A (Builtin.«zip.__next__» ⟨[.ref z], []⟩) (fun fin s' => ∃ r, fin = .done (.ret r) ∧ Q r s') E s := by
  rcases hf with rfl | ⟨a, rfl⟩
  · refine zip_free D D1 D2 hz hti hto h1 h2 o1 o2 hx hy (fun R hR => ?g) fun h' a1 a2 a3 a4 a5 a6 a7 => q h' _ _ _ _ (.inr ⟨_, rfl⟩) a1 a2 a3 a4 a5 a6 a7
    case g =>
    unfold Builtin.SmallTypes.ownedTupleIsFree; exact wpAny_bind (wpAny_field hz rfl (x := .none) rfl (wpAny_pure hR))
  · cases ha : s.heap.get? a with
    | none =>
      refine zip_free D D1 D2 hz hti hto h1 h2 o1 o2 hx hy (fun R hR => ?g) fun h' a1 a2 a3 a4 a5 a6 a7 => q h' _ _ _ _ (.inr ⟨_, rfl⟩) a1 a2 a3 a4 a5 a6 a7
      case g =>
      unfold Builtin.SmallTypes.ownedTupleIsFree; refine wpAny_bind (wpAny_field hz rfl (x := rawInt a) rfl ?g)
      case g =>
      show wpAny _ _ (loadIfAlive ((a : Int)).toNat >>= _) _ _ _; refine wpAny_bind (alive_any ?g)
      case g =>
      rw [Int.toNat_natCast, ha]
      exact wpAny_pure hR
    | some o => exact zip_held D D1 D2 hz hti h1 h2 o1 o2 hx hy ha fun h' f1' a1 a3 a4 a5 a6 a7 => q h' _ _ _ _ (.inr ⟨_, rfl⟩) a1 (a7 _ _ D.a2 D.a8 D.a9 hto) a3 a4 a5 a6 fun c o n e => a7 c o n.1 n.2.2.1 n.2.2.2 e
theorem zip_stop {b1 : Bool} {z ti to i1 i2 l1 : Addr} {k1 : Nat} {xs : Array Value} {f0 f1 : Value} {Q : Fin → Shared → Prop} (hh : A.handled = none) (D : ZA z ti to i1 i2) (D1 : ZP z to i1 i2 l1) (hf : ZF f0) (hz : IsZp s.heap z ti to f0 f1) (hti : IsPair s.heap ti (.ref i1) (.ref i2))
    (h1 : ItAt b1 s.heap i1 l1 k1) (o1 : ObAt b1 s.heap l1 xs) (hx : xs[k1]? = none)
    (q : ∀ h' e, (∀ c o, ZP z to i1 i2 c → s.heap.get? c = some o → h'.get? c = some o) → (∃ o, h'.get? e = some o ∧ o.cls = .type "StopIteration") → E (.ref e) { s with heap := h' }) :
    wpAny (model prog w) A (Builtin.«zip.__next__» ⟨[.ref z], []⟩) Q E s := by
  have free : ∀ (_ : ∀ R : Bool → Shared → Prop, R true s → wpAny (model prog w) A (Builtin.SmallTypes.ownedTupleIsFree (.ref z)) R E s), wpAny (model prog w) A (Builtin.«zip.__next__» ⟨[.ref z], []⟩) Q E s := fun hfree => by
    show wpAny _ _ (field (.ref z) 2 >>= _) _ _ _; refine wpAny_bind (wpAny_field hz rfl (x := .bool false) rfl ?g)
    case g =>
    show wpAny _ _ (field (.ref z) 3 >>= _) _ _ _; refine wpAny_bind (wpAny_field hz rfl (x := .ref ti) rfl (wpAny_bind (wpAny_seqItems hti rfl ?g)))
    case g =>
    show wpAny _ _ (Builtin.SmallTypes.ownedTupleIsFree (.ref z) >>= _) _ _ _; refine wpAny_bind (hfree _ ?g)
    case g =>
    simp only [if_true]; refine wpAny_bind (wpAny_rule (wpAny_bind (wpAny_field hz rfl (x := .ref to) rfl (wpAny_bind (wpAny_setField_rec hz (by simp) fun H1 z1 s1 => ?g)))))
    case g =>
    replace z1 : IsZp H1 z ti to .ellipsis f1 := z1
    refine wpAny_bind ?g
    case g =>
    simp only [List.zipIdx_cons, List.zipIdx_nil, List.forIn_cons, List.forIn_nil]; refine wpAny_bind (wpAny_bind (wpAny_onRaise ?g))
    case g =>
    show wpAny _ _ (Builtin.SmallTypes.nextOf (.ref i1) >>= _) _ _ _
    refine wpAny_bind (end_src (b := b1) hh (h1.keep fun o e => s1.extBut _ _ D.a3 e) (o1.keep fun o e => s1.extBut _ _ D1.1 e) hx fun H2 e s2 ⟨oe, e1, e2⟩ => ?g)
    case g =>
    have z2 : IsZp H2 z ti to .ellipsis f1 := s2 _ _ D.a3.symm z1
    have ne : e ≠ z := fun x => by subst x; rw [z2] at e1; cases e1; simp at e2
    exact wpAny_setField_rec z2 (by simp) fun H3 _ s3 => q H3 e (fun c o n x => s3.extBut _ _ n.1 (s2 _ _ n.2.2.1 (s1.extBut _ _ n.1 x))) ⟨oe, s3.extBut _ _ ne e1, e2⟩
  rcases hf with rfl | ⟨a, rfl⟩
  · refine free fun R hR => ?g
    case g =>
    unfold Builtin.SmallTypes.ownedTupleIsFree; exact wpAny_bind (wpAny_field hz rfl (x := .none) rfl (wpAny_pure hR))
  · cases ha : s.heap.get? a with
    | none =>
      refine free fun R hR => ?g
      case g =>
      unfold Builtin.SmallTypes.ownedTupleIsFree; refine wpAny_bind (wpAny_field hz rfl (x := rawInt a) rfl ?g)
      case g =>
      show wpAny _ _ (loadIfAlive ((a : Int)).toNat >>= _) _ _ _; refine wpAny_bind (alive_any ?g)
      case g =>
      rw [Int.toNat_natCast, ha]
      exact wpAny_pure hR
    | some o =>
      show wpAny _ _ (field (.ref z) 2 >>= _) _ _ _; refine wpAny_bind (wpAny_field hz rfl (x := .bool false) rfl ?g)
      case g =>
      show wpAny _ _ (field (.ref z) 3 >>= _) _ _ _; refine wpAny_bind (wpAny_field hz rfl (x := .ref ti) rfl (wpAny_bind (wpAny_seqItems hti rfl ?g)))
      case g =>
      show wpAny _ _ (Builtin.SmallTypes.ownedTupleIsFree (.ref z) >>= _) _ _ _; refine wpAny_bind (held_not hz ha fun H1 f1' z1 n1 kp1 => ?g)
      case g =>
      simp only [Bool.false_eq_true, if_false, ← Array.forIn_toList, List.forIn_cons, List.forIn_nil]
      refine wpAny_bind (wpAny_bind (wpAny_bind (wpAny_holding ?g)))
      case g =>
      show wpAny _ _ (Builtin.SmallTypes.nextOf (.ref i1) >>= _) _ _ _
      exact wpAny_bind (end_src (b := b1) (s := { s with heap := H1 }) hh (h1.keep fun o e => kp1 _ _ D.a3 e) (o1.keep fun o e => kp1 _ _ D1.1 e) hx fun H2 e s2 he => q H2 e (fun c o n x => s2 _ _ n.2.2.1 (kp1 c o n.1 x)) he)
end
def zSt (b1 b2 : Bool) (z ti to i1 i2 l1 l2 : Addr) (i : Nat) (h : Heap) : Prop := (∃ f0 f1, ZF f0 ∧ IsZp h z ti to f0 f1) ∧ IsPair h ti (.ref i1) (.ref i2) ∧ (∃ u v, IsPair h to u v) ∧ ItAt b1 h i1 l1 i ∧ ItAt b2 h i2 l2 i
structure EZ (e z ti to i1 i2 : Addr) : Prop where
  a1 : e ≠ z
  a2 : e ≠ ti
  a3 : e ≠ to
  a4 : e ≠ i1
  a5 : e ≠ i2
section
variable {prog : Program} {w : World} {A : Around} {E : Value → Shared → Prop} {s : Shared}
theorem enumZ_item {b1 b2 : Bool} {e z ti to i1 i2 l1 l2 : Addr} {k : Nat} {xs ys : Array Value} {x y u : Value} {Q : Value → Shared → Prop} (W : EZ e z ti to i1 i2) (D : ZA z ti to i1 i2) (D1 : ZP z to i1 i2 l1) (D2 : ZP z to i1 i2 l2) (he : IsEnum s.heap e z k u) (hz : zSt b1 b2 z ti to i1 i2 l1 l2 k s.heap) (o1 : ObAt b1 s.heap l1 xs) (o2 : ObAt b2 s.heap l2 ys) (hx : xs[k]? = some x) (hy : ys[k]? = some y)
    (q : ∀ h', IsEnumOut h' e z ((k : Int) + 1) (.ref s.heap.objs.size) (s.heap.objs.size + 1) → zSt b1 b2 z ti to i1 i2 l1 l2 (k + 1) h' → IsPair h' s.heap.objs.size x y → IsPair h' (s.heap.objs.size + 1) (.int k s.toks) (.ref s.heap.objs.size) → (∀ c o, c ≠ e → ZP z to i1 i2 c → s.heap.get? c = some o → h'.get? c = some o) → Q (.ref (s.heap.objs.size + 1)) { s with heap := h', toks := s.toks + 1 }) :
    wpAny (model prog w) A (Builtin.«enumerate.__next__» ⟨[.ref e], []⟩) (fun fin s' => ∃ r, fin = .done (.ret r) ∧ Q r s') E s := by
  obtain ⟨⟨f0, f1, hf, hzz⟩, hti, ⟨u0, v0, hto⟩, h1, h2⟩ := hz
  have hT : s.TypeIs (.ref z) "zip" := ⟨_, hzz, rfl⟩
  show wpAny _ _ (field (.ref e) 2 >>= _) _ _ _; refine wpAny_bind (wpAny_field he rfl (x := .ref z) rfl (wpAny_bind ?g))
  case g =>
  unfold Builtin.SmallTypes.nextOf; refine wpAny_bind (wpAny_callSpecial?_slot (name := Str.ofString "__next__") hT F.slot_zip_next (wpAny_call_entry F.slot_zip_next hT F.entry_zip_next (zip_any D D1 D2 hf hzz hti hto h1 h2 o1 o2 hx hy fun H1 g0 g1 u' v' gf z1 p1 t1 t2 pr n1 kp1 => wpAny_pure ?g) (F.args_zip_next_1 _)))
  case g =>
  have ze : ZP z to i1 i2 e := ⟨W.a1, W.a3, W.a4, W.a5⟩
  have zt : ZP z to i1 i2 ti := ⟨D.a1, D.a5, D.a6, D.a7⟩
  have e1 : IsEnum H1 e z k u := kp1 _ _ ze he
  show wpAny _ _ (field (.ref e) 3 >>= _) _ _ _; refine wpAny_bind (wpAny_field e1 rfl (x := rawInt k) rfl ?g)
  case g =>
  show wpAny _ _ (field (.ref e) 4 >>= _) _ _ _; refine wpAny_bind (wpAny_field e1 rfl (x := .none) rfl ?g)
  case g =>
  show wpAny _ _ (mkInt k >>= _) _ _ _; refine wpAny_bind (wpAny_mkInt ?g)
  case g =>
  show wpAny _ _ (setField (.ref e) 3 (rawInt ((k : Int) + 1)) >>= _) _ _ _; refine wpAny_bind (wpAny_setField_rec e1 (by simp) fun H2 z2 s2 => ?g)
  case g =>
  replace z2 : IsEnum H2 e z ((k : Int) + 1) u := z2
  show wpAny _ _ (setField (.ref e) 4 .none >>= _) _ _ _; refine wpAny_bind (wpAny_setField_rec z2 (by simp) fun H3 z3 s3 => ?g)
  case g =>
  replace z3 : IsEnum H3 e z ((k : Int) + 1) u := z3
  show wpAny _ _ (newTuple [.int k s.toks, .ref s.heap.objs.size] >>= _) _ _ _; refine wpAny_bind (wpAny_newTuple ?g)
  case g =>
  have sz : H3.objs.size = s.heap.objs.size + 1 := by rw [s3.1, s2.1]; exact n1
  have z4 : IsEnum (H3.push { cls := .type "tuple", data := .seq #[.int k s.toks, .ref s.heap.objs.size] }) e z ((k : Int) + 1) u := Heap.get?_push_of_some _ z3
  have lz : e < H3.objs.size := Heap.lt_size z3
  show wpAny _ _ (Builtin.SmallTypes.ownedTupleIsFree (.ref e) >>= _) _ _ _; unfold Builtin.SmallTypes.ownedTupleIsFree; refine wpAny_bind (wpAny_bind (wpAny_field z4 rfl (x := .none) rfl (wpAny_pure ?g)))
  case g =>
  simp only [if_true]; refine wpAny_bind (wpAny_rule (wpAny_bind (wpAny_field z4 rfl (x := u) rfl (wpAny_bind (wpAny_setField_rec z4 (by simp) fun H5 z5 s5 => ?g)))))
  case g =>
  replace z5 : IsEnum H5 e z ((k : Int) + 1) (.ref s.heap.objs.size) := z5
  show wpAny _ _ (Builtin.SmallTypes.ownedTupleHandOut (.ref e) (.ref H3.objs.size) >>= _) _ _ _; unfold Builtin.SmallTypes.ownedTupleHandOut; refine wpAny_bind (wpAny_bind (wpAny_setField_rec z5 (by simp) fun H6 z6 s6 => ?g))
  case g =>
  replace z6 : IsEnumOut H6 e z ((k : Int) + 1) (.ref s.heap.objs.size) H3.objs.size := z6
  refine wpAny_setField_rec z6 (by simp) fun H7 z7 s7 => ?g
  case g =>
  replace z7 : IsEnumOut H7 e z ((k : Int) + 1) (.ref s.heap.objs.size) H3.objs.size := z7
  have up : ∀ c o, c ≠ e → H3.get? c = some o → H7.get? c = some o := fun c o n q => s7.extBut _ _ n (s6.extBut _ _ n (s5.extBut _ _ n (Heap.get?_push_of_some _ q)))
  have up1 : ∀ c o, c ≠ e → H1.get? c = some o → H7.get? c = some o := fun c o n q => up c o n (s3.extBut _ _ n (s2.extBut _ _ n q))
  have p7 : IsPair H7 H3.objs.size (.int k s.toks) (.ref s.heap.objs.size) := s7.extBut _ _ (Nat.ne_of_gt lz) (s6.extBut _ _ (Nat.ne_of_gt lz) (s5.extBut _ _ (Nat.ne_of_gt lz) (Heap.get?_push_size _ rfl)))
  have el : e < s.heap.objs.size := Heap.lt_size he
  rw [sz] at z7 p7
  refine wpAny_bind (wpAny_letGo (wpAny_pure ⟨_, rfl, (?g : Q (.ref H3.objs.size) _)⟩))
  case g =>
  rw [sz]
  exact q H7 z7 ⟨⟨g0, g1, gf, up1 _ _ W.a1.symm z1⟩, up1 _ _ W.a2.symm (kp1 _ _ zt hti), ⟨_, _, up1 _ _ W.a3.symm p1⟩, t1.keep fun o q => up1 _ o W.a4.symm q, t2.keep fun o q => up1 _ o W.a5.symm q⟩ (up1 _ _ (Nat.ne_of_gt el) pr) p7 fun c o n m q => up1 c o n (kp1 c o m q)
theorem enumZ_end {b1 b2 : Bool} {e z ti to i1 i2 l1 l2 : Addr} {k : Nat} {xs : Array Value} {u : Value} {Q : Fin → Shared → Prop} (hh : A.handled = none) (D : ZA z ti to i1 i2) (D1 : ZP z to i1 i2 l1) (he : IsEnum s.heap e z k u) (hz : zSt b1 b2 z ti to i1 i2 l1 l2 k s.heap) (o1 : ObAt b1 s.heap l1 xs) (hx : xs[k]? = none)
    (q : ∀ h' x, (∀ c o, ZP z to i1 i2 c → s.heap.get? c = some o → h'.get? c = some o) → (∃ o, h'.get? x = some o ∧ o.cls = .type "StopIteration") → E (.ref x) { s with heap := h' }) :
    wpAny (model prog w) A (Builtin.«enumerate.__next__» ⟨[.ref e], []⟩) Q E s := by
  obtain ⟨⟨f0, f1, hf, hzz⟩, hti, ⟨u0, v0, hto⟩, h1, h2⟩ := hz
  have hT : s.TypeIs (.ref z) "zip" := ⟨_, hzz, rfl⟩
  show wpAny _ _ (field (.ref e) 2 >>= _) _ _ _; refine wpAny_bind (wpAny_field he rfl (x := .ref z) rfl (wpAny_bind ?g))
  case g =>
  unfold Builtin.SmallTypes.nextOf; exact wpAny_bind (wpAny_callSpecial?_slot (name := Str.ofString "__next__") hT F.slot_zip_next (wpAny_call_entry F.slot_zip_next hT F.entry_zip_next (zip_stop hh D D1 hf hzz hti h1 o1 hx q) (F.args_zip_next_1 _)))
end
end L2
namespace L2
open PySem PySem.Spec PyProof.Rows
def Iez (K : PySem.W.Frag) (b1 b2 : Bool) (l1 l2 : Addr) : It :=
  ⟨fun i H => ∃ xs ys x y, SqB b1 K H l1 xs ∧ SqB b2 K H l2 ys ∧ xs[i]? = some x ∧ ys[i]? = some y,
   fun i H v H' => ∃ p1 p2 x y, v = .ref p2 ∧ H p1 = none ∧ upd H p1 (.tup [x, y]) p2 = none ∧ H' = upd (upd H p1 (.tup [x, y])) p2 (.tup [.int (i : Int), .ref p1]) ∧ (∀ xs, SqB b1 K H l1 xs → xs[i]? = some x) ∧ ∀ ys, SqB b2 K H l2 ys → ys[i]? = some y,
   fun i H => ∃ xs, SqB b1 K H l1 xs ∧ xs.length ≤ i⟩
def ezTn (b1 b2 : Bool) (e z ti to i1 i2 l1 l2 : Addr) (i : Nat) (h : Heap) : Prop := (∃ u, IsEnum h e z i u) ∧ zSt b1 b2 z ti to i1 i2 l1 l2 i h
theorem turn_ez {P : Program} {w : World} {K : PySem.W.Frag} {es : List Expr} {k : Nat} {pos : Pos} {b1 b2 : Bool} {e z ti to i1 i2 l1 l2 : Addr} (W : EZ e z ti to i1 i2) (D : ZA z ti to i1 i2) (D1 : ZP z to i1 i2 l1) (D2 : ZP z to i1 i2 l2) (D3 : l1 ≠ e ∧ l2 ≠ e) :
    Turn P w K (.Tuple es k pos) (Iez K b1 b2 l1 l2) [e, z, ti, to, i1, i2] e (ezTn b1 b2 e z ti to i1 i2 l1 l2) where
  mem := by simp
  obj := fun i h ⟨⟨u0, h0⟩, ⟨f0, f1, _, h1⟩, h2, ⟨u, v, h3⟩, ⟨o4, h4, _, d4⟩, ⟨o5, h5, _, d5⟩⟩ b hb => by
    simp only [List.mem_cons, List.not_mem_nil, or_false] at hb
    rcases hb with rfl | rfl | rfl | rfl | rfl | rfl
    · exact ⟨_, h0, fun v q => by cases q⟩
    · exact ⟨_, h1, fun v q => by cases q⟩
    · exact ⟨_, h2, fun v q => by cases q⟩
    · exact ⟨_, h3, fun v q => by cases q⟩
    · exact ⟨_, h4, fun v q => by rw [d4] at q; cases q⟩
    · exact ⟨_, h5, fun v q => by rw [d5] at q; cases q⟩
  keep := fun i h h' ⟨⟨u0, h0⟩, ⟨f0, f1, hf, h1⟩, h2, ⟨u, v, h3⟩, h4, h5⟩ kp => ⟨⟨u0, kp e (by simp) _ h0⟩, ⟨f0, f1, hf, kp z (by simp) _ h1⟩, kp ti (by simp) _ h2, ⟨u, v, kp to (by simp) _ h3⟩, h4.keep fun o q => kp i1 (by simp) o q, h5.keep fun o q => kp i2 (by simp) o q⟩
  item := by
    intro X hP hw hK hc i pins s σ H E I hf st hg
    subst hP hw hK
    obtain ⟨⟨u0, h0⟩, hz⟩ := st
    obtain ⟨xs, ys, x, y, q1, q2, hx, hy⟩ := hg
    obtain ⟨us, r1, o1, z1⟩ := I.obAt q1
    obtain ⟨vs, r2, o2, z2⟩ := I.obAt q2
    obtain ⟨ux, hux, rx⟩ := r1.get hx
    obtain ⟨uy, huy, ry⟩ := r2.get hy
    have hT : s.TypeIs (.ref e) "enumerate" := ⟨_, h0, rfl⟩
    unfold pyNext
    refine wpAny_bind (wpAny_attempt (wpAny_callSpecial?_slot (name := Str.ofString "__next__") hT F.slot_enumerate_next (wpAny_call_entry F.slot_enumerate_next hT F.entry_enumerate_next (enumZ_item W D D1 D2 h0 hz o1 o2 (by simpa using hux) (by simpa using huy) fun h' g1 g2 g3 g4 kp => wpAny_pure ⟨_, rfl, ?g⟩) (F.args_enumerate_next_1 _))))
    case g =>
    refine wpAny_letOwnedTupleGo_enum (s := { s with heap := h', toks := s.toks + 1 }) g1 fun h2' g1' sb => ?g
    case g =>
    obtain ⟨⟨f0, f1, zf, hzz⟩, hti, ⟨u', v', hto⟩, hi1, hi2⟩ := id hz
    have lt : ∀ b ∈ [e, z, ti, to, i1, i2], b < s.heap.objs.size := fun b hb => by
      simp only [List.mem_cons, List.not_mem_nil, or_false] at hb
      rcases hb with rfl | rfl | rfl | rfl | rfl | rfl
      · exact Heap.lt_size h0
      · exact Heap.lt_size hzz
      · exact Heap.lt_size hti
      · exact Heap.lt_size hto
      · exact hi1.lt
      · exact hi2.lt
    have kb : ∀ c o, c ∉ [e, z, ti, to, i1, i2] → s.heap.get? c = some o → h'.get? c = some o := fun c o n q => kp c o (fun w => n (by simp [w])) ⟨fun w => n (by simp [w]), fun w => n (by simp [w]), fun w => n (by simp [w]), fun w => n (by simp [w])⟩ q
    have hn : H s.heap.objs.size = none := I.hok.fresh (Nat.le_refl _)
    have ea : (s.heap.push { cls := .type "tuple", data := .seq #[ux, uy] }).objs.size = s.heap.objs.size + 1 := Heap.size_push ..
    have I1 : Inv X pins σ (upd H s.heap.objs.size (.tup [x, y])) { s with heap := s.heap.push { cls := .type "tuple", data := .seq #[ux, uy] } } :=
      I.laid (t' := s.toks) (fun b o q => Heap.get?_push_of_some _ q) (Nat.le_refl _) (show ObjOk X.prog X.w _ _ _ (.tup [x, y]) from ⟨show 2 ≤ sizeLine by decide, [ux, uy], .cons rx (.cons ry .nil), TupN.new _ _⟩)
    have hn2 : upd H s.heap.objs.size (.tup [x, y]) (s.heap.objs.size + 1) = none := by
      have := I1.hok.fresh (Nat.le_refl _)
      rw [ea] at this
      exact this
    have I2 : Inv X pins σ (upd (upd H s.heap.objs.size (.tup [x, y])) (s.heap.objs.size + 1) (.tup [.int (i : Int), .ref s.heap.objs.size])) { s with heap := (s.heap.push { cls := .type "tuple", data := .seq #[ux, uy] }).push { cls := .type "tuple", data := .seq #[.int i s.toks, .ref s.heap.objs.size] }, toks := s.toks + 1 } := by
      have := I1.laid (t' := s.toks + 1) (a := (s.heap.push { cls := .type "tuple", data := .seq #[ux, uy] }).objs.size) (o := .tup [.int (i : Int), .ref s.heap.objs.size]) (h' := (s.heap.push { cls := .type "tuple", data := .seq #[ux, uy] }).push { cls := .type "tuple", data := .seq #[.int i s.toks, .ref s.heap.objs.size] }) (fun b o q => Heap.get?_push_of_some _ q) (Nat.le_refl _) (show ObjOk X.prog X.w _ _ _ (.tup [.int (i : Int), .ref s.heap.objs.size]) from ⟨show 2 ≤ sizeLine by decide, [.int i s.toks, .ref s.heap.objs.size], .cons ⟨_, rfl⟩ (.cons rfl .nil), TupN.new _ _⟩)
      rw [ea] at this
      exact this
    have hf1 : ∀ b ∈ [e, z, ti, to, i1, i2], FpOk X pins (upd (upd H s.heap.objs.size (.tup [x, y])) (s.heap.objs.size + 1) (.tup [.int (i : Int), .ref s.heap.objs.size])) b := fun b hb => by
      obtain ⟨f0, f⟩ := hf b hb
      have := lt b hb
      exact ⟨by rw [upd_ne (Nat.ne_of_lt (Nat.lt_succ_of_lt this)), upd_ne (Nat.ne_of_lt this)]; exact f0, f⟩
    have I3 : Inv X pins σ (upd (upd H s.heap.objs.size (.tup [x, y])) (s.heap.objs.size + 1) (.tup [.int (i : Int), .ref s.heap.objs.size])) { s with heap := h', toks := s.toks + 1 } := I2.turnedL (t' := s.toks + 1) hf1 fun b o nb q => by
      rcases Heap.get?_push_cases q with ⟨eb, eo⟩ | q
      · subst eb; subst eo
        rw [ea]
        exact g4
      · rcases Heap.get?_push_cases q with ⟨eb, eo⟩ | q
        · subst eb; subst eo
          exact g3
        · exact kb b o nb q
    have I4 : Inv X pins σ (upd (upd H s.heap.objs.size (.tup [x, y])) (s.heap.objs.size + 1) (.tup [.int (i : Int), .ref s.heap.objs.size])) { s with heap := h2', toks := s.toks + 1 } := I3.turnedL (t' := s.toks + 1) hf1 fun b o nb q => sb.extBut _ _ (fun w => nb (by simp [w])) q
    obtain ⟨⟨f0', f1', zf', hzz'⟩, hti', ⟨u2, v2, hto'⟩, hi1', hi2'⟩ := g2
    exact ⟨.ref (s.heap.objs.size + 1), _, I4, rfl, ⟨_, _, x, y, rfl, hn, hn2, rfl, fun xs' q => by rw [I.sqB_inj q q1]; exact hx, fun ys' q => by rw [I.sqB_inj q q2]; exact hy⟩,
      ⟨⟨_, by simpa using g1'⟩, ⟨f0', f1', zf', sb.extBut _ _ W.a1.symm hzz'⟩, sb.extBut _ _ W.a2.symm hti', ⟨_, _, sb.extBut _ _ W.a3.symm hto'⟩, hi1'.keep fun o q => sb.extBut _ _ W.a4.symm q, hi2'.keep fun o q => sb.extBut _ _ W.a5.symm q⟩, fun b hb => (hf1 b hb).1⟩
  done := by
    intro X hP hw hK hc i pins s σ H E I hf st hg
    subst hP hw hK
    obtain ⟨⟨u0, h0⟩, hz⟩ := st
    obtain ⟨xs, q1, hl⟩ := hg
    obtain ⟨us, r1, o1, z1⟩ := I.obAt q1
    have l1' := r1.length
    have hT : s.TypeIs (.ref e) "enumerate" := ⟨_, h0, rfl⟩
    unfold pyNext
    refine wpAny_bind (wpAny_attempt (wpAny_callSpecial?_slot (name := Str.ofString "__next__") hT F.slot_enumerate_next (wpAny_call_entry F.slot_enumerate_next hT F.entry_enumerate_next (enumZ_end (I.ok.hd hc) D D1 h0 hz o1 (by simp; omega) fun h' x kp ⟨o, e1, e2⟩ => ?g) (F.args_enumerate_next_1 _))))
    case g =>
    refine wpAny_bind (wpAny_isInstance (T := "StopIteration") (b := true) ⟨o, e1, e2⟩ isSubtype_stop (wpAny_pure ⟨rfl, ?g⟩))
    case g =>
    exact I.turnedL (t' := s.toks) hf fun c o n q => kp c o ⟨fun w => n (by simp [w]), fun w => n (by simp [w]), fun w => n (by simp [w]), fun w => n (by simp [w])⟩ q
  self := fun _ _ _ _ _ st q => let ⟨⟨_, h0⟩, _⟩ := st; wpAny_pyIter_enum h0 q
abbrev enO (z : Addr) : Obj := { cls := .type "enumerate", data := .fields #[.none, .bool false, .ref z, rawInt 0, .none, .none] }
theorem enumZ_new (z ti to : Addr) :
    Meets (Builtin.«enumerate.__new__» ⟨[.type "enumerate", .ref z], []⟩) (fun _ R s => IsZip s.heap z ti to .none ∧ R (.ok (.ret (.ref s.heap.objs.size))) { s with heap := s.heap.push (enO z) }) :=
  .of_wp fun prog w A R s h => by
    obtain ⟨s1, s2, s3, s4, s5⟩ := s
    obtain ⟨m0, q⟩ := h
    have hsub := sub_enumerate
    have n1 : IsZip (Shared.heap ⟨s1, s2, s3, s4, s5⟩) z ti to .none := m0
    wp_walk using AutoSeq1.wpAny_loadPart' m0
    refine wpAny_stack_any fun st => wpAny_pure ?_
    split
    · rename_i cc _ _ _ _ _
      cases (cc == Value.type "enumerate") <;>
      · wp_walk using AutoSeq1.wpAny_loadPart' m0, wpAny_pyIter_zip n1
        exact ⟨_, rfl, q⟩
    · wp_walk using AutoSeq1.wpAny_loadPart' m0, wpAny_pyIter_zip n1
      exact ⟨_, rfl, q⟩
theorem enumZ_made {prog : Program} {w : World} {A : Around} {E : Value → Shared → Prop} {s : Shared} {b1 b2 : Bool} {z ti to i1 i2 l1 l2 : Addr} {Q : Value → Shared → Prop} (hz : zTn b1 b2 z ti to i1 i2 l1 l2 0 s.heap)
    (q : ∀ h', ezTn b1 b2 s.heap.objs.size z ti to i1 i2 l1 l2 0 h' → (∀ c o, s.heap.get? c = some o → h'.get? c = some o) → Q (.ref s.heap.objs.size) { s with heap := h' }) :
    wpAny (model prog w) A (call (.type "enumerate") [.ref z]) Q E s := by
  refine callType_new F.called_enumerate (by decide) (F.typeCall_enumerate_1 _) (F.newCall_enumerate_1 _) (fun ob => F.args_object_init_2 ob _) F.entry_enumerate_new (enumZ_new z ti to) ⟨hz.1, ?g⟩
  case g =>
  obtain ⟨h1, h2, ⟨u, v, h3⟩, h4, h5⟩ := hz
  have up : ∀ c o, s.heap.get? c = some o → (s.heap.push (enO z)).get? c = some o := fun c o x => Heap.get?_push_of_some _ x
  have g0 : (s.heap.push (enO z)).get? s.heap.objs.size = some _ := Heap.get?_push_size _ rfl
  exact ⟨⟨_, g0, rfl⟩, q _ ⟨⟨_, g0⟩, ⟨_, _, .inl rfl, up _ _ h1⟩, up _ _ h2, ⟨u, v, up _ _ h3⟩, h4.keep fun o x => up _ o x, h5.keep fun o x => up _ o x⟩ up⟩
def iEz (K : PySem.W.Frag) (ta : TA) : TI := fun σ H R => ta σ H fun vs H1 => ∃ l1 l2 b1 b2, vs = [.ref l1, .ref l2] ∧ (∃ xs, SqB b1 K H1 l1 xs) ∧ (∃ ys, SqB b2 K H1 l2 ys) ∧ R (Iez K b1 b2 l1 l2) H1
theorem pi_ez {X : Cx} {es : List Expr} {k : Nat} {po : Pos} {a b : Expr} {ta : TA} {p1 p2 pos pos2 : Pos} (hg : Gl X "enumerate") (hm : X.mg "enumerate" = none) (hgz : Gl X "zip") (hmz : X.mg "zip" = none) (ha : PA X [a, b] ta) (hs : starEach [a, b] X.env = [(false, eval a X.env), (false, eval b X.env)] := by rfl) (hs2 : starEach [b] X.env = [(false, eval b X.env)] := by rfl)
    (he : starEach [.Call (.Name "zip" p2) [a, b] [] pos2] X.env = [(false, eval (.Call (.Name "zip" p2) [a, b] [] pos2) X.env)] := by rfl) :
    PI X (.Tuple es k po) (.Call (.Name "enumerate" p1) [.Call (.Name "zip" p2) [a, b] [] pos2] [] pos) (iEz X.K ta) := by
  intro pins s σ H R I h
  refine Call_ (ld_blt I hg hm bt_enumerate (PyProof.Rows.callWith_type1 ?g he rfl))
  case g =>
  rw [he]
  show wpAny _ _ (spliced ((false, eval (.Call (.Name "zip" p2) [a, b] [] pos2) X.env) :: backTo pos [])) _ _ s
  refine Calls.spliced_cons (Call_ (ld_blt I hgz hmz bt_zip (PyProof.Rows.callWith_type1 (thn (ha pos2 pins s σ H _ I h) fun us s1 ⟨vs, H1, I1, r1, q1⟩ => ?g) (by rw [hs, hs2]) (by rw [hs2]; rfl))))
  case g =>
  obtain ⟨l1, l2, b1, b2, e, ⟨xs, q2⟩, ⟨ys, q3⟩, q⟩ := q1
  subst e
  obtain ⟨u1, u2, rfl, e1, e2⟩ := vals2 r1
  obtain rfl : u1 = Value.ref l1 := e1
  obtain rfl : u2 = Value.ref l2 := e2
  obtain ⟨x1, v1, o1, _⟩ := I1.obAt q2
  obtain ⟨x2, v2, o2, _⟩ := I1.obAt q3
  have a1 : l1 < s1.heap.objs.size := let ⟨_, e, _⟩ := o1; Heap.lt_size e
  have a2 : l2 < s1.heap.objs.size := let ⟨_, e, _⟩ := o2; Heap.lt_size e
  refine zip_made o1 o2 fun h' zt kp => Calls.spliced_nil (enumZ_made (s := { s1 with heap := h' }) zt fun h2 zt2 kp2 => ?g)
  case g =>
  obtain ⟨⟨u0, ze⟩, _⟩ := id zt2
  refine wpAny_pyIter_enum (s := { s1 with heap := h2 }) ze ?g
  case g =>
  have hsz : s1.heap.objs.size + 4 < h'.objs.size := Heap.lt_size zt.1
  have W : EZ h'.objs.size (s1.heap.objs.size + 4) (s1.heap.objs.size + 2) (s1.heap.objs.size + 3) s1.heap.objs.size (s1.heap.objs.size + 1) := by
    constructor <;> (intro hq; replace hq : (_ : Nat) = _ := hq; omega)
  refine ⟨_, [h'.objs.size, s1.heap.objs.size + 4, s1.heap.objs.size + 2, s1.heap.objs.size + 3, s1.heap.objs.size, s1.heap.objs.size + 1], _, _, H1, rfl, I1.kept (t' := s1.toks) fun c o x => kp2 c o (kp c o x), turn_ez W (za_new _) (zp_new a1) (zp_new a2) ⟨fun hq => ?g1, fun hq => ?g2⟩, zt2, fun c hb => ?g, q⟩
  case g1 =>
    have b1 : h'.objs.size < s1.heap.objs.size := hq ▸ a1
    omega
  case g2 =>
    have b1 : h'.objs.size < s1.heap.objs.size := hq ▸ a2
    omega
  case g =>
  have lb : s1.heap.objs.size ≤ c := by
    simp only [List.mem_cons, List.not_mem_nil, or_false] at hb
    rcases hb with rfl | rfl | rfl | rfl | rfl | rfl <;> omega
  exact I1.fpOk lb (I1.hok.fresh lb)
theorem pi_ezK {X : Cx} {K : PySem.W.Frag} {es : List Expr} {k : Nat} {po : Pos} {a b : Expr} {ta : TA} {p1 p2 pos pos2 : Pos} (hK : X.K = K) (hg : Gl X "enumerate") (hm : X.mg "enumerate" = none) (hgz : Gl X "zip") (hmz : X.mg "zip" = none) (ha : PA X [a, b] ta) (hs : starEach [a, b] X.env = [(false, eval a X.env), (false, eval b X.env)] := by rfl) (hs2 : starEach [b] X.env = [(false, eval b X.env)] := by rfl)
    (he : starEach [.Call (.Name "zip" p2) [a, b] [] pos2] X.env = [(false, eval (.Call (.Name "zip" p2) [a, b] [] pos2) X.env)] := by rfl) :
    PI X (.Tuple es k po) (.Call (.Name "enumerate" p1) [.Call (.Name "zip" p2) [a, b] [] pos2] [] pos) (iEz K ta) := by subst hK; exact pi_ez hg hm hgz hmz ha hs hs2 he
theorem for_ez {K : PySem.W.Frag} {b1 b2 : Bool} {l1 l2 : Addr} {xs ys : List V} {g : TG} {tb : TS} {D : Ends} {σ : St} {H : Hp} (hlen : ys.length = xs.length) (Pv : Nat → St → Hp → Prop) (h0 : Pv 0 σ H) (hl : ∀ i σ H, i ≤ xs.length → Pv i σ H → SqB b1 K H l1 xs ∧ SqB b2 K H l2 ys)
    (hs : ∀ (i : Nat) x y σ H p1 p2, xs[i]? = some x → ys[i]? = some y → H p1 = none → upd H p1 (.tup [x, y]) p2 = none → Pv i σ H → g (.ref p2) σ (upd (upd H p1 (.tup [x, y])) p2 (.tup [.int (i : Int), .ref p1])) fun σ2 H2 => tb { D with nx := Pv (i + 1), ct := Pv (i + 1), bk := D.nx } σ2 H2) (hd : ∀ σ H, Pv xs.length σ H → D.nx σ H) :
    tLoop (Iez K b1 b2 l1 l2) g tb D σ H := by
  refine ⟨fun i m σ H => m = xs.length - i ∧ i ≤ xs.length ∧ Pv i σ H, ⟨xs.length, by simp, Nat.zero_le _, h0⟩, ?g⟩
  case g =>
  rintro i m σ H ⟨rfl, hi, p⟩
  obtain ⟨q1, q2⟩ := hl i σ H hi p
  by_cases hlt : i < xs.length
  · refine .inr ⟨⟨xs, ys, xs[i], ys[i]'(by omega), q1, q2, by simp [hlt], by simp [show i < ys.length by omega]⟩, Pv (i + 1), fun σ' H' p' => ⟨xs.length - (i + 1), by omega, rfl, hlt, p'⟩, fun v H' ⟨a1, a2, x, y, e1, e2, e3, e4, e5, e6⟩ => ?g⟩
    case g =>
    subst e1; subst e4
    exact hs i x y σ H a1 a2 (e5 xs q1) (e6 ys q2) e2 e3 p
  · obtain rfl : i = xs.length := by omega
    exact .inl ⟨⟨xs, q1, Nat.le_refl _⟩, hd σ H p⟩
end L2
namespace L2
open PySem
theorem inv_ez {K : PySem.W.Frag} {vars : List Nat} {tb : TS} {acc l1 l2 : Addr} {b1 b2 : Bool} {σ : St} {H : Hp} {xs ys : List V} {i0 j k : Nat} {D : Ends} (R : Nat → List V → Hp → Prop) (hi0 : i0 ∈ vars) (hj : j ∈ vars) (hk : k ∈ vars) (h1 : j ≠ i0) (h2 : k ≠ i0) (h3 : k ≠ j) (hil : i0 < σ.length) (hjl : j < σ.length) (hkl : k < σ.length) (hlen : ys.length = xs.length) (h0 : R 0 [] (upd H acc (.lst []))) (ha : H acc = none) (hs : SqB b1 K H l1 xs ∧ SqB b2 K H l2 ys) (sB : ∀ b H' l zs, Same H H' → SqB b K H l zs → SqB b K H' l zs) (sR : ∀ i L H' H'', R i L H' → Same H' H'' → R i L H'')
    (h : ∀ (i : Nat) x y σ' H' L (D : Ends), xs[i]? = some x → ys[i]? = some y → σ'.length = σ.length → Agree vars σ σ' → σ'[i0]? = some (some (.int (i : Int))) → σ'[j]? = some (some x) → σ'[k]? = some (some y) → Same H H' → H' acc = some (.lst L) → R i L H' →
      (∀ σ'' H'' L', σ''.length = σ.length → Agree vars σ σ'' → Same H H'' → H'' acc = some (.lst L') → R (i + 1) L' H'' → D.nx σ'' H'') → tb D σ' H')
    (q : ∀ σ' H' L, Same H H' → H' acc = some (.lst L) → R xs.length L H' → D.nx σ' H') :
    tLoop (Iez K b1 b2 l1 l2) (gTup K 2 (gCons (gName i0) (gCons (gTup K 2 (gCons (gName j) (gCons (gName k) gNil))) gNil))) tb D σ (upd H acc (.lst [])) := by
  refine for_ez (K := K) (xs := xs) (ys := ys) (D := D) hlen (fun i σ' H' => i ≤ xs.length ∧ σ'.length = σ.length ∧ Agree vars σ σ' ∧ Same H H' ∧ ∃ L, H' acc = some (.lst L) ∧ R i L H') ⟨Nat.zero_le _, rfl, Agree.refl _ _, same_new ha _, [], upd_same, h0⟩ (fun i σ1 H1 _ ⟨_, _, _, sm, _⟩ => ⟨sB _ _ _ _ sm hs.1, sB _ _ _ _ sm hs.2⟩) (fun i x y σ1 H1 p1 p2 hx hy e1 e2 ⟨_, hl1, ag1, sm1, L, hL, r1⟩ => ?_) fun σ1 H1 ⟨_, _, _, sm, L, hL, r1⟩ => q σ1 H1 L sm hL r1
  have hi : i < xs.length := (List.getElem?_eq_some_iff.mp hx).1
  have s1 := same_new e1 (.tup [x, y])
  have s2 := same_new e2 (.tup [.int (i : Int), .ref p1])
  have s12 := s1.trans s2
  refine ⟨p2, [.int (i : Int), .ref p1], rfl, .of upd_same, rfl, .int (i : Int), [.ref p1], rfl, .ref p1, [], rfl, p1, [x, y], rfl, s2.tup (.of upd_same), rfl, x, [y], rfl, y, [], rfl, rfl, rfl, ?_⟩
  refine h i x y (((σ1.set i0 (some (.int (i : Int)))).set j (some x)).set k (some y)) _ L _ hx hy (by rw [List.length_set, List.length_set, List.length_set]; exact hl1) (((ag1.trans (Agree.set hi0 _)).trans (Agree.set hj _)).trans (Agree.set hk _)) ?_ ?_ (set_at (by rw [List.length_set, List.length_set]; omega)) (sm1.trans s12) (s12 _ _ hL) (sR _ _ _ _ r1 s12) fun σ2 H2 L' hl2 ag2 sm2 h2 r2 => ⟨hi, hl2, ag2, sm2, L', h2, r2⟩
  · rw [List.getElem?_set_ne h2, List.getElem?_set_ne h1]
    exact set_at (by omega)
  · rw [List.getElem?_set_ne h3]
    exact set_at (by rw [List.length_set]; omega)
end L2
namespace L2
open PySem PySem.Spec PyProof.Rows
section
variable {prog : Program} {w : World} {A : Around} {E : Value → Shared → Prop} {s : Shared}
end
section
variable {X : Cx}
end
end L2
namespace L2
open PySem
section
variable {X : Cx}
def rRemI : V → List V → Hp → VK → Prop := fun x vs H Q => ∃ (l : Addr) (ns : List Int) (i : Int) (j : Nat), x = .ref l ∧ vs = [.int i] ∧ H l = some (.lst (ns.map V.int)) ∧ ns[j]? = some i ∧ (∀ m, m < j → ns[m]? ≠ some i) ∧ Q .non (upd H l (.lst ((ns.eraseIdx j).map V.int)))
theorem vals_int_at {ns : List Int} {its : List Value} (r : Vals (ns.map V.int) its) {m : Nat} {y : Value} (h : its[m]? = some y) : ∃ n t, ns[m]? = some n ∧ y = .int n t := by
  have hm : m < its.length := (List.getElem?_eq_some_iff.mp h).1
  have hl : (ns.map V.int).length = its.length := r.length
  rw [List.length_map] at hl
  have e : ns[m]? = some ns[m] := List.getElem?_eq_getElem (by omega)
  obtain ⟨u, hu, t, ru⟩ := r.get (i := m) (x := .int ns[m]) (by rw [List.getElem?_map, e]; rfl)
  rw [h] at hu
  cases hu
  exact ⟨ns[m], t, e, ru⟩
theorem map_erI : ∀ (ns : List Int) (j : Nat), (ns.map V.int).eraseIdx j = (ns.eraseIdx j).map V.int
  | [], _ => rfl
  | _ :: _, 0 => rfl
  | n :: ns, j + 1 => by
    show V.int n :: (ns.map V.int).eraseIdx j = V.int n :: (ns.eraseIdx j).map V.int
    rw [map_erI ns j]
theorem mt_remI : MtM X "list.remove" rRemI := by
  intro pins s σ H x vs v us Q I rx rv h
  obtain ⟨l, ns, i, j, rfl, rfl, hH, hj, hno, q⟩ := h
  cases rx
  obtain ⟨u, rfl, ru⟩ := rv.one
  obtain ⟨t, rfl⟩ := ru
  obtain ⟨z, its, n, r, hl, e⟩ := I.lstM hH
  have hjn : j < ns.length := (List.getElem?_eq_some_iff.mp hj).1
  have hlen : its.length = ns.length := by rw [← r.length, List.length_map]
  have hji : j < its.length := by omega
  let f : Value → Bool := fun y => match y with | .int a _ => a == i | _ => false
  have he : ∀ y, y ∈ its.toArray → MeetsSeq.EqGives y (.int i t) (f y) := fun y hy => by
    obtain ⟨m, hm⟩ := List.mem_iff_getElem?.mp (by simpa using hy : y ∈ its)
    obtain ⟨a, tk, _, rfl⟩ := vals_int_at r hm
    exact MeetsSeq.EqGives.int a i tk t
  have at' : ∀ m (hm : m < its.length), ∃ a tk, ns[m]? = some a ∧ its[m] = .int a tk := fun m hm => by
    obtain ⟨a, tk, e1, e2⟩ := vals_int_at r (List.getElem?_eq_getElem hm)
    exact ⟨a, tk, e1, e2⟩
  refine call_meets F.slot_list_remove ⟨_, e, rfl⟩ F.entry_list_remove (F.args_list_remove_2 _ _)
    (MeetsSeq.list_remove l its.toArray n (.int i t) f he j (by rw [List.size_toArray]; exact hji) ?_ ?_ (by rw [List.size_toArray]; omega)) ⟨e, ?_⟩
  · obtain ⟨a, tk, e1, e2⟩ := at' j hji
    rw [hj] at e1
    cases e1
    show f its[j] = true
    rw [e2]
    show (i == i) = true
    simp
  · intro m hm hmj
    obtain ⟨a, tk, e1, e2⟩ := at' m (by rw [List.size_toArray] at hm; exact hm)
    show f its[m] = false
    rw [e2]
    show (a == i) = false
    have := hno m hmj
    rw [e1] at this
    simp
    intro c
    exact this (by rw [c])
  · have r' : Vals ((ns.eraseIdx j).map V.int) (its.eraseIdx j) := by
      have := r.eraseIdx j
      rw [show (ns.map V.int).eraseIdx j = (ns.eraseIdx j).map V.int from (map_erI ns j)] at this
      exact this
    refine ⟨.non, _, I.lset (its' := its.eraseIdx j) hH e ?_ r' ?_, rfl, q⟩
    · show its.toArray.eraseIdxIfInBounds j = (its.eraseIdx j).toArray
      rw [List.eraseIdxIfInBounds_toArray]
    · rw [List.length_map, List.length_eraseIdx_of_lt hjn]
      have e3 : (ns.map V.int).length = ns.length := List.length_map ..
      omega
end
end L2
namespace L2
open PySem PySem.Spec PyProof.Rows
section
variable {prog : Program} {w : World} {A : Around} {E : Value → Shared → Prop} {s : Shared}
end
end L2
namespace L2
open PySem PySem.Spec PyProof.Rows
section
variable {X : Cx}
end
end L2
namespace L2
open PySem PySem.Spec PyProof.Rows
section
variable {X : Cx}
end
end L2
namespace L2
open PySem
structure Blt3 (mg : Str → Option Value) : Prop extends Blt2 mg where
  set : mg "set" = none
section
variable {X : Cx}
def tTru (K : PySem.W.Frag) (ta : TE) : TT := fun σ H Q => ta σ H fun x H' => ∃ k, TruV K x H' k ∧ Q k H'
theorem pt_truK {K : PySem.W.Frag} {a : Expr} {ta : TE} (hK : X.K = K) (ha : PE X a ta) (he : ∀ whole, isTrue a X.env whole = (do let v ← whole; standAt a.pos; holding [v] (truthy v))) : PT X a (tTru K ta) := by
  subst hK
  exact pt_truth ha he
end
end L2
namespace L2
open PySem
structure Blt4 (mg : Str → Option Value) : Prop extends Blt3 mg where
  abs : mg "abs" = none
end L2
namespace L2
open PySem
section
variable {vars : List Nat} {tb : TS} {acc a : Addr} {σ : St} {H : Hp} {j : Nat} {D : Ends} {K : PySem.W.Frag}
end
def EmR (K : PySem.W.Frag) (vars : List Nat) (tb : TS) (acc : Addr) (σ : St) (H : Hp) (L : List (List Int)) : Prop :=
  ∀ (D : Ends) (pre : List V) (R : List (List Int)), H acc = some (.lst pre) → Rows K H pre R → R.length + L.length ≤ 100000 → (∀ σ' H' pre', σ'.length = σ.length → Agree vars σ σ' → SameX acc H H' → H' acc = some (.lst pre') → Rows K H' pre' (R ++ L) → D.nx σ' H') → tb D σ H
section
variable {K : PySem.W.Frag} {vars : List Nat} {tb : TS} {acc : Addr} {σ : St} {H : Hp}
theorem EmR.cast {L L' : List (List Int)} (h : EmR K vars tb acc σ H L) (e : L = L') : EmR K vars tb acc σ H L' := e ▸ h
theorem emr_tup {ta : TA} {r : List Int} (hr : r.length ≤ 100) (h : ∀ Q : List V → Hp → Prop, Q (r.map V.int) H → ta σ H Q) : EmR K vars (tEmit (tTup ta) acc) acc σ H [r] := by
  intro D pre R ha hR hz hd
  refine h _ ⟨by rw [List.length_map]; exact Nat.le_trans hr (by decide), fun t ht => ?_⟩
  have st := same_new ht (.tup (r.map V.int))
  have ha' := st _ _ ha
  refine ⟨pre, ha', Nat.lt_of_le_of_lt (show pre.length ≤ 100000 by rw [hR.1]; omega) (by decide), ?_⟩
  exact hd σ _ _ rfl (Agree.refl _ _) (st.x.trans (SameX.put _)) upd_same (Rows.snoc (Rows.put (hR.same st) ha') (sqT_put (.of upd_same) ha'))
theorem comp_emr (vars : List Nat) (L : List (List Int)) {g : TG} {J : It} {D : Ends} (ha : H acc = none) (hz : L.length ≤ 100000) (h : EmR K vars (tLoop J g tb) acc σ (upd H acc (.lst [])) L)
    (q : ∀ σ' H' pre, Same H H' → H' acc = some (.lst pre) → Rows K H' pre L → D.nx σ' H') : tLoop J g tb D σ (upd H acc (.lst [])) :=
  h _ [] [] upd_same Rows.nil (by simpa using hz) fun σ' H' pre' _ _ sx h1 h2 => q σ' H' pre' (same_of_x ha sx) h1 (by simpa using h2)
end
end L2
namespace L2
open PySem PySem.Spec PyProof.Rows
open PySem.SeqAt
end L2
namespace L2
open PySem PySem.Spec PyProof.Rows
section
variable {X : Cx} {tg : Expr}
end
end L2
namespace L2
open PySem PySem.Spec PyProof.Rows
section
variable {X : Cx} {pins : List (Addr × Obj)} {σ : St} {H : Hp} {s : Shared}
end
theorem KV.len {κ : Type} : ∀ {l : List (κ × V)} {m : List (κ × Value)}, KV l m → l.length = m.length
  | _, _, .nil => rfl
  | _, _, .cons _ t => by rw [List.length_cons, List.length_cons, KV.len t]
theorem KV.at {κ : Type} : ∀ {l : List (κ × V)} {m : List (κ × Value)}, KV l m → ∀ {i : Nat} {k : κ} {x : Value}, m[i]? = some (k, x) → ∃ v, l[i]? = some (k, v)
  | _, _, .nil, _, _, _, h => by cases h
  | _, _, .cons (a := p) (b := q) r t, 0, k, x, h => by
    have e : q = (k, x) := by simpa using h
    exact ⟨p.2, by rw [List.getElem?_cons_zero, show p = (k, p.2) from Prod.ext (by rw [r.1, e]) rfl]⟩
  | _, _, .cons _ t, i + 1, k, x, h => KV.at t (i := i) (by simpa using h)
end L2
namespace L2
open PySem PySem.Spec PyProof.Rows
section
open Builtin Builtin.ObjectAttr Builtin.Getset_descriptor
variable {prog : Program} {w : World} {A : Around} {E : Value → Shared → Prop} {s : Shared} {K : PySem.W.Frag} {x C : Addr} {R : Result → Shared → Prop}
end
section
variable {X : Cx}
end
section
variable {X : Cx} {x : Str} {np cpos pos p : Pos} {C : Addr} {E : XK} {m : Str} {j : Nat}
end
section
variable {X : Cx} {pins : List (Addr × Obj)} {σ : St} {H : Hp} {s : Shared} {E : XK} {a : Addr} {cls a0 : Value} {B h2 : Heap}
end
section
variable {P : Program} {w : World} {K : PySem.W.Frag} {mg : Str → Option Value} {base : Heap} {N : List Str} {qual : Str} {scope : Scope} {f : Addr} {cd : Value} {A : Around} {outer : List Env} {s₀ : Shared} {H₀ : Hp} {E : XK}
end
end L2
namespace L2
open PySem PySem.Spec PyProof.Rows
section
variable {X : Cx} {pins : List (Addr × Obj)} {σ : St} {H : Hp} {s : Shared}
end
section
variable {X : Cx} {pins pn pins' : List (Addr × Obj)} {σ : St} {H H' : Hp} {s s' : Shared} {W : Value → Shared → Prop} {a C : Addr} {cls a0 : Value} {B h2 : Heap}
end
section
variable {X : Cx} {x n : Str} {np pos hpos : Pos} {C0 : Addr} {ie ln : Nat} {tb : XK → TS} {th : TS} {body suite : List Stmt} {b₀ : Stmt}
end
end L2
namespace L2
open PySem PySem.Spec PyProof.Rows
section
variable {X : Cx} {st : Stmt} {t : TS} {x : Str} {np pos hpos cpos p : Pos} {C C0 : Addr} {E : XK} {m : Str} {j : Nat} {K : PySem.W.Frag}
end
section
variable {P : Program} {w : World} {K : PySem.W.Frag} {mg : Str → Option Value} {base : Heap}
end
end L2
namespace L2
open PySem
section
variable {X : Cx}
end
end L2
namespace L2
open PySem
end L2
namespace L2
open PySem
section
variable {P : Program} {w : World}
def IsPairKey (P : Program) (w : World) (h : Heap) (k : List Int × Int) (a : Addr) : Prop := ∃ o n b t, h.get? a = some o ∧ o.cls = .type "tuple" ∧ o.data = .seq #[.ref b, .int k.2 t] n ∧ IsTupleKey (intKind P w) h k.1 b
theorem IsPairKey.typeIs {s : Shared} {k : List Int × Int} {a : Addr} (x : IsPairKey P w s.heap k a) : s.TypeIs (.ref a) "tuple" := let ⟨o, _, _, _, ho, hc, _⟩ := x; ⟨o, ho, hc⟩
theorem IsPairKey.inj {h : Heap} {a : Addr} {x y : List Int × Int} (hx : IsPairKey P w h x a) (hy : IsPairKey P w h y a) : x = y := by
  obtain ⟨o, n, b, t, ho, _, hd, hi⟩ := hx
  obtain ⟨o', n', b', t', ho', _, hd', hi'⟩ := hy
  obtain rfl : o = o' := Option.some.inj (ho.symm.trans ho')
  rw [hd] at hd'
  injection hd' with h1 _
  have h2 : [Value.ref b, .int x.2 t] = [.ref b', .int y.2 t'] := congrArg Array.toList h1
  injection h2 with h3 h4
  injection h4 with h5 _
  injection h3 with h3
  injection h5 with h5 _
  subst h3
  exact Prod.ext (hi.inj hi') h5
theorem IsPairKey.keeps {h h' : Heap} {k : List Int × Int} {a d : Addr} {o : Obj} {es ep} (x : IsPairKey P w h k a) (ho : h.get? d = some o) (hd : o.data = .dict es ep) (hs : Heap.SameBut d h h') : IsPairKey P w h' k a := by
  obtain ⟨o', n, b, t, ho', hc, hd', hi⟩ := x
  have hne : a ≠ d := by
    rintro rfl
    obtain rfl : o' = o := Option.some.inj (ho'.symm.trans ho)
    rw [hd] at hd'; exact nomatch hd'
  exact ⟨o', n, b, t, (hs.2 a hne).trans ho', hc, hd', hi.keeps ho hd hs⟩
def pairHash (P : Program) (w : World) (k : List Int × Int) : Int := reduceHash (Builtin.Tuple.tupleHashOf [tupleKeyHash (intKind P w) k.1, (intKind P w).hash k.2])
variable {A : Around} {E : Value → Shared → Prop} {s : Shared}
theorem pyHash_pair {k : List Int × Int} {a : Addr} {Q : Int → Shared → Prop} (hu : A.units + 5 < cLine) (hk : IsPairKey P w s.heap k a) (h : Q (pairHash P w k) { s with toks := s.toks + (k.1.length + 3) }) :
    wpAny (model P w) A (pyHash (.ref a)) Q E s := by
  have hT := hk.typeIs
  obtain ⟨o, n, b, t, ho, _, hd, hi⟩ := hk
  unfold pyHash
  first | unfold pyHashByItsType | skip
  first | refine wpAny_bind (wpAny_cRoomFor_or (.inr (by omega)) ?_) | skip
  refine wpAny_bind (wpAny_specialOf hT F.slot_tuple_hash.lookup ?_)
  show wpAny _ _ (if (some (Value.builtin "tuple.__hash__") == some Value.none) = true then _ else _) Q E s
  rw [if_neg (by rw [beq_builtin_none]; exact Bool.false_ne_true)]
  refine wpAny_bind (wpAny_specialOf hT F.slot_tuple_hash.lookup ?_)
  show wpAny _ _ (callSpecialIfBoundUnlessNone? (.ref a) "__hash__" _ >>= _) Q E s
  refine wpAny_bind (wpAny_callSpecialIfBoundUnlessNone?_slot hT F.slot_tuple_hash (wpAny_call_entry F.slot_tuple_hash hT F.entry_tuple_hash ?_ (F.args_tuple_hash_1 _)))
  show wpAny _ _ (Builtin.Tuple.tupleItemsOf (.ref a) >>= _) _ _ s
  refine wpAny_bind (wpAny_tupleItemsOf ho hd ?_)
  refine wpAny_bind ?_
  rw [← Array.forIn_toList]
  show wpAny _ _ (forIn [Value.ref b, Value.int k.2 t] #[] _) _ _ s
  rw [List.forIn_cons]
  refine wpAny_bind (wpAny_bind (wpAny_pyHash_tuple (knd := intKind P w) (show A.units + 1 < cLine by omega) hi (wpAny_pure ?_)))
  show wpAny _ _ (forIn [Value.int k.2 t] #[tupleKeyHash (intKind P w) k.1] _) _ _ _
  rw [List.forIn_cons]
  refine wpAny_bind (wpAny_bind ((intKind P w).pyHash (k := k.2) (v := .int k.2 t) (by show Value.isInt k.2 (.int k.2 t) = true; unfold Value.isInt; exact beq_self_eq_true _) (wpAny_pure ?_)))
  show wpAny _ _ (forIn [] #[tupleKeyHash (intKind P w) k.1, (intKind P w).hash k.2] _) _ _ _
  rw [List.forIn_nil]
  refine wpAny_pure ?_
  show wpAny _ _ (retInt (Builtin.Tuple.tupleHashOf [tupleKeyHash (intKind P w) k.1, (intKind P w).hash k.2])) _ _ _
  refine wpAny_ret_mkInt ?_
  show wpAny _ _ (if (decide (-(2 : Int) ^ 63 ≤ Builtin.Tuple.tupleHashOf [tupleKeyHash (intKind P w) k.1, (intKind P w).hash k.2]) && decide (Builtin.Tuple.tupleHashOf [tupleKeyHash (intKind P w) k.1, (intKind P w).hash k.2] < 2 ^ 63)) = true then _ else _) Q E _
  unfold pairHash reduceHash at h
  by_cases hr : (decide (-(2 : Int) ^ 63 ≤ Builtin.Tuple.tupleHashOf [tupleKeyHash (intKind P w) k.1, (intKind P w).hash k.2]) && decide (Builtin.Tuple.tupleHashOf [tupleKeyHash (intKind P w) k.1, (intKind P w).hash k.2] < 2 ^ 63)) = true
  · rw [if_pos hr]
    rw [if_pos hr] at h
    exact wpAny_pure (by simpa [Nat.add_assoc] using h)
  · rw [if_neg hr]
    rw [if_neg hr] at h
    exact wpAny_bind (wpAny_rule (wpAny_pure (by simpa [Nat.add_assoc] using h)))
theorem pair_eq_tree {x y : List Int × Int} {a b : Addr} {Pd : Fin → Shared → Prop} (hu : A.units < cLine) (hx : IsPairKey P w s.heap x a) (hy : IsPairKey P w s.heap y b) (h : Pd (.done (.ret (.bool (decide (x = y))))) s) :
    wpAny (model P w) A (Builtin.«tuple.__eq__» ⟨[.ref a, .ref b], []⟩) Pd E s := by
  have hTb := hy.typeIs
  obtain ⟨oa, na, ia, ta, hoa, _, hda, hia⟩ := hx
  obtain ⟨ob, nb, ib, tb, hob, _, hdb, hib⟩ := hy
  show wpAny _ _ (isInstance (.ref b) (.type "tuple") >>= _) _ _ s
  refine wpAny_bind (wpAny_isInstance hTb isSubtype_tuple_tuple ?_)
  simp only [Bool.not_true, Bool.false_eq_true, if_false]
  refine wpAny_bind (wpAny_tupleItemsOf hoa hda ?_)
  refine wpAny_bind (wpAny_tupleItemsOf hob hdb ?_)
  refine wpAny_bind ?_
  show wpAny _ _ (forIn [(Value.ref ia, Value.ref ib), (Value.int x.2 ta, Value.int y.2 tb)] _ _) _ _ s
  rw [List.forIn_cons]
  refine wpAny_bind (wpAny_bind (wpAny_eqBool_tuple (knd := intKind P w) hu hia hib ?_))
  by_cases h1 : x.1 = y.1
  · rw [decide_eq_true h1]
    simp only [Bool.not_true, Bool.false_eq_true, if_false]
    refine wpAny_pure ?_
    show wpAny _ _ (forIn [(Value.int x.2 ta, Value.int y.2 tb)] _ _) _ _ s
    rw [List.forIn_cons]
    refine wpAny_bind (wpAny_bind (wpAny_eqBool_int ?_))
    by_cases h2 : x.2 = y.2
    · rw [show (x.2 == y.2) = true by rw [h2]; exact beq_self_eq_true _]
      simp only [Bool.not_true, Bool.false_eq_true, if_false]
      refine wpAny_pure ?_
      show wpAny _ _ (forIn [] _ _) _ _ s
      rw [List.forIn_nil]
      refine wpAny_pure (wpAny_pure ?_)
      have e : decide (x = y) = true := decide_eq_true (Prod.ext h1 h2)
      rw [e] at h
      exact h
    · rw [show (x.2 == y.2) = false by exact beq_false_of_ne h2]
      simp only [Bool.not_false, if_true]
      have e : decide (x = y) = false := decide_eq_false fun z => h2 (congrArg Prod.snd z)
      rw [e] at h
      exact wpAny_bind (wpAny_pure (wpAny_pure (wpAny_pure (wpAny_pure h))))
  · rw [decide_eq_false h1]
    simp only [Bool.not_false, if_true]
    have e : decide (x = y) = false := decide_eq_false fun z => h1 (congrArg Prod.fst z)
    rw [e] at h
    exact wpAny_bind (wpAny_pure (wpAny_pure (wpAny_pure (wpAny_pure h))))
theorem eqBool_pair {x y : List Int × Int} {a b : Addr} {Q : Bool → Shared → Prop} (hu : A.units + 5 < cLine) (hx : IsPairKey P w s.heap x a) (hy : IsPairKey P w s.heap y b) (h : Q (decide (x = y)) s) :
    wpAny (model P w) A (eqBool (.ref a) (.ref b)) Q E s := by
  unfold eqBool
  try with_reducible refine wpAny_holding ?_
  show wpAny _ _ (if (Value.ref a == Value.ref b) = true then _ else _) Q E s
  by_cases hab : (Value.ref a == Value.ref b) = true
  · rw [if_pos hab]
    have e : a = b := by have := eq_of_beq hab; injection this
    subst e
    obtain rfl := hx.inj hy
    exact wpAny_bind (wpAny_rule (wpAny_pure (by simpa using h)))
  · rw [if_neg hab]
    exact wpAny_bind (wpAny_richCompare_same_room (op := .Eq) hx.typeIs hy.typeIs F.slot_tuple_eq
      (wpAny_call_entry F.slot_tuple_eq hx.typeIs F.entry_tuple_eq (pair_eq_tree (show A.units + 1 < cLine by omega) hx hy ⟨_, rfl, (fun e => nomatch e), wpAny_truthy_bool h⟩) (F.args_tuple_eq_2 _ _)) (by omega))
theorem quiet_in {ks : List Int} {a : Addr} {m : Nat} {Q : Bool → Shared → Prop} (hk : IsTupleKey (intKind P w) s.heap ks a) (h : Q true s) : wpAny (model P w) A (eqIsQuiet (m + 1) (.ref a)) Q E s := by
  have hT := hk.typeIs
  obtain ⟨o, items, n, ho, _, hd, hi⟩ := hk
  unfold eqIsQuiet
  refine wpAny_bind (wpAny_specialOf hT F.slot_tuple_eq.lookup ?_)
  show wpAny _ _ (isInstance (.ref a) (.type "tuple") >>= _) _ _ s
  refine wpAny_bind (wpAny_isInstance hT isSubtype_tuple_tuple ?_)
  simp only [Bool.not_true, Bool.false_eq_true, if_false]
  refine wpAny_bind (wpAny_seqItems ho hd ?_)
  refine wpAny_bind ?_
  show wpAny _ _ (forIn items _ _) _ _ s
  rw [← Array.forIn_toList]
  refine wpAny_forIn_list _ (fun rest r s' => r.1 = none ∧ s' = s ∧ ∀ v ∈ rest, carriedByValue v = true) _ ?_ ?_ _ _ ⟨rfl, rfl, hi.byValue⟩
  · rintro v rest r s' ⟨hr, rfl, hall⟩
    rw [eqIsQuiet_byValue _ (hall v List.mem_cons_self)]
    refine wpAny_bind (wpAny_pure ?_)
    simp only [Bool.not_true, Bool.false_eq_true, if_false]
    exact wpAny_pure ⟨rfl, rfl, fun u hu' => hall u (List.mem_cons_of_mem _ hu')⟩
  · rintro ⟨r1, r2⟩ s' ⟨hr, rfl, _⟩
    simp only at hr
    subst hr
    exact wpAny_pure h
theorem quiet_pair {k : List Int × Int} {a : Addr} {Q : Bool → Shared → Prop} (hk : IsPairKey P w s.heap k a) (h : Q true s) : wpAny (model P w) A (eqIsQuiet 8 (.ref a)) Q E s := by
  have hT := hk.typeIs
  obtain ⟨o, n, b, t, ho, _, hd, hi⟩ := hk
  unfold eqIsQuiet
  refine wpAny_bind (wpAny_specialOf hT F.slot_tuple_eq.lookup ?_)
  show wpAny _ _ (isInstance (.ref a) (.type "tuple") >>= _) _ _ s
  refine wpAny_bind (wpAny_isInstance hT isSubtype_tuple_tuple ?_)
  simp only [Bool.not_true, Bool.false_eq_true, if_false]
  refine wpAny_bind (wpAny_seqItems ho hd ?_)
  refine wpAny_bind ?_
  show wpAny _ _ (forIn #[Value.ref b, Value.int k.2 t] _ _) _ _ s
  rw [← Array.forIn_toList]
  show wpAny _ _ (forIn [Value.ref b, Value.int k.2 t] _ _) _ _ s
  rw [List.forIn_cons]
  refine wpAny_bind (wpAny_bind (quiet_in hi ?_))
  simp only [Bool.not_true, Bool.false_eq_true, if_false]
  refine wpAny_pure ?_
  show wpAny _ _ (forIn [Value.int k.2 t] _ _) _ _ s
  rw [List.forIn_cons, eqIsQuiet_byValue _ (v := Value.int k.2 t) rfl]
  refine wpAny_bind (wpAny_bind (wpAny_pure ?_))
  simp only [Bool.not_true, Bool.false_eq_true, if_false]
  refine wpAny_pure ?_
  show wpAny _ _ (forIn [] _ _) _ _ s
  rw [List.forIn_nil]
  exact wpAny_pure (wpAny_pure h)
def pairKind (P : Program) (w : World) : HeapKind P w (List Int × Int) where
  is := IsPairKey P w
  hash := pairHash P w
  draws := fun k => k.1.length + 3
  room := fun A => A.units + 5 < cLine
  inj := fun hx hy => hx.inj hy
  keeps := fun x ho hd hs => x.keeps ho hd hs
  pyHash := fun hu hk h => pyHash_pair hu hk h
  eqBool := fun hu hx hy h => eqBool_pair hu hx hy h
  quiet := fun hk h => quiet_pair hk h
end
end L2
namespace L2
open PySem
abbrev PKy := List Int × Int
abbrev PEs := List (PKy × Addr × V)
def pairH (k : PKy) : Int := reduceHash (Builtin.Tuple.tupleHashOf [reduceHash (Builtin.Tuple.tupleHashOf (k.1.map hashInt)), hashInt k.2])
abbrev PRel (p : PKy × Addr × V) (q : PKy × Addr × Value) : Prop := p.1 = q.1 ∧ p.2.1 = q.2.1 ∧ RelV p.2.2 q.2.2
def dpP (a : Addr) (xs : PEs) (ep : Nat) (h : Heap) : Prop := xs.length ≤ sizeLine ∧ (a == sysModules) = false ∧ ∃ ys : List (PKy × Addr × Value), Paired PRel xs ys ∧
  ∃ o es, h.get? a = some o ∧ o.ExactDict ∧ o.data = .dict es ep ∧ es.toList = ys.map (fun y => (⟨pairH y.1, .ref y.2.1, y.2.2⟩ : DictEntry)) ∧ (ys.map (·.1)).Nodup
def dpO (a : Addr) (xs : PEs) (ep : Nat) : HO := .ext (dpP a xs ep)
theorem dpO_ok {P : Program} {w : World} {H : Hp} {h : Heap} {a : Addr} {xs : PEs} {ep : Nat} (x : dpP a xs ep h) : ObjOk P w H h a (dpO a xs ep) :=
  ⟨x, let ⟨_, _, _, _, o, _, e, _⟩ := x; ⟨o, e⟩, fun _ _ ⟨z, y, ys, r, o, es, e, rest⟩ k => ⟨z, y, ys, r, o, es, k o e, rest⟩⟩
def KeyP (H : Hp) (k : PKy) (c : Addr) : Prop := ∃ b, H c = some (.tup [.ref b, .int k.2]) ∧ H b = some (.tup (k.1.map V.int))
def DP (H : Hp) (a : Addr) (xs : PEs) (ep : Nat) : Prop := H a = some (dpO a xs ep) ∧ ∀ x ∈ xs, KeyP H x.1 x.2.1
def valP (xs : PEs) (k : PKy) : Option V := (xs.find? fun x => decide (x.1 = k)).map (·.2.2)
section
variable {P : Program} {w : World} {H : Hp} {h : Heap} {a c : Addr} {k : PKy} {xs : PEs}
theorem ints_items : ∀ {ns : List Int} {its : List Value}, Vals (ns.map V.int) its → ItemsAre (intKind P w) ns its
  | [], _, .nil => .nil
  | n :: ns, _, .cons r t => by
    obtain ⟨tk, rfl⟩ := r
    exact .cons (by show Value.isInt n (.int n tk) = true; unfold Value.isInt; exact beq_self_eq_true _) (ints_items t)
theorem KeyP.is (ok : HOk P w H h) (e : KeyP H k c) : (pairKind P w).is h k c := by
  obtain ⟨b, e1, e2⟩ := e
  obtain ⟨_, its, r, o, h1, h2, ⟨n, h3⟩, _⟩ := (show ObjOk P w H h c (.tup [.ref b, .int k.2]) from ok c _ e1)
  obtain ⟨_, its', r', o', h1', h2', ⟨n', h3'⟩, _⟩ := (show ObjOk P w H h b (.tup (k.1.map V.int)) from ok b _ e2)
  obtain ⟨u, v, rfl, ru, rv⟩ := r.two
  obtain rfl : u = Value.ref b := ru
  obtain ⟨t, rfl⟩ := rv
  exact ⟨o, n, b, t, h1, h2, h3, o', its'.toArray, n', h1', h2', h3', by simpa using ints_items r'⟩
theorem DP.of {ep : Nat} (ok : HOk P w H h) (e : DP H a xs ep) : xs.length ≤ sizeLine ∧ (a == sysModules) = false ∧ ∃ ys, Paired PRel xs ys ∧ h.DictOfH (pairKind P w) a ys := by
  obtain ⟨z, y, ys, r, o, es, h1, h2, h3, h4, h5⟩ := (show dpP a xs ep h from (ok a _ e.1).1)
  refine ⟨z, y, ys, r, o, es, ep, h1, h2, h3, h4, ?_, h5⟩
  have all : ∀ {l : PEs} {m : List (PKy × Addr × Value)}, Paired PRel l m → (∀ x ∈ l, KeyP H x.1 x.2.1) → ∀ x ∈ m, (pairKind P w).is h x.1 x.2.1 := by
    intro l m q
    induction q with
    | nil => intro _ x hx; exact nomatch hx
    | @cons p q ps qs hq t ih =>
      intro hk x hx
      rcases List.mem_cons.mp hx with e | hx
      · subst e
        have := hk p (List.mem_cons_self ..)
        rw [hq.1, hq.2.1] at this
        exact this.is ok
      · exact ih (fun x hx => hk x (List.mem_cons_of_mem _ hx)) x hx
  exact all r e.2
theorem at_val : ∀ {xs : PEs} {ys : List (PKy × Addr × Value)}, Paired PRel xs ys → ∀ {v : V}, valP xs k = some v → ∃ p, atKey ys k = some p ∧ RelV v p.2
  | _, _, .nil, v, e => by cases e
  | x :: xs, y :: ys, .cons r t, v, e => by
    unfold valP at e
    unfold atKey
    rw [List.find?_cons] at e ⊢
    by_cases hk : x.1 = k
    · rw [decide_eq_true hk] at e
      rw [decide_eq_true (by rw [← r.1]; exact hk)]
      cases e
      exact ⟨_, rfl, r.2.2⟩
    · rw [decide_eq_false hk] at e
      rw [decide_eq_false (by rw [← r.1]; exact hk)]
      exact at_val t e
theorem at_none : ∀ {xs : PEs} {ys : List (PKy × Addr × Value)}, Paired PRel xs ys → valP xs k = none → atKey ys k = none
  | _, _, .nil, _ => rfl
  | x :: xs, y :: ys, .cons r t, e => by
    unfold valP at e
    unfold atKey
    rw [List.find?_cons] at e ⊢
    by_cases hk : x.1 = k
    · rw [decide_eq_true hk] at e; cases e
    · rw [decide_eq_false hk] at e
      rw [decide_eq_false (by rw [← r.1]; exact hk)]
      exact at_none t e
theorem rel_snoc : ∀ {xs : PEs} {ys : List (PKy × Addr × Value)}, Paired PRel xs ys → ∀ {p : PKy × Addr × V} {q : PKy × Addr × Value}, PRel p q → Paired PRel (xs ++ [p]) (ys ++ [q])
  | _, _, .nil, _, _, r => .cons r .nil
  | _, _, .cons r0 t, _, _, r => .cons r0 (rel_snoc t r)
end
theorem hu6 {A : Around} {k : Nat} (hr : Room k A) : A.units + 6 < cLine := Nat.lt_of_le_of_lt (Nat.add_le_add_left (by decide : 6 ≤ 64) _) hr.units
def tDNewP : TE := fun _ H Q => ∀ p ep, H p = none → Q (.ref p) (upd H p (dpO p [] ep))
def KeyQ (K : PySem.W.Frag) (H : Hp) (k : PKy) (c : Addr) : Prop := ∃ b, SqT K H c [.ref b, .int k.2] ∧ SqT K H b (k.1.map V.int)
theorem KeyP.q {K : PySem.W.Frag} {H : Hp} {k : PKy} {c : Addr} (e : KeyP H k c) : KeyQ K H k c := let ⟨b, h1, h2⟩ := e; ⟨b, .of h1, .of h2⟩
theorem KeyQ.is {X : Cx} {pins : List (Addr × Obj)} {σ : St} {H : Hp} {s : Shared} {k : PKy} {c : Addr} (I : Inv X pins σ H s) (e : KeyQ X.K H k c) : (pairKind X.prog X.w).is s.heap k c := by
  obtain ⟨b, e1, e2⟩ := e
  obtain ⟨its, r, ⟨o, h1, h2, n, h3⟩, _⟩ := I.tuple e1
  obtain ⟨its', r', ⟨o', h1', h2', n', h3'⟩, _⟩ := I.tuple e2
  obtain ⟨u, v, rfl, ru, rv⟩ := r.two
  obtain rfl : u = Value.ref b := ru
  obtain ⟨t, rfl⟩ := rv
  exact ⟨o, n, b, t, h1, h2, h3, o', its'.toArray, n', h1', h2', h3', by simpa using ints_items r'⟩
def tPGet (K : PySem.W.Frag) (td ty : TE) : TE := fun σ H Q => td σ H fun x H1 => ty σ H1 fun y H2 => ∃ a c xs ep k v, x = .ref a ∧ y = .ref c ∧ DP H2 a xs ep ∧ KeyQ K H2 k c ∧ valP xs k = some v ∧ Q v H2
def sPPut (td ty tv : TE) : TS := fun D σ H => tv σ H fun v H1 => td σ H1 fun x H2 => ty σ H2 fun y H3 => ∃ a c xs ep k, x = .ref a ∧ y = .ref c ∧ DP H3 a xs ep ∧ KeyP H3 k c ∧ valP xs k = none ∧ xs.length < sizeLine ∧ ∀ ep', D.nx σ (upd H3 a (dpO a (xs ++ [(k, c, v)]) ep'))
section
variable {X : Cx} {o i value : Expr} {pos pos' : Pos} {td ty tv : TE}
theorem pe_dnewP : PE X (.Dict [] [] pos) tDNewP := fun pins s σ H Q I h =>
  wpAny_Dict_empty ⟨.ref s.heap.objs.size, _, I.laid (a := s.heap.objs.size) (o := dpO s.heap.objs.size [] 0) (t' := s.toks) (fun _ _ q => Heap.get?_push_of_some _ q) (Nat.le_refl _)
    (dpO_ok ⟨Nat.zero_le _, beq_eq_false_iff_ne.mpr (Ne.symm (Nat.ne_of_lt I.big)), [], .nil, _, #[], Heap.get?_push_size _ rfl, ⟨rfl, rfl, rfl⟩, rfl, rfl, List.nodup_nil⟩), rfl, h _ 0 (I.hok.fresh (Nat.le_refl _))⟩
theorem pe_pget {K : PySem.W.Frag} (hK : X.K = K) (hu : X.A.units + 6 < cLine) (ho : PE X o td) (hi : PE X i ty) (hs : NoSl i) : PE X (.Subscript o i pos) (tPGet K td ty) := by
  subst hK
  intro pins s σ H Q I h
  refine subD_of PySem.F.slot_dict_getitem.lookup hs (thn (ho pins s σ H _ I h) fun u s1 ⟨x, H1, I1, rx, q1⟩ => thn (hi pins s1 σ H1 _ I1 q1) fun iv s2 ⟨y, H2, I2, ry, a, c, xs, ep, k, v, ex, ey, dp, kp, hv, q2⟩ => ?_)
  subst ex ey
  obtain rfl : u = Value.ref a := rx
  obtain rfl : iv = Value.ref c := ry
  obtain ⟨_, _, ys, r, dd⟩ := dp.of I2.hok
  obtain ⟨p, hp, rp⟩ := at_val r hv
  exact ⟨dd.typeIs, wpAny_getItem_heap (knd := pairKind X.prog X.w) (show X.A.units + 1 + 5 < cLine by omega) (kp.is I2) dd hp ⟨v, H2, I2.tok _, rp, q2⟩⟩
theorem ps_pput (hu : X.A.units + 6 < cLine) (ho : PE X o td) (hi : PE X i ty) (hv : PE X value tv) (hs : swapsWith value (some (.Subscript o i pos')) pos.line X.env = pure false) :
    PS X (.Assign [.Subscript o i pos'] value pos) (sPPut td ty tv) := by
  intro pins s σ H D I h
  refine wpAny_Assign_Subscript (thn (hv pins s σ H _ I h) fun r s1 ⟨v, H1, I1, rv, q1⟩ => thn (ho pins s1 σ H1 _ I1 q1) fun u s2 ⟨x, H2, I2, rx, q2⟩ => thn (hi pins s2 σ H2 _ I2 q2) fun iv s3 ⟨y, H3, I3, ry, a, c, xs, ep, k, ex, ey, dp, kp, hn, hz, q3⟩ => ?_) hs
  subst ex ey
  obtain rfl : u = Value.ref a := rx
  obtain rfl : iv = Value.ref c := ry
  obtain ⟨_, hd, ys, rel, dd⟩ := dp.of I3.hok
  have hl : xs.length = ys.length := Paired.length rel
  refine wpAny_setItem_heap (knd := pairKind X.prog X.w) (hsz := by omega) (show X.A.units + 1 + 5 < cLine by omega) (kp.is I3.hok) dd fun h' dd' hsb => ?_
  rw [storedH_new (at_none rel hn)] at dd'
  obtain ⟨q, es, ep', hq, h2, h3, h4, _, h5⟩ := dd'
  exact ⟨σ, _, d_write I3 (by rw [dp.1]; exact True.intro) hsb ⟨q, hq⟩ (dpO_ok ⟨by rw [List.length_append]; exact hz, hd, _, rel_snoc rel ⟨rfl, rfl, rv⟩, q, es, hq, h2, h3, h4, h5⟩), q3 ep'⟩
end
end L2
namespace L2
open PySem PySem.Spec PyProof.Rows
section
variable {prog : Program} {w : World} {A : Around} {E : Value → Shared → Prop} {s : Shared} {d : Addr} {o : Obj} {es : Array DictEntry} {ep : Nat}
abbrev itmV (d : Addr) : Obj := { cls := .type "dict_items", data := .fields #[.ref d] }
abbrev itmI (d : Addr) (n ep : Nat) : Obj := { cls := .type "dict_itemiterator", data := .fields #[.none, .bool false, .ref d, .int 0 0, .int n 0, .int ep 0, .none, .none] }
theorem call_itemsO {Q : Value → Shared → Prop} (hd : (d == sysModules) = false) (hT : s.TypeIs (.ref d) "dict") (h : Q (.ref s.heap.objs.size) { s with heap := s.heap.push (itmV d) }) : wpAny (model prog w) A (call (.builtin "dict.items") [.ref d]) Q E s := by
  refine wpAny_call_entry F.slot_dict_items hT F.entry_dict_items ?_ (F.args_dict_items_1 _)
  unfold Builtin.«dict.items» Builtin.Dict.noArgs
  refine wpAny_bind (wpAny_bind (wpAny_notOrdered_dict hT (wpAny_pure ?_)))
  show wpAny _ _ (Builtin.Dict.showsAll d >>= _) _ _ s
  unfold Builtin.Dict.showsAll; rw [if_neg (by rw [hd]; exact Bool.false_ne_true)]
  refine wpAny_bind (wpAny_pure (wpAny_bind (wpAny_newObj_type (wpAny_pure ⟨_, rfl, h⟩))))
theorem iter_itemsO {v : Addr} {Q : Value → Shared → Prop} (hv : s.heap.IsItemsView v d) (ho : s.heap.get? d = some o) (hd : o.data = .dict es ep) (h : Q (.ref s.heap.objs.size) { s with heap := s.heap.push (itmI d es.size ep) }) : wpAny (model prog w) A (pyIter (.ref v)) Q E s := by
  have hT := hv.typeIs
  obtain ⟨ov, hov, hcv, hdv⟩ := hv
  refine wpAny_pyIter_slot hT F.slot_dict_items_iter (wpAny_call_entry F.slot_dict_items_iter hT F.entry_dict_items_iter ?_ (F.args_dict_items_iter_1 _))
  unfold Builtin.«dict_items.__iter__» Builtin.Dict_items.dictOf
  refine wpAny_bind (wpAny_pure (wpAny_bind (wpAny_bind (wpAny_field hov hdv (x := .ref d) rfl (wpAny_pure (wpAny_bind ?_))))))
  unfold Builtin.Dict_items.newIterator
  refine wpAny_bind (wpAny_dictEntries ho hd (wpAny_bind (wpAny_dictEpoch ho hd ?_)))
  simp only [show Builtin.Dict_items.ownsTuple "dict_itemiterator" = true by decide, if_true]
  refine wpAny_newObj_type (wpAny_pure ⟨_, rfl, "dict_itemiterator", _, ⟨_, Heap.get?_push_size _ rfl, rfl⟩, F.slot_dict_itemiterator_next.lookup, ?_⟩) (by simp only [sizeOk, Builtin.Dict_items.ownedTupleFields, List.size_toArray, List.length_append, List.length_cons, List.length_nil, sizeLine_eq]; omega)
  simpa [rawInt, Builtin.Dict_items.ownedTupleFields] using h
theorem next_itemsO {it : Addr} {i : Nat} {e : DictEntry} {k0 v0 : Value} {Q : Option Value → Shared → Prop} (hit : IsItemIter s.heap it d i es.size ep k0 v0) (ho : s.heap.get? d = some o) (hd : o.data = .dict es ep) (hx : es[i]? = some e)
    (q : ∀ h', IsItemIterOut h' it d (i + 1) es.size ep e.key e.val s.heap.objs.size → h'.get? s.heap.objs.size = some { cls := .type "tuple", data := .seq #[e.key, e.val] } → h'.objs.size = s.heap.objs.size + 1 →
      (∀ b o, b ≠ it → s.heap.get? b = some o → h'.get? b = some o) → Q (some (.ref s.heap.objs.size)) { s with heap := h' }) :
    wpAny (model prog w) A (pyNext (.ref it)) Q E s := by
  obtain ⟨hp, g, dr, tk, os⟩ := s
  have hT : Shared.TypeIs ⟨hp, g, dr, tk, os⟩ (.ref it) "dict_itemiterator" := ⟨_, hit, rfl⟩
  unfold pyNext
  refine wpAny_bind (wpAny_attempt (wpAny_callSpecial?_slot (name := Str.ofString "__next__") hT F.slot_dict_itemiterator_next (wpAny_call_entry F.slot_dict_itemiterator_next hT F.entry_dict_itemiterator_next ?_ (F.args_dict_itemiterator_next_1 _))))
  refine wpAny_bind (wpAny_pure (wpAny_bind (wpAny_bind ?_)))
  first | refine wpAny_bind (wpAny_typeNameOfWhole_itemiter hT (wpAny_pure (wpAny_bind (wpAny_fieldsOf hit rfl ?_)))) | refine wpAny_bind (wpAny_typeNameOf_itemiter hT (wpAny_pure (wpAny_bind (wpAny_fieldsOf hit rfl ?_))))
  simp only [show Builtin.Dict_items.ownsTuple "dict_itemiterator" = true by decide, if_true]
  show wpAny _ _ (if (Value.ref d == Value.none) = true then _ else _) _ _ _
  rw [if_neg (by exact Bool.false_ne_true)]
  refine wpAny_bind (wpAny_pure (wpAny_bind (wpAny_dictEntries ho hd ?_)))
  rw [if_neg (by simp)]
  refine wpAny_bind (wpAny_pure (wpAny_bind (wpAny_dictEpoch ho hd ?_)))
  rw [if_neg (by simp)]
  refine wpAny_pure ?_
  have lt : i < es.size := by
    rcases Nat.lt_or_ge i es.size with h | h
    · exact h
    · rw [Array.getElem?_eq_none h] at hx; cases hx
  rw [Array.getElem?_eq_getElem lt] at hx
  have hx := Option.some.inj hx
  simp only [show ¬ ((i : Int) < 0) from by omega, if_false, Int.toNat_natCast, Array.getElem?_eq_getElem lt, hx]
  refine wpAny_bind ?_
  first | refine wpAny_bind (wpAny_typeNameOfWhole_itemiter hT (wpAny_pure (wpAny_bind (wpAny_isOneOf_itemiter hT ?_)))) | refine wpAny_bind (wpAny_typeNameOf_itemiter hT (wpAny_pure (wpAny_bind (wpAny_isOneOf_itemiter hT ?_))))
  show wpAny _ _ (setField (.ref it) 3 (rawInt ((i : Int) + 1)) >>= _) _ _ _
  refine wpAny_bind (wpAny_setField_rec hit (by simp) fun h1 r1 s1 => ?_)
  replace s1 : Heap.SameBut it hp h1 := s1
  replace r1 : IsItemIter h1 it d (i + 1) es.size ep k0 v0 := by
    unfold IsItemIter; rw [show ((i + 1 : Nat) : Int) = (i : Int) + 1 by omega]; simpa [rawInt] using r1
  have T1 : Shared.TypeIs ⟨h1, g, dr, tk, os⟩ (.ref it) "dict_itemiterator" := ⟨_, r1, rfl⟩
  refine wpAny_bind (wpAny_holding (wpAny_bind (wpAny_isOneOf_itemiter T1 (wpAny_bind (wpAny_isOneOf_itemiter T1 ?_)))))
  show wpAny _ _ (Builtin.Dict_items.pairFromOwner (.ref it) 6 e.key e.val) _ _ ⟨h1, g, dr, tk, os⟩
  unfold Builtin.Dict_items.pairFromOwner
  refine wpAny_bind (wpAny_newTuple ?_)
  have r2 : IsItemIter (h1.push { cls := .type "tuple", data := .seq #[e.key, e.val] }) it d (i + 1) es.size ep k0 v0 := Heap.get?_push_of_some _ r1
  generalize e2 : h1.push { cls := .type "tuple", data := .seq #[e.key, e.val] } = h2 at r2
  have z1 : h1.objs.size = hp.objs.size := s1.1
  have il : it < hp.objs.size := Heap.lt_size hit
  have t2 : h2.get? hp.objs.size = some { cls := .type "tuple", data := .seq #[e.key, e.val] } := by rw [← e2, ← z1]; exact Heap.get?_push_size _ rfl
  have z2 : h2.objs.size = hp.objs.size + 1 := by rw [← e2, Heap.size_push, z1]
  have k2 : ∀ b o, b ≠ it → hp.get? b = some o → h2.get? b = some o := fun b o hb e => by rw [← e2]; exact Heap.get?_push_of_some _ (s1.extBut b o hb e)
  show wpAny _ _ (Builtin.Dict_items.ownedTupleIsFree (.ref it) >>= _) _ _ ⟨h2, g, dr, tk, os⟩
  rw [z1]
  clear e2 r1 s1 T1 z1 h1
  unfold Builtin.Dict_items.ownedTupleIsFree
  refine wpAny_bind (wpAny_bind (wpAny_field r2 rfl (x := .none) rfl (wpAny_pure ?_)))
  simp only [if_true]
  refine wpAny_bind (wpAny_field r2 rfl (x := k0) rfl (wpAny_bind (wpAny_field r2 rfl (x := v0) rfl (wpAny_bind (wpAny_setField_rec r2 (by simp) fun h3 r3 s3 => ?_)))))
  replace s3 : Heap.SameBut it h2 h3 := s3
  replace r3 : IsItemIter h3 it d (i + 1) es.size ep e.key v0 := r3
  refine wpAny_bind (wpAny_setField_rec r3 (by simp) fun h4 r4 s4 => ?_)
  replace s4 : Heap.SameBut it h3 h4 := s4
  replace r4 : IsItemIter h4 it d (i + 1) es.size ep e.key e.val := r4
  refine wpAny_bind (wpAny_setField_rec r4 (by simp) fun h5 r5 s5 => ?_)
  replace s5 : Heap.SameBut it h4 h5 := s5
  replace r5 : IsItemIterOut h5 it d (i + 1) es.size ep e.key e.val hp.objs.size := r5
  refine wpAny_bind (wpAny_setField_rec r5 (by simp) fun h6 r6 s6 => ?_)
  replace s6 : Heap.SameBut it h5 h6 := s6
  replace r6 : IsItemIterOut h6 it d (i + 1) es.size ep e.key e.val hp.objs.size := r6
  have up : ∀ b o, b ≠ it → h2.get? b = some o → h6.get? b = some o := fun b o n e => s6.extBut _ _ n (s5.extBut _ _ n (s4.extBut _ _ n (s3.extBut _ _ n e)))
  refine wpAny_bind (wpAny_letGo (wpAny_pure (wpAny_pure ⟨_, rfl, wpAny_pure (q h6 r6 (up _ _ (Nat.ne_of_gt il) t2) ?_ fun b o n e => up b o n (k2 b o n e))⟩)))
  show h6.objs.size = hp.objs.size + 1
  rw [s6.1, s5.1, s4.1, s3.1, z2]
theorem end_itemsO {it : Addr} {k0 v0 : Value} {Q : Option Value → Shared → Prop} (hh : A.handled = none) (hit : IsItemIter s.heap it d es.size es.size ep k0 v0) (ho : s.heap.get? d = some o) (hd : o.data = .dict es ep)
    (q : ∀ h', Heap.ExtBut it s.heap h' → Q none { s with heap := h' }) : wpAny (model prog w) A (pyNext (.ref it)) Q E s := by
  have hT : s.TypeIs (.ref it) "dict_itemiterator" := ⟨_, hit, rfl⟩
  unfold pyNext
  refine wpAny_bind (wpAny_attempt (wpAny_callSpecial?_slot (name := Str.ofString "__next__") hT F.slot_dict_itemiterator_next (wpAny_call_entry F.slot_dict_itemiterator_next hT F.entry_dict_itemiterator_next ?_ (F.args_dict_itemiterator_next_1 _))))
  refine wpAny_bind (wpAny_pure (wpAny_bind (wpAny_bind ?_)))
  first | refine wpAny_bind (wpAny_typeNameOfWhole_itemiter hT (wpAny_pure (wpAny_bind (wpAny_fieldsOf hit rfl ?_)))) | refine wpAny_bind (wpAny_typeNameOf_itemiter hT (wpAny_pure (wpAny_bind (wpAny_fieldsOf hit rfl ?_))))
  simp only [show Builtin.Dict_items.ownsTuple "dict_itemiterator" = true by decide, if_true]
  show wpAny _ _ (if (Value.ref d == Value.none) = true then _ else _) _ _ _
  rw [if_neg (by exact Bool.false_ne_true)]
  refine wpAny_bind (wpAny_pure (wpAny_bind (wpAny_dictEntries ho hd ?_)))
  rw [if_neg (by simp)]
  refine wpAny_bind (wpAny_pure (wpAny_bind (wpAny_dictEpoch ho hd ?_)))
  rw [if_neg (by simp)]
  refine wpAny_pure ?_
  simp only [show ¬ ((es.size : Int) < 0) from by omega, if_false, Int.toNat_natCast, Array.getElem?_eq_none (Nat.le_refl es.size)]
  refine wpAny_bind ?_
  first | refine wpAny_bind (wpAny_typeNameOfWhole_itemiter hT (wpAny_pure ?_)) | refine wpAny_bind (wpAny_typeNameOf_itemiter hT (wpAny_pure ?_))
  show wpAny _ _ (setField (.ref it) 2 .none >>= _) _ _ s
  refine wpAny_bind (wpAny_setField hit rfl (by simp) ?_)
  show wpAny _ _ (newExc (.type "StopIteration") [] >>= _) _ _ _
  simp only [newExc, newTuple]
  refine wpAny_bind (wpAny_bind (wpAny_newObj_type (wpAny_bind (m := firstArgMember _ _) (wpAny_of_eq (a := Value.none) (by first | rfl | (simp only [firstArgMember]; rfl)) (wpAny_newObj_type ?_ (by size_fits)))) (by size_fits)))
  simp only [raiseNew]
  refine wpAny_bind (wpAny_handled ?_)
  rw [show A.in1.handled = none from hh]
  refine wpAny_bind (wpAny_pure (wpAny_throw ?z))
  case z => refine wpAny_bind (wpAny_isInstance (T := "StopIteration") (b := true) ⟨_, Heap.get?_push_size _ rfl, rfl⟩ isSubtype_stop ?z)
            case z => exact wpAny_pure (q _ (((Heap.SameBut.update ..).extBut.push _).push _))
end
end L2
namespace L2
open PySem PySem.Spec PyProof.Rows
def Iti (d : Addr) (xs : PEs) (ep : Nat) : It :=
  ⟨fun i H => i < xs.length ∧ H d = some (dpO d xs ep), fun i H v H' => ∃ p x, v = .ref p ∧ H p = none ∧ xs[i]? = some x ∧ H' = upd H p (.tup [.ref x.2.1, x.2.2]), fun i H => i = xs.length ∧ H d = some (dpO d xs ep)⟩
theorem rel_at : ∀ {xs : PEs} {ys : List (PKy × Addr × Value)}, Paired PRel xs ys → ∀ {i : Nat} {x : PKy × Addr × V}, xs[i]? = some x → ∃ y, ys[i]? = some y ∧ PRel x y
  | _, _, .nil, _, _, h => by cases h
  | _, _, .cons r t, 0, x, h => by
    simp only [List.getElem?_cons_zero, Option.some.injEq] at h
    subst h
    exact ⟨_, by simp, r⟩
  | _, _, .cons _ t, i + 1, x, h => by
    obtain ⟨y, e, r⟩ := rel_at t (i := i) (by simpa using h)
    exact ⟨y, by simpa using e, r⟩
theorem dp_at {P : Program} {w : World} {H : Hp} {h : Heap} {d : Addr} {xs : PEs} {ep : Nat} (ok : HOk P w H h) (hd : H d = some (dpO d xs ep)) : (d == sysModules) = false ∧ ∃ o es, h.get? d = some o ∧ o.ExactDict ∧ o.data = .dict es ep ∧ es.size = xs.length ∧ ∀ (i : Nat) (x : PKy × Addr × V), xs[i]? = some x → ∃ (e : DictEntry) (v : Value), es[i]? = some e ∧ e.key = .ref x.2.1 ∧ e.val = v ∧ RelV x.2.2 v := by
  obtain ⟨z, y, ys, r, o, es, h1, h2, h3, h4, h5⟩ := (show dpP d xs ep h from (ok d _ hd).1)
  have hl : xs.length = ys.length := Paired.length r
  have hz : es.size = xs.length := by rw [hl, ← Array.length_toList, h4, List.length_map]
  refine ⟨y, o, es, h1, h2, h3, hz, fun i x hx => ?_⟩
  obtain ⟨q, hq, rq⟩ := rel_at r hx
  refine ⟨⟨pairH q.1, .ref q.2.1, q.2.2⟩, q.2.2, ?_, by rw [rq.2.1], rfl, rq.2.2⟩
  rw [← Array.getElem?_toList, h4, List.getElem?_map, hq]; rfl
theorem turn_items {P : Program} {w : World} {K : PySem.W.Frag} {es : List Expr} {k : Nat} {pos : Pos} {d it : Addr} {xs : PEs} {ep : Nat} (hne : d ≠ it) :
    Turn P w K (.Tuple es k pos) (Iti d xs ep) [it] it (fun i h => ∃ k0 v0, IsItemIter h it d i xs.length ep k0 v0) where
  mem := by simp
  obj := fun i h ⟨k0, v0, e⟩ b hb => by
    obtain rfl : b = it := by simpa using hb
    exact ⟨_, e, fun v z => by cases z⟩
  keep := fun i h h' ⟨k0, v0, e⟩ kp => ⟨k0, v0, kp it (by simp) _ e⟩
  item := by
    intro X hP hw hK hc i pins s σ H E I hf st hg
    subst hP hw hK
    obtain ⟨k0, v0, st⟩ := st
    obtain ⟨hi, hd⟩ := hg
    obtain ⟨_, o, es', h1, h2, h3, hz, hat⟩ := dp_at I.hok hd
    obtain ⟨e, v, he, ek, ev, rv⟩ := hat i xs[i] (List.getElem?_eq_getElem hi)
    rw [← hz] at st
    refine next_itemsO st h1 h3 he fun h' g1 g3 g4 kp => ⟨_, rfl, ?_⟩
    refine wpAny_letOwnedTupleGo_items (s := { s with heap := h' }) g1 fun h2' g1' sb => ?_
    have hn : H s.heap.objs.size = none := I.hok.fresh (Nat.le_refl _)
    have lt : it < s.heap.objs.size := Heap.lt_size st
    have I1 : Inv X pins σ (upd H s.heap.objs.size (.tup [.ref xs[i].2.1, xs[i].2.2])) { s with heap := s.heap.push { cls := .type "tuple", data := .seq #[e.key, e.val] } } :=
      I.laid (t' := s.toks) (fun c o e => Heap.get?_push_of_some _ e) (Nat.le_refl _) (show ObjOk X.prog X.w _ _ _ (.tup [.ref xs[i].2.1, xs[i].2.2]) from ⟨show 2 ≤ sizeLine by decide, [e.key, e.val], .cons ek (.cons (by rw [ev]; exact rv) .nil), TupN.new _ _⟩)
    have hf1 : ∀ c ∈ [it], FpOk X pins (upd H s.heap.objs.size (.tup [.ref xs[i].2.1, xs[i].2.2])) c := fun c hb => by
      obtain rfl : c = it := by simpa using hb
      obtain ⟨f0, f⟩ := hf c hb
      exact ⟨by rw [upd_ne (Nat.ne_of_lt lt)]; exact f0, f⟩
    have I2 : Inv X pins σ (upd H s.heap.objs.size (.tup [.ref xs[i].2.1, xs[i].2.2])) { s with heap := h' } := I1.turnedL (t' := s.toks) hf1 fun c o nb e => by
      rcases Heap.get?_push_cases e with ⟨eb, eo⟩ | e
      · subst eb; subst eo
        exact g3
      · exact kp c o (fun q => nb (by simp [q])) e
    have I3 : Inv X pins σ (upd H s.heap.objs.size (.tup [.ref xs[i].2.1, xs[i].2.2])) { s with heap := h2' } := I2.turnedL (t' := s.toks) hf1 fun c o nb e => sb.extBut _ _ (fun q => nb (by simp [q])) e
    rw [hz] at g1'
    exact ⟨.ref s.heap.objs.size, _, I3, rfl, ⟨_, xs[i], rfl, hn, List.getElem?_eq_getElem hi, rfl⟩, ⟨_, _, g1'⟩, fun c hb => (hf1 c hb).1⟩
  done := by
    intro X hP hw hK hc i pins s σ H E I hf st hg
    subst hP hw hK
    obtain ⟨k0, v0, st⟩ := st
    obtain ⟨hi, hd⟩ := hg
    subst hi
    obtain ⟨_, o, es', h1, h2, h3, hz, _⟩ := dp_at I.hok hd
    rw [← hz] at st
    refine end_itemsO (I.ok.hd hc) st h1 h3 fun h' kp => ⟨rfl, ?_⟩
    exact I.turnedL (t' := s.toks) hf fun c o n e => kp c o (fun q => n (by simp [q])) e
  self := fun _ _ s _ _ st q => by
    obtain ⟨k0, v0, st⟩ := st
    exact PySem.W.kcp_self st q
def iItems (td : TE) : TI := fun σ H R => td σ H fun x H1 => ∃ d xs ep, x = .ref d ∧ H1 d = some (dpO d xs ep) ∧ R (Iti d xs ep) H1
theorem pi_items {X : Cx} {es : List Expr} {k : Nat} {po apos cpos : Pos} {o : Expr} {td : TE} (ho : PE X o td)
    (hbase : attributeBase o "items" X.env (eval o X.env) = eval o X.env := by rfl) (hline : (apos.endLine == cpos.line) = true := by rfl) :
    PI X (.Tuple es k po) (.Call (.Attribute o "items" apos) [] [] cpos) (iItems td) := by
  intro pins s σ H R I h
  refine wpAny_Call_method0_late hbase hline (thn (ho pins s σ H _ I h) fun v s1 ⟨x, H1, I1, r1, d, xs, ep, ex, hd, q1⟩ => ?_)
  subst ex
  obtain rfl : v = Value.ref d := r1
  obtain ⟨ysm, ob, es', h1, h2, h3, hz, _⟩ := dp_at I1.hok hd
  have hT : s1.TypeIs (.ref d) "dict" := ⟨ob, h1, h2.1⟩
  refine ⟨"dict", "dict.items", F.plainAttrs_dict, F.slot_dict_items, F.type_dict_items, hT, fun a ea => by cases ea; exact ⟨ob, h1, h2.2.1⟩, Calls.callWith_builtin rfl (PySem.evalArgs_none (call_itemsO ysm hT ?_))⟩
  have hv : (s1.heap.push (itmV d)).IsItemsView s1.heap.objs.size d := ⟨_, Heap.get?_push_size _ rfl, rfl, rfl⟩
  have h1' : (s1.heap.push (itmV d)).get? d = some ob := Heap.get?_push_of_some _ h1
  refine iter_itemsO (s := { s1 with heap := s1.heap.push (itmV d) }) hv h1' h3 ?_
  have I2 : Inv X pins σ H1 { s1 with heap := s1.heap.push (itmV d) } := I1.kept (t' := s1.toks) fun b o e => Heap.get?_push_of_some _ e
  have I3 : Inv X pins σ H1 { s1 with heap := (s1.heap.push (itmV d)).push (itmI d es'.size ep) } := I2.kept (t' := s1.toks) fun b o e => Heap.get?_push_of_some _ e
  have hne : d ≠ (s1.heap.push (itmV d)).objs.size := Nat.ne_of_lt (Heap.lt_size h1')
  refine ⟨_, [(s1.heap.push (itmV d)).objs.size], _, _, H1, rfl, I3, turn_items hne, ⟨_, _, by rw [← hz]; exact Heap.get?_push_size _ rfl⟩, fun c hb => ?_, q1⟩
  obtain rfl : c = (s1.heap.push (itmV d)).objs.size := by simpa using hb
  exact I2.fpOk (Nat.le_refl _) (I2.hok.fresh (Nat.le_refl _))
theorem for_items {d : Addr} {xs : PEs} {ep : Nat} {g : TG} {tb : TS} {D : Ends} {σ : St} {H : Hp} (Pv : Nat → St → Hp → Prop) (h0 : Pv 0 σ H) (hl : ∀ i σ H, i ≤ xs.length → Pv i σ H → H d = some (dpO d xs ep))
    (hs : ∀ i x σ H p, xs[i]? = some x → H p = none → Pv i σ H → g (.ref p) σ (upd H p (.tup [.ref x.2.1, x.2.2])) fun σ2 H2 => tb { D with nx := Pv (i + 1), ct := Pv (i + 1), bk := D.nx } σ2 H2) (hd : ∀ σ H, Pv xs.length σ H → D.nx σ H) :
    tLoop (Iti d xs ep) g tb D σ H := by
  refine ⟨fun i m σ H => m = xs.length - i ∧ i ≤ xs.length ∧ Pv i σ H, ⟨xs.length, by simp, Nat.zero_le _, h0⟩, ?_⟩
  rintro i m σ H ⟨rfl, hi, p⟩
  have q1 := hl i σ H hi p
  by_cases hlt : i < xs.length
  · refine .inr ⟨⟨hlt, q1⟩, Pv (i + 1), fun σ' H' p' => ⟨xs.length - (i + 1), by omega, rfl, hlt, p'⟩, fun v H' ⟨a, x, e1, e2, e3, e4⟩ => ?_⟩
    subst e1; subst e4
    exact hs i x σ H a e3 e2 p
  · obtain rfl : i = xs.length := by omega
    exact .inl ⟨⟨rfl, q1⟩, hd σ H p⟩
def Itv (K : PySem.W.Frag) (l : Addr) (n : Nat) : It :=
  ⟨fun i H => i < n ∧ ∃ xs, SqL K H l xs ∧ xs.length = n, fun i H x H' => H' = H ∧ ∀ xs, SqL K H l xs → xs[n - 1 - i]? = some x, fun i H => i = n ∧ ∃ xs, SqL K H l xs ∧ xs.length = n⟩
theorem turn_rev {P : Program} {w : World} {K : PySem.W.Frag} {tg : Expr} {l it : Addr} {n : Nat} (hne : l ≠ it) : Turn P w K tg (Itv K l n) [it] it (fun i h => h.IsRevIter it l ((n : Int) - 1 - (i : Int))) where
  mem := by simp
  obj := fun i h st b hb => by
    obtain rfl : b = it := by simpa using hb
    obtain ⟨o, e, c, d⟩ := st
    exact ⟨o, e, fun v z => by rw [d] at z; cases z⟩
  keep := fun i h h' st k => st.at fun o e => k it (by simp) o e
  item := by
    intro X hP hw hK hc i pins s σ H E I hf st hg
    subst hP hw hK
    obtain ⟨hi, xs, hq, hn⟩ := hg
    obtain ⟨its, r, pl, hz⟩ := I.list hq
    have hl : its.toArray.size = n := by rw [List.size_toArray, ← r.length, hn]
    obtain ⟨f0, f1, f2, f3, f4, f5⟩ := hf it (by simp)
    have W := Walks.listRev (prog := X.prog) (w := X.w) (I.ok.hd hc) it l hne its.toArray
    rw [hl] at W
    refine W.item i s _ _ hi ⟨by omega, st, pl.isList⟩ fun v h' tk hv st' kk => ?_
    have I1 : Inv X pins σ H { s with heap := h', toks := tk } := I.turned (fun b o hb e => kk b o (by simpa using hb) e) f0 f1 f3 f4 f5
    have st1 := st'.2.1
    obtain ⟨o1, e1, c1, d1⟩ := id st1
    have hx : xs[n - 1 - i]? = some (xs[n - 1 - i]'(by omega)) := List.getElem?_eq_getElem (by omega)
    obtain ⟨u, hu, ru⟩ := r.get hx
    obtain rfl : u = v := by rw [List.getElem?_toArray, hu] at hv; exact Option.some.inj hv
    exact ⟨u, rfl, go_of (s := { s with heap := h', toks := tk }) e1 c1 d1 (by decide) ⟨xs[n - 1 - i]'(by omega), H, I1, ru, ⟨rfl, fun ys hy => by rw [I.list_inj hy hq]; exact hx⟩, st1, fun b hb => (hf b hb).1⟩⟩
  done := by
    intro X hP hw hK hc i pins s σ H E I hf st hg
    subst hP hw hK
    obtain ⟨hi, xs, hq, hn⟩ := hg
    subst hi
    obtain ⟨its, r, pl, hz⟩ := I.list hq
    have hl : its.toArray.size = i := by rw [List.size_toArray, ← r.length, hn]
    obtain ⟨f0, f1, f2, f3, f4, f5⟩ := hf it (by simp)
    have W := Walks.listRev (prog := X.prog) (w := X.w) (I.ok.hd hc) it l hne its.toArray
    rw [hl] at W
    refine W.done s _ _ ⟨Nat.le_refl _, st, pl.isList⟩ fun h' tk kk => ⟨rfl, I.turned (fun b o hb e => kk b o (by simpa using hb) e) f0 f1 f3 f4 f5⟩
  self := fun _ _ _ _ _ st h => wpAny_pyIter_revIter st h
def iRev (K : PySem.W.Frag) (ta : TA) : TI := fun σ H R => ta σ H fun vs H1 => ∃ l xs, vs = [.ref l] ∧ SqL K H1 l xs ∧ R (Itv K l xs.length) H1
theorem bt_reversed : bootBuiltins "reversed" = some (.type "reversed") := by decide +kernel
theorem pi_rev {X : Cx} {K : PySem.W.Frag} {tg a : Expr} {ta : TA} {p pos : Pos} (hK : X.K = K) (hg : Gl X "reversed") (hm : X.mg "reversed" = none) (ha : PA X [a] ta) (hs : starEach [a] X.env = [(false, eval a X.env)] := by rfl) :
    PI X tg (.Call (.Name "reversed" p) [a] [] pos) (iRev K ta) := by
  subst hK
  intro pins s σ H R I h
  refine Call_ (ld_blt I hg hm bt_reversed (PyProof.Rows.callWith_type1 (thn (ha pos pins s σ H _ I h) fun us s1 ⟨vs, H1, I1, r1, q1⟩ => ?_) hs rfl))
  obtain ⟨l, xs, e, q2, q⟩ := q1
  subst e
  obtain ⟨u1, rfl, e1⟩ := vals1 r1
  obtain rfl : u1 = Value.ref l := e1
  obtain ⟨its, rr, pl, hz⟩ := I1.list q2
  have hl : its.toArray.size = xs.length := by rw [List.size_toArray, ← rr.length]
  have hlt : l < s1.heap.objs.size := let ⟨o, e, _⟩ := pl.isList; Heap.lt_size e
  refine call_reversed_list pl.isList ?_
  rw [hl]
  have st : (s1.heap.push (revObj l ((xs.length : Int) - 1))).IsRevIter s1.heap.objs.size l ((xs.length : Int) - 1) := ⟨_, Heap.get?_push_size _ rfl, rfl, rfl⟩
  refine wpAny_pyIter_revIter (s := { s1 with heap := s1.heap.push (revObj l ((xs.length : Int) - 1)) }) st ?_
  refine ⟨_, [s1.heap.objs.size], _, _, H1, rfl, I1.kept (t' := s1.toks) fun b o e => Heap.get?_push_of_some _ e, turn_rev (n := xs.length) (Nat.ne_of_lt hlt), by simpa using st, fun c hb => ?_, q⟩
  obtain rfl : c = s1.heap.objs.size := by simpa using hb
  exact I1.fpOk (Nat.le_refl _) (I1.hok.fresh (Nat.le_refl _))
theorem for_rev {K : PySem.W.Frag} {l : Addr} {xs : List V} {n : Nat} {g : TG} {tb : TS} {D : Ends} {σ : St} {H : Hp} (hn : xs.length = n) (Pv : Nat → St → Hp → Prop) (h0 : Pv 0 σ H) (hl : ∀ i σ H, i ≤ n → Pv i σ H → SqL K H l xs)
    (hs : ∀ i x σ H, i < n → xs[n - 1 - i]? = some x → Pv i σ H → g x σ H fun σ2 H2 => tb { D with nx := Pv (i + 1), ct := Pv (i + 1), bk := D.nx } σ2 H2) (hd : ∀ σ H, Pv n σ H → D.nx σ H) :
    tLoop (Itv K l n) g tb D σ H := by
  refine ⟨fun i m σ H => m = n - i ∧ i ≤ n ∧ Pv i σ H, ⟨n, by simp, Nat.zero_le _, h0⟩, ?_⟩
  rintro i m σ H ⟨rfl, hi, p⟩
  have q1 := hl i σ H hi p
  by_cases hlt : i < n
  · refine .inr ⟨⟨hlt, xs, q1, hn⟩, Pv (i + 1), fun σ' H' p' => ⟨n - (i + 1), by omega, rfl, hlt, p'⟩, fun v H' ⟨e1, e2⟩ => ?_⟩
    subst e1
    exact hs i v σ _ hlt (e2 xs q1) p
  · obtain rfl : i = n := by omega
    exact .inl ⟨⟨rfl, xs, q1, hn⟩, hd σ H p⟩
def tOrT (K : PySem.W.Frag) (ta tb : TE) : TE := fun σ H Q => ta σ H fun x H1 => ∃ c, TruV K x H1 c ∧ if c = true then Q x H1 else tb σ H1 Q
theorem pe_orT {X : Cx} {K : PySem.W.Frag} {a b : Expr} {rest : List Expr} {pos : Pos} {ta tb : TE} (hK : X.K = K) (ha : PE X a ta) (hb : PE X (.BoolOp .Or (b :: rest) pos) tb) : PE X (.BoolOp .Or (a :: b :: rest) pos) (tOrT K ta tb) := by
  subst hK
  intro pins s σ H Q I h
  refine BoolOp_or (thn (ha pins s σ H _ I h) fun v s1 ⟨x, H1, I1, r1, c, tr, q1⟩ => ?_)
  refine thn (tru_ok pins s1 σ H1 x v (fun k H' => k = c ∧ H' = H1) I1 r1 ⟨c, tr, rfl, rfl⟩) fun k s2 ⟨H2, I2, ek, eH⟩ => ?_
  subst ek eH
  cases k with
  | false => exact hb pins s2 σ _ Q I2 (by simpa using q1)
  | true => exact ⟨x, _, I2, r1, by simpa using q1⟩
end L2
namespace L2
open PySem
theorem samePut {H H' : Hp} {p : Addr} {o : HO} (h : H p = none) (s : Same H H') : Same H (upd H' p o) := fun b u e => by rw [upd_ne (ne_of_none e h)]; exact s _ _ e
section
variable {K : PySem.W.Frag}
end
end L2
namespace L2
open PySem
open PySem.SeqAt
section
variable {X : Cx}
end
end L2
namespace L2
open PySem PySem.W PyProof.Rows
section
variable (r : Nat → Int)
def rlt (i j : Nat) : Bool := decide (r i < r j)
def kasRun {α : Type} : KasT α → α
  | .ret a => a
  | .ask i j k => kasRun (k (rlt r i j))
theorem kasRun_bind {α β : Type} {f : α → KasT β} : ∀ t : KasT α, kasRun r (t.bind f) = kasRun r (f (kasRun r t))
  | .ret _ => rfl
  | .ask i j k => by
    show kasRun r ((k (rlt r i j)).bind f) = _
    exact kasRun_bind (k (rlt r i j))
def Kr (p : Array Nat) (i : Nat) : Int := r (p.getD i 0)
def Srt (p : Array Nat) (n : Nat) : Prop := ∀ i j, i ≤ j → j < n → Kr r p i ≤ Kr r p j
def Dsc (p : Array Nat) (n : Nat) : Prop := ∀ i j, i ≤ j → j < n → Kr r p j ≤ Kr r p i
variable {r}
theorem Kr_congr {p q : Array Nat} {i j : Nat} (h : p[i]? = q[j]?) : Kr r p i = Kr r q j := by
  unfold Kr
  rw [Array.getD_eq_getD_getElem?, Array.getD_eq_getD_getElem?, h]
theorem rlt_t {p : Array Nat} {a b : Nat} (h : Kr r p a < Kr r p b) : rlt r (p.getD a 0) (p.getD b 0) = true := decide_eq_true h
theorem rlt_f {p : Array Nat} {a b : Nat} (h : ¬ Kr r p a < Kr r p b) : ¬ rlt r (p.getD a 0) (p.getD b 0) = true := fun e => h (of_decide_eq_true e)
theorem K_rev {p : Array Nat} {i j : Nat} (hj : j ≤ p.size) (k : Nat) : Kr r (kas_rev p i j) k = if i ≤ k ∧ k < j then Kr r p (i + j - 1 - k) else Kr r p k := by
  have := getElem?_mirror_all (i := i) hj k
  by_cases c : i ≤ k ∧ k < j
  · rw [if_pos c] at this ⊢; exact Kr_congr this
  · rw [if_neg c] at this ⊢; exact Kr_congr this
theorem K_bub {p : Array Nat} {src d : Nat} (hs : src < p.size) (hd : d ≤ src) (k : Nat) : Kr r (bubble p src d) k = if k = src - d then Kr r p src else if src - d < k ∧ k ≤ src then Kr r p (k - 1) else Kr r p k := by
  have := getElem?_bubble hs d hd k
  by_cases c : k = src - d
  · rw [if_pos c] at this ⊢; exact Kr_congr this
  · rw [if_neg c] at this ⊢
    by_cases e : src - d < k ∧ k ≤ src
    · rw [if_pos e] at this ⊢; exact Kr_congr this
    · rw [if_neg e] at this ⊢; exact Kr_congr this
theorem rev_perm (p : Array Nat) (i j : Nat) : (kas_rev p i j).Perm p := mirror_perm _ _ _ _
theorem run_asc {p : Array Nat} : ∀ f n, 1 ≤ n → Srt r p n → n ≤ kasRun r (kas_asc p f n) ∧ kasRun r (kas_asc p f n) ≤ n + f ∧ Srt r p (kasRun r (kas_asc p f n)) ∧ (kasRun r (kas_asc p f n) < n + f → Kr r p (kasRun r (kas_asc p f n)) < Kr r p (kasRun r (kas_asc p f n) - 1))
  | 0, n, h1, hs => ⟨Nat.le_refl _, Nat.le_refl _, hs, fun h => absurd h (Nat.lt_irrefl _)⟩
  | f + 1, n, h1, hs => by
    have e : kasRun r (kas_asc p (f + 1) n) = kasRun r (if rlt r (p.getD n 0) (p.getD (n - 1) 0) = true then .ret n else kas_asc p f (n + 1)) := rfl
    rw [e]
    by_cases c : Kr r p n < Kr r p (n - 1)
    · rw [if_pos (rlt_t c)]
      exact ⟨Nat.le_refl _, Nat.le_add_right _ _, hs, fun _ => c⟩
    · rw [if_neg (rlt_f c)]
      obtain ⟨a1, a2, a3, a4⟩ := run_asc (p := p) f (n + 1) (by omega) fun i j hij hj => by
        by_cases e1 : j = n
        · subst e1
          by_cases e2 : i = j
          · subst e2; omega
          · have := hs i (j - 1) (by omega) (by omega); omega
        · exact hs i j hij (by omega)
      exact ⟨by omega, by omega, a3, fun h => a4 (by omega)⟩
theorem K_rev_eq {p : Array Nat} {i j : Nat} (hj : j ≤ p.size) (h : ∀ k, i ≤ k → k < j → Kr r p k = Kr r p (j - 1)) (k : Nat) : Kr r (kas_rev p i j) k = Kr r p k := by
  rw [K_rev hj]
  split
  · next c => rw [h _ (by omega) (by omega), h k c.1 c.2]
  · rfl
theorem run_desc : ∀ f (p : Array Nat) n q, 1 ≤ n → n + f ≤ p.size → q < n → Dsc r p n → (∀ i, n - (q + 1) ≤ i → i < n → Kr r p i = Kr r p (n - 1)) → ∀ R, R = kasRun r (kas_desc f p n q) →
    R.1.size = p.size ∧ R.1.Perm p ∧ n ≤ R.2.1 ∧ R.2.1 ≤ n + f ∧ R.2.2 < R.2.1 ∧ Dsc r R.1 R.2.1 ∧ ∀ i, R.2.1 - (R.2.2 + 1) ≤ i → i < R.2.1 → Kr r R.1 i = Kr r R.1 (R.2.1 - 1)
  | 0, p, n, q, h1, hz, hq, hd, he, R, hR => by subst hR; exact ⟨rfl, Array.Perm.refl _, Nat.le_refl _, Nat.le_refl _, hq, hd, he⟩
  | f + 1, p, n, q, h1, hz, hq, hd, he, R, hR => by
    have e : kasRun r (kas_desc (f + 1) p n q) = kasRun r (if rlt r (p.getD n 0) (p.getD (n - 1) 0) = true then (if q > 0 then kas_desc f (kas_rev p (n - (q + 1)) n) (n + 1) 0 else kas_desc f p (n + 1) 0) else .ask (p.getD (n - 1) 0) (p.getD n 0) fun d => if d = true then .ret (p, n, q) else kas_desc f p (n + 1) (q + 1)) := rfl
    rw [e] at hR
    by_cases c : Kr r p n < Kr r p (n - 1)
    · rw [if_pos (rlt_t c)] at hR
      have hd1 : Dsc r p (n + 1) := fun i j hij hj => by
        by_cases e1 : j = n
        · subst e1
          by_cases e2 : i = j
          · subst e2; omega
          · have := hd i (j - 1) (by omega) (by omega); omega
        · exact hd i j hij (by omega)
      by_cases c2 : q > 0
      · rw [if_pos c2] at hR
        have kk := fun k => K_rev_eq (r := r) (p := p) (i := n - (q + 1)) (j := n) (by omega) he k
        have sz : (kas_rev p (n - (q + 1)) n).size = p.size := mirror_size _ _ _ _
        obtain ⟨a1, a2, a3, a4, a5, a6, a7⟩ := run_desc f (kas_rev p (n - (q + 1)) n) (n + 1) 0 (by omega) (by rw [sz]; omega) (by omega) (fun i j hij hj => by rw [kk, kk]; exact hd1 i j hij hj) (fun i h2 h3 => by rw [show i = n by omega]; rfl) R hR
        exact ⟨a1.trans sz, a2.trans (rev_perm _ _ _), by omega, by omega, a5, a6, a7⟩
      · rw [if_neg c2] at hR
        obtain ⟨a1, a2, a3, a4, a5, a6, a7⟩ := run_desc f p (n + 1) 0 (by omega) (by omega) (by omega) hd1 (fun i h2 h3 => by rw [show i = n by omega]; rfl) R hR
        exact ⟨a1, a2, by omega, by omega, a5, a6, a7⟩
    · rw [if_neg (rlt_f c)] at hR
      have e2 : kasRun r (KasT.ask (p.getD (n - 1) 0) (p.getD n 0) fun d => if d = true then .ret (p, n, q) else kas_desc f p (n + 1) (q + 1)) = kasRun r (if rlt r (p.getD (n - 1) 0) (p.getD n 0) = true then .ret (p, n, q) else kas_desc f p (n + 1) (q + 1)) := rfl
      rw [e2] at hR
      by_cases d : Kr r p (n - 1) < Kr r p n
      · rw [if_pos (rlt_t d)] at hR
        subst hR
        exact ⟨rfl, Array.Perm.refl _, Nat.le_refl _, Nat.le_add_right _ _, hq, hd, he⟩
      · rw [if_neg (rlt_f d)] at hR
        obtain ⟨a1, a2, a3, a4, a5, a6, a7⟩ := run_desc f p (n + 1) (q + 1) (by omega) (by omega) (by omega) (fun i j hij hj => by
          by_cases e1 : j = n
          · subst e1
            by_cases e2 : i = j
            · subst e2; omega
            · have := hd i (j - 1) (by omega) (by omega); omega
          · exact hd i j hij (by omega)) (fun i h2 h3 => by
          show Kr r p i = Kr r p n
          by_cases e1 : i = n
          · rw [e1]
          · have := he i (by omega) (by omega); omega) R hR
        exact ⟨a1, a2, by omega, by omega, a5, a6, a7⟩
def RunOk (r : Nat → Int) (nrem n : Nat) (p : Array Nat) (R : Nat × Array Nat) : Prop := R.2.size = p.size ∧ R.2.Perm p ∧ n ≤ R.1 ∧ R.1 ≤ nrem ∧ Srt r R.2 R.1
theorem run_tail3 {n nrem : Nat} {p : Array Nat} (h1 : 1 ≤ n) (hn : n ≤ nrem) (hz : nrem ≤ p.size) (hd : Dsc r p n) : RunOk r nrem n p (kasRun r (kas_tail3 n nrem p)) := by
  unfold kas_tail3
  rw [kasRun_bind]
  have hs : Srt r (kas_rev p 0 n) n := fun i j hij hj => by
    rw [K_rev (by omega), K_rev (by omega), if_pos ⟨by omega, by omega⟩, if_pos ⟨by omega, hj⟩]
    exact hd _ _ (by omega) (by omega)
  obtain ⟨a1, a2, a3, _⟩ := run_asc (p := kas_rev p 0 n) (nrem - n) n h1 hs
  exact ⟨mirror_size _ _ _ _, rev_perm _ _ _, a1, by show kasRun r _ ≤ _; omega, a3⟩
theorem run_descPart {n nrem : Nat} {p : Array Nat} (hn : n + 1 ≤ nrem) (hz : nrem ≤ p.size) (hd : Dsc r p (n + 1)) : RunOk r nrem 1 p (kasRun r (kas_descPart n nrem p)) := by
  unfold kas_descPart
  rw [kasRun_bind]
  obtain ⟨a1, a2, a3, a4, a5, a6, a7⟩ := run_desc (nrem - (n + 1)) p (n + 1) 0 (by omega) (by omega) (by omega) hd (fun i h2 h3 => by rw [show i = n by omega]; rfl) _ rfl
  generalize kasRun r (kas_desc (nrem - (n + 1)) p (n + 1) 0) = R at a1 a2 a3 a4 a5 a6 a7 ⊢
  by_cases c : R.2.2 > 0
  · rw [if_pos c]
    have kk := fun k => K_rev_eq (r := r) (p := R.1) (i := R.2.1 - (R.2.2 + 1)) (j := R.2.1) (by omega) a7 k
    have sz : (kas_rev R.1 (R.2.1 - (R.2.2 + 1)) R.2.1).size = R.1.size := mirror_size _ _ _ _
    obtain ⟨b1, b2, b3, b4, b5⟩ := run_tail3 (r := r) (n := R.2.1) (nrem := nrem) (p := kas_rev R.1 (R.2.1 - (R.2.2 + 1)) R.2.1) (by omega) (by omega) (by rw [sz]; omega) fun i j hij hj => by rw [kk, kk]; exact a6 i j hij hj
    exact ⟨b1.trans (sz.trans a1), b2.trans ((rev_perm _ _ _).trans a2), by omega, b4, b5⟩
  · rw [if_neg c]
    obtain ⟨b1, b2, b3, b4, b5⟩ := run_tail3 (r := r) (n := R.2.1) (nrem := nrem) (p := R.1) (by omega) (by omega) (by omega) a6
    exact ⟨b1.trans a1, b2.trans a2, by omega, b4, b5⟩
theorem run_count {nrem : Nat} {p : Array Nat} (h1 : 1 ≤ nrem) (hz : nrem ≤ p.size) : RunOk r nrem 1 p (kasRun r (kas_count nrem p)) := by
  unfold kas_count
  rw [kasRun_bind]
  obtain ⟨a1, a2, a3, a4⟩ := run_asc (r := r) (p := p) (nrem - 1) 1 (Nat.le_refl _) fun i j hij hj => by rw [show i = j by omega]; omega
  generalize kasRun r (kas_asc p (nrem - 1) 1) = n at a1 a2 a3 a4 ⊢
  by_cases c : (n == nrem) = true
  · rw [if_pos c]
    exact ⟨rfl, Array.Perm.refl _, a1, by show n ≤ nrem; omega, a3⟩
  · rw [if_neg c]
    have cn : n ≠ nrem := fun e => c (by rw [e]; exact beq_self_eq_true _)
    have lt := a4 (by omega)
    by_cases d : n > 1
    · rw [if_pos d]
      show RunOk r nrem 1 p (kasRun r (if rlt r (p.getD 0 0) (p.getD (n - 1) 0) = true then .ret (n, p) else kas_descPart n nrem (kas_rev p 0 n)))
      by_cases e : Kr r p 0 < Kr r p (n - 1)
      · rw [if_pos (rlt_t e)]
        exact ⟨rfl, Array.Perm.refl _, a1, by show n ≤ nrem; omega, a3⟩
      · rw [if_neg (rlt_f e)]
        have eq : ∀ k, 0 ≤ k → k < n → Kr r p k = Kr r p (n - 1) := fun k _ hk => by
          have g1 := a3 0 k (by omega) hk
          have g2 := a3 k (n - 1) (by omega) (by omega)
          omega
        have kk := fun k => K_rev_eq (r := r) (p := p) (i := 0) (j := n) (by omega) eq k
        have sz : (kas_rev p 0 n).size = p.size := mirror_size _ _ _ _
        obtain ⟨b1, b2, b3, b4, b5⟩ := run_descPart (r := r) (n := n) (nrem := nrem) (p := kas_rev p 0 n) (by omega) (by rw [sz]; omega) fun i j hij hj => by
          rw [kk, kk]
          by_cases e1 : j = n
          · subst e1
            by_cases e2 : i = j
            · subst e2; omega
            · have := eq i (by omega) (by omega); omega
          · have g1 := eq i (by omega) (by omega)
            have g2 := eq j (by omega) (by omega)
            omega
        exact ⟨b1.trans sz, b2.trans (rev_perm _ _ _), b3, b4, b5⟩
    · rw [if_neg d]
      refine run_descPart (by omega) hz fun i j hij hj => ?_
      have : n = 1 := by omega
      subst this
      by_cases e2 : i = j
      · subst e2; omega
      · rw [show i = 0 by omega, show j = 1 by omega]
        exact Int.le_of_lt lt
theorem run_place {p : Array Nat} {k : Nat} (hs : Srt r p k) : ∀ f l q, l ≤ q → q ≤ k → q - l ≤ f → (∀ i, i < l → Kr r p i ≤ Kr r p k) → (∀ i, q ≤ i → i < k → Kr r p k < Kr r p i) →
    ∀ m, m = kasRun r (kas_place p k f l q) → m ≤ k ∧ (∀ i, i < m → Kr r p i ≤ Kr r p k) ∧ ∀ i, m ≤ i → i < k → Kr r p k < Kr r p i
  | 0, l, q, h1, h2, h3, ha, hb, m, hm => by
    obtain rfl : m = l := hm
    exact ⟨by omega, ha, fun i hi hk => hb i (by omega) hk⟩
  | f + 1, l, q, h1, h2, h3, ha, hb, m, hm => by
    have e : kasRun r (kas_place p k (f + 1) l q) = kasRun r (if l ≥ q then .ret l else .ask (p.getD k 0) (p.getD ((l + q) / 2) 0) fun c => if c = true then kas_place p k f l ((l + q) / 2) else kas_place p k f ((l + q) / 2 + 1) q) := rfl
    rw [e] at hm
    by_cases c : l ≥ q
    · rw [if_pos c] at hm
      obtain rfl : m = l := hm
      exact ⟨by omega, ha, fun i hi hk => hb i (by omega) hk⟩
    · rw [if_neg c] at hm
      have e2 : kasRun r (KasT.ask (p.getD k 0) (p.getD ((l + q) / 2) 0) fun c => if c = true then kas_place p k f l ((l + q) / 2) else kas_place p k f ((l + q) / 2 + 1) q) = kasRun r (if rlt r (p.getD k 0) (p.getD ((l + q) / 2) 0) = true then kas_place p k f l ((l + q) / 2) else kas_place p k f ((l + q) / 2 + 1) q) := rfl
      rw [e2] at hm
      by_cases d : Kr r p k < Kr r p ((l + q) / 2)
      · rw [if_pos (rlt_t d)] at hm
        exact run_place hs f l ((l + q) / 2) (by omega) (by omega) (by omega) ha (fun i hi hk => by have := hs ((l + q) / 2) i hi hk; omega) m hm
      · rw [if_neg (rlt_f d)] at hm
        exact run_place hs f ((l + q) / 2 + 1) q (by omega) h2 (by omega) (fun i hi => by have := hs i ((l + q) / 2) (by omega) (by omega); omega) hb m hm
theorem run_bin : ∀ f (p : Array Nat) k, k + f ≤ p.size → Srt r p k → (kasRun r (kas_bin f p k)).Perm p ∧ (kasRun r (kas_bin f p k)).size = p.size ∧ Srt r (kasRun r (kas_bin f p k)) (k + f)
  | 0, p, k, hz, hs => ⟨Array.Perm.refl _, rfl, hs⟩
  | f + 1, p, k, hz, hs => by
    have e : kasRun r (kas_bin (f + 1) p k) = kasRun r (kas_bin f (bubble p k (k - kasRun r (kas_place p k k 0 k))) (k + 1)) := kasRun_bind (r := r) _
    rw [e]
    obtain ⟨a1, a2, a3⟩ := run_place hs k 0 k (by omega) (by omega) (by omega) (fun i hi => by omega) (fun i h1 h2 => by omega) _ rfl
    generalize kasRun r (kas_place p k k 0 k) = l at a1 a2 a3 ⊢
    have sz : (bubble p k (k - l)).size = p.size := bubble_size _ _ _
    have kb := fun i => K_bub (r := r) (p := p) (src := k) (d := k - l) (by omega) (by omega) i
    obtain ⟨b1, b2, b3⟩ := run_bin f (bubble p k (k - l)) (k + 1) (by rw [sz]; omega) fun i j hij hj => by
      rw [kb, kb]
      have g1 : ∀ i, i < l → Kr r p i ≤ Kr r p k := a2
      have g2 : ∀ i, l ≤ i → i < k → Kr r p k < Kr r p i := a3
      by_cases i1 : i = k - (k - l) <;> by_cases j1 : j = k - (k - l)
      · rw [if_pos i1, if_pos j1]; omega
      · rw [if_pos i1, if_neg j1, if_pos ⟨by omega, by omega⟩]
        exact Int.le_of_lt (g2 _ (by omega) (by omega))
      · rw [if_neg i1, if_pos j1, if_neg (by omega)]
        exact g1 i (by omega)
      · rw [if_neg i1, if_neg j1]
        by_cases i2 : k - (k - l) < i ∧ i ≤ k
        · rw [if_pos i2, if_pos ⟨by omega, by omega⟩]
          exact hs _ _ (by omega) (by omega)
        · rw [if_neg i2]
          by_cases j2 : k - (k - l) < j ∧ j ≤ k
          · rw [if_pos j2]
            exact hs _ _ (by omega) (by omega)
          · rw [if_neg j2]
            exact hs _ _ hij (by omega)
    exact ⟨b1.trans (bubble_perm _ _ _), b2.trans sz, by rw [show k + (f + 1) = k + 1 + f by omega]; exact b3⟩
theorem run_sort {n : Nat} (h1 : 1 ≤ n) : (kasRun r (kas_sort n)).Perm (List.toArray (List.range n)) ∧ (kasRun r (kas_sort n)).size = n ∧ Srt r (kasRun r (kas_sort n)) n := by
  unfold kas_sort
  rw [kasRun_bind]
  have hz : (List.toArray (List.range n)).size = n := by simp
  obtain ⟨a1, a2, a3, a4, a5⟩ := run_count (r := r) (nrem := n) (p := List.toArray (List.range n)) h1 (by omega)
  generalize kasRun r (kas_count n (List.toArray (List.range n))) = R at a1 a2 a3 a4 a5 ⊢
  by_cases c : R.1 < n
  · rw [if_pos c]
    obtain ⟨b1, b2, b3⟩ := run_bin (r := r) (n - max R.1 1) R.2 (max R.1 1) (by omega) (by rw [show max R.1 1 = R.1 by omega]; exact a5)
    exact ⟨b1.trans a2, by omega, by rw [show max R.1 1 + (n - max R.1 1) = n by omega] at b3; exact b3⟩
  · rw [if_neg c]
    exact ⟨a2, by show R.2.size = n; omega, by rw [show R.1 = n by omega] at a5; exact a5⟩
end
end L2
namespace L2
open PySem PySem.W PyProof.Rows
section
variable {N : Nat}
def Bnd (N : Nat) (p : Array Nat) : Prop := ∀ k, p.getD k 0 < N
theorem Bnd.perm {p q : Array Nat} (hN : 0 < N) (h : Bnd N p) (e : q.Perm p) : Bnd N q := fun k => by
  rw [Array.getD_eq_getD_getElem?]
  by_cases c : k < q.size
  · rw [Array.getElem?_eq_getElem c]
    have hm : q[k] ∈ p := e.mem_iff.mp (Array.getElem_mem c)
    obtain ⟨i, hi, e2⟩ := Array.getElem_of_mem hm
    have := h i
    rw [Array.getD_eq_getD_getElem?, Array.getElem?_eq_getElem hi] at this
    show q[k] < N
    rw [← e2]
    exact this
  · rw [Array.getElem?_eq_none (by omega)]
    exact hN
def AskP (N : Nat) {α : Type} (P : α → Prop) : KasT α → Prop
  | .ret a => P a
  | .ask i j k => i < N ∧ j < N ∧ ∀ b, AskP N P (k b)
theorem AskP.bind {α β : Type} {f : α → KasT β} {P : α → Prop} {Q : β → Prop} (hf : ∀ a, P a → AskP N Q (f a)) : ∀ t : KasT α, AskP N P t → AskP N Q (t.bind f)
  | .ret a, h => hf a h
  | .ask i j k, h => ⟨h.1, h.2.1, fun b => AskP.bind hf (k b) (h.2.2 b)⟩
theorem AskP.ite {α : Type} {P : α → Prop} {c : Prop} [Decidable c] {t u : KasT α} (h1 : c → AskP N P t) (h2 : ¬ c → AskP N P u) : AskP N P (if c then t else u) := by
  by_cases h : c
  · rw [if_pos h]; exact h1 h
  · rw [if_neg h]; exact h2 h
theorem ask_asc {p : Array Nat} (hb : Bnd N p) : ∀ f n, AskP N (fun _ => True) (kas_asc p f n)
  | 0, n => trivial
  | f + 1, n => ⟨hb _, hb _, fun b => AskP.ite (fun _ => trivial) fun _ => ask_asc hb f (n + 1)⟩
theorem ask_desc (hN : 0 < N) : ∀ f (p : Array Nat) n q, Bnd N p → AskP N (fun R => Bnd N R.1) (kas_desc f p n q)
  | 0, p, n, q, hb => hb
  | f + 1, p, n, q, hb => ⟨hb _, hb _, fun b => AskP.ite (fun _ => AskP.ite (fun _ => ask_desc hN f _ _ _ (hb.perm hN (rev_perm _ _ _))) fun _ => ask_desc hN f _ _ _ hb) fun _ => ⟨hb _, hb _, fun d => AskP.ite (fun _ => hb) fun _ => ask_desc hN f _ _ _ hb⟩⟩
theorem ask_tail3 (hN : 0 < N) {n nrem : Nat} {p : Array Nat} (hb : Bnd N p) : AskP N (fun R : Nat × Array Nat => Bnd N R.2) (kas_tail3 n nrem p) := by
  unfold kas_tail3
  refine AskP.bind (P := fun _ => True) (fun a _ => ?_) _ (ask_asc (hb.perm hN (rev_perm _ _ _)) _ _)
  exact hb.perm hN (rev_perm _ _ _)
theorem ask_descPart (hN : 0 < N) {n nrem : Nat} {p : Array Nat} (hb : Bnd N p) : AskP N (fun R : Nat × Array Nat => Bnd N R.2) (kas_descPart n nrem p) := by
  unfold kas_descPart
  refine AskP.bind (fun R hR => ?_) _ (ask_desc hN _ _ _ _ hb)
  exact AskP.ite (fun _ => ask_tail3 hN (Bnd.perm hN hR (rev_perm _ _ _))) fun _ => ask_tail3 hN hR
theorem ask_count (hN : 0 < N) {nrem : Nat} {p : Array Nat} (hb : Bnd N p) : AskP N (fun R : Nat × Array Nat => Bnd N R.2) (kas_count nrem p) := by
  unfold kas_count
  refine AskP.bind (P := fun _ => True) (fun n _ => ?_) _ (ask_asc hb _ _)
  refine AskP.ite (fun _ => ?_) fun _ => AskP.ite (fun _ => ⟨hb _, hb _, fun c => AskP.ite (fun _ => ?_) fun _ => ask_descPart hN (hb.perm hN (rev_perm _ _ _))⟩) fun _ => ask_descPart hN hb
  · exact hb
  · exact hb
theorem ask_place {p : Array Nat} {k : Nat} (hb : Bnd N p) : ∀ f l q, AskP N (fun _ => True) (kas_place p k f l q)
  | 0, l, q => trivial
  | f + 1, l, q => AskP.ite (fun _ => trivial) fun _ => ⟨hb _, hb _, fun c => AskP.ite (fun _ => ask_place hb f _ _) fun _ => ask_place hb f _ _⟩
theorem ask_bin (hN : 0 < N) : ∀ f (p : Array Nat) k, Bnd N p → AskP N (fun _ => True) (kas_bin f p k)
  | 0, p, k, hb => trivial
  | f + 1, p, k, hb => AskP.bind (fun l _ => ask_bin hN f _ _ (hb.perm hN (bubble_perm _ _ _))) _ (ask_place hb _ _ _)
theorem ask_sort (hN : 0 < N) : AskP N (fun _ => True) (kas_sort N) := by
  have hb : Bnd N (List.toArray (List.range N)) := fun k => by
    rw [Array.getD_eq_getD_getElem?]
    by_cases c : k < N
    · simp [c]
    · simp [c, hN]
  unfold kas_sort
  refine AskP.bind (fun R hR => ?_) _ (ask_count hN hb)
  refine AskP.ite (fun _ => ask_bin hN _ _ _ hR) fun _ => ?_
  exact trivial
theorem wp_run {r : Nat → Int} {cmp : Nat → Nat → (Bool → Shared → Prop) → Shared → Prop} {s : Shared} (hc : ∀ i j C, i < N → j < N → C (rlt r i j) s → cmp i j C s) {α : Type} {P : α → Prop} {Q : α → Shared → Prop} : ∀ t : KasT α, AskP N P t → Q (kasRun r t) s → t.kasWp cmp Q s
  | .ret a, _, h => h
  | .ask i j k, ha, h => hc i j _ ha.1 ha.2.1 (wp_run hc (k (rlt r i j)) (ha.2.2 _) h)
end
theorem lexL_tot : ∀ {a b : List Int}, lexL a b = false → lexL b a = false → a = b
  | [], [], _, _ => rfl
  | [], _ :: _, h, _ => by cases h
  | _ :: _, [], _, h => by cases h
  | x :: a, y :: b, h1, h2 => by
    rw [lexL] at h1 h2
    by_cases e : x = y
    · subst e
      rw [if_pos rfl] at h1 h2
      rw [lexL_tot h1 h2]
    · rw [if_neg e] at h1
      rw [if_neg (Ne.symm e)] at h2
      have g1 := of_decide_eq_false h1
      have g2 := of_decide_eq_false h2
      omega
def rank (R : List (List Int)) (i : Nat) : Int := ((R.countP fun q => lexL q (R.getD i [])) : Nat)
theorem countP_lt {p q : List Int → Bool} : ∀ {l : List (List Int)}, (∀ x ∈ l, p x = true → q x = true) → (∃ x ∈ l, p x = false ∧ q x = true) → l.countP p < l.countP q
  | [], _, ⟨_, h, _⟩ => by cases h
  | a :: l, h, ⟨x, hx, h1, h2⟩ => by
    have mono : l.countP p ≤ l.countP q := List.countP_mono_left fun x hx => h x (List.mem_cons_of_mem _ hx)
    rw [List.countP_cons, List.countP_cons]
    rcases List.mem_cons.mp hx with e | hx
    · subst e
      rw [h1, h2]
      simp
      omega
    · have ih := countP_lt (fun x hx => h x (List.mem_cons_of_mem _ hx)) ⟨x, hx, h1, h2⟩
      have ha := h a (List.mem_cons_self ..)
      cases e1 : p a with
      | false => simp; split <;> omega
      | true => rw [ha e1]; simp; omega
theorem rank_lt {R : List (List Int)} {i j : Nat} (hi : i < R.length) (hj : j < R.length) : (rank R i < rank R j) ↔ lexL (R.getD i []) (R.getD j []) = true := by
  have mem : ∀ k, k < R.length → R.getD k [] ∈ R := fun k hk => by
    rw [List.getD_eq_getElem?_getD, List.getElem?_eq_getElem hk]; exact List.getElem_mem hk
  unfold rank
  constructor
  · intro h
    cases e : lexL (R.getD i []) (R.getD j []) with
    | true => rfl
    | false =>
      exfalso
      have : R.countP (fun q => lexL q (R.getD j [])) ≤ R.countP (fun q => lexL q (R.getD i [])) := List.countP_mono_left fun x _ hx => by
        cases e2 : lexL (R.getD j []) (R.getD i []) with
        | true => exact lexL_trans hx e2
        | false => rw [lexL_tot e e2]; exact hx
      omega
  · intro h
    have := countP_lt (l := R) (p := fun q => lexL q (R.getD i [])) (q := fun q => lexL q (R.getD j [])) (fun x _ hx => lexL_trans hx h) ⟨_, mem i hi, lexL_irr _, h⟩
    omega
end L2
namespace L2
open PySem PySem.W PyProof.Rows
def TupsAt (h : Heap) (vs : List Value) (R : List (List Int)) : Prop := vs.length = R.length ∧ ∀ (i : Nat) (row : List Int), R[i]? = some row → ∃ x us, vs[i]? = some (.ref x) ∧ IsTup h x us.toArray ∧ IntsAre us row
section
variable {prog : Program} {w : World} {A : Around} {E : Value → Shared → Prop} {s : Shared}
theorem lex_go {fin : Bool} {Q : Bool → Shared → Prop} : ∀ {us vs : List Value} {ns ms : List Int} (i : Nat), IntsAre us ns → IntsAre vs ms → Q (lexZ fin (ns.zip ms)) s → KatLex prog w A true fin Q (us.zip vs) i s
  | [], _, _, _, i, .nil, _, h => by rw [List.zip_nil_left]; exact kat_nil (by simpa [lexZ] using h)
  | _ :: _, [], _, _, i, .cons _ _ _, .nil, h => by rw [List.zip_nil_right]; exact kat_nil (by simpa [lexZ] using h)
  | _ :: us, _ :: vs, _ :: ns, _ :: ms, i, .cons n t h1, .cons m u h2, h => by
    rw [List.zip_cons_cons, lexZ] at h
    rw [List.zip_cons_cons]
    refine kat_cons (SeqAt.EqAt.int_int n t m u prog w _ _ ?_)
    by_cases c : n = m
    · rw [if_pos c] at h
      rw [show (n == m) = true from by rw [c]; exact beq_self_eq_true _]
      exact kat_yes (lex_go (i + 1) h1 h2 h)
    · rw [if_neg c] at h
      rw [show (n == m) = false from beq_false_of_ne c]
      refine kat_no ?_
      by_cases z : i = 0
      · subst z
        exact oneLt_int h
      · rw [show (true && i == 0) = false by simp [z]]
        exact kat_one _ _ (rc_lt_int h)
theorem ask_tup {vs : List Value} {R : List (List Int)} (hv : TupsAt s.heap vs R) {i j : Nat} {C : Bool → Shared → Prop} (hi : i < R.length) (hj : j < R.length) (h : C (rlt (rank R) i j) s) : kas_ask prog w A (tuples' true) vs i j C s := by
  have at' : ∀ k, k < R.length → ∃ x us, vs.getD k Value.none = .ref x ∧ IsTup s.heap x us.toArray ∧ IntsAre us (R.getD k []) := fun k hk => by
    obtain ⟨x, us, e1, e2, e3⟩ := hv.2 k R[k] (List.getElem?_eq_getElem hk)
    refine ⟨x, us, by rw [List.getD_eq_getElem?_getD, e1]; rfl, e2, ?_⟩
    rw [List.getD_eq_getElem?_getD, List.getElem?_eq_getElem hk]
    exact e3
  obtain ⟨x, us, e1, ⟨ox, a1, _, n1, d1⟩, b1⟩ := at' i hi
  obtain ⟨y, vs', e2, ⟨oy, a2, _, n2, d2⟩, b2⟩ := at' j hj
  show wpAny (model prog w) A (keyLt' (tuples' true) (vs.getD i Value.none) (vs.getD j Value.none)) C (fun _ _ => False) s
  rw [e1, e2]
  refine kat_lt a1 d1 a2 d2 ?_
  have hl1 : us.length = (R.getD i []).length := IntsAre.len b1
  have hl2 : vs'.length = (R.getD j []).length := IntsAre.len b2
  have e : rlt (rank R) i j = lexZ (decide (us.toArray.size < vs'.toArray.size)) ((R.getD i []).zip (R.getD j [])) := by
    rw [List.size_toArray, List.size_toArray, hl1, hl2, lexZ_eq]
    unfold rlt
    by_cases c : lexL (R.getD i []) (R.getD j []) = true
    · rw [c]; exact decide_eq_true ((rank_lt hi hj).mpr c)
    · rw [Bool.not_eq_true _ |>.mp c]; exact decide_eq_false fun z => c ((rank_lt hi hj).mp z)
  exact lex_go 0 b1 b2 (by rw [← e]; exact h)
theorem kat_firsts_of {h : Heap} : ∀ {vs : List Value} {R : List (List Int)}, TupsAt h vs R → (∀ q ∈ R, q ≠ []) → ∃ fs, KatTups h vs fs ∧ fs.length = R.length ∧ ∀ v ∈ fs, ∃ i t, v = .int i t
  | [], [], _, _ => ⟨[], trivial, rfl, fun _ z => by cases z⟩
  | [], _ :: _, hv, _ => by cases hv.1
  | _ :: _, [], hv, _ => by cases hv.1
  | v :: vs, q :: R, hv, hne => by
    obtain ⟨x, us, e1, ⟨o, a1, a2, n, a3⟩, b⟩ := hv.2 0 q rfl
    obtain ⟨fs, k, l, f⟩ := kat_firsts_of (vs := vs) (R := R) ⟨by simpa using hv.1, fun i row hr => hv.2 (i + 1) row hr⟩ fun q hq => hne q (List.mem_cons_of_mem _ hq)
    obtain rfl : v = .ref x := by simpa using e1
    cases b with
    | nil => exact absurd rfl (hne [] (List.mem_cons_self ..))
    | cons m t r =>
      exact ⟨.int m t :: fs, ⟨⟨x, o, _, n, rfl, a1, a2, a3, rfl⟩, k⟩, by simp [l], fun v hv' => by
        rcases List.mem_cons.mp hv' with e | hv'
        · exact ⟨m, t, e⟩
        · exact f v hv'⟩
theorem TupsAt.keep {h h' : Heap} {vs : List Value} {R : List (List Int)} (hv : TupsAt h vs R) (k : ∀ x us, IsTup h x us → IsTup h' x us) : TupsAt h' vs R :=
  ⟨hv.1, fun i row hr => by obtain ⟨x, us, e1, e2, e3⟩ := hv.2 i row hr; exact ⟨x, us, e1, k _ _ e2, e3⟩⟩
def Put (R : List (List Int)) (p : Array Nat) : Prop := p.Perm (List.toArray (List.range R.length)) ∧ ∀ i j, i ≤ j → j < R.length → lexL (R.getD (p.getD j 0) []) (R.getD (p.getD i 0) []) = false
theorem list_sort_tup {a : Addr} {vs : List Value} {n : Nat} {R : List (List Int)} {P : Fin → Shared → Prop} (ho : s.heap.get? a = some (seqObj "list" vs.toArray n)) (hv : TupsAt s.heap vs R) (hne : ∀ q ∈ R, q ≠ []) (h64 : vs.length < 64)
    (h : ∀ p, Put R p → P (.done (.ret .none)) { s with heap := sortedHeap s.heap a vs (List.toArray (p.toList.map fun i => vs.getD i Value.none)) }) : wpAny (model prog w) A (Builtin.«list.sort» ⟨[.ref a], []⟩) P E s := by
  have ha := Heap.lt_size ho
  have hz : vs.length ≤ sizeLine := by rw [sizeLine_eq]; omega
  obtain ⟨e1, ho1⟩ : ∃ e1, (s.heap.update a (Obj.mapSeq fun _ => #[])).get? a = some (seqObj "list" #[] e1) := ⟨_, get?_update_seq ho fun _ => #[]⟩
  rw [list_sort_plain]
  refine wpAny_bind (listItems_at ho rfl (wpAny_bind (listUpdate_at ho rfl ?g1 (by rw [List.size_toArray]; exact hz) (Nat.zero_le _))))
  case g1 =>
  refine wpAny_bind (seqEpoch_at ho1 rfl (wpAny_bind (wpAny_newTuple ?g2 (by show vs.length ≤ _; exact hz))))
  case g2 =>
  refine wpAny_bind (wpAny_newList (wpAny_holding ?g3) (Nat.zero_le _))
  case g3 =>
  obtain ⟨h3, eh⟩ : ∃ h3, h3 = ((s.heap.update a (Obj.mapSeq fun _ => (#[] : Array Value))).push (seqObj "tuple" vs.toArray 0)).push (seqObj "list" #[] 0) := ⟨_, rfl⟩
  show wpAny (model prog w) A _ P E { s with heap := ((s.heap.update a (Obj.mapSeq fun _ => #[])).push (seqObj "tuple" vs.toArray 0)).push (seqObj "list" #[] 0) }
  rw [← eh]
  have ho3 : h3.get? a = some (seqObj "list" #[] e1) := by
    rw [eh]
    exact Heap.get?_push_of_some _ (Heap.get?_push_of_some _ ho1)
  have hv3 : TupsAt h3 vs R := hv.keep fun x us ⟨o, b1, b2, b3⟩ => by
    have hx : x ≠ a := fun e => by
      subst e
      rw [ho] at b1
      cases b1
      exact absurd (Value.type.inj (show Value.type "list" = Value.type "tuple" from b2)) (by decide)
    refine ⟨o, ?_, b2, b3⟩
    rw [eh]
    exact Heap.get?_push_of_some _ (Heap.get?_push_of_some _ (by rw [Heap.get?_update_ne _ _ _ _ hx]; exact b1))
  dsimp only
  have fin : ∀ (p : Array Nat) (st' : SortSt), Put R p → p.size = vs.length → arrOf st' = p.map (kas_item (vs.toArray.zip vs.toArray)) → failedOf st' = none → wpAny (model prog w) A (do
      let touched := (← seqEpoch a) != e1
      Builtin.List.listUpdate (.ref a) fun _ => (arrOf st').map (·.2)
      if let some e := failedOf st' then rule "list.sort.comparison-raised"; throw e
      if touched then rule "list.sort.modified"; raiseError "ValueError" "list modified during sort"
      ret .none) P E { s with heap := h3 } := fun p st' hp hsz har hf => by
    rw [kat_snds rfl har, hf]
    refine wpAny_bind (seqEpoch_at ho3 rfl (wpAny_bind (listUpdate_at ho3 rfl ?g4 (Nat.zero_le _) ?g5)))
    case g5 =>
      show (List.toArray _).size ≤ _
      rw [List.size_toArray, List.length_map, Array.length_toList]; omega
    case g4 =>
      simp only [bne_self_eq_false, Bool.false_eq_true, if_false]
      have := h p hp
      unfold sortedHeap at this
      rw [← eh] at this
      exact wpAny_pure this
  by_cases c : vs.toArray.size < 2
  · rw [if_pos c, if_pos c]
    refine wpAny_bind (wpAny_pure ?g6)
    case g6 =>
    rw [StateT.run_pure]
    refine wpAny_bind (wpAny_pure ?g7)
    case g7 =>
    have e2 : (vs.toArray.zip vs.toArray).size = vs.length := by simp
    refine fin (List.toArray (List.range vs.length)) (SortSt.mk' general' (vs.toArray.zip vs.toArray) #[] 7 none) ⟨by rw [hv.1], fun i j hij hj => ?_⟩ (by simp) ?_ rfl
    · have hl : R.length < 2 := by rw [← hv.1]; simpa using c
      rw [show i = j by omega]
      exact lexL_irr _
    · have := kas_range (vs.toArray.zip vs.toArray)
      rw [e2] at this
      exact this.symm
  · rw [if_neg c, if_neg c]
    have h2 : 2 ≤ vs.length := by simpa using c
    obtain ⟨fs, k1, k2, k3⟩ := kat_firsts_of hv3 hne
    refine wpAny_bind (kat_kind (s := { s with heap := h3 }) (T := .type "int") k1 (by have := hv.1; omega) (fun v hv' => ?g8) (by decide) ?g9)
    case g8 =>
      obtain ⟨i, t, rfl⟩ := k3 v hv'
      exact Looks.of_pure rfl
    case g9 =>
    obtain ⟨q1, q2, q3⟩ := run_sort (r := rank R) (n := vs.length) (by omega)
    refine wpAny_bind (wpAny_mono (kat_run (ks := vs) (vs := vs) (s := { s with heap := h3 }) (κ := tuples' true) (Q := fun st' s' => s' = { s with heap := h3 } ∧ arrOf st' = (kasRun (rank R) (kas_sort vs.length)).map (kas_item (vs.toArray.zip vs.toArray)) ∧ failedOf st' = none) (G := fun p' s' => p' = kasRun (rank R) (kas_sort vs.length) ∧ s' = { s with heap := h3 }) rfl h2 h64 (fun p' st' s' a1 a2 a3 a4 => ⟨a4.2, by rw [← a4.1]; exact a2, a3⟩)
      (wp_run (N := vs.length) (r := rank R) (fun i j C hi hj hC => ask_tup (s := { s with heap := h3 }) hv3 (by rw [← hv.1]; exact hi) (by rw [← hv.1]; exact hj) hC) _ (ask_sort (by omega)) ⟨rfl, rfl⟩)) ?_ fun _ _ e => e)
    rintro ⟨⟨⟩, st'⟩ s' ⟨rfl, har, hf⟩
    refine fin _ st' ⟨by rw [← hv.1]; exact q1, fun i j hij hj => ?_⟩ q2 har hf
    have hle := q3 i j hij (by rw [hv.1]; exact hj)
    have bd : ∀ k, k < vs.length → (kasRun (rank R) (kas_sort vs.length)).getD k 0 < R.length := fun k hk => by
      rw [Array.getD_eq_getD_getElem?, Array.getElem?_eq_getElem (by omega)]
      have := q1.mem_iff.mp (Array.getElem_mem (show k < (kasRun (rank R) (kas_sort vs.length)).size by omega))
      rw [← hv.1]
      simpa using this
    have hlt := rank_lt (R := R) (bd j (by rw [hv.1]; exact hj)) (bd i (by rw [hv.1]; omega))
    cases z : lexL (R.getD ((kasRun (rank R) (kas_sort vs.length)).getD j 0) []) (R.getD ((kasRun (rank R) (kas_sort vs.length)).getD i 0) []) with
    | false => rfl
    | true =>
      have := hlt.mpr z
      unfold Kr at hle
      omega
end
end L2
namespace L2
open PySem PySem.W PyProof.Rows
section
variable {prog : Program} {w : World} {A : Around} {E : Value → Shared → Prop} {s : Shared}
theorem sorted_tup {l : Addr} {ob : Obj} {n : Nat} {T : String} {us : List Value} {R : List (List Int)} {Q : Value → Shared → Prop} (e0 : s.heap.get? l = some ob) (ec : ob.cls = .type T) (eT : T = "list" ∨ T = "tuple") (ed : ob.data = .seq us.toArray n) (hv : TupsAt s.heap us R) (hne : ∀ q ∈ R, q ≠ []) (h64 : us.length < 64)
    (q : ∀ p, Put R p → Q (.ref (s.heap.objs.size + 1)) { s with heap := sortedAll s.heap us (List.toArray (p.toList.map fun i => us.getD i Value.none)) }) : wpAny (model prog w) A (call (.builtin "sorted") [.ref l]) Q E s := by
  refine Calls.call_function_entry kind_sorted plain_sorted entry_sorted (args_sorted1 _) ?g1
  case g1 =>
  unfold Builtin.«sorted»
  refine wpAny_bind (m := checkCount "sorted" 1 1 _) (wpAny_pure (wpAny_bind (collect_sq e0 ec eT ed (wpAny_bind (wpAny_newList ?g2)) (Nat.le_trans (Nat.le_of_lt h64) (by decide)))))
  case g2 =>
  obtain ⟨h1, eh1⟩ : ∃ h1, h1 = (s.heap.push (seqObj "list" #[] 0)).update s.heap.objs.size (Obj.mapSeq (· ++ us.toArray)) := ⟨_, rfl⟩
  have z1 : h1.objs.size = s.heap.objs.size + 1 := by rw [eh1, Heap.size_update, size_push']
  have old : ∀ x o, s.heap.get? x = some o → (h1.push (seqObj "list" us.toArray 0)).get? x = some o := fun x o e => by
    have hx := Heap.lt_size e
    refine Heap.get?_push_of_some _ ?_
    rw [eh1, Heap.get?_update_ne _ _ _ _ (Nat.ne_of_lt hx)]
    exact Heap.get?_push_of_some _ e
  have e2 : (h1.push (seqObj "list" us.toArray 0)).get? (s.heap.objs.size + 1) = some (seqObj "list" us.toArray 0) := by rw [← z1]; exact Heap.get?_push_size _ rfl
  have hv2 : TupsAt (h1.push (seqObj "list" us.toArray 0)) us R := hv.keep fun x vs ⟨o, b1, b2, b3⟩ => ⟨o, old x o b1, b2, b3⟩
  show wpAny _ _ _ _ _ { s with heap := ((s.heap.push (seqObj "list" #[] 0)).update s.heap.objs.size (Obj.mapSeq (· ++ us.toArray))).push (seqObj "list" us.toArray 0) }
  rw [← eh1, z1]
  refine wpAny_bind (wpAny_holding (wpAny_call_entry slot_list_sort ⟨_, e2, rfl⟩ entry_list_sort (list_sort_tup (s := { s with heap := h1.push (seqObj "list" us.toArray 0) }) e2 hv2 hne h64 fun p hp => ⟨_, rfl, wpAny_pure ⟨_, rfl, ?g3⟩⟩) (args_list_sort _)))
  case g3 =>
    have := q p hp
    unfold sortedAll at this
    rw [← eh1] at this
    exact this
end
theorem put_rows {R : List (List Int)} {p : Array Nat} (h : Put R p) : (p.toList.map fun i => R.getD i []).Perm R ∧ (p.toList.map fun i => R.getD i []).Pairwise (fun a b => lexL b a = false) := by
  have pl : p.toList.Perm (List.range R.length) := by simpa using Array.perm_iff_toList_perm.mp h.1
  have e : (List.range R.length).map (fun i => R.getD i []) = R := by
    apply List.ext_getElem
    · simp
    · intro i h1 h2
      rw [List.getElem_map, List.getElem_range, List.getD_eq_getElem?_getD, List.getElem?_eq_getElem h2]; rfl
  have hl : p.size = R.length := by rw [← Array.length_toList, pl.length_eq, List.length_range]
  refine ⟨by have := pl.map fun i => R.getD i []; rw [e] at this; exact this, ?_⟩
  rw [List.pairwise_iff_getElem]
  intro i j hi hj hij
  rw [List.length_map, Array.length_toList] at hi hj
  have := h.2 i j (by omega) (by omega)
  rw [Array.getD_eq_getD_getElem?, Array.getElem?_eq_getElem hj, Array.getD_eq_getD_getElem?, Array.getElem?_eq_getElem hi] at this
  rw [List.getElem_map, List.getElem_map, Array.getElem_toList, Array.getElem_toList]
  exact this
def rSortT (K : PySem.W.Frag) : List V → Hp → VK → Prop := fun vs H Q => ∃ (a : Addr) (xs : List V) (R : List (List Int)), vs = [.ref a] ∧ Sq K H a xs ∧ Rows K H xs R ∧ (∀ q ∈ R, q ≠ []) ∧ R.length < 64 ∧
  ∀ (ys : List V) (R' : List (List Int)), R'.Perm R → R'.Pairwise (fun a b => lexL b a = false) → ys.Perm xs → Rows K H ys R' → ∀ l, H l = none → Q (.ref l) (upd H l (.lst ys))
theorem call_sortT {X : Cx} : CallR X (.builtin "sorted") (rSortT X.K) := by
  intro pins s σ H vs us Q I r ⟨a, xs, R, e, hq, hR, hne, h64, q⟩
  subst e
  obtain ⟨u, rfl, ru⟩ := vals1 r
  obtain rfl : u = Value.ref a := ru
  have go : ∀ (its : List Value) (ob : Obj) (n : Nat) (T : String), Vals xs its → s.heap.get? a = some ob → ob.cls = .type T → (T = "list" ∨ T = "tuple") → ob.data = .seq its.toArray n → wpAny (model X.prog X.w) X.A (call (.builtin "sorted") [.ref a]) (EP X pins σ Q) X.xe s := by
    intro its ob n T rv e0 ec eT ed
    have hl := rv.length
    have hv : TupsAt s.heap its R := ⟨by rw [← hl]; exact hR.1, fun i row hr => by
      obtain ⟨b, e1, e2⟩ := hR.2 i row hr
      obtain ⟨u, eu, rU⟩ := rv.get e1
      obtain rfl : u = Value.ref b := rU
      obtain ⟨vs, rvs, pl, _⟩ := I.tuple e2
      exact ⟨b, vs, eu, pl, intsAre_of rvs⟩⟩
    refine sorted_tup e0 ec eT ed hv hne (by rw [← hl, hR.1]; exact h64) fun p hp => ?_
    obtain ⟨f1, f2⟩ := put_rows hp
    have pl : p.toList.Perm (List.range R.length) := by simpa using Array.perm_iff_toList_perm.mp hp.1
    have hb : ∀ i ∈ p.toList, i < R.length := fun i hi => List.mem_range.mp (pl.mem_iff.mp hi)
    obtain ⟨c, he⟩ := sortedAll_at s.heap its (List.toArray (p.toList.map fun i => its.getD i Value.none))
    have ex : (List.range R.length).map (fun i => xs.getD i V.non) = xs := by
      apply List.ext_getElem
      · simp [hR.1]
      · intro i h1 h2
        rw [List.getElem_map, List.getElem_range, List.getD_eq_getElem?_getD, List.getElem?_eq_getElem h2]; rfl
    have py : (p.toList.map fun i => xs.getD i V.non).Perm xs := by have := pl.map fun i => xs.getD i V.non; rw [ex] at this; exact this
    refine ⟨.ref (s.heap.objs.size + 1), _, I.laid (t' := s.toks) (o := .lst (p.toList.map fun i => xs.getD i V.non)) (fun b ob q => sortedAll_old q) (Nat.le_succ _) ?_, rfl, q _ _ f1 f2 py ?_ _ (I.hok.fresh (Nat.le_succ _))⟩
    · refine ⟨?_, p.toList.map fun i => its.getD i Value.none, c, ?_, by simpa using he⟩
      · rw [List.length_map, pl.length_eq, List.length_range]
        exact Nat.le_trans (Nat.le_of_lt h64) (by decide)
      · have all : ∀ l : List Nat, (∀ i ∈ l, i < R.length) → Vals (l.map fun i => xs.getD i V.non) (l.map fun i => its.getD i Value.none) := by
          intro l
          induction l with
          | nil => intro _; exact .nil
          | cons i l ih =>
            intro h
            have hi : i < xs.length := by rw [hR.1]; exact h i (List.mem_cons_self ..)
            obtain ⟨u, eu, rU⟩ := rv.get (List.getElem?_eq_getElem hi)
            refine .cons ?_ (ih fun j hj => h j (List.mem_cons_of_mem _ hj))
            show RelV (xs.getD i V.non) (its.getD i Value.none)
            rw [List.getD_eq_getElem?_getD, List.getD_eq_getElem?_getD, eu, List.getElem?_eq_getElem hi]
            exact rU
        exact all _ hb
    · refine ⟨by rw [List.length_map, List.length_map], fun i row hr => ?_⟩
      rw [List.getElem?_map] at hr
      cases ep : p.toList[i]? with
      | none => rw [ep] at hr; cases hr
      | some k =>
        rw [ep] at hr
        obtain rfl : R.getD k [] = row := Option.some.inj hr
        have hk := hb k (List.mem_of_getElem? ep)
        obtain ⟨b, e1, e2⟩ := hR.2 k R[k] (List.getElem?_eq_getElem hk)
        refine ⟨b, ?_, ?_⟩
        · rw [List.getElem?_map, ep]
          show some (xs.getD k V.non) = _
          rw [List.getD_eq_getElem?_getD, e1]; rfl
        · rw [List.getD_eq_getElem?_getD, List.getElem?_eq_getElem hk]; exact e2
  rcases hq with hq | hq
  · obtain ⟨its, rv, pl, hz⟩ := I.list hq
    obtain ⟨o, ho, hc, n, hd⟩ := pl.isList
    exact go its o n "list" rv ho hc (.inl rfl) hd
  · obtain ⟨its, rv, pl, hz⟩ := I.tuple hq
    obtain ⟨o, ho, hc, n, hd⟩ := pl
    exact go its o n "tuple" rv ho hc (.inr rfl) hd
theorem call_sortTK {X : Cx} {K : PySem.W.Frag} (hK : X.K = K) : CallR X (.builtin "sorted") (rSortT K) := by subst hK; exact call_sortT
def rSortB (K : PySem.W.Frag) : List V → Hp → VK → Prop := fun vs H Q => rSorted K vs H Q ∨ rSortT K vs H Q
theorem call_sortBK {X : Cx} {K : PySem.W.Frag} (hK : X.K = K) : CallR X (.builtin "sorted") (rSortB K) := fun pins s σ H xs us Q I r h => h.elim (call_sortedK hK pins s σ H xs us Q I r) (call_sortTK hK pins s σ H xs us Q I r)
end L2
namespace L2
open PySem PyProof.Rows
section
variable {X : Cx}
end
end L2
namespace L2
open PySem PyProof.Rows
section
variable {X : Cx}
end
end L2
namespace L2
open PySem PySem.Spec PyProof.Rows
section
variable {prog : Program} {w : World} {A : Around} {E : Value → Shared → Prop} {s : Shared} {d : Addr} {o : Obj} {es : Array DictEntry} {ep : Nat}
end
end L2
namespace L2
open PySem PySem.Spec PyProof.Rows
end L2
namespace L2
open PySem PySem.Spec PyProof.Rows
section
variable {prog : Program} {w : World} {K : Type} [DecidableEq K] {knd : HeapKind prog w K} {A : Around} {E : Value → Shared → Prop} {s : Shared} {d a : Addr} {xs : List (K × Addr × Value)} {k : K}
end
end L2
namespace L2
open PySem PySem.Spec PyProof.Rows
section
variable {X : Cx} {pins : List (Addr × Obj)} {σ : St} {H : Hp} {s : Shared} {A : Around} {E : Value → Shared → Prop} {a b : Addr} {kvs : List (List Key × V)} {k : List Key}
end
section
variable {X : Cx} {o e f : Expr} {td ty tx : TE} {apos cpos : Pos}
end
end L2
namespace L2
open PySem PySem.Spec PyProof.Rows
end L2
namespace L2
open PySem PySem.Spec PyProof.Rows
section
variable {prog : Program} {w : World} {A : Around} {E : Value → Shared → Prop} {s : Shared} {d : Addr} {o : Obj} {es : Array DictEntry} {ep : Nat}
end
end L2
namespace L2
open PySem PySem.Spec PyProof.Rows
section
variable {prog : Program} {w : World} {A : Around} {E : Value → Shared → Prop} {s : Shared}
end
section
variable {X : Cx} {o i value : Expr} {pos pos' : Pos} {td ty tv : TE}
end
end L2
namespace L2
open PySem PySem.Spec PyProof.Rows
end L2
namespace L2
open PySem PySem.Spec PyProof.Rows
section
variable {X : Cx}
def CMulG (i j : Int) : Prop := i.natAbs < 2 ^ 8000 ∧ j.natAbs < 2 ^ 8000
theorem bits_le {k : Int} (h : k.natAbs < 2 ^ 8000) : Builtin.Int.intBits k ≤ 8000 := by
  unfold Builtin.Int.intBits
  split
  · exact Nat.zero_le _
  · rename_i c
    have hk : k.natAbs ≠ 0 := fun e => c (by simp [Int.natAbs_eq_zero.mp e])
    have := (Nat.log2_lt hk).mpr h
    omega
theorem CMulG.ok {i j : Int} (h : CMulG i j) : IntMulOk i j := by
  unfold IntMulOk Builtin.Int.intTooBig
  have h1 := bits_le h.1
  have h2 := bits_le h.2
  have : ¬ (((Builtin.Int.intBits i + Builtin.Int.intBits j : Nat) : Int) > (bitsLine : Int)) := by
    have : (16000 : Int) ≤ (bitsLine : Int) := by decide
    omega
  intro e
  rw [Bool.and_eq_true] at e
  have := of_decide_eq_true e.2
  omega
end
end L2
namespace L2
open PySem PySem.Spec PyProof.Rows
def subsN : Nat → List (List Nat)
  | 0 => [[]]
  | n + 1 => subsN n ++ (subsN n).map (· ++ [n])
def subs8 : List (List Nat) := subsN 8
end L2
namespace L2
open PySem PySem.Spec PyProof.Rows
def SmE (es : Array (Int × Value)) (ks : List Nat) : Prop := ks ∈ subs8 ∧ es.toList.map (·.1) = ks.map Int.ofNat ∧ ∀ e ∈ es.toList, ∃ tk, e.2 = .int e.1 tk
theorem SmE.size {es : Array (Int × Value)} {ks : List Nat} (h : SmE es ks) : es.size = ks.length := by
  have := congrArg List.length h.2.1
  simpa using this
section
variable {prog : Program} {w : World} {A : Around} {E : Value → Shared → Prop} {s : Shared}
end
end L2
namespace L2
open PySem PySem.Spec PyProof.Rows
section
variable {prog : Program} {w : World} {A : Around} {R : Result → Shared → Prop} {I : Addr} {fp wr : List Addr} {G : Array GenState → Array GenState → Prop} {n : Nat} {P : Nat → Value → Prop} {St : Nat → Shared → Prop}
end
section
variable {prog : Program} {w : World} {A : Around} {E : Value → Shared → Prop} {s : Shared}
end
end L2
namespace L2
open PySem PySem.Spec PyProof.Rows
def SIt (it a : Addr) (slot i n ep : Nat) (h : Heap) : Prop := ∃ o, h.get? it = some o ∧ o.cls = .type "set_iterator" ∧ o.data = .fields #[rawInt slot, rawInt i, .ref a, rawInt n, rawInt ep]
section
variable {prog : Program} {w : World} {A : Around} {E : Value → Shared → Prop} {s : Shared} {a : Addr} {es : Array (Int × Value)} {ep : Nat} {ks : List Nat}
theorem SIt.typeIs {it : Addr} {slot i n : Nat} (x : SIt it a slot i n ep s.heap) : s.TypeIs (.ref it) "set_iterator" := let ⟨o, h1, h2, _⟩ := x; ⟨o, h1, h2⟩
end
end L2
namespace L2
open PySem PySem.Spec PySem.W PyProof.Rows
section
variable {prog : Program} {w : World} {A : Around} {E : Value → Shared → Prop} {s : Shared} {a : Addr} {es : Array (Int × Value)} {ep : Nat} {ks : List Nat}
theorem SIt.at {h h' : Heap} {it : Addr} {sl i n : Nat} (x : SIt it a sl i n ep h) (e : ∀ o, h.get? it = some o → h'.get? it = some o) : SIt it a sl i n ep h' := let ⟨o, ho, r⟩ := x; ⟨o, e _ ho, r⟩
end
section
variable {X : Cx}
end
end L2
namespace L2
open PySem PySem.Spec PyProof.Rows
theorem DP.at {X : Cx} {pins : List (Addr × Obj)} {σ : St} {H : Hp} {s : Shared} {a : Addr} {xs : PEs} {ep : Nat} (I : Inv X pins σ H s) (d : DP H a xs ep) :
    s.TypeIs (.ref a) "dict" ∧ (∀ b, Value.ref a = .ref b → ∃ ob, s.heap.get? b = some ob ∧ ob.dict = none) ∧ (a == sysModules) = false := by
  obtain ⟨_, hd, ys, _, dd⟩ := d.of I.hok
  refine ⟨dd.typeIs, fun b q => ?_, hd⟩
  cases q
  obtain ⟨ob, _, _, h1, h2, _⟩ := dd
  exact ⟨ob, h1, h2.2.1⟩
section
variable {X : Cx} {o e f : Expr} {apos cpos : Pos} {td ty tx : TE}
end
end L2
namespace K53
open PySem L2
def top (i : Nat) : Stmt := PySem.Challenge.pw_homeround_k53_whole_never_much_longer.main.body.getD i (.Pass ⟨0, 0, 0, 0⟩)
section
variable {P : Program} {w : World} {K : PySem.W.Frag} {mg : Str → Option Value} {base : Heap} {f : Addr} {fd : FuncData}
theorem sc_nearest : FnScope ["table", "gone", "way", "place"] ["table"] (defScope (top 1)) := ⟨rfl, rfl, rfl, by decide +kernel, rfl, by decide +kernel, by decide +kernel⟩
def T_nearest (K : PySem.W.Frag)  (sp_places_left_puttings : Sp) : TS := (tSeq (tAsg (tTup (tCons (tC (.int 0)) tNil)) (gName 1)) (tSeq (tWhile (tTest (tOp yLt (tCB (rLen K) (tCons (tVar 1) tNil)) (tCB (rLen K) (tCons (tVar 0) tNil)))) (tSeq (tAsg (tCB (rMinA K) (tCons (tComp [none, some 0, some 1] (iSeq K (tCall sp_places_left_puttings [] E0 (tCons (tVar 0) (tCons (tVar 1) tNil)))) (gName 0) [] fun acc => (tEmit (tTup (tCons (tOp (rIx2 K) (tOp (rIx2 K) (tVar 1) (tOp (rIx2 K) (tVar 2) (tUn yNeg (tC (.int 1))))) (tVar 0)) (tCons (tVar 0) tNil))) acc)) tNil)) (gTup K 2 (gCons (gName 2) (gCons (gName 3) gNil)))) (tSeq (tAsg (tOp (rAddA K) (tVar 1) (tTup (tCons (tVar 3) tNil))) (gName 1)) tNext))) (tSeq (tRet (tVar 1)) tNext)))
theorem ok_nearest (F : Fun K "nearest" "nearest" (top 1) f fd) (B : Blt4 mg)    {sp_places_left_puttings : Sp} (D_places_left_puttings : Def P w K mg base "places_left_puttings" 1 ["table", "gone"] sp_places_left_puttings)  {sp : Sp} (len : ∀ vs H Q E, sp vs H Q E → vs.length = 1)
    (rd : ∀ vs H Q E, sp vs H Q E → T_nearest K  sp_places_left_puttings { nx := fun _ H' => Q .non H', rt := Q } (start ["table", "gone", "way", "place"] vs) H) : FnOk P w K mg base CX0 2 f fd ["table"] sp := by
  refine F.ok sc_nearest len (fun cdv A outer s H vs Q E hr h => ⟨_, ?_, rd vs H Q E h⟩)
  have nd := sc_nearest.nd
  exact (@pss_cons _ _ _ _ _ (@ps_set _ _ 1 _ _ _ _ nd rfl (Or.inr rfl) (@pe_tup _ _ _ _ _ (@pa_consC _ _ _ _ _ _ _ pe_int pa_nil)) (by rfl) (by first | exact .inl rfl | exact .inr rfl | assumption)) (@pss_cons _ _ _ _ _ (ps_while PassesOwn.never (pt_cmpR op_lt (pe_callB (call_lenK (K := K) rfl) rfl B.len bt_len (@pa_consN _ _ _ _ _ _ (pv 1) pa_nil)) (pe_callB (call_lenK (K := K) rfl) rfl B.len bt_len (@pa_consN _ _ _ _ _ _ (pv 0) pa_nil)) (nomark _)) (@pss_cons _ _ _ _ _ (ps_asg (pe_callB (call_minAK (K := K) rfl hr rfl) rfl B.min bt_min (pa_cons (pe_comp (N' := ["left", "table", "gone"]) (ix := [none, some 0, some 1]) rfl rfl rfl (pi_seqK (K := K) rfl (pe_def (D_places_left_puttings.mono (by decide)) hr rfl (@pa_consN _ _ _ _ _ _ (pv 0) (@pa_consN _ _ _ _ _ _ (pv 1) pa_nil)))) (fun _ _ _ => (pg_name (i := 0) (show (["left", "table", "gone"] : List Str).Nodup from by decide +kernel) rfl (Or.inl rfl))) (fun _ _ _ => .nil) (fun _ _ _ _ => (pb_emit rfl (@pe_tup _ _ _ _ _ (@pa_consS _ _ _ _ _ _ _ (@pe_ix _ _ _ _ _ _ _ (ix_sqK (K := K) rfl) (@pe_ix _ _ _ _ _ _ _ (ix_sqK (K := K) rfl) (pv 1) (@pe_ix _ _ _ _ _ _ _ (ix_sqK (K := K) rfl) (pv 2) (pe_un un_neg pe_int) (fun _ _ => rfl)) (fun _ _ => rfl)) (pv 0) (fun _ _ => rfl)) (@pa_consN _ _ _ _ _ _ (pv 0) pa_nil))) rfl))) pa_nil)) (pg_tupK (K := K) rfl rfl (pgs_cons (pg_name (i := 2) nd rfl (Or.inl rfl)) (pgs_cons (pg_name (i := 3) nd rfl (Or.inl rfl)) pgs_nil)))) (@pss_cons _ _ _ _ _ (@ps_set _ _ 1 _ _ _ _ nd rfl (Or.inr rfl) (@pe_op _ _ _ _ _ _ _ _ (op_addK (K := K) rfl) (pv 1) (@pe_tup _ _ _ _ _ (@pa_consN _ _ _ _ _ _ (pv 3) pa_nil))) (by rfl) (by first | exact .inl rfl | exact .inr rfl | assumption)) pss_nil))) (@pss_cons _ _ _ _ _ (@ps_ret _ _ _ _ (pv 1)) pss_nil)))
theorem sc_places_left_puttings : FnScope ["table", "gone"] ["table", "gone"] (defScope (top 2)) := ⟨rfl, rfl, rfl, by decide +kernel, rfl, by decide +kernel, by decide +kernel⟩
def T_places_left_puttings (K : PySem.W.Frag)   : TS := (tSeq (tRet (tComp [none, some 1] (iRng1 (tCons (tCB (rLen K) (tCons (tVar 0) tNil)) tNil)) (gName 0) [(tTest (tOp (rIn K true) (tVar 0) (tVar 1)))] fun acc => (tEmit (tVar 0) acc))) tNext)
theorem ok_places_left_puttings (F : Fun K "places_left" "places_left" (top 2) f fd) (B : Blt4 mg)      {sp : Sp} (len : ∀ vs H Q E, sp vs H Q E → vs.length = 2)
    (rd : ∀ vs H Q E, sp vs H Q E → T_places_left_puttings K   { nx := fun _ H' => Q .non H', rt := Q } (start ["table", "gone"] vs) H) : FnOk P w K mg base CX0 1 f fd ["table", "gone"] sp := by
  refine F.ok sc_places_left_puttings len (fun cdv A outer s H vs Q E hr h => ⟨_, ?_, rd vs H Q E h⟩)
  have nd := sc_places_left_puttings.nd
  exact (@pss_cons _ _ _ _ _ (@ps_ret _ _ _ _ (pe_comp (N' := ["place", "gone"]) (ix := [none, some 1]) rfl rfl rfl (pi_range1 rfl B.range (@pa_consK _ _ _ _ _ _ _ _ (pe_callB (call_lenK (K := K) rfl) rfl B.len bt_len (@pa_consN _ _ _ _ _ _ (pv 0) pa_nil)) pa_nil)) (fun _ _ _ => (pg_name (i := 0) (show (["place", "gone"] : List Str).Nodup from by decide +kernel) rfl (Or.inl rfl))) (fun _ _ _ => (.cons (pt_cmpR (op_notInK (K := K) rfl) (pv 0) (pv 1) rfl) .nil)) (fun _ _ _ _ => (pb_emit rfl (pv 0) rfl)))) pss_nil)
theorem sc_least_spot : FnScope ["table", "gone", "place", "followers"] ["table", "gone", "place"] (defScope (top 4)) := ⟨rfl, rfl, rfl, by decide +kernel, rfl, by decide +kernel, by decide +kernel⟩
def T_least_spot (K : PySem.W.Frag)   : TS := (tSeq (tAsg (tOp (rAddA K) (tSl (rSlU K) (tVar 1) (tPart (tC (.int 1))) tNoPart) (tSl (rSlU K) (tVar 1) tNoPart (tPart (tC (.int 1))))) (gName 3)) (tSeq (tRet (tCB (rMinA K) (tCons (tComp [none, none, none, some 0, some 2] (iEz K (tCons (tVar 1) (tCons (tVar 3) tNil))) (gTup K 2 (gCons (gName 0) (gCons (gTup K 2 (gCons (gName 1) (gCons (gName 2) gNil))) gNil))) [] fun acc => (tEmit (tTup (tCons (tOp ySub (tOp (rAddA K) (tOp (rIx2 K) (tOp (rIx2 K) (tVar 3) (tVar 1)) (tVar 4)) (tOp (rIx2 K) (tOp (rIx2 K) (tVar 3) (tVar 4)) (tVar 2))) (tOp (rIx2 K) (tOp (rIx2 K) (tVar 3) (tVar 1)) (tVar 2))) (tCons (tVar 0) tNil))) acc)) tNil))) tNext))
theorem ok_least_spot (F : Fun K "least_spot" "least_spot" (top 4) f fd) (B : Blt4 mg)      {sp : Sp} (len : ∀ vs H Q E, sp vs H Q E → vs.length = 3)
    (rd : ∀ vs H Q E, sp vs H Q E → T_least_spot K   { nx := fun _ H' => Q .non H', rt := Q } (start ["table", "gone", "place", "followers"] vs) H) : FnOk P w K mg base CX0 1 f fd ["table", "gone", "place"] sp := by
  refine F.ok sc_least_spot len (fun cdv A outer s H vs Q E hr h => ⟨_, ?_, rd vs H Q E h⟩)
  have nd := sc_least_spot.nd
  exact (@pss_cons _ _ _ _ _ (@ps_set _ _ 3 _ _ _ _ nd rfl (Or.inl rfl) (@pe_op _ _ _ _ _ _ _ _ (op_addK (K := K) rfl) (pe_slice (sl_uK (K := K) rfl) (pv 1) (po_some pe_int) po_none) (pe_slice (sl_uK (K := K) rfl) (pv 1) po_none (po_some pe_int))) (by rfl) (by first | exact .inl rfl | exact .inr rfl | assumption)) (@pss_cons _ _ _ _ _ (@ps_ret _ _ _ _ (pe_callB (call_minAK (K := K) rfl hr rfl) rfl B.min bt_min (pa_cons (pe_comp (N' := ["at", "one", "other", "table", "place"]) (ix := [none, none, none, some 0, some 2]) rfl rfl rfl (pi_ezK (K := K) rfl rfl B.enumerate rfl B.zip (@pa_consN _ _ _ _ _ _ (pv 1) (@pa_consN _ _ _ _ _ _ (pv 3) pa_nil))) (fun _ _ _ => (pg_tupK (K := K) rfl rfl (pgs_cons (pg_name (i := 0) (show (["at", "one", "other", "table", "place"] : List Str).Nodup from by decide +kernel) rfl (Or.inl rfl)) (pgs_cons (pg_tupK (K := K) rfl rfl (pgs_cons (pg_name (i := 1) (show (["at", "one", "other", "table", "place"] : List Str).Nodup from by decide +kernel) rfl (Or.inl rfl)) (pgs_cons (pg_name (i := 2) (show (["at", "one", "other", "table", "place"] : List Str).Nodup from by decide +kernel) rfl (Or.inl rfl)) pgs_nil))) pgs_nil)))) (fun _ _ _ => .nil) (fun _ _ _ _ => (pb_emit rfl (@pe_tup _ _ _ _ _ (@pa_consB _ _ _ _ _ _ _ _ (@pe_op _ _ _ _ _ _ _ _ op_sub (@pe_op _ _ _ _ _ _ _ _ (op_addK (K := K) rfl) (@pe_ix _ _ _ _ _ _ _ (ix_sqK (K := K) rfl) (@pe_ix _ _ _ _ _ _ _ (ix_sqK (K := K) rfl) (pv 3) (pv 1) (fun _ _ => rfl)) (pv 4) (fun _ _ => rfl)) (@pe_ix _ _ _ _ _ _ _ (ix_sqK (K := K) rfl) (@pe_ix _ _ _ _ _ _ _ (ix_sqK (K := K) rfl) (pv 3) (pv 4) (fun _ _ => rfl)) (pv 2) (fun _ _ => rfl))) (@pe_ix _ _ _ _ _ _ _ (ix_sqK (K := K) rfl) (@pe_ix _ _ _ _ _ _ _ (ix_sqK (K := K) rfl) (pv 3) (pv 1) (fun _ _ => rfl)) (pv 2) (fun _ _ => rfl))) (@pa_consN _ _ _ _ _ _ (pv 0) pa_nil))) rfl))) pa_nil))) pss_nil))
theorem sc_with_place : FnScope ["table", "gone", "place", "at"] ["table", "gone", "place"] (defScope (top 5)) := ⟨rfl, rfl, rfl, by decide +kernel, rfl, by decide +kernel, by decide +kernel⟩
def T_with_place (K : PySem.W.Frag)  (sp_least_spot : Sp) : TS := (tSeq (tAsg (tOp (rIx2 K) (tCall sp_least_spot [] E0 (tCons (tVar 0) (tCons (tVar 1) (tCons (tVar 2) tNil)))) (tC (.int 1))) (gName 3)) (tSeq (tRet (tOp (rAddA K) (tOp (rAddA K) (tSl (rSlU K) (tVar 1) tNoPart (tPart (tOp (rAddA K) (tVar 3) (tC (.int 1))))) (tTup (tCons (tVar 2) tNil))) (tSl (rSlU K) (tVar 1) (tPart (tOp (rAddA K) (tVar 3) (tC (.int 1)))) tNoPart))) tNext))
theorem ok_with_place (F : Fun K "with_place" "with_place" (top 5) f fd) (B : Blt4 mg)    {sp_least_spot : Sp} (D_least_spot : Def P w K mg base "least_spot" 1 ["table", "gone", "place"] sp_least_spot)  {sp : Sp} (len : ∀ vs H Q E, sp vs H Q E → vs.length = 3)
    (rd : ∀ vs H Q E, sp vs H Q E → T_with_place K  sp_least_spot { nx := fun _ H' => Q .non H', rt := Q } (start ["table", "gone", "place", "at"] vs) H) : FnOk P w K mg base CX0 2 f fd ["table", "gone", "place"] sp := by
  refine F.ok sc_with_place len (fun cdv A outer s H vs Q E hr h => ⟨_, ?_, rd vs H Q E h⟩)
  have nd := sc_with_place.nd
  exact (@pss_cons _ _ _ _ _ (@ps_set _ _ 3 _ _ _ _ nd rfl (Or.inl rfl) (@pe_ix _ _ _ _ _ _ _ (ix_sqK (K := K) rfl) (pe_def (D_least_spot.mono (by decide)) hr rfl (@pa_consN _ _ _ _ _ _ (pv 0) (@pa_consN _ _ _ _ _ _ (pv 1) (@pa_consN _ _ _ _ _ _ (pv 2) pa_nil)))) pe_int (fun _ _ => rfl)) (by rfl) (by first | exact .inl rfl | exact .inr rfl | assumption)) (@pss_cons _ _ _ _ _ (@ps_ret _ _ _ _ (@pe_op _ _ _ _ _ _ _ _ (op_addK (K := K) rfl) (@pe_op _ _ _ _ _ _ _ _ (op_addK (K := K) rfl) (pe_slice (sl_uK (K := K) rfl) (pv 1) po_none (po_some (@pe_op _ _ _ _ _ _ _ _ (op_addK (K := K) rfl) (pv 3) pe_int))) (@pe_tup _ _ _ _ _ (@pa_consN _ _ _ _ _ _ (pv 2) pa_nil))) (pe_slice (sl_uK (K := K) rfl) (pv 1) (po_some (@pe_op _ _ _ _ _ _ _ _ (op_addK (K := K) rfl) (pv 3) pe_int)) po_none))) pss_nil))
theorem sc_way_to : FnScope ["table", "gone", "place"] ["table", "gone", "place"] (defScope (top 6)) := ⟨rfl, rfl, rfl, by decide +kernel, rfl, by decide +kernel, by decide +kernel⟩
def T_way_to (K : PySem.W.Frag)   : TS := (tSeq (tRet (tCB (rMinA K) (tCons (tComp [none, some 0, some 2] (iSeq K (tVar 1)) (gName 0) [] fun acc => (tEmit (tOp (rIx2 K) (tOp (rIx2 K) (tVar 1) (tVar 0)) (tVar 2)) acc)) tNil))) tNext)
theorem ok_way_to (F : Fun K "way_to" "way_to" (top 6) f fd) (B : Blt4 mg)      {sp : Sp} (len : ∀ vs H Q E, sp vs H Q E → vs.length = 3)
    (rd : ∀ vs H Q E, sp vs H Q E → T_way_to K   { nx := fun _ H' => Q .non H', rt := Q } (start ["table", "gone", "place"] vs) H) : FnOk P w K mg base CX0 1 f fd ["table", "gone", "place"] sp := by
  refine F.ok sc_way_to len (fun cdv A outer s H vs Q E hr h => ⟨_, ?_, rd vs H Q E h⟩)
  have nd := sc_way_to.nd
  exact (@pss_cons _ _ _ _ _ (@ps_ret _ _ _ _ (pe_callB (call_minAK (K := K) rfl hr rfl) rfl B.min bt_min (pa_cons (pe_comp (N' := ["one", "table", "place"]) (ix := [none, some 0, some 2]) rfl rfl rfl (pi_seqK (K := K) rfl (pv 1)) (fun _ _ _ => (pg_name (i := 0) (show (["one", "table", "place"] : List Str).Nodup from by decide +kernel) rfl (Or.inl rfl))) (fun _ _ _ => .nil) (fun _ _ _ _ => (pb_emit rfl (@pe_ix _ _ _ _ _ _ _ (ix_sqK (K := K) rfl) (@pe_ix _ _ _ _ _ _ _ (ix_sqK (K := K) rfl) (pv 1) (pv 0) (fun _ _ => rfl)) (pv 2) (fun _ _ => rfl)) rfl))) pa_nil))) pss_nil)
theorem sc_cheapest : FnScope ["table", "gone", "more", "place"] ["table"] (defScope (top 7)) := ⟨rfl, rfl, rfl, by decide +kernel, rfl, by decide +kernel, by decide +kernel⟩
def T_cheapest (K : PySem.W.Frag)  (sp_least_spot : Sp) (sp_places_left_puttings : Sp) (sp_with_place : Sp) : TS := (tSeq (tAsg (tTup (tCons (tC (.int 0)) tNil)) (gName 1)) (tSeq (tWhile (tTest (tOp yLt (tCB (rLen K) (tCons (tVar 1) tNil)) (tCB (rLen K) (tCons (tVar 0) tNil)))) (tSeq (tAsg (tCB (rMinA K) (tCons (tComp [none, some 0, some 1] (iSeq K (tCall sp_places_left_puttings [] E0 (tCons (tVar 0) (tCons (tVar 1) tNil)))) (gName 0) [] fun acc => (tEmit (tTup (tCons (tOp (rIx2 K) (tCall sp_least_spot [] E0 (tCons (tVar 1) (tCons (tVar 2) (tCons (tVar 0) tNil)))) (tC (.int 0))) (tCons (tVar 0) tNil))) acc)) tNil)) (gTup K 2 (gCons (gName 2) (gCons (gName 3) gNil)))) (tSeq (tAsg (tCall sp_with_place [] E0 (tCons (tVar 0) (tCons (tVar 1) (tCons (tVar 3) tNil)))) (gName 1)) tNext))) (tSeq (tRet (tVar 1)) tNext)))
theorem ok_cheapest (F : Fun K "cheapest" "cheapest" (top 7) f fd) (B : Blt4 mg)    {sp_least_spot : Sp} (D_least_spot : Def P w K mg base "least_spot" 1 ["table", "gone", "place"] sp_least_spot) {sp_places_left_puttings : Sp} (D_places_left_puttings : Def P w K mg base "places_left_puttings" 1 ["table", "gone"] sp_places_left_puttings) {sp_with_place : Sp} (D_with_place : Def P w K mg base "with_place" 2 ["table", "gone", "place"] sp_with_place)  {sp : Sp} (len : ∀ vs H Q E, sp vs H Q E → vs.length = 1)
    (rd : ∀ vs H Q E, sp vs H Q E → T_cheapest K  sp_least_spot sp_places_left_puttings sp_with_place { nx := fun _ H' => Q .non H', rt := Q } (start ["table", "gone", "more", "place"] vs) H) : FnOk P w K mg base CX0 3 f fd ["table"] sp := by
  refine F.ok sc_cheapest len (fun cdv A outer s H vs Q E hr h => ⟨_, ?_, rd vs H Q E h⟩)
  have nd := sc_cheapest.nd
  exact (@pss_cons _ _ _ _ _ (@ps_set _ _ 1 _ _ _ _ nd rfl (Or.inr rfl) (@pe_tup _ _ _ _ _ (@pa_consC _ _ _ _ _ _ _ pe_int pa_nil)) (by rfl) (by first | exact .inl rfl | exact .inr rfl | assumption)) (@pss_cons _ _ _ _ _ (ps_while PassesOwn.never (pt_cmpR op_lt (pe_callB (call_lenK (K := K) rfl) rfl B.len bt_len (@pa_consN _ _ _ _ _ _ (pv 1) pa_nil)) (pe_callB (call_lenK (K := K) rfl) rfl B.len bt_len (@pa_consN _ _ _ _ _ _ (pv 0) pa_nil)) (nomark _)) (@pss_cons _ _ _ _ _ (ps_asg (pe_callB (call_minAK (K := K) rfl hr rfl) rfl B.min bt_min (pa_cons (pe_comp (N' := ["left", "table", "gone"]) (ix := [none, some 0, some 1]) rfl rfl rfl (pi_seqK (K := K) rfl (pe_def (D_places_left_puttings.mono (by decide)) hr rfl (@pa_consN _ _ _ _ _ _ (pv 0) (@pa_consN _ _ _ _ _ _ (pv 1) pa_nil)))) (fun _ _ _ => (pg_name (i := 0) (show (["left", "table", "gone"] : List Str).Nodup from by decide +kernel) rfl (Or.inl rfl))) (fun _ _ _ => .nil) (fun _ _ _ _ => (pb_emit rfl (@pe_tup _ _ _ _ _ (@pa_consS _ _ _ _ _ _ _ (@pe_ix _ _ _ _ _ _ _ (ix_sqK (K := K) rfl) (pe_def (D_least_spot.mono (by decide)) hr rfl (@pa_consN _ _ _ _ _ _ (pv 1) (@pa_consN _ _ _ _ _ _ (pv 2) (@pa_consN _ _ _ _ _ _ (pv 0) pa_nil)))) pe_int (fun _ _ => rfl)) (@pa_consN _ _ _ _ _ _ (pv 0) pa_nil))) rfl))) pa_nil)) (pg_tupK (K := K) rfl rfl (pgs_cons (pg_name (i := 2) nd rfl (Or.inl rfl)) (pgs_cons (pg_name (i := 3) nd rfl (Or.inl rfl)) pgs_nil)))) (@pss_cons _ _ _ _ _ (@ps_set _ _ 1 _ _ _ _ nd rfl (Or.inr rfl) (pe_def (D_with_place.mono (by decide)) hr rfl (@pa_consN _ _ _ _ _ _ (pv 0) (@pa_consN _ _ _ _ _ _ (pv 1) (@pa_consN _ _ _ _ _ _ (pv 3) pa_nil)))) (by rfl) (by first | exact .inl rfl | exact .inr rfl | assumption)) pss_nil))) (@pss_cons _ _ _ _ _ (@ps_ret _ _ _ _ (pv 1)) pss_nil)))
theorem sc_near : FnScope ["table", "gone", "way", "place"] ["table"] (defScope (top 8)) := ⟨rfl, rfl, rfl, by decide +kernel, rfl, by decide +kernel, by decide +kernel⟩
def T_near (K : PySem.W.Frag)  (sp_places_left_puttings : Sp) (sp_way_to : Sp) (sp_with_place : Sp) : TS := (tSeq (tAsg (tTup (tCons (tC (.int 0)) tNil)) (gName 1)) (tSeq (tWhile (tTest (tOp yLt (tCB (rLen K) (tCons (tVar 1) tNil)) (tCB (rLen K) (tCons (tVar 0) tNil)))) (tSeq (tAsg (tCB (rMinA K) (tCons (tComp [none, some 0, some 1] (iSeq K (tCall sp_places_left_puttings [] E0 (tCons (tVar 0) (tCons (tVar 1) tNil)))) (gName 0) [] fun acc => (tEmit (tTup (tCons (tCall sp_way_to [] E0 (tCons (tVar 1) (tCons (tVar 2) (tCons (tVar 0) tNil)))) (tCons (tVar 0) tNil))) acc)) tNil)) (gTup K 2 (gCons (gName 2) (gCons (gName 3) gNil)))) (tSeq (tAsg (tCall sp_with_place [] E0 (tCons (tVar 0) (tCons (tVar 1) (tCons (tVar 3) tNil)))) (gName 1)) tNext))) (tSeq (tRet (tVar 1)) tNext)))
theorem ok_near (F : Fun K "near" "near" (top 8) f fd) (B : Blt4 mg)    {sp_places_left_puttings : Sp} (D_places_left_puttings : Def P w K mg base "places_left_puttings" 1 ["table", "gone"] sp_places_left_puttings) {sp_way_to : Sp} (D_way_to : Def P w K mg base "way_to" 1 ["table", "gone", "place"] sp_way_to) {sp_with_place : Sp} (D_with_place : Def P w K mg base "with_place" 2 ["table", "gone", "place"] sp_with_place)  {sp : Sp} (len : ∀ vs H Q E, sp vs H Q E → vs.length = 1)
    (rd : ∀ vs H Q E, sp vs H Q E → T_near K  sp_places_left_puttings sp_way_to sp_with_place { nx := fun _ H' => Q .non H', rt := Q } (start ["table", "gone", "way", "place"] vs) H) : FnOk P w K mg base CX0 3 f fd ["table"] sp := by
  refine F.ok sc_near len (fun cdv A outer s H vs Q E hr h => ⟨_, ?_, rd vs H Q E h⟩)
  have nd := sc_near.nd
  exact (@pss_cons _ _ _ _ _ (@ps_set _ _ 1 _ _ _ _ nd rfl (Or.inr rfl) (@pe_tup _ _ _ _ _ (@pa_consC _ _ _ _ _ _ _ pe_int pa_nil)) (by rfl) (by first | exact .inl rfl | exact .inr rfl | assumption)) (@pss_cons _ _ _ _ _ (ps_while PassesOwn.never (pt_cmpR op_lt (pe_callB (call_lenK (K := K) rfl) rfl B.len bt_len (@pa_consN _ _ _ _ _ _ (pv 1) pa_nil)) (pe_callB (call_lenK (K := K) rfl) rfl B.len bt_len (@pa_consN _ _ _ _ _ _ (pv 0) pa_nil)) (nomark _)) (@pss_cons _ _ _ _ _ (ps_asg (pe_callB (call_minAK (K := K) rfl hr rfl) rfl B.min bt_min (pa_cons (pe_comp (N' := ["left", "table", "gone"]) (ix := [none, some 0, some 1]) rfl rfl rfl (pi_seqK (K := K) rfl (pe_def (D_places_left_puttings.mono (by decide)) hr rfl (@pa_consN _ _ _ _ _ _ (pv 0) (@pa_consN _ _ _ _ _ _ (pv 1) pa_nil)))) (fun _ _ _ => (pg_name (i := 0) (show (["left", "table", "gone"] : List Str).Nodup from by decide +kernel) rfl (Or.inl rfl))) (fun _ _ _ => .nil) (fun _ _ _ _ => (pb_emit rfl (@pe_tup _ _ _ _ _ (@pa_consK _ _ _ _ _ _ _ _ (pe_def (D_way_to.mono (by decide)) hr rfl (@pa_consN _ _ _ _ _ _ (pv 1) (@pa_consN _ _ _ _ _ _ (pv 2) (@pa_consN _ _ _ _ _ _ (pv 0) pa_nil)))) (@pa_consN _ _ _ _ _ _ (pv 0) pa_nil))) rfl))) pa_nil)) (pg_tupK (K := K) rfl rfl (pgs_cons (pg_name (i := 2) nd rfl (Or.inl rfl)) (pgs_cons (pg_name (i := 3) nd rfl (Or.inl rfl)) pgs_nil)))) (@pss_cons _ _ _ _ _ (@ps_set _ _ 1 _ _ _ _ nd rfl (Or.inr rfl) (pe_def (D_with_place.mono (by decide)) hr rfl (@pa_consN _ _ _ _ _ _ (pv 0) (@pa_consN _ _ _ _ _ _ (pv 1) (@pa_consN _ _ _ _ _ _ (pv 3) pa_nil)))) (by rfl) (by first | exact .inl rfl | exact .inr rfl | assumption)) pss_nil))) (@pss_cons _ _ _ _ _ (@ps_ret _ _ _ _ (pv 1)) pss_nil)))
theorem sc_far : FnScope ["table", "gone", "turned", "place"] ["table"] (defScope (top 9)) := ⟨rfl, rfl, rfl, by decide +kernel, rfl, by decide +kernel, by decide +kernel⟩
def T_far (K : PySem.W.Frag)  (sp_places_left_puttings : Sp) (sp_way_to : Sp) (sp_with_place : Sp) : TS := (tSeq (tAsg (tTup (tCons (tC (.int 0)) tNil)) (gName 1)) (tSeq (tWhile (tTest (tOp yLt (tCB (rLen K) (tCons (tVar 1) tNil)) (tCB (rLen K) (tCons (tVar 0) tNil)))) (tSeq (tAsg (tCB (rMinA K) (tCons (tComp [none, some 0, some 1] (iSeq K (tCall sp_places_left_puttings [] E0 (tCons (tVar 0) (tCons (tVar 1) tNil)))) (gName 0) [] fun acc => (tEmit (tTup (tCons (tUn yNeg (tCall sp_way_to [] E0 (tCons (tVar 1) (tCons (tVar 2) (tCons (tVar 0) tNil))))) (tCons (tVar 0) tNil))) acc)) tNil)) (gTup K 2 (gCons (gName 2) (gCons (gName 3) gNil)))) (tSeq (tAsg (tCall sp_with_place [] E0 (tCons (tVar 0) (tCons (tVar 1) (tCons (tVar 3) tNil)))) (gName 1)) tNext))) (tSeq (tRet (tVar 1)) tNext)))
theorem ok_far (F : Fun K "far" "far" (top 9) f fd) (B : Blt4 mg)    {sp_places_left_puttings : Sp} (D_places_left_puttings : Def P w K mg base "places_left_puttings" 1 ["table", "gone"] sp_places_left_puttings) {sp_way_to : Sp} (D_way_to : Def P w K mg base "way_to" 1 ["table", "gone", "place"] sp_way_to) {sp_with_place : Sp} (D_with_place : Def P w K mg base "with_place" 2 ["table", "gone", "place"] sp_with_place)  {sp : Sp} (len : ∀ vs H Q E, sp vs H Q E → vs.length = 1)
    (rd : ∀ vs H Q E, sp vs H Q E → T_far K  sp_places_left_puttings sp_way_to sp_with_place { nx := fun _ H' => Q .non H', rt := Q } (start ["table", "gone", "turned", "place"] vs) H) : FnOk P w K mg base CX0 3 f fd ["table"] sp := by
  refine F.ok sc_far len (fun cdv A outer s H vs Q E hr h => ⟨_, ?_, rd vs H Q E h⟩)
  have nd := sc_far.nd
  exact (@pss_cons _ _ _ _ _ (@ps_set _ _ 1 _ _ _ _ nd rfl (Or.inr rfl) (@pe_tup _ _ _ _ _ (@pa_consC _ _ _ _ _ _ _ pe_int pa_nil)) (by rfl) (by first | exact .inl rfl | exact .inr rfl | assumption)) (@pss_cons _ _ _ _ _ (ps_while PassesOwn.never (pt_cmpR op_lt (pe_callB (call_lenK (K := K) rfl) rfl B.len bt_len (@pa_consN _ _ _ _ _ _ (pv 1) pa_nil)) (pe_callB (call_lenK (K := K) rfl) rfl B.len bt_len (@pa_consN _ _ _ _ _ _ (pv 0) pa_nil)) (nomark _)) (@pss_cons _ _ _ _ _ (ps_asg (pe_callB (call_minAK (K := K) rfl hr rfl) rfl B.min bt_min (pa_cons (pe_comp (N' := ["left", "table", "gone"]) (ix := [none, some 0, some 1]) rfl rfl rfl (pi_seqK (K := K) rfl (pe_def (D_places_left_puttings.mono (by decide)) hr rfl (@pa_consN _ _ _ _ _ _ (pv 0) (@pa_consN _ _ _ _ _ _ (pv 1) pa_nil)))) (fun _ _ _ => (pg_name (i := 0) (show (["left", "table", "gone"] : List Str).Nodup from by decide +kernel) rfl (Or.inl rfl))) (fun _ _ _ => .nil) (fun _ _ _ _ => (pb_emit rfl (@pe_tup _ _ _ _ _ (@pa_consU _ _ _ _ _ _ _ (pe_un un_neg (pe_def (D_way_to.mono (by decide)) hr rfl (@pa_consN _ _ _ _ _ _ (pv 1) (@pa_consN _ _ _ _ _ _ (pv 2) (@pa_consN _ _ _ _ _ _ (pv 0) pa_nil))))) (@pa_consN _ _ _ _ _ _ (pv 0) pa_nil))) rfl))) pa_nil)) (pg_tupK (K := K) rfl rfl (pgs_cons (pg_name (i := 2) nd rfl (Or.inl rfl)) (pgs_cons (pg_name (i := 3) nd rfl (Or.inl rfl)) pgs_nil)))) (@pss_cons _ _ _ _ _ (@ps_set _ _ 1 _ _ _ _ nd rfl (Or.inr rfl) (pe_def (D_with_place.mono (by decide)) hr rfl (@pa_consN _ _ _ _ _ _ (pv 0) (@pa_consN _ _ _ _ _ _ (pv 1) (@pa_consN _ _ _ _ _ _ (pv 3) pa_nil)))) (by rfl) (by first | exact .inl rfl | exact .inr rfl | assumption)) pss_nil))) (@pss_cons _ _ _ _ _ (@ps_ret _ _ _ _ (pv 1)) pss_nil)))
theorem sc_is_whole : FnScope ["thing"] ["thing"] (defScope (top 11)) := ⟨rfl, rfl, rfl, by decide +kernel, rfl, by decide +kernel, by decide +kernel⟩
def T_is_whole (K : PySem.W.Frag)   : TS := (tSeq (tRet (tAndV (tCB (rIsi K) (tCons (tVar 0) (tCons (tC (.ty "int")) tNil))) (tNotV (tCB (rIsi K) (tCons (tVar 0) (tCons (tC (.ty "bool")) tNil)))))) tNext)
theorem ok_is_whole (F : Fun K "is_whole" "is_whole" (top 11) f fd) (B : Blt4 mg)      {sp : Sp} (len : ∀ vs H Q E, sp vs H Q E → vs.length = 1)
    (rd : ∀ vs H Q E, sp vs H Q E → T_is_whole K   { nx := fun _ H' => Q .non H', rt := Q } (start ["thing"] vs) H) : FnOk P w K mg base CX0 1 f fd ["thing"] sp := by
  refine F.ok sc_is_whole len (fun cdv A outer s H vs Q E hr h => ⟨_, ?_, rd vs H Q E h⟩)
  have nd := sc_is_whole.nd
  exact (@pss_cons _ _ _ _ _ (@ps_ret _ _ _ _ (pe_and (pe_callB (call_isiK (K := K) rfl) rfl B.isi bt_isi (@pa_consN _ _ _ _ _ _ (pv 0) (@pa_consN _ _ _ _ _ _ (pe_bltn (v := .ty "int") rfl B.int bt_int rfl) pa_nil))) (pe_one (pe_not (pe_callB (call_isiK (K := K) rfl) rfl B.isi bt_isi (@pa_consN _ _ _ _ _ _ (pv 0) (@pa_consN _ _ _ _ _ _ (pe_bltn (v := .ty "bool") rfl B.bool bt_bool rfl) pa_nil))))))) pss_nil)
theorem sc_are_wholes : FnScope ["thing"] ["thing"] (defScope (top 12)) := ⟨rfl, rfl, rfl, by decide +kernel, rfl, by decide +kernel, by decide +kernel⟩
def T_are_wholes (K : PySem.W.Frag)  (sp_is_whole : Sp) : TS := (tSeq (tRet (tAndV (tCB (rIsi K) (tCons (tVar 0) (tCons (tC (.ty "tuple")) tNil))) (tCB (rAll K) (tCons (tComp [none] (iSeq K (tVar 0)) (gName 0) [] fun acc => (tEmit (tCall sp_is_whole [] E0 (tCons (tVar 0) tNil)) acc)) tNil)))) tNext)
theorem ok_are_wholes (F : Fun K "are_wholes" "are_wholes" (top 12) f fd) (B : Blt4 mg)    {sp_is_whole : Sp} (D_is_whole : Def P w K mg base "is_whole" 1 ["thing"] sp_is_whole)  {sp : Sp} (len : ∀ vs H Q E, sp vs H Q E → vs.length = 1)
    (rd : ∀ vs H Q E, sp vs H Q E → T_are_wholes K  sp_is_whole { nx := fun _ H' => Q .non H', rt := Q } (start ["thing"] vs) H) : FnOk P w K mg base CX0 2 f fd ["thing"] sp := by
  refine F.ok sc_are_wholes len (fun cdv A outer s H vs Q E hr h => ⟨_, ?_, rd vs H Q E h⟩)
  have nd := sc_are_wholes.nd
  exact (@pss_cons _ _ _ _ _ (@ps_ret _ _ _ _ (pe_and (pe_callB (call_isiK (K := K) rfl) rfl B.isi bt_isi (@pa_consN _ _ _ _ _ _ (pv 0) (@pa_consN _ _ _ _ _ _ (pe_bltn (v := .ty "tuple") rfl B.tuple bt_tuple rfl) pa_nil))) (pe_one (pe_callB (call_allK (K := K) rfl rfl) rfl B.all bt_all (pa_cons (pe_comp (N' := ["part"]) (ix := [none]) rfl rfl rfl (pi_seqK (K := K) rfl (pv 0)) (fun _ _ _ => (pg_name (i := 0) (show (["part"] : List Str).Nodup from by decide +kernel) rfl (Or.inl rfl))) (fun _ _ _ => .nil) (fun _ _ _ _ => (pb_emit rfl (pe_def (D_is_whole.mono (by decide)) hr rfl (@pa_consN _ _ _ _ _ _ (pv 0) pa_nil)) rfl))) pa_nil))))) pss_nil)
theorem sc_shortest : FnScope ["table", "rests", "floors"] ["table"] (defScope (top 15)) := ⟨rfl, rfl, rfl, by decide +kernel, rfl, by decide +kernel, by decide +kernel⟩
def T_shortest (K : PySem.W.Frag) (C_START : Addr) (sp_least_rests : Sp) (sp_round_by_rests : Sp) : TS := (tSeq (tAsg (tCall sp_least_rests [] E0 (tCons (tVar 0) tNil)) (gName 1)) (tSeq (tAsg (tComp [none, none, none] (iItems (tVar 1)) (gTup K 2 (gCons (gTup K 2 (gCons (gName 0) (gCons (gName 1) gNil))) (gCons (gName 2) gNil))) [] fun acc => (tEmit (tTup (tCons (tVar 0) (tCons (tVar 1) (tCons (tVar 2) tNil)))) acc)) (gName 2)) (tSeq (tRet (tTup (tCons (tPGet K (tVar 1) (tC (.ref C_START))) (tCons (tCall sp_round_by_rests [] E0 (tCons (tVar 0) (tCons (tVar 1) tNil))) (tCons (tVar 2) tNil))))) tNext)))
theorem ok_shortest (F : Fun K "shortest" "shortest" (top 15) f fd) (B : Blt4 mg)  {C_START : Addr} (GC_START : mg "START" = some (.ref C_START))  {sp_least_rests : Sp} (D_least_rests : Def P w K mg base "least_rests" 3 ["table"] sp_least_rests) {sp_round_by_rests : Sp} (D_round_by_rests : Def P w K mg base "round_by_rests" 3 ["table", "rests"] sp_round_by_rests)  {sp : Sp} (len : ∀ vs H Q E, sp vs H Q E → vs.length = 1)
    (rd : ∀ vs H Q E, sp vs H Q E → T_shortest K C_START sp_least_rests sp_round_by_rests { nx := fun _ H' => Q .non H', rt := Q } (start ["table", "rests", "floors"] vs) H) : FnOk P w K mg base CX0 4 f fd ["table"] sp := by
  refine F.ok sc_shortest len (fun cdv A outer s H vs Q E hr h => ⟨_, ?_, rd vs H Q E h⟩)
  have nd := sc_shortest.nd
  exact (@pss_cons _ _ _ _ _ (@ps_set _ _ 1 _ _ _ _ nd rfl (Or.inl rfl) (pe_def (D_least_rests.mono (by decide)) hr rfl (@pa_consN _ _ _ _ _ _ (pv 0) pa_nil)) (by rfl) (by first | exact .inl rfl | exact .inr rfl | assumption)) (@pss_cons _ _ _ _ _ (ps_setComp (i := 2) nd rfl (Or.inl rfl) (N' := ["some", "last", "rest"]) (ix := [none, none, none]) rfl rfl rfl (pi_items (pv 1)) (fun _ _ _ => (pg_tupK (K := K) rfl rfl (pgs_cons (pg_tupK (K := K) rfl rfl (pgs_cons (pg_name (i := 0) (show (["some", "last", "rest"] : List Str).Nodup from by decide +kernel) rfl (Or.inl rfl)) (pgs_cons (pg_name (i := 1) (show (["some", "last", "rest"] : List Str).Nodup from by decide +kernel) rfl (Or.inl rfl)) pgs_nil))) (pgs_cons (pg_name (i := 2) (show (["some", "last", "rest"] : List Str).Nodup from by decide +kernel) rfl (Or.inl rfl)) pgs_nil)))) (fun _ _ _ => .nil) (fun _ _ _ _ => (pb_emit rfl (@pe_tup _ _ _ _ _ (@pa_consN _ _ _ _ _ _ (pv 0) (@pa_consN _ _ _ _ _ _ (pv 1) (@pa_consN _ _ _ _ _ _ (pv 2) pa_nil)))) rfl))) (@pss_cons _ _ _ _ _ (@ps_ret _ _ _ _ (@pe_tup _ _ _ _ _ (@pa_consS _ _ _ _ _ _ _ (pe_pget (K := K) rfl (hu6 hr) (pv 1) (pe_glob (v := .ref C_START) rfl GC_START rfl) (fun _ _ => rfl)) (@pa_consK _ _ _ _ _ _ _ _ (pe_def (D_round_by_rests.mono (by decide)) hr rfl (@pa_consN _ _ _ _ _ _ (pv 0) (@pa_consN _ _ _ _ _ _ (pv 1) pa_nil))) (@pa_consN _ _ _ _ _ _ (pv 2) pa_nil))))) pss_nil)))
theorem sc_least_rests : FnScope ["table", "rests", "some", "last"] ["table"] (defScope (top 16)) := ⟨rfl, rfl, rfl, by decide +kernel, rfl, by decide +kernel, by decide +kernel⟩
def T_least_rests (K : PySem.W.Frag)  (sp_onward : Sp) (sp_parts_with_home : Sp) : TS := (tSeq (tAsg tDNewP (gName 1)) (tSeq (tFor (iRev K (tCons (tCall sp_parts_with_home [] E0 (tCons (tCB (rLen K) (tCons (tVar 0) tNil)) tNil)) tNil)) (gName 2) (tSeq (tFor (iSeq K (tOrT K (tSl (rSlU K) (tVar 2) (tPart (tC (.int 1))) tNoPart) (tVar 2))) (gName 3) (tSeq (tIfS (tTest (tOp (rEqD K) (tCB (rLen K) (tCons (tVar 2) tNil)) (tCB (rLen K) (tCons (tVar 0) tNil)))) (tSeq (sPPut (tVar 1) (tTup (tCons (tVar 2) (tCons (tVar 3) tNil))) (tOp (rIx2 K) (tOp (rIx2 K) (tVar 0) (tVar 3)) (tC (.int 0)))) tNext) (tSeq (sPPut (tVar 1) (tTup (tCons (tVar 2) (tCons (tVar 3) tNil))) (tOp (rIx2 K) (tCB (rMinA K) (tCons (tCall sp_onward [] E0 (tCons (tVar 0) (tCons (tVar 1) (tCons (tVar 2) (tCons (tVar 3) tNil))))) tNil)) (tC (.int 0)))) tNext)) tNext)) tNext)) (tSeq (tRet (tVar 1)) tNext)))
theorem ok_least_rests (F : Fun K "least_rests" "least_rests" (top 16) f fd) (B : Blt4 mg)    {sp_onward : Sp} (D_onward : Def P w K mg base "onward" 2 ["table", "rests", "some", "last"] sp_onward) {sp_parts_with_home : Sp} (D_parts_with_home : Def P w K mg base "parts_with_home" 1 ["many"] sp_parts_with_home)  {sp : Sp} (len : ∀ vs H Q E, sp vs H Q E → vs.length = 1)
    (rd : ∀ vs H Q E, sp vs H Q E → T_least_rests K  sp_onward sp_parts_with_home { nx := fun _ H' => Q .non H', rt := Q } (start ["table", "rests", "some", "last"] vs) H) : FnOk P w K mg base CX0 3 f fd ["table"] sp := by
  refine F.ok sc_least_rests len (fun cdv A outer s H vs Q E hr h => ⟨_, ?_, rd vs H Q E h⟩)
  have nd := sc_least_rests.nd
  exact (@pss_cons _ _ _ _ _ (@ps_set _ _ 1 _ _ _ _ nd rfl (Or.inl rfl) pe_dnewP (by rfl) (by first | exact .inl rfl | exact .inr rfl | assumption)) (@pss_cons _ _ _ _ _ (ps_for PassesOwn.never rfl (pi_rev (K := K) rfl rfl B.reversed (@pa_consK _ _ _ _ _ _ _ _ (pe_def (D_parts_with_home.mono (by decide)) hr rfl (@pa_consK _ _ _ _ _ _ _ _ (pe_callB (call_lenK (K := K) rfl) rfl B.len bt_len (@pa_consN _ _ _ _ _ _ (pv 0) pa_nil)) pa_nil)) pa_nil)) (pg_name (i := 2) nd rfl (Or.inl rfl)) (@pss_cons _ _ _ _ _ (ps_for PassesOwn.never rfl (pi_seqK (K := K) rfl (pe_orT (K := K) rfl (pe_slice (sl_uK (K := K) rfl) (pv 2) (po_some pe_int) po_none) (pe_one (pv 2)))) (pg_name (i := 3) nd rfl (Or.inl rfl)) (@pss_cons _ _ _ _ _ (@ps_if _ _ _ _ _ _ _ _ (pt_cmpR (op_eqK (K := K) rfl hr) (pe_callB (call_lenK (K := K) rfl) rfl B.len bt_len (@pa_consN _ _ _ _ _ _ (pv 2) pa_nil)) (pe_callB (call_lenK (K := K) rfl) rfl B.len bt_len (@pa_consN _ _ _ _ _ _ (pv 0) pa_nil)) (nomark _)) (@pss_cons _ _ _ _ _ (ps_pput (hu6 hr) (pv 1) (@pe_tup _ _ _ _ _ (@pa_consN _ _ _ _ _ _ (pv 2) (@pa_consN _ _ _ _ _ _ (pv 3) pa_nil))) (@pe_ix _ _ _ _ _ _ _ (ix_sqK (K := K) rfl) (@pe_ix _ _ _ _ _ _ _ (ix_sqK (K := K) rfl) (pv 0) (pv 3) (fun _ _ => rfl)) pe_int (fun _ _ => rfl)) rfl) pss_nil) (@pss_cons _ _ _ _ _ (ps_pput (hu6 hr) (pv 1) (@pe_tup _ _ _ _ _ (@pa_consN _ _ _ _ _ _ (pv 2) (@pa_consN _ _ _ _ _ _ (pv 3) pa_nil))) (@pe_ix _ _ _ _ _ _ _ (ix_sqK (K := K) rfl) (pe_callB (call_minAK (K := K) rfl hr rfl) rfl B.min bt_min (@pa_consK _ _ _ _ _ _ _ _ (pe_def (D_onward.mono (by decide)) hr rfl (@pa_consN _ _ _ _ _ _ (pv 0) (@pa_consN _ _ _ _ _ _ (pv 1) (@pa_consN _ _ _ _ _ _ (pv 2) (@pa_consN _ _ _ _ _ _ (pv 3) pa_nil))))) pa_nil)) pe_int (fun _ _ => rfl)) rfl) pss_nil)) pss_nil)) pss_nil)) (@pss_cons _ _ _ _ _ (@ps_ret _ _ _ _ (pv 1)) pss_nil)))
theorem sc_parts_with_home : FnScope ["many", "parts", "place"] ["many"] (defScope (top 17)) := ⟨rfl, rfl, rfl, by decide +kernel, rfl, by decide +kernel, by decide +kernel⟩
def T_parts_with_home (K : PySem.W.Frag)   : TS := (tSeq (tAsg (tLst (tCons (tTup (tCons (tC (.int 0)) tNil)) tNil)) (gName 1)) (tSeq (tFor (iRng2 (tCons (tC (.int 1)) (tCons (tVar 0) tNil))) (gName 2) (tSeq (tAsg (tOp (rAddA K) (tVar 1) (tComp [none, some 2] (iSeq K (tVar 1)) (gName 0) [] fun acc => (tEmit (tOp (rAddA K) (tVar 0) (tTup (tCons (tVar 1) tNil))) acc))) (gName 1)) tNext)) (tSeq (tRet (tVar 1)) tNext)))
theorem ok_parts_with_home (F : Fun K "parts_with_home" "parts_with_home" (top 17) f fd) (B : Blt4 mg)      {sp : Sp} (len : ∀ vs H Q E, sp vs H Q E → vs.length = 1)
    (rd : ∀ vs H Q E, sp vs H Q E → T_parts_with_home K   { nx := fun _ H' => Q .non H', rt := Q } (start ["many", "parts", "place"] vs) H) : FnOk P w K mg base CX0 1 f fd ["many"] sp := by
  refine F.ok sc_parts_with_home len (fun cdv A outer s H vs Q E hr h => ⟨_, ?_, rd vs H Q E h⟩)
  have nd := sc_parts_with_home.nd
  exact (@pss_cons _ _ _ _ _ (@ps_set _ _ 1 _ _ _ _ nd rfl (Or.inl rfl) (@pe_lst _ _ _ _ (@pa_consT _ _ _ _ _ _ _ (@pe_tup _ _ _ _ _ (@pa_consC _ _ _ _ _ _ _ pe_int pa_nil)) pa_nil)) (by rfl) (by first | exact .inl rfl | exact .inr rfl | assumption)) (@pss_cons _ _ _ _ _ (ps_for PassesOwn.never rfl (pi_range2 rfl B.range (@pa_consC _ _ _ _ _ _ _ pe_int (@pa_consN _ _ _ _ _ _ (pv 0) pa_nil))) (pg_name (i := 2) nd rfl (Or.inr rfl)) (@pss_cons _ _ _ _ _ (@ps_set _ _ 1 _ _ _ _ nd rfl (Or.inl rfl) (@pe_op _ _ _ _ _ _ _ _ (op_addK (K := K) rfl) (pv 1) (pe_comp (N' := ["some", "place"]) (ix := [none, some 2]) rfl rfl rfl (pi_seqK (K := K) rfl (pv 1)) (fun _ _ _ => (pg_name (i := 0) (show (["some", "place"] : List Str).Nodup from by decide +kernel) rfl (Or.inl rfl))) (fun _ _ _ => .nil) (fun _ _ _ _ => (pb_emit rfl (@pe_op _ _ _ _ _ _ _ _ (op_addK (K := K) rfl) (pv 0) (@pe_tup _ _ _ _ _ (@pa_consN _ _ _ _ _ _ (pv 1) pa_nil))) rfl)))) (by rfl) (by first | exact .inl rfl | exact .inr rfl | assumption)) pss_nil)) (@pss_cons _ _ _ _ _ (@ps_ret _ _ _ _ (pv 1)) pss_nil)))
theorem sc_joined : FnScope ["some", "place"] ["some", "place"] (defScope (top 18)) := ⟨rfl, rfl, rfl, by decide +kernel, rfl, by decide +kernel, by decide +kernel⟩
def T_joined (K : PySem.W.Frag)   : TS := (tSeq (tRet (tCB (rTuple K) (tCons (tCB (rSorted K) (tCons (tOp (rAddA K) (tVar 0) (tTup (tCons (tVar 1) tNil))) tNil)) tNil))) tNext)
theorem ok_joined (F : Fun K "joined" "joined" (top 18) f fd) (B : Blt4 mg)      {sp : Sp} (len : ∀ vs H Q E, sp vs H Q E → vs.length = 2)
    (rd : ∀ vs H Q E, sp vs H Q E → T_joined K   { nx := fun _ H' => Q .non H', rt := Q } (start ["some", "place"] vs) H) : FnOk P w K mg base CX0 1 f fd ["some", "place"] sp := by
  refine F.ok sc_joined len (fun cdv A outer s H vs Q E hr h => ⟨_, ?_, rd vs H Q E h⟩)
  have nd := sc_joined.nd
  exact (@pss_cons _ _ _ _ _ (@ps_ret _ _ _ _ (pe_callTy (call_tupleK (K := K) rfl) rfl B.tuple bt_tuple (@pa_consK _ _ _ _ _ _ _ _ (pe_callB (call_sortedK (K := K) rfl) rfl B.sorted bt_sorted (@pa_consB _ _ _ _ _ _ _ _ (@pe_op _ _ _ _ _ _ _ _ (op_addK (K := K) rfl) (pv 0) (@pe_tup _ _ _ _ _ (@pa_consN _ _ _ _ _ _ (pv 1) pa_nil))) pa_nil)) pa_nil))) pss_nil)
theorem sc_places_left_shortest : FnScope ["table", "some"] ["table", "some"] (defScope (top 19)) := ⟨rfl, rfl, rfl, by decide +kernel, rfl, by decide +kernel, by decide +kernel⟩
def T_places_left_shortest (K : PySem.W.Frag)   : TS := (tSeq (tRet (tComp [none, some 1] (iRng1 (tCons (tCB (rLen K) (tCons (tVar 0) tNil)) tNil)) (gName 0) [(tTest (tOp (rIn K true) (tVar 0) (tVar 1)))] fun acc => (tEmit (tVar 0) acc))) tNext)
theorem ok_places_left_shortest (F : Fun K "places_left" "places_left" (top 19) f fd) (B : Blt4 mg)      {sp : Sp} (len : ∀ vs H Q E, sp vs H Q E → vs.length = 2)
    (rd : ∀ vs H Q E, sp vs H Q E → T_places_left_shortest K   { nx := fun _ H' => Q .non H', rt := Q } (start ["table", "some"] vs) H) : FnOk P w K mg base CX0 1 f fd ["table", "some"] sp := by
  refine F.ok sc_places_left_shortest len (fun cdv A outer s H vs Q E hr h => ⟨_, ?_, rd vs H Q E h⟩)
  have nd := sc_places_left_shortest.nd
  exact (@pss_cons _ _ _ _ _ (@ps_ret _ _ _ _ (pe_comp (N' := ["place", "some"]) (ix := [none, some 1]) rfl rfl rfl (pi_range1 rfl B.range (@pa_consK _ _ _ _ _ _ _ _ (pe_callB (call_lenK (K := K) rfl) rfl B.len bt_len (@pa_consN _ _ _ _ _ _ (pv 0) pa_nil)) pa_nil)) (fun _ _ _ => (pg_name (i := 0) (show (["place", "some"] : List Str).Nodup from by decide +kernel) rfl (Or.inl rfl))) (fun _ _ _ => (.cons (pt_cmpR (op_notInK (K := K) rfl) (pv 0) (pv 1) rfl) .nil)) (fun _ _ _ _ => (pb_emit rfl (pv 0) rfl)))) pss_nil)
theorem sc_onward : FnScope ["table", "rests", "some", "last"] ["table", "rests", "some", "last"] (defScope (top 21)) := ⟨rfl, rfl, rfl, by decide +kernel, rfl, by decide +kernel, by decide +kernel⟩
def T_onward (K : PySem.W.Frag)  (sp_joined : Sp) (sp_places_left_shortest : Sp) : TS := (tSeq (tRet (tComp [none, some 0, some 3, some 1, some 2] (iSeq K (tCall sp_places_left_shortest [] E0 (tCons (tVar 0) (tCons (tVar 2) tNil)))) (gName 0) [] fun acc => (tEmit (tTup (tCons (tOp (rAddA K) (tOp (rIx2 K) (tOp (rIx2 K) (tVar 1) (tVar 2)) (tVar 0)) (tPGet K (tVar 3) (tTup (tCons (tCall sp_joined [] E0 (tCons (tVar 4) (tCons (tVar 0) tNil))) (tCons (tVar 0) tNil))))) (tCons (tVar 0) tNil))) acc))) tNext)
theorem ok_onward (F : Fun K "onward" "onward" (top 21) f fd) (B : Blt4 mg)    {sp_joined : Sp} (D_joined : Def P w K mg base "joined" 1 ["some", "place"] sp_joined) {sp_places_left_shortest : Sp} (D_places_left_shortest : Def P w K mg base "places_left_shortest" 1 ["table", "some"] sp_places_left_shortest)  {sp : Sp} (len : ∀ vs H Q E, sp vs H Q E → vs.length = 4)
    (rd : ∀ vs H Q E, sp vs H Q E → T_onward K  sp_joined sp_places_left_shortest { nx := fun _ H' => Q .non H', rt := Q } (start ["table", "rests", "some", "last"] vs) H) : FnOk P w K mg base CX0 2 f fd ["table", "rests", "some", "last"] sp := by
  refine F.ok sc_onward len (fun cdv A outer s H vs Q E hr h => ⟨_, ?_, rd vs H Q E h⟩)
  have nd := sc_onward.nd
  exact (@pss_cons _ _ _ _ _ (@ps_ret _ _ _ _ (pe_comp (N' := ["place", "table", "last", "rests", "some"]) (ix := [none, some 0, some 3, some 1, some 2]) rfl rfl rfl (pi_seqK (K := K) rfl (pe_def (D_places_left_shortest.mono (by decide)) hr rfl (@pa_consN _ _ _ _ _ _ (pv 0) (@pa_consN _ _ _ _ _ _ (pv 2) pa_nil)))) (fun _ _ _ => (pg_name (i := 0) (show (["place", "table", "last", "rests", "some"] : List Str).Nodup from by decide +kernel) rfl (Or.inl rfl))) (fun _ _ _ => .nil) (fun _ _ _ _ => (pb_emit rfl (@pe_tup _ _ _ _ _ (@pa_consB _ _ _ _ _ _ _ _ (@pe_op _ _ _ _ _ _ _ _ (op_addK (K := K) rfl) (@pe_ix _ _ _ _ _ _ _ (ix_sqK (K := K) rfl) (@pe_ix _ _ _ _ _ _ _ (ix_sqK (K := K) rfl) (pv 1) (pv 2) (fun _ _ => rfl)) (pv 0) (fun _ _ => rfl)) (pe_pget (K := K) rfl (hu6 hr) (pv 3) (@pe_tup _ _ _ _ _ (@pa_consK _ _ _ _ _ _ _ _ (pe_def (D_joined.mono (by decide)) hr rfl (@pa_consN _ _ _ _ _ _ (pv 4) (@pa_consN _ _ _ _ _ _ (pv 0) pa_nil))) (@pa_consN _ _ _ _ _ _ (pv 0) pa_nil))) (fun _ _ => rfl))) (@pa_consN _ _ _ _ _ _ (pv 0) pa_nil))) rfl)))) pss_nil)
theorem sc_round_by_rests : FnScope ["table", "rests", "gone", "some"] ["table", "rests"] (defScope (top 22)) := ⟨rfl, rfl, rfl, by decide +kernel, rfl, by decide +kernel, by decide +kernel⟩
def T_round_by_rests (K : PySem.W.Frag)  (sp_onward : Sp) : TS := (tSeq (tAsg (tTup (tCons (tC (.int 0)) tNil)) (gName 2)) (tSeq (tWhile (tTest (tOp yLt (tCB (rLen K) (tCons (tVar 2) tNil)) (tCB (rLen K) (tCons (tVar 0) tNil)))) (tSeq (tAsg (tCB (rTuple K) (tCons (tCB (rSorted K) (tCons (tVar 2) tNil)) tNil)) (gName 3)) (tSeq (tAsg (tOp (rAddA K) (tVar 2) (tTup (tCons (tOp (rIx2 K) (tCB (rMinA K) (tCons (tCall sp_onward [] E0 (tCons (tVar 0) (tCons (tVar 1) (tCons (tVar 3) (tCons (tOp (rIx2 K) (tVar 2) (tUn yNeg (tC (.int 1)))) tNil))))) tNil)) (tC (.int 1))) tNil))) (gName 2)) tNext))) (tSeq (tRet (tVar 2)) tNext)))
theorem ok_round_by_rests (F : Fun K "round_by_rests" "round_by_rests" (top 22) f fd) (B : Blt4 mg)    {sp_onward : Sp} (D_onward : Def P w K mg base "onward" 2 ["table", "rests", "some", "last"] sp_onward)  {sp : Sp} (len : ∀ vs H Q E, sp vs H Q E → vs.length = 2)
    (rd : ∀ vs H Q E, sp vs H Q E → T_round_by_rests K  sp_onward { nx := fun _ H' => Q .non H', rt := Q } (start ["table", "rests", "gone", "some"] vs) H) : FnOk P w K mg base CX0 3 f fd ["table", "rests"] sp := by
  refine F.ok sc_round_by_rests len (fun cdv A outer s H vs Q E hr h => ⟨_, ?_, rd vs H Q E h⟩)
  have nd := sc_round_by_rests.nd
  exact (@pss_cons _ _ _ _ _ (@ps_set _ _ 2 _ _ _ _ nd rfl (Or.inl rfl) (@pe_tup _ _ _ _ _ (@pa_consC _ _ _ _ _ _ _ pe_int pa_nil)) (by rfl) (by first | exact .inl rfl | exact .inr rfl | assumption)) (@pss_cons _ _ _ _ _ (ps_while PassesOwn.never (pt_cmpR op_lt (pe_callB (call_lenK (K := K) rfl) rfl B.len bt_len (@pa_consN _ _ _ _ _ _ (pv 2) pa_nil)) (pe_callB (call_lenK (K := K) rfl) rfl B.len bt_len (@pa_consN _ _ _ _ _ _ (pv 0) pa_nil)) (nomark _)) (@pss_cons _ _ _ _ _ (@ps_set _ _ 3 _ _ _ _ nd rfl (Or.inl rfl) (pe_callTy (call_tupleK (K := K) rfl) rfl B.tuple bt_tuple (@pa_consK _ _ _ _ _ _ _ _ (pe_callB (call_sortedK (K := K) rfl) rfl B.sorted bt_sorted (@pa_consN _ _ _ _ _ _ (pv 2) pa_nil)) pa_nil)) (by rfl) (by first | exact .inl rfl | exact .inr rfl | assumption)) (@pss_cons _ _ _ _ _ (@ps_set _ _ 2 _ _ _ _ nd rfl (Or.inl rfl) (@pe_op _ _ _ _ _ _ _ _ (op_addK (K := K) rfl) (pv 2) (@pe_tup _ _ _ _ _ (@pa_consS _ _ _ _ _ _ _ (@pe_ix _ _ _ _ _ _ _ (ix_sqK (K := K) rfl) (pe_callB (call_minAK (K := K) rfl hr rfl) rfl B.min bt_min (@pa_consK _ _ _ _ _ _ _ _ (pe_def (D_onward.mono (by decide)) hr rfl (@pa_consN _ _ _ _ _ _ (pv 0) (@pa_consN _ _ _ _ _ _ (pv 1) (@pa_consN _ _ _ _ _ _ (pv 3) (@pa_consS _ _ _ _ _ _ _ (@pe_ix _ _ _ _ _ _ _ (ix_sqK (K := K) rfl) (pv 2) (pe_un un_neg pe_int) (fun _ _ => rfl)) pa_nil))))) pa_nil)) pe_int (fun _ _ => rfl)) pa_nil))) (by rfl) (by first | exact .inl rfl | exact .inr rfl | assumption)) pss_nil))) (@pss_cons _ _ _ _ _ (@ps_ret _ _ _ _ (pv 2)) pss_nil)))
theorem sc_is_even : FnScope ["table", "many"] ["table"] (defScope (top 24)) := ⟨rfl, rfl, rfl, by decide +kernel, rfl, by decide +kernel, by decide +kernel⟩
def T_is_even (K : PySem.W.Frag)   : TS := (tSeq (tAsg (tCB (rLen K) (tCons (tVar 0) tNil)) (gName 1)) (tSeq (tRet (tCB (rAll K) (tCons (tComp [none, none, some 0] (iRng1 (tCons (tVar 1) tNil)) (gName 0) [] fun acc => (tFor (iRng1 (tCons (tVar 0) tNil)) (gName 1) (tTests [] (tEmit (tOp (rEqD K) (tOp (rIx2 K) (tOp (rIx2 K) (tVar 2) (tVar 0)) (tVar 1)) (tOp (rIx2 K) (tOp (rIx2 K) (tVar 2) (tVar 1)) (tVar 0))) acc)))) tNil))) tNext))
theorem ok_is_even (F : Fun K "is_even" "is_even" (top 24) f fd) (B : Blt4 mg)      {sp : Sp} (len : ∀ vs H Q E, sp vs H Q E → vs.length = 1)
    (rd : ∀ vs H Q E, sp vs H Q E → T_is_even K   { nx := fun _ H' => Q .non H', rt := Q } (start ["table", "many"] vs) H) : FnOk P w K mg base CX0 1 f fd ["table"] sp := by
  refine F.ok sc_is_even len (fun cdv A outer s H vs Q E hr h => ⟨_, ?_, rd vs H Q E h⟩)
  have nd := sc_is_even.nd
  exact (@pss_cons _ _ _ _ _ (@ps_set _ _ 1 _ _ _ _ nd rfl (Or.inl rfl) (pe_callB (call_lenK (K := K) rfl) rfl B.len bt_len (@pa_consN _ _ _ _ _ _ (pv 0) pa_nil)) (by rfl) (by first | exact .inl rfl | exact .inr rfl | assumption)) (@pss_cons _ _ _ _ _ (@ps_ret _ _ _ _ (pe_callB (call_allK (K := K) rfl rfl) rfl B.all bt_all (pa_cons (pe_comp (N' := ["i", "j", "table"]) (ix := [none, none, some 0]) rfl rfl rfl (pi_range1 rfl B.range (@pa_consN _ _ _ _ _ _ (pv 1) pa_nil)) (fun _ _ _ => (pg_name (i := 0) (show (["i", "j", "table"] : List Str).Nodup from by decide +kernel) rfl (Or.inl rfl))) (fun _ _ _ => .nil) (fun _ _ _ _ => (pb_next rfl rfl rfl (fun _ h => by first | (cases h; rfl) | cases h) (pi_range1 rfl B.range (@pa_consN _ _ _ _ _ _ (pv 0) pa_nil)) (pg_name (i := 1) (show (["i", "j", "table"] : List Str).Nodup from by decide +kernel) rfl (Or.inl rfl)) .nil (pb_emit rfl (pe_cmpR (op_eqK (K := K) rfl hr) (@pe_ix _ _ _ _ _ _ _ (ix_sqK (K := K) rfl) (@pe_ix _ _ _ _ _ _ _ (ix_sqK (K := K) rfl) (pv 2) (pv 0) (fun _ _ => rfl)) (pv 1) (fun _ _ => rfl)) (@pe_ix _ _ _ _ _ _ _ (ix_sqK (K := K) rfl) (@pe_ix _ _ _ _ _ _ _ (ix_sqK (K := K) rfl) (pv 2) (pv 1) (fun _ _ => rfl)) (pv 0) (fun _ _ => rfl)) (nomark _)) rfl)))) pa_nil))) pss_nil))
theorem sc_is_straight : FnScope ["table", "many"] ["table"] (defScope (top 25)) := ⟨rfl, rfl, rfl, by decide +kernel, rfl, by decide +kernel, by decide +kernel⟩
def T_is_straight (K : PySem.W.Frag)   : TS := (tSeq (tAsg (tCB (rLen K) (tCons (tVar 0) tNil)) (gName 1)) (tSeq (tRet (tCB (rAll K) (tCons (tComp [none, none, none, some 1, some 0] (iRng1 (tCons (tVar 1) tNil)) (gName 0) [] fun acc => (tFor (iRng1 (tCons (tVar 3) tNil)) (gName 1) (tTests [] (tFor (iRng1 (tCons (tVar 3) tNil)) (gName 2) (tTests [] (tEmit (tOp yLe (tOp (rIx2 K) (tOp (rIx2 K) (tVar 4) (tVar 0)) (tVar 2)) (tOp (rAddA K) (tOp (rIx2 K) (tOp (rIx2 K) (tVar 4) (tVar 0)) (tVar 1)) (tOp (rIx2 K) (tOp (rIx2 K) (tVar 4) (tVar 1)) (tVar 2)))) acc)))))) tNil))) tNext))
theorem ok_is_straight (F : Fun K "is_straight" "is_straight" (top 25) f fd) (B : Blt4 mg)      {sp : Sp} (len : ∀ vs H Q E, sp vs H Q E → vs.length = 1)
    (rd : ∀ vs H Q E, sp vs H Q E → T_is_straight K   { nx := fun _ H' => Q .non H', rt := Q } (start ["table", "many"] vs) H) : FnOk P w K mg base CX0 1 f fd ["table"] sp := by
  refine F.ok sc_is_straight len (fun cdv A outer s H vs Q E hr h => ⟨_, ?_, rd vs H Q E h⟩)
  have nd := sc_is_straight.nd
  exact (@pss_cons _ _ _ _ _ (@ps_set _ _ 1 _ _ _ _ nd rfl (Or.inr rfl) (pe_callB (call_lenK (K := K) rfl) rfl B.len bt_len (@pa_consN _ _ _ _ _ _ (pv 0) pa_nil)) (by rfl) (by first | exact .inl rfl | exact .inr rfl | assumption)) (@pss_cons _ _ _ _ _ (@ps_ret _ _ _ _ (pe_callB (call_allK (K := K) rfl rfl) rfl B.all bt_all (pa_cons (pe_comp (N' := ["i", "j", "k", "many", "table"]) (ix := [none, none, none, some 1, some 0]) rfl rfl rfl (pi_range1 rfl B.range (@pa_consN _ _ _ _ _ _ (pv 1) pa_nil)) (fun _ _ _ => (pg_name (i := 0) (show (["i", "j", "k", "many", "table"] : List Str).Nodup from by decide +kernel) rfl (Or.inl rfl))) (fun _ _ _ => .nil) (fun _ _ _ _ => (pb_next rfl rfl rfl (fun _ h => by first | (cases h; rfl) | cases h) (pi_range1 rfl B.range (@pa_consN _ _ _ _ _ _ (pv 3) pa_nil)) (pg_name (i := 1) (show (["i", "j", "k", "many", "table"] : List Str).Nodup from by decide +kernel) rfl (Or.inl rfl)) .nil (pb_next rfl rfl rfl (fun _ h => by first | (cases h; rfl) | cases h) (pi_range1 rfl B.range (@pa_consN _ _ _ _ _ _ (pv 3) pa_nil)) (pg_name (i := 2) (show (["i", "j", "k", "many", "table"] : List Str).Nodup from by decide +kernel) rfl (Or.inl rfl)) .nil (pb_emit rfl (pe_cmpR op_le (@pe_ix _ _ _ _ _ _ _ (ix_sqK (K := K) rfl) (@pe_ix _ _ _ _ _ _ _ (ix_sqK (K := K) rfl) (pv 4) (pv 0) (fun _ _ => rfl)) (pv 2) (fun _ _ => rfl)) (@pe_op _ _ _ _ _ _ _ _ (op_addK (K := K) rfl) (@pe_ix _ _ _ _ _ _ _ (ix_sqK (K := K) rfl) (@pe_ix _ _ _ _ _ _ _ (ix_sqK (K := K) rfl) (pv 4) (pv 0) (fun _ _ => rfl)) (pv 1) (fun _ _ => rfl)) (@pe_ix _ _ _ _ _ _ _ (ix_sqK (K := K) rfl) (@pe_ix _ _ _ _ _ _ _ (ix_sqK (K := K) rfl) (pv 4) (pv 1) (fun _ _ => rfl)) (pv 2) (fun _ _ => rfl))) (nomark _)) rfl))))) pa_nil))) pss_nil))
theorem sc_is_round : FnScope ["table", "thing"] ["table", "thing"] (defScope (top 26)) := ⟨rfl, rfl, rfl, by decide +kernel, rfl, by decide +kernel, by decide +kernel⟩
def T_is_round (K : PySem.W.Frag)  (sp_are_wholes : Sp) : TS := (tSeq (tIfS (tNot (tB (tCall sp_are_wholes [] E0 (tCons (tVar 1) tNil)))) (tSeq (tRet (tC (.bl false))) tNext) tNext) (tSeq (tRet (tAndV (tOp (rEqD K) (tSl (rSlU K) (tVar 1) tNoPart (tPart (tC (.int 1)))) (tTup (tCons (tC (.int 0)) tNil))) (tOp (rEqD K) (tCB (rSorted K) (tCons (tVar 1) tNil)) (tCB (rList K) (tCons (tCB rRng (tCons (tCB (rLen K) (tCons (tVar 0) tNil)) tNil)) tNil))))) tNext))
theorem ok_is_round (F : Fun K "is_round" "is_round" (top 26) f fd) (B : Blt4 mg)    {sp_are_wholes : Sp} (D_are_wholes : Def P w K mg base "are_wholes" 2 ["thing"] sp_are_wholes)  {sp : Sp} (len : ∀ vs H Q E, sp vs H Q E → vs.length = 2)
    (rd : ∀ vs H Q E, sp vs H Q E → T_is_round K  sp_are_wholes { nx := fun _ H' => Q .non H', rt := Q } (start ["table", "thing"] vs) H) : FnOk P w K mg base CX0 3 f fd ["table", "thing"] sp := by
  refine F.ok sc_is_round len (fun cdv A outer s H vs Q E hr h => ⟨_, ?_, rd vs H Q E h⟩)
  have nd := sc_is_round.nd
  exact (@pss_cons _ _ _ _ _ (@ps_if _ _ _ _ _ _ _ _ (pt_not (pt_val (pe_def (D_are_wholes.mono (by decide)) hr rfl (@pa_consN _ _ _ _ _ _ (pv 1) pa_nil)))) (@pss_cons _ _ _ _ _ (@ps_ret _ _ _ _ pe_bl) pss_nil) pss_nil) (@pss_cons _ _ _ _ _ (@ps_ret _ _ _ _ (pe_and (pe_cmpR (op_eqK (K := K) rfl hr) (pe_slice (sl_uK (K := K) rfl) (pv 1) po_none (po_some pe_int)) (@pe_tup _ _ _ _ _ (@pa_consC _ _ _ _ _ _ _ pe_int pa_nil)) (nomark _)) (pe_one (pe_cmpR (op_eqK (K := K) rfl hr) (pe_callB (call_sortedK (K := K) rfl) rfl B.sorted bt_sorted (@pa_consN _ _ _ _ _ _ (pv 1) pa_nil)) (pe_callTy (call_listK (K := K) rfl rfl) rfl B.list bt_list (@pa_consK _ _ _ _ _ _ _ _ (pe_callTy call_rngK rfl B.range bt_range (@pa_consK _ _ _ _ _ _ _ _ (pe_callB (call_lenK (K := K) rfl) rfl B.len bt_len (@pa_consN _ _ _ _ _ _ (pv 0) pa_nil)) pa_nil)) pa_nil)) (nomark _))))) pss_nil))
theorem sc_least_tree : FnScope ["table", "ties", "inside", "outside", "way", "one", "other"] ["table"] (defScope (top 31)) := ⟨rfl, rfl, rfl, by decide +kernel, rfl, by decide +kernel, by decide +kernel⟩
def T_least_tree (K : PySem.W.Frag)  (sp_is_even : Sp) (sp_tree_sum : Sp) : TS := (tSeq (tIfS (tNot (tB (tCall sp_is_even [] E0 (tCons (tVar 0) tNil)))) (tSeq tNever tNext) tNext) (tSeq (tAsg (tLst tNil) (gName 1)) (tSeq (tAsg (tLst (tCons (tC (.int 0)) tNil)) (gName 2)) (tSeq (tAsg (tCB (rList K) (tCons (tCB rRng (tCons (tC (.int 1)) (tCons (tCB (rLen K) (tCons (tVar 0) tNil)) tNil))) tNil)) (gName 3)) (tSeq (tWhile (tTru K (tVar 3)) (tSeq (tAsg (tCB (rMinA K) (tCons (tComp [none, none, some 3, some 0] (iSeq K (tVar 2)) (gName 0) [] fun acc => (tFor (iSeq K (tVar 2)) (gName 1) (tTests [] (tEmit (tTup (tCons (tOp (rIx2 K) (tOp (rIx2 K) (tVar 3) (tVar 0)) (tVar 1)) (tCons (tVar 0) (tCons (tVar 1) tNil)))) acc)))) tNil)) (gTup K 3 (gCons (gName 4) (gCons (gName 5) (gCons (gName 6) gNil))))) (tSeq (tDrop (tBM K "list" rAppend (tVar 1) (tCons (tTup (tCons (tCB rMin2 (tCons (tVar 5) (tCons (tVar 6) tNil))) (tCons (tCB rMax2 (tCons (tVar 5) (tCons (tVar 6) tNil))) tNil))) tNil))) (tSeq (tDrop (tBM K "list" rAppend (tVar 2) (tCons (tVar 6) tNil))) (tSeq (tDrop (tBM K "list" rRemI (tVar 3) (tCons (tVar 6) tNil))) tNext))))) (tSeq (tRet (tTup (tCons (tCall sp_tree_sum [] E0 (tCons (tVar 0) (tCons (tVar 1) tNil))) (tCons (tCB (rSortB K) (tCons (tVar 1) tNil)) tNil)))) tNext))))))
theorem ok_least_tree (F : Fun K "least_tree" "least_tree" (top 31) f fd) (B : Blt4 mg)    {sp_is_even : Sp} (D_is_even : Def P w K mg base "is_even" 1 ["table"] sp_is_even) {sp_tree_sum : Sp} (D_tree_sum : Def P w K mg base "tree_sum" 1 ["table", "ties"] sp_tree_sum)  {sp : Sp} (len : ∀ vs H Q E, sp vs H Q E → vs.length = 1)
    (rd : ∀ vs H Q E, sp vs H Q E → T_least_tree K  sp_is_even sp_tree_sum { nx := fun _ H' => Q .non H', rt := Q } (start ["table", "ties", "inside", "outside", "way", "one", "other"] vs) H) : FnOk P w K mg base CX0 2 f fd ["table"] sp := by
  refine F.ok sc_least_tree len (fun cdv A outer s H vs Q E hr h => ⟨_, ?_, rd vs H Q E h⟩)
  have nd := sc_least_tree.nd
  exact (@pss_cons _ _ _ _ _ (@ps_if _ _ _ _ _ _ _ _ (pt_not (pt_val (pe_def (D_is_even.mono (by decide)) hr rfl (@pa_consN _ _ _ _ _ _ (pv 0) pa_nil)))) (@pss_cons _ _ _ _ _ ps_never pss_nil) pss_nil) (@pss_cons _ _ _ _ _ (@ps_set _ _ 1 _ _ _ _ nd rfl (Or.inl rfl) (@pe_lst _ _ _ _ pa_nil) (by rfl) (by first | exact .inl rfl | exact .inr rfl | assumption)) (@pss_cons _ _ _ _ _ (@ps_set _ _ 2 _ _ _ _ nd rfl (Or.inl rfl) (@pe_lst _ _ _ _ (@pa_consC _ _ _ _ _ _ _ pe_int pa_nil)) (by rfl) (by first | exact .inl rfl | exact .inr rfl | assumption)) (@pss_cons _ _ _ _ _ (@ps_set _ _ 3 _ _ _ _ nd rfl (Or.inr rfl) (pe_callTy (call_listK (K := K) rfl rfl) rfl B.list bt_list (@pa_consK _ _ _ _ _ _ _ _ (pe_callTy call_rngK rfl B.range bt_range (@pa_consC _ _ _ _ _ _ _ pe_int (@pa_consK _ _ _ _ _ _ _ _ (pe_callB (call_lenK (K := K) rfl) rfl B.len bt_len (@pa_consN _ _ _ _ _ _ (pv 0) pa_nil)) pa_nil))) pa_nil)) (by rfl) (by first | exact .inl rfl | exact .inr rfl | assumption)) (@pss_cons _ _ _ _ _ (ps_while PassesOwn.never (pt_truK (K := K) rfl (pv 3) (fun _ => rfl)) (@pss_cons _ _ _ _ _ (ps_asg (pe_callB (call_minAK (K := K) rfl hr rfl) rfl B.min bt_min (pa_cons (pe_comp (N' := ["one", "other", "outside", "table"]) (ix := [none, none, some 3, some 0]) rfl rfl rfl (pi_seqK (K := K) rfl (pv 2)) (fun _ _ _ => (pg_name (i := 0) (show (["one", "other", "outside", "table"] : List Str).Nodup from by decide +kernel) rfl (Or.inl rfl))) (fun _ _ _ => .nil) (fun _ _ _ _ => (pb_next rfl rfl rfl (fun _ h => by first | (cases h; rfl) | cases h) (pi_seqK (K := K) rfl (pv 2)) (pg_name (i := 1) (show (["one", "other", "outside", "table"] : List Str).Nodup from by decide +kernel) rfl (Or.inl rfl)) .nil (pb_emit rfl (@pe_tup _ _ _ _ _ (@pa_consS _ _ _ _ _ _ _ (@pe_ix _ _ _ _ _ _ _ (ix_sqK (K := K) rfl) (@pe_ix _ _ _ _ _ _ _ (ix_sqK (K := K) rfl) (pv 3) (pv 0) (fun _ _ => rfl)) (pv 1) (fun _ _ => rfl)) (@pa_consN _ _ _ _ _ _ (pv 0) (@pa_consN _ _ _ _ _ _ (pv 1) pa_nil)))) rfl)))) pa_nil)) (pg_tupK (K := K) rfl rfl (pgs_cons (pg_name (i := 4) nd rfl (Or.inl rfl)) (pgs_cons (pg_name (i := 5) nd rfl (Or.inl rfl)) (pgs_cons (pg_name (i := 6) nd rfl (Or.inl rfl)) pgs_nil))))) (@pss_cons _ _ _ _ _ (ps_expr (pe_bmK (K := K) rfl PySem.F.plainAttrs_list PySem.F.slot_list_append PySem.F.type_list_append mt_append (pv 1) (@pa_consT _ _ _ _ _ _ _ (@pe_tup _ _ _ _ _ (@pa_consK _ _ _ _ _ _ _ _ (pe_callB (call_min2K rfl) rfl B.min bt_min (@pa_consN _ _ _ _ _ _ (pv 5) (@pa_consN _ _ _ _ _ _ (pv 6) pa_nil))) (@pa_consK _ _ _ _ _ _ _ _ (pe_callB (call_max2K rfl) rfl B.max bt_max (@pa_consN _ _ _ _ _ _ (pv 5) (@pa_consN _ _ _ _ _ _ (pv 6) pa_nil))) pa_nil))) pa_nil))) (@pss_cons _ _ _ _ _ (ps_expr (pe_bmK (K := K) rfl PySem.F.plainAttrs_list PySem.F.slot_list_append PySem.F.type_list_append mt_append (pv 2) (@pa_consN _ _ _ _ _ _ (pv 6) pa_nil))) (@pss_cons _ _ _ _ _ (ps_expr (pe_bmK (K := K) rfl PySem.F.plainAttrs_list PySem.F.slot_list_remove PySem.F.type_list_remove mt_remI (pv 3) (@pa_consN _ _ _ _ _ _ (pv 6) pa_nil))) pss_nil))))) (@pss_cons _ _ _ _ _ (@ps_ret _ _ _ _ (@pe_tup _ _ _ _ _ (@pa_consK _ _ _ _ _ _ _ _ (pe_def (D_tree_sum.mono (by decide)) hr rfl (@pa_consN _ _ _ _ _ _ (pv 0) (@pa_consN _ _ _ _ _ _ (pv 1) pa_nil))) (@pa_consK _ _ _ _ _ _ _ _ (pe_callB (call_sortBK (K := K) rfl) rfl B.sorted bt_sorted (@pa_consN _ _ _ _ _ _ (pv 1) pa_nil)) pa_nil)))) pss_nil))))))
theorem sc_tree_sum : FnScope ["table", "ties"] ["table", "ties"] (defScope (top 32)) := ⟨rfl, rfl, rfl, by decide +kernel, rfl, by decide +kernel, by decide +kernel⟩
def T_tree_sum (K : PySem.W.Frag)   : TS := (tSeq (tRet (tCB (rSum K) (tCons (tComp [none, none, some 0] (iSeq K (tVar 1)) (gTup K 2 (gCons (gName 0) (gCons (gName 1) gNil))) [] fun acc => (tEmit (tOp (rIx2 K) (tOp (rIx2 K) (tVar 2) (tVar 0)) (tVar 1)) acc)) tNil))) tNext)
theorem ok_tree_sum (F : Fun K "tree_sum" "tree_sum" (top 32) f fd) (B : Blt4 mg)      {sp : Sp} (len : ∀ vs H Q E, sp vs H Q E → vs.length = 2)
    (rd : ∀ vs H Q E, sp vs H Q E → T_tree_sum K   { nx := fun _ H' => Q .non H', rt := Q } (start ["table", "ties"] vs) H) : FnOk P w K mg base CX0 1 f fd ["table", "ties"] sp := by
  refine F.ok sc_tree_sum len (fun cdv A outer s H vs Q E hr h => ⟨_, ?_, rd vs H Q E h⟩)
  have nd := sc_tree_sum.nd
  exact (@pss_cons _ _ _ _ _ (@ps_ret _ _ _ _ (pe_callB (call_sumK (K := K) rfl rfl) rfl B.sum bt_sum (pa_cons (pe_comp (N' := ["i", "j", "table"]) (ix := [none, none, some 0]) rfl rfl rfl (pi_seqK (K := K) rfl (pv 1)) (fun _ _ _ => (pg_tupK (K := K) rfl rfl (pgs_cons (pg_name (i := 0) (show (["i", "j", "table"] : List Str).Nodup from by decide +kernel) rfl (Or.inl rfl)) (pgs_cons (pg_name (i := 1) (show (["i", "j", "table"] : List Str).Nodup from by decide +kernel) rfl (Or.inl rfl)) pgs_nil)))) (fun _ _ _ => .nil) (fun _ _ _ _ => (pb_emit rfl (@pe_ix _ _ _ _ _ _ _ (ix_sqK (K := K) rfl) (@pe_ix _ _ _ _ _ _ _ (ix_sqK (K := K) rfl) (pv 2) (pv 0) (fun _ _ => rfl)) (pv 1) (fun _ _ => rfl)) rfl))) pa_nil))) pss_nil)
theorem sc__law_e_pen : FnScope ["script"] ["script"] (defScope (top 34)) := ⟨rfl, rfl, rfl, by decide +kernel, rfl, by decide +kernel, by decide +kernel⟩
def T__law_e_pen (K : PySem.W.Frag)   : TS := (tSeq (tRet (tLst (tCons (tCB (rList K) (tCons (tSl (rSlU K) (tVar 0) tNoPart (tPart (tC (.int 63)))) tNil)) (tCons (tC (.int 0)) (tCons (tC (.int 0)) tNil))))) tNext)
theorem ok__law_e_pen (F : Fun K "_law_e_pen" "_law_e_pen" (top 34) f fd) (B : Blt4 mg)      {sp : Sp} (len : ∀ vs H Q E, sp vs H Q E → vs.length = 1)
    (rd : ∀ vs H Q E, sp vs H Q E → T__law_e_pen K   { nx := fun _ H' => Q .non H', rt := Q } (start ["script"] vs) H) : FnOk P w K mg base CX0 1 f fd ["script"] sp := by
  refine F.ok sc__law_e_pen len (fun cdv A outer s H vs Q E hr h => ⟨_, ?_, rd vs H Q E h⟩)
  have nd := sc__law_e_pen.nd
  exact (@pss_cons _ _ _ _ _ (@ps_ret _ _ _ _ (@pe_lst _ _ _ _ (@pa_consK _ _ _ _ _ _ _ _ (pe_callTy (call_listK (K := K) rfl rfl) rfl B.list bt_list (@pa_consS _ _ _ _ _ _ _ (pe_slice (sl_uK (K := K) rfl) (pv 0) po_none (po_some pe_int)) pa_nil)) (@pa_consC _ _ _ _ _ _ _ pe_int (@pa_consC _ _ _ _ _ _ _ pe_int pa_nil))))) pss_nil)
theorem sc__law_e_fresh : FnScope ["pen", "at", "cell", "one", "two"] ["pen"] (defScope (top 35)) := ⟨rfl, rfl, rfl, by decide +kernel, rfl, by decide +kernel, by decide +kernel⟩
def T__law_e_fresh (K : PySem.W.Frag)   : TS := (tSeq (tAsg (tOp (rIx2 K) (tVar 0) (tC (.int 1))) (gName 1)) (tSeq (tAsg (tOp (rAddA K) (tVar 1) (tC (.int 1))) (gSub (tVar 0) (tC (.int 1)) rSetL)) (tSeq (tAsg (tOp (rAddA K) (tOp rMulA (tVar 1) (tVar 1)) (tC (.int 5))) (gName 2)) (tSeq (tIfS (tTest (tOp yLt (tVar 1) (tCB (rLen K) (tCons (tOp (rIx2 K) (tVar 0) (tC (.int 0))) tNil)))) (tSeq (tAsg (tOp (rIx2 K) (tOp (rIx2 K) (tVar 0) (tC (.int 0))) (tVar 1)) (gName 2)) tNext) (tSeq (tIfS (tTest (tOp yGt (tCB (rLen K) (tCons (tOp (rIx2 K) (tVar 0) (tC (.int 0))) tNil)) (tC (.int 0)))) (tSeq (tAsg (tOp (rAddA K) (tVar 2) (tOp rMulA (tOp yMod (tOp (rIx2 K) (tOp (rIx2 K) (tVar 0) (tC (.int 0))) (tOp yMod (tOp rMulA (tVar 1) (tC (.int 3))) (tCB (rLen K) (tCons (tOp (rIx2 K) (tVar 0) (tC (.int 0))) tNil)))) (tC (.int 1000003))) (tOp (rAddA K) (tVar 1) (tC (.int 1))))) (gName 2)) tNext) tNext) tNext)) (tSeq (tIfS (tTest (tOp yGe (tVar 2) (tOp yPow (tC (.int 10)) (tC (.int 18))))) (tSeq (tRet (tVar 2)) tNext) tNext) (tSeq (tAsg (tOp yMod (tOp (rAddA K) (tOp (rAddA K) (tOp rMulA (tOp yMod (tVar 2) (tC (.int 2147483423))) (tC (.int 60013))) (tOp rMulA (tVar 1) (tC (.int 40692)))) (tC (.int 17))) (tC (.int 2147483399))) (gName 3)) (tSeq (tAsg (tOp yMod (tOp (rAddA K) (tOp (rAddA K) (tOp rMulA (tVar 3) (tVar 3)) (tOp rMulA (tVar 1) (tC (.int 811)))) (tC (.int 3))) (tC (.int 2147483353))) (gName 4)) (tSeq (tRet (tOp (rAddA K) (tOp rMulA (tOp (rAddA K) (tVar 4) (tC (.int 2147483353))) (tC (.int 2147483353))) (tOp yMod (tOp (rAddA K) (tOp rMulA (tVar 4) (tVar 4)) (tVar 3)) (tC (.int 2147483353))))) tNext))))))))
theorem ok__law_e_fresh (F : Fun K "_law_e_fresh" "_law_e_fresh" (top 35) f fd) (B : Blt4 mg)      {sp : Sp} (len : ∀ vs H Q E, sp vs H Q E → vs.length = 1)
    (rd : ∀ vs H Q E, sp vs H Q E → T__law_e_fresh K   { nx := fun _ H' => Q .non H', rt := Q } (start ["pen", "at", "cell", "one", "two"] vs) H) : FnOk P w K mg base CX0 1 f fd ["pen"] sp := by
  refine F.ok sc__law_e_fresh len (fun cdv A outer s H vs Q E hr h => ⟨_, ?_, rd vs H Q E h⟩)
  have nd := sc__law_e_fresh.nd
  exact (@pss_cons _ _ _ _ _ (@ps_set _ _ 1 _ _ _ _ nd rfl (Or.inl rfl) (@pe_ix _ _ _ _ _ _ _ (ix_sqK (K := K) rfl) (pv 0) pe_int (fun _ _ => rfl)) (by rfl) (by first | exact .inl rfl | exact .inr rfl | assumption)) (@pss_cons _ _ _ _ _ (ps_asg (@pe_op _ _ _ _ _ _ _ _ (op_addK (K := K) rfl) (pv 1) pe_int) (pg_sub (pv 0) pe_int set_list)) (@pss_cons _ _ _ _ _ (@ps_set _ _ 2 _ _ _ _ nd rfl (Or.inl rfl) (@pe_op _ _ _ _ _ _ _ _ (op_addK (K := K) rfl) (@pe_op _ _ _ _ _ _ _ _ op_mulA (pv 1) (pv 1)) pe_int) (by rfl) (by first | exact .inl rfl | exact .inr rfl | assumption)) (@pss_cons _ _ _ _ _ (@ps_if _ _ _ _ _ _ _ _ (pt_cmpR op_lt (pv 1) (pe_callB (call_lenK (K := K) rfl) rfl B.len bt_len (@pa_consS _ _ _ _ _ _ _ (@pe_ix _ _ _ _ _ _ _ (ix_sqK (K := K) rfl) (pv 0) pe_int (fun _ _ => rfl)) pa_nil)) (nomark _)) (@pss_cons _ _ _ _ _ (@ps_set _ _ 2 _ _ _ _ nd rfl (Or.inl rfl) (@pe_ix _ _ _ _ _ _ _ (ix_sqK (K := K) rfl) (@pe_ix _ _ _ _ _ _ _ (ix_sqK (K := K) rfl) (pv 0) pe_int (fun _ _ => rfl)) (pv 1) (fun _ _ => rfl)) (by rfl) (by first | exact .inl rfl | exact .inr rfl | assumption)) pss_nil) (@pss_cons _ _ _ _ _ (@ps_if _ _ _ _ _ _ _ _ (pt_cmpR op_gt (pe_callB (call_lenK (K := K) rfl) rfl B.len bt_len (@pa_consS _ _ _ _ _ _ _ (@pe_ix _ _ _ _ _ _ _ (ix_sqK (K := K) rfl) (pv 0) pe_int (fun _ _ => rfl)) pa_nil)) pe_int (nomark _)) (@pss_cons _ _ _ _ _ (@ps_set _ _ 2 _ _ _ _ nd rfl (Or.inl rfl) (@pe_op _ _ _ _ _ _ _ _ (op_addK (K := K) rfl) (pv 2) (@pe_op _ _ _ _ _ _ _ _ op_mulA (@pe_op _ _ _ _ _ _ _ _ op_mod (@pe_ix _ _ _ _ _ _ _ (ix_sqK (K := K) rfl) (@pe_ix _ _ _ _ _ _ _ (ix_sqK (K := K) rfl) (pv 0) pe_int (fun _ _ => rfl)) (@pe_op _ _ _ _ _ _ _ _ op_mod (@pe_op _ _ _ _ _ _ _ _ op_mulA (pv 1) pe_int) (pe_callB (call_lenK (K := K) rfl) rfl B.len bt_len (@pa_consS _ _ _ _ _ _ _ (@pe_ix _ _ _ _ _ _ _ (ix_sqK (K := K) rfl) (pv 0) pe_int (fun _ _ => rfl)) pa_nil))) (fun _ _ => rfl)) pe_int) (@pe_op _ _ _ _ _ _ _ _ (op_addK (K := K) rfl) (pv 1) pe_int))) (by rfl) (by first | exact .inl rfl | exact .inr rfl | assumption)) pss_nil) pss_nil) pss_nil)) (@pss_cons _ _ _ _ _ (@ps_if _ _ _ _ _ _ _ _ (pt_cmpR op_ge (pv 2) (@pe_op _ _ _ _ _ _ _ _ op_pow pe_int pe_int) (nomark _)) (@pss_cons _ _ _ _ _ (@ps_ret _ _ _ _ (pv 2)) pss_nil) pss_nil) (@pss_cons _ _ _ _ _ (@ps_set _ _ 3 _ _ _ _ nd rfl (Or.inl rfl) (@pe_op _ _ _ _ _ _ _ _ op_mod (@pe_op _ _ _ _ _ _ _ _ (op_addK (K := K) rfl) (@pe_op _ _ _ _ _ _ _ _ (op_addK (K := K) rfl) (@pe_op _ _ _ _ _ _ _ _ op_mulA (@pe_op _ _ _ _ _ _ _ _ op_mod (pv 2) pe_int) pe_int) (@pe_op _ _ _ _ _ _ _ _ op_mulA (pv 1) pe_int)) pe_int) pe_int) (by rfl) (by first | exact .inl rfl | exact .inr rfl | assumption)) (@pss_cons _ _ _ _ _ (@ps_set _ _ 4 _ _ _ _ nd rfl (Or.inl rfl) (@pe_op _ _ _ _ _ _ _ _ op_mod (@pe_op _ _ _ _ _ _ _ _ (op_addK (K := K) rfl) (@pe_op _ _ _ _ _ _ _ _ (op_addK (K := K) rfl) (@pe_op _ _ _ _ _ _ _ _ op_mulA (pv 3) (pv 3)) (@pe_op _ _ _ _ _ _ _ _ op_mulA (pv 1) pe_int)) pe_int) pe_int) (by rfl) (by first | exact .inl rfl | exact .inr rfl | assumption)) (@pss_cons _ _ _ _ _ (@ps_ret _ _ _ _ (@pe_op _ _ _ _ _ _ _ _ (op_addK (K := K) rfl) (@pe_op _ _ _ _ _ _ _ _ op_mulA (@pe_op _ _ _ _ _ _ _ _ (op_addK (K := K) rfl) (pv 4) pe_int) pe_int) (@pe_op _ _ _ _ _ _ _ _ op_mod (@pe_op _ _ _ _ _ _ _ _ (op_addK (K := K) rfl) (@pe_op _ _ _ _ _ _ _ _ op_mulA (pv 4) (pv 4)) (pv 3)) pe_int))) pss_nil))))))))
theorem sc__law_e_take : FnScope ["pen", "many", "found"] ["pen", "many"] (defScope (top 36)) := ⟨rfl, rfl, rfl, by decide +kernel, rfl, by decide +kernel, by decide +kernel⟩
def T__law_e_take (K : PySem.W.Frag)  (sp__law_e_fresh : Sp) : TS := (tSeq (tIfS (tTest (tOp yLt (tOp (rIx2 K) (tVar 0) (tC (.int 2))) (tVar 1))) (tSeq (tAsg (tCall sp__law_e_fresh [] E0 (tCons (tVar 0) tNil)) (gSub (tVar 0) (tC (.int 2)) rSetL)) tNext) tNext) (tSeq (tAsg (tOp yMod (tOp (rIx2 K) (tVar 0) (tC (.int 2))) (tVar 1)) (gName 2)) (tSeq (tAsg (tOp yDiv (tOp (rIx2 K) (tVar 0) (tC (.int 2))) (tVar 1)) (gSub (tVar 0) (tC (.int 2)) rSetL)) (tSeq (tRet (tVar 2)) tNext))))
theorem ok__law_e_take (F : Fun K "_law_e_take" "_law_e_take" (top 36) f fd) (B : Blt4 mg)    {sp__law_e_fresh : Sp} (D__law_e_fresh : Def P w K mg base "_law_e_fresh" 1 ["pen"] sp__law_e_fresh)  {sp : Sp} (len : ∀ vs H Q E, sp vs H Q E → vs.length = 2)
    (rd : ∀ vs H Q E, sp vs H Q E → T__law_e_take K  sp__law_e_fresh { nx := fun _ H' => Q .non H', rt := Q } (start ["pen", "many", "found"] vs) H) : FnOk P w K mg base CX0 2 f fd ["pen", "many"] sp := by
  refine F.ok sc__law_e_take len (fun cdv A outer s H vs Q E hr h => ⟨_, ?_, rd vs H Q E h⟩)
  have nd := sc__law_e_take.nd
  exact (@pss_cons _ _ _ _ _ (@ps_if _ _ _ _ _ _ _ _ (pt_cmpR op_lt (@pe_ix _ _ _ _ _ _ _ (ix_sqK (K := K) rfl) (pv 0) pe_int (fun _ _ => rfl)) (pv 1) (nomark _)) (@pss_cons _ _ _ _ _ (ps_asg (pe_def (D__law_e_fresh.mono (by decide)) hr rfl (@pa_consN _ _ _ _ _ _ (pv 0) pa_nil)) (pg_sub (pv 0) pe_int set_list)) pss_nil) pss_nil) (@pss_cons _ _ _ _ _ (@ps_set _ _ 2 _ _ _ _ nd rfl (Or.inl rfl) (@pe_op _ _ _ _ _ _ _ _ op_mod (@pe_ix _ _ _ _ _ _ _ (ix_sqK (K := K) rfl) (pv 0) pe_int (fun _ _ => rfl)) (pv 1)) (by rfl) (by first | exact .inl rfl | exact .inr rfl | assumption)) (@pss_cons _ _ _ _ _ (ps_asg (@pe_op _ _ _ _ _ _ _ _ op_fdiv (@pe_ix _ _ _ _ _ _ _ (ix_sqK (K := K) rfl) (pv 0) pe_int (fun _ _ => rfl)) (pv 1)) (pg_sub (pv 0) pe_int set_list)) (@pss_cons _ _ _ _ _ (@ps_ret _ _ _ _ (pv 2)) pss_nil))))
theorem sc__law_e_table : FnScope ["pen", "many", "even", "top", "low", "lines", "i", "j"] ["pen", "many", "even"] (defScope (top 37)) := ⟨rfl, rfl, rfl, by decide +kernel, rfl, by decide +kernel, by decide +kernel⟩
def T__law_e_table (K : PySem.W.Frag)  (sp__law_e_take : Sp) : TS := (tSeq (tAsg (tOp (rIx2 K) (tLst (tCons (tC (.int 10)) (tCons (tC (.int 1000001)) (tCons (tC (.int 3)) (tCons (tC (.int 60)) (tCons (tC (.int 1001)) (tCons (tC (.int 2)) tNil))))))) (tCall sp__law_e_take [] E0 (tCons (tVar 0) (tCons (tC (.int 6)) tNil)))) (gName 3)) (tSeq (tAsg (tOp rMulA (tC (.int 999999)) (tCB rInt1 (tCons (tOp (rEqD K) (tVar 3) (tC (.int 2))) tNil))) (gName 4)) (tSeq (tAsg (tComp [none, some 1] (iRng1 (tCons (tVar 1) tNil)) (gName 0) [] fun acc => (tEmit (tOp rMulA (tLst (tCons (tC (.int 0)) tNil)) (tVar 1)) acc)) (gName 5)) (tSeq (tFor (iRng1 (tCons (tVar 1) tNil)) (gName 6) (tSeq (tFor (iRng1 (tCons (tVar 6) tNil)) (gName 7) (tSeq (tAsg (tOp (rAddA K) (tVar 4) (tCall sp__law_e_take [] E0 (tCons (tVar 0) (tCons (tVar 3) tNil)))) (gSub (tOp (rIx2 K) (tVar 5) (tVar 6)) (tVar 7) rSetL)) (tSeq (tAsg (tOp (rIx2 K) (tOp (rIx2 K) (tVar 5) (tVar 6)) (tVar 7)) (gSub (tOp (rIx2 K) (tVar 5) (tVar 7)) (tVar 6) rSetL)) (tSeq (tIfS (tNot (tTru K (tVar 2))) (tSeq (tAsg (tOp (rAddA K) (tVar 4) (tCall sp__law_e_take [] E0 (tCons (tVar 0) (tCons (tVar 3) tNil)))) (gSub (tOp (rIx2 K) (tVar 5) (tVar 7)) (tVar 6) rSetL)) tNext) tNext) tNext)))) tNext)) (tSeq (tRet (tCB (rTuple K) (tCons (tComp [none] (iSeq K (tVar 5)) (gName 0) [] fun acc => (tEmit (tCB (rTuple K) (tCons (tVar 0) tNil)) acc)) tNil))) tNext)))))
theorem ok__law_e_table (F : Fun K "_law_e_table" "_law_e_table" (top 37) f fd) (B : Blt4 mg)    {sp__law_e_take : Sp} (D__law_e_take : Def P w K mg base "_law_e_take" 2 ["pen", "many"] sp__law_e_take)  {sp : Sp} (len : ∀ vs H Q E, sp vs H Q E → vs.length = 3)
    (rd : ∀ vs H Q E, sp vs H Q E → T__law_e_table K  sp__law_e_take { nx := fun _ H' => Q .non H', rt := Q } (start ["pen", "many", "even", "top", "low", "lines", "i", "j"] vs) H) : FnOk P w K mg base CX0 3 f fd ["pen", "many", "even"] sp := by
  refine F.ok sc__law_e_table len (fun cdv A outer s H vs Q E hr h => ⟨_, ?_, rd vs H Q E h⟩)
  have nd := sc__law_e_table.nd
  exact (@pss_cons _ _ _ _ _ (@ps_set _ _ 3 _ _ _ _ nd rfl (Or.inl rfl) (@pe_ix _ _ _ _ _ _ _ (ix_sqK (K := K) rfl) (@pe_lst _ _ _ _ (@pa_consC _ _ _ _ _ _ _ pe_int (@pa_consC _ _ _ _ _ _ _ pe_int (@pa_consC _ _ _ _ _ _ _ pe_int (@pa_consC _ _ _ _ _ _ _ pe_int (@pa_consC _ _ _ _ _ _ _ pe_int (@pa_consC _ _ _ _ _ _ _ pe_int pa_nil))))))) (pe_def (D__law_e_take.mono (by decide)) hr rfl (@pa_consN _ _ _ _ _ _ (pv 0) (@pa_consC _ _ _ _ _ _ _ pe_int pa_nil))) (fun _ _ => rfl)) (by rfl) (by first | exact .inl rfl | exact .inr rfl | assumption)) (@pss_cons _ _ _ _ _ (@ps_set _ _ 4 _ _ _ _ nd rfl (Or.inl rfl) (@pe_op _ _ _ _ _ _ _ _ op_mulA pe_int (pe_callTy call_int1K rfl B.int bt_int (pa_cons (pe_cmpR (op_eqK (K := K) rfl hr) (pv 3) pe_int (nomark _)) pa_nil))) (by rfl) (by first | exact .inl rfl | exact .inr rfl | assumption)) (@pss_cons _ _ _ _ _ (ps_setComp (i := 5) nd rfl (Or.inl rfl) (N' := ["k", "many"]) (ix := [none, some 1]) rfl rfl rfl (pi_range1 rfl B.range (@pa_consN _ _ _ _ _ _ (pv 1) pa_nil)) (fun _ _ _ => (pg_name (i := 0) (show (["k", "many"] : List Str).Nodup from by decide +kernel) rfl (Or.inl rfl))) (fun _ _ _ => .nil) (fun _ _ _ _ => (pb_emit rfl (@pe_op _ _ _ _ _ _ _ _ op_mulA (@pe_lst _ _ _ _ (@pa_consC _ _ _ _ _ _ _ pe_int pa_nil)) (pv 1)) rfl))) (@pss_cons _ _ _ _ _ (ps_for PassesOwn.never rfl (pi_range1 rfl B.range (@pa_consN _ _ _ _ _ _ (pv 1) pa_nil)) (pg_name (i := 6) nd rfl (Or.inl rfl)) (@pss_cons _ _ _ _ _ (ps_for PassesOwn.never rfl (pi_range1 rfl B.range (@pa_consN _ _ _ _ _ _ (pv 6) pa_nil)) (pg_name (i := 7) nd rfl (Or.inl rfl)) (@pss_cons _ _ _ _ _ (ps_asg (@pe_op _ _ _ _ _ _ _ _ (op_addK (K := K) rfl) (pv 4) (pe_def (D__law_e_take.mono (by decide)) hr rfl (@pa_consN _ _ _ _ _ _ (pv 0) (@pa_consN _ _ _ _ _ _ (pv 3) pa_nil)))) (pg_sub (@pe_ix _ _ _ _ _ _ _ (ix_sqK (K := K) rfl) (pv 5) (pv 6) (fun _ _ => rfl)) (pv 7) set_list)) (@pss_cons _ _ _ _ _ (ps_asg (@pe_ix _ _ _ _ _ _ _ (ix_sqK (K := K) rfl) (@pe_ix _ _ _ _ _ _ _ (ix_sqK (K := K) rfl) (pv 5) (pv 6) (fun _ _ => rfl)) (pv 7) (fun _ _ => rfl)) (pg_sub (@pe_ix _ _ _ _ _ _ _ (ix_sqK (K := K) rfl) (pv 5) (pv 7) (fun _ _ => rfl)) (pv 6) set_list)) (@pss_cons _ _ _ _ _ (@ps_if _ _ _ _ _ _ _ _ (pt_not (pt_truK (K := K) rfl (pv 2) (fun _ => rfl))) (@pss_cons _ _ _ _ _ (ps_asg (@pe_op _ _ _ _ _ _ _ _ (op_addK (K := K) rfl) (pv 4) (pe_def (D__law_e_take.mono (by decide)) hr rfl (@pa_consN _ _ _ _ _ _ (pv 0) (@pa_consN _ _ _ _ _ _ (pv 3) pa_nil)))) (pg_sub (@pe_ix _ _ _ _ _ _ _ (ix_sqK (K := K) rfl) (pv 5) (pv 7) (fun _ _ => rfl)) (pv 6) set_list)) pss_nil) pss_nil) pss_nil)))) pss_nil)) (@pss_cons _ _ _ _ _ (@ps_ret _ _ _ _ (pe_callTy (call_tupleK (K := K) rfl) rfl B.tuple bt_tuple (pa_cons (pe_comp (N' := ["line"]) (ix := [none]) rfl rfl rfl (pi_seqK (K := K) rfl (pv 5)) (fun _ _ _ => (pg_name (i := 0) (show (["line"] : List Str).Nodup from by decide +kernel) rfl (Or.inl rfl))) (fun _ _ _ => .nil) (fun _ _ _ _ => (pb_emit rfl (pe_callTy (call_tupleK (K := K) rfl) rfl B.tuple bt_tuple (@pa_consN _ _ _ _ _ _ (pv 0) pa_nil)) rfl))) pa_nil))) pss_nil)))))
theorem sc__law_e_straight : FnScope ["table", "lines", "k", "i", "j"] ["table"] (defScope (top 38)) := ⟨rfl, rfl, rfl, by decide +kernel, rfl, by decide +kernel, by decide +kernel⟩
def T__law_e_straight (K : PySem.W.Frag)   : TS := (tSeq (tAsg (tComp [none] (iSeq K (tVar 0)) (gName 0) [] fun acc => (tEmit (tCB (rList K) (tCons (tVar 0) tNil)) acc)) (gName 1)) (tSeq (tFor (iRng1 (tCons (tCB (rLen K) (tCons (tVar 1) tNil)) tNil)) (gName 2) (tSeq (tFor (iRng1 (tCons (tCB (rLen K) (tCons (tVar 1) tNil)) tNil)) (gName 3) (tSeq (tFor (iRng1 (tCons (tCB (rLen K) (tCons (tVar 1) tNil)) tNil)) (gName 4) (tSeq (tAsg (tCB rMin2 (tCons (tOp (rIx2 K) (tOp (rIx2 K) (tVar 1) (tVar 3)) (tVar 4)) (tCons (tOp (rAddA K) (tOp (rIx2 K) (tOp (rIx2 K) (tVar 1) (tVar 3)) (tVar 2)) (tOp (rIx2 K) (tOp (rIx2 K) (tVar 1) (tVar 2)) (tVar 4))) tNil))) (gSub (tOp (rIx2 K) (tVar 1) (tVar 3)) (tVar 4) rSetL)) tNext)) tNext)) tNext)) (tSeq (tRet (tCB (rTuple K) (tCons (tComp [none] (iSeq K (tVar 1)) (gName 0) [] fun acc => (tEmit (tCB (rTuple K) (tCons (tVar 0) tNil)) acc)) tNil))) tNext)))
theorem ok__law_e_straight (F : Fun K "_law_e_straight" "_law_e_straight" (top 38) f fd) (B : Blt4 mg)      {sp : Sp} (len : ∀ vs H Q E, sp vs H Q E → vs.length = 1)
    (rd : ∀ vs H Q E, sp vs H Q E → T__law_e_straight K   { nx := fun _ H' => Q .non H', rt := Q } (start ["table", "lines", "k", "i", "j"] vs) H) : FnOk P w K mg base CX0 1 f fd ["table"] sp := by
  refine F.ok sc__law_e_straight len (fun cdv A outer s H vs Q E hr h => ⟨_, ?_, rd vs H Q E h⟩)
  have nd := sc__law_e_straight.nd
  exact (@pss_cons _ _ _ _ _ (ps_setComp (i := 1) nd rfl (Or.inl rfl) (N' := ["line"]) (ix := [none]) rfl rfl rfl (pi_seqK (K := K) rfl (pv 0)) (fun _ _ _ => (pg_name (i := 0) (show (["line"] : List Str).Nodup from by decide +kernel) rfl (Or.inl rfl))) (fun _ _ _ => .nil) (fun _ _ _ _ => (pb_emit rfl (pe_callTy (call_listK (K := K) rfl rfl) rfl B.list bt_list (@pa_consN _ _ _ _ _ _ (pv 0) pa_nil)) rfl))) (@pss_cons _ _ _ _ _ (ps_for PassesOwn.never rfl (pi_range1 rfl B.range (@pa_consK _ _ _ _ _ _ _ _ (pe_callB (call_lenK (K := K) rfl) rfl B.len bt_len (@pa_consN _ _ _ _ _ _ (pv 1) pa_nil)) pa_nil)) (pg_name (i := 2) nd rfl (Or.inl rfl)) (@pss_cons _ _ _ _ _ (ps_for PassesOwn.never rfl (pi_range1 rfl B.range (@pa_consK _ _ _ _ _ _ _ _ (pe_callB (call_lenK (K := K) rfl) rfl B.len bt_len (@pa_consN _ _ _ _ _ _ (pv 1) pa_nil)) pa_nil)) (pg_name (i := 3) nd rfl (Or.inl rfl)) (@pss_cons _ _ _ _ _ (ps_for PassesOwn.never rfl (pi_range1 rfl B.range (@pa_consK _ _ _ _ _ _ _ _ (pe_callB (call_lenK (K := K) rfl) rfl B.len bt_len (@pa_consN _ _ _ _ _ _ (pv 1) pa_nil)) pa_nil)) (pg_name (i := 4) nd rfl (Or.inl rfl)) (@pss_cons _ _ _ _ _ (ps_asg (pe_callB (call_min2K rfl) rfl B.min bt_min (@pa_consS _ _ _ _ _ _ _ (@pe_ix _ _ _ _ _ _ _ (ix_sqK (K := K) rfl) (@pe_ix _ _ _ _ _ _ _ (ix_sqK (K := K) rfl) (pv 1) (pv 3) (fun _ _ => rfl)) (pv 4) (fun _ _ => rfl)) (@pa_consB _ _ _ _ _ _ _ _ (@pe_op _ _ _ _ _ _ _ _ (op_addK (K := K) rfl) (@pe_ix _ _ _ _ _ _ _ (ix_sqK (K := K) rfl) (@pe_ix _ _ _ _ _ _ _ (ix_sqK (K := K) rfl) (pv 1) (pv 3) (fun _ _ => rfl)) (pv 2) (fun _ _ => rfl)) (@pe_ix _ _ _ _ _ _ _ (ix_sqK (K := K) rfl) (@pe_ix _ _ _ _ _ _ _ (ix_sqK (K := K) rfl) (pv 1) (pv 2) (fun _ _ => rfl)) (pv 4) (fun _ _ => rfl))) pa_nil))) (pg_sub (@pe_ix _ _ _ _ _ _ _ (ix_sqK (K := K) rfl) (pv 1) (pv 3) (fun _ _ => rfl)) (pv 4) set_list)) pss_nil)) pss_nil)) pss_nil)) (@pss_cons _ _ _ _ _ (@ps_ret _ _ _ _ (pe_callTy (call_tupleK (K := K) rfl) rfl B.tuple bt_tuple (pa_cons (pe_comp (N' := ["line"]) (ix := [none]) rfl rfl rfl (pi_seqK (K := K) rfl (pv 1)) (fun _ _ _ => (pg_name (i := 0) (show (["line"] : List Str).Nodup from by decide +kernel) rfl (Or.inl rfl))) (fun _ _ _ => .nil) (fun _ _ _ _ => (pb_emit rfl (pe_callTy (call_tupleK (K := K) rfl) rfl B.tuple bt_tuple (@pa_consN _ _ _ _ _ _ (pv 0) pa_nil)) rfl))) pa_nil))) pss_nil)))
theorem sc__law_e_sum : FnScope ["table", "told"] ["table", "told"] (defScope (top 39)) := ⟨rfl, rfl, rfl, by decide +kernel, rfl, by decide +kernel, by decide +kernel⟩
def T__law_e_sum (K : PySem.W.Frag)   : TS := (tSeq (tRet (tCB (rSum K) (tCons (tComp [none, some 0, some 1] (iRng1 (tCons (tCB (rLen K) (tCons (tVar 1) tNil)) tNil)) (gName 0) [] fun acc => (tEmit (tOp (rIx2 K) (tOp (rIx2 K) (tVar 1) (tOp (rIx2 K) (tVar 2) (tOp ySub (tVar 0) (tC (.int 1))))) (tOp (rIx2 K) (tVar 2) (tVar 0))) acc)) tNil))) tNext)
theorem ok__law_e_sum (F : Fun K "_law_e_sum" "_law_e_sum" (top 39) f fd) (B : Blt4 mg)      {sp : Sp} (len : ∀ vs H Q E, sp vs H Q E → vs.length = 2)
    (rd : ∀ vs H Q E, sp vs H Q E → T__law_e_sum K   { nx := fun _ H' => Q .non H', rt := Q } (start ["table", "told"] vs) H) : FnOk P w K mg base CX0 1 f fd ["table", "told"] sp := by
  refine F.ok sc__law_e_sum len (fun cdv A outer s H vs Q E hr h => ⟨_, ?_, rd vs H Q E h⟩)
  have nd := sc__law_e_sum.nd
  exact (@pss_cons _ _ _ _ _ (@ps_ret _ _ _ _ (pe_callB (call_sumK (K := K) rfl rfl) rfl B.sum bt_sum (pa_cons (pe_comp (N' := ["k", "table", "told"]) (ix := [none, some 0, some 1]) rfl rfl rfl (pi_range1 rfl B.range (@pa_consK _ _ _ _ _ _ _ _ (pe_callB (call_lenK (K := K) rfl) rfl B.len bt_len (@pa_consN _ _ _ _ _ _ (pv 1) pa_nil)) pa_nil)) (fun _ _ _ => (pg_name (i := 0) (show (["k", "table", "told"] : List Str).Nodup from by decide +kernel) rfl (Or.inl rfl))) (fun _ _ _ => .nil) (fun _ _ _ _ => (pb_emit rfl (@pe_ix _ _ _ _ _ _ _ (ix_sqK (K := K) rfl) (@pe_ix _ _ _ _ _ _ _ (ix_sqK (K := K) rfl) (pv 1) (@pe_ix _ _ _ _ _ _ _ (ix_sqK (K := K) rfl) (pv 2) (@pe_op _ _ _ _ _ _ _ _ op_sub (pv 0) pe_int) (fun _ _ => rfl)) (fun _ _ => rfl)) (@pe_ix _ _ _ _ _ _ _ (ix_sqK (K := K) rfl) (pv 2) (pv 0) (fun _ _ => rfl)) (fun _ _ => rfl)) rfl))) pa_nil))) pss_nil)
theorem sc_law : FnScope ["script", "pen", "turn", "many", "table", "least", "twice", "tours", "sums", "k"] ["script"] (defScope (top 40)) := ⟨rfl, rfl, rfl, by decide +kernel, rfl, by decide +kernel, by decide +kernel⟩
def T_law (K : PySem.W.Frag)  (sp__law_e_pen : Sp) (sp__law_e_straight : Sp) (sp__law_e_sum : Sp) (sp__law_e_table : Sp) (sp__law_e_take : Sp) (sp_cheapest : Sp) (sp_far : Sp) (sp_is_round : Sp) (sp_is_straight : Sp) (sp_least_tree : Sp) (sp_near : Sp) (sp_nearest : Sp) (sp_shortest : Sp) : TS := (tSeq (tAsg (tCall sp__law_e_pen [] E0 (tCons (tVar 0) tNil)) (gName 1)) (tSeq (tFor (iRng1 (tCons (tC (.int 3)) tNil)) (gName 2) (tSeq (tAsg (tOp (rAddA K) (tC (.int 1)) (tCall sp__law_e_take [] E0 (tCons (tVar 1) (tCons (tC (.int 8)) tNil)))) (gName 3)) (tSeq (tAsg (tCall sp__law_e_straight [] E0 (tCons (tCall sp__law_e_table [] E0 (tCons (tVar 1) (tCons (tVar 3) (tCons (tC (.bl true)) tNil)))) tNil)) (gName 4)) (tSeq (tAsg (tOp (rIx2 K) (tCall sp_shortest [] E0 (tCons (tVar 4) tNil)) (tC (.int 0))) (gName 5)) (tSeq (tAsg (tOp rMulA (tC (.int 2)) (tOp (rIx2 K) (tCall sp_least_tree [] E0 (tCons (tVar 4) tNil)) (tC (.int 0)))) (gName 6)) (tSeq (tAsg (tLst (tCons (tCall sp_cheapest [] E0 (tCons (tVar 4) tNil)) (tCons (tCall sp_near [] E0 (tCons (tVar 4) tNil)) (tCons (tCall sp_nearest [] E0 (tCons (tVar 4) tNil)) (tCons (tCall sp_far [] E0 (tCons (tVar 4) tNil)) tNil))))) (gName 7)) (tSeq (tIfS (tOr (tTest (tOp rIsnotB (tCall sp_is_straight [] E0 (tCons (tVar 4) tNil)) (tC (.bl true)))) (tNot (tB (tCB (rAll K) (tCons (tComp [none, some 4] (iSeq K (tVar 7)) (gName 0) [] fun acc => (tEmit (tOp rIsB (tCall sp_is_round [] E0 (tCons (tVar 1) (tCons (tVar 0) tNil))) (tC (.bl true))) acc)) tNil))))) (tSeq (tRet (tC (.bl false))) tNext) tNext) (tSeq (tAsg (tComp [none, some 4] (iSeq K (tVar 7)) (gName 0) [] fun acc => (tEmit (tCall sp__law_e_sum [] E0 (tCons (tVar 1) (tCons (tVar 0) tNil))) acc)) (gName 8)) (tSeq (tIfS (tOr (tTest (tOp yLt (tCB (rMinA K) (tCons (tVar 8) tNil)) (tVar 5))) (tOr (tTest (tOp yGt (tOp (rIx2 K) (tVar 8) (tC (.int 0))) (tVar 6))) (tTest (tOp yGt (tOp (rIx2 K) (tVar 8) (tC (.int 1))) (tVar 6))))) (tSeq (tRet (tC (.bl false))) tNext) tNext) (tSeq (tAsg (tOp (rIx2 K) (tLst (tCons (tC (.int 0)) (tCons (tC (.int 0)) (tCons (tC (.int 1)) (tCons (tC (.int 2)) (tCons (tC (.int 2)) (tCons (tC (.int 3)) (tCons (tC (.int 3)) (tCons (tC (.int 3)) (tCons (tC (.int 3)) tNil)))))))))) (tVar 3)) (gName 9)) (tSeq (tIfS (tTest (tOp yGt (tOp rMulA (tC (.int 2)) (tOp (rIx2 K) (tVar 8) (tC (.int 2)))) (tOp rMulA (tOp (rAddA K) (tVar 9) (tC (.int 1))) (tVar 5)))) (tSeq (tRet (tC (.bl false))) tNext) tNext) tNext))))))))))) (tSeq (tRet (tC (.bl true))) tNext)))
theorem ok_law (F : Fun K "law" "law" (top 40) f fd) (B : Blt4 mg)    {sp__law_e_pen : Sp} (D__law_e_pen : Def P w K mg base "_law_e_pen" 1 ["script"] sp__law_e_pen) {sp__law_e_straight : Sp} (D__law_e_straight : Def P w K mg base "_law_e_straight" 1 ["table"] sp__law_e_straight) {sp__law_e_sum : Sp} (D__law_e_sum : Def P w K mg base "_law_e_sum" 1 ["table", "told"] sp__law_e_sum) {sp__law_e_table : Sp} (D__law_e_table : Def P w K mg base "_law_e_table" 3 ["pen", "many", "even"] sp__law_e_table) {sp__law_e_take : Sp} (D__law_e_take : Def P w K mg base "_law_e_take" 2 ["pen", "many"] sp__law_e_take) {sp_cheapest : Sp} (D_cheapest : Def P w K mg base "cheapest" 3 ["table"] sp_cheapest) {sp_far : Sp} (D_far : Def P w K mg base "far" 3 ["table"] sp_far) {sp_is_round : Sp} (D_is_round : Def P w K mg base "is_round" 3 ["table", "thing"] sp_is_round) {sp_is_straight : Sp} (D_is_straight : Def P w K mg base "is_straight" 1 ["table"] sp_is_straight) {sp_least_tree : Sp} (D_least_tree : Def P w K mg base "least_tree" 2 ["table"] sp_least_tree) {sp_near : Sp} (D_near : Def P w K mg base "near" 3 ["table"] sp_near) {sp_nearest : Sp} (D_nearest : Def P w K mg base "nearest" 2 ["table"] sp_nearest) {sp_shortest : Sp} (D_shortest : Def P w K mg base "shortest" 4 ["table"] sp_shortest)  {sp : Sp} (len : ∀ vs H Q E, sp vs H Q E → vs.length = 1)
    (rd : ∀ vs H Q E, sp vs H Q E → T_law K  sp__law_e_pen sp__law_e_straight sp__law_e_sum sp__law_e_table sp__law_e_take sp_cheapest sp_far sp_is_round sp_is_straight sp_least_tree sp_near sp_nearest sp_shortest { nx := fun _ H' => Q .non H', rt := Q } (start ["script", "pen", "turn", "many", "table", "least", "twice", "tours", "sums", "k"] vs) H) : FnOk P w K mg base CX0 5 f fd ["script"] sp := by
  refine F.ok sc_law len (fun cdv A outer s H vs Q E hr h => ⟨_, ?_, rd vs H Q E h⟩)
  have nd := sc_law.nd
  exact (@pss_cons _ _ _ _ _ (@ps_set _ _ 1 _ _ _ _ nd rfl (Or.inl rfl) (pe_def (D__law_e_pen.mono (by decide)) hr rfl (@pa_consN _ _ _ _ _ _ (pv 0) pa_nil)) (by rfl) (by first | exact .inl rfl | exact .inr rfl | assumption)) (@pss_cons _ _ _ _ _ (ps_for PassesOwn.never rfl (pi_range1 rfl B.range (@pa_consC _ _ _ _ _ _ _ pe_int pa_nil)) (pg_name (i := 2) nd rfl (Or.inl rfl)) (@pss_cons _ _ _ _ _ (@ps_set _ _ 3 _ _ _ _ nd rfl (Or.inl rfl) (@pe_op _ _ _ _ _ _ _ _ (op_addK (K := K) rfl) pe_int (pe_def (D__law_e_take.mono (by decide)) hr rfl (@pa_consN _ _ _ _ _ _ (pv 1) (@pa_consC _ _ _ _ _ _ _ pe_int pa_nil)))) (by rfl) (by first | exact .inl rfl | exact .inr rfl | assumption)) (@pss_cons _ _ _ _ _ (@ps_set _ _ 4 _ _ _ _ nd rfl (Or.inr rfl) (pe_def (D__law_e_straight.mono (by decide)) hr rfl (@pa_consK _ _ _ _ _ _ _ _ (pe_def (D__law_e_table.mono (by decide)) hr rfl (@pa_consN _ _ _ _ _ _ (pv 1) (@pa_consN _ _ _ _ _ _ (pv 3) (@pa_consC _ _ _ _ _ _ _ pe_bl pa_nil)))) pa_nil)) (by rfl) (by first | exact .inl rfl | exact .inr rfl | assumption)) (@pss_cons _ _ _ _ _ (@ps_set _ _ 5 _ _ _ _ nd rfl (Or.inl rfl) (@pe_ix _ _ _ _ _ _ _ (ix_sqK (K := K) rfl) (pe_def (D_shortest.mono (by decide)) hr rfl (@pa_consN _ _ _ _ _ _ (pv 4) pa_nil)) pe_int (fun _ _ => rfl)) (by rfl) (by first | exact .inl rfl | exact .inr rfl | assumption)) (@pss_cons _ _ _ _ _ (@ps_set _ _ 6 _ _ _ _ nd rfl (Or.inl rfl) (@pe_op _ _ _ _ _ _ _ _ op_mulA pe_int (@pe_ix _ _ _ _ _ _ _ (ix_sqK (K := K) rfl) (pe_def (D_least_tree.mono (by decide)) hr rfl (@pa_consN _ _ _ _ _ _ (pv 4) pa_nil)) pe_int (fun _ _ => rfl))) (by rfl) (by first | exact .inl rfl | exact .inr rfl | assumption)) (@pss_cons _ _ _ _ _ (@ps_set _ _ 7 _ _ _ _ nd rfl (Or.inl rfl) (@pe_lst _ _ _ _ (@pa_consK _ _ _ _ _ _ _ _ (pe_def (D_cheapest.mono (by decide)) hr rfl (@pa_consN _ _ _ _ _ _ (pv 4) pa_nil)) (@pa_consK _ _ _ _ _ _ _ _ (pe_def (D_near.mono (by decide)) hr rfl (@pa_consN _ _ _ _ _ _ (pv 4) pa_nil)) (@pa_consK _ _ _ _ _ _ _ _ (pe_def (D_nearest.mono (by decide)) hr rfl (@pa_consN _ _ _ _ _ _ (pv 4) pa_nil)) (@pa_consK _ _ _ _ _ _ _ _ (pe_def (D_far.mono (by decide)) hr rfl (@pa_consN _ _ _ _ _ _ (pv 4) pa_nil)) pa_nil))))) (by rfl) (by first | exact .inl rfl | exact .inr rfl | assumption)) (@pss_cons _ _ _ _ _ (@ps_if _ _ _ _ _ _ _ _ (PW.pt (pw_or (pt_cmpR op_isnotB (pe_def (D_is_straight.mono (by decide)) hr rfl (@pa_consN _ _ _ _ _ _ (pv 4) pa_nil)) pe_bl (nomark _)) (pw_or1 (pt_not (pt_val (pe_callB (call_allK (K := K) rfl rfl) rfl B.all bt_all (pa_cons (pe_comp (N' := ["told", "table"]) (ix := [none, some 4]) rfl rfl rfl (pi_seqK (K := K) rfl (pv 7)) (fun _ _ _ => (pg_name (i := 0) (show (["told", "table"] : List Str).Nodup from by decide +kernel) rfl (Or.inl rfl))) (fun _ _ _ => .nil) (fun _ _ _ _ => (pb_emit rfl (pe_cmpR op_isB (pe_def (D_is_round.mono (by decide)) hr rfl (@pa_consN _ _ _ _ _ _ (pv 1) (@pa_consN _ _ _ _ _ _ (pv 0) pa_nil))) pe_bl (nomark _)) rfl))) pa_nil))))))) (@pss_cons _ _ _ _ _ (@ps_ret _ _ _ _ pe_bl) pss_nil) pss_nil) (@pss_cons _ _ _ _ _ (ps_setComp (i := 8) nd rfl (Or.inl rfl) (N' := ["told", "table"]) (ix := [none, some 4]) rfl rfl rfl (pi_seqK (K := K) rfl (pv 7)) (fun _ _ _ => (pg_name (i := 0) (show (["told", "table"] : List Str).Nodup from by decide +kernel) rfl (Or.inl rfl))) (fun _ _ _ => .nil) (fun _ _ _ _ => (pb_emit rfl (pe_def (D__law_e_sum.mono (by decide)) hr rfl (@pa_consN _ _ _ _ _ _ (pv 1) (@pa_consN _ _ _ _ _ _ (pv 0) pa_nil))) rfl))) (@pss_cons _ _ _ _ _ (@ps_if _ _ _ _ _ _ _ _ (PW.pt (pw_or (pt_cmpR op_lt (pe_callB (call_minAK (K := K) rfl hr rfl) rfl B.min bt_min (@pa_consN _ _ _ _ _ _ (pv 8) pa_nil)) (pv 5) (nomark _)) (pw_or (pt_cmpR op_gt (@pe_ix _ _ _ _ _ _ _ (ix_sqK (K := K) rfl) (pv 8) pe_int (fun _ _ => rfl)) (pv 6) (nomark _)) (pw_or1 (pt_cmpR op_gt (@pe_ix _ _ _ _ _ _ _ (ix_sqK (K := K) rfl) (pv 8) pe_int (fun _ _ => rfl)) (pv 6) (nomark _)))))) (@pss_cons _ _ _ _ _ (@ps_ret _ _ _ _ pe_bl) pss_nil) pss_nil) (@pss_cons _ _ _ _ _ (@ps_set _ _ 9 _ _ _ _ nd rfl (Or.inl rfl) (@pe_ix _ _ _ _ _ _ _ (ix_sqK (K := K) rfl) (@pe_lst _ _ _ _ (@pa_consC _ _ _ _ _ _ _ pe_int (@pa_consC _ _ _ _ _ _ _ pe_int (@pa_consC _ _ _ _ _ _ _ pe_int (@pa_consC _ _ _ _ _ _ _ pe_int (@pa_consC _ _ _ _ _ _ _ pe_int (@pa_consC _ _ _ _ _ _ _ pe_int (@pa_consC _ _ _ _ _ _ _ pe_int (@pa_consC _ _ _ _ _ _ _ pe_int (@pa_consC _ _ _ _ _ _ _ pe_int pa_nil)))))))))) (pv 3) (fun _ _ => rfl)) (by rfl) (by first | exact .inl rfl | exact .inr rfl | assumption)) (@pss_cons _ _ _ _ _ (@ps_if _ _ _ _ _ _ _ _ (pt_cmpR op_gt (@pe_op _ _ _ _ _ _ _ _ op_mulA pe_int (@pe_ix _ _ _ _ _ _ _ (ix_sqK (K := K) rfl) (pv 8) pe_int (fun _ _ => rfl))) (@pe_op _ _ _ _ _ _ _ _ op_mulA (@pe_op _ _ _ _ _ _ _ _ (op_addK (K := K) rfl) (pv 9) pe_int) (pv 5)) (nomark _)) (@pss_cons _ _ _ _ _ (@ps_ret _ _ _ _ pe_bl) pss_nil) pss_nil) pss_nil))))))))))) (@pss_cons _ _ _ _ _ (@ps_ret _ _ _ _ pe_bl) pss_nil)))
end
end K53
namespace K53.S
open PySem L2
def ins (p : Nat) : List Nat → List Nat
  | [] => [p]
  | a :: l => if p < a then p :: a :: l else a :: ins p l
theorem ins_perm {p : Nat} : ∀ {l : List Nat}, (ins p l).Perm (l ++ [p])
  | [] => .refl _
  | a :: l => by
    unfold ins
    split
    · exact (List.perm_append_comm (l₁ := [p]) (l₂ := a :: l))
    · exact (ins_perm (l := l)).cons a
theorem mem_ins {p x : Nat} {l : List Nat} : x ∈ ins p l ↔ x = p ∨ x ∈ l := by
  rw [ins_perm.mem_iff, List.mem_append, List.mem_singleton]; exact Or.comm
theorem ins_len {p : Nat} {l : List Nat} : (ins p l).length = l.length + 1 := by rw [ins_perm.length_eq, List.length_append]; rfl
theorem ins_up {p : Nat} : ∀ {l : List Nat}, l.Pairwise (· < ·) → p ∉ l → (ins p l).Pairwise (· < ·)
  | [], _, _ => List.pairwise_singleton ..
  | a :: l, h, hp => by
    unfold ins
    rw [List.pairwise_cons] at h
    split
    · rename_i c
      exact List.pairwise_cons.mpr ⟨fun b hb => by
        rcases List.mem_cons.mp hb with e | hb
        · omega
        · have := h.1 b hb; omega, List.pairwise_cons.mpr h⟩
    · rename_i c
      have : a ≠ p := fun e => hp (by rw [e]; exact List.mem_cons_self ..)
      refine List.pairwise_cons.mpr ⟨fun b hb => ?_, ins_up h.2 fun q => hp (List.mem_cons_of_mem _ q)⟩
      rcases mem_ins.mp hb with e | hb
      · omega
      · exact h.1 b hb
def parts : Nat → List (List Nat)
  | 0 => [[0]]
  | k + 1 => parts k ++ (parts k).map (· ++ [k + 1])
def left (n : Nat) (s : List Nat) : List Nat := (List.range n).filter fun p => !s.contains p
theorem mem_left {n p : Nat} {s : List Nat} : p ∈ left n s ↔ p < n ∧ p ∉ s := by
  unfold left
  rw [List.mem_filter, List.mem_range]
  simp
def lasts (s : List Nat) : List Nat := if s.tail.isEmpty = true then s else s.tail
def upB : List Nat → Bool
  | [] => true
  | [_] => true
  | a :: b :: l => decide (a < b) && upB (b :: l)
theorem up_of : ∀ {l : List Nat}, upB l = true → l.Pairwise (· < ·)
  | [], _ => .nil
  | [_], _ => List.pairwise_singleton ..
  | a :: b :: l, h => by
    unfold upB at h
    rw [Bool.and_eq_true] at h
    have ih := up_of h.2
    refine List.pairwise_cons.mpr ⟨fun c hc => ?_, ih⟩
    have h1 := of_decide_eq_true h.1
    rcases List.mem_cons.mp hc with e | hc
    · omega
    · have := (List.pairwise_cons.mp ih).1 c hc; omega
def one (n : Nat) (s : List Nat) (rest : List (List Nat)) : Bool :=
  upB s && (s.head? == some 0) && s.all (fun p => decide (p < n)) && (List.range n).all (fun p => s.contains p || rest.contains (ins p s)) && ((s.length == n) == (left n s).isEmpty) && decide (s.length ≤ n) && !rest.contains s
def chk (n : Nat) : List (List Nat) → Bool
  | [] => true
  | s :: rest => one n s rest && chk n rest
theorem chk_ok : ∀ k, k < 8 → chk (k + 1) (parts k) = true := by decide +kernel
theorem chk_at {n : Nat} : ∀ {P : List (List Nat)} {j : Nat} {s : List Nat}, chk n P = true → P[j]? = some s → one n s (P.drop (j + 1)) = true
  | [], _, _, _, h => by cases h
  | q :: P, 0, s, c, h => by
    unfold chk at c
    rw [Bool.and_eq_true] at c
    obtain rfl : q = s := by simpa using h
    simpa using c.1
  | q :: P, j + 1, s, c, h => by
    unfold chk at c
    rw [Bool.and_eq_true] at c
    simpa using chk_at (j := j) c.2 (by simpa using h)
structure PartOk (n : Nat) (s : List Nat) (rest : List (List Nat)) : Prop where
  up : s.Pairwise (· < ·)
  zero : ∃ r, s = 0 :: r
  lt : ∀ p ∈ s, p < n
  next : ∀ p, p < n → p ∉ s → ins p s ∈ rest
  full : s.length = n ↔ left n s = []
  le : s.length ≤ n
  new : s ∉ rest
theorem one_ok {n : Nat} {s : List Nat} {rest : List (List Nat)} (h : one n s rest = true) : PartOk n s rest := by
  unfold one at h
  simp only [Bool.and_eq_true, Bool.not_eq_true', List.all_eq_true, decide_eq_true_eq, beq_iff_eq, Bool.or_eq_true, List.mem_range, List.contains_eq_mem] at h
  obtain ⟨⟨⟨⟨⟨⟨h1, h2⟩, h3⟩, h4⟩, h5⟩, h6⟩, h7⟩ := h
  refine ⟨up_of h1, ?_, h3, fun p hp hs => (h4 p hp).resolve_left hs, ?_, h6, of_decide_eq_false h7⟩
  · cases s with
    | nil => simp at h2
    | cons a r => exact ⟨r, by simpa using h2⟩
  · rw [← List.isEmpty_iff, ← h5]
    simp
theorem part_at {n j : Nat} {s : List Nat} (h1 : 1 ≤ n) (h8 : n ≤ 8) (h : (parts (n - 1))[j]? = some s) : PartOk n s ((parts (n - 1)).drop (j + 1)) := by
  have c := chk_ok (n - 1) (by omega)
  rw [show n - 1 + 1 = n by omega] at c
  exact one_ok (chk_at c h)
theorem lasts_of {n : Nat} {s : List Nat} {rest : List (List Nat)} (ok : PartOk n s rest) : (lasts s).Nodup ∧ (∀ l ∈ lasts s, l ∈ s) ∧ ((∃ r, s = 0 :: r) → (s = [0] ∧ lasts s = [0]) ∨ (∀ l, l ∈ lasts s ↔ l ∈ s ∧ l ≠ 0)) := by
  obtain ⟨r, rfl⟩ := ok.zero
  have nd : (0 :: r).Nodup := ok.up.imp (fun h => Nat.ne_of_lt h)
  unfold lasts
  cases r with
  | nil => exact ⟨by simp, by simp, fun _ => .inl ⟨rfl, by simp⟩⟩
  | cons a r =>
    have e : (0 :: a :: r).tail.isEmpty = false := rfl
    rw [e]
    simp only [Bool.false_eq_true, if_false, List.tail_cons]
    refine ⟨(List.nodup_cons.mp nd).2, fun l hl => List.mem_cons_of_mem _ hl, fun _ => .inr fun l => ⟨fun h => ⟨List.mem_cons_of_mem _ h, fun e => ?_⟩, fun h => ?_⟩⟩
    · subst e; exact (List.nodup_cons.mp nd).1 h
    · rcases List.mem_cons.mp h.1 with e | h'
      · exact absurd e h.2
      · exact h'
abbrev Ky := List Nat × Nat
def keysOf (s : List Nat) : List Ky := (lasts s).map fun l => (s, l)
def keysR (P : List (List Nat)) : List Ky := P.reverse.flatMap keysOf
def keys (n : Nat) : List Ky := keysR (parts (n - 1))
theorem mem_keysR {P : List (List Nat)} {k : Ky} : k ∈ keysR P ↔ k.1 ∈ P ∧ k.2 ∈ lasts k.1 := by
  unfold keysR keysOf
  rw [List.mem_flatMap]
  constructor
  · rintro ⟨s, hs, h⟩
    obtain ⟨l, hl, rfl⟩ := List.mem_map.mp h
    exact ⟨List.mem_reverse.mp hs, hl⟩
  · rintro ⟨h1, h2⟩
    exact ⟨k.1, List.mem_reverse.mpr h1, List.mem_map.mpr ⟨k.2, h2, rfl⟩⟩
theorem keysR_cons {s : List Nat} {P : List (List Nat)} : keysR (s :: P) = keysR P ++ keysOf s := by
  unfold keysR; rw [List.reverse_cons, List.flatMap_append]; simp
theorem next_key {n : Nat} {s : List Nat} {rest : List (List Nat)} {p : Nat} (h1 : 1 ≤ n) (h8 : n ≤ 8) (ok : PartOk n s rest) (hr : ∀ q ∈ rest, q ∈ parts (n - 1)) (hp : p ∈ left n s) : (ins p s, p) ∈ keysR rest := by
  obtain ⟨hn, hs⟩ := mem_left.mp hp
  refine mem_keysR.mpr ⟨ok.next p hn hs, ?_⟩
  obtain ⟨j, hj⟩ := List.mem_iff_getElem?.mp (hr _ (ok.next p hn hs))
  have ok' := part_at h1 h8 hj
  obtain ⟨r, hr0⟩ := ok.zero
  have p0 : p ≠ 0 := fun e => hs (by rw [e, hr0]; exact List.mem_cons_self ..)
  rcases (lasts_of ok').2.2 ok'.zero with ⟨e, _⟩ | h
  · have : p ∈ [0] := by rw [← e]; exact mem_ins.mpr (.inl rfl)
    exact absurd (List.mem_singleton.mp this) p0
  · exact (h p).mpr ⟨mem_ins.mpr (.inl rfl), p0⟩
def minL : List Int → Int
  | [] => 0
  | a :: l => l.foldl min a
theorem minL_spec : ∀ {l : List Int} {a : Int}, (l.foldl min a) ∈ a :: l ∧ ∀ x ∈ a :: l, l.foldl min a ≤ x
  | [], a => ⟨List.mem_cons_self .., fun x hx => by rw [List.mem_singleton.mp hx]; exact Int.le_refl _⟩
  | b :: l, a => by
    obtain ⟨h1, h2⟩ := minL_spec (l := l) (a := min a b)
    rw [List.foldl_cons]
    refine ⟨?_, fun x hx => ?_⟩
    · rcases List.mem_cons.mp h1 with e | h
      · rw [e]
        by_cases c : a ≤ b
        · rw [Int.min_eq_left c]; exact List.mem_cons_self ..
        · rw [Int.min_eq_right (by omega)]; exact List.mem_cons_of_mem _ (List.mem_cons_self ..)
      · exact List.mem_cons_of_mem _ (List.mem_cons_of_mem _ h)
    · have h0 := h2 (min a b) (List.mem_cons_self ..)
      have m1 : min a b ≤ a := Int.min_le_left a b
      have m2 : min a b ≤ b := Int.min_le_right a b
      rcases List.mem_cons.mp hx with e | hx
      · omega
      · rcases List.mem_cons.mp hx with e | hx
        · omega
        · exact h2 x (List.mem_cons_of_mem _ hx)
theorem minL_mem {l : List Int} (h : l ≠ []) : minL l ∈ l := by
  cases l with
  | nil => exact absurd rfl h
  | cons a l => exact minL_spec.1
theorem minL_le {l : List Int} {x : Int} (h : x ∈ l) : minL l ≤ x := by
  cases l with
  | nil => cases h
  | cons a l => exact minL_spec.2 x h
theorem minL_eq {l : List Int} {x : Int} (h : x ∈ l) (hx : ∀ y ∈ l, x ≤ y) : minL l = x := Int.le_antisymm (minL_le h) (hx _ (minL_mem (List.ne_nil_of_mem h)))
def R (t : Nat → Nat → Int) (n : Nat) : Nat → List Nat → Nat → Int
  | 0, _, l => t l 0
  | m + 1, s, l => minL ((left n s).map fun p => t l p + R t n m (ins p s) p)
def rest (t : Nat → Nat → Int) (n : Nat) (k : Ky) : Int := R t n (n - k.1.length) k.1 k.2
section
variable {t : Nat → Nat → Int} {n : Nat}
theorem rest_full {s : List Nat} {l : Nat} (h : s.length = n) : rest t n (s, l) = t l 0 := by
  unfold rest; rw [show n - s.length = 0 by omega]; rfl
theorem rest_step {s : List Nat} {l : Nat} (h : s.length < n) : rest t n (s, l) = minL ((left n s).map fun p => t l p + rest t n (ins p s, p)) := by
  unfold rest
  obtain ⟨m, hm⟩ : ∃ m, n - s.length = m + 1 := ⟨n - s.length - 1, by omega⟩
  show R t n (n - s.length) s l = _
  rw [hm]
  show minL _ = _
  congr 1
  apply List.map_congr_left
  intro p _
  show _ = t l p + R t n (n - (ins p s).length) (ins p s) p
  rw [ins_len, show n - (s.length + 1) = m by omega]
end
end K53.S
namespace K53.S
open PySem L2
section
variable {t t' : Nat → Nat → Int} {n : Nat}
end
end K53.S
namespace K53.S
open PySem L2
abbrev ic (s : List Nat) : List Int := s.map fun p : Nat => (p : Int)
theorem ic_app {s : List Nat} {p : Nat} : ic s ++ [(p : Int)] = ic (s ++ [p]) := by unfold ic; rw [List.map_append]; rfl
def kc (k : Ky) : PKy := (ic k.1, (k.2 : Int))
theorem ic_inj {a b : List Nat} (h : ic a = ic b) : a = b := List.map_inj_right (fun x y e => by exact Int.ofNat.inj e) |>.mp h
theorem kc_inj {a b : Ky} (h : kc a = kc b) : a = b := by
  unfold kc at h
  injection h with h1 h2
  exact Prod.ext (ic_inj h1) (by omega)
section
variable {K : PySem.W.Frag} {vars : List Nat} {tb : TS} {acc : Addr} {σ : St} {H : Hp}
theorem emr_tupS {ta : TA} {r : List Int} (hr : r.length ≤ 100) (h : ∀ Q : List V → Hp → Prop, (∀ H', Same H H' → Q (r.map V.int) H') → ta σ H Q) : EmR K vars (tEmit (tTup ta) acc) acc σ H [r] := by
  intro D pre R ha hR hz hd
  refine h _ fun H1 s1 => ⟨by rw [List.length_map]; exact Nat.le_trans hr (by decide), fun t ht => ?_⟩
  have st := same_new ht (.tup (r.map V.int))
  have ha' := st _ _ (s1 _ _ ha)
  refine ⟨pre, ha', Nat.lt_of_le_of_lt (show pre.length ≤ 100000 by rw [hR.1]; omega) (by decide), ?_⟩
  exact hd σ _ _ rfl (Agree.refl _ _) ((s1.trans st).x.trans (SameX.put _)) upd_same (Rows.snoc (Rows.put (hR.same (s1.trans st)) ha') (sqT_put (.of upd_same) ha'))
theorem emr_list {a : Addr} {xs : List V} {j : Nat} {L : Nat → List (List Int)} (hj : j ∈ vars) (hjl : j < σ.length) (hs : ∀ H', SameX acc H H' → SqL K H' a xs)
    (h : ∀ i x σ' H', xs[i]? = some x → σ'.length = σ.length → Agree vars σ σ' → σ'[j]? = some (some x) → SameX acc H H' → EmR K vars tb acc σ' H' (L i)) :
    EmR K vars (tLoop (Itl K a) (gName j) tb) acc σ H ((List.range xs.length).flatMap L) := by
  intro D pre R ha hR hz hd
  refine for_list (K := K) (a := a) (xs := xs) (g := gName j) (D := D) (fun i σ' H' => i ≤ xs.length ∧ σ'.length = σ.length ∧ Agree vars σ σ' ∧ SameX acc H H' ∧ ∃ pre', H' acc = some (.lst pre') ∧ Rows K H' pre' (R ++ (List.range i).flatMap L)) ⟨Nat.zero_le _, rfl, Agree.refl _ _, SameX.refl _ _, pre, ha, by simpa using hR⟩ (fun i σ1 H1 _ ⟨_, _, _, sx, _⟩ => hs H1 sx) (fun i x σ1 H1 hx ⟨_, hl1, ag1, sx1, pre1, h1, r1⟩ => ?_) fun σ1 H1 ⟨_, hl1, ag1, sx1, pre1, h1, r1⟩ => hd σ1 H1 pre1 hl1 ag1 sx1 h1 r1
  have hi : i < xs.length := (List.getElem?_eq_some_iff.mp hx).1
  have hle := flatMap_range_le L (show i + 1 ≤ xs.length from hi)
  rw [flatMap_range_succ, List.length_append] at hle
  refine h i x (σ1.set j (some x)) H1 hx (by rw [List.length_set]; exact hl1) (ag1.trans (Agree.set hj _)) (set_at (by omega)) sx1 _ pre1 _ h1 r1 (by rw [List.length_append]; omega) fun σ' H' pre' hl ag sx h2 r2 => ⟨hi, hl.trans ((List.length_set ..).trans hl1), (ag1.trans (Agree.set hj _)).trans ag, sx1.trans sx, pre', h2, by rw [flatMap_range_succ, ← List.append_assoc]; exact r2⟩
end
theorem flat_if {α : Type} (c : Nat → Bool) (g : Nat → α) (n : Nat) : ((List.range n).flatMap fun i => if c i = true then [g i] else []) = ((List.range n).filter c).map g := by
  induction n with
  | zero => rfl
  | succ n ih =>
    rw [flatMap_range_succ, List.range_succ, List.filter_append, List.map_append, ih]
    congr 1
    cases h : c n <;> simp [List.filter, h]
theorem flat_one {α β : Type} (l : List α) (g : α → β) (L : Nat → List β) (h : ∀ i x, l[i]? = some x → L i = [g x]) : (List.range l.length).flatMap L = l.map g := by
  have key : ∀ k, k ≤ l.length → (List.range k).flatMap L = (l.take k).map g := fun k => by
    induction k with
    | zero => intro _; rfl
    | succ k ih =>
      intro hk
      have e : l[k]? = some l[k] := List.getElem?_eq_getElem (by omega)
      rw [flatMap_range_succ, ih (by omega), h k _ e, List.take_add_one, e, List.map_append]
      rfl
  rw [key _ (Nat.le_refl _), List.take_length]
theorem inV_ic {p : Nat} : ∀ {s : List Nat}, inV (.int (p : Int)) ((ic s).map V.int) = s.contains p
  | [] => rfl
  | a :: s => by
    show (eqV (.int (a : Int)) (.int (p : Int)) || inV (.int (p : Int)) ((ic s).map V.int)) = _
    rw [inV_ic, List.contains_cons]
    congr 1
    show (decide ((a : Int) = (p : Int)) : Bool) = (p == a)
    by_cases h : a = p
    · subst h; simp
    · rw [decide_eq_false (by omega), beq_eq_false_iff_ne.mpr (Ne.symm h)]
theorem flat_ic {s : List Nat} : ((ic s).map V.int).all flatV = true := by
  rw [List.all_eq_true]
  intro x hx
  obtain ⟨n, _, rfl⟩ := List.mem_map.mp hx
  rfl
section
variable {K : PySem.W.Frag}
def spJoin (K : PySem.W.Frag) : Sp := fun vs H Q _ => ∃ (a : Addr) (s : List Nat) (p : Nat), vs = [.ref a, .int (p : Int)] ∧ SqT K H a ((ic s).map V.int) ∧ s.Pairwise (· < ·) ∧ p ∉ s ∧ s ≠ [] ∧ s.length ≤ 20 ∧ ∀ b H', Same H H' → H' b = some (.tup ((ic (ins p s)).map V.int)) → Q (.ref b) H'
theorem up_ic {s : List Nat} (h : s.Pairwise (· < ·)) : (ic s).Pairwise (· ≤ ·) := List.pairwise_map.mpr (h.imp fun q => by omega)
theorem sort_ic {s : List Nat} {ms ns : List Int} (hp : ms.Perm ns) (hs : ms.Pairwise (· ≤ ·)) (hn : ns.Perm (ic s)) (h : s.Pairwise (· < ·)) : ms = ic s :=
  List.Perm.eq_of_pairwise (le := (· ≤ ·)) (fun a b _ _ h1 h2 => Int.le_antisymm h1 h2) hs (up_ic h) (hp.trans hn)
theorem rd_join : ∀ vs H Q E, spJoin K vs H Q E → T_joined K { nx := fun _ H' => Q .non H', rt := Q } (start ["some", "place"] vs) H := by
  intro vs H Q E h
  obtain ⟨a, s, p, rfl, ha, up, hp, hne, hl, q⟩ := h
  refine ⟨_, rfl, _, rfl, by show 1 ≤ sizeLine; decide, fun c hc => ?_⟩
  have s1 := same_new hc (.tup [V.int (p : Int)])
  have hz : ((ic s).map V.int).length = s.length := by rw [List.length_map, List.length_map]
  refine .inr ⟨a, c, _, _, rfl, rfl, s1.tup ha, .of upd_same, by rw [hz]; exact Nat.le_trans (show s.length + 1 ≤ 21 by omega) (by decide), fun r H2 _ hr s2 => ?_⟩
  have e : (ic s).map V.int ++ [V.int (p : Int)] = (ic s ++ [(p : Int)]).map V.int := by rw [List.map_append]; rfl
  rw [e] at hr
  refine ⟨r, _, rfl, .inr hr, by rw [ic_app, List.length_map, List.length_append]; show s.length + 1 < 64; omega, fun ms h1 h2 l hl => ?_⟩
  obtain rfl : ms = ic (ins p s) := sort_ic h1 h2 (by rw [ic_app]; exact (ins_perm.map _).symm) (ins_up up hp)
  refine ⟨l, _, rfl, .inl ⟨.of upd_same, fun b hb => ?_⟩⟩
  exact q b _ (s1.trans (s2.trans ((same_new hl _).trans (same_new hb _)))) upd_same
def spLeft (K : PySem.W.Frag) : Sp := fun vs H Q _ => ∃ (v : V) (T : List (List Int)) (n : Nat) (a : Addr) (s : List Nat), vs = [v, .ref a] ∧ Sh K H (tabD T) v ∧ Quad T n ∧ n ≤ 9 ∧ SqT K H a ((ic s).map V.int) ∧ ∀ l H', Same H H' → H' l = some (.lst ((ic (left n s)).map V.int)) → Q (.ref l) H'
theorem rd_left : ∀ vs H Q E, spLeft K vs H Q E → T_places_left_shortest K { nx := fun _ H' => Q .non H', rt := Q } (start ["table", "some"] vs) H := by
  intro vs H Q E h
  obtain ⟨v, T, n, a, s, rfl, hT, qT, h9, ha, q⟩ := h
  obtain ⟨ta, rs, rfl, hta, hrl, _⟩ := hT.tab
  have hrn : rs.length = n := by rw [hrl, qT.len]
  refine ⟨_, rfl, ta, rs, rfl, .inr hta, (n : Int), by rw [hrn], by omega, by omega, fun l hl => ?_⟩
  rw [Int.toNat_natCast]
  refine comp_emitsD [0] ((ic (left n s)).map V.int) hl ?_ (Emits.cast (loop_range (L := fun i => if (!s.contains i) = true then [natV i] else []) (by decide) (by show 0 < 2; decide) fun i σ1 H1 hi hl1 ag1 s1 sx1 _ => ?_) ?_) fun σ1 H1 sm h1 => q l H1 sm h1
  · rw [List.length_map, List.length_map]
    have := List.length_filter_le (fun p => !s.contains p) (List.range n)
    rw [List.length_range] at this
    unfold left
    omega
  · have s0 : σ1[0]? = some (some (.int (i : Int))) := by rw [s1]; simp
    have s2 : σ1[1]? = some (some (.ref a)) := (ag1 1 (by decide)).trans rfl
    have ha1 := (same_of_x hl sx1).tup ha
    refine emits_if (fun _ _ => trivial) (fun Q hq => ⟨_, s0, _, s2, a, _, rfl, .inr ha1, rfl, flat_ic, _, rfl, ?_⟩) fun hc H2 e2 => emits_one fun Q hq => ⟨_, s0, hq _ (Same.refl _)⟩
    show Q (!inV (.int (i : Int)) ((ic s).map V.int)) H1
    rw [inV_ic]
    exact hq _ (Same.refl _)
  · rw [flat_if]
    unfold left ic natV
    rw [List.map_map]; rfl
def DPk (H : Hp) (d : Addr) (xs : PEs) (ep : Nat) (ks : List Ky) (f : Ky → Int) : Prop := DP H d xs ep ∧ xs.map (fun x => (x.1, x.2.2)) = ks.map fun k => (kc k, V.int (f k))
theorem DP.same {H H' : Hp} {d : Addr} {xs : PEs} {ep : Nat} (h : DP H d xs ep) (s : Same H H') : DP H' d xs ep := ⟨s _ _ h.1, fun x hx => let ⟨b, e1, e2⟩ := h.2 x hx; ⟨b, s _ _ e1, s _ _ e2⟩⟩
theorem DPk.same {H H' : Hp} {d : Addr} {xs : PEs} {ep : Nat} {ks : List Ky} {f : Ky → Int} (h : DPk H d xs ep ks f) (s : Same H H') : DPk H' d xs ep ks f := ⟨DP.same h.1 s, h.2⟩
theorem val_ks {f : Ky → Int} {k : Ky} : ∀ {ks : List Ky} {xs : PEs}, xs.map (fun x => (x.1, x.2.2)) = ks.map (fun k => (kc k, V.int (f k))) → k ∈ ks → valP xs (kc k) = some (.int (f k))
  | [], _, _, h => by cases h
  | k' :: ks, [], e, _ => by cases e
  | k' :: ks, x :: xs, e, h => by
    rw [List.map_cons, List.map_cons] at e
    injection e with e1 e2
    injection e1 with e3 e4
    unfold valP
    rw [List.find?_cons]
    by_cases hk : k' = k
    · subst hk
      rw [decide_eq_true e3]
      show some x.2.2 = _
      rw [e4]
    · rw [decide_eq_false (fun z => hk (kc_inj (e3.symm.trans z)))]
      have := val_ks (k := k) e2 ((List.mem_cons.mp h).resolve_left (Ne.symm hk))
      unfold valP at this
      exact this
theorem val_no {f : Ky → Int} {k : Ky} : ∀ {ks : List Ky} {xs : PEs}, xs.map (fun x => (x.1, x.2.2)) = ks.map (fun k => (kc k, V.int (f k))) → k ∉ ks → valP xs (kc k) = none
  | [], [], _, h => rfl
  | [], _ :: _, e, _ => by cases e
  | k' :: ks, [], e, _ => by cases e
  | k' :: ks, x :: xs, e, h => by
    rw [List.map_cons, List.map_cons] at e
    injection e with e1 e2
    injection e1 with e3 e4
    unfold valP
    rw [List.find?_cons, decide_eq_false (fun z => h (by rw [kc_inj (e3.symm.trans z)]; exact List.mem_cons_self ..))]
    have := val_no (k := k) e2 fun z => h (List.mem_cons_of_mem _ z)
    unfold valP at this
    exact this
structure Tb (K : PySem.W.Frag) (H : Hp) (v : V) (T : List (List Int)) (n : Nat) : Prop where
  sh : Sh K H (tabD T) v
  quad : Quad T n
  one : 1 ≤ n
  most : n ≤ 8
theorem Tb.same {H H' : Hp} {v : V} {T : List (List Int)} {n : Nat} (h : Tb K H v T n) (s : Same H H') : Tb K H' v T n := ⟨h.sh.same s, h.quad, h.one, h.most⟩
def spOnw (K : PySem.W.Frag) : Sp := fun vs H Q _ => ∃ (v : V) (T : List (List Int)) (n : Nat) (d a : Addr) (xs : PEs) (ep : Nat) (ks : List Ky) (f : Ky → Int) (s : List Nat) (l : Nat), vs = [v, .ref d, .ref a, .int (l : Int)] ∧ Tb K H v T n ∧ DPk H d xs ep ks f ∧ SqT K H a ((ic s).map V.int) ∧ s.Pairwise (· < ·) ∧ s ≠ [] ∧ s.length ≤ 20 ∧ l < n ∧ (∀ p ∈ left n s, (ins p s, p) ∈ ks) ∧
  ∀ r pre H', Same H H' → H' r = some (.lst pre) → Rows K H' pre ((left n s).map fun p => [at2 T l p + f (ins p s, p), (p : Int)]) → Q (.ref r) H'
theorem rd_onw : ∀ vs H Q E, spOnw K vs H Q E → T_onward K (spJoin K) (spLeft K) { nx := fun _ H' => Q .non H', rt := Q } (start ["table", "rests", "some", "last"] vs) H := by
  intro vs H Q E h
  obtain ⟨v, T, n, d, a, xs, ep, ks, f, s, l, rfl, tb, dp, ha, up, hne, h20, hl, hks, q⟩ := h
  refine ⟨_, rfl, _, rfl, v, T, n, a, s, rfl, tb.sh, tb.quad, by have := tb.most; omega, ha, fun c H1 s1 hc => ⟨c, rfl, .inl ⟨⟨_, .of hc⟩, fun r hr => ?_⟩⟩⟩
  have lz : ((ic (left n s)).map V.int).length = (left n s).length := by rw [List.length_map, List.length_map]
  have ll : (left n s).length ≤ 8 := by
    have := List.length_filter_le (fun p => !s.contains p) (List.range n)
    rw [List.length_range] at this
    have := tb.most
    unfold left
    omega
  refine comp_emr [0] _ hr (by rw [List.length_map]; omega) (EmR.cast (emr_list (xs := (ic (left n s)).map V.int) (L := fun i => [[at2 T l ((left n s).getD i 0) + f (ins ((left n s).getD i 0) s, (left n s).getD i 0), (((left n s).getD i 0 : Nat) : Int)]]) (by decide) (by show 0 < 5; decide) (fun H' sx => (same_of_x hr sx).seq (.of hc)) fun i x σ1 H2 hx hl1 ag1 st sx => ?_) ?_) fun σ1 H2 pre sm h2 h3 => q r pre H2 (s1.trans sm) h2 h3
  · have sm := s1.trans (same_of_x hr sx)
    rw [List.map_map, List.getElem?_map] at hx
    obtain ⟨p, hp, rfl⟩ := Option.map_eq_some_iff.mp hx
    have ep' : (left n s).getD i 0 = p := by rw [List.getD_eq_getElem?_getD, hp]; rfl
    rw [ep']
    obtain ⟨hpn, hps⟩ := mem_left.mp (List.mem_of_getElem? hp)
    have z1 : σ1[1]? = some (some v) := (ag1 1 (by decide)).trans rfl
    have z2 : σ1[2]? = some (some (.int (l : Int))) := (ag1 2 (by decide)).trans rfl
    have z3 : σ1[3]? = some (some (.ref d)) := (ag1 3 (by decide)).trans rfl
    have z4 : σ1[4]? = some (some (.ref a)) := (ag1 4 (by decide)).trans rfl
    refine emr_tupS (by show 2 ≤ 100; decide) fun Q2 hq => ?_
    have tb2 := tb.same sm
    refine tab_at z1 z2 st tb2.sh tb2.quad hl hpn ?_
    refine ⟨_, z3, _, z4, _, st, a, s, p, rfl, sm.tup ha, up, hps, hne, h20, fun b H3 s3 hb => ?_⟩
    refine ⟨_, st, by show 2 ≤ sizeLine; decide, fun g hg => ?_⟩
    have s4 := same_new hg (.tup [V.ref b, V.int (p : Int)])
    refine ⟨d, g, xs, ep, kc (ins p s, p), _, rfl, rfl, (dp.same (sm.trans (s3.trans s4))).1, ⟨b, .of upd_same, .of (s4 _ _ hb)⟩, val_ks dp.2 (hks p (List.mem_of_getElem? hp)), ?_⟩
    dsimp only [rAddA]
    exact ⟨_, st, hq _ (s3.trans s4)⟩
  · rw [lz]
    exact flat_one _ _ _ fun i x hx => by rw [List.getD_eq_getElem?_getD, hx]; rfl
end
end K53.S
namespace K53.S
open PySem L2
def Tups (H : Hp) (pre : List V) (P : List (List Nat)) : Prop := pre.length = P.length ∧ ∀ (i : Nat) (s : List Nat), P[i]? = some s → ∃ b, pre[i]? = some (.ref b) ∧ H b = some (.tup ((ic s).map V.int))
theorem Tups.same {H H' : Hp} {pre : List V} {P : List (List Nat)} (h : Tups H pre P) (s : Same H H') : Tups H' pre P := ⟨h.1, fun i q e => let ⟨b, e1, e2⟩ := h.2 i q e; ⟨b, e1, s _ _ e2⟩⟩
theorem Tups.x {H H' : Hp} {pre : List V} {P : List (List Nat)} {d : Addr} {o : HO} (h : Tups H pre P) (hd : H d = some o) (ho : ∀ xs, o ≠ .tup xs) (s : SameX d H H') : Tups H' pre P :=
  ⟨h.1, fun i q e => let ⟨b, e1, e2⟩ := h.2 i q e; ⟨b, e1, s _ _ (fun z => by subst z; rw [hd] at e2; exact ho _ (Option.some.inj e2)) e2⟩⟩
theorem Tups.nil {H : Hp} : Tups H [] [] := ⟨rfl, fun i s e => by cases e⟩
theorem get_app {α : Type} {l m : List α} {i : Nat} {x : α} (h : (l ++ m)[i]? = some x) : (i < l.length ∧ l[i]? = some x) ∨ (l.length ≤ i ∧ m[i - l.length]? = some x) := by
  by_cases hi : i < l.length
  · exact .inl ⟨hi, by rw [List.getElem?_append_left hi] at h; exact h⟩
  · exact .inr ⟨by omega, by rw [List.getElem?_append_right (by omega)] at h; exact h⟩
theorem Tups.app {H : Hp} {pre pre' : List V} {P P' : List (List Nat)} (h : Tups H pre P) (h' : Tups H pre' P') : Tups H (pre ++ pre') (P ++ P') := by
  refine ⟨by rw [List.length_append, List.length_append, h.1, h'.1], fun i s e => ?_⟩
  rcases get_app e with ⟨hi, e⟩ | ⟨hi, e⟩
  · obtain ⟨b, e1, e2⟩ := h.2 i s e
    exact ⟨b, by rw [List.getElem?_append_left (by rw [h.1]; exact hi)]; exact e1, e2⟩
  · obtain ⟨b, e1, e2⟩ := h'.2 _ s e
    exact ⟨b, by rw [List.getElem?_append_right (by rw [h.1]; exact hi), h.1]; exact e1, e2⟩
theorem Tups.one {H : Hp} {b : Addr} {s : List Nat} (h : H b = some (.tup ((ic s).map V.int))) : Tups H [.ref b] [s] := ⟨rfl, fun i q e => by
  match i, e with
  | 0, e =>
    obtain rfl : s = q := by simpa using e
    exact ⟨b, rfl, h⟩⟩
theorem parts_len : ∀ k, (parts k).length = 2 ^ k
  | 0 => rfl
  | k + 1 => by
    show (parts k ++ (parts k).map (· ++ [k + 1])).length = _
    rw [List.length_append, List.length_map, parts_len k, Nat.pow_succ]; omega
theorem parts_le {k : Nat} (h : k < 8) : (parts k).length ≤ 128 := by
  rw [parts_len]
  exact Nat.le_trans (Nat.pow_le_pow_right (by decide) (show k ≤ 7 by omega)) (by decide)
theorem eqD_int {i j : Int} : eqD (.int i) (.int j) = decide (i = j) := by rw [eqD]; rfl
section
variable {K : PySem.W.Frag}
theorem same_put {H H' : Hp} {p : Addr} {o : HO} (h : H p = none) (s : Same H H') : Same H (upd H' p o) := fun b u e => by rw [upd_ne (ne_of_none e h)]; exact s _ _ e
theorem cat_new {H H' : Hp} {a b p : Addr} {xs ys : List V} (hx : xs ≠ []) (hy : ys ≠ []) (h : (p = a ∧ H' = H ∧ ys = []) ∨ (p = b ∧ H' = H ∧ xs = []) ∨ (H p = none ∧ H' = upd H p (.tup (xs ++ ys)))) : H' p = some (.tup (xs ++ ys)) := by
  rcases h with ⟨_, _, e⟩ | ⟨_, _, e⟩ | ⟨_, e⟩
  · exact absurd e hy
  · exact absurd e hx
  · rw [e]; exact upd_same
def spParts : Sp := fun vs H Q _ => ∃ n : Nat, vs = [.int (n : Int)] ∧ 1 ≤ n ∧ n ≤ 8 ∧ ∀ l pre H', Same H H' → H' l = some (.lst pre) → Tups H' pre (parts (n - 1)) → Q (.ref l) H'
theorem rd_parts : ∀ vs H Q E, spParts vs H Q E → T_parts_with_home K { nx := fun _ H' => Q .non H', rt := Q } (start ["many", "parts", "place"] vs) H := by
  intro vs H Q E h
  obtain ⟨n, rfl, h1, h8, q⟩ := h
  refine ⟨by show 1 ≤ sizeLine; decide, fun c hc => ⟨by show 1 ≤ sizeLine; decide, fun l hl => ?_⟩⟩
  have s0 := (same_new hc (.tup [V.int 0])).trans (same_new hl (.lst [.ref c]))
  have hl0 : upd (upd H c (.tup [V.int 0])) l (.lst [.ref c]) l = some (.lst [.ref c]) := upd_same
  have t0 : Tups (upd (upd H c (.tup [V.int 0])) l (.lst [.ref c])) [.ref c] (parts 0) := Tups.one ((same_new hl _) _ _ upd_same)
  show tSeq _ _ _ _ (upd (upd H c (.tup [V.int 0])) l (.lst [.ref c]))
  generalize upd (upd H c (.tup [V.int 0])) l (.lst [.ref c]) = H0 at s0 hl0 t0 ⊢
  refine ⟨_, rfl, 1, (n : Int), rfl, ⟨by omega, by omega, by omega, by omega⟩, ?_⟩
  rw [show ((n : Int) - 1).toNat = n - 1 by omega]
  refine for_range (lo := 1) (n := n - 1) (fun i σ' H' => ∃ l pre x, σ' = [some (.int (n : Int)), some (.ref l), x] ∧ H' l = some (.lst pre) ∧ Tups H' pre (parts i) ∧ Same H H') ⟨l, _, none, rfl, hl0, t0, s0⟩ (fun i σ1 H1 hi ⟨l, pre, x, e1, hl, ht, s1⟩ => ?_) fun σ1 H1 ⟨l, pre, x, e1, hl, ht, s1⟩ => ?_
  · subst e1
    have hi8 : i < 8 := by omega
    refine ⟨_, rfl, _, rfl, l, rfl, .inl ⟨⟨_, .of hl⟩, fun acc ha => ?_⟩⟩
    refine inv_list (vars := [0]) (xs := pre) (fun i' L H' => Tups H' L (((parts i).take i').map (· ++ [i + 1]))) (by decide) (by show 0 < 2; decide) Tups.nil ha (fun i' L H' sm _ => .of (sm _ _ hl)) (fun i' y σ2 H2 L D hy hl2 ag2 st2 sm2 ha2 r2 hD => ?_) fun σ2 H2 L sm2 ha2 r2 => ?_
    · have hi' : i' < (parts i).length := by rw [← ht.1]; exact (List.getElem?_eq_some_iff.mp hy).1
      obtain ⟨b, e1, e2⟩ := ht.2 i' _ (List.getElem?_eq_getElem hi')
      rw [hy] at e1
      cases e1
      have hb := sm2 _ _ e2
      have ok : PartOk (i + 1) ((parts i)[i']) _ := part_at (n := i + 1) (j := i') (by omega) (by omega) (List.getElem?_eq_getElem hi')
      obtain ⟨r, hr⟩ := ok.zero
      have hle := ok.le
      have es : (parts i)[i']? = some ((parts i)[i']) := List.getElem?_eq_getElem hi'
      generalize (parts i)[i'] = s at hb hr es hle
      have z1 : σ2[1]? = some (some (.int (1 + (i : Int)))) := (ag2 1 (by decide)).trans rfl
      have hn : (ic s).map V.int ≠ [] := by rw [hr]; simp
      refine ⟨_, st2, _, z1, by show 1 ≤ sizeLine; decide, fun c hc => .inr ⟨b, c, _, _, rfl, rfl, .of ((same_new hc _) _ _ hb), .of upd_same, ?_, fun p H3 hcase _ s3 => ?_⟩⟩
      · rw [List.length_map, List.length_map]; exact Nat.le_trans (show s.length + 1 ≤ 10 by omega) (by decide)
      have hp := cat_new hn (by simp) hcase
      have sm3 := (same_new hc (.tup [V.int (1 + (i : Int))])).trans s3
      have ha3 := sm3 _ _ ha2
      refine ⟨L, ha3, ?_, ?_⟩
      · rw [r2.1, List.length_map, List.length_take]
        have := parts_le hi8
        exact Nat.lt_of_le_of_lt (show min i' (parts i).length ≤ 128 by omega) (by decide)
      have e2 : (ic s).map V.int ++ [V.int (1 + (i : Int))] = (ic (s ++ [i + 1])).map V.int := by
        rw [← ic_app, List.map_append]
        show _ ++ [V.int (1 + (i : Int))] = _ ++ [V.int ((i + 1 : Nat) : Int)]
        rw [show (1 : Int) + (i : Int) = ((i + 1 : Nat) : Int) by omega]
      rw [e2] at hp
      refine hD _ _ _ hl2 ag2 (same_put ha (sm2.trans sm3)) upd_same ?_
      have tt : Tups H3 (L ++ [.ref p]) ((((parts i).take (i' + 1)).map (· ++ [i + 1]))) := by
        rw [List.take_add_one, es, List.map_append]
        exact (r2.same sm3).app (Tups.one hp)
      exact tt.x ha3 (fun _ z => by cases z) (SameX.put _)
    · have hl2 := sm2 _ _ hl
      have hz : (parts i).length ≤ 128 := parts_le hi8
      rw [ht.1, List.take_length] at r2
      refine .inl ⟨l, acc, pre, L, rfl, rfl, hl2, ha2, ?_, fun p hp => ?_⟩
      · rw [ht.1, r2.1, List.length_map]
        exact Nat.le_trans (show (parts i).length + (parts i).length ≤ 256 by omega) (by decide)
      · exact ⟨p, _, _, rfl, upd_same, ((ht.same sm2).app r2).same (same_new hp _), s1.trans (sm2.trans (same_new hp _))⟩
  · subst e1
    exact ⟨_, rfl, q l pre H1 s1 hl ht⟩
end
end K53.S
namespace K53.S
open PySem L2
theorem lex_le {a b : Int} {r q : List Int} (h : lexL (a :: r) (b :: q) = false) : b ≤ a := by
  unfold lexL at h
  by_cases e : a = b
  · omega
  · rw [if_neg e] at h
    have := of_decide_eq_false h
    omega
theorem keys_small : ∀ k, k < 8 → (keysR (parts k)).length ≤ 1000 := by decide +kernel
theorem keysR_app {A B : List (List Nat)} : keysR (A ++ B) = keysR B ++ keysR A := by unfold keysR; rw [List.reverse_append, List.flatMap_append]
theorem keysR_drop {P : List (List Nat)} {m : Nat} : (keysR (P.drop m)).length ≤ (keysR P).length := by
  have e : keysR P = keysR (P.drop m) ++ keysR (P.take m) := by rw [← keysR_app, List.take_append_drop]
  rw [e, List.length_append]; omega
section
variable {K : PySem.W.Frag}
theorem sqT_x {H H' : Hp} {a d : Addr} {xs : List V} {o : HO} (h : SqT K H a xs) (hd : H d = some o) (h1 : ∀ ys, o ≠ .tup ys) (h2 : ∀ q u, o ≠ .frz q u) (s : SameX d H H') : SqT K H' a xs := by
  rcases h with (h | ⟨u, h⟩) | h
  · exact .inl (.inl (s _ _ (fun z => by subst z; rw [hd] at h; exact h1 _ (Option.some.inj h)) h))
  · exact .inl (.inr ⟨u, s _ _ (fun z => by subst z; rw [hd] at h; exact h2 _ _ (Option.some.inj h)) h⟩)
  · exact .inr h
theorem DPk.len {H : Hp} {d : Addr} {xs : PEs} {ep : Nat} {ks : List Ky} {f : Ky → Int} (h : DPk H d xs ep ks f) : xs.length = ks.length := by
  have := congrArg List.length h.2
  rw [List.length_map, List.length_map] at this
  exact this
theorem DPk.put {H : Hp} {d g : Addr} {xs : PEs} {ep ep' : Nat} {ks : List Ky} {f : Ky → Int} {k : Ky} (h : DPk H d xs ep ks f) (hk : KeyP H (kc k) g) : DPk (upd H d (dpO d (xs ++ [(kc k, g, V.int (f k))]) ep')) d (xs ++ [(kc k, g, V.int (f k))]) ep' (ks ++ [k]) f := by
  refine ⟨⟨upd_same, fun x hx => ?_⟩, ?_⟩
  · have hx' : KeyP H x.1 x.2.1 := by
      rcases List.mem_append.mp hx with hx | hx
      · exact h.1.2 x hx
      · rw [List.mem_singleton.mp hx]; exact hk
    obtain ⟨b, e1, e2⟩ := hx'
    exact ⟨b, by rw [upd_ne (fun z => by rw [z, h.1.1] at e1; cases e1)]; exact e1, by rw [upd_ne (fun z => by rw [z, h.1.1] at e2; cases e2)]; exact e2⟩
  · rw [List.map_append, List.map_append, h.2]; rfl
theorem or_lasts {H : Hp} {s : List Nat} {p a : Addr} {σ : St} {Q : VK} (hp : SqT K H p ((ic s.tail).map V.int)) (ha : SqT K H a ((ic s).map V.int)) (hs : σ[2]? = some (some (.ref a))) (q : ∀ z, SqT K H z ((ic (lasts s)).map V.int) → Q (.ref z) H) :
    ∃ c, TruV K (.ref p) H c ∧ if c = true then Q (.ref p) H else tVar 2 σ H Q := by
  refine ⟨!((ic s.tail).map V.int).isEmpty, .inr (.inl ⟨_, hp, rfl⟩), ?_⟩
  have e : ((ic s.tail).map V.int).isEmpty = s.tail.isEmpty := by cases s.tail <;> rfl
  rw [e]
  cases h : s.tail.isEmpty with
  | true => exact iteF ⟨_, hs, q a (by unfold lasts; rw [h]; exact ha)⟩
  | false => exact iteT (q p (by unfold lasts; rw [h]; exact hp))
def spRests (K : PySem.W.Frag) : Sp := fun vs H Q _ => ∃ (v : V) (T : List (List Int)) (n : Nat), vs = [v] ∧ Tb K H v T n ∧ ∀ d xs ep H', Same H H' → DPk H' d xs ep (keys n) (rest (at2 T) n) → Q (.ref d) H'
theorem rd_rests : ∀ vs H Q E, spRests K vs H Q E → T_least_rests K (spOnw K) spParts { nx := fun _ H' => Q .non H', rt := Q } (start ["table", "rests", "some", "last"] vs) H := by
  intro vs H Q E h
  obtain ⟨v, T, n, rfl, tb, q⟩ := h
  intro d ep0 hd
  have sd := same_new hd (dpO d [] ep0)
  have hd0 : upd H d (dpO d [] ep0) d = some (dpO d [] ep0) := upd_same
  show tSeq _ _ _ _ (upd H d (dpO d [] ep0))
  generalize upd H d (dpO d [] ep0) = H0 at sd hd0 ⊢
  have tb0 := tb.same sd
  obtain ⟨ta, rs, ev, hta, hrl, _⟩ := tb0.sh.tab
  subst ev
  have hrn : rs.length = n := by rw [hrl, tb.quad.len]
  have h1 := tb.one
  have h8 := tb.most
  refine ⟨_, rfl, ta, rs, rfl, .inr hta, n, by rw [hrn]; rfl, h1, h8, fun pa pre H1 s1 hpa tps => ⟨pa, pre, rfl, .of hpa, ?_⟩⟩
  have hd1 := s1 _ _ hd0
  have hN : pre.length = (parts (n - 1)).length := tps.1
  have s01 := sd.trans s1
  have up1 : ∀ {H' : Hp}, SameX d H1 H' → Same H H' := fun sx b u e => sx b u (ne_of_none e hd) (s01 b u e)
  refine for_rev (xs := pre) rfl (fun i σ' H' => i ≤ (parts (n - 1)).length ∧ ∃ xs ep x2 x3, σ' = [some (.ref ta), some (.ref d), x2, x3] ∧ DPk H' d xs ep (keysR ((parts (n - 1)).drop ((parts (n - 1)).length - i))) (rest (at2 T) n) ∧ SameX d H1 H') ⟨Nat.zero_le _, [], ep0, none, none, rfl, ⟨⟨hd1, fun x hx => by cases hx⟩, by rw [Nat.sub_zero, List.drop_length]; rfl⟩, SameX.refl _ _⟩ (fun i σ1 H2 _ ⟨_, xs, ep, x2, x3, _, _, sx⟩ => .of (sx _ _ (fun z => by subst z; rw [hpa] at hd1; cases hd1) hpa)) ?_ ?_
  · rintro i y σ1 H2 hi hy ⟨_, xs, ep, x2, x3, rfl, dp, sx⟩
    have hi : i < (parts (n - 1)).length := by omega
    have hj : (parts (n - 1)).length - 1 - i < (parts (n - 1)).length := by omega
    have hps : (parts (n - 1))[(parts (n - 1)).length - 1 - i]? = some ((parts (n - 1))[(parts (n - 1)).length - 1 - i]) := List.getElem?_eq_getElem hj
    obtain ⟨b, e1, e2⟩ := tps.2 _ _ hps
    rw [hN, e1] at hy
    cases hy
    have ok := part_at h1 h8 hps
    have edr : (parts (n - 1)).drop ((parts (n - 1)).length - (i + 1)) = (parts (n - 1))[(parts (n - 1)).length - 1 - i] :: (parts (n - 1)).drop ((parts (n - 1)).length - i) := by
      rw [show (parts (n - 1)).length - (i + 1) = (parts (n - 1)).length - 1 - i by omega, List.drop_eq_getElem_cons hj, show (parts (n - 1)).length - 1 - i + 1 = (parts (n - 1)).length - i by omega]
    rw [show (parts (n - 1)).length - 1 - i + 1 = (parts (n - 1)).length - i by omega] at ok
    have hsm := keysR_drop (P := parts (n - 1)) (m := (parts (n - 1)).length - (i + 1))
    have hk8 := keys_small (n - 1) (by omega)
    rw [edr] at hsm ⊢
    have hrest : ∀ q ∈ (parts (n - 1)).drop ((parts (n - 1)).length - i), q ∈ parts (n - 1) := fun q hq => List.mem_of_mem_drop hq
    generalize (parts (n - 1))[(parts (n - 1)).length - 1 - i] = s at e2 ok hsm ⊢
    generalize (parts (n - 1)).drop ((parts (n - 1)).length - i) = rst at dp ok hsm hrest ⊢
    rw [keysR_cons] at hsm ⊢
    obtain ⟨lnd, lin, _⟩ := lasts_of ok
    have hbd : b ≠ d := fun z => by subst z; rw [e2] at hd1; cases hd1
    have hb2 := sx _ _ hbd e2
    refine ⟨_, rfl, 1, rfl, .inr ⟨b, _, rfl, .of hb2, fun p H3 s3 hp => ?_⟩⟩
    have hp' : SqT K H3 p ((ic s.tail).map V.int) := by
      have e := cut_from (xs := (ic s).map V.int) (t := 1) (by obtain ⟨r, rfl⟩ := ok.zero; simp)
      rw [show ((1 : Nat) : Int) = 1 from rfl] at e
      rw [e] at hp
      have e2 : ((ic s).map V.int).drop 1 = (ic s.tail).map V.int := by cases s <;> rfl
      rw [e2] at hp
      exact hp
    have hb3 := s3 _ _ hb2
    have dp3 := dp.same s3
    have hd3 := dp3.1.1
    refine or_lasts hp' (.of hb3) rfl fun z hz => ⟨z, rfl, .inr ⟨⟨_, hz⟩, ?_⟩⟩
    have lz : ((ic (lasts s)).map V.int).length = (lasts s).length := by rw [List.length_map, List.length_map]
    refine for_tup (K := K) (a := z) (xs := (ic (lasts s)).map V.int) (fun j σ' H' => ∃ xs ep x3, σ' = [some (.ref ta), some (.ref d), some (.ref b), x3] ∧ DPk H' d xs ep (keysR rst ++ (keysOf s).take j) (rest (at2 T) n) ∧ SameX d H3 H') ⟨xs, ep, x3, rfl, by rw [List.take_zero, List.append_nil]; exact dp3, SameX.refl _ _⟩ (fun j σ' H' _ ⟨_, _, _, _, _, sx'⟩ => sqT_x hz hd3 (fun _ z => by cases z) (fun _ _ z => by cases z) sx') ?_ ?_
    · rintro j y σ2 H4 hy ⟨xs, ep, x3, rfl, dp4, sx4⟩
      rw [List.map_map, List.getElem?_map] at hy
      obtain ⟨l, hl, rfl⟩ := Option.map_eq_some_iff.mp hy
      have hlm := List.mem_of_getElem? hl
      have hln : l < n := ok.lt l (lin l hlm)
      have hb4 := sx4 _ _ hbd hb3
      have sxx : SameX d H1 H4 := (sx.trans s3.x).trans sx4
      have sm4 := up1 sxx
      have tb4 := tb.same sm4
      obtain ⟨ta', rs', ev, hta4, hrl4, _⟩ := tb4.sh.tab
      cases ev
      have hrn4 : rs'.length = n := by rw [hrl4, tb.quad.len]
      have hkl : (keysOf s)[j]? = some (s, l) := by unfold keysOf; rw [List.getElem?_map, hl]; rfl
      have hknew : (s, l) ∉ keysR rst ++ (keysOf s).take j := by
        rw [List.mem_append]
        rintro (hm | hm)
        · exact ok.new (mem_keysR.mp hm).1
        · unfold keysOf at hm
          rw [← List.map_take] at hm
          obtain ⟨l', hl', e⟩ := List.mem_map.mp hm
          have e : l' = l := (Prod.mk.inj e).2
          subst e
          obtain ⟨m, hm'⟩ := List.mem_iff_getElem?.mp hl'
          rw [List.getElem?_take] at hm'
          split at hm'
          · rename_i hlt
            have hjl := (List.getElem?_eq_some_iff.mp hl)
            have hml := (List.getElem?_eq_some_iff.mp hm')
            have := (List.getElem_inj lnd).mp (hml.2.trans hjl.2.symm)
            omega
          · cases hm'
      have hxl : xs.length < sizeLine := by
        rw [dp4.len, List.length_append, List.length_take]
        rw [List.length_append] at hsm
        exact Nat.lt_of_le_of_lt (show (keysR rst).length + min j (keysOf s).length ≤ 1000 by omega) (by decide)
      have fin : ∀ (g : Addr) (H5 : Hp), Same H4 H5 → H5 g = none → ∀ D : Ends, (∀ σ' H', (∃ xs ep x3, σ' = [some (V.ref ta), some (.ref d), some (.ref b), x3] ∧ DPk H' d xs ep (keysR rst ++ (keysOf s).take (j + 1)) (rest (at2 T) n) ∧ SameX d H3 H') → D.nx σ' H') →
          ∃ a c xs ep k, V.ref d = V.ref a ∧ V.ref g = V.ref c ∧ DP (upd H5 g (.tup [.ref b, .int (l : Int)])) a xs ep ∧ KeyP (upd H5 g (.tup [.ref b, .int (l : Int)])) k c ∧ valP xs k = none ∧ xs.length < sizeLine ∧ ∀ ep', D.nx [some (V.ref ta), some (.ref d), some (.ref b), some (.int (l : Int))] (upd (upd H5 g (.tup [.ref b, .int (l : Int)])) a (dpO a (xs ++ [(k, c, V.int (rest (at2 T) n (s, l)))]) ep')) := fun g H5 s5 hg D hD => by
        have s6 := same_new hg (.tup [V.ref b, .int (l : Int)])
        have dp6 := (dp4.same s5).same s6
        have kp : KeyP (upd H5 g (.tup [.ref b, .int (l : Int)])) (kc (s, l)) g := ⟨b, upd_same, s6 _ _ (s5 _ _ hb4)⟩
        refine ⟨d, g, xs, ep, kc (s, l), rfl, rfl, dp6.1, kp, val_no dp4.2 hknew, hxl, fun ep' => hD _ _ ⟨xs ++ [(kc (s, l), g, V.int (rest (at2 T) n (s, l)))], ep', _, rfl, ?_, (sx4.trans (s5.trans s6).x).trans (SameX.put _)⟩⟩
        have := DPk.put (ep' := ep') dp6 kp
        rw [List.append_assoc] at this
        rw [List.take_add_one, hkl]
        exact this
      by_cases hf : s.length = n
      · refine ⟨_, rfl, b, _, rfl, .inr (.of hb4), _, rfl, ta, rs', rfl, .inr hta4, .int _, .int _, Nat.zero_le _, rfl, rfl, _, rfl, iteT' ?_ ?_⟩
        · rw [eqD_int, List.length_map, List.length_map, hrn4, hf]; exact decide_eq_true rfl
        refine ⟨_, rfl, _, rfl, tab_row tb4.sh tb.quad hln fun c hc => ixT (j := 0) hc (v := .int (at2 T l 0)) ?_ ?_⟩
        · obtain ⟨row, e1, e2, e3⟩ := tb.quad.get hln
          rw [List.getElem?_map, L2.getD_at (by rw [e3]; omega)]; rfl
        refine ⟨_, rfl, _, rfl, _, rfl, by show 2 ≤ sizeLine; decide, fun g hg => ?_⟩
        have := fin g H4 (Same.refl _) hg
        rw [rest_full hf] at this
        exact this _ fun σ' H' z => z
      · have hlt : s.length < n := by have := ok.le; omega
        refine ⟨_, rfl, b, _, rfl, .inr (.of hb4), _, rfl, ta, rs', rfl, .inr hta4, .int _, .int _, Nat.zero_le _, rfl, rfl, _, rfl, iteF' ?_ ?_⟩
        · rw [eqD_int, List.length_map, List.length_map, hrn4]; exact decide_eq_false (by omega)
        refine ⟨_, rfl, _, rfl, _, rfl, _, rfl, .ref ta, T, n, d, b, xs, ep, _, _, s, l, rfl, tb4, dp4, .of hb4, ok.up, ?_, by omega, hln, fun p hp => List.mem_append_left _ (next_key h1 h8 ok hrest hp), fun r pre' H5 s5 hr rows => ?_⟩
        · obtain ⟨r, rfl⟩ := ok.zero; simp
        have hne : left n s ≠ [] := fun e => hf (ok.full.mpr e)
        refine .inr ⟨r, pre', _, rfl, .inl (.of hr), rows, by simpa using hne, fun i' c row hi1 hi2 hc hmin => ?_⟩
        rw [List.getElem?_map] at hi2
        obtain ⟨p, hp, rfl⟩ := Option.map_eq_some_iff.mp hi2
        have hval : at2 T l p + rest (at2 T) n (ins p s, p) = rest (at2 T) n (s, l) := by
          rw [rest_step hlt]
          refine (minL_eq (x := at2 T l p + rest (at2 T) n (ins p s, p)) (List.mem_map.mpr ⟨p, List.mem_of_getElem? hp, rfl⟩) fun y hy => ?_).symm
          obtain ⟨p', hp', rfl⟩ := List.mem_map.mp hy
          exact lex_le (hmin _ (List.mem_map.mpr ⟨p', hp', rfl⟩))
        rw [hval] at hc
        refine ixT (j := 0) hc rfl ?_
        exact ⟨_, rfl, _, rfl, _, rfl, by show 2 ≤ sizeLine; decide, fun g hg => fin g H5 s5 hg _ fun σ' H' z => z⟩
    · rintro σ2 H4 ⟨xs, ep, x3, rfl, dp4, sx4⟩
      refine ⟨by omega, xs, ep, _, x3, rfl, ?_, (sx.trans s3.x).trans sx4⟩
      have e : (keysOf s).take ((ic (lasts s)).map V.int).length = keysOf s := by
        rw [lz]
        exact List.take_of_length_le (by unfold keysOf; rw [List.length_map]; exact Nat.le_refl _)
      rw [e] at dp4
      exact dp4
  · rintro σ1 H2 ⟨_, xs, ep, x2, x3, rfl, dp, sx⟩
    refine ⟨_, rfl, q d xs ep H2 (up1 sx) ?_⟩
    rw [hN, Nat.sub_self, List.drop_zero] at dp
    exact dp
end
end K53.S
namespace K53.S
open PySem L2
def pth (t : Nat → Nat → Int) : List Nat → Int
  | [] => 0
  | [_] => 0
  | a :: b :: l => t a b + pth t (b :: l)
theorem pth_snoc {t : Nat → Nat → Int} {p l : Nat} : ∀ {g : List Nat}, pth t (g ++ [l] ++ [p]) = pth t (g ++ [l]) + t l p
  | [] => by show t l p + 0 = 0 + t l p; omega
  | [a] => by show t a l + (t l p + 0) = t a l + 0 + t l p; omega
  | a :: b :: g => by
    have := pth_snoc (t := t) (p := p) (l := l) (g := b :: g)
    show t a b + pth t (b :: g ++ [l] ++ [p]) = t a b + pth t (b :: g ++ [l]) + t l p
    rw [this]; omega
structure Round (n : Nat) (g : List Nat) : Prop where
  perm : g.Perm (List.range n)
  zero : ∃ r, g = 0 :: r
theorem full_perm {n : Nat} {s : List Nat} {rest : List (List Nat)} (ok : PartOk n s rest) (h : s.length = n) : s.Perm (List.range n) := by
  refine (List.perm_ext_iff_of_nodup (ok.up.imp fun h => Nat.ne_of_lt h) List.nodup_range).mpr fun p => ⟨fun hp => List.mem_range.mpr (ok.lt p hp), fun hp => ?_⟩
  refine Classical.byContradiction fun hn => ?_
  have := mem_left.mpr ⟨List.mem_range.mp hp, hn⟩
  rw [ok.full.mp h] at this
  cases this
section
variable {K : PySem.W.Frag}
theorem keys_next {n j p : Nat} {s : List Nat} (h1 : 1 ≤ n) (h8 : n ≤ 8) (hj : (parts (n - 1))[j]? = some s) (hp : p ∈ left n s) : (ins p s, p) ∈ keys n ∧ ∃ j' : Nat, (parts (n - 1))[j']? = some (ins p s) := by
  have ok := part_at h1 h8 hj
  have := next_key h1 h8 ok (fun q hq => List.mem_of_mem_drop hq) hp
  obtain ⟨m1, m2⟩ := mem_keysR.mp this
  have m3 : ins p s ∈ parts (n - 1) := List.mem_of_mem_drop m1
  exact ⟨mem_keysR.mpr ⟨m3, m2⟩, List.mem_iff_getElem?.mp m3⟩
def spRound (K : PySem.W.Frag) : Sp := fun vs H Q _ => ∃ (v : V) (T : List (List Int)) (n : Nat) (d : Addr) (xs : PEs) (ep : Nat), vs = [v, .ref d] ∧ Tb K H v T n ∧ DPk H d xs ep (keys n) (rest (at2 T) n) ∧
  ∀ b g H', Same H H' → SqT K H' b ((ic g).map V.int) → Round n g → pth (at2 T) (g ++ [0]) = rest (at2 T) n ([0], 0) → Q (.ref b) H'
theorem rd_round : ∀ vs H Q E, spRound K vs H Q E → T_round_by_rests K (spOnw K) { nx := fun _ H' => Q .non H', rt := Q } (start ["table", "rests", "gone", "some"] vs) H := by
  intro vs H Q E h
  obtain ⟨v, T, n, d, xs, ep, rfl, tb, dp, q⟩ := h
  have h1 := tb.one
  have h8 := tb.most
  refine ⟨by show 1 ≤ sizeLine; decide, fun c hc => ?_⟩
  have s0 := same_new hc (.tup [V.int 0])
  have hc0 : upd H c (.tup [V.int 0]) c = some (.tup [V.int 0]) := upd_same
  show tSeq _ _ _ _ (upd H c (.tup [V.int 0]))
  generalize upd H c (.tup [V.int 0]) = H0 at s0 hc0 ⊢
  obtain ⟨j0, hj0⟩ : ∃ j, (parts (n - 1))[j]? = some [0] := ⟨0, by
    have : ∀ k, (parts k)[0]? = some [0] := fun k => by
      induction k with
      | zero => rfl
      | succ k ih =>
        show (parts k ++ (parts k).map (· ++ [k + 1]))[0]? = _
        rw [List.getElem?_append_left (List.getElem?_eq_some_iff.mp ih).1]; exact ih
    exact this _⟩
  refine ⟨fun m σ' H' => ∃ b g0 l s j x3, σ' = [some v, some (.ref d), some (.ref b), x3] ∧ SqT K H' b ((ic (g0 ++ [l])).map V.int) ∧ Same H H' ∧ (g0 ++ [l]).Perm s ∧ (∃ r, g0 ++ [l] = 0 :: r) ∧ (parts (n - 1))[j]? = some s ∧ pth (at2 T) (g0 ++ [l]) + rest (at2 T) n (s, l) = rest (at2 T) n ([0], 0) ∧ m = n - s.length, ⟨n - 1, c, [], 0, [0], j0, none, rfl, .of hc0, s0, .refl _, ⟨[], rfl⟩, hj0, by show 0 + _ = _; omega, rfl⟩, ?_⟩
  rintro m σ1 H1 ⟨b, g0, l, s, j, x3, rfl, hb, s1, hperm, hz, hj, hval, rfl⟩
  have ok := part_at h1 h8 hj
  have hgl : (g0 ++ [l]).length = s.length := hperm.length_eq
  have bl : ((ic (g0 ++ [l])).map V.int).length = s.length := by rw [List.length_map, List.length_map, hgl]
  have tb1 := tb.same s1
  have dp1 := dp.same s1
  obtain ⟨ta, rs, ev, hta, hrl, _⟩ := tb1.sh.tab
  subst ev
  have hrn : rs.length = n := by rw [hrl, tb.quad.len]
  have hls : l ∈ s := hperm.mem_iff.mp (by simp)
  have hln := ok.lt l hls
  have hle := ok.le
  refine ⟨_, rfl, b, _, rfl, .inr hb, _, rfl, ta, rs, rfl, .inr hta, _, _, rfl, rfl, _, rfl, ?_⟩
  rw [bl, hrn]
  by_cases hf : s.length = n
  · refine iteF' (decide_eq_false (by omega)) ?_
    refine ⟨_, rfl, q b _ H1 s1 hb ⟨hperm.trans (full_perm ok hf), hz⟩ ?_⟩
    rw [pth_snoc, ← hval, rest_full hf]
  · have hlt : s.length < n := by omega
    refine iteT' (decide_eq_true (by omega)) ⟨fun σ' H' => ∃ m', m' < n - s.length ∧ ∃ b g0 l s j x3, σ' = [some (.ref ta), some (.ref d), some (.ref b), x3] ∧ SqT K H' b ((ic (g0 ++ [l])).map V.int) ∧ Same H H' ∧ (g0 ++ [l]).Perm s ∧ (∃ r, g0 ++ [l] = 0 :: r) ∧ (parts (n - 1))[j]? = some s ∧ pth (at2 T) (g0 ++ [l]) + rest (at2 T) n (s, l) = rest (at2 T) n ([0], 0) ∧ m' = n - s.length, fun _ _ z => z, ?_⟩
    refine ⟨_, rfl, b, _, rfl, .inr hb, by rw [List.length_map, hgl]; omega, fun ms hp1 hp2 e he => ?_⟩
    obtain rfl : ms = ic s := sort_ic hp1 hp2 (hperm.map _) ok.up
    refine ⟨e, _, rfl, .inl ⟨.of upd_same, fun a ha => ?_⟩⟩
    have s2 := (same_new he (.lst ((ic s).map V.int))).trans (same_new ha (.tup ((ic s).map V.int)))
    have ha2 : upd (upd H1 e (.lst ((ic s).map V.int))) a (.tup ((ic s).map V.int)) a = some (.tup ((ic s).map V.int)) := upd_same
    show tSeq _ _ _ _ (upd (upd H1 e (.lst ((ic s).map V.int))) a (.tup ((ic s).map V.int)))
    generalize upd (upd H1 e (.lst ((ic s).map V.int))) a (.tup ((ic s).map V.int)) = H2 at s2 ha2 ⊢
    have hb2 := s2.tup hb
    have hlast : ((ic (g0 ++ [l])).map V.int)[((ic (g0 ++ [l])).map V.int).length - 1]? = some (.int (l : Int)) := by
      rw [List.length_map, List.length_map, List.length_append, List.map_map, List.getElem?_map]
      simp
    refine ⟨_, rfl, _, rfl, _, rfl, _, rfl, _, rfl, 1, rfl, ixT_last hb2 hlast ?_⟩
    refine ⟨.ref ta, T, n, d, a, xs, ep, keys n, rest (at2 T) n, s, l, rfl, tb1.same s2, dp1.same s2, .of ha2, ok.up, ?_, by omega, hln, fun p hp => (keys_next h1 h8 hj hp).1, fun r pre H3 s3 hr rows => ?_⟩
    · obtain ⟨r, rfl⟩ := ok.zero; simp
    have hne : left n s ≠ [] := fun e => hf (ok.full.mpr e)
    refine .inr ⟨r, pre, _, rfl, .inl (.of hr), rows, by simpa using hne, fun i' c row hi1 hi2 hc hmin => ?_⟩
    rw [List.getElem?_map] at hi2
    obtain ⟨p, hp, rfl⟩ := Option.map_eq_some_iff.mp hi2
    have hpm := List.mem_of_getElem? hp
    have hv2 : at2 T l p + rest (at2 T) n (ins p s, p) = rest (at2 T) n (s, l) := by
      rw [rest_step hlt]
      refine (minL_eq (x := at2 T l p + rest (at2 T) n (ins p s, p)) (List.mem_map.mpr ⟨p, hpm, rfl⟩) fun y hy => ?_).symm
      obtain ⟨p', hp', rfl⟩ := List.mem_map.mp hy
      exact lex_le (hmin _ (List.mem_map.mpr ⟨p', hp', rfl⟩))
    refine ixT (j := 1) hc (v := .int (p : Int)) rfl ?_
    refine ⟨by show 1 ≤ sizeLine; decide, fun u hu => .inr ⟨b, u, _, _, rfl, rfl, ((s3.trans (same_new hu _))).tup hb2, .of upd_same, by rw [bl]; exact Nat.le_trans (show s.length + 1 ≤ 9 by omega) (by decide), fun w H4 _ hw s4 => ?_⟩⟩
    obtain ⟨_, j', hj'⟩ := keys_next h1 h8 hj hpm
    refine ⟨n - (ins p s).length, by rw [ins_len]; omega, w, g0 ++ [l], p, ins p s, j', _, rfl, ?_, s1.trans (s2.trans (s3.trans ((same_new hu _).trans s4))), ?_, ?_, hj', ?_, rfl⟩
    · have e2 : (ic (g0 ++ [l])).map V.int ++ [V.int (p : Int)] = (ic (g0 ++ [l] ++ [p])).map V.int := by
        rw [← ic_app (s := g0 ++ [l]) (p := p), List.map_append (l₁ := ic (g0 ++ [l]))]; rfl
      rw [← e2]; exact hw
    · exact (hperm.append_right [p]).trans ins_perm.symm
    · obtain ⟨r, hr⟩ := hz
      exact ⟨r ++ [p], by rw [hr]; rfl⟩
    · rw [pth_snoc, ← hval, ← hv2]; omega
end
end K53.S
namespace K53.S
open PySem L2
def Flo (H : Hp) (pre : List V) (ks : List Ky) (f : Ky → Int) : Prop := pre.length = ks.length ∧ ∀ (i : Nat) (k : Ky), ks[i]? = some k → ∃ b c, pre[i]? = some (.ref b) ∧ H b = some (.tup [.ref c, .int (k.2 : Int), .int (f k)]) ∧ H c = some (.tup ((ic k.1).map V.int))
theorem Flo.same {H H' : Hp} {pre : List V} {ks : List Ky} {f : Ky → Int} (h : Flo H pre ks f) (s : Same H H') : Flo H' pre ks f := ⟨h.1, fun i k e => let ⟨b, c, e1, e2, e3⟩ := h.2 i k e; ⟨b, c, e1, s _ _ e2, s _ _ e3⟩⟩
theorem Flo.x {H H' : Hp} {pre : List V} {ks : List Ky} {f : Ky → Int} {d : Addr} {o : HO} (h : Flo H pre ks f) (hd : H d = some o) (ho : ∀ xs, o ≠ .tup xs) (s : SameX d H H') : Flo H' pre ks f :=
  ⟨h.1, fun i k e => let ⟨b, c, e1, e2, e3⟩ := h.2 i k e; ⟨b, c, e1, s _ _ (fun z => by subst z; rw [hd] at e2; exact ho _ (Option.some.inj e2)) e2, s _ _ (fun z => by subst z; rw [hd] at e3; exact ho _ (Option.some.inj e3)) e3⟩⟩
theorem Flo.snoc {H : Hp} {pre : List V} {ks : List Ky} {f : Ky → Int} {k : Ky} {b c : Addr} (h : Flo H pre ks f) (h1 : H b = some (.tup [.ref c, .int (k.2 : Int), .int (f k)])) (h2 : H c = some (.tup ((ic k.1).map V.int))) : Flo H (pre ++ [.ref b]) (ks ++ [k]) f := by
  refine ⟨by rw [List.length_append, List.length_append, h.1]; rfl, fun i q e => ?_⟩
  rcases get_app e with ⟨hi, e⟩ | ⟨hi, e⟩
  · obtain ⟨b, c, e1, e2⟩ := h.2 i q e
    exact ⟨b, c, by rw [List.getElem?_append_left (by rw [h.1]; exact hi)]; exact e1, e2⟩
  · have h0 : i - ks.length = 0 := by
      rcases hk : i - ks.length with _ | m
      · rfl
      · rw [hk] at e; cases e
    rw [h0] at e
    obtain rfl : k = q := by simpa using e
    exact ⟨b, c, by rw [List.getElem?_append_right (by rw [h.1]; exact hi), h.1, h0]; rfl, h1, h2⟩
theorem DPk.at {H : Hp} {d : Addr} {xs : PEs} {ep : Nat} {ks : List Ky} {f : Ky → Int} {i : Nat} {x : PKy × Addr × V} (h : DPk H d xs ep ks f) (hx : xs[i]? = some x) : ∃ k b, ks[i]? = some k ∧ x.1 = kc k ∧ x.2.2 = .int (f k) ∧ H x.2.1 = some (.tup [.ref b, .int (k.2 : Int)]) ∧ H b = some (.tup ((ic k.1).map V.int)) := by
  have e := congrArg (fun l => l[i]?) h.2
  simp only [List.getElem?_map, hx, Option.map_some] at e
  obtain ⟨k, hk, e2⟩ := Option.map_eq_some_iff.mp e.symm
  obtain ⟨e3, e4⟩ := Prod.mk.inj e2
  obtain ⟨b, h1, h2⟩ := h.1.2 x (List.mem_of_getElem? hx)
  rw [← e3] at h1 h2
  exact ⟨k, b, hk, e3.symm, e4.symm, h1, h2⟩
theorem keys_len {n : Nat} (h1 : 1 ≤ n) (h8 : n ≤ 8) : (keys n).length ≤ 1000 := keys_small (n - 1) (by omega)
theorem start_key {n : Nat} (h1 : 1 ≤ n) (h8 : n ≤ 8) : (([0], 0) : Ky) ∈ keys n := by
  have : ∀ k, [0] ∈ parts k := fun k => by
    induction k with
    | zero => exact List.mem_cons_self ..
    | succ k ih => exact List.mem_append_left _ ih
  exact mem_keysR.mpr ⟨this _, by decide⟩
section
variable {K : PySem.W.Frag} {S : Addr}
def spShort (K : PySem.W.Frag) : Sp := fun vs H Q _ => ∃ (v : V) (T : List (List Int)) (n : Nat), vs = [v] ∧ Tb K H v T n ∧
  ∀ b gb fa g pre H', Same H H' → H' b = some (.tup [.int (rest (at2 T) n ([0], 0)), .ref gb, .ref fa]) → SqT K H' gb ((ic g).map V.int) → Round n g → pth (at2 T) (g ++ [0]) = rest (at2 T) n ([0], 0) → H' fa = some (.lst pre) → Flo H' pre (keys n) (rest (at2 T) n) → H fa = none → Q (.ref b) H'
theorem rd_short (hS : ∀ H, KeyQ K H (kc ([0], 0)) S) : ∀ vs H Q E, spShort K vs H Q E → T_shortest K S (spRests K) (spRound K) { nx := fun _ H' => Q .non H', rt := Q } (start ["table", "rests", "floors"] vs) H := by
  intro vs H Q E h
  obtain ⟨v, T, n, rfl, tb, q⟩ := h
  have h1 := tb.one
  have h8 := tb.most
  refine ⟨_, rfl, v, T, n, rfl, tb, fun d xs ep H1 s1 dp => ?_⟩
  refine ⟨_, rfl, d, xs, ep, rfl, dp.1.1, fun acc ha => ?_⟩
  refine for_items (d := d) (xs := xs) (ep := ep) (fun i σ' H' => i ≤ xs.length ∧ (∃ x0 x1 x2, σ' = [x0, x1, x2]) ∧ Same H1 H' ∧ ∃ L, H' acc = some (.lst L) ∧ Flo H' L ((keys n).take i) (rest (at2 T) n)) ⟨Nat.zero_le _, ⟨none, none, none, rfl⟩, same_new ha _, [], upd_same, rfl, fun i k e => by cases e⟩ (fun i σ' H' _ ⟨_, _, sm, _⟩ => sm _ _ dp.1.1) ?_ ?_
  · rintro i x σ1 H2 p hx hp ⟨_, ⟨x0, x1, x2, rfl⟩, sm, L, hL, fl⟩
    obtain ⟨k, b, hk, e1, e2, hc, hb⟩ := (dp.same sm).at hx
    have hi : i < xs.length := (List.getElem?_eq_some_iff.mp hx).1
    rw [e2]
    have s2 := same_new hp (.tup [V.ref x.2.1, V.int (rest (at2 T) n k)])
    refine ⟨p, _, rfl, .of upd_same, rfl, .ref x.2.1, [.int _], rfl, x.2.1, [.ref b, .int (k.2 : Int)], rfl, .of (s2 _ _ hc), rfl, .ref b, [.int _], rfl, .int _, [], rfl, rfl, .int _, [], rfl, rfl, ?_⟩
    refine ⟨_, rfl, _, rfl, _, rfl, by show 3 ≤ sizeLine; decide, fun u hu => ?_⟩
    have s3 := s2.trans (same_new hu (.tup [V.ref b, V.int (k.2 : Int), V.int (rest (at2 T) n k)]))
    have hL3 := s3 _ _ hL
    refine ⟨L, hL3, ?_, hi, ⟨_, _, _, rfl⟩, same_put ha (sm.trans s3), _, upd_same, ?_⟩
    · rw [fl.1, List.length_take]
      have := keys_len h1 h8
      exact Nat.lt_of_le_of_lt (show min i (keys n).length ≤ 1000 by omega) (by decide)
    · rw [List.take_add_one, hk]
      exact ((fl.same s3).snoc upd_same (s3 _ _ hb)).x hL3 (fun _ z => by cases z) (SameX.put _)
  · rintro σ1 H2 ⟨_, _, sm, L, hL, fl⟩
    rw [dp.len, List.take_length] at fl
    refine ⟨_, rfl, d, S, xs, ep, kc ([0], 0), _, rfl, rfl, (dp.same sm).1, hS _, val_ks dp.2 (start_key h1 h8), ?_⟩
    refine ⟨_, rfl, _, rfl, v, T, n, d, xs, ep, rfl, tb.same (s1.trans sm), dp.same sm, fun gb g H3 s3 hg hr hv => ?_⟩
    refine ⟨_, rfl, by show 3 ≤ sizeLine; decide, fun b hb => ?_⟩
    have s4 := same_new hb (.tup [V.int (rest (at2 T) n ([0], 0)), .ref gb, .ref acc])
    have s5 := s3.trans s4
    refine q b gb acc g L _ (s1.trans (sm.trans s5)) upd_same (s4.tup hg) hr hv (s5 _ _ hL) (fl.same s5) (s1.free ha)
end
end K53.S
namespace K53.S
open PySem L2
def ways (n : Nat) : Nat → List Nat → List (List Nat)
  | 0, _ => [[]]
  | m + 1, s => (left n s).flatMap fun p => (ways n m (ins p s)).map (p :: ·)
theorem mem_ways {n : Nat} : ∀ {m : Nat} {s w : List Nat}, w ∈ ways n m s ↔ w.length = m ∧ w.Nodup ∧ ∀ x ∈ w, x < n ∧ x ∉ s
  | 0, s, w => by
    unfold ways
    rw [List.mem_singleton]
    constructor
    · rintro rfl; exact ⟨rfl, List.nodup_nil, fun x hx => by cases hx⟩
    · rintro ⟨h, _, _⟩; exact List.length_eq_zero_iff.mp h
  | m + 1, s, w => by
    unfold ways
    rw [List.mem_flatMap]
    constructor
    · rintro ⟨p, hp, h⟩
      obtain ⟨w', hw, rfl⟩ := List.mem_map.mp h
      obtain ⟨h1, h2, h3⟩ := mem_ways.mp hw
      refine ⟨by rw [List.length_cons, h1], List.nodup_cons.mpr ⟨fun z => (h3 p z).2 (mem_ins.mpr (.inl rfl)), h2⟩, fun x hx => ?_⟩
      rcases List.mem_cons.mp hx with e | hx
      · rw [e]; exact mem_left.mp hp
      · exact ⟨(h3 x hx).1, fun z => (h3 x hx).2 (mem_ins.mpr (.inr z))⟩
    · rintro ⟨h1, h2, h3⟩
      cases w with
      | nil => cases h1
      | cons p w =>
        obtain ⟨n1, n2⟩ := List.nodup_cons.mp h2
        refine ⟨p, mem_left.mpr (h3 p (List.mem_cons_self ..)), List.mem_map.mpr ⟨w, mem_ways.mpr ⟨by simpa using h1, n2, fun x hx => ⟨(h3 x (List.mem_cons_of_mem _ hx)).1, fun z => ?_⟩⟩, rfl⟩⟩
        rcases mem_ins.mp z with e | z
        · exact n1 (by rw [← e]; exact hx)
        · exact (h3 x (List.mem_cons_of_mem _ hx)).2 z
section
variable {t t' : Nat → Nat → Int} {n : Nat}
theorem R_le : ∀ {m : Nat} {s : List Nat} {l : Nat} {w : List Nat}, w ∈ ways n m s → R t n m s l ≤ pth t (l :: (w ++ [0]))
  | 0, s, l, w, h => by
    unfold ways at h
    rw [List.mem_singleton.mp h]
    show t l 0 ≤ t l 0 + 0
    omega
  | m + 1, s, l, w, h => by
    unfold ways at h
    obtain ⟨p, hp, h⟩ := List.mem_flatMap.mp h
    obtain ⟨w', hw, rfl⟩ := List.mem_map.mp h
    have ih := R_le (l := p) hw
    have : R t n (m + 1) s l ≤ t l p + R t n m (ins p s) p := minL_le (List.mem_map.mpr ⟨p, hp, rfl⟩)
    show _ ≤ t l p + pth t (p :: (w' ++ [0]))
    omega
theorem R_att (h1 : 1 ≤ n) (h8 : n ≤ 8) : ∀ (m : Nat) (s : List Nat) (l j : Nat), (parts (n - 1))[j]? = some s → n - s.length = m → ∃ w ∈ ways n m s, pth t (l :: (w ++ [0])) = R t n m s l
  | 0, s, l, j, _, _ => ⟨[], by unfold ways; exact List.mem_cons_self .., by show t l 0 + 0 = t l 0; omega⟩
  | m + 1, s, l, j, hj, hm => by
    have ok := part_at h1 h8 hj
    have hne : left n s ≠ [] := fun e => by have := ok.full.mpr e; omega
    obtain ⟨p, hp, e⟩ := List.mem_map.mp (minL_mem (l := (left n s).map fun p => t l p + R t n m (ins p s) p) (by simpa using hne))
    obtain ⟨_, j', hj'⟩ := keys_next h1 h8 hj hp
    obtain ⟨w, hw, ew⟩ := R_att h1 h8 m (ins p s) p j' hj' (by rw [ins_len]; omega)
    refine ⟨p :: w, List.mem_flatMap.mpr ⟨p, hp, List.mem_map.mpr ⟨w, hw, rfl⟩⟩, ?_⟩
    show t l p + pth t (p :: (w ++ [0])) = minL _
    rw [ew, ← e]
def rounds (n : Nat) : List (List Nat) := ways n (n - 1) [0]
def cost (t : Nat → Nat → Int) (w : List Nat) : Int := pth t (0 :: (w ++ [0]))
theorem mem_rounds {w : List Nat} : w ∈ rounds n ↔ w.length = n - 1 ∧ w.Nodup ∧ ∀ x ∈ w, x < n ∧ x ≠ 0 := by
  unfold rounds
  rw [mem_ways]
  simp
theorem rest_le {w : List Nat} (h : w ∈ rounds n) : rest t n ([0], 0) ≤ cost t w := R_le h
theorem rest_att (h1 : 1 ≤ n) (h8 : n ≤ 8) : ∃ w ∈ rounds n, cost t w = rest t n ([0], 0) := by
  obtain ⟨j, hj⟩ : ∃ j : Nat, (parts (n - 1))[j]? = some [0] := List.mem_iff_getElem?.mp (by
    have : ∀ k, [0] ∈ parts k := fun k => by
      induction k with
      | zero => exact List.mem_cons_self ..
      | succ k ih => exact List.mem_append_left _ ih
    exact this _)
  exact R_att h1 h8 (n - 1) [0] 0 j hj rfl
end
end K53.S
namespace K53
open PySem L2
theorem cmul_mod {a m j : Int} (h0 : 0 < m) (h1 : m ≤ 4611686018427387904) : CMul (a % m) j := .inl ⟨by have := Int.emod_nonneg a (show m ≠ 0 by omega); omega, by have := Int.emod_lt_of_pos a h0; omega⟩
def penO (l : Addr) (k : Nat) (z : Int) : HO := .lst [.ref l, .int (k : Int), .int z]
def PenAt (H : Hp) (p l : Addr) (ns : List Int) (k : Nat) (z : Int) : Prop := H p = some (penO l k z) ∧ H l = some (.lst (ns.map V.int)) ∧ l ≠ p
def frRest (K : PySem.W.Frag) : TS := (tSeq (tIfS (tTest (tOp yGe (tVar 2) (tOp yPow (tC (.int 10)) (tC (.int 18))))) (tSeq (tRet (tVar 2)) tNext) tNext) (tSeq (tAsg (tOp yMod (tOp (rAddA K) (tOp (rAddA K) (tOp rMulA (tOp yMod (tVar 2) (tC (.int 2147483423))) (tC (.int 60013))) (tOp rMulA (tVar 1) (tC (.int 40692)))) (tC (.int 17))) (tC (.int 2147483399))) (gName 3)) (tSeq (tAsg (tOp yMod (tOp (rAddA K) (tOp (rAddA K) (tOp rMulA (tVar 3) (tVar 3)) (tOp rMulA (tVar 1) (tC (.int 811)))) (tC (.int 3))) (tC (.int 2147483353))) (gName 4)) (tSeq (tRet (tOp (rAddA K) (tOp rMulA (tOp (rAddA K) (tVar 4) (tC (.int 2147483353))) (tC (.int 2147483353))) (tOp yMod (tOp (rAddA K) (tOp rMulA (tVar 4) (tVar 4)) (tVar 3)) (tC (.int 2147483353))))) tNext))))
section
variable {K : PySem.W.Frag}
def spFresh : Sp := fun vs H Q _ => ∃ (p l : Addr) (ns : List Int) (k : Nat) (z : Int), vs = [.ref p] ∧ PenAt H p l ns k z ∧ k ≤ 100000 ∧ ∀ v : Int, Q (.int v) (upd H p (penO l (k + 1) z))
theorem rd_frRest {G : Hp} {p : Addr} {k : Nat} {c : Int} {Q : VK} (hk : k ≤ 100000) (q : ∀ v : Int, Q (.int v) G) : frRest K { nx := fun _ H' => Q .non H', rt := Q } [some (.ref p), some (.int (k : Int)), some (.int c), none, none] G := by
  refine ⟨_, rfl, 10, 18, rfl, rfl, ⟨by decide, by decide, by decide⟩, _, _, rfl, rfl, _, rfl, ite2 (fun c1 => ⟨_, rfl, q c⟩) fun c1 => ?_⟩
  refine ⟨_, rfl, _, _, rfl, rfl, by show (0 : Int) < 2147483423; decide, .inr ⟨by decide, by decide⟩, _, rfl, .inr ⟨by decide, by decide⟩, _, _, rfl, rfl, by show (0 : Int) < 2147483399; decide, ?_⟩
  refine ⟨_, rfl, _, rfl, cmul_mod (by decide) (by decide), _, rfl, .inr ⟨by decide, by decide⟩, _, _, rfl, rfl, by show (0 : Int) < 2147483353; decide, ?_⟩
  exact ⟨_, rfl, .inr ⟨by decide, by decide⟩, _, rfl, _, rfl, cmul_mod (by decide) (by decide), _, rfl, _, _, rfl, rfl, by show (0 : Int) < 2147483353; decide, q _⟩
theorem rd_fresh : ∀ vs H Q E, spFresh vs H Q E → T__law_e_fresh K { nx := fun _ H' => Q .non H', rt := Q } (start ["pen", "at", "cell", "one", "two"] vs) H := by
  intro vs H Q E h
  obtain ⟨p, l, ns, k, z, rfl, ⟨hp, hl, hlp⟩, hk, q⟩ := h
  refine ⟨_, rfl, ixL (j := 1) (.of hp) rfl ?_⟩
  refine ⟨_, rfl, _, rfl, p, _, 1, 1, rfl, rfl, hp, rfl, ?_⟩
  have hG : (upd H p (.lst ([.ref l, .int (k : Int), .int z].set 1 (.int ((k : Int) + 1))))) p = some (penO l (k + 1) z) := by rw [upd_same]; rfl
  have hlG : (upd H p (.lst ([.ref l, .int (k : Int), .int z].set 1 (.int ((k : Int) + 1))))) l = some (.lst (ns.map V.int)) := by rw [upd_ne hlp]; exact hl
  have q' : ∀ v : Int, Q (.int v) (upd H p (.lst ([.ref l, .int (k : Int), .int z].set 1 (.int ((k : Int) + 1))))) := q
  generalize upd H p (.lst ([.ref l, .int (k : Int), .int z].set 1 (.int ((k : Int) + 1)))) = G at *
  refine ⟨_, rfl, _, rfl, .inl ⟨by omega, by omega⟩, ?_⟩
  refine ⟨_, rfl, _, rfl, ixL (j := 0) (.of hG) rfl ⟨l, _, rfl, .inl (.of hlG), _, _, rfl, rfl, _, rfl, ?_⟩⟩
  rw [List.length_map]
  by_cases c1 : k < ns.length
  · refine iteT' (decide_eq_true (by omega)) ?_
    refine ⟨_, rfl, ixL (j := 0) (.of hG) rfl ⟨_, rfl, ixL (j := k) (v := .int (ns.getD k 0)) (.of hlG) (by rw [List.getElem?_map, L2.getD_at c1]; rfl) ?_⟩⟩
    exact rd_frRest hk q'
  · refine iteF' (decide_eq_false (by omega)) ?_
    refine ⟨_, rfl, ixL (j := 0) (.of hG) rfl ⟨l, _, rfl, .inl (.of hlG), _, _, rfl, rfl, _, rfl, ?_⟩⟩
    rw [List.length_map]
    by_cases c2 : 0 < ns.length
    · refine iteT' (decide_eq_true (by omega)) ?_
      obtain ⟨j, ej, hj⟩ := mod_nat (c := (k : Int) * 3) (n := ns.length) c2
      refine ⟨_, rfl, _, rfl, ixL (j := 0) (.of hG) rfl ⟨_, rfl, .inr ⟨by decide, by decide⟩, _, rfl, ixL (j := 0) (.of hG) rfl ⟨l, _, rfl, .inl (.of hlG), ?_⟩⟩⟩
      rw [List.length_map]
      refine yMod_nat c2 ej ?_
      refine ixL (j := j) (v := .int (ns.getD j 0)) (.of hlG) (by rw [List.getElem?_map, L2.getD_at hj]; rfl) ⟨_, _, rfl, rfl, by show (0 : Int) < 1000003; decide, _, rfl, cmul_mod (by decide) (by decide), ?_⟩
      exact rd_frRest hk q'
    · refine iteF' (decide_eq_false (by omega)) ?_
      exact rd_frRest hk q'
def spTake : Sp := fun vs H Q _ => ∃ (p l : Addr) (ns : List Int) (k : Nat) (z : Int) (m : Nat), vs = [.ref p, .int (m : Int)] ∧ PenAt H p l ns k z ∧ k ≤ 100000 ∧ 1 ≤ m ∧ m ≤ 1000001 ∧ ∀ (r k' : Nat) (z' : Int) H', r < m → k' ≤ k + 1 → PenAt H' p l ns k' z' → SameX p H H' → Q (.int (r : Int)) H'
theorem PenAt.put {H : Hp} {p l : Addr} {ns : List Int} {k k' : Nat} {z z' : Int} (h : PenAt H p l ns k z) : PenAt (upd H p (penO l k' z')) p l ns k' z' := ⟨upd_same, by rw [upd_ne h.2.2]; exact h.2.1, h.2.2⟩
theorem PenAt.x {H H' : Hp} {p l : Addr} {ns : List Int} {k : Nat} {z : Int} (h : PenAt H p l ns k z) (s : Same H H') : PenAt H' p l ns k z := ⟨s _ _ h.1, s _ _ h.2.1, h.2.2⟩
theorem rd_take : ∀ vs H Q E, spTake vs H Q E → T__law_e_take K spFresh { nx := fun _ H' => Q .non H', rt := Q } (start ["pen", "many", "found"] vs) H := by
  intro vs H Q E h
  obtain ⟨p, l, ns, k, z, m, rfl, hP, hk, h1, hm, q⟩ := h
  have rest : ∀ (G : Hp) (k' : Nat) (z' : Int), PenAt G p l ns k' z' → k' ≤ k + 1 → SameX p H G → tSeq (tAsg (tOp yMod (tOp (rIx2 K) (tVar 0) (tC (.int 2))) (tVar 1)) (gName 2)) (tSeq (tAsg (tOp yDiv (tOp (rIx2 K) (tVar 0) (tC (.int 2))) (tVar 1)) (gSub (tVar 0) (tC (.int 2)) rSetL)) (tSeq (tRet (tVar 2)) tNext)) { nx := fun _ H' => Q .non H', rt := Q } [some (.ref p), some (.int (m : Int)), none] G := fun G k' z' hG hk' sx => by
    obtain ⟨r, er, hr⟩ := mod_nat (c := z') (n := m) h1
    refine ⟨_, rfl, ixL (j := 2) (.of hG.1) rfl ⟨_, rfl, yMod_nat h1 er ?_⟩⟩
    refine ⟨_, rfl, ixL (j := 2) (.of hG.1) rfl ⟨_, rfl, _, _, rfl, rfl, ⟨by omega, by omega⟩, _, rfl, p, _, 2, 2, rfl, rfl, hG.1, rfl, ?_⟩⟩
    exact ⟨_, rfl, q r k' (z' / (m : Int)) _ hr hk' hG.put (sx.trans (SameX.put _))⟩
  refine ⟨_, rfl, ixL (j := 2) (.of hP.1) rfl ⟨_, rfl, _, _, rfl, rfl, _, rfl, ite2 (fun c1 => ?_) fun c1 => ?_⟩⟩
  · refine ⟨_, rfl, p, l, ns, k, z, rfl, hP, hk, fun v => ⟨_, rfl, p, _, 2, 2, rfl, rfl, upd_same, rfl, ?_⟩⟩
    exact rest _ (k + 1) v hP.put.put (by omega) ((SameX.put _).trans (SameX.put _))
  · exact rest H k z hP (by omega) (SameX.refl _ _)
end
end K53
namespace K53
open PySem L2
def Bnd (M : List (List Int)) (n : Nat) : Prop := ∀ i j, i < n → j < n → 0 ≤ at2 M i j ∧ at2 M i j ≤ 1000000 ∧ at2 M i i = 0
theorem bnd_put {M : List (List Int)} {n i j : Nat} {v : Int} (b : Bnd M n) (q : Quad M n) (hi : i < n) (hj : j < n) (h0 : 0 ≤ v) (h1 : v ≤ 1000000) (hne : i ≠ j) : Bnd (put2 M i j v) n := by
  intro a c ha hc
  rw [put2_at q hi hj, put2_at q hi hj]
  have := b a c ha hc
  refine ⟨?_, ?_, ?_⟩
  · split <;> omega
  · split <;> omega
  · rw [if_neg (by rintro ⟨rfl, rfl⟩; exact hne rfl)]; exact this.2.2
theorem rep_at {n a b : Nat} : at2 (List.replicate n (List.replicate n 0)) a b = 0 := by
  unfold at2
  have : (List.replicate n (List.replicate n (0 : Int))).getD a [] = [] ∨ (List.replicate n (List.replicate n (0 : Int))).getD a [] = List.replicate n 0 := by
    rw [List.getD_eq_getElem?_getD, List.getElem?_replicate]
    split
    · exact .inr rfl
    · exact .inl rfl
  rcases this with e | e
  · rw [e]; rfl
  · rw [e, List.getD_eq_getElem?_getD, List.getElem?_replicate]
    split <;> rfl
structure Mid (G : Hp) (p l F : Addr) (ls : List Addr) (ns : List Int) (n kb : Nat) (P : List (List Int) → Prop) (H' : Hp) : Prop where
  ex : ∃ (M : List (List Int)) (k : Nat) (z : Int), Quad M n ∧ Bnd M n ∧ Mat H' F ls M ∧ PenAt H' p l ns k z ∧ k ≤ kb ∧ SameX p G H' ∧ P M
structure Old (G : Hp) (p l F : Addr) (ls : List Addr) : Prop where
  p : ∃ o, G p = some o
  l : ∃ o, G l = some o
  F : G F = none
  ls : ∀ x ∈ ls, G x = none
section
variable {K : PySem.W.Frag} {G : Hp} {p l F : Addr} {ls : List Addr} {ns : List Int} {n kb : Nat} {P : List (List Int) → Prop} {H4 : Hp}
theorem Mid.le {kc : Nat} {P' : List (List Int) → Prop} (h : kb ≤ kc) (hP : ∀ M, Quad M n → P M → P' M) (m : Mid G p l F ls ns n kb P H4) : Mid G p l F ls ns n kc P' H4 := by
  obtain ⟨M, k, z, a, b, c, d, e, f, g⟩ := m.ex
  exact ⟨M, k, z, a, b, c, d, by omega, f, hP M a g⟩
theorem mid_set {σ : St} {t si sj i j : Nat} {v : Int} {N : St → Hp → Prop} (o : Old G p l F ls) (m : Mid G p l F ls ns n kb P H4) (ht : σ[t]? = some (some (.ref F))) (hsi : σ[si]? = some (some (.int (i : Int)))) (hsj : σ[sj]? = some (some (.int (j : Int)))) (hi : i < n) (hj : j < n) (hne : i ≠ j) (h0 : 0 ≤ v) (h1 : v ≤ 1000000)
    (q : ∀ H5, Mid G p l F ls ns n kb (fun M' => ∃ M, P M ∧ Quad M n ∧ M' = put2 M i j v) H5 → N σ H5) : gSub (tOp (rIx2 K) (tVar t) (tVar si)) (tVar sj) rSetL (.int v) σ H4 N := by
  obtain ⟨M, k, z, qM, bM, mM, hP, hk, sx, pM⟩ := m.ex
  refine mat_set mM qM ht hsi hsj hi hj fun l' H5 hl' e5 m5 => q H5 ⟨_, k, z, put2_quad qM hi, bnd_put bM qM hi hj h0 h1 hne, m5, ?_, hk, fun b u hb e => ?_, M, pM, qM, rfl⟩
  · obtain ⟨op, hop⟩ := o.p
    obtain ⟨ol, hol⟩ := o.l
    have n1 : p ≠ l' := ne_of_none hop (o.ls l' hl')
    have n2 : l ≠ l' := ne_of_none hol (o.ls l' hl')
    rw [e5]
    exact ⟨by rw [upd_ne n1]; exact hP.1, by rw [upd_ne n2]; exact hP.2.1, hP.2.2⟩
  · rw [e5, upd_ne (ne_of_none e (o.ls l' hl'))]
    exact sx _ _ hb e
theorem mid_at {σ : St} {t si sj i j : Nat} {Q : VK} (m : Mid G p l F ls ns n kb P H4) (ht : σ[t]? = some (some (.ref F))) (hsi : σ[si]? = some (some (.int (i : Int)))) (hsj : σ[sj]? = some (some (.int (j : Int)))) (hi : i < n) (hj : j < n)
    (q : ∀ v : Int, 0 ≤ v → v ≤ 1000000 → Mid G p l F ls ns n kb (fun M => P M ∧ v = at2 M i j) H4 → Q (.int v) H4) : tOp (rIx2 K) (tOp (rIx2 K) (tVar t) (tVar si)) (tVar sj) σ H4 Q := by
  obtain ⟨M, k, z, qM, bM, mM, hP, hk, sx, pM⟩ := m.ex
  have := bM i j hi hj
  exact mat_at mM qM ht hsi hsj hi hj (q _ this.1 this.2.1 ⟨M, k, z, qM, bM, mM, hP, hk, sx, pM, rfl⟩)
theorem mid_take {Q : VK} {σ : St} {a c t : Nat} (ha : σ[a]? = some (some (.ref p))) (hc : σ[c]? = some (some (.int (t : Int)))) (o : Old G p l F ls) (m : Mid G p l F ls ns n kb P H4) (hb : kb ≤ 100000) (h1 : 1 ≤ t) (h2 : t ≤ 1000001) (q : ∀ (r : Nat) H5, r < t → Mid G p l F ls ns n (kb + 1) P H5 → Q (.int (r : Int)) H5) : tCall spTake [] E0 (tCons (tVar a) (tCons (tVar c) tNil)) σ H4 Q := by
  obtain ⟨M, k, z, qM, bM, mM, hP, hk, sx, pM⟩ := m.ex
  refine ⟨_, ha, _, hc, p, l, ns, k, z, t, rfl, hP, by omega, h1, h2, fun r k' z' H5 hr hk' hP' sx' => q r H5 hr ⟨M, k', z', qM, bM, mM.keep fun b u hb e => sx' b u (fun z => ?_) e, hP', by omega, sx.trans sx', pM⟩⟩
  obtain ⟨op, hop⟩ := o.p
  rcases hb with rfl | hb
  · exact ne_of_none hop o.F z.symm
  · exact ne_of_none hop (o.ls b hb) z.symm
def SyE (ev : Bool) (n : Nat) (M : List (List Int)) : Prop := ev = true → ∀ a b, a < n → b < n → at2 M a b = at2 M b a
def spETab (K : PySem.W.Frag) : Sp := fun vs H Q _ => ∃ (p l : Addr) (ns : List Int) (k : Nat) (z : Int) (n : Nat) (ev : Bool), vs = [.ref p, .int (n : Int), .bl ev] ∧ PenAt H p l ns k z ∧ k ≤ 90000 ∧ 1 ≤ n ∧ n ≤ 8 ∧
  ∀ (T : List (List Int)) (v : V) (k' : Nat) (z' : Int) H', Quad T n → Bnd T n → SyE ev n T → Sh K H' (tabD T) v → PenAt H' p l ns k' z' → k' ≤ k + 200 → SameX p H H' → Q v H'
theorem PenAt.ne {H : Hp} {k : Nat} {z : Int} (h : PenAt H p l ns k z) {x : Addr} (hx : H x = none) : x ≠ p ∧ x ≠ l := ⟨fun e => (by rw [e, h.1] at hx; cases hx), fun e => (by rw [e, h.2.1] at hx; cases hx)⟩
def tbRest (K : PySem.W.Frag)  (sp__law_e_take : Sp) : TS := (tSeq (tAsg (tOp rMulA (tC (.int 999999)) (tCB rInt1 (tCons (tOp (rEqD K) (tVar 3) (tC (.int 2))) tNil))) (gName 4)) (tSeq (tAsg (tComp [none, some 1] (iRng1 (tCons (tVar 1) tNil)) (gName 0) [] fun acc => (tEmit (tOp rMulA (tLst (tCons (tC (.int 0)) tNil)) (tVar 1)) acc)) (gName 5)) (tSeq (tFor (iRng1 (tCons (tVar 1) tNil)) (gName 6) (tSeq (tFor (iRng1 (tCons (tVar 6) tNil)) (gName 7) (tSeq (tAsg (tOp (rAddA K) (tVar 4) (tCall sp__law_e_take [] E0 (tCons (tVar 0) (tCons (tVar 3) tNil)))) (gSub (tOp (rIx2 K) (tVar 5) (tVar 6)) (tVar 7) rSetL)) (tSeq (tAsg (tOp (rIx2 K) (tOp (rIx2 K) (tVar 5) (tVar 6)) (tVar 7)) (gSub (tOp (rIx2 K) (tVar 5) (tVar 7)) (tVar 6) rSetL)) (tSeq (tIfS (tNot (tTru K (tVar 2))) (tSeq (tAsg (tOp (rAddA K) (tVar 4) (tCall sp__law_e_take [] E0 (tCons (tVar 0) (tCons (tVar 3) tNil)))) (gSub (tOp (rIx2 K) (tVar 5) (tVar 7)) (tVar 6) rSetL)) tNext) tNext) tNext)))) tNext)) (tSeq (tRet (tCB (rTuple K) (tCons (tComp [none] (iSeq K (tVar 5)) (gName 0) [] fun acc => (tEmit (tCB (rTuple K) (tCons (tVar 0) tNil)) acc)) tNil))) tNext))))
theorem rd_tbRest {H H1 : Hp} {k k1 : Nat} {z1 : Int} {ev : Bool} {t : Nat} {Q : VK} (hk : k ≤ 90000) (h1 : 1 ≤ n) (h8 : n ≤ 8) (hP : PenAt H1 p l ns k1 z1) (hk1 : k1 ≤ k + 1) (sx1 : SameX p H H1) (t1 : 2 ≤ t) (t2 : t ≤ 1000001)
    (q : ∀ (T : List (List Int)) (v : V) (k' : Nat) (z' : Int) H', Quad T n → Bnd T n → SyE ev n T → Sh K H' (tabD T) v → PenAt H' p l ns k' z' → k' ≤ k + 200 → SameX p H H' → Q v H') :
    tbRest K spTake { nx := fun _ H' => Q .non H', rt := Q } [some (.ref p), some (.int (n : Int)), some (.bl ev), some (.int (t : Int)), none, none, none, none] H1 := by
  have lo : ∃ lo : Int, 999999 * (if eqD (.int (t : Int)) (.int 2) then 1 else 0) = lo ∧ 0 ≤ lo ∧ lo + t ≤ 1000001 := by
    refine ⟨_, rfl, ?_⟩
    have e : eqD (.int (t : Int)) (.int 2) = decide ((t : Int) = 2) := by rw [eqD]; rfl
    rw [e]
    by_cases c : (t : Int) = 2
    · rw [decide_eq_true c]
      simp
      omega
    · rw [decide_eq_false c]
      simp
      omega
  obtain ⟨lo, elo, lo0, lo1⟩ := lo
  refine ⟨_, rfl, .int _, .int 2, Nat.zero_le _, rfl, rfl, .inr ⟨_, rfl, .inl ⟨by decide, by decide⟩, ?_⟩⟩
  dsimp only
  rw [elo]
  refine ⟨_, rfl, (n : Int), rfl, by omega, by omega, fun F hF => ?_⟩
  rw [Int.toNat_natCast]
  refine inv_range (vars := [0]) (fun i L H' => ∃ ls : List Addr, L = ls.map V.ref ∧ ls.length = i ∧ ls.Nodup ∧ F ∉ ls ∧ (∀ l ∈ ls, H' l = some (.lst (List.replicate n (.int 0)))) ∧ ∀ l ∈ ls, H1 l = none) (by decide) (by show 0 < 2; decide) ⟨[], rfl, rfl, List.nodup_nil, by simp, by simp, by simp⟩ hF (fun i σ1 H2 L D hi l1 ag1 s1 sm1 ha1 ⟨ls, e1, e2, e3, e4, e5, e6⟩ hD => ?_) fun σ1 H2 L sm1 ha1 ⟨ls, e1, e2, e3, e4, e5, e6⟩ => ?_
  · have m1 : σ1[1]? = some (some (.int (n : Int))) := (ag1 1 (by decide)).trans rfl
    refine ⟨by show 1 ≤ sizeLine; decide, fun p' hp => ⟨_, m1, p', (n : Int), _, rfl, rfl, upd_same, by omega, by omega, ?_, fun p2 hp2 => ?_⟩⟩
    · rw [Int.toNat_natCast]
      exact Nat.le_trans (show 1 * n ≤ 9 by omega) (by decide)
    have hpF : p' ≠ F := fun e => by rw [e, ha1] at hp; cases hp
    have hF2 : upd H2 p' (.lst [V.int 0]) F = some (.lst L) := by rw [upd_ne (Ne.symm hpF)]; exact ha1
    have hp2F : p2 ≠ F := fun e => by rw [e, hF2] at hp2; cases hp2
    rw [Int.toNat_natCast, List.flatten_replicate_singleton]
    refine ⟨L, by rw [upd_ne (Ne.symm hp2F)]; exact hF2, Nat.lt_of_le_of_lt (show L.length ≤ 9 by rw [e1, List.length_map]; omega) (by decide), ?_⟩
    have keep : ∀ b o, b ≠ F → H2 b = some o → upd (upd (upd H2 p' (.lst [V.int 0])) p2 (.lst (List.replicate n (V.int 0)))) F (.lst (L ++ [V.ref p2])) b = some o := fun b o hb e => by
      have e' : upd H2 p' (.lst [V.int 0]) b = some o := by rw [upd_ne (ne_of_none e hp)]; exact e
      rw [upd_ne hb, upd_ne (ne_of_none e' hp2)]; exact e'
    refine hD σ1 _ (L ++ [.ref p2]) l1 ag1 (fun b o e => keep b o (ne_of_none e hF) (sm1 _ _ e)) upd_same ⟨ls ++ [p2], by rw [e1, List.map_append]; rfl, by rw [List.length_append, e2]; rfl, ?_, ?_, ?_, ?_⟩
    · refine nd_snoc e3 fun hmem => ?_
      have g := e5 p2 hmem
      have g' : upd H2 p' (.lst [V.int 0]) p2 = some (.lst (List.replicate n (.int 0))) := by rw [upd_ne (ne_of_none g hp)]; exact g
      rw [g'] at hp2; cases hp2
    · intro hmem
      rcases List.mem_append.mp hmem with y | y
      · exact e4 y
      · exact hp2F (List.mem_singleton.mp y).symm
    · intro x hx
      rcases List.mem_append.mp hx with y | y
      · exact keep x _ (fun e => e4 (e ▸ y)) (e5 x y)
      · rw [List.mem_singleton.mp y, upd_ne hp2F]
        exact upd_same
    · intro x hx
      rcases List.mem_append.mp hx with y | y
      · exact e6 x y
      · rw [List.mem_singleton.mp y]
        exact (sm1.trans (same_new hp _)).free hp2
  have mat0 : Mat H2 F ls (List.replicate n (List.replicate n 0)) := by
    refine ⟨by rw [ha1, e1], by rw [e2, List.length_replicate], fun i x r a b => ?_, e3, e4⟩
    have := e5 x (List.mem_of_getElem? a)
    rw [List.getElem?_replicate] at b
    split at b
    · cases b
      rw [this, List.map_replicate]
    · cases b
  have quad0 : Quad (List.replicate n (List.replicate n (0 : Int))) n := ⟨List.length_replicate, fun r hr => by rw [List.eq_of_mem_replicate hr, List.length_replicate]⟩
  have old : Old H1 p l F ls := ⟨⟨_, hP.1⟩, ⟨_, hP.2.1⟩, hF, e6⟩
  have mid0 : Mid H1 p l F ls ns n k1 (SyE ev n) H2 := ⟨_, k1, z1, quad0, fun i j _ _ => by rw [rep_at, rep_at]; omega, mat0, hP.x sm1, Nat.le_refl _, sm1.x, fun _ a b _ _ => by rw [rep_at, rep_at]⟩
  refine ⟨_, rfl, (n : Int), rfl, by omega, by omega, ?_⟩
  rw [Int.toNat_natCast]
  refine for_range (lo := 0) (n := n) (fun i σ' H' => ∃ a b, σ' = [some (.ref p), some (.int (n : Int)), some (.bl ev), some (.int (t : Int)), some (.int lo), some (.ref F), a, b] ∧ Mid H1 p l F ls ns n (k1 + 16 * i) (SyE ev n) H') ⟨none, none, rfl, mid0⟩ (fun i σ2 H3 hi ⟨a, b, es, mid2⟩ => ?_) fun σ2 H3 ⟨a, b, es, mid2⟩ => ?_
  · subst es
    rw [Int.zero_add]
    refine ⟨_, rfl, (i : Int), rfl, by omega, by omega, ?_⟩
    rw [Int.toNat_natCast]
    refine for_range (lo := 0) (n := i) (fun j σ' H' => ∃ b, σ' = [some (.ref p), some (.int (n : Int)), some (.bl ev), some (.int (t : Int)), some (.int lo), some (.ref F), some (.int (i : Int)), b] ∧ Mid H1 p l F ls ns n (k1 + 16 * i + 2 * j) (SyE ev n) H') ⟨b, rfl, mid2⟩ (fun j σ3 H4 hj ⟨b3, es3, mid3⟩ => ?_) fun σ3 H4 ⟨b3, es3, mid3⟩ => ⟨_, b3, es3, mid3.le (by omega) fun _ _ h => h⟩
    subst es3
    rw [Int.zero_add]
    refine ⟨_, rfl, mid_take rfl rfl old mid3 (by omega) (by omega) t2 fun r H5 hr m5 => ?_⟩
    dsimp only [rAddA]
    refine mid_set (t := 5) (si := 6) (sj := 7) old m5 rfl rfl rfl hi (by omega) (by omega) (by omega) (by omega) fun H6 m6 => ?_
    refine mid_at (t := 5) (si := 6) (sj := 7) m6 rfl rfl rfl hi (by omega) fun v v0 v1 m6 => ?_
    refine mid_set (t := 5) (si := 7) (sj := 6) old m6 rfl rfl rfl (by omega) hi (by omega) v0 v1 fun H7 m7 => ?_
    refine ⟨_, rfl, _, rfl, ?_⟩
    cases ev with
    | true =>
      refine iteF ⟨_, rfl, m7.le (by omega) fun M qM hM _ a b ha hb => ?_⟩
      obtain ⟨M1, ⟨⟨M0, s0, q0, rfl⟩, ev1⟩, q1, rfl⟩ := hM
      have s0 := s0 rfl
      rw [put2_at q0 hi (by omega), if_pos ⟨rfl, rfl⟩] at ev1
      rw [put2_at q1 (by omega) hi, put2_at q1 (by omega) hi, put2_at q0 hi (by omega), put2_at q0 hi (by omega), s0 a b ha hb]
      by_cases c1 : a = j ∧ b = i
      · rw [if_pos c1, if_neg (by omega), if_pos (by omega)]; exact ev1
      · rw [if_neg c1]
        by_cases c2 : b = j ∧ a = i
        · rw [if_pos c2, if_pos (by omega)]; exact ev1.symm
        · rw [if_neg c2, if_neg (by omega), if_neg (by omega)]
    | false =>
      refine iteT ⟨_, rfl, mid_take rfl rfl old m7 (by omega) (by omega) t2 fun r2 H8 hr2 m8 => ?_⟩
      dsimp only [rAddA]
      exact mid_set (t := 5) (si := 7) (sj := 6) old m8 rfl rfl rfl (by omega) hi (by omega) (by omega) (by omega) fun H9 m9 => ⟨_, rfl, m9.le (by omega) fun _ _ _ z => nomatch z⟩
  · subst es
    obtain ⟨M, k3, z3, qM, bM, mM, hP3, hk3, f3, pM⟩ := mid2.ex
    exact rd_freeze (t := 5) rfl mM qM (by omega) fun p9 H' sm hS => q M _ k3 z3 H' qM bM pM hS (hP3.x sm) (by omega) (sx1.trans (f3.trans sm.x))
theorem rd_etab : ∀ vs H Q E, spETab K vs H Q E → T__law_e_table K spTake { nx := fun _ H' => Q .non H', rt := Q } (start ["pen", "many", "even", "top", "low", "lines", "i", "j"] vs) H := by
  intro vs H Q E h
  obtain ⟨p, l, ns, k, z, n, ev, rfl, hP, hk, h1, h8, q⟩ := h
  refine ⟨show 6 ≤ sizeLine by decide, fun p0 hp0 => ⟨_, rfl, p, l, ns, k, z, 6, rfl, hP.x (same_new hp0 _), by omega, by decide, by decide, fun r k1 z1 H1 hr hk1 hP1 sx1 => ?_⟩⟩
  have s0 := same_new hp0 (.lst [.int 10, .int 1000001, .int 3, .int 60, .int 1001, .int 2])
  have e0 : H1 p0 = some (.lst [.int 10, .int 1000001, .int 3, .int 60, .int 1001, .int 2]) := sx1 _ _ (hP.ne hp0).1 upd_same
  have sx := s0.x.trans sx1 (acc := p)
  have go : ∀ t : Nat, 2 ≤ t → t ≤ 1000001 → _ := fun t t1 t2 => rd_tbRest (K := K) (ev := ev) hk h1 h8 hP1 hk1 sx t1 t2 q
  rcases r with _ | _ | _ | _ | _ | _ | r
  · exact ixL (j := 0) (.of e0) rfl (go 10 (by decide) (by decide))
  · exact ixL (j := 1) (.of e0) rfl (go 1000001 (by decide) (by decide))
  · exact ixL (j := 2) (.of e0) rfl (go 3 (by decide) (by decide))
  · exact ixL (j := 3) (.of e0) rfl (go 60 (by decide) (by decide))
  · exact ixL (j := 4) (.of e0) rfl (go 1001 (by decide) (by decide))
  · exact ixL (j := 5) (.of e0) rfl (go 2 (by decide) (by decide))
  · omega
end
end K53
namespace K53
open PySem L2
def Sy (M : List (List Int)) (n : Nat) : Prop := ∀ i j, i < n → j < n → at2 M i j = at2 M j i
def Tri (M : List (List Int)) (n k : Nat) : Prop := ∀ i j p, i < n → j < n → p < k → at2 M i j ≤ at2 M i p + at2 M p j
def Flo (M : List (List Int)) (n k i0 j0 : Nat) (M' : List (List Int)) : Prop := ∀ a b, a < n → b < n → at2 M' a b = if a < i0 ∨ (a = i0 ∧ b < j0) then min (at2 M a b) (at2 M a k + at2 M k b) else at2 M a b
theorem flo_end {M M' : List (List Int)} {n k : Nat} (hk : k < n) (b : Bnd M n) (s : Sy M n) (t : Tri M n k) (f : Flo M n k n 0 M') : Bnd M' n ∧ Sy M' n ∧ Tri M' n (k + 1) := by
  have g : ∀ i j, i < n → j < n → at2 M' i j = min (at2 M i j) (at2 M i k + at2 M k j) := fun i j hi hj => by rw [f i j hi hj, if_pos (.inl hi)]
  refine ⟨fun i j hi hj => ?_, fun i j hi hj => ?_, fun i j p hi hj hp => ?_⟩
  · rw [g i j hi hj, g i i hi hi]
    have := b i j hi hj
    have := b i k hi hk
    have := b k j hk hj
    have := b k i hk hi
    omega
  · rw [g i j hi hj, g j i hj hi, s i j hi hj, s i k hi hk, s k j hk hj, Int.add_comm]
  · have hpn : p < n := by omega
    rw [g i j hi hj, g i p hi hpn, g p j hpn hj]
    have b1 := b k p hk hpn
    have b2 := b p k hpn hk
    have b3 := b k k hk hk
    by_cases c : p = k
    · subst c
      omega
    · have t1 := t i j p hi hj (by omega)
      have t2 := t k j p hk hj (by omega)
      have t3 := t i k p hi hk (by omega)
      omega
theorem flo_mid {M M' : List (List Int)} {n k i0 j0 : Nat} (hk : k < n) (b : Bnd M n) (f : Flo M n k i0 j0 M') {x : Nat} (hx : x < n) : at2 M' x k = at2 M x k ∧ at2 M' k x = at2 M k x := by
  have := b k k hk hk
  constructor
  · rw [f x k hx hk]
    split
    · omega
    · rfl
  · rw [f k x hk hx]
    split
    · omega
    · rfl
section
variable {K : PySem.W.Frag}
def spStr (K : PySem.W.Frag) : Sp := fun vs H Q _ => ∃ (v : V) (M : List (List Int)) (n : Nat), vs = [v] ∧ Sh K H (tabD M) v ∧ Quad M n ∧ Bnd M n ∧ Sy M n ∧ 1 ≤ n ∧ n ≤ 8 ∧ ∀ T v H', Same H H' → Quad T n → Bnd T n → Sy T n → Tri T n n → Sh K H' (tabD T) v → Q v H'
theorem rd_straight : ∀ vs H Q E, spStr K vs H Q E → T__law_e_straight K { nx := fun _ H' => Q .non H', rt := Q } (start ["table", "lines", "k", "i", "j"] vs) H := by
  intro vs H Q E h
  obtain ⟨v, M0, n, rfl, hS0, q0, b0, y0, n1, n8, q⟩ := h
  obtain ⟨F0, rs, rfl, hF0, hrl, hrow⟩ := id hS0.tab
  have l0 : rs.length = n := hrl.trans q0.len
  refine ⟨_, rfl, F0, rfl, .inr ⟨⟨_, hF0⟩, fun F hF => ?_⟩⟩
  refine inv_tup (vars := [0]) (K := K) (a := F0) (xs := rs) (fun i L H' => ∃ ls : List Addr, L = ls.map V.ref ∧ ls.length = i ∧ ls.Nodup ∧ F ∉ ls ∧ (∀ (j : Nat) (x : Addr) (r : List Int), ls[j]? = some x → M0[j]? = some r → H' x = some (.lst (r.map V.int))) ∧ (∀ x ∈ ls, ∃ r : List Int, H' x = some (.lst (r.map V.int))) ∧ ∀ x ∈ ls, H x = none) (by decide) (by show 0 < 1; decide) ⟨[], rfl, rfl, List.nodup_nil, by simp, (fun _ _ _ z => by cases z), by simp, by simp⟩ hF hF0 (fun i x σ1 H2 L D hx l1 ag1 s1 sm1 ha1 ⟨ls, e1, e2, e3, e4, e5, e55, e6⟩ hD => ?_) fun σ1 H2 L sm1 ha1 ⟨ls, e1, e2, e3, e4, e5, e55, e6⟩ => ?_
  · have hi : i < rs.length := (List.getElem?_eq_some_iff.mp hx).1
    obtain ⟨row, g1, g2, g3⟩ := q0.get (show i < n by omega)
    obtain ⟨b, hb, hbr⟩ := hrow i row g1
    rw [hb] at hx
    obtain rfl : V.ref b = x := Option.some.inj hx
    refine ⟨_, s1, .inl ⟨b, row.map V.int, rfl, .inr (sm1.tup hbr), fun p2 hp2 => ?_⟩⟩
    have hp2F : p2 ≠ F := fun e => by rw [e, ha1] at hp2; cases hp2
    refine ⟨L, by rw [upd_ne (Ne.symm hp2F)]; exact ha1, Nat.lt_of_le_of_lt (show L.length ≤ 9 by rw [e1, List.length_map]; omega) (by decide), ?_⟩
    have keep : ∀ b o, b ≠ F → H2 b = some o → upd (upd H2 p2 (.lst (row.map V.int))) F (.lst (L ++ [V.ref p2])) b = some o := fun b o hb e => by
      rw [upd_ne hb, upd_ne (ne_of_none e hp2)]; exact e
    refine hD σ1 _ (L ++ [.ref p2]) l1 ag1 (fun b o e => keep b o (ne_of_none e hF) (sm1 _ _ e)) upd_same ⟨ls ++ [p2], by rw [e1, List.map_append]; rfl, by rw [List.length_append, e2]; rfl, ?_, ?_, ?_, ?_, ?_⟩
    · refine nd_snoc e3 fun hmem => ?_
      obtain ⟨r, g⟩ := e55 p2 hmem
      rw [g] at hp2; cases hp2
    · intro hmem
      rcases List.mem_append.mp hmem with y | y
      · exact e4 y
      · exact hp2F (List.mem_singleton.mp y).symm
    · intro j x r hj hr
      by_cases cj : j < ls.length
      · rw [List.getElem?_append_left cj] at hj
        exact keep x _ (fun e => e4 (e ▸ List.mem_of_getElem? hj)) (e5 j x r hj hr)
      · have ej : j = ls.length := by
          have := (List.getElem?_eq_some_iff.mp hj).1
          rw [List.length_append, List.length_singleton] at this
          omega
        rw [ej, List.getElem?_append_right (Nat.le_refl _), Nat.sub_self] at hj
        cases hj
        rw [ej, e2, g1] at hr
        cases hr
        rw [upd_ne hp2F]
        exact upd_same
    · intro x hx
      rcases List.mem_append.mp hx with y | y
      · obtain ⟨r, g⟩ := e55 x y
        exact ⟨r, keep x _ (fun e => e4 (e ▸ y)) g⟩
      · rw [List.mem_singleton.mp y]
        exact ⟨row, by rw [upd_ne hp2F]; exact upd_same⟩
    · intro x hx
      rcases List.mem_append.mp hx with y | y
      · exact e6 x y
      · rw [List.mem_singleton.mp y]
        exact sm1.free hp2
  have mat0 : Mat H2 F ls M0 := ⟨by rw [ha1, e1], by rw [e2]; exact hrl, e5, e3, e4⟩
  have lls : ls.length = n := by rw [e2]; exact l0
  have lenF : ∀ {H' M}, Mat H' F ls M → SqL K H' F (ls.map V.ref) := fun m => .of m.top
  refine ⟨_, rfl, F, _, rfl, .inl (lenF mat0), (n : Int), by rw [List.length_map, lls], by omega, by omega, ?_⟩
  rw [Int.toNat_natCast]
  refine for_range (lo := 0) (n := n) (fun k σ' H' => Same H H' ∧ ∃ x2 x3 x4 M, σ' = [some (.ref F0), some (.ref F), x2, x3, x4] ∧ Mat H' F ls M ∧ Quad M n ∧ Bnd M n ∧ Sy M n ∧ Tri M n k) ⟨sm1, _, _, _, M0, rfl, mat0, q0, b0, y0, fun _ _ _ _ _ h => absurd h (Nat.not_lt_zero _)⟩ (fun k σ2 H3 hk ⟨s3, x2, x3, x4, M, es, mM, qM, bM, yM, tM⟩ => ?_) fun σ2 H3 ⟨s3, x2, x3, x4, M, es, mM, qM, bM, yM, tM⟩ => ?_
  · subst es
    rw [Int.zero_add]
    refine ⟨_, rfl, F, _, rfl, .inl (lenF mM), (n : Int), by rw [List.length_map, lls], by omega, by omega, ?_⟩
    rw [Int.toNat_natCast]
    refine for_range (lo := 0) (n := n) (fun i σ' H' => Same H H' ∧ ∃ x3 x4 M', σ' = [some (.ref F0), some (.ref F), some (.int (k : Int)), x3, x4] ∧ Mat H' F ls M' ∧ Quad M' n ∧ Flo M n k i 0 M') ⟨s3, _, _, M, rfl, mM, qM, fun a b _ _ => by rw [if_neg (by omega)]⟩ (fun i σ3 H4 hi ⟨s4, x3, x4, M4, es, m4, q4, f4⟩ => ?_) fun σ3 H4 ⟨s4, x3, x4, M4, es, m4, q4, f4⟩ => ?_
    · subst es
      rw [Int.zero_add]
      refine ⟨_, rfl, F, _, rfl, .inl (lenF m4), (n : Int), by rw [List.length_map, lls], by omega, by omega, ?_⟩
      rw [Int.toNat_natCast]
      refine for_range (lo := 0) (n := n) (fun j σ' H' => Same H H' ∧ ∃ x4 M', σ' = [some (.ref F0), some (.ref F), some (.int (k : Int)), some (.int (i : Int)), x4] ∧ Mat H' F ls M' ∧ Quad M' n ∧ Flo M n k i j M') ⟨s4, _, M4, rfl, m4, q4, f4⟩ (fun j σ4 H5 hj ⟨s5, x4, M5, es, m5, q5, f5⟩ => ?_) fun σ4 H5 ⟨s5, x4, M5, es, m5, q5, f5⟩ => ?_
      · subst es
        rw [Int.zero_add]
        refine mat_at (t := 1) (si := 3) (sj := 4) m5 q5 rfl rfl rfl hi hj ?_
        refine mat_at (t := 1) (si := 3) (sj := 2) m5 q5 rfl rfl rfl hi hk (mat_at (t := 1) (si := 2) (sj := 4) m5 q5 rfl rfl rfl hk hj ?_)
        dsimp only [rAddA]
        refine ⟨_, _, rfl, ?_⟩
        have ik := (flo_mid hk bM f5 hi).1
        have kj := (flo_mid hk bM f5 hj).2
        refine mat_set (t := 1) (si := 3) (sj := 4) m5 q5 rfl rfl rfl hi hj fun l' H6 hl' e6' m6 => ⟨?_, _, _, rfl, m6, put2_quad q5 hi, fun a b ha hb => ?_⟩
        · intro c o e
          rw [e6', upd_ne (ne_of_none e (e6 l' hl'))]
          exact s5 _ _ e
        · rw [put2_at q5 hi hj]
          have hij : at2 M5 i j = at2 M i j := by rw [f5 i j hi hj, if_neg (by omega)]
          by_cases ce : a = i ∧ b = j
          · rw [if_pos ce, hij, ik, kj]
            obtain ⟨rfl, rfl⟩ := ce
            rw [if_pos (show a < a ∨ (a = a ∧ b < b + 1) by omega)]
            split <;> omega
          · rw [if_neg ce, f5 a b ha hb]
            by_cases cl : a < i ∨ (a = i ∧ b < j)
            · rw [if_pos cl, if_pos (by omega)]
            · rw [if_neg cl, if_neg (by omega)]
      · subst es
        refine ⟨s5, _, _, M5, rfl, m5, q5, fun a b ha hb => ?_⟩
        rw [f5 a b ha hb]
        by_cases cl : a < i + 1
        · rw [if_pos (by omega), if_pos (.inl cl)]
        · rw [if_neg (by omega), if_neg (by omega)]
    · subst es
      obtain ⟨b5, y5, t5⟩ := flo_end hk bM yM tM f4
      exact ⟨s4, _, _, _, M4, rfl, m4, q4, b5, y5, t5⟩
  · subst es
    exact rd_freeze (t := 1) rfl mM qM (by omega) fun p9 H' sm hS => q M _ H' (s3.trans sm) qM bM yM tM hS
end
end K53
namespace K53
open PySem L2
def nxt (ps : List Nat) (i : Nat) : Nat := ps.getD ((i + 1) % ps.length) 0
def cst (T : List (List Int)) (ps : List Nat) (q i : Nat) : Int := at2 T (ps.getD i 0) q + at2 T q (nxt ps i) - at2 T (ps.getD i 0) (nxt ps i)
def IsSpot (T : List (List Int)) (ps : List Nat) (q i : Nat) : Prop := i < ps.length ∧ ∀ j, j < ps.length → cst T ps q i < cst T ps q j ∨ (cst T ps q i = cst T ps q j ∧ i ≤ j)
theorem IsSpot.one {T : List (List Int)} {ps : List Nat} {q i j : Nat} (h : IsSpot T ps q i) (g : IsSpot T ps q j) : i = j := by
  have a := h.2 j g.1
  have b := g.2 i h.1
  omega
def putAt (ps : List Nat) (q i : Nat) : List Nat := ps.take (i + 1) ++ [q] ++ ps.drop (i + 1)
theorem putAt_len {ps : List Nat} {q i : Nat} (h : i < ps.length) : (putAt ps q i).length = ps.length + 1 := by
  unfold putAt
  rw [List.length_append, List.length_append, List.length_take, List.length_drop, List.length_singleton]
  omega
theorem putAt_mem {ps : List Nat} {q i x : Nat} (h : x ∈ putAt ps q i) : x = q ∨ x ∈ ps := by
  unfold putAt at h
  rcases List.mem_append.mp h with h | h
  · rcases List.mem_append.mp h with h | h
    · exact .inr (List.mem_of_mem_take h)
    · exact .inl (List.mem_singleton.mp h)
  · exact .inr (List.mem_of_mem_drop h)
theorem fol_at {ps : List Nat} {i : Nat} (h : i < ps.length) : (ps.drop 1 ++ ps.take 1).getD i 0 = nxt ps i := by
  unfold nxt
  by_cases c : i + 1 < ps.length
  · rw [Nat.mod_eq_of_lt c, List.getD_eq_getElem?_getD, List.getElem?_append_left (by rw [List.length_drop]; omega), List.getElem?_drop, ← List.getD_eq_getElem?_getD, Nat.add_comm]
  · have e : i + 1 = ps.length := by omega
    rw [e, Nat.mod_self, List.getD_eq_getElem?_getD, List.getElem?_append_right (by rw [List.length_drop]; omega), List.length_drop, show i - (ps.length - 1) = 0 by omega]
    cases ps with
    | nil => cases h
    | cons a ps => rfl
theorem fol_len {ps : List Nat} : (ps.drop 1 ++ ps.take 1).length = ps.length := by rw [List.length_append, List.length_drop, List.length_take]; omega
theorem get_lt {ps : List Nat} {n i : Nat} (hlt : ∀ p ∈ ps, p < n) (h : i < ps.length) : ps.getD i 0 < n := hlt _ (by rw [List.getD_eq_getElem?_getD, List.getElem?_eq_getElem h]; exact List.getElem_mem h)
theorem cut_tail (ps : List Nat) : cutV (ps.map natV) (some 1) none = (ps.drop 1).map natV := by
  unfold cutV
  rw [show HT.sIx (ps.map natV).length 0 (some 1) = min 1 ps.length by rw [List.length_map]; rfl]
  cases ps with
  | nil => rfl
  | cons p ps =>
    simp [HT.sIx]
    exact List.take_of_length_le (by simp)
theorem cut_head (ps : List Nat) : cutV (ps.map natV) none (some 1) = (ps.take 1).map natV := by
  unfold cutV
  cases ps with
  | nil => rfl
  | cons p ps => simp [HT.sIx]
theorem cut_to (ps : List Nat) (i : Nat) : cutV (ps.map natV) none (some ((i : Int) + 1)) = (ps.take (i + 1)).map natV := by
  unfold cutV
  rw [List.map_take]
  show List.take (HT.sIx _ _ (some ((i : Int) + 1)) - 0) (List.drop 0 _) = _
  rw [List.drop_zero, Nat.sub_zero]
  have e : HT.sIx (ps.map natV).length (ps.map natV).length (some ((i : Int) + 1)) = min (i + 1) (ps.map natV).length := by
    unfold HT.sIx
    simp
    omega
  rw [e]
  by_cases c : i + 1 ≤ (ps.map natV).length
  · rw [Nat.min_eq_left c]
  · rw [Nat.min_eq_right (by omega), List.take_of_length_le (Nat.le_refl _), List.take_of_length_le (by omega)]
theorem cut_from (ps : List Nat) (i : Nat) : cutV (ps.map natV) (some ((i : Int) + 1)) none = (ps.drop (i + 1)).map natV := by
  unfold cutV
  rw [List.map_drop]
  have e : HT.sIx (ps.map natV).length 0 (some ((i : Int) + 1)) = min (i + 1) (ps.map natV).length := by
    unfold HT.sIx
    simp
    omega
  rw [e]
  show List.take ((ps.map natV).length - min (i + 1) (ps.map natV).length) (List.drop (min (i + 1) (ps.map natV).length) (ps.map natV)) = _
  by_cases c : i + 1 ≤ (ps.map natV).length
  · rw [Nat.min_eq_left c]
    exact List.take_of_length_le (by rw [List.length_drop]; exact Nat.le_refl _)
  · rw [Nat.min_eq_right (by omega), List.drop_of_length_le (Nat.le_refl _), List.drop_of_length_le (by omega)]
    exact List.take_nil
theorem lex2 {a b c d : Int} (h : lexL [a, b] [c, d] = false) : c < a ∨ (c = a ∧ d ≤ b) := by
  rw [lexL] at h
  by_cases e : a = c
  · rw [if_pos e, lexL] at h
    by_cases e2 : b = d
    · omega
    · rw [if_neg e2] at h
      have := of_decide_eq_false h
      omega
  · rw [if_neg e] at h
    have := of_decide_eq_false h
    omega
def lastP (ps : List Nat) : Nat := ps.getD (ps.length - 1) 0
def leftP (n : Nat) (ps : List Nat) : List Nat := (List.range n).filter fun q => !decide (q ∈ ps)
theorem mem_left {n q : Nat} {ps : List Nat} : q ∈ leftP n ps ↔ q < n ∧ q ∉ ps := by
  unfold leftP
  rw [List.mem_filter, List.mem_range]
  simp
def IsNext (T : List (List Int)) (n : Nat) (ps : List Nat) (q : Nat) : Prop := q < n ∧ q ∉ ps ∧ ∀ r, r < n → r ∉ ps → at2 T (lastP ps) q < at2 T (lastP ps) r ∨ (at2 T (lastP ps) q = at2 T (lastP ps) r ∧ q ≤ r)
theorem IsNext.one {T : List (List Int)} {n : Nat} {ps : List Nat} {q r : Nat} (h : IsNext T n ps q) (g : IsNext T n ps r) : q = r := by
  have a := h.2.2 r g.1 g.2.1
  have b := g.2.2 q h.1 h.2.1
  omega
inductive Path (T : List (List Int)) (n : Nat) : List Nat → Prop
  | one : Path T n [0]
  | next {ps : List Nat} {q : Nat} : Path T n ps → IsNext T n ps q → Path T n (ps ++ [q])
theorem Path.facts {T : List (List Int)} {n : Nat} {ps : List Nat} (h1 : 1 ≤ n) (h : Path T n ps) : (∀ p ∈ ps, p < n) ∧ 1 ≤ ps.length := by
  induction h with
  | one => exact ⟨fun p hp => by rw [List.mem_singleton] at hp; omega, Nat.le_refl _⟩
  | next h hq ih =>
    refine ⟨fun p hp => ?_, by rw [List.length_append]; exact Nat.le_add_left _ _⟩
    rcases List.mem_append.mp hp with g | g
    · exact ih.1 p g
    · rw [List.mem_singleton.mp g]; exact hq.1
theorem sub_len : ∀ (L M : List Nat), L.Nodup → (∀ x ∈ L, x ∈ M) → L.length ≤ M.length
  | [], _, _, _ => Nat.zero_le _
  | a :: L, M, nd, h => by
    have ha := h a (by simp)
    have nd' := List.nodup_cons.mp nd
    have := sub_len L (M.erase a) nd'.2 fun x hx => by
      have hne : x ≠ a := fun e => nd'.1 (by subst e; exact hx)
      exact (List.mem_erase_of_ne hne).mpr (h x (List.mem_cons_of_mem _ hx))
    rw [List.length_erase_of_mem ha] at this
    have hp : 0 < M.length := List.length_pos_of_mem ha
    rw [List.length_cons]
    omega
theorem left_ne {n : Nat} {ps : List Nat} (h : ps.length < n) : leftP n ps ≠ [] := fun e => by
  have := sub_len (List.range n) ps List.nodup_range fun x hx => by
    apply Classical.byContradiction
    intro hn
    have : x ∈ leftP n ps := mem_left.mpr ⟨List.mem_range.mp hx, hn⟩
    rw [e] at this
    cases this
  rw [List.length_range] at this
  omega
theorem left_len {n : Nat} {ps : List Nat} : (leftP n ps).length ≤ n := by
  unfold leftP
  exact Nat.le_trans (List.length_filter_le _ _) (by rw [List.length_range]; exact Nat.le_refl _)
theorem left_flat {n : Nat} {ps : List Nat} : ((List.range n).flatMap fun i => if (!decide (i ∈ ps)) = true then [natV i] else []) = (leftP n ps).map natV := by
  unfold leftP
  induction (List.range n) with
  | nil => rfl
  | cons a l ih =>
    rw [List.flatMap_cons, ih, List.filter_cons]
    by_cases h : (!decide (a ∈ ps)) = true
    · rw [if_pos h, if_pos h]; rfl
    · rw [if_neg h, if_neg h]; rfl
theorem inV_nat {x : Nat} {gs : List Nat} : inV (.int (x : Int)) (gs.map natV) = decide (x ∈ gs) := by
  unfold inV
  rw [List.any_map]
  by_cases h : x ∈ gs
  · rw [decide_eq_true h]
    exact List.any_eq_true.mpr ⟨x, h, by show ((x : Int) == (x : Int)) = true; simp⟩
  · rw [decide_eq_false h]
    refine List.any_eq_false.mpr fun y hy => ?_
    show ¬ ((y : Int) == (x : Int)) = true
    intro e
    have : (y : Int) = (x : Int) := by simpa using e
    exact h (by rw [show x = y by omega]; exact hy)
theorem flat_nats (gs : List Nat) : (gs.map natV).all flatV = true := by
  rw [List.all_map]
  exact List.all_eq_true.mpr fun _ _ => rfl
section
variable {K : PySem.W.Frag}
theorem way_at {H : Hp} {T : List (List Int)} {n x y : Nat} {σ : St} {tx ty : TE} {v : V} {t : Nat} {Q : VK} (ht : σ[t]? = some (some v)) (hS : Sh K H (tabD T) v) (qT : Quad T n) (hx : x < n) (hy : y < n) (rx : ∀ R : VK, R (natV x) H → tx σ H R) (ry : ∀ R : VK, R (natV y) H → ty σ H R) (q : Q (.int (at2 T x y)) H) : tOp (rIx2 K) (tOp (rIx2 K) (tVar t) tx) ty σ H Q := by
  obtain ⟨row, e1, e2, e3⟩ := qT.get hx
  refine ⟨_, ht, rx _ (tab_row hS qT hx fun b hb => ry _ (ixT hb (j := y) (v := .int (at2 T x y)) ?_ q))⟩
  unfold at2
  rw [List.getElem?_map, L2.getD_at (by rw [e3]; omega)]
  rfl
def PreP (K : PySem.W.Frag) (H : Hp) (T : List (List Int)) (n : Nat) (v : V) (b : Addr) (ps : List Nat) (q : Nat) : Prop := Sh K H (tabD T) v ∧ Quad T n ∧ n ≤ 8 ∧ SqT K H b (ps.map natV) ∧ 1 ≤ ps.length ∧ ps.length ≤ 8 ∧ (∀ p ∈ ps, p < n) ∧ q < n
theorem PreP.same {H H' : Hp} {T : List (List Int)} {n : Nat} {v : V} {b : Addr} {ps : List Nat} {q : Nat} (h : PreP K H T n v b ps q) (s : Same H H') : PreP K H' T n v b ps q := ⟨h.1.same s, h.2.1, h.2.2.1, s.tup h.2.2.2.1, h.2.2.2.2⟩
def spSpot (K : PySem.W.Frag) : Sp := fun vs H Q _ => ∃ (v : V) (b : Addr) (T : List (List Int)) (n : Nat) (ps : List Nat) (q : Nat), vs = [v, .ref b, .int (q : Int)] ∧ PreP K H T n v b ps q ∧ ∀ i a H', IsSpot T ps q i → Same H H' → SqT K H' a [.int (cst T ps q i), natV i] → Q (.ref a) H'
def prsS (T : List (List Int)) (ps : List Nat) (q m : Nat) : List (List Int) := (List.range m).map fun i => [cst T ps q i, (i : Int)]
theorem sqB_same {b : Bool} {H H' : Hp} {l : Addr} {xs : List V} (s : Same H H') (h : SqB b K H l xs) : SqB b K H' l xs := by
  cases b with
  | true => exact s.seq h
  | false => exact s.tup h
theorem rd_spot : ∀ vs H Q E, spSpot K vs H Q E → T_least_spot K { nx := fun _ H' => Q .non H', rt := Q } (start ["table", "gone", "place", "followers"] vs) H := by
  intro vs H Q E h
  obtain ⟨v, b, T, n, ps, w, rfl, ⟨hS, qT, n8, hb, p1, p8, hlt, hw⟩, q⟩ := h
  refine ⟨_, rfl, _, rfl, .inr ⟨b, _, rfl, hb, fun a1 H1 s1 ha1 => ?_⟩⟩
  rw [cut_tail] at ha1
  refine ⟨_, rfl, _, rfl, .inr ⟨b, _, rfl, s1.tup hb, fun a2 H2 s2 ha2 => ?_⟩⟩
  rw [cut_head] at ha2
  refine .inr ⟨a1, a2, _, _, rfl, rfl, s2.tup ha1, ha2, ?_, fun a3 H3 _ ha3 s3 => ?_⟩
  · rw [List.length_map, List.length_map, List.length_drop, List.length_take]
    exact Nat.le_trans (show _ ≤ 20 by omega) (by decide)
  rw [← List.map_append] at ha3
  have sm := (s1.trans s2).trans s3
  refine ⟨_, rfl, _, rfl, b, a3, false, false, rfl, ⟨_, sm.tup hb⟩, ⟨_, ha3⟩, fun F hF => ?_⟩
  refine inv_ez (K := K) (vars := [0, 1, 2]) (xs := ps.map natV) (ys := (ps.drop 1 ++ ps.take 1).map natV) (fun i L H' => Rows K H' L (prsS T ps w i)) (by decide) (by decide) (by decide) (by decide) (by decide) (by decide) (by show 0 < 5; decide) (by show 1 < 5; decide) (by show 2 < 5; decide) (by rw [List.length_map, List.length_map, fol_len]) Rows.nil hF ⟨sm.tup hb, ha3⟩ (fun b H' l zs s h => sqB_same s h) (fun i L H' H'' r s => r.same s) (fun i x y σ1 H4 L D hx hy l1 ag1 e0 e1 e2 sm4 ha4 hR hD => ?_) fun σ1 H4 L sm4 ha4 hR => ?_
  · have hi : i < ps.length := by rw [← List.length_map (f := natV)]; exact (List.getElem?_eq_some_iff.mp hx).1
    have ex : x = natV (ps.getD i 0) := by rw [getV hi] at hx; cases hx; rfl
    have ey : y = natV (nxt ps i) := by
      rw [getV (by rw [fol_len]; exact hi), fol_at hi] at hy
      cases hy
      rfl
    subst ex ey
    have t3 : σ1[3]? = some (some v) := (ag1 3 (by decide)).trans rfl
    have t4 : σ1[4]? = some (some (natV w)) := (ag1 4 (by decide)).trans rfl
    have hS4 := hS.same (sm.trans sm4)
    have g1 := get_lt hlt hi
    have g2 : nxt ps i < n := get_lt hlt (Nat.mod_lt _ (by omega))
    refine way_at t3 hS4 qT g1 hw (fun R h => ⟨_, e1, h⟩) (fun R h => ⟨_, t4, h⟩) ?_
    refine way_at t3 hS4 qT hw g2 (fun R h => ⟨_, t4, h⟩) (fun R h => ⟨_, e2, h⟩) ?_
    dsimp only [rAddA]
    refine way_at t3 hS4 qT g1 g2 (fun R h => ⟨_, e1, h⟩) (fun R h => ⟨_, e2, h⟩) ?_
    refine ⟨_, _, rfl, rfl, _, e0, show 2 ≤ sizeLine by decide, fun t ht => ⟨L, same_new ht _ _ _ ha4, ?_, ?_⟩⟩
    · rw [hR.1]
      unfold prsS
      rw [List.length_map, List.length_range]
      exact Nat.lt_of_lt_of_le (show i < 10 by omega) (by decide)
    have st := same_new ht (.tup [.int (cst T ps w i), .int (i : Int)])
    have ha5 := st _ _ ha4
    refine hD σ1 _ (L ++ [.ref t]) l1 ag1 (fun c o e => ?_) upd_same ?_
    · rw [upd_ne (ne_of_none e hF)]
      exact st _ _ (sm4 _ _ e)
    · have e : prsS T ps w (i + 1) = prsS T ps w i ++ [[cst T ps w i, (i : Int)]] := by
        unfold prsS
        rw [List.range_succ, List.map_append]
        rfl
      rw [e]
      exact Rows.snoc (Rows.put (hR.same st) ha5) (sqT_put (.of upd_same) ha5)
  · rw [List.length_map] at hR
    refine .inr ⟨F, L, prsS T ps w ps.length, rfl, .inl (.of ha4), hR, ?_, fun i t row e1 e2 ht hmin => ?_⟩
    · intro e
      have := congrArg List.length e
      unfold prsS at this
      rw [List.length_map, List.length_range] at this
      have z : ps.length = 0 := this
      omega
    · unfold prsS at e2
      rw [List.getElem?_map] at e2
      cases hg : (List.range ps.length)[i]? with
      | none => rw [hg] at e2; cases e2
      | some j =>
        rw [hg] at e2
        obtain rfl : [cst T ps w j, (j : Int)] = row := by simpa using e2
        have hj := List.mem_range.mp (List.mem_of_getElem? hg)
        refine q j t H4 ⟨hj, fun r hr => ?_⟩ (sm.trans sm4) ht
        have := lex2 (hmin [cst T ps w r, (r : Int)] (List.mem_map.mpr ⟨r, List.mem_range.mpr hr, rfl⟩))
        omega
def spWith (K : PySem.W.Frag) : Sp := fun vs H Q _ => ∃ (v : V) (b : Addr) (T : List (List Int)) (n : Nat) (ps : List Nat) (q : Nat), vs = [v, .ref b, .int (q : Int)] ∧ PreP K H T n v b ps q ∧ ∀ i a H', IsSpot T ps q i → Same H H' → SqT K H' a ((putAt ps q i).map natV) → Q (.ref a) H'
theorem put_read {H : Hp} {b : Addr} {ps : List Nat} {w i sr si sq : Nat} {σ : St} {Q : VK} (hr : σ[sr]? = some (some (.ref b))) (hi : σ[si]? = some (some (.int (i : Int)))) (hq : σ[sq]? = some (some (natV w))) (hb : SqT K H b (ps.map natV)) (p8 : ps.length ≤ 8) (q : ∀ a H', Same H H' → SqT K H' a ((putAt ps w i).map natV) → Q (.ref a) H') :
    tOp (rAddA K) (tOp (rAddA K) (tSl (rSlU K) (tVar sr) tNoPart (tPart (tOp (rAddA K) (tVar si) (tC (.int 1))))) (tTup (tCons (tVar sq) tNil))) (tSl (rSlU K) (tVar sr) (tPart (tOp (rAddA K) (tVar si) (tC (.int 1)))) tNoPart) σ H Q := by
  refine ⟨_, hr, _, hi, _, rfl, .inr ⟨b, _, rfl, hb, fun a1 H1 s1 ha1 => ?_⟩⟩
  rw [cut_to] at ha1
  refine ⟨_, hq, show 1 ≤ sizeLine by decide, fun t ht => ?_⟩
  have st := same_new ht (.tup [natV w])
  refine .inr ⟨a1, t, _, _, rfl, rfl, st.tup ha1, .of upd_same, ?_, fun a2 H2 _ ha2 s2 => ?_⟩
  · rw [List.length_map, List.length_take]
    exact Nat.le_trans (show _ ≤ 20 by simp; omega) (by decide)
  have s12 := (s1.trans st).trans s2
  refine ⟨_, hr, _, hi, _, rfl, .inr ⟨b, _, rfl, s12.tup hb, fun a3 H3 s3 ha3 => ?_⟩⟩
  rw [cut_from] at ha3
  refine .inr ⟨a2, a3, _, _, rfl, rfl, s3.tup ha2, ha3, ?_, fun a4 H4 _ ha4 s4 => q a4 H4 ((s12.trans s3).trans s4) ?_⟩
  · rw [List.length_append, List.length_map, List.length_map, List.length_take, List.length_drop]
    exact Nat.le_trans (show _ ≤ 30 by simp; omega) (by decide)
  · unfold putAt
    rw [List.map_append, List.map_append]
    exact ha4
theorem rd_with : ∀ vs H Q E, spWith K vs H Q E → T_with_place K (spSpot K) { nx := fun _ H' => Q .non H', rt := Q } (start ["table", "gone", "place", "at"] vs) H := by
  intro vs H Q E h
  obtain ⟨v, b, T, n, ps, w, rfl, hp, q⟩ := h
  refine ⟨_, rfl, _, rfl, _, rfl, v, b, T, n, ps, w, rfl, hp, fun i a H1 hi s1 ha => ixT (j := 1) ha rfl ?_⟩
  obtain ⟨hS, qT, n8, hb, p1, p8, hlt, hw⟩ := hp
  exact put_read (sr := 1) (si := 3) (sq := 2) rfl rfl rfl (s1.tup hb) p8 fun a2 H2 s2 ha2 => q i a2 H2 hi (s1.trans s2) ha2
def spLeft (K : PySem.W.Frag) : Sp := fun vs H Q _ => ∃ (ta b : Addr) (rs : List V) (ps : List Nat), vs = [.ref ta, .ref b] ∧ SqT K H ta rs ∧ rs.length ≤ 8 ∧ SqT K H b (ps.map natV) ∧ ∀ l H', Same H H' → H' l = some (.lst ((leftP rs.length ps).map natV)) → Q (.ref l) H'
theorem rd_left : ∀ vs H Q E, spLeft K vs H Q E → T_places_left_puttings K { nx := fun _ H' => Q .non H', rt := Q } (start ["table", "gone"] vs) H := by
  intro vs H Q E h
  obtain ⟨ta, b, rs, ps, rfl, hta, h8, hb, q⟩ := h
  refine ⟨_, rfl, ta, rs, rfl, .inr hta, _, rfl, by omega, by omega, fun acc hacc => ?_⟩
  rw [Int.toNat_natCast]
  refine comp_emitsD [0] ((leftP rs.length ps).map natV) hacc (by rw [List.length_map]; have := left_len (n := rs.length) (ps := ps); omega) ?_ fun σ' H' sm hl' => q acc H' sm hl'
  refine Emits.cast (L := (List.range rs.length).flatMap fun i => if (!decide (i ∈ ps)) = true then [natV i] else []) ?_ left_flat
  refine loop_range (by decide) (by show 0 < 2; decide) fun i σ1 H1 hi l1 ag1 s1 sx1 _ => ?_
  have t1 : σ1[1]? = some (some (.ref b)) := (ag1 1 (by decide)).trans rfl
  rw [Int.zero_add] at s1
  refine emits_if (fun _ _ => trivial) (fun R hR => ⟨_, s1, _, t1, b, _, rfl, .inr ((same_of_x hacc sx1).tup hb), rfl, flat_nats ps, _, rfl, ?_⟩) fun _ H2 e2 => emits_one fun R hR => ⟨_, s1, hR H2 (Same.refl _)⟩
  rw [inV_nat]
  exact hR H1 (Same.refl _)
def spNear (K : PySem.W.Frag) : Sp := fun vs H Q _ => ∃ (v : V) (T : List (List Int)) (n : Nat), vs = [v] ∧ Sh K H (tabD T) v ∧ Quad T n ∧ 1 ≤ n ∧ n ≤ 8 ∧ ∀ (ps : List Nat) a H', Path T n ps → ps.length = n → Same H H' → SqT K H' a (ps.map natV) → Q (.ref a) H'
theorem last_at {ps : List Nat} (h : 1 ≤ ps.length) : (ps.map natV)[(ps.map natV).length - 1]? = some (natV (lastP ps)) := by
  rw [List.length_map]
  exact getV (by omega)
def prsP (T : List (List Int)) (p : Nat) (ls : List Nat) : List (List Int) := ls.map fun q => [at2 T p q, (q : Int)]
theorem rd_near : ∀ vs H Q E, spNear K vs H Q E → T_nearest K (spLeft K) { nx := fun _ H' => Q .non H', rt := Q } (start ["table", "gone", "way", "place"] vs) H := by
  intro vs H Q E h
  obtain ⟨v, T, n, rfl, hT, qT, h1, h8, q⟩ := h
  obtain ⟨ta, rs, rfl, hta, hrl, _⟩ := id hT.tab
  have hrn : rs.length = n := hrl.trans qT.len
  refine ⟨show 1 ≤ sizeLine by decide, fun b0 hb0 => ?_⟩
  refine ⟨fun m σ' H' => ∃ (b : Addr) (ps : List Nat) (x2 x3 : Option V), σ' = [some (.ref ta), some (.ref b), x2, x3] ∧ SqT K H' b (ps.map natV) ∧ Same H H' ∧ Path T n ps ∧ ps.length + m = n, ⟨n - 1, b0, [0], _, _, rfl, .of upd_same, same_new hb0 _, .one, by show 1 + (n - 1) = n; omega⟩, ?_⟩
  rintro m σ' H' ⟨b, ps, x2, x3, rfl, hb, sm, hpath, hm⟩
  obtain ⟨hlt, hp1⟩ := hpath.facts h1
  refine ⟨_, rfl, b, _, rfl, .inr hb, _, rfl, ta, rs, rfl, .inr (sm.tup hta), _, _, rfl, rfl, _, rfl, ?_⟩
  rw [List.length_map, hrn]
  by_cases c : ps.length < n
  · refine iteT' (decide_eq_true (by omega)) ?_
    refine ⟨fun σ2 H2 => ∃ (b : Addr) (qs : List Nat) (x2 x3 : Option V), σ2 = [some (.ref ta), some (.ref b), x2, x3] ∧ SqT K H2 b (qs.map natV) ∧ Same H H2 ∧ Path T n qs ∧ qs.length = ps.length + 1, fun σ2 H2 ⟨b, qs, x2, x3, e1, e2, e3, e4, e5⟩ => ⟨m - 1, by omega, b, qs, x2, x3, e1, e2, e3, e4, by omega⟩, ?_⟩
    refine ⟨_, rfl, _, rfl, ta, b, rs, ps, rfl, sm.tup hta, by omega, hb, fun l H1 s1 hl => ⟨l, rfl, .inl ⟨⟨_, .of hl⟩, fun F hF => ?_⟩⟩⟩
    rw [hrn] at hl
    have hS1 := hT.same (sm.trans s1)
    have hb1 := s1.tup hb
    refine inv_list (K := K) (a := l) (xs := (leftP n ps).map natV) (vars := [0]) (fun i L H' => Rows K H' L (prsP T (lastP ps) ((leftP n ps).take i))) (by decide) (by show 0 < 3; decide) Rows.nil hF (fun i L H' sm' _ => .of (sm' _ _ hl)) (fun i x σ1 H2 L D hx l1 ag1 s0 sm2 ha2 hR hD => ?_) fun σ1 H2 L sm2 ha2 hR => ?_
    · have hi : i < (leftP n ps).length := by rw [← List.length_map (f := natV)]; exact (List.getElem?_eq_some_iff.mp hx).1
      have ex : x = natV ((leftP n ps)[i]) := by
        rw [List.getElem?_map, List.getElem?_eq_getElem hi] at hx
        cases hx
        rfl
      subst ex
      have hq := mem_left.mp (List.getElem_mem hi)
      have t1 : σ1[1]? = some (some (.ref ta)) := (ag1 1 (by decide)).trans rfl
      have t2 : σ1[2]? = some (some (.ref b)) := (ag1 2 (by decide)).trans rfl
      have gl : lastP ps < n := hlt _ (by unfold lastP; rw [List.getD_eq_getElem?_getD, List.getElem?_eq_getElem (by omega)]; exact List.getElem_mem _)
      obtain ⟨row, g1, g2, g3⟩ := qT.get gl
      refine ⟨_, t1, _, t2, 1, rfl, ixT_last (sm2.tup hb1) (last_at hp1) (tab_row (hS1.same sm2) qT gl fun a2 ha3 => ⟨_, s0, ixT ha3 (j := (leftP n ps)[i]) (v := .int (at2 T (lastP ps) ((leftP n ps)[i]))) (by unfold at2; rw [List.getElem?_map, L2.getD_at (by rw [g3]; omega)]; rfl) ⟨_, s0, show 2 ≤ sizeLine by decide, fun t ht => ⟨L, same_new ht _ _ _ ha2, ?_, ?_⟩⟩⟩)⟩
      · rw [hR.1]
        exact Nat.lt_of_le_of_lt (show _ ≤ 8 by unfold prsP; rw [List.length_map, List.length_take]; have := left_len (n := n) (ps := ps); omega) (by decide)
      have st := same_new ht (.tup [.int (at2 T (lastP ps) ((leftP n ps)[i])), natV ((leftP n ps)[i])])
      have ha4 := st _ _ ha2
      have sF : Same H1 (upd (upd H2 t (.tup [.int (at2 T (lastP ps) ((leftP n ps)[i])), natV ((leftP n ps)[i])])) F (.lst (L ++ [.ref t]))) := fun c o e => by
        rw [upd_ne (ne_of_none e hF)]
        exact st _ _ (sm2 _ _ e)
      refine hD σ1 _ (L ++ [.ref t]) l1 ag1 sF upd_same ?_
      have e : prsP T (lastP ps) ((leftP n ps).take (i + 1)) = prsP T (lastP ps) ((leftP n ps).take i) ++ [[at2 T (lastP ps) ((leftP n ps)[i]), (((leftP n ps)[i] : Nat) : Int)]] := by
        unfold prsP
        rw [List.take_succ_eq_append_getElem hi, List.map_append]
        rfl
      rw [e]
      exact Rows.snoc (Rows.put (hR.same st) ha4) (sqT_put (.of upd_same) ha4)
    · rw [List.length_map, List.take_length] at hR
      refine .inr ⟨F, L, prsP T (lastP ps) (leftP n ps), rfl, .inl (.of ha2), hR, ?_, fun i t row e1 e2 ht hmin => ?_⟩
      · intro e
        exact left_ne c (List.map_eq_nil_iff.mp e)
      · unfold prsP at e2
        rw [List.getElem?_map] at e2
        cases hg : (leftP n ps)[i]? with
        | none => rw [hg] at e2; cases e2
        | some w =>
          rw [hg] at e2
          obtain rfl : [at2 T (lastP ps) w, (w : Int)] = row := by simpa using e2
          have hw := mem_left.mp (List.mem_of_getElem? hg)
          have hnx : IsNext T n ps w := ⟨hw.1, hw.2, fun r hr hr' => by
            have := hmin [at2 T (lastP ps) r, (r : Int)] (List.mem_map.mpr ⟨r, mem_left.mpr ⟨hr, hr'⟩, rfl⟩)
            have := lex2 this
            omega⟩
          refine ⟨t, _, rfl, ht, rfl, _, _, rfl, _, _, rfl, rfl, ?_⟩
          refine ⟨_, rfl, _, rfl, show 1 ≤ sizeLine by decide, fun p hp => ?_⟩
          have sp := same_new hp (.tup [natV w])
          refine .inr ⟨b, p, _, _, rfl, rfl, sp.tup (sm2.tup hb1), .of upd_same, ?_, fun p3 H3 _ hp3 s3 => ?_⟩
          · rw [List.length_map]
            exact Nat.le_trans (show _ ≤ 20 by simp; omega) (by decide)
          · refine ⟨p3, ps ++ [w], _, _, rfl, ?_, (((sm.trans s1).trans sm2).trans sp).trans s3, .next hpath hnx, by rw [List.length_append]; rfl⟩
            rw [List.map_append]
            exact hp3
  · refine iteF' (decide_eq_false (by omega)) ⟨_, rfl, q ps b H' hpath ?_ sm hb⟩
    omega
end
def IsLeast (T : List (List Int)) (ps : List Nat) (q : Nat) (x : Int) : Prop := (∃ p ∈ ps, x = at2 T p q) ∧ ∀ p ∈ ps, x ≤ at2 T p q
def IsKey : Nat → List (List Int) → List Nat → Nat → Int → Prop
  | 0, T, ps, q, x => ∃ i, IsSpot T ps q i ∧ x = cst T ps q i
  | 1, T, ps, q, x => IsLeast T ps q x
  | _, T, ps, q, x => IsLeast T ps q (-x)
theorem IsLeast.one {T : List (List Int)} {ps : List Nat} {q : Nat} {x y : Int} (h : IsLeast T ps q x) (g : IsLeast T ps q y) : x = y := by
  obtain ⟨⟨p, hp, rfl⟩, a⟩ := h
  obtain ⟨⟨r, hr, rfl⟩, b⟩ := g
  have := a r hr
  have := b p hp
  omega
theorem IsKey.one {T : List (List Int)} {ps : List Nat} {q : Nat} {x y : Int} : ∀ {w : Nat}, IsKey w T ps q x → IsKey w T ps q y → x = y
  | 0, ⟨i, hi, ei⟩, ⟨j, hj, ej⟩ => by rw [ei, ej, hi.one hj]
  | 1, h, g => IsLeast.one h g
  | w + 2, h, g => by
    have := IsLeast.one h g
    omega
def IsSel (w : Nat) (T : List (List Int)) (n : Nat) (ps : List Nat) (q : Nat) : Prop := q < n ∧ q ∉ ps ∧ ∃ x, IsKey w T ps q x ∧ ∀ r y, r < n → r ∉ ps → IsKey w T ps r y → x < y ∨ (x = y ∧ q ≤ r)
theorem IsSel.one {w : Nat} {T : List (List Int)} {n : Nat} {ps : List Nat} {q r : Nat} (h : IsSel w T n ps q) (g : IsSel w T n ps r) : q = r := by
  obtain ⟨a1, a2, x, a3, a4⟩ := h
  obtain ⟨b1, b2, y, b3, b4⟩ := g
  have := a4 r y b1 b2 b3
  have := b4 q x a1 a2 a3
  omega
inductive Gr (w : Nat) (T : List (List Int)) (n : Nat) : List Nat → Prop
  | one : Gr w T n [0]
  | next {ps : List Nat} {q i : Nat} : Gr w T n ps → IsSel w T n ps q → IsSpot T ps q i → Gr w T n (putAt ps q i)
theorem Gr.facts {w : Nat} {T : List (List Int)} {n : Nat} {ps : List Nat} (h1 : 1 ≤ n) (h : Gr w T n ps) : (∀ p ∈ ps, p < n) ∧ 1 ≤ ps.length := by
  induction h with
  | one => exact ⟨fun p hp => by rw [List.mem_singleton] at hp; omega, Nat.le_refl _⟩
  | next h hq hs ih =>
    refine ⟨fun p hp => ?_, by rw [putAt_len hs.1]; omega⟩
    rcases putAt_mem hp with rfl | hp
    · exact hq.1
    · exact ih.1 p hp
theorem flat_way {T : List (List Int)} {q : Nat} : ∀ ps : List Nat, ((List.range ps.length).flatMap fun i => [V.int (at2 T (ps.getD i 0) q)]) = (ps.map fun p => at2 T p q).map V.int
  | [] => rfl
  | p :: ps => by
    rw [List.length_cons, List.range_succ_eq_map, List.flatMap_cons, List.flatMap_map, List.map_cons, List.map_cons, ← flat_way ps]
    rfl
theorem capt_at {σ : St} {i : Nat} {v : V} (h : σ[i]? = some (some v)) : capt σ (some i) = some v := by
  show (σ[i]?).join = some v
  rw [h]
  rfl
section
variable {K : PySem.W.Frag}
def spWay (K : PySem.W.Frag) : Sp := fun vs H Q _ => ∃ (v : V) (b : Addr) (T : List (List Int)) (n : Nat) (ps : List Nat) (q : Nat), vs = [v, .ref b, .int (q : Int)] ∧ PreP K H T n v b ps q ∧ ∀ x H', IsLeast T ps q x → Same H H' → Q (.int x) H'
theorem least_read {H : Hp} {T : List (List Int)} {n : Nat} {v : V} {b : Addr} {ps : List Nat} {q i0 i1 i2 : Nat} {σ : St} {Q : VK} (h0 : σ[i0]? = some (some v)) (h1 : σ[i1]? = some (some (.ref b))) (h2 : σ[i2]? = some (some (natV q))) (hp : PreP K H T n v b ps q) (h : ∀ x H', IsLeast T ps q x → Same H H' → Q (.int x) H') :
    tCB (rMinA K) (tCons (tComp [none, some i0, some i2] (iSeq K (tVar i1)) (gName 0) [] fun acc => (tEmit (tOp (rIx2 K) (tOp (rIx2 K) (tVar 1) (tVar 0)) (tVar 2)) acc)) tNil) σ H Q := by
  obtain ⟨hS, qT, n8, hb, p1, p8, hlt, hq⟩ := hp
  refine ⟨_, h1, b, rfl, .inr ⟨⟨_, hb⟩, fun acc hacc => ?_⟩⟩
  have hl : (ps.map natV).length = ps.length := List.length_map _
  refine comp_emitsD [0] ((ps.map fun p => at2 T p q).map V.int) hacc (by rw [List.length_map, List.length_map]; omega) ?_ fun σ' H' sm hl' => .inl ⟨acc, ps.map fun p => at2 T p q, rfl, .inl (.of hl'), ?_, fun m m1 m2 => h m H' ⟨?_, fun p hp => m2 _ (List.mem_map.mpr ⟨p, hp, rfl⟩)⟩ sm⟩
  · refine Emits.cast (L := (List.range (ps.map natV).length).flatMap fun i => [V.int (at2 T (ps.getD i 0) q)]) ?_ (by rw [hl, flat_way])
    refine loop_tup (by decide) (by show 0 < 3; decide) (fun H' sx => (same_of_x hacc sx).tup hb) fun i x σ1 H1 hx l1 ag1 s1 sx1 _ => ?_
    have hi : i < ps.length := by rw [← hl]; exact (List.getElem?_eq_some_iff.mp hx).1
    obtain rfl : x = natV (ps.getD i 0) := by rw [getV hi] at hx; cases hx; rfl
    have t1 : σ1[1]? = some (some v) := (ag1 1 (by decide)).trans (by show some (capt σ (some i0)) = _; rw [capt_at h0])
    have t2 : σ1[2]? = some (some (natV q)) := (ag1 2 (by decide)).trans (by show some (capt σ (some i2)) = _; rw [capt_at h2])
    refine emits_one fun R hR => ?_
    exact way_at t1 (hS.same (same_of_x hacc sx1)) qT (get_lt hlt hi) hq (fun R h => ⟨_, s1, h⟩) (fun R h => ⟨_, t2, h⟩) (hR H1 (Same.refl _))
  · intro e
    have := List.map_eq_nil_iff.mp e
    rw [this] at p1
    simp at p1
  · obtain ⟨p, hp, rfl⟩ := List.mem_map.mp m1
    exact ⟨p, hp, rfl⟩
theorem rd_way : ∀ vs H Q E, spWay K vs H Q E → T_way_to K { nx := fun _ H' => Q .non H', rt := Q } (start ["table", "gone", "place"] vs) H := by
  intro vs H Q E h
  obtain ⟨v, b, T, n, ps, q, rfl, hp, h⟩ := h
  exact least_read (i0 := 0) (i1 := 1) (i2 := 2) rfl rfl rfl hp h
def TG (K : PySem.W.Frag) (te : TE) : TS := (tSeq (tAsg (tTup (tCons (tC (.int 0)) tNil)) (gName 1)) (tSeq (tWhile (tTest (tOp yLt (tCB (rLen K) (tCons (tVar 1) tNil)) (tCB (rLen K) (tCons (tVar 0) tNil)))) (tSeq (tAsg (tCB (rMinA K) (tCons (tComp [none, some 0, some 1] (iSeq K (tCall (spLeft K) [] E0 (tCons (tVar 0) (tCons (tVar 1) tNil)))) (gName 0) [] fun acc => (tEmit (tTup (tCons te (tCons (tVar 0) tNil))) acc)) tNil)) (gTup K 2 (gCons (gName 2) (gCons (gName 3) gNil)))) (tSeq (tAsg (tCall (spWith K) [] E0 (tCons (tVar 0) (tCons (tVar 1) (tCons (tVar 3) tNil)))) (gName 1)) tNext))) (tSeq (tRet (tVar 1)) tNext)))
def spGrow (K : PySem.W.Frag) (w : Nat) : Sp := fun vs H Q _ => ∃ (v : V) (T : List (List Int)) (n : Nat), vs = [v] ∧ Sh K H (tabD T) v ∧ Quad T n ∧ 1 ≤ n ∧ n ≤ 8 ∧ ∀ (ps : List Nat) a H', Gr w T n ps → ps.length = n → Same H H' → SqT K H' a (ps.map natV) → Q (.ref a) H'
def KeysAt (w : Nat) (T : List (List Int)) (ps ls : List Nat) (i : Nat) (M : List (List Int)) : Prop := M.length = i ∧ ∀ (j : Nat) (row : List Int), M[j]? = some row → ∃ (q : Nat) (x : Int), ls[j]? = some q ∧ row = [x, ((q : Nat) : Int)] ∧ IsKey w T ps q x
theorem rd_grow {w : Nat} {te : TE} {nm : List Str} (hnm : nm.length = 4) (hte : ∀ (σ : St) (H : Hp) (T : List (List Int)) (n : Nat) (v : V) (b : Addr) (ps : List Nat) (q : Nat) (R : VK), σ[0]? = some (some (natV q)) → σ[1]? = some (some v) → σ[2]? = some (some (.ref b)) → PreP K H T n v b ps q → (∀ x H', IsKey w T ps q x → Same H H' → R (.int x) H') → te σ H R) :
    ∀ vs H Q E, spGrow K w vs H Q E → TG K te { nx := fun _ H' => Q .non H', rt := Q } (start nm vs) H := by
  intro vs H Q E h
  obtain ⟨v, T, n, rfl, hT, qT, h1, h8, q⟩ := h
  obtain ⟨ta, rs, rfl, hta, hrl, _⟩ := id hT.tab
  have hrn : rs.length = n := hrl.trans qT.len
  have hst : start nm [.ref ta] = [some (.ref ta), none, none, none] := by
    match nm, hnm with
    | [a, b, c, d], _ => rfl
  rw [hst]
  refine ⟨show 1 ≤ sizeLine by decide, fun b0 hb0 => ?_⟩
  refine ⟨fun m σ' H' => ∃ (b : Addr) (ps : List Nat) (x2 x3 : Option V), σ' = [some (.ref ta), some (.ref b), x2, x3] ∧ SqT K H' b (ps.map natV) ∧ Same H H' ∧ Gr w T n ps ∧ ps.length + m = n, ⟨n - 1, b0, [0], _, _, rfl, .of upd_same, same_new hb0 _, .one, by show 1 + (n - 1) = n; omega⟩, ?_⟩
  rintro m σ' H' ⟨b, ps, x2, x3, rfl, hb, sm, hgr, hm⟩
  obtain ⟨hlt, hp1⟩ := hgr.facts h1
  refine ⟨_, rfl, b, _, rfl, .inr hb, _, rfl, ta, rs, rfl, .inr (sm.tup hta), _, _, rfl, rfl, _, rfl, ?_⟩
  rw [List.length_map, hrn]
  by_cases c : ps.length < n
  · refine iteT' (decide_eq_true (by omega)) ?_
    refine ⟨fun σ2 H2 => ∃ (b : Addr) (qs : List Nat) (x2 x3 : Option V), σ2 = [some (.ref ta), some (.ref b), x2, x3] ∧ SqT K H2 b (qs.map natV) ∧ Same H H2 ∧ Gr w T n qs ∧ qs.length = ps.length + 1, fun σ2 H2 ⟨b, qs, x2, x3, e1, e2, e3, e4, e5⟩ => ⟨m - 1, by omega, b, qs, x2, x3, e1, e2, e3, e4, by omega⟩, ?_⟩
    refine ⟨_, rfl, _, rfl, ta, b, rs, ps, rfl, sm.tup hta, by omega, hb, fun l H1 s1 hl => ⟨l, rfl, .inl ⟨⟨_, .of hl⟩, fun F hF => ?_⟩⟩⟩
    rw [hrn] at hl
    have hS1 := hT.same (sm.trans s1)
    have hb1 := s1.tup hb
    refine inv_list (K := K) (a := l) (xs := (leftP n ps).map natV) (vars := [0]) (fun i L H' => ∃ M, KeysAt w T ps (leftP n ps) i M ∧ Rows K H' L M) (by decide) (by show 0 < 3; decide) ⟨[], ⟨rfl, fun j row e => by cases e⟩, Rows.nil⟩ hF (fun i L H' sm' _ => .of (sm' _ _ hl)) (fun i x σ1 H2 L D hx l1 ag1 s0 sm2 ha2 ⟨M, hM, hR⟩ hD => ?_) fun σ1 H2 L sm2 ha2 ⟨M, hM, hR⟩ => ?_
    · have hi : i < (leftP n ps).length := by rw [← List.length_map (f := natV)]; exact (List.getElem?_eq_some_iff.mp hx).1
      obtain rfl : x = natV ((leftP n ps)[i]) := by
        rw [List.getElem?_map, List.getElem?_eq_getElem hi] at hx
        cases hx
        rfl
      have hq := mem_left.mp (List.getElem_mem hi)
      have t1 : σ1[1]? = some (some (.ref ta)) := (ag1 1 (by decide)).trans rfl
      have t2 : σ1[2]? = some (some (.ref b)) := (ag1 2 (by decide)).trans rfl
      refine hte σ1 H2 T n (.ref ta) b ps _ _ s0 t1 t2 ⟨hS1.same sm2, qT, h8, sm2.tup hb1, hp1, by omega, hlt, hq.1⟩ fun k H3 hk s3 => ⟨_, s0, show 2 ≤ sizeLine by decide, fun t ht => ⟨L, same_new ht _ _ _ (s3 _ _ ha2), ?_, ?_⟩⟩
      · rw [hR.1, hM.1]
        exact Nat.lt_of_lt_of_le (show i < 10 by have := left_len (n := n) (ps := ps); omega) (by decide)
      have st := same_new ht (.tup [.int k, natV ((leftP n ps)[i])])
      have ha4 := st _ _ (s3 _ _ ha2)
      refine hD σ1 _ (L ++ [.ref t]) l1 ag1 (fun c o e => ?_) upd_same ⟨M ++ [[k, (((leftP n ps)[i] : Nat) : Int)]], ⟨by rw [List.length_append, hM.1]; rfl, fun j row e => ?_⟩, Rows.snoc (Rows.put ((hR.same s3).same st) ha4) (sqT_put (.of upd_same) ha4)⟩
      · rw [upd_ne (ne_of_none e hF)]
        exact st _ _ (s3 _ _ (sm2 _ _ e))
      · by_cases cj : j < M.length
        · rw [List.getElem?_append_left cj] at e
          exact hM.2 j row e
        · rw [List.getElem?_append_right (by omega)] at e
          have hj : j - M.length = 0 := by
            rcases hz : j - M.length with _ | y
            · rfl
            · rw [hz] at e; cases e
          rw [hj] at e
          cases e
          have hji : j = i := by have := hM.1; omega
          exact ⟨_, k, by rw [hji]; exact List.getElem?_eq_getElem hi, rfl, hk⟩
    · rw [List.length_map] at hM
      refine .inr ⟨F, L, M, rfl, .inl (.of ha2), hR, ?_, fun i t row e1 e2 ht hmin => ?_⟩
      · intro e
        have := hM.1
        rw [e] at this
        exact left_ne c (List.eq_nil_of_length_eq_zero this.symm)
      · obtain ⟨u, x, hg, rfl, hk⟩ := hM.2 i row e2
        have hu := mem_left.mp (List.mem_of_getElem? hg)
        have hsel : IsSel w T n ps u := ⟨hu.1, hu.2, x, hk, fun r y hr hr' hy => by
          obtain ⟨j, hj, ej⟩ := List.getElem_of_mem (mem_left.mpr ⟨hr, hr'⟩)
          have hjM : j < M.length := by rw [hM.1]; exact hj
          obtain ⟨u', x', hg', er, hk'⟩ := hM.2 j _ (List.getElem?_eq_getElem hjM)
          have hu' : u' = r := by
            rw [List.getElem?_eq_getElem hj, ej] at hg'
            cases hg'
            rfl
          subst hu'
          obtain rfl := hk'.one hy
          have := hmin _ (List.getElem_mem hjM)
          rw [er] at this
          have := lex2 this
          omega⟩
        refine ⟨t, _, rfl, ht, rfl, _, _, rfl, _, _, rfl, rfl, ?_⟩
        refine ⟨_, rfl, _, rfl, _, rfl, .ref ta, b, T, n, ps, u, rfl, ⟨hS1.same sm2, qT, h8, sm2.tup hb1, hp1, by omega, hlt, hu.1⟩, fun i2 a2 H3 hi2 s3 ha3 => ?_⟩
        exact ⟨a2, putAt ps u i2, _, _, rfl, ha3, ((sm.trans s1).trans sm2).trans s3, .next hgr hsel hi2, putAt_len hi2.1⟩
  · refine iteF' (decide_eq_false (by omega)) ⟨_, rfl, q ps b H' hgr ?_ sm hb⟩
    omega
theorem rd_cheapest : ∀ vs H Q E, spGrow K 0 vs H Q E → T_cheapest K (spSpot K) (spLeft K) (spWith K) { nx := fun _ H' => Q .non H', rt := Q } (start ["table", "gone", "more", "place"] vs) H :=
  rd_grow (w := 0) (te := tOp (rIx2 K) (tCall (spSpot K) [] E0 (tCons (tVar 1) (tCons (tVar 2) (tCons (tVar 0) tNil)))) (tC (.int 0))) rfl fun σ H T n v b ps q R e0 e1 e2 hp h => ⟨_, e1, _, e2, _, e0, v, b, T, n, ps, q, rfl, hp, fun i a H' hi s ha => ixT (j := 0) ha rfl (h _ H' ⟨i, hi, rfl⟩ s)⟩
theorem rd_nearG : ∀ vs H Q E, spGrow K 1 vs H Q E → T_near K (spLeft K) (spWay K) (spWith K) { nx := fun _ H' => Q .non H', rt := Q } (start ["table", "gone", "way", "place"] vs) H :=
  rd_grow (w := 1) (te := tCall (spWay K) [] E0 (tCons (tVar 1) (tCons (tVar 2) (tCons (tVar 0) tNil)))) rfl fun σ H T n v b ps q R e0 e1 e2 hp h => ⟨_, e1, _, e2, _, e0, v, b, T, n, ps, q, rfl, hp, h⟩
theorem rd_far : ∀ vs H Q E, spGrow K 2 vs H Q E → T_far K (spLeft K) (spWay K) (spWith K) { nx := fun _ H' => Q .non H', rt := Q } (start ["table", "gone", "turned", "place"] vs) H :=
  rd_grow (w := 2) (te := tUn yNeg (tCall (spWay K) [] E0 (tCons (tVar 1) (tCons (tVar 2) (tCons (tVar 0) tNil))))) rfl fun σ H T n v b ps q R e0 e1 e2 hp h => ⟨_, e1, _, e2, _, e0, v, b, T, n, ps, q, rfl, hp, fun x H' hx s => ⟨x, rfl, h (-x) H' (by show IsLeast T ps q (- -x); rw [Int.neg_neg]; exact hx) s⟩⟩
end
end K53
namespace K53.Tr
open PySem L2
theorem countP_erase {p : Int → Bool} {a : Int} {L : List Int} (h : a ∈ L) : L.countP p = (L.erase a).countP p + if p a = true then 1 else 0 := by
  have := (List.perm_cons_erase h).countP_eq p
  rw [this, List.countP_cons]
theorem perm_sum {A B : List Int} (h : A.Perm B) : A.sum = B.sum := by
  induction h with
  | nil => rfl
  | cons a _ ih => rw [List.sum_cons, List.sum_cons, ih]
  | swap a b l => rw [List.sum_cons, List.sum_cons, List.sum_cons, List.sum_cons]; omega
  | trans _ _ h1 h2 => rw [h1, h2]
theorem sum_erase {a : Int} {L : List Int} (h : a ∈ L) : L.sum = a + (L.erase a).sum := by
  have := perm_sum (List.perm_cons_erase h)
  rw [this, List.sum_cons]
theorem max_of : ∀ (L : List Int), L ≠ [] → ∃ a ∈ L, ∀ x ∈ L, x ≤ a
  | [a], _ => ⟨a, by simp, fun x hx => by rw [List.mem_singleton.mp hx]; exact Int.le_refl _⟩
  | a :: b :: L, _ => by
    obtain ⟨m, hm, h⟩ := max_of (b :: L) (by simp)
    by_cases c : a ≤ m
    · exact ⟨m, List.mem_cons_of_mem _ hm, fun x hx => by rcases List.mem_cons.mp hx with rfl | hx; exact c; exact h x hx⟩
    · exact ⟨a, by simp, fun x hx => by
        rcases List.mem_cons.mp hx with rfl | hx
        · exact Int.le_refl _
        · have := h x hx; omega⟩
theorem major : ∀ (n : Nat) (A B : List Int), A.length = n → B.length = n → (∀ t : Int, A.countP (fun x => decide (t < x)) ≤ B.countP (fun x => decide (t < x))) → A.sum ≤ B.sum
  | 0, A, B, ha, hb, _ => by
    rw [List.eq_nil_of_length_eq_zero ha, List.eq_nil_of_length_eq_zero hb]; exact Int.le_refl _
  | n + 1, A, B, ha, hb, h => by
    obtain ⟨a, hma, ma⟩ := max_of A (by intro e; rw [e] at ha; cases ha)
    have h1 : 0 < A.countP (fun x => decide (a - 1 < x)) := List.countP_pos_iff.mpr ⟨a, hma, decide_eq_true (by omega)⟩
    obtain ⟨b, hmb, hb'⟩ := List.countP_pos_iff.mp (Nat.lt_of_lt_of_le h1 (h (a - 1)))
    have hab : a ≤ b := by have := of_decide_eq_true hb'; omega
    have := major n (A.erase a) (B.erase b) (by rw [List.length_erase_of_mem hma]; omega) (by rw [List.length_erase_of_mem hmb]; omega) fun t => by
      by_cases c : t < a
      · have e := h t
        rw [countP_erase hma, countP_erase hmb, if_pos (decide_eq_true c), if_pos (decide_eq_true (show t < b by omega))] at e
        omega
      · have : (A.erase a).countP (fun x => decide (t < x)) = 0 := List.countP_eq_zero.mpr fun x hx => by
          have := ma x (List.mem_of_mem_erase hx)
          simp
          omega
        omega
    rw [sum_erase hma, sum_erase hmb]
    omega
inductive Gr : List Nat → List (Nat × Nat) → Prop
  | one (r : Nat) : Gr [r] []
  | more {vs : List Nat} {es : List (Nat × Nat)} {p c : Nat} : Gr vs es → p ∈ vs → c ∉ vs → Gr (vs ++ [c]) (es ++ [(p, c)])
def wts (C : Nat → Nat → Int) (es : List (Nat × Nat)) : List Int := es.map fun e => C e.1 e.2
theorem Gr.len {vs : List Nat} {es : List (Nat × Nat)} (h : Gr vs es) : vs.length = es.length + 1 := by
  induction h with
  | one r => rfl
  | more _ _ _ ih => rw [List.length_append, List.length_append, ih]; rfl
theorem Gr.nd {vs : List Nat} {es : List (Nat × Nat)} (h : Gr vs es) : vs.Nodup := by
  induction h with
  | one r => simp
  | more _ _ hc ih =>
    rw [List.nodup_append]
    exact ⟨ih, by simp, fun a ha b hb e => hc (by rw [← List.mem_singleton.mp hb, ← e]; exact ha)⟩
theorem Gr.mem {vs : List Nat} {es : List (Nat × Nat)} (h : Gr vs es) : ∀ e ∈ es, e.1 ∈ vs ∧ e.2 ∈ vs ∧ e.1 ≠ e.2 := by
  induction h with
  | one r => intro e he; cases he
  | @more vs' es' p c g hp hc ih =>
    intro e he
    rcases List.mem_append.mp he with he | he
    · have := ih e he
      exact ⟨List.mem_append_left _ this.1, List.mem_append_left _ this.2.1, this.2.2⟩
    · rw [List.mem_singleton.mp he]
      exact ⟨List.mem_append_left _ hp, List.mem_append_right _ (by simp), fun e => hc (by have e' : p = c := e; rw [← e']; exact hp)⟩
def Least (C : Nat → Nat → Int) (vs : List Nat) (ws : List Int) : Prop := ∀ k w, ws[k]? = some w → ∀ x ∈ vs.take (k + 1), ∀ y ∈ vs.drop (k + 1), w ≤ C x y
def cnt (t : Int) (ws : List Int) (j : Nat) : Nat := (ws.take j).countP fun x => decide (t < x)
theorem cnt_step (t : Int) (ws : List Int) (j : Nat) : cnt t ws (j + 1) ≤ cnt t ws j + 1 := by
  unfold cnt
  rw [List.take_add_one, List.countP_append]
  have : (ws[j]?.toList).length ≤ 1 := by cases ws[j]? <;> simp
  have := Nat.le_trans (List.countP_le_length (p := fun x => decide (t < x)) (l := ws[j]?.toList)) this
  omega
theorem cnt_upto (t : Int) (ws : List Int) : ∀ (j b : Nat), b ≤ cnt t ws j → ∃ i, i ≤ j ∧ cnt t ws i = b
  | 0, b, h => ⟨0, Nat.le_refl _, by
    have : cnt t ws 0 = 0 := by unfold cnt; simp
    omega⟩
  | j + 1, b, h => by
    by_cases c : b ≤ cnt t ws j
    · obtain ⟨i, h1, h2⟩ := cnt_upto t ws j b c
      exact ⟨i, by omega, h2⟩
    · have := cnt_step t ws j
      exact ⟨j + 1, Nat.le_refl _, by omega⟩
theorem cnt_all (t : Int) (ws : List Int) (b : Nat) (h : b ≤ ws.countP (fun x => decide (t < x))) : ∃ j, j ≤ ws.length ∧ cnt t ws j = b := cnt_upto t ws ws.length b (by unfold cnt; rw [List.take_length]; exact h)
theorem cnt_ne {t : Int} {ws : List Int} {i j : Nat} (hij : i ≤ j) (h : cnt t ws i ≠ cnt t ws j) : ∃ k w, i ≤ k ∧ k < j ∧ ws[k]? = some w ∧ t < w := by
  apply Classical.byContradiction
  intro no
  apply h
  unfold cnt
  have e : ws.take j = ws.take i ++ (ws.take j).drop i := by
    have := (List.take_append_drop i (ws.take j)).symm
    rwa [List.take_take, Nat.min_eq_left hij] at this
  rw [e, List.countP_append]
  have : ((ws.take j).drop i).countP (fun x => decide (t < x)) = 0 := List.countP_eq_zero.mpr fun x hx => by
    obtain ⟨k, hk, rfl⟩ := List.getElem_of_mem hx
    rw [List.length_drop, List.length_take] at hk
    simp only [List.getElem_drop, List.getElem_take]
    intro e1
    exact no ⟨i + k, ws[i + k]'(by omega), by omega, by omega, List.getElem?_eq_getElem (by omega), of_decide_eq_true e1⟩
  omega
theorem prim_le' {C : Nat → Nat → Int} {m : Nat} {vs us : List Nat} {ws : List Int} {fs : List (Nat × Nat)} (sym : ∀ x y, x < m → y < m → C x y = C y x) (ndv : vs.Nodup) (le : vs.length = ws.length + 1) (l : Least C vs ws) (pv : vs.Perm (List.range m)) (g' : Gr us fs) (pu : us.Perm (List.range m)) : ws.sum ≤ (wts C fs).sum := by
  have lv : vs.length = m := by rw [pv.length_eq, List.length_range]
  have lu : us.length = m := by rw [pu.length_eq, List.length_range]
  have lf := g'.len
  refine major (m - 1) _ _ (by omega) (by unfold wts; rw [List.length_map]; omega) fun t => ?_
  let β : Nat → Nat := fun v => cnt t ws (vs.idxOf v)
  have apart : ∀ x y, x < m → y < m → β x ≠ β y → t < C x y := fun x y hx hy hne => by
    have ix : vs.idxOf x < vs.length := List.idxOf_lt_length_of_mem (pv.mem_iff.mpr (List.mem_range.mpr hx))
    have iy : vs.idxOf y < vs.length := List.idxOf_lt_length_of_mem (pv.mem_iff.mpr (List.mem_range.mpr hy))
    have key : ∀ x y, vs.idxOf x < vs.length → vs.idxOf y < vs.length → vs.idxOf x ≤ vs.idxOf y → β x ≠ β y → t < C x y := fun x y ix iy hle hne => by
      obtain ⟨k, w, h1, h2, h3, h4⟩ := cnt_ne hle hne
      have := l k w h3 x (by
        rw [List.mem_take_iff_getElem]
        exact ⟨vs.idxOf x, by omega, List.getElem_idxOf ix⟩) y (by
        rw [List.mem_drop_iff_getElem]
        exact ⟨vs.idxOf y - (k + 1), by omega, by
          have : k + 1 + (vs.idxOf y - (k + 1)) = vs.idxOf y := by omega
          simp only [this]
          exact List.getElem_idxOf iy⟩)
      omega
    rcases Nat.le_total (vs.idxOf x) (vs.idxOf y) with h | h
    · exact key x y ix iy h hne
    · rw [sym x y hx hy]
      exact key y x iy ix h (Ne.symm hne)
  let met : List Nat → Nat := fun wq => ((List.range (ws.countP (fun x => decide (t < x)) + 1)).filter fun b => wq.any fun v => decide (β v = b)).length
  have grow : ∀ {wq : List Nat} {hs : List (Nat × Nat)}, Gr wq hs → (∀ v ∈ wq, v < m) → met wq ≤ 1 + (wts C hs).countP (fun x => decide (t < x)) := by
    intro wq hs g
    induction g with
    | one r =>
      intro _
      have : met [r] ≤ 1 := by
        show ((List.range _).filter _).length ≤ 1
        have nd : ((List.range (ws.countP (fun x => decide (t < x)) + 1)).filter fun b => [r].any fun v => decide (β v = b)).Nodup := List.filter_sublist.nodup List.nodup_range
        have sub : ∀ b ∈ ((List.range (ws.countP (fun x => decide (t < x)) + 1)).filter fun b => [r].any fun v => decide (β v = b)), b = β r := fun b hb => by
          have := (List.mem_filter.mp hb).2
          simp at this
          exact this.symm
        generalize ((List.range (ws.countP (fun x => decide (t < x)) + 1)).filter fun b => [r].any fun v => decide (β v = b)) = Z at nd sub
        match Z, nd, sub with
        | [], _, _ => simp
        | [_], _, _ => simp
        | a :: b :: Z, nd, sub =>
          have h1 := sub a (by simp)
          have h2 := sub b (by simp)
          rw [h1, h2] at nd
          simp at nd
      omega
    | @more wq hs p c g hp hc ih =>
      intro hw
      have ih := ih fun v hv => hw v (List.mem_append_left _ hv)
      have e1 : (wts C (hs ++ [(p, c)])).countP (fun x => decide (t < x)) = (wts C hs).countP (fun x => decide (t < x)) + if t < C p c then 1 else 0 := by
        unfold wts
        rw [List.map_append, List.countP_append, List.map_cons, List.map_nil, List.countP_cons, List.countP_nil]
        simp
      rw [e1]
      by_cases cb : ∃ v ∈ wq, β v = β c
      · have e2 : met (wq ++ [c]) = met wq := by
          show ((List.range _).filter _).length = ((List.range _).filter _).length
          congr 1
          refine List.filter_congr fun b _ => ?_
          rw [List.any_append]
          cases h : wq.any fun v => decide (β v = b) with
          | true => rfl
          | false =>
            simp
            intro e
            obtain ⟨v, hv, ev⟩ := cb
            rw [List.any_eq_false] at h
            exact h v hv (decide_eq_true (by rw [ev]; exact e))
        omega
      · have hlt : t < C p c := apart p c (hw p (List.mem_append_left _ hp)) (hw c (List.mem_append_right _ (by simp))) fun e => cb ⟨p, hp, e⟩
        rw [if_pos hlt]
        have e3 : met (wq ++ [c]) ≤ met wq + 1 := by
          show ((List.range _).filter _).length ≤ ((List.range _).filter _).length + 1
          have nd : ∀ Z : List Nat, Z.Nodup → (Z.filter fun b => (wq ++ [c]).any fun v => decide (β v = b)).length ≤ (Z.filter fun b => wq.any fun v => decide (β v = b)).length + if β c ∈ Z then 1 else 0 := by
            intro Z
            induction Z with
            | nil => intro _; simp
            | cons z Z ihZ =>
              intro nz
              have nz' := List.nodup_cons.mp nz
              have ih' := ihZ nz'.2
              by_cases cz : β c = z
              · have hnot : β c ∉ Z := by rw [cz]; exact nz'.1
                rw [if_neg hnot] at ih'
                rw [if_pos (by rw [cz]; simp)]
                rw [List.filter_cons, List.filter_cons]
                split <;> split <;> first | omega | (simp only [List.length_cons]; omega)
              · have e4 : ((wq ++ [c]).any fun v => decide (β v = z)) = wq.any fun v => decide (β v = z) := by
                  rw [List.any_append]
                  simp [cz]
                have e5 : (β c ∈ z :: Z) ↔ β c ∈ Z := by
                  rw [List.mem_cons]
                  exact ⟨fun h => h.resolve_left cz, .inr⟩
                rw [List.filter_cons, List.filter_cons, e4]
                simp only [e5]
                split <;> first | omega | (simp only [List.length_cons]; omega)
          have h2 := nd (List.range (ws.countP (fun x => decide (t < x)) + 1)) List.nodup_range
          split at h2 <;> omega
        omega
  have all : met us = ws.countP (fun x => decide (t < x)) + 1 := by
    show ((List.range _).filter _).length = _
    rw [List.filter_eq_self.mpr, List.length_range]
    intro b hb
    have hb := List.mem_range.mp hb
    obtain ⟨j, hj, ej⟩ := cnt_all t ws b (by omega)
    have hj' : j < vs.length := by
      omega
    rw [List.any_eq_true]
    refine ⟨vs[j], pu.mem_iff.mpr (pv.mem_iff.mp (List.getElem_mem hj')), decide_eq_true ?_⟩
    show cnt t ws (vs.idxOf vs[j]) = b
    rw [ndv.idxOf_getElem]
    exact ej
  have := grow g' fun v hv => List.mem_range.mp (pu.mem_iff.mp hv)
  omega
end K53.Tr
namespace K53.Tr
open PySem L2
section
variable {K : PySem.W.Frag}
def Sy (M : List (List Int)) (n : Nat) : Prop := ∀ i j, i < n → j < n → at2 M i j = at2 M j i
def prN (L : List (Nat × Nat)) : List (List Int) := L.map fun e => [(e.1 : Int), (e.2 : Int)]
theorem prN_at {H : Hp} {xs : List V} {L : List (Nat × Nat)} (h : Rows K H xs (prN L)) {i : Nat} {x : V} (hx : xs[i]? = some x) : ∃ e b, L[i]? = some e ∧ x = .ref b ∧ SqT K H b [natV e.1, natV e.2] := by
  have hi : i < xs.length := (List.getElem?_eq_some_iff.mp hx).1
  have hl : i < L.length := by rw [h.1] at hi; unfold prN at hi; rwa [List.length_map] at hi
  obtain ⟨b, e1, e2⟩ := h.2 i [(L[i].1 : Int), (L[i].2 : Int)] (by unfold prN; rw [List.getElem?_map, List.getElem?_eq_getElem hl]; rfl)
  rw [hx] at e1
  exact ⟨L[i], b, List.getElem?_eq_getElem hl, Option.some.inj e1, e2⟩
theorem prN_len {L : List (Nat × Nat)} : (prN L).length = L.length := by unfold prN; rw [List.length_map]
theorem prN_app {L M : List (Nat × Nat)} : prN (L ++ M) = prN L ++ prN M := by unfold prN; rw [List.map_append]
end
def Ev (T : List (List Int)) (n : Nat) : Prop := ∀ i j, i < n → j < n → at2 T i j = at2 T j i
def evenL (T : List (List Int)) (n : Nat) : List Bool := (List.range n).flatMap fun i => (List.range i).flatMap fun j => [at2 T i j == at2 T j i]
section
variable {K : PySem.W.Frag}
def spTab (K : PySem.W.Frag) (f : List (List Int) → Nat → Bool) : Sp := fun vs H Q _ => ∃ (v : V) (T : List (List Int)) (n : Nat), vs = [v] ∧ Sh K H (tabD T) v ∧ Quad T n ∧ 1 ≤ n ∧ n ≤ 8 ∧ ∀ H', Same H H' → Q (.bl (f T n)) H'
theorem rd_even : ∀ vs H Q E, spTab K (fun T n => (evenL T n).all id) vs H Q E → T_is_even K { nx := fun _ H' => Q .non H', rt := Q } (start ["table", "many"] vs) H := by
  intro vs H Q E h
  obtain ⟨v, T, n, rfl, hS, hq, h1, hn, q⟩ := h
  obtain ⟨a, rs, rfl, ha, hl, hrow⟩ := id hS.tab
  have hl : rs.length = n := hl.trans hq.len
  refine ⟨_, rfl, a, rs, rfl, .inr ha, ?_⟩
  rw [hl]
  refine ⟨_, rfl, (n : Int), rfl, by omega, by omega, fun acc hacc => ?_⟩
  rw [Int.toNat_natCast]
  refine comp_emitsD [0, 1] ((evenL T n).map V.bl) hacc ?_ ?_ fun σ' H' sm hl' => ⟨acc, evenL T n, rfl, .inl (.of hl'), q H' sm⟩
  · rw [List.length_map]
    have := len_flatMap_le (fun i => (List.range i).flatMap fun j => [at2 T i j == at2 T j i]) 8 n fun i hi => by
      have := len_flatMap_le (fun j => [at2 T i j == at2 T j i]) 1 i fun _ _ => Nat.le_refl _
      omega
    unfold evenL
    omega
  · refine Emits.cast (L := (List.range n).flatMap fun i => (List.range i).flatMap fun j => [V.bl (at2 T i j == at2 T j i)]) ?_ (by unfold evenL; simp only [map_flatMap', List.map_cons, List.map_nil])
    refine loop_range (by decide) (by show 0 < 3; decide) fun i σ1 H1 hi l1 ag1 s1 sx1 _ => ?_
    rw [Int.zero_add] at s1
    refine Emits.mono (vars := [1]) (emits_range1 (by decide) (by rw [l1]; show 1 < 3; decide) (by omega) (fun Q hQ => ⟨_, s1, hQ H1 (Same.refl _)⟩) fun j σ2 H2 hj l2 ag2 s2 sx2 _ => ?_) (by simp)
    have t2 : σ2[2]? = some (some (.ref a)) := (ag2 2 (by decide)).trans ((ag1 2 (by decide)).trans rfl)
    have u1 : σ2[0]? = some (some (.int (i : Int))) := (ag2 0 (by decide)).trans s1
    have S2 := hS.same (same_of_x hacc (sx1.trans sx2))
    refine emits_one fun Q hQ => ?_
    refine tab_at t2 u1 s2 S2 hq (by omega) (by omega) (tab_at t2 s2 u1 S2 hq (by omega) (by omega) ⟨.int _, .int _, Nat.zero_le _, rfl, rfl, ?_⟩)
    unfold eqD
    exact hQ H2 (Same.refl _)
theorem even_all {T : List (List Int)} {n : Nat} (h : Ev T n) : (evenL T n).all id = true := by
  unfold evenL
  rw [all_flatMap]
  refine List.all_eq_true.mpr fun i hi => ?_
  rw [all_flatMap]
  refine List.all_eq_true.mpr fun j hj => ?_
  have hi := List.mem_range.mp hi
  have hj := List.mem_range.mp hj
  rw [h i j hi (by omega)]
  simp
end
section
variable {K : PySem.W.Frag}
abbrev spEv (K : PySem.W.Frag) : Sp := spTab K (fun T n => (evenL T n).all id)
def sumT (T : List (List Int)) (L : List (Nat × Nat)) : Int := (L.map fun e => at2 T e.1 e.2).sum
def spTS (K : PySem.W.Frag) : Sp := fun vs H Q _ => ∃ (v : V) (a : Addr) (T : List (List Int)) (n : Nat) (ys : List V) (L : List (Nat × Nat)), vs = [v, .ref a] ∧ Sh K H (tabD T) v ∧ Quad T n ∧ H a = some (.lst ys) ∧ Rows K H ys (prN L) ∧ (∀ e ∈ L, e.1 < n ∧ e.2 < n) ∧ L.length ≤ 64 ∧ ∀ H', Same H H' → Q (.int (sumT T L)) H'
theorem rd_ts : ∀ vs H Q E, spTS K vs H Q E → T_tree_sum K { nx := fun _ H' => Q .non H', rt := Q } (start ["table", "ties"] vs) H := by
  intro vs H Q E h
  obtain ⟨v, a, T, n, ys, L, rfl, hS, qT, ha, hr, hL, z, q⟩ := h
  have yl : ys.length = L.length := by rw [hr.1, prN_len]
  refine ⟨_, rfl, a, rfl, .inl ⟨⟨_, .of ha⟩, fun A hA => ?_⟩⟩
  refine for_list (K := K) (a := a) (xs := ys) (fun i σ' H' => i ≤ ys.length ∧ Same H H' ∧ (∃ x0 x1, σ' = [x0, x1, some v]) ∧ H' A = some (.lst (((L.take i).map fun e => at2 T e.1 e.2).map V.int))) ⟨Nat.zero_le _, same_new hA _, ⟨_, _, rfl⟩, upd_same⟩ (fun i σ1 H1 _ ⟨_, s1, _⟩ => .of (s1 _ _ ha)) (fun i x σ1 H1 hx ⟨_, s1, ⟨x0, x1, es⟩, hA1⟩ => ?_) fun σ1 H1 ⟨_, s1, _, hA1⟩ => ?_
  · subst es
    have hi : i < ys.length := (List.getElem?_eq_some_iff.mp hx).1
    obtain ⟨e, b, he, rfl, hb⟩ := prN_at (hr.same s1) hx
    obtain ⟨g1, g2⟩ := hL e (List.mem_of_getElem? he)
    refine ⟨b, _, rfl, hb, rfl, natV e.1, [natV e.2], rfl, natV e.2, [], rfl, rfl, ?_⟩
    refine tab_at (t := 2) (si := 0) (sj := 1) rfl rfl rfl (hS.same s1) qT g1 g2 ⟨_, hA1, ?_, hi, samePut hA s1, ⟨_, _, rfl⟩, ?_⟩
    · rw [List.length_map, List.length_map, List.length_take]
      exact Nat.lt_of_le_of_lt (show _ ≤ 64 by omega) (by decide)
    · rw [upd_same, List.take_add_one, he, List.map_append, List.map_append]
      rfl
  · rw [yl, List.take_length] at hA1
    exact ⟨A, _, rfl, .inl (.of hA1), q H1 s1⟩
theorem emr_lst {vars : List Nat} {tb : TS} {acc a : Addr} {σ : St} {H : Hp} {xs : List V} {j : Nat} {L : Nat → List (List Int)} (hj : j ∈ vars) (hjl : j < σ.length) (hs : ∀ H', SameX acc H H' → SqL K H' a xs)
    (h : ∀ i x σ' H', xs[i]? = some x → σ'.length = σ.length → Agree vars σ σ' → σ'[j]? = some (some x) → SameX acc H H' → EmR K vars tb acc σ' H' (L i)) :
    EmR K vars (tLoop (Itl K a) (gName j) tb) acc σ H ((List.range xs.length).flatMap L) := by
  intro D pre R ha hR hz hd
  refine for_list (K := K) (a := a) (xs := xs) (g := gName j) (D := D) (fun i σ' H' => i ≤ xs.length ∧ σ'.length = σ.length ∧ Agree vars σ σ' ∧ SameX acc H H' ∧ ∃ pre', H' acc = some (.lst pre') ∧ Rows K H' pre' (R ++ (List.range i).flatMap L)) ⟨Nat.zero_le _, rfl, Agree.refl _ _, SameX.refl _ _, pre, ha, by simpa using hR⟩ (fun i σ1 H1 _ ⟨_, _, _, sx1, _⟩ => hs H1 sx1) (fun i x σ1 H1 hx ⟨_, hl1, ag1, sx1, pre1, h1, r1⟩ => ?_) fun σ1 H1 ⟨_, hl1, ag1, sx1, pre1, h1, r1⟩ => hd σ1 H1 pre1 hl1 ag1 sx1 h1 r1
  have hi : i < xs.length := (List.getElem?_eq_some_iff.mp hx).1
  have hle := flatMap_range_le L (show i + 1 ≤ xs.length from hi)
  rw [flatMap_range_succ, List.length_append] at hle
  refine h i x (σ1.set j (some x)) H1 hx (by rw [List.length_set]; exact hl1) (ag1.trans (Agree.set hj _)) (set_at (by omega)) sx1 _ pre1 _ h1 r1 (by rw [List.length_append]; omega) fun σ' H' pre' hl ag sx h2 r2 => ⟨hi, hl.trans ((List.length_set ..).trans hl1), (ag1.trans (Agree.set hj _)).trans ag, sx1.trans sx, pre', h2, by rw [flatMap_range_succ, ← List.append_assoc]; exact r2⟩
theorem EmR.mono {vars vars' : List Nat} {tb : TS} {acc : Addr} {σ : St} {H : Hp} {L : List (List Int)} (h : EmR K vars tb acc σ H L) (hs : ∀ k ∈ vars, k ∈ vars') : EmR K vars' tb acc σ H L :=
  fun D pre R ha hR hz hd => h D pre R ha hR hz fun σ' H' pre' hl ag sx h1 h2 => hd σ' H' pre' hl (fun k hk => ag k fun z => hk (hs k z)) sx h1 h2
def mm (e : Nat × Nat) : Nat × Nat := (min e.1 e.2, max e.1 e.2)
theorem minN {a b : Nat} : (if (b : Int) < (a : Int) then (b : Int) else (a : Int)) = ((min a b : Nat) : Int) := by split <;> omega
theorem maxN {a b : Nat} : (if (b : Int) > (a : Int) then (b : Int) else (a : Int)) = ((max a b : Nat) : Int) := by split <;> omega
theorem sum_mm {T : List (List Int)} {m : Nat} (s : Sy T m) : ∀ {es : List (Nat × Nat)}, (∀ e ∈ es, e.1 < m ∧ e.2 < m) → sumT T (es.map mm) = (wts (at2 T) es).sum
  | [], _ => rfl
  | e :: es, h => by
    have ih := sum_mm s (es := es) fun x hx => h x (List.mem_cons_of_mem _ hx)
    have he := h e (by simp)
    have e1 : at2 T (mm e).1 (mm e).2 = at2 T e.1 e.2 := by
      unfold mm
      rcases Nat.le_total e.1 e.2 with c | c
      · show at2 T (min e.1 e.2) (max e.1 e.2) = _
        rw [Nat.min_eq_left c, Nat.max_eq_right c]
      · show at2 T (min e.1 e.2) (max e.1 e.2) = _
        rw [Nat.min_eq_right c, Nat.max_eq_left c]
        exact s _ _ he.2 he.1
    unfold sumT at ih ⊢
    rw [List.map_cons, List.map_cons, List.sum_cons, ih, e1]
    rfl
theorem lex3 {a b : Int} {r q : List Int} (h : lexL (a :: r) (b :: q) = false) : b ≤ a := by
  rw [lexL] at h
  by_cases e : a = b
  · omega
  · rw [if_neg e] at h
    have := of_decide_eq_false h
    omega
def spTree (K : PySem.W.Frag) : Sp := fun vs H Q _ => ∃ (v : V) (T : List (List Int)) (m : Nat), vs = [v] ∧ Sh K H (tabD T) v ∧ Quad T m ∧ Sy T m ∧ 1 ≤ m ∧ m ≤ 8 ∧ ∀ p tl us es ys L H', Same H H' → H' p = some (.tup [.int (wts (at2 T) es).sum, .ref tl]) → Gr us es → Least (at2 T) us (wts (at2 T) es) → us.Perm (List.range m) → H' tl = some (.lst ys) → Rows K H' ys (prN L) → (∀ e ∈ L, e.1 < m ∧ e.2 < m) → L.length ≤ 8 → Q (.ref p) H'
theorem prN_ne {L : List (Nat × Nat)} : ∀ q ∈ prN L, q ≠ [] := fun q hq => by
  obtain ⟨e, _, rfl⟩ := List.mem_map.mp hq
  simp
theorem perm_prN {R : List (List Int)} {M : List (Nat × Nat)} (h : R.Perm (prN M)) : ∃ M', R = prN M' ∧ M'.Perm M := by
  let un : List Int → Nat × Nat := fun r => ((r.getD 0 0).toNat, (r.getD 1 0).toNat)
  have hu : ∀ e : Nat × Nat, un [(e.1 : Int), (e.2 : Int)] = e := fun e => by
    show (((e.1 : Int)).toNat, ((e.2 : Int)).toNat) = e
    simp
  refine ⟨R.map un, ?_, ?_⟩
  · unfold prN
    rw [List.map_map]
    symm
    have : ∀ r ∈ R, ((fun e : Nat × Nat => [(e.1 : Int), (e.2 : Int)]) ∘ un) r = r := fun r hr => by
      obtain ⟨e, _, rfl⟩ := List.mem_map.mp (h.mem_iff.mp hr)
      show [((un [(e.1 : Int), (e.2 : Int)]).1 : Int), ((un [(e.1 : Int), (e.2 : Int)]).2 : Int)] = _
      rw [hu]
    rw [List.map_congr_left this, List.map_id']
  · have := h.map un
    unfold prN at this
    rw [List.map_map] at this
    have e : M.map (un ∘ fun e : Nat × Nat => [(e.1 : Int), (e.2 : Int)]) = M := by
      have : ∀ e ∈ M, (un ∘ fun e : Nat × Nat => [(e.1 : Int), (e.2 : Int)]) e = e := fun e _ => hu e
      rw [List.map_congr_left this, List.map_id']
    rw [e] at this
    exact this
theorem rd_tree : ∀ vs H Q E, spTree K vs H Q E → T_least_tree K (spEv K) (spTS K) { nx := fun _ H' => Q .non H', rt := Q } (start ["table", "ties", "inside", "outside", "way", "one", "other"] vs) H := by
  intro vs H Q E h
  obtain ⟨v, T, m, rfl, hS, qT, sy, m1, m8, q⟩ := h
  refine ⟨_, rfl, v, T, m, rfl, hS, qT, m1, m8, fun H0 s0 => ⟨_, rfl, ?_⟩⟩
  refine iteF' (by show (!(evenL T m).all id) = false; rw [even_all sy]; rfl) ?_
  obtain ⟨a, rs, rfl, ha, hrl, hrow⟩ := id hS.tab
  have hrl : rs.length = m := hrl.trans qT.len
  refine ⟨show 0 ≤ sizeLine by decide, fun F1 hF1 => ⟨show 1 ≤ sizeLine by decide, fun F2 hF2 => ?_⟩⟩
  have v1 := same_new hF1 (.lst [])
  have v2 := same_new hF2 (.lst [.int 0])
  refine ⟨_, rfl, a, rs, rfl, .inr (((s0.trans v1).trans v2).tup ha), .inr ⟨_, _, rfl, fun pr hpr => ?_⟩⟩
  rw [hrl]
  have v3 := same_new hpr (.rng 1 (m : Int))
  refine .inr ⟨pr, 1, _, rfl, upd_same, ⟨by omega, by omega, by omega, by omega, by omega⟩, fun F3 hF3 => ?_⟩
  have er : (rngI 1 (m : Int)).map V.int = ((List.range (m - 1)).map (· + 1)).map natV := by
    unfold rngI
    rw [List.map_map, List.map_map, show ((m : Int) - 1).toNat = m - 1 by omega]
    refine List.map_congr_left fun i _ => ?_
    show V.int (1 + (i : Int)) = V.int ((i + 1 : Nat) : Int)
    congr 1
    omega
  rw [er]
  have v4 := same_new hF3 (.lst (((List.range (m - 1)).map (· + 1)).map natV))
  have hF1' := v4 _ _ (v3 _ _ (v2 _ _ (show upd H0 F1 (.lst []) F1 = some (.lst []) from upd_same)))
  have hF2' := v4 _ _ (v3 _ _ (show upd (upd H0 F1 (.lst [])) F2 (.lst [.int 0]) F2 = some (.lst [.int 0]) from upd_same))
  have hF3' : upd (upd (upd (upd H0 F1 (.lst [])) F2 (.lst [.int 0])) pr (.rng 1 (m : Int))) F3 (.lst (((List.range (m - 1)).map (· + 1)).map natV)) F3 = some (.lst (((List.range (m - 1)).map (· + 1)).map natV)) := upd_same
  have n12 : F1 ≠ F2 := ne_of_none (show upd H0 F1 (.lst []) F1 = some (.lst []) from upd_same) hF2
  have n13 : F1 ≠ F3 := ne_of_none (v3 _ _ (v2 _ _ (show upd H0 F1 (.lst []) F1 = some (.lst []) from upd_same))) hF3
  have n23 : F2 ≠ F3 := ne_of_none (v3 _ _ (show upd (upd H0 F1 (.lst [])) F2 (.lst [.int 0]) F2 = some (.lst [.int 0]) from upd_same)) hF3
  have h1H : H F1 = none := s0.free hF1
  have h2H : H F2 = none := (s0.trans v1).free hF2
  have h3H : H F3 = none := (((s0.trans v1).trans v2).trans v3).free hF3
  have s4 := (((s0.trans v1).trans v2).trans v3).trans v4
  generalize upd (upd (upd (upd H0 F1 (.lst [])) F2 (.lst [.int 0])) pr (.rng 1 (m : Int))) F3 (.lst (((List.range (m - 1)).map (· + 1)).map natV)) = G at *
  refine ⟨fun k σ' H' => ∃ (us os : List Nat) (es : List (Nat × Nat)) (ys : List V) (x4 x5 x6 : Option V), σ' = [some (.ref a), some (.ref F1), some (.ref F2), some (.ref F3), x4, x5, x6] ∧ Same H H' ∧ H' F1 = some (.lst ys) ∧ Rows K H' ys (prN (es.map mm)) ∧ H' F2 = some (.lst (us.map natV)) ∧ H' F3 = some (.lst (os.map natV)) ∧ Gr us es ∧ (us ++ os).Perm (List.range m) ∧ (∀ k w, (wts (at2 T) es)[k]? = some w → ∀ x ∈ us.take (k + 1), ∀ y, y ∈ us.drop (k + 1) ∨ y ∈ os → w ≤ at2 T x y) ∧ os.length = k,
    ⟨m - 1, [0], (List.range (m - 1)).map (· + 1), [], [], none, none, none, rfl, s4, hF1', Rows.nil, hF2', hF3', .one 0, ?_, (fun k w z => by cases z), by simp⟩, ?_⟩
  · obtain ⟨j, rfl⟩ : ∃ j, m = j + 1 := ⟨m - 1, by omega⟩
    rw [List.range_succ_eq_map]
    exact List.Perm.refl _
  rintro k σ' H1 ⟨us, os, es, ys, x4, x5, x6, rfl, s1, g1, g2, g3, g4, gr, pm, lw, rfl⟩
  have ltm : ∀ x, x ∈ us ∨ x ∈ os → x < m := fun x hx => List.mem_range.mp (pm.mem_iff.mp (List.mem_append.mpr hx))
  have lel := gr.len
  have ltot : us.length + os.length = m := by rw [← List.length_append, pm.length_eq, List.length_range]
  have nd := pm.nodup_iff.mpr List.nodup_range
  rw [List.nodup_append] at nd
  have emem : ∀ e ∈ es, e.1 < m ∧ e.2 < m := fun e he => ⟨ltm _ (.inl (gr.mem e he).1), ltm _ (.inl (gr.mem e he).2.1)⟩
  refine ⟨_, rfl, !(os.map natV).isEmpty, ?_, ?_⟩
  · exact .inl ⟨_, .of g4, rfl⟩
  cases os with
  | nil =>
    refine iteF' rfl ?_
    rw [List.append_nil] at pm
    have mmlt : ∀ e ∈ es.map mm, e.1 < m ∧ e.2 < m := fun e he => by
      obtain ⟨f, hf, rfl⟩ := List.mem_map.mp he
      have := emem f hf
      exact ⟨by show min f.1 f.2 < m; omega, by show max f.1 f.2 < m; omega⟩
    refine ⟨_, rfl, _, rfl, .ref a, F1, T, m, ys, es.map mm, rfl, hS.same s1, qT, g1, g2, mmlt, by rw [List.length_map]; omega, fun H2 s2 => ?_⟩
    rw [sum_mm sy emem]
    refine ⟨_, rfl, .inr ⟨F1, ys, prN (es.map mm), rfl, .inl (.of (s2 _ _ g1)), g2.same s2, prN_ne, by rw [prN_len, List.length_map]; omega, fun zs R' pR srt _ hr' tl htl => ?_⟩⟩
    obtain ⟨L', rfl, pL⟩ := perm_prN pR
    have s3 := same_new htl (.lst zs)
    refine ⟨show 2 ≤ sizeLine by decide, fun p hp => ?_⟩
    have s4 := same_new hp (.tup [V.int (wts (at2 T) es).sum, .ref tl])
    refine q p tl us es zs L' _ (((s1.trans s2).trans s3).trans s4) upd_same gr (fun k w hk x hx y hy => lw k w hk x hx y (.inl hy)) pm (s4 _ _ upd_same) ((hr'.same s3).same s4) (fun e he => mmlt e (pL.mem_iff.mp he)) (by rw [pL.length_eq, List.length_map]; omega)
  | cons o0 os' =>
    refine iteT' rfl ?_
    have hus : us ≠ [] := fun e => by rw [e] at lel; simp at lel
    generalize hos : o0 :: os' = os at *
    have hone : os ≠ [] := by rw [← hos]; simp
    refine ⟨fun σ2 H2 => ∃ k', k' < os.length ∧ ∃ (us os : List Nat) (es : List (Nat × Nat)) (ys : List V) (x4 x5 x6 : Option V), σ2 = [some (.ref a), some (.ref F1), some (.ref F2), some (.ref F3), x4, x5, x6] ∧ Same H H2 ∧ H2 F1 = some (.lst ys) ∧ Rows K H2 ys (prN (es.map mm)) ∧ H2 F2 = some (.lst (us.map natV)) ∧ H2 F3 = some (.lst (os.map natV)) ∧ Gr us es ∧ (us ++ os).Perm (List.range m) ∧ (∀ k w, (wts (at2 T) es)[k]? = some w → ∀ x ∈ us.take (k + 1), ∀ y, y ∈ us.drop (k + 1) ∨ y ∈ os → w ≤ at2 T x y) ∧ os.length = k', fun σ2 H2 h => h, ?_⟩
    refine ⟨_, rfl, F2, rfl, .inl ⟨⟨_, .of g3⟩, fun A hA => ?_⟩⟩
    have key : EmR K [0, 1] (tLoop (Itl K F2) (gName 0) (tFor (iSeq K (tVar 2)) (gName 1) (tTests [] (tEmit (tTup (tCons (tOp (rIx2 K) (tOp (rIx2 K) (tVar 3) (tVar 0)) (tVar 1)) (tCons (tVar 0) (tCons (tVar 1) tNil)))) A)))) A [none, none, some (.ref F3), some (.ref a)] (upd H1 A (.lst [])) ((List.range (us.map natV).length).flatMap fun i => (List.range (os.map natV).length).flatMap fun j => [[at2 T (us.getD i 0) (os.getD j 0), ((us.getD i 0 : Nat) : Int), ((os.getD j 0 : Nat) : Int)]]) := by
      refine emr_lst (a := F2) (xs := us.map natV) (by decide) (by show 0 < 4; decide) (fun H' sx => .of (same_of_x hA sx _ _ g3)) fun i x σ2 H2 hx l2 ag2 e0 sx2 => ?_
      have hi : i < us.length := by have := (List.getElem?_eq_some_iff.mp hx).1; rwa [List.length_map] at this
      have e0 : σ2[0]? = some (some (natV (us.getD i 0))) := by
        rw [getV hi] at hx
        rw [e0, Option.some.inj hx]
      have t2 : σ2[2]? = some (some (.ref F3)) := (ag2 2 (by decide)).trans rfl
      refine EmR.mono (vars := [1]) (fun D pre R ha' hR hz hd => ⟨_, t2, F3, rfl, .inl ⟨⟨_, .of (same_of_x hA sx2 _ _ g4)⟩, emr_lst (K := K) (vars := [1]) (a := F3) (xs := os.map natV) (by decide) (by rw [l2]; show 1 < 4; decide) (fun H' sx => .of (same_of_x hA (sx2.trans sx) _ _ g4)) (fun j y σ3 H3 hy l3 ag3 e1 sx3 => ?_) D pre R ha' hR hz hd⟩⟩) (by decide)
      have hj : j < os.length := by have := (List.getElem?_eq_some_iff.mp hy).1; rwa [List.length_map] at this
      have e1 : σ3[1]? = some (some (natV (os.getD j 0))) := by
        rw [getV hj] at hy
        rw [e1, Option.some.inj hy]
      have t0 := (ag3 0 (by decide)).trans e0
      have t3 : σ3[3]? = some (some (.ref a)) := (ag3 3 (by decide)).trans ((ag2 3 (by decide)).trans rfl)
      refine emr_tup (by show 3 ≤ 100; decide) fun R hR => tab_at t3 t0 e1 (hS.same (s1.trans (same_of_x hA (sx2.trans sx3)))) qT (ltm _ (.inl ?_)) (ltm _ (.inr ?_)) ⟨_, t0, _, e1, hR⟩
      · rw [List.getD_eq_getElem?_getD, List.getElem?_eq_getElem hi]; exact List.getElem_mem hi
      · rw [List.getD_eq_getElem?_getD, List.getElem?_eq_getElem hj]; exact List.getElem_mem hj
    have memR : ∀ row, row ∈ ((List.range (us.map natV).length).flatMap fun i => (List.range (os.map natV).length).flatMap fun j => [[at2 T (us.getD i 0) (os.getD j 0), ((us.getD i 0 : Nat) : Int), ((os.getD j 0 : Nat) : Int)]]) ↔ ∃ x ∈ us, ∃ y ∈ os, row = [at2 T x y, (x : Int), (y : Int)] := fun row => by
      rw [List.length_map, List.length_map, List.mem_flatMap]
      constructor
      · rintro ⟨i, hi, h⟩
        obtain ⟨j, hj, h⟩ := List.mem_flatMap.mp h
        have hi := List.mem_range.mp hi
        have hj := List.mem_range.mp hj
        rw [List.mem_singleton.mp h, List.getD_eq_getElem?_getD, List.getElem?_eq_getElem hi, List.getD_eq_getElem?_getD, List.getElem?_eq_getElem hj]
        exact ⟨_, List.getElem_mem hi, _, List.getElem_mem hj, rfl⟩
      · rintro ⟨x, hx, y, hy, rfl⟩
        obtain ⟨i, hi, rfl⟩ := List.getElem_of_mem hx
        obtain ⟨j, hj, rfl⟩ := List.getElem_of_mem hy
        refine ⟨i, List.mem_range.mpr hi, List.mem_flatMap.mpr ⟨j, List.mem_range.mpr hj, ?_⟩⟩
        rw [List.getD_eq_getElem?_getD, List.getElem?_eq_getElem hi, List.getD_eq_getElem?_getD, List.getElem?_eq_getElem hj]
        exact List.mem_singleton.mpr rfl
    refine comp_emr (K := K) [0, 1] _ hA ?_ key fun σ2 H2 pre s2 hA2 r2 => ?_
    · have := len_flatMap_le (fun i => (List.range (os.map natV).length).flatMap fun j => [[at2 T (us.getD i 0) (os.getD j 0), ((us.getD i 0 : Nat) : Int), ((os.getD j 0 : Nat) : Int)]]) 8 (us.map natV).length fun i _ => by
        have := len_flatMap_le (fun j => [[at2 T (us.getD i 0) (os.getD j 0), ((us.getD i 0 : Nat) : Int), ((os.getD j 0 : Nat) : Int)]]) 1 (os.map natV).length fun _ _ => Nat.le_refl _
        rw [List.length_map] at this
        rw [List.length_map]
        omega
      simp only [List.length_map] at this ⊢
      omega
    refine .inr ⟨A, pre, _, rfl, .inl (.of hA2), r2, ?_, fun i b row hb hrow hsq hmin => ?_⟩
    · intro e
      obtain ⟨x, ux, hx⟩ := List.exists_cons_of_ne_nil hus
      have := (memR [at2 T x o0, (x : Int), (o0 : Int)]).mpr ⟨x, by rw [hx]; simp, o0, by rw [← hos]; simp, rfl⟩
      rw [e] at this
      cases this
    obtain ⟨x, hx, y, hy, rfl⟩ := (memR row).mp (List.mem_of_getElem? hrow)
    have least : ∀ x' ∈ us, ∀ y' ∈ os, at2 T x y ≤ at2 T x' y' := fun x' hx' y' hy' => lex3 (hmin _ ((memR _).mpr ⟨x', hx', y', hy', rfl⟩))
    refine ⟨b, _, rfl, hsq, rfl, .int (at2 T x y), [natV x, natV y], rfl, natV x, [natV y], rfl, natV y, [], rfl, rfl, ?_⟩
    have s12 := s1.trans s2
    have g1' := s2 _ _ g1
    have g3' := s2 _ _ g3
    have g4' := s2 _ _ g4
    refine ⟨_, rfl, .inl ⟨rfl, _, .of g1'⟩, _, rfl, _, rfl, _, _, rfl, ?_⟩
    rw [minN]
    refine ⟨_, rfl, _, rfl, _, _, rfl, ?_⟩
    rw [maxN]
    refine ⟨show 2 ≤ sizeLine by decide, fun u hu => ?_⟩
    have mu := same_new hu (.tup [V.int ((min x y : Nat) : Int), V.int ((max x y : Nat) : Int)])
    have yl : ys.length = es.length := by rw [g2.1, prN_len, List.length_map]
    refine ⟨F1, ys, _, rfl, rfl, mu _ _ g1', Nat.lt_of_le_of_lt (show ys.length ≤ 9 by omega) (by decide), ?_⟩
    have r3 : Rows K (upd (upd H2 u (.tup [V.int ((min x y : Nat) : Int), V.int ((max x y : Nat) : Int)])) F1 (.lst (ys ++ [.ref u]))) (ys ++ [.ref u]) (prN ((es ++ [(x, y)]).map mm)) := by
      rw [List.map_append, prN_app]
      exact Rows.put (Rows.snoc ((g2.same s2).same mu) (.of upd_same)) (mu _ _ g1')
    have g1'' : (upd (upd H2 u (.tup [V.int ((min x y : Nat) : Int), V.int ((max x y : Nat) : Int)])) F1 (.lst (ys ++ [.ref u]))) F1 = some (.lst (ys ++ [.ref u])) := upd_same
    have g3'' : (upd (upd H2 u (.tup [V.int ((min x y : Nat) : Int), V.int ((max x y : Nat) : Int)])) F1 (.lst (ys ++ [.ref u]))) F2 = some (.lst (us.map natV)) := by rw [upd_ne (Ne.symm n12)]; exact mu _ _ g3'
    have g4'' : (upd (upd H2 u (.tup [V.int ((min x y : Nat) : Int), V.int ((max x y : Nat) : Int)])) F1 (.lst (ys ++ [.ref u]))) F3 = some (.lst (os.map natV)) := by rw [upd_ne (Ne.symm n13)]; exact mu _ _ g4'
    have s3 : Same H (upd (upd H2 u (.tup [V.int ((min x y : Nat) : Int), V.int ((max x y : Nat) : Int)])) F1 (.lst (ys ++ [.ref u]))) := samePut h1H (s12.trans mu)
    generalize upd (upd H2 u (.tup [V.int ((min x y : Nat) : Int), V.int ((max x y : Nat) : Int)])) F1 (.lst (ys ++ [.ref u])) = G3 at *
    refine ⟨_, rfl, .inl ⟨rfl, _, .of g3''⟩, _, rfl, F2, _, _, rfl, rfl, g3'', Nat.lt_of_le_of_lt (show (us.map natV).length ≤ 9 by rw [List.length_map]; omega) (by decide), ?_⟩
    have r4 : Rows K (upd G3 F2 (.lst (us.map natV ++ [natV y]))) (ys ++ [.ref u]) (prN ((es ++ [(x, y)]).map mm)) := Rows.put r3 g3''
    have k1 : (upd G3 F2 (.lst (us.map natV ++ [natV y]))) F1 = some (.lst (ys ++ [.ref u])) := by rw [upd_ne n12]; exact g1''
    have k2 : (upd G3 F2 (.lst (us.map natV ++ [natV y]))) F2 = some (.lst ((us ++ [y]).map natV)) := by rw [upd_same, List.map_append]; rfl
    have k3 : (upd G3 F2 (.lst (us.map natV ++ [natV y]))) F3 = some (.lst (os.map natV)) := by rw [upd_ne (Ne.symm n23)]; exact g4''
    have s5 : Same H (upd G3 F2 (.lst (us.map natV ++ [natV y]))) := samePut h2H s3
    generalize upd G3 F2 (.lst (us.map natV ++ [natV y])) = G4 at *
    obtain ⟨j, hj, ej⟩ := List.getElem_of_mem hy
    have ndo := nd.2.1
    refine ⟨_, rfl, .inl ⟨rfl, _, .of k3⟩, _, rfl, F3, os.map (fun p : Nat => (p : Int)), (y : Int), j, rfl, rfl, by rw [k3, natV_map], by rw [List.getElem?_map, List.getElem?_eq_getElem hj, ej]; rfl, fun r hr e => ?_, ?_⟩
    · rw [List.getElem?_map, List.getElem?_eq_getElem (by omega)] at e
      have e' : os[r]'(by omega) = y := by
        have h2 : ((os[r]'(by omega) : Nat) : Int) = (y : Int) := Option.some.inj e
        omega
      rw [← ej] at e'
      exact List.pairwise_iff_getElem.mp (List.nodup_iff_pairwise_ne.mp ndo) r j (by omega) hj hr e'
    rw [map_erase, ← natV_map]
    have hyn : y ∉ us := fun h => nd.2.2 _ h _ hy rfl
    have lwl : (wts (at2 T) es).length = es.length := by unfold wts; rw [List.length_map]
    have pmE : ((us ++ [y]) ++ os.eraseIdx j).Perm (us ++ os) := by
      have := perm_erase (fs := us) hj
      rw [ej] at this
      exact this
    refine ⟨os.length - 1, by omega, us ++ [y], os.eraseIdx j, es ++ [(x, y)], ys ++ [.ref u], _, _, _, rfl, samePut h3H s5, by rw [upd_ne n13]; exact k1, Rows.put r4 k3, by rw [upd_ne n23]; exact k2, upd_same, .more gr hx hyn, pmE.trans pm, fun k w hk x' hx' y' hy' => ?_, by rw [List.length_eraseIdx_of_lt hj]⟩
    unfold wts at hk
    rw [List.map_append] at hk
    have ysub : ∀ z, z ∈ os.eraseIdx j → z ∈ os := fun z hz => List.mem_of_mem_eraseIdx hz
    by_cases ck : k < es.length
    · rw [List.getElem?_append_left (by rw [List.length_map]; exact ck)] at hk
      rw [List.take_append_of_le_length (by omega)] at hx'
      refine lw k w hk x' hx' y' ?_
      rw [List.drop_append_of_le_length (by omega)] at hy'
      rcases hy' with h | h
      · rcases List.mem_append.mp h with h | h
        · exact .inl h
        · rw [List.mem_singleton.mp h]; exact .inr hy
      · exact .inr (ysub y' h)
    · have ek : k = es.length := by
        have := (List.getElem?_eq_some_iff.mp hk).1
        rw [List.length_append, List.length_map, List.length_map] at this
        simp at this
        omega
      subst ek
      rw [List.getElem?_append_right (by rw [List.length_map]; exact Nat.le_refl _), List.length_map, Nat.sub_self] at hk
      obtain rfl : at2 T x y = w := by simpa using hk
      rw [List.take_append_of_le_length (by omega), List.take_of_length_le (by omega)] at hx'
      refine least x' hx' y' ?_
      rcases hy' with h | h
      · rw [List.drop_append_of_le_length (by omega), List.drop_of_length_le (by omega), List.nil_append] at h
        rw [List.mem_singleton.mp h]; exact hy
      · exact ysub y' h
end
end K53.Tr
namespace K53
open PySem L2
def strL (T : List (List Int)) (n : Nat) : List Bool := (List.range n).flatMap fun i => (List.range n).flatMap fun j => (List.range n).flatMap fun k => [decide (at2 T i k ≤ at2 T i j + at2 T j k)]
def spTab (K : PySem.W.Frag) (f : List (List Int) → Nat → Bool) : Sp := fun vs H Q _ => ∃ (v : V) (T : List (List Int)) (n : Nat), vs = [v] ∧ Sh K H (tabD T) v ∧ Quad T n ∧ 1 ≤ n ∧ n ≤ 8 ∧ ∀ H', Same H H' → Q (.bl (f T n)) H'
section
variable {K : PySem.W.Frag}
theorem rd_str : ∀ vs H Q E, spTab K (fun T n => (strL T n).all id) vs H Q E → T_is_straight K { nx := fun _ H' => Q .non H', rt := Q } (start ["table", "many"] vs) H := by
  intro vs H Q E h
  obtain ⟨v, T, n, rfl, hS, hq, h1, hn, q⟩ := h
  obtain ⟨a, rs, rfl, ha, hl, hrow⟩ := id hS.tab
  have hl : rs.length = n := hl.trans hq.len
  refine ⟨_, rfl, a, rs, rfl, .inr ha, ?_⟩
  rw [hl]
  refine ⟨_, rfl, (n : Int), rfl, by omega, by omega, fun acc hacc => ?_⟩
  rw [Int.toNat_natCast]
  refine comp_emitsD [0, 1, 2] ((strL T n).map V.bl) hacc ?_ ?_ fun σ' H' sm hl' => ⟨acc, strL T n, rfl, .inl (.of hl'), q H' sm⟩
  · rw [List.length_map]
    have := len_flatMap_le (fun i => (List.range n).flatMap fun j => (List.range n).flatMap fun k => [decide (at2 T i k ≤ at2 T i j + at2 T j k)]) 64 n fun i hi => by
      have := len_flatMap_le (fun j => (List.range n).flatMap fun k => [decide (at2 T i k ≤ at2 T i j + at2 T j k)]) 8 n fun j hj => by
        have := len_flatMap_le (fun k => [decide (at2 T i k ≤ at2 T i j + at2 T j k)]) 1 n fun _ _ => Nat.le_refl _
        omega
      omega
    unfold strL
    omega
  · refine Emits.cast (L := (List.range n).flatMap fun i => (List.range n).flatMap fun j => (List.range n).flatMap fun k => [V.bl (decide (at2 T i k ≤ at2 T i j + at2 T j k))]) ?_ (by unfold strL; simp only [map_flatMap', List.map_cons, List.map_nil])
    refine loop_range (by decide) (by show 0 < 5; decide) fun i σ1 H1 hi l1 ag1 s1 sx1 _ => ?_
    rw [Int.zero_add] at s1
    have m1 : σ1[3]? = some (some (.int (n : Int))) := (ag1 3 (by decide)).trans rfl
    have t1 : σ1[4]? = some (some (.ref a)) := (ag1 4 (by decide)).trans rfl
    refine Emits.mono (vars := [1, 2]) (emits_range1 (by decide) (by rw [l1]; show 1 < 5; decide) (by omega) (fun Q hQ => ⟨_, m1, hQ H1 (Same.refl _)⟩) fun j σ2 H2 hj l2 ag2 s2 sx2 _ => ?_) (by simp)
    have m2 := (ag2 3 (by decide)).trans m1
    have l2' := l2.trans l1
    refine Emits.mono (vars := [2]) (emits_range1 (by decide) (by rw [l2']; show 2 < 5; decide) (by omega) (fun Q hQ => ⟨_, m2, hQ H2 (Same.refl _)⟩) fun k σ3 H3 hk l3 ag3 s3 sx3 _ => ?_) (by simp)
    have t3 := (ag3 4 (by decide)).trans ((ag2 4 (by decide)).trans t1)
    have i3 := (ag3 0 (by decide)).trans ((ag2 0 (by decide)).trans s1)
    have j3 := (ag3 1 (by decide)).trans s2
    have S3 := hS.same (same_of_x hacc ((sx1.trans sx2).trans sx3))
    refine emits_one fun Q hQ => ?_
    refine tab_at t3 i3 s3 S3 hq hi hk (tab_at t3 i3 j3 S3 hq hi hj (tab_at t3 j3 s3 S3 hq hj hk ⟨_, _, rfl, rfl, hQ H3 (Same.refl _)⟩))
end
end K53
namespace K53.L
open PySem L2
def whD : Dt → Bool
  | .int _ => true
  | _ => false
def whsD : Dt → Bool
  | .tup ds => ds.all whD
  | _ => false
def spW (K : PySem.W.Frag) : Sp := fun vs H Q _ => ∃ (v : V) (d : Dt), vs = [v] ∧ Sh K H d v ∧ ∀ H', Same H H' → Q (.bl (whD d)) H'
def spWs (K : PySem.W.Frag) : Sp := fun vs H Q _ => ∃ (v : V) (d : Dt), vs = [v] ∧ Sh K H d v ∧ (∀ ds, d = .tup ds → ds.length ≤ 1000) ∧ ∀ H', Same H H' → Q (.bl (whsD d)) H'
theorem flat_get {α β : Type} (f : α → β) (e : α) : ∀ ds : List α, (List.range ds.length).flatMap (fun i => [f (ds.getD i e)]) = ds.map f
  | [] => rfl
  | d :: ds => by
    rw [List.length_cons, List.range_succ_eq_map, List.flatMap_cons, List.flatMap_map, List.map_cons, ← flat_get f e ds]
    rfl
section
variable {K : PySem.W.Frag}
theorem rd_whole : ∀ vs H Q E, spW K vs H Q E → T_is_whole K { nx := fun _ H' => Q .non H', rt := Q } (start ["thing"] vs) H := by
  intro vs H Q E h
  obtain ⟨v, d, rfl, hS, q⟩ := h
  have q0 := q H (Same.refl _)
  refine ⟨_, rfl, v, d, "int", rfl, by decide, hS, _, rfl, ?_⟩
  by_cases hi : isiD d "int" = true
  · rw [if_pos hi]
    refine ⟨_, rfl, v, d, "bool", rfl, by decide, hS, _, rfl, ?_⟩
    cases d <;> first | exact q0 | (exact absurd hi (by simp [isiD]))
  · rw [if_neg hi]
    cases d <;> first | exact q0 | (exact absurd (by rfl) hi)
theorem rd_wholes : ∀ vs H Q E, spWs K vs H Q E → T_are_wholes K (spW K) { nx := fun _ H' => Q .non H', rt := Q } (start ["thing"] vs) H := by
  intro vs H Q E h
  obtain ⟨v, d, rfl, hS, hz, q⟩ := h
  refine ⟨_, rfl, v, d, "tuple", rfl, by decide, hS, _, rfl, ?_⟩
  by_cases hi : isiD d "tuple" = true
  · rw [if_pos hi]
    cases d with
    | tup ds =>
      obtain ⟨a, xs, rfl, ha, hL⟩ := id hS
      have hl : ds.length = xs.length := hL.length
      refine ⟨_, rfl, a, rfl, .inr ⟨⟨xs, ha⟩, fun acc hacc => ?_⟩⟩
      refine comp_emitsD [0] ((ds.map whD).map V.bl) hacc (by rw [List.length_map, List.length_map]; exact Nat.le_trans (hz ds rfl) (by decide)) ?_ fun σ' H' sm hl' => ⟨acc, ds.map whD, rfl, .inl (.of hl'), ?_⟩
      · refine Emits.cast (L := (List.range xs.length).flatMap fun i => [V.bl (whD (ds.getD i .non))]) ?_ (by rw [← hl, flat_get (fun d => V.bl (whD d)), List.map_map]; rfl)
        refine loop_tup (by decide) (by show 0 < 1; decide) (fun H' sx => (same_of_x hacc sx).tup ha) fun i x σ1 H1 hx l1 ag1 s1 sx1 _ => ?_
        refine emits_one fun Q hQ => ?_
        have hi' : i < ds.length := by rw [hl]; exact (List.getElem?_eq_some_iff.mp hx).1
        obtain ⟨y, hy, sy⟩ := hL.get (j := i) (d := ds.getD i .non) (by rw [List.getD_eq_getElem?_getD]; simp [hi'])
        obtain rfl : y = x := by rw [hx] at hy; cases hy; rfl
        exact ⟨_, s1, y, _, rfl, sy.same (same_of_x hacc sx1), hQ⟩
      · have := q H' sm
        rw [show whsD (.tup ds) = ds.all whD from rfl] at this
        rw [List.all_map]
        exact this
    | _ => exact absurd hi (by simp [isiD])
  · rw [if_neg hi]
    have q0 := q H (Same.refl _)
    cases d <;> first | exact q0 | (exact absurd (by rfl) hi)
end
def intsOf : List Dt → List Int
  | [] => []
  | .int i :: ds => i :: intsOf ds
  | _ :: ds => 0 :: intsOf ds
theorem wh_ints : ∀ {ds : List Dt}, ds.all whD = true → ds = (intsOf ds).map Dt.int
  | [], _ => rfl
  | d :: ds, h => by
    rw [List.all_cons, Bool.and_eq_true] at h
    cases d with
    | int i => rw [intsOf, List.map_cons, ← wh_ints h.2]
    | _ => exact absurd h.1 (by simp [whD])
theorem depL_ints : ∀ ns : List Int, depL (ns.map Dt.int) = 0
  | [] => rfl
  | n :: ns => by rw [List.map_cons, depL, depL_ints ns]; rfl
theorem dep_tup (ns : List Int) : dep (.tup (ns.map Dt.int)) ≤ 100 := by rw [dep, depL_ints]; decide
theorem dep_lst (ns : List Int) : dep (.lst (ns.map Dt.int)) ≤ 100 := by rw [dep, depL_ints]; decide
theorem eqL_ints : ∀ (ns ms : List Int), eqL (ns.map Dt.int) (ms.map Dt.int) = decide (ns = ms)
  | [], [] => by unfold eqL; rfl
  | [], m :: ms => by simp [eqL]
  | n :: ns, [] => by simp [eqL]
  | n :: ns, m :: ms => by
    rw [List.map_cons, List.map_cons, eqL, eqL_ints ns ms, eqD]
    by_cases h : n = m <;> by_cases h' : ns = ms <;> simp [h, h']
theorem sorted_is {ns ms ks : List Int} (p : ms.Perm ns) (s : ms.Pairwise (· ≤ ·)) (sk : ks.Pairwise (· ≤ ·)) : decide (ms = ks) = ns.isPerm ks := by
  by_cases h : ns.Perm ks
  · have e : ms = ks := List.Perm.eq_of_pairwise (le := (· ≤ ·)) (fun a b _ _ h1 h2 => Int.le_antisymm h1 h2) s sk (p.trans h)
    rw [e, List.isPerm_iff.mpr h]
    simp
  · have hn : ns.isPerm ks = false := by
      cases hb : ns.isPerm ks with
      | false => rfl
      | true => exact absurd (List.isPerm_iff.mp hb) h
    rw [hn]
    exact decide_eq_false fun e => h (e ▸ p.symm)
def roD (n : Nat) : Dt → Bool
  | .tup ds => ds.all whD && (decide ((intsOf ds).take 1 = [0]) && (intsOf ds).isPerm (rngI 0 (n : Int)))
  | _ => false
def spRound (K : PySem.W.Frag) : Sp := fun vs H Q _ => ∃ (ta : Addr) (rs : List V) (v : V) (d : Dt), vs = [.ref ta, v] ∧ SqT K H ta rs ∧ rs.length ≤ 9 ∧ Sh K H d v ∧ (∀ ds, d = .tup ds → ds.length < 64) ∧ ∀ H', Same H H' → Q (.bl (roD rs.length d)) H'
theorem rng_sorted (lo hi : Int) : (rngI lo hi).Pairwise (· ≤ ·) := by
  unfold rngI
  rw [List.pairwise_map]
  exact List.Pairwise.imp (fun h => by omega) List.pairwise_lt_range
section
variable {K : PySem.W.Frag}
theorem rd_round : ∀ vs H Q E, spRound K vs H Q E → T_is_round K (spWs K) { nx := fun _ H' => Q .non H', rt := Q } (start ["table", "thing"] vs) H := by
  intro vs H Q E h
  obtain ⟨ta, rs, v, d, rfl, hT, hr, hS, hz, q⟩ := h
  refine ⟨_, rfl, v, d, rfl, hS, fun ds e => Nat.le_trans (Nat.le_of_lt (hz ds e)) (by decide), fun H1 s1 => ⟨_, rfl, ?_⟩⟩
  cases hw : whsD d with
  | false =>
    refine iteT ?_
    have := q H1 s1
    rw [show roD rs.length d = false by cases d <;> first | rfl | (simp only [roD]; rw [show List.all _ whD = false from hw]; rfl)] at this
    exact this
  | true =>
    refine iteF ?_
    cases d with
    | tup ds =>
      have hd := wh_ints hw
      have hq : ∀ H', Same H H' → Q (.bl (decide ((intsOf ds).take 1 = [0]) && (intsOf ds).isPerm (rngI 0 (rs.length : Int)))) H' := fun H' e => by
        have := q H' e
        rw [show roD rs.length (.tup ds) = (ds.all whD && _) from rfl, show ds.all whD = true from hw, Bool.true_and] at this
        exact this
      have hl : (intsOf ds).length < 64 := by
        have := hz ds rfl
        rw [hd, List.length_map] at this
        exact this
      generalize hns : intsOf ds = ns at *
      subst hd
      obtain ⟨a, xs, rfl, ha, hL⟩ := id hS
      obtain rfl := hL.of_ints
      refine ⟨_, rfl, _, rfl, .inr ⟨a, _, rfl, s1.tup ha, fun p H2 s2 hp => ?_⟩⟩
      have hc : cutV (ns.map V.int) none (some 1) = (ns.take 1).map V.int := by
        unfold cutV
        rw [List.map_take]
        show List.take (HT.sIx _ _ (some 1) - 0) (List.drop 0 _) = _
        rw [List.drop_zero, Nat.sub_zero]
        cases ns <;> simp [HT.sIx]
      rw [hc] at hp
      refine ⟨by decide, fun p2 hp2 => ⟨.tup ((ns.take 1).map Dt.int), .tup ([0].map Dt.int), dep_tup _, ⟨p, _, rfl, (same_new hp2 _).tup hp, ShL.ints _⟩, ⟨p2, _, rfl, .of upd_same, ShL.ints _⟩, _, rfl, ?_⟩⟩
      rw [show eqD (.tup ((ns.take 1).map Dt.int)) (.tup ([0].map Dt.int)) = decide (ns.take 1 = [0]) by rw [eqD]; exact eqL_ints _ _]
      have s3 : Same H1 (upd H2 p2 (.tup ([0].map V.int))) := s2.trans (same_new hp2 _)
      by_cases h0 : ns.take 1 = [0]
      · rw [if_pos (decide_eq_true h0)]
        refine ⟨_, rfl, a, ns, rfl, .inr (s3.tup (s1.tup ha)), hl, fun ms pm sm l hl2 => ?_⟩
        have s4 := s3.trans (same_new hl2 (.lst (ms.map V.int)))
        refine ⟨_, rfl, ta, rs, rfl, .inr (s4.tup (s1.tup hT)), ?_⟩
        refine .inl ⟨_, rfl, fun pr hpr => ?_⟩
        have s5 := s4.trans (same_new hpr (.rng 0 (rs.length : Int)))
        refine .inr ⟨pr, 0, _, rfl, upd_same, ⟨by omega, by omega, by omega, by omega, by omega⟩, fun p4 hp4 => ?_⟩
        have s6 := s5.trans (same_new hp4 (.lst ((rngI 0 (rs.length : Int)).map V.int)))
        refine ⟨.lst (ms.map Dt.int), .lst ((rngI 0 (rs.length : Int)).map Dt.int), dep_lst _, ⟨l, _, rfl, .of ?_, ShL.ints _⟩, ⟨p4, _, rfl, .of upd_same, ShL.ints _⟩, ?_⟩
        · exact (same_new hp4 _) _ _ ((same_new hpr _) _ _ upd_same)
        · rw [show eqD (.lst (ms.map Dt.int)) (.lst ((rngI 0 (rs.length : Int)).map Dt.int)) = decide (ms = rngI 0 (rs.length : Int)) by rw [eqD]; exact eqL_ints _ _, sorted_is pm sm (rng_sorted _ _)]
          have := hq _ (s1.trans s6)
          rw [decide_eq_true h0, Bool.true_and] at this
          exact this
      · rw [if_neg (by rw [decide_eq_false h0]; exact Bool.false_ne_true)]
        have := hq _ (s1.trans s3)
        rw [decide_eq_false h0, Bool.false_and] at this
        exact this
    | _ => exact absurd hw (by simp [whsD])
end
end K53.L
namespace K53
open PySem L2
section
variable {t : Nat → Nat → Int} {n : Nat}
theorem pth_mid {y : Nat} {Z : List Nat} : ∀ {X : List Nat}, S.pth t (X ++ y :: Z) = S.pth t (X ++ [y]) + S.pth t (y :: Z)
  | [] => by show S.pth t (y :: Z) = 0 + S.pth t (y :: Z); omega
  | [a] => by show t a y + S.pth t (y :: Z) = t a y + 0 + S.pth t (y :: Z); omega
  | a :: b :: X => by
    have := pth_mid (y := y) (Z := Z) (X := b :: X)
    show t a b + S.pth t (b :: X ++ y :: Z) = t a b + S.pth t (b :: X ++ [y]) + S.pth t (y :: Z)
    omega
theorem pth_turn {s : Nat} {B : List Nat} : ∀ {A : List Nat} {a : Nat}, S.pth t (a :: A ++ s :: B ++ [a]) = S.pth t (s :: (B ++ a :: A) ++ [s]) := fun {A a} => by
  have e1 : a :: A ++ s :: B ++ [a] = (a :: A) ++ s :: (B ++ [a]) := by simp
  have e2 : s :: (B ++ a :: A) ++ [s] = (s :: B) ++ a :: (A ++ [s]) := by simp
  rw [e1, e2, pth_mid (X := a :: A) (y := s), pth_mid (X := s :: B) (y := a)]
  show S.pth t (a :: A ++ [s]) + S.pth t (s :: B ++ [a]) = S.pth t (s :: B ++ [a]) + S.pth t (a :: A ++ [s])
  omega
structure Met (t : Nat → Nat → Int) (n : Nat) : Prop where
  nn : ∀ i j, i < n → j < n → 0 ≤ t i j
  own : ∀ i, i < n → t i i = 0
  sym : ∀ i j, i < n → j < n → t i j = t j i
  tri : ∀ i j k, i < n → j < n → k < n → t i k ≤ t i j + t j k
theorem pth_filter (m : Met t n) {p : Nat → Bool} {e : Nat} (he : e < n) : ∀ {L : List Nat} {s : Nat}, s < n → (∀ x ∈ L, x < n) → S.pth t (s :: (L.filter p ++ [e])) ≤ S.pth t (s :: (L ++ [e]))
  | [], s, _, _ => Int.le_refl _
  | x :: L, s, hs, hL => by
    have hx := hL x (by simp)
    have hL' : ∀ y ∈ L, y < n := fun y hy => hL y (List.mem_cons_of_mem _ hy)
    rw [List.filter_cons]
    split
    · have := pth_filter m (p := p) he (s := x) hx hL'
      show t s x + S.pth t (x :: (L.filter p ++ [e])) ≤ t s x + S.pth t (x :: (L ++ [e]))
      omega
    · have h1 := pth_filter m (p := p) he (s := s) hs hL'
      have h2 : S.pth t (s :: (L ++ [e])) ≤ t s x + S.pth t (x :: (L ++ [e])) := by
        cases L with
        | nil =>
          have := m.tri s x e hs hx he
          show t s e + 0 ≤ t s x + (t x e + 0)
          omega
        | cons y L =>
          have := m.tri s x y hs hx (hL' y (by simp))
          show t s y + S.pth t (y :: (L ++ [e])) ≤ t s x + (t x y + S.pth t (y :: (L ++ [e])))
          omega
      show _ ≤ t s x + S.pth t (x :: (L ++ [e]))
      omega
theorem sub_round (m : Met t n) {c : List Nat} {a : Nat} (hc : ∀ x ∈ a :: c, x < n) (p : Nat → Bool) {s : Nat} (hs : s ∈ a :: c) (ps : p s = true) (nd : (a :: c).Nodup) :
    ∃ F : List Nat, (s :: F).Perm ((a :: c).filter p) ∧ S.pth t (s :: (F ++ [s])) ≤ S.pth t (a :: (c ++ [a])) := by
  obtain ⟨A, B, e⟩ := List.append_of_mem hs
  have hlt : ∀ x ∈ A ++ s :: B, x < n := fun x hx => hc x (by rw [e]; exact hx)
  have hsn : s < n := hlt s (by simp)
  refine ⟨(B ++ A).filter p, ?_, ?_⟩
  · rw [e, List.filter_append, List.filter_append, List.filter_cons, if_pos ps]
    exact ((List.Perm.cons s List.perm_append_comm).trans (List.perm_middle (a := s) (l₁ := A.filter p) (l₂ := B.filter p)).symm)
  · have h1 := pth_filter m (p := p) hsn (L := B ++ A) (s := s) hsn fun x hx => hlt x (by
      rcases List.mem_append.mp hx with h | h
      · simp [h]
      · simp [h])
    have h2 : S.pth t (s :: (B ++ A ++ [s])) = S.pth t (a :: (c ++ [a])) := by
      cases A with
      | nil =>
        have e' : a :: c = s :: B := by simpa using e
        obtain ⟨rfl, rfl⟩ := List.cons.inj e'
        rw [List.append_nil]
      | cons b A =>
        have e' : a :: c = b :: (A ++ s :: B) := by simpa using e
        obtain ⟨rfl, rfl⟩ := List.cons.inj e'
        have := pth_turn (t := t) (s := s) (B := B) (A := A) (a := a)
        simp only [List.cons_append] at this ⊢
        exact this.symm
    omega
theorem pth_low {f : Nat → Int} {th : Int} {b : Nat} : ∀ {L : List Nat} {a : Nat}, (a :: L).Nodup → b ∉ L → (L = [] → a ≠ b) → (∀ x y, x ∈ a :: b :: L → y ∈ a :: b :: L → x ≠ y → f x + f y - th ≤ t x y) → f a + 2 * (L.map f).sum + f b - ((L.length + 1 : Nat) : Int) * th ≤ S.pth t (a :: (L ++ [b]))
  | [], a, _, _, h0, h => by
    have := h a b (by simp) (by simp) (h0 rfl)
    show f a + 2 * 0 + f b - ((0 + 1 : Nat) : Int) * th ≤ t a b + 0
    simp
    omega
  | x :: L, a, nd, hb, _, h => by
    have nd' := List.nodup_cons.mp nd
    have ih := pth_low (L := L) (a := x) nd'.2 (fun z => hb (List.mem_cons_of_mem _ z)) (fun _ e => hb (by rw [e]; simp)) fun y z hy hz => h y z (by
        rcases List.mem_cons.mp hy with rfl | hy
        · simp
        · rcases List.mem_cons.mp hy with rfl | hy
          · simp
          · simp [hy]) (by
        rcases List.mem_cons.mp hz with rfl | hz
        · simp
        · rcases List.mem_cons.mp hz with rfl | hz
          · simp
          · simp [hz])
    have h1 := h a x (by simp) (by simp) (fun e => nd'.1 (by rw [e]; simp))
    show f a + 2 * (f x + (L.map f).sum) + f b - ((L.length + 1 + 1 : Nat) : Int) * th ≤ t a x + S.pth t (x :: (L ++ [b]))
    have e : ((L.length + 1 + 1 : Nat) : Int) * th = ((L.length + 1 : Nat) : Int) * th + th := by
      rw [show ((L.length + 1 + 1 : Nat) : Int) = ((L.length + 1 : Nat) : Int) + 1 by omega, Int.add_mul, Int.one_mul]
    omega
theorem perm_sum {A B : List Int} (h : A.Perm B) : A.sum = B.sum := by
  induction h with
  | nil => rfl
  | cons a _ ih => rw [List.sum_cons, List.sum_cons, ih]
  | swap a b l => rw [List.sum_cons, List.sum_cons, List.sum_cons, List.sum_cons]; omega
  | trans _ _ h1 h2 => rw [h1, h2]
theorem sum_const {f : Nat → Int} {c : Int} : ∀ {L : List Nat}, (∀ x ∈ L, f x = c) → (L.map f).sum = (L.length : Int) * c
  | [], _ => by simp
  | x :: L, h => by
    have := sum_const (L := L) fun y hy => h y (List.mem_cons_of_mem _ hy)
    rw [List.map_cons, List.sum_cons, this, h x (by simp), List.length_cons, show ((L.length + 1 : Nat) : Int) = (L.length : Int) + 1 by omega, Int.add_mul, Int.one_mul]
    omega
theorem half (m : Met t n) {l : Nat → Int} (hl : ∀ x y, x < n → y < n → x ≠ y → min (l x) (l y) ≤ t x y) (l0 : ∀ x, x < n → 0 ≤ l x) {D : List Nat} (pD : D.Perm (List.range n)) (sD : D.Pairwise fun x y => l y ≤ l x) {c : List Nat} (pc : (0 :: c).Perm (List.range n)) {k : Nat} (k1 : 1 ≤ k) (kn : k < n) :
    2 * (((D.drop k).take k).map l).sum ≤ S.pth t (0 :: (c ++ [0])) := by
  have lD : D.length = n := by rw [pD.length_eq, List.length_range]
  have ndD : D.Nodup := pD.nodup_iff.mpr List.nodup_range
  have ndc : (0 :: c).Nodup := pc.nodup_iff.mpr List.nodup_range
  have ltc : ∀ x ∈ 0 :: c, x < n := fun x hx => List.mem_range.mp (pc.mem_iff.mp hx)
  have ltD : ∀ x ∈ D, x < n := fun x hx => List.mem_range.mp (pD.mem_iff.mp hx)
  obtain ⟨U, eU⟩ : ∃ U, U = D.take (2 * k) := ⟨_, rfl⟩
  have lU : U.length = min (2 * k) n := by rw [eU, List.length_take, lD]
  have ndU : U.Nodup := by rw [eU]; exact ndD.sublist (List.take_sublist _ _)
  have memU : ∀ x ∈ U, x ∈ D := fun x hx => by rw [eU] at hx; exact List.mem_of_mem_take hx
  have hk0 : k - 1 < D.length := by omega
  obtain ⟨th, eth⟩ : ∃ th, th = l (D[k - 1]'hk0) := ⟨_, rfl⟩
  have th0 : 0 ≤ th := by rw [eth]; exact l0 _ (ltD _ (List.getElem_mem _))
  have sUk : U = D.take k ++ (D.drop k).take k := by
    rw [eU, show 2 * k = k + k by omega, List.take_add]
  have up : ∀ x ∈ D.take k, th ≤ l x := fun x hx => by
    obtain ⟨i, hi, rfl⟩ := List.getElem_of_mem hx
    rw [List.length_take] at hi
    rw [List.getElem_take, eth]
    rcases Nat.lt_or_ge i (k - 1) with h | h
    · exact List.pairwise_iff_getElem.mp sD i (k - 1) (by omega) hk0 h
    · have : i = k - 1 := by omega
      subst this
      exact Int.le_refl _
  have dn : ∀ x ∈ (D.drop k).take k, l x ≤ th := fun x hx => by
    have hx := List.mem_of_mem_take hx
    obtain ⟨i, hi, rfl⟩ := List.getElem_of_mem hx
    rw [List.length_drop] at hi
    rw [List.getElem_drop, eth]
    exact List.pairwise_iff_getElem.mp sD (k - 1) (k + i) hk0 (by omega) (by omega)
  have hs : D[0]'(by omega) ∈ U := by
    rw [eU, List.mem_take_iff_getElem]
    exact ⟨0, by omega, rfl⟩
  generalize D[0]'(by omega) = s at hs
  obtain ⟨F, pF, hF⟩ := sub_round m ltc (fun x => decide (x ∈ U)) (s := s) (pc.mem_iff.mpr (pD.mem_iff.mp (memU s hs))) (decide_eq_true hs) ndc
  have pU : (s :: F).Perm U := by
    refine pF.trans ?_
    rw [List.perm_ext_iff_of_nodup (List.filter_sublist.nodup ndc) ndU]
    intro x
    rw [List.mem_filter]
    constructor
    · rintro ⟨_, h⟩; exact of_decide_eq_true h
    · intro h; exact ⟨pc.mem_iff.mpr (pD.mem_iff.mp (memU x h)), decide_eq_true h⟩
  have ndF := pU.nodup_iff.mpr ndU
  have lF : F.length + 1 = U.length := by rw [← pU.length_eq, List.length_cons]
  have low := pth_low (t := t) (f := fun x => min (l x) th) (th := th) (b := s) (L := F) (a := s) ndF (List.nodup_cons.mp ndF).1 (fun e => by rw [e] at lF; simp at lF; omega) fun x y hx hy hne => by
    have m1 : ∀ z ∈ s :: s :: F, z < n := fun z hz => ltD z (memU z (pU.mem_iff.mp (by
      rcases List.mem_cons.mp hz with rfl | hz
      · simp
      · exact hz)))
    have := hl x y (m1 x hx) (m1 y hy) hne
    show min (l x) th + min (l y) th - th ≤ _
    omega
  have e1 : min (l s) th + (F.map fun x => min (l x) th).sum = (U.map fun x => min (l x) th).sum := by
    rw [← perm_sum (pU.map _)]
    rfl
  have e2 : (U.map fun x => min (l x) th).sum = (k : Int) * th + (((D.drop k).take k).map l).sum := by
    rw [sUk, List.map_append, List.sum_append, sum_const (c := th) fun x hx => by have := up x hx; omega, List.length_take, Nat.min_eq_left (by omega)]
    congr 2
    exact List.map_congr_left fun x hx => by have := dn x hx; omega
  have e3 : ((F.length + 1 : Nat) : Int) * th ≤ 2 * ((k : Int) * th) := by
    have : ((F.length + 1 : Nat) : Int) ≤ 2 * (k : Int) := by omega
    have := Int.mul_le_mul_of_nonneg_right this th0
    rw [Int.mul_assoc] at this
    exact this
  have low' : min (l s) th + 2 * (F.map fun x => min (l x) th).sum + min (l s) th - ((F.length + 1 : Nat) : Int) * th ≤ S.pth t (s :: (F ++ [s])) := low
  omega
theorem twice_le (m : Met t n) {c : List Nat} (pc : (0 :: c).Perm (List.range n)) {x y : Nat} (hx : x < n) (hy : y < n) : 2 * t x y ≤ S.pth t (0 :: (c ++ [0])) := by
  have ndc : (0 :: c).Nodup := pc.nodup_iff.mpr List.nodup_range
  have ltc : ∀ x ∈ 0 :: c, x < n := fun x hx => List.mem_range.mp (pc.mem_iff.mp hx)
  have hxm := pc.mem_iff.mpr (List.mem_range.mpr hx)
  have hym := pc.mem_iff.mpr (List.mem_range.mpr hy)
  obtain ⟨F, pF, hF⟩ := sub_round m ltc (fun z => decide (z = x ∨ z = y)) hxm (decide_eq_true (.inl rfl)) ndc
  have nn : ∀ (L : List Nat) (a : Nat), a < n → (∀ z ∈ L, z < n) → 0 ≤ S.pth t (a :: L) := by
    intro L
    induction L with
    | nil => intro a _ _; exact Int.le_refl _
    | cons z L ih =>
      intro a ha hL
      have h1 := ih z (hL z (by simp)) fun w hw => hL w (List.mem_cons_of_mem _ hw)
      have h2 := m.nn a z ha (hL z (by simp))
      show 0 ≤ t a z + S.pth t (z :: L)
      omega
  by_cases e : x = y
  · subst e
    rw [m.own x hx]
    have := nn (c ++ [0]) 0 (ltc 0 (by simp)) fun z hz => ltc z (by
      rcases List.mem_append.mp hz with h | h
      · exact List.mem_cons_of_mem _ h
      · rw [List.mem_singleton.mp h]; simp)
    omega
  · have nd2 := pF.nodup_iff.mpr (List.filter_sublist.nodup ndc)
    have hyF : y ∈ F := by
      have := pF.mem_iff.mpr (List.mem_filter.mpr ⟨hym, decide_eq_true (.inr rfl)⟩)
      rcases List.mem_cons.mp this with h | h
      · exact absurd h.symm e
      · exact h
    have onlyF : ∀ z ∈ F, z = y := fun z hz => by
      have := of_decide_eq_true (List.mem_filter.mp (pF.mem_iff.mp (List.mem_cons_of_mem _ hz))).2
      rcases this with h | h
      · exact absurd (h ▸ hz) (List.nodup_cons.mp nd2).1
      · exact h
    have : F = [y] := by
      cases F with
      | nil => cases hyF
      | cons a F =>
        have ha := onlyF a (by simp)
        cases F with
        | nil => rw [ha]
        | cons b F =>
          have hb := onlyF b (by simp)
          rw [ha, hb] at nd2
          simp at nd2
    rw [this] at hF
    have hF' : t x y + (t y x + 0) ≤ S.pth t (0 :: (c ++ [0])) := hF
    have := m.sym x y hx hy
    omega
theorem rsl (m : Met t n) (n8 : n ≤ 8) {l : Nat → Int} (hl : ∀ x y, x < n → y < n → x ≠ y → min (l x) (l y) ≤ t x y) (lt : ∀ x, x < n → ∃ y, y < n ∧ l x = t x y) {ps c : List Nat} (pp : ps.Perm (List.range n)) (pc : (0 :: c).Perm (List.range n)) :
    2 * (ps.map l).sum ≤ (((if 1 < n then 1 else 0) + (if 2 < n then 1 else 0) + (if 4 < n then 1 else 0) : Int) + 1) * S.pth t (0 :: (c ++ [0])) := by
  obtain ⟨D, eD⟩ : ∃ D, D = (List.range n).mergeSort (fun x y => decide (l y ≤ l x)) := ⟨_, rfl⟩
  have pD : D.Perm (List.range n) := by rw [eD]; exact List.mergeSort_perm _ _
  have sD : D.Pairwise fun x y => l y ≤ l x := by
    have := List.pairwise_mergeSort (le := fun x y => decide (l y ≤ l x)) (fun a b c h1 h2 => decide_eq_true (by have := of_decide_eq_true h1; have := of_decide_eq_true h2; omega)) (fun a b => by
      rcases Int.le_total (l b) (l a) with h | h
      · simp [h]
      · simp [h]) (List.range n)
    rw [← eD] at this
    exact this.imp fun h => of_decide_eq_true h
  have l0 : ∀ x, x < n → 0 ≤ l x := fun x hx => by
    obtain ⟨y, hy, e⟩ := lt x hx
    rw [e]; exact m.nn x y hx hy
  have h2 : ∀ x, x < n → 2 * l x ≤ S.pth t (0 :: (c ++ [0])) := fun x hx => by
    obtain ⟨y, hy, e⟩ := lt x hx
    rw [e]; exact twice_le m pc hx hy
  have hd := fun k (k1 : 1 ≤ k) (kn : k < n) => half m hl l0 pD sD pc k1 kn
  have lD : D.length = n := by rw [pD.length_eq, List.length_range]
  have ltD : ∀ x ∈ D, x < n := fun x hx => List.mem_range.mp (pD.mem_iff.mp hx)
  rw [perm_sum ((pp.trans pD.symm).map l)]
  have p0 : 0 ≤ S.pth t (0 :: (c ++ [0])) := by
    have h0 : 0 < n := List.mem_range.mp (pc.mem_iff.mp (List.mem_cons_self ..))
    have := h2 0 h0
    have := l0 0 h0
    omega
  generalize S.pth t (0 :: (c ++ [0])) = O at *
  have d1 := hd 1 (by omega)
  have d2 := hd 2 (by omega)
  have d4 := hd 4 (by omega)
  clear hd
  match D, lD, ltD, d1, d2, d4 with
  | [], hn, _, _, _, _ => simp at hn; subst hn; simp; omega
  | [a], hn, h, d1, d2, d4 =>
    have hn : 1 = n := hn
    have := h2 a (h a (by simp))
    subst hn
    simp; omega
  | [a, b], hn, h, d1, d2, d4 =>
    have hn : 2 = n := hn
    have := h2 a (h a (by simp))
    subst hn
    have := d1 (by omega)
    simp at this ⊢; omega
  | [a, b, c], hn, h, d1, d2, d4 =>
    have hn : 3 = n := hn
    have := h2 a (h a (by simp))
    subst hn
    have := d1 (by omega)
    have := d2 (by omega)
    simp at *; omega
  | [a, b, c, d], hn, h, d1, d2, d4 =>
    have hn : 4 = n := hn
    have := h2 a (h a (by simp))
    subst hn
    have := d1 (by omega)
    have := d2 (by omega)
    simp at *; omega
  | [a, b, c, d, e], hn, h, d1, d2, d4 =>
    have hn : 5 = n := hn
    have := h2 a (h a (by simp))
    subst hn
    have := d1 (by omega)
    have := d2 (by omega)
    have := d4 (by omega)
    simp at *; omega
  | [a, b, c, d, e, f], hn, h, d1, d2, d4 =>
    have hn : 6 = n := hn
    have := h2 a (h a (by simp))
    subst hn
    have := d1 (by omega)
    have := d2 (by omega)
    have := d4 (by omega)
    simp at *; omega
  | [a, b, c, d, e, f, g], hn, h, d1, d2, d4 =>
    have hn : 7 = n := hn
    have := h2 a (h a (by simp))
    subst hn
    have := d1 (by omega)
    have := d2 (by omega)
    have := d4 (by omega)
    simp at *; omega
  | [a, b, c, d, e, f, g, i], hn, h, d1, d2, d4 =>
    have hn : 8 = n := hn
    have := h2 a (h a (by simp))
    subst hn
    have := d1 (by omega)
    have := d2 (by omega)
    have := d4 (by omega)
    simp at *; omega
  | _ :: _ :: _ :: _ :: _ :: _ :: _ :: _ :: _ :: _, hn, _, _, _, _ => simp at hn; omega
end
section
variable {T : List (List Int)} {n : Nat}
def rl (T : List (List Int)) (ps : List Nat) : Int := S.pth (at2 T) (ps ++ [0])
theorem nxt_of {ps : List Nat} {i : Nat} (h0 : ps.head? = some 0) (hi : i < ps.length) : (ps ++ [0])[i + 1]? = some (nxt ps i) := by
  unfold nxt
  by_cases c : i + 1 < ps.length
  · rw [List.getElem?_append_left c, Nat.mod_eq_of_lt c, List.getD_eq_getElem?_getD, List.getElem?_eq_getElem c]
    rfl
  · have e : i + 1 = ps.length := by omega
    rw [e, Nat.mod_self, List.getElem?_append_right (Nat.le_refl _), Nat.sub_self]
    cases ps with
    | nil => cases h0
    | cons a ps =>
      have : a = 0 := by simpa using h0
      subst this
      rfl
theorem rl_put {ps : List Nat} {q i : Nat} (h0 : ps.head? = some 0) (hi : i < ps.length) : rl T (putAt ps q i) = rl T ps + cst T ps q i := by
  have hn := nxt_of h0 hi
  obtain ⟨r, er⟩ : ∃ r, (ps ++ [0]).drop (i + 1) = nxt ps i :: r := by
    rw [List.getElem?_eq_some_iff] at hn
    obtain ⟨h, e⟩ := hn
    exact ⟨(ps ++ [0]).drop (i + 1 + 1), by rw [← e]; exact (List.drop_eq_getElem_cons h)⟩
  have et : ps.take (i + 1) = ps.take i ++ [ps.getD i 0] := by
    rw [List.take_succ_eq_append_getElem hi, List.getD_eq_getElem?_getD, List.getElem?_eq_getElem hi]
    rfl
  have ed : ps.drop (i + 1) ++ [0] = nxt ps i :: r := by
    rw [← er, List.drop_append_of_le_length (by omega)]
  unfold rl putAt cst
  have e1 : ps.take (i + 1) ++ [q] ++ ps.drop (i + 1) ++ [0] = ps.take i ++ ps.getD i 0 :: (q :: nxt ps i :: r) := by
    rw [List.append_assoc, List.append_assoc, ed, et]
    simp
  have e2 : ps ++ [0] = ps.take i ++ ps.getD i 0 :: (nxt ps i :: r) := by
    have : ps ++ [0] = ps.take (i + 1) ++ (ps.drop (i + 1) ++ [0]) := by rw [← List.append_assoc, List.take_append_drop]
    rw [this, ed, et]
    simp
  rw [e1, e2, pth_mid, pth_mid (Z := nxt ps i :: r)]
  show _ + (at2 T (ps.getD i 0) q + (at2 T q (nxt ps i) + S.pth (at2 T) (nxt ps i :: r))) = _ + (at2 T (ps.getD i 0) (nxt ps i) + S.pth (at2 T) (nxt ps i :: r)) + _
  omega
theorem nxt_lt {ps : List Nat} {i : Nat} (hlt : ∀ p ∈ ps, p < n) (h : i < ps.length) : nxt ps i < n := by
  unfold nxt
  rw [List.getD_eq_getElem?_getD, List.getElem?_eq_getElem (Nat.mod_lt _ (by omega))]
  exact hlt _ (List.getElem_mem _)
theorem cst_le (m : Met (at2 T) n) {ps : List Nat} {q i x : Nat} (hlt : ∀ p ∈ ps, p < n) (hq : q < n) (hs : IsSpot T ps q i) (hx : x ∈ ps) : cst T ps q i ≤ 2 * at2 T x q := by
  obtain ⟨j, hj, rfl⟩ := List.getElem_of_mem hx
  have h1 := hs.2 j hj
  have e : ps.getD j 0 = ps[j] := by rw [List.getD_eq_getElem?_getD, List.getElem?_eq_getElem hj]; rfl
  have hp := hlt _ hx
  have hn := nxt_lt hlt hj
  have h2 : cst T ps q j = at2 T ps[j] q + at2 T q (nxt ps j) - at2 T ps[j] (nxt ps j) := by unfold cst; rw [e]
  have h3 := m.tri q ps[j] (nxt ps j) hq hp hn
  have h4 := m.sym ps[j] q hp hq
  omega
theorem step_le (m : Met (at2 T) n) {w : Nat} (hw : w < 2) {ps : List Nat} {q i : Nat} (hlt : ∀ p ∈ ps, p < n) (hne : ps ≠ []) (hS : IsSel w T n ps q) (hs : IsSpot T ps q i) {x y : Nat} (hx : x ∈ ps) (hy : y < n) (hyn : y ∉ ps) (spot : ∀ r, r < n → ∃ j, IsSpot T ps r j) (least : ∀ r, r < n → ∃ z, IsLeast T ps r z) : cst T ps q i ≤ 2 * at2 T x y := by
  obtain ⟨hq, hqn, k, hk, hmin⟩ := hS
  match w, hw, hk, hmin with
  | 0, _, ⟨i', hi', ei'⟩, hmin =>
    obtain ⟨j, hj⟩ := spot y hy
    have h1 := hmin y _ hy hyn ⟨j, hj, rfl⟩
    have h2 := cst_le m hlt hy hj hx
    have : i' = i := hi'.one hs
    subst this
    omega
  | 1, _, hk, hmin =>
    obtain ⟨z, hz⟩ := least y hy
    have h1 := hmin y z hy hyn hz
    have h2 := hz.2 x hx
    obtain ⟨⟨p, hp, ep⟩, _⟩ := hk
    have h3 := cst_le m hlt hq hs hp
    omega
theorem spot_ex {ps : List Nat} (q : Nat) (hne : ps ≠ []) : ∃ j, IsSpot T ps q j := by
  have : ∀ k, k < ps.length → ∃ i, i ≤ k ∧ ∀ j, j ≤ k → cst T ps q i < cst T ps q j ∨ (cst T ps q i = cst T ps q j ∧ i ≤ j) := by
    intro k
    induction k with
    | zero => intro _; exact ⟨0, Nat.le_refl _, fun j hj => by obtain rfl : j = 0 := (by omega); exact .inr ⟨rfl, Nat.le_refl _⟩⟩
    | succ k ih =>
      intro hk
      obtain ⟨i, hi, h⟩ := ih (by omega)
      by_cases c : cst T ps q (k + 1) < cst T ps q i
      · refine ⟨k + 1, Nat.le_refl _, fun j hj => ?_⟩
        by_cases e : j = k + 1
        · subst e; exact .inr ⟨rfl, Nat.le_refl _⟩
        · have := h j (by omega); omega
      · refine ⟨i, by omega, fun j hj => ?_⟩
        by_cases e : j = k + 1
        · subst e; omega
        · exact h j (by omega)
  have hp : 0 < ps.length := List.length_pos_iff.mpr hne
  obtain ⟨i, hi, h⟩ := this (ps.length - 1) (by omega)
  exact ⟨i, by omega, fun j hj => h j (by omega)⟩
theorem least_ex : ∀ {ps : List Nat} (q : Nat), ps ≠ [] → ∃ z, IsLeast T ps q z
  | [p], q, _ => ⟨at2 T p q, ⟨p, by simp, rfl⟩, fun r hr => by rw [List.mem_singleton.mp hr]; exact Int.le_refl _⟩
  | p :: p' :: ps, q, _ => by
    obtain ⟨z, ⟨r, hr, er⟩, h⟩ := least_ex (ps := p' :: ps) q (by simp)
    by_cases c : at2 T p q ≤ z
    · exact ⟨_, ⟨p, by simp, rfl⟩, fun s hs => by
        rcases List.mem_cons.mp hs with rfl | hs
        · exact Int.le_refl _
        · have := h s hs; omega⟩
    · exact ⟨z, ⟨r, List.mem_cons_of_mem _ hr, er⟩, fun s hs => by
        rcases List.mem_cons.mp hs with rfl | hs
        · omega
        · exact h s hs⟩
theorem putAt_head {ps : List Nat} {q i : Nat} (h0 : ps.head? = some 0) : (putAt ps q i).head? = some 0 := by
  cases ps with
  | nil => cases h0
  | cons a ps => exact h0
theorem putAt_perm {ps : List Nat} {q i : Nat} : (putAt ps q i).Perm (ps ++ [q]) := by
  unfold putAt
  have : (ps.take (i + 1) ++ [q] ++ ps.drop (i + 1)).Perm (ps.take (i + 1) ++ ps.drop (i + 1) ++ [q]) := by
    rw [List.append_assoc, List.append_assoc]
    exact List.Perm.append_left _ List.perm_append_comm
  rwa [List.take_append_drop] at this
theorem grown (m : Met (at2 T) n) (n1 : 1 ≤ n) {w : Nat} (hw : w < 2) {ps : List Nat} (h : Gr w T n ps) : ps.head? = some 0 ∧ ∃ (vs : List Nat) (ws : List Int), vs.Perm ps ∧ vs.Nodup ∧ (∀ v ∈ vs, v < n) ∧ vs.length = ws.length + 1 ∧ rl T ps = ws.sum ∧ ∀ k c, ws[k]? = some c → ∀ x ∈ vs.take (k + 1), ∀ y, y < n → y ∉ vs.take (k + 1) → c ≤ 2 * at2 T x y := by
  induction h with
  | one =>
    refine ⟨rfl, [0], [], List.Perm.refl _, by simp, fun v hv => by rw [List.mem_singleton.mp hv]; omega, rfl, ?_, fun k c e => by cases e⟩
    show at2 T 0 0 + 0 = 0
    rw [m.own 0 (by omega)]
    rfl
  | @next ps q i h hq hs ih =>
    obtain ⟨h0, vs, ws, p1, nd, lt, len, sm, st⟩ := ih
    have hne : ps ≠ [] := fun e => by rw [e] at h0; cases h0
    have ltp : ∀ p ∈ ps, p < n := fun p hp => lt p (p1.mem_iff.mpr hp)
    refine ⟨putAt_head h0, vs ++ [q], ws ++ [cst T ps q i], (p1.append_right _).trans putAt_perm.symm, ?_, ?_, ?_, ?_, ?_⟩
    · rw [List.nodup_append]
      exact ⟨nd, by simp, fun a ha b hb e => hq.2.1 (by rw [← List.mem_singleton.mp hb, ← e]; exact p1.mem_iff.mp ha)⟩
    · intro v hv
      rcases List.mem_append.mp hv with hv | hv
      · exact lt v hv
      · rw [List.mem_singleton.mp hv]; exact hq.1
    · rw [List.length_append, List.length_append, len]; rfl
    · rw [rl_put h0 hs.1, sm, List.sum_append]
      simp
    · intro k c e x hx y hy hyn
      by_cases ck : k < ws.length
      · rw [List.getElem?_append_left ck] at e
        rw [List.take_append_of_le_length (by omega)] at hx hyn
        exact st k c e x hx y hy hyn
      · rw [List.getElem?_append_right (by omega)] at e
        have hk : k - ws.length = 0 := by
          rcases hz : k - ws.length with _ | z
          · rfl
          · rw [hz] at e; cases e
        rw [hk] at e
        obtain rfl : cst T ps q i = c := by simpa using e
        have : k + 1 = vs.length := by omega
        rw [this, List.take_append_of_le_length (Nat.le_refl _), List.take_length] at hx hyn
        exact step_le m hw ltp hne hq hs (p1.mem_iff.mp hx) hy (fun z => hyn (p1.mem_iff.mpr z)) (fun r _ => spot_ex r hne) fun r _ => least_ex r hne
theorem mem_all {vs : List Nat} (nd : vs.Nodup) (lt : ∀ v ∈ vs, v < n) (len : vs.length = n) : vs.Perm (List.range n) := by
  rw [List.perm_ext_iff_of_nodup nd List.nodup_range]
  intro x
  rw [List.mem_range]
  refine ⟨lt x, fun hx => ?_⟩
  apply Classical.byContradiction
  intro hn
  have := sub_len (x :: vs) (List.range n) (List.nodup_cons.mpr ⟨hn, nd⟩) fun y hy => by
    rcases List.mem_cons.mp hy with rfl | hy
    · exact List.mem_range.mpr hx
    · exact List.mem_range.mpr (lt y hy)
  rw [List.length_range, List.length_cons] at this
  omega
theorem wts_two {C : Nat → Nat → Int} : ∀ {fs : List (Nat × Nat)}, (Tr.wts (fun x y => 2 * C x y) fs).sum = 2 * (Tr.wts C fs).sum
  | [] => rfl
  | e :: fs => by
    have := wts_two (C := C) (fs := fs)
    show 2 * C e.1 e.2 + (Tr.wts (fun x y => 2 * C x y) fs).sum = 2 * (C e.1 e.2 + (Tr.wts C fs).sum)
    omega
theorem put_tree (m : Met (at2 T) n) (n1 : 1 ≤ n) {w : Nat} (hw : w < 2) {ps us : List Nat} {fs : List (Nat × Nat)} (h : Gr w T n ps) (len : ps.length = n) (g' : Tr.Gr us fs) (pu : us.Perm (List.range n)) : rl T ps ≤ 2 * (Tr.wts (at2 T) fs).sum := by
  obtain ⟨h0, vs, ws, p1, nd, lt, ln, sm, st⟩ := grown m n1 hw h
  have pv := mem_all nd lt (by rw [p1.length_eq, len])
  have := Tr.prim_le' (C := fun x y => 2 * at2 T x y) (m := n) (vs := vs) (us := us) (ws := ws) (fs := fs) (fun x y hx hy => by show 2 * at2 T x y = 2 * at2 T y x; rw [m.sym x y hx hy]) nd ln (fun k c e x hx y hy => st k c e x hx y (lt y (List.mem_of_mem_drop hy)) fun z => by
    have := (List.take_append_drop (k + 1) vs) ▸ nd
    exact (List.nodup_append.mp this).2.2 y z y hy rfl) pv g' pu
  rw [sm]
  rw [← wts_two]
  exact this
theorem path_near {ps : List Nat} (n1 : 1 ≤ n) (h : Path T n ps) : ps.head? = some 0 ∧ ps.Nodup ∧ (∀ p ∈ ps, p < n) ∧ ∀ i, i + 1 < ps.length → ∀ r, r < n → r ∉ ps.take (i + 1) → at2 T (ps.getD i 0) (ps.getD (i + 1) 0) ≤ at2 T (ps.getD i 0) r := by
  induction h with
  | one => exact ⟨rfl, by simp, fun p hp => by rw [List.mem_singleton.mp hp]; omega, fun i hi => by simp at hi⟩
  | @next ps q h hq ih =>
    obtain ⟨h0, nd, lt, st⟩ := ih
    have hne : ps ≠ [] := fun e => by rw [e] at h0; cases h0
    have hp : 0 < ps.length := List.length_pos_iff.mpr hne
    refine ⟨?_, ?_, ?_, ?_⟩
    · cases ps with
      | nil => cases h0
      | cons a ps => exact h0
    · rw [List.nodup_append]
      exact ⟨nd, by simp, fun a ha b hb e => hq.2.1 (by rw [← List.mem_singleton.mp hb, ← e]; exact ha)⟩
    · intro v hv
      rcases List.mem_append.mp hv with hv | hv
      · exact lt v hv
      · rw [List.mem_singleton.mp hv]; exact hq.1
    · intro i hi r hr hrn
      rw [List.length_append, List.length_singleton] at hi
      have gi : (ps ++ [q]).getD i 0 = ps.getD i 0 := by rw [List.getD_eq_getElem?_getD, List.getElem?_append_left (by omega), ← List.getD_eq_getElem?_getD]
      rw [gi]
      rw [List.take_append_of_le_length (by omega)] at hrn
      by_cases c : i + 1 < ps.length
      · rw [show (ps ++ [q]).getD (i + 1) 0 = ps.getD (i + 1) 0 by rw [List.getD_eq_getElem?_getD, List.getElem?_append_left c, ← List.getD_eq_getElem?_getD]]
        exact st i c r hr hrn
      · have e : i + 1 = ps.length := by omega
        rw [e, List.take_length] at hrn
        have := hq.2.2 r hr hrn
        unfold lastP at this
        rw [show ps.length - 1 = i by omega] at this
        rw [e, show (ps ++ [q]).getD ps.length 0 = q by rw [List.getD_eq_getElem?_getD, List.getElem?_append_right (Nat.le_refl _), Nat.sub_self]; rfl]
        omega
theorem pth_idx {t : Nat → Nat → Int} : ∀ (L : List Nat), S.pth t L = ((List.range (L.length - 1)).map fun i => t (L.getD i 0) (L.getD (i + 1) 0)).sum
  | [] => rfl
  | [_] => rfl
  | a :: b :: L => by
    have := pth_idx (t := t) (b :: L)
    show t a b + S.pth t (b :: L) = ((List.range (L.length + 1)).map _).sum
    rw [List.range_succ_eq_map, List.map_cons, List.sum_cons, this, List.map_map]
    rfl
theorem idx_mem {ps : List Nat} {x : Nat} (hx : x ∈ ps) : ps.idxOf x < ps.length ∧ ps.getD (ps.idxOf x) 0 = x := by
  have h := List.idxOf_lt_length_of_mem hx
  exact ⟨h, by rw [List.getD_eq_getElem?_getD, List.getElem?_eq_getElem h]; exact List.getElem_idxOf h⟩
theorem rl_idx {ps : List Nat} (h0 : ps.head? = some 0) : rl T ps = ((List.range ps.length).map fun i => at2 T (ps.getD i 0) (nxt ps i)).sum := by
  unfold rl
  rw [pth_idx, List.length_append, List.length_singleton, Nat.add_sub_cancel]
  congr 1
  refine List.map_congr_left fun i hi => ?_
  have hi := List.mem_range.mp hi
  have e := nxt_of h0 hi
  rw [List.getD_eq_getElem?_getD, List.getElem?_append_left hi, ← List.getD_eq_getElem?_getD, List.getD_eq_getElem?_getD (l := ps ++ [0]), e]
  rfl
theorem map_idx {ps : List Nat} (nd : ps.Nodup) (f : Nat → Nat → Int) : ps.map (fun x => f x (ps.idxOf x)) = (List.range ps.length).map fun i => f (ps.getD i 0) i := by
  refine List.ext_getElem (by simp) fun i h1 h2 => ?_
  rw [List.length_map] at h1
  rw [List.getElem_map, List.getElem_map, List.getElem_range, nd.idxOf_getElem, List.getD_eq_getElem?_getD, List.getElem?_eq_getElem h1]
  rfl
theorem near_le (m : Met (at2 T) n) (n1 : 1 ≤ n) (n8 : n ≤ 8) {ps c : List Nat} (h : Path T n ps) (len : ps.length = n) (pc : (0 :: c).Perm (List.range n)) :
    2 * rl T ps ≤ (((if 1 < n then 1 else 0) + (if 2 < n then 1 else 0) + (if 4 < n then 1 else 0) : Int) + 1) * S.pth (at2 T) (0 :: (c ++ [0])) := by
  obtain ⟨h0, nd, lt, st⟩ := path_near n1 h
  have pp := mem_all nd lt len
  have e : rl T ps = (ps.map fun x => at2 T x (nxt ps (ps.idxOf x))).sum := by
    rw [rl_idx h0, map_idx nd fun x i => at2 T x (nxt ps i)]
  rw [e]
  refine rsl m n8 (l := fun x => at2 T x (nxt ps (ps.idxOf x))) ?_ ?_ pp pc
  · have key : ∀ x y, x < n → y < n → ps.idxOf x < ps.idxOf y → at2 T x (nxt ps (ps.idxOf x)) ≤ at2 T x y := fun x y hx hy hlt => by
      obtain ⟨i1, i2⟩ := idx_mem (pp.mem_iff.mpr (List.mem_range.mpr hx))
      obtain ⟨j1, j2⟩ := idx_mem (pp.mem_iff.mpr (List.mem_range.mpr hy))
      have := st (ps.idxOf x) (by omega) y hy fun z => by
        rw [List.mem_take_iff_getElem] at z
        obtain ⟨k, hk, ek⟩ := z
        have : ps.idxOf y = k := by rw [← ek]; exact nd.idxOf_getElem _ _
        omega
      rw [i2] at this
      unfold nxt
      rw [Nat.mod_eq_of_lt (by omega)]
      exact this
    intro x y hx hy hne
    have ne : ps.idxOf x ≠ ps.idxOf y := fun e => by
      obtain ⟨i1, i2⟩ := idx_mem (pp.mem_iff.mpr (List.mem_range.mpr hx))
      obtain ⟨j1, j2⟩ := idx_mem (pp.mem_iff.mpr (List.mem_range.mpr hy))
      rw [e, j2] at i2
      exact hne i2.symm
    rcases Nat.lt_or_gt_of_ne ne with g | g
    · have := key x y hx hy g
      show min (at2 T x _) (at2 T y _) ≤ _
      omega
    · have := key y x hy hx g
      have := m.sym x y hx hy
      show min (at2 T x _) (at2 T y _) ≤ _
      omega
  · intro x hx
    exact ⟨_, nxt_lt lt (idx_mem (pp.mem_iff.mpr (List.mem_range.mpr hx))).1, rfl⟩
theorem grow_facts {w : Nat} (n1 : 1 ≤ n) {ps : List Nat} (h : Gr w T n ps) : ps.head? = some 0 ∧ ps.Nodup ∧ ∀ p ∈ ps, p < n := by
  induction h with
  | one => exact ⟨rfl, by simp, fun p hp => by rw [List.mem_singleton.mp hp]; omega⟩
  | @next ps q i h hq hs ih =>
    obtain ⟨h0, nd, lt⟩ := ih
    refine ⟨putAt_head h0, putAt_perm.nodup_iff.mpr ?_, fun p hp => ?_⟩
    · rw [List.nodup_append]
      exact ⟨nd, by simp, fun a ha b hb e => hq.2.1 (by rw [← List.mem_singleton.mp hb, ← e]; exact ha)⟩
    · rcases putAt_mem hp with rfl | hp
      · exact hq.1
      · exact lt p hp
def stp (T : List (List Int)) (ps : List Nat) (k : Nat) : Int := match k with
  | 0 => at2 T (ps.getD (ps.length - 1) 0) (ps.getD 0 0)
  | k + 1 => at2 T (ps.getD k 0) (ps.getD (k + 1) 0)
def sumL (T : List (List Int)) (ps : List Nat) : Int := ((List.range ps.length).map (stp T ps)).sum
theorem sumL_rl {ps : List Nat} (h0 : ps.head? = some 0) : sumL T ps = rl T ps := by
  rw [rl_idx h0]
  unfold sumL
  have hne : ps ≠ [] := fun e => by rw [e] at h0; cases h0
  have hp : 0 < ps.length := List.length_pos_iff.mpr hne
  obtain ⟨k, hk⟩ : ∃ k, ps.length = k + 1 := ⟨ps.length - 1, by omega⟩
  rw [hk]
  have e1 : (List.range (k + 1)).map (stp T ps) = stp T ps 0 :: (List.range k).map (fun i => stp T ps (i + 1)) := by
    rw [List.range_succ_eq_map, List.map_cons, List.map_map]; rfl
  have e2 : (List.range (k + 1)).map (fun i => at2 T (ps.getD i 0) (nxt ps i)) = (List.range k).map (fun i => stp T ps (i + 1)) ++ [stp T ps 0] := by
    rw [List.range_succ, List.map_append, List.map_cons, List.map_nil]
    congr 1
    · refine List.map_congr_left fun i hi => ?_
      have := List.mem_range.mp hi
      show at2 T (ps.getD i 0) _ = at2 T (ps.getD i 0) (ps.getD (i + 1) 0)
      unfold nxt
      rw [Nat.mod_eq_of_lt (by omega)]
    · show [at2 T (ps.getD k 0) _] = [at2 T (ps.getD (ps.length - 1) 0) (ps.getD 0 0)]
      unfold nxt
      rw [← hk, Nat.mod_self, show ps.length - 1 = k by omega]
  rw [e1, e2, List.sum_append, List.sum_cons, List.sum_cons, List.sum_nil]
  omega
end
end K53
namespace K53
open PySem L2
theorem flat_one {α : Type} (f : Nat → α) (L : List Nat) : (L.flatMap fun i => [f i]) = L.map f := by
  induction L with
  | nil => rfl
  | cons a L ih => rw [List.flatMap_cons, ih]; rfl
theorem get_in {ps : List Nat} {n i : Nat} (hlt : ∀ p ∈ ps, p < n) (h : i < ps.length) : ps.getD i 0 < n := hlt _ (by rw [List.getD_eq_getElem?_getD, List.getElem?_eq_getElem h]; exact List.getElem_mem h)
section
variable {K : PySem.W.Frag}
def spSum (K : PySem.W.Frag) : Sp := fun vs H Q _ => ∃ (v : V) (b : Addr) (T : List (List Int)) (n : Nat) (ps : List Nat), vs = [v, .ref b] ∧ Sh K H (tabD T) v ∧ Quad T n ∧ SqT K H b (ps.map natV) ∧ 1 ≤ ps.length ∧ ps.length ≤ 8 ∧ (∀ p ∈ ps, p < n) ∧ ∀ H', Same H H' → Q (.int (sumL T ps)) H'
theorem rd_sum : ∀ vs H Q E, spSum K vs H Q E → T__law_e_sum K { nx := fun _ H' => Q .non H', rt := Q } (start ["table", "told"] vs) H := by
  intro vs H Q E h
  obtain ⟨v, b, T, n, ps, rfl, hS, hq, hb, h1, h8, hlt, q⟩ := h
  refine ⟨_, rfl, b, _, rfl, .inr hb, _, rfl, by rw [List.length_map]; omega, by rw [List.length_map]; omega, fun acc hacc => ?_⟩
  refine comp_emitsD [0] (((List.range ps.length).map (stp T ps)).map V.int) hacc (by rw [List.length_map, List.length_map, List.length_range]; omega) ?_ fun σ' H' s4 hl' => ⟨acc, _, rfl, .inl (.of hl'), q H' s4⟩
  rw [List.length_map]
  refine Emits.cast (L := (List.range ps.length).flatMap fun i => [V.int (stp T ps i)]) ?_ (by rw [flat_one, List.map_map]; rfl)
  refine loop_range (by decide) (by show 0 < 3; decide) fun i σ1 H1 hi l1 ag1 e1 sx1 _ => ?_
  have t1 : σ1[1]? = some (some v) := (ag1 1 (by decide)).trans rfl
  have t2 : σ1[2]? = some (some (.ref b)) := (ag1 2 (by decide)).trans rfl
  have hi : i < ps.length := hi
  have hb1 := (same_of_x hacc sx1).tup hb
  have hS1 := hS.same (same_of_x hacc sx1)
  rw [Int.zero_add] at e1
  have fin : ∀ (R : VK) (j : Nat), j < ps.length → R (.int (at2 T (ps.getD j 0) (ps.getD i 0))) H1 → rIx2 K v (natV (ps.getD j 0)) H1 fun x H2 => (tOp (rIx2 K) (tVar 2) (tVar 0)) σ1 H2 fun y H3 => rIx2 K x y H3 R := fun R j hj hR => by
    refine tab_row hS1 hq (get_in hlt hj) fun c hc => ⟨_, t2, _, e1, ixT hb1 (getV hi) ?_⟩
    refine ixT hc ?_ hR
    obtain ⟨row, g1, g2, g3⟩ := hq.get (get_in hlt hj)
    rw [List.getElem?_map, L2.getD_at (by rw [g3, g2]; exact get_in hlt hi)]
    rfl
  refine emits_one fun R hR => ⟨_, t1, _, t2, _, e1, _, _, rfl, rfl, ?_⟩
  cases i with
  | zero => exact ixT_last hb1 (by rw [List.length_map]; exact getV (by omega)) (fin R (ps.length - 1) (by omega) (hR H1 (Same.refl _)))
  | succ i =>
    show rIx2 K (.ref b) (.int (((i + 1 : Nat) : Int) - 1)) H1 _
    rw [show ((i + 1 : Nat) : Int) - 1 = (i : Int) by omega]
    exact ixT hb1 (getV (by omega)) (fin R i (by omega) (hR H1 (Same.refl _)))
end
end K53
namespace K53
open PySem L2
def bodyL (K : PySem.W.Frag)  (sp__law_e_pen : Sp) (sp__law_e_straight : Sp) (sp__law_e_sum : Sp) (sp__law_e_table : Sp) (sp__law_e_take : Sp) (sp_cheapest : Sp) (sp_far : Sp) (sp_is_round : Sp) (sp_is_straight : Sp) (sp_least_tree : Sp) (sp_near : Sp) (sp_nearest : Sp) (sp_shortest : Sp) : TS := (tSeq (tAsg (tOp (rAddA K) (tC (.int 1)) (tCall sp__law_e_take [] E0 (tCons (tVar 1) (tCons (tC (.int 8)) tNil)))) (gName 3)) (tSeq (tAsg (tCall sp__law_e_straight [] E0 (tCons (tCall sp__law_e_table [] E0 (tCons (tVar 1) (tCons (tVar 3) (tCons (tC (.bl true)) tNil)))) tNil)) (gName 4)) (tSeq (tAsg (tOp (rIx2 K) (tCall sp_shortest [] E0 (tCons (tVar 4) tNil)) (tC (.int 0))) (gName 5)) (tSeq (tAsg (tOp rMulA (tC (.int 2)) (tOp (rIx2 K) (tCall sp_least_tree [] E0 (tCons (tVar 4) tNil)) (tC (.int 0)))) (gName 6)) (tSeq (tAsg (tLst (tCons (tCall sp_cheapest [] E0 (tCons (tVar 4) tNil)) (tCons (tCall sp_near [] E0 (tCons (tVar 4) tNil)) (tCons (tCall sp_nearest [] E0 (tCons (tVar 4) tNil)) (tCons (tCall sp_far [] E0 (tCons (tVar 4) tNil)) tNil))))) (gName 7)) (tSeq (tIfS (tOr (tTest (tOp rIsnotB (tCall sp_is_straight [] E0 (tCons (tVar 4) tNil)) (tC (.bl true)))) (tNot (tB (tCB (rAll K) (tCons (tComp [none, some 4] (iSeq K (tVar 7)) (gName 0) [] fun acc => (tEmit (tOp rIsB (tCall sp_is_round [] E0 (tCons (tVar 1) (tCons (tVar 0) tNil))) (tC (.bl true))) acc)) tNil))))) (tSeq (tRet (tC (.bl false))) tNext) tNext) (tSeq (tAsg (tComp [none, some 4] (iSeq K (tVar 7)) (gName 0) [] fun acc => (tEmit (tCall sp__law_e_sum [] E0 (tCons (tVar 1) (tCons (tVar 0) tNil))) acc)) (gName 8)) (tSeq (tIfS (tOr (tTest (tOp yLt (tCB (rMinA K) (tCons (tVar 8) tNil)) (tVar 5))) (tOr (tTest (tOp yGt (tOp (rIx2 K) (tVar 8) (tC (.int 0))) (tVar 6))) (tTest (tOp yGt (tOp (rIx2 K) (tVar 8) (tC (.int 1))) (tVar 6))))) (tSeq (tRet (tC (.bl false))) tNext) tNext) (tSeq (tAsg (tOp (rIx2 K) (tLst (tCons (tC (.int 0)) (tCons (tC (.int 0)) (tCons (tC (.int 1)) (tCons (tC (.int 2)) (tCons (tC (.int 2)) (tCons (tC (.int 3)) (tCons (tC (.int 3)) (tCons (tC (.int 3)) (tCons (tC (.int 3)) tNil)))))))))) (tVar 3)) (gName 9)) (tSeq (tIfS (tTest (tOp yGt (tOp rMulA (tC (.int 2)) (tOp (rIx2 K) (tVar 8) (tC (.int 2)))) (tOp rMulA (tOp (rAddA K) (tVar 9) (tC (.int 1))) (tVar 5)))) (tSeq (tRet (tC (.bl false))) tNext) tNext) tNext))))))))))
theorem str_all {T : List (List Int)} {n : Nat} (h : Tri T n n) : (strL T n).all id = true := by
  unfold strL
  rw [List.all_eq_true]
  intro b hb
  obtain ⟨i, hi, hb⟩ := List.mem_flatMap.mp hb
  obtain ⟨j, hj, hb⟩ := List.mem_flatMap.mp hb
  obtain ⟨k, hk, hb⟩ := List.mem_flatMap.mp hb
  rw [List.mem_singleton.mp hb]
  exact decide_eq_true (h i k j (List.mem_range.mp hi) (List.mem_range.mp hk) (List.mem_range.mp hj))
structure Tour (n : Nat) (ps : List Nat) : Prop where
  hd : ps.head? = some 0
  pm : ps.Perm (List.range n)
theorem intsOf_map : ∀ ns : List Int, L.intsOf (ns.map Dt.int) = ns
  | [] => rfl
  | a :: ns => by
    have := intsOf_map ns
    show a :: L.intsOf (ns.map Dt.int) = a :: ns
    rw [this]
theorem rngI_nat (n : Nat) : rngI 0 (n : Int) = (List.range n).map fun p : Nat => (p : Int) := by
  unfold rngI
  rw [Int.sub_zero, Int.toNat_natCast]
  exact List.map_congr_left fun i _ => by omega
theorem Tour.ro {n : Nat} {ps : List Nat} (h : Tour n ps) : L.roD n (.tup ((ps.map fun p : Nat => (p : Int)).map Dt.int)) = true := by
  show (List.all _ L.whD && (decide ((L.intsOf _).take 1 = [0]) && (L.intsOf _).isPerm _)) = true
  rw [intsOf_map, rngI_nat]
  have e1 : (((ps.map fun p : Nat => (p : Int)).map Dt.int).all L.whD) = true := by
    rw [List.all_map, List.all_eq_true]
    intro x _
    rfl
  have e2 : ((ps.map fun p : Nat => (p : Int)).take 1) = [0] := by
    have := h.hd
    cases ps with
    | nil => cases this
    | cons a ps =>
      have : a = 0 := by simpa using this
      subst this
      rfl
  rw [e1, e2, List.isPerm_iff.mpr (h.pm.map _)]
  rfl
theorem Tour.le {T : List (List Int)} {n : Nat} {ps : List Nat} (h : Tour n ps) (n1 : 1 ≤ n) : S.rest (at2 T) n ([0], 0) ≤ rl T ps := by
  obtain ⟨r, rfl⟩ : ∃ r, ps = 0 :: r := by
    have := h.hd
    cases ps with
    | nil => cases this
    | cons a ps =>
      have : a = 0 := by simpa using this
      subst this
      exact ⟨ps, rfl⟩
  have nd := h.pm.nodup_iff.mpr List.nodup_range
  have := S.rest_le (t := at2 T) (n := n) (w := r) (S.mem_rounds.mpr ⟨by have := h.pm.length_eq; simp at this; omega, (List.nodup_cons.mp nd).2, fun x hx => ⟨List.mem_range.mp (h.pm.mem_iff.mp (List.mem_cons_of_mem _ hx)), fun e => (List.nodup_cons.mp nd).1 (e ▸ hx)⟩⟩)
  exact this
section
variable {K : PySem.W.Frag}
def spPen (K : PySem.W.Frag) : Sp := fun vs H Q _ => ∃ (a : Addr) (ns : List Int), vs = [.ref a] ∧ SqL K H a (ns.map V.int) ∧ ∀ p l ms H', Same H H' → PenAt H' p l ms 0 0 → Q (.ref p) H'
theorem rd_pen : ∀ vs H Q E, spPen K vs H Q E → T__law_e_pen K { nx := fun _ H' => Q .non H', rt := Q } (start ["script"] vs) H := by
  intro vs H Q E h
  obtain ⟨a, ns, rfl, hS, q⟩ := h
  refine ⟨_, rfl, _, rfl, .inl ⟨a, _, rfl, hS, fun sc hsc => ?_⟩⟩
  obtain ⟨ms, ems, _⟩ := cut_ints ns none (some 63)
  rw [ems]
  refine .inl ⟨sc, _, rfl, .inl (.of upd_same), fun l hl => ⟨show 3 ≤ sizeLine by decide, fun p hp => ?_⟩⟩
  have hlp : l ≠ p := fun e => by rw [← e, upd_same] at hp; cases hp
  refine q p l ms _ (((same_new hsc _).trans (same_new hl _)).trans (same_new hp _)) ⟨upd_same, ?_, hlp⟩
  rw [upd_ne hlp]
  exact upd_same
def spLaw (K : PySem.W.Frag) : Sp := fun vs H Q _ => ∃ (a : Addr) (ns : List Int), vs = [.ref a] ∧ SqL K H a (ns.map V.int) ∧ ns.length ≤ 63 ∧ ∀ H', Q (.bl true) H'
def At4 (K : PySem.W.Frag) (H : Hp) (as : List Addr) (pss : List (List Nat)) : Prop := as.length = pss.length ∧ ∀ (i : Nat) (a : Addr) (ps : List Nat), as[i]? = some a → pss[i]? = some ps → SqT K H a (ps.map natV)
theorem At4.same {H H' : Hp} {as : List Addr} {pss : List (List Nat)} (h : At4 K H as pss) (s : Same H H') : At4 K H' as pss := ⟨h.1, fun i a ps e1 e2 => s.tup (h.2 i a ps e1 e2)⟩
theorem flat_reps : ∀ (n : Nat), ((List.range n).flatMap fun _ => [V.bl true]) = (List.replicate n true).map V.bl
  | 0 => rfl
  | n + 1 => by
    rw [List.range_succ, List.flatMap_append, flat_reps n, List.replicate_succ']
    simp
theorem flat_sums {T : List (List Int)} : ∀ (pss : List (List Nat)), ((List.range pss.length).flatMap fun i => [V.int (sumL T (pss.getD i []))]) = (pss.map (sumL T)).map V.int := fun pss => by
  rw [flat_one, List.map_map]
  refine List.ext_getElem (by simp) fun i h1 h2 => ?_
  simp at h1
  simp [List.getD_eq_getElem?_getD, h1]
theorem rd_body {a p l : Addr} {ms : List Int} {H0 : Hp} {x2 x3 x4 x5 x6 x7 x8 x9 : Option V} {k : Nat} {z : Int} {D : Ends} {N : St → Hp → Prop} (hP : PenAt H0 p l ms k z) (hk : k ≤ 2400)
    (hN : ∀ x3 x4 x5 x6 x7 x8 x9 k' z' H', PenAt H' p l ms k' z' → k' ≤ k + 300 → N [some (.ref a), some (.ref p), x2, x3, x4, x5, x6, x7, x8, x9] H') :
    bodyL K (spPen K) (spStr K) (spSum K) (spETab K) spTake (spGrow K 0) (spGrow K 2) (L.spRound K) (spTab K fun T n => (strL T n).all id) (Tr.spTree K) (spGrow K 1) (spNear K) (S.spShort K) { D with nx := N, ct := N, bk := D.nx } [some (.ref a), some (.ref p), x2, x3, x4, x5, x6, x7, x8, x9] H0 := by
  refine ⟨_, rfl, p, l, ms, k, z, 8, rfl, hP, by omega, by decide, by decide, fun r1 k1 z1 H1 hr1 hk1 hP1 sx1 => ?_⟩
  have en : (1 : Int) + (r1 : Int) = ((1 + r1 : Nat) : Int) := by omega
  generalize hn : 1 + r1 = n at en
  have n1 : 1 ≤ n := by omega
  have n8 : n ≤ 8 := by omega
  refine ⟨_, rfl, _, rfl, p, l, ms, k1, z1, n, true, by rw [← en]; rfl, hP1, by omega, n1, n8, fun T0 v0 k2 z2 H2 q0 b0 e0 hT0 hP2 hk2 sx2 => ?_⟩
  refine ⟨v0, T0, n, rfl, hT0, q0, b0, e0 rfl, n1, n8, fun T v H3 s3 qT bT sT tT hT => ?_⟩
  have m : Met (at2 T) n := ⟨fun i j hi hj => (bT i j hi hj).1, fun i hi => (bT i i hi hi).2.2, sT, fun i j k hi hj hk => tT i k j hi hk hj⟩
  refine ⟨_, rfl, v, T, n, rfl, ⟨hT, qT, n1, n8⟩, fun b gb fa g pre H4 s4 hb hgb rg hg hfa fl hn' => ?_⟩
  refine ixT (j := 0) (.of hb) rfl ?_
  have hT4 := hT.same s4
  refine ⟨_, rfl, v, T, n, rfl, hT4, qT, sT, n1, n8, fun pt tl us es ys L5 H5 s5 hpt gr le pu htl rw5 lt5 ln5 => ?_⟩
  refine ixT (j := 0) (.of hpt) rfl ?_
  refine ⟨.inl ⟨by decide, by decide⟩, ?_⟩
  have hT5 := hT4.same s5
  refine ⟨_, rfl, v, T, n, rfl, hT5, qT, n1, n8, fun pA aA HA gA lA sA hA => ?_⟩
  have hTA := hT5.same sA
  refine ⟨_, rfl, v, T, n, rfl, hTA, qT, n1, n8, fun pB aB HB gB lB sB hB => ?_⟩
  have hTB := hTA.same sB
  refine ⟨_, rfl, v, T, n, rfl, hTB, qT, n1, n8, fun pC aC HC gC lC sC hC => ?_⟩
  have hTC := hTB.same sC
  refine ⟨_, rfl, v, T, n, rfl, hTC, qT, n1, n8, fun pD aD HD gD lD sD hD => ⟨show 4 ≤ sizeLine by decide, fun F hF => ?_⟩⟩
  have sF := same_new hF (.lst [.ref aA, .ref aB, .ref aC, .ref aD])
  have hTF := (hTC.same sD).same sF
  have hFF : (upd HD F (.lst [.ref aA, .ref aB, .ref aC, .ref aD])) F = some (.lst [.ref aA, .ref aB, .ref aC, .ref aD]) := upd_same
  have at4 : At4 K (upd HD F (.lst [.ref aA, .ref aB, .ref aC, .ref aD])) [aA, aB, aC, aD] [pA, pB, pC, pD] := by
    refine ⟨rfl, fun i a ps e1 e2 => ?_⟩
    match i, e1, e2 with
    | 0, e1, e2 => cases e1; cases e2; exact (((sB.trans sC).trans sD).trans sF).tup hA
    | 1, e1, e2 => cases e1; cases e2; exact ((sC.trans sD).trans sF).tup hB
    | 2, e1, e2 => cases e1; cases e2; exact (sD.trans sF).tup hC
    | 3, e1, e2 => cases e1; cases e2; exact sF.tup hD
    | i + 4, e1, e2 => cases e1
  have tourG : ∀ {w : Nat} {ps : List Nat}, Gr w T n ps → ps.length = n → Tour n ps := fun h len => by
    obtain ⟨h0, nd, lt⟩ := grow_facts n1 h
    exact ⟨h0, mem_all nd lt len⟩
  have tCC : Tour n pC := by
    obtain ⟨h0, nd, lt, _⟩ := path_near n1 gC
    exact ⟨h0, mem_all nd lt lC⟩
  have tA := tourG gA lA
  have tB' := tourG gB lB
  have tD := tourG gD lD
  have tours : ∀ ps ∈ [pA, pB, pC, pD], Tour n ps := fun ps hps => by
    rcases List.mem_cons.mp hps with rfl | hps
    · exact tA
    rcases List.mem_cons.mp hps with rfl | hps
    · exact tB'
    rcases List.mem_cons.mp hps with rfl | hps
    · exact tCC
    rw [List.mem_singleton.mp hps]
    exact tD
  have sAll := ((((s3.trans s4).trans s5).trans sA).trans sB).trans ((sC.trans sD).trans sF)
  have hPF := hP2.x sAll
  generalize upd HD F (.lst [.ref aA, .ref aB, .ref aC, .ref aD]) = G at *
  have bests : S.rest (at2 T) n ([0], 0) ≤ sumL T pA ∧ S.rest (at2 T) n ([0], 0) ≤ sumL T pB ∧ S.rest (at2 T) n ([0], 0) ≤ sumL T pC ∧ S.rest (at2 T) n ([0], 0) ≤ sumL T pD := by
    rw [sumL_rl tA.hd, sumL_rl tB'.hd, sumL_rl tCC.hd, sumL_rl tD.hd]
    exact ⟨tA.le n1, tB'.le n1, tCC.le n1, tD.le n1⟩
  have treeA : sumL T pA ≤ 2 * (Tr.wts (at2 T) es).sum := by rw [sumL_rl tA.hd]; exact put_tree m n1 (by decide) gA lA gr pu
  have treeB : sumL T pB ≤ 2 * (Tr.wts (at2 T) es).sum := by rw [sumL_rl tB'.hd]; exact put_tree m n1 (by decide) gB lB gr pu
  have nearC : 2 * sumL T pC ≤ (((if 1 < n then 1 else 0) + (if 2 < n then 1 else 0) + (if 4 < n then 1 else 0) : Int) + 1) * S.rest (at2 T) n ([0], 0) := by
    rw [sumL_rl tCC.hd]
    obtain ⟨w, hw, ew⟩ := S.rest_att (t := at2 T) n1 n8
    rw [← ew]
    obtain ⟨w1, w2, w3⟩ := S.mem_rounds.mp hw
    refine near_le m n1 n8 gC lC (mem_all (List.nodup_cons.mpr ⟨fun z => (w3 0 z).2 rfl, w2⟩) (fun x hx => ?_) (by rw [List.length_cons]; omega))
    rcases List.mem_cons.mp hx with rfl | hx
    · omega
    · exact (w3 x hx).1
  generalize S.rest (at2 T) n ([0], 0) = least at *
  generalize (Tr.wts (at2 T) es).sum = tree at *
  obtain ⟨ta, rs, rfl, hta, hrl, _⟩ := id hTF.tab
  have hrn : rs.length = n := hrl.trans qT.len
  refine ⟨_, rfl, .ref ta, T, n, rfl, hTF, qT, n1, n8, fun G1 t1 => ?_⟩
  refine .inl ⟨_, _, rfl, rfl, _, rfl, iteF' (by show (!((strL T n).all id == true)) = false; rw [str_all tT]; rfl) ?_⟩
  refine ⟨_, rfl, F, rfl, .inl ⟨⟨_, .of (t1 _ _ hFF)⟩, fun acc hacc => ?_⟩⟩
  refine comp_emitsD [0] ((List.replicate 4 true).map V.bl) hacc (by simp) ?_ fun σ' G2 t2 hl2 => ⟨acc, List.replicate 4 true, rfl, .inl (.of hl2), _, rfl, iteF' rfl ?_⟩
  · refine Emits.cast (L := (List.range [V.ref aA, V.ref aB, V.ref aC, V.ref aD].length).flatMap fun i => [V.bl true]) ?_ (flat_reps 4)
    refine loop_list (K := K) (a := F) (xs := [V.ref aA, V.ref aB, V.ref aC, V.ref aD]) (by decide) (by show 0 < 2; decide) (fun H' sx => .of (same_of_x hacc sx _ _ (t1 _ _ hFF))) fun i x σ1 H' hx l1 ag1 s1 sx1 _ => ?_
    have hi : i < 4 := (List.getElem?_eq_some_iff.mp hx).1
    have hx' : ([aA, aB, aC, aD].map V.ref)[i]? = some x := hx
    rw [List.getElem?_map] at hx'
    obtain ⟨ad, ead, rfl⟩ := Option.map_eq_some_iff.mp hx'
    have hps : [pA, pB, pC, pD][i]? = some ([pA, pB, pC, pD].getD i []) := by rw [List.getD_eq_getElem?_getD, List.getElem?_eq_getElem (show i < [pA, pB, pC, pD].length from hi)]; rfl
    have hq := (at4.same (t1.trans (same_of_x hacc sx1))).2 i ad _ ead hps
    have tr := tours _ (List.mem_of_getElem? hps)
    generalize [pA, pB, pC, pD].getD i [] = ps at hq tr
    have e1 : σ1[1]? = some (some (.ref ta)) := (ag1 1 (by decide)).trans rfl
    refine emits_one fun R hR => ⟨_, e1, _, s1, ta, rs, .ref ad, .tup ((ps.map fun p : Nat => (p : Int)).map Dt.int), rfl, (t1.trans (same_of_x hacc sx1)).tup hta, by omega, ⟨ad, _, rfl, by rw [natV_map] at hq; exact hq, ShL.ints _⟩, fun ds e => ?_, fun H2 s2 => ?_⟩
    · cases e
      rw [List.length_map, List.length_map, tr.pm.length_eq, List.length_range]
      omega
    · rw [hrn, tr.ro]
      exact .inl ⟨_, _, rfl, rfl, hR H2 s2⟩
  have t12 := t1.trans t2
  refine ⟨_, rfl, F, rfl, .inl ⟨⟨_, .of (t12 _ _ hFF)⟩, fun A hA' => ?_⟩⟩
  refine comp_emitsD [0] (([pA, pB, pC, pD].map (sumL T)).map V.int) hA' (by simp) ?_ fun σ2 G3 t3 hl3 => ?_
  · refine Emits.cast (L := (List.range [V.ref aA, V.ref aB, V.ref aC, V.ref aD].length).flatMap fun i => [V.int (sumL T ([pA, pB, pC, pD].getD i []))]) ?_ (flat_sums [pA, pB, pC, pD])
    refine loop_list (K := K) (a := F) (xs := [V.ref aA, V.ref aB, V.ref aC, V.ref aD]) (by decide) (by show 0 < 2; decide) (fun H' sx => .of (same_of_x hA' sx _ _ (t12 _ _ hFF))) fun i x σ1 H' hx l1 ag1 s1 sx1 _ => ?_
    have hi : i < 4 := (List.getElem?_eq_some_iff.mp hx).1
    have hx' : ([aA, aB, aC, aD].map V.ref)[i]? = some x := hx
    rw [List.getElem?_map] at hx'
    obtain ⟨ad, ead, rfl⟩ := Option.map_eq_some_iff.mp hx'
    have hps : [pA, pB, pC, pD][i]? = some ([pA, pB, pC, pD].getD i []) := by rw [List.getD_eq_getElem?_getD, List.getElem?_eq_getElem (show i < [pA, pB, pC, pD].length from hi)]; rfl
    have hq := (at4.same (t12.trans (same_of_x hA' sx1))).2 i ad _ ead hps
    have tr := tours _ (List.mem_of_getElem? hps)
    generalize [pA, pB, pC, pD].getD i [] = ps at hq tr
    have e1 : σ1[1]? = some (some (.ref ta)) := (ag1 1 (by decide)).trans rfl
    have lps : ps.length = n := by rw [tr.pm.length_eq, List.length_range]
    exact emits_one fun R hR => ⟨_, e1, _, s1, .ref ta, ad, T, n, ps, rfl, hTF.same (t12.trans (same_of_x hA' sx1)), qT, hq, by omega, by omega, (fun q hq' => List.mem_range.mp (tr.pm.mem_iff.mp hq')), fun H2 s2 => hR H2 s2⟩
  have hS3 : SqL K G3 A [V.int (sumL T pA), V.int (sumL T pB), V.int (sumL T pC), V.int (sumL T pD)] := .of hl3
  refine ⟨_, rfl, .inl ⟨A, [sumL T pA, sumL T pB, sumL T pC, sumL T pD], rfl, .inl hS3, by simp, fun mn m1 m2 => ?_⟩⟩
  have hmn : least ≤ mn := by
    rcases List.mem_cons.mp m1 with rfl | m1
    · exact bests.1
    rcases List.mem_cons.mp m1 with rfl | m1
    · exact bests.2.1
    rcases List.mem_cons.mp m1 with rfl | m1
    · exact bests.2.2.1
    rw [List.mem_singleton.mp m1]
    exact bests.2.2.2
  refine ⟨_, rfl, _, _, rfl, rfl, _, rfl, iteF' (decide_eq_false (by omega)) ?_⟩
  refine ⟨_, rfl, ixL (j := 0) hS3 rfl ⟨_, rfl, _, _, rfl, rfl, _, rfl, iteF' (decide_eq_false (by omega)) ?_⟩⟩
  refine ⟨_, rfl, ixL (j := 1) hS3 rfl ⟨_, rfl, _, _, rfl, rfl, _, rfl, iteF' (decide_eq_false (by omega)) ?_⟩⟩
  refine ⟨show 9 ≤ sizeLine by decide, fun B9 hB9 => ?_⟩
  have s9 := same_new hB9 (.lst [.int 0, .int 0, .int 1, .int 2, .int 2, .int 3, .int 3, .int 3, .int 3])
  have h9 : (upd G3 B9 (.lst [.int 0, .int 0, .int 1, .int 2, .int 2, .int 3, .int 3, .int 3, .int 3])) B9 = some (.lst [.int 0, .int 0, .int 1, .int 2, .int 2, .int 3, .int 3, .int 3, .int 3]) := upd_same
  have hS9 : SqL K (upd G3 B9 (.lst [.int 0, .int 0, .int 1, .int 2, .int 2, .int 3, .int 3, .int 3, .int 3])) A [V.int (sumL T pA), V.int (sumL T pB), V.int (sumL T pC), V.int (sumL T pD)] := .of (s9 _ _ hl3)
  have hP9 := hPF.x ((t12.trans t3).trans s9)
  generalize upd G3 B9 (.lst [.int 0, .int 0, .int 1, .int 2, .int 2, .int 3, .int 3, .int 3, .int 3]) = G4 at *
  obtain ⟨kk, hkk, ekk⟩ : ∃ kk : Int, [V.int 0, V.int 0, V.int 1, V.int 2, V.int 2, V.int 3, V.int 3, V.int 3, V.int 3][n]? = some (V.int kk) ∧ kk = ((if 1 < n then 1 else 0) + (if 2 < n then 1 else 0) + (if 4 < n then 1 else 0) : Int) := by
    have : n = 1 ∨ n = 2 ∨ n = 3 ∨ n = 4 ∨ n = 5 ∨ n = 6 ∨ n = 7 ∨ n = 8 := by omega
    rcases this with rfl | rfl | rfl | rfl | rfl | rfl | rfl | rfl <;> exact ⟨_, rfl, rfl⟩
  rw [← ekk] at nearC
  have bk : 0 ≤ kk ∧ kk ≤ 3 := by
    rw [ekk]
    split <;> split <;> split <;> omega
  refine ⟨_, rfl, ?_⟩
  rw [en]
  refine ixL (j := n) (.of h9) hkk ?_
  refine ⟨_, rfl, ixL (j := 2) hS9 rfl ⟨.inl ⟨by decide, by decide⟩, _, rfl, _, rfl, .inl ⟨by omega, by omega⟩, _, _, rfl, rfl, _, rfl, iteF' (decide_eq_false (by omega)) ?_⟩⟩
  exact hN _ _ _ _ _ _ _ k2 z2 G4 hP9 (by omega)
theorem rd_law : ∀ vs H Q E, spLaw K vs H Q E → T_law K (spPen K) (spStr K) (spSum K) (spETab K) spTake (spGrow K 0) (spGrow K 2) (L.spRound K) (spTab K fun T n => (strL T n).all id) (Tr.spTree K) (spGrow K 1) (spNear K) (S.spShort K) { nx := fun _ H' => Q .non H', rt := Q } (start ["script", "pen", "turn", "many", "table", "least", "twice", "tours", "sums", "k"] vs) H := by
  intro vs H Q E h
  obtain ⟨a, ns, rfl, hS, hn, q⟩ := h
  refine ⟨_, rfl, a, ns, rfl, hS, fun p l ms H1 s1 hP => ?_⟩
  refine ⟨3, rfl, by decide, by decide, ?_⟩
  refine for_range (lo := 0) (n := 3) (fun i σ' H' => ∃ x2 x3 x4 x5 x6 x7 x8 x9 k z, σ' = [some (.ref a), some (.ref p), x2, x3, x4, x5, x6, x7, x8, x9] ∧ PenAt H' p l ms k z ∧ k ≤ 300 * i) ⟨_, _, _, _, _, _, _, _, 0, 0, rfl, hP, Nat.zero_le _⟩ (fun i σ' H' hi ⟨x2, x3, x4, x5, x6, x7, x8, x9, k, z, es, hP', hk⟩ => ?_) fun σ' H' _ => q H'
  subst es
  exact rd_body hP' (by omega) fun x3 x4 x5 x6 x7 x8 x9 k' z' H2 hP2 hk' => ⟨_, _, _, _, _, _, _, _, k', z', rfl, hP2, by omega⟩
end
end K53
namespace K53
open PySem L2
section
variable {K : PySem.W.Frag}
theorem ln_joined : ∀ vs H Q E, (S.spJoin K) vs H Q E → vs.length = 2 := fun vs H Q E ⟨_, _, _, e, _⟩ => by rw [e]; rfl
theorem ln_parts_with_home : ∀ vs H Q E, S.spParts vs H Q E → vs.length = 1 := fun vs H Q E ⟨_, e, _⟩ => by rw [e]; rfl
theorem ln_onward : ∀ vs H Q E, (S.spOnw K) vs H Q E → vs.length = 4 := fun vs H Q E ⟨_, _, _, _, _, _, _, _, _, _, _, e, _⟩ => by rw [e]; rfl
theorem ln_least_rests : ∀ vs H Q E, (S.spRests K) vs H Q E → vs.length = 1 := fun vs H Q E ⟨_, _, _, e, _⟩ => by rw [e]; rfl
theorem ln_round_by_rests : ∀ vs H Q E, (S.spRound K) vs H Q E → vs.length = 2 := fun vs H Q E ⟨_, _, _, _, _, _, e, _⟩ => by rw [e]; rfl
theorem ln_shortest : ∀ vs H Q E, (S.spShort K) vs H Q E → vs.length = 1 := fun vs H Q E ⟨_, _, _, e, _⟩ => by rw [e]; rfl
theorem ln_places_left_shortest : ∀ vs H Q E, (S.spLeft K) vs H Q E → vs.length = 2 := fun vs H Q E ⟨_, _, _, _, _, e, _⟩ => by rw [e]; rfl
theorem ln_places_left_puttings : ∀ vs H Q E, (spLeft K) vs H Q E → vs.length = 2 := fun vs H Q E ⟨_, _, _, _, e, _⟩ => by rw [e]; rfl
theorem ln_least_spot : ∀ vs H Q E, (spSpot K) vs H Q E → vs.length = 3 := fun vs H Q E ⟨_, _, _, _, _, _, e, _⟩ => by rw [e]; rfl
theorem ln_with_place : ∀ vs H Q E, (spWith K) vs H Q E → vs.length = 3 := fun vs H Q E ⟨_, _, _, _, _, _, e, _⟩ => by rw [e]; rfl
theorem ln_way_to : ∀ vs H Q E, (spWay K) vs H Q E → vs.length = 3 := fun vs H Q E ⟨_, _, _, _, _, _, e, _⟩ => by rw [e]; rfl
theorem ln_nearest : ∀ vs H Q E, (spNear K) vs H Q E → vs.length = 1 := fun vs H Q E ⟨_, _, _, e, _⟩ => by rw [e]; rfl
theorem ln_cheapest : ∀ vs H Q E, (spGrow K 0) vs H Q E → vs.length = 1 := fun vs H Q E ⟨_, _, _, e, _⟩ => by rw [e]; rfl
theorem ln_near : ∀ vs H Q E, (spGrow K 1) vs H Q E → vs.length = 1 := fun vs H Q E ⟨_, _, _, e, _⟩ => by rw [e]; rfl
theorem ln_far : ∀ vs H Q E, (spGrow K 2) vs H Q E → vs.length = 1 := fun vs H Q E ⟨_, _, _, e, _⟩ => by rw [e]; rfl
theorem ln_is_whole : ∀ vs H Q E, (L.spW K) vs H Q E → vs.length = 1 := fun vs H Q E ⟨_, _, e, _⟩ => by rw [e]; rfl
theorem ln_are_wholes : ∀ vs H Q E, (L.spWs K) vs H Q E → vs.length = 1 := fun vs H Q E ⟨_, _, e, _⟩ => by rw [e]; rfl
theorem ln_is_round : ∀ vs H Q E, (L.spRound K) vs H Q E → vs.length = 2 := fun vs H Q E ⟨_, _, _, _, e, _⟩ => by rw [e]; rfl
theorem ln_is_even : ∀ vs H Q E, (Tr.spEv K) vs H Q E → vs.length = 1 := fun vs H Q E ⟨_, _, _, e, _⟩ => by rw [e]; rfl
theorem ln_is_straight : ∀ vs H Q E, (spTab K fun T n => (strL T n).all id) vs H Q E → vs.length = 1 := fun vs H Q E ⟨_, _, _, e, _⟩ => by rw [e]; rfl
theorem ln_tree_sum : ∀ vs H Q E, (Tr.spTS K) vs H Q E → vs.length = 2 := fun vs H Q E ⟨_, _, _, _, _, _, e, _⟩ => by rw [e]; rfl
theorem ln_least_tree : ∀ vs H Q E, (Tr.spTree K) vs H Q E → vs.length = 1 := fun vs H Q E ⟨_, _, _, e, _⟩ => by rw [e]; rfl
theorem ln__law_e_pen : ∀ vs H Q E, (spPen K) vs H Q E → vs.length = 1 := fun vs H Q E ⟨_, _, e, _⟩ => by rw [e]; rfl
theorem ln__law_e_fresh : ∀ vs H Q E, spFresh vs H Q E → vs.length = 1 := fun vs H Q E ⟨_, _, _, _, _, e, _⟩ => by rw [e]; rfl
theorem ln__law_e_take : ∀ vs H Q E, spTake vs H Q E → vs.length = 2 := fun vs H Q E ⟨_, _, _, _, _, _, e, _⟩ => by rw [e]; rfl
theorem ln__law_e_table : ∀ vs H Q E, (spETab K) vs H Q E → vs.length = 3 := fun vs H Q E ⟨_, _, _, _, _, _, _, e, _⟩ => by rw [e]; rfl
theorem ln__law_e_straight : ∀ vs H Q E, (spStr K) vs H Q E → vs.length = 1 := fun vs H Q E ⟨_, _, _, e, _⟩ => by rw [e]; rfl
theorem ln__law_e_sum : ∀ vs H Q E, (spSum K) vs H Q E → vs.length = 2 := fun vs H Q E ⟨_, _, _, _, _, e, _⟩ => by rw [e]; rfl
theorem ln_law : ∀ vs H Q E, spLaw K vs H Q E → vs.length = 1 := fun vs H Q E ⟨a, ns, e, _⟩ => by rw [e]; rfl
end
theorem all_mk {l : PySem.W.OpenLaw} {w : World} {K : PySem.W.Frag} {h : Heap} {mg : Str → Option Value} {fa : Addr} (X : K.In h) (G : h.Ns mainGlobals mg) (hfa : mg "law" = some (.ref fa))
    {f0 : Addr} {od0 an0 : Option Addr} {sl0 : Array (Option Value)} {oc0 kV0 dc0 pm0 cd0 ct0 : Value} (a0 : PySem.W.nsIn K mainGlobals "nearest" = some (some (.ref f0))) (l0 : K.lookup f0 = some ⟨oc0, od0, .func (PySem.W.fnOf "nearest" "nearest" (defArgs (top 1)) (defBody (top 1)) (defScope (top 1)) .none kV0 dc0 pm0 an0 cd0 ct0), sl0⟩) (c0 : PySem.W.codeIn K cd0 "nearest" = true) (k0 : PySem.W.keepIn K (.ref f0) = true)
    {f1 : Addr} {od1 an1 : Option Addr} {sl1 : Array (Option Value)} {oc1 kV1 dc1 pm1 cd1 ct1 : Value} (a1 : PySem.W.nsIn K mainGlobals "places_left_puttings" = some (some (.ref f1))) (l1 : K.lookup f1 = some ⟨oc1, od1, .func (PySem.W.fnOf "places_left" "places_left" (defArgs (top 2)) (defBody (top 2)) (defScope (top 2)) .none kV1 dc1 pm1 an1 cd1 ct1), sl1⟩) (c1 : PySem.W.codeIn K cd1 "places_left" = true) (k1 : PySem.W.keepIn K (.ref f1) = true)
    {f2 : Addr} {od2 an2 : Option Addr} {sl2 : Array (Option Value)} {oc2 kV2 dc2 pm2 cd2 ct2 : Value} (a2 : PySem.W.nsIn K mainGlobals "least_spot" = some (some (.ref f2))) (l2 : K.lookup f2 = some ⟨oc2, od2, .func (PySem.W.fnOf "least_spot" "least_spot" (defArgs (top 4)) (defBody (top 4)) (defScope (top 4)) .none kV2 dc2 pm2 an2 cd2 ct2), sl2⟩) (c2 : PySem.W.codeIn K cd2 "least_spot" = true) (k2 : PySem.W.keepIn K (.ref f2) = true)
    {f3 : Addr} {od3 an3 : Option Addr} {sl3 : Array (Option Value)} {oc3 kV3 dc3 pm3 cd3 ct3 : Value} (a3 : PySem.W.nsIn K mainGlobals "with_place" = some (some (.ref f3))) (l3 : K.lookup f3 = some ⟨oc3, od3, .func (PySem.W.fnOf "with_place" "with_place" (defArgs (top 5)) (defBody (top 5)) (defScope (top 5)) .none kV3 dc3 pm3 an3 cd3 ct3), sl3⟩) (c3 : PySem.W.codeIn K cd3 "with_place" = true) (k3 : PySem.W.keepIn K (.ref f3) = true)
    {f4 : Addr} {od4 an4 : Option Addr} {sl4 : Array (Option Value)} {oc4 kV4 dc4 pm4 cd4 ct4 : Value} (a4 : PySem.W.nsIn K mainGlobals "way_to" = some (some (.ref f4))) (l4 : K.lookup f4 = some ⟨oc4, od4, .func (PySem.W.fnOf "way_to" "way_to" (defArgs (top 6)) (defBody (top 6)) (defScope (top 6)) .none kV4 dc4 pm4 an4 cd4 ct4), sl4⟩) (c4 : PySem.W.codeIn K cd4 "way_to" = true) (k4 : PySem.W.keepIn K (.ref f4) = true)
    {f5 : Addr} {od5 an5 : Option Addr} {sl5 : Array (Option Value)} {oc5 kV5 dc5 pm5 cd5 ct5 : Value} (a5 : PySem.W.nsIn K mainGlobals "cheapest" = some (some (.ref f5))) (l5 : K.lookup f5 = some ⟨oc5, od5, .func (PySem.W.fnOf "cheapest" "cheapest" (defArgs (top 7)) (defBody (top 7)) (defScope (top 7)) .none kV5 dc5 pm5 an5 cd5 ct5), sl5⟩) (c5 : PySem.W.codeIn K cd5 "cheapest" = true) (k5 : PySem.W.keepIn K (.ref f5) = true)
    {f6 : Addr} {od6 an6 : Option Addr} {sl6 : Array (Option Value)} {oc6 kV6 dc6 pm6 cd6 ct6 : Value} (a6 : PySem.W.nsIn K mainGlobals "near" = some (some (.ref f6))) (l6 : K.lookup f6 = some ⟨oc6, od6, .func (PySem.W.fnOf "near" "near" (defArgs (top 8)) (defBody (top 8)) (defScope (top 8)) .none kV6 dc6 pm6 an6 cd6 ct6), sl6⟩) (c6 : PySem.W.codeIn K cd6 "near" = true) (k6 : PySem.W.keepIn K (.ref f6) = true)
    {f7 : Addr} {od7 an7 : Option Addr} {sl7 : Array (Option Value)} {oc7 kV7 dc7 pm7 cd7 ct7 : Value} (a7 : PySem.W.nsIn K mainGlobals "far" = some (some (.ref f7))) (l7 : K.lookup f7 = some ⟨oc7, od7, .func (PySem.W.fnOf "far" "far" (defArgs (top 9)) (defBody (top 9)) (defScope (top 9)) .none kV7 dc7 pm7 an7 cd7 ct7), sl7⟩) (c7 : PySem.W.codeIn K cd7 "far" = true) (k7 : PySem.W.keepIn K (.ref f7) = true)
    {f8 : Addr} {od8 an8 : Option Addr} {sl8 : Array (Option Value)} {oc8 kV8 dc8 pm8 cd8 ct8 : Value} (a8 : PySem.W.nsIn K mainGlobals "is_whole" = some (some (.ref f8))) (l8 : K.lookup f8 = some ⟨oc8, od8, .func (PySem.W.fnOf "is_whole" "is_whole" (defArgs (top 11)) (defBody (top 11)) (defScope (top 11)) .none kV8 dc8 pm8 an8 cd8 ct8), sl8⟩) (c8 : PySem.W.codeIn K cd8 "is_whole" = true) (k8 : PySem.W.keepIn K (.ref f8) = true)
    {f9 : Addr} {od9 an9 : Option Addr} {sl9 : Array (Option Value)} {oc9 kV9 dc9 pm9 cd9 ct9 : Value} (a9 : PySem.W.nsIn K mainGlobals "are_wholes" = some (some (.ref f9))) (l9 : K.lookup f9 = some ⟨oc9, od9, .func (PySem.W.fnOf "are_wholes" "are_wholes" (defArgs (top 12)) (defBody (top 12)) (defScope (top 12)) .none kV9 dc9 pm9 an9 cd9 ct9), sl9⟩) (c9 : PySem.W.codeIn K cd9 "are_wholes" = true) (k9 : PySem.W.keepIn K (.ref f9) = true)
    {f10 : Addr} {od10 an10 : Option Addr} {sl10 : Array (Option Value)} {oc10 kV10 dc10 pm10 cd10 ct10 : Value} (a10 : PySem.W.nsIn K mainGlobals "shortest" = some (some (.ref f10))) (l10 : K.lookup f10 = some ⟨oc10, od10, .func (PySem.W.fnOf "shortest" "shortest" (defArgs (top 15)) (defBody (top 15)) (defScope (top 15)) .none kV10 dc10 pm10 an10 cd10 ct10), sl10⟩) (c10 : PySem.W.codeIn K cd10 "shortest" = true) (k10 : PySem.W.keepIn K (.ref f10) = true)
    {f11 : Addr} {od11 an11 : Option Addr} {sl11 : Array (Option Value)} {oc11 kV11 dc11 pm11 cd11 ct11 : Value} (a11 : PySem.W.nsIn K mainGlobals "least_rests" = some (some (.ref f11))) (l11 : K.lookup f11 = some ⟨oc11, od11, .func (PySem.W.fnOf "least_rests" "least_rests" (defArgs (top 16)) (defBody (top 16)) (defScope (top 16)) .none kV11 dc11 pm11 an11 cd11 ct11), sl11⟩) (c11 : PySem.W.codeIn K cd11 "least_rests" = true) (k11 : PySem.W.keepIn K (.ref f11) = true)
    {f12 : Addr} {od12 an12 : Option Addr} {sl12 : Array (Option Value)} {oc12 kV12 dc12 pm12 cd12 ct12 : Value} (a12 : PySem.W.nsIn K mainGlobals "parts_with_home" = some (some (.ref f12))) (l12 : K.lookup f12 = some ⟨oc12, od12, .func (PySem.W.fnOf "parts_with_home" "parts_with_home" (defArgs (top 17)) (defBody (top 17)) (defScope (top 17)) .none kV12 dc12 pm12 an12 cd12 ct12), sl12⟩) (c12 : PySem.W.codeIn K cd12 "parts_with_home" = true) (k12 : PySem.W.keepIn K (.ref f12) = true)
    {f13 : Addr} {od13 an13 : Option Addr} {sl13 : Array (Option Value)} {oc13 kV13 dc13 pm13 cd13 ct13 : Value} (a13 : PySem.W.nsIn K mainGlobals "joined" = some (some (.ref f13))) (l13 : K.lookup f13 = some ⟨oc13, od13, .func (PySem.W.fnOf "joined" "joined" (defArgs (top 18)) (defBody (top 18)) (defScope (top 18)) .none kV13 dc13 pm13 an13 cd13 ct13), sl13⟩) (c13 : PySem.W.codeIn K cd13 "joined" = true) (k13 : PySem.W.keepIn K (.ref f13) = true)
    {f14 : Addr} {od14 an14 : Option Addr} {sl14 : Array (Option Value)} {oc14 kV14 dc14 pm14 cd14 ct14 : Value} (a14 : PySem.W.nsIn K mainGlobals "places_left_shortest" = some (some (.ref f14))) (l14 : K.lookup f14 = some ⟨oc14, od14, .func (PySem.W.fnOf "places_left" "places_left" (defArgs (top 19)) (defBody (top 19)) (defScope (top 19)) .none kV14 dc14 pm14 an14 cd14 ct14), sl14⟩) (c14 : PySem.W.codeIn K cd14 "places_left" = true) (k14 : PySem.W.keepIn K (.ref f14) = true)
    {f15 : Addr} {od15 an15 : Option Addr} {sl15 : Array (Option Value)} {oc15 kV15 dc15 pm15 cd15 ct15 : Value} (a15 : PySem.W.nsIn K mainGlobals "onward" = some (some (.ref f15))) (l15 : K.lookup f15 = some ⟨oc15, od15, .func (PySem.W.fnOf "onward" "onward" (defArgs (top 21)) (defBody (top 21)) (defScope (top 21)) .none kV15 dc15 pm15 an15 cd15 ct15), sl15⟩) (c15 : PySem.W.codeIn K cd15 "onward" = true) (k15 : PySem.W.keepIn K (.ref f15) = true)
    {f16 : Addr} {od16 an16 : Option Addr} {sl16 : Array (Option Value)} {oc16 kV16 dc16 pm16 cd16 ct16 : Value} (a16 : PySem.W.nsIn K mainGlobals "round_by_rests" = some (some (.ref f16))) (l16 : K.lookup f16 = some ⟨oc16, od16, .func (PySem.W.fnOf "round_by_rests" "round_by_rests" (defArgs (top 22)) (defBody (top 22)) (defScope (top 22)) .none kV16 dc16 pm16 an16 cd16 ct16), sl16⟩) (c16 : PySem.W.codeIn K cd16 "round_by_rests" = true) (k16 : PySem.W.keepIn K (.ref f16) = true)
    {f17 : Addr} {od17 an17 : Option Addr} {sl17 : Array (Option Value)} {oc17 kV17 dc17 pm17 cd17 ct17 : Value} (a17 : PySem.W.nsIn K mainGlobals "is_even" = some (some (.ref f17))) (l17 : K.lookup f17 = some ⟨oc17, od17, .func (PySem.W.fnOf "is_even" "is_even" (defArgs (top 24)) (defBody (top 24)) (defScope (top 24)) .none kV17 dc17 pm17 an17 cd17 ct17), sl17⟩) (c17 : PySem.W.codeIn K cd17 "is_even" = true) (k17 : PySem.W.keepIn K (.ref f17) = true)
    {f18 : Addr} {od18 an18 : Option Addr} {sl18 : Array (Option Value)} {oc18 kV18 dc18 pm18 cd18 ct18 : Value} (a18 : PySem.W.nsIn K mainGlobals "is_straight" = some (some (.ref f18))) (l18 : K.lookup f18 = some ⟨oc18, od18, .func (PySem.W.fnOf "is_straight" "is_straight" (defArgs (top 25)) (defBody (top 25)) (defScope (top 25)) .none kV18 dc18 pm18 an18 cd18 ct18), sl18⟩) (c18 : PySem.W.codeIn K cd18 "is_straight" = true) (k18 : PySem.W.keepIn K (.ref f18) = true)
    {f19 : Addr} {od19 an19 : Option Addr} {sl19 : Array (Option Value)} {oc19 kV19 dc19 pm19 cd19 ct19 : Value} (a19 : PySem.W.nsIn K mainGlobals "is_round" = some (some (.ref f19))) (l19 : K.lookup f19 = some ⟨oc19, od19, .func (PySem.W.fnOf "is_round" "is_round" (defArgs (top 26)) (defBody (top 26)) (defScope (top 26)) .none kV19 dc19 pm19 an19 cd19 ct19), sl19⟩) (c19 : PySem.W.codeIn K cd19 "is_round" = true) (k19 : PySem.W.keepIn K (.ref f19) = true)
    {f20 : Addr} {od20 an20 : Option Addr} {sl20 : Array (Option Value)} {oc20 kV20 dc20 pm20 cd20 ct20 : Value} (a20 : PySem.W.nsIn K mainGlobals "least_tree" = some (some (.ref f20))) (l20 : K.lookup f20 = some ⟨oc20, od20, .func (PySem.W.fnOf "least_tree" "least_tree" (defArgs (top 31)) (defBody (top 31)) (defScope (top 31)) .none kV20 dc20 pm20 an20 cd20 ct20), sl20⟩) (c20 : PySem.W.codeIn K cd20 "least_tree" = true) (k20 : PySem.W.keepIn K (.ref f20) = true)
    {f21 : Addr} {od21 an21 : Option Addr} {sl21 : Array (Option Value)} {oc21 kV21 dc21 pm21 cd21 ct21 : Value} (a21 : PySem.W.nsIn K mainGlobals "tree_sum" = some (some (.ref f21))) (l21 : K.lookup f21 = some ⟨oc21, od21, .func (PySem.W.fnOf "tree_sum" "tree_sum" (defArgs (top 32)) (defBody (top 32)) (defScope (top 32)) .none kV21 dc21 pm21 an21 cd21 ct21), sl21⟩) (c21 : PySem.W.codeIn K cd21 "tree_sum" = true) (k21 : PySem.W.keepIn K (.ref f21) = true)
    {f22 : Addr} {od22 an22 : Option Addr} {sl22 : Array (Option Value)} {oc22 kV22 dc22 pm22 cd22 ct22 : Value} (a22 : PySem.W.nsIn K mainGlobals "_law_e_pen" = some (some (.ref f22))) (l22 : K.lookup f22 = some ⟨oc22, od22, .func (PySem.W.fnOf "_law_e_pen" "_law_e_pen" (defArgs (top 34)) (defBody (top 34)) (defScope (top 34)) .none kV22 dc22 pm22 an22 cd22 ct22), sl22⟩) (c22 : PySem.W.codeIn K cd22 "_law_e_pen" = true) (k22 : PySem.W.keepIn K (.ref f22) = true)
    {f23 : Addr} {od23 an23 : Option Addr} {sl23 : Array (Option Value)} {oc23 kV23 dc23 pm23 cd23 ct23 : Value} (a23 : PySem.W.nsIn K mainGlobals "_law_e_fresh" = some (some (.ref f23))) (l23 : K.lookup f23 = some ⟨oc23, od23, .func (PySem.W.fnOf "_law_e_fresh" "_law_e_fresh" (defArgs (top 35)) (defBody (top 35)) (defScope (top 35)) .none kV23 dc23 pm23 an23 cd23 ct23), sl23⟩) (c23 : PySem.W.codeIn K cd23 "_law_e_fresh" = true) (k23 : PySem.W.keepIn K (.ref f23) = true)
    {f24 : Addr} {od24 an24 : Option Addr} {sl24 : Array (Option Value)} {oc24 kV24 dc24 pm24 cd24 ct24 : Value} (a24 : PySem.W.nsIn K mainGlobals "_law_e_take" = some (some (.ref f24))) (l24 : K.lookup f24 = some ⟨oc24, od24, .func (PySem.W.fnOf "_law_e_take" "_law_e_take" (defArgs (top 36)) (defBody (top 36)) (defScope (top 36)) .none kV24 dc24 pm24 an24 cd24 ct24), sl24⟩) (c24 : PySem.W.codeIn K cd24 "_law_e_take" = true) (k24 : PySem.W.keepIn K (.ref f24) = true)
    {f25 : Addr} {od25 an25 : Option Addr} {sl25 : Array (Option Value)} {oc25 kV25 dc25 pm25 cd25 ct25 : Value} (a25 : PySem.W.nsIn K mainGlobals "_law_e_table" = some (some (.ref f25))) (l25 : K.lookup f25 = some ⟨oc25, od25, .func (PySem.W.fnOf "_law_e_table" "_law_e_table" (defArgs (top 37)) (defBody (top 37)) (defScope (top 37)) .none kV25 dc25 pm25 an25 cd25 ct25), sl25⟩) (c25 : PySem.W.codeIn K cd25 "_law_e_table" = true) (k25 : PySem.W.keepIn K (.ref f25) = true)
    {f26 : Addr} {od26 an26 : Option Addr} {sl26 : Array (Option Value)} {oc26 kV26 dc26 pm26 cd26 ct26 : Value} (a26 : PySem.W.nsIn K mainGlobals "_law_e_straight" = some (some (.ref f26))) (l26 : K.lookup f26 = some ⟨oc26, od26, .func (PySem.W.fnOf "_law_e_straight" "_law_e_straight" (defArgs (top 38)) (defBody (top 38)) (defScope (top 38)) .none kV26 dc26 pm26 an26 cd26 ct26), sl26⟩) (c26 : PySem.W.codeIn K cd26 "_law_e_straight" = true) (k26 : PySem.W.keepIn K (.ref f26) = true)
    {f27 : Addr} {od27 an27 : Option Addr} {sl27 : Array (Option Value)} {oc27 kV27 dc27 pm27 cd27 ct27 : Value} (a27 : PySem.W.nsIn K mainGlobals "_law_e_sum" = some (some (.ref f27))) (l27 : K.lookup f27 = some ⟨oc27, od27, .func (PySem.W.fnOf "_law_e_sum" "_law_e_sum" (defArgs (top 39)) (defBody (top 39)) (defScope (top 39)) .none kV27 dc27 pm27 an27 cd27 ct27), sl27⟩) (c27 : PySem.W.codeIn K cd27 "_law_e_sum" = true) (k27 : PySem.W.keepIn K (.ref f27) = true)
    {f28 : Addr} {od28 an28 : Option Addr} {sl28 : Array (Option Value)} {oc28 kV28 dc28 pm28 cd28 ct28 : Value} (a28 : PySem.W.nsIn K mainGlobals "law" = some (some (.ref f28))) (l28 : K.lookup f28 = some ⟨oc28, od28, .func (PySem.W.fnOf "law" "law" (defArgs (top 40)) (defBody (top 40)) (defScope (top 40)) .none kV28 dc28 pm28 an28 cd28 ct28), sl28⟩) (c28 : PySem.W.codeIn K cd28 "law" = true) (k28 : PySem.W.keepIn K (.ref f28) = true)
    (z_len : PySem.W.nsIn K mainGlobals "len" = some none)
    (z_all : PySem.W.nsIn K mainGlobals "all" = some none)
    (z_min : PySem.W.nsIn K mainGlobals "min" = some none)
    (z_max : PySem.W.nsIn K mainGlobals "max" = some none)
    (z_sum : PySem.W.nsIn K mainGlobals "sum" = some none)
    (z_isinstance : PySem.W.nsIn K mainGlobals "isinstance" = some none)
    (z_sorted : PySem.W.nsIn K mainGlobals "sorted" = some none)
    (z_tuple : PySem.W.nsIn K mainGlobals "tuple" = some none)
    (z_list : PySem.W.nsIn K mainGlobals "list" = some none)
    (z_range : PySem.W.nsIn K mainGlobals "range" = some none)
    (z_int : PySem.W.nsIn K mainGlobals "int" = some none)
    (z_bool : PySem.W.nsIn K mainGlobals "bool" = some none)
    (z_zip : PySem.W.nsIn K mainGlobals "zip" = some none)
    (z_repr : PySem.W.nsIn K mainGlobals "repr" = some none)
    (z_enumerate : PySem.W.nsIn K mainGlobals "enumerate" = some none)
    (z_reversed : PySem.W.nsIn K mainGlobals "reversed" = some none)
    (z_str : PySem.W.nsIn K mainGlobals "str" = some none)
    (z_set : PySem.W.nsIn K mainGlobals "set" = some none)
    (z_abs : PySem.W.nsIn K mainGlobals "abs" = some none)
    {C_START : Addr} (ac_START : PySem.W.nsIn K mainGlobals "START" = some (some (.ref C_START)))
    {bS : Addr} {nS nT : Nat} {slS slT : Array (Option Value)} {tS tT : Tok}
    (lS : K.lookup C_START = some ⟨.type "tuple", none, .seq #[.ref bS, .int 0 tS] nS, slS⟩)
    (lT : K.lookup bS = some ⟨.type "tuple", none, .seq #[.int 0 tT] nT, slT⟩) :
    ∃ fd : FuncData, (∀ (s : Shared) (v : Value), BindsTo s fd ⟨[v], []⟩ [("script", v)]) ∧ ∀ base : Heap, K.In base → base.Ns mainGlobals mg → FnOk l.prog w K mg base CX0 5 fa fd ["script"] (spLaw K) := by
  have e := hfa.symm.trans (PySem.W.mg_of X G a28)
  cases e
  have B : Blt4 mg := ⟨⟨⟨⟨PySem.W.mg_none_of X G z_len, PySem.W.mg_none_of X G z_all, PySem.W.mg_none_of X G z_min, PySem.W.mg_none_of X G z_max, PySem.W.mg_none_of X G z_sum, PySem.W.mg_none_of X G z_isinstance, PySem.W.mg_none_of X G z_sorted, PySem.W.mg_none_of X G z_tuple, PySem.W.mg_none_of X G z_list, PySem.W.mg_none_of X G z_range, PySem.W.mg_none_of X G z_int, PySem.W.mg_none_of X G z_bool⟩, PySem.W.mg_none_of X G z_zip, PySem.W.mg_none_of X G z_repr, PySem.W.mg_none_of X G z_enumerate, PySem.W.mg_none_of X G z_reversed, PySem.W.mg_none_of X G z_str⟩, PySem.W.mg_none_of X G z_set⟩, PySem.W.mg_none_of X G z_abs⟩
  have GC_START := PySem.W.mg_of X G ac_START
  have hS : ∀ H, KeyQ K H (S.kc ([0], 0)) C_START := fun H => ⟨bS, .inr ⟨_, _, _, lS, rfl, rfl, rfl, by show 2 ≤ sizeLine; decide, .cons rfl (.cons ⟨_, rfl⟩ .nil)⟩, .inr ⟨_, _, _, lT, rfl, rfl, rfl, by show 1 ≤ sizeLine; decide, .cons ⟨_, rfl⟩ .nil⟩⟩
  have F0 := fun_mk (st := top 1) l0 c0 k0
  have b0 := F0.binds (ps := ["table"]) fun _ _ _ _ _ _ us hl => match us, hl with | [_], _ => rfl
  have F1 := fun_mk (st := top 2) l1 c1 k1
  have b1 := F1.binds (ps := ["table", "gone"]) fun _ _ _ _ _ _ us hl => match us, hl with | [_, _], _ => rfl
  have F2 := fun_mk (st := top 4) l2 c2 k2
  have b2 := F2.binds (ps := ["table", "gone", "place"]) fun _ _ _ _ _ _ us hl => match us, hl with | [_, _, _], _ => rfl
  have F3 := fun_mk (st := top 5) l3 c3 k3
  have b3 := F3.binds (ps := ["table", "gone", "place"]) fun _ _ _ _ _ _ us hl => match us, hl with | [_, _, _], _ => rfl
  have F4 := fun_mk (st := top 6) l4 c4 k4
  have b4 := F4.binds (ps := ["table", "gone", "place"]) fun _ _ _ _ _ _ us hl => match us, hl with | [_, _, _], _ => rfl
  have F5 := fun_mk (st := top 7) l5 c5 k5
  have b5 := F5.binds (ps := ["table"]) fun _ _ _ _ _ _ us hl => match us, hl with | [_], _ => rfl
  have F6 := fun_mk (st := top 8) l6 c6 k6
  have b6 := F6.binds (ps := ["table"]) fun _ _ _ _ _ _ us hl => match us, hl with | [_], _ => rfl
  have F7 := fun_mk (st := top 9) l7 c7 k7
  have b7 := F7.binds (ps := ["table"]) fun _ _ _ _ _ _ us hl => match us, hl with | [_], _ => rfl
  have F8 := fun_mk (st := top 11) l8 c8 k8
  have b8 := F8.binds (ps := ["thing"]) fun _ _ _ _ _ _ us hl => match us, hl with | [_], _ => rfl
  have F9 := fun_mk (st := top 12) l9 c9 k9
  have b9 := F9.binds (ps := ["thing"]) fun _ _ _ _ _ _ us hl => match us, hl with | [_], _ => rfl
  have F10 := fun_mk (st := top 15) l10 c10 k10
  have b10 := F10.binds (ps := ["table"]) fun _ _ _ _ _ _ us hl => match us, hl with | [_], _ => rfl
  have F11 := fun_mk (st := top 16) l11 c11 k11
  have b11 := F11.binds (ps := ["table"]) fun _ _ _ _ _ _ us hl => match us, hl with | [_], _ => rfl
  have F12 := fun_mk (st := top 17) l12 c12 k12
  have b12 := F12.binds (ps := ["many"]) fun _ _ _ _ _ _ us hl => match us, hl with | [_], _ => rfl
  have F13 := fun_mk (st := top 18) l13 c13 k13
  have b13 := F13.binds (ps := ["some", "place"]) fun _ _ _ _ _ _ us hl => match us, hl with | [_, _], _ => rfl
  have F14 := fun_mk (st := top 19) l14 c14 k14
  have b14 := F14.binds (ps := ["table", "some"]) fun _ _ _ _ _ _ us hl => match us, hl with | [_, _], _ => rfl
  have F15 := fun_mk (st := top 21) l15 c15 k15
  have b15 := F15.binds (ps := ["table", "rests", "some", "last"]) fun _ _ _ _ _ _ us hl => match us, hl with | [_, _, _, _], _ => rfl
  have F16 := fun_mk (st := top 22) l16 c16 k16
  have b16 := F16.binds (ps := ["table", "rests"]) fun _ _ _ _ _ _ us hl => match us, hl with | [_, _], _ => rfl
  have F17 := fun_mk (st := top 24) l17 c17 k17
  have b17 := F17.binds (ps := ["table"]) fun _ _ _ _ _ _ us hl => match us, hl with | [_], _ => rfl
  have F18 := fun_mk (st := top 25) l18 c18 k18
  have b18 := F18.binds (ps := ["table"]) fun _ _ _ _ _ _ us hl => match us, hl with | [_], _ => rfl
  have F19 := fun_mk (st := top 26) l19 c19 k19
  have b19 := F19.binds (ps := ["table", "thing"]) fun _ _ _ _ _ _ us hl => match us, hl with | [_, _], _ => rfl
  have F20 := fun_mk (st := top 31) l20 c20 k20
  have b20 := F20.binds (ps := ["table"]) fun _ _ _ _ _ _ us hl => match us, hl with | [_], _ => rfl
  have F21 := fun_mk (st := top 32) l21 c21 k21
  have b21 := F21.binds (ps := ["table", "ties"]) fun _ _ _ _ _ _ us hl => match us, hl with | [_, _], _ => rfl
  have F22 := fun_mk (st := top 34) l22 c22 k22
  have b22 := F22.binds (ps := ["script"]) fun _ _ _ _ _ _ us hl => match us, hl with | [_], _ => rfl
  have F23 := fun_mk (st := top 35) l23 c23 k23
  have b23 := F23.binds (ps := ["pen"]) fun _ _ _ _ _ _ us hl => match us, hl with | [_], _ => rfl
  have F24 := fun_mk (st := top 36) l24 c24 k24
  have b24 := F24.binds (ps := ["pen", "many"]) fun _ _ _ _ _ _ us hl => match us, hl with | [_, _], _ => rfl
  have F25 := fun_mk (st := top 37) l25 c25 k25
  have b25 := F25.binds (ps := ["pen", "many", "even"]) fun _ _ _ _ _ _ us hl => match us, hl with | [_, _, _], _ => rfl
  have F26 := fun_mk (st := top 38) l26 c26 k26
  have b26 := F26.binds (ps := ["table"]) fun _ _ _ _ _ _ us hl => match us, hl with | [_], _ => rfl
  have F27 := fun_mk (st := top 39) l27 c27 k27
  have b27 := F27.binds (ps := ["table", "told"]) fun _ _ _ _ _ _ us hl => match us, hl with | [_, _], _ => rfl
  have F28 := fun_mk (st := top 40) l28 c28 k28
  refine ⟨PySem.W.fnOf "law" "law" (defArgs (top 40)) (defBody (top 40)) (defScope (top 40)) .none kV28 dc28 pm28 an28 cd28 ct28, fun s v => .of_eq rfl, fun base _ _ => ?_⟩
  have D_places_left_puttings : Def l.prog w K mg base "places_left_puttings" 1 ["table", "gone"] (spLeft K) := ⟨f1, _, ok_places_left_puttings (P := l.prog) (w := w) (base := base) F1 B   ln_places_left_puttings (rd_left), PySem.W.mg_of X G a1, k1, b1⟩
  have D_least_spot : Def l.prog w K mg base "least_spot" 1 ["table", "gone", "place"] (spSpot K) := ⟨f2, _, ok_least_spot (P := l.prog) (w := w) (base := base) F2 B   ln_least_spot (rd_spot), PySem.W.mg_of X G a2, k2, b2⟩
  have D_way_to : Def l.prog w K mg base "way_to" 1 ["table", "gone", "place"] (spWay K) := ⟨f4, _, ok_way_to (P := l.prog) (w := w) (base := base) F4 B   ln_way_to (rd_way), PySem.W.mg_of X G a4, k4, b4⟩
  have D_is_whole : Def l.prog w K mg base "is_whole" 1 ["thing"] (L.spW K) := ⟨f8, _, ok_is_whole (P := l.prog) (w := w) (base := base) F8 B   ln_is_whole (L.rd_whole), PySem.W.mg_of X G a8, k8, b8⟩
  have D_parts_with_home : Def l.prog w K mg base "parts_with_home" 1 ["many"] (S.spParts) := ⟨f12, _, ok_parts_with_home (P := l.prog) (w := w) (base := base) F12 B   ln_parts_with_home (S.rd_parts), PySem.W.mg_of X G a12, k12, b12⟩
  have D_joined : Def l.prog w K mg base "joined" 1 ["some", "place"] (S.spJoin K) := ⟨f13, _, ok_joined (P := l.prog) (w := w) (base := base) F13 B   ln_joined (S.rd_join), PySem.W.mg_of X G a13, k13, b13⟩
  have D_places_left_shortest : Def l.prog w K mg base "places_left_shortest" 1 ["table", "some"] (S.spLeft K) := ⟨f14, _, ok_places_left_shortest (P := l.prog) (w := w) (base := base) F14 B   ln_places_left_shortest (S.rd_left), PySem.W.mg_of X G a14, k14, b14⟩
  have D_is_even : Def l.prog w K mg base "is_even" 1 ["table"] (Tr.spEv K) := ⟨f17, _, ok_is_even (P := l.prog) (w := w) (base := base) F17 B   ln_is_even (Tr.rd_even), PySem.W.mg_of X G a17, k17, b17⟩
  have D_is_straight : Def l.prog w K mg base "is_straight" 1 ["table"] (spTab K fun T n => (strL T n).all id) := ⟨f18, _, ok_is_straight (P := l.prog) (w := w) (base := base) F18 B   ln_is_straight (rd_str), PySem.W.mg_of X G a18, k18, b18⟩
  have D_tree_sum : Def l.prog w K mg base "tree_sum" 1 ["table", "ties"] (Tr.spTS K) := ⟨f21, _, ok_tree_sum (P := l.prog) (w := w) (base := base) F21 B   ln_tree_sum (Tr.rd_ts), PySem.W.mg_of X G a21, k21, b21⟩
  have D__law_e_pen : Def l.prog w K mg base "_law_e_pen" 1 ["script"] (spPen K) := ⟨f22, _, ok__law_e_pen (P := l.prog) (w := w) (base := base) F22 B   ln__law_e_pen (rd_pen), PySem.W.mg_of X G a22, k22, b22⟩
  have D__law_e_fresh : Def l.prog w K mg base "_law_e_fresh" 1 ["pen"] (spFresh) := ⟨f23, _, ok__law_e_fresh (P := l.prog) (w := w) (base := base) F23 B   ln__law_e_fresh (rd_fresh), PySem.W.mg_of X G a23, k23, b23⟩
  have D__law_e_straight : Def l.prog w K mg base "_law_e_straight" 1 ["table"] (spStr K) := ⟨f26, _, ok__law_e_straight (P := l.prog) (w := w) (base := base) F26 B   ln__law_e_straight (rd_straight), PySem.W.mg_of X G a26, k26, b26⟩
  have D__law_e_sum : Def l.prog w K mg base "_law_e_sum" 1 ["table", "told"] (spSum K) := ⟨f27, _, ok__law_e_sum (P := l.prog) (w := w) (base := base) F27 B   ln__law_e_sum (rd_sum), PySem.W.mg_of X G a27, k27, b27⟩
  have D_nearest : Def l.prog w K mg base "nearest" 2 ["table"] (spNear K) := ⟨f0, _, ok_nearest (P := l.prog) (w := w) (base := base) F0 B  D_places_left_puttings ln_nearest (rd_near), PySem.W.mg_of X G a0, k0, b0⟩
  have D_with_place : Def l.prog w K mg base "with_place" 2 ["table", "gone", "place"] (spWith K) := ⟨f3, _, ok_with_place (P := l.prog) (w := w) (base := base) F3 B  D_least_spot ln_with_place (rd_with), PySem.W.mg_of X G a3, k3, b3⟩
  have D_are_wholes : Def l.prog w K mg base "are_wholes" 2 ["thing"] (L.spWs K) := ⟨f9, _, ok_are_wholes (P := l.prog) (w := w) (base := base) F9 B  D_is_whole ln_are_wholes (L.rd_wholes), PySem.W.mg_of X G a9, k9, b9⟩
  have D_onward : Def l.prog w K mg base "onward" 2 ["table", "rests", "some", "last"] (S.spOnw K) := ⟨f15, _, ok_onward (P := l.prog) (w := w) (base := base) F15 B  D_joined D_places_left_shortest ln_onward (S.rd_onw), PySem.W.mg_of X G a15, k15, b15⟩
  have D_least_tree : Def l.prog w K mg base "least_tree" 2 ["table"] (Tr.spTree K) := ⟨f20, _, ok_least_tree (P := l.prog) (w := w) (base := base) F20 B  D_is_even D_tree_sum ln_least_tree (Tr.rd_tree), PySem.W.mg_of X G a20, k20, b20⟩
  have D__law_e_take : Def l.prog w K mg base "_law_e_take" 2 ["pen", "many"] (spTake) := ⟨f24, _, ok__law_e_take (P := l.prog) (w := w) (base := base) F24 B  D__law_e_fresh ln__law_e_take (rd_take), PySem.W.mg_of X G a24, k24, b24⟩
  have D_cheapest : Def l.prog w K mg base "cheapest" 3 ["table"] (spGrow K 0) := ⟨f5, _, ok_cheapest (P := l.prog) (w := w) (base := base) F5 B  D_least_spot D_places_left_puttings D_with_place ln_cheapest (rd_cheapest), PySem.W.mg_of X G a5, k5, b5⟩
  have D_near : Def l.prog w K mg base "near" 3 ["table"] (spGrow K 1) := ⟨f6, _, ok_near (P := l.prog) (w := w) (base := base) F6 B  D_places_left_puttings D_way_to D_with_place ln_near (rd_nearG), PySem.W.mg_of X G a6, k6, b6⟩
  have D_far : Def l.prog w K mg base "far" 3 ["table"] (spGrow K 2) := ⟨f7, _, ok_far (P := l.prog) (w := w) (base := base) F7 B  D_places_left_puttings D_way_to D_with_place ln_far (rd_far), PySem.W.mg_of X G a7, k7, b7⟩
  have D_least_rests : Def l.prog w K mg base "least_rests" 3 ["table"] (S.spRests K) := ⟨f11, _, ok_least_rests (P := l.prog) (w := w) (base := base) F11 B  D_onward D_parts_with_home ln_least_rests (S.rd_rests), PySem.W.mg_of X G a11, k11, b11⟩
  have D_round_by_rests : Def l.prog w K mg base "round_by_rests" 3 ["table", "rests"] (S.spRound K) := ⟨f16, _, ok_round_by_rests (P := l.prog) (w := w) (base := base) F16 B  D_onward ln_round_by_rests (S.rd_round), PySem.W.mg_of X G a16, k16, b16⟩
  have D_is_round : Def l.prog w K mg base "is_round" 3 ["table", "thing"] (L.spRound K) := ⟨f19, _, ok_is_round (P := l.prog) (w := w) (base := base) F19 B  D_are_wholes ln_is_round (L.rd_round), PySem.W.mg_of X G a19, k19, b19⟩
  have D__law_e_table : Def l.prog w K mg base "_law_e_table" 3 ["pen", "many", "even"] (spETab K) := ⟨f25, _, ok__law_e_table (P := l.prog) (w := w) (base := base) F25 B  D__law_e_take ln__law_e_table (rd_etab), PySem.W.mg_of X G a25, k25, b25⟩
  have D_shortest : Def l.prog w K mg base "shortest" 4 ["table"] (S.spShort K) := ⟨f10, _, ok_shortest (P := l.prog) (w := w) (base := base) F10 B GC_START D_least_rests D_round_by_rests ln_shortest (S.rd_short hS), PySem.W.mg_of X G a10, k10, b10⟩
  exact ok_law (P := l.prog) (w := w) (base := base) F28 B  D__law_e_pen D__law_e_straight D__law_e_sum D__law_e_table D__law_e_take D_cheapest D_far D_is_round D_is_straight D_least_tree D_near D_nearest D_shortest ln_law (rd_law)
theorem walk {l : PySem.W.OpenLaw} {q : Program} {loose : List Str} {XP : (Str → Option Value) → Heap → Prop} {YP : World → Heap → Prop} {d : DefRec} {K : Params → PySem.W.Frag} (hn : l.most = some 63) (hdf : d.params.defaults = [])
    (hY : ∀ (w : World) (h : Heap), YP w h → (K w.params).In h)
    (F : ∀ (w : World) (mg : Str → Option Value) (fa : Addr) (h : Heap), (K w.params).In h → h.Ns mainGlobals mg → mg d.name = some (.ref fa) →
      ∃ fd : FuncData, (∀ (s : Shared) (u : Value), BindsTo s fd ⟨[u], []⟩ [("script", u)]) ∧ ∀ base : Heap, (K w.params).In base → base.Ns mainGlobals mg → FnOk l.prog w (K w.params) mg base CX0 5 fa fd ["script"] (spLaw (K w.params))) :
    PySem.W.WalkO q loose XP YP l.row.toRowW d [] (fun f vs => PySem.call f vs) :=
  L2.walk_of (n := 63) (k := 5) (x := "script") (CX := fun _ => CX0) (sp := fun w => spLaw (K w.params)) hn (by decide) hdf ⟨rfl, by decide, by decide, rfl⟩ hY F (fun _ _ a ns hl _ hS => ⟨a, ns, rfl, hS, hl, fun _ => rfl⟩) fun _ _ _ _ _ z => z
end K53
open PySem PySem.W PyProof.Rows
set_option maxRecDepth 100000 in
set_option maxHeartbeats 0 in
theorem PySem.Challenge.cw_homeround_k53_whole_never_much_longer_holds : PySem.Challenge.rw_homeround_k53_whole_never_much_longer.Holds := by
  w_on; o_law; k_head; (case hw => w_witness2)
  k_fill
  refine K53.walk (l := PySem.Challenge.rw_homeround_k53_whole_never_much_longer) rfl rfl (fun w h Y => PySem.W.kIn_of Y) ?F
  case F =>
    intro w mg fa h KX G hmg
    refine' K53.all_mk KX G hmg ?a0 ?l0 ?c0 ?k0 ?a1 ?l1 ?c1 ?k1 ?a2 ?l2 ?c2 ?k2 ?a3 ?l3 ?c3 ?k3 ?a4 ?l4 ?c4 ?k4 ?a5 ?l5 ?c5 ?k5 ?a6 ?l6 ?c6 ?k6 ?a7 ?l7 ?c7 ?k7 ?a8 ?l8 ?c8 ?k8 ?a9 ?l9 ?c9 ?k9 ?a10 ?l10 ?c10 ?k10 ?a11 ?l11 ?c11 ?k11 ?a12 ?l12 ?c12 ?k12 ?a13 ?l13 ?c13 ?k13 ?a14 ?l14 ?c14 ?k14 ?a15 ?l15 ?c15 ?k15 ?a16 ?l16 ?c16 ?k16 ?a17 ?l17 ?c17 ?k17 ?a18 ?l18 ?c18 ?k18 ?a19 ?l19 ?c19 ?k19 ?a20 ?l20 ?c20 ?k20 ?a21 ?l21 ?c21 ?k21 ?a22 ?l22 ?c22 ?k22 ?a23 ?l23 ?c23 ?k23 ?a24 ?l24 ?c24 ?k24 ?a25 ?l25 ?c25 ?k25 ?a26 ?l26 ?c26 ?k26 ?a27 ?l27 ?c27 ?k27 ?a28 ?l28 ?c28 ?k28 ?z_len ?z_all ?z_min ?z_max ?z_sum ?z_isinstance ?z_sorted ?z_tuple ?z_list ?z_range ?z_int ?z_bool ?z_zip ?z_repr ?z_enumerate ?z_reversed ?z_str ?z_set ?z_abs ?ac_START ?lS ?lT
    (case a0 => k_is)
    (case l0 => k_is)
    (case c0 => k_is)
    (case k0 => k_is)
    (case a1 => k_is)
    (case l1 => k_is)
    (case c1 => k_is)
    (case k1 => k_is)
    (case a2 => k_is)
    (case l2 => k_is)
    (case c2 => k_is)
    (case k2 => k_is)
    (case a3 => k_is)
    (case l3 => k_is)
    (case c3 => k_is)
    (case k3 => k_is)
    (case a4 => k_is)
    (case l4 => k_is)
    (case c4 => k_is)
    (case k4 => k_is)
    (case a5 => k_is)
    (case l5 => k_is)
    (case c5 => k_is)
    (case k5 => k_is)
    (case a6 => k_is)
    (case l6 => k_is)
    (case c6 => k_is)
    (case k6 => k_is)
    (case a7 => k_is)
    (case l7 => k_is)
    (case c7 => k_is)
    (case k7 => k_is)
    (case a8 => k_is)
    (case l8 => k_is)
    (case c8 => k_is)
    (case k8 => k_is)
    (case a9 => k_is)
    (case l9 => k_is)
    (case c9 => k_is)
    (case k9 => k_is)
    (case a10 => k_is)
    (case l10 => k_is)
    (case c10 => k_is)
    (case k10 => k_is)
    (case a11 => k_is)
    (case l11 => k_is)
    (case c11 => k_is)
    (case k11 => k_is)
    (case a12 => k_is)
    (case l12 => k_is)
    (case c12 => k_is)
    (case k12 => k_is)
    (case a13 => k_is)
    (case l13 => k_is)
    (case c13 => k_is)
    (case k13 => k_is)
    (case a14 => k_is)
    (case l14 => k_is)
    (case c14 => k_is)
    (case k14 => k_is)
    (case a15 => k_is)
    (case l15 => k_is)
    (case c15 => k_is)
    (case k15 => k_is)
    (case a16 => k_is)
    (case l16 => k_is)
    (case c16 => k_is)
    (case k16 => k_is)
    (case a17 => k_is)
    (case l17 => k_is)
    (case c17 => k_is)
    (case k17 => k_is)
    (case a18 => k_is)
    (case l18 => k_is)
    (case c18 => k_is)
    (case k18 => k_is)
    (case a19 => k_is)
    (case l19 => k_is)
    (case c19 => k_is)
    (case k19 => k_is)
    (case a20 => k_is)
    (case l20 => k_is)
    (case c20 => k_is)
    (case k20 => k_is)
    (case a21 => k_is)
    (case l21 => k_is)
    (case c21 => k_is)
    (case k21 => k_is)
    (case a22 => k_is)
    (case l22 => k_is)
    (case c22 => k_is)
    (case k22 => k_is)
    (case a23 => k_is)
    (case l23 => k_is)
    (case c23 => k_is)
    (case k23 => k_is)
    (case a24 => k_is)
    (case l24 => k_is)
    (case c24 => k_is)
    (case k24 => k_is)
    (case a25 => k_is)
    (case l25 => k_is)
    (case c25 => k_is)
    (case k25 => k_is)
    (case a26 => k_is)
    (case l26 => k_is)
    (case c26 => k_is)
    (case k26 => k_is)
    (case a27 => k_is)
    (case l27 => k_is)
    (case c27 => k_is)
    (case k27 => k_is)
    (case a28 => k_is)
    (case l28 => k_is)
    (case c28 => k_is)
    (case k28 => k_is)
    (case z_len => k_is)
    (case z_all => k_is)
    (case z_min => k_is)
    (case z_max => k_is)
    (case z_sum => k_is)
    (case z_isinstance => k_is)
    (case z_sorted => k_is)
    (case z_tuple => k_is)
    (case z_list => k_is)
    (case z_range => k_is)
    (case z_int => k_is)
    (case z_bool => k_is)
    (case z_zip => k_is)
    (case z_repr => k_is)
    (case z_enumerate => k_is)
    (case z_reversed => k_is)
    (case z_str => k_is)
    (case z_set => k_is)
    (case z_abs => k_is)
    (case ac_START => k_is)
    (case lS => first | k_is | kernel_rfl)
    (case lT => first | k_is | kernel_rfl)
