import PyProof.Rows.All
import Wide.All
import OpenK.AllK
import Wide.FinOn
import Lean
import PyProof.EqAt
import PyProof.EqKinds
import PyProof.TupleCall
import PyProof.Rows.SetFrom
import PyProof.ExcAttrAll.ValueError
import KE.KDictList
import KE.KRevIter
import KE.KPairComp
import PyProof.EqAt
import KE.KSortTup
import PyProof.DictValues
import KE.KDictList
import PySem.Challenge.RW_homeround_k79_webs_parted
set_option Elab.async false
set_option linter.all false
set_option maxRecDepth 100000
set_option maxHeartbeats 4000000
namespace L2
open PySem PySem.Spec PyProof.Rows
abbrev Key := Sum Int Str
def keyIs : Key → Value → Bool
  | .inl k, v => Value.isInt k v
  | .inr x, v => Value.isStrOf x v
def keyH (w : World) : Key → Int
  | .inl k => hashInt k
  | .inr x => hashStr w x
theorem keyIs_shape : ∀ {k : Key} {v : Value}, keyIs k v = true → (∃ i t, k = Sum.inl i ∧ v = Value.int i t) ∨ (∃ x t, k = Sum.inr x ∧ v = Value.str x t)
  | .inl i, v, h => by
    obtain ⟨t, e⟩ := Value.isInt_shape (k := i) (v := v) h
    exact .inl ⟨i, t, rfl, e⟩
  | .inr x, v, h => by
    obtain ⟨t, e⟩ := Value.isStrOf_shape (x := x) (v := v) h
    exact .inr ⟨x, t, rfl, e⟩
theorem key_ll (a b : Int) : decide ((Sum.inl a : Key) = Sum.inl b) = (a == b) := by
  by_cases e : a = b
  · subst e; simp
  · have h : ¬ (Sum.inl a : Key) = Sum.inl b := fun q => e (Sum.inl.inj q)
    rw [decide_eq_false h]
    exact (beq_eq_false_iff_ne.mpr e).symm
theorem key_rr (a b : Str) : decide ((Sum.inr a : Key) = Sum.inr b) = decide (a = b) := by
  by_cases e : a = b
  · subst e; simp
  · have h : ¬ (Sum.inr a : Key) = Sum.inr b := fun q => e (Sum.inr.inj q)
    rw [decide_eq_false h, decide_eq_false e]
theorem key_lr (a : Int) (b : Str) : decide ((Sum.inl a : Key) = Sum.inr b) = false := decide_eq_false (fun q => nomatch q)
theorem key_rl (a : Str) (b : Int) : decide ((Sum.inr a : Key) = Sum.inl b) = false := decide_eq_false (fun q => nomatch q)
def mixKind (prog : Program) (w : World) : PySem.KeyKind prog w Key where
  is := keyIs
  hash := keyH w
  inj := fun v a b ha hb => by
    rcases keyIs_shape ha with ⟨i, t, rfl, rfl⟩ | ⟨x, t, rfl, rfl⟩
    · rcases keyIs_shape hb with ⟨j, u, rfl, e⟩ | ⟨y, u, rfl, e⟩
      · injection e with e1 _; rw [e1]
      · exact nomatch e
    · rcases keyIs_shape hb with ⟨j, u, rfl, e⟩ | ⟨y, u, rfl, e⟩
      · exact nomatch e
      · injection e with e1 _; rw [e1]
  byValue := fun k v h => by
    rcases keyIs_shape h with ⟨i, t, rfl, rfl⟩ | ⟨x, t, rfl, rfl⟩ <;> rfl
  pyHash := fun hv h => by
    rcases keyIs_shape hv with ⟨i, t, rfl, rfl⟩ | ⟨x, t, rfl, rfl⟩
    · exact wpAny_pyHash_int h
    · exact wpAny_pyHash_str h
  eqBool := fun hu hv h => by
    rcases keyIs_shape hu with ⟨i, t, rfl, rfl⟩ | ⟨x, t, rfl, rfl⟩
    · rcases keyIs_shape hv with ⟨j, u, rfl, rfl⟩ | ⟨y, u, rfl, rfl⟩
      · rw [key_ll] at h; exact wpAny_eqBool_int h
      · rw [key_lr] at h; exact SeqAt.EqAt.int_str i t y u _ _ _ _ h
    · rcases keyIs_shape hv with ⟨j, u, rfl, rfl⟩ | ⟨y, u, rfl, rfl⟩
      · rw [key_rl] at h; exact SeqAt.EqAt.str_int x t j u _ _ _ _ h
      · rw [key_rr] at h; exact wpAny_eqBool_str h
  «strs» := fun k x t v h => by
    rcases keyIs_shape h with ⟨i, u, rfl, e⟩ | ⟨y, u, rfl, e⟩
    · exact nomatch e
    · injection e with e1 _
      subst e1
      cases v <;> rfl
end L2
namespace L2
open PySem PySem.Spec PyProof.Rows
inductive V where
  | non | bl (b : Bool) | int (i : Int) | str (x : Str) | byt (b : Array UInt8) | flt (b : UInt64) | ref (a : Addr) | ty (n : String)
  deriving DecidableEq
def RelV : V → Value → Prop
  | .non, u => u = Value.none
  | .bl b, u => u = Value.bool b
  | .int i, u => ∃ t, u = Value.int i t
  | .str x, u => ∃ t, u = Value.str x t
  | .byt b, u => ∃ t, u = Value.bytes b t
  | .flt b, u => ∃ t, u = Value.float b t
  | .ref a, u => u = Value.ref a
  | .ty n, u => u = Value.type n
abbrev Vals : List V → List Value → Prop := Paired RelV
theorem Vals.length {xs : List V} {us : List Value} (r : Vals xs us) : xs.length = us.length := Paired.length r
theorem Vals.get : ∀ {xs : List V} {us : List Value} {i : Nat} {x : V}, Vals xs us → xs[i]? = some x → ∃ u, us[i]? = some u ∧ RelV x u
  | _, _, _, _, .nil, e => by simp at e
  | _, _, 0, _, .cons r _, e => by simp at e; subst e; exact ⟨_, rfl, r⟩
  | _, _, i + 1, x, .cons _ t, e => by
    obtain ⟨u, h1, h2⟩ := Vals.get (i := i) (x := x) t (by simpa using e)
    exact ⟨u, by simpa using h1, h2⟩
theorem Vals.set {x : V} {u : Value} (r : RelV x u) : ∀ {xs : List V} {us : List Value} (i : Nat), Vals xs us → Vals (xs.set i x) (us.set i u)
  | _, _, _, .nil => .nil
  | _, _, 0, .cons _ t => .cons r t
  | _, _, i + 1, .cons q t => .cons q (Vals.set r i t)
theorem Vals.append : ∀ {xs ys : List V} {us ws : List Value}, Vals xs us → Vals ys ws → Vals (xs ++ ys) (us ++ ws)
  | _, _, _, _, .nil, s => s
  | _, _, _, _, .cons r t, s => .cons r (Vals.append t s)
theorem Vals.take : ∀ {xs : List V} {us : List Value} (n : Nat), Vals xs us → Vals (xs.take n) (us.take n)
  | _, _, 0, _ => .nil
  | _, _, _ + 1, .nil => .nil
  | _, _, n + 1, .cons r t => .cons r (Vals.take n t)
theorem Vals.drop : ∀ {xs : List V} {us : List Value} (n : Nat), Vals xs us → Vals (xs.drop n) (us.drop n)
  | _, _, 0, r => r
  | _, _, _ + 1, .nil => .nil
  | _, _, n + 1, .cons _ t => Vals.drop n t
def RelO : Option V → Option Value → Prop
  | some v, some u => RelV v u
  | none, none => True
  | _, _ => False
def KV {κ : Type} : List (κ × V) → List (κ × Value) → Prop := Paired fun (p : κ × V) (q : κ × Value) => p.1 = q.1 ∧ RelV p.2 q.2
def kV : Key → V
  | .inl i => .int i
  | .inr x => .str x
inductive HO where
  | lst (xs : List V)
  | tup (xs : List V)
  | dK (kvs : List (Key × V)) | dT (kvs : List (List Key × V))
  | set (S : Int → Bool) (n : Nat)
  | ins (C dx : Addr) (fs : List (Str × V))
  | own (x : Addr)
  | xd (fs : List (Str × V))
  | met (f x : Addr)
  | rng (lo hi : Int)
  | frz (o : Obj) (u : HO)
  | tbl (ps : Array Value)
  | ext (φ : Heap → Prop)
abbrev Hp := Addr → Option HO
def upd (H : Hp) (a : Addr) (o : HO) : Hp := fun b => if b = a then some o else H b
theorem upd_same {H : Hp} {a : Addr} {o : HO} : upd H a o a = some o := by unfold upd; rw [if_pos rfl]
theorem upd_ne {H : Hp} {a b : Addr} {o : HO} (h : b ≠ a) : upd H a o b = H b := by unfold upd; rw [if_neg h]
theorem ne_of {H : Hp} {a b : Addr} {o u : HO} (h : H a = some o) (h' : H b = some u) (d : o ≠ u) : a ≠ b := by
  intro e; subst e; rw [h] at h'; exact d (Option.some.inj h')
theorem ne_of_none {H : Hp} {a b : Addr} {o : HO} (h : H a = some o) (h' : H b = none) : a ≠ b := by
  intro e; subst e; rw [h] at h'; cases h'
def TupN (h : Heap) (a : Addr) (items : Array Value) : Prop := ∃ o, h.get? a = some o ∧ o.cls = .type "tuple" ∧ (∃ n, o.data = .seq items n) ∧ o.dict = none
theorem TupN.tup {h : Heap} {a : Addr} {items : Array Value} (p : TupN h a items) : IsTup h a items := let ⟨o, e, c, n, _⟩ := p; ⟨o, e, c, n⟩
theorem TupN.bare {h : Heap} {a : Addr} {items : Array Value} (p : TupN h a items) : ∃ o, h.get? a = some o ∧ o.dict = none := let ⟨o, e, _, _, d⟩ := p; ⟨o, e, d⟩
theorem TupN.new (h : Heap) (items : Array Value) : TupN (h.push { cls := .type "tuple", data := .seq items }) h.objs.size items := ⟨_, Heap.get?_push_size _ rfl, rfl, ⟨_, rfl⟩, rfl⟩
section
variable (P : Program) (w : World)
def ObjOk (H : Hp) (h : Heap) (a : Addr) : HO → Prop
  | .lst xs => xs.length ≤ sizeLine ∧ ∃ (its : List Value) (n : Nat), Vals xs its ∧ h.get? a = some { cls := .type "list", data := .seq its.toArray n }
  | .tup xs => xs.length ≤ sizeLine ∧ ∃ its : List Value, Vals xs its ∧ TupN h a its.toArray
  | .dK kvs => kvs.length ≤ sizeLine ∧ (a == sysModules) = false ∧ ∃ vs, KV kvs vs ∧ h.DictOf (mixKind P w) a vs
  | .dT kvs => kvs.length ≤ sizeLine ∧ (a == sysModules) = false ∧ ∃ xs : List (List Key × Addr × Value),
      Paired (fun (p : List Key × V) (q : List Key × Addr × Value) => p.1 = q.1 ∧ H q.2.1 = some (.tup (p.1.map kV)) ∧ RelV p.2 q.2.2) kvs xs ∧
      ∃ o es ep, h.get? a = some o ∧ o.ExactDict ∧ o.data = .dict es ep ∧ es.toList = xs.map (entryOfKey (tupleKind (mixKind P w))) ∧ (xs.map (·.1)).Nodup
  | .set S n => h.SetOf (intKind P w) a S n
  | .ins C dx fs => H dx = some (.own a) ∧ fs.length ≤ 1000 ∧ dx ≠ a ∧ h.get? a = some (PySem.W.instObj C dx) ∧
      ∃ mA, h.Ns1 dx mA ∧ (∀ f, RelO (fs.lookup f) (mA f)) ∧ PySem.Within mA (fs.map (·.1))
  | .own _ => ∃ o, h.get? a = some o
  | .xd fs => ∃ mA, h.Ns1 a mA ∧ ∀ f, RelO (fs.lookup f) (mA f)
  | .rng lo hi => ∃ t u v, h.get? a = some { cls := .type "range", data := .fields #[.int lo t, .int hi u, .int 1 v] }
  | .frz o u => h.get? a = some o ∧ ObjOk H h a u
  | .tbl ps => h.get? a = some { cls := .none, data := .fields ps }
  | .met f x => h.get? a = some (PySem.W.methodObj (.ref f) (.ref x))
  | .ext φ => φ h ∧ (∃ o, h.get? a = some o) ∧ ∀ h1 h2 : Heap, φ h1 → (∀ o, h1.get? a = some o → h2.get? a = some o) → φ h2
def HOk (H : Hp) (h : Heap) : Prop := ∀ a o, H a = some o → ObjOk P w H h a o
end
section
variable {P : Program} {w : World} {H H' : Hp} {h h' : Heap} {a : Addr} {o : HO}
theorem ObjOk.lt (x : ObjOk P w H h a o) : a < h.objs.size := by
  cases o with
  | lst xs => obtain ⟨_, _, _, _, e⟩ := x; exact Heap.lt_size e
  | tup xs => obtain ⟨_, _, _, p⟩ := x; exact p.tup.lt
  | dK kvs => obtain ⟨_, _, _, _, o, _, _, e, _⟩ := x; exact Heap.lt_size e
  | dT kvs => obtain ⟨_, _, _, _, o, _, _, e, _⟩ := x; exact Heap.lt_size e
  | set S n => obtain ⟨o, _, _, _, e, _⟩ := x; exact Heap.lt_size e
  | ins C dx fs => obtain ⟨_, _, _, e, _⟩ := x; exact Heap.lt_size e
  | own y => obtain ⟨_, e⟩ := x; exact Heap.lt_size e
  | xd fs => obtain ⟨_, ⟨_, _, _, e, _⟩, _⟩ := x; exact Heap.lt_size e
  | rng lo hi => obtain ⟨_, _, _, e⟩ := x; exact Heap.lt_size e
  | frz ob u => obtain ⟨e, _⟩ := x; exact Heap.lt_size e
  | tbl ps => exact Heap.lt_size (show h.get? a = some _ from x)
  | met f y => exact Heap.lt_size (show h.get? a = some _ from x)
  | ext φ => obtain ⟨_, ⟨_, e⟩, _⟩ := x; exact Heap.lt_size e
theorem Paired.mapP {α β : Type} {F G : α → β → Prop} : ∀ {l₁ : List α} {l₂ : List β}, Paired F l₁ l₂ → (∀ a b, F a b → G a b) → Paired G l₁ l₂
  | _, _, .nil, _ => .nil
  | _, _, .cons r t, f => .cons (f _ _ r) (Paired.mapP t f)
theorem ObjOk.stay (x : ObjOk P w H h a o) (k : ∀ b u, (b = a ∨ H b = some (.own a)) → h.get? b = some u → h'.get? b = some u)
    (ho : ∀ b, H b = some (.own a) → H' b = some (.own a)) (ht : ∀ b xs, H b = some (.tup xs) → H' b = some (.tup xs)) : ObjOk P w H' h' a o := by
  induction o with
  | lst xs => obtain ⟨z, its, n, r, e⟩ := x; exact ⟨z, its, n, r, k _ _ (.inl rfl) e⟩
  | tup xs => obtain ⟨z, its, r, ob, e, c⟩ := x; exact ⟨z, its, r, ob, k _ _ (.inl rfl) e, c⟩
  | dK kvs => obtain ⟨z, y, vs, r, ob, es, ep, e, c⟩ := x; exact ⟨z, y, vs, r, ob, es, ep, k _ _ (.inl rfl) e, c⟩
  | dT kvs =>
    obtain ⟨z, y, xs, r, ob, es, ep, e, c⟩ := x
    exact ⟨z, y, xs, Paired.mapP r fun p q z => ⟨z.1, ht _ _ z.2.1, z.2.2⟩, ob, es, ep, k _ _ (.inl rfl) e, c⟩
  | set S n => obtain ⟨ob, es, ep, t, e, c⟩ := x; exact ⟨ob, es, ep, t, k _ _ (.inl rfl) e, c⟩
  | ins C dx fs =>
    obtain ⟨d, z, ne, e, mA, ⟨od, es, ep, e2, c⟩, r⟩ := x
    exact ⟨ho _ d, z, ne, k _ _ (.inl rfl) e, mA, ⟨od, es, ep, k _ _ (.inr d) e2, c⟩, r⟩
  | own y => obtain ⟨ob, e⟩ := x; exact ⟨ob, k _ _ (.inl rfl) e⟩
  | xd fs => obtain ⟨mA, ⟨od, es, ep, e, c⟩, r⟩ := x; exact ⟨mA, ⟨od, es, ep, k _ _ (.inl rfl) e, c⟩, r⟩
  | rng lo hi => obtain ⟨t, u, v, e⟩ := x; exact ⟨t, u, v, k _ _ (.inl rfl) e⟩
  | frz ob u ih => obtain ⟨e, q⟩ := x; exact ⟨k _ _ (.inl rfl) e, ih q⟩
  | tbl ps =>
    have e : h.get? a = some { cls := .none, data := .fields ps } := x
    show h'.get? a = some { cls := .none, data := .fields ps }
    exact k a _ (.inl rfl) e
  | met f y =>
    have e : h.get? a = some (PySem.W.methodObj (.ref f) (.ref y)) := x
    show h'.get? a = some (PySem.W.methodObj (.ref f) (.ref y))
    exact k a _ (.inl rfl) e
  | ext φ => obtain ⟨p, ⟨o, e⟩, st⟩ := x; exact ⟨st _ _ p fun o q => k _ _ (.inl rfl) q, ⟨o, k _ _ (.inl rfl) e⟩, st⟩
theorem HOk.lt (x : HOk P w H h) (e : H a = some o) : a < h.objs.size := (x a o e).lt
theorem HOk.fresh (x : HOk P w H h) (e : h.objs.size ≤ a) : H a = none := by
  cases q : H a with
  | none => rfl
  | some u => exact absurd (Nat.lt_of_lt_of_le (x.lt q) e) (Nat.lt_irrefl _)
theorem HOk.kept (x : HOk P w H h) (k : ∀ b u, h.get? b = some u → h'.get? b = some u) : HOk P w H h' := fun a o e =>
  (x a o e).stay (fun b u _ q => k b u q) (fun _ q => q) fun _ _ q => q
theorem HOk.laid (x : HOk P w H h) (k : ∀ b u, h.get? b = some u → h'.get? b = some u) (hp : h.objs.size ≤ a) (new : ObjOk P w (upd H a o) h' a o) : HOk P w (upd H a o) h' := fun b u e => by
  have hn := x.fresh hp
  by_cases hb : b = a
  · subst hb; rw [upd_same] at e; cases e; exact new
  · rw [upd_ne hb] at e
    exact (x b u e).stay (fun c v _ q => k c v q) (fun c q => by rw [upd_ne (ne_of_none q hn)]; exact q) fun c xs q => by rw [upd_ne (ne_of_none q hn)]; exact q
end
def Rd (H : Hp) (a : Addr) (u : HO) : Prop := H a = some u ∨ ∃ o, H a = some (.frz o u)
theorem Rd.of {H : Hp} {a : Addr} {u : HO} (h : H a = some u) : Rd H a u := .inl h
theorem Rd.ok {P : Program} {w : World} {H : Hp} {h : Heap} {a : Addr} {u : HO} (r : Rd H a u) (x : HOk P w H h) : ObjOk P w H h a u := by
  rcases r with r | ⟨o, r⟩
  · exact x a u r
  · obtain ⟨_, q⟩ := x a _ r
    exact q
def Mut : Option HO → Prop
  | some (.lst _) => True
  | some (.dK _) => True
  | some (.dT _) => True
  | some (.set _ _) => True
  | some (.ins _ _ _) => True
  | some (.ext _) => True
  | _ => False
section
variable {P : Program} {w : World} {H : Hp} {h h' : Heap} {x e : Addr} {o' : HO}
theorem HOk.write (ok : HOk P w H h) (mu : Mut (H x)) (he : e = x ∨ H e = some (.own x)) (k : ∀ b u, b ≠ e → h.get? b = some u → h'.get? b = some u) (heo : ∃ u, h'.get? e = some u)
    (new : ObjOk P w (upd H x o') h' x o') : HOk P w (upd H x o') h' := fun b u q => by
  have nown : ∀ c y, H c = some (.own y) → c ≠ x := fun c y r z => by subst z; rw [r] at mu; exact mu
  have ntup : ∀ c xs, H c = some (.tup xs) → c ≠ x := fun c xs r z => by subst z; rw [r] at mu; exact mu
  by_cases hb : b = x
  · subst hb; rw [upd_same] at q; cases q; exact new
  · rw [upd_ne hb] at q
    by_cases hbe : b = e
    · have q' : H b = some (.own x) := by
        rcases he with z | z
        · exact absurd (hbe.trans z) hb
        · rw [hbe]; exact z
      rw [q] at q'; cases q'
      obtain ⟨v, hv⟩ := heo
      exact ⟨v, by rw [hbe]; exact hv⟩
    · refine (ok b u q).stay (fun c v hc r => k c v ?_ r) (fun c r => by rw [upd_ne (nown c b r)]; exact r) fun c xs r => by rw [upd_ne (ntup c xs r)]; exact r
      rcases hc with rfl | hc
      · exact hbe
      · rintro rfl
        rcases he with z | z
        · exact nown c b hc z
        · rw [hc] at z; cases z; exact hb rfl
end
structure Un (fs ex : List Addr) (H H' : Hp) (h h' : Heap) : Prop where
  keep : ∀ b o, h.get? b = some o → H b = none → b ∉ fs → b ∉ ex → h'.get? b = some o
  slot : ∀ b o, h.get? b = some o → H b = none → b ∈ fs → b ∉ ex → ∃ sl, h'.get? b = some { o with slots := sl }
  free : ∀ b o, h.get? b = some o → H b = none → b ∉ ex → H' b = none
  there : ∀ b o, h.get? b = some o → b ∉ ex → ∃ o', h'.get? b = some o'
  tups : ∀ b xs, H b = some (.tup xs) → H' b = some (.tup xs)
  frzs : ∀ b o u, H b = some (.frz o u) → H' b = some (.frz o u)
  tbls : ∀ b ps, H b = some (.tbl ps) → ∃ more, H' b = some (.tbl (ps ++ more))
section
variable {fs fs' ex ex' : List Addr} {H H1 H2 : Hp} {h h1 h2 h' : Heap} {a x e : Addr} {o : HO}
theorem Un.any (u : Un fs ex H H1 h h1) {b : Addr} {ob : Obj} (q : h.get? b = some ob) (n : H b = none) (hx : b ∉ ex) : ∃ sl, h1.get? b = some { ob with slots := sl } := by
  by_cases hb : b ∈ fs
  · exact u.slot b ob q n hb hx
  · exact ⟨ob.slots, u.keep b ob q n hb hx⟩
theorem Un.trans (a : Un fs ex H H1 h h1) (b : Un fs ex H1 H2 h1 h2) : Un fs ex H H2 h h2 where
  keep := fun c ob q n hc hx => b.keep c ob (a.keep c ob q n hc hx) (a.free c ob q n hx) hc hx
  slot := fun c ob q n hc hx => by
    obtain ⟨sl, e1⟩ := a.slot c ob q n hc hx
    obtain ⟨sl', e2⟩ := b.slot c _ e1 (a.free c ob q n hx) hc hx
    exact ⟨sl', e2⟩
  free := fun c ob q n hx => by
    obtain ⟨o', e1⟩ := a.there c ob q hx
    exact b.free c o' e1 (a.free c ob q n hx) hx
  there := fun c ob q hx => by
    obtain ⟨o', e1⟩ := a.there c ob q hx
    exact b.there c o' e1 hx
  tups := fun c xs q => b.tups c xs (a.tups c xs q)
  frzs := fun c ob xs q => b.frzs c ob xs (a.frzs c ob xs q)
  tbls := fun c ps q => by
    obtain ⟨m1, e1⟩ := a.tbls c ps q
    obtain ⟨m2, e2⟩ := b.tbls c _ e1
    exact ⟨m1 ++ m2, by rw [e2, Array.append_assoc]⟩
theorem Un.kept (k : ∀ b u, h.get? b = some u → h'.get? b = some u) : Un fs ex H H h h' :=
  ⟨fun b ob q _ _ _ => k b ob q, fun b ob q _ _ _ => ⟨ob.slots, k b ob q⟩, fun _ _ _ n _ => n, fun b ob q _ => ⟨ob, k b ob q⟩, fun _ _ q => q, fun _ _ _ q => q, fun _ ps q => ⟨#[], by rw [q]; simp⟩⟩
theorem Un.refl : Un fs ex H H h h := Un.kept fun _ _ q => q
theorem Un.laid (k : ∀ b u, h.get? b = some u → h'.get? b = some u) (hp : h.objs.size ≤ a) (hn : H a = none) : Un fs ex H (upd H a o) h h' where
  keep := fun b u q _ _ _ => k b u q
  slot := fun b u q _ _ _ => ⟨u.slots, k b u q⟩
  free := fun b u q n _ => by rw [upd_ne (Nat.ne_of_lt (Nat.lt_of_lt_of_le (Heap.lt_size q) hp))]; exact n
  there := fun b u q _ => ⟨u, k b u q⟩
  tups := fun b xs q => by rw [upd_ne (ne_of_none q hn)]; exact q
  frzs := fun b u xs q => by rw [upd_ne (ne_of_none q hn)]; exact q
  tbls := fun b ps q => ⟨#[], by rw [upd_ne (ne_of_none q hn), q]; simp⟩
theorem Un.write (mu : Mut (H x)) (he : e = x ∨ H e = some (.own x)) (k : ∀ b u, b ≠ e → h.get? b = some u → h'.get? b = some u) (heo : ∃ u, h'.get? e = some u) : Un fs ex H (upd H x o) h h' := by
  have hx : ∀ b, H b = none → b ≠ x := fun b n z => by subst z; rw [n] at mu; exact mu
  have hb : ∀ b, H b = none → b ≠ e := fun b n z => by
    subst z
    rcases he with r | r
    · exact hx b n r
    · rw [n] at r; cases r
  have hm : ∀ b u, H b = some u → ¬ Mut (some u) → b ≠ x := fun b u q nm z => by subst z; rw [q] at mu; exact nm mu
  refine ⟨fun b u q n _ _ => k b u (hb b n) q, fun b u q n _ _ => ⟨u.slots, k b u (hb b n) q⟩, fun b u q n _ => by rw [upd_ne (hx b n)]; exact n, fun b u q _ => ?_,
    fun b xs q => by rw [upd_ne (hm b _ q fun z => z)]; exact q, fun b u xs q => by rw [upd_ne (hm b _ q fun z => z)]; exact q, fun b ps q => ⟨#[], by rw [upd_ne (hm b _ q fun z => z), q]; simp⟩⟩
  by_cases hbe : b = e
  · subst hbe; exact heo
  · exact ⟨u, k b u hbe q⟩
theorem Un.mono (u : Un fs ex H H1 h h1) (hs : ∀ b ∈ fs, b ∈ fs') (hx : ∀ b ∈ ex, b ∈ ex') : Un fs' ex' H H1 h h1 :=
  ⟨fun b ob q n hb he => u.keep b ob q n (fun z => hb (hs b z)) fun z => he (hx b z), fun _ _ q n _ he => u.any q n fun z => he (hx _ z), fun b ob q n he => u.free b ob q n fun z => he (hx b z), fun b ob q he => u.there b ob q fun z => he (hx b z), u.tups, u.frzs, u.tbls⟩
end
def trk (h : Heap) (H : Hp) : List Addr := (List.range h.objs.size).filter fun a => (H a).isSome
def hidT (h : Heap) (H : Hp) : Heap := PySem.W.hideAll h (trk h H)
theorem hidT_size (h : Heap) (H : Hp) : (hidT h H).objs.size = h.objs.size := PySem.W.hideAll_size _ _
theorem hidT_get {h : Heap} {H : Hp} {b : Addr} {o : Obj} (e : h.get? b = some o) (n : H b = none) : (hidT h H).get? b = some o :=
  PySem.W.hideAll_get _ e fun hm => by
    have q : (H b).isSome = true := (List.mem_filter.mp hm).2
    rw [n] at q; simp at q
theorem of_hidT {h : Heap} {H : Hp} {b : Addr} {o : Obj} (e : (hidT h H).get? b = some o) : h.get? b = some o ∧ H b = none := by
  have e' : h.get? b = some o := PySem.W.of_hideAll (trk h H) e
  refine ⟨e', ?_⟩
  cases q : H b with
  | none => rfl
  | some x =>
    have hm : b ∈ trk h H := List.mem_filter.mpr ⟨List.mem_range.mpr (Heap.lt_size e'), by simp [q]⟩
    have z : (hidT h H).get? b = none := PySem.W.hideAll_none (trk h H) hm
    rw [z] at e; cases e
def allNews (g h : Heap) (L : Addr) : List (Addr × Obj) := (List.range h.objs.size).filterMap fun a => if a = L ∨ (g.get? a).isSome = true then none else (h.get? a).map fun o => (a, o)
def rest (g h : Heap) (L d : Addr) : List (Addr × Obj) := (allNews g h L).filter fun p => decide (p.1 ≠ d)
end L2
namespace L2
open PySem PySem.Spec PyProof.Rows
structure Mod (K : PySem.W.Frag) (mg : Str → Option Value) (base : Heap) : Prop where
  kin : K.In base
  glob : base.Ns mainGlobals mg
  blt : ∃ mb, base.Ns builtinsNs mb ∧ ∀ x : Str, x ≠ "__name__" → mb x = bootBuiltins x
  nolimit : base.NoLimit
structure Cx where
  prog : Program
  w : World
  K : PySem.W.Frag
  mg : Str → Option Value
  base : Heap
  A : Around
  N : List Str
  s₀ : Shared
  H₀ : Hp
  env : Env
  outer : List Env
  stack : List Env
  ex : List Addr
  fn : Str → Bool
  calm : Bool
  pn : List (Addr × Obj)
  xe : Value → Shared → Prop
def frs (l : List Env) : List Addr := l.filterMap (·.frame)
abbrev Cx.fs (X : Cx) : List Addr := frs X.outer
def Vis (sc : Scope) (x : Str) : Prop := sc.names.lookup x = some .local ∨ sc.names.lookup x = some .cell ∨ sc.names.lookup x = some .free
def Loc (sc : Scope) (x : Str) : Prop := sc.names.lookup x = some .local ∨ sc.names.lookup x = some .cell
def Look (env : Env) (h : Heap) (m : Str → Option Value) (x : Str) (u : Value) : Prop :=
  (env.kindOf x = some .local ∧ m x = some u) ∨ ((env.kindOf x = some .cell ∨ env.kindOf x = some .free) ∧ ∃ c, env.cells.lookup x = some c ∧ h.IsCell c (some u))
structure Cx.Ok (X : Cx) : Prop where
  mod : Mod X.K X.mg X.base
  kind : X.env.scope.kind = .function
  glob : X.env.globals = mainGlobals
  blt : X.env.builtins = builtinsNs
  above : X.s₀.heap.objs.size ≤ X.env.locals
  inj : ∀ x y c, X.env.cells.lookup x = some c → X.env.cells.lookup y = some c → x = y
  has : ∀ x, (X.env.kindOf x = some .cell ∨ X.env.kindOf x = some .free) → ∃ c, X.env.cells.lookup x = some c
  cab : ∀ x c, X.fn x = true → X.env.cells.lookup x = some c → X.s₀.heap.objs.size ≤ c
  hd : X.calm = true → X.A.handled = none
  frames : X.A.frames = some X.stack
  stk : X.stack = X.outer ∨ (X.stack = X.env :: X.outer ∧ X.env.frame = some X.env.locals)
  exf : ∀ b ∈ X.ex, b ≠ X.env.locals ∧ ∀ x c, X.env.cells.lookup x = some c → c ≠ b
  bs : ∀ b o, X.base.get? b = some o → X.s₀.heap.get? b = some o ∧ X.H₀ b = none
  bsz : X.base.objs.size ≤ X.s₀.heap.objs.size
  noex : ∀ b o, X.base.get? b = some o → b ∉ X.ex
  exfs : ∀ b ∈ X.ex, b ∉ X.fs
  funs : X.s₀.heap.FunFrames X.base X.outer
  frf : ∀ b ∈ X.fs, X.H₀ b = none
structure Inv (X : Cx) (pins : List (Addr × Obj)) (σ : List (Option V)) (H : Hp) (s : Shared) : Prop where
  ok : X.Ok
  os : s.os = X.s₀.os
  bare : AllBare s.gens
  base : Un X.fs X.ex X.H₀ H X.s₀.heap s.heap
  loc : ∃ m, s.heap.Ns X.env.locals m ∧ ∀ (i : Nat) (x : Str) (v : V), X.N[i]? = some x → σ[i]? = some (some v) → Vis X.env.scope x → ∃ u, RelV v u ∧ Look X.env s.heap m x u
  cell : ∀ x c, X.env.cells.lookup x = some c → ∃ v, s.heap.IsCell c v
  free : H X.env.locals = none
  freeC : ∀ x c, X.env.cells.lookup x = some c → H c = none
  pin : ∀ p ∈ X.pn ++ pins, s.heap.get? p.1 = some p.2 ∧ H p.1 = none ∧ p.1 ≠ X.env.locals ∧ p.1 ∉ X.fs ∧ ∀ v, p.2.data ≠ .cell v
  hok : HOk X.prog X.w H s.heap
  len : σ.length = X.N.length
section
variable {X : Cx} {pins : List (Addr × Obj)} {σ : List (Option V)} {H H' : Hp} {s : Shared} {h' : Heap}
theorem Cx.Ok.nofr (ok : X.Ok) {b : Addr} {o : Obj} (e : X.base.get? b = some o) : b ∉ X.fs := fun hb => by
  have := (ok.funs.mem hb).1
  rw [e] at this; cases this
theorem Inv.bs (I : Inv X pins σ H s) : ∀ b o, X.base.get? b = some o → s.heap.get? b = some o ∧ H b = none := fun b o e =>
  ⟨I.base.keep b o (I.ok.bs b o e).1 (I.ok.bs b o e).2 (I.ok.nofr e) (I.ok.noex b o e), I.base.free b o (I.ok.bs b o e).1 (I.ok.bs b o e).2 (I.ok.noex b o e)⟩
theorem Inv.bk (I : Inv X pins σ H s) : ∀ b o, X.base.get? b = some o → s.heap.get? b = some o := fun b o e => (I.bs b o e).1
theorem Inv.mod (I : Inv X pins σ H s) : Mod X.K X.mg X.base := I.ok.mod
theorem Inv.kIn (I : Inv X pins σ H s) : X.K.In s.heap := I.ok.mod.kin.keeps I.bk
theorem Inv.nolimit (I : Inv X pins σ H s) : s.heap.NoLimit := I.ok.mod.nolimit.keeps I.bk
theorem Inv.lt (I : Inv X pins σ H s) : X.env.locals < s.heap.objs.size := let ⟨_, hn, _⟩ := I.loc; hn.lt
theorem Inv.sz (I : Inv X pins σ H s) : X.s₀.heap.objs.size ≤ s.heap.objs.size := Nat.le_trans I.ok.above (Nat.le_of_lt I.lt)
theorem Inv.nofs (I : Inv X pins σ H s) {a : Addr} (h : s.heap.objs.size ≤ a) : a ∉ X.fs := fun hb => by
  obtain ⟨_, o, ho, _⟩ := I.ok.funs.mem hb
  exact absurd (Nat.lt_of_lt_of_le (Heap.lt_size ho) (Nat.le_trans I.sz h)) (Nat.lt_irrefl _)
theorem Inv.cne (I : Inv X pins σ H s) : ∀ x c, X.env.cells.lookup x = some c → c ≠ X.env.locals := fun x c e z => by
  obtain ⟨v, o, ho, hd⟩ := I.cell x c e
  obtain ⟨m, ⟨o', es, ep, ho', hd', _⟩, _⟩ := I.loc
  rw [z, ho'] at ho; cases ho; rw [hd'] at hd; cases hd
theorem Inv.funs (I : Inv X pins σ H s) : s.heap.FunFrames X.base X.outer := by
  have all : ∀ (l : List Env), (∀ b ∈ frs l, b ∈ X.fs) → X.s₀.heap.FunFrames X.base l → s.heap.FunFrames X.base l := by
    intro l
    induction l with
    | nil => intro _ _; trivial
    | cons env r ih =>
      intro hs hl
      obtain ⟨hk, ⟨L, o, hf, hn, ho, hd⟩, hr⟩ := hl
      have hL : L ∈ X.fs := hs L (by unfold frs; rw [List.filterMap_cons, hf]; exact List.mem_cons_self)
      obtain ⟨sl, e⟩ := I.base.slot L o ho (I.ok.frf L hL) hL fun z => I.ok.exfs L z hL
      exact ⟨hk, ⟨L, _, hf, hn, e, hd⟩, ih (fun b hb => hs b (by unfold frs; rw [List.filterMap_cons, hf]; exact List.mem_cons_of_mem _ hb)) hr⟩
  exact all X.outer (fun _ hb => hb) I.ok.funs
theorem Inv.stack (I : Inv X pins σ H s) : s.heap.FunFrames X.base X.stack := by
  rcases I.ok.stk with e | ⟨e, hf⟩
  · rw [e]; exact I.funs
  · rw [e]
    obtain ⟨m, hn, _⟩ := I.loc
    refine .cons (by rw [I.ok.kind]; decide) hf hn ?_ I.funs
    exact Heap.get?_none_of_le (Nat.le_trans I.ok.bsz I.ok.above)
theorem Inv.stkSub (I : Inv X pins σ H s) : ∀ b ∈ frs X.stack, b ∈ X.env.locals :: X.fs := fun b hb => by
  rcases I.ok.stk with e | ⟨e, hf⟩
  · rw [e] at hb; exact List.mem_cons_of_mem _ hb
  · rw [e] at hb
    unfold frs at hb
    rw [List.filterMap_cons, hf] at hb
    exact hb
theorem Inv.stkFree (I : Inv X pins σ H s) : ∀ b ∈ frs X.stack, H b = none := fun b hb => by
  rcases List.mem_cons.mp (I.stkSub b hb) with e | hb
  · rw [e]; exact I.free
  · obtain ⟨_, o, ho, _⟩ := I.ok.funs.mem hb
    exact I.base.free b o ho (I.ok.frf b hb) fun z => I.ok.exfs b z hb
theorem Inv.step {g' : Array GenState} {t' : Nat} {d' : Drawn} {ch : List Addr} (I : Inv X pins σ H s)
    (hch : ∀ b ∈ ch, (b ∈ X.ex ∨ X.s₀.heap.objs.size ≤ b) ∧ b ≠ X.env.locals ∧ (∀ x c, X.env.cells.lookup x = some c → c ≠ b) ∧ ∀ p ∈ X.pn ++ pins, p.1 ≠ b)
    (keep : ∀ b o, b ≠ X.env.locals → b ∉ X.fs → b ∉ ch → s.heap.get? b = some o → H b = none → h'.get? b = some o)
    (slot : ∀ b o, b ≠ X.env.locals → b ∈ X.fs → b ∉ ch → s.heap.get? b = some o → H b = none → ∃ sl, h'.get? b = some { o with slots := sl }) (free : ∀ b o, b ∉ ch → s.heap.get? b = some o → H b = none → H' b = none)
    (there : ∀ b o, b ∉ ch → s.heap.get? b = some o → ∃ o', h'.get? b = some o')
    (tups : ∀ b xs, H b = some (.tup xs) → H' b = some (.tup xs)) (frzs : ∀ b o u, H b = some (.frz o u) → H' b = some (.frz o u)) (tbls : ∀ b ps, H b = some (.tbl ps) → ∃ more, H' b = some (.tbl (ps ++ more)))
    (ns : ∀ m, s.heap.Ns X.env.locals m → h'.Ns X.env.locals m) (hok : HOk X.prog X.w H' h') (hg : AllBare g') :
    Inv X pins σ H' { s with heap := h', gens := g', drawn := d', toks := t' } := by
  have neL : ∀ b o, X.s₀.heap.get? b = some o → b ≠ X.env.locals := fun b o e => Nat.ne_of_lt (Nat.lt_of_lt_of_le (Heap.lt_size e) I.ok.above)
  have neC : ∀ b o, X.s₀.heap.get? b = some o → b ∉ X.ex → b ∉ ch := fun b o e hx hb => by
    rcases (hch b hb).1 with z | z
    · exact hx z
    · exact absurd (Nat.lt_of_lt_of_le (Heap.lt_size e) z) (Nat.lt_irrefl _)
  have cellK : ∀ x c, X.env.cells.lookup x = some c → ∀ v, s.heap.IsCell c v → h'.IsCell c v := fun x c e v ⟨o, ho, hd⟩ => by
    have nch : c ∉ ch := fun z => (hch c z).2.2.1 x c e rfl
    by_cases hc : c ∈ X.fs
    · obtain ⟨sl, q⟩ := slot c o (I.cne x c e) hc nch ho (I.freeC x c e)
      exact ⟨_, q, hd⟩
    · exact ⟨o, keep c o (I.cne x c e) hc nch ho (I.freeC x c e), hd⟩
  refine ⟨I.ok, I.os, hg, ⟨fun b o e n hb hx => ?_, fun b o e n hb hx => ?_, fun b o e n hx => ?_, fun b o e hx => ?_, fun b xs e => tups b xs (I.base.tups b xs e), fun b o xs e => frzs b o xs (I.base.frzs b o xs e), fun b ps e => ?_⟩, ?_, fun x c e => ?_, ?_, fun x c e => ?_, fun p hp => ?_, hok, I.len⟩
  · exact keep b o (neL b o e) hb (neC b o e hx) (I.base.keep b o e n hb hx) (I.base.free b o e n hx)
  · obtain ⟨sl, e1⟩ := I.base.slot b o e n hb hx
    obtain ⟨sl', e2⟩ := slot b _ (neL b o e) hb (neC b o e hx) e1 (I.base.free b o e n hx)
    exact ⟨sl', e2⟩
  · obtain ⟨o', e1⟩ := I.base.there b o e hx
    exact free b o' (neC b o e hx) e1 (I.base.free b o e n hx)
  · obtain ⟨o', e1⟩ := I.base.there b o e hx
    exact there b o' (neC b o e hx) e1
  · obtain ⟨m1, e1⟩ := I.base.tbls b ps e
    obtain ⟨m2, e2⟩ := tbls b _ e1
    exact ⟨m1 ++ m2, by rw [e2, Array.append_assoc]⟩
  · obtain ⟨m, hn, hl⟩ := I.loc
    refine ⟨m, ns m hn, fun i x v e1 e2 e3 => ?_⟩
    obtain ⟨u, r, l⟩ := hl i x v e1 e2 e3
    refine ⟨u, r, ?_⟩
    rcases l with l | ⟨k, c, e, z⟩
    · exact .inl l
    · exact .inr ⟨k, c, e, cellK x c e _ z⟩
  · obtain ⟨v, z⟩ := I.cell x c e
    exact ⟨v, cellK x c e v z⟩
  · obtain ⟨m, ⟨o, _, _, ho, _⟩, _⟩ := I.loc
    exact free _ o (fun z => (hch _ z).2.1 rfl) ho I.free
  · obtain ⟨v, o, ho, hd⟩ := I.cell x c e
    exact free c o (fun z => (hch c z).2.2.1 x c e rfl) ho (I.freeC x c e)
  · obtain ⟨e, n, ne, nf, d⟩ := I.pin p hp
    have nch : p.1 ∉ ch := fun z => (hch p.1 z).2.2.2 p hp rfl
    exact ⟨keep p.1 p.2 ne nf nch e n, free p.1 p.2 nch e n, ne, nf, d⟩
theorem Inv.un {t' : Nat} (I : Inv X pins σ H s) (u : Un X.fs [] H H' s.heap h') (hok : HOk X.prog X.w H' h') : Inv X pins σ H' { s with heap := h', toks := t' } := by
  obtain ⟨m, ⟨o, es, ep, ho, r⟩, _⟩ := id I.loc
  obtain ⟨sl, hL⟩ := u.any ho I.free (by simp)
  exact I.step (g' := s.gens) (d' := s.drawn) (ch := []) (fun _ z => nomatch z) (fun b o _ hb _ e n => u.keep b o e n hb (by simp)) (fun b o _ hb _ e n => u.slot b o e n hb (by simp)) (fun b o _ e n => u.free b o e n (by simp)) (fun b o _ e => u.there b o e (by simp)) u.tups u.frzs u.tbls (fun m' hm => by
    obtain ⟨o', es', ep', ho', r'⟩ := hm
    rw [ho] at ho'; cases ho'
    exact ⟨_, es', ep', hL, r'⟩) hok I.bare
theorem Inv.call {g' : Array GenState} {t' : Nat} {d' : Drawn} {ch : List Addr} (I : Inv X pins σ H s) (u : Un (frs X.stack) ch H H' s.heap h') (hok : HOk X.prog X.w H' h') (hg : AllBare g')
    (hch : ∀ b ∈ ch, (b ∈ X.ex ∨ X.s₀.heap.objs.size ≤ b) ∧ b ≠ X.env.locals ∧ (∀ x c, X.env.cells.lookup x = some c → c ≠ b) ∧ ∀ p ∈ X.pn ++ pins, p.1 ≠ b) :
    Inv X pins σ H' { s with heap := h', gens := g', drawn := d', toks := t' } := by
  obtain ⟨m, ⟨o, es, ep, ho, r⟩, _⟩ := id I.loc
  obtain ⟨sl, hL⟩ := u.any ho I.free fun z => (hch _ z).2.1 rfl
  exact I.step (ch := ch) hch (fun b o hL hb hc e n => u.keep b o e n (fun z => (List.mem_cons.mp (I.stkSub b z)).elim hL hb) hc) (fun b o _ _ hc e n => u.any e n hc) (fun b o hc e n => u.free b o e n hc) (fun b o hc e => u.there b o e hc) u.tups u.frzs u.tbls (fun m' hm => by
    obtain ⟨o', es', ep', ho', r'⟩ := hm
    rw [ho] at ho'; cases ho'
    exact ⟨_, es', ep', hL, r'⟩) hok hg
theorem Inv.turned {t' : Nat} {it : Addr} (I : Inv X pins σ H s) (k : ∀ b o, b ≠ it → s.heap.get? b = some o → h'.get? b = some o) (hn : H it = none) (hL : it ≠ X.env.locals)
    (h1 : it ∈ X.ex ∨ X.s₀.heap.objs.size ≤ it) (h2 : ∀ x c, X.env.cells.lookup x = some c → c ≠ it) (h3 : ∀ p ∈ X.pn ++ pins, p.1 ≠ it) : Inv X pins σ H { s with heap := h', toks := t' } := by
  have nit : ∀ b u, H b = some u → b ≠ it := fun b u e z => by rw [z, hn] at e; cases e
  refine I.step (g' := s.gens) (d' := s.drawn) (ch := [it]) (fun b hb => ?_) (fun b o _ _ hc e _ => k b o (fun z => hc (by simp [z])) e) (fun b o _ _ hc e _ => ⟨o.slots, k b o (fun z => hc (by simp [z])) e⟩) (fun _ _ _ _ n => n)
    (fun b o hc e => ⟨o, k b o (fun z => hc (by simp [z])) e⟩) (fun _ _ e => e) (fun _ _ _ e => e) (fun b ps e => ⟨#[], by rw [e]; simp⟩) (fun m hm => ?_) (fun b u e => ?_) I.bare
  · have e : b = it := by simpa using hb
    subst e
    exact ⟨h1, hL, h2, h3⟩
  · obtain ⟨o, es, ep, ho, r⟩ := hm
    exact ⟨o, es, ep, k _ o (Ne.symm hL) ho, r⟩
  · refine (I.hok b u e).stay (fun c v hc q => k c v ?_ q) (fun _ q => q) fun _ _ q => q
    rcases hc with z | z
    · rw [z]; exact nit b u e
    · exact nit c _ z
theorem Inv.tok (I : Inv X pins σ H s) (t : Nat) : Inv X pins σ H { s with toks := t } := I.un (h' := s.heap) (t' := t) Un.refl I.hok
theorem Inv.kept {t' : Nat} (I : Inv X pins σ H s) (k : ∀ b u, s.heap.get? b = some u → h'.get? b = some u) : Inv X pins σ H { s with heap := h', toks := t' } := I.un (Un.kept k) (I.hok.kept k)
theorem Inv.laid {a : Addr} {o : HO} {t' : Nat} (I : Inv X pins σ H s) (k : ∀ b u, s.heap.get? b = some u → h'.get? b = some u) (hp : s.heap.objs.size ≤ a) (new : ObjOk X.prog X.w (upd H a o) h' a o) :
    Inv X pins σ (upd H a o) { s with heap := h', toks := t' } := I.un (Un.laid k hp (I.hok.fresh hp)) (I.hok.laid k hp new)
theorem Inv.write {x e : Addr} {o : HO} {t' : Nat} (I : Inv X pins σ H s) (mu : Mut (H x)) (he : e = x ∨ H e = some (.own x)) (k : ∀ b u, b ≠ e → s.heap.get? b = some u → h'.get? b = some u) (heo : ∃ u, h'.get? e = some u)
    (new : ObjOk X.prog X.w (upd H x o) h' x o) : Inv X pins σ (upd H x o) { s with heap := h', toks := t' } := I.un (Un.write mu he k heo) (I.hok.write mu he k heo new)
theorem Inv.pins_of {pins' : List (Addr × Obj)} (I : Inv X pins σ H s) (h : ∀ p ∈ pins', s.heap.get? p.1 = some p.2 ∧ H p.1 = none ∧ p.1 ≠ X.env.locals ∧ p.1 ∉ X.fs ∧ ∀ v, p.2.data ≠ .cell v) : Inv X pins' σ H s :=
  ⟨I.ok, I.os, I.bare, I.base, I.loc, I.cell, I.free, I.freeC, fun p hp => (List.mem_append.mp hp).elim (fun z => I.pin p (List.mem_append_left _ z)) (h p), I.hok, I.len⟩
theorem nodup_ix {N : List Str} (hN : N.Nodup) {i j : Nat} {x : Str} (a : N[i]? = some x) (b : N[j]? = some x) : i = j := by
  obtain ⟨h1, e1⟩ := List.getElem?_eq_some_iff.mp a
  obtain ⟨h2, e2⟩ := List.getElem?_eq_some_iff.mp b
  exact (List.getElem_inj hN).mp (e1.trans e2.symm)
theorem store_ok2 {M : Model} {A : Around} {E : Value → Shared → Prop} {i : Nat} {x : Str} {v : V} {u : Value} {Q : Unit → Shared → Prop} (I : Inv X pins σ H s) (hN : X.N.Nodup) (hi : X.N[i]? = some x) (hx : Loc X.env.scope x) (r : RelV v u)
    (h : ∀ s', Inv X pins (σ.set i (some v)) H s' → (∃ a, Heap.SameBut a s.heap s'.heap ∧ (a = X.env.locals ∨ X.env.cells.lookup x = some a)) → Q () s') (hf : X.fn x = true ∨ X.env.scope.names.lookup x = some .local := by first | exact .inl rfl | exact .inr rfl | assumption) : wpAny M A (storeName X.env x u) Q E s := by
  obtain ⟨m, hn, hl⟩ := id I.loc
  have hcls : (X.env.scope.kind == .class || (X.env.scope.kind == .module && X.env.locals != X.env.globals)) = false := by rw [I.ok.kind]; rfl
  have hiσ : i < σ.length := by rw [I.len]; exact (List.getElem?_eq_some_iff.mp hi).1
  have cne := I.cne
  have tracked : ∀ {a : Addr} {h' : Heap}, (∃ o, s.heap.get? a = some o ∧ H a = none) → Heap.SameBut a s.heap h' → HOk X.prog X.w H h' := fun {a h'} ha hs b ob e => by
    obtain ⟨_, _, hfree⟩ := ha
    refine (I.hok b ob e).stay (fun c w' hc q => (hs.2 c ?_).trans q) (fun _ q => q) fun _ _ q => q
    rintro rfl
    rcases hc with rfl | hc
    · rw [hfree] at e; cases e
    · rw [hfree] at hc; cases hc
  rcases hx with hk | hk
  · refine wpAny_storeName_local hk hn (fun h' hn' hs => ?_) hcls
    obtain ⟨oL, _, _, hoL, _⟩ := id hn
    refine h _ ⟨I.ok, I.os, I.bare, ⟨fun b o e n hb hx => ?_, fun b o e n hb hx => ?_, I.base.free, fun b o e hx => ?_, I.base.tups, I.base.frzs, I.base.tbls⟩, ⟨_, hn', fun j y v' e1 e2 e3 => ?_⟩, fun y c e => ?_, I.free, I.freeC, fun p hp => ?_, tracked ⟨oL, hoL, I.free⟩ hs, by simpa using I.len⟩ ⟨_, hs, .inl rfl⟩
    · exact (hs.2 b (Nat.ne_of_lt (Nat.lt_of_lt_of_le (Heap.lt_size e) I.ok.above))).trans (I.base.keep b o e n hb hx)
    · obtain ⟨sl, e1⟩ := I.base.slot b o e n hb hx
      exact ⟨sl, (hs.2 b (Nat.ne_of_lt (Nat.lt_of_lt_of_le (Heap.lt_size e) I.ok.above))).trans e1⟩
    · obtain ⟨o', e1⟩ := I.base.there b o e hx
      exact ⟨o', (hs.2 b (Nat.ne_of_lt (Nat.lt_of_lt_of_le (Heap.lt_size e) I.ok.above))).trans e1⟩
    · by_cases hj : j = i
      · subst hj
        rw [hi] at e1; cases e1
        rw [List.getElem?_set_self hiσ] at e2
        cases e2
        exact ⟨u, r, .inl ⟨hk, by simp⟩⟩
      · rw [List.getElem?_set_ne (Ne.symm hj)] at e2
        obtain ⟨u', r', q⟩ := hl j y v' e1 e2 e3
        refine ⟨u', r', ?_⟩
        rcases q with ⟨k, e⟩ | ⟨k, c, e, z⟩
        · refine .inl ⟨k, ?_⟩
          have : y ≠ x := fun e => hj (nodup_ix hN e1 (e ▸ hi))
          simp [this, e]
        · exact .inr ⟨k, c, e, z.sameBut hs (cne y c e)⟩
    · obtain ⟨w', z⟩ := I.cell y c e
      exact ⟨w', z.sameBut hs (cne y c e)⟩
    · obtain ⟨e, n, ne, nf, d⟩ := I.pin p hp
      exact ⟨(hs.2 p.1 ne).trans e, n, ne, nf, d⟩
  · have hfn : X.fn x = true := by
      rcases hf with z | z
      · exact z
      · rw [z] at hk; cases hk
    obtain ⟨c, hc⟩ := I.ok.has x (.inl hk)
    obtain ⟨w', z⟩ := I.cell x c hc
    refine wpAny_storeName_cell I.ok.kind hk hc z (fun h' hc' hs => ?_)
    obtain ⟨oc, hoc, hocd⟩ := id z
    refine h { s with heap := h' } ⟨I.ok, I.os, I.bare, ⟨fun b o e n hb hx => ?_, fun b o e n hb hx => ?_, I.base.free, fun b o e hx => ?_, I.base.tups, I.base.frzs, I.base.tbls⟩, ⟨m, hn.sameBut hs (Ne.symm (cne x c hc)), fun j y v' e1 e2 e3 => ?_⟩, fun y c' e => ?_, I.free, I.freeC, fun p hp => ?_, tracked ⟨oc, hoc, I.freeC x c hc⟩ hs, by simpa using I.len⟩ ⟨c, hs, .inr hc⟩
    · exact (hs.2 b (Nat.ne_of_lt (Nat.lt_of_lt_of_le (Heap.lt_size e) (I.ok.cab x c hfn hc)))).trans (I.base.keep b o e n hb hx)
    · obtain ⟨sl, e1⟩ := I.base.slot b o e n hb hx
      exact ⟨sl, (hs.2 b (Nat.ne_of_lt (Nat.lt_of_lt_of_le (Heap.lt_size e) (I.ok.cab x c hfn hc)))).trans e1⟩
    · obtain ⟨o', e1⟩ := I.base.there b o e hx
      exact ⟨o', (hs.2 b (Nat.ne_of_lt (Nat.lt_of_lt_of_le (Heap.lt_size e) (I.ok.cab x c hfn hc)))).trans e1⟩
    · by_cases hj : j = i
      · subst hj
        rw [hi] at e1; cases e1
        rw [List.getElem?_set_self hiσ] at e2
        cases e2
        exact ⟨u, r, .inr ⟨.inl hk, c, hc, hc'⟩⟩
      · rw [List.getElem?_set_ne (Ne.symm hj)] at e2
        obtain ⟨u', r', q⟩ := hl j y v' e1 e2 e3
        refine ⟨u', r', ?_⟩
        rcases q with q | ⟨k, c', e, z'⟩
        · exact .inl q
        · refine .inr ⟨k, c', e, z'.sameBut hs ?_⟩
          rintro rfl
          exact hj (nodup_ix hN e1 (I.ok.inj _ _ _ e hc ▸ hi))
    · by_cases hcc : c' = c
      · subst hcc; exact ⟨_, hc'⟩
      · obtain ⟨w2, z2⟩ := I.cell y c' e
        exact ⟨w2, z2.sameBut hs hcc⟩
    · obtain ⟨e, n, ne, nf, d⟩ := I.pin p hp
      refine ⟨(hs.2 p.1 ?_).trans e, n, ne, nf, d⟩
      intro q
      rw [q, hoc] at e
      have q' : oc = p.2 := Option.some.inj e
      exact d w' (by rw [← q']; exact hocd)
theorem store_ok {M : Model} {A : Around} {E : Value → Shared → Prop} {i : Nat} {x : Str} {v : V} {u : Value} {Q : Unit → Shared → Prop} (I : Inv X pins σ H s) (hN : X.N.Nodup) (hi : X.N[i]? = some x) (hx : Loc X.env.scope x) (r : RelV v u)
    (h : ∀ s', Inv X pins (σ.set i (some v)) H s' → Q () s') (hf : X.fn x = true ∨ X.env.scope.names.lookup x = some .local := by first | exact .inl rfl | exact .inr rfl | assumption) : wpAny M A (storeName X.env x u) Q E s :=
  store_ok2 I hN hi hx r (fun s' I' _ => h s' I') hf
theorem Inv.call' {s' : Shared} {ch : List Addr} (I : Inv X pins σ H s) (ho : s'.os = s.os) (u : Un (frs X.stack) ch H H' s.heap s'.heap) (hok : HOk X.prog X.w H' s'.heap) (hg : AllBare s'.gens)
    (hch : ∀ b ∈ ch, (b ∈ X.ex ∨ X.s₀.heap.objs.size ≤ b) ∧ b ≠ X.env.locals ∧ (∀ x c, X.env.cells.lookup x = some c → c ≠ b) ∧ ∀ p ∈ X.pn ++ pins, p.1 ≠ b) : Inv X pins σ H' s' := by
  obtain ⟨h', g', d', t', o'⟩ := s'
  have e : o' = s.os := ho
  subst e
  exact I.call (g' := g') (t' := t') (d' := d') u hok hg hch
end
abbrev XK := Value → Option Addr → Hp → Prop
abbrev St := List (Option V)
abbrev VK := V → Hp → Prop
abbrev TE := St → Hp → VK → Prop
abbrev TT := St → Hp → (Bool → Hp → Prop) → Prop
abbrev TA := St → Hp → (List V → Hp → Prop) → Prop
structure Ends where
  nx : St → Hp → Prop
  rt : VK
  bk : St → Hp → Prop := fun _ _ => False
  ct : St → Hp → Prop := fun _ _ => False
abbrev TS := Ends → St → Hp → Prop
def EP (X : Cx) (pins : List (Addr × Obj)) (σ : St) (Q : VK) (u : Value) (s' : Shared) : Prop := ∃ v H', Inv X pins σ H' s' ∧ RelV v u ∧ Q v H'
def TP (X : Cx) (pins : List (Addr × Obj)) (σ : St) (Q : Bool → Hp → Prop) (b : Bool) (s' : Shared) : Prop := ∃ H', Inv X pins σ H' s' ∧ Q b H'
def AP (X : Cx) (pins : List (Addr × Obj)) (σ : St) (Q : List V → Hp → Prop) (us : List Value) (s' : Shared) : Prop := ∃ vs H', Inv X pins σ H' s' ∧ Vals vs us ∧ Q vs H'
def SP (X : Cx) (pins : List (Addr × Obj)) (D : Ends) (f : Flow) (s' : Shared) : Prop :=
  match f with
  | .next => ∃ σ' H', Inv X pins σ' H' s' ∧ D.nx σ' H'
  | .brk => ∃ σ' H', Inv X pins σ' H' s' ∧ D.bk σ' H'
  | .cont => ∃ σ' H', Inv X pins σ' H' s' ∧ D.ct σ' H'
  | .ret u => ∃ v σ' H', Inv X pins σ' H' s' ∧ RelV v u ∧ D.rt v H'
def PE (X : Cx) (e : Expr) (t : TE) : Prop :=
  ∀ (pins : List (Addr × Obj)) (s : Shared) (σ : St) (H : Hp) (Q : VK), Inv X pins σ H s → t σ H Q → wpAny (model X.prog X.w) X.A (eval e X.env) (EP X pins σ Q) X.xe s
def PT (X : Cx) (e : Expr) (t : TT) : Prop :=
  ∀ (pins : List (Addr × Obj)) (s : Shared) (σ : St) (H : Hp) (Q : Bool → Hp → Prop), Inv X pins σ H s → t σ H Q → wpAny (model X.prog X.w) X.A (isTrue e X.env (eval e X.env)) (TP X pins σ Q) X.xe s
def PW (X : Cx) (e : Expr) (t : TT) : Prop :=
  ∀ (whole : Sem Value) (pins : List (Addr × Obj)) (s : Shared) (σ : St) (H : Hp) (Q : Bool → Hp → Prop), Inv X pins σ H s → t σ H Q → wpAny (model X.prog X.w) X.A (isTrue e X.env whole) (TP X pins σ Q) X.xe s
theorem PW.pt {X : Cx} {e : Expr} {t : TT} (h : PW X e t) : PT X e t := h _
def PA (X : Cx) (es : List Expr) (t : TA) : Prop :=
  ∀ (pos : Pos) (pins : List (Addr × Obj)) (s : Shared) (σ : St) (H : Hp) (Q : List V → Hp → Prop), Inv X pins σ H s → t σ H Q → wpAny (model X.prog X.w) X.A (spliced (backTo pos (starEach es X.env))) (AP X pins σ Q) X.xe s
def PS (X : Cx) (st : Stmt) (t : TS) : Prop :=
  ∀ (pins : List (Addr × Obj)) (s : Shared) (σ : St) (H : Hp) (D : Ends), Inv X pins σ H s → t D σ H → wpAny (model X.prog X.w) X.A (exec st X.env) (SP X pins D) X.xe s
def PSs (X : Cx) (st : List Stmt) (t : TS) : Prop :=
  ∀ (pins : List (Addr × Obj)) (s : Shared) (σ : St) (H : Hp) (D : Ends), Inv X pins σ H s → t D σ H → wpAny (model X.prog X.w) X.A (execs st X.env) (SP X pins D) X.xe s
theorem thn {α : Type} {t : Sem α} {Q Q' : α → Shared → Prop} {M : Model} {A : Around} {E : Value → Shared → Prop} {s : Shared} (h : wpAny M A t Q E s) (hQ : ∀ a s, Q a s → Q' a s) : wpAny M A t Q' E s := wpAny_mono h hQ fun _ _ x => x
end L2
namespace L2
open PySem PySem.Spec PyProof.Rows
section
variable {X : Cx}
def tVar (i : Nat) : TE := fun σ H Q => ∃ v, σ[i]? = some (some v) ∧ Q v H
def tC (v : V) : TE := fun _ H Q => Q v H
theorem pe_var {i : Nat} {x : Str} {pos : Pos} (hN : X.N[i]? = some x) (hv : Vis X.env.scope x) (hd : (x == ("__debug__" : Str)) = false := by decide) (hcd : (x == ("__classdict__" : Str)) = false := by decide) : PE X (.Name x pos) (tVar i) := by
  intro pins s σ H Q I h
  obtain ⟨v, e, h⟩ := h
  obtain ⟨m, hn, hl⟩ := I.loc
  obtain ⟨u, r, l⟩ := hl i x v hN e hv
  have fin : EP X pins σ Q u s := ⟨v, H, I, r, h⟩
  rcases l with ⟨hk, hm⟩ | ⟨hk, c, hc, hcell⟩
  · exact wpAny_Name (wpAny_loadName_local I.ok.kind hk hn hm fin) hd
  · rcases hk with hk | hk
    · exact wpAny_Name (wpAny_loadName_cell I.ok.kind hk hc hcell fin) hd
    · exact wpAny_Name (wpAny_loadName_free I.ok.kind hk hc hcell fin hcd) hd
theorem pe_int {i j pos} : PE X (.Constant (.int i) j pos) (tC (.int i)) := fun _ _ _ H _ I h => wpAny_Constant_int ⟨.int i, H, I.tok _, ⟨_, rfl⟩, h⟩
theorem pe_bl {b j pos} : PE X (.Constant (.bool b) j pos) (tC (.bl b)) := fun _ _ _ H _ I h => Constant_bool ⟨.bl b, H, I, rfl, h⟩
theorem pe_non {j pos} : PE X (.Constant .none j pos) (tC .non) := fun _ _ _ H _ I h => Constant_none ⟨.non, H, I, rfl, h⟩
def Gl (X : Cx) (x : Str) : Prop := X.env.kindOf x = some .globalImplicit
theorem ld_glob {E : Value → Shared → Prop} {pins : List (Addr × Obj)} {s : Shared} {σ : St} {H : Hp} {x : Str} {u : Value} {pos : Pos} {Q : Value → Shared → Prop} (I : Inv X pins σ H s) (hg : Gl X x) (hm : X.mg x = some u) (h : Q u s)
    (hd : (x == ("__debug__" : Str)) = false := by decide) : wpAny (model X.prog X.w) X.A (eval (.Name x pos) X.env) Q E s :=
  Calls.Name_function_global I.ok.kind hg (Calls.loadGlobal_global (by rw [I.ok.glob]; exact I.mod.glob.keeps I.bk) hm h) hd
theorem ld_blt {E : Value → Shared → Prop} {pins : List (Addr × Obj)} {s : Shared} {σ : St} {H : Hp} {x : Str} {u : Value} {pos : Pos} {Q : Value → Shared → Prop} (I : Inv X pins σ H s) (hg : Gl X x) (hm : X.mg x = none) (hv : bootBuiltins x = some u) (h : Q u s)
    (hn : x ≠ "__name__" := by decide) (hd : (x == ("__debug__" : Str)) = false := by decide) : wpAny (model X.prog X.w) X.A (eval (.Name x pos) X.env) Q E s := by
  obtain ⟨mb, h1, h2⟩ := I.mod.blt
  exact Calls.Name_function_global I.ok.kind hg (Calls.loadGlobal_builtin (by rw [I.ok.glob]; exact I.mod.glob.keeps I.bk) hm (by rw [I.ok.blt]; exact h1.keeps I.bk) ((h2 x hn).trans hv) h) hd
theorem pe_bltn {x : Str} {v : V} {u : Value} {pos : Pos} (hg : Gl X x) (hm : X.mg x = none) (hv : bootBuiltins x = some u) (r : RelV v u) (hn : x ≠ "__name__" := by decide) (hd : (x == ("__debug__" : Str)) = false := by decide) : PE X (.Name x pos) (tC v) :=
  fun _ _ _ H _ I h => ld_blt I hg hm hv ⟨v, H, I, r, h⟩ hn hd
variable {a b : Expr} {ta tb : TE} {pos : Pos}
def tB (t : TE) : TT := fun σ H Q => t σ H fun x H1 => ∃ c, x = .bl c ∧ Q c H1
theorem pt_val {e : Expr} {t : TE} (h : PE X e t) (he : ∀ whole, isTrue e X.env whole = (do let v ← whole; standAt e.pos; holding [v] (truthy v)) := by intro _; rfl) : PT X e (tB t) := by
  intro pins s σ H Q I hw
  refine isTrue_plain (thn (h pins s σ H _ I hw) fun v s1 ⟨x, H1, I1, r1, q1⟩ => ?_) (he _)
  obtain ⟨d, rfl, q⟩ := q1
  cases r1
  exact wpAny_truthy_bool ⟨H1, I1, q⟩
variable {tA tB' : TT} {rest : List Expr}
def tAnd (t u : TT) : TT := fun σ H Q => t σ H fun c H1 => if c = true then u σ H1 Q else Q false H1
def tOr (t u : TT) : TT := fun σ H Q => t σ H fun c H1 => if c = true then Q true H1 else u σ H1 Q
def tNot (t : TT) : TT := fun σ H Q => t σ H fun c H1 => Q (!c) H1
theorem pw_and1 (ha : PT X a tA) : PW X (.BoolOp .And [a] pos) tA := by
  intro wh pins s σ H Q I h
  refine isTrue_and (thn (ha pins s σ H Q I h) fun c s1 e => ?_)
  cases c with
  | true => exact isTrue_and_nil e
  | false => exact e
theorem pw_or1 (ha : PT X a tA) : PW X (.BoolOp .Or [a] pos) tA := by
  intro wh pins s σ H Q I h
  refine isTrue_or (thn (ha pins s σ H Q I h) fun c s1 e => ?_)
  cases c with
  | false => exact isTrue_or_nil e
  | true => exact e
theorem pw_and (ha : PT X a tA) (hb : PW X (.BoolOp .And (b :: rest) pos) tB') : PW X (.BoolOp .And (a :: b :: rest) pos) (tAnd tA tB') := by
  intro wh pins s σ H Q I h
  refine isTrue_and (thn (ha pins s σ H _ I h) fun c s1 ⟨H1, I1, q1⟩ => ?_)
  cases c with
  | true => exact hb wh pins s1 σ H1 Q I1 q1
  | false => exact ⟨H1, I1, q1⟩
theorem pw_or (ha : PT X a tA) (hb : PW X (.BoolOp .Or (b :: rest) pos) tB') : PW X (.BoolOp .Or (a :: b :: rest) pos) (tOr tA tB') := by
  intro wh pins s σ H Q I h
  refine isTrue_or (thn (ha pins s σ H _ I h) fun c s1 ⟨H1, I1, q1⟩ => ?_)
  cases c with
  | true => exact ⟨H1, I1, q1⟩
  | false => exact hb wh pins s1 σ H1 Q I1 q1
theorem pt_not (ha : PT X a tA) : PT X (.UnaryOp .Not a pos) (tNot tA) := by
  intro pins s σ H Q I h
  exact isTrue_not (ha pins s σ H (fun c H1 => Q (!c) H1) I h)
def tAndV (ta tb : TE) : TE := fun σ H Q => ta σ H fun x H1 => ∃ c, x = .bl c ∧ if c = true then tb σ H1 Q else Q (.bl false) H1
theorem pe_one {op} {t : TE} (h : PE X a t) : PE X (.BoolOp op [a] pos) t := fun pins s σ H Q I hw => BoolOp_one (h pins s σ H Q I hw)
theorem pe_and (ha : PE X a ta) (hb : PE X (.BoolOp .And (b :: rest) pos) tb) : PE X (.BoolOp .And (a :: b :: rest) pos) (tAndV ta tb) := by
  intro pins s σ H Q I h
  refine BoolOp_and (thn (ha pins s σ H _ I h) fun v s1 ⟨x, H1, I1, r1, q1⟩ => ?_)
  obtain ⟨c, rfl, q1⟩ := q1
  cases r1
  refine wpAny_truthy_bool ?_
  cases c with
  | true => exact hb pins s1 σ H1 Q I1 q1
  | false => exact ⟨.bl false, H1, I1, rfl, q1⟩
def tIf (t : TT) (ta tb : TE) : TE := fun σ H Q => t σ H fun c H1 => if c = true then ta σ H1 Q else tb σ H1 Q
theorem pe_ifExp {c : Expr} (hc : PT X c tA) (ha : PE X a ta) (hb : PE X b tb) : PE X (.IfExp c a b pos) (tIf tA ta tb) := by
  intro pins s σ H Q I h
  refine wpAny_IfExp (thn (hc pins s σ H _ I h) fun d s1 ⟨H1, I1, q1⟩ => ?_)
  cases d with
  | true => exact ha pins s1 σ H1 Q I1 q1
  | false => exact hb pins s1 σ H1 Q I1 q1
end
end L2
namespace L2
open PySem PySem.Spec PyProof.Rows
def SqL (K : PySem.W.Frag) (H : Hp) (a : Addr) (xs : List V) : Prop :=
  Rd H a (.lst xs) ∨
    ∃ (o : Obj) (its : Array Value) (n : Nat), K.lookup a = some o ∧ o.cls = .type "list" ∧ o.dict = none ∧ o.data = .seq its n ∧ its.size ≤ sizeLine ∧ Vals xs its.toList
def SqT (K : PySem.W.Frag) (H : Hp) (a : Addr) (xs : List V) : Prop :=
  Rd H a (.tup xs) ∨
    ∃ (o : Obj) (its : Array Value) (n : Nat), K.lookup a = some o ∧ o.cls = .type "tuple" ∧ o.dict = none ∧ o.data = .seq its n ∧ its.size ≤ sizeLine ∧ Vals xs its.toList
def absV : Value → Option V
  | .none => some .non
  | .bool b => some (.bl b)
  | .int i _ => some (.int i)
  | .str x _ => some (.str x)
  | .bytes b _ => some (.byt b)
  | .float b _ => some (.flt b)
  | .ref a => some (.ref a)
  | .type n => some (.ty n)
  | _ => none
theorem RelV.abs {x : V} {u : Value} (r : RelV x u) : absV u = some x := by
  cases x with
  | non => cases r; rfl
  | bl _ => cases r; rfl
  | int _ => obtain ⟨t, rfl⟩ := r; rfl
  | str _ => obtain ⟨t, rfl⟩ := r; rfl
  | byt _ => obtain ⟨t, rfl⟩ := r; rfl
  | flt _ => obtain ⟨t, rfl⟩ := r; rfl
  | ref _ => cases r; rfl
  | ty _ => cases r; rfl
theorem RelV.inj {x y : V} {u : Value} (r : RelV x u) (q : RelV y u) : x = y := Option.some.inj (r.abs.symm.trans q.abs)
theorem Vals.inj : ∀ {xs ys : List V} {us : List Value}, Vals xs us → Vals ys us → xs = ys
  | _, _, _, .nil, .nil => rfl
  | _, _, _, .cons r t, .cons r' t' => by rw [r.inj r', Vals.inj t t']
section
variable {X : Cx} {pins : List (Addr × Obj)} {σ : St} {H : Hp} {s : Shared} {a : Addr} {xs ys : List V}
theorem SqL.of {K : PySem.W.Frag} (h : H a = some (.lst xs)) : SqL K H a xs := .inl (.inl h)
theorem SqT.of {K : PySem.W.Frag} (h : H a = some (.tup xs)) : SqT K H a xs := .inl (.inl h)
theorem Inv.list (I : Inv X pins σ H s) (h : SqL X.K H a xs) : ∃ its : List Value, Vals xs its ∧ PlainL s.heap a its.toArray ∧ xs.length ≤ sizeLine := by
  rcases h with h | ⟨o, its, n, hk, hc, hd, hs, hz, r⟩
  · obtain ⟨z, its, n, r, e⟩ := h.ok I.hok
    exact ⟨its, r, ⟨_, n, e, rfl, rfl, rfl⟩, z⟩
  · refine ⟨its.toList, r, ⟨o, n, I.kIn a o hk, hc, hd, by simpa using hs⟩, ?_⟩
    have e := r.length
    simp only [Array.length_toList] at e
    omega
theorem Inv.tuple (I : Inv X pins σ H s) (h : SqT X.K H a xs) : ∃ its : List Value, Vals xs its ∧ IsTup s.heap a its.toArray ∧ xs.length ≤ sizeLine := by
  rcases h with h | ⟨o, its, n, hk, hc, _, hs, hz, r⟩
  · obtain ⟨z, its, r, p⟩ := h.ok I.hok
    exact ⟨its, r, p.tup, z⟩
  · refine ⟨its.toList, r, ⟨o, I.kIn a o hk, hc, n, by simpa using hs⟩, ?_⟩
    have e := r.length
    simp only [Array.length_toList] at e
    omega
theorem Inv.list_inj (I : Inv X pins σ H s) (h : SqL X.K H a xs) (h' : SqL X.K H a ys) : xs = ys := by
  obtain ⟨its, r, ⟨o, n, e, _, _, d⟩, _⟩ := I.list h
  obtain ⟨its', r', ⟨o', n', e', _, _, d'⟩, _⟩ := I.list h'
  rw [e] at e'; cases e'
  rw [d] at d'
  injection d' with d1 _
  have : its = its' := by simpa using congrArg Array.toList d1
  subst this
  exact r.inj r'
theorem Inv.tuple_inj (I : Inv X pins σ H s) (h : SqT X.K H a xs) (h' : SqT X.K H a ys) : xs = ys := by
  obtain ⟨its, r, ⟨o, e, _, n, d⟩, _⟩ := I.tuple h
  obtain ⟨its', r', ⟨o', e', _, n', d'⟩, _⟩ := I.tuple h'
  rw [e] at e'; cases e'
  rw [d] at d'
  injection d' with d1 _
  have : its = its' := by simpa using congrArg Array.toList d1
  subst this
  exact r.inj r'
end
abbrev Cx.wish (X : Cx) (E : Value → Shared → Prop) : Cx := { X with xe := E }
abbrev Cx.nox (X : Cx) : Cx := X.wish fun _ _ => False
theorem Cx.Ok.wish {X : Cx} (ok : X.Ok) (E : Value → Shared → Prop) : (X.wish E).Ok :=
  ⟨ok.mod, ok.kind, ok.glob, ok.blt, ok.above, ok.inj, ok.has, ok.cab, ok.hd, ok.frames, ok.stk, ok.exf, ok.bs, ok.bsz, ok.noex, ok.exfs, ok.funs, ok.frf⟩
theorem Cx.Ok.unwish {X : Cx} {E : Value → Shared → Prop} (ok : (X.wish E).Ok) : X.Ok :=
  ⟨ok.mod, ok.kind, ok.glob, ok.blt, ok.above, ok.inj, ok.has, ok.cab, ok.hd, ok.frames, ok.stk, ok.exf, ok.bs, ok.bsz, ok.noex, ok.exfs, ok.funs, ok.frf⟩
section
variable {X : Cx} {pins : List (Addr × Obj)} {σ : St} {H : Hp} {s : Shared} {E : Value → Shared → Prop}
theorem Inv.wish (I : Inv X pins σ H s) (E : Value → Shared → Prop) : Inv (X.wish E) pins σ H s := ⟨I.ok.wish E, I.os, I.bare, I.base, I.loc, I.cell, I.free, I.freeC, I.pin, I.hok, I.len⟩
theorem Inv.unwish (I : Inv (X.wish E) pins σ H s) : Inv X pins σ H s := ⟨I.ok.unwish, I.os, I.bare, I.base, I.loc, I.cell, I.free, I.freeC, I.pin, I.hok, I.len⟩
theorem SP.unwish {D : Ends} {f : Flow} {s' : Shared} (h : SP (X.wish E) pins D f s') : SP X pins D f s' := by
  cases f with
  | next => obtain ⟨σ', H', I, q⟩ := h; exact ⟨σ', H', I.unwish, q⟩
  | brk => obtain ⟨σ', H', I, q⟩ := h; exact ⟨σ', H', I.unwish, q⟩
  | cont => obtain ⟨σ', H', I, q⟩ := h; exact ⟨σ', H', I.unwish, q⟩
  | ret u => obtain ⟨v, σ', H', I, r, q⟩ := h; exact ⟨v, σ', H', I.unwish, r, q⟩
theorem PE.nox {e : Expr} {t : TE} (h : PE X.nox e t) : PE X e t := fun pins s σ H Q I hw =>
  wpAny_mono (h pins s σ H Q (I.wish _) hw) (fun _ _ ⟨v, H', I', r, q⟩ => ⟨v, H', I'.unwish, r, q⟩) fun _ _ z => False.elim z
theorem PT.nox {e : Expr} {t : TT} (h : PT X.nox e t) : PT X e t := fun pins s σ H Q I hw =>
  wpAny_mono (h pins s σ H Q (I.wish _) hw) (fun _ _ ⟨H', I', q⟩ => ⟨H', I'.unwish, q⟩) fun _ _ z => False.elim z
theorem PSs.nox {st : List Stmt} {t : TS} (h : PSs X.nox st t) : PSs X st t := fun pins s σ H D I hw =>
  wpAny_mono (h pins s σ H D (I.wish _) hw) (fun _ _ q => q.unwish) fun _ _ z => False.elim z
end
section
variable {X : Cx} {st : Stmt} {rest : List Stmt} {t u : TS} {e : Expr} {te : TE} {pos : Pos}
def tNext : TS := fun D σ H => D.nx σ H
def tSeq (t u : TS) : TS := fun D σ H => t { D with nx := u D } σ H
theorem pss_nil : PSs X [] tNext := fun _ _ σ H _ I h => wpAny_execs_nil ⟨σ, H, I, h⟩
theorem pss_cons (h1 : PS X st t) (h2 : PSs X rest u) : PSs X (st :: rest) (tSeq t u) := by
  intro pins s σ H D I h
  refine wpAny_execs_cons (thn (h1 pins s σ H { D with nx := u D } I h) fun f s1 q => ?_)
  cases f with
  | next =>
    obtain ⟨σ', H', I', q⟩ := q
    exact h2 pins s1 σ' H' D I' q
  | ret v => exact q
  | brk => exact q
  | cont => exact q
theorem Inv.quiet {pins : List (Addr × Obj)} {σ : St} {H : Hp} {s : Shared} (I : Inv X pins σ H s) : interactive X.env = false := by simp [interactive, I.ok.kind]
def tDrop (te : TE) : TS := fun D σ H => te σ H fun _ H1 => D.nx σ H1
theorem ps_expr (he : PE X e te) (hs : swapsWith e none pos.line X.env = pure false := by rfl) : PS X (.Expr e pos) (tDrop te) := by
  intro pins s σ H D I h
  exact wpAny_Expr_any (thn (he pins s σ H _ I h) fun v s1 ⟨x, H1, I1, r1, q1⟩ => ⟨σ, H1, I1, q1⟩) I.quiet hs
def tRet (te : TE) : TS := fun D σ H => te σ H D.rt
theorem ps_ret (he : PE X e te) : PS X (.Return (some e) pos) (tRet te) := by
  intro pins s σ H D I h
  exact wpAny_Return_some (thn (he pins s σ H _ I h) fun v s1 ⟨x, H1, I1, r1, q1⟩ => ⟨x, σ, H1, I1, r1, q1⟩)
def tIfS (c : TT) (t u : TS) : TS := fun D σ H => c σ H fun b H1 => if b = true then t D σ H1 else u D σ H1
theorem ps_if {c : Expr} {a b : List Stmt} {tc : TT} (hc : PT X c tc) (ha : PSs X a t) (hb : PSs X b u) : PS X (.If c a b pos) (tIfS tc t u) := by
  intro pins s σ H D I h
  refine wpAny_If (thn (hc pins s σ H _ I h) fun d s1 ⟨H1, I1, q1⟩ => ?_)
  cases d with
  | true => exact ha pins s1 σ H1 D I1 q1
  | false => exact hb pins s1 σ H1 D I1 q1
end
abbrev TG := V → St → Hp → (St → Hp → Prop) → Prop
abbrev TGs := List V → St → Hp → (St → Hp → Prop) → Prop
def PG (X : Cx) (target : Expr) (t : TG) : Prop :=
  ∀ (pins : List (Addr × Obj)) (s : Shared) (σ : St) (H : Hp) (v : V) (u : Value) (Q : St → Hp → Prop), Inv X pins σ H s → RelV v u → t v σ H Q →
    wpAny (model X.prog X.w) X.A (assign target X.env u) (fun _ s' => ∃ σ' H', Inv X pins σ' H' s' ∧ Q σ' H') X.xe s
def PGs (X : Cx) (ts : List Expr) (t : TGs) : Prop :=
  ∀ (pins : List (Addr × Obj)) (s : Shared) (σ : St) (H : Hp) (vs : List V) (us : List Value) (Q : St → Hp → Prop), Inv X pins σ H s → Vals vs us → t vs σ H Q →
    wpAny (model X.prog X.w) X.A (assignInOrder ((assignEach ts X.env).map (·.2)) us) (fun _ s' => ∃ σ' H', Inv X pins σ' H' s' ∧ Q σ' H') X.xe s
abbrev TSet := V → V → V → Hp → (Hp → Prop) → Prop
def PSet (X : Cx) (t : TSet) : Prop :=
  ∀ (pins : List (Addr × Obj)) (s : Shared) (σ : St) (H : Hp) (o i v : V) (ov iv u : Value) (Q : Hp → Prop), Inv X pins σ H s → RelV o ov → RelV i iv → RelV v u → t o i v H Q →
    wpAny (model X.prog X.w) X.A (setItem ov iv u) (fun _ s' => ∃ H', Inv X pins σ H' s' ∧ Q H') X.xe s
section
variable {X : Cx} {pos : Pos}
def gName (i : Nat) : TG := fun v σ H Q => Q (σ.set i (some v)) H
theorem pg_name {i : Nat} {x : Str} (hN : X.N.Nodup) (hi : X.N[i]? = some x) (hx : Loc X.env.scope x) (hf : X.fn x = true ∨ X.env.scope.names.lookup x = some .local := by first | exact .inl rfl | exact .inr rfl | assumption) : PG X (.Name x pos) (gName i) := by
  intro pins s σ H v u Q I r h
  exact wpAny_assign_Name (store_ok I hN hi hx r (fun s' I' => ⟨_, H, I', h⟩) hf)
def gNil : TGs := fun vs σ H Q => vs = [] ∧ Q σ H
def gCons (t : TG) (u : TGs) : TGs := fun vs σ H Q => ∃ v r, vs = v :: r ∧ t v σ H fun σ' H' => u r σ' H' Q
theorem pgs_nil : PGs X [] gNil := by
  intro pins s σ H vs us Q I r h
  obtain ⟨e, h⟩ := h
  subst e
  cases r
  exact assignInOrder_nil ⟨σ, H, I, h⟩
theorem pgs_cons {e : Expr} {es : List Expr} {t : TG} {u : TGs} (h1 : PG X e t) (h2 : PGs X es u)
    (hs : (assignEach (e :: es) X.env).map (·.2) = assign e X.env :: (assignEach es X.env).map (·.2) := by rfl) : PGs X (e :: es) (gCons t u) := by
  intro pins s σ H vs us Q I r h
  obtain ⟨v, vr, e1, h⟩ := h
  subst e1
  cases r with
  | cons r rr =>
    rw [hs]
    refine assignInOrder_cons (thn (h1 pins s σ H _ _ _ I r h) fun _ s1 ⟨σ1, H1, I1, q1⟩ => ?_)
    exact h2 pins s1 σ1 H1 _ _ Q I1 rr q1
def gTup (K : PySem.W.Frag) (n : Nat) (t : TGs) : TG := fun v σ H Q => ∃ a xs, v = .ref a ∧ SqT K H a xs ∧ xs.length = n ∧ t xs σ H Q
theorem pg_tup {es : List Expr} {k : Nat} {t : TGs} {n : Nat} (hc : X.calm = true) (h : PGs X es t)
    (hn : (assignEach es X.env).length = n := by rfl) (hst : (assignEach es X.env).findIdx? (·.1) = none := by rfl) : PG X (.Tuple es k pos) (gTup X.K n t) := by
  intro pins s σ H v u Q I r hw
  obtain ⟨a, xs, e1, hq, hl, hw⟩ := hw
  subst e1
  cases r
  obtain ⟨its, rv, ht, hz⟩ := I.tuple hq
  refine assign_Tuple_tuple (I.ok.hd hc) ht (by simp [hn, ← hl, rv.length]) hst fun h' hx => ?_
  have I1 : Inv X pins σ H { s with heap := h' } := I.kept (t' := s.toks) fun b o e => hx b o (Nat.ne_of_lt (Heap.lt_size e)) e
  exact h pins _ σ H xs _ Q I1 (by simpa using rv) hw
def gSub (to ti : TE) (t : TSet) : TG := fun v σ H Q => to σ H fun o H1 => ti σ H1 fun i H2 => t o i v H2 fun H3 => Q σ H3
theorem pg_sub {o i : Expr} {to ti : TE} {t : TSet} (ho : PE X o to) (hi : PE X i ti) (hs : PSet X t)
    (ha : ∀ v, assign (.Subscript o i pos) X.env v = (do
      let ov ← holding [v] (eval o X.env)
      let iv ← holding [v, ov] (eval i X.env)
      standAt pos
      holding [v, ov, iv] (setItem ov iv v)
      release [v, ov, iv] []) := by intro _; rfl) : PG X (.Subscript o i pos) (gSub to ti t) := by
  intro pins s σ H v u Q I r h
  rw [ha]
  refine wpAny_bind (wpAny_holding (thn (ho pins s σ H _ I h) fun ov s1 ⟨x, H1, I1, r1, q1⟩ => ?_))
  refine wpAny_bind (wpAny_holding (thn (hi pins s1 σ H1 _ I1 q1) fun iv s2 ⟨y, H2, I2, r2, q2⟩ => ?_))
  refine wpAny_bind (wpAny_standAt (wpAny_bind (wpAny_holding (thn (hs pins s2 σ H2 x y v ov iv u _ I2 r1 r2 r q2) fun _ s3 ⟨H3, I3, q3⟩ => ?_))))
  exact wpAny_release ⟨σ, H3, I3, q3⟩
def tAsg (te : TE) (g : TG) : TS := fun D σ H => te σ H fun x H1 => g x σ H1 D.nx
theorem ps_asg {tg e : Expr} {te : TE} {g : TG} (he : PE X e te) (hg : PG X tg g) (hs : swapsWithSole [tg] e pos.line X.env = pure false := by rfl) (hw : swappedStores [tg] e X.env = pure none := by rfl)
    (h1 : (assignEach [tg] X.env).map (·.2) = [assign tg X.env] := by rfl) : PS X (.Assign [tg] e pos) (tAsg te g) := by
  intro pins s σ H D I h
  refine wpAny_Assign_stores (thn (he pins s σ H _ I h) fun v s1 ⟨x, H1, I1, r1, q1⟩ => ?_) hs hw
  rw [h1]
  exact thn (hg pins s1 σ H1 x v _ I1 r1 q1) fun _ s2 q => q
theorem ps_set {i : Nat} {x : Str} {e : Expr} {te : TE} {pos' : Pos} (hN : X.N.Nodup) (hi : X.N[i]? = some x) (hx : Loc X.env.scope x) (he : PE X e te) (hs : swapsWith e (some (.Name x pos')) pos.line X.env = pure false := by rfl) (hf : X.fn x = true ∨ X.env.scope.names.lookup x = some .local := by first | exact .inl rfl | exact .inr rfl | assumption) :
    PS X (.Assign [.Name x pos'] e pos) (tAsg te (gName i)) := by
  intro pins s σ H D I h
  refine wpAny_Assign_Name (thn (he pins s σ H _ I h) fun v s1 ⟨y, H1, I1, r1, q1⟩ => ?_) hs
  exact store_ok I1 hN hi hx r1 (fun s2 I2 => ⟨_, H1, I2, q1⟩) hf
end
section
variable {X : Cx} {pos : Pos}
def tWhile (c : TT) (tb : TS) : TS := fun D σ H => ∃ W : Nat → St → Hp → Prop, (∃ m, W m σ H) ∧ ∀ m σ H, W m σ H →
  c σ H fun b H1 => if b = true then ∃ N : St → Hp → Prop, (∀ σ' H', N σ' H' → ∃ m', m' < m ∧ W m' σ' H') ∧ tb { D with nx := N, ct := N, bk := D.nx } σ H1 else D.nx σ H1
theorem ps_while {c : Expr} {body : List Stmt} {tc : TT} {tb : TS} (hp : PassesOwn (model X.prog X.w) X.A X.env X.xe) (hc : PT X c tc) (hb : PSs X body tb) : PS X (.While c body [] pos) (tWhile tc tb) := by
  intro pins s σ H D I h
  obtain ⟨W, ⟨m0, w0⟩, turn⟩ := h
  refine wpAny_While (codeAny_whileLoop (fun n s' => ∃ σ' H', Inv X pins σ' H' s' ∧ W n σ' H') ?_ m0 ⟨σ, H, I, w0⟩)
  rintro n s1 ⟨σ1, H1, I1, w1⟩
  refine wpAny_passesOwn hp (thn (hc pins s1 σ1 H1 _ I1 (turn n σ1 H1 w1)) fun b s2 ⟨H2, I2, q2⟩ => ?_)
  cases b with
  | true =>
    obtain ⟨N, hN, q2⟩ := q2
    rw [if_pos rfl]
    refine wpAny_passesOwn hp (thn (hb pins s2 σ1 H2 _ I2 q2) fun f s3 q3 => ?_)
    cases f with
    | next =>
      obtain ⟨σ3, H3, I3, n3⟩ := q3
      obtain ⟨m', hm, w3⟩ := hN σ3 H3 n3
      exact ⟨m', hm, σ3, H3, I3, w3⟩
    | cont =>
      obtain ⟨σ3, H3, I3, n3⟩ := q3
      obtain ⟨m', hm, w3⟩ := hN σ3 H3 n3
      exact ⟨m', hm, σ3, H3, I3, w3⟩
    | brk => exact q3
    | ret v => exact q3
  | false =>
    rw [if_neg Bool.false_ne_true]
    exact wpAny_execs_nil ⟨σ1, H2, I2, q2⟩
end
structure It where
  go : Nat → Hp → Prop
  yld : Nat → Hp → V → Hp → Prop
  stop : Nat → Hp → Prop
def FpOk (X : Cx) (pins : List (Addr × Obj)) (H : Hp) (b : Addr) : Prop :=
  H b = none ∧ b ≠ X.env.locals ∧ b ∉ X.fs ∧ (b ∈ X.ex ∨ X.s₀.heap.objs.size ≤ b) ∧ (∀ x c, X.env.cells.lookup x = some c → c ≠ b) ∧ ∀ p ∈ X.pn ++ pins, p.1 ≠ b
theorem Inv.fpOk {X : Cx} {pins : List (Addr × Obj)} {σ : St} {H H' : Hp} {s : Shared} {b : Addr} (I : Inv X pins σ H s) (hb : s.heap.objs.size ≤ b) (hn : H' b = none) : FpOk X pins H' b := by
  refine ⟨hn, Nat.ne_of_gt (Nat.lt_of_lt_of_le I.lt hb), I.nofs hb, .inr (Nat.le_trans I.sz hb), fun x c e z => ?_, fun p hp z => ?_⟩
  · obtain ⟨v, q⟩ := I.cell x c e
    exact absurd (Nat.lt_of_lt_of_le q.lt (by rw [z]; exact hb)) (Nat.lt_irrefl _)
  · exact absurd (Nat.lt_of_lt_of_le (Heap.lt_size (I.pin p hp).1) (by rw [z]; exact hb)) (Nat.lt_irrefl _)
structure Turn (P : Program) (w : World) (K : PySem.W.Frag) (tg : Expr) (J : It) (fp : List Addr) (it : Addr) (tn : Nat → Heap → Prop) : Prop where
  mem : it ∈ fp
  obj : ∀ i h, tn i h → ∀ b ∈ fp, ∃ o, h.get? b = some o ∧ ∀ v, o.data ≠ .cell v
  keep : ∀ i h h', tn i h → (∀ b ∈ fp, ∀ o, h.get? b = some o → h'.get? b = some o) → tn i h'
  item : ∀ (X : Cx), X.prog = P → X.w = w → X.K = K → X.calm = true → ∀ (i : Nat) (pins : List (Addr × Obj)) (s : Shared) (σ : St) (H : Hp) (E : Value → Shared → Prop), Inv X pins σ H s → (∀ b ∈ fp, FpOk X pins H b) → tn i s.heap → J.go i H →
    wpAny (model P w) X.A (pyNext (.ref it)) (fun r s1 => ∃ u, r = some u ∧
      wpAny (model P w) X.A (letOwnedTupleGo tg (.ref it) u) (fun _ s2 => ∃ x H', Inv X pins σ H' s2 ∧ RelV x u ∧ J.yld i H x H' ∧ tn (i + 1) s2.heap ∧ ∀ b ∈ fp, H' b = none) E s1) E s
  done : ∀ (X : Cx), X.prog = P → X.w = w → X.K = K → X.calm = true → ∀ (i : Nat) (pins : List (Addr × Obj)) (s : Shared) (σ : St) (H : Hp) (E : Value → Shared → Prop), Inv X pins σ H s → (∀ b ∈ fp, FpOk X pins H b) → tn i s.heap → J.stop i H →
    wpAny (model P w) X.A (pyNext (.ref it)) (fun r s1 => r = none ∧ Inv X pins σ H s1) E s
  self : ∀ (A : Around) (i : Nat) (s : Shared) (Q : Value → Shared → Prop) (E : Value → Shared → Prop), tn i s.heap → Q (.ref it) s → wpAny (model P w) A (pyIter (.ref it)) Q E s
abbrev TI := St → Hp → (It → Hp → Prop) → Prop
def PIE (X : Cx) (pins : List (Addr × Obj)) (σ : St) (tg : Expr) (R : It → Hp → Prop) (itv : Value) (s2 : Shared) : Prop :=
  ∃ (it : Addr) (fp : List Addr) (tn : Nat → Heap → Prop) (J : It) (H' : Hp), itv = .ref it ∧ Inv X pins σ H' s2 ∧ Turn X.prog X.w X.K tg J fp it tn ∧ tn 0 s2.heap ∧ (∀ b ∈ fp, FpOk X pins H' b) ∧ R J H'
def PI (X : Cx) (tg iter : Expr) (wi : TI) : Prop :=
  ∀ (pins : List (Addr × Obj)) (s : Shared) (σ : St) (H : Hp) (R : It → Hp → Prop), Inv X pins σ H s → wi σ H R →
    wpAny (model X.prog X.w) X.A (eval iter X.env) (fun v s1 => wpAny (model X.prog X.w) X.A (pyIter v) (PIE X pins σ tg R) X.xe s1) X.xe s
theorem go_of {M : Model} {A : Around} {E : Value → Shared → Prop} {s : Shared} {tg : Expr} {it : Addr} {u : Value} {o : Obj} {n : String} {vs : Array Value} {Q : Unit → Shared → Prop} (ho : s.heap.get? it = some o) (hc : o.cls = .type n) (hd : o.data = .fields vs)
    (hn : ["enumerate", "zip", "dict_itemiterator", "dict_reverseitemiterator", "odict_iterator", "itertools.zip_longest", "itertools.pairwise"].contains n = false) (hQ : Q () s) : wpAny M A (letOwnedTupleGo tg (.ref it) u) Q E s := by
  unfold letOwnedTupleGo
  cases tg <;> first
    | exact wpAny_pure hQ
    | (cases u <;> first
        | exact wpAny_pure hQ
        | (refine wpAny_bind (wpAny_load ho ?_)
           rw [hc, hd]
           show wpAny M A (if (["enumerate", "zip", "dict_itemiterator", "dict_reverseitemiterator", "odict_iterator", "itertools.zip_longest", "itertools.pairwise"].contains n && vs[0]? == some (rawInt _)) = true then _ else _) Q E s
           rw [if_neg (by intro h; rw [hn, Bool.false_and] at h; cases h)]
           exact wpAny_pure hQ))
def Itl (K : PySem.W.Frag) (a : Addr) : It :=
  ⟨fun i H => ∃ xs x, SqL K H a xs ∧ xs[i]? = some x, fun i H x H' => H' = H ∧ ∀ xs, SqL K H a xs → xs[i]? = some x, fun i H => ∃ xs, SqL K H a xs ∧ xs.length ≤ i⟩
def Itt (K : PySem.W.Frag) (a : Addr) : It :=
  ⟨fun i H => ∃ xs x, SqT K H a xs ∧ xs[i]? = some x, fun i H x H' => H' = H ∧ ∀ xs, SqT K H a xs → xs[i]? = some x, fun i H => ∃ xs, SqT K H a xs ∧ xs.length ≤ i⟩
def Itr (lo : Int) (n : Nat) : It := ⟨fun i _ => i < n, fun i H x H' => H' = H ∧ x = .int (lo + i), fun i _ => n ≤ i⟩
theorem turn_list {P : Program} {w : World} {K : PySem.W.Frag} {tg : Expr} (a it : Addr) : Turn P w K tg (Itl K a) [it] it (fun i h => h.IsListIter it a i) where
  mem := by simp
  obj := fun i h st b hb => by
    have e : b = it := by simpa using hb
    subst e
    obtain ⟨o, e, c, d⟩ := st
    exact ⟨o, e, fun v z => by rw [d] at z; cases z⟩
  keep := fun i h h' st k => st.at fun o e => k it (by simp) o e
  item := by
    intro X hP hw hK hc i pins s σ H E I hf st hg
    subst hP hw hK
    obtain ⟨xs, x, hq, hx⟩ := hg
    obtain ⟨its, rv, p, hz⟩ := I.list hq
    obtain ⟨u, hu, ru⟩ := rv.get hx
    obtain ⟨f0, f1, f2, f3, f4, f5⟩ := hf it (by simp)
    refine wpAny_pyNext_list_item st p.isList (x := u) (by simpa using hu) fun h' st' sb => ?_
    have I1 : Inv X pins σ H { s with heap := h' } := I.turned (t' := s.toks) (fun b o hb e => (sb.2 b hb).trans e) f0 f1 f3 f4 f5
    obtain ⟨o, e, c, d⟩ := id st'
    exact ⟨u, rfl, go_of (s := { s with heap := h' }) e c d (by decide) ⟨x, H, I1, ru, ⟨rfl, fun ys hy => by rw [I.list_inj hy hq]; exact hx⟩, st', fun b hb => (hf b hb).1⟩⟩
  done := by
    intro X hP hw hK hc i pins s σ H E I hf st hg
    subst hP hw hK
    obtain ⟨xs, hq, hx⟩ := hg
    obtain ⟨its, rv, p, hz⟩ := I.list hq
    obtain ⟨f0, f1, f2, f3, f4, f5⟩ := hf it (by simp)
    have hl := rv.length
    exact wpAny_pyNext_list_end (I.ok.hd hc) st p.isList (by simp; omega) fun h' eb => ⟨rfl, I.turned (t' := s.toks) (fun b o hb e => eb b o hb e) f0 f1 f3 f4 f5⟩
  self := fun _ _ _ _ _ st h => wpAny_pyIter_listiter st h
theorem turn_tuple {P : Program} {w : World} {K : PySem.W.Frag} {tg : Expr} (a it : Addr) : Turn P w K tg (Itt K a) [it] it (fun i h => h.IsTupleIter it a i) where
  mem := by simp
  obj := fun i h st b hb => by
    have e : b = it := by simpa using hb
    subst e
    obtain ⟨o, e, c, d⟩ := st
    exact ⟨o, e, fun v z => by rw [d] at z; cases z⟩
  keep := fun i h h' st k => st.at fun o e => k it (by simp) o e
  item := by
    intro X hP hw hK hc i pins s σ H E I hf st hg
    subst hP hw hK
    obtain ⟨xs, x, hq, hx⟩ := hg
    obtain ⟨its, rv, p, hz⟩ := I.tuple hq
    obtain ⟨u, hu, ru⟩ := rv.get hx
    obtain ⟨f0, f1, f2, f3, f4, f5⟩ := hf it (by simp)
    refine wpAny_pyNext_tuple_item st (show s.heap.IsTuple a its.toArray from p) (x := u) (by simpa using hu) fun h' st' sb => ?_
    have I1 : Inv X pins σ H { s with heap := h' } := I.turned (t' := s.toks) (fun b o hb e => (sb.2 b hb).trans e) f0 f1 f3 f4 f5
    obtain ⟨o, e, c, d⟩ := id st'
    exact ⟨u, rfl, go_of (s := { s with heap := h' }) e c d (by decide) ⟨x, H, I1, ru, ⟨rfl, fun ys hy => by rw [I.tuple_inj hy hq]; exact hx⟩, st', fun b hb => (hf b hb).1⟩⟩
  done := by
    intro X hP hw hK hc i pins s σ H E I hf st hg
    subst hP hw hK
    obtain ⟨xs, hq, hx⟩ := hg
    obtain ⟨its, rv, p, hz⟩ := I.tuple hq
    obtain ⟨f0, f1, f2, f3, f4, f5⟩ := hf it (by simp)
    have hl := rv.length
    exact wpAny_pyNext_tuple_end (I.ok.hd hc) st (show s.heap.IsTuple a its.toArray from p) (by simp; omega) fun h' eb => ⟨rfl, I.turned (t' := s.toks) (fun b o hb e => eb b o hb e) f0 f1 f3 f4 f5⟩
  self := fun _ _ _ _ _ st h => wpAny_pyIter_tupleiter st h
theorem turn_range {P : Program} {w : World} {K : PySem.W.Frag} {tg : Expr} (it : Addr) (lo : Int) (n : Nat) : Turn P w K tg (Itr lo n) [it] it (fun i h => IsRangeIter h it (lo + (i : Nat) * 1) ((n : Int) - (i : Nat)) 1) where
  mem := by simp
  obj := fun i h st b hb => by
    have e : b = it := by simpa using hb
    subst e
    exact ⟨_, st, fun v z => by
      have z' : Data.fields _ = Data.cell v := z
      cases z'⟩
  keep := fun i h h' st k => k it (by simp) _ st
  item := by
    intro X hP hw hK hc i pins s σ H E I hf st hg
    subst hP hw hK
    obtain ⟨f0, f1, f2, f3, f4, f5⟩ := hf it (by simp)
    have W := Walks.range (prog := X.prog) (w := X.w) (I.ok.hd hc) it lo 1 n
    refine W.item i s _ _ hg st fun v h' tk hv st' kk => ?_
    obtain ⟨t, rfl⟩ := hv
    have I1 : Inv X pins σ H { s with heap := h', toks := tk } := I.turned (fun b o hb e => kk b o (by simpa using hb) e) f0 f1 f3 f4 f5
    refine ⟨_, rfl, go_of (s := { s with heap := h', toks := tk }) (n := "range_iterator") st' rfl rfl (by decide) ⟨.int (lo + i), H, I1, ⟨t, ?_⟩, ⟨rfl, rfl⟩, st', fun b hb => (hf b hb).1⟩⟩
    rw [Int.mul_one]
  done := by
    intro X hP hw hK hc i pins s σ H E I hf st hg
    subst hP hw hK
    obtain ⟨f0, f1, f2, f3, f4, f5⟩ := hf it (by simp)
    exact wpAny_pyNext_range_end (I.ok.hd hc) st (by have : n ≤ i := hg; omega) fun h' eb => ⟨rfl, I.turned (t' := s.toks) (fun b o hb e => eb b o hb e) f0 f1 f3 f4 f5⟩
  self := fun _ _ _ _ _ st h => wpAny_pyIter_rangeiter st h
end L2
namespace L2
open PySem PySem.Spec PyProof.Rows
section
variable {X : Cx} {tg : Expr}
theorem range_it {pins : List (Addr × Obj)} {σ : St} {H : Hp} {s : Shared} {R : It → Hp → Prop} {E : Value → Shared → Prop} {lo hi : Int} {t u v : Tok} {tk : Nat} (I : Inv X pins σ H s) (h1 : -(2 ^ 62) ≤ lo) (h2 : lo < 2 ^ 62) (h3 : -(2 ^ 62) ≤ hi) (h4 : hi < 2 ^ 62)
    (q : R (Itr lo (hi - lo).toNat) H) : wpAny (model X.prog X.w) X.A (pyIter (.ref s.heap.objs.size)) (PIE X pins σ tg R) E { s with heap := s.heap.push { cls := .type "range", data := .fields #[.int lo t, .int hi u, .int 1 v] }, toks := tk } := by
  refine wpAny_pyIter_range (IsRange.new ..) (small_one h1 h2 h3 h4) ?_
  have I1 : Inv X pins σ H { s with heap := s.heap.push { cls := .type "range", data := .fields #[.int lo t, .int hi u, .int 1 v] }, toks := tk } := I.kept fun b o e => Heap.get?_push_of_some _ e
  refine ⟨(s.heap.push { cls := .type "range", data := .fields #[.int lo t, .int hi u, .int 1 v] }).objs.size, [(s.heap.push { cls := .type "range", data := .fields #[.int lo t, .int hi u, .int 1 v] }).objs.size], _, _, H, rfl,
    I1.kept (t' := tk) fun b o e => Heap.get?_push_of_some _ e, turn_range _ lo (hi - lo).toNat, ?_, fun b hb => ?_, q⟩
  · have e1 : lo + ((0 : Nat) : Int) * 1 = lo := by simp
    have e2 : (((hi - lo).toNat : Nat) : Int) - ((0 : Nat) : Int) = Builtin.Range.rangeSize lo hi 1 := by rw [rangeSize_one]; split <;> omega
    show IsRangeIter _ _ (lo + ((0 : Nat) : Int) * 1) ((((hi - lo).toNat : Nat) : Int) - ((0 : Nat) : Int)) 1
    rw [e1, e2]
    exact Heap.get?_push_size _ rfl
  · have e : b = (s.heap.push { cls := .type "range", data := .fields #[.int lo t, .int hi u, .int 1 v] }).objs.size := by simpa using hb
    subst e
    exact I1.fpOk (Nat.le_refl _) (I1.hok.fresh (Nat.le_refl _))
def iRng1 (ta : TA) : TI := fun σ H R => ta σ H fun vs H1 => ∃ j : Int, vs = [.int j] ∧ -(2 ^ 62) ≤ j ∧ j < 2 ^ 62 ∧ R (Itr 0 j.toNat) H1
def iRng2 (ta : TA) : TI := fun σ H R => ta σ H fun vs H1 => ∃ i j : Int, vs = [.int i, .int j] ∧ (-(2 ^ 62) ≤ i ∧ i < 2 ^ 62 ∧ -(2 ^ 62) ≤ j ∧ j < 2 ^ 62) ∧ R (Itr i (j - i).toNat) H1
theorem pi_range1 {a : Expr} {ta : TA} {p pos : Pos} (hg : Gl X "range") (hm : X.mg "range" = none) (ha : PA X [a] ta) (hs : starEach [a] X.env = [(false, eval a X.env)] := by rfl) : PI X tg (.Call (.Name "range" p) [a] [] pos) (iRng1 ta) := by
  intro pins s σ H R I h
  refine Call_ (ld_blt I hg hm boot_range (PyProof.Rows.callWith_type1 (thn (ha pos pins s σ H _ I h) fun us s1 ⟨vs, H1, I1, r1, q1⟩ => ?_) hs rfl))
  obtain ⟨j, e, q1, q2, q⟩ := q1
  subst e
  cases r1 with
  | cons r rr =>
    cases rr
    obtain ⟨t, rfl⟩ := r
    exact call_range_1 (range_it I1 (by omega) (by omega) q1 q2 (by simpa using q))
theorem pi_range2 {a b : Expr} {ta : TA} {p pos : Pos} (hg : Gl X "range") (hm : X.mg "range" = none) (ha : PA X [a, b] ta) (hs : starEach [a, b] X.env = [(false, eval a X.env), (false, eval b X.env)] := by rfl) (hs2 : starEach [b] X.env = [(false, eval b X.env)] := by rfl) :
    PI X tg (.Call (.Name "range" p) [a, b] [] pos) (iRng2 ta) := by
  intro pins s σ H R I h
  refine Call_ (ld_blt I hg hm boot_range (PyProof.Rows.callWith_type1 (thn (ha pos pins s σ H _ I h) fun us s1 ⟨vs, H1, I1, r1, q1⟩ => ?_) (by rw [hs, hs2]) (by rw [hs2]; rfl)))
  obtain ⟨i, j, e, ⟨q1, q2, q3, q4⟩, q⟩ := q1
  subst e
  cases r1 with
  | cons r rr =>
    cases rr with
    | cons r' rr =>
      cases rr
      obtain ⟨t, rfl⟩ := r
      obtain ⟨t', rfl⟩ := r'
      exact call_range_2 (range_it I1 q1 q2 q3 q4 q)
def tFor (wi : TI) (g : TG) (tb : TS) : TS := fun D σ H => wi σ H fun J H1 => ∃ W : Nat → Nat → St → Hp → Prop, (∃ m, W 0 m σ H1) ∧ ∀ i m σ H, W i m σ H →
  (J.stop i H ∧ D.nx σ H) ∨ (J.go i H ∧ ∃ N : St → Hp → Prop, (∀ σ' H', N σ' H' → ∃ m', m' < m ∧ W (i + 1) m' σ' H') ∧ ∀ x H', J.yld i H x H' → g x σ H' fun σ2 H2 => tb { D with nx := N, ct := N, bk := D.nx } σ2 H2)
def pinsAt (fp : List Addr) (h : Heap) : List (Addr × Obj) := fp.filterMap fun b => (h.get? b).map fun o => (b, o)
theorem mem_pinsAt {fp : List Addr} {h : Heap} {b : Addr} {o : Obj} (hb : b ∈ fp) (e : h.get? b = some o) : (b, o) ∈ pinsAt fp h := List.mem_filterMap.mpr ⟨b, hb, by rw [e]; rfl⟩
theorem of_pinsAt {fp : List Addr} {h : Heap} {p : Addr × Obj} (hp : p ∈ pinsAt fp h) : p.1 ∈ fp ∧ h.get? p.1 = some p.2 := by
  obtain ⟨b, hb, e⟩ := List.mem_filterMap.mp hp
  cases q : h.get? b with
  | none => rw [q] at e; cases e
  | some o =>
    rw [q] at e
    have e' : (b, o) = p := Option.some.inj e
    subst e'
    exact ⟨hb, q⟩
theorem Inv.pinned {pins : List (Addr × Obj)} {σ : St} {H : Hp} {s : Shared} {fp : List Addr} (I : Inv X pins σ H s) (hf : ∀ b ∈ fp, FpOk X pins H b) (ho : ∀ b ∈ fp, ∃ o, s.heap.get? b = some o ∧ ∀ v, o.data ≠ .cell v) : Inv X (pins ++ pinsAt fp s.heap) σ H s :=
  I.pins_of fun p hp => (List.mem_append.mp hp).elim (fun z => I.pin p (List.mem_append_right _ z)) fun z => by
    obtain ⟨hb, e⟩ := of_pinsAt z
    obtain ⟨f0, f1, f2, _⟩ := hf p.1 hb
    obtain ⟨o, e', d⟩ := ho p.1 hb
    rw [e] at e'; cases e'
    exact ⟨e, f0, f1, f2, d⟩
theorem Inv.unpinned {pins pl : List (Addr × Obj)} {σ : St} {H : Hp} {s : Shared} (I : Inv X (pins ++ pl) σ H s) : Inv X pins σ H s := I.pins_of fun p hp => I.pin p (List.mem_append_right _ (List.mem_append_left _ hp))
theorem ps_for {iter : Expr} {body : List Stmt} {wi : TI} {g : TG} {tb : TS} {pos : Pos} (hp : PassesOwn (model X.prog X.w) X.A X.env X.xe) (hc : X.calm = true) (hi : PI X tg iter wi) (hg : PG X tg g) (hb : PSs X body tb)
    (hs : ∀ x, foldedSetIterable iter X.env x = pure x := by intro _; rfl) : PS X (.For tg iter body [] pos) (tFor wi g tb) := by
  intro pins s σ H D I h
  refine wpAny_For (thn (hi pins s σ H _ I h) fun v s1 h1 => thn h1 fun itv s2 h2 => ?_) hs
  obtain ⟨it, fp, tn, J, H2, e, I2, T, st2, f2, W, ⟨m0, w0⟩, turn⟩ := h2
  subst e
  have stat : ∀ {H' : Hp}, (∀ b ∈ fp, H' b = none) → ∀ b ∈ fp, FpOk X pins H' b := fun hn b hb => ⟨hn b hb, (f2 b hb).2⟩
  refine codeAny_forLoop_any (fun n s' => ∃ i σ' H', Inv X pins σ' H' s' ∧ tn i s'.heap ∧ (∀ b ∈ fp, H' b = none) ∧ W i n σ' H') ?_ m0 ⟨0, σ, H2, I2, st2, fun b hb => (f2 b hb).1, w0⟩
  rintro n s3 ⟨i, σ3, H3, I3, st3, fr3, w3⟩
  rcases turn i n σ3 H3 w3 with ⟨stop, qn⟩ | ⟨go, N, hN, step⟩
  · refine wpAny_passesOwn hp (thn (T.done X rfl rfl rfl hc i pins s3 σ3 H3 X.xe I3 (stat fr3) st3 stop) fun r s4 ⟨hr, I4⟩ => ?_)
    subst hr
    exact wpAny_execs_nil ⟨σ3, H3, I4, qn⟩
  · refine wpAny_passesOwn hp (thn (T.item X rfl rfl rfl hc i pins s3 σ3 H3 X.xe I3 (stat fr3) st3 go) fun r s4 ⟨u, hr, h4⟩ => ?_)
    subst hr
    refine wpAny_passesOwn hp (thn h4 fun _ s5 ⟨x, H5, I5, r5, y5, st5, fr5⟩ => ?_)
    have I5' := I5.pinned (stat fr5) (T.obj _ _ st5)
    refine wpAny_passesOwn hp (thn (hg _ s5 σ3 H5 x u _ I5' r5 (step x H5 y5)) fun _ s6 ⟨σ6, H6, I6, q6⟩ => ?_)
    refine wpAny_passesOwn hp (thn (hb _ s6 σ6 H6 _ I6 q6) fun f s7 q7 => ?_)
    have again : ∀ {σ7 : St} {H7 : Hp}, Inv X (pins ++ pinsAt fp s5.heap) σ7 H7 s7 → N σ7 H7 → ∃ m, m < n ∧ ∃ i σ' H', Inv X pins σ' H' s7 ∧ tn i s7.heap ∧ (∀ b ∈ fp, H' b = none) ∧ W i m σ' H' := fun {σ7 H7} I7 n7 => by
      obtain ⟨m', hm, w7⟩ := hN σ7 H7 n7
      refine ⟨m', hm, i + 1, σ7, H7, I7.unpinned, T.keep _ _ _ st5 fun b hb o e => (I7.pin (b, o) (List.mem_append_right _ (List.mem_append_right _ (mem_pinsAt hb e)))).1, fun b hb => ?_, w7⟩
      obtain ⟨o, e, d⟩ := T.obj _ _ st5 b hb
      exact (I7.pin (b, o) (List.mem_append_right _ (List.mem_append_right _ (mem_pinsAt hb e)))).2.1
    cases f with
    | next => obtain ⟨σ7, H7, I7, n7⟩ := q7; exact again I7 n7
    | cont => obtain ⟨σ7, H7, I7, n7⟩ := q7; exact again I7 n7
    | brk => obtain ⟨σ7, H7, I7, q7⟩ := q7; exact ⟨σ7, H7, I7.unpinned, q7⟩
    | ret v => obtain ⟨x7, σ7, H7, I7, r7, q7⟩ := q7; exact ⟨x7, σ7, H7, I7.unpinned, r7, q7⟩
end
theorem for_list {K : PySem.W.Frag} {a : Addr} {xs : List V} {g : TG} {tb : TS} {D : Ends} {σ : St} {H : Hp} (Pv : Nat → St → Hp → Prop) (h0 : Pv 0 σ H) (hl : ∀ i σ H, i ≤ xs.length → Pv i σ H → SqL K H a xs)
    (hs : ∀ i x σ H, xs[i]? = some x → Pv i σ H → g x σ H fun σ2 H2 => tb { D with nx := Pv (i + 1), ct := Pv (i + 1), bk := D.nx } σ2 H2) (hd : ∀ σ H, Pv xs.length σ H → D.nx σ H) :
    ∃ W : Nat → Nat → St → Hp → Prop, (∃ m, W 0 m σ H) ∧ ∀ i m σ H, W i m σ H →
      ((Itl K a).stop i H ∧ D.nx σ H) ∨ ((Itl K a).go i H ∧ ∃ N : St → Hp → Prop, (∀ σ' H', N σ' H' → ∃ m', m' < m ∧ W (i + 1) m' σ' H') ∧ ∀ x H', (Itl K a).yld i H x H' → g x σ H' fun σ2 H2 => tb { D with nx := N, ct := N, bk := D.nx } σ2 H2) := by
  refine ⟨fun i m σ H => m = xs.length - i ∧ i ≤ xs.length ∧ Pv i σ H, ⟨xs.length, by simp, Nat.zero_le _, h0⟩, ?_⟩
  rintro i m σ H ⟨rfl, hi, p⟩
  have q := hl i σ H hi p
  by_cases hlt : i < xs.length
  · refine .inr ⟨⟨xs, xs[i], q, by simp [hlt]⟩, Pv (i + 1), fun σ' H' p' => ⟨xs.length - (i + 1), by omega, rfl, hlt, p'⟩, fun x H' y => ?_⟩
    obtain ⟨e, y⟩ := y
    subst e
    exact hs i x σ _ (y xs q) p
  · have e : i = xs.length := by omega
    subst e
    exact .inl ⟨⟨xs, q, Nat.le_refl _⟩, hd σ H p⟩
theorem for_tup {K : PySem.W.Frag} {a : Addr} {xs : List V} {g : TG} {tb : TS} {D : Ends} {σ : St} {H : Hp} (Pv : Nat → St → Hp → Prop) (h0 : Pv 0 σ H) (hl : ∀ i σ H, i ≤ xs.length → Pv i σ H → SqT K H a xs)
    (hs : ∀ i x σ H, xs[i]? = some x → Pv i σ H → g x σ H fun σ2 H2 => tb { D with nx := Pv (i + 1), ct := Pv (i + 1), bk := D.nx } σ2 H2) (hd : ∀ σ H, Pv xs.length σ H → D.nx σ H) :
    ∃ W : Nat → Nat → St → Hp → Prop, (∃ m, W 0 m σ H) ∧ ∀ i m σ H, W i m σ H →
      ((Itt K a).stop i H ∧ D.nx σ H) ∨ ((Itt K a).go i H ∧ ∃ N : St → Hp → Prop, (∀ σ' H', N σ' H' → ∃ m', m' < m ∧ W (i + 1) m' σ' H') ∧ ∀ x H', (Itt K a).yld i H x H' → g x σ H' fun σ2 H2 => tb { D with nx := N, ct := N, bk := D.nx } σ2 H2) := by
  refine ⟨fun i m σ H => m = xs.length - i ∧ i ≤ xs.length ∧ Pv i σ H, ⟨xs.length, by simp, Nat.zero_le _, h0⟩, ?_⟩
  rintro i m σ H ⟨rfl, hi, p⟩
  have q := hl i σ H hi p
  by_cases hlt : i < xs.length
  · refine .inr ⟨⟨xs, xs[i], q, by simp [hlt]⟩, Pv (i + 1), fun σ' H' p' => ⟨xs.length - (i + 1), by omega, rfl, hlt, p'⟩, fun x H' y => ?_⟩
    obtain ⟨e, y⟩ := y
    subst e
    exact hs i x σ _ (y xs q) p
  · have e : i = xs.length := by omega
    subst e
    exact .inl ⟨⟨xs, q, Nat.le_refl _⟩, hd σ H p⟩
theorem for_range {lo : Int} {n : Nat} {g : TG} {tb : TS} {D : Ends} {σ : St} {H : Hp} (Pv : Nat → St → Hp → Prop) (h0 : Pv 0 σ H)
    (hs : ∀ i σ H, i < n → Pv i σ H → g (.int (lo + i)) σ H fun σ2 H2 => tb { D with nx := Pv (i + 1), ct := Pv (i + 1), bk := D.nx } σ2 H2) (hd : ∀ σ H, Pv n σ H → D.nx σ H) :
    ∃ W : Nat → Nat → St → Hp → Prop, (∃ m, W 0 m σ H) ∧ ∀ i m σ H, W i m σ H →
      ((Itr lo n).stop i H ∧ D.nx σ H) ∨ ((Itr lo n).go i H ∧ ∃ N : St → Hp → Prop, (∀ σ' H', N σ' H' → ∃ m', m' < m ∧ W (i + 1) m' σ' H') ∧ ∀ x H', (Itr lo n).yld i H x H' → g x σ H' fun σ2 H2 => tb { D with nx := N, ct := N, bk := D.nx } σ2 H2) := by
  refine ⟨fun i m σ H => m = n - i ∧ i ≤ n ∧ Pv i σ H, ⟨n, by simp, Nat.zero_le _, h0⟩, ?_⟩
  rintro i m σ H ⟨rfl, hi, p⟩
  by_cases hlt : i < n
  · refine .inr ⟨hlt, Pv (i + 1), fun σ' H' p' => ⟨n - (i + 1), by omega, rfl, hlt, p'⟩, fun x H' y => ?_⟩
    obtain ⟨e, y⟩ := y
    subst e y
    exact hs i σ _ hlt p
  · have e : i = n := by omega
    subst e
    exact .inl ⟨Nat.le_refl _, hd σ H p⟩
end L2
namespace L2
open PySem PySem.Spec PyProof.Rows
abbrev R2 := V → V → Hp → VK → Prop
def OpR (X : Cx) (f : Value → Value → Sem Value) (r : R2) : Prop :=
  ∀ (pins : List (Addr × Obj)) (s : Shared) (σ : St) (H : Hp) (x y : V) (v u : Value) (Q : VK), Inv X pins σ H s → RelV x v → RelV y u → r x y H Q →
    wpAny (model X.prog X.w) X.A (f v u) (EP X pins σ Q) X.xe s
def UnR (X : Cx) (f : Value → Sem Value) (r : V → Hp → VK → Prop) : Prop :=
  ∀ (pins : List (Addr × Obj)) (s : Shared) (σ : St) (H : Hp) (x : V) (v : Value) (Q : VK), Inv X pins σ H s → RelV x v → r x H Q →
    wpAny (model X.prog X.w) X.A (f v) (EP X pins σ Q) X.xe s
def CallR (X : Cx) (f : Value) (r : List V → Hp → VK → Prop) : Prop :=
  ∀ (pins : List (Addr × Obj)) (s : Shared) (σ : St) (H : Hp) (xs : List V) (us : List Value) (Q : VK), Inv X pins σ H s → Vals xs us → r xs H Q →
    wpAny (model X.prog X.w) X.A (call f us) (EP X pins σ Q) X.xe s
def tOp (r : R2) (ta tb : TE) : TE := fun σ H Q => ta σ H fun x H1 => tb σ H1 fun y H2 => r x y H2 Q
def tUn (r : V → Hp → VK → Prop) (ta : TE) : TE := fun σ H Q => ta σ H fun x H1 => r x H1 Q
def rI (C : Int → Int → Prop) (g : Int → Int → V) : R2 := fun x y H Q => ∃ i j, x = .int i ∧ y = .int j ∧ C i j ∧ Q (g i j) H
def rI0 (g : Int → Int → V) : R2 := fun x y H Q => ∃ i j, x = .int i ∧ y = .int j ∧ Q (g i j) H
def rU (g : Int → V) : V → Hp → VK → Prop := fun x H Q => ∃ i, x = .int i ∧ Q (g i) H
section
variable {X : Cx} {a b c : Expr} {ta tb tc : TE} {pos : Pos}
theorem binT (ha : PE X a ta) (hb : PE X b tb) {pins : List (Addr × Obj)} {s : Shared} {σ : St} {H : Hp} {R : V → V → Hp → Prop} (I : Inv X pins σ H s)
    (h : ta σ H fun x H1 => tb σ H1 fun y H2 => R x y H2) {Q : Value → Shared → Prop} {f : Value → Value → Sem Value}
    (hf : ∀ v u s2 x y H2, Inv X pins σ H2 s2 → RelV x v → RelV y u → R x y H2 → wpAny (model X.prog X.w) X.A (f v u) Q X.xe s2) :
    wpAny (model X.prog X.w) X.A (eval a X.env) (fun v s₁ => wpAny (model X.prog X.w) X.A (eval b X.env) (fun u s₂ => wpAny (model X.prog X.w) X.A (f v u) Q X.xe s₂) X.xe s₁) X.xe s := by
  refine thn (ha pins s σ H _ I h) fun v s1 ⟨x, H1, I1, r1, q1⟩ => ?_
  refine thn (hb pins s1 σ H1 _ I1 q1) fun u s2 ⟨y, H2, I2, r2, q2⟩ => ?_
  exact hf v u s2 x y H2 I2 r1 r2 q2
theorem pe_op {op : Operator} {r : R2} (ho : OpR X (binaryOp op) r) (ha : PE X a ta) (hb : PE X b tb) : PE X (.BinOp a op b pos) (tOp r ta tb) := by
  intro pins s σ H Q I h
  exact wpAny_BinOp (binT ha hb I h fun v u s2 x y H2 I2 rx ry q => ho pins s2 σ H2 x y v u Q I2 rx ry q)
theorem pe_un {op : UnaryOp} {r : V → Hp → VK → Prop} (ho : UnR X (unaryOp op) r) (ha : PE X a ta) : PE X (.UnaryOp op a pos) (tUn r ta) := by
  intro pins s σ H Q I h
  exact UnaryOp_ (thn (ha pins s σ H _ I h) fun v s1 ⟨x, H1, I1, r1, q1⟩ => ho pins s1 σ H1 x v Q I1 r1 q1)
theorem opI {f : Value → Value → Sem Value} {C : Int → Int → Prop} {g : Int → Int → Int}
    (rule : ∀ (i j : Int) (t u : Tok) (s : Shared) (Q : Value → Shared → Prop) (E : Value → Shared → Prop), C i j → Q (.int (g i j) s.toks) { s with toks := s.toks + 1 } → wpAny (model X.prog X.w) X.A (f (.int i t) (.int j u)) Q E s) :
    OpR X f (rI C fun i j => .int (g i j)) := by
  intro pins s σ H x y v u Q I rx ry h
  obtain ⟨i, j, rfl, rfl, hc, q⟩ := h
  obtain ⟨t, rfl⟩ := rx
  obtain ⟨t', rfl⟩ := ry
  exact rule i j t t' s _ _ hc ⟨.int (g i j), H, I.tok _, ⟨_, rfl⟩, q⟩
theorem opI0 {f : Value → Value → Sem Value} {g : Int → Int → Int}
    (rule : ∀ (i j : Int) (t u : Tok) (s : Shared) (Q : Value → Shared → Prop) (E : Value → Shared → Prop), Q (.int (g i j) s.toks) { s with toks := s.toks + 1 } → wpAny (model X.prog X.w) X.A (f (.int i t) (.int j u)) Q E s) :
    OpR X f (rI0 fun i j => .int (g i j)) := by
  intro pins s σ H x y v u Q I rx ry h
  obtain ⟨i, j, rfl, rfl, q⟩ := h
  obtain ⟨t, rfl⟩ := rx
  obtain ⟨t', rfl⟩ := ry
  exact rule i j t t' s _ _ ⟨.int (g i j), H, I.tok _, ⟨_, rfl⟩, q⟩
theorem opB0 {f : Value → Value → Sem Value} {g : Int → Int → Bool}
    (rule : ∀ (i j : Int) (t u : Tok) (s : Shared) (Q : Value → Shared → Prop) (E : Value → Shared → Prop), Q (.bool (g i j)) s → wpAny (model X.prog X.w) X.A (f (.int i t) (.int j u)) Q E s) :
    OpR X f (rI0 fun i j => .bl (g i j)) := by
  intro pins s σ H x y v u Q I rx ry h
  obtain ⟨i, j, rfl, rfl, q⟩ := h
  obtain ⟨t, rfl⟩ := rx
  obtain ⟨t', rfl⟩ := ry
  exact rule i j t t' s _ _ ⟨.bl (g i j), H, I, rfl, q⟩
def CDiv (i j : Int) : Prop := 0 < j ∧ j < 1073741824
def CPow (i j : Int) : Prop := 0 ≤ j ∧ j ≤ 1000000 ∧ i.natAbs < 2 ^ 64
def CMul (i j : Int) : Prop := (-(2 ^ 64) < i ∧ i < 2 ^ 64) ∨ (-(2 ^ 64) < j ∧ j < 2 ^ 64)
theorem CMul.ok {i j : Int} (h : CMul i j) : IntMulOk i j := by
  rcases h with ⟨h1, h2⟩ | ⟨h1, h2⟩
  · exact .of_left (intBits_le_64 h1 h2)
  · exact .of_right (intBits_le_64 h1 h2)
theorem op_add : OpR X (binaryOp .Add) (rI0 fun i j => .int (i + j)) := opI0 fun _ _ _ _ _ _ _ q => add_int q
theorem op_sub : OpR X (binaryOp .Sub) (rI0 fun i j => .int (i - j)) := opI0 fun _ _ _ _ _ _ _ q => sub_int q
theorem op_mul : OpR X (binaryOp .Mult) (rI CMul fun i j => .int (i * j)) := opI fun _ _ _ _ _ _ _ hc q => mul_int q hc.ok
theorem op_fdiv : OpR X (binaryOp .FloorDiv) (rI CDiv fun i j => .int (i / j)) := opI fun i j _ _ _ _ _ hc q => by
  have h1 : (0 : Int) < j := hc.1
  have h2 : j < 1073741824 := hc.2
  exact floordiv_int (by omega) (by rw [Int.fdiv_eq_ediv_of_nonneg i (by omega)]; exact q) (.inl (PyProof.noPylong_small (by omega)))
theorem op_mod : OpR X (binaryOp .Mod) (rI (fun _ j => 0 < j) fun i j => .int (i % j)) := opI fun i j _ _ _ _ _ hc q => by
  have h1 : (0 : Int) < j := hc
  exact mod_int' (by omega) (by rw [Int.fmod_eq_emod_of_nonneg i (by omega)]; exact q)
theorem op_pow : OpR X (binaryOp .Pow) (rI CPow fun i j => .int (i ^ j.toNat)) := opI fun _ _ _ _ _ _ _ hc q => pow_int_small hc.1 hc.2.1 hc.2.2 q
theorem unI {f : Value → Sem Value} {g : Int → Int}
    (rule : ∀ (i : Int) (t : Tok) (s : Shared) (Q : Value → Shared → Prop) (E : Value → Shared → Prop), Q (.int (g i) s.toks) { s with toks := s.toks + 1 } → wpAny (model X.prog X.w) X.A (f (.int i t)) Q E s) :
    UnR X f (rU fun i => .int (g i)) := by
  intro pins s σ H x v Q I rx h
  obtain ⟨i, rfl, q⟩ := h
  obtain ⟨t, rfl⟩ := rx
  exact rule i t s _ _ ⟨.int (g i), H, I.tok _, ⟨_, rfl⟩, q⟩
theorem un_neg : UnR X (unaryOp .USub) (rU fun i => .int (-i)) := unI fun _ _ _ _ _ q => neg_int q
end
section
variable {X : Cx} {a b c : Expr} {ta tb tc : TE} {pos : Pos}
theorem fin_bl {pins : List (Addr × Obj)} {σ : St} {H : Hp} {s : Shared} {Q : VK} {k k' : Bool} (I : Inv X pins σ H s) (q : Q (.bl k) H) (e : k = k') : EP X pins σ Q (.bool k') s := by
  subst e
  exact ⟨.bl k, H, I, rfl, q⟩
theorem op_lt : OpR X (compareOp .Lt) (rI0 fun i j => .bl (decide (i < j))) := opB0 fun _ _ _ _ _ _ _ q => lt_int q
theorem op_gt : OpR X (compareOp .Gt) (rI0 fun i j => .bl (decide (j < i))) := opB0 fun _ _ _ _ _ _ _ q => gt_int q
theorem op_ge : OpR X (compareOp .GtE) (rI0 fun i j => .bl (decide (j ≤ i))) := opB0 fun _ _ _ _ _ _ _ q => ge_int q
theorem op_isN : OpR X (compareOp .Is) (fun x y H Q => y = .non ∧ Q (.bl (decide (x = .non))) H) := by
  intro pins s σ H x y v u Q I rx ry h
  obtain ⟨rfl, q⟩ := h
  cases ry
  refine is_none_gen (fin_bl I q ?_)
  cases x <;> first
    | (cases rx; rfl)
    | (obtain ⟨t, rfl⟩ := rx; rfl)
theorem OpR.or {f : Value → Value → Sem Value} {r r' : R2} (h : OpR X f r) (h' : OpR X f r') : OpR X f (fun x y H Q => r x y H Q ∨ r' x y H Q) := by
  intro pins s σ H x y v u Q I rx ry q
  rcases q with q | q
  · exact h pins s σ H x y v u Q I rx ry q
  · exact h' pins s σ H x y v u Q I rx ry q
theorem nomark (b : Expr) {op : CmpOp} (h : op ≠ .In := by decide) (h2 : op ≠ .NotIn := by decide) : behindInMarks op b = false := by
  have e1 : (op == CmpOp.In) = false := by cases op <;> first | rfl | exact absurd rfl h
  have e2 : (op == CmpOp.NotIn) = false := by cases op <;> first | rfl | exact absurd rfl h2
  cases b <;> simp [behindInMarks, e1, e2]
theorem pe_cmpR {op : CmpOp} {r : R2} (ho : OpR X (compareOp op) r) (ha : PE X a ta) (hb : PE X b tb) (hm : behindInMarks op b = false) : PE X (.Compare a [op] [b] pos) (tOp r ta tb) := by
  intro pins s σ H Q I h
  exact wpAny_Compare1 (binT ha hb I h fun v u s2 x y H2 I2 rx ry q => ho pins s2 σ H2 x y v u Q I2 rx ry q) hm
def tTest (t : TE) : TT := fun σ H Q => t σ H fun x H' => ∃ k, x = .bl k ∧ Q k H'
theorem pt_cmpR {op : CmpOp} {r : R2} (ho : OpR X (compareOp op) r) (ha : PE X a ta) (hb : PE X b tb) (hm : behindInMarks op b = false) : PT X (.Compare a [op] [b] pos) (tTest (tOp r ta tb)) := by
  intro pins s σ H Q I h
  refine wpAny_isTrue_Compare1 (thn (ha pins s σ H _ I h) fun v s1 ⟨x, H1, I1, r1, q1⟩ => thn (hb pins s1 σ H1 _ I1 q1) fun u s2 ⟨y, H2, I2, r2, q2⟩ =>
    thn (ho pins s2 σ H2 x y v u _ I2 r1 r2 q2) fun c s3 ⟨z, H3, I3, r3, k, e, q3⟩ => ?_) hm
  subst e
  cases r3
  exact wpAny_truthy_bool ⟨H3, I3, q3⟩
theorem line63 : (sizeLine : Nat) < 2 ^ 63 := by rw [sizeLine_eq]; decide
theorem op_add_str : OpR X (binaryOp .Add) (fun x y H Q => ∃ i j, x = .str i ∧ y = .str j ∧ i.length + j.length ≤ sizeLine ∧ Q (.str (i ++ j)) H) := by
  intro pins s σ H x y v u Q I rx ry h
  obtain ⟨i, j, rfl, rfl, hz, q⟩ := h
  obtain ⟨t, rfl⟩ := rx
  obtain ⟨t', rfl⟩ := ry
  exact add_str (fun t' tk => ⟨.str (i ++ j), H, I.tok _, ⟨_, rfl⟩, q⟩) hz
theorem vals1 {x : V} {us : List Value} (r : Vals [x] us) : ∃ u, us = [u] ∧ RelV x u := by
  cases r with
  | cons r1 r2 => cases r2; exact ⟨_, rfl, r1⟩
theorem vals2 {x y : V} {us : List Value} (r : Vals [x, y] us) : ∃ u w', us = [u, w'] ∧ RelV x u ∧ RelV y w' := by
  cases r with
  | cons r1 r2 =>
    cases r2 with
    | cons r3 r4 => cases r4; exact ⟨_, _, rfl, r1, r3⟩
theorem call_max2 (hc : X.calm = true) : CallR X (.builtin "max") (fun xs H Q => ∃ i j, xs = [.int i, .int j] ∧ Q (.int (if j > i then j else i)) H) := by
  intro pins s σ H xs us Q I r h
  obtain ⟨i, j, rfl, q⟩ := h
  obtain ⟨u, w', rfl, ⟨t, rfl⟩, ⟨t', rfl⟩⟩ := vals2 r
  refine max_two_ints (I.ok.hd hc) fun h' tk k => ⟨_, H, I.kept k, ?_, q⟩
  by_cases hj : j > i
  · rw [if_pos hj, if_pos hj]; exact ⟨_, rfl⟩
  · rw [if_neg hj, if_neg hj]; exact ⟨_, rfl⟩
theorem call_min2 (hc : X.calm = true) : CallR X (.builtin "min") (fun xs H Q => ∃ i j, xs = [.int i, .int j] ∧ Q (.int (if j < i then j else i)) H) := by
  intro pins s σ H xs us Q I r h
  obtain ⟨i, j, rfl, q⟩ := h
  obtain ⟨u, w', rfl, ⟨t, rfl⟩, ⟨t', rfl⟩⟩ := vals2 r
  refine min_two_ints (I.ok.hd hc) fun h' tk k => ⟨_, H, I.kept k, ?_, q⟩
  by_cases hj : j < i
  · rw [if_pos hj, if_pos hj]; exact ⟨_, rfl⟩
  · rw [if_neg hj, if_neg hj]; exact ⟨_, rfl⟩
end
end L2
namespace L2
open PySem PySem.Spec PyProof.Rows
structure ObjM (h : Heap) (x dx C : Addr) (mA : Str → Option Value) : Prop where
  obj : h.get? x = some (PySem.W.instObj C dx)
  ns : h.Ns1 dx mA
  ne : dx ≠ x
section
variable {prog : Program} {w : World} {A : Around} {E : Value → Shared → Prop} {s : Shared} {K : PySem.W.Frag} {x dx C f : Addr} {mA : Str → Option Value} {name : Str} {v : Value}
end
section
variable {P : Program} {w : World} {H H' : Hp} {h h' : Heap} {a C dx : Addr} {fs fs' : List (Str × V)}
end
structure Cls (K : PySem.W.Frag) (C : Addr) : Prop where
  pg : PySem.W.plainGet K C Str.empty = true
  hd : PySem.W.hasDictIn K C = true
  po : PySem.W.plainOver K C = true
  sa : PySem.W.findIn K (.ref C) "__setattr__" = some (some (.builtin "object.__setattr__"))
theorem Cls.get {K : PySem.W.Frag} {C : Addr} (c : Cls K C) (f : Str) : PySem.W.plainGet K C f = true := c.pg
structure Con (K : PySem.W.Frag) (C : Addr) (f : Str) (v : V) (u : Value) : Prop where
  at_ : PySem.W.findIn K (.ref C) f = some (some u)
  rel : RelV v u
  get : PySem.W.specialIn K u "__get__" = some none
  cp : PySem.W.copiedNames.contains f = false
structure Meth (K : PySem.W.Frag) (C : Addr) (m : Str) (f : Addr) : Prop where
  at_ : PySem.W.findIn K (.ref C) m = some (some (.ref f))
  fn : PySem.W.isFn K (.ref f) = true
  kp : PySem.W.keepIn K (.ref f) = true
section
variable {X : Cx} {pins : List (Addr × Obj)} {σ : St} {H : Hp} {s : Shared} {a C dx : Addr} {fs : List (Str × V)} {f : Str} {v : V} {A : Around} {E : Value → Shared → Prop}
theorem Inv.made (I : Inv X pins σ H s) : Inv X pins σ (upd (upd H s.heap.objs.size (.own (s.heap.objs.size + 1))) (s.heap.objs.size + 1) (.ins C s.heap.objs.size []))
    { s with heap := (s.heap.push PySem.W.emptyDict).push (PySem.W.instObj C s.heap.objs.size) } := by
  have e1 : (s.heap.push PySem.W.emptyDict).get? s.heap.objs.size = some PySem.W.emptyDict := Heap.get?_push_size s.heap rfl
  have e2 : ((s.heap.push PySem.W.emptyDict).push (PySem.W.instObj C s.heap.objs.size)).get? (s.heap.objs.size + 1) = some (PySem.W.instObj C s.heap.objs.size) := by
    have := Heap.get?_push_size (s.heap.push PySem.W.emptyDict) (o := PySem.W.instObj C s.heap.objs.size) rfl
    rwa [Heap.size_push] at this
  have e3 : (s.heap.push PySem.W.emptyDict).Ns s.heap.objs.size (fun _ => none) := ⟨PySem.W.emptyDict, #[], _, e1, rfl, (fun e he => absurd he (by simp)), fun _ => rfl⟩
  have I1 := I.laid (a := s.heap.objs.size) (o := .own (s.heap.objs.size + 1)) (h' := s.heap.push PySem.W.emptyDict) (t' := s.toks) (fun b u q => Heap.get?_push_of_some _ q) (Nat.le_refl _) ⟨_, e1⟩
  refine I1.laid (a := s.heap.objs.size + 1) (o := .ins C s.heap.objs.size []) (t' := s.toks) (fun b u q => Heap.get?_push_of_some _ q) (Nat.le_of_eq (Heap.size_push _ _)) ?_
  have ne : s.heap.objs.size ≠ s.heap.objs.size + 1 := Nat.ne_of_lt (Nat.lt_succ_self _)
  refine ⟨by rw [upd_ne ne, upd_same], Nat.zero_le _, ne, e2, fun _ => none, (Heap.Ns1.of_empty e3).at fun o q => Heap.get?_push_of_some _ q, fun _ => True.intro, fun y hy => absurd rfl hy⟩
end
section
variable {X : Cx} {o e value : Expr} {f : Str} {pos pos' tpos : Pos} {ta tv : TE}
end
section
variable {X : Cx} {pins : List (Addr × Obj)} {σ : St} {H : Hp} {s : Shared} {A : Around} {E : Value → Shared → Prop} {Q : Value → Shared → Prop} {c : Value} {b : Bool}
inductive TyOf (K : PySem.W.Frag) (H : Hp) : V → Value → Prop where
  | non : TyOf K H .non (.type "NoneType")
  | bl (x : Bool) : TyOf K H (.bl x) (.type "bool")
  | int (i : Int) : TyOf K H (.int i) (.type "int")
  | str (x : Str) : TyOf K H (.str x) (.type "str")
  | flt (x : UInt64) : TyOf K H (.flt x) (.type "float")
  | lst {a : Addr} {xs : List V} (e : H a = some (.lst xs)) : TyOf K H (.ref a) (.type "list")
  | frz {a : Addr} {o : Obj} {xs : List V} (e : H a = some (.frz o (.lst xs))) : TyOf K H (.ref a) (.type "list")
  | tup {a : Addr} {xs : List V} (e : H a = some (.tup xs)) : TyOf K H (.ref a) (.type "tuple")
  | dK {a : Addr} {kvs : List (Key × V)} (e : H a = some (.dK kvs)) : TyOf K H (.ref a) (.type "dict")
  | dT {a : Addr} {kvs : List (List Key × V)} (e : H a = some (.dT kvs)) : TyOf K H (.ref a) (.type "dict")
  | ins {a C dx : Addr} {fs : List (Str × V)} (e : H a = some (.ins C dx fs)) (cl : Cls K C) (ha : PySem.W.findIn K (.ref C) "__class__" = some (some (.builtin "object.__class__")))
      (hn : PySem.W.specialIn K (.builtin "object.__class__") "__get__" = some (some (.builtin "getset_descriptor.__get__"))) (htk : PySem.W.takesIn K (.builtin "object.__class__") = some true)
      (hm : PySem.W.mroIn K C (.type "object") = some true) : TyOf K H (.ref a) (.ref C)
end
end L2
namespace L2
open PySem PySem.Spec PyProof.Rows
structure Room (k : Nat) (A : Around) : Prop where
  hd : A.handled = none
  dp : A.depth + 3 * k + 5 < recursionLimit
  un : A.units + 16 * k + 200 < cLine
  gd : A.guards = some []
theorem Room.mono {j k : Nat} {A : Around} (r : Room k A) (h : j ≤ k) : Room j A := ⟨r.hd, by have := r.dp; omega, by have := r.un; omega, r.gd⟩
theorem Room.deeper {k : Nat} {A : Around} (r : Room (k + 1) A) (env : Env) : Room k (A.deeper env) :=
  ⟨r.hd, by have := r.dp; show A.depth + 1 + 3 * k + 5 < _; omega, by have := r.un; show A.units + 3 + 16 * k + 200 < _; omega, r.gd⟩
theorem Room.in1 {k : Nat} {A : Around} (r : Room (k + 1) A) : Room k A.in1 :=
  ⟨r.hd, by have := r.dp; show A.depth + 3 * k + 5 < _; omega, by have := r.un; show A.units + 1 + 16 * k + 200 < _; omega, r.gd⟩
theorem Room.depth {k : Nat} {A : Around} (r : Room k A) : A.depth < recursionLimit := by have := r.dp; omega
theorem Room.units {k : Nat} {A : Around} (r : Room k A) : A.units + 64 < cLine := by have := r.un; omega
def tNil : TA := fun _ H Q => Q [] H
def tCons (ta : TE) (tr : TA) : TA := fun σ H Q => ta σ H fun x H1 => tr σ H1 fun xs H2 => Q (x :: xs) H2
section
variable {X : Cx} {e : Expr} {es : List Expr} {te : TE} {t : TA} {pos : Pos}
theorem pa_nil : PA X [] tNil := fun _ _ _ _ H Q I h => Calls.spliced_nil ⟨[], H, I, .nil, h⟩
theorem pa_cons (ha : PE X e te) (hr : PA X es t) (hs : starEach (e :: es) X.env = (false, eval e X.env) :: starEach es X.env := by rfl) : PA X (e :: es) (tCons te t) := by
  intro pos pins s σ H Q I h
  rw [hs]
  show wpAny _ _ (spliced ((false, eval e X.env) :: backTo pos (starEach es X.env))) _ _ s
  refine Calls.spliced_cons (thn (ha pins s σ H _ I h) fun u s1 ⟨x, H1, I1, r1, q1⟩ => ?_)
  exact thn (hr pos pins s1 σ H1 _ I1 q1) fun us s2 ⟨xs, H2, I2, r2, q2⟩ => ⟨x :: xs, H2, I2, .cons r1 r2, q2⟩
def tTup (t : TA) : TE := fun σ H Q => t σ H fun xs H1 => xs.length ≤ sizeLine ∧ ∀ p, H1 p = none → Q (.ref p) (upd H1 p (.tup xs))
def tLst (t : TA) : TE := fun σ H Q => t σ H fun xs H1 => xs.length ≤ sizeLine ∧ ∀ p, H1 p = none → Q (.ref p) (upd H1 p (.lst xs))
theorem pe_tup {x1} (h : PA X es t) : PE X (.Tuple es x1 pos) (tTup t) := by
  intro pins s σ H Q I hq
  refine wpAny_Tuple_spliced (thn (h pos pins s σ H _ I hq) fun us s1 ⟨xs, H1, I1, r, z, q⟩ => ⟨by rw [← r.length]; exact z, ?_⟩)
  have hf : H1 s1.heap.objs.size = none := I1.hok.fresh (Nat.le_refl _)
  refine ⟨.ref s1.heap.objs.size, upd H1 s1.heap.objs.size (.tup xs), I1.laid (t' := s1.toks) (fun b u e => Heap.get?_push_of_some _ e) (Nat.le_refl _) ?_, rfl, q _ hf⟩
  exact ⟨z, us, r, TupN.new _ _⟩
theorem pe_lst (h : PA X es t) : PE X (.List es pos) (tLst t) := by
  intro pins s σ H Q I hq
  refine wpAny_List_spliced (thn (h pos pins s σ H _ I hq) fun us s1 ⟨xs, H1, I1, r, z, q⟩ => ⟨by rw [← r.length]; exact z, ?_⟩)
  have hf : H1 s1.heap.objs.size = none := I1.hok.fresh (Nat.le_refl _)
  refine ⟨.ref s1.heap.objs.size, upd H1 s1.heap.objs.size (.lst xs), I1.laid (t' := s1.toks) (fun b u e => Heap.get?_push_of_some _ e) (Nat.le_refl _) ?_, rfl, q _ hf⟩
  exact ⟨z, us, 0, r, Heap.get?_push_size _ rfl⟩
end
abbrev Sp := List V → Hp → VK → XK → Prop
abbrev CXT := List Env → Hp → Shared → XK → Value → Shared → Prop
structure Env0 (P : Program) (w : World) (K : PySem.W.Frag) (mg : Str → Option Value) (base : Heap) (A : Around) (outer : List Env) (s : Shared) (H : Hp) : Prop where
  frames : A.frames = some outer
  mod : Mod K mg base
  bs : ∀ b o, base.get? b = some o → s.heap.get? b = some o ∧ H b = none
  bsz : base.objs.size ≤ s.heap.objs.size
  funs : s.heap.FunFrames base outer
  frf : ∀ b ∈ frs outer, H b = none
  hok : HOk P w H s.heap
  bare : AllBare s.gens
def CE (outer : List Env) (P : Program) (w : World) (H : Hp) (s : Shared) (Q : VK) (u : Value) (s' : Shared) : Prop :=
  ∃ v H', s'.os = s.os ∧ AllBare s'.gens ∧ Un (frs outer) [] H H' s.heap s'.heap ∧ HOk P w H' s'.heap ∧ RelV v u ∧ Q v H'
def CR (CX : CXT) (outer : List Env) (P : Program) (w : World) (H : Hp) (s : Shared) (Q : VK) (E : XK) (r : Result) (s' : Shared) : Prop :=
  match r with
  | .ok (.ret u) => CE outer P w H s Q u s'
  | .ok _ => False
  | .error e => CX outer H s E e s'
structure FnOk (P : Program) (w : World) (K : PySem.W.Frag) (mg : Str → Option Value) (base : Heap) (CX : CXT) (k : Nat) (f : Addr) (fd : FuncData) (ps : List Str) (sp : Sp) : Prop where
  len : ∀ vs H Q E, sp vs H Q E → vs.length = ps.length
  run : ∀ (A : Around) (outer : List Env) (s : Shared) (H : Hp) (args : Args) (us : List Value) (vs : List V) (Q : VK) (E : XK), Room k A → Env0 P w K mg base A outer s H → BindsTo s fd args (ps.zip us) → Vals vs us → sp vs H Q E →
    codeAny (model P w) A (.call (.ref f) args) (CR CX outer P w H s Q E) s
theorem FnOk.mono {P : Program} {w : World} {K : PySem.W.Frag} {mg : Str → Option Value} {base : Heap} {CX : CXT} {j k : Nat} {f : Addr} {fd : FuncData} {ps : List Str} {sp : Sp} (F : FnOk P w K mg base CX j f fd ps sp) (h : j ≤ k) :
    FnOk P w K mg base CX k f fd ps sp := ⟨F.len, fun A outer s H args us vs Q E hr => F.run A outer s H args us vs Q E (hr.mono h)⟩
theorem FnOk.imp {P : Program} {w : World} {K : PySem.W.Frag} {mg : Str → Option Value} {base : Heap} {CX : CXT} {k : Nat} {f : Addr} {fd : FuncData} {ps : List Str} {sp sp' : Sp} (F : FnOk P w K mg base CX k f fd ps sp)
    (h : ∀ vs H Q E, sp' vs H Q E → sp vs H Q E) : FnOk P w K mg base CX k f fd ps sp' :=
  ⟨fun vs H Q E q => F.len vs H Q E (h _ _ _ _ q), fun A outer s H args us vs Q E hr he hb hv hs => F.run A outer s H args us vs Q E hr he hb hv (h _ _ _ _ hs)⟩
theorem Env0.in1 {P : Program} {w : World} {K : PySem.W.Frag} {mg : Str → Option Value} {base : Heap} {A : Around} {outer : List Env} {s : Shared} {H : Hp} (e : Env0 P w K mg base A outer s H) :
    Env0 P w K mg base A.in1 outer s H := ⟨e.frames, e.mod, e.bs, e.bsz, e.funs, e.frf, e.hok, e.bare⟩
section
variable {X : Cx} {pins : List (Addr × Obj)} {σ : St} {H : Hp} {s s' : Shared}
theorem Inv.env0 (I : Inv X pins σ H s) : Env0 X.prog X.w X.K X.mg X.base X.A X.stack s H :=
  ⟨I.ok.frames, I.ok.mod, I.bs, Nat.le_trans I.ok.bsz I.sz, I.stack, I.stkFree, I.hok, I.bare⟩
theorem Inv.after {Q : VK} {u : Value} (I : Inv X pins σ H s) (h : CE X.stack X.prog X.w H s Q u s') : EP X pins σ Q u s' := by
  obtain ⟨v, H', os, bare, un, hok, r, q⟩ := h
  obtain ⟨hh, g, d, t, os'⟩ := s'
  obtain rfl : os' = s.os := os
  exact ⟨v, H', I.call (h' := hh) (g' := g) (d' := d) (t' := t) (ch := []) un hok bare (fun b z => absurd z (by simp)), r, q⟩
end
def tCall (sp : Sp) (dvs : List V) (E : XK) (t : TA) : TE := fun σ H Q => t σ H fun vs H1 => sp (vs ++ dvs) H1 Q E
def Binds (K : PySem.W.Frag) (fd : FuncData) (ps : List Str) (ds : List Value) : Prop :=
  ∀ (s : Shared) (us : List Value), K.In s.heap → (us ++ ds).length = ps.length → BindsTo s fd ⟨us, []⟩ (ps.zip (us ++ ds))
theorem Binds.all {K : PySem.W.Frag} {fd : FuncData} {ps : List Str} (h : ∀ us : List Value, us.length = ps.length → bindArgs fd ⟨us, []⟩ = pure (ps.zip us)) : Binds K fd ps [] := fun s us _ hl => by
  rw [List.append_nil] at hl ⊢
  exact .of_eq (h us hl)
def Passes (CX : CXT) (X : Cx) (E : XK) : Prop := ∀ (pins : List (Addr × Obj)) (σ : St) (H : Hp) (s : Shared) (e : Value) (s' : Shared), Inv X pins σ H s → CX X.stack H s E e s' → X.xe e s'
section
variable {X : Cx} {CX : CXT} {k : Nat} {f C : Addr} {fd : FuncData} {ps : List Str} {sp : Sp} {dvs : List V} {ds : List Value} {E : XK} {x m : Str} {p pos apos : Pos} {e o : Expr} {es : List Expr} {ta : TE} {t : TA}
theorem run_fn {pins : List (Addr × Obj)} {σ : St} {H : Hp} {s : Shared} {Q : VK} {us : List Value} {vs : List V} (F : FnOk X.prog X.w X.K X.mg X.base CX k f fd ps sp) (hr : Room k X.A) (hb : Binds X.K fd ps ds) (hd : Vals dvs ds) (hx : Passes CX X E)
    (I : Inv X pins σ H s) (r : Vals vs us) (h : sp (vs ++ dvs) H Q E) : wpAny (model X.prog X.w) X.A (call (.ref f) us) (EP X pins σ Q) X.xe s := by
  have r2 : Vals (vs ++ dvs) (us ++ ds) := r.append hd
  have hl : (us ++ ds).length = ps.length := by rw [← r2.length]; exact F.len _ _ _ _ h
  refine wpAny_call (codeAny_mono (F.run X.A X.stack s H ⟨us, []⟩ (us ++ ds) (vs ++ dvs) Q E hr I.env0 (hb s us I.kIn hl) r2 h) fun r s' hq => ?_)
  cases r with
  | error e => exact hx pins σ H s e s' I hq
  | ok fl =>
    cases fl with
    | ret u => exact I.after hq
    | next => exact False.elim hq
    | brk => exact False.elim hq
    | cont => exact False.elim hq
theorem pe_call (F : FnOk X.prog X.w X.K X.mg X.base CX k f fd ps sp) (hr : Room k X.A) (hg : Gl X x) (hm : X.mg x = some (.ref f)) (hk : PySem.W.keepIn X.K (.ref f) = true) (hb : Binds X.K fd ps ds) (hd : Vals dvs ds) (hx : Passes CX X E)
    (ha : PA X (e :: es) t) (hdb : (x == ("__debug__" : Str)) = false := by decide) (he : starEach (e :: es) X.env = (false, eval e X.env) :: starEach es X.env := by rfl) (hpl : (backTo pos (starEach es X.env)).any (·.1) = false := by rfl) :
    PE X (.Call (.Name x p) (e :: es) [] pos) (tCall sp dvs E t) := by
  intro pins s σ H Q I h
  refine wpAny_Call_Name_kw (ld_glob I hg hm ?_ hdb)
  refine PySem.W.callWith_K (h₀ := X.base) I.ok.mod.kin hk (thn (ha pos pins s σ H _ I h) fun us s1 ⟨vs, H1, I1, r, q⟩ => ⟨I1.kIn, ?_⟩) he hpl
  exact run_fn F hr hb hd hx I1 r q
structure Mk (K : PySem.W.Frag) (C f : Addr) : Prop where
  makes : PySem.W.makesIn K C = true
  init : PySem.W.findIn K (.ref C) "__init__" = some (some (.ref f))
  fn : PySem.W.isFn K (.ref f) = true
  kp : PySem.W.keepIn K (.ref C) = true
end
section
variable {X : Cx} {CX : CXT} {k : Nat} {f C : Addr} {fd : FuncData} {ps ks : List Str} {sp : Sp} {E : XK} {x m : Str} {p pos apos kpos : Pos} {e o : Expr} {es : List Expr} {kws : List Keyword} {te ta : TE} {t tk : TA} {nm : Option Str}
structure KBinds (K : PySem.W.Frag) (fd : FuncData) (ps ks : List Str) (g : List Value → List Value → List Value) (gV : List V → List V → List V) : Prop where
  to : ∀ (s : Shared) (us ws : List Value), K.In s.heap → (g us ws).length = ps.length → BindsTo s fd ⟨us, ks.zip ws⟩ (ps.zip (g us ws))
  rel : ∀ {vs : List V} {us : List Value} {zs : List V} {ws : List Value}, Vals vs us → Vals zs ws → Vals (gV vs zs) (g us ws)
variable {g : List Value → List Value → List Value} {gV : List V → List V → List V}
end
structure FnScope (N P : List Str) (sc : Scope) : Prop where
  kind : sc.kind = .function
  co : sc.isCoroutine = false
  gen : sc.isGenerator = false
  nd : N.Nodup
  pre : N.take P.length = P
  par : ∀ x ∈ P, sc.names.lookup x = some .local ∨ sc.names.lookup x = some .cell
  nofree : ∀ y ∈ sc.names, y.2 ≠ .free
theorem bindL_out {kindOf : Str → Option NameKind} {x : Str} : ∀ {binds : List (Str × Value)} {m : Str → Option Value}, (∀ v, (x, v) ∉ binds) → bindL kindOf binds m x = m x
  | [], _, _ => rfl
  | (n, v) :: r, m, h => by
    unfold bindL
    rw [bindL_out fun w hw => h w (List.mem_cons_of_mem _ hw)]
    split
    · have : x ≠ n := by rintro rfl; exact h v List.mem_cons_self
      simp [this]
    · rfl
theorem bindC_out {kindOf : Str → Option NameKind} {x : Str} : ∀ {binds : List (Str × Value)} {m : Str → Option Value}, (∀ v, (x, v) ∉ binds) → bindC kindOf binds m x = m x
  | [], _, _ => rfl
  | (n, v) :: r, m, h => by
    unfold bindC
    rw [bindC_out fun w hw => h w (List.mem_cons_of_mem _ hw)]
    split
    · rfl
    · have : x ≠ n := by rintro rfl; exact h v List.mem_cons_self
      simp [this]
theorem bindL_get {kindOf : Str → Option NameKind} {x : Str} {v : Value} : ∀ {P : List Str} {vs : List Value} {i : Nat} {m : Str → Option Value}, P.Nodup → P[i]? = some x → vs[i]? = some v → kindOf x = some .local →
    bindL kindOf (P.zip vs) m x = some v
  | [], _, _, _, _, h, _, _ => by simp at h
  | _ :: _, [], _, _, _, _, h, _ => by simp at h
  | p :: P, w :: vs, 0, m, nd, h1, h2, hk => by
    simp at h1 h2; subst h1; subst h2
    show bindL kindOf ((p, w) :: P.zip vs) m p = _
    unfold bindL
    rw [bindL_out fun v hv => (List.nodup_cons.mp nd).1 (List.of_mem_zip hv).1, if_pos hk]
    simp
  | p :: P, w :: vs, i + 1, m, nd, h1, h2, hk => by
    show bindL kindOf ((p, w) :: P.zip vs) m x = _
    unfold bindL
    exact bindL_get (i := i) (List.nodup_cons.mp nd).2 (by simpa using h1) (by simpa using h2) hk
theorem bindC_get {kindOf : Str → Option NameKind} {x : Str} {v : Value} : ∀ {P : List Str} {vs : List Value} {i : Nat} {m : Str → Option Value}, P.Nodup → P[i]? = some x → vs[i]? = some v → kindOf x ≠ some .local →
    bindC kindOf (P.zip vs) m x = some v
  | [], _, _, _, _, h, _, _ => by simp at h
  | _ :: _, [], _, _, _, _, h, _ => by simp at h
  | p :: P, w :: vs, 0, m, nd, h1, h2, hk => by
    simp at h1 h2; subst h1; subst h2
    show bindC kindOf ((p, w) :: P.zip vs) m p = _
    unfold bindC
    rw [bindC_out fun v hv => (List.nodup_cons.mp nd).1 (List.of_mem_zip hv).1, if_neg hk]
    simp
  | p :: P, w :: vs, i + 1, m, nd, h1, h2, hk => by
    show bindC kindOf ((p, w) :: P.zip vs) m x = _
    unfold bindC
    exact bindC_get (i := i) (List.nodup_cons.mp nd).2 (by simpa using h1) (by simpa using h2) hk
def start (N : List Str) (vs : List V) : St := vs.map some ++ List.replicate (N.length - vs.length) none
def cxOf (CX : CXT) (P : Program) (w : World) (K : PySem.W.Frag) (mg : Str → Option Value) (base : Heap) (N : List Str) (qual : Str) (scope : Scope) (f : Addr) (cd : Value) (A : Around) (outer : List Env) (s : Shared) (H : Hp) (E : XK) : Cx where
  prog := P
  w := w
  K := K
  mg := mg
  base := base
  A := A.deeper (envOfC qual scope s.heap.objs.size f cd)
  N := N
  s₀ := s
  H₀ := H
  env := envOfC qual scope s.heap.objs.size f cd
  outer := outer
  stack := envOfC qual scope s.heap.objs.size f cd :: outer
  ex := []
  calm := true
  fn := fun _ => true
  pn := []
  xe := fun e s' => wpAny (model P w) (A.deeper (envOfC qual scope s.heap.objs.size f cd)) (leaving (envOfC qual scope s.heap.objs.size f cd) e) (fun _ s'' => CX outer H s E e s'') (fun e' s'' => CX outer H s E e' s'') s'
theorem cell_has {sc : Scope} {n : Nat} {x : Str} (h : sc.names.lookup x = some .cell) : ∃ c, (cellsFrom n sc.names []).lookup x = some c := by
  have q := PySem.W.cellsFrom_some sc.names n [] (.inl h)
  exact Option.isSome_iff_exists.mp q
theorem inv_start {CX : CXT} {P : Program} {w : World} {K : PySem.W.Frag} {mg : Str → Option Value} {base : Heap} {N ps : List Str} {qual : Str} {scope : Scope} {f : Addr} {cd : Value} {A : Around} {outer : List Env} {s s1 : Shared} {H : Hp} {E : XK} {us : List Value} {vs : List V}
    (S : FnScope N ps scope) (hd : A.handled = none) (e0 : Env0 P w K mg base A outer s H) (hl : vs.length = ps.length) (r : Vals vs us)
    (x : InCallC s s.heap.objs.size (bindL (envOfC qual scope s.heap.objs.size f cd).kindOf (ps.zip us) fun _ => none) (cellsFrom (s.heap.objs.size + 1) scope.names []) (bindC (envOfC qual scope s.heap.objs.size f cd).kindOf (ps.zip us) fun _ => none) s1) :
    Inv (cxOf CX P w K mg base N qual scope f cd A outer s H E) [] (start N vs) H s1 := by
  have hpl : ps.length ≤ N.length := by have := congrArg List.length S.pre; rw [List.length_take] at this; omega
  obtain ⟨h1, tk, rfl, hk⟩ := x.done
  have noA : ∀ b : Addr, b ∉ (cxOf CX P w K mg base N qual scope f cd A outer s H E).ex := fun b z => absurd (show b ∈ ([] : List Addr) from z) (by simp)
  refine ⟨⟨e0.mod, S.kind, rfl, rfl, Nat.le_refl _, fun y z c h1 h2 => ?_, fun y hy => ?_, fun y c _ h => ?_, fun _ => hd, Around.frames_deeper e0.frames, .inr ⟨rfl, rfl⟩, fun b z => absurd z (noA b), e0.bs, e0.bsz, fun b _ _ => noA b, fun b z => absurd z (noA b), e0.funs, e0.frf⟩,
    rfl, e0.bare, Un.kept hk, ⟨_, x.toInCall.ns, fun i y v h1 h2 h3 => ?_⟩, fun y c h => ⟨_, x.cell y c h⟩, e0.hok.fresh (Nat.le_refl _), fun y c h => ?_, fun p hp => absurd (show p ∈ ([] : List (Addr × Obj)) from hp) (by simp), e0.hok.kept hk, ?_⟩
  · exact name_of_addr x.apart (PySem.mem_of_lookup h1) (PySem.mem_of_lookup h2)
  · have hy : scope.names.lookup y = some .cell ∨ scope.names.lookup y = some .free := hy
    rcases hy with hy | hy
    · exact cell_has hy
    · exact absurd rfl (S.nofree _ (PySem.mem_of_lookup hy))
  · exact Nat.le_of_lt (x.above y c (PySem.mem_of_lookup h))
  · have hi : i < vs.length := by
      unfold start at h2
      by_cases hi : i < vs.length
      · exact hi
      · rw [List.getElem?_append_right (by simpa using hi)] at h2
        rw [List.getElem?_replicate] at h2
        split at h2 <;> cases h2
    have ha : vs[i]? = some v := by
      unfold start at h2
      rw [List.getElem?_append_left (by simpa using hi), List.getElem?_map] at h2
      cases e : vs[i]? with
      | none => rw [e] at h2; cases h2
      | some a => rw [e] at h2; cases h2; rfl
    obtain ⟨u, hu, rv⟩ := r.get ha
    have hp : ps[i]? = some y := by
      rw [← S.pre, List.getElem?_take_of_lt (by omega)]; exact h1
    have ndP : ps.Nodup := by rw [← S.pre]; exact S.nd.sublist (List.take_sublist _ _)
    refine ⟨u, rv, ?_⟩
    rcases S.par y (List.mem_of_getElem? hp) with k | k
    · exact .inl ⟨k, bindL_get ndP hp hu k⟩
    · obtain ⟨c, e⟩ := cell_has (n := s.heap.objs.size + 1) k
      refine .inr ⟨.inl k, c, e, ?_⟩
      have q := x.cell y c e
      rw [bindC_get ndP hp hu (by show scope.names.lookup y ≠ _; rw [k]; decide)] at q
      exact q
  · exact e0.hok.fresh (Nat.le_of_lt (x.above y c (PySem.mem_of_lookup h)))
  · unfold start
    show _ = N.length
    rw [List.length_append, List.length_map, List.length_replicate]
    omega
theorem fn_of {CX : CXT} {P : Program} {w : World} {K : PySem.W.Frag} {mg : Str → Option Value} {base : Heap} {k : Nat} {f : Addr} {name qual : Str} {params : Arguments} {body : List Stmt} {scope : Scope} {dV kV doc pm cdv ct oc : Value} {an od : Option Addr}
    {osl : Array (Option Value)} {N ps : List Str} {sp : Sp} (lk : K.lookup f = some ⟨oc, od, .func (PySem.W.fnOf name qual params body scope dV kV doc pm an cdv ct), osl⟩) (hcd : PySem.W.codeIn K cdv qual = true) (S : FnScope N ps scope)
    (len : ∀ vs H Q E, sp vs H Q E → vs.length = ps.length)
    (hbody : ∀ (A : Around) (outer : List Env) (s : Shared) (H : Hp) (vs : List V) (Q : VK) (E : XK), Room k (A.deeper (envOfC qual scope s.heap.objs.size f cdv)) → sp vs H Q E →
      ∃ t, PSs (cxOf CX P w K mg base N qual scope f cdv A outer s H E) body t ∧ t { nx := fun _ H' => Q .non H', rt := Q } (start N vs) H) :
    FnOk P w K mg base CX (k + 1) f (PySem.W.fnOf name qual params body scope dV kV doc pm an cdv ct) ps sp := by
  refine ⟨len, fun A outer s H args us vs Q E hr e0 hb r hsp => ?_⟩
  have hl := len _ _ _ _ hsp
  have KX : K.In s.heap := e0.mod.kin.keeps fun b o e => (e0.bs b o e).1
  have lim : s.heap.NoLimit := e0.mod.nolimit.keeps fun b o e => (e0.bs b o e).1
  have hkind : ∀ y ∈ ps.zip us, scope.names.lookup y.1 = some .local ∨ (scope.names.lookup y.1 = some .cell ∧ ((cellsFrom (s.heap.objs.size + 1) scope.names []).lookup y.1).isSome = true) := fun ⟨n, v⟩ hy => by
    rcases S.par n (List.of_mem_zip hy).1 with q | q
    · exact .inl q
    · exact .inr ⟨q, PySem.W.cellsFrom_some _ _ _ (.inl q)⟩
  refine codeAny_call_function hr.depth (KX _ _ lk) rfl S.co S.gen rfl (PySem.W.codeRec_of KX hcd) (hb _ _ _ _ ?_)
  refine wpAny_newFunctionEnv_cells S.kind hkind fun env he s1 x => ?_
  subst he
  refine ⟨lim.keeps x.toInCall.keep, codeAny_func ?_⟩
  obtain ⟨t, ht, hq⟩ := hbody A outer s H vs Q E (hr.deeper _) hsp
  have I : Inv (cxOf CX P w K mg base N qual scope f cdv A outer s H E) [] (start N vs) H s1 := inv_start S hr.hd e0 hl r x
  refine wpAny_mono (ht [] s1 (start N vs) H _ I hq) (fun fl s' hs => ?_) fun e s' hs => hs
  have fin : ∀ {σ' : St} {H' : Hp} {v : V} {u : Value}, Inv (cxOf CX P w K mg base N qual scope f cdv A outer s H E) [] σ' H' s' → RelV v u → Q v H' → CE outer P w H s Q u s' :=
    fun {σ' H' v u} J rv q => ⟨v, H', J.os, J.bare, J.base, J.hok, rv, q⟩
  cases fl with
  | ret u =>
    obtain ⟨v, σ', H', J, rv, q⟩ := hs
    exact fin J rv q
  | next =>
    obtain ⟨σ', H', J, q⟩ := hs
    exact fin (v := V.non) (u := Value.none) J rfl q
  | brk =>
    obtain ⟨_, _, _, q⟩ := hs
    exact False.elim q
  | cont =>
    obtain ⟨_, _, _, q⟩ := hs
    exact False.elim q
end L2
namespace L2
open PySem PySem.Spec PyProof.Rows
section
variable {X : Cx} {x : Str} {p pos : Pos} {e : Expr} {es : List Expr} {t : TA} {id T : String} {r : List V → Hp → VK → Prop}
def tCB (r : List V → Hp → VK → Prop) (t : TA) : TE := fun σ H Q => t σ H fun vs H1 => r vs H1 Q
theorem pe_callB (hc : CallR X (.builtin id) r) (hg : Gl X x) (hm : X.mg x = none) (hv : bootBuiltins x = some (.builtin id)) (ha : PA X (e :: es) t) (hn : x ≠ "__name__" := by decide) (hdb : (x == ("__debug__" : Str)) = false := by decide)
    (he : starEach (e :: es) X.env = (false, eval e X.env) :: starEach es X.env := by rfl) (hpl : (backTo pos (starEach es X.env)).any (·.1) = false := by rfl) : PE X (.Call (.Name x p) (e :: es) [] pos) (tCB r t) := by
  intro pins s σ H Q I h
  refine wpAny_Call_Name_kw (ld_blt I hg hm hv ?_ hn hdb)
  exact PyProof.Rows.callWith_builtin1 (thn (ha pos pins s σ H _ I h) fun us s1 ⟨vs, H1, I1, r1, q1⟩ => hc pins s1 σ H1 vs us Q I1 r1 q1) he hpl
theorem pe_callTy (hc : CallR X (.type T) r) (hg : Gl X x) (hm : X.mg x = none) (hv : bootBuiltins x = some (.type T)) (ha : PA X (e :: es) t) (hn : x ≠ "__name__" := by decide) (hdb : (x == ("__debug__" : Str)) = false := by decide)
    (he : starEach (e :: es) X.env = (false, eval e X.env) :: starEach es X.env := by rfl) (hpl : (backTo pos (starEach es X.env)).any (·.1) = false := by rfl) : PE X (.Call (.Name x p) (e :: es) [] pos) (tCB r t) := by
  intro pins s σ H Q I h
  refine wpAny_Call_Name_kw (ld_blt I hg hm hv ?_ hn hdb)
  exact PyProof.Rows.callWith_type1 (thn (ha pos pins s σ H _ I h) fun us s1 ⟨vs, H1, I1, r1, q1⟩ => hc pins s1 σ H1 vs us Q I1 r1 q1) he hpl
end
end L2
namespace HT
open PySem PyProof.Rows
section
open PySem.SeqAt
open PySem.AutoSeq1 (wpAny_loadPart')
open PySem.MeetsSeq PySem.MeetsSeq2 PySem.MeetsSeq3
end
section
variable {prog : Program} {w : World} {A : Around} {E : Value → Shared → Prop} {s : Shared}
theorem cat_tup {t b : Addr} {vs ws : List Value} {Q : Value → Shared → Prop} (ht : IsTup s.heap t vs.toArray) (hb : IsTup s.heap b ws.toArray) (hv : vs ≠ [])
    (h1 : ws = [] → Q (.ref t) s) (h2 : ws ≠ [] → Q (.ref s.heap.objs.size) { s with heap := s.heap.push { cls := .type "tuple", data := .seq (vs ++ ws).toArray } })
    (hsz : vs.length + ws.length ≤ sizeLine) : wpAny (model prog w) A (binaryOp .Add (.ref t) (.ref b)) Q E s := by
  obtain ⟨⟨cls, dd, data, sl⟩, ho, hc, n, hd⟩ := id ht
  obtain ⟨⟨cls2, dd2, data2, sl2⟩, ho2, hc2, n2, hd2⟩ := id hb
  simp only at hc hd hc2 hd2
  subst hc hd hc2 hd2
  have e : vs.toArray ++ ws.toArray = (vs ++ ws).toArray := by simp
  by_cases hw : ws = []
  · exact concat_meets ⟨_, ho, rfl⟩ ⟨_, ho2, rfl⟩ noFill_tuple_add seq_tuple_add PySem.F.slot_tuple_add PySem.F.entry_tuple_add (PySem.F.args_tuple_add_2 _ _)
      (tuple_addW1 t b vs.toArray ws.toArray n n2 dd dd2 sl sl2 (by simpa using hv) (by simp [hw])) ⟨ho, ho2, h1 hw⟩
  · refine concat_meets ⟨_, ho, rfl⟩ ⟨_, ho2, rfl⟩ noFill_tuple_add seq_tuple_add PySem.F.slot_tuple_add PySem.F.entry_tuple_add (PySem.F.args_tuple_add_2 _ _)
      (tuple_addW2 t b vs.toArray ws.toArray n n2 dd dd2 sl sl2 (by simpa using hv) (by simpa using hw) (by rw [List.size_toArray, List.size_toArray]; exact hsz)) ⟨ho, ho2, ?_⟩
    rw [e]
    exact h2 hw
def sIx (n d : Nat) : Option Int → Nat
  | none => d
  | some v => if v < 0 then (v + (n : Int)).toNat else min v.toNat n
theorem sIx_le (n d : Nat) (hd : d ≤ n) (o : Option Int) : sIx n d o ≤ n := by
  cases o with
  | none => exact hd
  | some v =>
    show (if v < 0 then (v + (n : Int)).toNat else min v.toNat n) ≤ n
    by_cases hv : v < 0
    · rw [if_pos hv]; omega
    · rw [if_neg hv]; exact Nat.min_le_right _ _
theorem clip_eq (v : Int) (n d : Nat) : (if v < 0 then max (v + (n : Int)) 0 else min v (n : Int)) = ((sIx n d (some v) : Nat) : Int) := by
  show (if v < 0 then max (v + (n : Int)) 0 else min v (n : Int)) = (((if v < 0 then (v + (n : Int)).toNat else min v.toNat n) : Nat) : Int)
  by_cases hv : v < 0
  · simp only [if_pos hv]; omega
  · simp only [if_neg hv]; omega
theorem adjust_gen (lo hi : Option Int) (n : Nat) : Builtin.Slice.sliceAdjust lo hi 1 (n : Int) = (((sIx n 0 lo : Nat) : Int), ((sIx n n hi : Nat) : Int)) := by
  have h1 : ¬ ((1 : Int) < 0) := by omega
  unfold Builtin.Slice.sliceAdjust
  simp only [h1, if_false]
  refine Prod.ext ?_ ?_
  · cases lo with
    | none => rfl
    | some v => exact clip_eq v n 0
  · cases hi with
    | none => rfl
    | some v => exact clip_eq v n n
theorem places_gen (i j : Nat) : Builtin.Slice.slicePlaces (i : Int) (j : Int) 1 = j - i := by
  unfold Builtin.Slice.slicePlaces
  have h1 : (1 : Int) > 0 := by omega
  simp only [h1, if_true, Int.ediv_one]
  split <;> omega
theorem slicePart_ {v : Value} {o : Option Int} {Q : Option Int → Shared → Prop} (p : IsPart v o) (h : Q o s) : wpAny (model prog w) A (Builtin.Slice.slicePartIndex v) Q E s := by
  cases p with
  | none => exact slicePart_none h
  | int i t => exact slicePart_int h
theorem sliceApplied_gen {sl : Addr} {vl vu : Value} {lo hi : Option Int} {n : Nat} {Q : Int × Int × Nat → Shared → Prop} (hs : s.heap.IsSliceOf sl vl vu .none) (pl : IsPart vl lo) (pu : IsPart vu hi)
    (h : Q (((sIx n 0 lo : Nat) : Int), 1, sIx n n hi - sIx n 0 lo) s) : wpAny (model prog w) A (Builtin.Slice.sliceApplied (.ref sl) (pure (n : Int))) Q E s := by
  obtain ⟨os, hos, hcs, hds⟩ := id hs
  unfold Builtin.Slice.sliceApplied Builtin.Slice.sliceFields
  refine wpAny_bind (wpAny_bind (wpAny_field hos hds (x := vl) rfl (wpAny_bind (wpAny_field hos hds (x := vu) rfl (wpAny_bind (wpAny_field hos hds (x := .none) rfl (wpAny_pure ?_)))))))
  refine wpAny_bind (slicePart_none ?_)
  show wpAny _ _ (if ((1 : Int) == 0) = true then _ else _) _ _ s
  rw [if_neg (by decide)]
  refine wpAny_bind (slicePart_ pl (wpAny_bind (slicePart_ pu (wpAny_bind (wpAny_pure ?_)))))
  show wpAny _ _ (match Builtin.Slice.sliceAdjust lo hi 1 (n : Int) with | (lo, hi) => pure (lo, (1 : Int), Builtin.Slice.slicePlaces lo hi 1)) _ _ s
  rw [adjust_gen lo hi n]
  show wpAny _ _ (pure (((sIx n 0 lo : Nat) : Int), (1 : Int), Builtin.Slice.slicePlaces ((sIx n 0 lo : Nat) : Int) ((sIx n n hi : Nat) : Int) 1)) _ _ s
  rw [places_gen]
  exact wpAny_pure h
theorem pick_gen (xs : Array Value) (i k : Nat) : ((List.range k).filterMap fun (m : Nat) => xs[((i : Int) + (m : Int) * 1).toNat]?).toArray = ((xs.toList.drop i).take k).toArray := by
  have e : (fun (m : Nat) => xs[((i : Int) + (m : Int) * 1).toNat]?) = fun m => xs[i + m]? := by
    funext m
    have : ((i : Int) + (m : Int) * 1).toNat = i + m := by omega
    rw [this]
  rw [e]
  have := pick_run xs i k
  rw [List.filterMap_map] at this
  have e2 : ((fun x => xs[x]?) ∘ fun x => i + x) = fun m => xs[i + m]? := rfl
  rw [e2] at this
  rw [this]
theorem getItem_tuple_cut {t sl : Addr} {items : Array Value} {vl vu : Value} {lo hi : Option Int} {Q : Value → Shared → Prop} (ht : IsTup s.heap t items) (hs : s.heap.IsSliceOf sl vl vu .none) (pl : IsPart vl lo) (pu : IsPart vu hi)
    (hw : ¬ (sIx items.size 0 lo = 0 ∧ sIx items.size items.size hi = items.size))
    (h : Q (.ref s.heap.objs.size) { s with heap := s.heap.push { cls := .type "tuple", data := .seq ((items.toList.drop (sIx items.size 0 lo)).take (sIx items.size items.size hi - sIx items.size 0 lo)).toArray } })
    (hsz : items.size ≤ sizeLine) : wpAny (model prog w) A (getItem (.ref t) (.ref sl)) Q E s := by
  have htake : sizeOk (.seq ((items.toList.drop (sIx items.size 0 lo)).take (sIx items.size items.size hi - sIx items.size 0 lo)).toArray) := by
    show ((items.toList.drop (sIx items.size 0 lo)).take (sIx items.size items.size hi - sIx items.size 0 lo)).toArray.size ≤ sizeLine
    rw [List.size_toArray, List.length_take, List.length_drop, Array.length_toList]
    omega
  have hj : sIx items.size items.size hi ≤ items.size := sIx_le _ _ (Nat.le_refl _) hi
  obtain ⟨os, hos, hcs, hds⟩ := id hs
  have hTs : s.TypeIs (.ref sl) "slice" := ⟨os, hos, hcs⟩
  unfold getItem
  try with_reducible refine wpAny_holding ?_
  first | refine wpAny_bind (wpAny_pure ?_) | skip
  refine wpAny_bind (wpAny_sequenceKey ht.typeIs (by decide) ?_)
  refine wpAny_bind (wpAny_callSpecial?_slot (name := Str.ofString "__getitem__") ht.typeIs PyProof.Rows.slot_tuple_getitem
    (wpAny_call_entry PyProof.Rows.slot_tuple_getitem ht.typeIs entry_tuple_getitem ?_ (args_tuple_getitem _ _)))
  show wpAny _ _ (Builtin.Tuple.tupleItemsOf (.ref t) >>= _) _ _ s
  refine wpAny_bind (tupleItemsOf_ ht ?_)
  refine wpAny_bind (wpAny_typeOf hTs ?_)
  rw [if_pos (by decide)]
  refine wpAny_bind (sliceApplied_gen hs pl pu ?_)
  have hno : ¬ ((((sIx items.size 0 lo : Nat) : Int) == 0 && (1 : Int) == 1 && (sIx items.size items.size hi - sIx items.size 0 lo) == items.size) = true) := by
    intro q
    rw [Bool.and_eq_true, Bool.and_eq_true] at q
    have q1 : ((sIx items.size 0 lo : Nat) : Int) = 0 := eq_of_beq q.1.1
    have q2 : sIx items.size items.size hi - sIx items.size 0 lo = items.size := eq_of_beq q.2
    exact hw ⟨by omega, by omega⟩
  show wpAny _ _ (if (((sIx items.size 0 lo : Nat) : Int) == 0 && (1 : Int) == 1 && (sIx items.size items.size hi - sIx items.size 0 lo) == items.size) = true then _ else _) _ _ s
  rw [if_neg hno, pick_gen]
  first
    | exact wpAny_bind (m := Builtin.Tuple.tupleExact _) (wpAny_newObj_type (wpAny_pure ⟨_, rfl, wpAny_pure h⟩) htake)
    | exact wpAny_bind (m := Builtin.Tuple.tupleExact _) (wpAny_newObj_type (wpAny_bind (wpAny_pure (wpAny_pure ⟨_, rfl, wpAny_pure h⟩))) htake)
    | exact wpAny_bind (wpAny_bind (m := Builtin.Tuple.tupleExact _) (wpAny_newObj_type (wpAny_pure (wpAny_pure ⟨_, rfl, wpAny_pure h⟩)) htake))
    | exact wpAny_bind (wpAny_bind (m := Builtin.Tuple.tupleExact _) (wpAny_newObj_type (wpAny_pure ⟨_, rfl, wpAny_pure h⟩) htake))
end
end HT
namespace L2
open PySem PySem.Spec PyProof.Rows
abbrev TO := St → Hp → (Option Int → Hp → Prop) → Prop
def PO (X : Cx) (e : Option Expr) (t : TO) : Prop :=
  ∀ (pins : List (Addr × Obj)) (s : Shared) (σ : St) (H : Hp) (Q : Option Int → Hp → Prop), Inv X pins σ H s → t σ H Q →
    wpAny (model X.prog X.w) X.A (evalPart e X.env) (fun u s' => ∃ o H', Inv X pins σ H' s' ∧ IsPart u o ∧ Q o H') X.xe s
def tNoPart : TO := fun _ H Q => Q none H
def tPart (t : TE) : TO := fun σ H Q => t σ H fun x H1 => ∃ i, x = .int i ∧ Q (some i) H1
theorem intsAre_of {ns : List Int} : ∀ {us : List Value}, Vals (ns.map V.int) us → IntsAre us ns := by
  induction ns with
  | nil => intro us r; rw [List.map_nil] at r; cases r; exact .nil
  | cons n ns ih =>
    intro us r
    rw [List.map_cons] at r
    cases r with
    | cons r1 r2 =>
      obtain ⟨t, e⟩ := r1
      subst e
      exact .cons n t (ih r2)
section
variable {X : Cx} {e : Expr} {te : TE} {lo hi : Option Expr} {tl th : TO} {pos p2 : Pos}
theorem po_none : PO X none tNoPart := by
  intro pins s σ H Q I h
  rw [evalPart_none]
  exact wpAny_pure ⟨none, H, I, .none, h⟩
theorem po_some (h : PE X e te) : PO X (some e) (tPart te) := by
  intro pins s σ H Q I hw
  rw [evalPart_some]
  refine thn (h pins s σ H _ I hw) fun u s1 ⟨x, H1, I1, r1, q1⟩ => ?_
  obtain ⟨i, rfl, q⟩ := q1
  obtain ⟨t, rfl⟩ := r1
  exact ⟨some i, H1, I1, .int i t, q⟩
def SlR (X : Cx) (r : V → Option Int → Option Int → Hp → VK → Prop) : Prop :=
  ∀ (pins : List (Addr × Obj)) (s : Shared) (σ : St) (H : Hp) (x : V) (v vl vu : Value) (lo hi : Option Int) (sl : Addr) (Q : VK), Inv X pins σ H s → RelV x v → s.heap.IsSliceOf sl vl vu .none → IsPart vl lo → IsPart vu hi → r x lo hi H Q →
    ∃ T id, typeLookup (.type T) "__getitem__" = pure (some (.builtin id)) ∧ s.TypeIs v T ∧ wpAny (model X.prog X.w) X.A (getItem v (.ref sl)) (EP X pins σ Q) X.xe s
theorem SlR.or {r r' : V → Option Int → Option Int → Hp → VK → Prop} (h : SlR X r) (h' : SlR X r') : SlR X (fun x lo hi H Q => r x lo hi H Q ∨ r' x lo hi H Q) := by
  intro pins s σ H x v vl vu lo hi sl Q I rx hs pl pu q
  rcases q with q | q
  · exact h pins s σ H x v vl vu lo hi sl Q I rx hs pl pu q
  · exact h' pins s σ H x v vl vu lo hi sl Q I rx hs pl pu q
def tSl (r : V → Option Int → Option Int → Hp → VK → Prop) (te : TE) (tl th : TO) : TE := fun σ H Q => te σ H fun x H1 => tl σ H1 fun l H2 => th σ H2 fun u H3 => r x l u H3 Q
theorem pe_slice {r : V → Option Int → Option Int → Hp → VK → Prop} (hr : SlR X r) (he : PE X e te) (hl : PO X lo tl) (hu : PO X hi th) : PE X (.Subscript e (.Slice lo hi none p2) pos) (tSl r te tl th) := by
  intro pins s σ H Q I h
  refine Subscript_ (thn (he pins s σ H _ I h) fun v s1 ⟨x, H1, I1, r1, q1⟩ => ?_)
  refine wpAny_Slice (thn (hl pins s1 σ H1 _ I1 q1) fun vl s2 ⟨l, H2, I2, pl, q2⟩ => thn (hu pins s2 σ H2 _ I2 q2) fun vu s3 ⟨u, H3, I3, pu, q3⟩ => ?_)
  rw [evalPart_none]
  refine wpAny_pure ?_
  have I4 : Inv X pins σ H3 { s3 with heap := s3.heap.push { cls := .type "slice", data := .fields #[vl, vu, .none] } } := I3.kept (t' := s3.toks) fun b ob q => Heap.get?_push_of_some _ q
  obtain ⟨T, id, hT, ht, hg⟩ := hr pins { s3 with heap := s3.heap.push { cls := .type "slice", data := .fields #[vl, vu, .none] } } σ H3 x v vl vu l u s3.heap.objs.size Q I4 r1 (Heap.IsSliceOf.new ..) pl pu q3
  show wpAny (model X.prog X.w) X.A (subscriptTail e (.Slice lo hi none p2) v (.ref s3.heap.objs.size)) (EP X pins σ Q) X.xe { s3 with heap := s3.heap.push { cls := .type "slice", data := .fields #[vl, vu, .none] } }
  exact tail_any (ops := [.ref s3.heap.objs.size, v]) ht hT hg (by with_unfolding_all rfl)
def cutV (xs : List V) (lo hi : Option Int) : List V := (xs.drop (HT.sIx xs.length 0 lo)).take (HT.sIx xs.length xs.length hi - HT.sIx xs.length 0 lo)
theorem cutV_length (xs : List V) (lo hi : Option Int) : (cutV xs lo hi).length ≤ xs.length := by
  unfold cutV
  rw [List.length_take, List.length_drop]
  omega
def rSlT (K : PySem.W.Frag) : V → Option Int → Option Int → Hp → VK → Prop := fun x lo hi H Q => ∃ a xs, x = .ref a ∧ SqT K H a xs ∧
  ¬ (HT.sIx xs.length 0 lo = 0 ∧ HT.sIx xs.length xs.length hi = xs.length) ∧ ∀ p, H p = none → Q (.ref p) (upd H p (.tup (cutV xs lo hi)))
theorem sl_tup : SlR X (rSlT X.K) := by
  intro pins s σ H x v vl vu lo hi sl Q I rx hs pl pu h
  obtain ⟨a, xs, rfl, hx, hw, q⟩ := h
  cases rx
  obtain ⟨its, r, ht, hz⟩ := I.tuple hx
  have hlen : its.toArray.size = xs.length := by rw [List.size_toArray]; exact r.length.symm
  refine ⟨"tuple", _, PyProof.Rows.slot_tuple_getitem.lookup, ht.typeIs, ?_⟩
  refine HT.getItem_tuple_cut ht hs pl pu (by rw [hlen]; exact hw) ?_ (by rw [hlen]; exact hz)
  rw [hlen]
  refine ⟨.ref s.heap.objs.size, _, I.laid (t' := s.toks) (o := .tup (cutV xs lo hi)) (fun b ob q => Heap.get?_push_of_some _ q) (Nat.le_refl _) ?_, rfl, q _ (I.hok.fresh (Nat.le_refl _))⟩
  exact ⟨Nat.le_trans (cutV_length xs lo hi) hz, _, (r.drop (HT.sIx xs.length 0 lo)).take (HT.sIx xs.length xs.length hi - HT.sIx xs.length 0 lo), TupN.new _ _⟩
def rCatT (K : PySem.W.Frag) : R2 := fun x y H Q => ∃ a b xs ys, x = .ref a ∧ y = .ref b ∧ SqT K H a xs ∧ SqT K H b ys ∧ xs ≠ [] ∧ xs.length + ys.length ≤ sizeLine ∧
  (ys = [] → Q (.ref a) H) ∧ (ys ≠ [] → ∀ p, H p = none → Q (.ref p) (upd H p (.tup (xs ++ ys))))
theorem Vals.nil_iff {xs : List V} {us : List Value} (r : Vals xs us) : us = [] ↔ xs = [] := by
  cases r with
  | nil => simp
  | cons _ _ => simp
theorem op_catT : OpR X (binaryOp .Add) (rCatT X.K) := by
  intro pins s σ H x y v u Q I rx ry h
  obtain ⟨a, b, xs, ys, rfl, rfl, ha, hb, hx, hz, q1, q2⟩ := h
  cases rx
  cases ry
  obtain ⟨its, r1, p1, _⟩ := I.tuple ha
  obtain ⟨its2, r2, p2, _⟩ := I.tuple hb
  refine HT.cat_tup p1 p2 (fun z => hx (r1.nil_iff.mp z)) (fun z => ⟨.ref a, H, I, rfl, q1 (r2.nil_iff.mp z)⟩) (fun z => ?_) (by rw [← r1.length, ← r2.length]; exact hz)
  refine ⟨.ref s.heap.objs.size, _, I.laid (t' := s.toks) (o := .tup (xs ++ ys)) (fun b ob q => Heap.get?_push_of_some _ q) (Nat.le_refl _) ?_, rfl, q2 (fun w => z (r2.nil_iff.mpr w)) _ (I.hok.fresh (Nat.le_refl _))⟩
  exact ⟨by rw [List.length_append]; exact hz, _, r1.append r2, TupN.new _ _⟩
end
end L2
namespace L2
open PySem PySem.Spec PyProof.Rows
def ixN (n : Nat) (i : Int) : Option Nat := if 0 ≤ i then (if i < n then some i.toNat else none) else if -(n : Int) ≤ i then some (i + n).toNat else none
def atI {α : Type} (xs : List α) (i : Int) : Option α := (ixN xs.length i).bind fun j => xs[j]?
theorem ixN_seq {n : Nat} {i : Int} {j : Nat} (h : ixN n i = some j) : seqIndex? i n = some j ∧ j < n ∧ -(n : Int) ≤ i ∧ i < n := by
  unfold ixN at h
  by_cases h0 : 0 ≤ i
  · rw [if_pos h0] at h
    by_cases h1 : i < n
    · rw [if_pos h1] at h
      have e : i.toNat = j := Option.some.inj h
      exact ⟨by rw [seqIndex_of h0 h1, e], by omega, by omega, h1⟩
    · rw [if_neg h1] at h; cases h
  · rw [if_neg h0] at h
    by_cases h1 : -(n : Int) ≤ i
    · rw [if_pos h1] at h
      have e : (i + n).toNat = j := Option.some.inj h
      exact ⟨by rw [seqIndex_neg (by omega) h1, e], by omega, h1, by omega⟩
    · rw [if_neg h1] at h; cases h
theorem atI_get {α : Type} {xs : List α} {i : Int} {v : α} (h : atI xs i = some v) : ∃ j, seqIndex? i xs.length = some j ∧ xs[j]? = some v ∧ j < xs.length ∧ -(xs.length : Int) ≤ i ∧ i < xs.length := by
  unfold atI at h
  cases e : ixN xs.length i with
  | none => rw [e] at h; cases h
  | some j =>
    rw [e] at h
    obtain ⟨h1, h2, h3, h4⟩ := ixN_seq e
    exact ⟨j, h1, h, h2, h3, h4⟩
theorem atI_nat {α : Type} {xs : List α} {j : Nat} {v : α} (h : xs[j]? = some v) : atI xs (j : Int) = some v := by
  have hj : j < xs.length := (List.getElem?_eq_some_iff.mp h).1
  have e : ixN xs.length (j : Int) = some j := by
    unfold ixN
    rw [if_pos (by omega), if_pos (by omega)]; simp
  unfold atI; rw [e]; exact h
def PlainIx (b : Expr) : Prop := ∀ o i, subscripted b false o i = operate [o, i] (getItem o i)
def IxR (X : Cx) (r : R2) : Prop :=
  ∀ (value slice : Expr) (pins : List (Addr × Obj)) (s : Shared) (σ : St) (H : Hp) (x y : V) (v u : Value) (Q : VK), Inv X pins σ H s → RelV x v → RelV y u → r x y H Q →
    subscripted slice false v u = operate [v, u] (getItem v u) → wpAny (model X.prog X.w) X.A (subscriptTail value slice v u) (EP X pins σ Q) X.xe s
def MtR (X : Cx) (id : String) (r : V → List V → Hp → VK → Prop) : Prop :=
  ∀ (pins : List (Addr × Obj)) (s : Shared) (σ : St) (H : Hp) (x : V) (xs : List V) (v : Value) (us : List Value) (Q : VK), Inv X pins σ H s → RelV x v → Vals xs us → r x xs H Q →
    wpAny (model X.prog X.w) X.A (call (.builtin id) (v :: us)) (EP X pins σ Q) X.xe s
section
variable {X : Cx} {a b : Expr} {ta tb : TE} {pos : Pos}
theorem IxR.or {r r' : R2} (h : IxR X r) (h' : IxR X r') : IxR X (fun x y H Q => r x y H Q ∨ r' x y H Q) := by
  intro value slice pins s σ H x y v u Q I rx ry q hs
  rcases q with q | q
  · exact h value slice pins s σ H x y v u Q I rx ry q hs
  · exact h' value slice pins s σ H x y v u Q I rx ry q hs
theorem MtR.or {id : String} {r r' : V → List V → Hp → VK → Prop} (h : MtR X id r) (h' : MtR X id r') : MtR X id (fun x xs H Q => r x xs H Q ∨ r' x xs H Q) := by
  intro pins s σ H x xs v us Q I rx rs q
  rcases q with q | q
  · exact h pins s σ H x xs v us Q I rx rs q
  · exact h' pins s σ H x xs v us Q I rx rs q
theorem pe_ix {r : R2} (hr : IxR X r) (ha : PE X a ta) (hb : PE X b tb) (hs : PlainIx b) : PE X (.Subscript a b pos) (tOp r ta tb) := by
  intro pins s σ H Q I h
  exact Subscript_ (binT ha hb I h fun v u s2 x y H2 I2 rx ry q => hr a b pins s2 σ H2 x y v u Q I2 rx ry q (hs _ _))
def rIxL (K : PySem.W.Frag) : R2 := fun x y H Q => ∃ p xs i v, x = .ref p ∧ y = .int i ∧ SqL K H p xs ∧ atI xs i = some v ∧ Q v H
def rIxT (K : PySem.W.Frag) : R2 := fun x y H Q => ∃ p xs i v, x = .ref p ∧ y = .int i ∧ SqT K H p xs ∧ atI xs i = some v ∧ Q v H
theorem ix_list : IxR X (rIxL X.K) := by
  intro value slice pins s σ H x y v u Q I rx ry h hs
  obtain ⟨p, xs, i, z, rfl, rfl, hq, he, q⟩ := h
  cases rx
  obtain ⟨t, rfl⟩ := ry
  obtain ⟨its, r, pl, hz⟩ := I.list hq
  obtain ⟨j, h1, h2, h3, h4, h5⟩ := atI_get he
  obtain ⟨w, ew, rw'⟩ := r.get h2
  have hl := r.length
  have hn := line63
  have fin : EP X pins σ Q w s := ⟨z, H, I, rw', q⟩
  by_cases h0 : 0 ≤ i
  · have hj : i.toNat = j := by
      rw [seqIndex_of h0 h5] at h1
      exact Option.some.inj h1
    exact item_listR pl.isList h0 (by omega) (by rw [hj]; simpa using ew) fin hs
  · have hj : (i + (its.toArray.size : Int)).toNat = j := by
      rw [seqIndex_neg (by omega) h4] at h1
      rw [List.size_toArray, ← hl]
      exact Option.some.inj h1
    exact subscriptTail_builtinR (x := w) pl.isList.typeIs slot_list_getitem.lookup
      (wpAny_getItem_list_neg (Q := fun r s' => r = w ∧ EP X pins σ Q r s') pl.isList (by omega) (by rw [List.size_toArray] <;> omega) (by omega) (by rw [hj]; simpa using ew) ⟨rfl, fin⟩) hs
theorem ix_tup : IxR X (rIxT X.K) := by
  intro value slice pins s σ H x y v u Q I rx ry h hs
  obtain ⟨p, xs, i, z, rfl, rfl, hq, he, q⟩ := h
  cases rx
  obtain ⟨t, rfl⟩ := ry
  obtain ⟨its, r, pl, hz⟩ := I.tuple hq
  obtain ⟨j, h1, h2, h3, h4, h5⟩ := atI_get he
  obtain ⟨w, ew, rw'⟩ := r.get h2
  have hl := r.length
  have hn := line63
  have fin : EP X pins σ Q w s := ⟨z, H, I, rw', q⟩
  exact subscriptTail_builtinR (x := w) pl.typeIs slot_tuple_getitem.lookup
    (getItem_tuple (j := j) (Q := fun r s' => r = w ∧ EP X pins σ Q r s') pl (by omega) (by omega) (by rw [List.size_toArray, ← hl]; exact h1) (by simpa using ew) ⟨rfl, fin⟩) hs
theorem mapSeq_set (its : List Value) (n j : Nat) (u : Value) : Obj.mapSeq (·.setIfInBounds j u) { cls := .type "list", data := .seq its.toArray n } = { cls := .type "list", data := .seq (its.set j u).toArray n } := by
  simp [Obj.mapSeq]
theorem Inv.lst {pins : List (Addr × Obj)} {σ : St} {H : Hp} {s : Shared} {p : Addr} {xs : List V} (I : Inv X pins σ H s) (h : H p = some (.lst xs)) :
    ∃ (its : List Value) (n : Nat), Vals xs its ∧ s.heap.get? p = some { cls := .type "list", data := .seq its.toArray n } ∧ xs.length ≤ sizeLine := by
  obtain ⟨z, its, n, r, e⟩ := I.hok p _ h
  exact ⟨its, n, r, e, z⟩
theorem Inv.lstUpd {pins : List (Addr × Obj)} {σ : St} {H : Hp} {s : Shared} {p : Addr} {xs ys : List V} {its its' : List Value} {n n' : Nat} {f : Obj → Obj} (I : Inv X pins σ H s) (h : H p = some (.lst xs))
    (ho : s.heap.get? p = some { cls := .type "list", data := .seq its.toArray n }) (hf : f { cls := .type "list", data := .seq its.toArray n } = { cls := .type "list", data := .seq its'.toArray n' }) (r : Vals ys its') (hz : ys.length ≤ sizeLine) (t : Nat) :
    Inv X pins σ (upd H p (.lst ys)) { s with heap := s.heap.update p f, toks := t } := by
  have e : (s.heap.update p f).get? p = some { cls := .type "list", data := .seq its'.toArray n' } := by
    rw [Heap.get?_update_self f ho (by rw [hf] <;> rfl), hf]
  refine I.write (x := p) (e := p) (by rw [h]; trivial) (.inl rfl) (fun b u hb q => (Heap.get?_update_other _ _ (Ne.symm hb)).trans q) ⟨_, e⟩ ?_
  exact ⟨hz, its', n', r, e⟩
def rSetL : V → V → V → Hp → (Hp → Prop) → Prop := fun o i v H Q => ∃ p xs k j, o = .ref p ∧ i = .int k ∧ H p = some (.lst xs) ∧ ixN xs.length k = some j ∧ Q (upd H p (.lst (xs.set j v)))
theorem set_list : PSet X rSetL := by
  intro pins s σ H o i v ov iv u Q I ro ri rv h
  obtain ⟨p, xs, k, j, rfl, rfl, hp, hj, q⟩ := h
  cases ro
  obtain ⟨t, rfl⟩ := ri
  obtain ⟨its, n, r, ho, hz⟩ := I.lst hp
  obtain ⟨h1, h2, h3, h4⟩ := ixN_seq hj
  have hl := r.length
  have hn := line63
  have I' : Inv X pins σ (upd H p (.lst (xs.set j v))) { s with heap := s.heap.update p (Obj.mapSeq (·.setIfInBounds j u)) } :=
    I.lstUpd hp ho (mapSeq_set its n j u) (r.set rv j) (by rw [List.length_set]; exact hz) s.toks
  by_cases h0 : 0 ≤ k
  · have hk : k.toNat = j := by
      rw [seqIndex_of h0 h4] at h1
      exact Option.some.inj h1
    exact PySem.W.ki_setAt ho h0 (by omega) (by rw [List.size_toArray, ← hl]; exact h4) (by rw [hk]; exact ⟨_, I', q⟩)
  · have hk : (k + (its.toArray.size : Int)).toNat = j := by
      rw [seqIndex_neg (by omega) h3] at h1
      rw [List.size_toArray, ← hl]
      exact Option.some.inj h1
    exact PySem.W.ki_setBack ho (by omega) (by rw [List.size_toArray, ← hl]; exact h3) (by omega) (by rw [hk]; exact ⟨_, I', q⟩)
theorem slice_bounds (lo hi : Option Int) (n : Nat) : (sliceBounds lo hi none n).1 = ((HT.sIx n 0 lo : Nat) : Int) ∧ (sliceBounds lo hi none n).2.1 = ((HT.sIx n n hi : Nat) : Int) ∧ (sliceBounds lo hi none n).2.2 = 1 := by
  refine ⟨?_, ?_, rfl⟩
  · cases lo with
    | none => simp [sliceBounds, HT.sIx]
    | some i =>
      simp only [sliceBounds, HT.sIx, Option.getD_none, show (1 : Int) > 0 by decide, if_true]
      by_cases h : i < 0
      · simp only [h, if_true] <;> omega
      · simp only [h, if_false] <;> omega
  · cases hi with
    | none => simp [sliceBounds, HT.sIx]
    | some i =>
      simp only [sliceBounds, HT.sIx, Option.getD_none, show (1 : Int) > 0 by decide, if_true]
      by_cases h : i < 0
      · simp only [h, if_true] <;> omega
      · simp only [h, if_false] <;> omega
theorem slicePick_cut (its : List Value) (lo hi : Option Int) : slicePick its.toArray lo hi none = ((its.drop (HT.sIx its.length 0 lo)).take (HT.sIx its.length its.length hi - HT.sIx its.length 0 lo)).toArray := by
  obtain ⟨h1, h2, h3⟩ := slice_bounds lo hi its.toArray.size
  unfold slicePick
  rw [h1, h2, h3]
  simp only [sliceRange_one, pick_run, List.size_toArray] <;> rfl
def rSlL (K : PySem.W.Frag) : V → Option Int → Option Int → Hp → VK → Prop := fun x lo hi H Q => ∃ a xs, x = .ref a ∧ SqL K H a xs ∧ ∀ p, H p = none → Q (.ref p) (upd H p (.lst (cutV xs lo hi)))
theorem sl_list : SlR X (rSlL X.K) := by
  intro pins s σ H x v vl vu lo hi sl Q I rx hs pl pu h
  obtain ⟨a, xs, rfl, hx, q⟩ := h
  cases rx
  obtain ⟨its, r, ht, hz⟩ := I.list hx
  have hlen := r.length
  refine ⟨"list", _, slot_list_getitem.lookup, ht.isList.typeIs, ?_⟩
  refine wpAny_getItem_list_slice ht.isList hs pl pu .none (by simp) ?_ (by rw [List.size_toArray] <;> omega)
  rw [slicePick_cut, ← hlen]
  refine ⟨.ref s.heap.objs.size, _, I.laid (t' := s.toks) (o := .lst (cutV xs lo hi)) (fun b ob q => Heap.get?_push_of_some _ q) (Nat.le_refl _) ?_, rfl, q _ (I.hok.fresh (Nat.le_refl _))⟩
  exact ⟨Nat.le_trans (cutV_length xs lo hi) hz, _, 0, (r.drop (HT.sIx xs.length 0 lo)).take (HT.sIx xs.length xs.length hi - HT.sIx xs.length 0 lo), Heap.get?_push_size _ rfl⟩
def flatV : V → Bool
  | .non => true
  | .bl _ => true
  | .int _ => true
  | .str _ => true
  | _ => false
def eqV : V → V → Bool
  | .non, .non => true
  | .bl a, .bl b => a == b
  | .bl a, .int b => (if a then 1 else 0) == b
  | .int a, .bl b => a == (if b then 1 else 0)
  | .int a, .int b => a == b
  | .str a, .str b => a == b
  | _, _ => false
theorem eqAt_V {A : Around} {s : Shared} {y x : V} {u v : Value} (ry : RelV y u) (rx : RelV x v) (fy : flatV y = true) (fx : flatV x = true) : SeqAt.EqAt A s u v (eqV y x) := by
  cases y with
  | non =>
    cases ry
    cases x with
    | non => cases rx; exact SeqAt.EqAt.same _
    | bl b => cases rx; exact SeqAt.EqAt.none_bool b
    | int b => obtain ⟨t, rfl⟩ := rx; exact SeqAt.EqAt.none_int b t
    | str b => obtain ⟨t, rfl⟩ := rx; exact SeqAt.EqAt.none_str b t
    | _ => exact absurd (show false = true from fx) Bool.false_ne_true
  | bl a =>
    cases ry
    cases x with
    | non => cases rx; exact SeqAt.EqAt.bool_none a
    | bl b => cases rx; exact SeqAt.EqAt.bool_bool a b
    | int b => obtain ⟨t, rfl⟩ := rx; exact SeqAt.EqAt.bool_int a b t
    | str b => obtain ⟨t, rfl⟩ := rx; exact SeqAt.EqAt.bool_str a b t
    | _ => exact absurd (show false = true from fx) Bool.false_ne_true
  | int a =>
    obtain ⟨t', rfl⟩ := ry
    cases x with
    | non => cases rx; exact SeqAt.EqAt.int_none a t'
    | bl b => cases rx; exact SeqAt.EqAt.int_bool a t' b
    | int b => obtain ⟨t, rfl⟩ := rx; exact SeqAt.EqAt.int_int a t' b t
    | str b => obtain ⟨t, rfl⟩ := rx; exact SeqAt.EqAt.int_str a t' b t
    | _ => exact absurd (show false = true from fx) Bool.false_ne_true
  | str a =>
    obtain ⟨t', rfl⟩ := ry
    cases x with
    | non => cases rx; exact SeqAt.EqAt.str_none a t'
    | bl b => cases rx; exact SeqAt.EqAt.str_bool a t' b
    | int b => obtain ⟨t, rfl⟩ := rx; exact SeqAt.EqAt.str_int a t' b t
    | str b => obtain ⟨t, rfl⟩ := rx; exact SeqAt.EqAt.str_str a t' b t
    | _ => exact absurd (show false = true from fx) Bool.false_ne_true
  | _ => exact absurd (show false = true from fy) Bool.false_ne_true
def eqU (x : V) (u : Value) : Bool := match u with
  | .none => eqV .non x
  | .bool b => eqV (.bl b) x
  | .int i _ => eqV (.int i) x
  | .str z _ => eqV (.str z) x
  | _ => false
theorem eqU_of {x y : V} {u : Value} (r : RelV y u) (f : flatV y = true) : eqU x u = eqV y x := by
  cases y with
  | non => cases r; rfl
  | bl b => cases r; rfl
  | int i => obtain ⟨t, rfl⟩ := r; rfl
  | str z => obtain ⟨t, rfl⟩ := r; rfl
  | _ => exact absurd (show false = true from f) Bool.false_ne_true
theorem any_eqU {x : V} : ∀ {xs : List V} {us : List Value}, Vals xs us → xs.all flatV = true → us.any (eqU x) = xs.any fun y => eqV y x
  | _, _, .nil, _ => rfl
  | y :: xs, u :: us, .cons r t, f => by
    rw [List.all_cons, Bool.and_eq_true] at f
    rw [List.any_cons, List.any_cons, eqU_of r f.1, any_eqU t f.2]
theorem mem_eqAt {A : Around} {s : Shared} {x : V} {v : Value} (rx : RelV x v) (fx : flatV x = true) : ∀ {xs : List V} {us : List Value}, Vals xs us → xs.all flatV = true → ∀ u ∈ us, SeqAt.EqAt A s u v (eqU x u)
  | _, _, .nil, _ => fun u hu => by cases hu
  | y :: xs, u :: us, .cons r t, f => fun u' hu => by
    rw [List.all_cons, Bool.and_eq_true] at f
    rcases List.mem_cons.mp hu with rfl | hu
    · rw [eqU_of r f.1]; exact eqAt_V r rx f.1 fx
    · exact mem_eqAt rx fx t f.2 u' hu
def inV (x : V) (xs : List V) : Bool := xs.any fun y => eqV y x
def rIn (K : PySem.W.Frag) (neg : Bool) : R2 := fun x y H Q => ∃ p xs, y = .ref p ∧ (SqL K H p xs ∨ SqT K H p xs) ∧ flatV x = true ∧ xs.all flatV = true ∧ Q (.bl (if neg then !inV x xs else inV x xs)) H
theorem op_in_seq : OpR X (compareOp .In) (rIn X.K false) := by
  intro pins s σ H x y v u Q I rx ry h
  obtain ⟨p, xs, rfl, hq, fx, fs, q⟩ := h
  cases ry
  rcases hq with hq | hq
  · obtain ⟨its, r, pl, hz⟩ := I.list hq
    refine SeqAt.in_listAt (eqU x) pl.isList (fun w hw => mem_eqAt rx fx r fs w (by simpa using hw)) ⟨.bl _, H, I, rfl, ?_⟩
    rw [show its.toArray.any (eqU x) = its.any (eqU x) by simp, any_eqU r fs]
    exact q
  · obtain ⟨its, r, pl, hz⟩ := I.tuple hq
    refine SeqAt.in_tupleAt (eqU x) pl (fun w hw => mem_eqAt rx fx r fs w (by simpa using hw)) ⟨.bl _, H, I, rfl, ?_⟩
    rw [show its.toArray.any (eqU x) = its.any (eqU x) by simp, any_eqU r fs]
    exact q
theorem op_notIn_seq : OpR X (compareOp .NotIn) (rIn X.K true) := by
  intro pins s σ H x y v u Q I rx ry h
  obtain ⟨p, xs, rfl, hq, fx, fs, q⟩ := h
  cases ry
  rcases hq with hq | hq
  · obtain ⟨its, r, pl, hz⟩ := I.list hq
    refine SeqAt.notIn_listAt (eqU x) pl.isList (fun w hw => mem_eqAt rx fx r fs w (by simpa using hw)) ⟨.bl _, H, I, rfl, ?_⟩
    rw [show its.toArray.any (eqU x) = its.any (eqU x) by simp, any_eqU r fs]
    exact q
  · obtain ⟨its, r, pl, hz⟩ := I.tuple hq
    refine SeqAt.notIn_tupleAt (eqU x) pl (fun w hw => mem_eqAt rx fx r fs w (by simpa using hw)) ⟨.bl _, H, I, rfl, ?_⟩
    rw [show its.toArray.any (eqU x) = its.any (eqU x) by simp, any_eqU r fs]
    exact q
theorem call_len_seq : CallR X (.builtin "len") (fun xs H Q => ∃ p ys, xs = [.ref p] ∧ (SqL X.K H p ys ∨ SqT X.K H p ys) ∧ Q (.int ys.length) H) := by
  intro pins s σ H xs us Q I r h
  obtain ⟨p, ys, rfl, hq, q⟩ := h
  obtain ⟨u, rfl, rx⟩ := vals1 r
  cases rx
  have hn := line63
  rcases hq with hq | hq
  · obtain ⟨its, r', pl, hz⟩ := I.list hq
    have hlen := r'.length
    exact Calls.call_len_list pl.isList (by simp only [List.size_toArray] <;> omega) ⟨.int ys.length, H, I.tok _, ⟨s.toks + 1, by rw [List.size_toArray, hlen]⟩, q⟩
  · obtain ⟨its, r', pl, hz⟩ := I.tuple hq
    have hlen := r'.length
    exact len_tuple pl (by simp only [List.size_toArray] <;> omega) ⟨.int ys.length, H, I.tok _, ⟨s.toks + 1, by rw [List.size_toArray, hlen]⟩, q⟩
theorem CallR.or {f : Value} {r r' : List V → Hp → VK → Prop} (h : CallR X f r) (h' : CallR X f r') : CallR X f (fun xs H Q => r xs H Q ∨ r' xs H Q) := by
  intro pins s σ H xs us Q I rs q
  rcases q with q | q
  · exact h pins s σ H xs us Q I rs q
  · exact h' pins s σ H xs us Q I rs q
theorem call_list_of : CallR X (.type "list") (fun xs H Q => ∃ p ys, xs = [.ref p] ∧ (SqL X.K H p ys ∨ SqT X.K H p ys) ∧ ∀ l, H l = none → Q (.ref l) (upd H l (.lst ys))) := by
  intro pins s σ H xs us Q I r h
  obtain ⟨p, ys, rfl, hq, q⟩ := h
  obtain ⟨u, rfl, rx⟩ := vals1 r
  cases rx
  have fin : ∀ (its : List Value), Vals ys its → ys.length ≤ sizeLine → ∀ (h' : Heap) (c' : Nat), (∀ b o', s.heap.get? b = some o' → h'.get? b = some o') →
      h'.get? s.heap.objs.size = some { cls := .type "list", dict := none, data := .seq its.toArray c', slots := #[] } → EP X pins σ Q (.ref s.heap.objs.size) { s with heap := h' } := fun its r' hz h' c' kp e =>
    ⟨.ref s.heap.objs.size, _, I.laid (t' := s.toks) kp (Nat.le_refl _) (show ObjOk X.prog X.w _ h' _ (.lst ys) from ⟨hz, its, c', r', e⟩), rfl, q _ (I.hok.fresh (Nat.le_refl _))⟩
  rcases hq with hq | hq
  · obtain ⟨its, r', pl, hz⟩ := I.list hq
    have hlen := r'.length
    obtain ⟨o, ho, hc, n, hd⟩ := pl.isList
    exact call_list_seq p (.inl rfl) ho hc hd (fun h' c' kp e => fin its r' hz h' c' kp e) (by simp only [List.size_toArray] <;> omega)
  · obtain ⟨its, r', pl, hz⟩ := I.tuple hq
    have hlen := r'.length
    obtain ⟨o, ho, hc, n, hd⟩ := pl
    exact call_list_seq p (.inr rfl) ho hc hd (fun h' c' kp e => fin its r' hz h' c' kp e) (by simp only [List.size_toArray] <;> omega)
theorem call_tuple_of : CallR X (.type "tuple") (fun xs H Q => ∃ p ys, xs = [.ref p] ∧ ((SqL X.K H p ys ∧ ∀ l, H l = none → Q (.ref l) (upd H l (.tup ys))) ∨ (SqT X.K H p ys ∧ Q (.ref p) H))) := by
  intro pins s σ H xs us Q I r h
  obtain ⟨p, ys, rfl, h⟩ := h
  obtain ⟨u, rfl, rx⟩ := vals1 r
  cases rx
  rcases h with ⟨hq, q⟩ | ⟨hq, q⟩
  · obtain ⟨its, r', pl, hz⟩ := I.list hq
    have hlen := r'.length
    refine call_tuple_list pl.isList (fun h' kp => ?_) (by simp only [List.size_toArray] <;> omega)
    have I1 : Inv X pins σ H { s with heap := h' } := I.kept (t' := s.toks) kp
    have I2 : Inv X pins σ (upd H h'.objs.size (.tup ys)) { s with heap := h'.push { cls := .type "tuple", data := .seq its.toArray } } :=
      I1.laid (t' := s.toks) (fun b o e => Heap.get?_push_of_some _ e) (Nat.le_refl _) (show ObjOk X.prog X.w _ _ _ (.tup ys) from ⟨hz, its, r', TupN.new _ _⟩)
    exact ⟨.ref h'.objs.size, _, I2, rfl, q _ (I1.hok.fresh (Nat.le_refl _))⟩
  · obtain ⟨its, r', pl, hz⟩ := I.tuple hq
    exact call_tuple_same pl ⟨.ref p, H, I, rfl, q⟩
def tyV (K : PySem.W.Frag) (T : String) (x : V) (H : Hp) : Prop := match x with
  | .str _ => T = "str"
  | .int _ => T = "int"
  | .ref p => (T = "list" ∧ ∃ xs, SqL K H p xs) ∨ (T = "tuple" ∧ ∃ o, K.lookup p = some o ∧ o.cls = .type "tuple" ∧ o.dict = none) ∨
      (T = "dict" ∧ ((∃ kvs, H p = some (.dK kvs)) ∨ ∃ kvs, H p = some (.dT kvs))) ∨ (T = "set" ∧ ∃ S n, H p = some (.set S n))
  | _ => False
theorem tyV_is {pins : List (Addr × Obj)} {σ : St} {H : Hp} {s : Shared} {T : String} {x : V} {v : Value} (I : Inv X pins σ H s) (r : RelV x v) (ty : tyV X.K T x H) :
    s.TypeIs v T ∧ ∀ a, v = .ref a → ∃ ob, s.heap.get? a = some ob ∧ ob.dict = none := by
  cases x with
  | str z =>
    obtain ⟨t, rfl⟩ := r
    cases (show T = "str" from ty)
    exact ⟨typeIs_str s z t, fun _ e => nomatch e⟩
  | int i =>
    obtain ⟨t, rfl⟩ := r
    cases (show T = "int" from ty)
    exact ⟨typeIs_int s i t, fun _ e => nomatch e⟩
  | ref p =>
    cases r
    rcases ty with ⟨rfl, xs, hq⟩ | ⟨rfl, o, hk, hc, hd⟩ | ⟨rfl, hk⟩ | ⟨rfl, S, n, hk⟩
    · obtain ⟨its, _, pl, _⟩ := I.list hq
      refine ⟨pl.isList.typeIs, fun a e => ?_⟩
      cases e
      obtain ⟨o, n, e, c, hd, _⟩ := pl
      exact ⟨o, e, hd⟩
    · refine ⟨⟨o, I.kIn p o hk, hc⟩, fun a e => ?_⟩
      cases e
      exact ⟨o, I.kIn _ o hk, hd⟩
    · have z : ∃ o, s.heap.get? p = some o ∧ o.ExactDict := by
        rcases hk with ⟨kvs, hk⟩ | ⟨kvs, hk⟩
        · obtain ⟨_, _, _, _, o, _, _, e, ex, _⟩ := I.hok p _ hk
          exact ⟨o, e, ex⟩
        · obtain ⟨_, _, _, _, o, _, _, e, ex, _⟩ := I.hok p _ hk
          exact ⟨o, e, ex⟩
      obtain ⟨o, e, ex⟩ := z
      refine ⟨⟨o, e, ex.1⟩, fun a e2 => ?_⟩
      cases e2
      exact ⟨o, e, ex.2.1⟩
    · obtain ⟨o, _, _, _, e, ex, _⟩ := I.hok p _ hk
      refine ⟨⟨o, e, ex.1⟩, fun a e2 => ?_⟩
      cases e2
      exact ⟨o, e, ex.2.1⟩
  | _ => exact False.elim ty
def tBM0 (K : PySem.W.Frag) (T : String) (r : V → List V → Hp → VK → Prop) (to : TE) : TE := fun σ H Q => to σ H fun x H1 => tyV K T x H1 ∧ r x [] H1 Q
def tBM (K : PySem.W.Frag) (T : String) (r : V → List V → Hp → VK → Prop) (to : TE) (t : TA) : TE := fun σ H Q => to σ H fun x H1 => tyV K T x H1 ∧ t σ H1 fun xs H2 => r x xs H2 Q
variable {o e : Expr} {es : List Expr} {to : TE} {t : TA} {name : Str} {apos cpos : Pos} {T id : String} {r : V → List V → Hp → VK → Prop}
theorem pe_bm0 (pa : PlainAttrs T) (slot : Slot T name id) (hty : typeOf (.builtin id) = pure (.type "method_descriptor")) (hm : MtR X id r) (ho : PE X o to)
    (hbase : attributeBase o name X.env (eval o X.env) = eval o X.env := by rfl) (hline : (apos.endLine == cpos.line) = true := by rfl) : PE X (.Call (.Attribute o name apos) [] [] cpos) (tBM0 X.K T r to) := by
  intro pins s σ H Q I h
  refine wpAny_Call_method0_late hbase hline (thn (ho pins s σ H _ I h) fun v s1 ⟨x, H1, I1, r1, ty, q1⟩ => ?_)
  obtain ⟨h1, h2⟩ := tyV_is I1 r1 ty
  exact ⟨T, id, pa, slot, hty, h1, h2, Calls.callWith_builtin rfl (PySem.evalArgs_none (hm pins s1 σ H1 x [] v [] Q I1 r1 .nil q1))⟩
theorem pe_bm (pa : PlainAttrs T) (slot : Slot T name id) (hty : typeOf (.builtin id) = pure (.type "method_descriptor")) (hm : MtR X id r) (ho : PE X o to) (ha : PA X (e :: es) t)
    (hbase : attributeBase o name X.env (eval o X.env) = eval o X.env := by rfl)
    (hfew : ((backTo cpos (starEach (e :: es) X.env)).all (fun x => !x.1) && (backToKw cpos (keywordEach [] X.env)).all (fun x => x.1.isSome)
      && decide ((e :: es).length + ([] : List Keyword).length + (if ([] : List Keyword).isEmpty then 0 else 1) < 30)) = true := by rfl)
    (hline : (apos.endLine == cpos.line) = true := by rfl) (hs : starEach (e :: es) X.env = (false, eval e X.env) :: starEach es X.env := by rfl) (hplain : (backTo cpos (starEach es X.env)).any (·.1) = false := by rfl) :
    PE X (.Call (.Attribute o name apos) (e :: es) [] cpos) (tBM X.K T r to t) := by
  intro pins s σ H Q I h
  refine wpAny_Call_method_late hbase hfew hline rfl (thn (ho pins s σ H _ I h) fun v s1 ⟨x, H1, I1, r1, ty, q1⟩ => ?_)
  obtain ⟨h1, h2⟩ := tyV_is I1 r1 ty
  refine ⟨T, id, pa, slot, hty, h1, h2, ?_⟩
  have hA := ha cpos pins s1 σ H1 _ I1 q1
  rw [hs] at hA ⊢
  refine Calls.callWith_builtin (by show (false || (backTo cpos (starEach es X.env)).any (·.1)) = false; rw [hplain] <;> rfl) (Calls.evalArgs_plain ?_)
  exact thn hA fun us s2 ⟨vs, H2, I2, r2, q2⟩ => hm pins s2 σ H2 x vs v us Q I2 r1 r2 q2
end
end L2
namespace L2
open PySem PySem.Spec PyProof.Rows
def MtM (X : Cx) (id : String) (r : V → List V → Hp → VK → Prop) : Prop :=
  ∀ (pins : List (Addr × Obj)) (s : Shared) (σ : St) (H : Hp) (x : V) (xs : List V) (v : Value) (us : List Value) (Q : VK), Inv X pins σ H s → RelV x v → Vals xs us → r x xs H Q →
    wpAny (model X.prog X.w) X.A (call (.builtin id) (v :: us)) (EP X pins σ Q) X.xe s
theorem Vals.one : ∀ {x : V} {us : List Value}, Vals [x] us → ∃ u, us = [u] ∧ RelV x u
  | _, _, .cons r .nil => ⟨_, rfl, r⟩
theorem Vals.two : ∀ {x y : V} {us : List Value}, Vals [x, y] us → ∃ u v, us = [u, v] ∧ RelV x u ∧ RelV y v
  | _, _, _, .cons r (.cons q .nil) => ⟨_, _, rfl, r, q⟩
theorem Vals.zero : ∀ {us : List Value}, Vals [] us → us = []
  | _, .nil => rfl
theorem Vals.dropLast {xs : List V} {us : List Value} (h : Vals xs us) : Vals xs.dropLast us.dropLast := by
  induction h with
  | nil => exact .nil
  | cons r t ih =>
    cases t with
    | nil => exact .nil
    | cons q t' => exact .cons r ih
theorem Vals.eraseIdx : ∀ {xs : List V} {us : List Value} (i : Nat), Vals xs us → Vals (xs.eraseIdx i) (us.eraseIdx i)
  | _, _, _, .nil => .nil
  | _, _, 0, .cons _ t => t
  | _, _, i + 1, .cons r t => .cons r (Vals.eraseIdx i t)
theorem Vals.reverse {xs : List V} {us : List Value} (h : Vals xs us) : Vals xs.reverse us.reverse := by
  induction h with
  | nil => exact .nil
  | cons r t ih => rw [List.reverse_cons, List.reverse_cons]; exact Vals.append ih (.cons r .nil)
theorem Vals.rep {xs : List V} {us : List Value} (h : Vals xs us) : ∀ k : Nat, Vals (List.replicate k xs).flatten (List.replicate k us).flatten
  | 0 => .nil
  | k + 1 => by
    rw [List.replicate_succ, List.replicate_succ, List.flatten_cons, List.flatten_cons]
    exact Vals.append h (Vals.rep h k)
theorem erase_last {α : Type} (l : List α) : l.eraseIdx (l.length - 1) = l.dropLast := by
  induction l with
  | nil => rfl
  | cons a r ih =>
    cases r with
    | nil => rfl
    | cons b r =>
      have e : (a :: b :: r).length - 1 = ((b :: r).length - 1) + 1 := by
        have h1 : (a :: b :: r).length = r.length + 2 := rfl
        have h2 : (b :: r).length = r.length + 1 := rfl
        omega
      rw [e, List.eraseIdx_cons_succ, ih]
      all_goals rfl
theorem len_erase {α : Type} : ∀ (l : List α) (i : Nat), (l.eraseIdx i).length ≤ l.length
  | [], _ => Nat.le_refl _
  | _ :: _, 0 => Nat.le_succ _
  | _ :: r, i + 1 => Nat.succ_le_succ (len_erase r i)
theorem foldl_rep (its : List Value) : ∀ (k : Nat) (acc : List Value),
    List.foldl (fun x1 x2 => x1 ++ x2) acc.toArray (List.replicate k its.toArray) = (acc ++ (List.replicate k its).flatten).toArray
  | 0, acc => by simp
  | k + 1, acc => by
    have e : acc.toArray ++ its.toArray = (acc ++ its).toArray := by simp
    have e2 : (acc ++ its) ++ (List.replicate k its).flatten = acc ++ (List.replicate (k + 1) its).flatten := by
      rw [List.replicate_succ, List.flatten_cons, List.append_assoc]
    rw [← e2, ← foldl_rep its k (acc ++ its), ← e, List.replicate_succ, List.foldl_cons]
section
variable {X : Cx} {pins : List (Addr × Obj)} {σ : St} {H : Hp} {s : Shared} {l b : Addr} {xs ys zs : List V}
theorem Inv.lset {its its' : List Value} {n : Nat} {f : Array Value → Array Value} {t' : Nat} (I : Inv X pins σ H s) (hH : H l = some (.lst xs))
    (e : s.heap.get? l = some { cls := .type "list", data := .seq its.toArray n }) (hf : f its.toArray = its'.toArray) (hv : Vals ys its') (hz : ys.length ≤ sizeLine) :
    Inv X pins σ (upd H l (.lst ys)) { s with heap := s.heap.update l (Obj.mapSeq f), toks := t' } := by
  have q := PySem.IsL.update e f
  rw [hf] at q
  refine I.write (x := l) (e := l) (by rw [hH]; exact trivial) (.inl rfl) (fun b' u hb hu => (Heap.get?_update_other s.heap (Obj.mapSeq f) (Ne.symm hb)).trans hu) ⟨_, q⟩ ?_
  exact ⟨hz, its', _, hv, q⟩
theorem Inv.lnew {its : List Value} {t' : Nat} (I : Inv X pins σ H s) (hv : Vals ys its) (hz : ys.length ≤ sizeLine) :
    Inv X pins σ (upd H s.heap.objs.size (.lst ys)) { s with heap := s.heap.push { cls := .type "list", data := .seq its.toArray }, toks := t' } :=
  I.laid (fun _ _ q => Heap.get?_push_of_some _ q) (Nat.le_refl _) ⟨hz, its, 0, hv, Heap.get?_push_size _ rfl⟩
theorem Inv.fresh (I : Inv X pins σ H s) : H s.heap.objs.size = none := I.hok.fresh (Nat.le_refl _)
theorem Inv.lstM (I : Inv X pins σ H s) (hH : H l = some (.lst xs)) : xs.length ≤ sizeLine ∧ ∃ (its : List Value) (n : Nat), Vals xs its ∧ xs.length = its.length ∧ s.heap.get? l = some { cls := .type "list", data := .seq its.toArray n } := by
  obtain ⟨z, its, n, r, e⟩ := I.hok l _ hH
  exact ⟨z, its, n, r, r.length, e⟩
theorem notLongL {n : Nat} (h : n ≤ sizeLine) : Builtin.List.listTooLong n = false := by
  unfold Builtin.List.listTooLong
  exact decide_eq_false (by omega)
end
section
variable {X : Cx}
def rAppend : V → List V → Hp → VK → Prop := fun x vs H Q => ∃ l xs y, x = .ref l ∧ vs = [y] ∧ H l = some (.lst xs) ∧ xs.length < sizeLine ∧ Q .non (upd H l (.lst (xs ++ [y])))
theorem mt_append : MtM X "list.append" rAppend := by
  intro pins s σ H x vs v us Q I rx rv h
  obtain ⟨l, xs, y, rfl, rfl, hH, hz, q⟩ := h
  cases rx
  obtain ⟨u, rfl, ru⟩ := rv.one
  obtain ⟨z, its, n, r, hl, e⟩ := I.lstM hH
  refine call_meets F.slot_list_append ⟨_, e, rfl⟩ F.entry_list_append (F.args_list_append_2 _ _) (PySem.list_append l its.toArray n u (by rw [List.size_toArray]; omega)) ⟨e, ?_⟩
  refine ⟨.non, _, I.lset (its' := its ++ [u]) hH e (by simp) (r.append (.cons ru .nil)) ?_, rfl, q⟩
  rw [List.length_append, List.length_singleton]
  omega
def rExtend : V → List V → Hp → VK → Prop := fun x vs H Q => ∃ l b xs zs, x = .ref l ∧ vs = [.ref b] ∧ H l = some (.lst xs) ∧ H b = some (.lst zs) ∧ xs.length + zs.length ≤ sizeLine ∧ Q .non (upd H l (.lst (xs ++ zs)))
theorem mt_extend : MtM X "list.extend" rExtend := by
  intro pins s σ H x vs v us Q I rx rv h
  obtain ⟨l, b, xs, zs, rfl, rfl, hH, hB, hz, q⟩ := h
  cases rx
  obtain ⟨u, rfl, ru⟩ := rv.one
  cases ru
  obtain ⟨z, its, n, r, hl, e⟩ := I.lstM hH
  obtain ⟨z2, its2, n2, r2, hl2, e2⟩ := I.lstM hB
  have hsz : its.toArray.size + its2.toArray.size ≤ sizeLine := by rw [List.size_toArray, List.size_toArray]; omega
  have hlong : ¬ (!its.toArray.isEmpty && Builtin.List.listTooLong (its.toArray.size + its2.toArray.size)) = true := by
    rw [notLongL hsz, Bool.and_false]
    exact Bool.false_ne_true
  refine call_meets F.slot_list_extend ⟨_, e, rfl⟩ F.entry_list_extend (F.args_list_extend_2 _ _)
    (AutoSeq1.list_extend_list_list_0 l its.toArray n b its2.toArray n2 hlong (by rw [List.size_toArray]; omega) (by omega)) ⟨e, e2, ?_⟩
  refine ⟨.non, _, I.lset (its' := its ++ its2) hH e (by simp) (r.append r2) ?_, rfl, q⟩
  rw [List.length_append]
  omega
def rPop : V → List V → Hp → VK → Prop := fun x vs H Q => ∃ l xs y, x = .ref l ∧ vs = [] ∧ H l = some (.lst xs) ∧ xs[xs.length - 1]? = some y ∧ Q y (upd H l (.lst xs.dropLast))
theorem mt_pop : MtM X "list.pop" rPop := by
  intro pins s σ H x vs v us Q I rx rv h
  obtain ⟨l, xs, y, rfl, rfl, hH, hy, q⟩ := h
  cases rx
  have hus := rv.zero
  subst hus
  obtain ⟨z, its, n, r, hl, e⟩ := I.lstM hH
  obtain ⟨u, hu, ru⟩ := r.get hy
  have hy' : its.toArray[its.toArray.size - 1]? = some u := by
    show its.toArray[its.length - 1]? = some u
    rw [← Array.getElem?_toList, ← hl]
    exact hu
  refine call_meets F.slot_list_pop ⟨_, e, rfl⟩ F.entry_list_pop (F.args_list_pop_1 _) (MeetsSeq.list_pop_last l its.toArray n u hy' (by rw [List.size_toArray]; omega)) ⟨e, ?_⟩
  refine ⟨y, _, I.lset (its' := its.dropLast) hH e ?_ r.dropLast ?_, ru, q⟩
  · show its.toArray.eraseIdxIfInBounds (its.toArray.size - 1) = its.dropLast.toArray
    rw [List.size_toArray, List.eraseIdxIfInBounds_toArray, erase_last]
  · rw [List.length_dropLast]
    omega
def rPopAt : V → List V → Hp → VK → Prop := fun x vs H Q => ∃ l xs i k y, x = .ref l ∧ vs = [.int i] ∧ H l = some (.lst xs) ∧ -(2 ^ 63) ≤ i ∧ i < 2 ^ 63 ∧ seqIndex? i xs.length = some k ∧ xs[k]? = some y ∧ Q y (upd H l (.lst (xs.eraseIdx k)))
theorem mt_popAt : MtM X "list.pop" rPopAt := by
  intro pins s σ H x vs v us Q I rx rv h
  obtain ⟨l, xs, i, k, y, rfl, rfl, hH, h1, h2, hk, hy, q⟩ := h
  cases rx
  obtain ⟨u, rfl, ru⟩ := rv.one
  obtain ⟨t, rfl⟩ := ru
  obtain ⟨z, its, n, r, hl, e⟩ := I.lstM hH
  obtain ⟨w, hw, rw'⟩ := r.get hy
  refine call_meets F.slot_list_pop ⟨_, e, rfl⟩ F.entry_list_pop (F.args_list_pop_2 _ _)
    (MeetsSeq.list_pop_at l its.toArray n i t k w (fitsIndex_both h1 h2) (by rw [List.size_toArray, ← hl]; exact hk) (by rw [← Array.getElem?_toList]; exact hw) (by rw [List.size_toArray]; omega)) ⟨e, ?_⟩
  refine ⟨y, _, I.lset (its' := its.eraseIdx k) hH e ?_ (r.eraseIdx k) ?_, rw', q⟩
  · show its.toArray.eraseIdxIfInBounds k = (its.eraseIdx k).toArray
    rw [List.eraseIdxIfInBounds_toArray]
  · have := len_erase xs k
    omega
def rCat : R2 := fun x y H Q => ∃ l b xs zs, x = .ref l ∧ y = .ref b ∧ H l = some (.lst xs) ∧ H b = some (.lst zs) ∧ xs.length + zs.length ≤ sizeLine ∧ ∀ p, H p = none → Q (.ref p) (upd H p (.lst (xs ++ zs)))
theorem op_cat : OpR X (binaryOp .Add) rCat := by
  intro pins s σ H x y v u Q I rx ry h
  obtain ⟨l, b, xs, zs, rfl, rfl, hH, hB, hz, q⟩ := h
  cases rx
  cases ry
  obtain ⟨z, its, n, r, hl, e⟩ := I.lstM hH
  obtain ⟨z2, its2, n2, r2, hl2, e2⟩ := I.lstM hB
  refine PySem.P.add_list e e2 ?_ (by rw [List.size_toArray, List.size_toArray]; omega)
  have ea : its.toArray ++ its2.toArray = (its ++ its2).toArray := by simp
  rw [ea]
  exact ⟨.ref _, _, I.lnew (t' := s.toks) (r.append r2) (by rw [List.length_append]; omega), rfl, q _ I.fresh⟩
def rRep : R2 := fun x y H Q => ∃ l k xs, x = .ref l ∧ y = .int k ∧ H l = some (.lst xs) ∧ -(2 ^ 63) ≤ k ∧ k < 2 ^ 63 ∧ xs.length * k.toNat ≤ sizeLine ∧
  ∀ p, H p = none → Q (.ref p) (upd H p (.lst (List.replicate k.toNat xs).flatten))
theorem len_rep {α : Type} (xs : List α) (k : Nat) : (List.replicate k xs).flatten.length = k * xs.length := by
  induction k with
  | zero => simp
  | succ k ih => rw [List.replicate_succ, List.flatten_cons, List.length_append, ih, Nat.succ_mul, Nat.add_comm]
theorem op_rep : OpR X (binaryOp .Mult) rRep := by
  intro pins s σ H x y v u Q I rx ry h
  obtain ⟨l, k, xs, rfl, rfl, hH, h1, h2, hz, q⟩ := h
  cases rx
  obtain ⟨t, rfl⟩ := ry
  obtain ⟨z, its, n, r, hl, e⟩ := I.lstM hH
  have hlen : its.toArray.size * k.toNat ≤ sizeLine := by rw [List.size_toArray, ← hl]; exact hz
  have hcap : ¬ its.toArray.size * k.toNat > (2 ^ 63 - 1) / 8 := by
    have : (sizeLine : Nat) ≤ (2 ^ 63 - 1) / 8 := by decide
    omega
  have hfit : ¬ (!Builtin.List.listFitsIndex k) = true := by
    rw [fitsIndex_both h1 h2]
    exact Bool.false_ne_true
  have hlong : ¬ Builtin.List.listTooLong (its.toArray.size * k.toNat) = true := by
    rw [notLongL hlen]
    exact Bool.false_ne_true
  have hnew : List.foldl (fun x1 x2 => x1 ++ x2) #[] (List.replicate (if its.toArray.isEmpty = true then 0 else k.toNat) its.toArray) = (List.replicate k.toNat its).flatten.toArray := by
    have f0 : ∀ m : Nat, List.foldl (fun x1 x2 => x1 ++ x2) #[] (List.replicate m its.toArray) = (List.replicate m its).flatten.toArray := fun m => by
      have := foldl_rep its m []
      rw [List.nil_append] at this
      exact this
    rw [f0]
    cases its with
    | nil => simp
    | cons a r' => rw [if_neg (by simp)]
  refine wpAny_binaryOp_repeat_ref (T := "list") (U := "int") (by decide) ⟨_, e, rfl⟩ (fun s' => typeIs_int s' k t) noFill_list_mul F.fills_int_mul F.slot_int_rmul repeat_list F.slot_int_index.lookup
    (call_meets F.slot_int_rmul (typeIs_int s k t) F.entry_int_rmul (F.args_int_rmul_2 _ _) (int___rmul___int_list k t l its.toArray n)
      ⟨e, rfl, ⟨_, e, rfl⟩, call_meets F.slot_list_mul ⟨_, e, rfl⟩ F.entry_list_mul (F.args_list_mul_2 _ _) (AutoListH.list___mul___list_int_3 l its.toArray n k t hfit hcap hlong) ⟨e, ?_⟩⟩)
  rw [hnew]
  exact ⟨.ref _, _, I.lnew (t' := s.toks) (r.rep k.toNat) (by rw [len_rep, Nat.mul_comm]; exact hz), rfl, q _ I.fresh⟩
end
section
variable {prog : Program} {w : World} {A : Around} {E : Value → Shared → Prop} {s : Shared}
set_option maxRecDepth 100000 in
end
section
variable {X : Cx}
end
end L2
namespace Att
open PySem PySem.W PySem.Calls PyProof.Rows
theorem ints_of_wellAll {P : Params} {h : Heap} : ∀ (ns : List Int) (vs : List Value), WellAll P h vs (ns.map WData.int) → IntsAre vs ns := by
  intro ns
  induction ns with
  | nil =>
    intro vs w
    rw [List.map_nil] at w
    cases w
    exact .nil
  | cons n ns ih =>
    intro vs w
    rw [List.map_cons] at w
    cases w with
    | cons a b =>
      cases a
      exact .cons _ _ (ih _ b)
theorem script_of {l : OpenLaw} {n : Nat} (hn : l.most = some n) {P : Params} {h : Heap} {args : List WData} {vals : List Value}
    (hpre : l.row.toRowW.claim.pre args = true) (hwl : WellAll P h vals args) :
    ∃ a vs ns, vals = [Value.ref a] ∧ args = [WData.list (ns.map WData.int)] ∧ h.get? a = some { cls := .type "list", data := .seq vs.toArray } ∧ IntsAre vs ns ∧ ns.length ≤ n := by
  have hsh : WShape.hasAll [] args [.list .int] = true := (pre_splitW hpre).1
  have hc : l.pre.holds [] { args := args } = true := (pre_splitW hpre).2
  obtain ⟨d, r, rfl, h1, h2⟩ := hasAllW_cons hsh
  obtain rfl := hasAllW_nil h2
  obtain ⟨xs, rfl, h3⟩ := hasW_list h1
  obtain ⟨ns, rfl⟩ := items_int h3
  have hlen : ns.length ≤ n := by
    unfold OpenLaw.pre at hc
    have h4 : (WTm.not (.lt (.lit (.int (n : Int))) (.len (.arg 0)))).holds [] { args := [.list (ns.map .int)] } = true := by
      have h4 := (holds_andW hc).1
      rw [hn] at h4
      exact h4
    have h5 := condW_of h4 (w_not (w_lt w_lit (w_len_list (w_arg rfl))))
    rw [List.length_map] at h5
    refine Nat.le_of_not_lt fun q => ?_
    have q' : (n : Int) < ((ns.length : Nat) : Int) := by omega
    first
      | (rw [decide_eq_true q'] at h5; exact absurd h5 (by decide))
      | (simp at h5; omega)
  cases hwl with
  | cons w1 w2 =>
    cases w2
    cases w1 with
    | list ho hall => exact ⟨_, _, ns, rfl, rfl, ho, ints_of_wellAll ns _ hall, hlen⟩
theorem post_true (l : OpenLaw) (args : List WData) : l.row.toRowW.claim.post args (.bool true) args = true :=
  postW_of (r := l.row.toRowW) (X := (true == true))
    (show WShape.has [] (.bool true) .bool = true by first | rfl | decide | simp [WShape.has, WShape.arms, WShape.armsAll])
    (show (WTm.eq .res (.lit (.bool true))).value [] { args := args, res := some (.bool true), after := args } = some (.bool (true == true)) from w_eq_bool (w_res rfl) w_lit) rfl
theorem attach_call {l : OpenLaw} {n : Nat} {q : Program} {loose : List Str} {XP : (Str → Option Value) → Heap → Prop} {YP : World → Heap → Prop} {d : DefRec}
    (hn : l.most = some n) (hdf : d.params.defaults = [])
    (call : ∀ (w : World) (s₀ s₁ : Shared) (mg mb : Str → Option Value) (fa : Addr) (o : Obj) (pm cd doc : Value) (a : Addr) (vs : List Value) (ns : List Int),
      Ground q loose [] XP w s₀ mg mb s₁.heap → YP w s₁.heap →
      s₁.heap.get? fa = some o → o.data = .func (docDef d.name d.params d.body d.scope pm cd doc) → s₁.heap.CodeRec cd d.name → mg d.name = some (.ref fa) →
      s₁.heap.get? a = some { cls := .type "list", data := .seq vs.toArray } → IntsAre vs ns → ns.length ≤ n → s₁.gens = #[] →
      codeAny (model l.prog w) callerA (.call (.ref fa) ⟨[.ref a], []⟩) (fun r s' => r = .ok (.ret (.bool true)) ∧ OldK s₁.heap s'.heap ∧ s'.os = s₁.os ∧ AllBare s'.gens) s₁) :
    WalkO q loose XP YP l.row.toRowW d [] (fun f vs => PySem.call f vs) := by
  intro w s₀ s₁ mg mb G Y fa o pm cd doc dV kV ho hd hcd hD hmg hg args vals as hpre hlay hrd hwl hlo
  obtain rfl : dV = .none := Dflts.none hD hdf
  obtain rfl : kV = .none := Dflts.noKw hD
  obtain ⟨a, vs, ns, rfl, rfl, hobj, hints, hlen⟩ := script_of hn hpre hwl
  refine enter_call (codeAny_mono (call w s₀ s₁ mg mb fa o pm cd doc a vs ns G Y ho (fd_plain hd) hcd hmg hobj hints hlen hg) fun r s' hq => ?_)
  obtain ⟨rfl, h2, h3, h4⟩ := hq
  exact ⟨.inl ⟨.bool true, .bool true, [], rfl, fun _ => rfl, .bool true, post_true l _, fun _ => ⟨List.Pairwise.nil, fun _ hm => (nomatch hm)⟩⟩, h2, h3, h4⟩
section
variable {prog : Program} {w : World} {A : Around} {E : Value → Shared → Prop} {s : Shared} {K : Frag}
end
end Att
namespace L2
open PySem PySem.Spec PyProof.Rows
theorem vals_ints : ∀ {vs : List Value} {ns : List Int}, IntsAre vs ns → Vals (ns.map V.int) vs
  | _, _, .nil => .nil
  | _, _, .cons n t h => .cons ⟨t, rfl⟩ (vals_ints h)
def Only (H : Hp) : Prop := ∀ b, H b = none ∨ ∃ o xs, H b = some (.frz o (.lst xs))
theorem law_call {P : Program} {w : World} {K : PySem.W.Frag} {mg mb : Str → Option Value} {CX : CXT} {k : Nat} {fa a : Addr} {fd : FuncData} {x : Str} {sp : Sp} {s₁ : Shared} {vs : List Value} {ns : List Int}
    (KX : K.In s₁.heap) (hns : s₁.heap.Ns mainGlobals mg) (hb : s₁.heap.Ns builtinsNs mb) (hbb : ∀ x : Str, x ≠ "__name__" → mb x = bootBuiltins x) (hlim : s₁.heap.NoLimit) (hg : s₁.gens = #[])
    (ha : s₁.heap.get? a = some { cls := .type "list", data := .seq vs.toArray }) (hi : IntsAre vs ns) (hl : ns.length ≤ sizeLine) (hr : Room k callerA)
    (F : ∀ base : Heap, K.In base → base.Ns mainGlobals mg → FnOk P w K mg base CX k fa fd [x] sp) (hbind : ∀ (s : Shared) (u : Value), BindsTo s fd ⟨[u], []⟩ [(x, u)])
    (hsp : ∀ H : Hp, Only H → SqL K H a (ns.map V.int) → sp [.ref a] H (fun v _ => v = .bl true) fun _ _ _ => False)
    (hCX : ∀ H e s', CX [] H s₁ (fun _ _ _ => False) e s' → False) :
    codeAny (model P w) callerA (.call (.ref fa) ⟨[.ref a], []⟩) (fun r s' => r = .ok (.ret (.bool true)) ∧ OldK s₁.heap s'.heap ∧ s'.os = s₁.os ∧ AllBare s'.gens) s₁ := by
  have rv := vals_ints hi
  have lenV := hi.length
  have core : ∀ H : Hp, Only H → SqL K H a (ns.map V.int) → HOk P w H s₁.heap → (∀ b, H b ≠ none → b = a) → (H a ≠ none → K.lookup a = none) →
      codeAny (model P w) callerA (.call (.ref fa) ⟨[.ref a], []⟩) (fun r s' => r = .ok (.ret (.bool true)) ∧ OldK s₁.heap s'.heap ∧ s'.os = s₁.os ∧ AllBare s'.gens) s₁ := by
    intro H hO hS hok hA hK
    have base_of : ∀ {b : Addr} {o : Obj}, s₁.heap.get? b = some o → H b = none → (hidT s₁.heap H).get? b = some o := fun e n => hidT_get e n
    have noA : ∀ {b : Addr} {o : Obj} {es : Array DictEntry} {ep : Nat}, s₁.heap.get? b = some o → o.data = .dict es ep → H b = none := fun {b o es ep} e d => by
      cases q : H b with
      | none => rfl
      | some u =>
        have e' : b = a := hA b (by rw [q]; simp)
        subst e'
        rw [ha] at e; cases e
        have d' : Data.seq vs.toArray _ = Data.dict es ep := d
        cases d'
    have nsK : ∀ {b : Addr} {m : Str → Option Value}, s₁.heap.Ns b m → (hidT s₁.heap H).Ns b m := fun {b m} ⟨o, es, ep, e, d, r⟩ => ⟨o, es, ep, base_of e (noA e d), d, r⟩
    have hKb : K.In (hidT s₁.heap H) := fun b o e => base_of (KX b o e) (by
      cases q : H b with
      | none => rfl
      | some u =>
        have e' : b = a := hA b (by rw [q]; simp)
        subst e'
        rw [hK (by rw [q]; simp)] at e; cases e)
    have hM : Mod K mg (hidT s₁.heap H) := ⟨hKb, nsK hns, ⟨mb, nsK hb, hbb⟩, let ⟨mc, h1, h2⟩ := hlim; ⟨mc, nsK h1, h2⟩⟩
    have e0 : Env0 P w K mg (hidT s₁.heap H) callerA [] s₁ H := ⟨rfl, hM, fun b o e => of_hidT e, Nat.le_of_eq (hidT_size _ _), trivial, fun b hb => absurd (show b ∈ ([] : List Addr) from hb) (by simp), hok, .of_eq hg⟩
    refine codeAny_mono ((F _ hKb (nsK hns)).run callerA [] s₁ H ⟨[.ref a], []⟩ [.ref a] [.ref a] _ _ hr e0 (hbind s₁ (.ref a)) (.cons rfl .nil) (hsp H hO hS)) fun r s' h => ?_
    cases r with
    | error e => exact (hCX H e s' h).elim
    | ok fl =>
      cases fl with
      | next => exact False.elim h
      | brk => exact False.elim h
      | cont => exact False.elim h
      | ret u =>
        obtain ⟨v, H', os, bare, un, hok', r', q⟩ := h
        have q' : v = .bl true := q
        subst q'
        obtain rfl : u = Value.bool true := r'
        refine ⟨rfl, OldK.of_keep fun b o e => ?_, os, bare⟩
        cases q : H b with
        | none => exact un.keep b o e q (by intro z; exact absurd (show b ∈ ([] : List Addr) from z) (by simp)) (by simp)
        | some u =>
          rcases hO b with z | ⟨ob, xs, z⟩
          · rw [q] at z; cases z
          · have z2 := un.frzs b ob _ z
            obtain ⟨e1, _⟩ := hok b _ z
            obtain ⟨e2, _⟩ := hok' b _ z2
            rw [e] at e1; cases e1
            exact e2
  cases hk : K.lookup a with
  | some o =>
    have e := KX a o hk
    rw [ha] at e
    cases e
    refine core (fun _ => none) (fun _ => .inl rfl) (.inr ⟨_, vs.toArray, _, hk, rfl, rfl, rfl, by rw [List.size_toArray, lenV]; exact hl, by simpa using rv⟩) (fun b u z => by have z' : (none : Option HO) = some u := z; cases z') (fun b z => absurd rfl z) fun z => absurd rfl z
  | none =>
    refine core (fun b => if b = a then some (.frz { cls := .type "list", data := .seq vs.toArray } (.lst (ns.map V.int))) else none) (fun b => ?_) (.inl (.inr ⟨{ cls := .type "list", data := .seq vs.toArray }, if_pos rfl⟩)) (fun b u z => ?_) (fun b z => ?_) fun _ => hk
    · by_cases hb : b = a
      · exact .inr ⟨_, _, if_pos hb⟩
      · exact .inl (if_neg hb)
    · by_cases hb : b = a
      · have z' := (if_pos hb).symm.trans z
        cases z'
        subst hb
        exact ⟨ha, by rw [List.length_map]; exact hl, vs, _, rv, ha⟩
      · have z' := (if_neg hb).symm.trans z
        cases z'
    · by_cases hb : b = a
      · exact hb
      · exact absurd (if_neg hb) z
end L2
namespace L2
open PySem PySem.Spec PyProof.Rows
theorem walk_of {l : PySem.W.OpenLaw} {n k : Nat} {q : Program} {loose : List Str} {XP : (Str → Option Value) → Heap → Prop} {YP : World → Heap → Prop} {d : DefRec} {K : Params → PySem.W.Frag} {CX : World → CXT} {sp : World → Sp} {x : Str}
    (hn : l.most = some n) (hn2 : n ≤ sizeLine) (hdf : d.params.defaults = []) (hr : Room k callerA)
    (hY : ∀ (w : World) (h : Heap), YP w h → (K w.params).In h)
    (F : ∀ (w : World) (mg : Str → Option Value) (fa : Addr) (h : Heap), (K w.params).In h → h.Ns mainGlobals mg → mg d.name = some (.ref fa) →
      ∃ fd : FuncData, (∀ (s : Shared) (u : Value), BindsTo s fd ⟨[u], []⟩ [(x, u)]) ∧
        ∀ base : Heap, (K w.params).In base → base.Ns mainGlobals mg → FnOk l.prog w (K w.params) mg base (CX w) k fa fd [x] (sp w))
    (hsp : ∀ (w : World) (H : Hp) (a : Addr) (ns : List Int), ns.length ≤ n → Only H → SqL (K w.params) H a (ns.map V.int) → sp w [.ref a] H (fun v _ => v = .bl true) fun _ _ _ => False)
    (hCX : ∀ (w : World) (H : Hp) (s : Shared) (e : Value) (s' : Shared), CX w [] H s (fun _ _ _ => False) e s' → False) :
    PySem.W.WalkO q loose XP YP l.row.toRowW d [] (fun f vs => PySem.call f vs) := by
  refine Att.attach_call hn hdf fun w s₀ s₁ mg mb fa o pm cd doc a vs ns G Y ho hd hcd hmg hobj hints hlen hg => ?_
  have KX := hY w _ Y
  obtain ⟨fd, hb, hF⟩ := F w mg fa _ KX G.T.g hmg
  exact law_call KX G.T.g G.T.b G.T.builtins G.T.nolimit hg hobj hints (Nat.le_trans hlen hn2) hr hF hb (fun H hO hS => hsp w H a ns hlen hO hS) fun H e s' => hCX w H s₁ e s'
end L2
namespace L2
open PySem PySem.Spec PyProof.Rows
def defArgs (s : Stmt) : Arguments := match s with
  | .FunctionDef _ a _ _ _ _ _ _ _ _ => a
  | _ => { posonlyargs := [], args := [], vararg := none, kwonlyargs := [], kw_defaults := [], kwarg := none, defaults := [] }
def defBody (s : Stmt) : List Stmt := match s with
  | .FunctionDef _ _ b _ _ _ _ _ _ _ => b
  | _ => []
def defScope (s : Stmt) : Scope := match s with
  | .FunctionDef _ _ _ _ _ _ sc _ _ _ => sc
  | _ => { kind := .function, names := [], isGenerator := false, isCoroutine := false }
abbrev CX0 : CXT := fun _ _ _ _ _ _ => False
abbrev E0 : XK := fun _ _ _ => False
theorem pass0 {X : Cx} : Passes CX0 X E0 := fun _ _ _ _ _ _ _ h => h.elim
structure Fun (K : PySem.W.Frag) (x qual : Str) (st : Stmt) (f : Addr) (fd : FuncData) : Prop where
  ex : ∃ (oc : Value) (od : Option Addr) (kV doc pm : Value) (an : Option Addr) (cdv ct : Value) (osl : Array (Option Value)),
    fd = PySem.W.fnOf x qual (defArgs st) (defBody st) (defScope st) .none kV doc pm an cdv ct ∧ K.lookup f = some ⟨oc, od, .func fd, osl⟩ ∧ PySem.W.codeIn K cdv qual = true
  kp : PySem.W.keepIn K (.ref f) = true
section
variable {P : Program} {w : World} {K : PySem.W.Frag} {mg : Str → Option Value} {base : Heap}
theorem Fun.ok {x qual : Str} {st : Stmt} {f : Addr} {fd : FuncData} {N ps : List Str} {k : Nat} {sp : Sp} (F : Fun K x qual st f fd) (S : FnScope N ps (defScope st)) (len : ∀ vs H Q E, sp vs H Q E → vs.length = ps.length)
    (hbody : ∀ (cdv : Value) (A : Around) (outer : List Env) (s : Shared) (H : Hp) (vs : List V) (Q : VK) (E : XK), Room k (A.deeper (envOfC qual (defScope st) s.heap.objs.size f cdv)) → sp vs H Q E →
      ∃ t, PSs (cxOf CX0 P w K mg base N qual (defScope st) f cdv A outer s H E).nox (defBody st) t ∧ t { nx := fun _ H' => Q .non H', rt := Q } (start N vs) H) : FnOk P w K mg base CX0 (k + 1) f fd ps sp := by
  obtain ⟨oc, od, kV, doc, pm, an, cdv, ct, osl, rfl, lk, hcd⟩ := F.ex
  refine fn_of lk hcd S len fun A outer s H vs Q E hr hsp => ?_
  obtain ⟨t, h, q⟩ := hbody cdv A outer s H vs Q E hr hsp
  exact ⟨t, h.nox, q⟩
theorem Fun.binds {x qual : Str} {st : Stmt} {f : Addr} {fd : FuncData} {ps : List Str} (F : Fun K x qual st f fd)
    (h : ∀ (kV doc pm : Value) (an : Option Addr) (cdv ct : Value) (us : List Value), us.length = ps.length → bindArgs (PySem.W.fnOf x qual (defArgs st) (defBody st) (defScope st) .none kV doc pm an cdv ct) ⟨us, []⟩ = pure (ps.zip us)) : Binds K fd ps [] := by
  obtain ⟨oc, od, kV, doc, pm, an, cdv, ct, osl, rfl, lk, hcd⟩ := F.ex
  exact .all (h kV doc pm an cdv ct)
theorem fun_mk {x qual : Str} {st : Stmt} {f : Addr} {oc : Value} {od an : Option Addr} {osl : Array (Option Value)} {kV doc pm cdv ct : Value} (l : K.lookup f = some ⟨oc, od, .func (PySem.W.fnOf x qual (defArgs st) (defBody st) (defScope st) .none kV doc pm an cdv ct), osl⟩)
    (c : PySem.W.codeIn K cdv qual = true) (k : PySem.W.keepIn K (.ref f) = true) : Fun K x qual st f (PySem.W.fnOf x qual (defArgs st) (defBody st) (defScope st) .none kV doc pm an cdv ct) := ⟨⟨oc, od, kV, doc, pm, an, cdv, ct, osl, rfl, l, c⟩, k⟩
end
section
variable {X : Cx}
theorem pv (i : Nat) {x : Str} {pos : Pos} (hN : X.N[i]? = some x := by rfl) (hv : Vis X.env.scope x := by first | exact Or.inl rfl | exact Or.inr (Or.inl rfl) | exact Or.inr (Or.inr rfl)) (hd : (x == ("__debug__" : Str)) = false := by decide)
    (hcd : (x == ("__classdict__" : Str)) = false := by decide) : PE X (.Name x pos) (tVar i) := pe_var hN hv hd hcd
end
theorem iteF {A B : Prop} (h : B) : if false = true then A else B := by
  rw [if_neg Bool.false_ne_true]
  exact h
theorem ite2 {c A B : Prop} [Decidable c] (h1 : c → A) (h2 : ¬ c → B) : if c then A else B := by
  by_cases h : c
  · rw [if_pos h]
    exact h1 h
  · rw [if_neg h]
    exact h2 h
def Same (H H' : Hp) : Prop := ∀ b o, H b = some o → H' b = some o
theorem Same.refl (H : Hp) : Same H H := fun _ _ h => h
theorem Same.trans {H H1 H2 : Hp} (a : Same H H1) (b : Same H1 H2) : Same H H2 := fun c o h => b c o (a c o h)
theorem Same.free {H H' : Hp} (e : Same H H') {l : Addr} (h : H' l = Option.none) : H l = Option.none := by
  cases q : H l with
  | none => rfl
  | some o =>
    rw [e l o q] at h
    cases h
theorem Same.seq {K : PySem.W.Frag} {H H' : Hp} {a : Addr} {xs : List V} (e : Same H H') (h : SqL K H a xs) : SqL K H' a xs := by
  rcases h with (h | ⟨o, h⟩) | h
  · exact .inl (.inl (e _ _ h))
  · exact .inl (.inr ⟨o, e _ _ h⟩)
  · exact .inr h
end L2
namespace L2
open PySem PySem.Spec PyProof.Rows
section
variable {κ : Type} [DecidableEq κ]
def valV (kvs : List (κ × V)) (k : κ) : Option V := (kvs.find? fun kv => decide (kv.1 = k)).map (·.2)
def putK (kvs : List (κ × V)) (k : κ) (v : V) : List (κ × V) :=
  if (kvs.any fun kv => decide (kv.1 = k)) = true then kvs.map (fun kv => if kv.1 = k then (kv.1, v) else kv) else kvs ++ [(k, v)]
def dropK (kvs : List (κ × V)) (k : κ) : List (κ × V) := kvs.filter fun kv => decide (kv.1 ≠ k)
theorem valV_pos {p : κ × V} {r : List (κ × V)} {k : κ} (e : p.1 = k) : valV (p :: r) k = some p.2 := by simp [valV, List.find?_cons, e]
theorem valV_neg {p : κ × V} {r : List (κ × V)} {k : κ} (e : ¬ p.1 = k) : valV (p :: r) k = valV r k := by simp [valV, List.find?_cons, e]
theorem valV_any (k : κ) : ∀ kvs : List (κ × V), (kvs.any fun kv => decide (kv.1 = k)) = (valV kvs k).isSome
  | [] => rfl
  | p :: r => by
    rw [List.any_cons]
    by_cases e : p.1 = k
    · simp only [valV_pos e, decide_eq_true e, Bool.true_or, Option.isSome_some]
    · rw [valV_neg e, decide_eq_false e, Bool.false_or]; exact valV_any k r
theorem RelO.isSome_eq {o : Option V} {u : Option Value} (r : RelO o u) : o.isSome = u.isSome := by
  cases o with
  | none => cases u with
    | none => rfl
    | some _ => exact (show False from r).elim
  | some _ => cases u with
    | none => exact (show False from r).elim
    | some _ => rfl
theorem RelO.getD {o : Option V} {u : Option Value} {d : V} {d' : Value} (r : RelO o u) (rd : RelV d d') : RelV (o.getD d) (u.getD d') := by
  cases o with
  | none => cases u with
    | none => exact rd
    | some _ => exact (show False from r).elim
  | some _ => cases u with
    | none => exact (show False from r).elim
    | some _ => exact r
theorem KV.val {kvs : List (κ × V)} {vs : List (κ × Value)} (r : KV kvs vs) (k : κ) : RelO (valV kvs k) (valueAt vs k) := by
  unfold KV at r
  induction r with
  | nil => exact True.intro
  | @cons p q ps qs h t ih =>
    obtain ⟨h1, h2⟩ := h
    by_cases e : p.1 = k
    · have e' : q.1 = k := h1.symm.trans e
      have b : valueAt (q :: qs) k = some q.2 := by simp [valueAt, List.find?_cons, e']
      rw [valV_pos e, b]; exact h2
    · have e' : ¬ q.1 = k := fun z => e (h1.trans z)
      have b : valueAt (q :: qs) k = valueAt qs k := by simp [valueAt, List.find?_cons, e']
      rw [valV_neg e, b]; exact ih
theorem KV.any {kvs : List (κ × V)} {vs : List (κ × Value)} (r : KV kvs vs) (k : κ) : (kvs.any fun kv => decide (kv.1 = k)) = vs.any fun kv => decide (kv.1 = k) := by
  unfold KV at r
  induction r with
  | nil => rfl
  | cons h t ih => rw [List.any_cons, List.any_cons, ih, h.1]
theorem KV.repl {kvs : List (κ × V)} {vs : List (κ × Value)} (r : KV kvs vs) (k : κ) {y : V} {u : Value} (ry : RelV y u) :
    KV (kvs.map fun kv => if kv.1 = k then (kv.1, y) else kv) (vs.map fun kv => if kv.1 = k then (kv.1, u) else kv) := by
  unfold KV at r ⊢
  induction r with
  | nil => exact .nil
  | @cons p q ps qs h t ih =>
    rw [List.map_cons, List.map_cons]
    refine .cons ?_ ih
    obtain ⟨h1, h2⟩ := h
    by_cases e : p.1 = k
    · rw [if_pos e, if_pos (h1.symm.trans e)]; exact ⟨h1, ry⟩
    · rw [if_neg e, if_neg (fun z => e (h1.trans z))]; exact ⟨h1, h2⟩
theorem KV.put {kvs : List (κ × V)} {vs : List (κ × Value)} (r : KV kvs vs) (k : κ) {y : V} {u : Value} (ry : RelV y u) : KV (putK kvs k y) (stored vs k u) := by
  unfold putK stored
  rw [r.any k]
  by_cases e : (vs.any fun kv => decide (kv.1 = k)) = true
  · rw [if_pos e, if_pos e]; exact r.repl k ry
  · rw [if_neg e, if_neg e]; exact Paired.snoc r ⟨rfl, ry⟩
theorem KV.drop {kvs : List (κ × V)} {vs : List (κ × Value)} (r : KV kvs vs) (k : κ) : KV (dropK kvs k) (without vs k) := by
  unfold KV at r ⊢
  unfold dropK without
  induction r with
  | nil => exact .nil
  | @cons p q ps qs h t ih =>
    obtain ⟨h1, h2⟩ := h
    rw [List.filter_cons, List.filter_cons]
    by_cases e : p.1 = k
    · have a : ¬ decide (p.1 ≠ k) = true := by simp [e]
      have b : ¬ decide (q.1 ≠ k) = true := by simp [h1.symm.trans e]
      rw [if_neg a, if_neg b]; exact ih
    · have e' : ¬ q.1 = k := fun z => e (h1.trans z)
      have a : decide (p.1 ≠ k) = true := by simp [e]
      have b : decide (q.1 ≠ k) = true := by simp [e']
      rw [if_pos a, if_pos b]; exact .cons ⟨h1, h2⟩ ih
theorem KV.length {kvs : List (κ × V)} {vs : List (κ × Value)} (r : KV kvs vs) : kvs.length = vs.length := Paired.length r
end
abbrev KT (H : Hp) : List (List Key × V) → List (List Key × Addr × Value) → Prop := Paired fun p q => p.1 = q.1 ∧ H q.2.1 = some (.tup (p.1.map kV)) ∧ RelV p.2 q.2.2
theorem KT.val {H : Hp} {kvs : List (List Key × V)} {xs : List (List Key × Addr × Value)} (r : KT H kvs xs) (k : List Key) : RelO (valV kvs k) ((atKey xs k).map (·.2)) := by
  induction r with
  | nil => exact True.intro
  | @cons p q ps qs h t ih =>
    obtain ⟨h1, _, h2⟩ := h
    by_cases e : p.1 = k
    · have e' : q.1 = k := h1.symm.trans e
      have b : atKey (q :: qs) k = some q.2 := by simp [atKey, List.find?_cons, e']
      rw [valV_pos e, b]; exact h2
    · have e' : ¬ q.1 = k := fun z => e (h1.trans z)
      have b : atKey (q :: qs) k = atKey qs k := by simp [atKey, List.find?_cons, e']
      rw [valV_neg e, b]; exact ih
theorem KT.repl {H : Hp} {kvs : List (List Key × V)} {xs : List (List Key × Addr × Value)} (r : KT H kvs xs) (k : List Key) {y : V} {u : Value} (ry : RelV y u) :
    KT H (kvs.map fun kv => if kv.1 = k then (kv.1, y) else kv) (xs.map (putAt k u)) := by
  induction r with
  | nil => exact .nil
  | @cons p q ps qs h t ih =>
    rw [List.map_cons, List.map_cons]
    refine .cons ?_ ih
    obtain ⟨h1, h2, h3⟩ := h
    unfold putAt
    by_cases e : p.1 = k
    · rw [if_pos e, if_pos (h1.symm.trans e)]; exact ⟨h1, h2, ry⟩
    · rw [if_neg e, if_neg (fun z => e (h1.trans z))]; exact ⟨h1, h2, h3⟩
theorem KT.put {H : Hp} {kvs : List (List Key × V)} {xs : List (List Key × Addr × Value)} (r : KT H kvs xs) (k : List Key) {b : Addr} {y : V} {u : Value} (hb : H b = some (.tup (k.map kV))) (ry : RelV y u) :
    KT H (putK kvs k y) (storedH xs k b u) := by
  have e : (kvs.any fun kv => decide (kv.1 = k)) = (atKey xs k).isSome := by
    rw [valV_any, (r.val k).isSome_eq, Option.isSome_map]
  unfold putK storedH
  rw [e]
  by_cases q : (atKey xs k).isSome = true
  · rw [if_pos q, if_pos q]; exact r.repl k ry
  · rw [if_neg q, if_neg q]; exact Paired.snoc r ⟨rfl, hb, ry⟩
theorem KT.keeps {H H' : Hp} {kvs : List (List Key × V)} {xs : List (List Key × Addr × Value)} (r : KT H kvs xs) (ht : ∀ b ys, H b = some (.tup ys) → H' b = some (.tup ys)) : KT H' kvs xs :=
  Paired.mapP r fun _ _ z => ⟨z.1, ht _ _ z.2.1, z.2.2⟩
section
variable {P : Program} {w : World} {H : Hp} {h : Heap} {a : Addr}
end
def DGet (H : Hp) (a : Addr) (y : V) (r : Option V) : Prop :=
  (∃ kvs k, Rd H a (.dK kvs) ∧ y = kV k ∧ r = valV kvs k) ∨ ∃ kvs k b, Rd H a (.dT kvs) ∧ y = .ref b ∧ H b = some (.tup (k.map kV)) ∧ r = valV kvs k
def DPut (H : Hp) (a : Addr) (y v : V) (H' : Hp) : Prop :=
  (∃ kvs k, H a = some (.dK kvs) ∧ y = kV k ∧ kvs.length < sizeLine ∧ H' = upd H a (.dK (putK kvs k v))) ∨
  ∃ kvs k b, H a = some (.dT kvs) ∧ y = .ref b ∧ H b = some (.tup (k.map kV)) ∧ kvs.length < sizeLine ∧ H' = upd H a (.dT (putK kvs k v))
theorem DGet.k {H : Hp} {a : Addr} {kvs : List (Key × V)} {k : Key} (e : H a = some (.dK kvs)) : DGet H a (kV k) (valV kvs k) := .inl ⟨kvs, k, .inl e, rfl, rfl⟩
theorem DGet.t {H : Hp} {a b : Addr} {kvs : List (List Key × V)} {k : List Key} (e : H a = some (.dT kvs)) (eb : H b = some (.tup (k.map kV))) : DGet H a (.ref b) (valV kvs k) := .inr ⟨kvs, k, b, .inl e, rfl, eb, rfl⟩
theorem DPut.k {H : Hp} {a : Addr} {kvs : List (Key × V)} {k : Key} {v : V} (e : H a = some (.dK kvs)) (hl : kvs.length < sizeLine) : DPut H a (kV k) v (upd H a (.dK (putK kvs k v))) := .inl ⟨kvs, k, e, rfl, hl, rfl⟩
theorem DPut.t {H : Hp} {a b : Addr} {kvs : List (List Key × V)} {k : List Key} {v : V} (e : H a = some (.dT kvs)) (eb : H b = some (.tup (k.map kV))) (hl : kvs.length < sizeLine) :
    DPut H a (.ref b) v (upd H a (.dT (putK kvs k v))) := .inr ⟨kvs, k, b, e, rfl, eb, hl, rfl⟩
section
variable {X : Cx} {pins : List (Addr × Obj)} {σ : St} {H : Hp} {s : Shared} {a : Addr} {y v : V} {u r : Value} {o : Option V} {A : Around} {E : Value → Shared → Prop}
end
section
variable {X : Cx} {pins : List (Addr × Obj)} {σ : St} {H : Hp} {s : Shared} {a : Addr} {kvs : List (Key × V)} {k : Key} {u : Value} {A : Around} {E : Value → Shared → Prop}
end
section
variable {X : Cx} {o i e value : Expr} {pos pos' tpos : Pos} {td ty tv : TE}
end
section
variable {X : Cx} {pos : Pos}
end
structure M1 (X : Cx) (o : Expr) (m : Str) (apos : Pos) (e : Expr) (cpos : Pos) : Prop where
  base : attributeBase o m X.env (eval o X.env) = eval o X.env
  few : ((backTo cpos (starEach [e] X.env)).all (fun x => !x.1) && (backToKw cpos (keywordEach [] X.env)).all (fun x => x.1.isSome)
    && decide (([e] : List Expr).length + ([] : List Keyword).length + (if ([] : List Keyword).isEmpty then 0 else 1) < 30)) = true
  line : (apos.endLine == cpos.line) = true
  trees : backTo cpos (starEach [e] X.env) = [(false, eval e X.env)]
structure M2 (X : Cx) (o : Expr) (m : Str) (apos : Pos) (e f : Expr) (cpos : Pos) : Prop where
  base : attributeBase o m X.env (eval o X.env) = eval o X.env
  few : ((backTo cpos (starEach [e, f] X.env)).all (fun x => !x.1) && (backToKw cpos (keywordEach [] X.env)).all (fun x => x.1.isSome)
    && decide (([e, f] : List Expr).length + ([] : List Keyword).length + (if ([] : List Keyword).isEmpty then 0 else 1) < 30)) = true
  line : (apos.endLine == cpos.line) = true
  trees : backTo cpos (starEach [e, f] X.env) = [(false, eval e X.env), (false, eval f X.env)]
section
variable {X : Cx} {pins : List (Addr × Obj)} {σ : St} {H : Hp} {s : Shared} {a : Addr} {y d : V} {u r : Value} {o : Option V} {A : Around} {E : Value → Shared → Prop}
end
section
variable {X : Cx} {o e f : Expr} {apos cpos : Pos} {td ty tx : TE}
end
section
variable {X : Cx} {pins : List (Addr × Obj)} {σ : St} {H : Hp} {s : Shared} {a : Addr} {kvs : List (Key × V)} {A : Around} {E : Value → Shared → Prop}
end
section
variable {X : Cx} {pins : List (Addr × Obj)} {σ : St} {H : Hp} {s : Shared} {a : Addr} {y : V} {u : Value} {A : Around} {E : Value → Shared → Prop}
end
end L2
namespace L2
open PySem PySem.Spec PyProof.Rows
section
variable {X : Cx}
end
end L2
namespace L2
open PySem PySem.Spec PyProof.Rows
section
variable {κ : Type} [DecidableEq κ]
end
end L2
namespace L2
open PySem PySem.Spec PyProof.Rows
def tLoop (J : It) (g : TG) (tb : TS) : TS := fun D σ H => ∃ W : Nat → Nat → St → Hp → Prop, (∃ m, W 0 m σ H) ∧ ∀ i m σ H, W i m σ H →
  (J.stop i H ∧ D.nx σ H) ∨ (J.go i H ∧ ∃ N : St → Hp → Prop, (∀ σ' H', N σ' H' → ∃ m', m' < m ∧ W (i + 1) m' σ' H') ∧ ∀ x H', J.yld i H x H' → g x σ H' fun σ2 H2 => tb { D with nx := N, ct := N, bk := D.nx } σ2 H2)
def cInner (elt : Expr) (gens : List Comprehension) (scope : Scope) (pos : Pos) (d : Nat) (acc : Value) (env : Env) (k : Sem Fin) : Sem Fin :=
  match gens[d + 1]? with
  | some g' => eval g'.iter env >>= fun x => standAt g'.iter.pos >>= fun _ => foldedSetIterable g'.iter env x >>= fun x => holding [x] (pyIter x) >>= fun i =>
      runOwn (.compStart (.ListComp elt gens scope pos) (d + 1) i acc env) env >>= fun _ => k
  | none => (eval elt env >>= fun x => call (.builtin "list.append") [acc, x] >>= fun _ => pure ()) >>= fun _ => k
theorem compTurn_at {elt target iter : Expr} {ifs : List Expr} {gens : List Comprehension} {scope : Scope} {pos : Pos} {d : Nat} (it acc : Value) (env : Env) (hg : gens[d]? = some ⟨target, iter, ifs, 0⟩)
    (hn : ∀ g', gens[d + 1]? = some g' → g'.is_async = 0) :
    compTurn (.ListComp elt gens scope pos) d it acc env = (standAt iter.pos >>= fun _ => pyNext it >>= fun r => match r with
      | none => pure (.done .next)
      | some v => letOwnedTupleGo target it v >>= fun _ => assign target env v >>= fun _ =>
        (forIn ifs true fun c r => if r = true then do let ok ← isTrue c env (eval c env); pure (ForInStep.yield ok) else pure (ForInStep.yield r)) >>= fun ok =>
          if ok = true then cInner elt gens scope pos d acc env (again (.compLoop (.ListComp elt gens scope pos) d it acc env))
          else again (.compLoop (.ListComp elt gens scope pos) d it acc env)) := by
  unfold compTurn cInner
  simp only [hg]
  cases h : gens[d + 1]? with
  | none => rfl
  | some g' =>
    obtain ⟨t', i', f', a'⟩ := g'
    have e : a' = 0 := hn _ h
    subst e
    rfl
def tTests : List TT → TS → TS
  | [], tb => tb
  | c :: r, tb => tIfS c (tTests r tb) tNext
inductive PTs (X : Cx) : List Expr → List TT → Prop
  | nil : PTs X [] []
  | cons {c : Expr} {cs : List Expr} {t : TT} {ts : List TT} : PT X c t → PTs X cs ts → PTs X (c :: cs) (t :: ts)
section
variable {X : Cx}
theorem tests_false {cs : List Expr} {s : Shared} {Q : Bool → Shared → Prop} {E : Value → Shared → Prop} (h : Q false s) :
    wpAny (model X.prog X.w) X.A (forIn cs false fun c r => if r = true then do let ok ← isTrue c X.env (eval c X.env); pure (ForInStep.yield ok) else pure (ForInStep.yield r)) Q E s := by
  induction cs with
  | nil => rw [List.forIn_nil]; exact wpAny_pure h
  | cons c cs ih =>
    rw [List.forIn_cons, if_neg Bool.false_ne_true]
    exact wpAny_bind (wpAny_pure ih)
theorem tests_run {tb : TS} {D : Ends} {pins : List (Addr × Obj)} : ∀ {cs : List Expr} {ts : List TT}, PTs X cs ts → ∀ {s : Shared} {σ : St} {H : Hp}, Inv X pins σ H s → tTests ts tb D σ H →
    wpAny (model X.prog X.w) X.A (forIn cs true fun c r => if r = true then do let ok ← isTrue c X.env (eval c X.env); pure (ForInStep.yield ok) else pure (ForInStep.yield r))
      (fun ok s' => ∃ H', Inv X pins σ H' s' ∧ if ok = true then tb D σ H' else D.nx σ H') X.xe s
  | _, _, .nil, s, σ, H, I, h => by rw [List.forIn_nil]; exact wpAny_pure ⟨H, I, by rw [if_pos rfl]; exact h⟩
  | _, _, .cons (cs := cs) hc hr, s, σ, H, I, h => by
    rw [List.forIn_cons, if_pos rfl]
    refine wpAny_bind (wpAny_bind (thn (hc pins s σ H _ I h) fun b s1 ⟨H1, I1, q1⟩ => wpAny_pure ?_))
    cases b with
    | true =>
      rw [if_pos rfl] at q1
      exact tests_run hr I1 q1
    | false =>
      rw [if_neg Bool.false_ne_true] at q1
      exact tests_false ⟨H1, I1, by rw [if_neg Bool.false_ne_true]; exact q1⟩
end
def PB (X : Cx) (elt : Expr) (gens : List Comprehension) (scope : Scope) (pos : Pos) (d : Nat) (acc : Addr) (t : TS) : Prop :=
  ∀ (pins : List (Addr × Obj)) (s : Shared) (σ : St) (H : Hp) (D : Ends) (k : Sem Fin) (Q : Fin → Shared → Prop) (E : Value → Shared → Prop), Inv X pins σ H s → t D σ H →
    (∀ s' σ' H', Inv X pins σ' H' s' → D.nx σ' H' → wpAny (model X.prog X.w) X.A k Q E s') → wpAny (model X.prog X.w) X.A (cInner elt gens scope pos d (.ref acc) X.env k) Q E s
def tEmit (te : TE) (acc : Addr) : TS := fun D σ H => te σ H fun x H1 => ∃ xs, H1 acc = some (.lst xs) ∧ xs.length < sizeLine ∧ D.nx σ (upd H1 acc (.lst (xs ++ [x])))
section
variable {X : Cx}
theorem pb_emit {elt : Expr} {gens : List Comprehension} {scope : Scope} {pos : Pos} {d : Nat} {acc : Addr} {te : TE} (hx : X.xe = fun _ _ => False) (he : PE X elt te) (hl : gens[d + 1]? = none) : PB X elt gens scope pos d acc (tEmit te acc) := by
  intro pins s σ H D k Q E I h hk
  unfold cInner
  rw [hl]
  refine wpAny_bind (wpAny_bind (wpAny_mono (he pins s σ H _ I h) (fun v s1 ⟨x, H1, I1, r1, xs, ha, hz, q⟩ => ?_) fun _ _ z => by rw [hx] at z; exact z.elim))
  have hm := mt_append (X := X) pins s1 σ H1 (.ref acc) [x] (.ref acc) [v] (fun v H' => v = .non ∧ D.nx σ H') I1 rfl (.cons r1 .nil) ⟨acc, xs, x, rfl, rfl, ha, hz, rfl, q⟩
  refine wpAny_bind (wpAny_mono hm (fun _ s2 ⟨x2, H2, I2, r2, _, q2⟩ => wpAny_pure (hk s2 σ H2 I2 q2)) fun _ _ z => by rw [hx] at z; exact z.elim)
theorem comp_loop {elt target iter : Expr} {ifs : List Expr} {gens : List Comprehension} {scope : Scope} {pos : Pos} {d : Nat} {acc it : Addr} {fp : List Addr} {tn : Nat → Heap → Prop} {J : It} {g : TG} {ts : List TT} {tb : TS} {D : Ends} {pins : List (Addr × Obj)} {s : Shared} {σ : St} {H : Hp}
    (hx : X.xe = fun _ _ => False) (hc : X.calm = true) (hgd : gens[d]? = some ⟨target, iter, ifs, 0⟩) (hn : ∀ g', gens[d + 1]? = some g' → g'.is_async = 0)
    (hg : PG X target g) (hts : PTs X ifs ts) (hb : PB X elt gens scope pos d acc tb)
    (T : Turn X.prog X.w X.K target J fp it tn) (I : Inv X pins σ H s) (st : tn 0 s.heap) (hf : ∀ b ∈ fp, FpOk X pins H b) (h : tLoop J g (tTests ts tb) D σ H) :
    codeAny (model X.prog X.w) X.A (.compStart (.ListComp elt gens scope pos) d (.ref it) (.ref acc) X.env) (fun r s' => ∃ f, r = .ok f ∧ ∃ σ' H', Inv X pins σ' H' s' ∧ D.nx σ' H') s := by
  have stat : ∀ {H' : Hp}, (∀ b ∈ fp, H' b = none) → ∀ b ∈ fp, FpOk X pins H' b := fun hn b hb => ⟨hn b hb, (hf b hb).2⟩
  obtain ⟨W, ⟨m0, w0⟩, turn⟩ := h
  have E0 : ∀ (e : Value) (s' : Shared), X.xe e s' → notedBy (model X.prog X.w) X.A X.env (fun e s' => ∃ f, (Except.error e : Result) = .ok f ∧ ∃ σ' H', Inv X pins σ' H' s' ∧ D.nx σ' H') e s' := fun e s' z => by rw [hx] at z; exact z.elim
  have loop : codeAny (model X.prog X.w) X.A (.compLoop (.ListComp elt gens scope pos) d (.ref it) (.ref acc) X.env) (fun r s' => ∃ f, r = .ok f ∧ ∃ σ' H', Inv X pins σ' H' s' ∧ D.nx σ' H') s := by
    refine codeAny_loop rfl (fun n s' => ∃ i σ' H', Inv X pins σ' H' s' ∧ tn i s'.heap ∧ (∀ b ∈ fp, H' b = none) ∧ W i n σ' H') ?_ m0 ⟨0, σ, H, I, st, fun b hb => (hf b hb).1, w0⟩
    rintro n s3 ⟨i, σ3, H3, I3, st3, fr3, w3⟩
    show wpAny _ X.A ((compTurn (.ListComp elt gens scope pos) d (.ref it) (.ref acc) X.env).onRaise (fun x => do noteFrame x X.env; theTreesLotGoes x)) _ _ s3
    refine wpAny_noted ?_
    rw [compTurn_at _ _ _ hgd hn]
    refine wpAny_bind (wpAny_standAt (wpAny_bind ?_))
    rcases turn i n σ3 H3 w3 with ⟨stop, qn⟩ | ⟨go, N, hN, step⟩
    · refine wpAny_mono (T.done X rfl rfl rfl hc i pins s3 σ3 H3 (fun _ _ => False) I3 (stat fr3) st3 stop) (fun r s4 ⟨hr, I4⟩ => ?_) (fun _ _ z => z.elim)
      subst hr
      exact wpAny_pure ⟨.next, rfl, σ3, H3, I4, qn⟩
    · refine wpAny_mono (T.item X rfl rfl rfl hc i pins s3 σ3 H3 (fun _ _ => False) I3 (stat fr3) st3 go) (fun r s4 ⟨u, hr, h4⟩ => ?_) (fun _ _ z => z.elim)
      subst hr
      refine wpAny_bind (wpAny_mono h4 (fun _ s5 ⟨x, H5, I5, r5, y5, st5, fr5⟩ => ?_) (fun _ _ z => z.elim))
      have I5' := I5.pinned (stat fr5) (T.obj _ _ st5)
      refine wpAny_bind (wpAny_mono (hg _ s5 σ3 H5 x u _ I5' r5 (step x H5 y5)) (fun _ s6 ⟨σ6, H6, I6, q6⟩ => ?_) E0)
      refine wpAny_bind (wpAny_mono (tests_run hts I6 q6) (fun ok s7 ⟨H7, I7, q7⟩ => ?_) E0)
      have again : ∀ {σ7 : St} {H7 : Hp} {s7 : Shared}, Inv X (pins ++ pinsAt fp s5.heap) σ7 H7 s7 → N σ7 H7 → ∃ m, m < n ∧ ∃ i σ' H', Inv X pins σ' H' s7 ∧ tn i s7.heap ∧ (∀ b ∈ fp, H' b = none) ∧ W i m σ' H' := fun {σ7 H7 s7} I7 n7 => by
        obtain ⟨m', hm, w7⟩ := hN σ7 H7 n7
        refine ⟨m', hm, i + 1, σ7, H7, I7.unpinned, T.keep _ _ _ st5 fun b hb o e => (I7.pin (b, o) (List.mem_append_right _ (List.mem_append_right _ (mem_pinsAt hb e)))).1, fun b hb => ?_, w7⟩
        obtain ⟨o, e, d⟩ := T.obj _ _ st5 b hb
        exact (I7.pin (b, o) (List.mem_append_right _ (List.mem_append_right _ (mem_pinsAt hb e)))).2.1
      cases ok with
      | false =>
        rw [if_neg Bool.false_ne_true] at q7 ⊢
        exact wpAny_pure ⟨rfl, again I7 q7⟩
      | true =>
        rw [if_pos rfl] at q7 ⊢
        exact hb _ s7 σ6 H7 _ _ _ _ I7 q7 fun s8 σ8 H8 I8 q8 => wpAny_pure ⟨rfl, again I8 q8⟩
  refine codeAny_of_tree ?_
  show wpAny _ _ ((compStart (.ListComp elt gens scope pos) d (.ref it) (.ref acc) X.env).onRaise (fun x => do noteFrame x X.env; standAt theWindowsPlace)) _ _ s
  refine wpAny_notedAt ?_
  have hcl : clausesOf (.ListComp elt gens scope pos) = gens := rfl
  unfold compStart
  rw [hcl, hgd]
  show wpAny _ _ (ask >>= _) _ _ s
  refine wpAny_bind (wpAny_askSetting (wpAny_ite ?_))
  split
  · first
      | exact wpAny_bind (wpAny_pure (wpAny_pure (And.intro rfl loop)))
      | exact wpAny_pure (And.intro rfl loop)
  · refine wpAny_bind (wpAny_rule ?_)
    show wpAny _ _ (standAt iter.pos >>= _) _ _ s
    exact wpAny_bind (wpAny_standAt (wpAny_bind (T.self X.A 0 s _ _ st (wpAny_pure (And.intro rfl loop)))))
end
end L2
namespace L2
open PySem PySem.Spec PyProof.Rows
def closC (cells : List (Str × Addr)) : List (Str × NameKind) → List (Str × Addr) → List (Str × Addr)
  | [], acc => acc
  | (n, k) :: r, acc => if k == .free then closC cells r ((n, (cells.lookup n).getD 0) :: acc) else closC cells r acc
theorem closureFor_are {scope : Scope} {env : Env} (h : ∀ x ∈ scope.names, x.2 = .free → (env.cells.lookup x.1).isSome = true) : closureFor scope env = pure (closC env.cells scope.names []) := by
  have go : ∀ (names : List (Str × NameKind)) (acc : List (Str × Addr)), (∀ x ∈ names, x.2 = .free → (env.cells.lookup x.1).isSome = true) →
      (forIn names acc fun x (r : List (Str × Addr)) => if x.2 == NameKind.free then (do let c ← cellOf env x.1; pure (ForInStep.yield ((x.1, c) :: r))) else pure (ForInStep.yield r) : Sem (List (Str × Addr))) = pure (closC env.cells names acc) := by
    intro names
    induction names with
    | nil => intro acc _; rw [List.forIn_nil]; rfl
    | cons x r ih =>
      intro acc hh
      obtain ⟨n, k⟩ := x
      rw [List.forIn_cons]
      unfold closC
      cases hk : k == NameKind.free with
      | false =>
        rw [if_neg Bool.false_ne_true, if_neg Bool.false_ne_true]
        exact ih acc fun y hy => hh y (List.mem_cons_of_mem _ hy)
      | true =>
        rw [if_pos rfl, if_pos rfl]
        obtain ⟨c, hc⟩ := Option.isSome_iff_exists.mp (hh (n, k) List.mem_cons_self (by simpa using hk))
        have e : cellOf env n = pure c := by
          unfold cellOf
          rw [show env.cells.lookup n = some c from hc]
        show (do let x ← (do let c ← cellOf env n; pure (ForInStep.yield ((n, c) :: acc))); _) = _
        rw [e]
        rw [show ((env.cells.lookup n).getD 0) = c by rw [show env.cells.lookup n = some c from hc]; rfl]
        exact ih ((n, c) :: acc) fun y hy => hh y (List.mem_cons_of_mem _ hy)
  have := go scope.names [] h
  unfold closureFor
  refine Eq.trans ?_ (congrArg (fun m => m >>= fun r => pure r) this |>.trans rfl)
  rfl
theorem closC_out {cells : List (Str × Addr)} {x : Str} : ∀ (names : List (Str × NameKind)) (acc : List (Str × Addr)), (x, NameKind.free) ∉ names → (closC cells names acc).lookup x = acc.lookup x
  | [], _, _ => rfl
  | (n, k) :: r, acc, h => by
    unfold closC
    have hr : (x, NameKind.free) ∉ r := fun z => h (List.mem_cons_of_mem _ z)
    cases hk : k == NameKind.free with
    | false => rw [if_neg Bool.false_ne_true]; exact closC_out r acc hr
    | true =>
      rw [if_pos rfl, closC_out r _ hr, List.lookup_cons]
      have e : k = .free := by simpa using hk
      have ne : (x == n) = false := by
        cases q : x == n with
        | false => rfl
        | true => exact absurd (by rw [beq_iff_eq.mp q, e]; exact List.mem_cons_self) h
      rw [ne]
theorem closC_in {cells : List (Str × Addr)} {x : Str} {c : Addr} (hc : cells.lookup x = some c) : ∀ (names : List (Str × NameKind)) (acc : List (Str × Addr)), (x, NameKind.free) ∈ names → (closC cells names acc).lookup x = some c
  | [], _, h => by simp at h
  | (n, k) :: r, acc, h => by
    unfold closC
    by_cases hr : (x, NameKind.free) ∈ r
    · cases hk : k == NameKind.free with
      | false => rw [if_neg Bool.false_ne_true]; exact closC_in hc r acc hr
      | true => rw [if_pos rfl]; exact closC_in hc r _ hr
    · rcases List.mem_cons.mp h with e | e
      · cases e
        rw [if_pos (by decide), closC_out r _ hr, List.lookup_cons]
        simp [hc]
      · exact absurd e hr
theorem closC_from {cells : List (Str × Addr)} {x : Str} {c : Addr} : ∀ (names : List (Str × NameKind)) (acc : List (Str × Addr)), (∀ y ∈ names, y.2 = .free → (cells.lookup y.1).isSome = true) → (x, c) ∈ closC cells names acc →
    (x, c) ∈ acc ∨ ((x, NameKind.free) ∈ names ∧ cells.lookup x = some c)
  | [], _, _, h => .inl h
  | (n, k) :: r, acc, hh, h => by
    unfold closC at h
    have hr : ∀ y ∈ r, y.2 = .free → (cells.lookup y.1).isSome = true := fun y hy => hh y (List.mem_cons_of_mem _ hy)
    cases hk : k == NameKind.free with
    | false =>
      rw [hk, if_neg Bool.false_ne_true] at h
      exact (closC_from r acc hr h).imp id fun z => ⟨List.mem_cons_of_mem _ z.1, z.2⟩
    | true =>
      rw [hk, if_pos rfl] at h
      have ek : k = .free := by simpa using hk
      rcases closC_from r _ hr h with z | z
      · rcases List.mem_cons.mp z with z | z
        · cases z
          obtain ⟨d, hd⟩ := Option.isSome_iff_exists.mp (hh (x, k) List.mem_cons_self ek)
          exact .inr ⟨by rw [ek]; exact List.mem_cons_self, by rw [hd]; rfl⟩
        · exact .inl z
      · exact .inr ⟨List.mem_cons_of_mem _ z.1, z.2⟩
theorem closC_apart {cells : List (Str × Addr)} (inj : ∀ x y c, cells.lookup x = some c → cells.lookup y = some c → x = y) : ∀ (names : List (Str × NameKind)) (acc : List (Str × Addr)), (names.map (·.1)).Nodup →
    (∀ y ∈ names, y.2 = .free → (cells.lookup y.1).isSome = true) → (∀ p ∈ acc, cells.lookup p.1 = some p.2 ∧ p.1 ∉ names.map (·.1)) → (acc.Pairwise fun x y => x.2 ≠ y.2) → (closC cells names acc).Pairwise fun x y => x.2 ≠ y.2
  | [], _, _, _, _, h => h
  | (n, k) :: r, acc, nd, hh, ha, h => by
    unfold closC
    have hr : ∀ y ∈ r, y.2 = .free → (cells.lookup y.1).isSome = true := fun y hy => hh y (List.mem_cons_of_mem _ hy)
    obtain ⟨n1, n2⟩ := List.nodup_cons.mp nd
    cases hk : k == NameKind.free with
    | false =>
      rw [if_neg Bool.false_ne_true]
      exact closC_apart inj r acc n2 hr (fun p hp => ⟨(ha p hp).1, fun z => (ha p hp).2 (List.mem_cons_of_mem _ z)⟩) h
    | true =>
      rw [if_pos rfl]
      have ek : k = .free := by simpa using hk
      obtain ⟨d, hd⟩ := Option.isSome_iff_exists.mp (hh (n, k) List.mem_cons_self ek)
      have hd' : cells.lookup n = some d := hd
      refine closC_apart inj r _ n2 hr (fun p hp => ?_) (List.pairwise_cons.mpr ⟨fun p hp e => ?_, h⟩)
      · rcases List.mem_cons.mp hp with e | hp
        · subst e; exact ⟨by rw [hd']; rfl, n1⟩
        · exact ⟨(ha p hp).1, fun z => (ha p hp).2 (List.mem_cons_of_mem _ z)⟩
      · rw [hd'] at e
        have e' : d = p.2 := e
        have : n = p.1 := inj n p.1 d hd' (by rw [e']; exact (ha p hp).1)
        exact (ha p hp).2 (by rw [← this]; exact List.mem_cons_self)
theorem cellsFrom_from {x : Str} {c : Addr} : ∀ (names : List (Str × NameKind)) (n : Nat) (acc : List (Str × Addr)), (x, c) ∈ cellsFrom n names acc → (n ≤ c ∧ (x, NameKind.cell) ∈ names) ∨ (x, c) ∈ acc
  | [], _, _, h => .inr h
  | (y, k) :: r, n, acc, h => by
    unfold cellsFrom at h
    cases hk : k == NameKind.cell with
    | false =>
      rw [hk, if_neg Bool.false_ne_true] at h
      exact (cellsFrom_from r n acc h).imp (fun z => ⟨z.1, List.mem_cons_of_mem _ z.2⟩) id
    | true =>
      rw [hk, if_pos rfl] at h
      have ek : k = .cell := by simpa using hk
      rcases cellsFrom_from r (n + 1) _ h with z | z
      · exact .inl ⟨by omega, List.mem_cons_of_mem _ z.2⟩
      · rcases List.mem_cons.mp z with z | z
        · cases z
          exact .inl ⟨Nat.le_refl _, by rw [ek]; exact List.mem_cons_self⟩
        · exact .inr z
theorem cellsFrom_apart : ∀ (names : List (Str × NameKind)) (n : Nat) (acc : List (Str × Addr)), (∀ p ∈ acc, p.2 < n) → (acc.Pairwise fun x y => x.2 ≠ y.2) → (cellsFrom n names acc).Pairwise fun x y => x.2 ≠ y.2
  | [], _, _, _, h => h
  | (y, k) :: r, n, acc, hl, h => by
    unfold cellsFrom
    cases hk : k == NameKind.cell with
    | false => rw [if_neg Bool.false_ne_true]; exact cellsFrom_apart r n acc hl h
    | true =>
      rw [if_pos rfl]
      refine cellsFrom_apart r (n + 1) _ (fun p hp => ?_) (List.pairwise_cons.mpr ⟨fun p hp e => ?_, h⟩)
      · rcases List.mem_cons.mp hp with e | hp
        · subst e; exact Nat.lt_succ_self _
        · exact Nat.lt_succ_of_lt (hl p hp)
      · have e' : n = p.2 := e
        exact Nat.lt_irrefl _ (e' ▸ hl p hp)
theorem cellsFrom_out {x : Str} : ∀ (names : List (Str × NameKind)) (n : Nat) (acc : List (Str × Addr)), (x, NameKind.cell) ∉ names → (cellsFrom n names acc).lookup x = acc.lookup x
  | [], _, _, _ => rfl
  | (y, k) :: r, n, acc, h => by
    unfold cellsFrom
    have hr : (x, NameKind.cell) ∉ r := fun z => h (List.mem_cons_of_mem _ z)
    cases hk : k == NameKind.cell with
    | false => rw [if_neg Bool.false_ne_true]; exact cellsFrom_out r n acc hr
    | true =>
      rw [if_pos rfl, cellsFrom_out r _ _ hr, List.lookup_cons]
      have e : k = .cell := by simpa using hk
      have ne : (x == y) = false := by
        cases q : x == y with
        | false => rfl
        | true => exact absurd (by rw [beq_iff_eq.mp q, e]; exact List.mem_cons_self) h
      rw [ne]
theorem pushCells_empty {x : Str} {c : Addr} : ∀ (names : List (Str × NameKind)) (h : Heap) (acc : List (Str × Addr)), (x, c) ∈ cellsFrom h.objs.size names acc → (x, c) ∈ acc ∨ (pushCells h names).IsCell c none
  | [], _, _, hm => .inl hm
  | (y, k) :: r, h, acc, hm => by
    unfold cellsFrom at hm
    unfold pushCells
    cases hk : k == NameKind.cell with
    | false =>
      rw [hk, if_neg Bool.false_ne_true] at hm
      rw [if_neg Bool.false_ne_true]
      exact pushCells_empty r h acc hm
    | true =>
      rw [hk, if_pos rfl] at hm
      rw [if_pos rfl]
      have := pushCells_empty (x := x) (c := c) r (h.push { cls := .type "cell", data := .cell none }) ((y, h.objs.size) :: acc) (by rw [Heap.size_push]; exact hm)
      rcases this with z | z
      · rcases List.mem_cons.mp z with z | z
        · cases z
          exact .inr ⟨_, pushCells_keeps r _ _ _ (Heap.get?_push_size _ rfl), rfl⟩
        · exact .inl z
      · exact .inr z
theorem lookup_mem_nodup {x : Str} {k : NameKind} : ∀ {names : List (Str × NameKind)}, (names.map (·.1)).Nodup → (x, k) ∈ names → names.lookup x = some k
  | [], _, h => by simp at h
  | (y, j) :: r, nd, h => by
    obtain ⟨n1, n2⟩ := List.nodup_cons.mp nd
    rw [List.lookup_cons]
    rcases List.mem_cons.mp h with e | e
    · cases e; simp
    · have ne : (x == y) = false := by
        cases q : x == y with
        | false => rfl
        | true => exact absurd (List.mem_map.mpr ⟨(x, k), e, beq_iff_eq.mp q⟩) n1
      rw [ne]
      exact lookup_mem_nodup n2 e
theorem relabel_cases {scope : Scope} {env : Env} {x : Str} {k : NameKind} : (relabel scope env).names.lookup x = some k → (k = .cell ∨ k = .free) → scope.names.lookup x = some .cell ∨ scope.names.lookup x = some .free := by
  unfold relabel
  show (scope.names.map _).lookup x = some k → _
  induction scope.names with
  | nil => intro h; simp at h
  | cons p r ih =>
    obtain ⟨n, j⟩ := p
    intro h hk
    rw [List.map_cons] at h
    rw [List.lookup_cons]
    by_cases hc : (j == NameKind.free && env.scope.kind == .function && env.kindOf n == some .cell) = true
    · simp only [hc, if_true] at h
      rw [List.lookup_cons] at h
      cases q : x == n with
      | true =>
        have : j = .free := by
          have := (Bool.and_eq_true_iff.mp (Bool.and_eq_true_iff.mp hc).1).1
          simpa using this
        simp [this]
      | false => rw [q] at h; simpa using ih h hk
    · simp only [hc, Bool.false_eq_true, if_false] at h
      rw [List.lookup_cons] at h
      cases q : x == n with
      | true =>
        rw [q] at h
        simp only [Option.some.injEq] at h
        subst h
        rcases hk with e | e <;> simp [e]
      | false => rw [q] at h; simpa using ih h hk
theorem relabel_free {scope : Scope} {env : Env} {x : Str} (hf : env.scope.kind = .function) : scope.names.lookup x = some .free → (relabel scope env).names.lookup x = some .cell ∨ (relabel scope env).names.lookup x = some .free := by
  unfold relabel
  show _ → (scope.names.map _).lookup x = _ ∨ (scope.names.map _).lookup x = _
  induction scope.names with
  | nil => intro h; simp at h
  | cons p r ih =>
    obtain ⟨n, j⟩ := p
    intro h
    rw [List.lookup_cons] at h
    rw [List.map_cons]
    cases q : x == n with
    | true =>
      rw [q] at h
      simp only [Option.some.injEq] at h
      subst h
      by_cases hc : (NameKind.free == NameKind.free && env.scope.kind == .function && env.kindOf n == some .cell) = true
      · left; simp only [hc, if_true]; rw [List.lookup_cons, q]
      · right; simp only [hc, Bool.false_eq_true, if_false]; rw [List.lookup_cons, q]
    | false =>
      rw [q] at h
      by_cases hc : (j == NameKind.free && env.scope.kind == .function && env.kindOf n == some .cell) = true
      · simp only [hc, if_true]; rw [List.lookup_cons, q]; exact ih h
      · simp only [hc, Bool.false_eq_true, if_false]; rw [List.lookup_cons, q]; exact ih h
end L2
namespace L2
open PySem PySem.Spec PyProof.Rows
def cxComp (X : Cx) (N : List Str) (scope : Scope) (s : Shared) (H : Hp) (fp : List Addr) : Cx where
  prog := X.prog
  w := X.w
  K := X.K
  mg := X.mg
  base := X.base
  A := X.A
  N := N
  s₀ := s
  H₀ := H
  env := compEnvC scope (cellsFrom (s.heap.objs.size + 1) scope.names (closC X.env.cells scope.names [])) s.heap.objs.size X.env
  outer := X.stack
  stack := X.stack
  ex := fp
  fn := fun x => scope.names.lookup x == some .cell
  calm := X.calm
  pn := []
  xe := fun _ _ => False
def capt (σ : St) : Option Nat → Option V
  | none => none
  | some j => (σ[j]?).join
def compOk (N : List Str) (names encl : List (Str × NameKind)) (N' : List Str) (ix : List (Option Nat)) : Bool :=
  decide ((names.map (·.1)).Nodup) && names.all (fun p => !(p.2 == NameKind.free) || (encl.lookup p.1 == some NameKind.cell || encl.lookup p.1 == some NameKind.free)) && ix.length == N'.length &&
    ((N'.zip ix).all fun p => match p.2 with
      | none => true
      | some j => N[j]? == some p.1 && names.lookup p.1 == some NameKind.free)
def tComp (ix : List (Option Nat)) (wi : TI) (g : TG) (ts : List TT) (tb : Addr → TS) : TE := fun σ H Q => wi σ H fun J H1 => ∀ acc, H1 acc = none →
  tLoop J g (tTests ts (tb acc)) { nx := fun _ H' => Q (.ref acc) H', rt := fun _ _ => False } (ix.map (capt σ)) (upd H1 acc (.lst []))
section
variable {X : Cx} {elt target iter : Expr} {ifs : List Expr} {rest : List Comprehension} {scope : Scope} {pos : Pos} {N' : List Str} {ix : List (Option Nat)} {wi : TI} {g : TG} {ts : List TT} {tb : Addr → TS}
theorem comp_enter {pins : List (Addr × Obj)} {σ : St} {H : Hp} {s : Shared} {fp : List Addr} {Q : Env → Shared → Prop} {E : Value → Shared → Prop} (I : Inv X pins σ H s) (hok : compOk X.N scope.names X.env.scope.names N' ix = true) (hk : scope.kind = .function)
    (hf : ∀ b ∈ fp, FpOk X pins H b) (hfo : ∀ b ∈ fp, ∃ o, s.heap.get? b = some o)
    (h : ∀ s', (∀ b o, s.heap.get? b = some o → s'.heap.get? b = some o) → Inv (cxComp X N' scope s H fp) [] (ix.map (capt σ)) H s' → Q (newEnv scope s.heap.objs.size X.env.globals (cellsFrom (s.heap.objs.size + 1) scope.names (closC X.env.cells scope.names [])) X.env.qual none .none (some X.env) builtinsNs) s') :
    wpAny (model X.prog X.w) X.A (newFunctionEnv scope X.env.globals (closC X.env.cells scope.names []) [] X.env.qual none .none (some X.env)) Q E s := by
  have hok2 := hok
  simp only [compOk, Bool.and_eq_true, decide_eq_true_eq, List.all_eq_true] at hok
  obtain ⟨⟨⟨nd, hfr⟩, hlen⟩, hix⟩ := hok
  have hlen : ix.length = N'.length := by simpa using hlen
  have isF : ∀ y ∈ scope.names, y.2 = .free → X.env.kindOf y.1 = some .cell ∨ X.env.kindOf y.1 = some .free := fun y hy e => by
    have := hfr y hy
    have : X.env.scope.names.lookup y.1 = some .cell ∨ X.env.scope.names.lookup y.1 = some .free := by simpa [e] using this
    exact this
  have hasC : ∀ y ∈ scope.names, y.2 = .free → (X.env.cells.lookup y.1).isSome = true := fun y hy e => by
    obtain ⟨c, hc⟩ := I.ok.has y.1 (isF y hy e)
    rw [hc]; rfl
  have oldC : ∀ x c, (x, c) ∈ closC X.env.cells scope.names [] → (x, NameKind.free) ∈ scope.names ∧ X.env.cells.lookup x = some c := fun x c hm => (closC_from _ _ hasC hm).resolve_left (by simp)
  have ltC : ∀ x c, X.env.cells.lookup x = some c → c < s.heap.objs.size := fun x c e => by obtain ⟨v, q⟩ := I.cell x c e; exact q.lt
  have apart : (cellsFrom (s.heap.objs.size + 1) scope.names (closC X.env.cells scope.names [])).Pairwise fun x y => x.2 ≠ y.2 :=
    cellsFrom_apart _ _ _ (fun p hp => Nat.lt_succ_of_lt (ltC p.1 p.2 (oldC p.1 p.2 hp).2)) (closC_apart I.ok.inj _ _ nd hasC (by simp) List.Pairwise.nil)
  have fromC : ∀ x c, (cellsFrom (s.heap.objs.size + 1) scope.names (closC X.env.cells scope.names [])).lookup x = some c → (s.heap.objs.size + 1 ≤ c ∧ (x, NameKind.cell) ∈ scope.names) ∨ ((x, NameKind.free) ∈ scope.names ∧ X.env.cells.lookup x = some c) := fun x c e =>
    (cellsFrom_from _ _ _ (PySem.mem_of_lookup e)).imp id fun z => oldC x c z
  have sz1 : (s.heap.push { cls := .type "dict", data := .dict #[] }).objs.size = s.heap.objs.size + 1 := Heap.size_push ..
  simp only [newFunctionEnv, Option.isSome_some, if_true]
  refine wpAny_bind (wpAny_alloc ?_)
  refine wpAny_bind (wpAny_layCells _ (fun name kind cells => by cases hkc : kind == NameKind.cell <;> simp [hkc]) _ _ _ _ ?_)
  rw [show ({ s with heap := s.heap.push { cls := .type "dict", data := .dict #[] } } : Shared).heap.objs.size = s.heap.objs.size + 1 from sz1]
  refine wpAny_bind ?_
  rw [List.forIn_nil]
  refine wpAny_pure (wpAny_pure ?_)
  have keep : ∀ b o, s.heap.get? b = some o → (pushCells (s.heap.push { cls := .type "dict", data := .dict #[] }) scope.names).get? b = some o := fun b o e => pushCells_keeps _ _ b o (Heap.get?_push_of_some _ e)
  refine h _ keep ?_
  have kk : ∀ x : Str, (cxComp X N' scope s H fp).env.kindOf x = (relabel scope X.env).names.lookup x := fun _ => rfl
  have emptyC : ∀ x c, (cellsFrom (s.heap.objs.size + 1) scope.names (closC X.env.cells scope.names [])).lookup x = some c → ∃ v, (pushCells (s.heap.push { cls := .type "dict", data := .dict #[] }) scope.names).IsCell c v := fun x c e => by
    have := pushCells_empty (x := x) (c := c) scope.names (s.heap.push { cls := .type "dict", data := .dict #[] }) (closC X.env.cells scope.names []) (by rw [sz1]; exact PySem.mem_of_lookup e)
    rcases this with z | z
    · obtain ⟨v, q⟩ := I.cell x c (oldC x c z).2
      exact ⟨v, q.keeps keep⟩
    · exact ⟨none, z⟩
  refine ⟨⟨I.ok.mod, hk, I.ok.glob, I.ok.blt, Nat.le_refl _, fun y z c h1 h2 => ?_, fun y hy => ?_, fun y c hy e => ?_, I.ok.hd, I.ok.frames, .inl rfl, fun b hb => ⟨?_, fun x c e => ?_⟩, I.bs, Nat.le_trans I.ok.bsz I.sz, fun b o e hb => ?_, fun b hb hs => ?_, I.stack, I.stkFree⟩,
    rfl, I.bare, Un.kept keep, ⟨fun _ => none, (Heap.Ns.new s.heap (.type "dict")).keeps (pushCells_keeps _ _), fun i x v e1 e2 e3 => ?_⟩, emptyC, I.hok.fresh (Nat.le_refl _), fun y c e => ?_, fun p hp => absurd (show p ∈ ([] : List (Addr × Obj)) from hp) (by simp), I.hok.kept keep, by rw [List.length_map]; exact hlen⟩
  · exact name_of_addr apart (PySem.mem_of_lookup h1) (PySem.mem_of_lookup h2)
  · rw [kk] at hy
    have hy' : scope.names.lookup y = some .cell ∨ scope.names.lookup y = some .free := by
      rcases hy with q | q
      · exact relabel_cases q (.inl rfl)
      · exact relabel_cases q (.inr rfl)
    refine Option.isSome_iff_exists.mp (PySem.W.cellsFrom_some _ _ _ ?_)
    rcases hy' with q | q
    · exact .inl q
    · have hm := PySem.mem_of_lookup q
      obtain ⟨c, hc⟩ := Option.isSome_iff_exists.mp (hasC _ hm rfl)
      exact .inr (by rw [closC_in hc _ _ hm]; rfl)
  · have hy : scope.names.lookup y = some .cell := by simpa using (show (scope.names.lookup y == some NameKind.cell) = true from hy)
    rcases fromC y c e with z | z
    · exact Nat.le_of_succ_le z.1
    · have := lookup_mem_nodup nd z.1
      rw [hy] at this; cases this
  · obtain ⟨o, ho⟩ := hfo b hb
    exact Nat.ne_of_lt (Heap.lt_size ho)
  · rcases fromC x c e with z | z
    · obtain ⟨o, ho⟩ := hfo b hb
      exact Nat.ne_of_gt (Nat.lt_of_lt_of_le (Heap.lt_size ho) (Nat.le_of_succ_le z.1))
    · exact (hf b hb).2.2.2.2.1 x c z.2
  · rcases (hf b hb).2.2.2.1 with z | z
    · exact I.ok.noex b o e z
    · exact absurd (Nat.lt_of_lt_of_le (Heap.lt_size (I.ok.bs b o e).1) z) (Nat.lt_irrefl _)
  · rcases List.mem_cons.mp (I.stkSub b hs) with z | z
    · exact (hf b hb).2.1 z
    · exact (hf b hb).2.2.1 z
  · rw [List.getElem?_map] at e2
    cases hj : ix[i]? with
    | none => rw [hj] at e2; cases e2
    | some oj =>
      rw [hj] at e2
      have e2 : capt σ oj = some v := by simpa using e2
      cases oj with
      | none => cases e2
      | some j =>
        have hv : σ[j]? = some (some v) := by
          have e2' : (σ[j]?).join = some v := e2
          cases q : σ[j]? with
          | none => rw [q] at e2'; cases e2'
          | some w => rw [q] at e2'; have : w = some v := e2'; rw [this]
        have hz : (x, some j) ∈ N'.zip ix := by
          refine List.mem_of_getElem? (i := i) ?_
          rw [List.getElem?_zip_eq_some]
          exact ⟨e1, hj⟩
        have := hix _ hz
        simp only [Bool.and_eq_true, beq_iff_eq] at this
        obtain ⟨n1, n2⟩ := this
        have hm := PySem.mem_of_lookup n2
        obtain ⟨m, hn, hl⟩ := I.loc
        have kf := isF (x, .free) hm rfl
        have vis : Vis X.env.scope x := by
          rcases kf with q | q
          · exact .inr (.inl q)
          · exact .inr (.inr q)
        obtain ⟨u, r, l⟩ := hl j x v n1 hv vis
        refine ⟨u, r, .inr ?_⟩
        rcases l with ⟨k1, _⟩ | ⟨_, c, hc, hcell⟩
        · rcases kf with q | q <;> (rw [show X.env.kindOf x = some NameKind.local from k1] at q; cases q)
        · refine ⟨?_, c, ?_, hcell.keeps keep⟩
          · rw [kk]; exact relabel_free I.ok.kind n2
          · show (cellsFrom _ _ _).lookup x = some c
            rw [cellsFrom_out, closC_in hc _ _ hm]
            intro z
            have := lookup_mem_nodup nd z
            rw [n2] at this; cases this
  · rcases fromC y c e with z | z
    · exact I.hok.fresh (Nat.le_of_succ_le z.1)
    · exact I.freeC y c z.2
theorem comp_block {pins : List (Addr × Obj)} {σ : St} {H : Hp} {s : Shared} {it : Addr} {fp : List Addr} {tn : Nat → Heap → Prop} {J : It} {RR : Value → Addr → Result → Shared → Prop} {E : Value → Shared → Prop} {D : Addr → Ends}
    (hc : X.calm = true) (hok : compOk X.N scope.names X.env.scope.names N' ix = true) (hk : scope.kind = .function) (hn : ∀ g', rest[0]? = some g' → g'.is_async = 0)
    (hg : ∀ s H fp, PG (cxComp X N' scope s H fp) target g) (hts : ∀ s H fp, PTs (cxComp X N' scope s H fp) ifs ts)
    (hb : ∀ s H fp acc, PB (cxComp X N' scope s H fp) elt (⟨target, iter, ifs, 0⟩ :: rest) scope pos 0 acc (tb acc))
    (I : Inv X pins σ H s) (T : Turn X.prog X.w X.K target J fp it tn) (st : tn 0 s.heap) (hf : ∀ b ∈ fp, FpOk X pins H b)
    (h : ∀ acc, H acc = none → tLoop J g (tTests ts (tb acc)) (D acc) (ix.map (capt σ)) (upd H acc (.lst [])))
    (hR : ∀ acc C s' H' σ', H acc = none → s.heap.objs.size ≤ C → Inv X pins σ H' s' → FpOk X pins H' C → (∃ m, s'.heap.Ns C m) → (D acc).nx σ' H' → RR (.ref acc) C (.ok .next) s') :
    wpAny (model X.prog X.w) X.A (newList []) (fun acc s₃ => wpAny (model X.prog X.w) X.A (newFunctionEnv scope X.env.globals (closC X.env.cells scope.names []) [] X.env.qual none .none (some X.env)) (fun cenv s₄ =>
      codeAny (model X.prog X.w) X.A (.compStart (.ListComp elt (⟨target, iter, ifs, 0⟩ :: rest) scope pos) 0 (.ref it) acc { cenv with scope := relabel scope X.env }) (fun r s' => ∃ f, r = .ok f ∧ RR acc cenv.locals (.ok .next) s') s₄) E s₃) E s := by
  refine wpAny_newObj_type ?_
  have hnone : H s.heap.objs.size = none := I.hok.fresh (Nat.le_refl _)
  have I3 : Inv X pins σ (upd H s.heap.objs.size (.lst [])) { s with heap := s.heap.push { cls := .type "list", data := .seq ([] : List Value).toArray } } :=
    I.laid (t' := s.toks) (fun b u e => Heap.get?_push_of_some _ e) (Nat.le_refl _) ⟨Nat.zero_le _, [], 0, .nil, Heap.get?_push_size _ rfl⟩
  have hlt : ∀ b ∈ fp, b < s.heap.objs.size := fun b hb => by obtain ⟨o, ho, _⟩ := T.obj 0 _ st b hb; exact Heap.lt_size ho
  have hf3 : ∀ b ∈ fp, FpOk X pins (upd H s.heap.objs.size (.lst [])) b := fun b hb => ⟨by rw [upd_ne (Nat.ne_of_lt (hlt b hb))]; exact (hf b hb).1, (hf b hb).2⟩
  refine comp_enter (fp := fp) I3 hok hk hf3 (fun b hb => ?_) fun s4 keep I4 => ?_
  · obtain ⟨o, ho, _⟩ := T.obj 0 _ st b hb
    exact ⟨o, Heap.get?_push_of_some _ ho⟩
  have st4 : tn 0 s4.heap := T.keep 0 _ _ st fun b hb o e => keep b o (Heap.get?_push_of_some _ e)
  have size3 : ({ s with heap := s.heap.push { cls := .type "list", data := .seq ([] : List Value).toArray } } : Shared).heap.objs.size = s.heap.objs.size + 1 := Heap.size_push ..
  have hf4 : ∀ b ∈ fp, FpOk (cxComp X N' scope { s with heap := s.heap.push { cls := .type "list", data := .seq ([] : List Value).toArray } } (upd H s.heap.objs.size (.lst [])) fp) [] (upd H s.heap.objs.size (.lst [])) b := fun b hb =>
    ⟨(hf3 b hb).1, (I4.ok.exf b hb).1, I4.ok.exfs b hb, .inl hb, (I4.ok.exf b hb).2, fun p hp => absurd (show p ∈ ([] : List (Addr × Obj)) from hp) (by simp)⟩
  refine codeAny_mono (comp_loop (X := cxComp X N' scope { s with heap := s.heap.push { cls := .type "list", data := .seq ([] : List Value).toArray } } (upd H s.heap.objs.size (.lst [])) fp) rfl hc (d := 0) (gens := ⟨target, iter, ifs, 0⟩ :: rest) rfl hn (hg _ _ _) (hts _ _ _) (hb _ _ _ _) T I4 st4 hf4 (h _ hnone)) fun r s5 ⟨f, hr, σ5, H5, I5, q5⟩ => ⟨f, hr, ?_⟩
  have I6 : Inv X pins σ H5 s5 := I3.call' (ch := fp) (I5.os.trans rfl) I5.base I5.hok I5.bare fun b hb => ⟨(hf3 b hb).2.2.2.1, (hf3 b hb).2.1, (hf3 b hb).2.2.2.2.1, (hf3 b hb).2.2.2.2.2⟩
  have hC : s.heap.objs.size ≤ (cxComp X N' scope { s with heap := s.heap.push { cls := .type "list", data := .seq ([] : List Value).toArray } } (upd H s.heap.objs.size (.lst [])) fp).env.locals := by
    show s.heap.objs.size ≤ _
    exact Nat.le_trans (Nat.le_succ _) (Nat.le_of_eq size3.symm)
  refine hR _ _ s5 H5 σ5 hnone hC I6 (I3.fpOk (Nat.le_refl _) I5.free) ?_ q5
  obtain ⟨m, hm, _⟩ := I5.loc
  exact ⟨m, hm⟩
theorem compOk_names (hok : compOk X.N scope.names X.env.scope.names N' ix = true) : ∀ x ∈ scope.names, x.2 = .local → scope.names.lookup x.1 = some .local := by
  simp only [compOk, Bool.and_eq_true, decide_eq_true_eq, List.all_eq_true] at hok
  intro x hx e
  obtain ⟨n, k⟩ := x
  have e : k = .local := e
  subst e
  exact lookup_mem_nodup hok.1.1.1 hx
theorem compOk_clos {pins : List (Addr × Obj)} {σ : St} {H : Hp} {s : Shared} (I : Inv X pins σ H s) (hok : compOk X.N scope.names X.env.scope.names N' ix = true) : closureFor scope X.env = pure (closC X.env.cells scope.names []) := by
  refine closureFor_are fun y hy e => ?_
  simp only [compOk, Bool.and_eq_true, decide_eq_true_eq, List.all_eq_true] at hok
  have := hok.1.1.2 y hy
  have : X.env.scope.names.lookup y.1 = some .cell ∨ X.env.scope.names.lookup y.1 = some .free := by simpa [e] using this
  obtain ⟨c, hc⟩ := I.ok.has y.1 this
  rw [hc]; rfl
theorem pe_comp (hok : compOk X.N scope.names X.env.scope.names N' ix = true) (hk : scope.kind = .function) (hc : X.calm = true) (hi : PI X target iter wi)
    (hg : ∀ s H fp, PG (cxComp X N' scope s H fp) target g) (hts : ∀ s H fp, PTs (cxComp X N' scope s H fp) ifs ts)
    (hb : ∀ s H fp acc, PB (cxComp X N' scope s H fp) elt (⟨target, iter, ifs, 0⟩ :: rest) scope pos 0 acc (tb acc))
    (hn : ∀ g', rest[0]? = some g' → g'.is_async = 0 := by intro _ h; first | cases h; rfl | cases h) (hs : ∀ x, foldedSetIterable iter X.env x = pure x := by intro _; rfl) :
    PE X (.ListComp elt (⟨target, iter, ifs, 0⟩ :: rest) scope pos) (tComp ix wi g ts tb) := by
  intro pins s σ H Q I h
  rw [eval_ListComp]
  refine wpAny_comprehension_free (use := none) rfl hs (compOk_clos I hok) hk (compOk_names hok) (thn (hi pins s σ H _ I h) fun xv s₁ h₁ => thn h₁ fun itv s₂ h₂ => ?_)
  obtain ⟨it, fp, tn, J, H2, e, I2, T, st2, f2, q2⟩ := h₂
  subst e
  refine thn (comp_block (RR := fun acc C r s' => compPost (model X.prog X.w) X.A X.xe none (EP X pins σ Q) acc C r s') hc hok hk hn hg hts hb I2 T st2 f2 q2 fun acc C s' H' σ' ha hC I' fC hns q => ?_) fun acc s3 h3 => thn h3 fun cenv s4 h4 => codeAny_mono h4 fun r s5 ⟨f, hr, h5⟩ => ?_
  · obtain ⟨m, hm⟩ := hns
    refine ⟨m, hm, fun h' hs' => ⟨.ref acc, H', I'.turned (t' := s'.toks) (fun b o hb e => (hs'.2 b hb).trans e) fC.1 fC.2.1 fC.2.2.2.1 fC.2.2.2.2.1 fC.2.2.2.2.2, rfl, q⟩⟩
  · subst hr
    exact h5
theorem ps_setComp {i : Nat} {x : Str} {pos' spos : Pos} (hN : X.N.Nodup) (hix : X.N[i]? = some x) (hx : Loc X.env.scope x) (hok : compOk X.N scope.names X.env.scope.names N' ix = true) (hk : scope.kind = .function) (hc : X.calm = true) (hi : PI X target iter wi)
    (hg : ∀ s H fp, PG (cxComp X N' scope s H fp) target g) (hts : ∀ s H fp, PTs (cxComp X N' scope s H fp) ifs ts)
    (hb : ∀ s H fp acc, PB (cxComp X N' scope s H fp) elt (⟨target, iter, ifs, 0⟩ :: rest) scope pos 0 acc (tb acc))
    (hsw : swapsWith (.ListComp elt (⟨target, iter, ifs, 0⟩ :: rest) scope pos) (some (.Name x pos')) spos.line X.env = pure true := by rfl)
    (hf : X.fn x = true ∨ X.env.scope.names.lookup x = some .local := by first | exact .inl rfl | exact .inr rfl | assumption)
    (hn : ∀ g', rest[0]? = some g' → g'.is_async = 0 := by intro _ h; first | cases h; rfl | cases h) (hs : ∀ x, foldedSetIterable iter X.env x = pure x := by intro _; rfl) :
    PS X (.Assign [.Name x pos'] (.ListComp elt (⟨target, iter, ifs, 0⟩ :: rest) scope pos) spos) (tAsg (tComp ix wi g ts tb) (gName i)) := by
  intro pins s σ H D I h
  rw [exec_Assign_Name_used _ _ _ _ hsw]
  refine wpAny_bind (wpAny_standAt (wpAny_bind ?_))
  show wpAny _ X.A (do let _ ← comprehension (.ListComp elt (⟨target, iter, ifs, 0⟩ :: rest) scope pos) scope X.env _ (newList []) false (eval iter X.env) (some (assign (.Name x pos') X.env))) _ _ s
  refine wpAny_bind (wpAny_mono (wpAny_comprehension_free (use := some (assign (.Name x pos') X.env)) (Q := fun _ s' => SP X pins D .next s') rfl hs (compOk_clos I hok) hk (compOk_names hok) (thn (hi pins s σ H _ I h) fun xv s₁ h₁ => thn h₁ fun itv s₂ h₂ => ?_)) (fun _ s' hq => wpAny_pure (wpAny_pure hq)) fun _ _ e => e)
  obtain ⟨it, fp, tn, J, H2, e, I2, T, st2, f2, q2⟩ := h₂
  subst e
  refine thn (comp_block (RR := fun acc C r s' => compPost (model X.prog X.w) X.A X.xe (some (assign (.Name x pos') X.env)) (fun _ s' => SP X pins D .next s') acc C r s') hc hok hk hn hg hts hb I2 T st2 f2 q2 fun acc C s' H' σ' ha hC I' fC hns q => ?_) fun acc s3 h3 => thn h3 fun cenv s4 h4 => codeAny_mono h4 fun r s5 ⟨f, hr, h5⟩ => ?_
  · obtain ⟨m, hm⟩ := hns
    show wpAny _ X.A (assign (.Name x pos') X.env (.ref acc)) _ _ _
    refine wpAny_assign_Name (store_ok2 I' hN hix hx (v := .ref acc) rfl (fun s6 I6 ⟨a, hsb, ha6⟩ => ?_) hf)
    have hCa : C ≠ a := by
      rcases ha6 with z | z
      · rw [z]; exact fC.2.1
      · exact (fC.2.2.2.2.1 x a z).symm
    refine ⟨m, hm.sameBut hsb hCa, fun h' hs' => ⟨_, H', I6.turned (t' := s6.toks) (fun b o hb e => (hs'.2 b hb).trans e) fC.1 fC.2.1 fC.2.2.2.1 fC.2.2.2.2.1 fC.2.2.2.2.2, q⟩⟩
  · subst hr
    exact h5
end
end L2
namespace L2
open PySem PySem.Spec PyProof.Rows
theorem Same.tup {K : PySem.W.Frag} {H H' : Hp} {a : Addr} {xs : List V} (e : Same H H') (h : SqT K H a xs) : SqT K H' a xs := by
  rcases h with (h | ⟨o, h⟩) | h
  · exact .inl (.inl (e _ _ h))
  · exact .inl (.inr ⟨o, e _ _ h⟩)
  · exact .inr h
inductive Dt where
  | non | bl (b : Bool) | int (i : Int) | str (x : Str) | tup (ds : List Dt) | lst (ds : List Dt)
mutual
def Sh (K : PySem.W.Frag) (H : Hp) : Dt → V → Prop
  | .non, v => v = .non
  | .bl b, v => v = .bl b
  | .int i, v => v = .int i
  | .str x, v => v = .str x
  | .tup ds, v => ∃ a xs, v = .ref a ∧ SqT K H a xs ∧ ShL K H ds xs
  | .lst ds, v => ∃ a xs, v = .ref a ∧ SqL K H a xs ∧ ShL K H ds xs
def ShL (K : PySem.W.Frag) (H : Hp) : List Dt → List V → Prop
  | [], xs => xs = []
  | d :: ds, xs => ∃ x r, xs = x :: r ∧ Sh K H d x ∧ ShL K H ds r
end
mutual
def eqD : Dt → Dt → Bool
  | .non, .non => true
  | .bl a, .bl b => a == b
  | .int a, .int b => a == b
  | .str a, .str b => a == b
  | .bl a, .int b => (if a then 1 else 0) == b
  | .int a, .bl b => a == (if b then 1 else 0)
  | .tup ds, .tup es => eqL ds es
  | .lst ds, .lst es => eqL ds es
  | _, _ => false
def eqL : List Dt → List Dt → Bool
  | [], [] => true
  | d :: ds, e :: es => eqD d e && eqL ds es
  | _, _ => false
end
mutual
def dep : Dt → Nat
  | .tup ds => depL ds + 1
  | .lst ds => depL ds + 1
  | _ => 0
def depL : List Dt → Nat
  | [] => 0
  | d :: ds => max (dep d) (depL ds)
end
section
variable {K : PySem.W.Frag} {H H' : Hp}
mutual
theorem Sh.same (e : Same H H') : ∀ {d : Dt} {v : V}, Sh K H d v → Sh K H' d v
  | .non, _, h => h
  | .bl _, _, h => h
  | .int _, _, h => h
  | .str _, _, h => h
  | .tup ds, _, ⟨a, xs, h1, h2, h3⟩ => ⟨a, xs, h1, e.tup h2, ShL.same e h3⟩
  | .lst ds, _, ⟨a, xs, h1, h2, h3⟩ => ⟨a, xs, h1, e.seq h2, ShL.same e h3⟩
theorem ShL.same (e : Same H H') : ∀ {ds : List Dt} {xs : List V}, ShL K H ds xs → ShL K H' ds xs
  | [], _, h => h
  | d :: ds, _, ⟨x, r, h1, h2, h3⟩ => ⟨x, r, h1, Sh.same e h2, ShL.same e h3⟩
end
theorem ShL.length : ∀ {ds : List Dt} {xs : List V}, ShL K H ds xs → ds.length = xs.length
  | [], _, h => by rw [show _ = [] from h]; rfl
  | d :: ds, _, ⟨x, r, h1, h2, h3⟩ => by rw [h1, List.length_cons, List.length_cons, ShL.length h3]
theorem ShL.get : ∀ {ds : List Dt} {xs : List V} {j : Nat} {d : Dt}, ShL K H ds xs → ds[j]? = some d → ∃ x, xs[j]? = some x ∧ Sh K H d x
  | [], _, _, _, _, h => by simp at h
  | d :: ds, _, 0, e, ⟨x, r, h1, h2, h3⟩, h => by
    have : d = e := by simpa using h
    subst this
    exact ⟨x, by rw [h1]; rfl, h2⟩
  | d :: ds, _, j + 1, e, ⟨x, r, h1, h2, h3⟩, h => by
    obtain ⟨y, h4, h5⟩ := ShL.get (j := j) h3 (by simpa using h)
    exact ⟨y, by rw [h1]; simpa using h4, h5⟩
theorem ShL.snoc {d : Dt} {x : V} (hx : Sh K H d x) : ∀ {ds : List Dt} {xs : List V}, ShL K H ds xs → ShL K H (ds ++ [d]) (xs ++ [x])
  | [], _, h => ⟨x, [], by rw [show _ = [] from h]; rfl, hx, rfl⟩
  | _ :: _, _, ⟨y, r, h1, h2, h3⟩ => ⟨y, r ++ [x], by rw [h1]; rfl, h2, ShL.snoc hx h3⟩
theorem ShL.ints : ∀ (ns : List Int), ShL K H (ns.map Dt.int) (ns.map V.int)
  | [] => rfl
  | n :: ns => ⟨.int n, ns.map V.int, rfl, rfl, ShL.ints ns⟩
theorem ShL.of_ints : ∀ {ns : List Int} {xs : List V}, ShL K H (ns.map Dt.int) xs → xs = ns.map V.int
  | [], _, h => h
  | n :: ns, _, ⟨x, r, h1, h2, h3⟩ => by rw [h1, ShL.of_ints h3, show x = V.int n from h2]; rfl
end
mutual
theorem eqD_refl : ∀ d : Dt, eqD d d = true
  | .non => by unfold eqD; rfl
  | .bl b => by unfold eqD; simp
  | .int b => by unfold eqD; simp
  | .str b => by unfold eqD; simp
  | .tup ds => by unfold eqD; exact eqL_refl ds
  | .lst ds => by unfold eqD; exact eqL_refl ds
theorem eqL_refl : ∀ ds : List Dt, eqL ds ds = true
  | [] => by unfold eqL; rfl
  | d :: ds => by unfold eqL; rw [eqD_refl d, eqL_refl ds]; rfl
end
theorem eqL_length : ∀ {ds es : List Dt}, eqL ds es = true → ds.length = es.length
  | [], [], _ => rfl
  | [], _ :: _, h => by unfold eqL at h; cases h
  | _ :: _, [], h => by unfold eqL at h; cases h
  | d :: ds, e :: es, h => by
    unfold eqL at h
    rw [List.length_cons, List.length_cons, eqL_length (Bool.and_eq_true_iff.mp h).2]
theorem all_range_succ (n : Nat) (f : Nat → Bool) : (List.range (n + 1)).all f = (f 0 && (List.range n).all fun j => f (j + 1)) := by
  rw [List.range_succ_eq_map, List.all_cons, List.all_map]
  rfl
theorem eqL_all : ∀ (ds es : List Dt), ((List.range (min ds.length es.length)).all (fun j => eqD (ds.getD j .non) (es.getD j .non)) && ds.length == es.length) = eqL ds es
  | [], [] => by unfold eqL; rfl
  | [], e :: es => by unfold eqL; simp
  | d :: ds, [] => by unfold eqL; simp
  | d :: ds, e :: es => by
    have ih := eqL_all ds es
    unfold eqL
    rw [← ih, List.length_cons, List.length_cons, Nat.succ_min_succ, all_range_succ, Bool.and_assoc]
    congr 1
    congr 1
    simp
theorem depL_le {ds : List Dt} {j : Nat} {d : Dt} (h : ds[j]? = some d) : dep d ≤ depL ds := by
  induction ds generalizing j with
  | nil => simp at h
  | cons e es ih =>
    unfold depL
    cases j with
    | zero =>
      have : e = d := by simpa using h
      subst this
      exact Nat.le_max_left _ _
    | succ j => exact Nat.le_trans (ih (by simpa using h)) (Nat.le_max_right _ _)
section
variable {X : Cx} {pins : List (Addr × Obj)} {σ : St} {H : Hp} {s : Shared}
theorem Inv.tl_ne (I : Inv X pins σ H s) {a : Addr} {xs ys : List V} (h : SqT X.K H a xs) (h' : SqL X.K H a ys) : False := by
  obtain ⟨its, r, ⟨o, e, c, n, d⟩, _⟩ := I.tuple h
  obtain ⟨its', r', ⟨o', n', e', c', _, d'⟩, _⟩ := I.list h'
  rw [e] at e'; cases e'
  rw [c] at c'; simp at c'
mutual
theorem Inv.sh_inj (I : Inv X pins σ H s) : ∀ {d e : Dt} {v : V}, Sh X.K H d v → Sh X.K H e v → d = e
  | .non, e, v, h, h' => by
    have h : v = .non := h
    subst h
    cases e <;> first | rfl | (exact absurd (show V.non = _ from h') (fun z => nomatch z)) | (obtain ⟨_, _, z, _⟩ := h'; cases z)
  | .bl b, e, v, h, h' => by
    have h : v = .bl b := h
    subst h
    cases e <;> first | (cases (show V.bl b = V.bl _ from h'); rfl) | (exact absurd (show V.bl b = _ from h') (fun z => nomatch z)) | (obtain ⟨_, _, z, _⟩ := h'; cases z)
  | .int b, e, v, h, h' => by
    have h : v = .int b := h
    subst h
    cases e <;> first | (cases (show V.int b = V.int _ from h'); rfl) | (exact absurd (show V.int b = _ from h') (fun z => nomatch z)) | (obtain ⟨_, _, z, _⟩ := h'; cases z)
  | .str b, e, v, h, h' => by
    have h : v = .str b := h
    subst h
    cases e <;> first | (cases (show V.str b = V.str _ from h'); rfl) | (exact absurd (show V.str b = _ from h') (fun z => nomatch z)) | (obtain ⟨_, _, z, _⟩ := h'; cases z)
  | .tup ds, e, v, ⟨a, xs, h1, h2, h3⟩, h' => by
    subst h1
    cases e with
    | tup es =>
      obtain ⟨a', xs', z, h2', h3'⟩ := h'
      cases z
      rw [I.tuple_inj h2' h2] at h3'
      rw [Inv.shL_inj I h3 h3']
    | lst es =>
      obtain ⟨a', xs', z, h2', h3'⟩ := h'
      cases z
      exact (I.tl_ne h2 h2').elim
    | _ => exact absurd (show V.ref a = _ from h') (fun z => nomatch z)
  | .lst ds, e, v, ⟨a, xs, h1, h2, h3⟩, h' => by
    subst h1
    cases e with
    | lst es =>
      obtain ⟨a', xs', z, h2', h3'⟩ := h'
      cases z
      rw [I.list_inj h2' h2] at h3'
      rw [Inv.shL_inj I h3 h3']
    | tup es =>
      obtain ⟨a', xs', z, h2', h3'⟩ := h'
      cases z
      exact (I.tl_ne h2' h2).elim
    | _ => exact absurd (show V.ref a = _ from h') (fun z => nomatch z)
theorem Inv.shL_inj (I : Inv X pins σ H s) : ∀ {ds es : List Dt} {xs : List V}, ShL X.K H ds xs → ShL X.K H es xs → ds = es
  | [], [], _, _, _ => rfl
  | [], e :: es, _, h, ⟨x, r, h1, _⟩ => by rw [show _ = [] from h] at h1; cases h1
  | d :: ds, [], _, ⟨x, r, h1, _⟩, h => by rw [show _ = [] from h] at h1; cases h1
  | d :: ds, e :: es, _, ⟨x, r, h1, h2, h3⟩, ⟨x', r', h1', h2', h3'⟩ => by
    rw [h1] at h1'
    cases h1'
    rw [Inv.sh_inj I h2 h2', Inv.shL_inj I h3 h3']
end
end
end L2
namespace L2
open PySem PySem.Spec PyProof.Rows
section
variable {X : Cx} {pins : List (Addr × Obj)} {σ : St} {H : Hp} {s : Shared}
open PySem.SeqAt
theorem items_at {ds es : List Dt} {xs ys : List V} {us vs : List Value} (hs : ShL X.K H ds xs) (hr : Vals xs us) (hs' : ShL X.K H es ys) (hr' : Vals ys vs) {A : Around}
    (h : ∀ (d e : Dt) (x y : V) (u v : Value), (∃ j : Nat, ds[j]? = some d) → RelV x u → RelV y v → Sh X.K H d x → Sh X.K H e y → EqAt A s u v (eqD d e)) :
    ∀ j (h1 : j < us.toArray.size) (h2 : j < vs.toArray.size), EqAt A s us.toArray[j] vs.toArray[j] (eqD (ds.getD j .non) (es.getD j .non)) := by
  intro j h1 h2
  have l1 := hs.length
  have l2 := hr.length
  have l3 := hs'.length
  have l4 := hr'.length
  have g1 : j < us.length := by simpa using h1
  have g2 : j < vs.length := by simpa using h2
  have e1 : ds[j]? = some (ds.getD j .non) := by rw [List.getD_eq_getElem?_getD, List.getElem?_eq_getElem (by omega)]; rfl
  have e2 : es[j]? = some (es.getD j .non) := by rw [List.getD_eq_getElem?_getD, List.getElem?_eq_getElem (by omega)]; rfl
  obtain ⟨x, hx, sx⟩ := hs.get e1
  obtain ⟨y, hy, sy⟩ := hs'.get e2
  obtain ⟨u, hu, ru⟩ := hr.get hx
  obtain ⟨v, hv, rv⟩ := hr'.get hy
  have q1 : us.toArray[j] = u := by
    rw [List.getElem?_eq_getElem g1] at hu
    simpa using hu
  have q2 : vs.toArray[j] = v := by
    rw [List.getElem?_eq_getElem g2] at hv
    simpa using hv
  rw [q1, q2]
  exact h _ _ x y u v ⟨j, e1⟩ ru rv sx sy
theorem Inv.eq_sh (I : Inv X pins σ H s) : ∀ (n : Nat) (A : Around) (d e : Dt) (x y : V) (u v : Value), dep d ≤ n → A.units + n < cLine → RelV x u → RelV y v → Sh X.K H d x → Sh X.K H e y → RcAt A s u v (eqD d e) ∧ EqAt A s u v (eqD d e) := by
  intro n
  induction n with
  | zero =>
    intro A d e x y u v hd hu rx ry hx hy
    have hu0 : A.units < cLine := by omega
    cases d with
    | tup ds => unfold dep at hd; omega
    | lst ds => unfold dep at hd; omega
    | non =>
      obtain rfl : x = .non := hx
      obtain rfl : u = Value.none := rx
      cases e with
      | non => obtain rfl : y = .non := hy; obtain rfl : v = Value.none := ry; unfold eqD; exact ⟨RcAt.none_none, EqAt.same _⟩
      | bl b => obtain rfl : y = .bl b := hy; obtain rfl : v = Value.bool b := ry; unfold eqD; exact ⟨RcAt.none_bool b, EqAt.none_bool b⟩
      | int b => obtain rfl : y = .int b := hy; obtain ⟨t, rfl⟩ := ry; unfold eqD; exact ⟨RcAt.none_int b t, EqAt.none_int b t⟩
      | str b => obtain rfl : y = .str b := hy; obtain ⟨t, rfl⟩ := ry; unfold eqD; exact ⟨RcAt.none_str b t, EqAt.none_str b t⟩
      | tup es => obtain ⟨b, ys, rfl, hq, _⟩ := hy; obtain rfl : v = Value.ref b := ry; obtain ⟨its, _, p, _⟩ := I.tuple hq; unfold eqD; exact ⟨RcAt.none_tuple (show s.heap.IsTuple b its.toArray from p) hu0, EqAt.none_tuple (show s.heap.IsTuple b its.toArray from p) hu0⟩
      | lst es => obtain ⟨b, ys, rfl, hq, _⟩ := hy; obtain rfl : v = Value.ref b := ry; obtain ⟨its, _, p, _⟩ := I.list hq; unfold eqD; exact ⟨RcAt.none_list p.isList hu0, EqAt.none_list p.isList hu0⟩
    | bl a =>
      obtain rfl : x = .bl a := hx
      obtain rfl : u = Value.bool a := rx
      cases e with
      | non => obtain rfl : y = .non := hy; obtain rfl : v = Value.none := ry; unfold eqD; exact ⟨RcAt.bool_none a, EqAt.bool_none a⟩
      | bl b => obtain rfl : y = .bl b := hy; obtain rfl : v = Value.bool b := ry; unfold eqD; exact ⟨RcAt.bool_bool a b, EqAt.bool_bool a b⟩
      | int b => obtain rfl : y = .int b := hy; obtain ⟨t, rfl⟩ := ry; unfold eqD; exact ⟨RcAt.bool_int a b t, EqAt.bool_int a b t⟩
      | str b => obtain rfl : y = .str b := hy; obtain ⟨t, rfl⟩ := ry; unfold eqD; exact ⟨RcAt.bool_str a b t, EqAt.bool_str a b t⟩
      | tup es => obtain ⟨b, ys, rfl, hq, _⟩ := hy; obtain rfl : v = Value.ref b := ry; obtain ⟨its, _, p, _⟩ := I.tuple hq; unfold eqD; exact ⟨RcAt.bool_tuple a (show s.heap.IsTuple b its.toArray from p) hu0, EqAt.bool_tuple a (show s.heap.IsTuple b its.toArray from p) hu0⟩
      | lst es => obtain ⟨b, ys, rfl, hq, _⟩ := hy; obtain rfl : v = Value.ref b := ry; obtain ⟨its, _, p, _⟩ := I.list hq; unfold eqD; exact ⟨RcAt.bool_list a p.isList hu0, EqAt.bool_list a p.isList hu0⟩
    | int a =>
      obtain rfl : x = .int a := hx
      obtain ⟨t0, rfl⟩ := rx
      cases e with
      | non => obtain rfl : y = .non := hy; obtain rfl : v = Value.none := ry; unfold eqD; exact ⟨RcAt.int_none a t0, EqAt.int_none a t0⟩
      | bl b => obtain rfl : y = .bl b := hy; obtain rfl : v = Value.bool b := ry; unfold eqD; exact ⟨RcAt.int_bool a t0 b, EqAt.int_bool a t0 b⟩
      | int b => obtain rfl : y = .int b := hy; obtain ⟨t, rfl⟩ := ry; unfold eqD; exact ⟨RcAt.int_int a t0 b t, EqAt.int_int a t0 b t⟩
      | str b => obtain rfl : y = .str b := hy; obtain ⟨t, rfl⟩ := ry; unfold eqD; exact ⟨RcAt.int_str a t0 b t, EqAt.int_str a t0 b t⟩
      | tup es => obtain ⟨b, ys, rfl, hq, _⟩ := hy; obtain rfl : v = Value.ref b := ry; obtain ⟨its, _, p, _⟩ := I.tuple hq; unfold eqD; exact ⟨RcAt.int_tuple a t0 (show s.heap.IsTuple b its.toArray from p) hu0, EqAt.int_tuple a t0 (show s.heap.IsTuple b its.toArray from p) hu0⟩
      | lst es => obtain ⟨b, ys, rfl, hq, _⟩ := hy; obtain rfl : v = Value.ref b := ry; obtain ⟨its, _, p, _⟩ := I.list hq; unfold eqD; exact ⟨RcAt.int_list a t0 p.isList hu0, EqAt.int_list a t0 p.isList hu0⟩
    | str a =>
      obtain rfl : x = .str a := hx
      obtain ⟨t0, rfl⟩ := rx
      cases e with
      | non => obtain rfl : y = .non := hy; obtain rfl : v = Value.none := ry; unfold eqD; exact ⟨RcAt.str_none a t0, EqAt.str_none a t0⟩
      | bl b => obtain rfl : y = .bl b := hy; obtain rfl : v = Value.bool b := ry; unfold eqD; exact ⟨RcAt.str_bool a t0 b, EqAt.str_bool a t0 b⟩
      | int b => obtain rfl : y = .int b := hy; obtain ⟨t, rfl⟩ := ry; unfold eqD; exact ⟨RcAt.str_int a t0 b t, EqAt.str_int a t0 b t⟩
      | str b => obtain rfl : y = .str b := hy; obtain ⟨t, rfl⟩ := ry; unfold eqD; exact ⟨RcAt.str_str a t0 b t, EqAt.str_str a t0 b t⟩
      | tup es => obtain ⟨b, ys, rfl, hq, _⟩ := hy; obtain rfl : v = Value.ref b := ry; obtain ⟨its, _, p, _⟩ := I.tuple hq; unfold eqD; exact ⟨RcAt.str_tuple a t0 (show s.heap.IsTuple b its.toArray from p) hu0, EqAt.str_tuple a t0 (show s.heap.IsTuple b its.toArray from p) hu0⟩
      | lst es => obtain ⟨b, ys, rfl, hq, _⟩ := hy; obtain rfl : v = Value.ref b := ry; obtain ⟨its, _, p, _⟩ := I.list hq; unfold eqD; exact ⟨RcAt.str_list a t0 p.isList hu0, EqAt.str_list a t0 p.isList hu0⟩
  | succ n ih =>
    intro A d e x y u v hd hu rx ry hx hy
    have hu0 : A.units < cLine := by omega
    by_cases hd0 : dep d ≤ n
    · exact ih A d e x y u v hd0 (by omega) rx ry hx hy
    cases d with
    | non => exact absurd (Nat.zero_le _) hd0
    | bl a => exact absurd (Nat.zero_le _) hd0
    | int a => exact absurd (Nat.zero_le _) hd0
    | str a => exact absurd (Nat.zero_le _) hd0
    | tup ds =>
      have hdd : depL ds ≤ n := by unfold dep at hd; omega
      have hx0 := hx
      obtain ⟨a, xs, rfl, hq, hl⟩ := hx
      obtain rfl : u = Value.ref a := rx
      obtain ⟨its, rv, p, _⟩ := I.tuple hq
      have p : s.heap.IsTuple a its.toArray := p
      cases e with
      | non => obtain rfl : y = .non := hy; obtain rfl : v = Value.none := ry; unfold eqD; exact ⟨RcAt.tuple_none p hu0, EqAt.tuple_none p hu0⟩
      | bl b => obtain rfl : y = .bl b := hy; obtain rfl : v = Value.bool b := ry; unfold eqD; exact ⟨RcAt.tuple_bool b p hu0, EqAt.tuple_bool b p hu0⟩
      | int b => obtain rfl : y = .int b := hy; obtain ⟨t, rfl⟩ := ry; unfold eqD; exact ⟨RcAt.tuple_int b t p hu0, EqAt.tuple_int b t p hu0⟩
      | str b => obtain rfl : y = .str b := hy; obtain ⟨t, rfl⟩ := ry; unfold eqD; exact ⟨RcAt.tuple_str b t p hu0, EqAt.tuple_str b t p hu0⟩
      | lst es => obtain ⟨b, ys, rfl, hq', _⟩ := hy; obtain rfl : v = Value.ref b := ry; obtain ⟨its', _, p', _⟩ := I.list hq'; unfold eqD; exact ⟨RcAt.tuple_list p p'.isList hu0, EqAt.tuple_list p p'.isList hu0⟩
      | tup es =>
        have hy0 := hy
        obtain ⟨b, ys, rfl, hq', hl'⟩ := hy
        obtain rfl : v = Value.ref b := ry
        obtain ⟨its', rv', p', _⟩ := I.tuple hq'
        have p' : s.heap.IsTuple b its'.toArray := p'
        have he := items_at (A := A.in1) (s := s) hl rv hl' rv' (fun d e x y u v ⟨j, hj⟩ r1 r2 s1 s2 => (ih A.in1 d e x y u v (Nat.le_trans (depL_le hj) hdd) (by show A.units + 1 + n < cLine; omega) r1 r2 s1 s2).2)
        have rc := RcAt.tuples p p' hu0 he
        have l1 := hl.length
        have l2 := rv.length
        have l3 := hl'.length
        have l4 := rv'.length
        rw [List.size_toArray, List.size_toArray, ← l2, ← l4, ← l1, ← l3, eqL_all] at rc
        unfold eqD
        refine ⟨rc, ?_⟩
        by_cases hab : a = b
        · subst hab
          have := I.sh_inj hx0 hy0
          cases this
          rw [eqL_refl]
          exact EqAt.same _
        · exact EqAt.of_refs hab rc
    | lst ds =>
      have hdd : depL ds ≤ n := by unfold dep at hd; omega
      have hx0 := hx
      obtain ⟨a, xs, rfl, hq, hl⟩ := hx
      obtain rfl : u = Value.ref a := rx
      obtain ⟨its, rv, p, _⟩ := I.list hq
      have p := p.isList
      cases e with
      | non => obtain rfl : y = .non := hy; obtain rfl : v = Value.none := ry; unfold eqD; exact ⟨RcAt.list_none p hu0, EqAt.list_none p hu0⟩
      | bl b => obtain rfl : y = .bl b := hy; obtain rfl : v = Value.bool b := ry; unfold eqD; exact ⟨RcAt.list_bool b p hu0, EqAt.list_bool b p hu0⟩
      | int b => obtain rfl : y = .int b := hy; obtain ⟨t, rfl⟩ := ry; unfold eqD; exact ⟨RcAt.list_int b t p hu0, EqAt.list_int b t p hu0⟩
      | str b => obtain rfl : y = .str b := hy; obtain ⟨t, rfl⟩ := ry; unfold eqD; exact ⟨RcAt.list_str b t p hu0, EqAt.list_str b t p hu0⟩
      | tup es => obtain ⟨b, ys, rfl, hq', _⟩ := hy; obtain rfl : v = Value.ref b := ry; obtain ⟨its', _, p', _⟩ := I.tuple hq'; unfold eqD; exact ⟨RcAt.list_tuple p (show s.heap.IsTuple b its'.toArray from p') hu0, EqAt.list_tuple p (show s.heap.IsTuple b its'.toArray from p') hu0⟩
      | lst es =>
        have hy0 := hy
        obtain ⟨b, ys, rfl, hq', hl'⟩ := hy
        obtain rfl : v = Value.ref b := ry
        obtain ⟨its', rv', p', _⟩ := I.list hq'
        have p' := p'.isList
        have l1 := hl.length
        have l2 := rv.length
        have l3 := hl'.length
        have l4 := rv'.length
        have rc : RcAt A s (.ref a) (.ref b) (eqL ds es) := by
          by_cases hz : ds.length = es.length
          · have he := items_at (A := A.in1) (s := s) hl rv hl' rv' (fun d e x y u v ⟨j, hj⟩ r1 r2 s1 s2 => (ih A.in1 d e x y u v (Nat.le_trans (depL_le hj) hdd) (by show A.units + 1 + n < cLine; omega) r1 r2 s1 s2).2)
            have rc := RcAt.lists p p' (by rw [List.size_toArray, List.size_toArray]; omega) hu0 he
            rw [List.size_toArray, ← l2, ← l1] at rc
            have q := eqL_all ds es
            rw [← hz, Nat.min_self, beq_self_eq_true, Bool.and_true] at q
            rw [← q]
            exact rc
          · have q : eqL ds es = false := by
              cases q : eqL ds es with
              | false => rfl
              | true => exact absurd (eqL_length q) hz
            rw [q]
            exact RcAt.lists_lengths p p' (by rw [List.size_toArray, List.size_toArray]; simp; omega) hu0
        unfold eqD
        refine ⟨rc, ?_⟩
        by_cases hab : a = b
        · subst hab
          have := I.sh_inj hx0 hy0
          cases this
          rw [eqL_refl]
          exact EqAt.same _
        · exact EqAt.of_refs hab rc
def rEqD (K : PySem.W.Frag) : R2 := fun x y H Q => ∃ d e, dep d ≤ 100 ∧ Sh K H d x ∧ Sh K H e y ∧ Q (.bl (eqD d e)) H
theorem op_eqD (hu : X.A.units + 100 < cLine) : OpR X (compareOp .Eq) (rEqD X.K) := by
  intro pins s σ H x y v u Q I rx ry ⟨d, e, hd, hx, hy, q⟩
  exact (I.eq_sh 100 X.A d e x y v u hd hu rx ry hx hy).1 X.prog X.w X.xe _ ⟨.bl _, H, I, rfl, q⟩
end
end L2
namespace L2
open PySem PySem.Spec PyProof.Rows
section
variable {X : Cx} {pins : List (Addr × Obj)} {σ : St} {H : Hp} {s : Shared}
open PySem.SeqAt
theorem Inv.ne_sh (I : Inv X pins σ H s) {A : Around} (d e : Dt) (x y : V) (u v : Value) (hd : dep d ≤ 100) (hu : A.units + 101 < cLine) (rx : RelV x u) (ry : RelV y v) (hx : Sh X.K H d x) (hy : Sh X.K H e y) : RcNeAt A s u v (!eqD d e) := by
  have hu0 : A.units < cLine := by omega
  cases d with
  | non =>
    obtain rfl : x = .non := hx
    obtain rfl : u = Value.none := rx
    cases e with
    | non => obtain rfl : y = .non := hy; obtain rfl : v = Value.none := ry; unfold eqD; exact RcNeAt.none_none
    | bl b => obtain rfl : y = .bl b := hy; obtain rfl : v = Value.bool b := ry; unfold eqD; exact RcNeAt.none_bool b
    | int b => obtain rfl : y = .int b := hy; obtain ⟨t, rfl⟩ := ry; unfold eqD; exact RcNeAt.none_int b t
    | str b => obtain rfl : y = .str b := hy; obtain ⟨t, rfl⟩ := ry; unfold eqD; exact RcNeAt.none_str b t
    | tup es => obtain ⟨b, ys, rfl, hq, _⟩ := hy; obtain rfl : v = Value.ref b := ry; obtain ⟨its, _, p, _⟩ := I.tuple hq; unfold eqD; exact RcNeAt.none_tuple (show s.heap.IsTuple b its.toArray from p) hu0
    | lst es => obtain ⟨b, ys, rfl, hq, _⟩ := hy; obtain rfl : v = Value.ref b := ry; obtain ⟨its, _, p, _⟩ := I.list hq; unfold eqD; exact RcNeAt.none_list p.isList hu0
  | bl a =>
    obtain rfl : x = .bl a := hx
    obtain rfl : u = Value.bool a := rx
    cases e with
    | non => obtain rfl : y = .non := hy; obtain rfl : v = Value.none := ry; unfold eqD; exact RcNeAt.bool_none a
    | bl b => obtain rfl : y = .bl b := hy; obtain rfl : v = Value.bool b := ry; unfold eqD; exact RcNeAt.bool_bool a b
    | int b => obtain rfl : y = .int b := hy; obtain ⟨t, rfl⟩ := ry; unfold eqD; exact RcNeAt.bool_int a b t
    | str b => obtain rfl : y = .str b := hy; obtain ⟨t, rfl⟩ := ry; unfold eqD; exact RcNeAt.bool_str a b t
    | tup es => obtain ⟨b, ys, rfl, hq, _⟩ := hy; obtain rfl : v = Value.ref b := ry; obtain ⟨its, _, p, _⟩ := I.tuple hq; unfold eqD; exact RcNeAt.bool_tuple a (show s.heap.IsTuple b its.toArray from p) hu0
    | lst es => obtain ⟨b, ys, rfl, hq, _⟩ := hy; obtain rfl : v = Value.ref b := ry; obtain ⟨its, _, p, _⟩ := I.list hq; unfold eqD; exact RcNeAt.bool_list a p.isList hu0
  | int a =>
    obtain rfl : x = .int a := hx
    obtain ⟨t0, rfl⟩ := rx
    cases e with
    | non => obtain rfl : y = .non := hy; obtain rfl : v = Value.none := ry; unfold eqD; exact RcNeAt.int_none a t0
    | bl b => obtain rfl : y = .bl b := hy; obtain rfl : v = Value.bool b := ry; unfold eqD; exact RcNeAt.int_bool a t0 b
    | int b => obtain rfl : y = .int b := hy; obtain ⟨t, rfl⟩ := ry; unfold eqD; exact RcNeAt.int_int a t0 b t
    | str b => obtain rfl : y = .str b := hy; obtain ⟨t, rfl⟩ := ry; unfold eqD; exact RcNeAt.int_str a t0 b t
    | tup es => obtain ⟨b, ys, rfl, hq, _⟩ := hy; obtain rfl : v = Value.ref b := ry; obtain ⟨its, _, p, _⟩ := I.tuple hq; unfold eqD; exact RcNeAt.int_tuple a t0 (show s.heap.IsTuple b its.toArray from p) hu0
    | lst es => obtain ⟨b, ys, rfl, hq, _⟩ := hy; obtain rfl : v = Value.ref b := ry; obtain ⟨its, _, p, _⟩ := I.list hq; unfold eqD; exact RcNeAt.int_list a t0 p.isList hu0
  | str a =>
    obtain rfl : x = .str a := hx
    obtain ⟨t0, rfl⟩ := rx
    cases e with
    | non => obtain rfl : y = .non := hy; obtain rfl : v = Value.none := ry; unfold eqD; exact RcNeAt.str_none a t0
    | bl b => obtain rfl : y = .bl b := hy; obtain rfl : v = Value.bool b := ry; unfold eqD; exact RcNeAt.str_bool a t0 b
    | int b => obtain rfl : y = .int b := hy; obtain ⟨t, rfl⟩ := ry; unfold eqD; exact RcNeAt.str_int a t0 b t
    | str b => obtain rfl : y = .str b := hy; obtain ⟨t, rfl⟩ := ry; unfold eqD; exact RcNeAt.str_str a t0 b t
    | tup es => obtain ⟨b, ys, rfl, hq, _⟩ := hy; obtain rfl : v = Value.ref b := ry; obtain ⟨its, _, p, _⟩ := I.tuple hq; unfold eqD; exact RcNeAt.str_tuple a t0 (show s.heap.IsTuple b its.toArray from p) hu0
    | lst es => obtain ⟨b, ys, rfl, hq, _⟩ := hy; obtain rfl : v = Value.ref b := ry; obtain ⟨its, _, p, _⟩ := I.list hq; unfold eqD; exact RcNeAt.str_list a t0 p.isList hu0
  | tup ds =>
    have hdd : depL ds ≤ 100 := by unfold dep at hd; omega
    obtain ⟨a, xs, rfl, hq, hl⟩ := hx
    obtain rfl : u = Value.ref a := rx
    obtain ⟨its, rv, p, _⟩ := I.tuple hq
    have p : s.heap.IsTuple a its.toArray := p
    cases e with
    | non => obtain rfl : y = .non := hy; obtain rfl : v = Value.none := ry; unfold eqD; exact RcNeAt.tuple_none p hu0
    | bl b => obtain rfl : y = .bl b := hy; obtain rfl : v = Value.bool b := ry; unfold eqD; exact RcNeAt.tuple_bool b p hu0
    | int b => obtain rfl : y = .int b := hy; obtain ⟨t, rfl⟩ := ry; unfold eqD; exact RcNeAt.tuple_int b t p hu0
    | str b => obtain rfl : y = .str b := hy; obtain ⟨t, rfl⟩ := ry; unfold eqD; exact RcNeAt.tuple_str b t p hu0
    | lst es => obtain ⟨b, ys, rfl, hq', _⟩ := hy; obtain rfl : v = Value.ref b := ry; obtain ⟨its', _, p', _⟩ := I.list hq'; unfold eqD; exact RcNeAt.tuple_list p p'.isList hu0
    | tup es =>
      obtain ⟨b, ys, rfl, hq', hl'⟩ := hy
      obtain rfl : v = Value.ref b := ry
      obtain ⟨its', rv', p', _⟩ := I.tuple hq'
      have p' : s.heap.IsTuple b its'.toArray := p'
      have he := items_at (A := A.in1) (s := s) hl rv hl' rv' (fun d e x y u v ⟨j, hj⟩ r1 r2 s1 s2 => (I.eq_sh 100 A.in1 d e x y u v (Nat.le_trans (depL_le hj) hdd) (by show A.units + 1 + 100 < cLine; omega) r1 r2 s1 s2).2)
      have rc := RcNeAt.tuples p p' hu0 he
      have l1 := hl.length
      have l2 := rv.length
      have l3 := hl'.length
      have l4 := rv'.length
      rw [List.size_toArray, List.size_toArray, ← l2, ← l4, ← l1, ← l3, eqL_all] at rc
      unfold eqD
      exact rc
  | lst ds =>
    have hdd : depL ds ≤ 100 := by unfold dep at hd; omega
    obtain ⟨a, xs, rfl, hq, hl⟩ := hx
    obtain rfl : u = Value.ref a := rx
    obtain ⟨its, rv, p, _⟩ := I.list hq
    have p := p.isList
    cases e with
    | non => obtain rfl : y = .non := hy; obtain rfl : v = Value.none := ry; unfold eqD; exact RcNeAt.list_none p hu0
    | bl b => obtain rfl : y = .bl b := hy; obtain rfl : v = Value.bool b := ry; unfold eqD; exact RcNeAt.list_bool b p hu0
    | int b => obtain rfl : y = .int b := hy; obtain ⟨t, rfl⟩ := ry; unfold eqD; exact RcNeAt.list_int b t p hu0
    | str b => obtain rfl : y = .str b := hy; obtain ⟨t, rfl⟩ := ry; unfold eqD; exact RcNeAt.list_str b t p hu0
    | tup es => obtain ⟨b, ys, rfl, hq', _⟩ := hy; obtain rfl : v = Value.ref b := ry; obtain ⟨its', _, p', _⟩ := I.tuple hq'; unfold eqD; exact RcNeAt.list_tuple p (show s.heap.IsTuple b its'.toArray from p') hu0
    | lst es =>
      obtain ⟨b, ys, rfl, hq', hl'⟩ := hy
      obtain rfl : v = Value.ref b := ry
      obtain ⟨its', rv', p', _⟩ := I.list hq'
      have p' := p'.isList
      have l1 := hl.length
      have l2 := rv.length
      have l3 := hl'.length
      have l4 := rv'.length
      unfold eqD
      by_cases hz : ds.length = es.length
      · have he := items_at (A := A.in1) (s := s) hl rv hl' rv' (fun d e x y u v ⟨j, hj⟩ r1 r2 s1 s2 => (I.eq_sh 100 A.in1 d e x y u v (Nat.le_trans (depL_le hj) hdd) (by show A.units + 1 + 100 < cLine; omega) r1 r2 s1 s2).2)
        have rc := RcNeAt.lists p p' (by rw [List.size_toArray, List.size_toArray]; omega) hu0 he
        rw [List.size_toArray, ← l2, ← l1] at rc
        have q := eqL_all ds es
        rw [← hz, Nat.min_self, beq_self_eq_true, Bool.and_true] at q
        rw [← q]
        exact rc
      · have q : eqL ds es = false := by
          cases q : eqL ds es with
          | false => rfl
          | true => exact absurd (eqL_length q) hz
        rw [q]
        exact RcNeAt.lists_lengths p p' (by rw [List.size_toArray, List.size_toArray]; simp; omega) hu0
def rNeD (K : PySem.W.Frag) : R2 := fun x y H Q => ∃ d e, dep d ≤ 100 ∧ Sh K H d x ∧ Sh K H e y ∧ Q (.bl (!eqD d e)) H
theorem op_neD (hu : X.A.units + 101 < cLine) : OpR X (compareOp .NotEq) (rNeD X.K) := by
  intro pins s σ H x y v u Q I rx ry ⟨d, e, hd, hx, hy, q⟩
  exact (I.ne_sh d e x y v u hd hu rx ry hx hy) X.prog X.w X.xe _ ⟨.bl _, H, I, rfl, q⟩
def isiD : Dt → String → Bool
  | .non, _ => false
  | .bl _, T => T == "bool" || T == "int"
  | .int _, T => T == "int"
  | .str _, T => T == "str"
  | .tup _, T => T == "tuple"
  | .lst _, T => T == "list"
def rIsi (K : PySem.W.Frag) : List V → Hp → VK → Prop := fun vs H Q => ∃ x d T, vs = [x, .ty T] ∧ (T = "int" ∨ T = "bool" ∨ T = "tuple" ∨ T = "list" ∨ T = "str") ∧ Sh K H d x ∧ Q (.bl (isiD d T)) H
theorem call_isi : CallR X (.builtin "isinstance") (rIsi X.K) := by
  intro pins s σ H xs us Q I r ⟨x, d, T, e, hT, hx, q⟩
  subst e
  obtain ⟨u, w', rfl, rx, rt⟩ := r.two
  obtain rfl : w' = Value.type T := rt
  have fin : ∀ (b : Bool) (t : Nat), isiD d T = b → EP X pins σ Q (.bool b) { s with toks := t } := fun b t e => ⟨.bl b, H, I.tok t, rfl, by rw [← e]; exact q⟩
  have fin0 : ∀ (b : Bool), isiD d T = b → EP X pins σ Q (.bool b) s := fun b e => ⟨.bl b, H, I, rfl, by rw [← e]; exact q⟩
  cases d with
  | non =>
    obtain rfl : x = .non := hx
    obtain rfl : u = Value.none := rx
    rcases hT with rfl | rfl | rfl | rfl | rfl
    · exact IsiPair.NoneType_int (fin _ _ rfl)
    · exact IsiPair.NoneType_bool (fin _ _ rfl)
    · exact IsiPair.NoneType_tuple (fin _ _ rfl)
    · exact IsiPair.NoneType_list (fin _ _ rfl)
    · exact IsiPair.NoneType_str (fin _ _ rfl)
  | bl b =>
    obtain rfl : x = .bl b := hx
    obtain rfl : u = Value.bool b := rx
    rcases hT with rfl | rfl | rfl | rfl | rfl
    · exact IsiPair.bool_int (fin0 _ rfl)
    · exact IsiPair.bool_bool (fin0 _ rfl)
    · exact IsiPair.bool_tuple (fin _ _ rfl)
    · exact IsiPair.bool_list (fin _ _ rfl)
    · exact IsiPair.bool_str (fin _ _ rfl)
  | int b =>
    obtain rfl : x = .int b := hx
    obtain ⟨t, rfl⟩ := rx
    rcases hT with rfl | rfl | rfl | rfl | rfl
    · exact IsiPair.int_int (fin0 _ rfl)
    · exact IsiPair.int_bool (fin _ _ rfl)
    · exact IsiPair.int_tuple (fin _ _ rfl)
    · exact IsiPair.int_list (fin _ _ rfl)
    · exact IsiPair.int_str (fin _ _ rfl)
  | str b =>
    obtain rfl : x = .str b := hx
    obtain ⟨t, rfl⟩ := rx
    rcases hT with rfl | rfl | rfl | rfl | rfl
    · exact IsiPair.str_int (fin _ _ rfl)
    · exact IsiPair.str_bool (fin _ _ rfl)
    · exact IsiPair.str_tuple (fin _ _ rfl)
    · exact IsiPair.str_list (fin _ _ rfl)
    · exact IsiPair.str_str (fin0 _ rfl)
  | tup ds =>
    obtain ⟨a, ys, rfl, hq, _⟩ := hx
    obtain rfl : u = Value.ref a := rx
    obtain ⟨its, _, ⟨o, ho, hc, _⟩, _⟩ := I.tuple hq
    rcases hT with rfl | rfl | rfl | rfl | rfl
    · exact IsiPair.tuple_int ho hc (fin _ _ rfl)
    · exact IsiPair.tuple_bool ho hc (fin _ _ rfl)
    · exact IsiPair.tuple_tuple ho hc (fin0 _ rfl)
    · exact IsiPair.tuple_list ho hc (fin _ _ rfl)
    · exact IsiPair.tuple_str ho hc (fin _ _ rfl)
  | lst ds =>
    obtain ⟨a, ys, rfl, hq, _⟩ := hx
    obtain rfl : u = Value.ref a := rx
    obtain ⟨its, _, p, _⟩ := I.list hq
    obtain ⟨o, ho, hc, _⟩ := p.isList
    rcases hT with rfl | rfl | rfl | rfl | rfl
    · exact IsiPair.list_int ho hc (fin _ _ rfl)
    · exact IsiPair.list_bool ho hc (fin _ _ rfl)
    · exact IsiPair.list_tuple ho hc (fin _ _ rfl)
    · exact IsiPair.list_list ho hc (fin0 _ rfl)
    · exact IsiPair.list_str ho hc (fin _ _ rfl)
def Sq (K : PySem.W.Frag) (H : Hp) (a : Addr) (xs : List V) : Prop := SqL K H a xs ∨ SqT K H a xs
end
end L2
namespace L2
open PySem PySem.Spec PyProof.Rows
section
variable {X : Cx}
def rCatA (K : PySem.W.Frag) : R2 := fun x y H Q => ∃ a b xs ys, x = .ref a ∧ y = .ref b ∧ SqT K H a xs ∧ SqT K H b ys ∧ xs.length + ys.length ≤ sizeLine ∧
  ∀ p H', ((p = a ∧ H' = H ∧ ys = []) ∨ (p = b ∧ H' = H ∧ xs = []) ∨ (H p = none ∧ H' = upd H p (.tup (xs ++ ys)))) → SqT K H' p (xs ++ ys) → Same H H' → Q (.ref p) H'
theorem same_new {H : Hp} {p : Addr} (h : H p = none) (o : HO) : Same H (upd H p o) := fun b u q => by rw [upd_ne (ne_of_none q h)]; exact q
theorem op_catA : OpR X (binaryOp .Add) (rCatA X.K) := by
  intro pins s σ H x y v u Q I rx ry ⟨a, b, xs, ys, ex, ey, ha, hb, hz, q⟩
  subst ex ey
  obtain rfl : v = Value.ref a := rx
  obtain rfl : u = Value.ref b := ry
  by_cases hx : xs = []
  · obtain ⟨its, r1, p1, _⟩ := I.tuple ha
    obtain ⟨its2, r2, p2, _⟩ := I.tuple hb
    have he : its = [] := r1.nil_iff.mpr hx
    obtain ⟨⟨cls, dd, data, sl⟩, ho, hc, n, hd⟩ := id p1
    obtain ⟨⟨cls2, dd2, data2, sl2⟩, ho2, hc2, n2, hd2⟩ := id p2
    simp only at hc hd hc2 hd2
    subst hc hd hc2 hd2
    refine concat_meets ⟨_, ho, rfl⟩ ⟨_, ho2, rfl⟩ noFill_tuple_add seq_tuple_add PySem.F.slot_tuple_add PySem.F.entry_tuple_add (PySem.F.args_tuple_add_2 _ _)
      (tuple_addW0 a b its.toArray its2.toArray n n2 dd dd2 sl sl2 (by simp [he])) ⟨ho, ho2, ?_⟩
    exact ⟨.ref b, H, I, rfl, q b H (.inr (.inl ⟨rfl, rfl, hx⟩)) (by rw [hx]; exact hb) (Same.refl H)⟩
  · refine op_catT (X := X) pins s σ H (.ref a) (.ref b) (.ref a) (.ref b) Q I rfl rfl ⟨a, b, xs, ys, rfl, rfl, ha, hb, hx, hz, fun hy => ?_, fun hy p hp => ?_⟩
    · exact q a H (.inl ⟨rfl, rfl, hy⟩) (by rw [hy, List.append_nil]; exact ha) (Same.refl H)
    · exact q p _ (.inr (.inr ⟨hp, rfl⟩)) (.of upd_same) (same_new hp _)
def rAddA (K : PySem.W.Frag) : R2 := fun x y H Q => match x, y with
  | .int i, .int j => Q (.int (i + j)) H
  | .str i, .str j => i.length + j.length ≤ sizeLine ∧ Q (.str (i ++ j)) H
  | .ref a, .ref b => rCat (.ref a) (.ref b) H Q ∨ rCatA K (.ref a) (.ref b) H Q
  | _, _ => False
theorem op_addA : OpR X (binaryOp .Add) (rAddA X.K) := by
  intro pins s σ H x y v u Q I rx ry h
  unfold rAddA at h
  split at h
  · exact op_add (X := X) pins s σ H _ _ v u Q I rx ry ⟨_, _, rfl, rfl, h⟩
  · exact op_add_str (X := X) pins s σ H _ _ v u Q I rx ry ⟨_, _, rfl, rfl, h.1, h.2⟩
  · rcases h with h | h
    · exact op_cat (X := X) pins s σ H _ _ v u Q I rx ry h
    · exact op_catA (X := X) pins s σ H _ _ v u Q I rx ry h
  · exact h.elim
def rMulA : R2 := fun x y H Q => match x, y with
  | .int i, .int j => CMul i j ∧ Q (.int (i * j)) H
  | .ref a, .int k => rRep (.ref a) (.int k) H Q
  | _, _ => False
theorem op_mulA : OpR X (binaryOp .Mult) rMulA := by
  intro pins s σ H x y v u Q I rx ry h
  unfold rMulA at h
  split at h
  · exact op_mul (X := X) pins s σ H _ _ v u Q I rx ry ⟨_, _, rfl, rfl, h.1, h.2⟩
  · exact op_rep (X := X) pins s σ H _ _ v u Q I rx ry h
  · exact h.elim
theorem ix_sq : IxR X (fun x y H Q => rIxL X.K x y H Q ∨ rIxT X.K x y H Q) := ix_list.or ix_tup
theorem Vals.of_get : ∀ {xs : List V} {us : List Value}, xs.length = us.length → (∀ (i : Nat) x u, xs[i]? = some x → us[i]? = some u → RelV x u) → Vals xs us
  | [], [], _, _ => .nil
  | [], _ :: _, h, _ => by simp at h
  | _ :: _, [], h, _ => by simp at h
  | x :: xs, u :: us, h, hr => .cons (hr 0 x u rfl rfl) (Vals.of_get (by simpa using h) fun i y w h1 h2 => hr (i + 1) y w (by simpa using h1) (by simpa using h2))
theorem call_rng1 : CallR X (.type "range") (fun vs H Q => ∃ n : Int, vs = [.int n] ∧ ∀ p, H p = none → Q (.ref p) (upd H p (.rng 0 n))) := by
  intro pins s σ H xs us Q I r ⟨n, e, q⟩
  subst e
  obtain ⟨u, rfl, ru⟩ := r.one
  obtain ⟨t, rfl⟩ := ru
  refine call_range_1 ⟨.ref s.heap.objs.size, _, I.laid (a := s.heap.objs.size) (o := .rng 0 n) (fun b o e => Heap.get?_push_of_some _ e) (Nat.le_refl _) ⟨_, _, _, Heap.get?_push_size _ rfl⟩, rfl, q _ (I.hok.fresh (Nat.le_refl _))⟩
theorem call_rng2 : CallR X (.type "range") (fun vs H Q => ∃ m n : Int, vs = [.int m, .int n] ∧ ∀ p, H p = none → Q (.ref p) (upd H p (.rng m n))) := by
  intro pins s σ H xs us Q I r ⟨m, n, e, q⟩
  subst e
  obtain ⟨u, u', rfl, ru, ru'⟩ := r.two
  obtain ⟨t, rfl⟩ := ru
  obtain ⟨t', rfl⟩ := ru'
  refine call_range_2 ⟨.ref s.heap.objs.size, _, I.laid (a := s.heap.objs.size) (o := .rng m n) (fun b o e => Heap.get?_push_of_some _ e) (Nat.le_refl _) ⟨_, _, _, Heap.get?_push_size _ rfl⟩, rfl, q _ (I.hok.fresh (Nat.le_refl _))⟩
theorem call_rng : CallR X (.type "range") (fun vs H Q => (∃ n : Int, vs = [.int n] ∧ ∀ p, H p = none → Q (.ref p) (upd H p (.rng 0 n))) ∨ ∃ m n : Int, vs = [.int m, .int n] ∧ ∀ p, H p = none → Q (.ref p) (upd H p (.rng m n))) := call_rng1.or call_rng2
def rngI (lo hi : Int) : List Int := (List.range (hi - lo).toNat).map fun i : Nat => lo + (i : Int)
theorem call_list_rng (hc : X.calm = true) : CallR X (.type "list") (fun vs H Q => ∃ (a : Addr) (lo hi : Int), vs = [.ref a] ∧ H a = some (.rng lo hi) ∧ (-(2 ^ 62) ≤ lo ∧ lo < 2 ^ 62 ∧ -(2 ^ 62) ≤ hi ∧ hi < 2 ^ 62 ∧ hi - lo ≤ 1000000) ∧
    ∀ p, H p = none → Q (.ref p) (upd H p (.lst ((rngI lo hi).map V.int)))) := by
  intro pins s σ H xs us Q I r ⟨a, lo, hi, e, ha, ⟨b1, b2, b3, b4, b5⟩, q⟩
  subst e
  obtain ⟨u, rfl, ru⟩ := r.one
  obtain rfl : u = Value.ref a := ru
  obtain ⟨t, u, v, hr⟩ := I.hok a _ ha
  refine call_list_range (a := lo) (b := hi) (c := 1) (n := (hi - lo).toNat) (I.ok.hd hc) hr (small_one b1 b2 b3 b4) (by rw [rangeSize_one]; split <;> omega) (by omega) fun h' tk acc' c' hk hS hI => ?_
  refine ⟨.ref s.heap.objs.size, _, I.laid (a := s.heap.objs.size) (o := .lst ((rngI lo hi).map V.int)) hk (Nat.le_refl _) ⟨?_, acc'.toList, c', ?_, by simpa using hS⟩, rfl, q _ (I.hok.fresh (Nat.le_refl _))⟩
  · rw [List.length_map]; unfold rngI; rw [List.length_map, List.length_range]
    exact Nat.le_trans (show (hi - lo).toNat ≤ 1000000 by omega) (by decide)
  · refine Vals.of_get ?_ fun i x u hx hu => ?_
    · have el : acc'.toList.length = (hi - lo).toNat := by rw [← hI.1]; simp
      rw [List.length_map, el]; unfold rngI; rw [List.length_map, List.length_range]
    · obtain ⟨t, rfl⟩ := hI.2 i u (by simpa using hu)
      rw [List.getElem?_map] at hx
      unfold rngI at hx
      rw [List.getElem?_map] at hx
      cases hi' : (List.range (hi - lo).toNat)[i]? with
      | none => rw [hi'] at hx; cases hx
      | some j =>
        rw [hi'] at hx
        have : j = i := by
          obtain ⟨h1, h2⟩ := List.getElem?_eq_some_iff.mp hi'
          simpa using h2.symm
        subst this
        obtain rfl : V.int (lo + (j : Int)) = x := by simpa using hx
        exact ⟨t, by rw [Int.mul_one]⟩
theorem call_list_any (hc : X.calm = true) : CallR X (.type "list") (fun vs H Q => (∃ p ys, vs = [.ref p] ∧ (SqL X.K H p ys ∨ SqT X.K H p ys) ∧ ∀ l, H l = none → Q (.ref l) (upd H l (.lst ys))) ∨
    ∃ (a : Addr) (lo hi : Int), vs = [.ref a] ∧ H a = some (.rng lo hi) ∧ (-(2 ^ 62) ≤ lo ∧ lo < 2 ^ 62 ∧ -(2 ^ 62) ≤ hi ∧ hi < 2 ^ 62 ∧ hi - lo ≤ 1000000) ∧ ∀ p, H p = none → Q (.ref p) (upd H p (.lst ((rngI lo hi).map V.int)))) := call_list_of.or (call_list_rng hc)
def iSeq (K : PySem.W.Frag) (tl : TE) : TI := fun σ H R => tl σ H fun x H1 => ∃ a, x = .ref a ∧ (((∃ xs, SqL K H1 a xs) ∧ R (Itl K a) H1) ∨ ((∃ xs, SqT K H1 a xs) ∧ R (Itt K a) H1))
theorem pi_seq {tg l : Expr} {tl : TE} (hl : PE X l tl) : PI X tg l (iSeq X.K tl) := by
  intro pins s σ H R I h
  refine thn (hl pins s σ H _ I h) fun v s1 ⟨x, H1, I1, r1, q1⟩ => ?_
  obtain ⟨a, e, q⟩ := q1
  subst e
  cases r1
  rcases q with ⟨⟨xs, hq⟩, q⟩ | ⟨⟨xs, hq⟩, q⟩
  · obtain ⟨its, rv, p, hz⟩ := I1.list hq
    refine wpAny_pyIter_list p.isList ?_
    refine ⟨s1.heap.objs.size, [s1.heap.objs.size], _, _, H1, rfl, I1.kept (t' := s1.toks) fun b o e => Heap.get?_push_of_some _ e, turn_list a _, ⟨_, Heap.get?_push_size _ rfl, rfl, rfl⟩, fun b hb => ?_, q⟩
    have e : b = s1.heap.objs.size := by simpa using hb
    subst e
    exact I1.fpOk (Nat.le_refl _) (I1.hok.fresh (Nat.le_refl _))
  · obtain ⟨its, rv, p, hz⟩ := I1.tuple hq
    refine wpAny_pyIter_tuple (show s1.heap.IsTuple a its.toArray from p) ?_
    refine ⟨s1.heap.objs.size, [s1.heap.objs.size], _, _, H1, rfl, I1.kept (t' := s1.toks) fun b o e => Heap.get?_push_of_some _ e, turn_tuple a _, ⟨_, Heap.get?_push_size _ rfl, rfl, rfl⟩, fun b hb => ?_, q⟩
    have e : b = s1.heap.objs.size := by simpa using hb
    subst e
    exact I1.fpOk (Nat.le_refl _) (I1.hok.fresh (Nat.le_refl _))
end
structure Def (P : Program) (w : World) (K : PySem.W.Frag) (mg : Str → Option Value) (base : Heap) (x : Str) (k : Nat) (ps : List Str) (sp : Sp) : Prop where
  ex : ∃ (f : Addr) (fd : FuncData), FnOk P w K mg base CX0 k f fd ps sp ∧ mg x = some (.ref f) ∧ PySem.W.keepIn K (.ref f) = true ∧ Binds K fd ps []
theorem Def.mono {P : Program} {w : World} {K : PySem.W.Frag} {mg : Str → Option Value} {base : Heap} {x : Str} {j k : Nat} {ps : List Str} {sp : Sp} (D : Def P w K mg base x j ps sp) (h : j ≤ k) : Def P w K mg base x k ps sp := by
  obtain ⟨f, fd, F, r⟩ := D.ex
  exact ⟨f, fd, F.mono h, r⟩
theorem pe_def {X : Cx} {x : Str} {k : Nat} {ps : List Str} {sp : Sp} {p pos : Pos} {e : Expr} {es : List Expr} {t : TA} (D : Def X.prog X.w X.K X.mg X.base x k ps sp) (hr : Room k X.A) (hg : Gl X x) (ha : PA X (e :: es) t)
    (hdb : (x == ("__debug__" : Str)) = false := by decide) (he : starEach (e :: es) X.env = (false, eval e X.env) :: starEach es X.env := by rfl) (hpl : (backTo pos (starEach es X.env)).any (·.1) = false := by rfl) :
    PE X (.Call (.Name x p) (e :: es) [] pos) (tCall sp [] E0 t) := by
  obtain ⟨f, fd, F, hm, hk, hb⟩ := D.ex
  exact pe_call F hr hg hm hk hb .nil pass0 ha hdb he hpl
end L2
namespace L2
open PySem PySem.Spec PyProof.Rows
def SameX (acc : Addr) (H H' : Hp) : Prop := ∀ b o, b ≠ acc → H b = some o → H' b = some o
theorem SameX.refl (acc : Addr) (H : Hp) : SameX acc H H := fun _ _ _ h => h
theorem SameX.trans {acc : Addr} {H H1 H2 : Hp} (a : SameX acc H H1) (b : SameX acc H1 H2) : SameX acc H H2 := fun c o n h => b c o n (a c o n h)
theorem Same.x {acc : Addr} {H H' : Hp} (e : Same H H') : SameX acc H H' := fun b o _ h => e b o h
theorem SameX.put {acc : Addr} {H : Hp} (o : HO) : SameX acc H (upd H acc o) := fun b u n h => by rw [upd_ne n]; exact h
def Agree (vars : List Nat) (σ σ' : St) : Prop := ∀ k, k ∉ vars → σ'[k]? = σ[k]?
theorem Agree.refl (vars : List Nat) (σ : St) : Agree vars σ σ := fun _ _ => rfl
theorem Agree.trans {vars : List Nat} {σ σ1 σ2 : St} (a : Agree vars σ σ1) (b : Agree vars σ1 σ2) : Agree vars σ σ2 := fun k h => (b k h).trans (a k h)
theorem Agree.set {vars : List Nat} {σ : St} {j : Nat} (h : j ∈ vars) (v : Option V) : Agree vars σ (σ.set j v) := fun k hk => List.getElem?_set_ne (fun e : j = k => hk (by rw [← e]; exact h))
theorem set_at {σ : St} {j : Nat} {v : Option V} (h : j < σ.length) : (σ.set j v)[j]? = some v := List.getElem?_set_self h
def Emits (vars : List Nat) (tb : TS) (acc : Addr) (σ : St) (H : Hp) (L : List V) : Prop :=
  ∀ (D : Ends) (pre : List V), H acc = some (.lst pre) → pre.length + L.length ≤ 1000000 → (∀ σ' H', σ'.length = σ.length → Agree vars σ σ' → SameX acc H H' → H' acc = some (.lst (pre ++ L)) → D.nx σ' H') → tb D σ H
theorem flatMap_range_succ {α : Type} (f : Nat → List α) (i : Nat) : (List.range (i + 1)).flatMap f = (List.range i).flatMap f ++ f i := by
  rw [List.range_succ, List.flatMap_append]
  simp
theorem flatMap_range_le {α : Type} (f : Nat → List α) {i n : Nat} (h : i ≤ n) : ((List.range i).flatMap f).length ≤ ((List.range n).flatMap f).length := by
  induction h with
  | refl => exact Nat.le_refl _
  | step _ ih => rw [flatMap_range_succ, List.length_append]; omega
end L2
namespace L2
open PySem PySem.Spec PyProof.Rows
theorem bt_len : bootBuiltins "len" = some (.builtin "len") := by decide +kernel
theorem bt_min : bootBuiltins "min" = some (.builtin "min") := by decide +kernel
theorem bt_max : bootBuiltins "max" = some (.builtin "max") := by decide +kernel
theorem bt_isi : bootBuiltins "isinstance" = some (.builtin "isinstance") := by decide +kernel
theorem bt_sorted : bootBuiltins "sorted" = some (.builtin "sorted") := by decide +kernel
theorem bt_tuple : bootBuiltins "tuple" = some (.type "tuple") := by decide +kernel
theorem bt_list : bootBuiltins "list" = some (.type "list") := by decide +kernel
theorem bt_range : bootBuiltins "range" = some (.type "range") := by decide +kernel
theorem bt_int : bootBuiltins "int" = some (.type "int") := by decide +kernel
theorem bt_bool : bootBuiltins "bool" = some (.type "bool") := by decide +kernel
structure Blt (mg : Str → Option Value) : Prop where
  len : mg "len" = none
  all : mg "all" = none
  min : mg "min" = none
  max : mg "max" = none
  sum : mg "sum" = none
  isi : mg "isinstance" = none
  sorted : mg "sorted" = none
  tuple : mg "tuple" = none
  list : mg "list" = none
  range : mg "range" = none
  int : mg "int" = none
  bool : mg "bool" = none
end L2
namespace L2
open PySem
theorem hu100 {A : Around} {k : Nat} (hr : Room k A) : A.units + 100 < cLine := by have := hr.un; omega
theorem hu101 {A : Around} {k : Nat} (hr : Room k A) : A.units + 101 < cLine := by have := hr.un; omega
end L2
namespace L2
open PySem PySem.Spec PyProof.Rows
section
variable {X : Cx} {K : PySem.W.Frag}
theorem ix_sqK (hK : X.K = K) : IxR X (fun x y H Q => rIxL K x y H Q ∨ rIxT K x y H Q) := by subst hK; exact ix_sq
theorem op_addK (hK : X.K = K) : OpR X (binaryOp .Add) (rAddA K) := by subst hK; exact op_addA
theorem op_eqK {k : Nat} (hK : X.K = K) (hr : Room k X.A) : OpR X (compareOp .Eq) (rEqD K) := by subst hK; exact op_eqD (hu100 hr)
theorem op_neK {k : Nat} (hK : X.K = K) (hr : Room k X.A) : OpR X (compareOp .NotEq) (rNeD K) := by subst hK; exact op_neD (hu101 hr)
theorem call_isiK (hK : X.K = K) : CallR X (.builtin "isinstance") (rIsi K) := by subst hK; exact call_isi
def rLen (K : PySem.W.Frag) : List V → Hp → VK → Prop := fun xs H Q => ∃ p ys, xs = [.ref p] ∧ (SqL K H p ys ∨ SqT K H p ys) ∧ Q (.int ys.length) H
theorem call_lenK (hK : X.K = K) : CallR X (.builtin "len") (rLen K) := by subst hK; exact call_len_seq
def rMin2 : List V → Hp → VK → Prop := fun xs H Q => ∃ i j : Int, xs = [.int i, .int j] ∧ Q (.int (if j < i then j else i)) H
theorem call_min2K (hc : X.calm = true) : CallR X (.builtin "min") rMin2 := call_min2 hc
def rMax2 : List V → Hp → VK → Prop := fun xs H Q => ∃ i j : Int, xs = [.int i, .int j] ∧ Q (.int (if j > i then j else i)) H
theorem call_max2K (hc : X.calm = true) : CallR X (.builtin "max") rMax2 := call_max2 hc
def rTuple (K : PySem.W.Frag) : List V → Hp → VK → Prop := fun xs H Q => ∃ p ys, xs = [.ref p] ∧ ((SqL K H p ys ∧ ∀ l, H l = none → Q (.ref l) (upd H l (.tup ys))) ∨ (SqT K H p ys ∧ Q (.ref p) H))
theorem call_tupleK (hK : X.K = K) : CallR X (.type "tuple") (rTuple K) := by subst hK; exact call_tuple_of
def rList (K : PySem.W.Frag) : List V → Hp → VK → Prop := fun vs H Q => (∃ p ys, vs = [.ref p] ∧ (SqL K H p ys ∨ SqT K H p ys) ∧ ∀ l, H l = none → Q (.ref l) (upd H l (.lst ys))) ∨
    ∃ (a : Addr) (lo hi : Int), vs = [.ref a] ∧ H a = some (.rng lo hi) ∧ (-(2 ^ 62) ≤ lo ∧ lo < 2 ^ 62 ∧ -(2 ^ 62) ≤ hi ∧ hi < 2 ^ 62 ∧ hi - lo ≤ 1000000) ∧ ∀ p, H p = none → Q (.ref p) (upd H p (.lst ((rngI lo hi).map V.int)))
theorem call_listK (hK : X.K = K) (hc : X.calm = true) : CallR X (.type "list") (rList K) := by subst hK; exact call_list_any hc
theorem pi_seqK {tg l : Expr} {tl : TE} (hK : X.K = K) (hl : PE X l tl) : PI X tg l (iSeq K tl) := by subst hK; exact pi_seq hl
theorem pg_tupK {es : List Expr} {k : Nat} {t : TGs} {n : Nat} {pos : Pos} (hK : X.K = K) (hc : X.calm = true) (h : PGs X es t) (hn : (assignEach es X.env).length = n := by rfl) (hst : (assignEach es X.env).findIdx? (·.1) = none := by rfl) : PG X (.Tuple es k pos) (gTup K n t) := by
  subst hK; exact pg_tup hc h hn hst
end
end L2
namespace L2
open PySem PySem.Spec PyProof.Rows
abbrev yLt : R2 := rI0 fun i j => .bl (decide (i < j))
abbrev yGt : R2 := rI0 fun i j => .bl (decide (j < i))
abbrev yGe : R2 := rI0 fun i j => .bl (decide (j ≤ i))
abbrev ySub : R2 := rI0 fun i j => .int (i - j)
abbrev yDiv : R2 := rI CDiv fun i j => .int (i / j)
abbrev yMod : R2 := rI (fun _ j => 0 < j) fun i j => .int (i % j)
abbrev yPow : R2 := rI CPow fun i j => .int (i ^ j.toNat)
abbrev yNeg : V → Hp → VK → Prop := rU fun i => .int (-i)
abbrev rIx2 (K : PySem.W.Frag) : R2 := fun x y H Q => rIxL K x y H Q ∨ rIxT K x y H Q
def rRng : List V → Hp → VK → Prop := fun vs H Q => (∃ n : Int, vs = [.int n] ∧ ∀ p, H p = none → Q (.ref p) (upd H p (.rng 0 n))) ∨ ∃ m n : Int, vs = [.int m, .int n] ∧ ∀ p, H p = none → Q (.ref p) (upd H p (.rng m n))
theorem call_rngK {X : Cx} : CallR X (.type "range") rRng := call_rng
end L2
namespace L2
open PySem
structure Quad (T : List (List Int)) (n : Nat) : Prop where
  len : T.length = n
  row : ∀ r ∈ T, r.length = n
def at2 (T : List (List Int)) (i j : Nat) : Int := (T.getD i []).getD j 0
section
variable {K : PySem.W.Frag} {H : Hp} {T : List (List Int)} {n : Nat}
theorem ShL.rows : ∀ {T : List (List Int)} {rs : List V}, ShL K H (T.map fun r => Dt.tup (r.map Dt.int)) rs → rs.length = T.length ∧ ∀ (i : Nat) (row : List Int), T[i]? = some row → ∃ b, rs[i]? = some (.ref b) ∧ SqT K H b (row.map V.int)
  | [], rs, h => by
    have h : rs = [] := h
    subst h
    exact ⟨rfl, fun i row e => by simp at e⟩
  | r :: T, rs, ⟨x, rr, h1, ⟨b, xs, h2, h3, h4⟩, h5⟩ => by
    obtain ⟨e, g⟩ := ShL.rows h5
    subst h1
    refine ⟨by rw [List.length_cons, List.length_cons, e], fun i row er => ?_⟩
    cases i with
    | zero =>
      have : r = row := by simpa using er
      subst this
      exact ⟨b, by rw [h2]; rfl, by rw [← ShL.of_ints h4]; exact h3⟩
    | succ i => exact g i row (by simpa using er)
theorem ShL.of_rows : ∀ {T : List (List Int)} {rs : List V}, rs.length = T.length → (∀ (i : Nat) (row : List Int), T[i]? = some row → ∃ b, rs[i]? = some (.ref b) ∧ SqT K H b (row.map V.int)) → ShL K H (T.map fun r => Dt.tup (r.map Dt.int)) rs
  | [], rs, h, _ => List.length_eq_zero_iff.mp h
  | r :: T, [], h, _ => by simp at h
  | r :: T, x :: rs, h, g => by
    obtain ⟨b, e, hq⟩ := g 0 r rfl
    have e : x = .ref b := by simpa using e
    exact ⟨x, rs, rfl, ⟨b, _, e, hq, ShL.ints r⟩, ShL.of_rows (by simpa using h) fun i row er => by
      obtain ⟨c, e2, q2⟩ := g (i + 1) row (by simpa using er)
      exact ⟨c, by simpa using e2, q2⟩⟩
theorem Quad.get (q : Quad T n) {i : Nat} (h : i < n) : ∃ row, T[i]? = some row ∧ row.length = n ∧ T.getD i [] = row := by
  have hi : i < T.length := by rw [q.len]; exact h
  refine ⟨T[i], List.getElem?_eq_getElem hi, q.row _ (List.getElem_mem hi), ?_⟩
  rw [List.getD_eq_getElem?_getD, List.getElem?_eq_getElem hi]; rfl
theorem getD_at {xs : List Int} {j : Nat} (h : j < xs.length) : xs[j]? = some (xs.getD j 0) := by
  rw [List.getD_eq_getElem?_getD, List.getElem?_eq_getElem h]; rfl
theorem ixT {p : Addr} {xs : List V} {j : Nat} {v : V} {Q : VK} (h : SqT K H p xs) (hj : xs[j]? = some v) (q : Q v H) : rIx2 K (.ref p) (.int (j : Int)) H Q := .inr ⟨p, xs, j, v, rfl, rfl, h, atI_nat hj, q⟩
theorem ixL {p : Addr} {xs : List V} {j : Nat} {v : V} {Q : VK} (h : SqL K H p xs) (hj : xs[j]? = some v) (q : Q v H) : rIx2 K (.ref p) (.int (j : Int)) H Q := .inl ⟨p, xs, j, v, rfl, rfl, h, atI_nat hj, q⟩
end
theorem same_of_x {acc : Addr} {H H2 : Hp} {o : HO} (hacc : H acc = none) (sx : SameX acc (upd H acc o) H2) : Same H H2 := fun b u e => sx b u (ne_of_none e hacc) (by rw [upd_ne (ne_of_none e hacc)]; exact e)
theorem Emits.mono {vars vars' : List Nat} {tb : TS} {acc : Addr} {σ : St} {H : Hp} {L : List V} (h : Emits vars tb acc σ H L) (hs : ∀ k ∈ vars, k ∈ vars') : Emits vars' tb acc σ H L :=
  fun D pre ha hz hd => h D pre ha hz fun σ' H' hl ag sx h2 => hd σ' H' hl (fun k hk => ag k fun z => hk (hs k z)) sx h2
theorem Emits.cast {vars : List Nat} {tb : TS} {acc : Addr} {σ : St} {H : Hp} {L L' : List V} (h : Emits vars tb acc σ H L) (e : L = L') : Emits vars tb acc σ H L' := e ▸ h
end L2
namespace L2
open PySem
section
variable {vars : List Nat} {tb : TS} {acc a : Addr} {σ : St} {H : Hp} {j : Nat} {D : Ends} {K : PySem.W.Frag}
theorem inv_range {lo : Int} {n : Nat} (R : Nat → List V → Hp → Prop) (hj : j ∈ vars) (hjl : j < σ.length) (h0 : R 0 [] (upd H acc (.lst []))) (ha : H acc = none)
    (h : ∀ i σ' H' L (D : Ends), i < n → σ'.length = σ.length → Agree vars σ σ' → σ'[j]? = some (some (.int (lo + (i : Int)))) → Same H H' → H' acc = some (.lst L) → R i L H' →
      (∀ σ'' H'' L', σ''.length = σ.length → Agree vars σ σ'' → Same H H'' → H'' acc = some (.lst L') → R (i + 1) L' H'' → D.nx σ'' H'') → tb D σ' H')
    (q : ∀ σ' H' L, Same H H' → H' acc = some (.lst L) → R n L H' → D.nx σ' H') : tLoop (Itr lo n) (gName j) tb D σ (upd H acc (.lst [])) := by
  refine for_range (lo := lo) (n := n) (g := gName j) (D := D) (fun i σ' H' => i ≤ n ∧ σ'.length = σ.length ∧ Agree vars σ σ' ∧ Same H H' ∧ ∃ L, H' acc = some (.lst L) ∧ R i L H') ⟨Nat.zero_le _, rfl, Agree.refl _ _, same_new ha _, [], upd_same, h0⟩ (fun i σ1 H1 hi ⟨_, hl1, ag1, sx1, L, h1, r1⟩ => ?_) fun σ1 H1 ⟨_, _, _, sm, L, h1, r1⟩ => q σ1 H1 L sm h1 r1
  exact h i (σ1.set j (some (.int (lo + (i : Int))))) H1 L _ hi (by rw [List.length_set]; exact hl1) (ag1.trans (Agree.set hj _)) (set_at (by omega)) sx1 h1 r1 fun σ2 H2 L' hl2 ag2 sm2 h2 r2 => ⟨hi, hl2, ag2, sm2, L', h2, r2⟩
theorem inv_list {xs : List V} (R : Nat → List V → Hp → Prop) (hj : j ∈ vars) (hjl : j < σ.length) (h0 : R 0 [] (upd H acc (.lst []))) (ha : H acc = none) (hs : ∀ i L H', Same H H' → R i L H' → SqL K H' a xs)
    (h : ∀ i x σ' H' L (D : Ends), xs[i]? = some x → σ'.length = σ.length → Agree vars σ σ' → σ'[j]? = some (some x) → Same H H' → H' acc = some (.lst L) → R i L H' →
      (∀ σ'' H'' L', σ''.length = σ.length → Agree vars σ σ'' → Same H H'' → H'' acc = some (.lst L') → R (i + 1) L' H'' → D.nx σ'' H'') → tb D σ' H')
    (q : ∀ σ' H' L, Same H H' → H' acc = some (.lst L) → R xs.length L H' → D.nx σ' H') : tLoop (Itl K a) (gName j) tb D σ (upd H acc (.lst [])) := by
  refine for_list (K := K) (a := a) (xs := xs) (g := gName j) (D := D) (fun i σ' H' => i ≤ xs.length ∧ σ'.length = σ.length ∧ Agree vars σ σ' ∧ Same H H' ∧ ∃ L, H' acc = some (.lst L) ∧ R i L H') ⟨Nat.zero_le _, rfl, Agree.refl _ _, same_new ha _, [], upd_same, h0⟩ (fun i σ1 H1 _ ⟨_, _, _, sm, L, _, r1⟩ => hs i L H1 sm r1) (fun i x σ1 H1 hx ⟨_, hl1, ag1, sx1, L, h1, r1⟩ => ?_) fun σ1 H1 ⟨_, _, _, sm, L, h1, r1⟩ => q σ1 H1 L sm h1 r1
  have hi : i < xs.length := (List.getElem?_eq_some_iff.mp hx).1
  exact h i x (σ1.set j (some x)) H1 L _ hx (by rw [List.length_set]; exact hl1) (ag1.trans (Agree.set hj _)) (set_at (by omega)) sx1 h1 r1 fun σ2 H2 L' hl2 ag2 sm2 h2 r2 => ⟨hi, hl2, ag2, sm2, L', h2, r2⟩
theorem inv_tup {xs : List V} (R : Nat → List V → Hp → Prop) (hj : j ∈ vars) (hjl : j < σ.length) (h0 : R 0 [] (upd H acc (.lst []))) (ha : H acc = none) (hs : SqT K H a xs)
    (h : ∀ i x σ' H' L (D : Ends), xs[i]? = some x → σ'.length = σ.length → Agree vars σ σ' → σ'[j]? = some (some x) → Same H H' → H' acc = some (.lst L) → R i L H' →
      (∀ σ'' H'' L', σ''.length = σ.length → Agree vars σ σ'' → Same H H'' → H'' acc = some (.lst L') → R (i + 1) L' H'' → D.nx σ'' H'') → tb D σ' H')
    (q : ∀ σ' H' L, Same H H' → H' acc = some (.lst L) → R xs.length L H' → D.nx σ' H') : tLoop (Itt K a) (gName j) tb D σ (upd H acc (.lst [])) := by
  refine for_tup (K := K) (a := a) (xs := xs) (g := gName j) (D := D) (fun i σ' H' => i ≤ xs.length ∧ σ'.length = σ.length ∧ Agree vars σ σ' ∧ Same H H' ∧ ∃ L, H' acc = some (.lst L) ∧ R i L H') ⟨Nat.zero_le _, rfl, Agree.refl _ _, same_new ha _, [], upd_same, h0⟩ (fun i σ1 H1 _ ⟨_, _, _, sm, L, _, r1⟩ => sm.tup hs) (fun i x σ1 H1 hx ⟨_, hl1, ag1, sx1, L, h1, r1⟩ => ?_) fun σ1 H1 ⟨_, _, _, sm, L, h1, r1⟩ => q σ1 H1 L sm h1 r1
  have hi : i < xs.length := (List.getElem?_eq_some_iff.mp hx).1
  exact h i x (σ1.set j (some x)) H1 L _ hx (by rw [List.length_set]; exact hl1) (ag1.trans (Agree.set hj _)) (set_at (by omega)) sx1 h1 r1 fun σ2 H2 L' hl2 ag2 sm2 h2 r2 => ⟨hi, hl2, ag2, sm2, L', h2, r2⟩
end
structure Mat (H : Hp) (F : Addr) (ls : List Addr) (M : List (List Int)) : Prop where
  top : H F = some (.lst (ls.map V.ref))
  len : ls.length = M.length
  row : ∀ (i : Nat) (l : Addr) (r : List Int), ls[i]? = some l → M[i]? = some r → H l = some (.lst (r.map V.int))
  nd : ls.Nodup
  out : F ∉ ls
theorem Mat.same {H H' : Hp} {F : Addr} {ls : List Addr} {M : List (List Int)} (m : Mat H F ls M) (e : Same H H') : Mat H' F ls M := ⟨e _ _ m.top, m.len, fun i l r a b => e _ _ (m.row i l r a b), m.nd, m.out⟩
theorem Mat.keep {H H' : Hp} {F : Addr} {ls : List Addr} {M : List (List Int)} (m : Mat H F ls M) (e : ∀ b o, (b = F ∨ b ∈ ls) → H b = some o → H' b = some o) : Mat H' F ls M :=
  ⟨e _ _ (.inl rfl) m.top, m.len, fun i l r a b => e _ _ (.inr (List.mem_of_getElem? a)) (m.row i l r a b), m.nd, m.out⟩
def put2 (M : List (List Int)) (i j : Nat) (v : Int) : List (List Int) := M.set i ((M.getD i []).set j v)
theorem Mat.at {K : PySem.W.Frag} {H : Hp} {F : Addr} {ls : List Addr} {M : List (List Int)} {n i : Nat} (m : Mat H F ls M) (q : Quad M n) (hi : i < n) : ∃ l, ls[i]? = some l ∧ (ls.map V.ref)[i]? = some (.ref l) ∧ H l = some (.lst ((M.getD i []).map V.int)) := by
  obtain ⟨row, e1, e2, e3⟩ := q.get hi
  have hl : i < ls.length := by rw [m.len, q.len]; exact hi
  refine ⟨ls[i], List.getElem?_eq_getElem hl, by rw [List.getElem?_map, List.getElem?_eq_getElem hl]; rfl, ?_⟩
  rw [e3]
  exact m.row i _ row (List.getElem?_eq_getElem hl) e1
theorem Mat.put {H : Hp} {F : Addr} {ls : List Addr} {M : List (List Int)} {n i j : Nat} {v : Int} {l : Addr} (m : Mat H F ls M) (q : Quad M n) (hi : i < n) (hl : ls[i]? = some l) : Mat (upd H l (.lst (((M.getD i []).set j v).map V.int))) F ls (put2 M i j v) := by
  have hm : l ∈ ls := List.mem_of_getElem? hl
  have hF : F ≠ l := fun e => m.out (e ▸ hm)
  refine ⟨by rw [upd_ne hF]; exact m.top, by unfold put2; rw [List.length_set]; exact m.len, fun a b r h1 h2 => ?_, m.nd, m.out⟩
  by_cases ha : a = i
  · subst ha
    rw [hl] at h1
    cases h1
    rw [upd_same]
    unfold put2 at h2
    rw [List.getElem?_set_self (by rw [q.len]; exact hi)] at h2
    cases h2
    rfl
  · have hne : b ≠ l := by
      intro e
      subst e
      obtain ⟨i1, z1⟩ := List.getElem?_eq_some_iff.mp h1
      obtain ⟨i2, z2⟩ := List.getElem?_eq_some_iff.mp hl
      exact ha ((List.getElem_inj m.nd).mp (z1.trans z2.symm))
    rw [upd_ne hne]
    unfold put2 at h2
    rw [List.getElem?_set_ne (Ne.symm ha)] at h2
    exact m.row a b r h1 h2
end L2
namespace L2
open PySem
end L2
namespace L2
open PySem
section
variable {K : PySem.W.Frag} {H : Hp}
theorem ShL.append : ∀ {ds es : List Dt} {xs ys : List V}, ShL K H ds xs → ShL K H es ys → ShL K H (ds ++ es) (xs ++ ys)
  | [], es, xs, ys, h, h' => by rw [show xs = [] from h]; exact h'
  | d :: ds, es, _, ys, ⟨x, r, h1, h2, h3⟩, h' => ⟨x, r ++ ys, by rw [h1]; rfl, h2, ShL.append h3 h'⟩
theorem ShL.take : ∀ {ds : List Dt} {xs : List V} (n : Nat), ShL K H ds xs → ShL K H (ds.take n) (xs.take n)
  | _, _, 0, _ => by rw [List.take_zero, List.take_zero]; rfl
  | [], xs, n + 1, h => by rw [show xs = [] from h]; rfl
  | d :: ds, _, n + 1, ⟨x, r, h1, h2, h3⟩ => ⟨x, r.take n, by rw [h1]; rfl, h2, ShL.take n h3⟩
theorem ShL.drop : ∀ {ds : List Dt} {xs : List V} (n : Nat), ShL K H ds xs → ShL K H (ds.drop n) (xs.drop n)
  | _, _, 0, h => by rw [List.drop_zero, List.drop_zero]; exact h
  | [], xs, n + 1, h => by rw [show xs = [] from h]; rfl
  | d :: ds, _, n + 1, ⟨x, r, h1, h2, h3⟩ => by rw [h1, List.drop_succ_cons, List.drop_succ_cons]; exact ShL.drop n h3
end
theorem cut_from {xs : List V} {t : Nat} (h : t ≤ xs.length) : cutV xs (some (t : Int)) none = xs.drop t := by
  unfold cutV HT.sIx
  simp only [Int.toNat_natCast]
  rw [if_neg (by omega), Nat.min_eq_left h, List.take_of_length_le (by rw [List.length_drop]; omega)]
theorem cut_ints (ns : List Int) (lo hi : Option Int) : ∃ ms : List Int, cutV (ns.map V.int) lo hi = ms.map V.int ∧ ms.length ≤ ns.length := by
  refine ⟨(ns.drop (HT.sIx ns.length 0 lo)).take (HT.sIx ns.length ns.length hi - HT.sIx ns.length 0 lo), ?_, ?_⟩
  · unfold cutV
    rw [List.length_map, List.map_take, List.map_drop]
  · rw [List.length_take, List.length_drop]; omega
end L2
namespace L2
open PySem
end L2
namespace L2
open PySem PySem.Spec PyProof.Rows
section
variable {X : Cx}
theorem getItem_tuple_all {prog : Program} {w : World} {A : Around} {E : Value → Shared → Prop} {s : Shared} {t sl : Addr} {items : Array Value} {vl vu : Value} {lo hi : Option Int} {Q : Value → Shared → Prop} (ht : IsTup s.heap t items) (hs : s.heap.IsSliceOf sl vl vu .none) (pl : IsPart vl lo) (pu : IsPart vu hi)
    (hw : HT.sIx items.size 0 lo = 0 ∧ HT.sIx items.size items.size hi = items.size) (h : Q (.ref t) s) : wpAny (model prog w) A (getItem (.ref t) (.ref sl)) Q E s := by
  obtain ⟨os, hos, hcs, hds⟩ := id hs
  have hTs : s.TypeIs (.ref sl) "slice" := ⟨os, hos, hcs⟩
  unfold getItem
  try with_reducible refine wpAny_holding ?_
  first | refine wpAny_bind (wpAny_pure ?_) | skip
  refine wpAny_bind (wpAny_sequenceKey ht.typeIs (by decide) ?_)
  refine wpAny_bind (wpAny_callSpecial?_slot (name := Str.ofString "__getitem__") ht.typeIs PyProof.Rows.slot_tuple_getitem
    (wpAny_call_entry PyProof.Rows.slot_tuple_getitem ht.typeIs entry_tuple_getitem ?_ (args_tuple_getitem _ _)))
  show wpAny _ _ (Builtin.Tuple.tupleItemsOf (.ref t) >>= _) _ _ s
  refine wpAny_bind (tupleItemsOf_ ht ?_)
  refine wpAny_bind (wpAny_typeOf hTs ?_)
  rw [if_pos (by decide)]
  refine wpAny_bind (HT.sliceApplied_gen hs pl pu ?_)
  rw [hw.1, hw.2]
  have hyes : ((((0 : Nat) : Int) == 0 && (1 : Int) == 1 && (items.size - 0) == items.size) = true) := by simp
  show wpAny _ _ (if (((0 : Nat) : Int) == 0 && (1 : Int) == 1 && (items.size - 0) == items.size) = true then _ else _) _ _ s
  rw [if_pos hyes]
  unfold Builtin.Tuple.tupleIsExact
  refine wpAny_bind (wpAny_bind (wpAny_typeOf ht.typeIs (wpAny_pure ?_)))
  rw [if_pos (show (Value.type "tuple" == Value.type "tuple") = true by rfl)]
  exact wpAny_bind (wpAny_rule (wpAny_pure ⟨_, rfl, wpAny_pure h⟩))
def rSlV (K : PySem.W.Frag) : V → Option Int → Option Int → Hp → VK → Prop := fun x lo hi H Q => ∃ a xs, x = .ref a ∧ SqT K H a xs ∧ ∀ p H', Same H H' → SqT K H' p (cutV xs lo hi) → Q (.ref p) H'
theorem sl_tupV : SlR X (rSlV X.K) := by
  intro pins s σ H x v vl vu lo hi sl Q I rx hs pl pu h
  obtain ⟨a, xs, rfl, hx, q⟩ := h
  by_cases hw : HT.sIx xs.length 0 lo = 0 ∧ HT.sIx xs.length xs.length hi = xs.length
  · obtain rfl : v = Value.ref a := rx
    obtain ⟨its, rv, p, hz⟩ := I.tuple hx
    have hl := rv.length
    have ec : cutV xs lo hi = xs := by unfold cutV; rw [hw.1, hw.2, List.drop_zero, Nat.sub_zero, List.take_length]
    refine ⟨"tuple", _, PyProof.Rows.slot_tuple_getitem.lookup, p.typeIs, ?_⟩
    refine getItem_tuple_all p hs pl pu (by simp only [List.size_toArray, ← hl]; exact hw) ?_
    exact ⟨.ref a, H, I, rfl, q a H (Same.refl H) (by rw [ec]; exact hx)⟩
  · exact sl_tup (X := X) pins s σ H (.ref a) v vl vu lo hi sl Q I rx hs pl pu ⟨a, xs, rfl, hx, hw, fun p hp => q p _ (same_new hp _) (.of upd_same)⟩
abbrev rSlU (K : PySem.W.Frag) : V → Option Int → Option Int → Hp → VK → Prop := fun x lo hi H Q => rSlL K x lo hi H Q ∨ rSlV K x lo hi H Q
theorem sl_uK {K : PySem.W.Frag} (hK : X.K = K) : SlR X (rSlU K) := by subst hK; exact sl_list.or sl_tupV
end
section
variable {prog : Program} {w : World} {A : Around} {E : Value → Shared → Prop} {s : Shared}
theorem collect_sq {l : Addr} {ob : Obj} {n : Nat} {T : String} {us : List Value} {Q : List Value → Shared → Prop} (e0 : s.heap.get? l = some ob) (ec : ob.cls = .type T) (eT : T = "list" ∨ T = "tuple") (ed : ob.data = .seq us.toArray n)
    (q : Q us { s with heap := (s.heap.push (seqObj "list" #[] 0)).update s.heap.objs.size (Obj.mapSeq (· ++ us.toArray)) }) (z : us.length ≤ sizeLine) : wpAny (model prog w) A (collect (.ref l)) Q E s := by
  unfold collect
  refine wpAny_bind (wpAny_runValue (codeAny_builtin entry_proto_collect' ?g1))
  case g1 =>
    show wpAny _ _ (do again (.builtin "list.__iadd__" ⟨[← newList [], Value.ref l], []⟩)) _ _ s
    refine wpAny_bind (wpAny_newList (wpAny_pure ⟨Code.quiet_builtin _ (by decide +kernel), codeAny_builtin entry_list_iadd' ?g2⟩))
    case g2 =>
      have e1 : (s.heap.push (seqObj "list" #[] 0)).get? l = some ob := Heap.get?_push_of_some _ e0
      show wpAny _ _ (Builtin.List.listExtendWith (Value.ref s.heap.objs.size) (Value.ref l) (Value.ref s.heap.objs.size)) _ _ { s with heap := s.heap.push (seqObj "list" #[] 0) }
      unfold Builtin.List.listExtendWith
      refine wpAny_bind (wpAny_typeOf (T := T) ⟨ob, e1, ec⟩ ?g3)
      case g3 =>
        have ht : ((Value.type T == Value.type "list") || (Value.type T == Value.type "tuple")) = true := by rcases eT with rfl | rfl <;> rfl
        rw [if_pos (by first | exact ht | (rcases eT with rfl | rfl <;> simp))]
        refine wpAny_bind (listItems_at e1 ed (wpAny_bind (listItems_at (xs := #[]) (n := 0) (Heap.get?_push_size _ rfl) rfl ?g4)))
        case g4 =>
          rw [if_neg (by simp)]
          refine wpAny_bind (listUpdate_at (xs := #[]) (n := 0) (Heap.get?_push_size _ rfl) rfl ?g5 (Nat.zero_le _) (by show (#[] ++ us.toArray).size ≤ sizeLine + 1; simp only [Array.size_append, List.size_toArray, List.length_nil]; omega))
          case g5 =>
            refine wpAny_pure ?g6
            case g6 =>
              show wpAny (model prog w) A (load s.heap.objs.size >>= fun o => match o.data with | .seq xs _ => pure xs.toList | _ => unsupported "internal:collect") Q E { s with heap := (s.heap.push (seqObj "list" #[] 0)).update s.heap.objs.size (Obj.mapSeq (· ++ us.toArray)) }
              refine wpAny_bind (wpAny_load (get?_update_seq (Heap.get?_push_size _ rfl) _) ?g7)
              case g7 =>
                show wpAny _ _ (pure ((#[] : Array Value) ++ us.toArray).toList) Q E _
                rw [show ((#[] : Array Value) ++ us.toArray).toList = us by simp]
                exact wpAny_pure q
theorem sorted_sq {l : Addr} {ob : Obj} {n : Nat} {T : String} {us : List Value} {ks : List Int} {Q : Value → Shared → Prop} (e0 : s.heap.get? l = some ob) (ec : ob.cls = .type T) (eT : T = "list" ∨ T = "tuple") (ed : ob.data = .seq us.toArray n) (hI : IntsAre us ks) (h64 : us.length < 64)
    (q : ∀ (out : Array Value) (ns' : List Int), IntsAre out.toList ns' → ns'.Perm ks → ns'.Pairwise (· ≤ ·) → Q (.ref (s.heap.objs.size + 1)) { s with heap := sortedAll s.heap us out }) : wpAny (model prog w) A (call (.builtin "sorted") [.ref l]) Q E s := by
  refine Calls.call_function_entry kind_sorted plain_sorted entry_sorted (args_sorted1 _) ?g1
  case g1 =>
    unfold Builtin.«sorted»
    refine wpAny_bind (m := checkCount "sorted" 1 1 _) (wpAny_pure (wpAny_bind (collect_sq e0 ec eT ed ?g2 (Nat.le_trans (Nat.le_of_lt h64) (by decide)))))
    case g2 =>
      refine wpAny_bind (wpAny_newList ?g3)
      case g3 =>
        have z1 : ((s.heap.push (seqObj "list" #[] 0)).update s.heap.objs.size (Obj.mapSeq (· ++ us.toArray))).objs.size = s.heap.objs.size + 1 := by rw [Heap.size_update, size_push']
        have e2 : (((s.heap.push (seqObj "list" #[] 0)).update s.heap.objs.size (Obj.mapSeq (· ++ us.toArray))).push (seqObj "list" us.toArray 0)).get? (s.heap.objs.size + 1) = some (seqObj "list" us.toArray 0) := by rw [← z1]; exact Heap.get?_push_size _ rfl
        show wpAny _ _ _ _ _ { s with heap := ((s.heap.push (seqObj "list" #[] 0)).update s.heap.objs.size (Obj.mapSeq (· ++ us.toArray))).push (seqObj "list" us.toArray 0) }
        rw [z1]
        refine wpAny_bind (wpAny_holding (wpAny_call_entry slot_list_sort ⟨_, e2, rfl⟩ entry_list_sort (list_sort_tree e2 hI h64 fun out ns' a1 a2 a3 => ⟨_, rfl, wpAny_pure ⟨_, rfl, q out ns' a1 a2 a3⟩⟩) (args_list_sort _)))
end
end L2
namespace L2
open PySem PySem.Spec PyProof.Rows
theorem vals_of_ints : ∀ {ns : List Int} {us : List Value}, IntsAre us ns → Vals (ns.map V.int) us
  | [], _, h => by cases h; exact .nil
  | n :: ns, _, h => by
    cases h with
    | cons _ t h => exact .cons ⟨t, rfl⟩ (vals_of_ints h)
theorem IntsAre.len : ∀ {ns : List Int} {us : List Value}, IntsAre us ns → us.length = ns.length
  | [], _, h => by cases h; rfl
  | n :: ns, _, h => by
    cases h with
    | cons _ t h => rw [List.length_cons, List.length_cons, IntsAre.len h]
def rSorted (K : PySem.W.Frag) : List V → Hp → VK → Prop := fun vs H Q => ∃ (a : Addr) (ns : List Int), vs = [.ref a] ∧ Sq K H a (ns.map V.int) ∧ ns.length < 64 ∧
  ∀ ms : List Int, ms.Perm ns → ms.Pairwise (· ≤ ·) → ∀ l, H l = none → Q (.ref l) (upd H l (.lst (ms.map V.int)))
theorem call_sorted {X : Cx} : CallR X (.builtin "sorted") (rSorted X.K) := by
  intro pins s σ H xs us Q I r ⟨a, ns, e, hq, h64, q⟩
  subst e
  obtain ⟨u, rfl, ru⟩ := vals1 r
  obtain rfl : u = Value.ref a := ru
  have go : ∀ (its : List Value) (ob : Obj) (n : Nat) (T : String), Vals (ns.map V.int) its → s.heap.get? a = some ob → ob.cls = .type T → (T = "list" ∨ T = "tuple") → ob.data = .seq its.toArray n → wpAny (model X.prog X.w) X.A (call (.builtin "sorted") [.ref a]) (EP X pins σ Q) X.xe s := by
    intro its ob n T rv e0 ec eT ed
    have hi := intsAre_of rv
    refine sorted_sq e0 ec eT ed hi (by rw [IntsAre.len hi]; exact h64) fun out ns' a1 a2 a3 => ?_
    obtain ⟨c, he⟩ := sortedAll_at s.heap its out
    refine ⟨.ref (s.heap.objs.size + 1), _, I.laid (t' := s.toks) (o := .lst (ns'.map V.int)) (fun b ob q => sortedAll_old q) (Nat.le_succ _) ?_, rfl, q ns' a2 a3 _ (I.hok.fresh (Nat.le_succ _))⟩
    refine ⟨?_, out.toList, c, vals_of_ints a1, he⟩
    rw [List.length_map, a2.length_eq]
    exact Nat.le_trans (Nat.le_of_lt h64) (by decide)
  rcases hq with hq | hq
  · obtain ⟨its, rv, pl, hz⟩ := I.list hq
    obtain ⟨o, ho, hc, n, hd⟩ := pl.isList
    exact go its o n "list" rv ho hc (.inl rfl) hd
  · obtain ⟨its, rv, pl, hz⟩ := I.tuple hq
    obtain ⟨o, ho, hc, n, hd⟩ := pl
    exact go its o n "tuple" rv ho hc (.inr rfl) hd
theorem call_sortedK {X : Cx} {K : PySem.W.Frag} (hK : X.K = K) : CallR X (.builtin "sorted") (rSorted K) := by subst hK; exact call_sorted
mutual
def toP : Dt → PyData
  | .non => .none
  | .bl b => .bool b
  | .int i => .int i
  | .str x => .str x
  | .tup ds => .tuple (toPs ds)
  | .lst ds => .list (toPs ds)
def toPs : List Dt → List PyData
  | [] => []
  | d :: ds => toP d :: toPs ds
end
mutual
theorem toP_dep : ∀ d, (toP d).depth = dep d
  | .non => rfl
  | .bl b => rfl
  | .int i => rfl
  | .str x => rfl
  | .tup ds => by show (PyData.tuple (toPs ds)).depth = _; unfold PyData.depth dep; rw [toPs_dep]
  | .lst ds => by show (PyData.list (toPs ds)).depth = _; unfold PyData.depth dep; rw [toPs_dep]
theorem toPs_dep : ∀ ds, PyData.depthAll (toPs ds) = depL ds
  | [] => by unfold toPs depL PyData.depthAll; rfl
  | d :: ds => by unfold toPs depL PyData.depthAll; rw [toP_dep, toPs_dep]
end
mutual
theorem toP_nodict : ∀ d, (toP d).hasDict = false
  | .non => by unfold toP PyData.hasDict; rfl
  | .bl b => by unfold toP PyData.hasDict; rfl
  | .int i => by unfold toP PyData.hasDict; rfl
  | .str x => by unfold toP PyData.hasDict; rfl
  | .tup ds => by unfold toP PyData.hasDict; exact toPs_nodict ds
  | .lst ds => by unfold toP PyData.hasDict; exact toPs_nodict ds
theorem toPs_nodict : ∀ ds, PyData.hasDictAll (toPs ds) = false
  | [] => by unfold toPs PyData.hasDictAll; rfl
  | d :: ds => by unfold toPs PyData.hasDictAll; rw [toP_nodict, toPs_nodict]; rfl
end
section
variable {X : Cx} {pins : List (Addr × Obj)} {σ : St} {H : Hp} {s : Shared}
mutual
theorem Inv.reads (I : Inv X pins σ H s) : ∀ {d : Dt} {x : V} {v : Value}, RelV x v → Sh X.K H d x → ∃ as, Reads s.heap v (toP d) as
  | .non, x, v, r, h => by obtain rfl : x = .non := h; obtain rfl : v = .none := r; exact ⟨_, .none⟩
  | .bl b, x, v, r, h => by obtain rfl : x = .bl b := h; obtain rfl : v = .bool b := r; exact ⟨_, .bool b⟩
  | .int i, x, v, r, h => by obtain rfl : x = .int i := h; obtain ⟨t, rfl⟩ := r; exact ⟨_, .int i t⟩
  | .str y, x, v, r, h => by obtain rfl : x = .str y := h; obtain ⟨t, rfl⟩ := r; exact ⟨_, .str y t⟩
  | .tup ds, x, v, r, ⟨a, xs, h1, h2, h3⟩ => by
    subst h1
    obtain rfl : v = Value.ref a := r
    obtain ⟨its, rv, ⟨o, ho, hc, n, hd⟩, _⟩ := I.tuple h2
    obtain ⟨as, ha⟩ := Inv.readsAll I rv h3
    exact ⟨_, .tuple ho hc hd ha⟩
  | .lst ds, x, v, r, ⟨a, xs, h1, h2, h3⟩ => by
    subst h1
    obtain rfl : v = Value.ref a := r
    obtain ⟨its, rv, pl, _⟩ := I.list h2
    obtain ⟨o, ho, hc, n, hd⟩ := pl.isList
    obtain ⟨as, ha⟩ := Inv.readsAll I rv h3
    exact ⟨_, .list ho hc hd ha⟩
theorem Inv.readsAll (I : Inv X pins σ H s) : ∀ {ds : List Dt} {xs : List V} {us : List Value}, Vals xs us → ShL X.K H ds xs → ∃ as, ReadsAll s.heap us (toPs ds) as
  | [], xs, us, r, h => by obtain rfl : xs = [] := h; cases r; exact ⟨_, .nil⟩
  | d :: ds, xs, us, r, ⟨x, t, h1, h2, h3⟩ => by
    subst h1
    cases r with
    | cons r1 r2 =>
      obtain ⟨as, h4⟩ := Inv.reads I r1 h2
      obtain ⟨bs, h5⟩ := Inv.readsAll I r2 h3
      exact ⟨_, .cons h4 h5⟩
end
end
def okR (d : Dt) : Prop := (toP d).showable = true ∧ (toP d).leavesShort 1930 = true ∧ (toP d).bulk ≤ 4000 ∧ dep d ≤ 100
end L2
namespace L2
open PySem PySem.Spec PyProof.Rows
def ItAt (b : Bool) (h : Heap) (it l : Addr) (i : Nat) : Prop := ∃ o, h.get? it = some o ∧ o.cls = .type (if b then "list_iterator" else "tuple_iterator") ∧ o.data = .fields #[.ref l, .int i 0]
def ObAt (b : Bool) (h : Heap) (l : Addr) (us : Array Value) : Prop := ∃ o, h.get? l = some o ∧ o.cls = .type (if b then "list" else "tuple") ∧ ∃ n, o.data = .seq us n
theorem ItAt.keep {b : Bool} {h h' : Heap} {it l : Addr} {i : Nat} (x : ItAt b h it l i) (e : ∀ o, h.get? it = some o → h'.get? it = some o) : ItAt b h' it l i := let ⟨o, ho, r⟩ := x; ⟨o, e _ ho, r⟩
theorem ObAt.keep {b : Bool} {h h' : Heap} {l : Addr} {us : Array Value} (x : ObAt b h l us) (e : ∀ o, h.get? l = some o → h'.get? l = some o) : ObAt b h' l us := let ⟨o, ho, r⟩ := x; ⟨o, e _ ho, r⟩
theorem ItAt.lt {b : Bool} {h : Heap} {it l : Addr} {i : Nat} (x : ItAt b h it l i) : it < h.objs.size := let ⟨_, ho, _⟩ := x; Heap.lt_size ho
section
variable {prog : Program} {w : World} {A : Around} {E : Value → Shared → Prop} {s : Shared}
structure ZA (z ti to i1 i2 : Addr) : Prop where
  a1 : ti ≠ z
  a2 : to ≠ z
  a3 : i1 ≠ z
  a4 : i2 ≠ z
  a5 : ti ≠ to
  a6 : ti ≠ i1
  a7 : ti ≠ i2
  a8 : to ≠ i1
  a9 : to ≠ i2
  a10 : i1 ≠ i2
end
end L2
namespace L2
open PySem PySem.Spec PyProof.Rows
section
variable {X : Cx} {pins : List (Addr × Obj)} {σ : St} {H : Hp} {s : Shared} {h' : Heap}
end
section
variable {X : Cx} {pins : List (Addr × Obj)} {σ : St} {H : Hp} {s : Shared}
end
theorem ObAt.push {b : Bool} {h : Heap} {l : Addr} {us : Array Value} (x : ObAt b h l us) (o : Obj) : ObAt b (h.push o) l us := x.keep fun _ e => Heap.get?_push_of_some _ e
structure Blt2 (mg : Str → Option Value) : Prop extends Blt mg where
  zip : mg "zip" = none
  repr : mg "repr" = none
  enumerate : mg "enumerate" = none
  reversed : mg "reversed" = none
  str : mg "str" = none
end L2
namespace L2
open PySem PySem.Spec PyProof.Rows
section
variable {prog : Program} {w : World} {A : Around} {E : Value → Shared → Prop} {s : Shared}
end
theorem pe_bmK {X : Cx} {K : PySem.W.Frag} {o e : Expr} {es : List Expr} {to : TE} {t : TA} {name : Str} {apos cpos : Pos} {T id : String} {r : V → List V → Hp → VK → Prop} (hK : X.K = K) (pa : PlainAttrs T) (slot : Slot T name id) (hty : typeOf (.builtin id) = pure (.type "method_descriptor")) (hm : MtM X id r) (ho : PE X o to) (ha : PA X (e :: es) t)
    (b1 : attributeBase o name X.env (eval o X.env) = eval o X.env := by rfl)
    (b2 : ((backTo cpos (starEach (e :: es) X.env)).all (fun x => !x.1) && (backToKw cpos (keywordEach [] X.env)).all (fun x => x.1.isSome) && decide ((e :: es).length + ([] : List Keyword).length + (if ([] : List Keyword).isEmpty then 0 else 1) < 30)) = true := by rfl)
    (b3 : (apos.endLine == cpos.line) = true := by rfl) (b4 : starEach (e :: es) X.env = (false, eval e X.env) :: starEach es X.env := by rfl) (b5 : (backTo cpos (starEach es X.env)).any (·.1) = false := by rfl) :
    PE X (.Call (.Attribute o name apos) (e :: es) [] cpos) (tBM K T r to t) := by subst hK; exact pe_bm pa slot hty hm ho ha b1 b2 b3 b4 b5
def rIsB : R2 := fun x y H Q => (∃ a b, x = .bl a ∧ y = .bl b ∧ Q (.bl (a == b)) H) ∨ (y = .non ∧ Q (.bl (decide (x = .non))) H)
theorem op_isB {X : Cx} : OpR X (compareOp .Is) rIsB := by
  refine OpR.or (fun pins s σ H x y v u Q I rx ry h => ?g) op_isN
  case g =>
  obtain ⟨a, b, rfl, rfl, q⟩ := h
  obtain rfl : v = Value.bool a := rx
  obtain rfl : u = Value.bool b := ry
  exact wpAny_is_plain (by cases a <;> cases b <;> rfl) (fin_bl I q (by cases a <;> cases b <;> rfl))
end L2
namespace L2
open PySem PySem.Spec PyProof.Rows
theorem extend_tuple (l : Addr) (items : Array Value) (n : Nat) (b : Addr) (dd : Option Addr) (ss : Array (Option Value)) (items2 : Array Value) (n2 : Nat) (hs0 : ¬(!items.isEmpty && Builtin.List.listTooLong (items.size + items2.size)) = true) (hs1 : items.size ≤ sizeLine) (hs2 : items.size + items2.size ≤ sizeLine + 1) :
    Meets (Builtin.«list.extend» ⟨[.ref l, .ref b], []⟩) (fun _ R s => s.heap.get? l = some { cls := .type "list", dict := none, data := .seq items n, slots := #[] } ∧ s.heap.get? b = some { cls := .type "tuple", dict := dd, data := .seq items2 n2, slots := ss } ∧ R (.ok (.ret Value.none)) { s with heap := s.heap.update l (Obj.mapSeq fun x => x ++ items2), toks := s.toks }) :=
  .of_wp fun prog w A R s h => by
    obtain ⟨s1, s2, s3, s4, s5⟩ := s
    obtain ⟨gl, gb, h⟩ := h
    have f2 := AutoSeq1.sub_tuple_tuple
    have f3 := AutoSeq1.sub_list_list
    have f4 := AutoSeq1.sub_tuple_list
    have f5 := AutoSeq1.sub_list_tuple
    have gz : (items ++ items2).size ≤ sizeLine + 1 := by rw [Array.size_append]; exact hs2
    wp_walk using (wpAny_updateSeq gl rfl (hz := hs1) (_hz' := gz)), AutoSeq1.wpAny_loadPart' gl, AutoSeq1.wpAny_loadPart' gb
    exact ⟨_, rfl, h⟩
def rExtendT (K : PySem.W.Frag) : V → List V → Hp → VK → Prop := fun x vs H Q => ∃ l b xs zs, x = .ref l ∧ vs = [.ref b] ∧ H l = some (.lst xs) ∧ SqT K H b zs ∧ xs.length + zs.length ≤ sizeLine ∧ Q .non (upd H l (.lst (xs ++ zs)))
theorem mt_extendT {X : Cx} {K : PySem.W.Frag} (hK : X.K = K) : MtM X "list.extend" (rExtendT K) := by
  subst hK
  intro pins s σ H x vs v us Q I rx rv h
  obtain ⟨l, b, xs, zs, rfl, rfl, hH, hB, hz, q⟩ := h
  cases rx
  obtain ⟨u, rfl, ru⟩ := rv.one
  cases ru
  obtain ⟨z, its, n, r, hl, e⟩ := I.lstM hH
  obtain ⟨its2, r2, ⟨o, e2, hc, n2, hd⟩, z2⟩ := I.tuple hB
  obtain ⟨oc, od, odt, osl⟩ := o
  subst hc hd
  have hl2 := r2.length
  have hsz : its.toArray.size + its2.toArray.size ≤ sizeLine := by rw [List.size_toArray, List.size_toArray]; omega
  have hlong : ¬ (!its.toArray.isEmpty && Builtin.List.listTooLong (its.toArray.size + its2.toArray.size)) = true := by
    rw [notLongL hsz, Bool.and_false]
    exact Bool.false_ne_true
  refine call_meets F.slot_list_extend ⟨_, e, rfl⟩ F.entry_list_extend (F.args_list_extend_2 _ _)
    (extend_tuple l its.toArray n b od osl its2.toArray n2 hlong (by rw [List.size_toArray]; omega) (by omega)) ⟨e, e2, ?_⟩
  refine ⟨.non, _, I.lset (its' := its ++ its2) hH e (by simp) (r.append r2) ?_, rfl, q⟩
  rw [List.length_append]
  omega
abbrev rExtendA (K : PySem.W.Frag) : V → List V → Hp → VK → Prop := fun x vs H Q => rExtend x vs H Q ∨ rExtendT K x vs H Q
theorem mt_extendA {X : Cx} {K : PySem.W.Frag} (hK : X.K = K) : MtM X "list.extend" (rExtendA K) := by
  intro pins s σ H x vs v us Q I rx rv h
  rcases h with h | h
  · exact mt_extend pins s σ H x vs v us Q I rx rv h
  · exact mt_extendT hK pins s σ H x vs v us Q I rx rv h
end L2
namespace L2
open PySem
def natV (p : Nat) : V := .int (p : Int)
theorem natV_map (ps : List Nat) : ps.map natV = (ps.map fun p : Nat => (p : Int)).map V.int := by rw [List.map_map]; rfl
theorem iteT' {c : Bool} {A B : Prop} (e : c = true) (h : A) : if c = true then A else B := by rw [if_pos e]; exact h
theorem iteF' {c : Bool} {A B : Prop} (e : c = false) (h : B) : if c = true then A else B := by subst e; exact iteF h
theorem sqT_put {K : PySem.W.Frag} {H : Hp} {a l : Addr} {xs ys : List V} {o : HO} (h : SqT K H a xs) (hl : H l = some (.lst ys)) : SqT K (upd H l o) a xs := by
  have key : ∀ u, H a = some u → (∀ zs, u ≠ .lst zs) → upd H l o a = some u := fun u e n => by
    rw [upd_ne]
    · exact e
    · intro z
      rw [z, hl] at e
      cases e
      exact n _ rfl
  rcases h with (h | ⟨u, h⟩) | h
  · exact .inl (.inl (key _ h fun _ z => by cases z))
  · exact .inl (.inr ⟨u, key _ h fun _ z => by cases z⟩)
  · exact .inr h
theorem seqIx {k n : Nat} (h : k < n) : seqIndex? (k : Int) n = some k := by
  have e : seqIndex? (k : Int) n = if (decide (0 ≤ (if (k : Int) < 0 then (k : Int) + (n : Int) else (k : Int))) && decide ((if (k : Int) < 0 then (k : Int) + (n : Int) else (k : Int)) < (n : Int))) = true then some (if (k : Int) < 0 then (k : Int) + (n : Int) else (k : Int)).toNat else none := rfl
  rw [e]
  simp only [show ¬ (k : Int) < 0 by omega, if_false]
  rw [if_pos (by simp; omega)]
  rfl
theorem map_erase {α β : Type} (f : α → β) : ∀ (l : List α) (k : Nat), (l.map f).eraseIdx k = (l.eraseIdx k).map f
  | [], _ => rfl
  | _ :: _, 0 => rfl
  | a :: l, k + 1 => by
    show f a :: (l.map f).eraseIdx k = f a :: (l.eraseIdx k).map f
    rw [map_erase f l k]
section
variable {K : PySem.W.Frag} {H : Hp}
theorem atI_end {xs : List V} {v : V} (hj : xs[xs.length - 1]? = some v) : atI xs (-1) = some v := by
  have hl : xs.length - 1 < xs.length := (List.getElem?_eq_some_iff.mp hj).1
  unfold atI ixN
  rw [if_neg (by decide), if_pos (by omega), show ((-1 : Int) + (xs.length : Int)).toNat = xs.length - 1 by omega]
  exact hj
theorem ixT_last {p : Addr} {xs : List V} {v : V} {Q : VK} (h : SqT K H p xs) (hj : xs[xs.length - 1]? = some v) (q : Q v H) : rIx2 K (.ref p) (.int (-1)) H Q := .inr ⟨p, xs, -1, v, rfl, rfl, h, atI_end hj, q⟩
end
theorem mod_nat {c : Int} {n : Nat} (h : 1 ≤ n) : ∃ k : Nat, c % (n : Int) = (k : Int) ∧ k < n := by
  have g0 := Int.emod_nonneg c (show (n : Int) ≠ 0 by omega)
  have g1 := Int.emod_lt_of_pos c (show (0 : Int) < (n : Int) by omega)
  obtain ⟨k, hk⟩ := Int.eq_ofNat_of_zero_le g0
  exact ⟨k, hk, by omega⟩
theorem getV {ps : List Nat} {i : Nat} (h : i < ps.length) : (ps.map natV)[i]? = some (natV (ps.getD i 0)) := by
  rw [List.getElem?_map, List.getD_eq_getElem?_getD, List.getElem?_eq_getElem h]
  rfl
def Rows (K : PySem.W.Frag) (H : Hp) (xs : List V) (T : List (List Int)) : Prop := xs.length = T.length ∧ ∀ (i : Nat) (row : List Int), T[i]? = some row → ∃ b, xs[i]? = some (.ref b) ∧ SqT K H b (row.map V.int)
section
variable {K : PySem.W.Frag} {H H' : Hp} {xs : List V} {T : List (List Int)}
theorem Rows.map (h : Rows K H xs T) (f : ∀ b row, SqT K H b row → SqT K H' b row) : Rows K H' xs T := ⟨h.1, fun i row e => by
  obtain ⟨b, e1, e2⟩ := h.2 i row e
  exact ⟨b, e1, f _ _ e2⟩⟩
theorem Rows.same (h : Rows K H xs T) (e : Same H H') : Rows K H' xs T := h.map fun _ _ s => e.tup s
theorem Rows.put (h : Rows K H xs T) {l : Addr} {ys : List V} {o : HO} (hl : H l = some (.lst ys)) : Rows K (upd H l o) xs T := h.map fun _ _ s => sqT_put s hl
theorem Rows.nil : Rows K H [] [] := ⟨rfl, fun i row e => by cases e⟩
theorem Rows.snoc (h : Rows K H xs T) {b : Addr} {r : List Int} (hb : SqT K H b (r.map V.int)) : Rows K H (xs ++ [.ref b]) (T ++ [r]) := by
  refine ⟨by rw [List.length_append, List.length_append, h.1]; rfl, fun i row e => ?_⟩
  by_cases hi : i < T.length
  · rw [List.getElem?_append_left hi] at e
    obtain ⟨b', e1, e2⟩ := h.2 i row e
    exact ⟨b', by rw [List.getElem?_append_left (by rw [h.1]; exact hi)]; exact e1, e2⟩
  · rw [List.getElem?_append_right (by omega)] at e
    have : i - T.length = 0 := by
      rcases hk : i - T.length with _ | k
      · rfl
      · rw [hk] at e; cases e
    rw [this] at e
    cases e
    exact ⟨b, by rw [List.getElem?_append_right (by rw [h.1]; omega), h.1, this]; rfl, hb⟩
theorem Rows.sh (h : Rows K H xs T) {l : Addr} (hl : SqL K H l xs) : Sh K H (.lst (T.map fun r => Dt.tup (r.map Dt.int))) (.ref l) := ⟨l, xs, rfl, hl, ShL.of_rows h.1 h.2⟩
end
theorem dep_rowsL (T : List (List Int)) : dep (.lst (T.map fun r => Dt.tup (r.map Dt.int))) ≤ 100 := by
  have hi : ∀ r : List Int, depL (r.map Dt.int) = 0 := fun r => by
    induction r with
    | nil => rfl
    | cons a r ih => rw [List.map_cons, depL, ih]; rfl
  have : ∀ T : List (List Int), depL (T.map fun r => Dt.tup (r.map Dt.int)) ≤ 1 := fun T => by
    induction T with
    | nil => decide
    | cons r T ih => rw [List.map_cons, depL, dep, hi]; omega
  have := this T
  rw [dep]
  omega
end L2
namespace L2
open PySem PySem.Spec PyProof.Rows
section
variable {prog : Program} {w : World} {A : Around} {E : Value → Shared → Prop} {s : Shared}
end
end L2
namespace L2
open PySem
section
variable {X : Cx} {es : List Expr} {te : TE} {t : TA}
theorem pa_consC {c : Const} {k : Nat} {p : Pos} (ha : PE X (.Constant c k p) te) (hr : PA X es t) : PA X (.Constant c k p :: es) (tCons te t) := pa_cons ha hr
theorem pa_consN {n : Str} {p : Pos} (ha : PE X (.Name n p) te) (hr : PA X es t) : PA X (.Name n p :: es) (tCons te t) := pa_cons ha hr
theorem pa_consT {l : List Expr} {k : Nat} {p : Pos} (ha : PE X (.Tuple l k p) te) (hr : PA X es t) : PA X (.Tuple l k p :: es) (tCons te t) := pa_cons ha hr
theorem pa_consB {a b : Expr} {o : Operator} {p : Pos} (ha : PE X (.BinOp a o b p) te) (hr : PA X es t) : PA X (.BinOp a o b p :: es) (tCons te t) := pa_cons ha hr
theorem pa_consS {a b : Expr} {p : Pos} (ha : PE X (.Subscript a b p) te) (hr : PA X es t) : PA X (.Subscript a b p :: es) (tCons te t) := pa_cons ha hr
theorem pa_consK {a : Expr} {l : List Expr} {kw : List Keyword} {p : Pos} (ha : PE X (.Call a l kw p) te) (hr : PA X es t) : PA X (.Call a l kw p :: es) (tCons te t) := pa_cons ha hr
end
end L2
namespace L2
open PySem
mutual
def thin : Dt → Bool
  | .tup ds => decide (ds.length < 64) && thinL ds
  | .lst ds => thinL ds
  | _ => true
def thinL : List Dt → Bool
  | [] => true
  | d :: ds => thin d && thinL ds
end
def okM (m e : Nat) (d : Dt) : Prop := (toP d).showable = true ∧ (toP d).leavesShort 1930 = true ∧ (toP d).bulk ≤ m ∧ dep d ≤ e ∧ thin d = true
def Am (K : PySem.W.Frag) (H : Hp) (m e : Nat) (x : V) : Prop := ∃ d, Sh K H d x ∧ okM m e d
def Goo (K : PySem.W.Frag) (H : Hp) (v : V) : Prop := ∃ d, Sh K H d v ∧ okR d ∧ thin d = true
section
variable {K : PySem.W.Frag} {H H' : Hp}
theorem Am.same {m e : Nat} {x : V} (s : Same H H') : Am K H m e x → Am K H' m e x := fun ⟨d, h, o⟩ => ⟨d, h.same s, o⟩
theorem Am.le {m k e f : Nat} {x : V} (h1 : m ≤ k) (h2 : e ≤ f) : Am K H m e x → Am K H k f x := fun ⟨d, h, a, b, c, g, t⟩ => ⟨d, h, a, b, Nat.le_trans c h1, Nat.le_trans g h2, t⟩
theorem Goo.same {v : V} (s : Same H H') : Goo K H v → Goo K H' v := fun ⟨d, h, o⟩ => ⟨d, h.same s, o⟩
def Tu (K : PySem.W.Frag) (H : Hp) (m e k : Nat) (v : V) : Prop := ∃ a xs, v = .ref a ∧ SqT K H a xs ∧ xs.length ≤ k ∧ ∀ x ∈ xs, Am K H m e x
theorem Tu.same {m e k : Nat} {v : V} (s : Same H H') : Tu K H m e k v → Tu K H' m e k v := fun ⟨a, xs, h1, h2, h3, h4⟩ => ⟨a, xs, h1, s.tup h2, h3, fun x hx => (h4 x hx).same s⟩
theorem Tu.le {m e k m' e' k' : Nat} {v : V} (h : m ≤ m') (h' : e ≤ e') (h'' : k ≤ k') : Tu K H m e k v → Tu K H m' e' k' v := fun ⟨a, xs, h1, h2, h3, h4⟩ => ⟨a, xs, h1, h2, Nat.le_trans h3 h'', fun x hx => (h4 x hx).le h h'⟩
end
theorem yMod_nat {c : Int} {n k : Nat} {H : Hp} {Q : VK} (h : 1 ≤ n) (e : c % (n : Int) = (k : Int)) (q : Q (.int (k : Int)) H) : yMod (.int c) (.int (n : Int)) H Q := ⟨_, _, rfl, rfl, by omega, by show Q (.int (c % (n : Int))) H; rw [e]; exact q⟩
end L2
namespace L2
open PySem PySem.Spec PyProof.Rows
inductive PrsAre : List (Value × Value) → List (Int × Int) → Prop
  | nil : PrsAre [] []
  | cons (a b : Int) (t u : Tok) {r : List (Value × Value)} {zs : List (Int × Int)} : PrsAre r zs → PrsAre ((.int a t, .int b u) :: r) ((a, b) :: zs)
def lexZ (f : Bool) : List (Int × Int) → Bool
  | [] => f
  | (a, b) :: r => if a = b then lexZ f r else decide (a < b)
theorem rc_lt_int {prog : Program} {w : World} {A : Around} {E : Value → Shared → Prop} {s : Shared} {a b : Int} {t u : Tok} {Q : Value → Shared → Prop} (h : Q (.bool (decide (a < b))) s) : wpAny (model prog w) A (richCompare .Lt (.int a t) (.int b u)) Q E s := lt_int h
section
variable {prog : Program} {w : World} {A : Around} {R : Result → Shared → Prop} {It : Addr} {fp wr : List Addr} {n : Nat} {P : Nat → Value → Prop} {St : Nat → Heap → Prop}
end
section
variable {prog : Program} {w : World} {A : Around} {E : Value → Shared → Prop} {s : Shared}
end
end L2
namespace L2
open PySem PySem.Spec PyProof.Rows
def lexL : List Int → List Int → Bool
  | [], [] => false
  | [], _ :: _ => true
  | _ :: _, [] => false
  | a :: r, b :: q => if a = b then lexL r q else decide (a < b)
theorem lexZ_eq : ∀ (ns ms : List Int), lexZ (decide (ns.length < ms.length)) (ns.zip ms) = lexL ns ms
  | [], [] => rfl
  | [], m :: ms => by simp [lexZ, lexL]
  | n :: ns, [] => by simp [lexZ, lexL]
  | n :: ns, m :: ms => by
    rw [List.zip_cons_cons, lexZ, lexL, ← lexZ_eq ns ms]
    have : decide ((n :: ns).length < (m :: ms).length) = decide (ns.length < ms.length) := by
      by_cases h : ns.length < ms.length <;> simp [h]
    rw [this]
theorem lexL_irr : ∀ ns : List Int, lexL ns ns = false
  | [] => rfl
  | n :: ns => by rw [lexL, if_pos rfl]; exact lexL_irr ns
theorem lexL_trans : ∀ {a b c : List Int}, lexL a b = true → lexL b c = true → lexL a c = true
  | [], [], _, h, _ => by cases h
  | [], _ :: _, [], _, h => by cases h
  | [], _ :: _, _ :: _, _, _ => rfl
  | _ :: _, [], _, h, _ => by cases h
  | _ :: _, _ :: _, [], _, h => by cases h
  | x :: a, y :: b, z :: c, h1, h2 => by
    rw [lexL] at h1 h2 ⊢
    by_cases e1 : x = y <;> by_cases e2 : y = z
    · subst e1 e2
      rw [if_pos rfl] at h1 h2 ⊢
      exact lexL_trans h1 h2
    · subst e1
      rw [if_neg e2] at h2 ⊢
      exact h2
    · subst e2
      rw [if_neg e1] at h1 ⊢
      exact h1
    · rw [if_neg e1] at h1
      rw [if_neg e2] at h2
      have g1 := of_decide_eq_true h1
      have g2 := of_decide_eq_true h2
      rw [if_neg (by omega)]
      exact decide_eq_true (by omega)
end L2
namespace L2
open PySem PySem.Spec PyProof.Rows
section
variable {prog : Program} {w : World} {A : Around} {E : Value → Shared → Prop} {s : Shared}
end
structure EZ (e z ti to i1 i2 : Addr) : Prop where
  a1 : e ≠ z
  a2 : e ≠ ti
  a3 : e ≠ to
  a4 : e ≠ i1
  a5 : e ≠ i2
section
variable {prog : Program} {w : World} {A : Around} {E : Value → Shared → Prop} {s : Shared}
end
end L2
namespace L2
open PySem PySem.Spec PyProof.Rows
end L2
namespace L2
open PySem
theorem pe_bm0K {X : Cx} {K : PySem.W.Frag} {o : Expr} {to : TE} {name : Str} {apos cpos : Pos} {T id : String} {r : V → List V → Hp → VK → Prop} (hK : X.K = K) (pa : PlainAttrs T) (slot : Slot T name id) (hty : typeOf (.builtin id) = pure (.type "method_descriptor")) (hm : MtM X id r) (ho : PE X o to)
    (b1 : attributeBase o name X.env (eval o X.env) = eval o X.env := by rfl) (b2 : (apos.endLine == cpos.line) = true := by rfl) :
    PE X (.Call (.Attribute o name apos) [] [] cpos) (tBM0 K T r to) := by subst hK; exact pe_bm0 pa slot hty hm ho b1 b2
end L2
namespace L2
open PySem PySem.Spec PyProof.Rows
section
variable {prog : Program} {w : World} {A : Around} {E : Value → Shared → Prop} {s : Shared}
end
section
variable {X : Cx}
end
end L2
namespace L2
open PySem
section
variable {X : Cx}
end
end L2
namespace L2
open PySem PySem.Spec PyProof.Rows
theorem sub_tup_set : isSubtype (.type "tuple") (.type "set") = pure false := by rw [isSubtype_type]; kernel_rfl
theorem sub_tup_fro : isSubtype (.type "tuple") (.type "frozenset") = pure false := by rw [isSubtype_type]; kernel_rfl
section
variable {prog : Program} {w : World} {A : Around} {E : Value → Shared → Prop} {s : Shared}
end
end L2
namespace L2
open PySem PySem.Spec PyProof.Rows
section
variable {X : Cx}
theorem ints_of : ∀ {ns : List Int} {us : List Value}, Vals (ns.map V.int) us → IntsAre us ns
  | [], us, r => by cases r; exact .nil
  | n :: ns, us, r => by
    cases r with
    | cons h t =>
      obtain ⟨tk, rfl⟩ := h
      exact .cons n tk (ints_of t)
end
end L2
namespace L2
open PySem PySem.Spec PyProof.Rows
section
variable {X : Cx}
end
end L2
namespace L2
open PySem
structure Blt3 (mg : Str → Option Value) : Prop extends Blt2 mg where
  set : mg "set" = none
theorem bt_set : bootBuiltins "set" = some (.type "set") := by decide +kernel
section
variable {X : Cx}
end
end L2
namespace L2
open PySem
structure Blt4 (mg : Str → Option Value) : Prop extends Blt3 mg where
  abs : mg "abs" = none
end L2
namespace L2
open PySem
section
variable {vars : List Nat} {tb : TS} {acc a : Addr} {σ : St} {H : Hp} {j : Nat} {D : Ends} {K : PySem.W.Frag}
theorem inv_rangeX {lo : Int} {n : Nat} (p : Addr) (R : Nat → List V → Hp → Prop) (hj : j ∈ vars) (hjl : j < σ.length) (h0 : R 0 [] (upd H acc (.lst []))) (ha : H acc = none)
    (h : ∀ i σ' H' L (D : Ends), i < n → σ'.length = σ.length → Agree vars σ σ' → σ'[j]? = some (some (.int (lo + (i : Int)))) → SameX p H H' → H' acc = some (.lst L) → R i L H' →
      (∀ σ'' H'' L', σ''.length = σ.length → Agree vars σ σ'' → SameX p H H'' → H'' acc = some (.lst L') → R (i + 1) L' H'' → D.nx σ'' H'') → tb D σ' H')
    (q : ∀ σ' H' L, SameX p H H' → H' acc = some (.lst L) → R n L H' → D.nx σ' H') : tLoop (Itr lo n) (gName j) tb D σ (upd H acc (.lst [])) := by
  refine for_range (lo := lo) (n := n) (g := gName j) (D := D) (fun i σ' H' => i ≤ n ∧ σ'.length = σ.length ∧ Agree vars σ σ' ∧ SameX p H H' ∧ ∃ L, H' acc = some (.lst L) ∧ R i L H') ⟨Nat.zero_le _, rfl, Agree.refl _ _, (same_new ha _).x, [], upd_same, h0⟩ (fun i σ1 H1 hi ⟨_, hl1, ag1, sx1, L, h1, r1⟩ => ?_) fun σ1 H1 ⟨_, _, _, sm, L, h1, r1⟩ => q σ1 H1 L sm h1 r1
  exact h i (σ1.set j (some (.int (lo + (i : Int))))) H1 L _ hi (by rw [List.length_set]; exact hl1) (ag1.trans (Agree.set hj _)) (set_at (by omega)) sx1 h1 r1 fun σ2 H2 L' hl2 ag2 sm2 h2 r2 => ⟨hi, hl2, ag2, sm2, L', h2, r2⟩
end
def EmR (K : PySem.W.Frag) (vars : List Nat) (tb : TS) (acc : Addr) (σ : St) (H : Hp) (L : List (List Int)) : Prop :=
  ∀ (D : Ends) (pre : List V) (R : List (List Int)), H acc = some (.lst pre) → Rows K H pre R → R.length + L.length ≤ 100000 → (∀ σ' H' pre', σ'.length = σ.length → Agree vars σ σ' → SameX acc H H' → H' acc = some (.lst pre') → Rows K H' pre' (R ++ L) → D.nx σ' H') → tb D σ H
section
variable {K : PySem.W.Frag} {vars : List Nat} {tb : TS} {acc : Addr} {σ : St} {H : Hp}
theorem EmR.cast {L L' : List (List Int)} (h : EmR K vars tb acc σ H L) (e : L = L') : EmR K vars tb acc σ H L' := e ▸ h
theorem emr_tup {ta : TA} {r : List Int} (hr : r.length ≤ 100) (h : ∀ Q : List V → Hp → Prop, Q (r.map V.int) H → ta σ H Q) : EmR K vars (tEmit (tTup ta) acc) acc σ H [r] := by
  intro D pre R ha hR hz hd
  refine h _ ⟨by rw [List.length_map]; exact Nat.le_trans hr (by decide), fun t ht => ?_⟩
  have st := same_new ht (.tup (r.map V.int))
  have ha' := st _ _ ha
  refine ⟨pre, ha', Nat.lt_of_le_of_lt (show pre.length ≤ 100000 by rw [hR.1]; omega) (by decide), ?_⟩
  exact hd σ _ _ rfl (Agree.refl _ _) (st.x.trans (SameX.put _)) upd_same (Rows.snoc (Rows.put (hR.same st) ha') (sqT_put (.of upd_same) ha'))
theorem emr_loop {lo : Int} {n j : Nat} {L : Nat → List (List Int)} (hj : j ∈ vars) (hjl : j < σ.length)
    (h : ∀ i σ' H', i < n → σ'.length = σ.length → Agree vars σ σ' → σ'[j]? = some (some (.int (lo + (i : Int)))) → SameX acc H H' → EmR K vars tb acc σ' H' (L i)) :
    EmR K vars (tLoop (Itr lo n) (gName j) tb) acc σ H ((List.range n).flatMap L) := by
  intro D pre R ha hR hz hd
  refine for_range (lo := lo) (n := n) (g := gName j) (D := D) (fun i σ' H' => i ≤ n ∧ σ'.length = σ.length ∧ Agree vars σ σ' ∧ SameX acc H H' ∧ ∃ pre', H' acc = some (.lst pre') ∧ Rows K H' pre' (R ++ (List.range i).flatMap L)) ⟨Nat.zero_le _, rfl, Agree.refl _ _, SameX.refl _ _, pre, ha, by simpa using hR⟩ (fun i σ1 H1 hi ⟨_, hl1, ag1, sx1, pre1, h1, r1⟩ => ?_) fun σ1 H1 ⟨_, hl1, ag1, sx1, pre1, h1, r1⟩ => hd σ1 H1 pre1 hl1 ag1 sx1 h1 r1
  have hle := flatMap_range_le L (show i + 1 ≤ n from hi)
  rw [flatMap_range_succ, List.length_append] at hle
  refine h i (σ1.set j (some (.int (lo + (i : Int))))) H1 hi (by rw [List.length_set]; exact hl1) (ag1.trans (Agree.set hj _)) (set_at (by omega)) sx1 _ pre1 _ h1 r1 (by rw [List.length_append]; omega) fun σ' H' pre' hl ag sx h2 r2 => ⟨hi, hl.trans ((List.length_set ..).trans hl1), (ag1.trans (Agree.set hj _)).trans ag, sx1.trans sx, pre', h2, by rw [flatMap_range_succ, ← List.append_assoc]; exact r2⟩
theorem comp_emr (vars : List Nat) (L : List (List Int)) {g : TG} {J : It} {D : Ends} (ha : H acc = none) (hz : L.length ≤ 100000) (h : EmR K vars (tLoop J g tb) acc σ (upd H acc (.lst [])) L)
    (q : ∀ σ' H' pre, Same H H' → H' acc = some (.lst pre) → Rows K H' pre L → D.nx σ' H') : tLoop J g tb D σ (upd H acc (.lst [])) :=
  h _ [] [] upd_same Rows.nil (by simpa using hz) fun σ' H' pre' _ _ sx h1 h2 => q σ' H' pre' (same_of_x ha sx) h1 (by simpa using h2)
end
end L2
namespace L2
open PySem PySem.Spec PyProof.Rows
open PySem.SeqAt
def LtA (A : Around) (s : Shared) (u v : Value) (b : Bool) : Prop := ∀ (prog : Program) (w : World) (E : Value → Shared → Prop) (Q : Value → Shared → Prop), Q (.bool b) s → wpAny (model prog w) A (richCompare .Lt u v) Q E s
def EqA (A : Around) (s : Shared) (u v : Value) (b : Bool) : Prop := ∀ (prog : Program) (w : World) (E : Value → Shared → Prop) (Q : Bool → Shared → Prop), Q b s → wpAny (model prog w) A (eqBool u v) Q E s
inductive PrsG (A : Around) (s : Shared) : List (Value × Value) → List (Bool × Bool) → Prop
  | nil : PrsG A s [] []
  | cons {u v : Value} {e l : Bool} {r : List (Value × Value)} {zs : List (Bool × Bool)} : EqA A s u v e → (e = false → LtA A s u v l) → PrsG A s r zs → PrsG A s ((u, v) :: r) ((e, l) :: zs)
theorem dep_ints : ∀ r : List Int, depL (r.map Dt.int) = 0
  | [] => rfl
  | a :: r => by rw [List.map_cons, depL, dep_ints r]; rfl
theorem eqL_ints : ∀ {r q : List Int}, eqL (r.map Dt.int) (q.map Dt.int) = true → r = q
  | [], [], _ => rfl
  | [], _ :: _, h => by simp [eqL] at h
  | _ :: _, [], h => by simp [eqL] at h
  | a :: r, b :: q, h => by
    rw [List.map_cons, List.map_cons, eqL, Bool.and_eq_true] at h
    have h1 : a = b := by have := h.1; rw [eqD] at this; exact eq_of_beq this
    rw [h1, eqL_ints h.2]
end L2
namespace L2
open PySem PySem.Spec PyProof.Rows
section
variable {X : Cx} {tg : Expr}
end
end L2
namespace L2
open PySem PySem.Spec PyProof.Rows
section
variable {X : Cx} {pins : List (Addr × Obj)} {σ : St} {H : Hp} {s : Shared}
theorem HOk.swap {P : Program} {w : World} {h : Heap} {d : Addr} {v u : HO} (ok : HOk P w H h) (hd : H d = some v) (hv1 : ∀ xs, v ≠ .tup xs) (hv2 : ∀ y, v ≠ .own y) (new : ObjOk P w (upd H d u) h d u) : HOk P w (upd H d u) h := fun b o e => by
  by_cases hb : b = d
  · subst hb; rw [upd_same] at e; cases e; exact new
  · rw [upd_ne hb] at e
    refine (ok b o e).stay (fun _ _ _ q => q) (fun c q => ?_) fun c xs q => ?_
    · rw [upd_ne (fun z => by subst z; rw [hd] at q; exact hv2 _ (Option.some.inj q))]; exact q
    · rw [upd_ne (fun z => by subst z; rw [hd] at q; exact hv1 _ (Option.some.inj q))]; exact q
end
theorem KV.len {κ : Type} : ∀ {l : List (κ × V)} {m : List (κ × Value)}, KV l m → l.length = m.length
  | _, _, .nil => rfl
  | _, _, .cons _ t => by rw [List.length_cons, List.length_cons, KV.len t]
theorem KV.at {κ : Type} : ∀ {l : List (κ × V)} {m : List (κ × Value)}, KV l m → ∀ {i : Nat} {k : κ} {x : Value}, m[i]? = some (k, x) → ∃ v, l[i]? = some (k, v)
  | _, _, .nil, _, _, _, h => by cases h
  | _, _, .cons (a := p) (b := q) r t, 0, k, x, h => by
    have e : q = (k, x) := by simpa using h
    exact ⟨p.2, by rw [List.getElem?_cons_zero, show p = (k, p.2) from Prod.ext (by rw [r.1, e]) rfl]⟩
  | _, _, .cons _ t, i + 1, k, x, h => KV.at t (i := i) (by simpa using h)
end L2
namespace L2
open PySem PySem.Spec PyProof.Rows
structure XCls (K : PySem.W.Frag) (C : Addr) : Prop where
  ga : PySem.W.findIn K (.ref C) "__getattribute__" = some (some (.builtin "BaseException.__getattribute__"))
  gn : PySem.W.findIn K (.ref C) "__getattr__" = some none
  cl : PySem.W.findIn K (.ref C) "__class__" = some (some (.builtin "object.__class__"))
  gt : PySem.W.specialIn K (.builtin "object.__class__") "__get__" = some (some (.builtin "getset_descriptor.__get__"))
  tk : PySem.W.takesIn K (.builtin "object.__class__") = some true
  ob : PySem.W.mroIn K C (.type "object") = some true
  bx : PySem.W.subIn K (.ref C) (.type "BaseException") = some true
  is : (PySem.W.clsIn K C).isSome = true
def XAt (h : Heap) (x C : Addr) : Prop := ∃ o, h.get? x = some o ∧ o.cls = .ref C
section
open Builtin Builtin.ObjectAttr Builtin.Getset_descriptor
variable {prog : Program} {w : World} {A : Around} {E : Value → Shared → Prop} {s : Shared} {K : PySem.W.Frag} {x C : Addr} {R : Result → Shared → Prop}
theorem XAt.type {M : Model} {h : Heap} (I : XAt h x C) : PySem.W.Looks M h (typeOf (.ref x)) (.ref C) := by
  obtain ⟨o, e, c⟩ := I
  exact c ▸ (PySem.W.Looks.ld e).andThen .now
end
section
variable {X : Cx}
end
section
variable {X : Cx} {x : Str} {np cpos pos p : Pos} {C : Addr} {E : XK} {m : Str} {j : Nat}
end
def lies (P : Program) (w : World) : CXT := fun outer H s E e s' =>
  ∃ (a : Addr) (cls a0 : Value) (H' : Hp) (B : Heap), e = .ref a ∧ s'.os = s.os ∧ AllBare s'.gens ∧ Un (frs outer) [] H H' s.heap s'.heap ∧ HOk P w H' s'.heap ∧
    Heap.FlyingW B outer a cls a0 s'.heap ∧ (∀ b o, s'.heap.get? b = some o → b ∉ frs outer → (H' b ≠ none ∨ ∃ o', s.heap.get? b = some o') → B.get? b = some o) ∧ E cls none H'
section
variable {X : Cx} {pins : List (Addr × Obj)} {σ : St} {H : Hp} {s : Shared} {E : XK} {a : Addr} {cls a0 : Value} {B h2 : Heap}
theorem ObjOk.there {P : Program} {w : World} {H : Hp} {h : Heap} {a : Addr} : ∀ {o : HO}, ObjOk P w H h a o → ∃ u, h.get? a = some u
  | .lst _, ⟨_, _, _, _, e⟩ => ⟨_, e⟩
  | .tup _, ⟨_, _, _, o, e, _⟩ => ⟨_, e⟩
  | .dK _, ⟨_, _, _, _, o, _, _, e, _⟩ => ⟨_, e⟩
  | .dT _, ⟨_, _, _, _, o, _, _, e, _⟩ => ⟨_, e⟩
  | .set _ _, ⟨o, _, _, _, e, _⟩ => ⟨_, e⟩
  | .ins _ _ _, ⟨_, _, _, e, _⟩ => ⟨_, e⟩
  | .own _, ⟨_, e⟩ => ⟨_, e⟩
  | .xd _, ⟨_, ⟨_, _, _, e, _⟩, _⟩ => ⟨_, e⟩
  | .rng _ _, ⟨_, _, _, e⟩ => ⟨_, e⟩
  | .frz _ _, ⟨e, _⟩ => ⟨_, e⟩
  | .tbl _, e => ⟨_, e⟩
  | .met _ _, e => ⟨_, e⟩
  | .ext _, ⟨_, e, _⟩ => e
end
section
variable {P : Program} {w : World} {K : PySem.W.Frag} {mg : Str → Option Value} {base : Heap} {N : List Str} {qual : Str} {scope : Scope} {f : Addr} {cd : Value} {A : Around} {outer : List Env} {s₀ : Shared} {H₀ : Hp} {E : XK}
end
end L2
namespace L2
open PySem PySem.Spec PyProof.Rows
section
variable {X : Cx} {pins : List (Addr × Obj)} {σ : St} {H : Hp} {s : Shared}
end
abbrev Cx.suite (X : Cx) (pn : List (Addr × Obj)) (a : Addr) : Cx := { X with pn := pn, xe := fun _ _ => False, A := X.A.mark (some (.ref a)), calm := false }
section
variable {X : Cx} {pins pn pins' : List (Addr × Obj)} {σ : St} {H H' : Hp} {s s' : Shared} {W : Value → Shared → Prop} {a C : Addr} {cls a0 : Value} {B h2 : Heap}
theorem Inv.suite (I : Inv X pins σ H s) (a : Addr) : Inv (X.suite (X.pn ++ pins) a) [] σ H s :=
  ⟨⟨I.ok.mod, I.ok.kind, I.ok.glob, I.ok.blt, I.ok.above, I.ok.inj, I.ok.has, I.ok.cab, (fun z => by cases z), I.ok.frames, I.ok.stk, I.ok.exf, I.ok.bs, I.ok.bsz, I.ok.noex, I.ok.exfs, I.ok.funs, I.ok.frf⟩, I.os, I.bare, I.base, I.loc, I.cell, I.free, I.freeC,
    fun p hp => I.pin p (by simpa using hp), I.hok, I.len⟩
end
section
variable {X : Cx} {x n : Str} {np pos hpos : Pos} {C0 : Addr} {ie ln : Nat} {tb : XK → TS} {th : TS} {body suite : List Stmt} {b₀ : Stmt}
end
end L2
namespace L2
open PySem PySem.Spec PyProof.Rows
section
variable {X : Cx} {st : Stmt} {t : TS} {x : Str} {np pos hpos cpos p : Pos} {C C0 : Addr} {E : XK} {m : Str} {j : Nat} {K : PySem.W.Frag}
theorem PS.nox (h : PS X.nox st t) : PS X st t := fun pins s σ H D I hw =>
  wpAny_mono (h pins s σ H D (I.wish _) hw) (fun _ _ q => q.unwish) fun _ _ z => False.elim z
theorem PA.nox {es : List Expr} {t : TA} (h : PA X.nox es t) : PA X es t := fun pos pins s σ H Q I hw =>
  wpAny_mono (h pos pins s σ H Q (I.wish _) hw) (fun _ _ ⟨vs, H', I', r, q⟩ => ⟨vs, H', I'.unwish, r, q⟩) fun _ _ z => False.elim z
end
structure DefX (P : Program) (w : World) (K : PySem.W.Frag) (mg : Str → Option Value) (base : Heap) (x : Str) (k : Nat) (ps : List Str) (sp : Sp) : Prop where
  ex : ∃ (f : Addr) (fd : FuncData), FnOk P w K mg base (lies P w) k f fd ps sp ∧ mg x = some (.ref f) ∧ PySem.W.keepIn K (.ref f) = true ∧ Binds K fd ps []
theorem DefX.mono {P : Program} {w : World} {K : PySem.W.Frag} {mg : Str → Option Value} {base : Heap} {x : Str} {j k : Nat} {ps : List Str} {sp : Sp} (D : DefX P w K mg base x j ps sp) (h : j ≤ k) : DefX P w K mg base x k ps sp := by
  obtain ⟨f, fd, F, r⟩ := D.ex
  exact ⟨f, fd, F.mono h, r⟩
section
variable {P : Program} {w : World} {K : PySem.W.Frag} {mg : Str → Option Value} {base : Heap}
end
end L2
namespace L2
open PySem
section
variable {X : Cx}
end
end L2
namespace L2
open PySem
end L2
namespace L2
open PySem
section
variable {P : Program} {w : World}
def IsPairKey (P : Program) (w : World) (h : Heap) (k : List Int × Int) (a : Addr) : Prop := ∃ o n b t, h.get? a = some o ∧ o.cls = .type "tuple" ∧ o.data = .seq #[.ref b, .int k.2 t] n ∧ IsTupleKey (intKind P w) h k.1 b
theorem IsPairKey.typeIs {s : Shared} {k : List Int × Int} {a : Addr} (x : IsPairKey P w s.heap k a) : s.TypeIs (.ref a) "tuple" := let ⟨o, _, _, _, ho, hc, _⟩ := x; ⟨o, ho, hc⟩
theorem IsPairKey.inj {h : Heap} {a : Addr} {x y : List Int × Int} (hx : IsPairKey P w h x a) (hy : IsPairKey P w h y a) : x = y := by
  obtain ⟨o, n, b, t, ho, _, hd, hi⟩ := hx
  obtain ⟨o', n', b', t', ho', _, hd', hi'⟩ := hy
  obtain rfl : o = o' := Option.some.inj (ho.symm.trans ho')
  rw [hd] at hd'
  injection hd' with h1 _
  have h2 : [Value.ref b, .int x.2 t] = [.ref b', .int y.2 t'] := congrArg Array.toList h1
  injection h2 with h3 h4
  injection h4 with h5 _
  injection h3 with h3
  injection h5 with h5 _
  subst h3
  exact Prod.ext (hi.inj hi') h5
theorem IsPairKey.keeps {h h' : Heap} {k : List Int × Int} {a d : Addr} {o : Obj} {es ep} (x : IsPairKey P w h k a) (ho : h.get? d = some o) (hd : o.data = .dict es ep) (hs : Heap.SameBut d h h') : IsPairKey P w h' k a := by
  obtain ⟨o', n, b, t, ho', hc, hd', hi⟩ := x
  have hne : a ≠ d := by
    rintro rfl
    obtain rfl : o' = o := Option.some.inj (ho'.symm.trans ho)
    rw [hd] at hd'; exact nomatch hd'
  exact ⟨o', n, b, t, (hs.2 a hne).trans ho', hc, hd', hi.keeps ho hd hs⟩
def pairHash (P : Program) (w : World) (k : List Int × Int) : Int := reduceHash (Builtin.Tuple.tupleHashOf [tupleKeyHash (intKind P w) k.1, (intKind P w).hash k.2])
variable {A : Around} {E : Value → Shared → Prop} {s : Shared}
theorem pyHash_pair {k : List Int × Int} {a : Addr} {Q : Int → Shared → Prop} (hu : A.units + 5 < cLine) (hk : IsPairKey P w s.heap k a) (h : Q (pairHash P w k) { s with toks := s.toks + (k.1.length + 3) }) :
    wpAny (model P w) A (pyHash (.ref a)) Q E s := by
  have hT := hk.typeIs
  obtain ⟨o, n, b, t, ho, _, hd, hi⟩ := hk
  unfold pyHash
  first | unfold pyHashByItsType | skip
  first | refine wpAny_bind (wpAny_cRoomFor_or (.inr (by omega)) ?_) | skip
  refine wpAny_bind (wpAny_specialOf hT F.slot_tuple_hash.lookup ?_)
  show wpAny _ _ (if (some (Value.builtin "tuple.__hash__") == some Value.none) = true then _ else _) Q E s
  rw [if_neg (by rw [beq_builtin_none]; exact Bool.false_ne_true)]
  refine wpAny_bind (wpAny_specialOf hT F.slot_tuple_hash.lookup ?_)
  show wpAny _ _ (callSpecialIfBoundUnlessNone? (.ref a) "__hash__" _ >>= _) Q E s
  refine wpAny_bind (wpAny_callSpecialIfBoundUnlessNone?_slot hT F.slot_tuple_hash (wpAny_call_entry F.slot_tuple_hash hT F.entry_tuple_hash ?_ (F.args_tuple_hash_1 _)))
  show wpAny _ _ (Builtin.Tuple.tupleItemsOf (.ref a) >>= _) _ _ s
  refine wpAny_bind (wpAny_tupleItemsOf ho hd ?_)
  refine wpAny_bind ?_
  rw [← Array.forIn_toList]
  show wpAny _ _ (forIn [Value.ref b, Value.int k.2 t] #[] _) _ _ s
  rw [List.forIn_cons]
  refine wpAny_bind (wpAny_bind (wpAny_pyHash_tuple (knd := intKind P w) (show A.units + 1 < cLine by omega) hi (wpAny_pure ?_)))
  show wpAny _ _ (forIn [Value.int k.2 t] #[tupleKeyHash (intKind P w) k.1] _) _ _ _
  rw [List.forIn_cons]
  refine wpAny_bind (wpAny_bind ((intKind P w).pyHash (k := k.2) (v := .int k.2 t) (by show Value.isInt k.2 (.int k.2 t) = true; unfold Value.isInt; exact beq_self_eq_true _) (wpAny_pure ?_)))
  show wpAny _ _ (forIn [] #[tupleKeyHash (intKind P w) k.1, (intKind P w).hash k.2] _) _ _ _
  rw [List.forIn_nil]
  refine wpAny_pure ?_
  show wpAny _ _ (retInt (Builtin.Tuple.tupleHashOf [tupleKeyHash (intKind P w) k.1, (intKind P w).hash k.2])) _ _ _
  refine wpAny_ret_mkInt ?_
  show wpAny _ _ (if (decide (-(2 : Int) ^ 63 ≤ Builtin.Tuple.tupleHashOf [tupleKeyHash (intKind P w) k.1, (intKind P w).hash k.2]) && decide (Builtin.Tuple.tupleHashOf [tupleKeyHash (intKind P w) k.1, (intKind P w).hash k.2] < 2 ^ 63)) = true then _ else _) Q E _
  unfold pairHash reduceHash at h
  by_cases hr : (decide (-(2 : Int) ^ 63 ≤ Builtin.Tuple.tupleHashOf [tupleKeyHash (intKind P w) k.1, (intKind P w).hash k.2]) && decide (Builtin.Tuple.tupleHashOf [tupleKeyHash (intKind P w) k.1, (intKind P w).hash k.2] < 2 ^ 63)) = true
  · rw [if_pos hr]
    rw [if_pos hr] at h
    exact wpAny_pure (by simpa [Nat.add_assoc] using h)
  · rw [if_neg hr]
    rw [if_neg hr] at h
    exact wpAny_bind (wpAny_rule (wpAny_pure (by simpa [Nat.add_assoc] using h)))
theorem pair_eq_tree {x y : List Int × Int} {a b : Addr} {Pd : Fin → Shared → Prop} (hu : A.units < cLine) (hx : IsPairKey P w s.heap x a) (hy : IsPairKey P w s.heap y b) (h : Pd (.done (.ret (.bool (decide (x = y))))) s) :
    wpAny (model P w) A (Builtin.«tuple.__eq__» ⟨[.ref a, .ref b], []⟩) Pd E s := by
  have hTb := hy.typeIs
  obtain ⟨oa, na, ia, ta, hoa, _, hda, hia⟩ := hx
  obtain ⟨ob, nb, ib, tb, hob, _, hdb, hib⟩ := hy
  show wpAny _ _ (isInstance (.ref b) (.type "tuple") >>= _) _ _ s
  refine wpAny_bind (wpAny_isInstance hTb isSubtype_tuple_tuple ?_)
  simp only [Bool.not_true, Bool.false_eq_true, if_false]
  refine wpAny_bind (wpAny_tupleItemsOf hoa hda ?_)
  refine wpAny_bind (wpAny_tupleItemsOf hob hdb ?_)
  refine wpAny_bind ?_
  show wpAny _ _ (forIn [(Value.ref ia, Value.ref ib), (Value.int x.2 ta, Value.int y.2 tb)] _ _) _ _ s
  rw [List.forIn_cons]
  refine wpAny_bind (wpAny_bind (wpAny_eqBool_tuple (knd := intKind P w) hu hia hib ?_))
  by_cases h1 : x.1 = y.1
  · rw [decide_eq_true h1]
    simp only [Bool.not_true, Bool.false_eq_true, if_false]
    refine wpAny_pure ?_
    show wpAny _ _ (forIn [(Value.int x.2 ta, Value.int y.2 tb)] _ _) _ _ s
    rw [List.forIn_cons]
    refine wpAny_bind (wpAny_bind (wpAny_eqBool_int ?_))
    by_cases h2 : x.2 = y.2
    · rw [show (x.2 == y.2) = true by rw [h2]; exact beq_self_eq_true _]
      simp only [Bool.not_true, Bool.false_eq_true, if_false]
      refine wpAny_pure ?_
      show wpAny _ _ (forIn [] _ _) _ _ s
      rw [List.forIn_nil]
      refine wpAny_pure (wpAny_pure ?_)
      have e : decide (x = y) = true := decide_eq_true (Prod.ext h1 h2)
      rw [e] at h
      exact h
    · rw [show (x.2 == y.2) = false by exact beq_false_of_ne h2]
      simp only [Bool.not_false, if_true]
      have e : decide (x = y) = false := decide_eq_false fun z => h2 (congrArg Prod.snd z)
      rw [e] at h
      exact wpAny_bind (wpAny_pure (wpAny_pure (wpAny_pure (wpAny_pure h))))
  · rw [decide_eq_false h1]
    simp only [Bool.not_false, if_true]
    have e : decide (x = y) = false := decide_eq_false fun z => h1 (congrArg Prod.fst z)
    rw [e] at h
    exact wpAny_bind (wpAny_pure (wpAny_pure (wpAny_pure (wpAny_pure h))))
theorem eqBool_pair {x y : List Int × Int} {a b : Addr} {Q : Bool → Shared → Prop} (hu : A.units + 5 < cLine) (hx : IsPairKey P w s.heap x a) (hy : IsPairKey P w s.heap y b) (h : Q (decide (x = y)) s) :
    wpAny (model P w) A (eqBool (.ref a) (.ref b)) Q E s := by
  unfold eqBool
  try with_reducible refine wpAny_holding ?_
  show wpAny _ _ (if (Value.ref a == Value.ref b) = true then _ else _) Q E s
  by_cases hab : (Value.ref a == Value.ref b) = true
  · rw [if_pos hab]
    have e : a = b := by have := eq_of_beq hab; injection this
    subst e
    obtain rfl := hx.inj hy
    exact wpAny_bind (wpAny_rule (wpAny_pure (by simpa using h)))
  · rw [if_neg hab]
    exact wpAny_bind (wpAny_richCompare_same_room (op := .Eq) hx.typeIs hy.typeIs F.slot_tuple_eq
      (wpAny_call_entry F.slot_tuple_eq hx.typeIs F.entry_tuple_eq (pair_eq_tree (show A.units + 1 < cLine by omega) hx hy ⟨_, rfl, (fun e => nomatch e), wpAny_truthy_bool h⟩) (F.args_tuple_eq_2 _ _)) (by omega))
theorem quiet_in {ks : List Int} {a : Addr} {m : Nat} {Q : Bool → Shared → Prop} (hk : IsTupleKey (intKind P w) s.heap ks a) (h : Q true s) : wpAny (model P w) A (eqIsQuiet (m + 1) (.ref a)) Q E s := by
  have hT := hk.typeIs
  obtain ⟨o, items, n, ho, _, hd, hi⟩ := hk
  unfold eqIsQuiet
  refine wpAny_bind (wpAny_specialOf hT F.slot_tuple_eq.lookup ?_)
  show wpAny _ _ (isInstance (.ref a) (.type "tuple") >>= _) _ _ s
  refine wpAny_bind (wpAny_isInstance hT isSubtype_tuple_tuple ?_)
  simp only [Bool.not_true, Bool.false_eq_true, if_false]
  refine wpAny_bind (wpAny_seqItems ho hd ?_)
  refine wpAny_bind ?_
  show wpAny _ _ (forIn items _ _) _ _ s
  rw [← Array.forIn_toList]
  refine wpAny_forIn_list _ (fun rest r s' => r.1 = none ∧ s' = s ∧ ∀ v ∈ rest, carriedByValue v = true) _ ?_ ?_ _ _ ⟨rfl, rfl, hi.byValue⟩
  · rintro v rest r s' ⟨hr, rfl, hall⟩
    rw [eqIsQuiet_byValue _ (hall v List.mem_cons_self)]
    refine wpAny_bind (wpAny_pure ?_)
    simp only [Bool.not_true, Bool.false_eq_true, if_false]
    exact wpAny_pure ⟨rfl, rfl, fun u hu' => hall u (List.mem_cons_of_mem _ hu')⟩
  · rintro ⟨r1, r2⟩ s' ⟨hr, rfl, _⟩
    simp only at hr
    subst hr
    exact wpAny_pure h
theorem quiet_pair {k : List Int × Int} {a : Addr} {Q : Bool → Shared → Prop} (hk : IsPairKey P w s.heap k a) (h : Q true s) : wpAny (model P w) A (eqIsQuiet 8 (.ref a)) Q E s := by
  have hT := hk.typeIs
  obtain ⟨o, n, b, t, ho, _, hd, hi⟩ := hk
  unfold eqIsQuiet
  refine wpAny_bind (wpAny_specialOf hT F.slot_tuple_eq.lookup ?_)
  show wpAny _ _ (isInstance (.ref a) (.type "tuple") >>= _) _ _ s
  refine wpAny_bind (wpAny_isInstance hT isSubtype_tuple_tuple ?_)
  simp only [Bool.not_true, Bool.false_eq_true, if_false]
  refine wpAny_bind (wpAny_seqItems ho hd ?_)
  refine wpAny_bind ?_
  show wpAny _ _ (forIn #[Value.ref b, Value.int k.2 t] _ _) _ _ s
  rw [← Array.forIn_toList]
  show wpAny _ _ (forIn [Value.ref b, Value.int k.2 t] _ _) _ _ s
  rw [List.forIn_cons]
  refine wpAny_bind (wpAny_bind (quiet_in hi ?_))
  simp only [Bool.not_true, Bool.false_eq_true, if_false]
  refine wpAny_pure ?_
  show wpAny _ _ (forIn [Value.int k.2 t] _ _) _ _ s
  rw [List.forIn_cons, eqIsQuiet_byValue _ (v := Value.int k.2 t) rfl]
  refine wpAny_bind (wpAny_bind (wpAny_pure ?_))
  simp only [Bool.not_true, Bool.false_eq_true, if_false]
  refine wpAny_pure ?_
  show wpAny _ _ (forIn [] _ _) _ _ s
  rw [List.forIn_nil]
  exact wpAny_pure (wpAny_pure h)
def pairKind (P : Program) (w : World) : HeapKind P w (List Int × Int) where
  is := IsPairKey P w
  hash := pairHash P w
  draws := fun k => k.1.length + 3
  room := fun A => A.units + 5 < cLine
  inj := fun hx hy => hx.inj hy
  keeps := fun x ho hd hs => x.keeps ho hd hs
  pyHash := fun hu hk h => pyHash_pair hu hk h
  eqBool := fun hu hx hy h => eqBool_pair hu hx hy h
  quiet := fun hk h => quiet_pair hk h
end
end L2
namespace L2
open PySem
abbrev PKy := List Int × Int
abbrev PEs := List (PKy × Addr × V)
def pairH (k : PKy) : Int := reduceHash (Builtin.Tuple.tupleHashOf [reduceHash (Builtin.Tuple.tupleHashOf (k.1.map hashInt)), hashInt k.2])
abbrev PRel (p : PKy × Addr × V) (q : PKy × Addr × Value) : Prop := p.1 = q.1 ∧ p.2.1 = q.2.1 ∧ RelV p.2.2 q.2.2
def dpP (a : Addr) (xs : PEs) (ep : Nat) (h : Heap) : Prop := xs.length ≤ sizeLine ∧ (a == sysModules) = false ∧ ∃ ys : List (PKy × Addr × Value), Paired PRel xs ys ∧
  ∃ o es, h.get? a = some o ∧ o.ExactDict ∧ o.data = .dict es ep ∧ es.toList = ys.map (fun y => (⟨pairH y.1, .ref y.2.1, y.2.2⟩ : DictEntry)) ∧ (ys.map (·.1)).Nodup
def dpO (a : Addr) (xs : PEs) (ep : Nat) : HO := .ext (dpP a xs ep)
def KeyP (H : Hp) (k : PKy) (c : Addr) : Prop := ∃ b, H c = some (.tup [.ref b, .int k.2]) ∧ H b = some (.tup (k.1.map V.int))
def DP (H : Hp) (a : Addr) (xs : PEs) (ep : Nat) : Prop := H a = some (dpO a xs ep) ∧ ∀ x ∈ xs, KeyP H x.1 x.2.1
section
variable {P : Program} {w : World} {H : Hp} {h : Heap} {a c : Addr} {k : PKy} {xs : PEs}
theorem ints_items : ∀ {ns : List Int} {its : List Value}, Vals (ns.map V.int) its → ItemsAre (intKind P w) ns its
  | [], _, .nil => .nil
  | n :: ns, _, .cons r t => by
    obtain ⟨tk, rfl⟩ := r
    exact .cons (by show Value.isInt n (.int n tk) = true; unfold Value.isInt; exact beq_self_eq_true _) (ints_items t)
theorem KeyP.is (ok : HOk P w H h) (e : KeyP H k c) : (pairKind P w).is h k c := by
  obtain ⟨b, e1, e2⟩ := e
  obtain ⟨_, its, r, o, h1, h2, ⟨n, h3⟩, _⟩ := (show ObjOk P w H h c (.tup [.ref b, .int k.2]) from ok c _ e1)
  obtain ⟨_, its', r', o', h1', h2', ⟨n', h3'⟩, _⟩ := (show ObjOk P w H h b (.tup (k.1.map V.int)) from ok b _ e2)
  obtain ⟨u, v, rfl, ru, rv⟩ := r.two
  obtain rfl : u = Value.ref b := ru
  obtain ⟨t, rfl⟩ := rv
  exact ⟨o, n, b, t, h1, h2, h3, o', its'.toArray, n', h1', h2', h3', by simpa using ints_items r'⟩
theorem DP.of {ep : Nat} (ok : HOk P w H h) (e : DP H a xs ep) : xs.length ≤ sizeLine ∧ (a == sysModules) = false ∧ ∃ ys, Paired PRel xs ys ∧ h.DictOfH (pairKind P w) a ys := by
  obtain ⟨z, y, ys, r, o, es, h1, h2, h3, h4, h5⟩ := (show dpP a xs ep h from (ok a _ e.1).1)
  refine ⟨z, y, ys, r, o, es, ep, h1, h2, h3, h4, ?_, h5⟩
  have all : ∀ {l : PEs} {m : List (PKy × Addr × Value)}, Paired PRel l m → (∀ x ∈ l, KeyP H x.1 x.2.1) → ∀ x ∈ m, (pairKind P w).is h x.1 x.2.1 := by
    intro l m q
    induction q with
    | nil => intro _ x hx; exact nomatch hx
    | @cons p q ps qs hq t ih =>
      intro hk x hx
      rcases List.mem_cons.mp hx with e | hx
      · subst e
        have := hk p (List.mem_cons_self ..)
        rw [hq.1, hq.2.1] at this
        exact this.is ok
      · exact ih (fun x hx => hk x (List.mem_cons_of_mem _ hx)) x hx
  exact all r e.2
end
def KeyQ (K : PySem.W.Frag) (H : Hp) (k : PKy) (c : Addr) : Prop := ∃ b, SqT K H c [.ref b, .int k.2] ∧ SqT K H b (k.1.map V.int)
theorem KeyP.q {K : PySem.W.Frag} {H : Hp} {k : PKy} {c : Addr} (e : KeyP H k c) : KeyQ K H k c := let ⟨b, h1, h2⟩ := e; ⟨b, .of h1, .of h2⟩
theorem KeyQ.is {X : Cx} {pins : List (Addr × Obj)} {σ : St} {H : Hp} {s : Shared} {k : PKy} {c : Addr} (I : Inv X pins σ H s) (e : KeyQ X.K H k c) : (pairKind X.prog X.w).is s.heap k c := by
  obtain ⟨b, e1, e2⟩ := e
  obtain ⟨its, r, ⟨o, h1, h2, n, h3⟩, _⟩ := I.tuple e1
  obtain ⟨its', r', ⟨o', h1', h2', n', h3'⟩, _⟩ := I.tuple e2
  obtain ⟨u, v, rfl, ru, rv⟩ := r.two
  obtain rfl : u = Value.ref b := ru
  obtain ⟨t, rfl⟩ := rv
  exact ⟨o, n, b, t, h1, h2, h3, o', its'.toArray, n', h1', h2', h3', by simpa using ints_items r'⟩
section
variable {X : Cx} {o i value : Expr} {pos pos' : Pos} {td ty tv : TE}
end
end L2
namespace L2
open PySem PySem.Spec PyProof.Rows
section
variable {prog : Program} {w : World} {A : Around} {E : Value → Shared → Prop} {s : Shared} {d : Addr} {o : Obj} {es : Array DictEntry} {ep : Nat}
end
end L2
namespace L2
open PySem PySem.Spec PyProof.Rows
end L2
namespace L2
open PySem
theorem samePut {H H' : Hp} {p : Addr} {o : HO} (h : H p = none) (s : Same H H') : Same H (upd H' p o) := fun b u e => by rw [upd_ne (ne_of_none e h)]; exact s _ _ e
theorem row_of {T : List (List Int)} {n i : Nat} (q : Quad T n) (hi : i < n) : T.getD i [] = (List.range n).map (at2 T i) := by
  obtain ⟨row, e1, e2, e3⟩ := q.get hi
  rw [e3]
  apply List.ext_getElem?
  intro j
  by_cases hj : j < n
  · rw [List.getElem?_map, List.getElem?_range hj, List.getElem?_eq_getElem (by omega)]
    show _ = some ((T.getD i []).getD j 0)
    rw [e3, List.getD_eq_getElem?_getD, List.getElem?_eq_getElem (by omega)]; rfl
  · rw [List.getElem?_eq_none (by omega), List.getElem?_eq_none (by rw [List.length_map, List.length_range]; omega)]
section
variable {K : PySem.W.Frag}
end
end L2
namespace L2
open PySem
open PySem.SeqAt
section
variable {X : Cx}
end
end L2
namespace L2
open PySem PySem.W PyProof.Rows
section
variable (r : Nat → Int)
def rlt (i j : Nat) : Bool := decide (r i < r j)
def kasRun {α : Type} : KasT α → α
  | .ret a => a
  | .ask i j k => kasRun (k (rlt r i j))
theorem kasRun_bind {α β : Type} {f : α → KasT β} : ∀ t : KasT α, kasRun r (t.bind f) = kasRun r (f (kasRun r t))
  | .ret _ => rfl
  | .ask i j k => by
    show kasRun r ((k (rlt r i j)).bind f) = _
    exact kasRun_bind (k (rlt r i j))
def Kr (p : Array Nat) (i : Nat) : Int := r (p.getD i 0)
def Srt (p : Array Nat) (n : Nat) : Prop := ∀ i j, i ≤ j → j < n → Kr r p i ≤ Kr r p j
def Dsc (p : Array Nat) (n : Nat) : Prop := ∀ i j, i ≤ j → j < n → Kr r p j ≤ Kr r p i
variable {r}
theorem Kr_congr {p q : Array Nat} {i j : Nat} (h : p[i]? = q[j]?) : Kr r p i = Kr r q j := by
  unfold Kr
  rw [Array.getD_eq_getD_getElem?, Array.getD_eq_getD_getElem?, h]
theorem rlt_t {p : Array Nat} {a b : Nat} (h : Kr r p a < Kr r p b) : rlt r (p.getD a 0) (p.getD b 0) = true := decide_eq_true h
theorem rlt_f {p : Array Nat} {a b : Nat} (h : ¬ Kr r p a < Kr r p b) : ¬ rlt r (p.getD a 0) (p.getD b 0) = true := fun e => h (of_decide_eq_true e)
theorem K_rev {p : Array Nat} {i j : Nat} (hj : j ≤ p.size) (k : Nat) : Kr r (kas_rev p i j) k = if i ≤ k ∧ k < j then Kr r p (i + j - 1 - k) else Kr r p k := by
  have := getElem?_mirror_all (i := i) hj k
  by_cases c : i ≤ k ∧ k < j
  · rw [if_pos c] at this ⊢; exact Kr_congr this
  · rw [if_neg c] at this ⊢; exact Kr_congr this
theorem K_bub {p : Array Nat} {src d : Nat} (hs : src < p.size) (hd : d ≤ src) (k : Nat) : Kr r (bubble p src d) k = if k = src - d then Kr r p src else if src - d < k ∧ k ≤ src then Kr r p (k - 1) else Kr r p k := by
  have := getElem?_bubble hs d hd k
  by_cases c : k = src - d
  · rw [if_pos c] at this ⊢; exact Kr_congr this
  · rw [if_neg c] at this ⊢
    by_cases e : src - d < k ∧ k ≤ src
    · rw [if_pos e] at this ⊢; exact Kr_congr this
    · rw [if_neg e] at this ⊢; exact Kr_congr this
theorem rev_perm (p : Array Nat) (i j : Nat) : (kas_rev p i j).Perm p := mirror_perm _ _ _ _
theorem run_asc {p : Array Nat} : ∀ f n, 1 ≤ n → Srt r p n → n ≤ kasRun r (kas_asc p f n) ∧ kasRun r (kas_asc p f n) ≤ n + f ∧ Srt r p (kasRun r (kas_asc p f n)) ∧ (kasRun r (kas_asc p f n) < n + f → Kr r p (kasRun r (kas_asc p f n)) < Kr r p (kasRun r (kas_asc p f n) - 1))
  | 0, n, h1, hs => ⟨Nat.le_refl _, Nat.le_refl _, hs, fun h => absurd h (Nat.lt_irrefl _)⟩
  | f + 1, n, h1, hs => by
    have e : kasRun r (kas_asc p (f + 1) n) = kasRun r (if rlt r (p.getD n 0) (p.getD (n - 1) 0) = true then .ret n else kas_asc p f (n + 1)) := rfl
    rw [e]
    by_cases c : Kr r p n < Kr r p (n - 1)
    · rw [if_pos (rlt_t c)]
      exact ⟨Nat.le_refl _, Nat.le_add_right _ _, hs, fun _ => c⟩
    · rw [if_neg (rlt_f c)]
      obtain ⟨a1, a2, a3, a4⟩ := run_asc (p := p) f (n + 1) (by omega) fun i j hij hj => by
        by_cases e1 : j = n
        · subst e1
          by_cases e2 : i = j
          · subst e2; omega
          · have := hs i (j - 1) (by omega) (by omega); omega
        · exact hs i j hij (by omega)
      exact ⟨by omega, by omega, a3, fun h => a4 (by omega)⟩
theorem K_rev_eq {p : Array Nat} {i j : Nat} (hj : j ≤ p.size) (h : ∀ k, i ≤ k → k < j → Kr r p k = Kr r p (j - 1)) (k : Nat) : Kr r (kas_rev p i j) k = Kr r p k := by
  rw [K_rev hj]
  split
  · next c => rw [h _ (by omega) (by omega), h k c.1 c.2]
  · rfl
theorem run_desc : ∀ f (p : Array Nat) n q, 1 ≤ n → n + f ≤ p.size → q < n → Dsc r p n → (∀ i, n - (q + 1) ≤ i → i < n → Kr r p i = Kr r p (n - 1)) → ∀ R, R = kasRun r (kas_desc f p n q) →
    R.1.size = p.size ∧ R.1.Perm p ∧ n ≤ R.2.1 ∧ R.2.1 ≤ n + f ∧ R.2.2 < R.2.1 ∧ Dsc r R.1 R.2.1 ∧ ∀ i, R.2.1 - (R.2.2 + 1) ≤ i → i < R.2.1 → Kr r R.1 i = Kr r R.1 (R.2.1 - 1)
  | 0, p, n, q, h1, hz, hq, hd, he, R, hR => by subst hR; exact ⟨rfl, Array.Perm.refl _, Nat.le_refl _, Nat.le_refl _, hq, hd, he⟩
  | f + 1, p, n, q, h1, hz, hq, hd, he, R, hR => by
    have e : kasRun r (kas_desc (f + 1) p n q) = kasRun r (if rlt r (p.getD n 0) (p.getD (n - 1) 0) = true then (if q > 0 then kas_desc f (kas_rev p (n - (q + 1)) n) (n + 1) 0 else kas_desc f p (n + 1) 0) else .ask (p.getD (n - 1) 0) (p.getD n 0) fun d => if d = true then .ret (p, n, q) else kas_desc f p (n + 1) (q + 1)) := rfl
    rw [e] at hR
    by_cases c : Kr r p n < Kr r p (n - 1)
    · rw [if_pos (rlt_t c)] at hR
      have hd1 : Dsc r p (n + 1) := fun i j hij hj => by
        by_cases e1 : j = n
        · subst e1
          by_cases e2 : i = j
          · subst e2; omega
          · have := hd i (j - 1) (by omega) (by omega); omega
        · exact hd i j hij (by omega)
      by_cases c2 : q > 0
      · rw [if_pos c2] at hR
        have kk := fun k => K_rev_eq (r := r) (p := p) (i := n - (q + 1)) (j := n) (by omega) he k
        have sz : (kas_rev p (n - (q + 1)) n).size = p.size := mirror_size _ _ _ _
        obtain ⟨a1, a2, a3, a4, a5, a6, a7⟩ := run_desc f (kas_rev p (n - (q + 1)) n) (n + 1) 0 (by omega) (by rw [sz]; omega) (by omega) (fun i j hij hj => by rw [kk, kk]; exact hd1 i j hij hj) (fun i h2 h3 => by rw [show i = n by omega]; rfl) R hR
        exact ⟨a1.trans sz, a2.trans (rev_perm _ _ _), by omega, by omega, a5, a6, a7⟩
      · rw [if_neg c2] at hR
        obtain ⟨a1, a2, a3, a4, a5, a6, a7⟩ := run_desc f p (n + 1) 0 (by omega) (by omega) (by omega) hd1 (fun i h2 h3 => by rw [show i = n by omega]; rfl) R hR
        exact ⟨a1, a2, by omega, by omega, a5, a6, a7⟩
    · rw [if_neg (rlt_f c)] at hR
      have e2 : kasRun r (KasT.ask (p.getD (n - 1) 0) (p.getD n 0) fun d => if d = true then .ret (p, n, q) else kas_desc f p (n + 1) (q + 1)) = kasRun r (if rlt r (p.getD (n - 1) 0) (p.getD n 0) = true then .ret (p, n, q) else kas_desc f p (n + 1) (q + 1)) := rfl
      rw [e2] at hR
      by_cases d : Kr r p (n - 1) < Kr r p n
      · rw [if_pos (rlt_t d)] at hR
        subst hR
        exact ⟨rfl, Array.Perm.refl _, Nat.le_refl _, Nat.le_add_right _ _, hq, hd, he⟩
      · rw [if_neg (rlt_f d)] at hR
        obtain ⟨a1, a2, a3, a4, a5, a6, a7⟩ := run_desc f p (n + 1) (q + 1) (by omega) (by omega) (by omega) (fun i j hij hj => by
          by_cases e1 : j = n
          · subst e1
            by_cases e2 : i = j
            · subst e2; omega
            · have := hd i (j - 1) (by omega) (by omega); omega
          · exact hd i j hij (by omega)) (fun i h2 h3 => by
          show Kr r p i = Kr r p n
          by_cases e1 : i = n
          · rw [e1]
          · have := he i (by omega) (by omega); omega) R hR
        exact ⟨a1, a2, by omega, by omega, a5, a6, a7⟩
def RunOk (r : Nat → Int) (nrem n : Nat) (p : Array Nat) (R : Nat × Array Nat) : Prop := R.2.size = p.size ∧ R.2.Perm p ∧ n ≤ R.1 ∧ R.1 ≤ nrem ∧ Srt r R.2 R.1
theorem run_tail3 {n nrem : Nat} {p : Array Nat} (h1 : 1 ≤ n) (hn : n ≤ nrem) (hz : nrem ≤ p.size) (hd : Dsc r p n) : RunOk r nrem n p (kasRun r (kas_tail3 n nrem p)) := by
  unfold kas_tail3
  rw [kasRun_bind]
  have hs : Srt r (kas_rev p 0 n) n := fun i j hij hj => by
    rw [K_rev (by omega), K_rev (by omega), if_pos ⟨by omega, by omega⟩, if_pos ⟨by omega, hj⟩]
    exact hd _ _ (by omega) (by omega)
  obtain ⟨a1, a2, a3, _⟩ := run_asc (p := kas_rev p 0 n) (nrem - n) n h1 hs
  exact ⟨mirror_size _ _ _ _, rev_perm _ _ _, a1, by show kasRun r _ ≤ _; omega, a3⟩
theorem run_descPart {n nrem : Nat} {p : Array Nat} (hn : n + 1 ≤ nrem) (hz : nrem ≤ p.size) (hd : Dsc r p (n + 1)) : RunOk r nrem 1 p (kasRun r (kas_descPart n nrem p)) := by
  unfold kas_descPart
  rw [kasRun_bind]
  obtain ⟨a1, a2, a3, a4, a5, a6, a7⟩ := run_desc (nrem - (n + 1)) p (n + 1) 0 (by omega) (by omega) (by omega) hd (fun i h2 h3 => by rw [show i = n by omega]; rfl) _ rfl
  generalize kasRun r (kas_desc (nrem - (n + 1)) p (n + 1) 0) = R at a1 a2 a3 a4 a5 a6 a7 ⊢
  by_cases c : R.2.2 > 0
  · rw [if_pos c]
    have kk := fun k => K_rev_eq (r := r) (p := R.1) (i := R.2.1 - (R.2.2 + 1)) (j := R.2.1) (by omega) a7 k
    have sz : (kas_rev R.1 (R.2.1 - (R.2.2 + 1)) R.2.1).size = R.1.size := mirror_size _ _ _ _
    obtain ⟨b1, b2, b3, b4, b5⟩ := run_tail3 (r := r) (n := R.2.1) (nrem := nrem) (p := kas_rev R.1 (R.2.1 - (R.2.2 + 1)) R.2.1) (by omega) (by omega) (by rw [sz]; omega) fun i j hij hj => by rw [kk, kk]; exact a6 i j hij hj
    exact ⟨b1.trans (sz.trans a1), b2.trans ((rev_perm _ _ _).trans a2), by omega, b4, b5⟩
  · rw [if_neg c]
    obtain ⟨b1, b2, b3, b4, b5⟩ := run_tail3 (r := r) (n := R.2.1) (nrem := nrem) (p := R.1) (by omega) (by omega) (by omega) a6
    exact ⟨b1.trans a1, b2.trans a2, by omega, b4, b5⟩
theorem run_count {nrem : Nat} {p : Array Nat} (h1 : 1 ≤ nrem) (hz : nrem ≤ p.size) : RunOk r nrem 1 p (kasRun r (kas_count nrem p)) := by
  unfold kas_count
  rw [kasRun_bind]
  obtain ⟨a1, a2, a3, a4⟩ := run_asc (r := r) (p := p) (nrem - 1) 1 (Nat.le_refl _) fun i j hij hj => by rw [show i = j by omega]; omega
  generalize kasRun r (kas_asc p (nrem - 1) 1) = n at a1 a2 a3 a4 ⊢
  by_cases c : (n == nrem) = true
  · rw [if_pos c]
    exact ⟨rfl, Array.Perm.refl _, a1, by show n ≤ nrem; omega, a3⟩
  · rw [if_neg c]
    have cn : n ≠ nrem := fun e => c (by rw [e]; exact beq_self_eq_true _)
    have lt := a4 (by omega)
    by_cases d : n > 1
    · rw [if_pos d]
      show RunOk r nrem 1 p (kasRun r (if rlt r (p.getD 0 0) (p.getD (n - 1) 0) = true then .ret (n, p) else kas_descPart n nrem (kas_rev p 0 n)))
      by_cases e : Kr r p 0 < Kr r p (n - 1)
      · rw [if_pos (rlt_t e)]
        exact ⟨rfl, Array.Perm.refl _, a1, by show n ≤ nrem; omega, a3⟩
      · rw [if_neg (rlt_f e)]
        have eq : ∀ k, 0 ≤ k → k < n → Kr r p k = Kr r p (n - 1) := fun k _ hk => by
          have g1 := a3 0 k (by omega) hk
          have g2 := a3 k (n - 1) (by omega) (by omega)
          omega
        have kk := fun k => K_rev_eq (r := r) (p := p) (i := 0) (j := n) (by omega) eq k
        have sz : (kas_rev p 0 n).size = p.size := mirror_size _ _ _ _
        obtain ⟨b1, b2, b3, b4, b5⟩ := run_descPart (r := r) (n := n) (nrem := nrem) (p := kas_rev p 0 n) (by omega) (by rw [sz]; omega) fun i j hij hj => by
          rw [kk, kk]
          by_cases e1 : j = n
          · subst e1
            by_cases e2 : i = j
            · subst e2; omega
            · have := eq i (by omega) (by omega); omega
          · have g1 := eq i (by omega) (by omega)
            have g2 := eq j (by omega) (by omega)
            omega
        exact ⟨b1.trans sz, b2.trans (rev_perm _ _ _), b3, b4, b5⟩
    · rw [if_neg d]
      refine run_descPart (by omega) hz fun i j hij hj => ?_
      have : n = 1 := by omega
      subst this
      by_cases e2 : i = j
      · subst e2; omega
      · rw [show i = 0 by omega, show j = 1 by omega]
        exact Int.le_of_lt lt
theorem run_place {p : Array Nat} {k : Nat} (hs : Srt r p k) : ∀ f l q, l ≤ q → q ≤ k → q - l ≤ f → (∀ i, i < l → Kr r p i ≤ Kr r p k) → (∀ i, q ≤ i → i < k → Kr r p k < Kr r p i) →
    ∀ m, m = kasRun r (kas_place p k f l q) → m ≤ k ∧ (∀ i, i < m → Kr r p i ≤ Kr r p k) ∧ ∀ i, m ≤ i → i < k → Kr r p k < Kr r p i
  | 0, l, q, h1, h2, h3, ha, hb, m, hm => by
    obtain rfl : m = l := hm
    exact ⟨by omega, ha, fun i hi hk => hb i (by omega) hk⟩
  | f + 1, l, q, h1, h2, h3, ha, hb, m, hm => by
    have e : kasRun r (kas_place p k (f + 1) l q) = kasRun r (if l ≥ q then .ret l else .ask (p.getD k 0) (p.getD ((l + q) / 2) 0) fun c => if c = true then kas_place p k f l ((l + q) / 2) else kas_place p k f ((l + q) / 2 + 1) q) := rfl
    rw [e] at hm
    by_cases c : l ≥ q
    · rw [if_pos c] at hm
      obtain rfl : m = l := hm
      exact ⟨by omega, ha, fun i hi hk => hb i (by omega) hk⟩
    · rw [if_neg c] at hm
      have e2 : kasRun r (KasT.ask (p.getD k 0) (p.getD ((l + q) / 2) 0) fun c => if c = true then kas_place p k f l ((l + q) / 2) else kas_place p k f ((l + q) / 2 + 1) q) = kasRun r (if rlt r (p.getD k 0) (p.getD ((l + q) / 2) 0) = true then kas_place p k f l ((l + q) / 2) else kas_place p k f ((l + q) / 2 + 1) q) := rfl
      rw [e2] at hm
      by_cases d : Kr r p k < Kr r p ((l + q) / 2)
      · rw [if_pos (rlt_t d)] at hm
        exact run_place hs f l ((l + q) / 2) (by omega) (by omega) (by omega) ha (fun i hi hk => by have := hs ((l + q) / 2) i hi hk; omega) m hm
      · rw [if_neg (rlt_f d)] at hm
        exact run_place hs f ((l + q) / 2 + 1) q (by omega) h2 (by omega) (fun i hi => by have := hs i ((l + q) / 2) (by omega) (by omega); omega) hb m hm
theorem run_bin : ∀ f (p : Array Nat) k, k + f ≤ p.size → Srt r p k → (kasRun r (kas_bin f p k)).Perm p ∧ (kasRun r (kas_bin f p k)).size = p.size ∧ Srt r (kasRun r (kas_bin f p k)) (k + f)
  | 0, p, k, hz, hs => ⟨Array.Perm.refl _, rfl, hs⟩
  | f + 1, p, k, hz, hs => by
    have e : kasRun r (kas_bin (f + 1) p k) = kasRun r (kas_bin f (bubble p k (k - kasRun r (kas_place p k k 0 k))) (k + 1)) := kasRun_bind (r := r) _
    rw [e]
    obtain ⟨a1, a2, a3⟩ := run_place hs k 0 k (by omega) (by omega) (by omega) (fun i hi => by omega) (fun i h1 h2 => by omega) _ rfl
    generalize kasRun r (kas_place p k k 0 k) = l at a1 a2 a3 ⊢
    have sz : (bubble p k (k - l)).size = p.size := bubble_size _ _ _
    have kb := fun i => K_bub (r := r) (p := p) (src := k) (d := k - l) (by omega) (by omega) i
    obtain ⟨b1, b2, b3⟩ := run_bin f (bubble p k (k - l)) (k + 1) (by rw [sz]; omega) fun i j hij hj => by
      rw [kb, kb]
      have g1 : ∀ i, i < l → Kr r p i ≤ Kr r p k := a2
      have g2 : ∀ i, l ≤ i → i < k → Kr r p k < Kr r p i := a3
      by_cases i1 : i = k - (k - l) <;> by_cases j1 : j = k - (k - l)
      · rw [if_pos i1, if_pos j1]; omega
      · rw [if_pos i1, if_neg j1, if_pos ⟨by omega, by omega⟩]
        exact Int.le_of_lt (g2 _ (by omega) (by omega))
      · rw [if_neg i1, if_pos j1, if_neg (by omega)]
        exact g1 i (by omega)
      · rw [if_neg i1, if_neg j1]
        by_cases i2 : k - (k - l) < i ∧ i ≤ k
        · rw [if_pos i2, if_pos ⟨by omega, by omega⟩]
          exact hs _ _ (by omega) (by omega)
        · rw [if_neg i2]
          by_cases j2 : k - (k - l) < j ∧ j ≤ k
          · rw [if_pos j2]
            exact hs _ _ (by omega) (by omega)
          · rw [if_neg j2]
            exact hs _ _ hij (by omega)
    exact ⟨b1.trans (bubble_perm _ _ _), b2.trans sz, by rw [show k + (f + 1) = k + 1 + f by omega]; exact b3⟩
theorem run_sort {n : Nat} (h1 : 1 ≤ n) : (kasRun r (kas_sort n)).Perm (List.toArray (List.range n)) ∧ (kasRun r (kas_sort n)).size = n ∧ Srt r (kasRun r (kas_sort n)) n := by
  unfold kas_sort
  rw [kasRun_bind]
  have hz : (List.toArray (List.range n)).size = n := by simp
  obtain ⟨a1, a2, a3, a4, a5⟩ := run_count (r := r) (nrem := n) (p := List.toArray (List.range n)) h1 (by omega)
  generalize kasRun r (kas_count n (List.toArray (List.range n))) = R at a1 a2 a3 a4 a5 ⊢
  by_cases c : R.1 < n
  · rw [if_pos c]
    obtain ⟨b1, b2, b3⟩ := run_bin (r := r) (n - max R.1 1) R.2 (max R.1 1) (by omega) (by rw [show max R.1 1 = R.1 by omega]; exact a5)
    exact ⟨b1.trans a2, by omega, by rw [show max R.1 1 + (n - max R.1 1) = n by omega] at b3; exact b3⟩
  · rw [if_neg c]
    exact ⟨a2, by show R.2.size = n; omega, by rw [show R.1 = n by omega] at a5; exact a5⟩
end
end L2
namespace L2
open PySem PySem.W PyProof.Rows
section
variable {N : Nat}
def Bnd (N : Nat) (p : Array Nat) : Prop := ∀ k, p.getD k 0 < N
theorem Bnd.perm {p q : Array Nat} (hN : 0 < N) (h : Bnd N p) (e : q.Perm p) : Bnd N q := fun k => by
  rw [Array.getD_eq_getD_getElem?]
  by_cases c : k < q.size
  · rw [Array.getElem?_eq_getElem c]
    have hm : q[k] ∈ p := e.mem_iff.mp (Array.getElem_mem c)
    obtain ⟨i, hi, e2⟩ := Array.getElem_of_mem hm
    have := h i
    rw [Array.getD_eq_getD_getElem?, Array.getElem?_eq_getElem hi] at this
    show q[k] < N
    rw [← e2]
    exact this
  · rw [Array.getElem?_eq_none (by omega)]
    exact hN
def AskP (N : Nat) {α : Type} (P : α → Prop) : KasT α → Prop
  | .ret a => P a
  | .ask i j k => i < N ∧ j < N ∧ ∀ b, AskP N P (k b)
theorem AskP.bind {α β : Type} {f : α → KasT β} {P : α → Prop} {Q : β → Prop} (hf : ∀ a, P a → AskP N Q (f a)) : ∀ t : KasT α, AskP N P t → AskP N Q (t.bind f)
  | .ret a, h => hf a h
  | .ask i j k, h => ⟨h.1, h.2.1, fun b => AskP.bind hf (k b) (h.2.2 b)⟩
theorem AskP.ite {α : Type} {P : α → Prop} {c : Prop} [Decidable c] {t u : KasT α} (h1 : c → AskP N P t) (h2 : ¬ c → AskP N P u) : AskP N P (if c then t else u) := by
  by_cases h : c
  · rw [if_pos h]; exact h1 h
  · rw [if_neg h]; exact h2 h
theorem ask_asc {p : Array Nat} (hb : Bnd N p) : ∀ f n, AskP N (fun _ => True) (kas_asc p f n)
  | 0, n => trivial
  | f + 1, n => ⟨hb _, hb _, fun b => AskP.ite (fun _ => trivial) fun _ => ask_asc hb f (n + 1)⟩
theorem ask_desc (hN : 0 < N) : ∀ f (p : Array Nat) n q, Bnd N p → AskP N (fun R => Bnd N R.1) (kas_desc f p n q)
  | 0, p, n, q, hb => hb
  | f + 1, p, n, q, hb => ⟨hb _, hb _, fun b => AskP.ite (fun _ => AskP.ite (fun _ => ask_desc hN f _ _ _ (hb.perm hN (rev_perm _ _ _))) fun _ => ask_desc hN f _ _ _ hb) fun _ => ⟨hb _, hb _, fun d => AskP.ite (fun _ => hb) fun _ => ask_desc hN f _ _ _ hb⟩⟩
theorem ask_tail3 (hN : 0 < N) {n nrem : Nat} {p : Array Nat} (hb : Bnd N p) : AskP N (fun R : Nat × Array Nat => Bnd N R.2) (kas_tail3 n nrem p) := by
  unfold kas_tail3
  refine AskP.bind (P := fun _ => True) (fun a _ => ?_) _ (ask_asc (hb.perm hN (rev_perm _ _ _)) _ _)
  exact hb.perm hN (rev_perm _ _ _)
theorem ask_descPart (hN : 0 < N) {n nrem : Nat} {p : Array Nat} (hb : Bnd N p) : AskP N (fun R : Nat × Array Nat => Bnd N R.2) (kas_descPart n nrem p) := by
  unfold kas_descPart
  refine AskP.bind (fun R hR => ?_) _ (ask_desc hN _ _ _ _ hb)
  exact AskP.ite (fun _ => ask_tail3 hN (Bnd.perm hN hR (rev_perm _ _ _))) fun _ => ask_tail3 hN hR
theorem ask_count (hN : 0 < N) {nrem : Nat} {p : Array Nat} (hb : Bnd N p) : AskP N (fun R : Nat × Array Nat => Bnd N R.2) (kas_count nrem p) := by
  unfold kas_count
  refine AskP.bind (P := fun _ => True) (fun n _ => ?_) _ (ask_asc hb _ _)
  refine AskP.ite (fun _ => ?_) fun _ => AskP.ite (fun _ => ⟨hb _, hb _, fun c => AskP.ite (fun _ => ?_) fun _ => ask_descPart hN (hb.perm hN (rev_perm _ _ _))⟩) fun _ => ask_descPart hN hb
  · exact hb
  · exact hb
theorem ask_place {p : Array Nat} {k : Nat} (hb : Bnd N p) : ∀ f l q, AskP N (fun _ => True) (kas_place p k f l q)
  | 0, l, q => trivial
  | f + 1, l, q => AskP.ite (fun _ => trivial) fun _ => ⟨hb _, hb _, fun c => AskP.ite (fun _ => ask_place hb f _ _) fun _ => ask_place hb f _ _⟩
theorem ask_bin (hN : 0 < N) : ∀ f (p : Array Nat) k, Bnd N p → AskP N (fun _ => True) (kas_bin f p k)
  | 0, p, k, hb => trivial
  | f + 1, p, k, hb => AskP.bind (fun l _ => ask_bin hN f _ _ (hb.perm hN (bubble_perm _ _ _))) _ (ask_place hb _ _ _)
theorem ask_sort (hN : 0 < N) : AskP N (fun _ => True) (kas_sort N) := by
  have hb : Bnd N (List.toArray (List.range N)) := fun k => by
    rw [Array.getD_eq_getD_getElem?]
    by_cases c : k < N
    · simp [c]
    · simp [c, hN]
  unfold kas_sort
  refine AskP.bind (fun R hR => ?_) _ (ask_count hN hb)
  refine AskP.ite (fun _ => ask_bin hN _ _ _ hR) fun _ => ?_
  exact trivial
theorem wp_run {r : Nat → Int} {cmp : Nat → Nat → (Bool → Shared → Prop) → Shared → Prop} {s : Shared} (hc : ∀ i j C, i < N → j < N → C (rlt r i j) s → cmp i j C s) {α : Type} {P : α → Prop} {Q : α → Shared → Prop} : ∀ t : KasT α, AskP N P t → Q (kasRun r t) s → t.kasWp cmp Q s
  | .ret a, _, h => h
  | .ask i j k, ha, h => hc i j _ ha.1 ha.2.1 (wp_run hc (k (rlt r i j)) (ha.2.2 _) h)
end
theorem lexL_tot : ∀ {a b : List Int}, lexL a b = false → lexL b a = false → a = b
  | [], [], _, _ => rfl
  | [], _ :: _, h, _ => by cases h
  | _ :: _, [], _, h => by cases h
  | x :: a, y :: b, h1, h2 => by
    rw [lexL] at h1 h2
    by_cases e : x = y
    · subst e
      rw [if_pos rfl] at h1 h2
      rw [lexL_tot h1 h2]
    · rw [if_neg e] at h1
      rw [if_neg (Ne.symm e)] at h2
      have g1 := of_decide_eq_false h1
      have g2 := of_decide_eq_false h2
      omega
def rank (R : List (List Int)) (i : Nat) : Int := ((R.countP fun q => lexL q (R.getD i [])) : Nat)
theorem countP_lt {p q : List Int → Bool} : ∀ {l : List (List Int)}, (∀ x ∈ l, p x = true → q x = true) → (∃ x ∈ l, p x = false ∧ q x = true) → l.countP p < l.countP q
  | [], _, ⟨_, h, _⟩ => by cases h
  | a :: l, h, ⟨x, hx, h1, h2⟩ => by
    have mono : l.countP p ≤ l.countP q := List.countP_mono_left fun x hx => h x (List.mem_cons_of_mem _ hx)
    rw [List.countP_cons, List.countP_cons]
    rcases List.mem_cons.mp hx with e | hx
    · subst e
      rw [h1, h2]
      simp
      omega
    · have ih := countP_lt (fun x hx => h x (List.mem_cons_of_mem _ hx)) ⟨x, hx, h1, h2⟩
      have ha := h a (List.mem_cons_self ..)
      cases e1 : p a with
      | false => simp; split <;> omega
      | true => rw [ha e1]; simp; omega
theorem rank_lt {R : List (List Int)} {i j : Nat} (hi : i < R.length) (hj : j < R.length) : (rank R i < rank R j) ↔ lexL (R.getD i []) (R.getD j []) = true := by
  have mem : ∀ k, k < R.length → R.getD k [] ∈ R := fun k hk => by
    rw [List.getD_eq_getElem?_getD, List.getElem?_eq_getElem hk]; exact List.getElem_mem hk
  unfold rank
  constructor
  · intro h
    cases e : lexL (R.getD i []) (R.getD j []) with
    | true => rfl
    | false =>
      exfalso
      have : R.countP (fun q => lexL q (R.getD j [])) ≤ R.countP (fun q => lexL q (R.getD i [])) := List.countP_mono_left fun x _ hx => by
        cases e2 : lexL (R.getD j []) (R.getD i []) with
        | true => exact lexL_trans hx e2
        | false => rw [lexL_tot e e2]; exact hx
      omega
  · intro h
    have := countP_lt (l := R) (p := fun q => lexL q (R.getD i [])) (q := fun q => lexL q (R.getD j [])) (fun x _ hx => lexL_trans hx h) ⟨_, mem i hi, lexL_irr _, h⟩
    omega
end L2
namespace L2
open PySem PySem.W PyProof.Rows
def TupsAt (h : Heap) (vs : List Value) (R : List (List Int)) : Prop := vs.length = R.length ∧ ∀ (i : Nat) (row : List Int), R[i]? = some row → ∃ x us, vs[i]? = some (.ref x) ∧ IsTup h x us.toArray ∧ IntsAre us row
section
variable {prog : Program} {w : World} {A : Around} {E : Value → Shared → Prop} {s : Shared}
theorem lex_go {fin : Bool} {Q : Bool → Shared → Prop} : ∀ {us vs : List Value} {ns ms : List Int} (i : Nat), IntsAre us ns → IntsAre vs ms → Q (lexZ fin (ns.zip ms)) s → KatLex prog w A true fin Q (us.zip vs) i s
  | [], _, _, _, i, .nil, _, h => by rw [List.zip_nil_left]; exact kat_nil (by simpa [lexZ] using h)
  | _ :: _, [], _, _, i, .cons _ _ _, .nil, h => by rw [List.zip_nil_right]; exact kat_nil (by simpa [lexZ] using h)
  | _ :: us, _ :: vs, _ :: ns, _ :: ms, i, .cons n t h1, .cons m u h2, h => by
    rw [List.zip_cons_cons, lexZ] at h
    rw [List.zip_cons_cons]
    refine kat_cons (SeqAt.EqAt.int_int n t m u prog w _ _ ?_)
    by_cases c : n = m
    · rw [if_pos c] at h
      rw [show (n == m) = true from by rw [c]; exact beq_self_eq_true _]
      exact kat_yes (lex_go (i + 1) h1 h2 h)
    · rw [if_neg c] at h
      rw [show (n == m) = false from beq_false_of_ne c]
      refine kat_no ?_
      by_cases z : i = 0
      · subst z
        exact oneLt_int h
      · rw [show (true && i == 0) = false by simp [z]]
        exact kat_one _ _ (rc_lt_int h)
theorem ask_tup {vs : List Value} {R : List (List Int)} (hv : TupsAt s.heap vs R) {i j : Nat} {C : Bool → Shared → Prop} (hi : i < R.length) (hj : j < R.length) (h : C (rlt (rank R) i j) s) : kas_ask prog w A (tuples' true) vs i j C s := by
  have at' : ∀ k, k < R.length → ∃ x us, vs.getD k Value.none = .ref x ∧ IsTup s.heap x us.toArray ∧ IntsAre us (R.getD k []) := fun k hk => by
    obtain ⟨x, us, e1, e2, e3⟩ := hv.2 k R[k] (List.getElem?_eq_getElem hk)
    refine ⟨x, us, by rw [List.getD_eq_getElem?_getD, e1]; rfl, e2, ?_⟩
    rw [List.getD_eq_getElem?_getD, List.getElem?_eq_getElem hk]
    exact e3
  obtain ⟨x, us, e1, ⟨ox, a1, _, n1, d1⟩, b1⟩ := at' i hi
  obtain ⟨y, vs', e2, ⟨oy, a2, _, n2, d2⟩, b2⟩ := at' j hj
  show wpAny (model prog w) A (keyLt' (tuples' true) (vs.getD i Value.none) (vs.getD j Value.none)) C (fun _ _ => False) s
  rw [e1, e2]
  refine kat_lt a1 d1 a2 d2 ?_
  have hl1 : us.length = (R.getD i []).length := IntsAre.len b1
  have hl2 : vs'.length = (R.getD j []).length := IntsAre.len b2
  have e : rlt (rank R) i j = lexZ (decide (us.toArray.size < vs'.toArray.size)) ((R.getD i []).zip (R.getD j [])) := by
    rw [List.size_toArray, List.size_toArray, hl1, hl2, lexZ_eq]
    unfold rlt
    by_cases c : lexL (R.getD i []) (R.getD j []) = true
    · rw [c]; exact decide_eq_true ((rank_lt hi hj).mpr c)
    · rw [Bool.not_eq_true _ |>.mp c]; exact decide_eq_false fun z => c ((rank_lt hi hj).mp z)
  exact lex_go 0 b1 b2 (by rw [← e]; exact h)
theorem kat_firsts_of {h : Heap} : ∀ {vs : List Value} {R : List (List Int)}, TupsAt h vs R → (∀ q ∈ R, q ≠ []) → ∃ fs, KatTups h vs fs ∧ fs.length = R.length ∧ ∀ v ∈ fs, ∃ i t, v = .int i t
  | [], [], _, _ => ⟨[], trivial, rfl, fun _ z => by cases z⟩
  | [], _ :: _, hv, _ => by cases hv.1
  | _ :: _, [], hv, _ => by cases hv.1
  | v :: vs, q :: R, hv, hne => by
    obtain ⟨x, us, e1, ⟨o, a1, a2, n, a3⟩, b⟩ := hv.2 0 q rfl
    obtain ⟨fs, k, l, f⟩ := kat_firsts_of (vs := vs) (R := R) ⟨by simpa using hv.1, fun i row hr => hv.2 (i + 1) row hr⟩ fun q hq => hne q (List.mem_cons_of_mem _ hq)
    obtain rfl : v = .ref x := by simpa using e1
    cases b with
    | nil => exact absurd rfl (hne [] (List.mem_cons_self ..))
    | cons m t r =>
      exact ⟨.int m t :: fs, ⟨⟨x, o, _, n, rfl, a1, a2, a3, rfl⟩, k⟩, by simp [l], fun v hv' => by
        rcases List.mem_cons.mp hv' with e | hv'
        · exact ⟨m, t, e⟩
        · exact f v hv'⟩
theorem TupsAt.keep {h h' : Heap} {vs : List Value} {R : List (List Int)} (hv : TupsAt h vs R) (k : ∀ x us, IsTup h x us → IsTup h' x us) : TupsAt h' vs R :=
  ⟨hv.1, fun i row hr => by obtain ⟨x, us, e1, e2, e3⟩ := hv.2 i row hr; exact ⟨x, us, e1, k _ _ e2, e3⟩⟩
def Put (R : List (List Int)) (p : Array Nat) : Prop := p.Perm (List.toArray (List.range R.length)) ∧ ∀ i j, i ≤ j → j < R.length → lexL (R.getD (p.getD j 0) []) (R.getD (p.getD i 0) []) = false
theorem list_sort_tup {a : Addr} {vs : List Value} {n : Nat} {R : List (List Int)} {P : Fin → Shared → Prop} (ho : s.heap.get? a = some (seqObj "list" vs.toArray n)) (hv : TupsAt s.heap vs R) (hne : ∀ q ∈ R, q ≠ []) (h64 : vs.length < 64)
    (h : ∀ p, Put R p → P (.done (.ret .none)) { s with heap := sortedHeap s.heap a vs (List.toArray (p.toList.map fun i => vs.getD i Value.none)) }) : wpAny (model prog w) A (Builtin.«list.sort» ⟨[.ref a], []⟩) P E s := by
  have ha := Heap.lt_size ho
  have hz : vs.length ≤ sizeLine := by rw [sizeLine_eq]; omega
  obtain ⟨e1, ho1⟩ : ∃ e1, (s.heap.update a (Obj.mapSeq fun _ => #[])).get? a = some (seqObj "list" #[] e1) := ⟨_, get?_update_seq ho fun _ => #[]⟩
  rw [list_sort_plain]
  refine wpAny_bind (listItems_at ho rfl (wpAny_bind (listUpdate_at ho rfl ?g1 (by rw [List.size_toArray]; exact hz) (Nat.zero_le _))))
  case g1 =>
  refine wpAny_bind (seqEpoch_at ho1 rfl (wpAny_bind (wpAny_newTuple ?g2 (by show vs.length ≤ _; exact hz))))
  case g2 =>
  refine wpAny_bind (wpAny_newList (wpAny_holding ?g3) (Nat.zero_le _))
  case g3 =>
  obtain ⟨h3, eh⟩ : ∃ h3, h3 = ((s.heap.update a (Obj.mapSeq fun _ => (#[] : Array Value))).push (seqObj "tuple" vs.toArray 0)).push (seqObj "list" #[] 0) := ⟨_, rfl⟩
  show wpAny (model prog w) A _ P E { s with heap := ((s.heap.update a (Obj.mapSeq fun _ => #[])).push (seqObj "tuple" vs.toArray 0)).push (seqObj "list" #[] 0) }
  rw [← eh]
  have ho3 : h3.get? a = some (seqObj "list" #[] e1) := by
    rw [eh]
    exact Heap.get?_push_of_some _ (Heap.get?_push_of_some _ ho1)
  have hv3 : TupsAt h3 vs R := hv.keep fun x us ⟨o, b1, b2, b3⟩ => by
    have hx : x ≠ a := fun e => by
      subst e
      rw [ho] at b1
      cases b1
      exact absurd (Value.type.inj (show Value.type "list" = Value.type "tuple" from b2)) (by decide)
    refine ⟨o, ?_, b2, b3⟩
    rw [eh]
    exact Heap.get?_push_of_some _ (Heap.get?_push_of_some _ (by rw [Heap.get?_update_ne _ _ _ _ hx]; exact b1))
  dsimp only
  have fin : ∀ (p : Array Nat) (st' : SortSt), Put R p → p.size = vs.length → arrOf st' = p.map (kas_item (vs.toArray.zip vs.toArray)) → failedOf st' = none → wpAny (model prog w) A (do
      let touched := (← seqEpoch a) != e1
      Builtin.List.listUpdate (.ref a) fun _ => (arrOf st').map (·.2)
      if let some e := failedOf st' then rule "list.sort.comparison-raised"; throw e
      if touched then rule "list.sort.modified"; raiseError "ValueError" "list modified during sort"
      ret .none) P E { s with heap := h3 } := fun p st' hp hsz har hf => by
    rw [kat_snds rfl har, hf]
    refine wpAny_bind (seqEpoch_at ho3 rfl (wpAny_bind (listUpdate_at ho3 rfl ?g4 (Nat.zero_le _) ?g5)))
    case g5 =>
      show (List.toArray _).size ≤ _
      rw [List.size_toArray, List.length_map, Array.length_toList]; omega
    case g4 =>
      simp only [bne_self_eq_false, Bool.false_eq_true, if_false]
      have := h p hp
      unfold sortedHeap at this
      rw [← eh] at this
      exact wpAny_pure this
  by_cases c : vs.toArray.size < 2
  · rw [if_pos c, if_pos c]
    refine wpAny_bind (wpAny_pure ?g6)
    case g6 =>
    rw [StateT.run_pure]
    refine wpAny_bind (wpAny_pure ?g7)
    case g7 =>
    have e2 : (vs.toArray.zip vs.toArray).size = vs.length := by simp
    refine fin (List.toArray (List.range vs.length)) (SortSt.mk' general' (vs.toArray.zip vs.toArray) #[] 7 none) ⟨by rw [hv.1], fun i j hij hj => ?_⟩ (by simp) ?_ rfl
    · have hl : R.length < 2 := by rw [← hv.1]; simpa using c
      rw [show i = j by omega]
      exact lexL_irr _
    · have := kas_range (vs.toArray.zip vs.toArray)
      rw [e2] at this
      exact this.symm
  · rw [if_neg c, if_neg c]
    have h2 : 2 ≤ vs.length := by simpa using c
    obtain ⟨fs, k1, k2, k3⟩ := kat_firsts_of hv3 hne
    refine wpAny_bind (kat_kind (s := { s with heap := h3 }) (T := .type "int") k1 (by have := hv.1; omega) (fun v hv' => ?g8) (by decide) ?g9)
    case g8 =>
      obtain ⟨i, t, rfl⟩ := k3 v hv'
      exact Looks.of_pure rfl
    case g9 =>
    obtain ⟨q1, q2, q3⟩ := run_sort (r := rank R) (n := vs.length) (by omega)
    refine wpAny_bind (wpAny_mono (kat_run (ks := vs) (vs := vs) (s := { s with heap := h3 }) (κ := tuples' true) (Q := fun st' s' => s' = { s with heap := h3 } ∧ arrOf st' = (kasRun (rank R) (kas_sort vs.length)).map (kas_item (vs.toArray.zip vs.toArray)) ∧ failedOf st' = none) (G := fun p' s' => p' = kasRun (rank R) (kas_sort vs.length) ∧ s' = { s with heap := h3 }) rfl h2 h64 (fun p' st' s' a1 a2 a3 a4 => ⟨a4.2, by rw [← a4.1]; exact a2, a3⟩)
      (wp_run (N := vs.length) (r := rank R) (fun i j C hi hj hC => ask_tup (s := { s with heap := h3 }) hv3 (by rw [← hv.1]; exact hi) (by rw [← hv.1]; exact hj) hC) _ (ask_sort (by omega)) ⟨rfl, rfl⟩)) ?_ fun _ _ e => e)
    rintro ⟨⟨⟩, st'⟩ s' ⟨rfl, har, hf⟩
    refine fin _ st' ⟨by rw [← hv.1]; exact q1, fun i j hij hj => ?_⟩ q2 har hf
    have hle := q3 i j hij (by rw [hv.1]; exact hj)
    have bd : ∀ k, k < vs.length → (kasRun (rank R) (kas_sort vs.length)).getD k 0 < R.length := fun k hk => by
      rw [Array.getD_eq_getD_getElem?, Array.getElem?_eq_getElem (by omega)]
      have := q1.mem_iff.mp (Array.getElem_mem (show k < (kasRun (rank R) (kas_sort vs.length)).size by omega))
      rw [← hv.1]
      simpa using this
    have hlt := rank_lt (R := R) (bd j (by rw [hv.1]; exact hj)) (bd i (by rw [hv.1]; omega))
    cases z : lexL (R.getD ((kasRun (rank R) (kas_sort vs.length)).getD j 0) []) (R.getD ((kasRun (rank R) (kas_sort vs.length)).getD i 0) []) with
    | false => rfl
    | true =>
      have := hlt.mpr z
      unfold Kr at hle
      omega
end
end L2
namespace L2
open PySem PySem.W PyProof.Rows
section
variable {prog : Program} {w : World} {A : Around} {E : Value → Shared → Prop} {s : Shared}
theorem sorted_tup {l : Addr} {ob : Obj} {n : Nat} {T : String} {us : List Value} {R : List (List Int)} {Q : Value → Shared → Prop} (e0 : s.heap.get? l = some ob) (ec : ob.cls = .type T) (eT : T = "list" ∨ T = "tuple") (ed : ob.data = .seq us.toArray n) (hv : TupsAt s.heap us R) (hne : ∀ q ∈ R, q ≠ []) (h64 : us.length < 64)
    (q : ∀ p, Put R p → Q (.ref (s.heap.objs.size + 1)) { s with heap := sortedAll s.heap us (List.toArray (p.toList.map fun i => us.getD i Value.none)) }) : wpAny (model prog w) A (call (.builtin "sorted") [.ref l]) Q E s := by
  refine Calls.call_function_entry kind_sorted plain_sorted entry_sorted (args_sorted1 _) ?g1
  case g1 =>
  unfold Builtin.«sorted»
  refine wpAny_bind (m := checkCount "sorted" 1 1 _) (wpAny_pure (wpAny_bind (collect_sq e0 ec eT ed (wpAny_bind (wpAny_newList ?g2)) (Nat.le_trans (Nat.le_of_lt h64) (by decide)))))
  case g2 =>
  obtain ⟨h1, eh1⟩ : ∃ h1, h1 = (s.heap.push (seqObj "list" #[] 0)).update s.heap.objs.size (Obj.mapSeq (· ++ us.toArray)) := ⟨_, rfl⟩
  have z1 : h1.objs.size = s.heap.objs.size + 1 := by rw [eh1, Heap.size_update, size_push']
  have old : ∀ x o, s.heap.get? x = some o → (h1.push (seqObj "list" us.toArray 0)).get? x = some o := fun x o e => by
    have hx := Heap.lt_size e
    refine Heap.get?_push_of_some _ ?_
    rw [eh1, Heap.get?_update_ne _ _ _ _ (Nat.ne_of_lt hx)]
    exact Heap.get?_push_of_some _ e
  have e2 : (h1.push (seqObj "list" us.toArray 0)).get? (s.heap.objs.size + 1) = some (seqObj "list" us.toArray 0) := by rw [← z1]; exact Heap.get?_push_size _ rfl
  have hv2 : TupsAt (h1.push (seqObj "list" us.toArray 0)) us R := hv.keep fun x vs ⟨o, b1, b2, b3⟩ => ⟨o, old x o b1, b2, b3⟩
  show wpAny _ _ _ _ _ { s with heap := ((s.heap.push (seqObj "list" #[] 0)).update s.heap.objs.size (Obj.mapSeq (· ++ us.toArray))).push (seqObj "list" us.toArray 0) }
  rw [← eh1, z1]
  refine wpAny_bind (wpAny_holding (wpAny_call_entry slot_list_sort ⟨_, e2, rfl⟩ entry_list_sort (list_sort_tup (s := { s with heap := h1.push (seqObj "list" us.toArray 0) }) e2 hv2 hne h64 fun p hp => ⟨_, rfl, wpAny_pure ⟨_, rfl, ?g3⟩⟩) (args_list_sort _)))
  case g3 =>
    have := q p hp
    unfold sortedAll at this
    rw [← eh1] at this
    exact this
end
theorem put_rows {R : List (List Int)} {p : Array Nat} (h : Put R p) : (p.toList.map fun i => R.getD i []).Perm R ∧ (p.toList.map fun i => R.getD i []).Pairwise (fun a b => lexL b a = false) := by
  have pl : p.toList.Perm (List.range R.length) := by simpa using Array.perm_iff_toList_perm.mp h.1
  have e : (List.range R.length).map (fun i => R.getD i []) = R := by
    apply List.ext_getElem
    · simp
    · intro i h1 h2
      rw [List.getElem_map, List.getElem_range, List.getD_eq_getElem?_getD, List.getElem?_eq_getElem h2]; rfl
  have hl : p.size = R.length := by rw [← Array.length_toList, pl.length_eq, List.length_range]
  refine ⟨by have := pl.map fun i => R.getD i []; rw [e] at this; exact this, ?_⟩
  rw [List.pairwise_iff_getElem]
  intro i j hi hj hij
  rw [List.length_map, Array.length_toList] at hi hj
  have := h.2 i j (by omega) (by omega)
  rw [Array.getD_eq_getD_getElem?, Array.getElem?_eq_getElem hj, Array.getD_eq_getD_getElem?, Array.getElem?_eq_getElem hi] at this
  rw [List.getElem_map, List.getElem_map, Array.getElem_toList, Array.getElem_toList]
  exact this
def rSortT (K : PySem.W.Frag) : List V → Hp → VK → Prop := fun vs H Q => ∃ (a : Addr) (xs : List V) (R : List (List Int)), vs = [.ref a] ∧ Sq K H a xs ∧ Rows K H xs R ∧ (∀ q ∈ R, q ≠ []) ∧ R.length < 64 ∧
  ∀ (ys : List V) (R' : List (List Int)), R'.Perm R → R'.Pairwise (fun a b => lexL b a = false) → ys.Perm xs → Rows K H ys R' → ∀ l, H l = none → Q (.ref l) (upd H l (.lst ys))
theorem call_sortT {X : Cx} : CallR X (.builtin "sorted") (rSortT X.K) := by
  intro pins s σ H vs us Q I r ⟨a, xs, R, e, hq, hR, hne, h64, q⟩
  subst e
  obtain ⟨u, rfl, ru⟩ := vals1 r
  obtain rfl : u = Value.ref a := ru
  have go : ∀ (its : List Value) (ob : Obj) (n : Nat) (T : String), Vals xs its → s.heap.get? a = some ob → ob.cls = .type T → (T = "list" ∨ T = "tuple") → ob.data = .seq its.toArray n → wpAny (model X.prog X.w) X.A (call (.builtin "sorted") [.ref a]) (EP X pins σ Q) X.xe s := by
    intro its ob n T rv e0 ec eT ed
    have hl := rv.length
    have hv : TupsAt s.heap its R := ⟨by rw [← hl]; exact hR.1, fun i row hr => by
      obtain ⟨b, e1, e2⟩ := hR.2 i row hr
      obtain ⟨u, eu, rU⟩ := rv.get e1
      obtain rfl : u = Value.ref b := rU
      obtain ⟨vs, rvs, pl, _⟩ := I.tuple e2
      exact ⟨b, vs, eu, pl, intsAre_of rvs⟩⟩
    refine sorted_tup e0 ec eT ed hv hne (by rw [← hl, hR.1]; exact h64) fun p hp => ?_
    obtain ⟨f1, f2⟩ := put_rows hp
    have pl : p.toList.Perm (List.range R.length) := by simpa using Array.perm_iff_toList_perm.mp hp.1
    have hb : ∀ i ∈ p.toList, i < R.length := fun i hi => List.mem_range.mp (pl.mem_iff.mp hi)
    obtain ⟨c, he⟩ := sortedAll_at s.heap its (List.toArray (p.toList.map fun i => its.getD i Value.none))
    have ex : (List.range R.length).map (fun i => xs.getD i V.non) = xs := by
      apply List.ext_getElem
      · simp [hR.1]
      · intro i h1 h2
        rw [List.getElem_map, List.getElem_range, List.getD_eq_getElem?_getD, List.getElem?_eq_getElem h2]; rfl
    have py : (p.toList.map fun i => xs.getD i V.non).Perm xs := by have := pl.map fun i => xs.getD i V.non; rw [ex] at this; exact this
    refine ⟨.ref (s.heap.objs.size + 1), _, I.laid (t' := s.toks) (o := .lst (p.toList.map fun i => xs.getD i V.non)) (fun b ob q => sortedAll_old q) (Nat.le_succ _) ?_, rfl, q _ _ f1 f2 py ?_ _ (I.hok.fresh (Nat.le_succ _))⟩
    · refine ⟨?_, p.toList.map fun i => its.getD i Value.none, c, ?_, by simpa using he⟩
      · rw [List.length_map, pl.length_eq, List.length_range]
        exact Nat.le_trans (Nat.le_of_lt h64) (by decide)
      · have all : ∀ l : List Nat, (∀ i ∈ l, i < R.length) → Vals (l.map fun i => xs.getD i V.non) (l.map fun i => its.getD i Value.none) := by
          intro l
          induction l with
          | nil => intro _; exact .nil
          | cons i l ih =>
            intro h
            have hi : i < xs.length := by rw [hR.1]; exact h i (List.mem_cons_self ..)
            obtain ⟨u, eu, rU⟩ := rv.get (List.getElem?_eq_getElem hi)
            refine .cons ?_ (ih fun j hj => h j (List.mem_cons_of_mem _ hj))
            show RelV (xs.getD i V.non) (its.getD i Value.none)
            rw [List.getD_eq_getElem?_getD, List.getD_eq_getElem?_getD, eu, List.getElem?_eq_getElem hi]
            exact rU
        exact all _ hb
    · refine ⟨by rw [List.length_map, List.length_map], fun i row hr => ?_⟩
      rw [List.getElem?_map] at hr
      cases ep : p.toList[i]? with
      | none => rw [ep] at hr; cases hr
      | some k =>
        rw [ep] at hr
        obtain rfl : R.getD k [] = row := Option.some.inj hr
        have hk := hb k (List.mem_of_getElem? ep)
        obtain ⟨b, e1, e2⟩ := hR.2 k R[k] (List.getElem?_eq_getElem hk)
        refine ⟨b, ?_, ?_⟩
        · rw [List.getElem?_map, ep]
          show some (xs.getD k V.non) = _
          rw [List.getD_eq_getElem?_getD, e1]; rfl
        · rw [List.getD_eq_getElem?_getD, List.getElem?_eq_getElem hk]; exact e2
  rcases hq with hq | hq
  · obtain ⟨its, rv, pl, hz⟩ := I.list hq
    obtain ⟨o, ho, hc, n, hd⟩ := pl.isList
    exact go its o n "list" rv ho hc (.inl rfl) hd
  · obtain ⟨its, rv, pl, hz⟩ := I.tuple hq
    obtain ⟨o, ho, hc, n, hd⟩ := pl
    exact go its o n "tuple" rv ho hc (.inr rfl) hd
theorem call_sortTK {X : Cx} {K : PySem.W.Frag} (hK : X.K = K) : CallR X (.builtin "sorted") (rSortT K) := by subst hK; exact call_sortT
def rSortB (K : PySem.W.Frag) : List V → Hp → VK → Prop := fun vs H Q => rSorted K vs H Q ∨ rSortT K vs H Q
theorem call_sortBK {X : Cx} {K : PySem.W.Frag} (hK : X.K = K) : CallR X (.builtin "sorted") (rSortB K) := fun pins s σ H xs us Q I r h => h.elim (call_sortedK hK pins s σ H xs us Q I r) (call_sortTK hK pins s σ H xs us Q I r)
end L2
namespace L2
open PySem PyProof.Rows
theorem eqD_rows (r q : List Int) : eqD (.tup (r.map Dt.int)) (.tup (q.map Dt.int)) = decide (r = q) := by
  by_cases h : r = q
  · subst h; rw [eqD_refl, decide_eq_true rfl]
  · rw [decide_eq_false h]
    cases e : eqD (.tup (r.map Dt.int)) (.tup (q.map Dt.int)) with
    | false => rfl
    | true => rw [eqD] at e; exact absurd (eqL_ints e) h
def rInT (K : PySem.W.Frag) (neg : Bool) : R2 := fun x y H Q => ∃ (b p : Addr) (r : List Int) (xs : List V) (R : List (List Int)), x = .ref b ∧ y = .ref p ∧ SqT K H b (r.map V.int) ∧ Sq K H p xs ∧ Rows K H xs R ∧ Q (.bl (if neg then !decide (r ∈ R) else decide (r ∈ R))) H
section
variable {X : Cx}
theorem mem_rows {pins : List (Addr × Obj)} {σ : St} {H : Hp} {s : Shared} {b : Addr} {r : List Int} {xs : List V} {R : List (List Int)} {its : List Value} (hu : X.A.units + 103 < cLine) (I : Inv X pins σ H s) (hb : SqT X.K H b (r.map V.int)) (hR : Rows X.K H xs R) (rv : Vals xs its) :
    ∃ e : Value → Bool, (∀ u, u ∈ its → SeqAt.EqAt X.A.in1 s u (.ref b) (e u)) ∧ its.any e = decide (r ∈ R) := by
  classical
  have hl := rv.length
  have row_of : ∀ i (hi : i < its.length), ∃ c, ∃ hR' : i < R.length, its[i] = .ref c ∧ SqT X.K H c (R[i].map V.int) := fun i hi => by
    have hR' : i < R.length := by rw [← hR.1, hl]; exact hi
    obtain ⟨c, e1, e2⟩ := hR.2 i R[i] (List.getElem?_eq_getElem hR')
    obtain ⟨u, eu, rU⟩ := rv.get e1
    rw [List.getElem?_eq_getElem hi] at eu
    cases eu
    exact ⟨c, hR', rU, e2⟩
  refine ⟨fun u => decide (∃ c, u = .ref c ∧ SqT X.K H c (r.map V.int)), fun u hu' => ?_, ?_⟩
  · obtain ⟨i, hi, rfl⟩ := List.getElem_of_mem hu'
    obtain ⟨c, hR', e1, e2⟩ := row_of i hi
    rw [e1]
    have sh : ∀ (q : List Int) (a : Addr), SqT X.K H a (q.map V.int) → Sh X.K H (.tup (q.map Dt.int)) (.ref a) := fun q a h => ⟨a, _, rfl, h, ShL.ints q⟩
    have g := (I.eq_sh 100 X.A.in1 (.tup (R[i].map Dt.int)) (.tup (r.map Dt.int)) (.ref c) (.ref b) (.ref c) (.ref b) (by rw [dep, dep_ints]; decide) (by show X.A.units + 1 + 100 < cLine; omega) rfl rfl (sh _ _ e2) (sh _ _ hb)).2
    rw [eqD_rows] at g
    have ee : decide (R[i] = r) = decide (∃ c', Value.ref c = .ref c' ∧ SqT X.K H c' (r.map V.int)) := by
      by_cases h : R[i] = r
      · rw [decide_eq_true h, decide_eq_true ⟨c, rfl, h ▸ e2⟩]
      · rw [decide_eq_false h, decide_eq_false]
        rintro ⟨c', e, h'⟩
        cases e
        have := I.tuple_inj e2 h'
        exact h ((List.map_inj_right fun a b z => V.int.inj z).mp this)
    show SeqAt.EqAt X.A.in1 s (Value.ref c) (Value.ref b) (decide (∃ c', Value.ref c = .ref c' ∧ SqT X.K H c' (r.map V.int)))
    rw [← ee]
    exact g
  · by_cases h : r ∈ R
    · rw [decide_eq_true h]
      obtain ⟨i, hi, e⟩ := List.getElem_of_mem h
      have hi' : i < its.length := by rw [← hl, hR.1]; exact hi
      obtain ⟨c, _, e1, e2⟩ := row_of i hi'
      rw [List.any_eq_true]
      exact ⟨its[i], List.getElem_mem _, by rw [e1]; exact decide_eq_true ⟨c, rfl, e ▸ e2⟩⟩
    · rw [decide_eq_false h, List.any_eq_false]
      intro u hu'
      obtain ⟨i, hi, rfl⟩ := List.getElem_of_mem hu'
      obtain ⟨c, hR', e1, e2⟩ := row_of i hi
      rw [decide_eq_true_iff]
      rintro ⟨c', e, h'⟩
      rw [e1] at e
      cases e
      have := I.tuple_inj e2 h'
      exact h ((List.map_inj_right fun a b z => V.int.inj z).mp this ▸ List.getElem_mem hR')
theorem op_inT (hu : X.A.units + 103 < cLine) : OpR X (compareOp .In) (rInT X.K false) := by
  intro pins s σ H x y v u Q I rx ry ⟨b, p, r, xs, R, e1, e2, hb, hq, hR, q⟩
  subst e1 e2
  cases rx
  cases ry
  rcases hq with hq | hq
  · obtain ⟨its, rv, pl, _⟩ := I.list hq
    obtain ⟨e, h1, h2⟩ := mem_rows hu I hb hR rv
    refine SeqAt.in_listAt e pl.isList (fun w hw => h1 w (by simpa using hw)) ⟨.bl _, H, I, rfl, ?_⟩
    rw [show its.toArray.any e = its.any e by simp, h2]
    exact q
  · obtain ⟨its, rv, pl, _⟩ := I.tuple hq
    obtain ⟨e, h1, h2⟩ := mem_rows hu I hb hR rv
    refine SeqAt.in_tupleAt e pl (fun w hw => h1 w (by simpa using hw)) ⟨.bl _, H, I, rfl, ?_⟩
    rw [show its.toArray.any e = its.any e by simp, h2]
    exact q
theorem op_notInT (hu : X.A.units + 103 < cLine) : OpR X (compareOp .NotIn) (rInT X.K true) := by
  intro pins s σ H x y v u Q I rx ry ⟨b, p, r, xs, R, e1, e2, hb, hq, hR, q⟩
  subst e1 e2
  cases rx
  cases ry
  rcases hq with hq | hq
  · obtain ⟨its, rv, pl, _⟩ := I.list hq
    obtain ⟨e, h1, h2⟩ := mem_rows hu I hb hR rv
    refine SeqAt.notIn_listAt e pl.isList (fun w hw => h1 w (by simpa using hw)) ⟨.bl _, H, I, rfl, ?_⟩
    rw [show its.toArray.any e = its.any e by simp, h2]
    exact q
  · obtain ⟨its, rv, pl, _⟩ := I.tuple hq
    obtain ⟨e, h1, h2⟩ := mem_rows hu I hb hR rv
    refine SeqAt.notIn_tupleAt e pl (fun w hw => h1 w (by simpa using hw)) ⟨.bl _, H, I, rfl, ?_⟩
    rw [show its.toArray.any e = its.any e by simp, h2]
    exact q
end
def rInB (K : PySem.W.Frag) (neg : Bool) : R2 := fun x y H Q => rIn K neg x y H Q ∨ rInT K neg x y H Q
theorem op_inBK {X : Cx} {K : PySem.W.Frag} {k : Nat} (hK : X.K = K) (hr : Room k X.A) : OpR X (compareOp .In) (rInB K false) := by
  subst hK
  exact OpR.or op_in_seq (op_inT (by have := hr.un; omega))
theorem op_notInBK {X : Cx} {K : PySem.W.Frag} {k : Nat} (hK : X.K = K) (hr : Room k X.A) : OpR X (compareOp .NotIn) (rInB K true) := by
  subst hK
  exact OpR.or op_notIn_seq (op_notInT (by have := hr.un; omega))
end L2
namespace L2
open PySem PyProof.Rows
theorem eqD_rowsL (r q : List Int) : eqD (.lst (r.map Dt.int)) (.lst (q.map Dt.int)) = decide (r = q) := by
  by_cases h : r = q
  · subst h; rw [eqD_refl, decide_eq_true rfl]
  · rw [decide_eq_false h]
    cases e : eqD (.lst (r.map Dt.int)) (.lst (q.map Dt.int)) with
    | false => rfl
    | true => rw [eqD] at e; exact absurd (eqL_ints e) h
def RowsL (K : PySem.W.Frag) (H : Hp) (xs : List V) (T : List (List Int)) : Prop := xs.length = T.length ∧ ∀ (i : Nat) (row : List Int), T[i]? = some row → ∃ b, xs[i]? = some (.ref b) ∧ SqL K H b (row.map V.int)
def rInL (K : PySem.W.Frag) (neg : Bool) : R2 := fun x y H Q => ∃ (b p : Addr) (r : List Int) (xs : List V) (R : List (List Int)), x = .ref b ∧ y = .ref p ∧ SqL K H b (r.map V.int) ∧ Sq K H p xs ∧ RowsL K H xs R ∧ Q (.bl (if neg then !decide (r ∈ R) else decide (r ∈ R))) H
section
variable {X : Cx}
theorem mem_rowsL {pins : List (Addr × Obj)} {σ : St} {H : Hp} {s : Shared} {b : Addr} {r : List Int} {xs : List V} {R : List (List Int)} {its : List Value} (hu : X.A.units + 103 < cLine) (I : Inv X pins σ H s) (hb : SqL X.K H b (r.map V.int)) (hR : RowsL X.K H xs R) (rv : Vals xs its) :
    ∃ e : Value → Bool, (∀ u, u ∈ its → SeqAt.EqAt X.A.in1 s u (.ref b) (e u)) ∧ its.any e = decide (r ∈ R) := by
  classical
  have hl := rv.length
  have row_of : ∀ i (hi : i < its.length), ∃ c, ∃ hR' : i < R.length, its[i] = .ref c ∧ SqL X.K H c (R[i].map V.int) := fun i hi => by
    have hR' : i < R.length := by rw [← hR.1, hl]; exact hi
    obtain ⟨c, e1, e2⟩ := hR.2 i R[i] (List.getElem?_eq_getElem hR')
    obtain ⟨u, eu, rU⟩ := rv.get e1
    rw [List.getElem?_eq_getElem hi] at eu
    cases eu
    exact ⟨c, hR', rU, e2⟩
  refine ⟨fun u => decide (∃ c, u = .ref c ∧ SqL X.K H c (r.map V.int)), fun u hu' => ?_, ?_⟩
  · obtain ⟨i, hi, rfl⟩ := List.getElem_of_mem hu'
    obtain ⟨c, hR', e1, e2⟩ := row_of i hi
    rw [e1]
    have sh : ∀ (q : List Int) (a : Addr), SqL X.K H a (q.map V.int) → Sh X.K H (.lst (q.map Dt.int)) (.ref a) := fun q a h => ⟨a, _, rfl, h, ShL.ints q⟩
    have g := (I.eq_sh 100 X.A.in1 (.lst (R[i].map Dt.int)) (.lst (r.map Dt.int)) (.ref c) (.ref b) (.ref c) (.ref b) (by rw [dep, dep_ints]; decide) (by show X.A.units + 1 + 100 < cLine; omega) rfl rfl (sh _ _ e2) (sh _ _ hb)).2
    rw [eqD_rowsL] at g
    have ee : decide (R[i] = r) = decide (∃ c', Value.ref c = .ref c' ∧ SqL X.K H c' (r.map V.int)) := by
      by_cases h : R[i] = r
      · rw [decide_eq_true h, decide_eq_true ⟨c, rfl, h ▸ e2⟩]
      · rw [decide_eq_false h, decide_eq_false]
        rintro ⟨c', e, h'⟩
        cases e
        have := I.list_inj e2 h'
        exact h ((List.map_inj_right fun a b z => V.int.inj z).mp this)
    show SeqAt.EqAt X.A.in1 s (Value.ref c) (Value.ref b) (decide (∃ c', Value.ref c = .ref c' ∧ SqL X.K H c' (r.map V.int)))
    rw [← ee]
    exact g
  · by_cases h : r ∈ R
    · rw [decide_eq_true h]
      obtain ⟨i, hi, e⟩ := List.getElem_of_mem h
      have hi' : i < its.length := by rw [← hl, hR.1]; exact hi
      obtain ⟨c, _, e1, e2⟩ := row_of i hi'
      rw [List.any_eq_true]
      exact ⟨its[i], List.getElem_mem _, by rw [e1]; exact decide_eq_true ⟨c, rfl, e ▸ e2⟩⟩
    · rw [decide_eq_false h, List.any_eq_false]
      intro u hu'
      obtain ⟨i, hi, rfl⟩ := List.getElem_of_mem hu'
      obtain ⟨c, hR', e1, e2⟩ := row_of i hi
      rw [decide_eq_true_iff]
      rintro ⟨c', e, h'⟩
      rw [e1] at e
      cases e
      have := I.list_inj e2 h'
      exact h ((List.map_inj_right fun a b z => V.int.inj z).mp this ▸ List.getElem_mem hR')
theorem op_inL (hu : X.A.units + 103 < cLine) : OpR X (compareOp .In) (rInL X.K false) := by
  intro pins s σ H x y v u Q I rx ry ⟨b, p, r, xs, R, e1, e2, hb, hq, hR, q⟩
  subst e1 e2
  cases rx
  cases ry
  rcases hq with hq | hq
  · obtain ⟨its, rv, pl, _⟩ := I.list hq
    obtain ⟨e, h1, h2⟩ := mem_rowsL hu I hb hR rv
    refine SeqAt.in_listAt e pl.isList (fun w hw => h1 w (by simpa using hw)) ⟨.bl _, H, I, rfl, ?_⟩
    rw [show its.toArray.any e = its.any e by simp, h2]
    exact q
  · obtain ⟨its, rv, pl, _⟩ := I.tuple hq
    obtain ⟨e, h1, h2⟩ := mem_rowsL hu I hb hR rv
    refine SeqAt.in_tupleAt e pl (fun w hw => h1 w (by simpa using hw)) ⟨.bl _, H, I, rfl, ?_⟩
    rw [show its.toArray.any e = its.any e by simp, h2]
    exact q
theorem op_notInL (hu : X.A.units + 103 < cLine) : OpR X (compareOp .NotIn) (rInL X.K true) := by
  intro pins s σ H x y v u Q I rx ry ⟨b, p, r, xs, R, e1, e2, hb, hq, hR, q⟩
  subst e1 e2
  cases rx
  cases ry
  rcases hq with hq | hq
  · obtain ⟨its, rv, pl, _⟩ := I.list hq
    obtain ⟨e, h1, h2⟩ := mem_rowsL hu I hb hR rv
    refine SeqAt.notIn_listAt e pl.isList (fun w hw => h1 w (by simpa using hw)) ⟨.bl _, H, I, rfl, ?_⟩
    rw [show its.toArray.any e = its.any e by simp, h2]
    exact q
  · obtain ⟨its, rv, pl, _⟩ := I.tuple hq
    obtain ⟨e, h1, h2⟩ := mem_rowsL hu I hb hR rv
    refine SeqAt.notIn_tupleAt e pl (fun w hw => h1 w (by simpa using hw)) ⟨.bl _, H, I, rfl, ?_⟩
    rw [show its.toArray.any e = its.any e by simp, h2]
    exact q
end
def rInC (K : PySem.W.Frag) (neg : Bool) : R2 := fun x y H Q => rInB K neg x y H Q ∨ rInL K neg x y H Q
theorem op_inCK {X : Cx} {K : PySem.W.Frag} {k : Nat} (hK : X.K = K) (hr : Room k X.A) : OpR X (compareOp .In) (rInC K false) := OpR.or (op_inBK hK hr) (by subst hK; exact op_inL (by have := hr.un; omega))
theorem op_notInCK {X : Cx} {K : PySem.W.Frag} {k : Nat} (hK : X.K = K) (hr : Room k X.A) : OpR X (compareOp .NotIn) (rInC K true) := OpR.or (op_notInBK hK hr) (by subst hK; exact op_notInL (by have := hr.un; omega))
end L2
namespace L2
open PySem PySem.Spec PyProof.Rows
section
variable {prog : Program} {w : World} {A : Around} {E : Value → Shared → Prop} {s : Shared} {d : Addr} {o : Obj} {es : Array DictEntry} {ep : Nat}
end
end L2
namespace L2
open PySem PySem.Spec PyProof.Rows
end L2
namespace L2
open PySem PySem.Spec PyProof.Rows
section
variable {prog : Program} {w : World} {K : Type} [DecidableEq K] {knd : HeapKind prog w K} {A : Around} {E : Value → Shared → Prop} {s : Shared} {d a : Addr} {xs : List (K × Addr × Value)} {k : K}
end
end L2
namespace L2
open PySem PySem.Spec PyProof.Rows
section
variable {X : Cx} {pins : List (Addr × Obj)} {σ : St} {H : Hp} {s : Shared} {A : Around} {E : Value → Shared → Prop} {a b : Addr} {kvs : List (List Key × V)} {k : List Key}
end
section
variable {X : Cx} {o e f : Expr} {td ty tx : TE} {apos cpos : Pos}
end
end L2
namespace L2
open PySem PySem.Spec PyProof.Rows
end L2
namespace L2
open PySem PySem.Spec PyProof.Rows
section
variable {prog : Program} {w : World} {A : Around} {E : Value → Shared → Prop} {s : Shared} {d : Addr} {o : Obj} {es : Array DictEntry} {ep : Nat}
end
end L2
namespace L2
open PySem PySem.Spec PyProof.Rows
section
variable {prog : Program} {w : World} {A : Around} {E : Value → Shared → Prop} {s : Shared}
end
section
variable {X : Cx} {o i value : Expr} {pos pos' : Pos} {td ty tv : TE}
end
end L2
namespace L2
open PySem PySem.Spec PyProof.Rows
end L2
namespace L2
open PySem PySem.Spec PyProof.Rows
section
variable {X : Cx}
def CMulG (i j : Int) : Prop := i.natAbs < 2 ^ 8000 ∧ j.natAbs < 2 ^ 8000
theorem bits_le {k : Int} (h : k.natAbs < 2 ^ 8000) : Builtin.Int.intBits k ≤ 8000 := by
  unfold Builtin.Int.intBits
  split
  · exact Nat.zero_le _
  · rename_i c
    have hk : k.natAbs ≠ 0 := fun e => c (by simp [Int.natAbs_eq_zero.mp e])
    have := (Nat.log2_lt hk).mpr h
    omega
theorem CMulG.ok {i j : Int} (h : CMulG i j) : IntMulOk i j := by
  unfold IntMulOk Builtin.Int.intTooBig
  have h1 := bits_le h.1
  have h2 := bits_le h.2
  have : ¬ (((Builtin.Int.intBits i + Builtin.Int.intBits j : Nat) : Int) > (bitsLine : Int)) := by
    have : (16000 : Int) ≤ (bitsLine : Int) := by decide
    omega
  intro e
  rw [Bool.and_eq_true] at e
  have := of_decide_eq_true e.2
  omega
end
end L2
namespace L2
open PySem PySem.Spec PyProof.Rows
def subsN : Nat → List (List Nat)
  | 0 => [[]]
  | n + 1 => subsN n ++ (subsN n).map (· ++ [n])
def subs8 : List (List Nat) := subsN 8
theorem mem_subsN : ∀ (n : Nat) (ks : List Nat), ks.Pairwise (· < ·) → (∀ k ∈ ks, k < n) → ks ∈ subsN n
  | 0, ks, _, h => by
    cases ks with
    | nil => exact List.mem_singleton.mpr rfl
    | cons k ks => exact absurd (h k (List.mem_cons_self ..)) (Nat.not_lt_zero _)
  | n + 1, ks, hp, h => by
    rw [subsN, List.mem_append, List.mem_map]
    rcases List.eq_nil_or_concat ks with rfl | ⟨l, x, rfl⟩
    · exact .inl (mem_subsN n [] .nil fun k z => by cases z)
    · rw [List.concat_eq_append] at hp h ⊢
      have hl := (List.pairwise_append.mp hp)
      have hx : x < n + 1 := h x (List.mem_append_right _ (List.mem_singleton.mpr rfl))
      by_cases c : x = n
      · subst c
        exact .inr ⟨l, mem_subsN _ l hl.1 fun k hk => hl.2.2 k hk _ (List.mem_singleton.mpr rfl), rfl⟩
      · refine .inl (mem_subsN n _ hp fun k hk => ?_)
        rcases List.mem_append.mp hk with hk | hk
        · have := hl.2.2 k hk x (List.mem_singleton.mpr rfl); omega
        · rw [List.mem_singleton.mp hk]; omega
def smT (led : Bool) (ks : List Nat) : SetTable := { mask := if ks.length ≤ 4 then 7 else 31, place := ks.toArray, dummies := #[], finger := 0, led := led, moves := if ks.length ≤ 4 then 0 else 1, plain := true }
def smIn (ks : List Nat) (k : Nat) : List Nat := ks.take (SetTable.below ks.toArray k) ++ k :: ks.drop (SetTable.below ks.toArray k)
def smP (led : Bool) (ks : List Nat) (k : Nat) : SetTable := { smT led ks with place := (smIn ks k).toArray }
def smSo (ks : List Nat) : Bool := decide (ks.Pairwise (· < ·)) && ks.all (fun k => decide (k < 8)) && decide (ks.length ≤ 8)
def smOk (led : Bool) (ks : List Nat) (k : Nat) : Bool := ks.contains k || (decide ((smT led ks).freeSlot (Int.ofNat k) = some (k, false)) && decide ((smT led ks).put k = (smP led ks k, SetTable.below ks.toArray k)) && (smP led ks k).fits (ks.length + 1)
  && smSo (smIn ks k) && decide ((smP led ks k).tooFull = (ks.length == 4)) && (if ks.length = 4 then decide ((smP led ks k).relaid ((smIn ks k).map Int.ofNat).toArray (SetTable.grown 5) = some (smT led (smIn ks k), #[0, 1, 2, 3, 4])) else decide (smP led ks k = smT led (smIn ks k))))
theorem sm_all : (subs8.all fun ks => (List.range 8).all fun k => smOk true ks k && smOk false ks k) = true := by decide +kernel
theorem sm_ok {led : Bool} {ks : List Nat} (h : ks ∈ subs8) {k : Nat} (hk : k < 8) (hn : k ∉ ks) : (smT led ks).freeSlot (Int.ofNat k) = some (k, false) ∧ (smT led ks).put k = (smP led ks k, SetTable.below ks.toArray k) ∧ (smP led ks k).fits (ks.length + 1) = true ∧ smIn ks k ∈ subs8 ∧ (smP led ks k).tooFull = (ks.length == 4) ∧
    (ks.length = 4 → (smP led ks k).relaid ((smIn ks k).map Int.ofNat).toArray (SetTable.grown 5) = some (smT led (smIn ks k), #[0, 1, 2, 3, 4])) ∧ (ks.length ≠ 4 → smP led ks k = smT led (smIn ks k)) := by
  have a := List.all_eq_true.mp (List.all_eq_true.mp sm_all ks h) k (List.mem_range.mpr hk)
  have b : smOk led ks k = true := by
    rw [Bool.and_eq_true] at a
    cases led
    · exact a.2
    · exact a.1
  unfold smOk at b
  have c : ks.contains k = false := by rw [← Bool.not_eq_true]; intro z; exact hn (List.contains_iff_mem.mp z)
  rw [c, Bool.false_or] at b
  simp only [Bool.and_eq_true, decide_eq_true_eq] at b
  obtain ⟨⟨⟨⟨⟨b1, b2⟩, b3⟩, b4⟩, b5⟩, b6⟩ := b
  refine ⟨b1, b2, b3, ?_, b5, fun z => ?_, fun z => ?_⟩
  · unfold smSo at b4
    simp only [Bool.and_eq_true, decide_eq_true_eq, List.all_eq_true] at b4
    exact mem_subsN 8 _ b4.1.1 b4.1.2
  · rw [if_pos z] at b6; exact of_decide_eq_true b6
  · rw [if_neg z] at b6; exact of_decide_eq_true b6
def smNx (ks : List Nat) : Bool := decide (SetTable.below ks.toArray 0 = 0) && (List.range ks.length).all fun i => decide (SetTable.below ks.toArray (ks.getD i 0 + 1) = i + 1)
theorem sm_nx : subs8.all smNx = true := by decide +kernel
theorem sm_next {ks : List Nat} (h : ks ∈ subs8) : SetTable.below ks.toArray 0 = 0 ∧ ∀ i < ks.length, SetTable.below ks.toArray (ks.getD i 0 + 1) = i + 1 := by
  have a := List.all_eq_true.mp sm_nx ks h
  unfold smNx at a
  rw [Bool.and_eq_true, List.all_eq_true] at a
  exact ⟨of_decide_eq_true a.1, fun i hi => of_decide_eq_true (a.2 i (List.mem_range.mpr hi))⟩
theorem sm_so : subs8.all smSo = true := by decide +kernel
theorem sm_sort {ks : List Nat} (h : ks ∈ subs8) : ks.Pairwise (· < ·) ∧ (∀ k ∈ ks, k < 8) ∧ ks.length ≤ 8 := by
  have a := List.all_eq_true.mp sm_so ks h
  unfold smSo at a
  simp only [Bool.and_eq_true, decide_eq_true_eq, List.all_eq_true] at a
  exact ⟨a.1.1, fun k hk => a.1.2 k hk, a.2⟩
theorem smIn_perm (ks : List Nat) (k : Nat) : (smIn ks k).Perm (k :: ks) := by
  unfold smIn
  refine List.perm_middle.trans ?_
  rw [List.take_append_drop]
theorem erase_perm {α : Type} : ∀ {l : List α} {i : Nat} (h : i < l.length), ([l[i]] ++ l.eraseIdx i).Perm l
  | x :: l, 0, _ => .refl _
  | x :: l, i + 1, h => by
    have h' : i < l.length := by simpa using h
    have := erase_perm h'
    rw [List.eraseIdx_cons_succ, List.getElem_cons_succ]
    exact (List.Perm.swap _ _ _).trans (List.Perm.cons x this)
theorem pick_go {α : Type} (f : Nat → Nat) : ∀ (n k : Nat) (l : List α) (o : Array α), l.length = n → (pickOrder.go f n k l o).toList.Perm (o.toList ++ l)
  | 0, _, [], o, _ => by rw [pickOrder.go, List.append_nil]
  | n + 1, k, l, o, h => by
    have hl : f k % l.length < l.length := Nat.mod_lt _ (by omega)
    rw [pickOrder.go, List.getElem?_eq_getElem hl]
    refine (pick_go f n (k + 1) _ _ (by rw [List.length_eraseIdx, if_pos hl]; omega)).trans ?_
    rw [Array.toList_push, List.append_assoc]
    exact List.Perm.append_left _ (erase_perm hl)
theorem pick_perm {α : Type} (f : Nat → Nat) (xs : Array α) : (pickOrder f xs).toList.Perm xs.toList := by
  have := pick_go f xs.size 0 xs.toList #[] (Array.length_toList ..)
  simpa [pickOrder] using this
end L2
namespace L2
open PySem PySem.Spec PyProof.Rows
def byT (w : World) : Bool := w.params.followText "set-order"
abbrev smO (w : World) (es : Array (Int × Value)) (ep : Nat) (ks : List Nat) : Obj := { cls := .type "set", dict := none, data := .set es ep (smT (!byT w) ks) }
def SmE (es : Array (Int × Value)) (ks : List Nat) : Prop := ks ∈ subs8 ∧ es.toList.map (·.1) = ks.map Int.ofNat ∧ ∀ e ∈ es.toList, ∃ tk, e.2 = .int e.1 tk
def SmAt (w : World) (a : Addr) (ks : List Nat) (h : Heap) : Prop := ∃ es ep, h.get? a = some (smO w es ep ks) ∧ SmE es ks
theorem smT_fits {ks : List Nat} (h : ks ∈ subs8) (led : Bool) : (smT led ks).fits ks.length = true := by
  have := (sm_sort h).2.2
  simp only [smT, SetTable.fits, SetTable.fill, List.size_toArray, List.length_nil, Nat.add_zero, Bool.and_eq_true, beq_self_eq_true, true_and, decide_eq_true_eq]
  split <;> omega
theorem SmE.size {es : Array (Int × Value)} {ks : List Nat} (h : SmE es ks) : es.size = ks.length := by
  have := congrArg List.length h.2.1
  simpa using this
theorem hash_small : ∀ k : Nat, k < 8 → hashInt (Int.ofNat k) = Int.ofNat k := by decide +kernel
section
variable {prog : Program} {w : World} {A : Around} {E : Value → Shared → Prop} {s : Shared}
theorem SmE.elems {es : Array (Int × Value)} {ks : List Nat} (h : SmE es ks) : ElemsOf (intKind prog w) es.toList := by
  intro e he
  obtain ⟨tk, z⟩ := h.2.2 e he
  have m : e.1 ∈ ks.map Int.ofNat := by rw [← h.2.1]; exact List.mem_map_of_mem he
  obtain ⟨k, hk, ek⟩ := List.mem_map.mp m
  refine ⟨⟨e.1, by rw [z]; exact intKind_is _ _ _ _, ?_⟩, by rw [z]; rfl⟩
  show e.1 = hashInt e.1
  rw [← ek, hash_small k ((sm_sort h.1).2.1 k hk)]
theorem SmE.mem {es : Array (Int × Value)} {ks : List Nat} (h : SmE es ks) (k : Nat) : k ∈ ks ↔ ∃ e ∈ es.toList, (intKind prog w).is (Int.ofNat k) e.2 = true := by
  constructor
  · intro hk
    have m : Int.ofNat k ∈ es.toList.map (·.1) := by rw [h.2.1]; exact List.mem_map_of_mem hk
    obtain ⟨e, he, ee⟩ := List.mem_map.mp m
    obtain ⟨tk, z⟩ := h.2.2 e he
    exact ⟨e, he, by rw [z, ee]; exact intKind_is _ _ _ _⟩
  · rintro ⟨e, he, hi⟩
    obtain ⟨tk, z⟩ := h.2.2 e he
    have q : Int.ofNat k = e.1 := (intKind prog w).inj e.2 _ _ hi (by rw [z]; exact intKind_is _ _ _ _)
    have m : e.1 ∈ ks.map Int.ofNat := by rw [← h.2.1]; exact List.mem_map_of_mem he
    obtain ⟨j, hj, ej⟩ := List.mem_map.mp m
    rw [← q] at ej
    rw [← Int.ofNat.inj ej]; exact hj
theorem SmE.put {es : Array (Int × Value)} {ks : List Nat} (h : SmE es ks) {k : Nat} (hk : k < 8) (hn : k ∉ ks) (t : Tok) : SmE (SetTable.insertAt es (SetTable.below ks.toArray k) (Int.ofNat k, .int (Int.ofNat k) t)) (smIn ks k) := by
  refine ⟨(sm_ok (led := true) h.1 hk hn).2.2.2.1, ?_, ?_⟩
  · rw [SetTable.toList_insertAt, List.map_append, List.map_cons, List.map_take, List.map_drop, h.2.1]
    unfold smIn
    rw [List.map_append, List.map_cons, List.map_take, List.map_drop]
  · intro e he
    rw [(SetTable.insertAt_perm es _ _).mem_iff, Array.toList_push, List.mem_append, List.mem_singleton] at he
    rcases he with he | rfl
    · exact h.2.2 e he
    · exact ⟨t, rfl⟩
theorem lay_sm {es : Array (Int × Value)} {ks : List Nat} (h : SmE es ks) {k : Nat} (hk : k < 8) (hn : k ∉ ks) (led : Bool) (x : Value) : layNew (smT led ks) es (Int.ofNat k) x = (SetTable.insertAt es (SetTable.below ks.toArray k) (Int.ofNat k, x), smP led ks k, false, false) := by
  obtain ⟨a1, a2, a3, _⟩ := sm_ok (led := led) h.1 hk hn
  have sz : (SetTable.insertAt es (SetTable.below ks.toArray k) (Int.ofNat k, x)).size = ks.length + 1 := by
    rw [← Array.length_toList, (SetTable.insertAt_perm es _ _).length_eq, Array.length_toList, Array.size_push, h.size]
  unfold layNew
  rw [a1]
  dsimp only
  rw [a2]
  dsimp only
  rw [sz]
  unfold SetTable.orStandIn
  rw [a3, if_pos rfl]
  rfl
theorem relay_sm {es : Array (Int × Value)} {ks : List Nat} {k : Nat} (h : SmE es (smIn ks k)) (h0 : ks ∈ subs8) (hk : k < 8) (hn : k ∉ ks) (h4 : ks.length = 4) (led : Bool) : relayAll (smP led ks k) es (SetTable.grown es.size) = (es, smT led (smIn ks k), false) := by
  obtain ⟨_, _, _, b1, _, a6, _⟩ := sm_ok (led := led) h0 hk hn
  have l5 : (smIn ks k).length = 5 := by rw [(smIn_perm ks k).length_eq, List.length_cons, h4]
  have sz : es.size = 5 := by rw [h.size, l5]
  have eh : es.map (·.1) = ((smIn ks k).map Int.ofNat).toArray := by
    apply Array.toList_inj.mp
    rw [Array.toList_map, h.2.1]
  have ef : (#[0, 1, 2, 3, 4] : Array Nat).filterMap (es[·]?) = es := by
    apply Array.toList_inj.mp
    rw [Array.toList_filterMap]
    have := filterMap_getElem?_range es
    rw [sz] at this
    exact this
  unfold relayAll
  rw [eh, sz, a6 h4]
  dsimp only
  rw [ef, sz]
  have c1 : coversAll #[0, 1, 2, 3, 4] 5 = true := by decide
  have c2 : (smT led (smIn ks k)).fits 5 = true := by rw [← l5]; exact smT_fits b1 led
  rw [c1, c2]
  rfl
def smAdd (ks : List Nat) (k : Nat) : List Nat := if k ∈ ks then ks else smIn ks k
theorem get_put {h : Heap} {a : Addr} {es es' : Array (Int × Value)} {ep : Nat} {ks : List Nat} {t t' : SetTable} {o : Obj} (ho : h.get? a = some o) (ed : o.data = .set es ep t) : (h.update a (Obj.putSet es' t')).get? a = some { o with data := .set es' (ep + 1) t' } := by
  have := Heap.get?_update_self (Obj.putSet es' t') ho (by rw [putSet_of es' t' ed]; rfl)
  rw [putSet_of es' t' ed] at this
  exact this
theorem add_sm {a : Addr} {ks : List Nat} {k : Nat} {t : Tok} {Q : Bool → Shared → Prop} (hS : SmAt w a ks s.heap) (hk : k < 8)
    (h : ∀ h' b, Heap.SameBut a s.heap h' → SmAt w a (smAdd ks k) h' → Q b { s with heap := h' }) : wpAny (model prog w) A (setAddHashed a (.int (Int.ofNat k) t) (hashInt (Int.ofNat k))) Q E s := by
  obtain ⟨es, ep, ho, hE⟩ := hS
  have hel : ElemsOf (intKind prog w) es.toList := hE.elems
  have l8 := (sm_sort hE.1).2.2
  have hf : (smT (!byT w) ks).fits es.size = true := by rw [hE.size]; exact smT_fits hE.1 _
  have hb : es.size < scanBound := by rw [hE.size]; unfold scanBound; omega
  have hkey := intKind_is prog w (Int.ofNat k) t
  unfold setAddHashed setAddHashedIn
  refine wpAny_holding (wpAny_bind (wpAny_setState_of ho rfl hf ?_))
  dsimp only
  rw [byScan_of (knd := intKind prog w) rfl hb hel]
  simp only [↓reduceIte]
  unfold setAddByScan
  refine wpAny_bind ?_
  refine wpAny_bind (wpAny_rule ?_)
  refine wpAny_bind (wpAny_setScan_of (knd := intKind prog w) hkey ho rfl hf hel ?_)
  cases hr : List.findIdx? (fun e => (intKind prog w).is (Int.ofNat k) e.2) es.toList with
  | some j =>
    dsimp only
    obtain ⟨hj, hpj, _⟩ := List.findIdx?_eq_some_iff_getElem.mp hr
    have hin : k ∈ ks := (hE.mem (prog := prog) (w := w) k).mpr ⟨_, List.getElem_mem hj, hpj⟩
    refine wpAny_pure (wpAny_pure ?_)
    have e : s = { s with heap := s.heap } := by cases s; rfl
    rw [e]
    exact h s.heap _ (Heap.SameBut.refl a s.heap) ⟨es, ep, by rw [smAdd, if_pos hin]; exact ho, by rw [smAdd, if_pos hin]; exact hE⟩
  | none =>
    dsimp only
    have hn : k ∉ ks := fun z => by
      obtain ⟨e, he, hp⟩ := (hE.mem (prog := prog) (w := w) k).mp z
      have := List.findIdx?_eq_none_iff.mp hr e he
      rw [hp] at this; exact Bool.noConfusion this
    rw [hash_small k hk, lay_sm hE hk hn]
    dsimp only
    refine wpAny_bind (wpAny_pure ?_)
    have hE1 := hE.put hk hn t
    generalize he1 : SetTable.insertAt es (SetTable.below ks.toArray k) (Int.ofNat k, Value.int (Int.ofNat k) t) = es1 at hE1 ⊢
    have l5 : (smIn ks k).length = ks.length + 1 := by rw [(smIn_perm ks k).length_eq, List.length_cons]
    have hz : es1.size ≤ sizeLine := by rw [hE1.size, l5, sizeLine_eq]; omega
    obtain ⟨_, _, _, _, a5, _, a7⟩ := sm_ok (led := !byT w) hE.1 hk hn
    rw [if_pos (show (smP (!byT w) ks k).plain = true from rfl), hashByValue_scannable 8 rfl]
    refine wpAny_bind (wpAny_pure ?_)
    rw [if_pos (show plainKind (.int (Int.ofNat k) t) = true from rfl)]
    refine wpAny_bind (wpAny_storeSet_of ho rfl ?_ hz)
    have ho1 := get_put (ks := ks) (es' := es1) (t' := smP (!byT w) ks k) ho rfl
    have sb1 := Heap.SameBut.update s.heap a (Obj.putSet es1 (smP (!byT w) ks k))
    rw [a5]
    by_cases h4 : ks.length = 4
    · rw [if_pos (by rw [h4]; rfl), relay_sm hE1 hE.1 hk hn h4]
      dsimp only
      refine wpAny_bind (wpAny_pure (wpAny_bind (wpAny_storeSet_of ho1 rfl ?_ hz)))
      have ho2 := get_put (ks := ks) (es' := es1) (t' := smT (!byT w) (smIn ks k)) ho1 rfl
      exact wpAny_pure (wpAny_pure (h _ _ (sb1.trans (Heap.SameBut.update _ a _)) ⟨es1, _, by rw [smAdd, if_neg hn]; exact ho2, by rw [smAdd, if_neg hn]; exact hE1⟩))
    · rw [if_neg (by simp [h4])]
      rw [a7 h4] at ho1 sb1 ⊢
      exact wpAny_pure (wpAny_pure (h _ _ sb1 ⟨es1, _, by rw [smAdd, if_neg hn]; exact ho1, by rw [smAdd, if_neg hn]; exact hE1⟩))
end
end L2
namespace L2
open PySem PySem.Spec PyProof.Rows
theorem mem_smAdd {ks : List Nat} {k j : Nat} : j ∈ smAdd ks k ↔ j ∈ ks ∨ j = k := by
  unfold smAdd
  split
  · rename_i h
    exact ⟨.inl, fun z => z.elim id fun e => e ▸ h⟩
  · rw [(smIn_perm ks k).mem_iff, List.mem_cons]
    exact ⟨fun z => z.elim .inr .inl, fun z => z.elim .inr .inl⟩
section
variable {prog : Program} {w : World} {A : Around} {R : Result → Shared → Prop} {I : Addr} {fp wr : List Addr} {G : Array GenState → Array GenState → Prop} {n : Nat} {P : Nat → Value → Prop} {St : Nat → Shared → Prop}
theorem loop_sm (W : WalksS prog w A.in1 I fp wr G n P St) (S : Addr) (hSf : S ∉ fp) (val : Nat → Nat) (hval : ∀ i v, i < n → P i v → ∃ t, v = .int (Int.ofNat (val i)) t) (h8 : ∀ i, i < n → val i < 8) :
    ∀ (k i : Nat) (ks : List Nat) (s : Shared), n - i = k → i ≤ n → St i s → SmAt w S ks s.heap → (∀ j, j ∈ ks ↔ ∃ m, m < i ∧ val m = j) →
      (∀ ks' s', Moved (S :: wr) G s s' → SmAt w S ks' s'.heap → (∀ j, j ∈ ks' ↔ ∃ m, m < n ∧ val m = j) → R (.ok (.ret .none)) s') →
      codeAny (model prog w) A (.builtin "set.update.loop" ⟨[.ref S, .ref I], []⟩) R s := by
  have hSw : S ∉ wr := fun h => hSf (W.sub _ h)
  have hsub : ∀ b ∈ wr, b ∈ S :: wr := fun b hb => List.mem_cons_of_mem _ hb
  have up : ∀ {ks : List Nat} {s s' : Shared}, Moved wr G s s' → SmAt w S ks s.heap → SmAt w S ks s'.heap := fun hm ⟨es, ep, ho, hE⟩ => ⟨es, ep, hm.heap S _ hSw ho, hE⟩
  intro k
  induction k with
  | zero =>
    intro i ks s hk hi hst hS hm hR
    have hin : i = n := by omega
    subst hin
    refine codeAny_builtin F.entry_set_update_loop ?_
    rw [Around.under_plainId F.plain_set_update_loop _]
    show wpAny _ A.in1 (pyNext (.ref I) >>= _) _ _ s
    refine wpAny_bind (W.done s _ _ hst fun s' hmv => ?_)
    show wpAny _ A.in1 (ret Value.none) _ _ s'
    exact wpAny_pure (hR ks s' (hmv.mono hsub) (up hmv hS) hm)
  | succ k ih =>
    intro i ks s hk hi hst hS hm hR
    have hlt : i < n := by omega
    refine codeAny_builtin F.entry_set_update_loop ?_
    rw [Around.under_plainId F.plain_set_update_loop _]
    show wpAny _ A.in1 (pyNext (.ref I) >>= _) _ _ s
    refine wpAny_bind (W.item i s _ _ hlt hst fun v s' hP hst' hmv => ?_)
    obtain ⟨t, rfl⟩ := hval i v hlt hP
    have hS' := up hmv hS
    show wpAny _ A.in1 (holding [Value.int (Int.ofNat (val i)) t] (setAdd S (.int (Int.ofNat (val i)) t)) >>= _) _ _ s'
    refine wpAny_bind (wpAny_holding ?_)
    unfold setAdd
    refine wpAny_holding ?_
    refine wpAny_bind ((intKind prog w).pyHash (k := Int.ofNat (val i)) (intKind_is _ _ _ _) ?_)
    refine add_sm (s := { s' with toks := s'.toks + 1 }) hS' (h8 i hlt) fun h' b hsb hS2 => ?_
    refine wpAny_pure ⟨plainId_quiet F.plain_set_update_loop _, ih (i + 1) _ _ (by omega) hlt (W.frame _ s' _ _ hst' (Nat.le_succ _) fun b hb o e => ?_) hS2 (fun j => ?_) fun ks' s'' hm'' hS'' hks => ?_⟩
    · rw [hsb.2 b (fun h : b = S => hSf (by rw [← h]; exact hb))]; exact e
    · rw [mem_smAdd, hm j]
      constructor
      · rintro (⟨m, h1, h2⟩ | rfl)
        · exact ⟨m, Nat.lt_succ_of_lt h1, h2⟩
        · exact ⟨i, Nat.lt_succ_self i, rfl⟩
      · rintro ⟨m, h1, h2⟩
        rcases Nat.lt_succ_iff_lt_or_eq.mp h1 with h1 | rfl
        · exact .inl ⟨m, h1, h2⟩
        · exact .inr h2.symm
    · refine hR ks' s'' (Moved.trans W.gtrans ((hmv.mono hsub).then_heap (Nat.le_succ _) fun b o hb e => ?_) hm'') hS'' hks
      rw [hsb.2 b (fun h : b = S => hb (by rw [h]; exact List.mem_cons_self))]; exact e
end
section
variable {prog : Program} {w : World} {A : Around} {E : Value → Shared → Prop} {s : Shared}
theorem new_sm (a : Value) {Q₁ : Value → Shared → Prop} (h : Q₁ (.ref s.heap.objs.size) { s with heap := s.heap.push (smO w #[] 0 []) }) :
    codeAny (model prog w) A (.call (.builtin "set.__new__") ⟨[.type "set", a], []⟩) (wants Q₁ E) s := by
  refine codeAny_of_tree ?_
  show wpAny _ A.in1 (do checkBuiltinCall "set.__new__" ⟨[.type "set", a], []⟩; again (.builtin "set.__new__" ⟨[.type "set", a], []⟩)) _ _ s
  refine wpAny_bind (wpAny_of_eq (F.newCall_set_1 a) (wpAny_pure ⟨plainId_quiet F.plain_set_new _, codeAny_builtin F.entry_set_new ?_⟩))
  rw [Around.under_plainId F.plain_set_new _]
  unfold Builtin.«set.__new__» Builtin.Frozenset.newClass
  have hsub := sub_set_self
  obtain ⟨hp, g, d, tk, os⟩ := s
  dsimp only
  wp_walk
  refine wpAny_askSetting (wpAny_pure ?_)
  dsimp only
  simp only [newObj]
  refine wpAny_bind (wpAny_alloc (wpAny_pure ?_))
  exact wpAny_pure h
theorem smAt_new (h : Heap) : SmAt w h.objs.size [] (h.push (smO w #[] 0 [])) := ⟨#[], 0, Heap.get?_push_size _ rfl, mem_subsN 8 [] .nil (fun k z => by cases z), rfl, fun e he => by cases he⟩
theorem call_set_sm {l : Addr} {items : Array Value} {ns : List Nat} {Q : Value → Shared → Prop} (hh : A.handled = none) (hl : s.heap.IsTuple l items) (hi : IntsAre items.toList (ns.map Int.ofNat)) (h8 : ∀ k ∈ ns, k < 8)
    (h : ∀ (h' : Heap) (tk : Nat) (ks : List Nat), SmAt w s.heap.objs.size ks h' → (∀ j, j ∈ ks ↔ j ∈ ns) → (∀ b o, b < s.heap.objs.size → s.heap.get? b = some o → h'.get? b = some o) → Q (.ref s.heap.objs.size) { s with heap := h', toks := tk }) :
    wpAny (model prog w) A (call (.type "set") [.ref l]) Q E s := by
  obtain ⟨c, tl, hmro⟩ := F.called_set.mro
  have hmade := F.called_set.made
  have hsub := F.called_set.sub
  refine wpAny_call (codeAny_of_tree ?_)
  show wpAny _ _ (callAny (.type "set") _) _ _ _
  refine wpAny_pure ⟨Code.quiet_builtin _ (by decide +kernel), codeAny_builtin F.entry_type_call ?_⟩
  rw [Around.under_plain (weight_type_call_type "set" [.ref l] []) rfl]
  have h1 := F.called_set.notType
  have h2 := F.called_set.canCreate
  have hct := F.typeCall_set_1 (.ref l)
  repeat (any_goals (first | assumption | wp_step))
  refine codeAny_mono (new_sm (.ref l) (E := E) (Q₁ := fun obj s1 => obj = .ref s.heap.objs.size ∧ s1 = { s with heap := s.heap.push (smO w #[] 0 []) }) ⟨rfl, rfl⟩) fun r s1 hr => ?_
  cases r with
  | error e => exact hr
  | ok fl =>
    cases fl with
    | ret obj =>
      obtain ⟨rfl, rfl⟩ := hr
      have hS : (s.heap.push (smO w #[] 0 [])).get? s.heap.objs.size = some (smO w #[] 0 []) := Heap.get?_push_size _ rfl
      have hT : Shared.TypeIs { s with heap := s.heap.push (smO w #[] 0 []) } (.ref s.heap.objs.size) "set" := ⟨_, hS, rfl⟩
      have hli := F.called_set.init.lookup
      have hbi := F.called_set.init.bind (.ref s.heap.objs.size)
      repeat (any_goals (first | assumption | wp_step))
      refine codeAny_mono (codeAny_call_builtin (R := wants (fun r s2 => r = .none ∧ ∃ h' tk ks, s2 = { s with heap := h', toks := tk } ∧ SmAt w s.heap.objs.size ks h' ∧ (∀ j, j ∈ ks ↔ j ∈ ns) ∧ ∀ b o, b < s.heap.objs.size → s.heap.get? b = some o → h'.get? b = some o) E) F.called_set.init.plain F.entry_set_init (check_set_init_1 hT ?_)) fun r2 s2 hr2 => ?_
      · obtain ⟨ol, hol, hcl, nl, hdl⟩ := hl
        obtain ⟨ocls, odict, odata, oslots⟩ := ol
        simp only at hcl hdl
        subst hcl; subst hdl
        have hol' : (s.heap.push (smO w #[] 0 [])).get? l = some { cls := .type "tuple", dict := odict, data := .seq items nl, slots := oslots } := Heap.get?_push_of_some _ hol
        have hsls := sub_tup_set
        have hslf := sub_tup_fro
        have hne : (Value.type "tuple" == Value.type "dict") = false := by decide
        have hl1 : (s.heap.push (smO w #[] 0 [])).IsTuple l items := ⟨_, hol', rfl, nl, rfl⟩
        have hlS : l < s.heap.objs.size := Heap.lt_size hol
        unfold Builtin.«set.__init__» noKeywords Builtin.Frozenset.updateFrom
        generalize hPI : pyIter = PI
        wp_walk
        subst hPI
        refine wpAny_pyIter_tuple hl1 ?_
        refine wpAny_bind (wpAny_runValue ?_)
        have hh3 : A.in1.in1.in1.handled = none := by simp [hh]
        have hneI : l ≠ (s.heap.push (smO w #[] 0 [])).objs.size := by
          rw [Heap.size_push]
          exact Nat.ne_of_lt (Nat.lt_succ_of_lt hlS)
        have hlen : items.size = ns.length := by
          have := IntsAre.len hi
          simpa using this
        refine loop_sm ((Walks.tuple hh3 _ l hneI items).toS) s.heap.objs.size ?_ (fun i => ns.getD i 0) (fun i v hlt hv => ?_) (fun i hlt => ?_) (items.size - 0) 0 [] _ (by omega) (Nat.zero_le _) ⟨⟨_, Heap.get?_push_size _ rfl, rfl, rfl⟩, hl1.push _⟩ ?_ (fun j => ⟨fun z => (by cases z), fun ⟨m, z, _⟩ => absurd z (Nat.not_lt_zero m)⟩) ?_
        · rw [Heap.size_push]
          simp only [List.mem_cons, List.not_mem_nil, or_false, not_or]
          exact ⟨Nat.ne_of_lt (Nat.lt_succ_self _), Nat.ne_of_gt hlS⟩
        · obtain ⟨t, e⟩ := IntsAre.int_at hi i v (by rw [Array.getElem?_toList]; exact hv)
          refine ⟨t, ?_⟩
          rw [e]
          rw [hlen] at hlt
          simp [List.getD_eq_getElem?_getD, List.getElem?_eq_getElem hlt]
        · rw [hlen] at hlt
          rw [List.getD_eq_getElem?_getD, List.getElem?_eq_getElem hlt]
          exact h8 _ (List.getElem_mem hlt)
        · obtain ⟨es, ep, a1, a2⟩ := smAt_new (w := w) s.heap
          exact ⟨es, ep, Heap.get?_push_of_some _ a1, a2⟩
        · intro ks' s' hm hS' hks
          obtain ⟨h', g', d', tk', os'⟩ := s'
          have eg : g' = s.gens := hm.gens
          have ed : d' = s.drawn := hm.drawn
          have eo : os' = s.os := hm.os
          subst eg ed eo
          show wpAny _ _ _ _ _ _
          refine wpAny_pure ?_
          show wpAny _ _ (ret Value.none) _ _ _
          refine wpAny_pure ⟨rfl, h', tk', ks', rfl, hS', fun j => ?_, fun b o hb e => hm.heap b o ?_ (Heap.get?_push_of_some _ (Heap.get?_push_of_some _ e))⟩
          · rw [hks j]
            constructor
            · rintro ⟨m, h1, h2⟩
              rw [hlen] at h1
              rw [List.getD_eq_getElem?_getD, List.getElem?_eq_getElem h1] at h2
              rw [← h2]; exact List.getElem_mem h1
            · intro hj
              obtain ⟨m, h1, h2⟩ := List.getElem_of_mem hj
              exact ⟨m, by rw [hlen]; exact h1, by rw [List.getD_eq_getElem?_getD, List.getElem?_eq_getElem h1]; exact h2⟩
          · rw [Heap.size_push]
            simp only [List.mem_cons, List.not_mem_nil, or_false, not_or]
            exact ⟨Nat.ne_of_lt hb, Nat.ne_of_lt (Nat.lt_succ_of_lt hb)⟩
      · cases r2 with
        | error e => exact hr2
        | ok fl2 =>
          cases fl2 with
          | ret r =>
            obtain ⟨rfl, h', tk, ks, rfl, hd⟩ := hr2
            repeat (any_goals (first | assumption | wp_step))
            exact h _ _ _ hd.1 hd.2.1 hd.2.2
          | _ => exact hr2.elim
    | _ => exact hr.elim
end
end L2
namespace L2
open PySem PySem.Spec PyProof.Rows
theorem owner_setit : Manifest.owners.lookup (String.ofList ['r', 'o', 't', 'a', 'r', 'e', 't', 'i', '_', 't', 'e', 's'].reverse) = some Manifest.sig_set_iterator := by kernel_rfl
theorem slot_setit_next : Slot "set_iterator" "__next__" "set_iterator.__next__" :=
  .of (owner := "set_iterator") (n := "__next__") (by rw [typeLookup_type, builtinLookup_eq_fast]; kernel_rfl) (by decide +kernel) (by decide +kernel) (by decide +kernel)
    (by first | exact .inl (by decide +kernel) | exact .inr (by decide +kernel)) (by rw [isSubtype_type]; kernel_rfl)
theorem entry_setit_next : entryFor table "set_iterator.__next__" = some Builtin.«set_iterator.__next__» := entryFor_of_tree (by kernel_rfl)
theorem args_setit_next (a : Value) : argsOk "set_iterator.__next__" ⟨[a], []⟩ := by
  unfold argsOk; rw [signature?_of (id := "set_iterator.__next__") (n := ['_', '_', 't', 'x', 'e', 'n', '_', '_']) (o := ['r', 'o', 't', 'a', 'r', 'e', 't', 'i', '_', 't', 'e', 's']) (by kernel_rfl) owner_setit]; kernel_rfl
theorem entry_set_iter : entryFor table "set.__iter__" = some Builtin.«frozenset.__iter__» :=
  entryFor_alias (id' := "frozenset.__iter__") (by kernel_rfl) rfl (by decide +kernel) (by kernel_rfl)
def SIt (it a : Addr) (slot i n ep : Nat) (h : Heap) : Prop := ∃ o, h.get? it = some o ∧ o.cls = .type "set_iterator" ∧ o.data = .fields #[rawInt slot, rawInt i, .ref a, rawInt n, rawInt ep]
def slotAt (w : World) (ks : List Nat) : Nat → Nat
  | 0 => 0
  | i + 1 => if byT w then 0 else ks.getD i 0 + 1
def walkOf (w : World) (a : Addr) (ep : Nat) (es : Array (Int × Value)) : Array (Int × Value) := if byT w then pickOrder (w.params.setOrder a ep) es else es
theorem walkOf_perm (w : World) (a : Addr) (ep : Nat) (es : Array (Int × Value)) : (walkOf w a ep es).toList.Perm es.toList := by
  unfold walkOf
  split
  · exact pick_perm _ _
  · exact .refl _
section
variable {prog : Program} {w : World} {A : Around} {E : Value → Shared → Prop} {s : Shared} {a : Addr} {es : Array (Int × Value)} {ep : Nat} {ks : List Nat}
theorem drawn_sm {Q : Bool → Shared → Prop} (ho : s.heap.get? a = some (smO w es ep ks)) (hf : (smT (!byT w) ks).fits es.size = true) (h : Q false s) : wpAny (model prog w) A (setDrawn a) Q E s := by
  unfold setDrawn setsByText
  refine wpAny_bind (wpAny_setState_of ho rfl hf (wpAny_bind (wpAny_bind (wpAny_askSetting (wpAny_pure ?_)))))
  refine wpAny_pure ?_
  have : (!(w.params.followText "set-order") && (!(smT (!byT w) ks).plain && decide (es.size > 1))) = false := by
    rw [show (smT (!byT w) ks).plain = true from rfl]; simp
  exact this ▸ h
theorem iter_sm {Q : Value → Shared → Prop} (ho : s.heap.get? a = some (smO w es ep ks)) (hf : (smT (!byT w) ks).fits es.size = true)
    (h : Q (.ref s.heap.objs.size) { s with heap := s.heap.push { cls := .type "set_iterator", data := .fields #[rawInt 0, rawInt 0, .ref a, rawInt es.size, rawInt ep] } }) : wpAny (model prog w) A (pyIter (.ref a)) Q E s := by
  have hT : s.TypeIs (.ref a) "set" := ⟨_, ho, rfl⟩
  refine wpAny_pyIter_slot hT F.slot_set_iter (wpAny_call_entry F.slot_set_iter hT entry_set_iter ?g (F.args_set_iter_1 _))
  case g =>
  unfold Builtin.«frozenset.__iter__» Builtin.Frozenset.slot0 Builtin.Frozenset.sizeOf
  refine wpAny_bind (wpAny_bind (wpAny_pure (wpAny_pure ?_)))
  refine wpAny_bind (wpAny_bind (wpAny_setEntries_of ho rfl hf (wpAny_pure ?_)))
  refine wpAny_bind (drawn_sm ho hf ?_)
  rw [if_neg (by exact Bool.false_ne_true)]
  refine wpAny_bind (wpAny_pure (wpAny_bind (wpAny_setEpoch_of ho rfl hf ?_)))
  unfold newFields
  refine wpAny_bind (wpAny_newObj_type (wpAny_pure ⟨_, rfl, "set_iterator", _, ⟨_, Heap.get?_push_size _ rfl, rfl⟩, slot_setit_next.lookup, ?_⟩))
  exact h
theorem next_set {slot i : Nat} {Q : Option (Value × Nat) → Shared → Prop} (ho : s.heap.get? a = some (smO w es ep ks)) (hE : SmE es ks) (hs : slot = slotAt w ks i) (hi : i ≤ es.size)
    (h : Q (((walkOf w a ep es)[i]?).map fun e => (e.2, slotAt w ks (i + 1))) s) : wpAny (model prog w) A (setNext a slot i ep) Q E s := by
  have hf : (smT (!byT w) ks).fits es.size = true := by rw [hE.size]; exact smT_fits hE.1 _
  unfold setNext setsByText
  refine wpAny_bind (wpAny_setState_of ho rfl hf (wpAny_bind (wpAny_bind (wpAny_askSetting (wpAny_pure ?_)))))
  dsimp only
  show wpAny _ _ (if byT w = true then _ else _) _ _ _
  cases hb : byT w with
  | true =>
    rw [if_pos rfl, if_neg (by simp)]
    unfold setWalk setsByText
    refine wpAny_bind (wpAny_bind (wpAny_setState_of ho rfl hf (wpAny_bind (wpAny_bind (wpAny_askSetting (wpAny_pure ?_))))))
    dsimp only
    show wpAny _ _ (if byT w = true then _ else _) _ _ _
    rw [if_pos hb]
    refine wpAny_bind (wpAny_askSetting (wpAny_pure (wpAny_pure ?_)))
    unfold walkOf at h
    rw [if_pos hb] at h
    have e1 : slotAt w ks (i + 1) = slot := by
      rw [hs]
      cases i with
      | zero => simp [slotAt, hb]
      | succ i => simp [slotAt, hb]
    rw [e1] at h
    exact h
  | false =>
    rw [if_neg (by simp)]
    rw [if_neg]
    rotate_left
    · show ¬ ((!true && decide (es.size > 1)) = true)
      simp
    refine wpAny_bind (wpAny_of_eq (a := ()) rfl ?_)
    refine wpAny_pure ?_
    unfold walkOf at h
    rw [hb, if_neg (by simp)] at h
    obtain ⟨z0, z1⟩ := sm_next hE.1
    have eb : SetTable.below ks.toArray slot = i := by
      rw [hs]
      cases i with
      | zero => exact z0
      | succ i =>
        show SetTable.below ks.toArray (if byT w then 0 else ks.getD i 0 + 1) = i + 1
        rw [hb, if_neg (by simp)]
        exact z1 i (by rw [← hE.size]; omega)
    show Q (match es[SetTable.below ks.toArray slot]?, ks.toArray[SetTable.below ks.toArray slot]? with
          | some (_, x), some j => some (x, j + 1)
          | _, _ => none) s
    rw [eb]
    by_cases c : i < es.size
    · have c' : i < ks.length := by rw [← hE.size]; exact c
      rw [Array.getElem?_eq_getElem c] at h ⊢
      rw [List.getElem?_toArray, List.getElem?_eq_getElem c']
      have e2 : slotAt w ks (i + 1) = ks[i] + 1 := by
        show (if byT w then 0 else ks.getD i 0 + 1) = _
        rw [hb, if_neg (by simp), List.getD_eq_getElem?_getD, List.getElem?_eq_getElem c']
        rfl
      rw [e2] at h
      exact h
    · rw [Array.getElem?_eq_none (by omega)] at h ⊢
      exact h
theorem SIt.step {h : Heap} {it : Addr} {slot i n slot' : Nat} (x : SIt it a slot i n ep h) : SIt it a slot' (i + 1) n ep ((h.update it (Obj.mapFields (·.setIfInBounds 0 (rawInt slot')))).update it (Obj.mapFields (·.setIfInBounds 1 (rawInt ((i : Int) + 1))))) := by
  obtain ⟨o, h1, h2, h3⟩ := x
  have d1 := Obj.data_mapFields h3 (·.setIfInBounds 0 (rawInt slot'))
  have g1 := Heap.get?_update_self (Obj.mapFields (·.setIfInBounds 0 (rawInt slot'))) h1 (Obj.isFreed_of_fields d1)
  have d2 := Obj.data_mapFields d1 (·.setIfInBounds 1 (rawInt ((i : Int) + 1)))
  exact ⟨_, Heap.get?_update_self _ g1 (Obj.isFreed_of_fields d2), (Obj.cls_mapFields ..).trans ((Obj.cls_mapFields ..).trans h2), by rw [d2]; simp [rawInt]⟩
theorem SIt.typeIs {it : Addr} {slot i n : Nat} (x : SIt it a slot i n ep s.heap) : s.TypeIs (.ref it) "set_iterator" := let ⟨o, h1, h2, _⟩ := x; ⟨o, h1, h2⟩
theorem nextI_sm {it : Addr} {i : Nat} {Q : Option Value → Shared → Prop} (hit : SIt it a (slotAt w ks i) i es.size ep s.heap) (ho : s.heap.get? a = some (smO w es ep ks)) (hE : SmE es ks) {e : Int × Value} (hx : (walkOf w a ep es)[i]? = some e) (hi : i < es.size)
    (q : ∀ h', SIt it a (slotAt w ks (i + 1)) (i + 1) es.size ep h' → Heap.SameBut it s.heap h' → Q (some e.2) { s with heap := h' }) : wpAny (model prog w) A (pyNext (.ref it)) Q E s := by
  have hf : (smT (!byT w) ks).fits es.size = true := by rw [hE.size]; exact smT_fits hE.1 _
  have hT := hit.typeIs
  obtain ⟨oi, hi1, hi2, hi3⟩ := id hit
  unfold pyNext
  refine wpAny_bind (wpAny_attempt (wpAny_callSpecial?_slot (name := Str.ofString "__next__") hT slot_setit_next (wpAny_call_entry slot_setit_next hT entry_setit_next ?g (args_setit_next _))))
  case g =>
  unfold Builtin.«set_iterator.__next__» slotArgs
  refine wpAny_bind (wpAny_pure (wpAny_bind (wpAny_fieldsOf hi1 hi3 ?_)))
  refine wpAny_bind (wpAny_setEntries_of ho rfl hf ?_)
  rw [if_neg (by simp)]
  show wpAny _ _ (setNext a (slotAt w ks i : Int).toNat (i : Int).toNat (ep : Int).toNat >>= _) _ _ s
  rw [Int.toNat_natCast, Int.toNat_natCast, Int.toNat_natCast]
  refine wpAny_bind (next_set ho hE rfl (Nat.le_of_lt hi) ?_)
  rw [hx]
  show wpAny _ _ (setField (.ref it) 0 (rawInt (slotAt w ks (i + 1))) >>= _) _ _ s
  refine wpAny_bind (wpAny_setField hi1 hi3 (by simp) ?_)
  have d1 := Obj.data_mapFields hi3 (·.setIfInBounds 0 (rawInt (slotAt w ks (i + 1))))
  have g1 := Heap.get?_update_self (Obj.mapFields (·.setIfInBounds 0 (rawInt (slotAt w ks (i + 1))))) hi1 (Obj.isFreed_of_fields d1)
  refine wpAny_bind (wpAny_setField g1 d1 (by simp) ?_)
  exact wpAny_pure ⟨_, rfl, wpAny_pure (q _ (SIt.step hit) ((Heap.SameBut.update ..).trans (Heap.SameBut.update ..)))⟩
theorem endI_sm {it : Addr} {Q : Option Value → Shared → Prop} (hh : A.handled = none) (hit : SIt it a (slotAt w ks es.size) es.size es.size ep s.heap) (ho : s.heap.get? a = some (smO w es ep ks)) (hE : SmE es ks)
    (q : ∀ h', Heap.ExtBut it s.heap h' → Q none { s with heap := h' }) : wpAny (model prog w) A (pyNext (.ref it)) Q E s := by
  have hf : (smT (!byT w) ks).fits es.size = true := by rw [hE.size]; exact smT_fits hE.1 _
  have hT := hit.typeIs
  obtain ⟨oi, hi1, hi2, hi3⟩ := id hit
  unfold pyNext
  refine wpAny_bind (wpAny_attempt (wpAny_callSpecial?_slot (name := Str.ofString "__next__") hT slot_setit_next (wpAny_call_entry slot_setit_next hT entry_setit_next ?g (args_setit_next _))))
  case g =>
  unfold Builtin.«set_iterator.__next__» slotArgs
  refine wpAny_bind (wpAny_pure (wpAny_bind (wpAny_fieldsOf hi1 hi3 ?_)))
  refine wpAny_bind (wpAny_setEntries_of ho rfl hf ?_)
  rw [if_neg (by simp)]
  show wpAny _ _ (setNext a (slotAt w ks es.size : Int).toNat (es.size : Int).toNat (ep : Int).toNat >>= _) _ _ s
  rw [Int.toNat_natCast, Int.toNat_natCast, Int.toNat_natCast]
  refine wpAny_bind (next_set ho hE rfl (Nat.le_refl _) ?_)
  have hw : (walkOf w a ep es).size = es.size := by rw [← Array.length_toList, (walkOf_perm w a ep es).length_eq, Array.length_toList]
  rw [Array.getElem?_eq_none (by omega)]
  show wpAny _ _ (setField (.ref it) 2 .none >>= _) _ _ s
  refine wpAny_bind (wpAny_setField hi1 hi3 (by simp) ?_)
  show wpAny _ _ (newExc (.type "StopIteration") [] >>= _) _ _ _
  simp only [newExc, newTuple]
  refine wpAny_bind (wpAny_bind (wpAny_newObj_type (wpAny_bind (m := firstArgMember _ _) (wpAny_of_eq (a := Value.none) (by first | rfl | (simp only [firstArgMember]; rfl)) (wpAny_newObj_type ?g (by size_fits)))) (by size_fits)))
  case g =>
  simp only [raiseNew]
  refine wpAny_bind (wpAny_handled ?g)
  case g =>
  rw [show A.in1.handled = none from hh]
  refine wpAny_bind (wpAny_pure (wpAny_throw ?z))
  case z => refine wpAny_bind (wpAny_isInstance (T := "StopIteration") (b := true) ⟨_, Heap.get?_push_size _ rfl, rfl⟩ isSubtype_stop ?z)
            case z => exact wpAny_pure (q _ (((Heap.SameBut.update ..).extBut.push _).push _))
end
end L2
namespace L2
open PySem PySem.Spec PySem.W PyProof.Rows
theorem slot_setit_iter : Slot "set_iterator" "__iter__" "set_iterator.__iter__" :=
  .of (owner := "set_iterator") (n := "__iter__") (by rw [typeLookup_type, builtinLookup_eq_fast]; kernel_rfl) (by decide +kernel) (by decide +kernel) (by decide +kernel)
    (by first | exact .inl (by decide +kernel) | exact .inr (by decide +kernel)) (by rw [isSubtype_type]; kernel_rfl)
theorem entry_setit_iter : entryFor table "set_iterator.__iter__" = some Builtin.«dict_keyiterator.__iter__» :=
  entryFor_alias (id' := "dict_keyiterator.__iter__") (by kernel_rfl) rfl (by decide +kernel) (by kernel_rfl)
theorem args_setit_iter (a : Value) : argsOk "set_iterator.__iter__" ⟨[a], []⟩ := by
  unfold argsOk; rw [signature?_of (id := "set_iterator.__iter__") (n := ['_', '_', 'r', 'e', 't', 'i', '_', '_']) (o := ['r', 'o', 't', 'a', 'r', 'e', 't', 'i', '_', 't', 'e', 's']) (by kernel_rfl) owner_setit]; kernel_rfl
section
variable {prog : Program} {w : World} {A : Around} {E : Value → Shared → Prop} {s : Shared} {a : Addr} {es : Array (Int × Value)} {ep : Nat} {ks : List Nat}
theorem SIt.at {h h' : Heap} {it : Addr} {sl i n : Nat} (x : SIt it a sl i n ep h) (e : ∀ o, h.get? it = some o → h'.get? it = some o) : SIt it a sl i n ep h' := let ⟨o, ho, r⟩ := x; ⟨o, e _ ho, r⟩
theorem walks_sm (hh : A.handled = none) (I a : Addr) (hne : a ≠ I) (ep : Nat) (hE : SmE es ks) :
    Walks prog w A I [I, a] [I] es.size (fun i v => ∃ e, (walkOf w a ep es)[i]? = some e ∧ v = e.2) (fun i h => SIt I a (slotAt w ks i) i es.size ep h ∧ h.get? a = some (smO w es ep ks)) where
  sub := fun b hb => by simp at hb; simp [hb]
  frame := fun _ _ _ st hk => ⟨st.1.at fun o e => hk I (by simp) o e, hk a (by simp) _ st.2⟩
  item := fun i s Q E hi st hQ => by
    have hw : (walkOf w a ep es).size = es.size := by rw [← Array.length_toList, (walkOf_perm w a ep es).length_eq, Array.length_toList]
    refine nextI_sm st.1 st.2 hE (Array.getElem?_eq_getElem (by omega)) hi fun h' hit' hs' => ?_
    exact hQ _ h' s.toks ⟨_, Array.getElem?_eq_getElem (by omega), rfl⟩ ⟨hit', by rw [hs'.2 a hne]; exact st.2⟩ fun b o hb e => hs'.extBut b o (fun h => hb (by simp [h])) e
  done := fun s Q E st hQ => endI_sm hh st.1 st.2 hE fun h' he' => hQ h' s.toks fun b o hb e => he' b o (fun h => hb (by simp [h])) e
  self := fun i s Q E st hQ => by
    have hT : s.TypeIs (.ref I) "set_iterator" := SIt.typeIs st.1
    refine wpAny_pyIter_slot hT slot_setit_iter (wpAny_call_entry slot_setit_iter hT entry_setit_iter ?_ (args_setit_iter _))
    show wpAny _ _ (ret (.ref I)) _ _ s
    exact wpAny_pure ⟨_, rfl, "set_iterator", _, hT, slot_setit_next.lookup, hQ⟩
theorem ints_sm : ∀ {vs : List Value} {ms : List Nat}, vs.length = ms.length → (∀ i (h : i < ms.length), ∃ t, vs[i]? = some (.int (Int.ofNat ms[i]) t)) → IntsAre vs (ms.map Int.ofNat)
  | [], [], _, _ => .nil
  | [], _ :: _, h, _ => by cases h
  | _ :: _, [], h, _ => by cases h
  | v :: vs, m :: ms, h, q => by
    obtain ⟨t, e⟩ := q 0 (Nat.zero_lt_succ _)
    obtain rfl : v = .int (Int.ofNat m) t := by simpa using e
    exact .cons _ t (ints_sm (by simpa using h) fun i hi => by
      obtain ⟨t', e'⟩ := q (i + 1) (Nat.succ_lt_succ hi)
      exact ⟨t', by simpa using e'⟩)
theorem items_sm (hE : SmE es ks) {acc : Array Value} (hA : ItemsOf (fun i v => ∃ e, (walkOf w a ep es)[i]? = some e ∧ v = e.2) acc es.size) : ∃ ms : List Nat, ms.Perm ks ∧ IntsAre acc.toList (ms.map Int.ofNat) := by
  have hp := walkOf_perm w a ep es
  have hw : (walkOf w a ep es).size = es.size := by rw [← Array.length_toList, hp.length_eq, Array.length_toList]
  have hk : ((walkOf w a ep es).toList.map (·.1)).Perm (ks.map Int.ofNat) := by rw [← hE.2.1]; exact hp.map _
  have hm : (((walkOf w a ep es).toList.map (·.1)).map Int.toNat).Perm ks := by
    have := hk.map Int.toNat
    rw [List.map_map (f := Int.ofNat)] at this
    have e : (Int.toNat ∘ Int.ofNat) = (id : Nat → Nat) := by funext k; rfl
    rwa [e, List.map_id] at this
  refine ⟨_, hm, ints_sm ?_ ?_⟩
  · rw [Array.length_toList, hA.1, List.length_map, List.length_map, Array.length_toList, hw]
  · intro i hi
    have hi' : i < (walkOf w a ep es).size := by simpa using hi
    obtain ⟨v, hv⟩ : ∃ v, acc[i]? = some v := ⟨acc[i]'(by rw [hA.1, ← hw]; exact hi'), Array.getElem?_eq_getElem _⟩
    obtain ⟨e, h1, h2⟩ := hA.2 i v hv
    have me : e ∈ es.toList := hp.mem_iff.mp (by rw [Array.getElem?_eq_getElem hi'] at h1; rw [← Option.some.inj h1]; exact Array.getElem_mem_toList _)
    obtain ⟨t, z⟩ := hE.2.2 e me
    have m1 : e.1 ∈ ks.map Int.ofNat := by rw [← hE.2.1]; exact List.mem_map_of_mem me
    obtain ⟨k, _, ek⟩ := List.mem_map.mp m1
    refine ⟨t, ?_⟩
    rw [Array.getElem?_toList, hv, h2, z]
    congr 2
    rw [Array.getElem?_eq_getElem hi'] at h1
    have h1 := Option.some.inj h1
    simp only [List.getElem_map, Array.getElem_toList, h1]
    rw [← ek]; rfl
theorem hint_set {Q : Bool → Shared → Prop} (hT : s.TypeIs (.ref a) "set") (h : Q false s) : wpAny (model prog w) A (Builtin.List.listLengthHint (.ref a)) Q E s := by
  unfold Builtin.List.listLengthHint
  refine wpAny_bind (wpAny_specialOf hT PySem.F.slot_set_len.lookup ?_)
  generalize hid : ("set.__len__" : String) = id0
  wp_delta
  rw [show splitId id0 = some ("set", "__len__") from by subst hid; decide +kernel]
  subst hid
  refine wpAny_bind (wpAny_isInstance (T := "set") (b := true) hT (by rw [isSubtype_type]; kernel_rfl) ?_)
  refine wpAny_ite_split (fun hab => absurd hab (by decide)) (fun _ => ?_)
  refine wpAny_ite_split (fun _ => ?_) (fun hab => absurd (by decide +kernel) hab)
  refine wpAny_bind (wpAny_typeOf hT ?_)
  exact wpAny_pure h
theorem src_sm (hE : SmE es ks) : KdlSrc prog w "set" a a es.size (fun i v => ∃ e, (walkOf w a ep es)[i]? = some e ∧ v = e.2) (fun h => h.get? a = some (smO w es ep ks)) where
  type := fun _ hm => ⟨_, hm, rfl⟩
  there := fun _ hm => ⟨Heap.lt_size hm, Heap.lt_size hm⟩
  keep := fun _ _ hm hk => hk a (.inl rfl) _ hm
  notList := by decide
  notTuple := by decide
  hint := fun _ _ s _ hm hq => hint_set ⟨_, hm, rfl⟩ hq
  iter := fun A s hh hm => ⟨{ cls := .type "set_iterator", data := .fields #[rawInt 0, rawInt 0, .ref a, rawInt es.size, rawInt ep] }, _, (fun _ _ hq => iter_sm hm (by rw [hE.size]; exact smT_fits hE.1 _) hq), walks_sm hh _ a (Nat.ne_of_lt (Heap.lt_size hm)) ep hE, ⟨⟨_, Heap.get?_push_size _ rfl, rfl, rfl⟩, Heap.get?_push_of_some _ hm⟩⟩
theorem collect_sm {Q : List Value → Shared → Prop} (hh : A.handled = none) (hS : SmAt w a ks s.heap)
    (hQ : ∀ (h' : Heap) (tk : Nat) (acc : List Value) (ms : List Nat), ms.Perm ks → IntsAre acc (ms.map Int.ofNat) → (∀ b o, s.heap.get? b = some o → h'.get? b = some o) → s.heap.objs.size < h'.objs.size → Q acc { s with heap := h', toks := tk }) : wpAny (model prog w) A (collect (.ref a)) Q E s := by
  obtain ⟨es, ep, ho, hE⟩ := hS
  have l8 := (sm_sort hE.1).2.2
  have ha : a < s.heap.objs.size := Heap.lt_size ho
  unfold collect
  let R1 : Result → Shared → Prop := fun r s' => ∃ h' tk acc c, r = .ok (.ret (.ref s.heap.objs.size)) ∧ s' = { s with heap := h', toks := tk } ∧ h'.get? s.heap.objs.size = some { cls := .type "list", dict := none, data := .seq acc c, slots := #[] } ∧ (∀ b o, s.heap.get? b = some o → h'.get? b = some o) ∧ ItemsOf (fun i v => ∃ e, (walkOf w a ep es)[i]? = some e ∧ v = e.2) acc es.size
  refine wpAny_bind (wpAny_runValue (codeAny_mono (R := R1) ?_ ?_))
  · refine codeAny_builtin F.entry_proto_collect ?_
    rw [Around.under_plainId F.plain_proto_collect _]
    show wpAny _ A.in1 (newList [] >>= fun l => again (.builtin "list.__iadd__" ⟨[l, .ref a], []⟩)) _ _ s
    refine wpAny_bind (wpAny_newObj_type ?_)
    refine wpAny_pure ⟨plainId_quiet F.plain_list_iadd _, codeAny_builtin F.entry_list_iadd ?_⟩
    rw [Around.under_plainId F.plain_list_iadd _]
    have ho1 : (s.heap.push { cls := .type "list", data := .seq ([] : List Value).toArray }).get? a = some (smO w es ep ks) := Heap.get?_push_of_some _ ho
    have hS₁ : (s.heap.push { cls := .type "list", data := .seq ([] : List Value).toArray }).get? s.heap.objs.size = some { cls := .type "list", data := .seq ([] : List Value).toArray } := Heap.get?_push_size _ rfl
    show wpAny _ A.in1 (Builtin.List.listExtendWith (.ref s.heap.objs.size) (.ref a) (.ref s.heap.objs.size)) _ _ { s with heap := s.heap.push { cls := .type "list", data := .seq ([] : List Value).toArray } }
    exact kdl_extend (R := R1) (s := { s with heap := s.heap.push { cls := .type "list", data := .seq ([] : List Value).toArray } }) (src_sm (prog := prog) (w := w) (a := a) (ep := ep) hE) hh ho1 s.heap.objs.size (Nat.ne_of_gt ha) (Nat.ne_of_gt ha) (.ref s.heap.objs.size) 0 hS₁ (fun h' tk acc c hk hS' hA => ⟨h', tk, acc, c, rfl, rfl, hS', fun b o e => hk b o (Nat.ne_of_lt (Heap.lt_size e)) (Heap.get?_push_of_some _ e), hA⟩) (by rw [hE.size, sizeLine_eq]; omega)
  · rintro r s' ⟨h', tk, acc, c, rfl, rfl, hS', hk, hA⟩
    obtain ⟨ms, hm, hI⟩ := items_sm hE hA
    show wpAny _ A (load s.heap.objs.size >>= _) _ _ _
    refine wpAny_bind (wpAny_load hS' ?_)
    exact wpAny_pure (hQ h' tk acc.toList ms hm hI hk (Heap.lt_size hS'))
theorem sorted_eq {ks : List Nat} {ns : List Int} (h1 : ns.Perm (ks.map Int.ofNat)) (h2 : ns.Pairwise (· ≤ ·)) (h3 : ks.Pairwise (· < ·)) : ns = ks.map Int.ofNat := by
  refine List.Perm.eq_of_pairwise (le := (· ≤ ·)) (fun a b _ _ x y => Int.le_antisymm x y) h2 ?_ h1
  rw [List.pairwise_map]
  exact h3.imp fun x => Int.ofNat_le.mpr (Nat.le_of_lt x)
theorem sorted_sm {Q : Value → Shared → Prop} (hh : A.handled = none) (hS : SmAt w a ks s.heap)
    (q : ∀ (l : Addr) (h' : Heap) (tk : Nat) (out : Array Value) (c : Nat), s.heap.objs.size ≤ l → (∀ b o, s.heap.get? b = some o → h'.get? b = some o) → h'.get? l = some (seqObj "list" out c) → IntsAre out.toList (ks.map Int.ofNat) → Q (.ref l) { s with heap := h', toks := tk }) : wpAny (model prog w) A (call (.builtin "sorted") [.ref a]) Q E s := by
  obtain ⟨_, _, _, hk8, _⟩ := id hS
  obtain ⟨so, _, l8⟩ := sm_sort hk8
  refine Calls.call_function_entry kind_sorted plain_sorted entry_sorted (args_sorted1 _) ?g1
  case g1 =>
    unfold Builtin.«sorted»
    refine wpAny_bind (m := checkCount "sorted" 1 1 _) (wpAny_pure (wpAny_bind (collect_sm hh hS fun h1 tk acc ms hm hI hk hz => ?g2)))
    case g2 =>
      have hl : acc.length = ks.length := by rw [IntsAre.len hI, List.length_map, hm.length_eq]
      refine wpAny_bind (wpAny_newList ?g3 (by rw [hl, sizeLine_eq]; omega))
      case g3 =>
        have e2 : (h1.push (seqObj "list" acc.toArray 0)).get? h1.objs.size = some (seqObj "list" acc.toArray 0) := Heap.get?_push_size _ rfl
        show wpAny _ _ _ _ _ { s with heap := h1.push (seqObj "list" acc.toArray 0), toks := tk }
        refine wpAny_bind (wpAny_holding (wpAny_call_entry slot_list_sort ⟨_, e2, rfl⟩ entry_list_sort (list_sort_tree (s := { s with heap := h1.push (seqObj "list" acc.toArray 0), toks := tk }) e2 hI (by omega) fun out ns' a1 a2 a3 => ⟨_, rfl, wpAny_pure ⟨_, rfl, ?g4⟩⟩) (args_list_sort _)))
        case g4 =>
          obtain ⟨c, he⟩ := sortedHeap_at (vs := acc) (out := out) e2
          have en := sorted_eq (a2.trans (hm.map _)) a3 so
          rw [en] at a1
          refine q h1.objs.size _ tk out c (Nat.le_of_lt hz) (fun b o e => ?_) he a1
          have hb : b < h1.objs.size := Heap.lt_size (hk b o e)
          rw [sortedHeap_old (Nat.ne_of_lt hb) (by rw [Heap.size_push]; exact Nat.lt_succ_of_lt hb)]
          exact Heap.get?_push_of_some _ (hk b o e)
end
section
variable {X : Cx}
def natVs (ks : List Nat) : List V := ks.map fun k => V.int (Int.ofNat k)
def rSetS (w : World) (K : PySem.W.Frag) : List V → Hp → VK → Prop := fun vs H Q => ∃ (a : Addr) (ns : List Nat), vs = [.ref a] ∧ SqT K H a (natVs ns) ∧ (∀ k ∈ ns, k < 8) ∧ ∀ p ks, H p = none → ks ∈ subs8 → (∀ j, j ∈ ks ↔ j ∈ ns) → Q (.ref p) (upd H p (.ext (SmAt w p ks)))
def rSortS (w : World) : List V → Hp → VK → Prop := fun vs H Q => ∃ (a : Addr) (ks : List Nat), vs = [.ref a] ∧ H a = some (.ext (SmAt w a ks)) ∧ ∀ l, H l = none → Q (.ref l) (upd H l (.lst (natVs ks)))
theorem call_setS (hc : X.calm = true) : CallR X (.type "set") (rSetS X.w X.K) := by
  intro pins s σ H xs us Q I r ⟨a, ns, e, ha, h8, q⟩
  subst e
  obtain ⟨u, rfl, ru⟩ := r.one
  obtain rfl : u = Value.ref a := ru
  obtain ⟨its, rv, pl, hz⟩ := I.tuple ha
  have hv : Vals ((ns.map Int.ofNat).map V.int) its := by rw [List.map_map]; exact rv
  refine call_set_sm (items := its.toArray) (ns := ns) (I.ok.hd hc) pl (by simpa using ints_of hv) h8 fun h' tk ks d1 dm d2 => ?_
  obtain ⟨es, ep, o1, o2⟩ := id d1
  exact ⟨.ref s.heap.objs.size, _, I.laid (a := s.heap.objs.size) (o := .ext (SmAt X.w s.heap.objs.size ks)) (fun b u e => d2 b u (Heap.lt_size e) e) (Nat.le_refl _) ⟨d1, ⟨_, o1⟩, fun h1 h2 ⟨es, ep, z1, z2⟩ k => ⟨es, ep, k _ z1, z2⟩⟩, rfl, q _ _ (I.hok.fresh (Nat.le_refl _)) o2.1 dm⟩
theorem call_sortS (hc : X.calm = true) : CallR X (.builtin "sorted") (rSortS X.w) := by
  intro pins s σ H xs us Q I r ⟨a, ks, e, ha, q⟩
  subst e
  obtain ⟨u, rfl, ru⟩ := r.one
  obtain rfl : u = Value.ref a := ru
  have hS : SmAt X.w a ks s.heap := (I.hok a _ ha).1
  obtain ⟨_, _, _, hk8, _⟩ := id hS
  refine sorted_sm (I.ok.hd hc) hS fun l h' tk out c hl hk he hI => ?_
  have hv : Vals (natVs ks) out.toList := by
    have := vals_of_ints hI
    rw [List.map_map] at this
    exact this
  refine ⟨.ref l, _, I.laid (a := l) (t' := tk) (o := .lst (natVs ks)) hk hl ⟨?_, out.toList, c, hv, by simpa using he⟩, rfl, q l (I.hok.fresh hl)⟩
  unfold natVs
  rw [List.length_map, sizeLine_eq]
  have := (sm_sort hk8).2.2
  omega
def rSS (K : PySem.W.Frag) : List V → Hp → VK → Prop := fun vs H Q => ∃ (a : Addr) (ns : List Nat), vs = [.ref a] ∧ SqT K H a (natVs ns) ∧ (∀ k ∈ ns, k < 8) ∧
  ∀ ks : List Nat, ks.Pairwise (· < ·) → (∀ j, j ∈ ks ↔ j ∈ ns) → ∀ H', Same H H' → ∀ l, H' l = none → Q (.ref l) (upd H' l (.lst (natVs ks)))
def tCl (t : TA) : TA := fun σ H Q => ∃ R : List V → Hp → Prop, t σ H R ∧ ∀ vs H1, R vs H1 → Q vs H1
theorem pa_cl {es : List Expr} {t : TA} (h : PA X es t) : PA X es (tCl t) := fun pos pins s σ H Q I ⟨R, h1, h2⟩ => thn (h pos pins s σ H R I h1) fun us s1 ⟨vs, H1, I1, r, q⟩ => ⟨vs, H1, I1, r, h2 vs H1 q⟩
theorem pe_ss {K : PySem.W.Frag} {x y : Str} {p p' pos pos' : Pos} {e : Expr} {es : List Expr} {t : TA} (hK : X.K = K) (hc : X.calm = true) (hg : Gl X x) (hm : X.mg x = none) (hv : bootBuiltins x = some (.builtin "sorted")) (hg' : Gl X y) (hm' : X.mg y = none) (hv' : bootBuiltins y = some (.type "set")) (ha : PA X (e :: es) t)
    (hn : x ≠ "__name__" := by decide) (hdb : (x == ("__debug__" : Str)) = false := by decide) (hn' : y ≠ "__name__" := by decide) (hdb' : (y == ("__debug__" : Str)) = false := by decide)
    (he : starEach (e :: es) X.env = (false, eval e X.env) :: starEach es X.env := by rfl) (hpl : (backTo pos' (starEach es X.env)).any (·.1) = false := by rfl) : PE X (.Call (.Name x p) [.Call (.Name y p') (e :: es) [] pos'] [] pos) (tCB (rSS K) t) := by
  subst hK
  have h1 : PE X (.Call (.Name x p) [.Call (.Name y p') (e :: es) [] pos'] [] pos) (tCB (rSortS X.w) (tCons (tCB (rSetS X.w X.K) (tCl t)) tNil)) := pe_callB (call_sortS hc) hg hm hv (pa_consK (pe_callTy (call_setS hc) hg' hm' hv' (pa_cl ha) hn' hdb' he hpl) pa_nil) hn hdb
  intro pins s σ H Q I h
  refine h1 pins s σ H Q I ⟨_, h, fun vs H1 ⟨a, ns, e1, e2, e3, e4⟩ => ⟨a, ns, e1, e2, e3, fun p ks hp hks hj => ?_⟩⟩
  exact ⟨p, ks, rfl, upd_same, fun l hl => e4 ks (sm_sort hks).1 hj _ (same_new hp _) l hl⟩
end
end L2
namespace K79
abbrev Tie := Nat × Nat
def adj (T : List Tie) (x y : Nat) : Prop := (min x y, max x y) ∈ T
inductive Cn (T : List Tie) (S : List Nat) : Nat → Nat → Prop
  | refl (x : Nat) : Cn T S x x
  | step {x y z : Nat} : Cn T S x y → y ∈ S → z ∈ S → adj T y z → Cn T S x z
variable {T : List Tie} {S : List Nat}
theorem adj_symm {x y : Nat} (h : adj T x y) : adj T y x := by
  unfold adj at h ⊢
  rw [Nat.min_comm, Nat.max_comm]; exact h
theorem Cn.trans {x y z : Nat} (h : Cn T S x y) (g : Cn T S y z) : Cn T S x z := by
  induction g with
  | refl => exact h
  | step _ a b c ih => exact .step ih a b c
theorem Cn.symm {x y : Nat} (h : Cn T S x y) : Cn T S y x := by
  induction h with
  | refl => exact .refl _
  | step _ a b c ih => exact (Cn.step (.refl _) b a (adj_symm c)).trans ih
theorem Cn.mem {x y : Nat} (h : Cn T S x y) (hx : x ∈ S) : y ∈ S := by
  cases h with
  | refl => exact hx
  | step _ _ b _ => exact b
theorem Cn.mono {T' : List Tie} {S' : List Nat} (ht : ∀ e ∈ T, e ∈ T') (hs : ∀ x ∈ S, x ∈ S') {x y : Nat} (h : Cn T S x y) : Cn T' S' x y := by
  induction h with
  | refl => exact .refl _
  | step _ a b c ih => exact .step ih (hs _ a) (hs _ b) (ht _ c)
noncomputable def ncn (T : List Tie) (S0 : List Nat) (x y : Nat) : Bool := @decide (¬ Cn T S0 x y) (Classical.propDecidable _)
theorem ncn_iff {S0 : List Nat} {x y : Nat} : ncn T S0 x y = true ↔ ¬ Cn T S0 x y := by
  unfold ncn
  exact @decide_eq_true_iff _ (Classical.propDecidable _)
noncomputable def cls (T : List Tie) (S0 : List Nat) : Nat → List Nat → Nat
  | 0, _ => 0
  | _ + 1, [] => 0
  | k + 1, x :: l => 1 + cls T S0 k (l.filter (ncn T S0 x))
structure Pt (T : List Tie) (S0 S : List Nat) (P : List (List Nat)) : Prop where
  perm : P.flatten.Perm S
  ne : ∀ q ∈ P, q ≠ []
  cn : ∀ q ∈ P, ∀ x ∈ q, ∀ y ∈ S, y ∈ q ↔ Cn T S0 x y
theorem Pt.len {S0 : List Nat} : ∀ (k : Nat) (S : List Nat) (P : List (List Nat)), S.length ≤ k → S.Nodup → Pt T S0 S P → P.length = cls T S0 k S
  | k, [], P, _, _, h => by
    have : P = [] := by
      cases P with
      | nil => rfl
      | cons q P =>
        have e := List.perm_nil.mp h.perm
        rw [List.flatten_cons] at e
        exact absurd (List.append_eq_nil_iff.mp e).1 (h.ne q (List.mem_cons_self ..))
    subst this
    cases k <;> rfl
  | 0, x :: l, P, hk, _, _ => by simp at hk
  | k + 1, x :: l, P, hk, nd, h => by
    have hx : x ∈ P.flatten := h.perm.mem_iff.mpr (List.mem_cons_self ..)
    obtain ⟨q, hq, hxq⟩ := List.mem_flatten.mp hx
    obtain ⟨P1, P2, rfl⟩ := List.append_of_mem hq
    have hp : (q ++ (P1 ++ P2).flatten).Perm (x :: l) := by
      refine List.Perm.trans ?_ h.perm
      rw [List.flatten_append, List.flatten_append, List.flatten_cons]
      exact List.perm_append_comm_assoc _ _ _
    have nd2 : (q ++ (P1 ++ P2).flatten).Nodup := hp.nodup_iff.mpr nd
    have nd3 := List.nodup_append.mp nd2
    have ndf : (l.filter (ncn T S0 x)).Nodup := List.filter_sublist.nodup (List.nodup_cons.mp nd).2
    have key : ((P1 ++ P2).flatten).Perm (l.filter (ncn T S0 x)) := by
      refine (List.perm_ext_iff_of_nodup nd3.2.1 ndf).mpr fun y => ?_
      rw [List.mem_filter, ncn_iff]
      constructor
      · intro hy
        have hm : y ∈ x :: l := hp.mem_iff.mp (List.mem_append_right _ hy)
        have hnq : y ∉ q := fun z => nd3.2.2 y z y hy rfl
        refine ⟨?_, fun c => hnq ((h.cn q hq x hxq y hm).mpr c)⟩
        rcases List.mem_cons.mp hm with e | hm
        · subst e; exact absurd hxq hnq
        · exact hm
      · rintro ⟨hy, hc⟩
        have hm : y ∈ q ++ (P1 ++ P2).flatten := hp.mem_iff.mpr (List.mem_cons_of_mem _ hy)
        rcases List.mem_append.mp hm with z | z
        · exact absurd ((h.cn q hq x hxq y (List.mem_cons_of_mem _ hy)).mp z) hc
        · exact z
    have hl : (l.filter (ncn T S0 x)).length ≤ k := by
      have := List.length_filter_le (ncn T S0 x) l
      rw [List.length_cons] at hk
      omega
    have hsub : ∀ r, r ∈ P1 ++ P2 → r ∈ P1 ++ q :: P2 := fun r hr => by
      rcases List.mem_append.mp hr with z | z
      · exact List.mem_append_left _ z
      · exact List.mem_append_right _ (List.mem_cons_of_mem _ z)
    have := Pt.len k (l.filter (ncn T S0 x)) (P1 ++ P2) hl ndf ⟨key, fun r hr => h.ne r (hsub r hr), fun r hr z hz y hy => h.cn r (hsub r hr) z hz y (List.mem_cons_of_mem _ (List.mem_filter.mp hy).1)⟩
    rw [cls, ← this, List.length_append, List.length_append, List.length_cons]
    omega
def tiedP (P : List (List Nat)) (e : Tie) : List (List Nat) := P.filter fun q => decide (e.1 ∈ q) || decide (e.2 ∈ q)
def stepP (P : List (List Nat)) (e : Tie) : List (List Nat) :=
  match tiedP P e with
  | [a, b] => (P.filter fun q => !(decide (e.1 ∈ q) || decide (e.2 ∈ q))) ++ [a ++ b]
  | _ => P
theorem adj_snoc {e : Tie} (he : e.1 < e.2) {x y : Nat} : adj (T ++ [e]) x y ↔ adj T x y ∨ (x = e.1 ∧ y = e.2) ∨ (x = e.2 ∧ y = e.1) := by
  unfold adj
  rw [List.mem_append, List.mem_singleton]
  constructor
  · rintro (h | h)
    · exact .inl h
    · have h1 : min x y = e.1 := by rw [← h]
      have h2 : max x y = e.2 := by rw [← h]
      right; omega
  · rintro (h | ⟨h1, h2⟩ | ⟨h1, h2⟩)
    · exact .inl h
    · right; exact Prod.ext (by show min x y = e.1; omega) (by show max x y = e.2; omega)
    · right; exact Prod.ext (by show min x y = e.1; omega) (by show max x y = e.2; omega)
theorem cn_snoc {e : Tie} (he : e.1 < e.2) (h1 : e.1 ∈ S) (h2 : e.2 ∈ S) {x y : Nat} : Cn (T ++ [e]) S x y ↔ Cn T S x y ∨ (Cn T S x e.1 ∧ Cn T S e.2 y) ∨ (Cn T S x e.2 ∧ Cn T S e.1 y) := by
  have up : ∀ {x y}, Cn T S x y → Cn (T ++ [e]) S x y := fun h => h.mono (fun _ h => List.mem_append_left _ h) fun _ h => h
  have ed : Cn (T ++ [e]) S e.1 e.2 := .step (.refl _) h1 h2 ((adj_snoc he).mpr (.inr (.inl ⟨rfl, rfl⟩)))
  constructor
  · intro h
    induction h with
    | refl => exact .inl (.refl _)
    | @step y z _ a b c ih =>
      rcases (adj_snoc he).mp c with c | ⟨rfl, rfl⟩ | ⟨rfl, rfl⟩
      · rcases ih with i | ⟨i, j⟩ | ⟨i, j⟩
        · exact .inl (.step i a b c)
        · exact .inr (.inl ⟨i, .step j a b c⟩)
        · exact .inr (.inr ⟨i, .step j a b c⟩)
      · rcases ih with i | ⟨i, j⟩ | ⟨i, j⟩
        · exact .inr (.inl ⟨i, .refl _⟩)
        · exact .inr (.inl ⟨i, .refl _⟩)
        · exact .inl i
      · rcases ih with i | ⟨i, j⟩ | ⟨i, j⟩
        · exact .inr (.inr ⟨i, .refl _⟩)
        · exact .inl i
        · exact .inr (.inr ⟨i, .refl _⟩)
  · rintro (h | ⟨h, g⟩ | ⟨h, g⟩)
    · exact up h
    · exact ((up h).trans ed).trans (up g)
    · exact ((up h).trans ed.symm).trans (up g)
theorem cn_out {e : Tie} (he : e.1 < e.2) (h : e.1 ∉ S ∨ e.2 ∉ S) {x y : Nat} : Cn (T ++ [e]) S x y ↔ Cn T S x y := by
  constructor
  · intro g
    induction g with
    | refl => exact .refl _
    | step _ a b c ih =>
      rcases (adj_snoc he).mp c with c | ⟨rfl, rfl⟩ | ⟨rfl, rfl⟩
      · exact .step ih a b c
      · rcases h with h | h <;> contradiction
      · rcases h with h | h <;> contradiction
  · exact fun g => g.mono (fun _ h => List.mem_append_left _ h) fun _ h => h
theorem uniq : ∀ {P : List (List Nat)}, P.flatten.Nodup → ∀ {q r : List Nat} {x : Nat}, q ∈ P → r ∈ P → x ∈ q → x ∈ r → q = r
  | [], _, _, _, _, h, _, _, _ => by cases h
  | s :: P, nd, q, r, x, hq, hr, xq, xr => by
    rw [List.flatten_cons] at nd
    have h := List.nodup_append.mp nd
    rcases List.mem_cons.mp hq with e1 | hq' <;> rcases List.mem_cons.mp hr with e2 | hr'
    · rw [e1, e2]
    · rw [e1] at xq
      exact absurd rfl (h.2.2 x xq x (List.mem_flatten.mpr ⟨r, hr', xr⟩))
    · rw [e2] at xr
      exact absurd rfl (h.2.2 x xr x (List.mem_flatten.mpr ⟨q, hq', xq⟩))
    · exact uniq h.2.1 hq' hr' xq xr
theorem nodupP : ∀ {P : List (List Nat)}, P.flatten.Nodup → (∀ q ∈ P, q ≠ []) → P.Nodup
  | [], _, _ => List.nodup_nil
  | q :: P, nd, ne => by
    rw [List.flatten_cons] at nd
    have h := List.nodup_append.mp nd
    refine List.nodup_cons.mpr ⟨fun hq => ?_, nodupP h.2.1 fun r hr => ne r (List.mem_cons_of_mem _ hr)⟩
    have hne := ne q (List.mem_cons_self ..)
    cases q with
    | nil => exact hne rfl
    | cons x q => exact h.2.2 x (List.mem_cons_self ..) x (List.mem_flatten.mpr ⟨_, hq, List.mem_cons_self ..⟩) rfl
theorem all_same {q : List Nat} : ∀ {l : List (List Nat)}, l.Nodup → (∀ r ∈ l, r = q) → l.length ≤ 1
  | [], _, _ => Nat.zero_le _
  | [_], _, _ => Nat.le_refl _
  | a :: b :: l, nd, h => by
    have h1 := h a (by simp)
    have h2 := h b (by simp)
    exact absurd (List.mem_cons_self ..) ((h1.trans h2.symm) ▸ (List.nodup_cons.mp nd).1)
theorem step_small {P : List (List Nat)} {e : Tie} (h : (tiedP P e).length ≤ 1) : stepP P e = P := by
  unfold stepP
  match hm : tiedP P e, h with
  | [], _ => rfl
  | [_], _ => rfl
theorem mem_tied {P : List (List Nat)} {e : Tie} {q : List Nat} : q ∈ tiedP P e ↔ q ∈ P ∧ (e.1 ∈ q ∨ e.2 ∈ q) := by
  unfold tiedP
  rw [List.mem_filter, Bool.or_eq_true, decide_eq_true_iff, decide_eq_true_iff]
theorem Pt.step {P : List (List Nat)} {e : Tie} (nd : S.Nodup) (he : e.1 < e.2) (h : Pt T S S P) : Pt (T ++ [e]) S S (stepP P e) := by
  have ndF : P.flatten.Nodup := h.perm.nodup_iff.mpr nd
  have ndP := nodupP ndF h.ne
  have ndT : (tiedP P e).Nodup := List.filter_sublist.nodup ndP
  have inS : ∀ {q x}, q ∈ P → x ∈ q → x ∈ S := fun hq hx => h.perm.mem_iff.mp (List.mem_flatten.mpr ⟨_, hq, hx⟩)
  have blk : ∀ {x}, x ∈ S → ∃ q ∈ P, x ∈ q := fun hx => List.mem_flatten.mp (h.perm.mem_iff.mpr hx)
  by_cases out : e.1 ∉ S ∨ e.2 ∉ S
  · have small : (tiedP P e).length ≤ 1 := by
      cases ht : tiedP P e with
      | nil => simp
      | cons q l =>
        rw [← ht]
        have hq := mem_tied.mp (show q ∈ tiedP P e by rw [ht]; exact List.mem_cons_self ..)
        refine all_same (q := q) ndT fun r hr => ?_
        have hr := mem_tied.mp hr
        rcases out with o | o
        · have a1 : e.2 ∈ q := hq.2.resolve_left fun z => o (inS hq.1 z)
          have a2 : e.2 ∈ r := hr.2.resolve_left fun z => o (inS hr.1 z)
          exact uniq ndF hr.1 hq.1 a2 a1
        · have a1 : e.1 ∈ q := hq.2.resolve_right fun z => o (inS hq.1 z)
          have a2 : e.1 ∈ r := hr.2.resolve_right fun z => o (inS hr.1 z)
          exact uniq ndF hr.1 hq.1 a2 a1
    rw [step_small small]
    exact ⟨h.perm, h.ne, fun q hq x hx y hy => by rw [cn_out he out]; exact h.cn q hq x hx y hy⟩
  · have h1 : e.1 ∈ S := Classical.byContradiction fun z => out (.inl z)
    have h2 : e.2 ∈ S := Classical.byContradiction fun z => out (.inr z)
    obtain ⟨q1, hq1, x1⟩ := blk h1
    obtain ⟨q2, hq2, x2⟩ := blk h2
    by_cases sm : q1 = q2
    · subst sm
      have c12 : Cn T S e.1 e.2 := (h.cn q1 hq1 _ x1 _ h2).mp x2
      have small : (tiedP P e).length ≤ 1 := all_same (q := q1) ndT fun r hr => by
        have hr := mem_tied.mp hr
        rcases hr.2 with z | z
        · exact uniq ndF hr.1 hq1 z x1
        · exact uniq ndF hr.1 hq1 z x2
      rw [step_small small]
      refine ⟨h.perm, h.ne, fun q hq x hx y hy => ?_⟩
      rw [cn_snoc he h1 h2, h.cn q hq x hx y hy]
      constructor
      · exact .inl
      · rintro (c | ⟨c, d⟩ | ⟨c, d⟩)
        · exact c
        · exact (c.trans c12).trans d
        · exact (c.trans c12.symm).trans d
    · have pm : (tiedP P e).Perm [q1, q2] := by
        refine (List.perm_ext_iff_of_nodup ndT (by simp [sm])).mpr fun r => ?_
        rw [mem_tied]
        constructor
        · rintro ⟨hr, z | z⟩
          · rw [uniq ndF hr hq1 z x1]; simp
          · rw [uniq ndF hr hq2 z x2]; simp
        · intro hr
          rcases List.mem_cons.mp hr with z | z
          · subst z; exact ⟨hq1, .inl x1⟩
          · rw [List.mem_singleton.mp z]; exact ⟨hq2, .inr x2⟩
      obtain ⟨a, b, hab⟩ : ∃ a b, tiedP P e = [a, b] := by
        have := pm.length_eq
        match hm : tiedP P e, this with
        | [a, b], _ => exact ⟨a, b, rfl⟩
      have hs : stepP P e = (P.filter fun q => !(decide (e.1 ∈ q) || decide (e.2 ∈ q))) ++ [a ++ b] := by
        unfold stepP
        rw [hab]
      rw [hab] at pm
      have two : (a = q1 ∧ b = q2) ∨ (a = q2 ∧ b = q1) := by
        have ha : a ∈ [q1, q2] := pm.mem_iff.mp (by simp)
        have hb : b ∈ [q1, q2] := pm.mem_iff.mp (by simp)
        have hne : a ≠ b := by
          have : [a, b].Nodup := by rw [← hab]; exact ndT
          simpa using this
        simp at ha hb
        rcases ha with ha | ha <;> rcases hb with hb | hb
        · exact absurd (ha.trans hb.symm) hne
        · exact .inl ⟨ha, hb⟩
        · exact .inr ⟨ha, hb⟩
        · exact absurd (ha.trans hb.symm) hne
      have mab : ∀ y, y ∈ a ++ b ↔ y ∈ q1 ∨ y ∈ q2 := fun y => by
        rw [List.mem_append]
        rcases two with ⟨rfl, rfl⟩ | ⟨rfl, rfl⟩
        · exact Iff.rfl
        · exact Or.comm
      have n12 : ¬ Cn T S e.1 e.2 := fun c => sm (uniq ndF hq1 hq2 ((h.cn q1 hq1 _ x1 _ h2).mpr c) x2)
      rw [hs]
      refine ⟨?_, fun q hq => ?_, fun q hq x hx y hy => ?_⟩
      · have p1 := (List.filter_append_perm (fun q => decide (e.1 ∈ q) || decide (e.2 ∈ q)) P).flatten
        rw [List.flatten_append] at p1
        rw [List.flatten_append]
        refine List.Perm.trans ?_ (p1.trans h.perm)
        have : (P.filter fun q => decide (e.1 ∈ q) || decide (e.2 ∈ q)) = [a, b] := hab
        rw [this]
        simp only [List.flatten_cons, List.flatten_nil, List.append_nil]
        exact List.perm_append_comm
      · rcases List.mem_append.mp hq with z | z
        · exact h.ne q (List.mem_filter.mp z).1
        · rw [List.mem_singleton.mp z]
          intro w
          have := h.ne a (mem_tied.mp (show a ∈ tiedP P e by rw [hab]; simp)).1
          exact this (List.append_eq_nil_iff.mp w).1
      · rw [cn_snoc he h1 h2]
        rcases List.mem_append.mp hq with z | z
        · obtain ⟨hqP, hf⟩ := List.mem_filter.mp z
          have hf : e.1 ∉ q ∧ e.2 ∉ q := by simpa using hf
          rw [h.cn q hqP x hx y hy]
          constructor
          · exact .inl
          · rintro (c | ⟨c, d⟩ | ⟨c, d⟩)
            · exact c
            · exact absurd ((h.cn q hqP x hx _ h1).mpr c) hf.1
            · exact absurd ((h.cn q hqP x hx _ h2).mpr c) hf.2
        · rw [List.mem_singleton.mp z] at hx ⊢
          rw [mab] at hx ⊢
          rcases hx with hx | hx
          · have c1 : Cn T S x e.1 := (h.cn q1 hq1 x hx _ h1).mp x1
            rw [h.cn q1 hq1 x hx y hy, h.cn q2 hq2 _ x2 y hy]
            constructor
            · rintro (c | c)
              · exact .inl c
              · exact .inr (.inl ⟨c1, c⟩)
            · rintro (c | ⟨c, d⟩ | ⟨c, d⟩)
              · exact .inl c
              · exact .inr d
              · exact absurd (c1.symm.trans c) n12
          · have c2 : Cn T S x e.2 := (h.cn q2 hq2 x hx _ h2).mp x2
            rw [h.cn q1 hq1 _ x1 y hy, h.cn q2 hq2 x hx y hy]
            constructor
            · rintro (c | c)
              · exact .inr (.inr ⟨c2, c⟩)
              · exact .inl c
            · rintro (c | ⟨c, d⟩ | ⟨c, d⟩)
              · exact .inr c
              · exact absurd (c.symm.trans c2) n12
              · exact .inl d
theorem cn_nil {x y : Nat} : Cn [] S x y ↔ x = y := by
  constructor
  · intro h
    cases h with
    | refl => rfl
    | step _ _ _ c => cases c
  · rintro rfl
    exact .refl _
theorem flatten_ones : ∀ l : List Nat, (l.map fun x => [x]).flatten = l
  | [] => rfl
  | x :: l => by rw [List.map_cons, List.flatten_cons, flatten_ones l]; rfl
theorem Pt.init : Pt [] S S (S.map fun x => [x]) := by
  refine ⟨by rw [flatten_ones], fun q hq => ?_, fun q hq x hx y hy => ?_⟩
  · obtain ⟨x, _, rfl⟩ := List.mem_map.mp hq
    exact fun z => by cases z
  · obtain ⟨z, _, rfl⟩ := List.mem_map.mp hq
    rw [List.mem_singleton.mp hx, cn_nil, List.mem_singleton]
    exact eq_comm
theorem Pt.all (nd : S.Nodup) : ∀ (L T : List Tie) (P : List (List Nat)), (∀ e ∈ L, e.1 < e.2) → Pt T S S P → Pt (T ++ L) S S (L.foldl stepP P)
  | [], T, P, _, h => by rw [List.append_nil]; exact h
  | e :: L, T, P, hL, h => by
    have := Pt.all nd L (T ++ [e]) (stepP P e) (fun f hf => hL f (List.mem_cons_of_mem _ hf)) (h.step nd (hL e (List.mem_cons_self ..)))
    rw [List.append_assoc] at this
    exact this
def Clo (T : List Tie) (left R : List Nat) : Prop := (∀ y ∈ R, y ∈ left) ∧ ∀ u ∈ R, ∀ y ∈ left, Cn T left u y → y ∈ R
theorem bfs_end {left R : List Nat} {x : Nat} {g : Nat → Bool} (nx : x ∉ R) (cl : Clo T left (x :: R)) (hc : ∀ y ∈ R, g y = false → Cn T left x y) (done : ∀ u, (u = x ∨ (u ∈ R ∧ g u = false)) → ∀ v ∈ R, g v = true → ¬ adj T u v) : R.filter g = R.filter (ncn T left x) := by
  have seen : ∀ y, Cn T left x y → y = x ∨ (y ∈ R ∧ g y = false) := fun y h => by
    induction h with
    | refl => exact .inl rfl
    | @step y z h a b c ih =>
      have hz := cl.2 x (List.mem_cons_self ..) z b (.step h a b c)
      rcases List.mem_cons.mp hz with e | hz
      · exact .inl e
      · refine .inr ⟨hz, ?_⟩
        cases hg : g z with
        | false => rfl
        | true => exact absurd c (done y ih z hz hg)
  refine List.filter_congr fun y hy => ?_
  cases hg : g y with
  | false =>
    have := hc y hy hg
    cases hn : ncn T left x y with
    | false => rfl
    | true => exact absurd this (ncn_iff.mp hn)
  | true =>
    refine (ncn_iff.mpr fun c => ?_).symm
    rcases seen y c with e | ⟨_, e⟩
    · subst e; exact absurd hy nx
    · rw [hg] at e; cases e
theorem clo_next {left R : List Nat} {x : Nat} (cl : Clo T left (x :: R)) : Clo T left (R.filter (ncn T left x)) := by
  refine ⟨fun y hy => cl.1 y (List.mem_cons_of_mem _ (List.mem_filter.mp hy).1), fun u hu y hy c => ?_⟩
  obtain ⟨hu1, hu2⟩ := List.mem_filter.mp hu
  have hm := cl.2 u (List.mem_cons_of_mem _ hu1) y hy c
  have hn := ncn_iff.mp hu2
  rcases List.mem_cons.mp hm with e | hm
  · subst e; exact absurd c.symm hn
  · exact List.mem_filter.mpr ⟨hm, ncn_iff.mpr fun z => hn (z.trans c.symm)⟩
theorem clo_all {left : List Nat} : Clo T left left := ⟨fun _ h => h, fun _ _ _ h _ => h⟩
theorem cls_fuel {left : List Nat} : ∀ (k m : Nat) (R : List Nat), R.length ≤ k → R.length ≤ m → cls T left k R = cls T left m R
  | 0, m, [], _, _ => by cases m <;> rfl
  | k + 1, m, [], _, _ => by cases m <;> rfl
  | 0, m, x :: R, h, _ => by simp at h
  | k + 1, 0, x :: R, _, h => by simp at h
  | k + 1, m + 1, x :: R, h1, h2 => by
    have hl := List.length_filter_le (ncn T left x) R
    rw [List.length_cons] at h1 h2
    rw [cls, cls, cls_fuel k m _ (by omega) (by omega)]
theorem cls_cons {left R : List Nat} {x k : Nat} (h : (x :: R).length ≤ k) : cls T left k (x :: R) = 1 + cls T left k (R.filter (ncn T left x)) := by
  cases k with
  | zero => simp at h
  | succ k =>
    have hl := List.length_filter_le (ncn T left x) R
    rw [List.length_cons] at h
    rw [cls, cls_fuel k (k + 1) _ (by omega) (by omega)]
end K79
namespace K79
open PySem L2
def top (i : Nat) : Stmt := PySem.Challenge.pw_homeround_k79_webs_parted.main.body.getD i (.Pass ⟨0, 0, 0, 0⟩)
section
variable {P : Program} {w : World} {K : PySem.W.Frag} {mg : Str → Option Value} {base : Heap} {f : Addr} {fd : FuncData}
theorem sc_parts : FnScope ["places", "ties", "found", "i", "j", "tied"] ["places", "ties"] (defScope (top 1)) := ⟨rfl, rfl, rfl, by decide +kernel, rfl, by decide +kernel, by decide +kernel⟩
def T_parts (K : PySem.W.Frag)   : TS := (tSeq (tAsg (tComp [none] (iSeq K (tVar 0)) (gName 0) [] fun acc => (tEmit (tLst (tCons (tVar 0) tNil)) acc)) (gName 2)) (tSeq (tFor (iSeq K (tVar 1)) (gTup K 2 (gCons (gName 3) (gCons (gName 4) gNil))) (tSeq (tAsg (tComp [none, some 3, some 4] (iSeq K (tVar 2)) (gName 0) [(tOr (tTest (tOp (rInC K false) (tVar 1) (tVar 0))) (tTest (tOp (rInC K false) (tVar 2) (tVar 0))))] fun acc => (tEmit (tVar 0) acc)) (gName 5)) (tSeq (tIfS (tTest (tOp (rEqD K) (tCB (rLen K) (tCons (tVar 5) tNil)) (tC (.int 2)))) (tSeq (tAsg (tOp (rAddA K) (tComp [none, some 5] (iSeq K (tVar 2)) (gName 0) [(tTest (tOp (rInC K true) (tVar 0) (tVar 1)))] fun acc => (tEmit (tVar 0) acc)) (tLst (tCons (tOp (rAddA K) (tOp (rIx2 K) (tVar 5) (tC (.int 0))) (tOp (rIx2 K) (tVar 5) (tC (.int 1)))) tNil))) (gName 2)) tNext) tNext) tNext))) (tSeq (tRet (tVar 2)) tNext)))
theorem ok_parts (F : Fun K "parts" "parts" (top 1) f fd) (B : Blt4 mg)      {sp : Sp} (len : ∀ vs H Q E, sp vs H Q E → vs.length = 2)
    (rd : ∀ vs H Q E, sp vs H Q E → T_parts K   { nx := fun _ H' => Q .non H', rt := Q } (start ["places", "ties", "found", "i", "j", "tied"] vs) H) : FnOk P w K mg base CX0 1 f fd ["places", "ties"] sp := by
  refine F.ok sc_parts len (fun cdv A outer s H vs Q E hr h => ⟨_, ?_, rd vs H Q E h⟩)
  have nd := sc_parts.nd
  exact (@pss_cons _ _ _ _ _ (ps_setComp (i := 2) nd rfl (Or.inl rfl) (N' := ["place"]) (ix := [none]) rfl rfl rfl (pi_seqK (K := K) rfl (pv 0)) (fun _ _ _ => (pg_name (i := 0) (show (["place"] : List Str).Nodup from by decide +kernel) rfl (Or.inl rfl))) (fun _ _ _ => .nil) (fun _ _ _ _ => (pb_emit rfl (@pe_lst _ _ _ _ (@pa_consN _ _ _ _ _ _ (pv 0) pa_nil)) rfl))) (@pss_cons _ _ _ _ _ (ps_for PassesOwn.never rfl (pi_seqK (K := K) rfl (pv 1)) (pg_tupK (K := K) rfl rfl (pgs_cons (pg_name (i := 3) nd rfl (Or.inr rfl)) (pgs_cons (pg_name (i := 4) nd rfl (Or.inr rfl)) pgs_nil))) (@pss_cons _ _ _ _ _ (@ps_set _ _ 5 _ _ _ _ nd rfl (Or.inr rfl) (pe_comp (N' := ["part", "i", "j"]) (ix := [none, some 3, some 4]) rfl rfl rfl (pi_seqK (K := K) rfl (pv 2)) (fun _ _ _ => (pg_name (i := 0) (show (["part", "i", "j"] : List Str).Nodup from by decide +kernel) rfl (Or.inl rfl))) (fun _ _ _ => (.cons (PW.pt (pw_or (pt_cmpR (op_inCK (K := K) rfl hr) (pv 1) (pv 0) rfl) (pw_or1 (pt_cmpR (op_inCK (K := K) rfl hr) (pv 2) (pv 0) rfl)))) .nil)) (fun _ _ _ _ => (pb_emit rfl (pv 0) rfl))) (by rfl) (by first | exact .inl rfl | exact .inr rfl | assumption)) (@pss_cons _ _ _ _ _ (@ps_if _ _ _ _ _ _ _ _ (pt_cmpR (op_eqK (K := K) rfl hr) (pe_callB (call_lenK (K := K) rfl) rfl B.len bt_len (@pa_consN _ _ _ _ _ _ (pv 5) pa_nil)) pe_int (nomark _)) (@pss_cons _ _ _ _ _ (@ps_set _ _ 2 _ _ _ _ nd rfl (Or.inl rfl) (@pe_op _ _ _ _ _ _ _ _ (op_addK (K := K) rfl) (pe_comp (N' := ["part", "tied"]) (ix := [none, some 5]) rfl rfl rfl (pi_seqK (K := K) rfl (pv 2)) (fun _ _ _ => (pg_name (i := 0) (show (["part", "tied"] : List Str).Nodup from by decide +kernel) rfl (Or.inl rfl))) (fun _ _ _ => (.cons (pt_cmpR (op_notInCK (K := K) rfl hr) (pv 0) (pv 1) rfl) .nil)) (fun _ _ _ _ => (pb_emit rfl (pv 0) rfl))) (@pe_lst _ _ _ _ (@pa_consB _ _ _ _ _ _ _ _ (@pe_op _ _ _ _ _ _ _ _ (op_addK (K := K) rfl) (@pe_ix _ _ _ _ _ _ _ (ix_sqK (K := K) rfl) (pv 5) pe_int (fun _ _ => rfl)) (@pe_ix _ _ _ _ _ _ _ (ix_sqK (K := K) rfl) (pv 5) pe_int (fun _ _ => rfl))) pa_nil))) (by rfl) (by first | exact .inl rfl | exact .inr rfl | assumption)) pss_nil) pss_nil) pss_nil))) (@pss_cons _ _ _ _ _ (@ps_ret _ _ _ _ (pv 2)) pss_nil)))
theorem sc_parting : FnScope ["web", "many", "ties", "some", "rest"] ["web"] (defScope (top 3)) := ⟨rfl, rfl, rfl, by decide +kernel, rfl, by decide +kernel, by decide +kernel⟩
def T_parting (K : PySem.W.Frag)  (sp_parts : Sp) (sp_some_places : Sp) : TS := (tSeq (tAsg (tVar 0) (gTup K 2 (gCons (gName 1) (gCons (gName 2) gNil)))) (tSeq (tFor (iSeq K (tCall sp_some_places [] E0 (tCons (tVar 1) tNil))) (gName 3) (tSeq (tAsg (tComp [none, some 3] (iRng1 (tCons (tVar 1) tNil)) (gName 0) [(tTest (tOp (rInC K true) (tVar 0) (tVar 1)))] fun acc => (tEmit (tVar 0) acc)) (gName 4)) (tSeq (tIfS (tTest (tOp yGt (tCB (rLen K) (tCons (tCall sp_parts [] E0 (tCons (tVar 4) (tCons (tVar 2) tNil))) tNil)) (tCB (rLen K) (tCons (tVar 3) tNil)))) (tSeq (tRet (tVar 3)) tNext) tNext) tNext))) (tSeq (tRet (tC .non)) tNext)))
theorem ok_parting (F : Fun K "parting" "parting" (top 3) f fd) (B : Blt4 mg)    {sp_parts : Sp} (D_parts : Def P w K mg base "parts" 1 ["places", "ties"] sp_parts) {sp_some_places : Sp} (D_some_places : Def P w K mg base "some_places" 1 ["many"] sp_some_places)  {sp : Sp} (len : ∀ vs H Q E, sp vs H Q E → vs.length = 1)
    (rd : ∀ vs H Q E, sp vs H Q E → T_parting K  sp_parts sp_some_places { nx := fun _ H' => Q .non H', rt := Q } (start ["web", "many", "ties", "some", "rest"] vs) H) : FnOk P w K mg base CX0 2 f fd ["web"] sp := by
  refine F.ok sc_parting len (fun cdv A outer s H vs Q E hr h => ⟨_, ?_, rd vs H Q E h⟩)
  have nd := sc_parting.nd
  exact (@pss_cons _ _ _ _ _ (ps_asg (pv 0) (pg_tupK (K := K) rfl rfl (pgs_cons (pg_name (i := 1) nd rfl (Or.inl rfl)) (pgs_cons (pg_name (i := 2) nd rfl (Or.inl rfl)) pgs_nil)))) (@pss_cons _ _ _ _ _ (ps_for PassesOwn.never rfl (pi_seqK (K := K) rfl (pe_def (D_some_places.mono (by decide)) hr rfl (@pa_consN _ _ _ _ _ _ (pv 1) pa_nil))) (pg_name (i := 3) nd rfl (Or.inr rfl)) (@pss_cons _ _ _ _ _ (ps_setComp (i := 4) nd rfl (Or.inl rfl) (N' := ["place", "some"]) (ix := [none, some 3]) rfl rfl rfl (pi_range1 rfl B.range (@pa_consN _ _ _ _ _ _ (pv 1) pa_nil)) (fun _ _ _ => (pg_name (i := 0) (show (["place", "some"] : List Str).Nodup from by decide +kernel) rfl (Or.inl rfl))) (fun _ _ _ => (.cons (pt_cmpR (op_notInCK (K := K) rfl hr) (pv 0) (pv 1) rfl) .nil)) (fun _ _ _ _ => (pb_emit rfl (pv 0) rfl))) (@pss_cons _ _ _ _ _ (@ps_if _ _ _ _ _ _ _ _ (pt_cmpR op_gt (pe_callB (call_lenK (K := K) rfl) rfl B.len bt_len (@pa_consK _ _ _ _ _ _ _ _ (pe_def (D_parts.mono (by decide)) hr rfl (@pa_consN _ _ _ _ _ _ (pv 4) (@pa_consN _ _ _ _ _ _ (pv 2) pa_nil))) pa_nil)) (pe_callB (call_lenK (K := K) rfl) rfl B.len bt_len (@pa_consN _ _ _ _ _ _ (pv 3) pa_nil)) (nomark _)) (@pss_cons _ _ _ _ _ (@ps_ret _ _ _ _ (pv 3)) pss_nil) pss_nil) pss_nil))) (@pss_cons _ _ _ _ _ (@ps_ret _ _ _ _ pe_non) pss_nil)))
theorem sc_some_places : FnScope ["many", "found", "place"] ["many"] (defScope (top 4)) := ⟨rfl, rfl, rfl, by decide +kernel, rfl, by decide +kernel, by decide +kernel⟩
def T_some_places (K : PySem.W.Frag)   : TS := (tSeq (tAsg (tLst (tCons (tTup tNil) tNil)) (gName 1)) (tSeq (tFor (iRng1 (tCons (tVar 0) tNil)) (gName 2) (tSeq (tAsg (tOp (rAddA K) (tVar 1) (tComp [none, some 2] (iSeq K (tVar 1)) (gName 0) [] fun acc => (tEmit (tOp (rAddA K) (tVar 0) (tTup (tCons (tVar 1) tNil))) acc))) (gName 1)) tNext)) (tSeq (tRet (tSl (rSlU K) (tVar 1) (tPart (tC (.int 1))) tNoPart)) tNext)))
theorem ok_some_places (F : Fun K "some_places" "some_places" (top 4) f fd) (B : Blt4 mg)      {sp : Sp} (len : ∀ vs H Q E, sp vs H Q E → vs.length = 1)
    (rd : ∀ vs H Q E, sp vs H Q E → T_some_places K   { nx := fun _ H' => Q .non H', rt := Q } (start ["many", "found", "place"] vs) H) : FnOk P w K mg base CX0 1 f fd ["many"] sp := by
  refine F.ok sc_some_places len (fun cdv A outer s H vs Q E hr h => ⟨_, ?_, rd vs H Q E h⟩)
  have nd := sc_some_places.nd
  exact (@pss_cons _ _ _ _ _ (@ps_set _ _ 1 _ _ _ _ nd rfl (Or.inl rfl) (@pe_lst _ _ _ _ (@pa_consT _ _ _ _ _ _ _ (@pe_tup _ _ _ _ _ pa_nil) pa_nil)) (by rfl) (by first | exact .inl rfl | exact .inr rfl | assumption)) (@pss_cons _ _ _ _ _ (ps_for PassesOwn.never rfl (pi_range1 rfl B.range (@pa_consN _ _ _ _ _ _ (pv 0) pa_nil)) (pg_name (i := 2) nd rfl (Or.inr rfl)) (@pss_cons _ _ _ _ _ (@ps_set _ _ 1 _ _ _ _ nd rfl (Or.inl rfl) (@pe_op _ _ _ _ _ _ _ _ (op_addK (K := K) rfl) (pv 1) (pe_comp (N' := ["some", "place"]) (ix := [none, some 2]) rfl rfl rfl (pi_seqK (K := K) rfl (pv 1)) (fun _ _ _ => (pg_name (i := 0) (show (["some", "place"] : List Str).Nodup from by decide +kernel) rfl (Or.inl rfl))) (fun _ _ _ => .nil) (fun _ _ _ _ => (pb_emit rfl (@pe_op _ _ _ _ _ _ _ _ (op_addK (K := K) rfl) (pv 0) (@pe_tup _ _ _ _ _ (@pa_consN _ _ _ _ _ _ (pv 1) pa_nil))) rfl)))) (by rfl) (by first | exact .inl rfl | exact .inr rfl | assumption)) pss_nil)) (@pss_cons _ _ _ _ _ (@ps_ret _ _ _ _ (pe_slice (sl_uK (K := K) rfl) (pv 1) (po_some pe_int) po_none)) pss_nil)))
theorem sc__law_gspread : FnScope ["cell", "at", "one", "two", "three"] ["cell", "at"] (defScope (top 6)) := ⟨rfl, rfl, rfl, by decide +kernel, rfl, by decide +kernel, by decide +kernel⟩
def T__law_gspread (K : PySem.W.Frag)   : TS := (tSeq (tAsg (tOp yMod (tOp (rAddA K) (tOp (rAddA K) (tOp rMulA (tOp yMod (tVar 0) (tC (.int 2147483587))) (tC (.int 48271))) (tOp rMulA (tVar 1) (tC (.int 69069)))) (tC (.int 11))) (tC (.int 2147483629))) (gName 2)) (tSeq (tAsg (tOp yMod (tOp (rAddA K) (tOp (rAddA K) (tOp yMod (tOp yPow (tVar 2) (tC (.int 5))) (tC (.int 2147483647))) (tOp rMulA (tC (.int 7919)) (tVar 1))) (tOp yMod (tVar 0) (tC (.int 65521)))) (tC (.int 2147483563))) (gName 3)) (tSeq (tAsg (tOp yMod (tOp (rAddA K) (tOp (rAddA K) (tOp rMulA (tVar 3) (tVar 3)) (tVar 2)) (tC (.int 5))) (tC (.int 2147483549))) (gName 4)) (tSeq (tRet (tOp (rAddA K) (tOp rMulA (tOp (rAddA K) (tOp rMulA (tVar 3) (tC (.int 2147483629))) (tVar 4)) (tC (.int 2147483587))) (tVar 2))) tNext))))
theorem ok__law_gspread (F : Fun K "_law_gspread" "_law_gspread" (top 6) f fd) (B : Blt4 mg)      {sp : Sp} (len : ∀ vs H Q E, sp vs H Q E → vs.length = 2)
    (rd : ∀ vs H Q E, sp vs H Q E → T__law_gspread K   { nx := fun _ H' => Q .non H', rt := Q } (start ["cell", "at", "one", "two", "three"] vs) H) : FnOk P w K mg base CX0 1 f fd ["cell", "at"] sp := by
  refine F.ok sc__law_gspread len (fun cdv A outer s H vs Q E hr h => ⟨_, ?_, rd vs H Q E h⟩)
  have nd := sc__law_gspread.nd
  exact (@pss_cons _ _ _ _ _ (@ps_set _ _ 2 _ _ _ _ nd rfl (Or.inl rfl) (@pe_op _ _ _ _ _ _ _ _ op_mod (@pe_op _ _ _ _ _ _ _ _ (op_addK (K := K) rfl) (@pe_op _ _ _ _ _ _ _ _ (op_addK (K := K) rfl) (@pe_op _ _ _ _ _ _ _ _ op_mulA (@pe_op _ _ _ _ _ _ _ _ op_mod (pv 0) pe_int) pe_int) (@pe_op _ _ _ _ _ _ _ _ op_mulA (pv 1) pe_int)) pe_int) pe_int) (by rfl) (by first | exact .inl rfl | exact .inr rfl | assumption)) (@pss_cons _ _ _ _ _ (@ps_set _ _ 3 _ _ _ _ nd rfl (Or.inl rfl) (@pe_op _ _ _ _ _ _ _ _ op_mod (@pe_op _ _ _ _ _ _ _ _ (op_addK (K := K) rfl) (@pe_op _ _ _ _ _ _ _ _ (op_addK (K := K) rfl) (@pe_op _ _ _ _ _ _ _ _ op_mod (@pe_op _ _ _ _ _ _ _ _ op_pow (pv 2) pe_int) pe_int) (@pe_op _ _ _ _ _ _ _ _ op_mulA pe_int (pv 1))) (@pe_op _ _ _ _ _ _ _ _ op_mod (pv 0) pe_int)) pe_int) (by rfl) (by first | exact .inl rfl | exact .inr rfl | assumption)) (@pss_cons _ _ _ _ _ (@ps_set _ _ 4 _ _ _ _ nd rfl (Or.inl rfl) (@pe_op _ _ _ _ _ _ _ _ op_mod (@pe_op _ _ _ _ _ _ _ _ (op_addK (K := K) rfl) (@pe_op _ _ _ _ _ _ _ _ (op_addK (K := K) rfl) (@pe_op _ _ _ _ _ _ _ _ op_mulA (pv 3) (pv 3)) (pv 2)) pe_int) pe_int) (by rfl) (by first | exact .inl rfl | exact .inr rfl | assumption)) (@pss_cons _ _ _ _ _ (@ps_ret _ _ _ _ (@pe_op _ _ _ _ _ _ _ _ (op_addK (K := K) rfl) (@pe_op _ _ _ _ _ _ _ _ op_mulA (@pe_op _ _ _ _ _ _ _ _ (op_addK (K := K) rfl) (@pe_op _ _ _ _ _ _ _ _ op_mulA (pv 3) pe_int) (pv 4)) pe_int) (pv 2))) pss_nil))))
theorem sc__law_gdraw : FnScope ["tape", "many", "at", "cell", "drawn"] ["tape", "many"] (defScope (top 7)) := ⟨rfl, rfl, rfl, by decide +kernel, rfl, by decide +kernel, by decide +kernel⟩
def T__law_gdraw (K : PySem.W.Frag)  (sp__law_gspread : Sp) : TS := (tSeq (tIfS (tTest (tOp yLt (tOp (rIx2 K) (tVar 0) (tC (.int 2))) (tVar 1))) (tSeq (tAsg (tOp (rIx2 K) (tVar 0) (tC (.int 1))) (gName 2)) (tSeq (tAsg (tOp (rAddA K) (tOp rMulA (tC (.int 7)) (tVar 2)) (tC (.int 3))) (gName 3)) (tSeq (tIfS (tTest (tOp yLt (tVar 2) (tCB (rLen K) (tCons (tOp (rIx2 K) (tVar 0) (tC (.int 0))) tNil)))) (tSeq (tAsg (tOp (rIx2 K) (tOp (rIx2 K) (tVar 0) (tC (.int 0))) (tVar 2)) (gName 3)) tNext) (tSeq (tIfS (tTest (tOp yGt (tCB (rLen K) (tCons (tOp (rIx2 K) (tVar 0) (tC (.int 0))) tNil)) (tC (.int 0)))) (tSeq (tAsg (tOp rMulA (tOp yMod (tOp (rIx2 K) (tOp (rIx2 K) (tVar 0) (tC (.int 0))) (tOp yMod (tVar 2) (tCB (rLen K) (tCons (tOp (rIx2 K) (tVar 0) (tC (.int 0))) tNil)))) (tC (.int 99991))) (tOp (rAddA K) (tVar 2) (tC (.int 1)))) (gName 3)) tNext) tNext) tNext)) (tSeq (tAsg (tOp (rAddA K) (tVar 2) (tC (.int 1))) (gSub (tVar 0) (tC (.int 1)) rSetL)) (tSeq (tAsg (tVar 3) (gSub (tVar 0) (tC (.int 2)) rSetL)) (tSeq (tIfS (tTest (tOp yLt (tVar 3) (tOp yPow (tC (.int 10)) (tC (.int 18))))) (tSeq (tAsg (tCall sp__law_gspread [] E0 (tCons (tVar 3) (tCons (tVar 2) tNil))) (gSub (tVar 0) (tC (.int 2)) rSetL)) tNext) tNext) tNext)))))) tNext) (tSeq (tAsg (tOp yMod (tOp (rIx2 K) (tVar 0) (tC (.int 2))) (tVar 1)) (gName 4)) (tSeq (tAsg (tOp yDiv (tOp (rIx2 K) (tVar 0) (tC (.int 2))) (tVar 1)) (gSub (tVar 0) (tC (.int 2)) rSetL)) (tSeq (tRet (tVar 4)) tNext))))
theorem ok__law_gdraw (F : Fun K "_law_gdraw" "_law_gdraw" (top 7) f fd) (B : Blt4 mg)    {sp__law_gspread : Sp} (D__law_gspread : Def P w K mg base "_law_gspread" 1 ["cell", "at"] sp__law_gspread)  {sp : Sp} (len : ∀ vs H Q E, sp vs H Q E → vs.length = 2)
    (rd : ∀ vs H Q E, sp vs H Q E → T__law_gdraw K  sp__law_gspread { nx := fun _ H' => Q .non H', rt := Q } (start ["tape", "many", "at", "cell", "drawn"] vs) H) : FnOk P w K mg base CX0 2 f fd ["tape", "many"] sp := by
  refine F.ok sc__law_gdraw len (fun cdv A outer s H vs Q E hr h => ⟨_, ?_, rd vs H Q E h⟩)
  have nd := sc__law_gdraw.nd
  exact (@pss_cons _ _ _ _ _ (@ps_if _ _ _ _ _ _ _ _ (pt_cmpR op_lt (@pe_ix _ _ _ _ _ _ _ (ix_sqK (K := K) rfl) (pv 0) pe_int (fun _ _ => rfl)) (pv 1) (nomark _)) (@pss_cons _ _ _ _ _ (@ps_set _ _ 2 _ _ _ _ nd rfl (Or.inl rfl) (@pe_ix _ _ _ _ _ _ _ (ix_sqK (K := K) rfl) (pv 0) pe_int (fun _ _ => rfl)) (by rfl) (by first | exact .inl rfl | exact .inr rfl | assumption)) (@pss_cons _ _ _ _ _ (@ps_set _ _ 3 _ _ _ _ nd rfl (Or.inl rfl) (@pe_op _ _ _ _ _ _ _ _ (op_addK (K := K) rfl) (@pe_op _ _ _ _ _ _ _ _ op_mulA pe_int (pv 2)) pe_int) (by rfl) (by first | exact .inl rfl | exact .inr rfl | assumption)) (@pss_cons _ _ _ _ _ (@ps_if _ _ _ _ _ _ _ _ (pt_cmpR op_lt (pv 2) (pe_callB (call_lenK (K := K) rfl) rfl B.len bt_len (@pa_consS _ _ _ _ _ _ _ (@pe_ix _ _ _ _ _ _ _ (ix_sqK (K := K) rfl) (pv 0) pe_int (fun _ _ => rfl)) pa_nil)) (nomark _)) (@pss_cons _ _ _ _ _ (@ps_set _ _ 3 _ _ _ _ nd rfl (Or.inl rfl) (@pe_ix _ _ _ _ _ _ _ (ix_sqK (K := K) rfl) (@pe_ix _ _ _ _ _ _ _ (ix_sqK (K := K) rfl) (pv 0) pe_int (fun _ _ => rfl)) (pv 2) (fun _ _ => rfl)) (by rfl) (by first | exact .inl rfl | exact .inr rfl | assumption)) pss_nil) (@pss_cons _ _ _ _ _ (@ps_if _ _ _ _ _ _ _ _ (pt_cmpR op_gt (pe_callB (call_lenK (K := K) rfl) rfl B.len bt_len (@pa_consS _ _ _ _ _ _ _ (@pe_ix _ _ _ _ _ _ _ (ix_sqK (K := K) rfl) (pv 0) pe_int (fun _ _ => rfl)) pa_nil)) pe_int (nomark _)) (@pss_cons _ _ _ _ _ (@ps_set _ _ 3 _ _ _ _ nd rfl (Or.inl rfl) (@pe_op _ _ _ _ _ _ _ _ op_mulA (@pe_op _ _ _ _ _ _ _ _ op_mod (@pe_ix _ _ _ _ _ _ _ (ix_sqK (K := K) rfl) (@pe_ix _ _ _ _ _ _ _ (ix_sqK (K := K) rfl) (pv 0) pe_int (fun _ _ => rfl)) (@pe_op _ _ _ _ _ _ _ _ op_mod (pv 2) (pe_callB (call_lenK (K := K) rfl) rfl B.len bt_len (@pa_consS _ _ _ _ _ _ _ (@pe_ix _ _ _ _ _ _ _ (ix_sqK (K := K) rfl) (pv 0) pe_int (fun _ _ => rfl)) pa_nil))) (fun _ _ => rfl)) pe_int) (@pe_op _ _ _ _ _ _ _ _ (op_addK (K := K) rfl) (pv 2) pe_int)) (by rfl) (by first | exact .inl rfl | exact .inr rfl | assumption)) pss_nil) pss_nil) pss_nil)) (@pss_cons _ _ _ _ _ (ps_asg (@pe_op _ _ _ _ _ _ _ _ (op_addK (K := K) rfl) (pv 2) pe_int) (pg_sub (pv 0) pe_int set_list)) (@pss_cons _ _ _ _ _ (ps_asg (pv 3) (pg_sub (pv 0) pe_int set_list)) (@pss_cons _ _ _ _ _ (@ps_if _ _ _ _ _ _ _ _ (pt_cmpR op_lt (pv 3) (@pe_op _ _ _ _ _ _ _ _ op_pow pe_int pe_int) (nomark _)) (@pss_cons _ _ _ _ _ (ps_asg (pe_def (D__law_gspread.mono (by decide)) hr rfl (@pa_consN _ _ _ _ _ _ (pv 3) (@pa_consN _ _ _ _ _ _ (pv 2) pa_nil))) (pg_sub (pv 0) pe_int set_list)) pss_nil) pss_nil) pss_nil)))))) pss_nil) (@pss_cons _ _ _ _ _ (@ps_set _ _ 4 _ _ _ _ nd rfl (Or.inl rfl) (@pe_op _ _ _ _ _ _ _ _ op_mod (@pe_ix _ _ _ _ _ _ _ (ix_sqK (K := K) rfl) (pv 0) pe_int (fun _ _ => rfl)) (pv 1)) (by rfl) (by first | exact .inl rfl | exact .inr rfl | assumption)) (@pss_cons _ _ _ _ _ (ps_asg (@pe_op _ _ _ _ _ _ _ _ op_fdiv (@pe_ix _ _ _ _ _ _ _ (ix_sqK (K := K) rfl) (pv 0) pe_int (fun _ _ => rfl)) (pv 1)) (pg_sub (pv 0) pe_int set_list)) (@pss_cons _ _ _ _ _ (@ps_ret _ _ _ _ (pv 4)) pss_nil))))
theorem sc__law_gweb : FnScope ["tape", "least", "most", "many", "often", "ties", "i"] ["tape", "least", "most"] (defScope (top 8)) := ⟨rfl, rfl, rfl, by decide +kernel, rfl, by decide +kernel, by decide +kernel⟩
def T__law_gweb (K : PySem.W.Frag)  (sp__law_gdraw : Sp) : TS := (tSeq (tAsg (tOp (rAddA K) (tVar 1) (tCall sp__law_gdraw [] E0 (tCons (tVar 0) (tCons (tOp ySub (tOp (rAddA K) (tVar 2) (tC (.int 1))) (tVar 1)) tNil)))) (gName 3)) (tSeq (tAsg (tOp (rAddA K) (tC (.int 1)) (tCall sp__law_gdraw [] E0 (tCons (tVar 0) (tCons (tC (.int 4)) tNil)))) (gName 4)) (tSeq (tAsg (tLst tNil) (gName 5)) (tSeq (tFor (iRng1 (tCons (tVar 3) tNil)) (gName 6) (tSeq (tDrop (tBM K "list" (rExtendA K) (tVar 5) (tCons (tComp [none, some 0, some 4, some 6] (iRng2 (tCons (tOp (rAddA K) (tVar 6) (tC (.int 1))) (tCons (tVar 3) tNil))) (gName 0) [(tTest (tOp yLt (tCall sp__law_gdraw [] E0 (tCons (tVar 1) (tCons (tC (.int 5)) tNil))) (tVar 2)))] fun acc => (tEmit (tTup (tCons (tVar 3) (tCons (tVar 0) tNil))) acc)) tNil))) tNext)) (tSeq (tIfS (tTest (tOp (rEqD K) (tCall sp__law_gdraw [] E0 (tCons (tVar 0) (tCons (tC (.int 4)) tNil))) (tC (.int 0)))) (tSeq (tAsg (tComp [none] (iSeq K (tVar 5)) (gName 0) [(tTest (tOp (rNeD K) (tOp yDiv (tOp (rIx2 K) (tVar 0) (tC (.int 0))) (tC (.int 2))) (tOp yDiv (tOp (rIx2 K) (tVar 0) (tC (.int 1))) (tC (.int 3)))))] fun acc => (tEmit (tVar 0) acc)) (gName 5)) tNext) tNext) (tSeq (tRet (tTup (tCons (tVar 3) (tCons (tCB (rTuple K) (tCons (tVar 5) tNil)) tNil)))) tNext))))))
theorem ok__law_gweb (F : Fun K "_law_gweb" "_law_gweb" (top 8) f fd) (B : Blt4 mg)    {sp__law_gdraw : Sp} (D__law_gdraw : Def P w K mg base "_law_gdraw" 2 ["tape", "many"] sp__law_gdraw)  {sp : Sp} (len : ∀ vs H Q E, sp vs H Q E → vs.length = 3)
    (rd : ∀ vs H Q E, sp vs H Q E → T__law_gweb K  sp__law_gdraw { nx := fun _ H' => Q .non H', rt := Q } (start ["tape", "least", "most", "many", "often", "ties", "i"] vs) H) : FnOk P w K mg base CX0 3 f fd ["tape", "least", "most"] sp := by
  refine F.ok sc__law_gweb len (fun cdv A outer s H vs Q E hr h => ⟨_, ?_, rd vs H Q E h⟩)
  have nd := sc__law_gweb.nd
  exact (@pss_cons _ _ _ _ _ (@ps_set _ _ 3 _ _ _ _ nd rfl (Or.inl rfl) (@pe_op _ _ _ _ _ _ _ _ (op_addK (K := K) rfl) (pv 1) (pe_def (D__law_gdraw.mono (by decide)) hr rfl (@pa_consN _ _ _ _ _ _ (pv 0) (@pa_consB _ _ _ _ _ _ _ _ (@pe_op _ _ _ _ _ _ _ _ op_sub (@pe_op _ _ _ _ _ _ _ _ (op_addK (K := K) rfl) (pv 2) pe_int) (pv 1)) pa_nil)))) (by rfl) (by first | exact .inl rfl | exact .inr rfl | assumption)) (@pss_cons _ _ _ _ _ (@ps_set _ _ 4 _ _ _ _ nd rfl (Or.inr rfl) (@pe_op _ _ _ _ _ _ _ _ (op_addK (K := K) rfl) pe_int (pe_def (D__law_gdraw.mono (by decide)) hr rfl (@pa_consN _ _ _ _ _ _ (pv 0) (@pa_consC _ _ _ _ _ _ _ pe_int pa_nil)))) (by rfl) (by first | exact .inl rfl | exact .inr rfl | assumption)) (@pss_cons _ _ _ _ _ (@ps_set _ _ 5 _ _ _ _ nd rfl (Or.inl rfl) (@pe_lst _ _ _ _ pa_nil) (by rfl) (by first | exact .inl rfl | exact .inr rfl | assumption)) (@pss_cons _ _ _ _ _ (ps_for PassesOwn.never rfl (pi_range1 rfl B.range (@pa_consN _ _ _ _ _ _ (pv 3) pa_nil)) (pg_name (i := 6) nd rfl (Or.inr rfl)) (@pss_cons _ _ _ _ _ (ps_expr (pe_bmK (K := K) rfl PySem.F.plainAttrs_list PySem.F.slot_list_extend PySem.F.type_list_extend (mt_extendA (K := K) rfl) (pv 5) (pa_cons (pe_comp (N' := ["j", "tape", "often", "i"]) (ix := [none, some 0, some 4, some 6]) rfl rfl rfl (pi_range2 rfl B.range (@pa_consB _ _ _ _ _ _ _ _ (@pe_op _ _ _ _ _ _ _ _ (op_addK (K := K) rfl) (pv 6) pe_int) (@pa_consN _ _ _ _ _ _ (pv 3) pa_nil))) (fun _ _ _ => (pg_name (i := 0) (show (["j", "tape", "often", "i"] : List Str).Nodup from by decide +kernel) rfl (Or.inl rfl))) (fun _ _ _ => (.cons (pt_cmpR op_lt (pe_def (D__law_gdraw.mono (by decide)) hr rfl (@pa_consN _ _ _ _ _ _ (pv 1) (@pa_consC _ _ _ _ _ _ _ pe_int pa_nil))) (pv 2) (nomark _)) .nil)) (fun _ _ _ _ => (pb_emit rfl (@pe_tup _ _ _ _ _ (@pa_consN _ _ _ _ _ _ (pv 3) (@pa_consN _ _ _ _ _ _ (pv 0) pa_nil))) rfl))) pa_nil))) pss_nil)) (@pss_cons _ _ _ _ _ (@ps_if _ _ _ _ _ _ _ _ (pt_cmpR (op_eqK (K := K) rfl hr) (pe_def (D__law_gdraw.mono (by decide)) hr rfl (@pa_consN _ _ _ _ _ _ (pv 0) (@pa_consC _ _ _ _ _ _ _ pe_int pa_nil))) pe_int (nomark _)) (@pss_cons _ _ _ _ _ (ps_setComp (i := 5) nd rfl (Or.inl rfl) (N' := ["tie"]) (ix := [none]) rfl rfl rfl (pi_seqK (K := K) rfl (pv 5)) (fun _ _ _ => (pg_name (i := 0) (show (["tie"] : List Str).Nodup from by decide +kernel) rfl (Or.inl rfl))) (fun _ _ _ => (.cons (pt_cmpR (op_neK (K := K) rfl hr) (@pe_op _ _ _ _ _ _ _ _ op_fdiv (@pe_ix _ _ _ _ _ _ _ (ix_sqK (K := K) rfl) (pv 0) pe_int (fun _ _ => rfl)) pe_int) (@pe_op _ _ _ _ _ _ _ _ op_fdiv (@pe_ix _ _ _ _ _ _ _ (ix_sqK (K := K) rfl) (pv 0) pe_int (fun _ _ => rfl)) pe_int) (nomark _)) .nil)) (fun _ _ _ _ => (pb_emit rfl (pv 0) rfl))) pss_nil) pss_nil) (@pss_cons _ _ _ _ _ (@ps_ret _ _ _ _ (@pe_tup _ _ _ _ _ (@pa_consN _ _ _ _ _ _ (pv 3) (@pa_consK _ _ _ _ _ _ _ _ (pe_callTy (call_tupleK (K := K) rfl) rfl B.tuple bt_tuple (@pa_consN _ _ _ _ _ _ (pv 5) pa_nil)) pa_nil)))) pss_nil))))))
theorem sc__law_gtied : FnScope ["ties", "one", "other"] ["ties", "one", "other"] (defScope (top 9)) := ⟨rfl, rfl, rfl, by decide +kernel, rfl, by decide +kernel, by decide +kernel⟩
def T__law_gtied (K : PySem.W.Frag)   : TS := (tSeq (tRet (tOp (rInC K false) (tTup (tCons (tCB rMin2 (tCons (tVar 1) (tCons (tVar 2) tNil))) (tCons (tCB rMax2 (tCons (tVar 1) (tCons (tVar 2) tNil))) tNil))) (tVar 0))) tNext)
theorem ok__law_gtied (F : Fun K "_law_gtied" "_law_gtied" (top 9) f fd) (B : Blt4 mg)      {sp : Sp} (len : ∀ vs H Q E, sp vs H Q E → vs.length = 3)
    (rd : ∀ vs H Q E, sp vs H Q E → T__law_gtied K   { nx := fun _ H' => Q .non H', rt := Q } (start ["ties", "one", "other"] vs) H) : FnOk P w K mg base CX0 1 f fd ["ties", "one", "other"] sp := by
  refine F.ok sc__law_gtied len (fun cdv A outer s H vs Q E hr h => ⟨_, ?_, rd vs H Q E h⟩)
  have nd := sc__law_gtied.nd
  exact (@pss_cons _ _ _ _ _ (@ps_ret _ _ _ _ (pe_cmpR (op_inCK (K := K) rfl hr) (@pe_tup _ _ _ _ _ (@pa_consK _ _ _ _ _ _ _ _ (pe_callB (call_min2K rfl) rfl B.min bt_min (@pa_consN _ _ _ _ _ _ (pv 1) (@pa_consN _ _ _ _ _ _ (pv 2) pa_nil))) (@pa_consK _ _ _ _ _ _ _ _ (pe_callB (call_max2K rfl) rfl B.max bt_max (@pa_consN _ _ _ _ _ _ (pv 1) (@pa_consN _ _ _ _ _ _ (pv 2) pa_nil))) pa_nil))) (pv 0) rfl)) pss_nil)
theorem sc__law_gparts : FnScope ["ties", "left", "many", "rest", "waiting", "here", "beside"] ["ties", "left"] (defScope (top 10)) := ⟨rfl, rfl, rfl, by decide +kernel, rfl, by decide +kernel, by decide +kernel⟩
def T__law_gparts (K : PySem.W.Frag)  (sp__law_gtied : Sp) : TS := (tSeq (tAsg (tC (.int 0)) (gName 2)) (tSeq (tAsg (tCB (rList K) (tCons (tVar 1) tNil)) (gName 3)) (tSeq (tWhile (tTest (tOp (rNeD K) (tVar 3) (tLst tNil))) (tSeq (tAsg (tOp (rAddA K) (tVar 2) (tC (.int 1))) (gName 2)) (tSeq (tAsg (tLst (tCons (tBM K "list" rPopAt (tVar 3) (tCons (tC (.int 0)) tNil)) tNil)) (gName 4)) (tSeq (tWhile (tTest (tOp (rNeD K) (tVar 4) (tLst tNil))) (tSeq (tAsg (tBM0 K "list" rPop (tVar 4)) (gName 5)) (tSeq (tAsg (tComp [none, some 0, some 5] (iSeq K (tVar 3)) (gName 0) [(tB (tCall sp__law_gtied [] E0 (tCons (tVar 1) (tCons (tVar 2) (tCons (tVar 0) tNil)))))] fun acc => (tEmit (tVar 0) acc)) (gName 6)) (tSeq (tDrop (tBM K "list" (rExtendA K) (tVar 4) (tCons (tVar 6) tNil))) (tSeq (tAsg (tComp [none, some 6] (iSeq K (tVar 3)) (gName 0) [(tTest (tOp (rInC K true) (tVar 0) (tVar 1)))] fun acc => (tEmit (tVar 0) acc)) (gName 3)) tNext))))) tNext)))) (tSeq (tRet (tVar 2)) tNext))))
theorem ok__law_gparts (F : Fun K "_law_gparts" "_law_gparts" (top 10) f fd) (B : Blt4 mg)    {sp__law_gtied : Sp} (D__law_gtied : Def P w K mg base "_law_gtied" 1 ["ties", "one", "other"] sp__law_gtied)  {sp : Sp} (len : ∀ vs H Q E, sp vs H Q E → vs.length = 2)
    (rd : ∀ vs H Q E, sp vs H Q E → T__law_gparts K  sp__law_gtied { nx := fun _ H' => Q .non H', rt := Q } (start ["ties", "left", "many", "rest", "waiting", "here", "beside"] vs) H) : FnOk P w K mg base CX0 2 f fd ["ties", "left"] sp := by
  refine F.ok sc__law_gparts len (fun cdv A outer s H vs Q E hr h => ⟨_, ?_, rd vs H Q E h⟩)
  have nd := sc__law_gparts.nd
  exact (@pss_cons _ _ _ _ _ (@ps_set _ _ 2 _ _ _ _ nd rfl (Or.inl rfl) pe_int (by rfl) (by first | exact .inl rfl | exact .inr rfl | assumption)) (@pss_cons _ _ _ _ _ (@ps_set _ _ 3 _ _ _ _ nd rfl (Or.inl rfl) (pe_callTy (call_listK (K := K) rfl rfl) rfl B.list bt_list (@pa_consN _ _ _ _ _ _ (pv 1) pa_nil)) (by rfl) (by first | exact .inl rfl | exact .inr rfl | assumption)) (@pss_cons _ _ _ _ _ (ps_while PassesOwn.never (pt_cmpR (op_neK (K := K) rfl hr) (pv 3) (@pe_lst _ _ _ _ pa_nil) (nomark _)) (@pss_cons _ _ _ _ _ (@ps_set _ _ 2 _ _ _ _ nd rfl (Or.inl rfl) (@pe_op _ _ _ _ _ _ _ _ (op_addK (K := K) rfl) (pv 2) pe_int) (by rfl) (by first | exact .inl rfl | exact .inr rfl | assumption)) (@pss_cons _ _ _ _ _ (@ps_set _ _ 4 _ _ _ _ nd rfl (Or.inl rfl) (@pe_lst _ _ _ _ (@pa_consK _ _ _ _ _ _ _ _ (pe_bmK (K := K) rfl PySem.F.plainAttrs_list PySem.F.slot_list_pop PySem.F.type_list_pop mt_popAt (pv 3) (@pa_consC _ _ _ _ _ _ _ pe_int pa_nil)) pa_nil)) (by rfl) (by first | exact .inl rfl | exact .inr rfl | assumption)) (@pss_cons _ _ _ _ _ (ps_while PassesOwn.never (pt_cmpR (op_neK (K := K) rfl hr) (pv 4) (@pe_lst _ _ _ _ pa_nil) (nomark _)) (@pss_cons _ _ _ _ _ (@ps_set _ _ 5 _ _ _ _ nd rfl (Or.inr rfl) (pe_bm0K (K := K) rfl PySem.F.plainAttrs_list PySem.F.slot_list_pop PySem.F.type_list_pop mt_pop (pv 4)) (by rfl) (by first | exact .inl rfl | exact .inr rfl | assumption)) (@pss_cons _ _ _ _ _ (@ps_set _ _ 6 _ _ _ _ nd rfl (Or.inr rfl) (pe_comp (N' := ["place", "ties", "here"]) (ix := [none, some 0, some 5]) rfl rfl rfl (pi_seqK (K := K) rfl (pv 3)) (fun _ _ _ => (pg_name (i := 0) (show (["place", "ties", "here"] : List Str).Nodup from by decide +kernel) rfl (Or.inl rfl))) (fun _ _ _ => (.cons (pt_val (pe_def (D__law_gtied.mono (by decide)) hr rfl (@pa_consN _ _ _ _ _ _ (pv 1) (@pa_consN _ _ _ _ _ _ (pv 2) (@pa_consN _ _ _ _ _ _ (pv 0) pa_nil))))) .nil)) (fun _ _ _ _ => (pb_emit rfl (pv 0) rfl))) (by rfl) (by first | exact .inl rfl | exact .inr rfl | assumption)) (@pss_cons _ _ _ _ _ (ps_expr (pe_bmK (K := K) rfl PySem.F.plainAttrs_list PySem.F.slot_list_extend PySem.F.type_list_extend (mt_extendA (K := K) rfl) (pv 4) (@pa_consN _ _ _ _ _ _ (pv 6) pa_nil))) (@pss_cons _ _ _ _ _ (ps_setComp (i := 3) nd rfl (Or.inl rfl) (N' := ["place", "beside"]) (ix := [none, some 6]) rfl rfl rfl (pi_seqK (K := K) rfl (pv 3)) (fun _ _ _ => (pg_name (i := 0) (show (["place", "beside"] : List Str).Nodup from by decide +kernel) rfl (Or.inl rfl))) (fun _ _ _ => (.cons (pt_cmpR (op_notInCK (K := K) rfl hr) (pv 0) (pv 1) rfl) .nil)) (fun _ _ _ _ => (pb_emit rfl (pv 0) rfl))) pss_nil))))) pss_nil)))) (@pss_cons _ _ _ _ _ (@ps_ret _ _ _ _ (pv 2)) pss_nil))))
theorem sc__law_gfalls : FnScope ["web", "some", "left"] ["web", "some"] (defScope (top 11)) := ⟨rfl, rfl, rfl, by decide +kernel, rfl, by decide +kernel, by decide +kernel⟩
def T__law_gfalls (K : PySem.W.Frag)  (sp__law_gparts : Sp) : TS := (tSeq (tAsg (tComp [none, some 1] (iRng1 (tCons (tOp (rIx2 K) (tVar 0) (tC (.int 0))) tNil)) (gName 0) [(tTest (tOp (rInC K true) (tVar 0) (tVar 1)))] fun acc => (tEmit (tVar 0) acc)) (gName 2)) (tSeq (tRet (tOp yGt (tCall sp__law_gparts [] E0 (tCons (tOp (rIx2 K) (tVar 0) (tC (.int 1))) (tCons (tVar 2) tNil))) (tCB (rLen K) (tCons (tVar 1) tNil)))) tNext))
theorem ok__law_gfalls (F : Fun K "_law_gfalls" "_law_gfalls" (top 11) f fd) (B : Blt4 mg)    {sp__law_gparts : Sp} (D__law_gparts : Def P w K mg base "_law_gparts" 2 ["ties", "left"] sp__law_gparts)  {sp : Sp} (len : ∀ vs H Q E, sp vs H Q E → vs.length = 2)
    (rd : ∀ vs H Q E, sp vs H Q E → T__law_gfalls K  sp__law_gparts { nx := fun _ H' => Q .non H', rt := Q } (start ["web", "some", "left"] vs) H) : FnOk P w K mg base CX0 3 f fd ["web", "some"] sp := by
  refine F.ok sc__law_gfalls len (fun cdv A outer s H vs Q E hr h => ⟨_, ?_, rd vs H Q E h⟩)
  have nd := sc__law_gfalls.nd
  exact (@pss_cons _ _ _ _ _ (ps_setComp (i := 2) nd rfl (Or.inl rfl) (N' := ["place", "some"]) (ix := [none, some 1]) rfl rfl rfl (pi_range1 rfl B.range (@pa_consS _ _ _ _ _ _ _ (@pe_ix _ _ _ _ _ _ _ (ix_sqK (K := K) rfl) (pv 0) pe_int (fun _ _ => rfl)) pa_nil)) (fun _ _ _ => (pg_name (i := 0) (show (["place", "some"] : List Str).Nodup from by decide +kernel) rfl (Or.inl rfl))) (fun _ _ _ => (.cons (pt_cmpR (op_notInCK (K := K) rfl hr) (pv 0) (pv 1) rfl) .nil)) (fun _ _ _ _ => (pb_emit rfl (pv 0) rfl))) (@pss_cons _ _ _ _ _ (@ps_ret _ _ _ _ (pe_cmpR op_gt (pe_def (D__law_gparts.mono (by decide)) hr rfl (@pa_consS _ _ _ _ _ _ _ (@pe_ix _ _ _ _ _ _ _ (ix_sqK (K := K) rfl) (pv 0) pe_int (fun _ _ => rfl)) (@pa_consN _ _ _ _ _ _ (pv 2) pa_nil))) (pe_callB (call_lenK (K := K) rfl) rfl B.len bt_len (@pa_consN _ _ _ _ _ _ (pv 1) pa_nil)) (nomark _))) pss_nil))
theorem sc__law_gstar : FnScope ["tape", "many", "size", "order", "some", "ties", "i", "j"] ["tape"] (defScope (top 12)) := ⟨rfl, rfl, rfl, by decide +kernel, rfl, by decide +kernel, by decide +kernel⟩
def T__law_gstar (K : PySem.W.Frag)  (sp__law_gdraw : Sp) : TS := (tSeq (tAsg (tOp (rAddA K) (tC (.int 3)) (tCall sp__law_gdraw [] E0 (tCons (tVar 0) (tCons (tC (.int 6)) tNil)))) (gName 1)) (tSeq (tAsg (tOp (rAddA K) (tC (.int 1)) (tCall sp__law_gdraw [] E0 (tCons (tVar 0) (tCons (tC (.int 3)) tNil)))) (gName 2)) (tSeq (tAsg (tCB (rList K) (tCons (tCB rRng (tCons (tVar 1) tNil)) tNil)) (gName 3)) (tSeq (tAsg (tComp [none, some 3, some 0] (iRng1 (tCons (tVar 2) tNil)) (gName 0) [] fun acc => (tEmit (tBM K "list" rPopAt (tVar 1) (tCons (tCall sp__law_gdraw [] E0 (tCons (tVar 2) (tCons (tCB (rLen K) (tCons (tVar 1) tNil)) tNil))) tNil)) acc)) (gName 4)) (tSeq (tAsg (tLst tNil) (gName 5)) (tSeq (tFor (iRng1 (tCons (tVar 1) tNil)) (gName 6) (tSeq (tFor (iRng2 (tCons (tOp (rAddA K) (tVar 6) (tC (.int 1))) (tCons (tVar 1) tNil))) (gName 7) (tSeq (tIfS (tOr (tTest (tOp (rInC K false) (tVar 6) (tVar 4))) (tOr (tTest (tOp (rInC K false) (tVar 7) (tVar 4))) (tTest (tOp (rEqD K) (tCall sp__law_gdraw [] E0 (tCons (tVar 0) (tCons (tC (.int 9)) tNil))) (tC (.int 0)))))) (tSeq (tDrop (tBM K "list" rAppend (tVar 5) (tCons (tTup (tCons (tVar 6) (tCons (tVar 7) tNil))) tNil))) tNext) tNext) tNext)) tNext)) (tSeq (tRet (tTup (tCons (tVar 1) (tCons (tCB (rTuple K) (tCons (tVar 5) tNil)) tNil)))) tNext)))))))
theorem ok__law_gstar (F : Fun K "_law_gstar" "_law_gstar" (top 12) f fd) (B : Blt4 mg)    {sp__law_gdraw : Sp} (D__law_gdraw : Def P w K mg base "_law_gdraw" 2 ["tape", "many"] sp__law_gdraw)  {sp : Sp} (len : ∀ vs H Q E, sp vs H Q E → vs.length = 1)
    (rd : ∀ vs H Q E, sp vs H Q E → T__law_gstar K  sp__law_gdraw { nx := fun _ H' => Q .non H', rt := Q } (start ["tape", "many", "size", "order", "some", "ties", "i", "j"] vs) H) : FnOk P w K mg base CX0 3 f fd ["tape"] sp := by
  refine F.ok sc__law_gstar len (fun cdv A outer s H vs Q E hr h => ⟨_, ?_, rd vs H Q E h⟩)
  have nd := sc__law_gstar.nd
  exact (@pss_cons _ _ _ _ _ (@ps_set _ _ 1 _ _ _ _ nd rfl (Or.inl rfl) (@pe_op _ _ _ _ _ _ _ _ (op_addK (K := K) rfl) pe_int (pe_def (D__law_gdraw.mono (by decide)) hr rfl (@pa_consN _ _ _ _ _ _ (pv 0) (@pa_consC _ _ _ _ _ _ _ pe_int pa_nil)))) (by rfl) (by first | exact .inl rfl | exact .inr rfl | assumption)) (@pss_cons _ _ _ _ _ (@ps_set _ _ 2 _ _ _ _ nd rfl (Or.inl rfl) (@pe_op _ _ _ _ _ _ _ _ (op_addK (K := K) rfl) pe_int (pe_def (D__law_gdraw.mono (by decide)) hr rfl (@pa_consN _ _ _ _ _ _ (pv 0) (@pa_consC _ _ _ _ _ _ _ pe_int pa_nil)))) (by rfl) (by first | exact .inl rfl | exact .inr rfl | assumption)) (@pss_cons _ _ _ _ _ (@ps_set _ _ 3 _ _ _ _ nd rfl (Or.inr rfl) (pe_callTy (call_listK (K := K) rfl rfl) rfl B.list bt_list (@pa_consK _ _ _ _ _ _ _ _ (pe_callTy call_rngK rfl B.range bt_range (@pa_consN _ _ _ _ _ _ (pv 1) pa_nil)) pa_nil)) (by rfl) (by first | exact .inl rfl | exact .inr rfl | assumption)) (@pss_cons _ _ _ _ _ (ps_setComp (i := 4) nd rfl (Or.inl rfl) (N' := ["turn", "order", "tape"]) (ix := [none, some 3, some 0]) rfl rfl rfl (pi_range1 rfl B.range (@pa_consN _ _ _ _ _ _ (pv 2) pa_nil)) (fun _ _ _ => (pg_name (i := 0) (show (["turn", "order", "tape"] : List Str).Nodup from by decide +kernel) rfl (Or.inl rfl))) (fun _ _ _ => .nil) (fun _ _ _ _ => (pb_emit rfl (pe_bmK (K := K) rfl PySem.F.plainAttrs_list PySem.F.slot_list_pop PySem.F.type_list_pop mt_popAt (pv 1) (@pa_consK _ _ _ _ _ _ _ _ (pe_def (D__law_gdraw.mono (by decide)) hr rfl (@pa_consN _ _ _ _ _ _ (pv 2) (@pa_consK _ _ _ _ _ _ _ _ (pe_callB (call_lenK (K := K) rfl) rfl B.len bt_len (@pa_consN _ _ _ _ _ _ (pv 1) pa_nil)) pa_nil))) pa_nil)) rfl))) (@pss_cons _ _ _ _ _ (@ps_set _ _ 5 _ _ _ _ nd rfl (Or.inl rfl) (@pe_lst _ _ _ _ pa_nil) (by rfl) (by first | exact .inl rfl | exact .inr rfl | assumption)) (@pss_cons _ _ _ _ _ (ps_for PassesOwn.never rfl (pi_range1 rfl B.range (@pa_consN _ _ _ _ _ _ (pv 1) pa_nil)) (pg_name (i := 6) nd rfl (Or.inl rfl)) (@pss_cons _ _ _ _ _ (ps_for PassesOwn.never rfl (pi_range2 rfl B.range (@pa_consB _ _ _ _ _ _ _ _ (@pe_op _ _ _ _ _ _ _ _ (op_addK (K := K) rfl) (pv 6) pe_int) (@pa_consN _ _ _ _ _ _ (pv 1) pa_nil))) (pg_name (i := 7) nd rfl (Or.inl rfl)) (@pss_cons _ _ _ _ _ (@ps_if _ _ _ _ _ _ _ _ (PW.pt (pw_or (pt_cmpR (op_inCK (K := K) rfl hr) (pv 6) (pv 4) rfl) (pw_or (pt_cmpR (op_inCK (K := K) rfl hr) (pv 7) (pv 4) rfl) (pw_or1 (pt_cmpR (op_eqK (K := K) rfl hr) (pe_def (D__law_gdraw.mono (by decide)) hr rfl (@pa_consN _ _ _ _ _ _ (pv 0) (@pa_consC _ _ _ _ _ _ _ pe_int pa_nil))) pe_int (nomark _)))))) (@pss_cons _ _ _ _ _ (ps_expr (pe_bmK (K := K) rfl PySem.F.plainAttrs_list PySem.F.slot_list_append PySem.F.type_list_append mt_append (pv 5) (@pa_consT _ _ _ _ _ _ _ (@pe_tup _ _ _ _ _ (@pa_consN _ _ _ _ _ _ (pv 6) (@pa_consN _ _ _ _ _ _ (pv 7) pa_nil))) pa_nil))) pss_nil) pss_nil) pss_nil)) pss_nil)) (@pss_cons _ _ _ _ _ (@ps_ret _ _ _ _ (@pe_tup _ _ _ _ _ (@pa_consN _ _ _ _ _ _ (pv 1) (@pa_consK _ _ _ _ _ _ _ _ (pe_callTy (call_tupleK (K := K) rfl) rfl B.tuple bt_tuple (@pa_consN _ _ _ _ _ _ (pv 5) pa_nil)) pa_nil)))) pss_nil)))))))
theorem sc__law_gright : FnScope ["web", "found", "sets", "place"] ["web", "found"] (defScope (top 13)) := ⟨rfl, rfl, rfl, by decide +kernel, rfl, by decide +kernel, by decide +kernel⟩
def T__law_gright (K : PySem.W.Frag)  (sp__law_gfalls : Sp) : TS := (tSeq (tIfS (tTest (tOp rIsB (tVar 1) (tC .non))) (tSeq (tAsg (tLst (tCons (tTup tNil) tNil)) (gName 2)) (tSeq (tFor (iRng1 (tCons (tOp (rIx2 K) (tVar 0) (tC (.int 0))) tNil)) (gName 3) (tSeq (tAsg (tOp (rAddA K) (tVar 2) (tComp [none, some 3] (iSeq K (tVar 2)) (gName 0) [] fun acc => (tEmit (tOp (rAddA K) (tVar 0) (tTup (tCons (tVar 1) tNil))) acc))) (gName 2)) tNext)) (tSeq (tRet (tOp (rEqD K) (tComp [none, some 0] (iSeq K (tVar 2)) (gName 0) [(tAnd (tTest (tOp (rNeD K) (tVar 0) (tTup tNil))) (tB (tCall sp__law_gfalls [] E0 (tCons (tVar 1) (tCons (tVar 0) tNil)))))] fun acc => (tEmit (tC (.int 1)) acc)) (tLst tNil))) tNext))) tNext) (tSeq (tIfS (tOr (tNot (tB (tCB (rIsi K) (tCons (tVar 1) (tCons (tC (.ty "tuple")) tNil))))) (tTest (tOp (rEqD K) (tVar 1) (tTup tNil)))) (tSeq (tRet (tC (.bl false))) tNext) tNext) (tSeq (tIfS (tTest (tOp (rNeD K) (tComp [none] (iSeq K (tVar 1)) (gName 0) [(tOr (tB (tCB (rIsi K) (tCons (tVar 0) (tCons (tC (.ty "bool")) tNil)))) (tNot (tB (tCB (rIsi K) (tCons (tVar 0) (tCons (tC (.ty "int")) tNil))))))] fun acc => (tEmit (tVar 0) acc)) (tLst tNil))) (tSeq (tRet (tC (.bl false))) tNext) tNext) (tSeq (tIfS (tTest (tOp (rNeD K) (tCB (rList K) (tCons (tVar 1) tNil)) (tCB (rSS K) (tCons (tVar 1) tNil)))) (tSeq (tRet (tC (.bl false))) tNext) tNext) (tSeq (tRet (tAndV (tOp yGe (tOp (rIx2 K) (tVar 1) (tC (.int 0))) (tC (.int 0))) (tAndV (tOp yLt (tOp (rIx2 K) (tVar 1) (tUn yNeg (tC (.int 1)))) (tOp (rIx2 K) (tVar 0) (tC (.int 0)))) (tCall sp__law_gfalls [] E0 (tCons (tVar 0) (tCons (tVar 1) tNil)))))) tNext)))))
theorem ok__law_gright (F : Fun K "_law_gright" "_law_gright" (top 13) f fd) (B : Blt4 mg)    {sp__law_gfalls : Sp} (D__law_gfalls : Def P w K mg base "_law_gfalls" 3 ["web", "some"] sp__law_gfalls)  {sp : Sp} (len : ∀ vs H Q E, sp vs H Q E → vs.length = 2)
    (rd : ∀ vs H Q E, sp vs H Q E → T__law_gright K  sp__law_gfalls { nx := fun _ H' => Q .non H', rt := Q } (start ["web", "found", "sets", "place"] vs) H) : FnOk P w K mg base CX0 4 f fd ["web", "found"] sp := by
  refine F.ok sc__law_gright len (fun cdv A outer s H vs Q E hr h => ⟨_, ?_, rd vs H Q E h⟩)
  have nd := sc__law_gright.nd
  exact (@pss_cons _ _ _ _ _ (@ps_if _ _ _ _ _ _ _ _ (pt_cmpR op_isB (pv 1) pe_non (nomark _)) (@pss_cons _ _ _ _ _ (@ps_set _ _ 2 _ _ _ _ nd rfl (Or.inl rfl) (@pe_lst _ _ _ _ (@pa_consT _ _ _ _ _ _ _ (@pe_tup _ _ _ _ _ pa_nil) pa_nil)) (by rfl) (by first | exact .inl rfl | exact .inr rfl | assumption)) (@pss_cons _ _ _ _ _ (ps_for PassesOwn.never rfl (pi_range1 rfl B.range (@pa_consS _ _ _ _ _ _ _ (@pe_ix _ _ _ _ _ _ _ (ix_sqK (K := K) rfl) (pv 0) pe_int (fun _ _ => rfl)) pa_nil)) (pg_name (i := 3) nd rfl (Or.inr rfl)) (@pss_cons _ _ _ _ _ (@ps_set _ _ 2 _ _ _ _ nd rfl (Or.inl rfl) (@pe_op _ _ _ _ _ _ _ _ (op_addK (K := K) rfl) (pv 2) (pe_comp (N' := ["some", "place"]) (ix := [none, some 3]) rfl rfl rfl (pi_seqK (K := K) rfl (pv 2)) (fun _ _ _ => (pg_name (i := 0) (show (["some", "place"] : List Str).Nodup from by decide +kernel) rfl (Or.inl rfl))) (fun _ _ _ => .nil) (fun _ _ _ _ => (pb_emit rfl (@pe_op _ _ _ _ _ _ _ _ (op_addK (K := K) rfl) (pv 0) (@pe_tup _ _ _ _ _ (@pa_consN _ _ _ _ _ _ (pv 1) pa_nil))) rfl)))) (by rfl) (by first | exact .inl rfl | exact .inr rfl | assumption)) pss_nil)) (@pss_cons _ _ _ _ _ (@ps_ret _ _ _ _ (pe_cmpR (op_eqK (K := K) rfl hr) (pe_comp (N' := ["some", "web"]) (ix := [none, some 0]) rfl rfl rfl (pi_seqK (K := K) rfl (pv 2)) (fun _ _ _ => (pg_name (i := 0) (show (["some", "web"] : List Str).Nodup from by decide +kernel) rfl (Or.inl rfl))) (fun _ _ _ => (.cons (PW.pt (pw_and (pt_cmpR (op_neK (K := K) rfl hr) (pv 0) (@pe_tup _ _ _ _ _ pa_nil) (nomark _)) (pw_and1 (pt_val (pe_def (D__law_gfalls.mono (by decide)) hr rfl (@pa_consN _ _ _ _ _ _ (pv 1) (@pa_consN _ _ _ _ _ _ (pv 0) pa_nil))))))) .nil)) (fun _ _ _ _ => (pb_emit rfl pe_int rfl))) (@pe_lst _ _ _ _ pa_nil) (nomark _))) pss_nil))) pss_nil) (@pss_cons _ _ _ _ _ (@ps_if _ _ _ _ _ _ _ _ (PW.pt (pw_or (pt_not (pt_val (pe_callB (call_isiK (K := K) rfl) rfl B.isi bt_isi (@pa_consN _ _ _ _ _ _ (pv 1) (@pa_consN _ _ _ _ _ _ (pe_bltn (v := .ty "tuple") rfl B.tuple bt_tuple rfl) pa_nil))))) (pw_or1 (pt_cmpR (op_eqK (K := K) rfl hr) (pv 1) (@pe_tup _ _ _ _ _ pa_nil) (nomark _))))) (@pss_cons _ _ _ _ _ (@ps_ret _ _ _ _ pe_bl) pss_nil) pss_nil) (@pss_cons _ _ _ _ _ (@ps_if _ _ _ _ _ _ _ _ (pt_cmpR (op_neK (K := K) rfl hr) (pe_comp (N' := ["one"]) (ix := [none]) rfl rfl rfl (pi_seqK (K := K) rfl (pv 1)) (fun _ _ _ => (pg_name (i := 0) (show (["one"] : List Str).Nodup from by decide +kernel) rfl (Or.inl rfl))) (fun _ _ _ => (.cons (PW.pt (pw_or (pt_val (pe_callB (call_isiK (K := K) rfl) rfl B.isi bt_isi (@pa_consN _ _ _ _ _ _ (pv 0) (@pa_consN _ _ _ _ _ _ (pe_bltn (v := .ty "bool") rfl B.bool bt_bool rfl) pa_nil)))) (pw_or1 (pt_not (pt_val (pe_callB (call_isiK (K := K) rfl) rfl B.isi bt_isi (@pa_consN _ _ _ _ _ _ (pv 0) (@pa_consN _ _ _ _ _ _ (pe_bltn (v := .ty "int") rfl B.int bt_int rfl) pa_nil)))))))) .nil)) (fun _ _ _ _ => (pb_emit rfl (pv 0) rfl))) (@pe_lst _ _ _ _ pa_nil) (nomark _)) (@pss_cons _ _ _ _ _ (@ps_ret _ _ _ _ pe_bl) pss_nil) pss_nil) (@pss_cons _ _ _ _ _ (@ps_if _ _ _ _ _ _ _ _ (pt_cmpR (op_neK (K := K) rfl hr) (pe_callTy (call_listK (K := K) rfl rfl) rfl B.list bt_list (@pa_consN _ _ _ _ _ _ (pv 1) pa_nil)) (pe_ss (K := K) rfl rfl rfl B.sorted bt_sorted rfl B.set bt_set (@pa_consN _ _ _ _ _ _ (pv 1) pa_nil)) (nomark _)) (@pss_cons _ _ _ _ _ (@ps_ret _ _ _ _ pe_bl) pss_nil) pss_nil) (@pss_cons _ _ _ _ _ (@ps_ret _ _ _ _ (pe_and (pe_cmpR op_ge (@pe_ix _ _ _ _ _ _ _ (ix_sqK (K := K) rfl) (pv 1) pe_int (fun _ _ => rfl)) pe_int (nomark _)) (pe_and (pe_cmpR op_lt (@pe_ix _ _ _ _ _ _ _ (ix_sqK (K := K) rfl) (pv 1) (pe_un un_neg pe_int) (fun _ _ => rfl)) (@pe_ix _ _ _ _ _ _ _ (ix_sqK (K := K) rfl) (pv 0) pe_int (fun _ _ => rfl)) (nomark _)) (pe_one (pe_def (D__law_gfalls.mono (by decide)) hr rfl (@pa_consN _ _ _ _ _ _ (pv 0) (@pa_consN _ _ _ _ _ _ (pv 1) pa_nil))))))) pss_nil)))))
theorem sc__law_gnear : FnScope ["tape", "web", "many", "ties", "pairs", "i", "pair"] ["tape", "web"] (defScope (top 14)) := ⟨rfl, rfl, rfl, by decide +kernel, rfl, by decide +kernel, by decide +kernel⟩
def T__law_gnear (K : PySem.W.Frag)  (sp__law_gdraw : Sp) : TS := (tSeq (tAsg (tVar 1) (gTup K 2 (gCons (gName 2) (gCons (gName 3) gNil)))) (tSeq (tAsg (tLst tNil) (gName 4)) (tSeq (tFor (iRng1 (tCons (tVar 2) tNil)) (gName 5) (tSeq (tDrop (tBM K "list" (rExtendA K) (tVar 4) (tCons (tComp [none, some 5] (iRng2 (tCons (tOp (rAddA K) (tVar 5) (tC (.int 1))) (tCons (tVar 2) tNil))) (gName 0) [] fun acc => (tEmit (tTup (tCons (tVar 1) (tCons (tVar 0) tNil))) acc)) tNil))) tNext)) (tSeq (tIfS (tTest (tOp (rEqD K) (tVar 4) (tLst tNil))) (tSeq (tRet (tVar 1)) tNext) tNext) (tSeq (tAsg (tOp (rIx2 K) (tVar 4) (tCall sp__law_gdraw [] E0 (tCons (tVar 0) (tCons (tCB (rLen K) (tCons (tVar 4) tNil)) tNil)))) (gName 6)) (tSeq (tIfS (tTest (tOp (rInC K false) (tVar 6) (tVar 3))) (tSeq (tRet (tTup (tCons (tVar 2) (tCons (tCB (rTuple K) (tCons (tComp [none, some 6] (iSeq K (tVar 3)) (gName 0) [(tTest (tOp (rNeD K) (tVar 0) (tVar 1)))] fun acc => (tEmit (tVar 0) acc)) tNil)) tNil)))) tNext) tNext) (tSeq (tRet (tTup (tCons (tVar 2) (tCons (tCB (rTuple K) (tCons (tCB (rSortB K) (tCons (tOp (rAddA K) (tVar 3) (tTup (tCons (tVar 6) tNil))) tNil)) tNil)) tNil)))) tNext)))))))
theorem ok__law_gnear (F : Fun K "_law_gnear" "_law_gnear" (top 14) f fd) (B : Blt4 mg)    {sp__law_gdraw : Sp} (D__law_gdraw : Def P w K mg base "_law_gdraw" 2 ["tape", "many"] sp__law_gdraw)  {sp : Sp} (len : ∀ vs H Q E, sp vs H Q E → vs.length = 2)
    (rd : ∀ vs H Q E, sp vs H Q E → T__law_gnear K  sp__law_gdraw { nx := fun _ H' => Q .non H', rt := Q } (start ["tape", "web", "many", "ties", "pairs", "i", "pair"] vs) H) : FnOk P w K mg base CX0 3 f fd ["tape", "web"] sp := by
  refine F.ok sc__law_gnear len (fun cdv A outer s H vs Q E hr h => ⟨_, ?_, rd vs H Q E h⟩)
  have nd := sc__law_gnear.nd
  exact (@pss_cons _ _ _ _ _ (ps_asg (pv 1) (pg_tupK (K := K) rfl rfl (pgs_cons (pg_name (i := 2) nd rfl (Or.inl rfl)) (pgs_cons (pg_name (i := 3) nd rfl (Or.inl rfl)) pgs_nil)))) (@pss_cons _ _ _ _ _ (@ps_set _ _ 4 _ _ _ _ nd rfl (Or.inl rfl) (@pe_lst _ _ _ _ pa_nil) (by rfl) (by first | exact .inl rfl | exact .inr rfl | assumption)) (@pss_cons _ _ _ _ _ (ps_for PassesOwn.never rfl (pi_range1 rfl B.range (@pa_consN _ _ _ _ _ _ (pv 2) pa_nil)) (pg_name (i := 5) nd rfl (Or.inr rfl)) (@pss_cons _ _ _ _ _ (ps_expr (pe_bmK (K := K) rfl PySem.F.plainAttrs_list PySem.F.slot_list_extend PySem.F.type_list_extend (mt_extendA (K := K) rfl) (pv 4) (pa_cons (pe_comp (N' := ["j", "i"]) (ix := [none, some 5]) rfl rfl rfl (pi_range2 rfl B.range (@pa_consB _ _ _ _ _ _ _ _ (@pe_op _ _ _ _ _ _ _ _ (op_addK (K := K) rfl) (pv 5) pe_int) (@pa_consN _ _ _ _ _ _ (pv 2) pa_nil))) (fun _ _ _ => (pg_name (i := 0) (show (["j", "i"] : List Str).Nodup from by decide +kernel) rfl (Or.inl rfl))) (fun _ _ _ => .nil) (fun _ _ _ _ => (pb_emit rfl (@pe_tup _ _ _ _ _ (@pa_consN _ _ _ _ _ _ (pv 1) (@pa_consN _ _ _ _ _ _ (pv 0) pa_nil))) rfl))) pa_nil))) pss_nil)) (@pss_cons _ _ _ _ _ (@ps_if _ _ _ _ _ _ _ _ (pt_cmpR (op_eqK (K := K) rfl hr) (pv 4) (@pe_lst _ _ _ _ pa_nil) (nomark _)) (@pss_cons _ _ _ _ _ (@ps_ret _ _ _ _ (pv 1)) pss_nil) pss_nil) (@pss_cons _ _ _ _ _ (@ps_set _ _ 6 _ _ _ _ nd rfl (Or.inr rfl) (@pe_ix _ _ _ _ _ _ _ (ix_sqK (K := K) rfl) (pv 4) (pe_def (D__law_gdraw.mono (by decide)) hr rfl (@pa_consN _ _ _ _ _ _ (pv 0) (@pa_consK _ _ _ _ _ _ _ _ (pe_callB (call_lenK (K := K) rfl) rfl B.len bt_len (@pa_consN _ _ _ _ _ _ (pv 4) pa_nil)) pa_nil))) (fun _ _ => rfl)) (by rfl) (by first | exact .inl rfl | exact .inr rfl | assumption)) (@pss_cons _ _ _ _ _ (@ps_if _ _ _ _ _ _ _ _ (pt_cmpR (op_inCK (K := K) rfl hr) (pv 6) (pv 3) rfl) (@pss_cons _ _ _ _ _ (@ps_ret _ _ _ _ (@pe_tup _ _ _ _ _ (@pa_consN _ _ _ _ _ _ (pv 2) (@pa_consK _ _ _ _ _ _ _ _ (pe_callTy (call_tupleK (K := K) rfl) rfl B.tuple bt_tuple (pa_cons (pe_comp (N' := ["tie", "pair"]) (ix := [none, some 6]) rfl rfl rfl (pi_seqK (K := K) rfl (pv 3)) (fun _ _ _ => (pg_name (i := 0) (show (["tie", "pair"] : List Str).Nodup from by decide +kernel) rfl (Or.inl rfl))) (fun _ _ _ => (.cons (pt_cmpR (op_neK (K := K) rfl hr) (pv 0) (pv 1) (nomark _)) .nil)) (fun _ _ _ _ => (pb_emit rfl (pv 0) rfl))) pa_nil)) pa_nil)))) pss_nil) pss_nil) (@pss_cons _ _ _ _ _ (@ps_ret _ _ _ _ (@pe_tup _ _ _ _ _ (@pa_consN _ _ _ _ _ _ (pv 2) (@pa_consK _ _ _ _ _ _ _ _ (pe_callTy (call_tupleK (K := K) rfl) rfl B.tuple bt_tuple (@pa_consK _ _ _ _ _ _ _ _ (pe_callB (call_sortBK (K := K) rfl) rfl B.sorted bt_sorted (@pa_consB _ _ _ _ _ _ _ _ (@pe_op _ _ _ _ _ _ _ _ (op_addK (K := K) rfl) (pv 3) (@pe_tup _ _ _ _ _ (@pa_consN _ _ _ _ _ _ (pv 6) pa_nil))) pa_nil)) pa_nil)) pa_nil)))) pss_nil)))))))
theorem sc_law : FnScope ["script", "tape", "turn", "web", "one"] ["script"] (defScope (top 15)) := ⟨rfl, rfl, rfl, by decide +kernel, rfl, by decide +kernel, by decide +kernel⟩
def T_law (K : PySem.W.Frag)  (sp__law_gdraw : Sp) (sp__law_gnear : Sp) (sp__law_gright : Sp) (sp__law_gstar : Sp) (sp__law_gweb : Sp) (sp_parting : Sp) : TS := (tSeq (tAsg (tLst (tCons (tCB (rList K) (tCons (tSl (rSlU K) (tVar 0) tNoPart (tPart (tC (.int 63)))) tNil)) (tCons (tC (.int 0)) (tCons (tC (.int 0)) tNil)))) (gName 1)) (tSeq (tFor (iRng1 (tCons (tC (.int 4)) tNil)) (gName 2) (tSeq (tAsg (tIf (tTest (tOp (rEqD K) (tCall sp__law_gdraw [] E0 (tCons (tVar 1) (tCons (tC (.int 2)) tNil))) (tC (.int 0)))) (tCall sp__law_gstar [] E0 (tCons (tVar 1) tNil)) (tCall sp__law_gweb [] E0 (tCons (tVar 1) (tCons (tC (.int 1)) (tCons (tC (.int 8)) tNil))))) (gName 3)) (tSeq (tFor (iSeq K (tLst (tCons (tVar 3) (tCons (tCall sp__law_gnear [] E0 (tCons (tVar 1) (tCons (tVar 3) tNil))) (tCons (tVar 3) tNil))))) (gName 4) (tSeq (tIfS (tNot (tB (tCall sp__law_gright [] E0 (tCons (tVar 4) (tCons (tCall sp_parting [] E0 (tCons (tVar 4) tNil)) tNil))))) (tSeq (tRet (tC (.bl false))) tNext) tNext) tNext)) tNext))) (tSeq (tRet (tC (.bl true))) tNext)))
theorem ok_law (F : Fun K "law" "law" (top 15) f fd) (B : Blt4 mg)    {sp__law_gdraw : Sp} (D__law_gdraw : Def P w K mg base "_law_gdraw" 2 ["tape", "many"] sp__law_gdraw) {sp__law_gnear : Sp} (D__law_gnear : Def P w K mg base "_law_gnear" 3 ["tape", "web"] sp__law_gnear) {sp__law_gright : Sp} (D__law_gright : Def P w K mg base "_law_gright" 4 ["web", "found"] sp__law_gright) {sp__law_gstar : Sp} (D__law_gstar : Def P w K mg base "_law_gstar" 3 ["tape"] sp__law_gstar) {sp__law_gweb : Sp} (D__law_gweb : Def P w K mg base "_law_gweb" 3 ["tape", "least", "most"] sp__law_gweb) {sp_parting : Sp} (D_parting : Def P w K mg base "parting" 2 ["web"] sp_parting)  {sp : Sp} (len : ∀ vs H Q E, sp vs H Q E → vs.length = 1)
    (rd : ∀ vs H Q E, sp vs H Q E → T_law K  sp__law_gdraw sp__law_gnear sp__law_gright sp__law_gstar sp__law_gweb sp_parting { nx := fun _ H' => Q .non H', rt := Q } (start ["script", "tape", "turn", "web", "one"] vs) H) : FnOk P w K mg base CX0 5 f fd ["script"] sp := by
  refine F.ok sc_law len (fun cdv A outer s H vs Q E hr h => ⟨_, ?_, rd vs H Q E h⟩)
  have nd := sc_law.nd
  exact (@pss_cons _ _ _ _ _ (@ps_set _ _ 1 _ _ _ _ nd rfl (Or.inl rfl) (@pe_lst _ _ _ _ (@pa_consK _ _ _ _ _ _ _ _ (pe_callTy (call_listK (K := K) rfl rfl) rfl B.list bt_list (@pa_consS _ _ _ _ _ _ _ (pe_slice (sl_uK (K := K) rfl) (pv 0) po_none (po_some pe_int)) pa_nil)) (@pa_consC _ _ _ _ _ _ _ pe_int (@pa_consC _ _ _ _ _ _ _ pe_int pa_nil)))) (by rfl) (by first | exact .inl rfl | exact .inr rfl | assumption)) (@pss_cons _ _ _ _ _ (ps_for PassesOwn.never rfl (pi_range1 rfl B.range (@pa_consC _ _ _ _ _ _ _ pe_int pa_nil)) (pg_name (i := 2) nd rfl (Or.inl rfl)) (@pss_cons _ _ _ _ _ (@ps_set _ _ 3 _ _ _ _ nd rfl (Or.inl rfl) (pe_ifExp (pt_cmpR (op_eqK (K := K) rfl hr) (pe_def (D__law_gdraw.mono (by decide)) hr rfl (@pa_consN _ _ _ _ _ _ (pv 1) (@pa_consC _ _ _ _ _ _ _ pe_int pa_nil))) pe_int (nomark _)) (pe_def (D__law_gstar.mono (by decide)) hr rfl (@pa_consN _ _ _ _ _ _ (pv 1) pa_nil)) (pe_def (D__law_gweb.mono (by decide)) hr rfl (@pa_consN _ _ _ _ _ _ (pv 1) (@pa_consC _ _ _ _ _ _ _ pe_int (@pa_consC _ _ _ _ _ _ _ pe_int pa_nil))))) (by rfl) (by first | exact .inl rfl | exact .inr rfl | assumption)) (@pss_cons _ _ _ _ _ (ps_for PassesOwn.never rfl (pi_seqK (K := K) rfl (@pe_lst _ _ _ _ (@pa_consN _ _ _ _ _ _ (pv 3) (@pa_consK _ _ _ _ _ _ _ _ (pe_def (D__law_gnear.mono (by decide)) hr rfl (@pa_consN _ _ _ _ _ _ (pv 1) (@pa_consN _ _ _ _ _ _ (pv 3) pa_nil))) (@pa_consN _ _ _ _ _ _ (pv 3) pa_nil))))) (pg_name (i := 4) nd rfl (Or.inl rfl)) (@pss_cons _ _ _ _ _ (@ps_if _ _ _ _ _ _ _ _ (pt_not (pt_val (pe_def (D__law_gright.mono (by decide)) hr rfl (@pa_consN _ _ _ _ _ _ (pv 4) (@pa_consK _ _ _ _ _ _ _ _ (pe_def (D_parting.mono (by decide)) hr rfl (@pa_consN _ _ _ _ _ _ (pv 4) pa_nil)) pa_nil))))) (@pss_cons _ _ _ _ _ (@ps_ret _ _ _ _ pe_bl) pss_nil) pss_nil) pss_nil)) pss_nil))) (@pss_cons _ _ _ _ _ (@ps_ret _ _ _ _ pe_bl) pss_nil)))
end
end K79
namespace K79
open PySem L2
def row (e : Tie) : List Int := [(e.1 : Int), (e.2 : Int)]
def prs (L : List Tie) : List (List Int) := L.map row
def un (r : List Int) : Tie := ((r.getD 0 0).toNat, (r.getD 1 0).toNat)
theorem un_row (e : Tie) : un (row e) = e := by
  unfold un row
  simp
theorem row_inj {e f : Tie} (h : row e = row f) : e = f := by rw [← un_row e, h, un_row]
theorem mem_prs {L : List Tie} {e : Tie} : row e ∈ prs L ↔ e ∈ L := by
  unfold prs
  rw [List.mem_map]
  exact ⟨fun ⟨f, hf, h⟩ => row_inj h ▸ hf, fun h => ⟨e, h, rfl⟩⟩
theorem perm_prs {R : List (List Int)} {M : List Tie} (h : R.Perm (prs M)) : ∃ M', R = prs M' ∧ M'.Perm M := by
  refine ⟨R.map un, ?_, ?_⟩
  · unfold prs
    rw [List.map_map]
    have : ∀ r ∈ R, (row ∘ un) r = r := fun r hr => by
      obtain ⟨e, _, rfl⟩ := List.mem_map.mp (h.mem_iff.mp hr)
      show row (un (row e)) = row e
      rw [un_row]
    exact (List.map_congr_left this).trans (List.map_id R) |>.symm
  · have := h.map un
    unfold prs at this
    rw [List.map_map] at this
    have e : M.map (un ∘ row) = M := by
      conv => rhs; rw [← List.map_id M]
      exact List.map_congr_left fun e _ => un_row e
    rw [e] at this
    exact this
structure Ok (n : Nat) (L : List Tie) : Prop where
  nd : L.Nodup
  lt : ∀ e ∈ L, e.1 < e.2 ∧ e.2 < n
theorem Ok.perm {n : Nat} {L M : List Tie} (o : Ok n L) (h : M.Perm L) : Ok n M := ⟨h.nodup_iff.mpr o.nd, fun e he => o.lt e (h.mem_iff.mp he)⟩
theorem nd_app {L : List Tie} {e : Tie} (h : L.Nodup) (h2 : e ∉ L) : (L ++ [e]).Nodup := by
  rw [List.nodup_append]
  exact ⟨h, by simp, fun a ha b hb => by rw [List.mem_singleton.mp hb]; exact fun z => h2 (z ▸ ha)⟩
theorem nodup_len : ∀ (k : Nat) (l : List Nat), l.Nodup → (∀ p ∈ l, p < k) → l.length ≤ k
  | 0, l, _, hl => by
    cases l with
    | nil => simp
    | cons a l => exact absurd (hl a (by simp)) (Nat.not_lt_zero _)
  | k + 1, l, hn, hl => by
    have h1 := nodup_len k (l.erase k) (hn.erase k) fun p hp => by
      have g1 := hl p (List.mem_of_mem_erase hp)
      have g2 : p ≠ k := fun e => by subst e; exact (List.Nodup.not_mem_erase hn) hp
      omega
    by_cases hk : k ∈ l
    · rw [List.length_erase_of_mem hk] at h1; omega
    · rw [List.erase_of_not_mem hk] at h1; omega
theorem Ok.len {n : Nat} {L : List Tie} (o : Ok n L) (h8 : n ≤ 8) : L.length ≤ 63 := by
  have nd : (L.map fun e => 8 * e.2 + e.1).Nodup := by
    rw [List.nodup_iff_pairwise_ne, List.pairwise_map]
    refine List.Pairwise.imp_of_mem (fun {a b} ha hb hne e => hne ?_) (List.nodup_iff_pairwise_ne.mp o.nd)
    have g1 := o.lt a ha
    have g2 := o.lt b hb
    exact Prod.ext (by omega) (by omega)
  have := nodup_len 63 (L.map fun e => 8 * e.2 + e.1) nd fun p hp => by
    obtain ⟨e, he, rfl⟩ := List.mem_map.mp hp
    have g := o.lt e he
    omega
  rwa [List.length_map] at this
end K79
namespace K79
open PySem L2
section
variable {K : PySem.W.Frag}
theorem prs_at {H : Hp} {xs : List V} {L : List Tie} (h : Rows K H xs (prs L)) {i : Nat} {x : V} (hx : xs[i]? = some x) : ∃ e b, L[i]? = some e ∧ x = .ref b ∧ SqT K H b [natV e.1, natV e.2] := by
  have hi : i < xs.length := (List.getElem?_eq_some_iff.mp hx).1
  have hl : i < L.length := by rw [h.1] at hi; unfold prs at hi; rwa [List.length_map] at hi
  obtain ⟨b, e1, e2⟩ := h.2 i (row L[i]) (by unfold prs; rw [List.getElem?_map, List.getElem?_eq_getElem hl]; rfl)
  rw [hx] at e1
  exact ⟨L[i], b, List.getElem?_eq_getElem hl, Option.some.inj e1, e2⟩
section
variable {vars : List Nat} {tb : TS} {acc a : Addr} {σ : St} {H : Hp} {xs : List V} {L : List Tie} {j k : Nat} {F : Tie → List V}
end
structure Ts (K : PySem.W.Frag) (H : Hp) (a : Addr) (xs : List V) (L : List Tie) : Prop where
  sq : SqT K H a xs
  rows : Rows K H xs (prs L)
theorem Ts.same {H H' : Hp} {a : Addr} {xs : List V} {L : List Tie} (h : Ts K H a xs L) (s : Same H H') : Ts K H' a xs L := ⟨s.tup h.sq, h.rows.same s⟩
theorem Ts.len {H : Hp} {a : Addr} {xs : List V} {L : List Tie} (h : Ts K H a xs L) : xs.length = L.length := by rw [h.rows.1]; unfold prs; rw [List.length_map]
theorem EmR.cast {vars : List Nat} {tb : TS} {acc : Addr} {σ : St} {H : Hp} {L M : List (List Int)} (h : EmR K vars tb acc σ H L) (e : L = M) : EmR K vars tb acc σ H M := e ▸ h
theorem EmR.mono {vars vars' : List Nat} {tb : TS} {acc : Addr} {σ : St} {H : Hp} {L : List (List Int)} (h : EmR K vars tb acc σ H L) (hs : ∀ k ∈ vars, k ∈ vars') : EmR K vars' tb acc σ H L :=
  fun D pre R ha hR hz hd => h D pre R ha hR hz fun σ' H' pre' hl ag sx h1 h2 => hd σ' H' pre' hl (fun i hi => ag i fun hm => hi (hs i hm)) sx h1 h2
theorem len_flat {α β : Type} {f : α → List β} {c : Nat} : ∀ {l : List α}, (∀ x ∈ l, (f x).length ≤ c) → (l.flatMap f).length ≤ l.length * c
  | [], _ => by simp
  | x :: l, h => by
    rw [List.flatMap_cons, List.length_append, List.length_cons, Nat.add_mul, Nat.one_mul]
    have := h x (by simp)
    have := len_flat (l := l) fun y hy => h y (List.mem_cons_of_mem _ hy)
    omega
theorem row_mem {L : List Tie} {i j : Nat} : decide (row (i, j) ∈ prs L) = decide ((i, j) ∈ L) := by
  by_cases h : (i, j) ∈ L
  · rw [decide_eq_true h, decide_eq_true (mem_prs.mpr h)]
  · rw [decide_eq_false h, decide_eq_false fun z => h (mem_prs.mp z)]
theorem rows_app {H : Hp} {xs ys : List V} {T U : List (List Int)} (h : Rows K H xs T) (g : Rows K H ys U) : Rows K H (xs ++ ys) (T ++ U) := by
  refine ⟨by rw [List.length_append, List.length_append, h.1, g.1], fun i row e => ?_⟩
  by_cases c : i < T.length
  · rw [List.getElem?_append_left c] at e
    obtain ⟨b, e1, e2⟩ := h.2 i row e
    exact ⟨b, by rw [List.getElem?_append_left (by rw [h.1]; exact c)]; exact e1, e2⟩
  · rw [List.getElem?_append_right (by omega)] at e
    obtain ⟨b, e1, e2⟩ := g.2 _ row e
    exact ⟨b, by rw [List.getElem?_append_right (by rw [h.1]; omega), h.1]; exact e1, e2⟩
theorem prs_app {L M : List Tie} : prs (L ++ M) = prs L ++ prs M := by unfold prs; rw [List.map_append]
theorem prs_len {L : List Tie} : (prs L).length = L.length := by unfold prs; rw [List.length_map]
theorem prs_ne {L : List Tie} : ∀ q ∈ prs L, q ≠ [] := fun q hq => by
  obtain ⟨e, _, rfl⟩ := List.mem_map.mp hq
  exact fun z => by cases z
structure Web (K : PySem.W.Frag) (H : Hp) (w : Addr) (n : Nat) (L : List Tie) : Prop where
  ex : ∃ t xs, SqT K H w [.int (n : Int), .ref t] ∧ Ts K H t xs L
theorem Web.same {H H' : Hp} {w : Addr} {n : Nat} {L : List Tie} (h : Web K H w n L) (s : Same H H') : Web K H' w n L := by
  obtain ⟨t, xs, a, b⟩ := h.ex
  exact ⟨t, xs, s.tup a, b.same s⟩
end
end K79
namespace K79
open PySem L2
theorem cmul_mod {a m j : Int} (h0 : 0 < m) (h1 : m ≤ 4611686018427387904) : CMul (a % m) j := .inl ⟨by have := Int.emod_nonneg a (show m ≠ 0 by omega); omega, by have := Int.emod_lt_of_pos a h0; omega⟩
def penO (l : Addr) (k : Nat) (z : Int) : HO := .lst [.ref l, .int (k : Int), .int z]
def PenAt (H : Hp) (p l : Addr) (ns : List Int) (k : Nat) (z : Int) : Prop := H p = some (penO l k z) ∧ H l = some (.lst (ns.map V.int)) ∧ l ≠ p
def Pen (H : Hp) (p l : Addr) (ns : List Int) : Prop := ∃ k z, PenAt H p l ns k z
theorem PenAt.put {H : Hp} {p l : Addr} {ns : List Int} {k k' : Nat} {z z' : Int} (h : PenAt H p l ns k z) : PenAt (upd H p (penO l k' z')) p l ns k' z' := ⟨upd_same, by rw [upd_ne h.2.2]; exact h.2.1, h.2.2⟩
theorem PenAt.x {H H' : Hp} {p l : Addr} {ns : List Int} {k : Nat} {z : Int} (h : PenAt H p l ns k z) (s : Same H H') : PenAt H' p l ns k z := ⟨s _ _ h.1, s _ _ h.2.1, h.2.2⟩
theorem Pen.x {H H' : Hp} {p l : Addr} {ns : List Int} (h : Pen H p l ns) (s : Same H H') : Pen H' p l ns := by
  obtain ⟨k, z, h⟩ := h
  exact ⟨k, z, h.x s⟩
theorem Pen.ne {H : Hp} {p l : Addr} {ns : List Int} (h : Pen H p l ns) {x : Addr} (hx : H x = none) : x ≠ p ∧ x ≠ l := by
  obtain ⟨k, z, h⟩ := h
  exact ⟨fun e => (by rw [e, h.1] at hx; cases hx), fun e => (by rw [e, h.2.1] at hx; cases hx)⟩
theorem Pen.upd {H : Hp} {p l : Addr} {ns : List Int} (h : Pen H p l ns) {x : Addr} {o : HO} (h1 : x ≠ p) (h2 : x ≠ l) : Pen (upd H x o) p l ns := by
  obtain ⟨k, z, h⟩ := h
  exact ⟨k, z, by rw [upd_ne (Ne.symm h1)]; exact h.1, by rw [upd_ne (Ne.symm h2)]; exact h.2.1, h.2.2⟩
section
variable {K : PySem.W.Frag}
def spSpread : Sp := fun vs H Q _ => ∃ (c : Int) (k : Nat), vs = [.int c, .int (k : Int)] ∧ ∀ v : Int, Q (.int v) H
theorem rd_spread : ∀ vs H Q E, spSpread vs H Q E → T__law_gspread K { nx := fun _ H' => Q .non H', rt := Q } (start ["cell", "at", "one", "two", "three"] vs) H := by
  intro vs H Q E h
  obtain ⟨c, k, rfl, q⟩ := h
  refine ⟨_, rfl, _, _, rfl, rfl, by show (0 : Int) < 2147483587; decide, .inr ⟨by decide, by decide⟩, _, rfl, .inr ⟨by decide, by decide⟩, _, _, rfl, rfl, by show (0 : Int) < 2147483629; decide, ?_⟩
  generalize hx : (c % 2147483587 * 48271 + (k : Int) * 69069 + 11) = x
  have hb : (x % 2147483629).natAbs < 2 ^ 64 := by
    have := Int.emod_nonneg x (show (2147483629 : Int) ≠ 0 by decide)
    have := Int.emod_lt_of_pos x (show (0 : Int) < 2147483629 by decide)
    omega
  refine ⟨_, rfl, _, _, rfl, rfl, ⟨by decide, by decide, ?_⟩, _, _, rfl, rfl, by show (0 : Int) < 2147483647; decide, _, rfl, .inl ⟨by decide, by decide⟩, _, rfl, _, _, rfl, rfl, by show (0 : Int) < 65521; decide, _, _, rfl, rfl, by show (0 : Int) < 2147483563; decide, ?_⟩
  · first | exact hb | (rw [hx]; exact hb)
  refine ⟨_, rfl, _, rfl, cmul_mod (by decide) (by decide), _, rfl, _, _, rfl, rfl, by show (0 : Int) < 2147483549; decide, ?_⟩
  exact ⟨_, rfl, .inr ⟨by decide, by decide⟩, _, rfl, .inr ⟨by decide, by decide⟩, _, rfl, q _⟩
def spDraw : Sp := fun vs H Q _ => ∃ (p l : Addr) (ns : List Int) (m : Nat), vs = [.ref p, .int (m : Int)] ∧ Pen H p l ns ∧ 1 ≤ m ∧ m ≤ 10000000 ∧ ∀ (r : Nat) H', r < m → Pen H' p l ns → SameX p H H' → Q (.int (r : Int)) H'
theorem rd_draw : ∀ vs H Q E, spDraw vs H Q E → T__law_gdraw K spSpread { nx := fun _ H' => Q .non H', rt := Q } (start ["tape", "many", "at", "cell", "drawn"] vs) H := by
  intro vs H Q E h
  obtain ⟨p, l, ns, m, rfl, ⟨k, z, hP⟩, h1, hm, q⟩ := h
  have rest : ∀ (G : Hp) (k' : Nat) (z' : Int) x2 x3, PenAt G p l ns k' z' → SameX p H G → tSeq (tAsg (tOp yMod (tOp (rIx2 K) (tVar 0) (tC (.int 2))) (tVar 1)) (gName 4)) (tSeq (tAsg (tOp yDiv (tOp (rIx2 K) (tVar 0) (tC (.int 2))) (tVar 1)) (gSub (tVar 0) (tC (.int 2)) rSetL)) (tSeq (tRet (tVar 4)) tNext)) { nx := fun _ H' => Q .non H', rt := Q } [some (.ref p), some (.int (m : Int)), x2, x3, none] G := fun G k' z' x2 x3 hG sx => by
    obtain ⟨r, er, hr⟩ := mod_nat (c := z') (n := m) h1
    refine ⟨_, rfl, ixL (j := 2) (.of hG.1) rfl ⟨_, rfl, yMod_nat h1 er ?_⟩⟩
    refine ⟨_, rfl, ixL (j := 2) (.of hG.1) rfl ⟨_, rfl, _, _, rfl, rfl, ⟨by omega, by omega⟩, _, rfl, p, _, 2, 2, rfl, rfl, hG.1, rfl, ?_⟩⟩
    exact ⟨_, rfl, q r _ hr ⟨k', z' / (m : Int), hG.put⟩ (sx.trans (SameX.put _))⟩
  refine ⟨_, rfl, ixL (j := 2) (.of hP.1) rfl ⟨_, rfl, _, _, rfl, rfl, _, rfl, ite2 (fun c1 => ?_) fun c1 => ?_⟩⟩
  · have last : ∀ c : Int, tSeq (tAsg (tOp (rAddA K) (tVar 2) (tC (.int 1))) (gSub (tVar 0) (tC (.int 1)) rSetL)) (tSeq (tAsg (tVar 3) (gSub (tVar 0) (tC (.int 2)) rSetL)) (tSeq (tIfS (tTest (tOp yLt (tVar 3) (tOp yPow (tC (.int 10)) (tC (.int 18))))) (tSeq (tAsg (tCall spSpread [] E0 (tCons (tVar 3) (tCons (tVar 2) tNil))) (gSub (tVar 0) (tC (.int 2)) rSetL)) tNext) tNext) tNext)) { nx := tSeq (tAsg (tOp yMod (tOp (rIx2 K) (tVar 0) (tC (.int 2))) (tVar 1)) (gName 4)) (tSeq (tAsg (tOp yDiv (tOp (rIx2 K) (tVar 0) (tC (.int 2))) (tVar 1)) (gSub (tVar 0) (tC (.int 2)) rSetL)) (tSeq (tRet (tVar 4)) tNext)) { nx := fun _ H' => Q .non H', rt := Q }, rt := Q } [some (.ref p), some (.int (m : Int)), some (.int (k : Int)), some (.int c), none] H := fun c => by
      refine ⟨_, rfl, _, rfl, p, _, 1, 1, rfl, rfl, hP.1, rfl, ?_⟩
      refine ⟨_, rfl, _, rfl, p, _, 2, 2, rfl, rfl, upd_same, rfl, ?_⟩
      have hG : PenAt (upd (upd H p (.lst ([V.ref l, .int (k : Int), .int z].set 1 (.int ((k : Int) + 1))))) p (.lst (([V.ref l, .int (k : Int), .int z].set 1 (.int ((k : Int) + 1))).set 2 (.int c)))) p l ns (k + 1) c := by
        exact (hP.put (k' := k + 1) (z' := z)).put (k' := k + 1) (z' := c)
      have sG : SameX p H (upd (upd H p (.lst ([V.ref l, .int (k : Int), .int z].set 1 (.int ((k : Int) + 1))))) p (.lst (([V.ref l, .int (k : Int), .int z].set 1 (.int ((k : Int) + 1))).set 2 (.int c)))) := (SameX.put _).trans (SameX.put _)
      generalize upd (upd H p (.lst ([V.ref l, .int (k : Int), .int z].set 1 (.int ((k : Int) + 1))))) p (.lst (([V.ref l, .int (k : Int), .int z].set 1 (.int ((k : Int) + 1))).set 2 (.int c))) = G at hG sG ⊢
      refine ⟨_, rfl, 10, 18, rfl, rfl, ⟨by decide, by decide, by decide⟩, _, _, rfl, rfl, _, rfl, ite2 (fun c2 => ?_) fun c2 => ?_⟩
      · refine ⟨_, rfl, _, rfl, c, k, rfl, fun v => ⟨_, rfl, p, _, 2, 2, rfl, rfl, hG.1, rfl, ?_⟩⟩
        exact rest _ (k + 1) v _ _ (hG.put (k' := k + 1) (z' := v)) (sG.trans (SameX.put _))
      · exact rest G (k + 1) c _ _ hG sG
    refine ⟨_, rfl, ixL (j := 1) (.of hP.1) rfl ?_⟩
    refine ⟨_, rfl, .inl ⟨by decide, by decide⟩, ?_⟩
    refine ⟨_, rfl, _, rfl, ixL (j := 0) (.of hP.1) rfl ⟨l, _, rfl, .inl (.of hP.2.1), _, _, rfl, rfl, _, rfl, ?_⟩⟩
    rw [List.length_map]
    by_cases c2 : k < ns.length
    · refine iteT' (decide_eq_true (by omega)) ?_
      refine ⟨_, rfl, ixL (j := 0) (.of hP.1) rfl ⟨_, rfl, ixL (j := k) (v := .int (ns.getD k 0)) (.of hP.2.1) (by rw [List.getElem?_map, L2.getD_at c2]; rfl) ?_⟩⟩
      exact last _
    · refine iteF' (decide_eq_false (by omega)) ?_
      refine ⟨_, rfl, ixL (j := 0) (.of hP.1) rfl ⟨l, _, rfl, .inl (.of hP.2.1), _, _, rfl, rfl, _, rfl, ?_⟩⟩
      rw [List.length_map]
      by_cases c3 : 0 < ns.length
      · refine iteT' (decide_eq_true (by omega)) ?_
        obtain ⟨j, ej, hj⟩ := mod_nat (c := (k : Int)) (n := ns.length) c3
        refine ⟨_, rfl, ixL (j := 0) (.of hP.1) rfl ⟨_, rfl, _, rfl, ixL (j := 0) (.of hP.1) rfl ⟨l, _, rfl, .inl (.of hP.2.1), ?_⟩⟩⟩
        rw [List.length_map]
        refine yMod_nat c3 ej ?_
        refine ixL (j := j) (v := .int (ns.getD j 0)) (.of hP.2.1) (by rw [List.getElem?_map, L2.getD_at hj]; rfl) ⟨_, _, rfl, rfl, by show (0 : Int) < 99991; decide, _, rfl, cmul_mod (by decide) (by decide), ?_⟩
        exact last _
      · refine iteF' (decide_eq_false (by omega)) ?_
        exact last _
  · exact rest H k z _ _ hP (SameX.refl _ _)
end
end K79
namespace K79
open PySem L2
theorem rng0 (n : Nat) : (rngI 0 (n : Int)).map V.int = (List.range n).map natV := by
  unfold rngI
  rw [show ((n : Int) - 0).toNat = n by omega, List.map_map]
  refine List.map_congr_left fun i _ => ?_
  show V.int (0 + (i : Int)) = V.int (i : Int)
  congr 1; omega
section
variable {K : PySem.W.Frag}
theorem sqT_x {H H' : Hp} {a p : Addr} {xs ys : List V} (h : SqT K H a xs) (hp : H p = some (.lst ys)) (sx : SameX p H H') : SqT K H' a xs := by
  rcases h with (h | ⟨ob, h⟩) | h
  · exact .inl (.inl (sx _ _ (ne_of h hp (fun z => nomatch z)) h))
  · exact .inl (.inr ⟨ob, sx _ _ (ne_of h hp (fun z => nomatch z)) h⟩)
  · exact .inr h
section
variable {H H' : Hp} {p l : Addr} {ns : List Int}
theorem pen_sq (hP : Pen H p l ns) (sx : SameX p H H') {b : Addr} {xs : List V} (hb : SqT K H b xs) : SqT K H' b xs := by
  obtain ⟨k, z, h, _⟩ := hP
  exact sqT_x hb h sx
theorem pen_rows (hP : Pen H p l ns) (sx : SameX p H H') {xs : List V} {T : List (List Int)} (h : Rows K H xs T) : Rows K H' xs T := h.map fun b r hb => pen_sq hP sx hb
theorem Ts.x (hP : Pen H p l ns) (sx : SameX p H H') {t : Addr} {xs : List V} {L : List Tie} (h : Ts K H t xs L) : Ts K H' t xs L := ⟨pen_sq hP sx h.sq, pen_rows hP sx h.rows⟩
theorem Web.x (hP : Pen H p l ns) (sx : SameX p H H') {w : Addr} {n : Nat} {L : List Tie} (h : Web K H w n L) : Web K H' w n L := by
  obtain ⟨t, xs, a, b⟩ := h.ex
  exact ⟨t, xs, pen_sq hP sx a, b.x hP sx⟩
end
def WebE (K : PySem.W.Frag) (p l : Addr) (ns : List Int) (H : Hp) (Q : VK) : Prop := ∀ (w : Addr) (n : Nat) (L : List Tie) H', n ≤ 8 → Ok n L → Web K H' w n L → Pen H' p l ns → SameX p H H' → Q (.ref w) H'
theorem Ok.add {n : Nat} {L : List Tie} {e : Tie} (o : Ok n L) (h1 : e.1 < e.2) (h2 : e.2 < n) (h3 : e ∉ L) : Ok n (L ++ [e]) := ⟨nd_app o.nd h3, fun f hf => by
  rcases List.mem_append.mp hf with hf | hf
  · exact o.lt f hf
  · rw [List.mem_singleton.mp hf]; exact ⟨h1, h2⟩⟩
theorem Ok.nil {n : Nat} : Ok n [] := ⟨List.nodup_nil, fun e he => by cases he⟩
end
end K79
namespace K79
open PySem L2
section
variable {K : PySem.W.Frag}
section
variable {H : Hp} {A t : Addr} {xs : List V} {L : List Tie} {f : Tie → Bool} {tc : TT} {σ : St} {D : Ends}
def TestF (K : PySem.W.Frag) (H : Hp) (σ : St) (L : List Tie) (f : Tie → Bool) (tc : TT) : Prop := ∀ e ∈ L, ∀ b σ2 H2, σ2[0]? = some (some (.ref b)) → Agree [0] σ σ2 → Same H H2 → SqT K H2 b [natV e.1, natV e.2] → ∀ R : Bool → Hp → Prop, (∀ H', Same H2 H' → R (f e) H') → tc σ2 H2 R
theorem fil_step (hz : L.length ≤ 63) {i : Nat} {x : V} {σ1 : St} {H1 : Hp} {ys : List V} {D1 : Ends} (hA : H A = none) (hr : Rows K H xs (prs L)) (ht : TestF K H σ L f tc) (hx : xs[i]? = some x) (ag : Agree [0] σ σ1) (s0 : σ1[0]? = some (some x)) (sm : Same H H1) (ha : H1 A = some (.lst ys)) (hL : Rows K H1 ys (prs ((L.take i).filter f))) (l1 : σ1.length = σ.length)
    (hD : ∀ σ2 H2 zs, σ2.length = σ.length → Agree [0] σ σ2 → Same H H2 → H2 A = some (.lst zs) → Rows K H2 zs (prs ((L.take (i + 1)).filter f)) → D1.nx σ2 H2) : tTests [tc] (tEmit (tVar 0) A) D1 σ1 H1 := by
  obtain ⟨e, b, he, rfl, hb⟩ := prs_at (hr.same sm) hx
  have tk : (L.take (i + 1)).filter f = (L.take i).filter f ++ (if f e = true then [e] else []) := by
    rw [List.take_add_one, he, List.filter_append]
    congr 1
    show List.filter f [e] = _
    by_cases c : f e = true
    · rw [if_pos c, List.filter_cons_of_pos c]; rfl
    · rw [if_neg c, List.filter_cons_of_neg c]; rfl
  refine ht e (List.mem_of_getElem? he) b σ1 H1 s0 ag sm hb _ fun H2 s2 => ?_
  have ha2 := s2 _ _ ha
  by_cases c : f e = true
  · refine iteT' c ⟨_, s0, ys, ha2, ?_, hD σ1 _ (ys ++ [.ref b]) l1 ag (samePut hA (sm.trans s2)) upd_same ?_⟩
    · rw [hL.1, prs_len]
      exact Nat.lt_of_le_of_lt (show _ ≤ 63 from Nat.le_trans (List.length_filter_le ..) (by rw [List.length_take]; omega)) (by decide)
    · rw [tk, if_pos c, prs_app]
      exact Rows.put (Rows.snoc (hL.same s2) (s2.tup hb)) ha2
  · refine iteF' (by simpa using c) (hD σ1 H2 ys l1 ag (sm.trans s2) ha2 ?_)
    rw [tk, if_neg c, List.append_nil]
    exact hL.same s2
theorem fil_list (hA : H A = none) (ht : H t = some (.lst xs)) (hr : Rows K H xs (prs L)) (hz : L.length ≤ 63) (h0 : 0 < σ.length) (hc : TestF K H σ L f tc) (q : ∀ σ' H' ys, Same H H' → H' A = some (.lst ys) → Rows K H' ys (prs (L.filter f)) → D.nx σ' H') : tLoop (Itl K t) (gName 0) (tTests [tc] (tEmit (tVar 0) A)) D σ (upd H A (.lst [])) := by
  have hl : xs.length = L.length := by rw [hr.1, prs_len]
  refine inv_list (K := K) (a := t) (vars := [0]) (xs := xs) (fun i ys H' => Rows K H' ys (prs ((L.take i).filter f))) (by decide) h0 Rows.nil hA (fun i ys H' sm _ => .of (sm _ _ ht)) (fun i x σ1 H1 ys D1 hx l1 ag s0 sm ha hL hD => fil_step hz hA hr hc hx ag s0 sm ha hL l1 hD) fun σ1 H1 ys sm ha hL => q σ1 H1 ys sm ha (by rw [hl, List.take_length] at hL; exact hL)
theorem fil_tup (hA : H A = none) (ht : SqT K H t xs) (hr : Rows K H xs (prs L)) (hz : L.length ≤ 63) (h0 : 0 < σ.length) (hc : TestF K H σ L f tc) (q : ∀ σ' H' ys, Same H H' → H' A = some (.lst ys) → Rows K H' ys (prs (L.filter f)) → D.nx σ' H') : tLoop (Itt K t) (gName 0) (tTests [tc] (tEmit (tVar 0) A)) D σ (upd H A (.lst [])) := by
  have hl : xs.length = L.length := by rw [hr.1, prs_len]
  refine inv_tup (K := K) (a := t) (vars := [0]) (xs := xs) (fun i ys H' => Rows K H' ys (prs ((L.take i).filter f))) (by decide) h0 Rows.nil hA ht (fun i x σ1 H1 ys D1 hx l1 ag s0 sm ha hL hD => fil_step hz hA hr hc hx ag s0 sm ha hL l1 hD) fun σ1 H1 ys sm ha hL => q σ1 H1 ys sm ha (by rw [hl, List.take_length] at hL; exact hL)
end
theorem Ok.filter {n : Nat} {L : List Tie} {f : Tie → Bool} (o : Ok n L) : Ok n (L.filter f) := ⟨List.filter_sublist.nodup o.nd, fun e he => o.lt e (List.mem_filter.mp he).1⟩
def spWeb (K : PySem.W.Frag) : Sp := fun vs H Q _ => ∃ (p l : Addr) (ns : List Int), vs = [.ref p, .int 1, .int 8] ∧ Pen H p l ns ∧ WebE K p l ns H Q
theorem Ok.app {n i : Nat} {L M : List Tie} (o : Ok n L) (h1 : ∀ e ∈ L, e.1 < i) (m : Ok n M) (h2 : ∀ e ∈ M, e.1 = i) : Ok n (L ++ M) := ⟨by
  rw [List.nodup_append]
  exact ⟨o.nd, m.nd, fun a ha b hb e => by
    have g1 := h1 a ha
    have g2 := h2 b hb
    rw [e] at g1
    omega⟩, fun e he => by
  rcases List.mem_append.mp he with he | he
  · exact o.lt e he
  · exact m.lt e he⟩
theorem rd_web : ∀ vs H Q E, spWeb K vs H Q E → T__law_gweb K spDraw { nx := fun _ H' => Q .non H', rt := Q } (start ["tape", "least", "most", "many", "often", "ties", "i"] vs) H := by
  intro vs H Q E h
  obtain ⟨p, l, ns, rfl, hP0, q⟩ := h
  refine ⟨_, rfl, _, rfl, _, rfl, ?_⟩
  dsimp only [rAddA]
  refine ⟨_, rfl, _, _, rfl, rfl, p, l, ns, 8, rfl, hP0, by decide, by decide, fun r0 H0 hr0 hP1 sx0 => ?_⟩
  obtain ⟨n, en⟩ : ∃ n : Nat, n = 1 + r0 := ⟨_, rfl⟩
  show tSeq _ _ _ (List.set _ 3 (some (.int (1 + (r0 : Int))))) H0
  rw [show (1 : Int) + (r0 : Int) = (n : Int) by omega]
  refine ⟨_, rfl, p, l, ns, 4, rfl, hP1, by decide, by decide, fun r1 H1 hr1 hP2 sx1 => ?_⟩
  refine ⟨Nat.zero_le _, fun tl htl => ?_⟩
  have sx01 := sx0.trans sx1
  have ntp := hP2.ne htl
  have htl0 : H tl = none := by
    cases e : H tl with
    | none => rfl
    | some o => rw [sx01 _ _ ntp.1 e] at htl; cases htl
  have s2 := same_new htl (.lst [])
  have hT2 : upd H1 tl (.lst []) tl = some (.lst []) := upd_same
  have hP3 := hP2.x s2
  have sx2 : SameX p H (upd H1 tl (.lst [])) := sx01.trans s2.x
  show tSeq _ _ _ _ (upd H1 tl (.lst []))
  generalize upd H1 tl (.lst []) = H2 at hT2 hP3 sx2 ⊢
  refine ⟨_, rfl, (n : Int), rfl, by omega, by omega, ?_⟩
  rw [Int.toNat_natCast]
  refine for_range (lo := 0) (n := n) (fun i σ' H' => i ≤ n ∧ ∃ x6 xs L, σ' = [some (.ref p), some (.int 1), some (.int 8), some (.int (n : Int)), some (.int (1 + (r1 : Int))), some (.ref tl), x6] ∧ Pen H' p l ns ∧ SameX p H H' ∧ H' tl = some (.lst xs) ∧ Rows K H' xs (prs L) ∧ Ok n L ∧ ∀ e ∈ L, e.1 < i) ⟨Nat.zero_le _, _, [], [], rfl, hP3, sx2, hT2, Rows.nil, Ok.nil, fun e he => by cases he⟩ (fun i σ3 H3 hi ⟨_, x6, xs, L, es, hP4, sx3, hT3, hr3, ok3, lt3⟩ => ?_) fun σ3 H3 ⟨_, x6, xs, L, es, hP4, sx3, hT3, hr3, ok3, lt3⟩ => ?_
  · subst es
    rw [Int.zero_add]
    refine ⟨_, rfl, .inl ⟨rfl, _, .of hT3⟩, _, rfl, ?_⟩
    dsimp only [rAddA]
    refine ⟨_, rfl, (i : Int) + 1, (n : Int), rfl, ⟨by omega, by omega, by omega, by omega⟩, fun G hG => ?_⟩
    rw [show ((n : Int) - ((i : Int) + 1)).toNat = n - (i + 1) by omega]
    have nG := hP4.ne hG
    have nGt : G ≠ tl := fun z => by rw [z, hT3] at hG; cases hG
    refine inv_rangeX (lo := (i : Int) + 1) (n := n - (i + 1)) (vars := [0]) p (fun k ys H' => ∃ M, Rows K H' ys (prs M) ∧ Ok n M ∧ (∀ e ∈ M, e.1 = i ∧ e.2 < i + 1 + k) ∧ Pen H' p l ns) (by decide) (by show 0 < 4; decide) ⟨[], Rows.nil, Ok.nil, (fun e he => by cases he), hP4.x (same_new hG _)⟩ hG (fun k σ5 H5 ys D hk l5 ag5 s5 sx5 ha5 ⟨M, f1, f2, f3, f4⟩ hD => ?_) fun σ5 H5 ys sx5 ha5 ⟨M, f1, f2, f3, f4⟩ => ?_
    · rw [show (i : Int) + 1 + (k : Int) = ((i + 1 + k : Nat) : Int) by omega] at s5
      have u1 : σ5[1]? = some (some (.ref p)) := (ag5 1 (by decide)).trans rfl
      have u2 : σ5[2]? = some (some (.int (1 + (r1 : Int)))) := (ag5 2 (by decide)).trans rfl
      have u3 : σ5[3]? = some (some (.int (i : Int))) := (ag5 3 (by decide)).trans rfl
      refine ⟨_, u1, p, l, ns, 5, rfl, f4, by decide, by decide, fun c H6 hc hP6 sx6 => ⟨_, u2, _, _, rfl, rfl, _, rfl, ?_⟩⟩
      have ha6 := sx6 _ _ nG.1 ha5
      have hr6 := pen_rows f4 sx6 f1
      have sx46 : SameX p H3 H6 := sx5.trans sx6
      by_cases c1 : c < 1 + r1
      · refine iteT' (decide_eq_true (by omega)) ⟨_, u3, _, s5, show 2 ≤ sizeLine by decide, fun z hz => ?_⟩
        have sz := same_new hz (.tup [V.int (i : Int), .int ((i + 1 + k : Nat) : Int)])
        have ha7 := sz _ _ ha6
        have g7 : SqT K (upd H6 z (.tup [V.int (i : Int), .int ((i + 1 + k : Nat) : Int)])) z ((row (i, i + 1 + k)).map V.int) := .of upd_same
        have hyl : ys.length ≤ 63 := by rw [f1.1, prs_len]; exact f2.len (by omega)
        refine ⟨ys, ha7, Nat.lt_of_le_of_lt hyl (by decide), hD σ5 _ (ys ++ [.ref z]) l5 ag5 (fun b' o hb e => ?_) upd_same ⟨M ++ [(i, i + 1 + k)], ?_, f2.add (by show i < i + 1 + k; omega) (by show i + 1 + k < n; omega) (fun hm => by have := (f3 _ hm).2; simp at this), fun e he => ?_, ?_⟩⟩
        · rw [upd_ne (ne_of_none e hG)]
          exact sz _ _ (sx46 _ _ hb e)
        · rw [prs_app]
          exact Rows.put (Rows.snoc (hr6.same sz) g7) ha7
        · rcases List.mem_append.mp he with he | he
          · have := f3 e he; omega
          · rw [List.mem_singleton.mp he]; exact ⟨rfl, by show i + 1 + k < _; omega⟩
        · exact (hP6.x sz).upd nG.1 nG.2
      · refine iteF' (decide_eq_false (by omega)) (hD σ5 H6 ys l5 ag5 sx46 ha6 ⟨M, hr6, f2, fun e he => ?_, hP6⟩)
        have := f3 e he; omega
    · have hT5 := sx5 _ _ ntp.1 hT3
      have hr5 := pen_rows hP4 sx5 hr3
      have l1 : xs.length ≤ 63 := by rw [hr3.1, prs_len]; exact ok3.len (by omega)
      have l2 : ys.length ≤ 63 := by rw [f1.1, prs_len]; exact f2.len (by omega)
      refine .inl ⟨tl, G, xs, ys, rfl, rfl, hT5, ha5, by exact Nat.le_trans (show xs.length + ys.length ≤ 126 by omega) (by decide), ?_⟩
      refine ⟨hi, _, xs ++ ys, L ++ M, rfl, f4.upd ntp.1 ntp.2, fun b' o hb e => ?_, upd_same, ?_, ok3.app lt3 f2 fun e he => (f3 e he).1, fun e he => ?_⟩
      · rw [upd_ne (ne_of_none e htl0)]
        exact sx5 _ _ hb (sx3 _ _ hb e)
      · rw [prs_app]
        exact Rows.put (rows_app hr5 f1) hT5
      · rcases List.mem_append.mp he with he | he
        · have := lt3 e he; omega
        · have := f3 e he; omega
  · subst es
    refine ⟨_, rfl, p, l, ns, 4, rfl, hP4, by decide, by decide, fun r2 H5 hr2 hP5 sx5 => ⟨.int _, .int _, Nat.zero_le _, rfl, rfl, _, rfl, ?_⟩⟩
    have hT5 := sx5 _ _ ntp.1 hT3
    have hr5 := pen_rows hP4 sx5 hr3
    have fin : ∀ (T : Addr) (ys : List V) (M : List Tie) (H6 : Hp), Same H5 H6 → H6 T = some (.lst ys) → Rows K H6 ys (prs M) → Ok n M → ∀ x6, (∃ v, some (some v) = [some (V.ref p), some (.int 1), some (.int 8), some (.int (n : Int)), some (.int (1 + (r1 : Int))), some (.ref T), x6][3]? ∧ v = .int (n : Int)) → tRet (tTup (tCons (tVar 3) (tCons (tCB (rTuple K) (tCons (tVar 5) tNil)) tNil))) { nx := fun _ H' => Q .non H', rt := Q } [some (.ref p), some (.int 1), some (.int 8), some (.int (n : Int)), some (.int (1 + (r1 : Int))), some (.ref T), x6] H6 := fun T ys M H6 s6 hT hr ok x6 _ => by
      refine ⟨_, rfl, _, rfl, T, ys, rfl, .inl ⟨.of hT, fun t3 ht3 => ⟨show 2 ≤ sizeLine by decide, fun d hd => ?_⟩⟩⟩
      have s7 := same_new ht3 (.tup ys)
      have s8 := same_new hd (.tup [V.int (n : Int), .ref t3])
      have s78 := s7.trans s8
      exact q d n M _ (by omega) ok ⟨t3, ys, .of upd_same, s8.tup (.of upd_same), hr.same s78⟩ (hP5.x (s6.trans s78)) ((sx3.trans sx5).trans (s6.trans s78).x)
    by_cases c : r2 = 0
    · refine iteT' (by rw [c]; exact eqD_refl _) ⟨_, rfl, tl, rfl, .inl ⟨⟨_, .of hT5⟩, fun A hA => fil_list (f := fun e => !eqD (.int ((e.1 : Int) / 2)) (.int ((e.2 : Int) / 3))) hA hT5 hr5 (ok3.len (by omega)) (by show 0 < 1; decide) (fun e he b σ6 H6 s0 ag sm hb R hR => ?_) fun σ6 H6 ys s6 hA6 hr6 => ?_⟩⟩
      · exact ⟨_, s0, ixT (j := 0) hb rfl ⟨_, _, rfl, rfl, ⟨by decide, by decide⟩, _, s0, ixT (j := 1) hb rfl ⟨_, _, rfl, rfl, ⟨by decide, by decide⟩, .int _, .int _, Nat.zero_le _, rfl, rfl, _, rfl, hR H6 (Same.refl _)⟩⟩⟩
      · exact fin A ys _ H6 s6 hA6 hr6 ok3.filter _ ⟨_, rfl, rfl⟩
    · exact iteF' (by rw [eqD]; exact beq_false_of_ne (by omega)) (fin tl xs L H5 (Same.refl _) hT5 hr5 ok3 _ ⟨_, rfl, rfl⟩)
end
end K79
namespace K79
open PySem L2
section
variable {K : PySem.W.Frag}
theorem eq_nil {H : Hp} {F z : Addr} {pre : List V} {R : List (List Int)} {Q : V → Hp → Prop} (hF : H F = some (.lst pre)) (hR : Rows K H pre R) (hz : H z = none) (q : Q (.bl R.isEmpty) (upd H z (.lst []))) : rEqD K (.ref F) (.ref z) (upd H z (.lst [])) Q := by
  have sz := same_new hz (.lst [])
  refine ⟨.lst (R.map fun r => .tup (r.map Dt.int)), .lst [], dep_rowsL R, ⟨F, pre, rfl, .of (sz _ _ hF), ShL.of_rows (hR.same sz).1 (hR.same sz).2⟩, ⟨z, [], rfl, .of upd_same, rfl⟩, ?_⟩
  have e : eqD (.lst (R.map fun r => .tup (r.map Dt.int))) (.lst []) = R.isEmpty := by
    cases R with
    | nil => exact eqD_refl _
    | cons r R => simp [eqD, eqL]
  rw [e]
  exact q
theorem sh_row {H : Hp} {b : Addr} {r : List Int} (h : SqT K H b (r.map V.int)) : Sh K H (.tup (r.map Dt.int)) (.ref b) := ⟨b, _, rfl, h, ShL.ints r⟩
theorem dep_row (r : List Int) : dep (.tup (r.map Dt.int)) ≤ 100 := by rw [dep, dep_ints]; decide
def spNear (K : PySem.W.Frag) : Sp := fun vs H Q _ => ∃ (p l w : Addr) (ns : List Int) (n : Nat) (L : List Tie), vs = [.ref p, .ref w] ∧ Pen H p l ns ∧ Web K H w n L ∧ n ≤ 8 ∧ Ok n L ∧ WebE K p l ns H Q
theorem rd_near : ∀ vs H Q E, spNear K vs H Q E → T__law_gnear K spDraw { nx := fun _ H' => Q .non H', rt := Q } (start ["tape", "web", "many", "ties", "pairs", "i", "pair"] vs) H := by
  intro vs H Q E h
  obtain ⟨p, l, w, ns, n, L, rfl, hP, hw, h8, ok, q⟩ := h
  obtain ⟨t, xs, hw1, ht⟩ := hw.ex
  refine ⟨_, rfl, w, _, rfl, hw1, rfl, .int (n : Int), [.ref t], rfl, .ref t, [], rfl, rfl, ?_⟩
  refine ⟨Nat.zero_le _, fun tl htl => ?_⟩
  have s0 := same_new htl (.lst [])
  have hT0 : upd H tl (.lst []) tl = some (.lst []) := upd_same
  have ntp := hP.ne htl
  show tSeq _ _ _ _ (upd H tl (.lst []))
  generalize upd H tl (.lst []) = H0 at s0 hT0 ⊢
  refine ⟨_, rfl, (n : Int), rfl, by omega, by omega, ?_⟩
  rw [Int.toNat_natCast]
  refine for_range (lo := 0) (n := n) (fun i σ' H' => i ≤ n ∧ ∃ x5 x6 ps P, σ' = [some (.ref p), some (.ref w), some (.int (n : Int)), some (.ref t), some (.ref tl), x5, x6] ∧ Same H H' ∧ H' tl = some (.lst ps) ∧ Rows K H' ps (prs P) ∧ P.length ≤ 8 * i ∧ ∀ e ∈ P, e.1 < e.2 ∧ e.2 < n) ⟨Nat.zero_le _, _, _, [], [], rfl, s0, hT0, Rows.nil, Nat.zero_le _, fun e he => by cases he⟩ (fun i σ1 H1 hi ⟨_, x5, x6, ps, P, es, s1, hT1, hr1, l1, b1⟩ => ?_) fun σ1 H1 ⟨_, x5, x6, ps, P, es, s1, hT1, hr1, l1, b1⟩ => ?_
  · subst es
    rw [Int.zero_add]
    refine ⟨_, rfl, .inl ⟨rfl, _, .of hT1⟩, _, rfl, ?_⟩
    dsimp only [rAddA]
    refine ⟨_, rfl, (i : Int) + 1, (n : Int), rfl, ⟨by omega, by omega, by omega, by omega⟩, fun G hG => ?_⟩
    rw [show ((n : Int) - ((i : Int) + 1)).toNat = n - (i + 1) by omega]
    have nGt : G ≠ tl := fun z => by rw [z, hT1] at hG; cases hG
    refine comp_emr (K := K) [0] (prs ((List.range (n - (i + 1))).flatMap fun k => [(i, i + 1 + k)])) hG ?_ (EmR.cast (emr_loop (L := fun k => [row (i, i + 1 + k)]) (by decide) (by show 0 < 2; decide) fun k σ2 H2 hk l2 ag2 s2 sx2 => ?_) ?_) fun σ2 H2 ys s2 h2 r2 => ?_
    · rw [prs_len]
      have := len_flat (l := List.range (n - (i + 1))) (f := fun k => [(i, i + 1 + k)]) (c := 1) fun _ _ => Nat.le_refl _
      rw [List.length_range] at this
      omega
    · rw [show (i : Int) + 1 + (k : Int) = ((i + 1 + k : Nat) : Int) by omega] at s2
      have u1 : σ2[1]? = some (some (.int (i : Int))) := (ag2 1 (by decide)).trans rfl
      exact emr_tup (r := row (i, i + 1 + k)) (show 2 ≤ 100 by decide) fun Q h => ⟨_, u1, _, s2, h⟩
    · unfold prs
      rw [List.map_flatMap]; rfl
    · have hT2 := s2 _ _ hT1
      have hps : ps.length = P.length := by rw [hr1.1, prs_len]
      have hll : ((List.range (n - (i + 1))).flatMap fun k => [(i, i + 1 + k)]).length ≤ 8 := by
        have := len_flat (l := List.range (n - (i + 1))) (f := fun k => [(i, i + 1 + k)]) (c := 1) fun _ _ => Nat.le_refl _
        rw [List.length_range] at this
        omega
      have hys : ys.length ≤ 8 := by rw [r2.1, prs_len]; exact hll
      refine .inl ⟨tl, G, ps, ys, rfl, rfl, hT2, h2, Nat.le_trans (show ps.length + ys.length ≤ 200 by omega) (by decide), ?_⟩
      refine ⟨hi, _, _, ps ++ ys, P ++ ((List.range (n - (i + 1))).flatMap fun k => [(i, i + 1 + k)]), rfl, samePut htl (s1.trans s2), upd_same, ?_, by rw [List.length_append]; omega, fun e he => ?_⟩
      · rw [prs_app]
        exact Rows.put (rows_app (hr1.same s2) r2) hT2
      · rcases List.mem_append.mp he with he | he
        · exact b1 e he
        · obtain ⟨k, hk, he⟩ := List.mem_flatMap.mp he
          have hk := List.mem_range.mp hk
          rw [List.mem_singleton.mp he]
          exact ⟨by show i < i + 1 + k; omega, by show i + 1 + k < n; omega⟩
  · subst es
    refine ⟨_, rfl, Nat.zero_le _, fun z hz => eq_nil hT1 hr1 hz ?_⟩
    have sz := same_new hz (.lst [])
    have s2 := s1.trans sz
    have hT2 := sz _ _ hT1
    have hr2 := hr1.same sz
    refine ⟨_, rfl, ?_⟩
    show if _ then _ else tSeq _ _ _ _ (upd H1 z (.lst []))
    generalize upd H1 z (.lst []) = H2 at s2 hT2 hr2 ⊢
    have hps : ps.length = P.length := by rw [hr1.1, prs_len]
    cases hPe : P with
    | nil => exact iteT' rfl ⟨_, rfl, q w n L H2 h8 ok (hw.same s2) (hP.x s2) s2.x⟩
    | cons e0 rest =>
      refine iteF' rfl ?_
      have hpos : 1 ≤ ps.length := by rw [hps, hPe]; simp
      refine ⟨_, rfl, _, rfl, _, rfl, tl, ps, rfl, .inl (.of hT2), p, l, ns, ps.length, rfl, hP.x s2, hpos, by omega, fun r H3 hr hP3 sx3 => ?_⟩
      have hT3 := sx3 _ _ ntp.1 hT2
      have hr3 := pen_rows (hP.x s2) sx3 hr2
      obtain ⟨e, he⟩ : ∃ e, P[r]? = some e := ⟨_, List.getElem?_eq_getElem (by omega)⟩
      obtain ⟨b, g1, g2⟩ := hr3.2 r (row e) (by unfold prs; rw [List.getElem?_map, he]; rfl)
      have hlt := b1 e (List.mem_of_getElem? he)
      have ht3 := (ht.same s2).x (hP.x s2) sx3
      refine ixL (.of hT3) g1 ⟨_, rfl, _, rfl, .inl (.inr ⟨b, t, row e, xs, prs L, rfl, rfl, g2, .inr ht3.sq, ht3.rows, _, rfl, ?_⟩)⟩
      have sxH : SameX p H H3 := s2.x.trans sx3
      have rme : decide (row e ∈ prs L) = decide (e ∈ L) := row_mem
      by_cases c : e ∈ L
      · refine iteT' (by show decide (row e ∈ prs L) = true; rw [rme, decide_eq_true c]) ⟨_, rfl, _, rfl, t, rfl, .inr ⟨⟨_, ht3.sq⟩, fun A hA => fil_tup (f := fun e' => !eqD (.tup ((row e').map Dt.int)) (.tup ((row e).map Dt.int))) hA ht3.sq ht3.rows (ok.len h8) (by show 0 < 2; decide) (fun e' he' b' σ4 H4 s0' ag4 sm4 hb' R hR => ?_) fun σ4 H4 ys s4 hA4 hr4 => ?_⟩⟩
        · have u1 : σ4[1]? = some (some (.ref b)) := (ag4 1 (by decide)).trans rfl
          exact ⟨_, s0', _, u1, _, _, dep_row (row e'), sh_row hb', sh_row (sm4.tup g2), _, rfl, hR H4 (Same.refl _)⟩
        · refine ⟨A, ys, rfl, .inl ⟨.of hA4, fun t3 ht3' => ⟨show 2 ≤ sizeLine by decide, fun d hd => ?_⟩⟩⟩
          have s7 := same_new ht3' (.tup ys)
          have s8 := same_new hd (.tup [V.int (n : Int), .ref t3])
          have s78 := s7.trans s8
          exact q d n _ _ h8 ok.filter ⟨t3, ys, .of upd_same, s8.tup (.of upd_same), hr4.same s78⟩ (hP3.x (s4.trans s78)) (sxH.trans (s4.trans s78).x)
      · refine iteF' (by show decide (row e ∈ prs L) = false; rw [rme, decide_eq_false c]) ⟨_, rfl, _, rfl, _, rfl, show 1 ≤ sizeLine by decide, fun u hu => ?_⟩
        have su := same_new hu (.tup [V.ref b])
        have ht4 := ht3.same su
        have ok2 := ok.add hlt.1 hlt.2 c
        have len2 := ok2.len h8
        rw [List.length_append, List.length_singleton] at len2
        refine .inr ⟨t, u, _, _, rfl, rfl, ht4.sq, .of upd_same, ?_, fun s5a H5 _ hs5 s5 => ?_⟩
        · rw [ht4.len]
          exact Nat.le_trans (show L.length + [V.ref b].length ≤ 64 by show L.length + 1 ≤ 64; omega) (by decide)
        · have hr5 : Rows K H5 (xs ++ [.ref b]) (prs (L ++ [e])) := by
            rw [prs_app]
            exact Rows.snoc (ht4.rows.same s5) ((su.trans s5).tup g2)
          refine .inr ⟨s5a, xs ++ [.ref b], prs (L ++ [e]), rfl, .inr hs5, hr5, prs_ne, by rw [prs_len, List.length_append, List.length_singleton]; omega, fun us R' pm' srt _ hr' l1' hl1 => ?_⟩
          have s6 := same_new hl1 (.lst us)
          refine ⟨l1', us, rfl, .inl ⟨.of upd_same, fun t3 ht3' => ⟨show 2 ≤ sizeLine by decide, fun d hd => ?_⟩⟩⟩
          obtain ⟨L', rfl, pL⟩ := perm_prs pm'
          have s7 := same_new ht3' (.tup us)
          have s8 := same_new hd (.tup [V.int (n : Int), .ref t3])
          have s68 := (s6.trans s7).trans s8
          exact q d n L' _ h8 (ok2.perm pL) ⟨t3, us, .of upd_same, s8.tup (.of upd_same), hr'.same s68⟩ (hP3.x ((su.trans s5).trans s68)) (sxH.trans ((su.trans s5).trans s68).x)
end
end K79
namespace K79
open PySem L2
def nz (q : List Nat) : List Int := q.map fun k : Nat => (k : Int)
def lr (P : List (List Nat)) : List (List Int) := P.map nz
theorem nz_v (q : List Nat) : (nz q).map V.int = q.map natV := (natV_map q).symm
theorem nz_inj : ∀ {a b : List Nat}, nz a = nz b → a = b
  | [], [], _ => rfl
  | [], _ :: _, h => by cases h
  | _ :: _, [], h => by cases h
  | x :: a, y :: b, h => by
    have h1 : (x : Int) = (y : Int) ∧ nz a = nz b := by
      have := h
      unfold nz at this
      rw [List.map_cons, List.map_cons] at this
      exact List.cons.inj this
    rw [nz_inj h1.2, show x = y by omega]
theorem nz_mem {q : List Nat} {P : List (List Nat)} : decide (nz q ∈ lr P) = decide (q ∈ P) := by
  by_cases h : q ∈ P
  · rw [decide_eq_true h, decide_eq_true (show nz q ∈ lr P from List.mem_map_of_mem h)]
  · rw [decide_eq_false h, decide_eq_false fun z => ?_]
    obtain ⟨r, hr, e⟩ := List.mem_map.mp z
    exact h (nz_inj e ▸ hr)
theorem inV_nat {x : Nat} {gs : List Nat} : inV (.int (x : Int)) (gs.map natV) = decide (x ∈ gs) := by
  unfold inV
  rw [List.any_map]
  by_cases h : x ∈ gs
  · rw [decide_eq_true h]
    exact List.any_eq_true.mpr ⟨x, h, by show ((x : Int) == (x : Int)) = true; simp⟩
  · rw [decide_eq_false h]
    refine List.any_eq_false.mpr fun y hy => ?_
    show ¬ ((y : Int) == (x : Int)) = true
    intro e
    have : (y : Int) = (x : Int) := by simpa using e
    exact h (by rw [show x = y by omega]; exact hy)
theorem flat_nats (gs : List Nat) : (gs.map natV).all flatV = true := by
  rw [List.all_map]
  exact List.all_eq_true.mpr fun _ _ => rfl
section
variable {K : PySem.W.Frag}
def RowsM (H : Hp) (xs : List V) (P : List (List Nat)) : Prop := xs.length = P.length ∧ ∀ (i : Nat) (q : List Nat), P[i]? = some q → ∃ b, xs[i]? = some (.ref b) ∧ H b = some (.lst (q.map natV))
theorem RowsM.same {H H' : Hp} {xs : List V} {P : List (List Nat)} (h : RowsM H xs P) (e : Same H H') : RowsM H' xs P := ⟨h.1, fun i row z => by
  obtain ⟨b, e1, e2⟩ := h.2 i row z
  exact ⟨b, e1, e _ _ e2⟩⟩
theorem RowsM.at {H : Hp} {xs : List V} {P : List (List Nat)} (h : RowsM H xs P) {i : Nat} {x : V} (hx : xs[i]? = some x) : ∃ q b, P[i]? = some q ∧ x = .ref b ∧ H b = some (.lst (q.map natV)) := by
  have hi : i < xs.length := (List.getElem?_eq_some_iff.mp hx).1
  have hl : i < P.length := by rw [h.1] at hi; exact hi
  obtain ⟨b, e1, e2⟩ := h.2 i P[i] (List.getElem?_eq_getElem hl)
  rw [hx] at e1
  exact ⟨P[i], b, List.getElem?_eq_getElem hl, Option.some.inj e1, e2⟩
theorem RowsM.snoc {H : Hp} {xs : List V} {P : List (List Nat)} (h : RowsM H xs P) {b : Addr} {q : List Nat} (hb : H b = some (.lst (q.map natV))) : RowsM H (xs ++ [.ref b]) (P ++ [q]) := by
  refine ⟨by rw [List.length_append, List.length_append, h.1]; rfl, fun i row z => ?_⟩
  by_cases c : i < P.length
  · rw [List.getElem?_append_left c] at z
    obtain ⟨b', e1, e2⟩ := h.2 i row z
    exact ⟨b', by rw [List.getElem?_append_left (by rw [h.1]; exact c)]; exact e1, e2⟩
  · rw [List.getElem?_append_right (by omega)] at z
    have : i - P.length = 0 := by
      by_cases d : i - P.length = 0
      · exact d
      · rw [List.getElem?_eq_none (by simp; omega)] at z; cases z
    rw [this] at z
    obtain rfl : q = row := Option.some.inj z
    refine ⟨b, ?_, hb⟩
    rw [List.getElem?_append_right (by rw [h.1]; omega), h.1, this]; rfl
theorem RowsM.rowsL {H : Hp} {xs : List V} {P : List (List Nat)} (h : RowsM H xs P) : RowsL K H xs (lr P) := by
  refine ⟨by unfold lr; rw [List.length_map]; exact h.1, fun i row e => ?_⟩
  unfold lr at e
  rw [List.getElem?_map] at e
  cases es : P[i]? with
  | none => rw [es] at e; cases e
  | some q =>
    rw [es] at e
    obtain rfl : nz q = row := Option.some.inj e
    obtain ⟨b, e1, e2⟩ := h.2 i q es
    exact ⟨b, e1, by rw [nz_v]; exact .of e2⟩
section
variable {H : Hp} {A t : Addr} {xs : List V} {P : List (List Nat)} {f : List Nat → Bool} {tc : TT} {σ : St} {D : Ends}
def TestL (K : PySem.W.Frag) (H : Hp) (σ : St) (P : List (List Nat)) (f : List Nat → Bool) (tc : TT) : Prop := ∀ q ∈ P, ∀ b σ2 H2, σ2[0]? = some (some (.ref b)) → Agree [0] σ σ2 → Same H H2 → H2 b = some (.lst (q.map natV)) → ∀ R : Bool → Hp → Prop, (∀ H', Same H2 H' → R (f q) H') → tc σ2 H2 R
theorem filL (hA : H A = none) (ht : H t = some (.lst xs)) (hr : RowsM H xs P) (hz : P.length ≤ 63) (h0 : 0 < σ.length) (hc : TestL K H σ P f tc) (q : ∀ σ' H' ys, Same H H' → H' A = some (.lst ys) → RowsM H' ys (P.filter f) → D.nx σ' H') : tLoop (Itl K t) (gName 0) (tTests [tc] (tEmit (tVar 0) A)) D σ (upd H A (.lst [])) := by
  have hl : xs.length = P.length := hr.1
  refine inv_list (K := K) (a := t) (vars := [0]) (xs := xs) (fun i ys H' => RowsM H ys ((P.take i).filter f)) (by decide) h0 ⟨rfl, fun i row e => by cases e⟩ hA (fun i ys H' sm _ => .of (sm _ _ ht)) (fun i x σ1 H1 ys D1 hx l1 ag s0 sm ha hL hD => ?_) fun σ1 H1 ys sm ha hL => q σ1 H1 ys sm ha (by rw [hl, List.take_length] at hL; exact hL.same sm)
  obtain ⟨r, b, he, rfl, hb⟩ := hr.at hx
  have tk : (P.take (i + 1)).filter f = (P.take i).filter f ++ (if f r = true then [r] else []) := by
    rw [List.take_add_one, he, List.filter_append]
    congr 1
    show List.filter f [r] = _
    by_cases c : f r = true
    · rw [if_pos c, List.filter_cons_of_pos c]; rfl
    · rw [if_neg c, List.filter_cons_of_neg c]; rfl
  refine hc r (List.mem_of_getElem? he) b σ1 H1 s0 ag sm (sm _ _ hb) _ fun H2 s2 => ?_
  have ha2 := s2 _ _ ha
  by_cases c : f r = true
  · refine iteT' c ⟨_, s0, ys, ha2, ?_, hD σ1 _ (ys ++ [.ref b]) l1 ag (samePut hA (sm.trans s2)) upd_same ?_⟩
    · rw [hL.1]
      exact Nat.lt_of_le_of_lt (show _ ≤ 63 from Nat.le_trans (List.length_filter_le ..) (by rw [List.length_take]; omega)) (by decide)
    · rw [tk, if_pos c]
      exact RowsM.snoc hL hb
  · refine iteF' (by simpa using c) (hD σ1 H2 ys l1 ag (sm.trans s2) ha2 ?_)
    rw [tk, if_neg c, List.append_nil]
    exact hL
end
theorem in_list {K : PySem.W.Frag} {H : Hp} {b : Addr} {x : Nat} {q : List Nat} {neg : Bool} {Q : VK} (hb : Sq K H b (q.map natV)) (h : Q (.bl (if neg then !decide (x ∈ q) else decide (x ∈ q))) H) : rInC K neg (.int (x : Int)) (.ref b) H Q :=
  .inl (.inl ⟨b, q.map natV, rfl, hb, rfl, flat_nats q, by rw [inV_nat]; exact h⟩)
theorem cls_le {T : List Tie} {S0 : List Nat} : ∀ (k : Nat) (l : List Nat), cls T S0 k l ≤ k
  | 0, _ => Nat.le_refl _
  | _ + 1, [] => Nat.zero_le _
  | k + 1, x :: l => by rw [cls]; have := cls_le (T := T) (S0 := S0) k (l.filter (ncn T S0 x)); omega
theorem len_in {q : List Nat} : ∀ {P : List (List Nat)}, q ∈ P → q.length ≤ P.flatten.length
  | r :: P, h => by
    rw [List.flatten_cons, List.length_append]
    rcases List.mem_cons.mp h with rfl | h
    · omega
    · have := len_in h; omega
def RN (H : Hp) (A : Addr) (ys : List V) (l : List Nat) : Prop := ys.length = l.length ∧ ∀ (i x : Nat), l[i]? = some x → ∃ b, ys[i]? = some (.ref b) ∧ b ≠ A ∧ H b = some (.lst [natV x])
def spParts (K : PySem.W.Frag) : Sp := fun vs H Q _ => ∃ (a t : Addr) (S : List Nat) (xs : List V) (L : List Tie), vs = [.ref a, .ref t] ∧ SqL K H a (S.map natV) ∧ Ts K H t xs L ∧ S.Nodup ∧ S.length ≤ 8 ∧ L.length ≤ 63 ∧ (∀ e ∈ L, e.1 < e.2) ∧
  ∀ b ys H', Same H H' → H' b = some (.lst ys) → ys.length = cls L S 8 S → Q (.ref b) H'
theorem rd_parts : ∀ vs H Q E, spParts K vs H Q E → T_parts K { nx := fun _ H' => Q .non H', rt := Q } (start ["places", "ties", "found", "i", "j", "tied"] vs) H := by
  intro vs H Q E h
  obtain ⟨a, t, S, xs, L, rfl, ha, ht, nd, s8, l63, hL, q⟩ := h
  refine ⟨_, rfl, a, rfl, .inl ⟨⟨_, ha⟩, fun A hA => ?_⟩⟩
  refine inv_list (K := K) (a := a) (vars := [0]) (xs := S.map natV) (fun i ys H' => RN H' A ys (S.take i)) (by decide) (by show 0 < 1; decide) ⟨rfl, fun i x e => by cases e⟩ hA (fun i ys H' sm _ => sm.seq ha) (fun i x σ1 H1 ys D1 hx l1 ag s0 sm ha1 hR hD => ?_) fun σ1 H1 ys sm ha1 hR => ?_
  · have hi : i < S.length := by have := (List.getElem?_eq_some_iff.mp hx).1; simpa using this
    obtain rfl : natV S[i] = x := by rw [List.getElem?_map, List.getElem?_eq_getElem hi] at hx; exact Option.some.inj hx
    refine ⟨_, s0, show 1 ≤ sizeLine by decide, fun z hz => ?_⟩
    have sz := same_new hz (.lst [natV S[i]])
    have hzA : z ≠ A := fun e => by rw [e, ha1] at hz; cases hz
    have lt : (S.take i).length = i := by rw [List.length_take]; omega
    refine ⟨ys, sz _ _ ha1, ?_, hD σ1 _ (ys ++ [.ref z]) l1 ag (samePut hA (sm.trans sz)) upd_same ⟨?_, fun k x hx => ?_⟩⟩
    · rw [hR.1, lt]; exact Nat.lt_of_lt_of_le (show i < 8 by omega) (by decide)
    · rw [List.length_append, hR.1, lt, List.length_take]
      show i + 1 = _
      omega
    · rw [List.take_add_one, List.getElem?_eq_getElem hi] at hx
      by_cases c : k < i
      · rw [List.getElem?_append_left (by omega)] at hx
        obtain ⟨b, e1, e2, e3⟩ := hR.2 k x hx
        exact ⟨b, by rw [List.getElem?_append_left (by rw [hR.1]; omega)]; exact e1, e2, by rw [upd_ne e2]; exact sz _ _ e3⟩
      · rw [List.getElem?_append_right (by omega), lt] at hx
        have k0 : k - i = 0 := by
          by_cases d : k - i = 0
          · exact d
          · rw [List.getElem?_eq_none (by simp; omega)] at hx; cases hx
        rw [k0] at hx
        obtain rfl : S[i] = x := Option.some.inj hx
        refine ⟨z, ?_, hzA, by rw [upd_ne hzA]; exact upd_same⟩
        rw [List.getElem?_append_right (by rw [hR.1]; omega), hR.1, lt, k0]; rfl
  · rw [List.length_map, List.take_length] at hR
    have hr1 : RowsM H1 ys (S.map fun x => [x]) := by
      refine ⟨by rw [hR.1, List.length_map], fun i row e => ?_⟩
      rw [List.getElem?_map] at e
      cases es : S[i]? with
      | none => rw [es] at e; cases e
      | some x =>
        rw [es] at e
        obtain rfl : [x] = row := Option.some.inj e
        obtain ⟨b, e1, _, e3⟩ := hR.2 i x es
        exact ⟨b, e1, e3⟩
    have hP : ∀ i, Pt (L.take i) S S ((L.take i).foldl stepP (S.map fun x => [x])) := fun i => by
      have := Pt.all nd (L.take i) [] _ (fun e he => hL e (List.mem_of_mem_take he)) Pt.init
      rwa [List.nil_append] at this
    have pl : ∀ i, ((L.take i).foldl stepP (S.map fun x => [x])).length = cls (L.take i) S 8 S := fun i => (hP i).len 8 S _ s8 nd
    have p8 : ∀ i, ((L.take i).foldl stepP (S.map fun x => [x])).length ≤ 8 := fun i => by rw [pl i]; exact cls_le 8 S
    refine ⟨_, rfl, t, rfl, .inr ⟨⟨_, sm.tup ht.sq⟩, ?_⟩⟩
    refine for_tup (K := K) (a := t) (xs := xs) (fun i σ' H' => i ≤ xs.length ∧ ∃ F ys x3 x4 x5, σ' = [some (.ref a), some (.ref t), some (.ref F), x3, x4, x5] ∧ Same H H' ∧ H' F = some (.lst ys) ∧ RowsM H' ys ((L.take i).foldl stepP (S.map fun x => [x]))) ⟨Nat.zero_le _, A, ys, _, _, _, rfl, sm, ha1, hr1⟩ (fun i σ' H' _ ⟨_, _, _, _, _, _, _, s', _⟩ => s'.tup ht.sq) (fun i x σ2 H2 hx ⟨_, F, ys2, x3, x4, x5, es, s2, hF, hr2⟩ => ?_) fun σ2 H2 ⟨_, F, ys2, x3, x4, x5, es, s2, hF, hr2⟩ => ?_
    · subst es
      have hi : i < xs.length := (List.getElem?_eq_some_iff.mp hx).1
      obtain ⟨e, b, he, rfl, hb⟩ := prs_at (ht.same s2).rows hx
      have tkE : (L.take (i + 1)).foldl stepP (S.map fun x => [x]) = stepP ((L.take i).foldl stepP (S.map fun x => [x])) e := by
        rw [List.take_add_one, he, List.foldl_append]; rfl
      have hPi := hP i
      have hp8 := p8 i
      have hPn := p8 (i + 1)
      rw [tkE] at hPn
      generalize hPP : (L.take i).foldl stepP (S.map fun x => [x]) = PP at hr2 tkE hPi hp8 hPn
      refine ⟨b, _, rfl, hb, rfl, natV e.1, [natV e.2], rfl, natV e.2, [], rfl, rfl, ?_⟩
      refine ⟨_, rfl, F, rfl, .inl ⟨⟨_, .of hF⟩, fun A1 hA1 => filL (f := fun q => decide (e.1 ∈ q) || decide (e.2 ∈ q)) hA1 hF hr2 (by omega) (by show 0 < 3; decide) (fun q' hq' b' σ6 H6 s0 ag sm6 hb' R hR6 => ?_) fun σ6 H6 ys6 s6 hA6 hr6 => ?_⟩⟩
      · have u1 : σ6[1]? = some (some (natV e.1)) := (ag 1 (by decide)).trans rfl
        have u2 : σ6[2]? = some (some (natV e.2)) := (ag 2 (by decide)).trans rfl
        refine ⟨_, u1, _, s0, in_list (neg := false) (.inl (.of hb')) ⟨_, rfl, ?_⟩⟩
        have fin : R (decide (e.1 ∈ q') || decide (e.2 ∈ q')) H6 := hR6 H6 (Same.refl _)
        show if decide (e.1 ∈ q') = true then _ else _
        by_cases c : decide (e.1 ∈ q') = true
        · rw [c, Bool.true_or] at fin
          exact iteT' c fin
        · rw [Bool.not_eq_true _ |>.mp c, Bool.false_or] at fin
          exact iteF' (Bool.not_eq_true _ |>.mp c) ⟨_, u2, _, s0, in_list (neg := false) (.inl (.of hb')) ⟨_, rfl, fin⟩⟩
      · have hr6' : RowsM H6 ys6 (tiedP PP e) := hr6
        have hF6 := s6 _ _ hF
        have hrF6 := hr2.same s6
        have l6 : ys6.length = (tiedP PP e).length := hr6'.1
        refine ⟨_, rfl, A1, ys6, rfl, .inl (.of hA6), .int _, .int _, Nat.zero_le _, rfl, rfl, _, rfl, ?_⟩
        by_cases c : (tiedP PP e).length = 2
        · refine iteT' (by rw [l6, c]; exact eqD_refl _) ?_
          obtain ⟨q0, q1, hq⟩ : ∃ q0 q1, tiedP PP e = [q0, q1] := by
            match hm : tiedP PP e, c with
            | [a, b], _ => exact ⟨a, b, rfl⟩
          have hst : stepP PP e = (PP.filter fun q => !(decide (e.1 ∈ q) || decide (e.2 ∈ q))) ++ [q0 ++ q1] := by unfold stepP; rw [hq]
          rw [hq] at hr6' l6
          obtain ⟨b0, e01, e02⟩ := hr6'.2 0 q0 rfl
          obtain ⟨b1, e11, e12⟩ := hr6'.2 1 q1 rfl
          refine ⟨_, rfl, F, rfl, .inl ⟨⟨_, .of hF6⟩, fun A2 hA2 => filL (f := fun q => !decide (q ∈ tiedP PP e)) hA2 hF6 hrF6 (by omega) (by show 0 < 2; decide) (fun q' hq' b' σ7 H7 s0 ag sm7 hb' R hR7 => ?_) fun σ7 H7 ys7 s7 hA7 hr7 => ?_⟩⟩
          · have u1 : σ7[1]? = some (some (.ref A1)) := (ag 1 (by decide)).trans rfl
            have hr67 : RowsM H7 ys6 (tiedP PP e) := hr6.same sm7
            refine ⟨_, s0, _, u1, .inr ⟨b', A1, nz q', ys6, lr (tiedP PP e), rfl, rfl, by rw [nz_v]; exact .of hb', .inl (.of (sm7 _ _ hA6)), hr67.rowsL, _, rfl, ?_⟩⟩
            show R (!decide (nz q' ∈ lr (tiedP PP e))) H7
            rw [nz_mem]
            exact hR7 H7 (Same.refl _)
          · have fc : (PP.filter fun q => !decide (q ∈ tiedP PP e)) = PP.filter fun q => !(decide (e.1 ∈ q) || decide (e.2 ∈ q)) := List.filter_congr fun r hr => by
              have : decide (r ∈ tiedP PP e) = (decide (e.1 ∈ r) || decide (e.2 ∈ r)) := by
                by_cases z : e.1 ∈ r ∨ e.2 ∈ r
                · rw [decide_eq_true (mem_tied.mpr ⟨hr, z⟩)]
                  rcases z with z | z <;> simp [z]
                · rw [decide_eq_false fun y => z (mem_tied.mp y).2]
                  have := not_or.mp z
                  simp [this.1, this.2]
              rw [this]
            rw [fc] at hr7
            have m7 := s6.trans s7
            have q0m := (mem_tied.mp (show q0 ∈ tiedP PP e by rw [hq]; simp)).1
            have q1m := (mem_tied.mp (show q1 ∈ tiedP PP e by rw [hq]; simp)).1
            have z0 := len_in q0m
            have z1 := len_in q1m
            rw [hPi.perm.length_eq] at z0 z1
            have g0 := s7 _ _ e02
            have g1 := s7 _ _ e12
            refine ⟨_, rfl, ixL (j := 0) (.of (s7 _ _ hA6)) e01 ⟨_, rfl, ixL (j := 1) (.of (s7 _ _ hA6)) e11 ?_⟩⟩
            refine .inl ⟨b0, b1, q0.map natV, q1.map natV, rfl, rfl, g0, g1, by rw [List.length_map, List.length_map]; exact Nat.le_trans (show q0.length + q1.length ≤ 16 by omega) (by decide), fun c hc => ⟨show 1 ≤ sizeLine by decide, fun d hd => ?_⟩⟩
            have mc := same_new hc (.lst (q0.map natV ++ q1.map natV))
            have md := same_new hd (.lst [V.ref c])
            have hc1 := md _ _ (upd_same (H := H7) (a := c) (o := .lst (q0.map natV ++ q1.map natV)))
            have hd1 : (upd (upd H7 c (.lst (q0.map natV ++ q1.map natV))) d (.lst [V.ref c])) d = some (.lst [V.ref c]) := upd_same
            have hA8 := md _ _ (mc _ _ hA7)
            have hr8 := (hr7.same mc).same md
            have m8 := (m7.trans mc).trans md
            generalize upd (upd H7 c (.lst (q0.map natV ++ q1.map natV))) d (.lst [V.ref c]) = H8 at hc1 hd1 hA8 hr8 m8 ⊢
            refine .inl ⟨A2, d, ys7, [V.ref c], rfl, rfl, hA8, hd1, ?_, fun G hG => ?_⟩
            · have : ys7.length ≤ 8 := by rw [hr8.1]; exact Nat.le_trans (List.length_filter_le ..) hp8
              exact Nat.le_trans (show ys7.length + 1 ≤ 9 by omega) (by decide)
            have mG := same_new hG (.lst (ys7 ++ [V.ref c]))
            refine ⟨hi, G, ys7 ++ [V.ref c], _, _, _, rfl, (s2.trans m8).trans mG, upd_same, ?_⟩
            rw [tkE, hst]
            exact RowsM.snoc (hr8.same mG) (by rw [List.map_append]; exact mG _ _ hc1)
        · refine iteF' ?_ ?_
          · rw [eqD, l6]; exact beq_false_of_ne (by omega)
          · have hst : stepP PP e = PP := by
              unfold stepP
              match hm : tiedP PP e, c with
              | [], _ => rfl
              | [_], _ => rfl
              | [_, _], c => exact absurd rfl c
              | _ :: _ :: _ :: _, _ => rfl
            exact ⟨hi, F, ys2, _, _, _, rfl, s2.trans s6, hF6, by rw [tkE, hst]; exact hrF6⟩
    · subst es
      have := pl L.length
      rw [List.take_length] at this
      rw [ht.len, List.take_length] at hr2
      exact ⟨_, rfl, q F ys2 H2 s2 hF (by rw [hr2.1, this])⟩
end
end K79
namespace K79
open PySem L2
theorem subs_len : ∀ n, (subsN n).length = 2 ^ n
  | 0 => rfl
  | n + 1 => by rw [subsN, List.length_append, List.length_map, subs_len n, Nat.pow_succ]; omega
theorem subs_mem : ∀ (n : Nat) (s : List Nat), s ∈ subsN n → s.Pairwise (· < ·) ∧ (∀ k ∈ s, k < n) ∧ s.length ≤ n
  | 0, s, h => by
    rw [List.mem_singleton.mp h]
    exact ⟨.nil, (fun k z => by cases z), Nat.le_refl _⟩
  | n + 1, s, h => by
    rw [subsN, List.mem_append, List.mem_map] at h
    rcases h with h | ⟨r, hr, rfl⟩
    · obtain ⟨a, b, c⟩ := subs_mem n s h
      exact ⟨a, fun k hk => Nat.lt_succ_of_lt (b k hk), Nat.le_succ_of_le c⟩
    · obtain ⟨a, b, c⟩ := subs_mem n r hr
      refine ⟨List.pairwise_append.mpr ⟨a, List.pairwise_singleton _ _, fun x hx y hy => ?_⟩, fun k hk => ?_, by rw [List.length_append]; exact Nat.succ_le_succ c⟩
      · rw [List.mem_singleton.mp hy]; exact b x hx
      · rcases List.mem_append.mp hk with z | z
        · exact Nat.lt_succ_of_lt (b k z)
        · rw [List.mem_singleton.mp z]; exact Nat.lt_succ_self n
theorem subs_le {n : Nat} (h : n ≤ 8) : (subsN n).length ≤ 256 := by
  rw [subs_len]
  calc 2 ^ n ≤ 2 ^ 8 := Nat.pow_le_pow_right (by decide) h
    _ = 256 := by decide
def rest (n : Nat) (s : List Nat) : List Nat := (List.range n).filter fun k => !decide (k ∈ s)
theorem rest_nodup (n : Nat) (s : List Nat) : (rest n s).Nodup := List.filter_sublist.nodup List.nodup_range
theorem rest_len (n : Nat) (s : List Nat) : (rest n s).length ≤ n := Nat.le_trans (List.length_filter_le ..) (by rw [List.length_range]; exact Nat.le_refl _)
theorem rest_succ (n : Nat) (s : List Nat) : rest (n + 1) s = rest n s ++ if n ∈ s then [] else [n] := by
  unfold rest
  rw [List.range_succ, List.filter_append]
  congr 1
  by_cases c : n ∈ s
  · rw [if_pos c]; simp [c]
  · rw [if_neg c]; simp [c]
def falls (n : Nat) (L : List Tie) (s : List Nat) : Prop := s.length < cls L (rest n s) 8 (rest n s)
section
variable {K : PySem.W.Frag}
theorem rows_at {H : Hp} {xs : List V} {P : List (List Nat)} (h : Rows K H xs (lr P)) {i : Nat} {x : V} (hx : xs[i]? = some x) : ∃ q b, P[i]? = some q ∧ x = .ref b ∧ SqT K H b (q.map natV) := by
  have hi : i < xs.length := (List.getElem?_eq_some_iff.mp hx).1
  have hl : i < P.length := by rw [h.1] at hi; unfold lr at hi; rwa [List.length_map] at hi
  obtain ⟨b, e1, e2⟩ := h.2 i (nz P[i]) (by unfold lr; rw [List.getElem?_map, List.getElem?_eq_getElem hl]; rfl)
  rw [hx] at e1
  exact ⟨P[i], b, List.getElem?_eq_getElem hl, Option.some.inj e1, by rw [nz_v] at e2; exact e2⟩
theorem lr_app {P R : List (List Nat)} : lr (P ++ R) = lr P ++ lr R := by unfold lr; rw [List.map_append]
theorem lr_len {P : List (List Nat)} : (lr P).length = P.length := by unfold lr; rw [List.length_map]
theorem rowsT_len {H : Hp} {xs : List V} {P : List (List Nat)} (h : Rows K H xs (lr P)) : xs.length = P.length := by rw [h.1, lr_len]
theorem grow_comp {σ : St} {H : Hp} {A F : Addr} {xs : List V} {P : List (List Nat)} {k : Nat} {D : Ends} (h0 : 0 < σ.length) (h1 : σ[1]? = some (some (natV k))) (hA : H A = none) (hF : H F = some (.lst xs)) (hr : Rows K H xs (lr P)) (hP : P.length ≤ 256) (hq : ∀ q ∈ P, q.length ≤ 8)
    (q : ∀ σ' H' ys, Same H H' → H' A = some (.lst ys) → Rows K H' ys (lr (P.map (· ++ [k]))) → D.nx σ' H') : tLoop (Itl K F) (gName 0) (tTests [] (tEmit (tOp (rAddA K) (tVar 0) (tTup (tCons (tVar 1) tNil))) A)) D σ (upd H A (.lst [])) := by
  have hl := rowsT_len hr
  refine inv_list (K := K) (a := F) (vars := [0]) (xs := xs) (fun i ys H' => Rows K H' ys (lr ((P.take i).map (· ++ [k])))) (by decide) h0 Rows.nil hA (fun i ys H' sm _ => .of (sm _ _ hF)) (fun i x σ1 H1 ys D1 hx l1 ag s0 sm ha hL hD => ?_) fun σ1 H1 ys sm ha hL => q σ1 H1 ys sm ha (by rw [hl, List.take_length] at hL; exact hL)
  obtain ⟨r, b, he, rfl, hb⟩ := rows_at (hr.same sm) hx
  have u1 : σ1[1]? = some (some (natV k)) := (ag 1 (by decide)).trans h1
  have rl := hq r (List.mem_of_getElem? he)
  refine ⟨_, s0, _, u1, show 1 ≤ sizeLine by decide, fun z hz => ?_⟩
  have sz := same_new hz (.tup [natV k])
  refine .inr ⟨b, z, r.map natV, [natV k], rfl, rfl, sz.tup hb, .of upd_same, by rw [List.length_map]; exact Nat.le_trans (show r.length + 1 ≤ 9 by omega) (by decide), fun p H2 _ hp s2 => ?_⟩
  have ha2 := s2 _ _ (sz _ _ ha)
  have m2 := (sm.trans sz).trans s2
  refine ⟨ys, ha2, ?_, hD σ1 _ (ys ++ [.ref p]) l1 ag (samePut hA m2) upd_same ?_⟩
  · rw [rowsT_len hL, List.length_map, List.length_take]
    exact Nat.lt_of_le_of_lt (show _ ≤ 256 by omega) (by decide)
  · rw [List.take_add_one, he, List.map_append, lr_app]
    refine Rows.put (Rows.snoc ((hL.same sz).same s2) ?_) ha2
    rw [nz_v, List.map_append]
    exact hp
theorem subs_app {H : Hp} {xs ys : List V} {n : Nat} (h : Rows K H xs (lr (subsN n))) (g : Rows K H ys (lr ((subsN n).map (· ++ [n])))) : Rows K H (xs ++ ys) (lr (subsN (n + 1))) := by
  rw [subsN, lr_app]
  exact rows_app h g
def spSome (K : PySem.W.Frag) : Sp := fun vs H Q _ => ∃ n : Nat, vs = [.int (n : Int)] ∧ n ≤ 8 ∧ ∀ b ys H', Same H H' → H' b = some (.lst ys) → Rows K H' ys (lr ((subsN n).drop 1)) → Q (.ref b) H'
theorem rows_drop {H : Hp} {xs : List V} {P : List (List Nat)} (h : Rows K H xs (lr P)) : Rows K H (xs.drop 1) (lr (P.drop 1)) := by
  refine ⟨by rw [lr_len, List.length_drop, List.length_drop, rowsT_len h], fun i row e => ?_⟩
  unfold lr at e
  rw [List.map_drop, List.getElem?_drop] at e
  obtain ⟨b, e1, e2⟩ := h.2 (1 + i) row e
  exact ⟨b, by rw [List.getElem?_drop]; exact e1, e2⟩
theorem rows_nil1 {H : Hp} {e : Addr} (he : SqT K H e []) : Rows K H [.ref e] (lr (subsN 0)) := ⟨rfl, fun i row z => by
  cases i with
  | zero =>
    obtain rfl : [] = row := Option.some.inj z
    exact ⟨e, rfl, he⟩
  | succ i => cases z⟩
theorem rd_some : ∀ vs H Q E, spSome K vs H Q E → T_some_places K { nx := fun _ H' => Q .non H', rt := Q } (start ["many", "found", "place"] vs) H := by
  intro vs H Q E h
  obtain ⟨n, rfl, n8, q⟩ := h
  refine ⟨Nat.zero_le _, fun e he => ⟨show 1 ≤ sizeLine by decide, fun F hF => ?_⟩⟩
  have s1 := same_new he (.tup [])
  have s2 := same_new hF (.lst [.ref e])
  have hF1 : (upd (upd H e (.tup [])) F (.lst [.ref e])) F = some (.lst [.ref e]) := upd_same
  have he1 : SqT K (upd (upd H e (.tup [])) F (.lst [.ref e])) e [] := s2.tup (.of upd_same)
  have m0 := s1.trans s2
  show tSeq _ _ _ _ (upd (upd H e (.tup [])) F (.lst [.ref e]))
  generalize upd (upd H e (.tup [])) F (.lst [.ref e]) = H0 at hF1 he1 m0 ⊢
  refine ⟨_, rfl, (n : Int), rfl, by omega, by omega, ?_⟩
  rw [Int.toNat_natCast]
  refine for_range (lo := 0) (n := n) (fun i σ' H' => i ≤ n ∧ ∃ F ys x2, σ' = [some (.int (n : Int)), some (.ref F), x2] ∧ Same H H' ∧ H' F = some (.lst ys) ∧ Rows K H' ys (lr (subsN i))) ⟨Nat.zero_le _, F, _, _, rfl, m0, hF1, rows_nil1 he1⟩ (fun i σ1 H1 hi ⟨_, F1, ys, x2, es, sm, hF2, hr⟩ => ?_) fun σ1 H1 ⟨_, F1, ys, x2, es, sm, hF2, hr⟩ => ?_
  · subst es
    rw [Int.zero_add]
    have l1 := subs_le (n := i) (by omega)
    refine ⟨_, rfl, _, rfl, F1, rfl, .inl ⟨⟨_, .of hF2⟩, fun A hA => grow_comp (k := i) (by show 0 < 2; decide) rfl hA hF2 hr l1 (fun q' hq' => Nat.le_trans (subs_mem i q' hq').2.2 (by omega)) fun σ3 H3 zs s3 hA3 hr3 => ?_⟩⟩
    have hF3 := s3 _ _ hF2
    have b1 := rowsT_len hr
    have b2 := rowsT_len hr3
    rw [List.length_map] at b2
    refine .inl ⟨F1, A, ys, zs, rfl, rfl, hF3, hA3, Nat.le_trans (show ys.length + zs.length ≤ 512 by omega) (by decide), fun G hG => ?_⟩
    have mG := same_new hG (.lst (ys ++ zs))
    exact ⟨hi, G, ys ++ zs, _, rfl, (sm.trans s3).trans mG, upd_same, (subs_app (hr.same s3) hr3).same mG⟩
  · subst es
    refine ⟨_, rfl, _, rfl, .inl ⟨F1, ys, rfl, .of hF2, fun G hG => ?_⟩⟩
    have mG := same_new hG (.lst (cutV ys (some ((1 : Nat) : Int)) none))
    have lp : 1 ≤ ys.length := by rw [rowsT_len hr, subs_len]; exact Nat.one_le_two_pow
    refine q G (ys.drop 1) _ (sm.trans mG) ?_ (rows_drop (hr.same mG))
    rw [← cut_from (t := 1) lp]
    exact upd_same
def spTd (K : PySem.W.Frag) : Sp := fun vs H Q _ => ∃ (t : Addr) (xs : List V) (L : List Tie) (a b : Nat), vs = [.ref t, .int (a : Int), .int (b : Int)] ∧ Ts K H t xs L ∧ ∀ H', Same H H' → Q (.bl (decide ((min a b, max a b) ∈ L))) H'
theorem minN {a b : Nat} : (if (b : Int) < (a : Int) then (b : Int) else (a : Int)) = ((min a b : Nat) : Int) := by split <;> omega
theorem maxN {a b : Nat} : (if (b : Int) > (a : Int) then (b : Int) else (a : Int)) = ((max a b : Nat) : Int) := by split <;> omega
theorem rd_td : ∀ vs H Q E, spTd K vs H Q E → T__law_gtied K { nx := fun _ H' => Q .non H', rt := Q } (start ["ties", "one", "other"] vs) H := by
  intro vs H Q E h
  obtain ⟨t, xs, L, a, b, rfl, ht, q⟩ := h
  refine ⟨_, rfl, _, rfl, _, _, rfl, ?_⟩
  rw [minN]
  refine ⟨_, rfl, _, rfl, _, _, rfl, ?_⟩
  rw [maxN]
  refine ⟨show 2 ≤ sizeLine by decide, fun p hp => ⟨_, rfl, .inl (.inr ⟨p, t, row (min a b, max a b), xs, prs L, rfl, rfl, .of upd_same, .inr ((ht.same (same_new hp _)).sq), (ht.same (same_new hp _)).rows, ?_⟩)⟩⟩
  show Q (.bl (decide (row (min a b, max a b) ∈ prs L))) _
  rw [row_mem]
  exact q _ (same_new hp _)
theorem rest_comp {σ : St} {H : Hp} {A b : Addr} {n : Nat} {s : List Nat} {D : Ends} (h0 : 0 < σ.length) (h1 : σ[1]? = some (some (.ref b))) (hb : SqT K H b (s.map natV)) (n8 : n ≤ 8) (hA : H A = none)
    (q : ∀ σ' H', Same H H' → H' A = some (.lst ((rest n s).map natV)) → D.nx σ' H') : tLoop (Itr 0 n) (gName 0) (tTests [(tTest (tOp (rInC K true) (tVar 0) (tVar 1)))] (tEmit (tVar 0) A)) D σ (upd H A (.lst [])) := by
  refine inv_range (lo := 0) (n := n) (vars := [0]) (fun i ys H' => ys = (rest i s).map natV) (by decide) h0 rfl hA (fun i σ1 H1 ys D1 hi l1 ag s0 sm ha hL hD => ?_) fun σ1 H1 ys sm ha hL => q σ1 H1 sm (by rw [ha, hL])
  rw [Int.zero_add] at s0
  have u1 : σ1[1]? = some (some (.ref b)) := (ag 1 (by decide)).trans h1
  have rs := rest_succ i s
  have rl := rest_len i s
  refine ⟨_, s0, _, u1, in_list (neg := true) (.inr (sm.tup hb)) ⟨_, rfl, ?_⟩⟩
  by_cases c : i ∈ s
  · rw [if_pos c, List.append_nil] at rs
    exact iteF' (by simp [c]) (hD σ1 H1 ys l1 ag sm ha (by rw [hL, rs]))
  · rw [if_neg c] at rs
    refine iteT' (by simp [c]) ⟨_, s0, ys, ha, ?_, hD σ1 _ (ys ++ [natV i]) l1 ag (samePut hA sm) upd_same (by rw [hL, rs, List.map_append]; rfl)⟩
    rw [hL, List.length_map]
    exact Nat.lt_of_le_of_lt (show _ ≤ 8 by omega) (by decide)
def spPtg (K : PySem.W.Frag) : Sp := fun vs H Q _ => ∃ (w : Addr) (n : Nat) (L : List Tie), vs = [.ref w] ∧ Web K H w n L ∧ Ok n L ∧ n ≤ 8 ∧ (∀ H', Same H H' → (∀ s ∈ (subsN n).drop 1, ¬ falls n L s) → Q .non H') ∧ ∀ b s H', Same H H' → SqT K H' b (s.map natV) → s ∈ (subsN n).drop 1 → falls n L s → Q (.ref b) H'
theorem rd_ptg : ∀ vs H Q E, spPtg K vs H Q E → T_parting K (spParts K) (spSome K) { nx := fun _ H' => Q .non H', rt := Q } (start ["web", "many", "ties", "some", "rest"] vs) H := by
  intro vs H Q E h
  obtain ⟨w, n, L, rfl, ⟨t, xs, hw, ht⟩, ok, n8, q1, q2⟩ := h
  refine ⟨_, rfl, w, _, rfl, hw, rfl, .int (n : Int), [.ref t], rfl, .ref t, [], rfl, rfl, ?_⟩
  refine ⟨_, rfl, n, rfl, n8, fun F ys H1 s1 hF hr => ⟨F, rfl, .inl ⟨⟨_, .of hF⟩, ?_⟩⟩⟩
  have l63 : L.length ≤ 63 := ok.len (by omega)
  have hlt : ∀ e ∈ L, e.1 < e.2 := fun e he => (ok.lt e he).1
  have hl := rowsT_len hr
  refine for_list (K := K) (a := F) (xs := ys) (fun i σ' H' => i ≤ ys.length ∧ ∃ x3 x4, σ' = [some (.ref w), some (.int (n : Int)), some (.ref t), x3, x4] ∧ Same H1 H' ∧ ∀ s ∈ ((subsN n).drop 1).take i, ¬ falls n L s) ⟨Nat.zero_le _, _, _, rfl, Same.refl _, (fun s z => by cases z)⟩ (fun i σ' H' _ ⟨_, _, _, _, s', _⟩ => .of (s' _ _ hF)) (fun i x σ2 H2 hx ⟨_, x3, x4, es, s2, no⟩ => ?_) fun σ2 H2 ⟨_, x3, x4, es, s2, no⟩ => ?_
  · subst es
    have hi : i < ys.length := (List.getElem?_eq_some_iff.mp hx).1
    obtain ⟨s, b, he, rfl, hb⟩ := rows_at (hr.same s2) hx
    have sm : s ∈ (subsN n).drop 1 := List.mem_of_getElem? he
    refine ⟨_, rfl, (n : Int), rfl, by omega, by omega, fun A hA => ?_⟩
    rw [Int.toNat_natCast]
    refine rest_comp (s := s) (by show 0 < 2; decide) rfl hb n8 hA fun σ3 H3 s3 hA3 => ?_
    have m3 := s1.trans (s2.trans s3)
    refine ⟨_, rfl, _, rfl, A, t, rest n s, xs, L, rfl, .of hA3, ht.same m3, rest_nodup n s, Nat.le_trans (rest_len n s) n8, l63, hlt, fun c zs H4 s4 hc hz => ⟨c, zs, rfl, .inl (.of hc), _, rfl, b, _, rfl, .inr ((s3.trans s4).tup hb), _, _, rfl, rfl, _, rfl, ?_⟩⟩
    rw [List.length_map, hz]
    by_cases f : falls n L s
    · refine iteT' (decide_eq_true (by unfold falls at f; omega)) ?_
      exact ⟨_, rfl, q2 b s H4 (m3.trans s4) ((s3.trans s4).tup hb) sm f⟩
    · refine iteF' (decide_eq_false (by unfold falls at f; omega)) ⟨hi, _, _, rfl, s2.trans (s3.trans s4), fun r hr' => ?_⟩
      rw [List.take_add_one, he] at hr'
      rcases List.mem_append.mp hr' with z | z
      · exact no r z
      · obtain rfl : r = s := by simpa using z
        exact f
  · subst es
    rw [hl, List.take_length] at no
    exact q1 H2 (s1.trans s2) no
end
end K79
namespace K79
open PySem L2
theorem okAll_depL : ∀ ns : List Int, depL (ns.map Dt.int) = 0
  | [] => rfl
  | n :: ns => by rw [List.map_cons, depL, okAll_depL ns]; rfl
def lstN (ps : List Nat) : Dt := .lst ((nz ps).map Dt.int)
theorem eqD_lstN (a b : List Nat) : eqD (lstN a) (lstN b) = decide (a = b) := by
  unfold lstN
  rw [eqD_rowsL]
  by_cases h : a = b
  · rw [decide_eq_true h, decide_eq_true (by rw [h])]
  · rw [decide_eq_false h, decide_eq_false fun z => h (nz_inj z)]
theorem dep_lstN (a : List Nat) : dep (lstN a) ≤ 100 := by
  unfold lstN
  rw [dep, okAll_depL]
  decide
theorem filt2 {p : Nat → Bool} : ∀ l : List Nat, (l.filter p).length + (l.filter fun x => !p x).length = l.length
  | [] => rfl
  | x :: l => by
    have := filt2 (p := p) l
    by_cases h : p x = true
    · rw [List.filter_cons_of_pos h, List.filter_cons_of_neg (by simp [h]), List.length_cons, List.length_cons]; omega
    · rw [List.filter_cons_of_neg h, List.filter_cons_of_pos (by simp [h]), List.length_cons, List.length_cons]; omega
section
variable {K : PySem.W.Frag}
theorem sh_lstN {H : Hp} {a : Addr} {ps : List Nat} (h : SqL K H a (ps.map natV)) : Sh K H (lstN ps) (.ref a) := ⟨a, _, rfl, h, by rw [← nz_v]; exact ShL.ints _⟩
section
variable {H : Hp} {A t : Addr} {l : List Nat} {f : Nat → Bool} {tc : TT} {σ : St} {D : Ends}
def TestN (H : Hp) (σ : St) (l : List Nat) (f : Nat → Bool) (tc : TT) : Prop := ∀ x ∈ l, ∀ σ2 H2, σ2[0]? = some (some (natV x)) → Agree [0] σ σ2 → Same H H2 → ∀ R : Bool → Hp → Prop, (∀ H', Same H2 H' → R (f x) H') → tc σ2 H2 R
theorem filN (hA : H A = none) (ht : H t = some (.lst (l.map natV))) (hz : l.length ≤ 63) (h0 : 0 < σ.length) (hc : TestN H σ l f tc) (q : ∀ σ' H', Same H H' → H' A = some (.lst ((l.filter f).map natV)) → D.nx σ' H') : tLoop (Itl K t) (gName 0) (tTests [tc] (tEmit (tVar 0) A)) D σ (upd H A (.lst [])) := by
  refine inv_list (K := K) (a := t) (vars := [0]) (xs := l.map natV) (fun i ys H' => ys = (((l.take i).filter f).map natV)) (by decide) h0 rfl hA (fun i ys H' sm _ => .of (sm _ _ ht)) (fun i x σ1 H1 ys D1 hx l1 ag s0 sm ha hL hD => ?_) fun σ1 H1 ys sm ha hL => q σ1 H1 sm (by rw [ha, hL, List.length_map, List.take_length])
  have hi : i < l.length := by have := (List.getElem?_eq_some_iff.mp hx).1; simpa using this
  obtain rfl : natV l[i] = x := by rw [List.getElem?_map, List.getElem?_eq_getElem hi] at hx; exact Option.some.inj hx
  have tk : (l.take (i + 1)).filter f = (l.take i).filter f ++ (if f l[i] = true then [l[i]] else []) := by
    rw [List.take_add_one, List.getElem?_eq_getElem hi, List.filter_append]
    congr 1
    show List.filter f [l[i]] = _
    by_cases c : f l[i] = true
    · rw [if_pos c, List.filter_cons_of_pos c]; rfl
    · rw [if_neg c, List.filter_cons_of_neg c]; rfl
  refine hc l[i] (List.getElem_mem hi) σ1 H1 s0 ag sm _ fun H2 s2 => ?_
  have ha2 := s2 _ _ ha
  by_cases c : f l[i] = true
  · refine iteT' c ⟨_, s0, ys, ha2, ?_, hD σ1 _ (ys ++ [natV l[i]]) l1 ag (samePut hA (sm.trans s2)) upd_same (by rw [tk, if_pos c, hL, List.map_append]; rfl)⟩
    rw [hL, List.length_map]
    exact Nat.lt_of_le_of_lt (show _ ≤ 63 from Nat.le_trans (List.length_filter_le ..) (by rw [List.length_take]; omega)) (by decide)
  · exact iteF' (by simpa using c) (hD σ1 H2 ys l1 ag (sm.trans s2) ha2 (by rw [tk, if_neg c, List.append_nil]; exact hL))
end
def spGp (K : PySem.W.Frag) : Sp := fun vs H Q _ => ∃ (t a : Addr) (S : List Nat) (xs : List V) (L : List Tie), vs = [.ref t, .ref a] ∧ Ts K H t xs L ∧ SqL K H a (S.map natV) ∧ S.Nodup ∧ S.length ≤ 8 ∧ ∀ H', Same H H' → Q (.int ((cls L S 8 S : Nat) : Int)) H'
theorem rd_gp : ∀ vs H Q E, spGp K vs H Q E → T__law_gparts K (spTd K) { nx := fun _ H' => Q .non H', rt := Q } (start ["ties", "left", "many", "rest", "waiting", "here", "beside"] vs) H := by
  intro vs H Q E h
  obtain ⟨t, a, S, xs, L, rfl, ht, ha, nd, s8, q⟩ := h
  refine ⟨_, rfl, .inl ⟨a, _, rfl, .inl ha, fun r0 hr0 => ?_⟩⟩
  refine ⟨fun m σ' H' => ∃ (R : List Nat) (ra : Addr) (x4 x5 x6 : Option V) (c : Nat), m = R.length ∧ σ' = [some (.ref t), some (.ref a), some (.int (c : Int)), some (.ref ra), x4, x5, x6] ∧ Same H H' ∧ H' ra = some (.lst (R.map natV)) ∧ H ra = none ∧ R.Nodup ∧ Clo L S R ∧ c + cls L S 8 R = cls L S 8 S ∧ R.length ≤ 8, ⟨_, S, r0, _, _, _, 0, rfl, rfl, same_new hr0 _, upd_same, hr0, nd, clo_all, Nat.zero_add _, s8⟩, ?_⟩
  rintro m σ1 H1 ⟨R, ra, x4, x5, x6, c, rfl, rfl, s1, hra, hra0, ndR, clo, hc, r8⟩
  refine ⟨_, rfl, Nat.zero_le _, fun z hz => ⟨lstN R, lstN [], dep_lstN _, sh_lstN ((same_new hz _).seq (.of hra)), sh_lstN (.of upd_same), _, rfl, ?_⟩⟩
  rw [eqD_lstN]
  have s2 := s1.trans (same_new hz (.lst []))
  have hra2 := (same_new hz (.lst [])) _ _ hra
  show if (!decide (R = [])) = true then _ else _
  generalize upd H1 z (.lst []) = H2 at s2 hra2 ⊢
  cases R with
  | nil =>
    refine iteF' rfl ?_
    have hc' : c = cls L S 8 S := by rw [← hc]; rfl
    refine ⟨_, rfl, ?_⟩
    rw [hc']
    exact q H2 s2
  | cons x R =>
    refine iteT' rfl ⟨fun σ' H' => ∃ (ra : Addr) (x4 x5 x6 : Option V), σ' = [some (.ref t), some (.ref a), some (.int ((c + 1 : Nat) : Int)), some (.ref ra), x4, x5, x6] ∧ Same H H' ∧ H' ra = some (.lst ((R.filter (ncn L S x)).map natV)) ∧ H ra = none, fun σ' H' ⟨ra, x4, x5, x6, e, s, h1, h2⟩ => ?_, ?_⟩
    · refine ⟨_, ?_, R.filter (ncn L S x), ra, x4, x5, x6, c + 1, rfl, e, s, h1, h2, List.filter_sublist.nodup (List.nodup_cons.mp ndR).2, clo_next clo, ?_, ?_⟩
      · have := List.length_filter_le (ncn L S x) R
        rw [List.length_cons]; omega
      · rw [cls_cons r8] at hc; omega
      · have := List.length_filter_le (ncn L S x) R
        rw [List.length_cons] at r8; omega
    · refine ⟨_, rfl, ?_⟩
      dsimp only [rAddA]
      refine ⟨_, rfl, .inl ⟨rfl, _, .of hra2⟩, ra, _, 0, 0, natV x, rfl, rfl, hra2, by decide, by decide, (show seqIndex? ((0 : Nat) : Int) _ = some 0 from seqIx (by simp)), rfl, show 1 ≤ sizeLine by decide, fun wa hwa => ?_⟩
      have hwa : (upd H2 ra (.lst (R.map natV))) wa = none := hwa
      have nxR := (List.nodup_cons.mp ndR).1
      have ndR' := (List.nodup_cons.mp ndR).2
      have m3 : Same H (upd H2 ra (.lst (R.map natV))) := samePut hra0 s2
      have hwra : wa ≠ ra := fun e => by rw [e, upd_same] at hwa; cases hwa
      have hwa0 : H wa = none := m3.free hwa
      have sw := same_new hwa (.lst [natV x])
      have hra3 := sw _ _ (upd_same (H := H2) (a := ra) (o := .lst (R.map natV)))
      have hwa3 : (upd (upd H2 ra (.lst (R.map natV))) wa (.lst [natV x])) wa = some (.lst [natV x]) := upd_same
      have m4 := m3.trans sw
      show tSeq _ _ _ _ (upd (upd H2 ra (.lst (R.map natV))) wa (.lst [natV x]))
      generalize upd (upd H2 ra (.lst (R.map natV))) wa (.lst [natV x]) = H4 at hra3 hwa3 m4 ⊢
      rw [List.length_cons] at r8
      rw [show ((c : Int) + 1) = ((c + 1 : Nat) : Int) by omega]
      refine ⟨fun m σ' H' => ∃ (g : Nat → Bool) (rb : Addr) (W : List Nat) (y5 y6 : Option V), m = 2 * (R.filter g).length + W.length ∧ σ' = [some (.ref t), some (.ref a), some (.int ((c + 1 : Nat) : Int)), some (.ref rb), some (.ref wa), y5, y6] ∧ Same H H' ∧ H rb = none ∧ rb ≠ wa ∧ H' rb = some (.lst ((R.filter g).map natV)) ∧ H' wa = some (.lst (W.map natV)) ∧ (∀ u ∈ W, u = x ∨ (u ∈ R ∧ g u = false)) ∧ (∀ y ∈ R, g y = false → Cn L S x y) ∧ (∀ u, (u = x ∨ (u ∈ R ∧ g u = false)) → u ∉ W → ∀ v ∈ R, g v = true → ¬ adj L u v) ∧ W.length + (R.filter g).length ≤ 9,
        ⟨_, fun _ => true, ra, [x], _, _, rfl, rfl, m4, hra0, hwra.symm, by rw [List.filter_eq_self.mpr fun _ _ => rfl]; exact hra3, hwa3, (fun u hu => .inl (List.mem_singleton.mp hu)), (fun y _ z => by cases z), (fun u hu hn v hv _ => ?_), ?_⟩, ?_⟩
      · rcases hu with rfl | ⟨_, z⟩
        · exact absurd (List.mem_singleton.mpr rfl) hn
        · cases z
      · rw [List.filter_eq_self.mpr fun _ _ => rfl, List.length_singleton]; omega
      · rintro m σ5 H5 ⟨g, rb, W, y5, y6, rfl, rfl, s5, hrb0, hrw, hrb, hwaW, hW, hcn, hdone, hlen⟩
        refine ⟨_, rfl, Nat.zero_le _, fun z hz => ⟨lstN W, lstN [], dep_lstN _, sh_lstN ((same_new hz _).seq (.of hwaW)), sh_lstN (.of upd_same), _, rfl, ?_⟩⟩
        rw [eqD_lstN]
        have s6 := s5.trans (same_new hz (.lst []))
        have hrb6 := (same_new hz (.lst [])) _ _ hrb
        have hwa6 := (same_new hz (.lst [])) _ _ hwaW
        show if (!decide (W = [])) = true then _ else _
        generalize upd H5 z (.lst []) = H6 at s6 hrb6 hwa6 ⊢
        rcases List.eq_nil_or_concat W with rfl | ⟨W0, u, rfl⟩
        · refine iteF' rfl ⟨rb, _, _, _, rfl, s6, ?_, hrb0⟩
          rw [← bfs_end nxR clo hcn fun u hu v hv hg => hdone u hu (fun z => by cases z) v hv hg]
          exact hrb6
        · rw [List.concat_eq_append] at *
          refine iteT' (by simp) ⟨_, fun σ' H' h => h, ?_⟩
          have hu := hW u (List.mem_append_right _ (List.mem_singleton.mpr rfl))
          refine ⟨_, rfl, .inl ⟨rfl, _, .of hwa6⟩, wa, _, natV u, rfl, rfl, hwa6, by simp, ?_⟩
          have ed : ((W0 ++ [u]).map natV).dropLast = W0.map natV := by rw [List.map_append, List.map_singleton, List.dropLast_concat]
          rw [ed]
          have m7 : Same H (upd H6 wa (.lst (W0.map natV))) := samePut hwa0 s6
          have hwa7 : (upd H6 wa (.lst (W0.map natV))) wa = some (.lst (W0.map natV)) := upd_same
          have hrb7 : (upd H6 wa (.lst (W0.map natV))) rb = some (.lst ((R.filter g).map natV)) := by rw [upd_ne hrw]; exact hrb6
          show tSeq _ _ _ _ (upd H6 wa (.lst (W0.map natV)))
          generalize upd H6 wa (.lst (W0.map natV)) = H7 at m7 hwa7 hrb7 ⊢
          have fl := List.length_filter_le g R
          refine ⟨_, rfl, rb, rfl, .inl ⟨⟨_, .of hrb7⟩, fun B hB => filN (f := fun y => decide ((min u y, max u y) ∈ L)) hB hrb7 (by omega) (by show 0 < 3; decide) (fun y hy σ8 H8 t0 ag sm8 R8 hR8 => ?_) fun σ8 H8 s8' hB8 => ?_⟩⟩
          · have u1 : σ8[1]? = some (some (.ref t)) := (ag 1 (by decide)).trans rfl
            have u2 : σ8[2]? = some (some (natV u)) := (ag 2 (by decide)).trans rfl
            exact ⟨_, u1, _, u2, _, t0, t, xs, L, u, y, rfl, ht.same (m7.trans sm8), fun H9 s9 => ⟨_, rfl, hR8 H9 s9⟩⟩
          · have hwa8 := s8' _ _ hwa7
            have hrb8 := s8' _ _ hrb7
            have hB0 : H B = none := m7.free hB
            have hBw : B ≠ wa := fun e => by rw [e, hwa7] at hB; cases hB
            have hBr : B ≠ rb := fun e => by rw [e, hrb7] at hB; cases hB
            have bl := List.length_filter_le (fun y => decide ((min u y, max u y) ∈ L)) (R.filter g)
            have f2 := filt2 (p := fun y => decide ((min u y, max u y) ∈ L)) (R.filter g)
            rw [List.length_append, List.length_singleton] at hlen
            refine ⟨_, rfl, .inl ⟨rfl, _, .of hwa8⟩, _, rfl, .inl ⟨wa, B, _, _, rfl, rfl, hwa8, hB8, by rw [List.length_map, List.length_map]; exact Nat.le_trans (show W0.length + ((R.filter g).filter fun y => decide ((min u y, max u y) ∈ L)).length ≤ 20 by omega) (by decide), ?_⟩⟩
            rw [← List.map_append]
            generalize hbes : (R.filter g).filter (fun y => decide ((min u y, max u y) ∈ L)) = bes at hB8 bl f2 ⊢
            have m9 : Same H (upd H8 wa (.lst ((W0 ++ bes).map natV))) := samePut hwa0 (m7.trans s8')
            have hwa9 : (upd H8 wa (.lst ((W0 ++ bes).map natV))) wa = some (.lst ((W0 ++ bes).map natV)) := upd_same
            have hrb9 : (upd H8 wa (.lst ((W0 ++ bes).map natV))) rb = some (.lst ((R.filter g).map natV)) := by rw [upd_ne hrw]; exact hrb8
            have hB9 : (upd H8 wa (.lst ((W0 ++ bes).map natV))) B = some (.lst (bes.map natV)) := by rw [upd_ne hBw]; exact hB8
            show tSeq _ _ _ _ (upd H8 wa (.lst ((W0 ++ bes).map natV)))
            generalize upd H8 wa (.lst ((W0 ++ bes).map natV)) = H9 at m9 hwa9 hrb9 hB9 ⊢
            refine ⟨_, rfl, rb, rfl, .inl ⟨⟨_, .of hrb9⟩, fun G hG => filN (f := fun y => !decide (y ∈ bes)) hG hrb9 (by omega) (by show 0 < 2; decide) (fun y hy σ10 H10 t0 ag sm10 R10 hR10 => ?_) fun σ10 H10 s10 hG10 => ?_⟩⟩
            · have u1 : σ10[1]? = some (some (.ref B)) := (ag 1 (by decide)).trans rfl
              exact ⟨_, t0, _, u1, in_list (neg := true) (.inl (.of (sm10 _ _ hB9))) ⟨_, rfl, hR10 H10 (Same.refl _)⟩⟩
            · have hGw : G ≠ wa := fun e => by rw [e, hwa9] at hG; cases hG
              have mb : ∀ y, y ∈ bes ↔ (y ∈ R ∧ g y = true) ∧ adj L u y := fun y => by
                rw [← hbes, List.mem_filter, List.mem_filter, decide_eq_true_iff]; rfl
              have fe : (R.filter g).filter (fun y => !decide (y ∈ bes)) = R.filter fun y => g y && !decide ((min u y, max u y) ∈ L) := by
                rw [List.filter_filter]
                refine List.filter_congr fun y hy => ?_
                cases hg : g y with
                | false => simp
                | true =>
                  rw [Bool.and_true, Bool.true_and]
                  congr 1
                  exact decide_eq_decide.mpr ⟨fun z => ((mb y).mp z).2, fun z => (mb y).mpr ⟨⟨hy, hg⟩, z⟩⟩
              have f3 : (R.filter fun y => g y && !decide ((min u y, max u y) ∈ L)).length + bes.length = (R.filter g).length := by
                have e : ((R.filter g).filter fun y => !decide ((min u y, max u y) ∈ L)) = R.filter fun y => g y && !decide ((min u y, max u y) ∈ L) := by
                  rw [List.filter_filter]
                  exact List.filter_congr fun y _ => Bool.and_comm _ _
                rw [e] at f2
                omega
              rw [fe] at hG10
              have xS : x ∈ S := clo.1 x (List.mem_cons_self ..)
              have inS : ∀ y ∈ R, y ∈ S := fun y hy => clo.1 y (List.mem_cons_of_mem _ hy)
              have uS : u ∈ S := by
                rcases hu with e | ⟨e, _⟩
                · rw [e]; exact xS
                · exact inS u e
              have cu : Cn L S x u := by
                rcases hu with e | ⟨e, f⟩
                · rw [e]; exact .refl _
                · exact hcn u e f
              refine ⟨_, ?_, (fun y => g y && !decide ((min u y, max u y) ∈ L)), G, W0 ++ bes, _, _, rfl, rfl, m9.trans s10, m9.free hG, hGw, hG10, s10 _ _ hwa9, fun v hv => ?_, fun y hy hg => ?_, fun u' hu' hn v hv hg => ?_, ?_⟩
              · rw [List.length_append, List.length_append, List.length_singleton]; omega
              · rcases List.mem_append.mp hv with hv | hv
                · rcases hW v (List.mem_append_left _ hv) with e | ⟨e1, e2⟩
                  · exact .inl e
                  · exact .inr ⟨e1, by show (g v && !decide ((min u v, max u v) ∈ L)) = false; rw [e2]; rfl⟩
                · obtain ⟨⟨e1, e2⟩, e3⟩ := (mb v).mp hv
                  exact .inr ⟨e1, by show (g v && !decide ((min u v, max u v) ∈ L)) = false; rw [e2, decide_eq_true (show (min u v, max u v) ∈ L from e3)]; rfl⟩
              · cases hg1 : g y with
                | false => exact hcn y hy hg1
                | true =>
                  have hg : (g y && !decide ((min u y, max u y) ∈ L)) = false := hg
                  rw [hg1, Bool.true_and, Bool.not_eq_false', decide_eq_true_iff] at hg
                  exact .step cu uS (inS y hy) hg
              · have hg : (g v && !decide ((min u v, max u v) ∈ L)) = true := hg
                rw [Bool.and_eq_true, Bool.not_eq_true', decide_eq_false_iff_not] at hg
                have nW0 : u' ∉ W0 := fun z => hn (List.mem_append_left _ z)
                by_cases eu : u' = u
                · rw [eu]; exact hg.2
                · have nW : u' ∉ W0 ++ [u] := fun z => by
                    rcases List.mem_append.mp z with z | z
                    · exact nW0 z
                    · exact eu (List.mem_singleton.mp z)
                  rcases hu' with e | ⟨e1, e2⟩
                  · exact hdone u' (.inl e) nW v hv hg.1
                  · cases hg1 : g u' with
                    | false => exact hdone u' (.inr ⟨e1, hg1⟩) nW v hv hg.1
                    | true =>
                      have e2 : (g u' && !decide ((min u u', max u u') ∈ L)) = false := e2
                      rw [hg1, Bool.true_and, Bool.not_eq_false', decide_eq_true_iff] at e2
                      exact absurd (List.mem_append_right _ ((mb u').mpr ⟨⟨e1, hg1⟩, e2⟩)) hn
              · rw [List.length_append]; omega
def spFl (K : PySem.W.Frag) : Sp := fun vs H Q _ => ∃ (w b : Addr) (n : Nat) (L : List Tie) (s : List Nat), vs = [.ref w, .ref b] ∧ Web K H w n L ∧ n ≤ 8 ∧ SqT K H b (s.map natV) ∧ ∀ H' c, Same H H' → (c = true ↔ falls n L s) → Q (.bl c) H'
theorem rd_fl : ∀ vs H Q E, spFl K vs H Q E → T__law_gfalls K (spGp K) { nx := fun _ H' => Q .non H', rt := Q } (start ["web", "some", "left"] vs) H := by
  intro vs H Q E h
  obtain ⟨w, b, n, L, s, rfl, ⟨t, xs, hw, ht⟩, n8, hb, q⟩ := h
  refine ⟨_, rfl, ixT (j := 0) hw rfl ⟨(n : Int), rfl, by omega, by omega, fun A hA => ?_⟩⟩
  rw [Int.toNat_natCast]
  refine rest_comp (s := s) (by show 0 < 2; decide) rfl hb n8 hA fun σ3 H3 s3 hA3 => ?_
  refine ⟨_, rfl, ixT (j := 1) (s3.tup hw) rfl ⟨_, rfl, t, A, rest n s, xs, L, rfl, ht.same s3, .of hA3, rest_nodup n s, Nat.le_trans (rest_len n s) n8, fun H4 s4 => ⟨_, rfl, b, _, rfl, .inr ((s3.trans s4).tup hb), _, _, rfl, rfl, ?_⟩⟩⟩
  refine q H4 _ (s3.trans s4) ?_
  rw [decide_eq_true_iff, List.length_map]
  unfold falls
  omega
end
end K79
namespace K79
open PySem L2
section
variable {K : PySem.W.Frag}
def spStar (K : PySem.W.Frag) : Sp := fun vs H Q _ => ∃ (p l : Addr) (ns : List Int), vs = [.ref p] ∧ Pen H p l ns ∧ WebE K p l ns H Q
theorem rd_star : ∀ vs H Q E, spStar K vs H Q E → T__law_gstar K spDraw { nx := fun _ H' => Q .non H', rt := Q } (start ["tape", "many", "size", "order", "some", "ties", "i", "j"] vs) H := by
  intro vs H Q E h
  obtain ⟨p, l, ns, rfl, hP0, q⟩ := h
  refine ⟨_, rfl, p, l, ns, 6, rfl, hP0, by decide, by decide, fun r0 H0 hr0 hP1 sx0 => ?_⟩
  obtain ⟨n, en⟩ : ∃ n : Nat, n = 3 + r0 := ⟨_, rfl⟩
  dsimp only [rAddA]
  show tSeq _ _ _ (List.set _ 1 (some (.int (3 + (r0 : Int))))) H0
  rw [show (3 : Int) + (r0 : Int) = (n : Int) by omega]
  refine ⟨_, rfl, p, l, ns, 3, rfl, hP1, by decide, by decide, fun r1 H1 hr1 hP2 sx1 => ?_⟩
  obtain ⟨z, ez⟩ : ∃ z : Nat, z = 1 + r1 := ⟨_, rfl⟩
  dsimp only [rAddA]
  show tSeq _ _ _ (List.set _ 2 (some (.int (1 + (r1 : Int))))) H1
  rw [show (1 : Int) + (r1 : Int) = (z : Int) by omega]
  have sx01 := sx0.trans sx1
  refine ⟨_, rfl, .inl ⟨(n : Int), rfl, fun rg hrg => .inr ⟨rg, 0, (n : Int), rfl, upd_same, ⟨by omega, by omega, by omega, by omega, by omega⟩, fun o ho => ?_⟩⟩⟩
  rw [rng0]
  have srg := same_new hrg (.rng 0 (n : Int))
  have sos := same_new ho (.lst ((List.range n).map natV))
  have hP3 := (hP2.x srg).x sos
  have nop := (hP2.x srg).ne ho
  have sx3 : SameX p H (upd (upd H1 rg (.rng 0 (n : Int))) o (.lst ((List.range n).map natV))) := sx01.trans (srg.trans sos).x
  have ho0 : H o = none := by
    cases e : H o with
    | none => rfl
    | some u => rw [(sx01.trans srg.x) _ _ nop.1 e] at ho; cases ho
  have ho3 : (upd (upd H1 rg (.rng 0 (n : Int))) o (.lst ((List.range n).map natV))) o = some (.lst ((List.range n).map natV)) := upd_same
  show tSeq _ _ _ _ (upd (upd H1 rg (.rng 0 (n : Int))) o (.lst ((List.range n).map natV)))
  generalize upd (upd H1 rg (.rng 0 (n : Int))) o (.lst ((List.range n).map natV)) = H3 at hP3 sx3 ho3 ⊢
  refine ⟨_, rfl, (z : Int), rfl, by omega, by omega, fun A hA => ?_⟩
  rw [Int.toNat_natCast]
  have nA := hP3.ne hA
  have nAo : A ≠ o := fun e => by rw [e, ho3] at hA; cases hA
  have hA0 : H A = none := by
    cases e : H A with
    | none => rfl
    | some u => rw [sx3 _ _ nA.1 e] at hA; cases hA
  refine for_range (lo := 0) (n := z) (fun i σ' H' => i ≤ z ∧ ∃ x0 os ys, σ' = [x0, some (.ref o), some (.ref p)] ∧ Pen H' p l ns ∧ SameX p H H' ∧ H' o = some (.lst (os.map natV)) ∧ H' A = some (.lst (List.map natV ys)) ∧ os.length + i = n ∧ ys.length = i) ⟨Nat.zero_le _, _, List.range n, [], rfl, hP3.x (same_new hA _), sx3.trans (same_new hA _).x, (same_new hA _) _ _ ho3, upd_same, by rw [List.length_range]; rfl, rfl⟩ (fun i σ4 H4 hi ⟨_, x0, os, ys, es, hP4, sx4, ho4, hA4, ol, yl⟩ => ?_) fun σ4 H4 ⟨_, x0, os, ys, es, hP4, sx4, ho4, hA4, ol, yl⟩ => ?_
  · subst es
    refine ⟨_, rfl, .inl ⟨rfl, _, .of ho4⟩, _, rfl, _, rfl, o, _, rfl, .inl (.of ho4), p, l, ns, (os.map natV).length, rfl, hP4, by rw [List.length_map]; omega, by rw [List.length_map]; omega, fun r H5 hr hP5 sx5 => ?_⟩
    have ho5 := sx5 _ _ nop.1 ho4
    have hA5 := sx5 _ _ nA.1 hA4
    rw [List.length_map] at hr
    refine ⟨o, os.map natV, (r : Int), r, natV os[r], rfl, rfl, ho5, by omega, by omega, seqIx (by rw [List.length_map]; exact hr), by rw [List.getElem?_map, List.getElem?_eq_getElem hr]; rfl, List.map natV ys, by rw [upd_ne nAo]; exact hA5, by rw [List.length_map, yl]; exact Nat.lt_of_lt_of_le (show i < 10 by omega) (by decide), ?_⟩
    refine ⟨hi, _, os.eraseIdx r, ys ++ [os[r]], rfl, (hP5.upd nop.1 nop.2).upd nA.1 nA.2, fun b u hb e => ?_, ?_, ?_, ?_, ?_⟩
    · rw [upd_ne (ne_of_none e hA0), upd_ne (ne_of_none e ho0)]
      exact sx5 _ _ hb (sx4 _ _ hb e)
    · rw [upd_ne nAo.symm, upd_same, map_erase]
    · rw [upd_same, List.map_append]; rfl
    · rw [List.length_eraseIdx, if_pos hr]; omega
    · rw [List.length_append, yl]; rfl
  · subst es
    refine ⟨Nat.zero_le _, fun T hT => ?_⟩
    have sT := same_new hT (.lst [])
    have nT := hP4.ne hT
    have nTA : T ≠ A := fun e => by rw [e, hA4] at hT; cases hT
    have hT0 : H T = none := by
      cases e : H T with
      | none => rfl
      | some u => rw [sx4 _ _ nT.1 e] at hT; cases hT
    have hT5 : (upd H4 T (.lst [])) T = some (.lst []) := upd_same
    have hA5 := sT _ _ hA4
    have hP5 := hP4.x sT
    have sx5 := sx4.trans sT.x
    show tSeq _ _ _ _ (upd H4 T (.lst []))
    generalize upd H4 T (.lst []) = H5 at hT5 hA5 hP5 sx5 ⊢
    refine ⟨_, rfl, (n : Int), rfl, by omega, by omega, ?_⟩
    rw [Int.toNat_natCast]
    refine for_range (lo := 0) (n := n) (fun i σ' H' => i ≤ n ∧ ∃ x6 x7 xs L, σ' = [some (.ref p), some (.int (n : Int)), some (.int (z : Int)), some (.ref o), some (.ref A), some (.ref T), x6, x7] ∧ Pen H' p l ns ∧ SameX p H H' ∧ H' A = some (.lst (List.map natV ys)) ∧ H' T = some (.lst xs) ∧ Rows K H' xs (prs L) ∧ Ok n L ∧ ∀ e ∈ L, e.1 < i) ⟨Nat.zero_le _, _, _, [], [], rfl, hP5, sx5, hA5, hT5, Rows.nil, Ok.nil, fun e he => by cases he⟩ (fun i σ6 H6 hi ⟨_, x6, x7, xs, L, es, hP6, sx6, hA6, hT6, hr6, ok6, lt6⟩ => ?_) fun σ6 H6 ⟨_, x6, x7, xs, L, es, hP6, sx6, hA6, hT6, hr6, ok6, lt6⟩ => ?_
    · subst es
      rw [Int.zero_add]
      refine ⟨_, rfl, ?_⟩
      dsimp only [rAddA]
      refine ⟨_, rfl, (i : Int) + 1, (n : Int), rfl, ⟨by omega, by omega, by omega, by omega⟩, ?_⟩
      rw [show ((n : Int) - ((i : Int) + 1)).toNat = n - (i + 1) by omega]
      refine for_range (lo := (i : Int) + 1) (n := n - (i + 1)) (fun k σ' H' => k ≤ n - (i + 1) ∧ ∃ x7 xs L, σ' = [some (.ref p), some (.int (n : Int)), some (.int (z : Int)), some (.ref o), some (.ref A), some (.ref T), some (.int (i : Int)), x7] ∧ Pen H' p l ns ∧ SameX p H H' ∧ H' A = some (.lst (List.map natV ys)) ∧ H' T = some (.lst xs) ∧ Rows K H' xs (prs L) ∧ Ok n L ∧ ∀ e ∈ L, e.1 < i ∨ (e.1 = i ∧ e.2 < i + 1 + k)) ⟨Nat.zero_le _, _, xs, L, rfl, hP6, sx6, hA6, hT6, hr6, ok6, fun e he => .inl (lt6 e he)⟩ (fun k σ7 H7 hk ⟨_, x7', xs7, L7, es, hP7, sx7, hA7, hT7, hr7, ok7, lt7⟩ => ?_) fun σ7 H7 ⟨_, x7', xs7, L7, es, hP7, sx7, hA7, hT7, hr7, ok7, lt7⟩ => ?_
      · subst es
        rw [show (i : Int) + 1 + (k : Int) = ((i + 1 + k : Nat) : Int) by omega]
        have no : ∀ H8, Pen H8 p l ns → SameX p H H8 → H8 A = some (.lst (List.map natV ys)) → H8 T = some (.lst xs7) → Rows K H8 xs7 (prs L7) → k + 1 ≤ n - (i + 1) ∧ ∃ x7 xs L, ([some (.ref p), some (.int (n : Int)), some (.int (z : Int)), some (.ref o), some (.ref A), some (.ref T), some (.int (i : Int)), some (.int ((i + 1 + k : Nat) : Int))] : St) = [some (.ref p), some (.int (n : Int)), some (.int (z : Int)), some (.ref o), some (.ref A), some (.ref T), some (.int (i : Int)), x7] ∧ Pen H8 p l ns ∧ SameX p H H8 ∧ H8 A = some (.lst (List.map natV ys)) ∧ H8 T = some (.lst xs) ∧ Rows K H8 xs (prs L) ∧ Ok n L ∧ ∀ e ∈ L, e.1 < i ∨ (e.1 = i ∧ e.2 < i + 1 + (k + 1)) := fun H8 a1 a2 a3 a4 a5 => ⟨hk, _, xs7, L7, rfl, a1, a2, a3, a4, a5, ok7, fun e he => by have := lt7 e he; omega⟩
        have yes : ∀ H8, Pen H8 p l ns → SameX p H H8 → H8 A = some (.lst (List.map natV ys)) → H8 T = some (.lst xs7) → Rows K H8 xs7 (prs L7) → tSeq (tDrop (tBM K "list" rAppend (tVar 5) (tCons (tTup (tCons (tVar 6) (tCons (tVar 7) tNil))) tNil))) tNext { nx := fun σ' H' => k + 1 ≤ n - (i + 1) ∧ ∃ x7 xs L, σ' = [some (.ref p), some (.int (n : Int)), some (.int (z : Int)), some (.ref o), some (.ref A), some (.ref T), some (.int (i : Int)), x7] ∧ Pen H' p l ns ∧ SameX p H H' ∧ H' A = some (.lst (List.map natV ys)) ∧ H' T = some (.lst xs) ∧ Rows K H' xs (prs L) ∧ Ok n L ∧ ∀ e ∈ L, e.1 < i ∨ (e.1 = i ∧ e.2 < i + 1 + (k + 1)), rt := Q } [some (.ref p), some (.int (n : Int)), some (.int (z : Int)), some (.ref o), some (.ref A), some (.ref T), some (.int (i : Int)), some (.int ((i + 1 + k : Nat) : Int))] H8 := fun H8 a1 a2 a3 a4 a5 => by
          refine ⟨_, rfl, .inl ⟨rfl, _, .of a4⟩, _, rfl, _, rfl, show 2 ≤ sizeLine by decide, fun y hy => ?_⟩
          have sy := same_new hy (.tup [V.int (i : Int), .int ((i + 1 + k : Nat) : Int)])
          have g7 : SqT K (upd H8 y (.tup [V.int (i : Int), .int ((i + 1 + k : Nat) : Int)])) y ((row (i, i + 1 + k)).map V.int) := .of upd_same
          have a4' := sy _ _ a4
          have l7 : xs7.length ≤ 63 := by rw [a5.1, prs_len]; exact ok7.len (by omega)
          refine ⟨T, xs7, _, rfl, rfl, a4', Nat.lt_of_le_of_lt l7 (by decide), hk, _, xs7 ++ [.ref y], L7 ++ [(i, i + 1 + k)], rfl, (a1.x sy).upd nT.1 nT.2, fun b u hb e => ?_, by rw [upd_ne nTA.symm]; exact sy _ _ a3, upd_same, ?_, ok7.add (by show i < i + 1 + k; omega) (by show i + 1 + k < n; omega) (fun hm => by have := lt7 _ hm; simp at this), fun e he => ?_⟩
          · rw [upd_ne (ne_of_none e hT0)]
            exact sy _ _ (a2 _ _ hb e)
          · rw [prs_app]
            exact Rows.put (Rows.snoc (a5.same sy) g7) a4'
          · rcases List.mem_append.mp he with he | he
            · have := lt7 e he; omega
            · rw [List.mem_singleton.mp he]; exact .inr ⟨rfl, by show i + 1 + k < _; omega⟩
        refine ⟨_, rfl, _, rfl, in_list (neg := false) (.inl (.of hA7)) ⟨_, rfl, ?_⟩⟩
        by_cases c1 : i ∈ ys
        · exact iteT' (by simp [c1]) (iteT' rfl (yes H7 hP7 sx7 hA7 hT7 hr7))
        refine iteF' (by simp [c1]) ⟨_, rfl, _, rfl, in_list (neg := false) (.inl (.of hA7)) ⟨_, rfl, ?_⟩⟩
        by_cases c2 : i + 1 + k ∈ ys
        · exact iteT' (by simp [c2]) (iteT' rfl (yes H7 hP7 sx7 hA7 hT7 hr7))
        refine iteF' (by simp [c2]) ⟨_, rfl, p, l, ns, 9, rfl, hP7, by decide, by decide, fun r H8 hr hP8 sx8 => ⟨.int _, .int _, Nat.zero_le _, rfl, rfl, _, rfl, ?_⟩⟩
        have b1 := sx7.trans sx8
        have b2 := sx8 _ _ nA.1 hA7
        have b3 := sx8 _ _ nT.1 hT7
        have b4 := pen_rows hP7 sx8 hr7
        cases eqD (.int (r : Int)) (.int 0) with
        | true => exact iteT' rfl (yes H8 hP8 b1 b2 b3 b4)
        | false => exact iteF' rfl (no H8 hP8 b1 b2 b3 b4)
      · subst es
        exact ⟨hi, _, _, xs7, L7, rfl, hP7, sx7, hA7, hT7, hr7, ok7, fun e he => by have := lt7 e he; omega⟩
    · subst es
      refine ⟨_, rfl, _, rfl, T, xs, rfl, .inl ⟨.of hT6, fun t3 ht3 => ⟨show 2 ≤ sizeLine by decide, fun d hd => ?_⟩⟩⟩
      have s7 := same_new ht3 (.tup xs)
      have s8 := same_new hd (.tup [V.int (n : Int), .ref t3])
      have s78 := s7.trans s8
      exact q d n L _ (by omega) ok6 ⟨t3, xs, .of upd_same, s8.tup (.of upd_same), hr6.same s78⟩ (hP6.x s78) (sx6.trans s78.x)
end
end K79
namespace K79
open PySem L2
def tupM (ps : List Nat) : Dt := .tup ((nz ps).map Dt.int)
theorem eqD_tupM (a b : List Nat) : eqD (tupM a) (tupM b) = decide (a = b) := by
  unfold tupM
  rw [eqD_rows]
  by_cases h : a = b
  · rw [decide_eq_true h, decide_eq_true (by rw [h])]
  · rw [decide_eq_false h, decide_eq_false fun z => h (nz_inj z)]
theorem dep_tupM (a : List Nat) : dep (tupM a) ≤ 100 := by
  unfold tupM
  rw [dep, okAll_depL]
  decide
theorem subs_head : ∀ n, ∃ tl, subsN n = [] :: tl ∧ ∀ s ∈ tl, s ≠ []
  | 0 => ⟨[], rfl, fun s z => by cases z⟩
  | n + 1 => by
    obtain ⟨tl, e, h⟩ := subs_head n
    refine ⟨tl ++ (subsN n).map (· ++ [n]), by rw [subsN]; conv => lhs; rw [e]
                                               rw [e]; rfl, fun s hs => ?_⟩
    rcases List.mem_append.mp hs with hs | hs
    · exact h s hs
    · obtain ⟨r, _, rfl⟩ := List.mem_map.mp hs
      simp
theorem subs_ne {n : Nat} {s : List Nat} (h : s ∈ subsN n) (hn : s ≠ []) : s ∈ (subsN n).drop 1 := by
  obtain ⟨tl, e, _⟩ := subs_head n
  rw [e] at h ⊢
  rcases List.mem_cons.mp h with h | h
  · exact absurd h hn
  · exact h
theorem subs_drop {n : Nat} {s : List Nat} (h : s ∈ (subsN n).drop 1) : s ≠ [] ∧ s ∈ subsN n := by
  obtain ⟨tl, e, ht⟩ := subs_head n
  rw [e] at h ⊢
  exact ⟨ht s h, List.mem_cons_of_mem _ h⟩
theorem nodup_lt : ∀ {l : List Nat}, l.Pairwise (· < ·) → l.Nodup := fun h => h.imp fun x e => absurd (e ▸ x) (Nat.lt_irrefl _)
theorem sorted_same {a b : List Nat} (ha : a.Pairwise (· < ·)) (hb : b.Pairwise (· < ·)) (h : ∀ j, j ∈ a ↔ j ∈ b) : a = b :=
  List.Perm.eq_of_pairwise (le := (· ≤ ·)) (fun _ _ _ _ x y => Nat.le_antisymm x y) (ha.imp Nat.le_of_lt) (hb.imp Nat.le_of_lt) ((List.perm_ext_iff_of_nodup (nodup_lt ha) (nodup_lt hb)).mpr h)
section
variable {K : PySem.W.Frag}
theorem sh_tupM {H : Hp} {a : Addr} {ps : List Nat} (h : SqT K H a (ps.map natV)) : Sh K H (tupM ps) (.ref a) := ⟨a, _, rfl, h, by rw [← nz_v]; exact ShL.ints _⟩
def spRg (K : PySem.W.Frag) : Sp := fun vs H Q _ => ∃ (w : Addr) (v : V) (n : Nat) (L : List Tie), vs = [.ref w, v] ∧ Web K H w n L ∧ n ≤ 8 ∧ ((v = .non ∧ ∀ s ∈ (subsN n).drop 1, ¬ falls n L s) ∨ ∃ b s, v = .ref b ∧ SqT K H b (s.map natV) ∧ s ∈ (subsN n).drop 1 ∧ falls n L s) ∧ ∀ H', Same H H' → Q (.bl true) H'
theorem rd_rg : ∀ vs H Q E, spRg K vs H Q E → T__law_gright K (spFl K) { nx := fun _ H' => Q .non H', rt := Q } (start ["web", "found", "sets", "place"] vs) H := by
  intro vs H Q E h
  obtain ⟨w, v, n, L, rfl, hW, n8, hv, q⟩ := h
  obtain ⟨t, xs, hw, ht⟩ := id hW.ex
  refine ⟨_, rfl, .inr ⟨rfl, _, rfl, ?_⟩⟩
  rcases hv with ⟨rfl, no⟩ | ⟨b, s, rfl, hb, hs, hf⟩
  · refine iteT' rfl ⟨Nat.zero_le _, fun e he => ⟨show 1 ≤ sizeLine by decide, fun F hF => ?_⟩⟩
    have s1 := same_new he (.tup [])
    have s2 := same_new hF (.lst [.ref e])
    have hF1 : (upd (upd H e (.tup [])) F (.lst [.ref e])) F = some (.lst [.ref e]) := upd_same
    have he1 : SqT K (upd (upd H e (.tup [])) F (.lst [.ref e])) e [] := s2.tup (.of upd_same)
    have m0 := s1.trans s2
    show tSeq _ _ _ _ (upd (upd H e (.tup [])) F (.lst [.ref e]))
    generalize upd (upd H e (.tup [])) F (.lst [.ref e]) = H0 at hF1 he1 m0 ⊢
    refine ⟨_, rfl, ixT (j := 0) (m0.tup hw) rfl ⟨(n : Int), rfl, by omega, by omega, ?_⟩⟩
    rw [Int.toNat_natCast]
    refine for_range (lo := 0) (n := n) (fun i σ' H' => i ≤ n ∧ ∃ F ys x3, σ' = [some (.ref w), some .non, some (.ref F), x3] ∧ Same H H' ∧ H' F = some (.lst ys) ∧ Rows K H' ys (lr (subsN i))) ⟨Nat.zero_le _, F, _, _, rfl, m0, hF1, rows_nil1 he1⟩ (fun i σ1 H1 hi ⟨_, F1, ys, x2, es, sm, hF2, hr⟩ => ?_) fun σ1 H1 ⟨_, F1, ys, x2, es, sm, hF2, hr⟩ => ?_
    · subst es
      rw [Int.zero_add]
      have l1 := subs_le (n := i) (by omega)
      refine ⟨_, rfl, _, rfl, F1, rfl, .inl ⟨⟨_, .of hF2⟩, fun A hA => grow_comp (k := i) (by show 0 < 2; decide) rfl hA hF2 hr l1 (fun q' hq' => Nat.le_trans (subs_mem i q' hq').2.2 (by omega)) fun σ3 H3 zs s3 hA3 hr3 => ?_⟩⟩
      have hF3 := s3 _ _ hF2
      have b1 := rowsT_len hr
      have b2 := rowsT_len hr3
      rw [List.length_map] at b2
      refine .inl ⟨F1, A, ys, zs, rfl, rfl, hF3, hA3, Nat.le_trans (show ys.length + zs.length ≤ 512 by omega) (by decide), fun G hG => ?_⟩
      have mG := same_new hG (.lst (ys ++ zs))
      exact ⟨hi, G, ys ++ zs, _, rfl, (sm.trans s3).trans mG, upd_same, (subs_app (hr.same s3) hr3).same mG⟩
    · subst es
      refine ⟨_, rfl, F1, rfl, .inl ⟨⟨_, .of hF2⟩, fun A hA => ?_⟩⟩
      refine inv_list (K := K) (a := F1) (vars := [0]) (xs := ys) (fun i zs H' => zs = []) (by decide) (by show 0 < 2; decide) rfl hA (fun i zs H' s' _ => .of (s' _ _ hF2)) (fun i x σ3 H3 zs D3 hx l3 ag s0 s3 hA3 hz hD => ?_) fun σ3 H3 zs s3 hA3 hz => ?_
      · obtain ⟨r, b, er, rfl, hb⟩ := rows_at (hr.same s3) hx
        have rm : r ∈ subsN n := List.mem_of_getElem? er
        have u1 : σ3[1]? = some (some (.ref w)) := (ag 1 (by decide)).trans rfl
        refine ⟨_, s0, Nat.zero_le _, fun e' he' => ⟨tupM r, tupM [], dep_tupM _, sh_tupM ((same_new he' _).tup hb), sh_tupM (.of upd_same), _, rfl, ?_⟩⟩
        have se := same_new he' (.tup [])
        rw [eqD_tupM]
        show if (!decide (r = [])) = true then _ else _
        by_cases c : r = []
        · exact iteF' (by simp [c]) (iteF' rfl (hD σ3 _ zs l3 ag (s3.trans se) (se _ _ hA3) hz))
        · refine iteT' (by simp [c]) ⟨_, u1, _, s0, w, b, n, L, r, rfl, hW.same ((sm.trans s3).trans se), n8, se.tup hb, fun H5 c5 s5 hc5 => ⟨_, rfl, ?_⟩⟩
          have : c5 = false := by
            cases c5 with
            | false => rfl
            | true => exact absurd (hc5.mp rfl) (no r (subs_ne rm c))
          subst this
          exact iteF' rfl (hD σ3 _ zs l3 ag ((s3.trans se).trans s5) (s5 _ _ (se _ _ hA3)) hz)
      · subst hz
        refine ⟨Nat.zero_le _, fun e' he' => ?_⟩
        have se := same_new he' (.lst [])
        refine ⟨lstN [], lstN [], dep_lstN _, sh_lstN (se.seq (.of hA3)), sh_lstN (.of upd_same), ?_⟩
        rw [eqD_refl]
        exact q _ ((sm.trans s3).trans se)
  · obtain ⟨sne, sin⟩ := subs_drop hs
    obtain ⟨so, slt, sl⟩ := subs_mem n s sin
    refine iteF' rfl ?_
    refine ⟨_, rfl, .ref b, tupM s, "tuple", rfl, .inr (.inr (.inl rfl)), sh_tupM hb, _, rfl, iteF' rfl ?_⟩
    refine ⟨_, rfl, Nat.zero_le _, fun e he => ?_⟩
    have s1 := same_new he (.tup [])
    refine ⟨tupM s, tupM [], dep_tupM _, sh_tupM (s1.tup hb), sh_tupM (.of upd_same), _, rfl, ?_⟩
    rw [eqD_tupM]
    refine iteF' (by simp [sne]) ?_
    show tSeq _ _ _ _ (upd H e (.tup []))
    generalize upd H e (.tup []) = H1 at s1 ⊢
    have hb1 := s1.tup hb
    refine ⟨_, rfl, b, rfl, .inr ⟨⟨_, hb1⟩, fun A hA => ?_⟩⟩
    refine inv_tup (K := K) (a := b) (vars := [0]) (xs := s.map natV) (fun i zs H' => zs = []) (by decide) (by show 0 < 1; decide) rfl hA hb1 (fun i x σ3 H3 zs D3 hx l3 ag s0 s3 hA3 hz hD => ?_) fun σ3 H3 zs s3 hA3 hz => ?_
    · have hi : i < s.length := by have := (List.getElem?_eq_some_iff.mp hx).1; simpa using this
      obtain rfl : natV s[i] = x := by rw [List.getElem?_map, List.getElem?_eq_getElem hi] at hx; exact Option.some.inj hx
      refine ⟨_, s0, natV s[i], .int (s[i] : Int), "bool", rfl, .inr (.inl rfl), rfl, _, rfl, iteF' rfl ⟨_, s0, natV s[i], .int (s[i] : Int), "int", rfl, .inl rfl, rfl, _, rfl, ?_⟩⟩
      exact iteF' rfl (hD σ3 H3 zs l3 ag s3 hA3 hz)
    · subst hz
      refine ⟨Nat.zero_le _, fun e' he' => ?_⟩
      have se := same_new he' (.lst [])
      refine ⟨lstN [], lstN [], dep_lstN _, sh_lstN (se.seq (.of hA3)), sh_lstN (.of upd_same), _, rfl, iteF' (by rw [eqD_refl]; rfl) ?_⟩
      have m4 := (s1.trans s3).trans se
      show tSeq _ _ _ _ (upd H3 e' (.lst []))
      generalize upd H3 e' (.lst []) = H4 at m4 ⊢
      refine ⟨_, rfl, .inl ⟨b, _, rfl, .inr (m4.tup hb), fun lf hlf => ?_⟩⟩
      have s5 := same_new hlf (.lst (s.map natV))
      refine ⟨_, rfl, b, s, rfl, (m4.trans s5).tup hb, fun k hk => Nat.lt_of_lt_of_le (slt k hk) n8, fun ks hks hj H6 s6 l hl => ?_⟩
      have s7 := same_new hl (.lst (natVs ks))
      obtain rfl : ks = s := sorted_same hks so hj
      have m7 := ((m4.trans s5).trans s6).trans s7
      refine ⟨lstN ks, lstN ks, dep_lstN _, sh_lstN (.of (s7 _ _ (s6 _ _ upd_same))), sh_lstN (.of upd_same), _, rfl, iteF' (by rw [eqD_refl]; rfl) ?_⟩
      show tSeq _ _ _ _ (upd H6 l (.lst (natVs ks)))
      generalize upd H6 l (.lst (natVs ks)) = H7 at m7 ⊢
      have hb7 := m7.tup hb
      have lp : 0 < ks.length := List.length_pos_iff.mpr sne
      refine ⟨_, rfl, ixT (j := 0) hb7 (getV lp) ⟨_, _, rfl, rfl, _, rfl, iteT' (decide_eq_true (Int.natCast_nonneg _)) ?_⟩⟩
      have lm : ks.length - 1 < ks.length := by omega
      have lg : ks.getD (ks.length - 1) 0 < n := by
        rw [List.getD_eq_getElem?_getD, List.getElem?_eq_getElem lm]
        exact slt _ (List.getElem_mem lm)
      refine ⟨_, rfl, 1, rfl, ixT_last hb7 (by rw [List.length_map]; exact getV lm) ⟨_, rfl, ixT (j := 0) (m7.tup hw) rfl ⟨_, _, rfl, rfl, _, rfl, iteT' (decide_eq_true (by omega)) ?_⟩⟩⟩
      refine ⟨_, rfl, _, rfl, w, b, n, L, ks, rfl, hW.same m7, n8, hb7, fun H8 c s8 hc => ?_⟩
      rw [hc.mpr hf]
      exact q H8 (m7.trans s8)
end
end K79
namespace K79
open PySem L2
section
variable {K : PySem.W.Frag}
def spLaw (K : PySem.W.Frag) : Sp := fun vs H Q _ => ∃ (a : Addr) (ns : List Int), vs = [.ref a] ∧ SqL K H a (ns.map V.int) ∧ ns.length ≤ 63 ∧ ∀ H', Q (.bl true) H'
theorem rd_law : ∀ vs H Q E, spLaw K vs H Q E → T_law K spDraw (spNear K) (spRg K) (spStar K) (spWeb K) (spPtg K) { nx := fun _ H' => Q .non H', rt := Q } (start ["script", "tape", "turn", "web", "one"] vs) H := by
  intro vs H Q E h
  obtain ⟨a, ns, rfl, hS, hn, q⟩ := h
  refine ⟨_, rfl, _, rfl, .inl ⟨a, _, rfl, hS, fun sc hsc => ?_⟩⟩
  obtain ⟨ms, ems, _⟩ := cut_ints ns none (some 63)
  rw [ems]
  refine .inl ⟨sc, _, rfl, .inl (.of upd_same), fun l hl => ⟨show 3 ≤ sizeLine by decide, fun p hp => ?_⟩⟩
  have hlp : l ≠ p := fun e => by rw [← e, upd_same] at hp; cases hp
  have hP : Pen (upd (upd (upd H sc (.lst (ms.map V.int))) l (.lst (ms.map V.int))) p (.lst [.ref l, .int 0, .int 0])) p l ms := ⟨0, 0, upd_same, by rw [upd_ne hlp]; exact upd_same, hlp⟩
  refine ⟨4, rfl, by decide, by decide, ?_⟩
  refine for_range (lo := 0) (n := 4) (fun i σ' H' => ∃ x2 x3 x4, σ' = [some (.ref a), some (.ref p), x2, x3, x4] ∧ Pen H' p l ms) ⟨_, _, _, rfl, hP⟩ (fun i σ' H1 hi ⟨x2, x3, x4, es, hP1⟩ => ?_) fun σ' H1 ⟨x2, x3, x4, es, hP1⟩ => q H1
  subst es
  refine ⟨_, rfl, p, l, ms, 2, rfl, hP1, by decide, by decide, fun r H2 hr hP2 _ => ⟨.int _, .int _, Nat.zero_le _, rfl, rfl, _, rfl, ?_⟩⟩
  have main : WebE K p l ms H2 fun x H3 => tSeq (tFor (iSeq K (tLst (tCons (tVar 3) (tCons (tCall (spNear K) [] E0 (tCons (tVar 1) (tCons (tVar 3) tNil))) (tCons (tVar 3) tNil))))) (gName 4) (tSeq (tIfS (tNot (tB (tCall (spRg K) [] E0 (tCons (tVar 4) (tCons (tCall (spPtg K) [] E0 (tCons (tVar 4) tNil)) tNil))))) (tSeq (tRet (tC (.bl false))) tNext) tNext) tNext)) tNext { nx := fun σ' H' => ∃ x2 x3 x4, σ' = [some (.ref a), some (.ref p), x2, x3, x4] ∧ Pen H' p l ms, rt := Q, ct := fun σ' H' => ∃ x2 x3 x4, σ' = [some (.ref a), some (.ref p), x2, x3, x4] ∧ Pen H' p l ms, bk := fun _ _ => False } [some (.ref a), some (.ref p), some (.int (0 + (i : Int))), some x, x4] H3 := fun w n L H3 h8 ok hw hP3 sx3 => by
    refine ⟨_, rfl, _, rfl, _, rfl, p, l, w, ms, n, L, rfl, hP3, hw, h8, ok, fun w2 n2 L2 H4 h82 ok2 hw2 hP4 sx4 => ⟨_, rfl, show 3 ≤ sizeLine by decide, fun u hu => ⟨u, rfl, .inl ⟨⟨_, .of upd_same⟩, ?_⟩⟩⟩⟩
    have su := same_new hu (.lst [V.ref w, .ref w2, .ref w])
    have hu5 : upd H4 u (.lst [V.ref w, .ref w2, .ref w]) u = some (.lst [V.ref w, .ref w2, .ref w]) := upd_same
    have hw5 := (hw.x hP3 sx4).same su
    have hw25 := hw2.same su
    have hP5 := hP4.x su
    generalize upd H4 u (.lst [V.ref w, .ref w2, .ref w]) = H5 at hu5 hw5 hw25 hP5 ⊢
    refine for_list (K := K) (a := u) (xs := [.ref w, .ref w2, .ref w]) (fun k σ' H' => ∃ x4, σ' = [some (.ref a), some (.ref p), some (.int (0 + (i : Int))), some (.ref w), x4] ∧ H' u = some (.lst [V.ref w, .ref w2, .ref w]) ∧ Web K H' w n L ∧ Web K H' w2 n2 L2 ∧ Pen H' p l ms) ⟨_, rfl, hu5, hw5, hw25, hP5⟩ (fun k σ' H' _ ⟨_, _, e, _⟩ => .of e) (fun k x σ' H' hx ⟨y4, es, e, g1, g2, g3⟩ => ?_) fun σ' H' ⟨y4, es, e, g1, g2, g3⟩ => ⟨_, _, _, es, g3⟩
    subst es
    have go : ∀ (w3 : Addr) (n3 : Nat) (L3 : List Tie), Web K H' w3 n3 L3 → n3 ≤ 8 → Ok n3 L3 → ∀ D : Ends, (∀ σ' H', (∃ x4, σ' = [some (V.ref a), some (.ref p), some (.int (0 + (i : Int))), some (.ref w), x4] ∧ H' u = some (.lst [V.ref w, .ref w2, .ref w]) ∧ Web K H' w n L ∧ Web K H' w2 n2 L2 ∧ Pen H' p l ms) → D.nx σ' H') → tSeq (tIfS (tNot (tB (tCall (spRg K) [] E0 (tCons (tVar 4) (tCons (tCall (spPtg K) [] E0 (tCons (tVar 4) tNil)) tNil))))) (tSeq (tRet (tC (.bl false))) tNext) tNext) tNext D [some (.ref a), some (.ref p), some (.int (0 + (i : Int))), some (.ref w), some (.ref w3)] H' := fun w3 n3 L3 g h83 ok3 D hD => by
      refine ⟨_, rfl, _, rfl, w3, n3, L3, rfl, g, ok3, h83, fun H6 s6 no => ?_, fun b s H6 s6 hb hs hf => ?_⟩
      · exact ⟨w3, .non, n3, L3, rfl, g.same s6, h83, .inl ⟨rfl, no⟩, fun H7 s7 => ⟨_, rfl, iteF' rfl (hD _ _ ⟨_, rfl, (s6.trans s7) _ _ e, g1.same (s6.trans s7), g2.same (s6.trans s7), g3.x (s6.trans s7)⟩)⟩⟩
      · exact ⟨w3, .ref b, n3, L3, rfl, g.same s6, h83, .inr ⟨b, s, rfl, hb, hs, hf⟩, fun H7 s7 => ⟨_, rfl, iteF' rfl (hD _ _ ⟨_, rfl, (s6.trans s7) _ _ e, g1.same (s6.trans s7), g2.same (s6.trans s7), g3.x (s6.trans s7)⟩)⟩⟩
    match k, hx with
    | 0, hx => cases hx; exact go w n L g1 h8 ok _ fun σ' H' z => z
    | 1, hx => cases hx; exact go w2 n2 L2 g2 h82 ok2 _ fun σ' H' z => z
    | 2, hx => cases hx; exact go w n L g1 h8 ok _ fun σ' H' z => z
  cases eqD (.int (r : Int)) (.int 0) with
  | true =>
    refine iteT' rfl ⟨_, rfl, p, l, ms, rfl, hP2, fun w n L H3 h8 ok hw hP3 sx3 => ?_⟩
    exact main w n L H3 h8 ok hw hP3 sx3
  | false =>
    refine iteF' rfl ⟨_, rfl, p, l, ms, rfl, hP2, fun w n L H3 h8 ok hw hP3 sx3 => ?_⟩
    exact main w n L H3 h8 ok hw hP3 sx3
end
end K79
namespace K79
open PySem L2
section
variable {K : PySem.W.Frag}
theorem ln_parts : ∀ vs H Q E, (spParts K) vs H Q E → vs.length = 2 := fun vs H Q E ⟨_, _, _, _, _, e, _⟩ => by rw [e]; rfl
theorem ln_some_places : ∀ vs H Q E, (spSome K) vs H Q E → vs.length = 1 := fun vs H Q E ⟨_, e, _⟩ => by rw [e]; rfl
theorem ln_parting : ∀ vs H Q E, (spPtg K) vs H Q E → vs.length = 1 := fun vs H Q E ⟨_, _, _, e, _⟩ => by rw [e]; rfl
theorem ln__law_gspread : ∀ vs H Q E, spSpread vs H Q E → vs.length = 2 := fun vs H Q E ⟨_, _, e, _⟩ => by rw [e]; rfl
theorem ln__law_gdraw : ∀ vs H Q E, spDraw vs H Q E → vs.length = 2 := fun vs H Q E ⟨_, _, _, _, e, _⟩ => by rw [e]; rfl
theorem ln__law_gweb : ∀ vs H Q E, (spWeb K) vs H Q E → vs.length = 3 := fun vs H Q E ⟨_, _, _, e, _⟩ => by rw [e]; rfl
theorem ln__law_gtied : ∀ vs H Q E, (spTd K) vs H Q E → vs.length = 3 := fun vs H Q E ⟨_, _, _, _, _, e, _⟩ => by rw [e]; rfl
theorem ln__law_gparts : ∀ vs H Q E, (spGp K) vs H Q E → vs.length = 2 := fun vs H Q E ⟨_, _, _, _, _, e, _⟩ => by rw [e]; rfl
theorem ln__law_gfalls : ∀ vs H Q E, (spFl K) vs H Q E → vs.length = 2 := fun vs H Q E ⟨_, _, _, _, _, e, _⟩ => by rw [e]; rfl
theorem ln__law_gstar : ∀ vs H Q E, (spStar K) vs H Q E → vs.length = 1 := fun vs H Q E ⟨_, _, _, e, _⟩ => by rw [e]; rfl
theorem ln__law_gright : ∀ vs H Q E, (spRg K) vs H Q E → vs.length = 2 := fun vs H Q E ⟨_, _, _, _, e, _⟩ => by rw [e]; rfl
theorem ln__law_gnear : ∀ vs H Q E, (spNear K) vs H Q E → vs.length = 2 := fun vs H Q E ⟨_, _, _, _, _, _, e, _⟩ => by rw [e]; rfl
theorem ln_law : ∀ vs H Q E, spLaw K vs H Q E → vs.length = 1 := fun vs H Q E ⟨a, ns, e, _⟩ => by rw [e]; rfl
end
theorem all_mk {l : PySem.W.OpenLaw} {w : World} {K : PySem.W.Frag} {h : Heap} {mg : Str → Option Value} {fa : Addr} (X : K.In h) (G : h.Ns mainGlobals mg) (hfa : mg "law" = some (.ref fa))
    {f0 : Addr} {od0 an0 : Option Addr} {sl0 : Array (Option Value)} {oc0 kV0 dc0 pm0 cd0 ct0 : Value} (a0 : PySem.W.nsIn K mainGlobals "parts" = some (some (.ref f0))) (l0 : K.lookup f0 = some ⟨oc0, od0, .func (PySem.W.fnOf "parts" "parts" (defArgs (top 1)) (defBody (top 1)) (defScope (top 1)) .none kV0 dc0 pm0 an0 cd0 ct0), sl0⟩) (c0 : PySem.W.codeIn K cd0 "parts" = true) (k0 : PySem.W.keepIn K (.ref f0) = true)
    {f1 : Addr} {od1 an1 : Option Addr} {sl1 : Array (Option Value)} {oc1 kV1 dc1 pm1 cd1 ct1 : Value} (a1 : PySem.W.nsIn K mainGlobals "parting" = some (some (.ref f1))) (l1 : K.lookup f1 = some ⟨oc1, od1, .func (PySem.W.fnOf "parting" "parting" (defArgs (top 3)) (defBody (top 3)) (defScope (top 3)) .none kV1 dc1 pm1 an1 cd1 ct1), sl1⟩) (c1 : PySem.W.codeIn K cd1 "parting" = true) (k1 : PySem.W.keepIn K (.ref f1) = true)
    {f2 : Addr} {od2 an2 : Option Addr} {sl2 : Array (Option Value)} {oc2 kV2 dc2 pm2 cd2 ct2 : Value} (a2 : PySem.W.nsIn K mainGlobals "some_places" = some (some (.ref f2))) (l2 : K.lookup f2 = some ⟨oc2, od2, .func (PySem.W.fnOf "some_places" "some_places" (defArgs (top 4)) (defBody (top 4)) (defScope (top 4)) .none kV2 dc2 pm2 an2 cd2 ct2), sl2⟩) (c2 : PySem.W.codeIn K cd2 "some_places" = true) (k2 : PySem.W.keepIn K (.ref f2) = true)
    {f3 : Addr} {od3 an3 : Option Addr} {sl3 : Array (Option Value)} {oc3 kV3 dc3 pm3 cd3 ct3 : Value} (a3 : PySem.W.nsIn K mainGlobals "_law_gspread" = some (some (.ref f3))) (l3 : K.lookup f3 = some ⟨oc3, od3, .func (PySem.W.fnOf "_law_gspread" "_law_gspread" (defArgs (top 6)) (defBody (top 6)) (defScope (top 6)) .none kV3 dc3 pm3 an3 cd3 ct3), sl3⟩) (c3 : PySem.W.codeIn K cd3 "_law_gspread" = true) (k3 : PySem.W.keepIn K (.ref f3) = true)
    {f4 : Addr} {od4 an4 : Option Addr} {sl4 : Array (Option Value)} {oc4 kV4 dc4 pm4 cd4 ct4 : Value} (a4 : PySem.W.nsIn K mainGlobals "_law_gdraw" = some (some (.ref f4))) (l4 : K.lookup f4 = some ⟨oc4, od4, .func (PySem.W.fnOf "_law_gdraw" "_law_gdraw" (defArgs (top 7)) (defBody (top 7)) (defScope (top 7)) .none kV4 dc4 pm4 an4 cd4 ct4), sl4⟩) (c4 : PySem.W.codeIn K cd4 "_law_gdraw" = true) (k4 : PySem.W.keepIn K (.ref f4) = true)
    {f5 : Addr} {od5 an5 : Option Addr} {sl5 : Array (Option Value)} {oc5 kV5 dc5 pm5 cd5 ct5 : Value} (a5 : PySem.W.nsIn K mainGlobals "_law_gweb" = some (some (.ref f5))) (l5 : K.lookup f5 = some ⟨oc5, od5, .func (PySem.W.fnOf "_law_gweb" "_law_gweb" (defArgs (top 8)) (defBody (top 8)) (defScope (top 8)) .none kV5 dc5 pm5 an5 cd5 ct5), sl5⟩) (c5 : PySem.W.codeIn K cd5 "_law_gweb" = true) (k5 : PySem.W.keepIn K (.ref f5) = true)
    {f6 : Addr} {od6 an6 : Option Addr} {sl6 : Array (Option Value)} {oc6 kV6 dc6 pm6 cd6 ct6 : Value} (a6 : PySem.W.nsIn K mainGlobals "_law_gtied" = some (some (.ref f6))) (l6 : K.lookup f6 = some ⟨oc6, od6, .func (PySem.W.fnOf "_law_gtied" "_law_gtied" (defArgs (top 9)) (defBody (top 9)) (defScope (top 9)) .none kV6 dc6 pm6 an6 cd6 ct6), sl6⟩) (c6 : PySem.W.codeIn K cd6 "_law_gtied" = true) (k6 : PySem.W.keepIn K (.ref f6) = true)
    {f7 : Addr} {od7 an7 : Option Addr} {sl7 : Array (Option Value)} {oc7 kV7 dc7 pm7 cd7 ct7 : Value} (a7 : PySem.W.nsIn K mainGlobals "_law_gparts" = some (some (.ref f7))) (l7 : K.lookup f7 = some ⟨oc7, od7, .func (PySem.W.fnOf "_law_gparts" "_law_gparts" (defArgs (top 10)) (defBody (top 10)) (defScope (top 10)) .none kV7 dc7 pm7 an7 cd7 ct7), sl7⟩) (c7 : PySem.W.codeIn K cd7 "_law_gparts" = true) (k7 : PySem.W.keepIn K (.ref f7) = true)
    {f8 : Addr} {od8 an8 : Option Addr} {sl8 : Array (Option Value)} {oc8 kV8 dc8 pm8 cd8 ct8 : Value} (a8 : PySem.W.nsIn K mainGlobals "_law_gfalls" = some (some (.ref f8))) (l8 : K.lookup f8 = some ⟨oc8, od8, .func (PySem.W.fnOf "_law_gfalls" "_law_gfalls" (defArgs (top 11)) (defBody (top 11)) (defScope (top 11)) .none kV8 dc8 pm8 an8 cd8 ct8), sl8⟩) (c8 : PySem.W.codeIn K cd8 "_law_gfalls" = true) (k8 : PySem.W.keepIn K (.ref f8) = true)
    {f9 : Addr} {od9 an9 : Option Addr} {sl9 : Array (Option Value)} {oc9 kV9 dc9 pm9 cd9 ct9 : Value} (a9 : PySem.W.nsIn K mainGlobals "_law_gstar" = some (some (.ref f9))) (l9 : K.lookup f9 = some ⟨oc9, od9, .func (PySem.W.fnOf "_law_gstar" "_law_gstar" (defArgs (top 12)) (defBody (top 12)) (defScope (top 12)) .none kV9 dc9 pm9 an9 cd9 ct9), sl9⟩) (c9 : PySem.W.codeIn K cd9 "_law_gstar" = true) (k9 : PySem.W.keepIn K (.ref f9) = true)
    {f10 : Addr} {od10 an10 : Option Addr} {sl10 : Array (Option Value)} {oc10 kV10 dc10 pm10 cd10 ct10 : Value} (a10 : PySem.W.nsIn K mainGlobals "_law_gright" = some (some (.ref f10))) (l10 : K.lookup f10 = some ⟨oc10, od10, .func (PySem.W.fnOf "_law_gright" "_law_gright" (defArgs (top 13)) (defBody (top 13)) (defScope (top 13)) .none kV10 dc10 pm10 an10 cd10 ct10), sl10⟩) (c10 : PySem.W.codeIn K cd10 "_law_gright" = true) (k10 : PySem.W.keepIn K (.ref f10) = true)
    {f11 : Addr} {od11 an11 : Option Addr} {sl11 : Array (Option Value)} {oc11 kV11 dc11 pm11 cd11 ct11 : Value} (a11 : PySem.W.nsIn K mainGlobals "_law_gnear" = some (some (.ref f11))) (l11 : K.lookup f11 = some ⟨oc11, od11, .func (PySem.W.fnOf "_law_gnear" "_law_gnear" (defArgs (top 14)) (defBody (top 14)) (defScope (top 14)) .none kV11 dc11 pm11 an11 cd11 ct11), sl11⟩) (c11 : PySem.W.codeIn K cd11 "_law_gnear" = true) (k11 : PySem.W.keepIn K (.ref f11) = true)
    {f12 : Addr} {od12 an12 : Option Addr} {sl12 : Array (Option Value)} {oc12 kV12 dc12 pm12 cd12 ct12 : Value} (a12 : PySem.W.nsIn K mainGlobals "law" = some (some (.ref f12))) (l12 : K.lookup f12 = some ⟨oc12, od12, .func (PySem.W.fnOf "law" "law" (defArgs (top 15)) (defBody (top 15)) (defScope (top 15)) .none kV12 dc12 pm12 an12 cd12 ct12), sl12⟩) (c12 : PySem.W.codeIn K cd12 "law" = true) (k12 : PySem.W.keepIn K (.ref f12) = true)
    (z_len : PySem.W.nsIn K mainGlobals "len" = some none)
    (z_all : PySem.W.nsIn K mainGlobals "all" = some none)
    (z_min : PySem.W.nsIn K mainGlobals "min" = some none)
    (z_max : PySem.W.nsIn K mainGlobals "max" = some none)
    (z_sum : PySem.W.nsIn K mainGlobals "sum" = some none)
    (z_isinstance : PySem.W.nsIn K mainGlobals "isinstance" = some none)
    (z_sorted : PySem.W.nsIn K mainGlobals "sorted" = some none)
    (z_tuple : PySem.W.nsIn K mainGlobals "tuple" = some none)
    (z_list : PySem.W.nsIn K mainGlobals "list" = some none)
    (z_range : PySem.W.nsIn K mainGlobals "range" = some none)
    (z_int : PySem.W.nsIn K mainGlobals "int" = some none)
    (z_bool : PySem.W.nsIn K mainGlobals "bool" = some none)
    (z_zip : PySem.W.nsIn K mainGlobals "zip" = some none)
    (z_repr : PySem.W.nsIn K mainGlobals "repr" = some none)
    (z_enumerate : PySem.W.nsIn K mainGlobals "enumerate" = some none)
    (z_reversed : PySem.W.nsIn K mainGlobals "reversed" = some none)
    (z_str : PySem.W.nsIn K mainGlobals "str" = some none)
    (z_set : PySem.W.nsIn K mainGlobals "set" = some none)
    (z_abs : PySem.W.nsIn K mainGlobals "abs" = some none) :
    ∃ fd : FuncData, (∀ (s : Shared) (v : Value), BindsTo s fd ⟨[v], []⟩ [("script", v)]) ∧ ∀ base : Heap, K.In base → base.Ns mainGlobals mg → FnOk l.prog w K mg base CX0 5 fa fd ["script"] (spLaw K) := by
  have e := hfa.symm.trans (PySem.W.mg_of X G a12)
  cases e
  have B : Blt4 mg := ⟨⟨⟨⟨PySem.W.mg_none_of X G z_len, PySem.W.mg_none_of X G z_all, PySem.W.mg_none_of X G z_min, PySem.W.mg_none_of X G z_max, PySem.W.mg_none_of X G z_sum, PySem.W.mg_none_of X G z_isinstance, PySem.W.mg_none_of X G z_sorted, PySem.W.mg_none_of X G z_tuple, PySem.W.mg_none_of X G z_list, PySem.W.mg_none_of X G z_range, PySem.W.mg_none_of X G z_int, PySem.W.mg_none_of X G z_bool⟩, PySem.W.mg_none_of X G z_zip, PySem.W.mg_none_of X G z_repr, PySem.W.mg_none_of X G z_enumerate, PySem.W.mg_none_of X G z_reversed, PySem.W.mg_none_of X G z_str⟩, PySem.W.mg_none_of X G z_set⟩, PySem.W.mg_none_of X G z_abs⟩
  have F0 := fun_mk (st := top 1) l0 c0 k0
  have b0 := F0.binds (ps := ["places", "ties"]) fun _ _ _ _ _ _ us hl => match us, hl with | [_, _], _ => rfl
  have F1 := fun_mk (st := top 3) l1 c1 k1
  have b1 := F1.binds (ps := ["web"]) fun _ _ _ _ _ _ us hl => match us, hl with | [_], _ => rfl
  have F2 := fun_mk (st := top 4) l2 c2 k2
  have b2 := F2.binds (ps := ["many"]) fun _ _ _ _ _ _ us hl => match us, hl with | [_], _ => rfl
  have F3 := fun_mk (st := top 6) l3 c3 k3
  have b3 := F3.binds (ps := ["cell", "at"]) fun _ _ _ _ _ _ us hl => match us, hl with | [_, _], _ => rfl
  have F4 := fun_mk (st := top 7) l4 c4 k4
  have b4 := F4.binds (ps := ["tape", "many"]) fun _ _ _ _ _ _ us hl => match us, hl with | [_, _], _ => rfl
  have F5 := fun_mk (st := top 8) l5 c5 k5
  have b5 := F5.binds (ps := ["tape", "least", "most"]) fun _ _ _ _ _ _ us hl => match us, hl with | [_, _, _], _ => rfl
  have F6 := fun_mk (st := top 9) l6 c6 k6
  have b6 := F6.binds (ps := ["ties", "one", "other"]) fun _ _ _ _ _ _ us hl => match us, hl with | [_, _, _], _ => rfl
  have F7 := fun_mk (st := top 10) l7 c7 k7
  have b7 := F7.binds (ps := ["ties", "left"]) fun _ _ _ _ _ _ us hl => match us, hl with | [_, _], _ => rfl
  have F8 := fun_mk (st := top 11) l8 c8 k8
  have b8 := F8.binds (ps := ["web", "some"]) fun _ _ _ _ _ _ us hl => match us, hl with | [_, _], _ => rfl
  have F9 := fun_mk (st := top 12) l9 c9 k9
  have b9 := F9.binds (ps := ["tape"]) fun _ _ _ _ _ _ us hl => match us, hl with | [_], _ => rfl
  have F10 := fun_mk (st := top 13) l10 c10 k10
  have b10 := F10.binds (ps := ["web", "found"]) fun _ _ _ _ _ _ us hl => match us, hl with | [_, _], _ => rfl
  have F11 := fun_mk (st := top 14) l11 c11 k11
  have b11 := F11.binds (ps := ["tape", "web"]) fun _ _ _ _ _ _ us hl => match us, hl with | [_, _], _ => rfl
  have F12 := fun_mk (st := top 15) l12 c12 k12
  refine ⟨PySem.W.fnOf "law" "law" (defArgs (top 15)) (defBody (top 15)) (defScope (top 15)) .none kV12 dc12 pm12 an12 cd12 ct12, fun s v => .of_eq rfl, fun base _ _ => ?_⟩
  have D_parts : Def l.prog w K mg base "parts" 1 ["places", "ties"] (spParts K) := ⟨f0, _, ok_parts (P := l.prog) (w := w) (base := base) F0 B   ln_parts (rd_parts), PySem.W.mg_of X G a0, k0, b0⟩
  have D_some_places : Def l.prog w K mg base "some_places" 1 ["many"] (spSome K) := ⟨f2, _, ok_some_places (P := l.prog) (w := w) (base := base) F2 B   ln_some_places (rd_some), PySem.W.mg_of X G a2, k2, b2⟩
  have D__law_gspread : Def l.prog w K mg base "_law_gspread" 1 ["cell", "at"] (spSpread) := ⟨f3, _, ok__law_gspread (P := l.prog) (w := w) (base := base) F3 B   ln__law_gspread (rd_spread), PySem.W.mg_of X G a3, k3, b3⟩
  have D__law_gtied : Def l.prog w K mg base "_law_gtied" 1 ["ties", "one", "other"] (spTd K) := ⟨f6, _, ok__law_gtied (P := l.prog) (w := w) (base := base) F6 B   ln__law_gtied (rd_td), PySem.W.mg_of X G a6, k6, b6⟩
  have D_parting : Def l.prog w K mg base "parting" 2 ["web"] (spPtg K) := ⟨f1, _, ok_parting (P := l.prog) (w := w) (base := base) F1 B  D_parts D_some_places ln_parting (rd_ptg), PySem.W.mg_of X G a1, k1, b1⟩
  have D__law_gdraw : Def l.prog w K mg base "_law_gdraw" 2 ["tape", "many"] (spDraw) := ⟨f4, _, ok__law_gdraw (P := l.prog) (w := w) (base := base) F4 B  D__law_gspread ln__law_gdraw (rd_draw), PySem.W.mg_of X G a4, k4, b4⟩
  have D__law_gparts : Def l.prog w K mg base "_law_gparts" 2 ["ties", "left"] (spGp K) := ⟨f7, _, ok__law_gparts (P := l.prog) (w := w) (base := base) F7 B  D__law_gtied ln__law_gparts (rd_gp), PySem.W.mg_of X G a7, k7, b7⟩
  have D__law_gweb : Def l.prog w K mg base "_law_gweb" 3 ["tape", "least", "most"] (spWeb K) := ⟨f5, _, ok__law_gweb (P := l.prog) (w := w) (base := base) F5 B  D__law_gdraw ln__law_gweb (rd_web), PySem.W.mg_of X G a5, k5, b5⟩
  have D__law_gfalls : Def l.prog w K mg base "_law_gfalls" 3 ["web", "some"] (spFl K) := ⟨f8, _, ok__law_gfalls (P := l.prog) (w := w) (base := base) F8 B  D__law_gparts ln__law_gfalls (rd_fl), PySem.W.mg_of X G a8, k8, b8⟩
  have D__law_gstar : Def l.prog w K mg base "_law_gstar" 3 ["tape"] (spStar K) := ⟨f9, _, ok__law_gstar (P := l.prog) (w := w) (base := base) F9 B  D__law_gdraw ln__law_gstar (rd_star), PySem.W.mg_of X G a9, k9, b9⟩
  have D__law_gnear : Def l.prog w K mg base "_law_gnear" 3 ["tape", "web"] (spNear K) := ⟨f11, _, ok__law_gnear (P := l.prog) (w := w) (base := base) F11 B  D__law_gdraw ln__law_gnear (rd_near), PySem.W.mg_of X G a11, k11, b11⟩
  have D__law_gright : Def l.prog w K mg base "_law_gright" 4 ["web", "found"] (spRg K) := ⟨f10, _, ok__law_gright (P := l.prog) (w := w) (base := base) F10 B  D__law_gfalls ln__law_gright (rd_rg), PySem.W.mg_of X G a10, k10, b10⟩
  exact ok_law (P := l.prog) (w := w) (base := base) F12 B  D__law_gdraw D__law_gnear D__law_gright D__law_gstar D__law_gweb D_parting ln_law (rd_law)
theorem walk {l : PySem.W.OpenLaw} {q : Program} {loose : List Str} {XP : (Str → Option Value) → Heap → Prop} {YP : World → Heap → Prop} {d : DefRec} {K : Params → PySem.W.Frag} (hn : l.most = some 63) (hdf : d.params.defaults = [])
    (hY : ∀ (w : World) (h : Heap), YP w h → (K w.params).In h)
    (F : ∀ (w : World) (mg : Str → Option Value) (fa : Addr) (h : Heap), (K w.params).In h → h.Ns mainGlobals mg → mg d.name = some (.ref fa) →
      ∃ fd : FuncData, (∀ (s : Shared) (u : Value), BindsTo s fd ⟨[u], []⟩ [("script", u)]) ∧ ∀ base : Heap, (K w.params).In base → base.Ns mainGlobals mg → FnOk l.prog w (K w.params) mg base CX0 5 fa fd ["script"] (spLaw (K w.params))) :
    PySem.W.WalkO q loose XP YP l.row.toRowW d [] (fun f vs => PySem.call f vs) :=
  L2.walk_of (n := 63) (k := 5) (x := "script") (CX := fun _ => CX0) (sp := fun w => spLaw (K w.params)) hn (by decide) hdf ⟨rfl, by decide, by decide, rfl⟩ hY F (fun _ _ a ns hl _ hS => ⟨a, ns, rfl, hS, hl, fun _ => rfl⟩) fun _ _ _ _ _ z => z
end K79
open PySem PySem.W PyProof.Rows
set_option maxRecDepth 100000 in
set_option maxHeartbeats 0 in
theorem PySem.Challenge.cw_homeround_k79_webs_parted_holds : PySem.Challenge.rw_homeround_k79_webs_parted.Holds := by
  w_on; o_law; k_head; (case hw => w_witness2)
  k_fill
  refine K79.walk (l := PySem.Challenge.rw_homeround_k79_webs_parted) rfl rfl (fun w h Y => PySem.W.kIn_of Y) ?F
  case F =>
    intro w mg fa h KX G hmg
    refine' K79.all_mk KX G hmg ?a0 ?l0 ?c0 ?k0 ?a1 ?l1 ?c1 ?k1 ?a2 ?l2 ?c2 ?k2 ?a3 ?l3 ?c3 ?k3 ?a4 ?l4 ?c4 ?k4 ?a5 ?l5 ?c5 ?k5 ?a6 ?l6 ?c6 ?k6 ?a7 ?l7 ?c7 ?k7 ?a8 ?l8 ?c8 ?k8 ?a9 ?l9 ?c9 ?k9 ?a10 ?l10 ?c10 ?k10 ?a11 ?l11 ?c11 ?k11 ?a12 ?l12 ?c12 ?k12 ?z_len ?z_all ?z_min ?z_max ?z_sum ?z_isinstance ?z_sorted ?z_tuple ?z_list ?z_range ?z_int ?z_bool ?z_zip ?z_repr ?z_enumerate ?z_reversed ?z_str ?z_set ?z_abs
    (case a0 => k_is)
    (case l0 => k_is)
    (case c0 => k_is)
    (case k0 => k_is)
    (case a1 => k_is)
    (case l1 => k_is)
    (case c1 => k_is)
    (case k1 => k_is)
    (case a2 => k_is)
    (case l2 => k_is)
    (case c2 => k_is)
    (case k2 => k_is)
    (case a3 => k_is)
    (case l3 => k_is)
    (case c3 => k_is)
    (case k3 => k_is)
    (case a4 => k_is)
    (case l4 => k_is)
    (case c4 => k_is)
    (case k4 => k_is)
    (case a5 => k_is)
    (case l5 => k_is)
    (case c5 => k_is)
    (case k5 => k_is)
    (case a6 => k_is)
    (case l6 => k_is)
    (case c6 => k_is)
    (case k6 => k_is)
    (case a7 => k_is)
    (case l7 => k_is)
    (case c7 => k_is)
    (case k7 => k_is)
    (case a8 => k_is)
    (case l8 => k_is)
    (case c8 => k_is)
    (case k8 => k_is)
    (case a9 => k_is)
    (case l9 => k_is)
    (case c9 => k_is)
    (case k9 => k_is)
    (case a10 => k_is)
    (case l10 => k_is)
    (case c10 => k_is)
    (case k10 => k_is)
    (case a11 => k_is)
    (case l11 => k_is)
    (case c11 => k_is)
    (case k11 => k_is)
    (case a12 => k_is)
    (case l12 => k_is)
    (case c12 => k_is)
    (case k12 => k_is)
    (case z_len => k_is)
    (case z_all => k_is)
    (case z_min => k_is)
    (case z_max => k_is)
    (case z_sum => k_is)
    (case z_isinstance => k_is)
    (case z_sorted => k_is)
    (case z_tuple => k_is)
    (case z_list => k_is)
    (case z_range => k_is)
    (case z_int => k_is)
    (case z_bool => k_is)
    (case z_zip => k_is)
    (case z_repr => k_is)
    (case z_enumerate => k_is)
    (case z_reversed => k_is)
    (case z_str => k_is)
    (case z_set => k_is)
    (case z_abs => k_is)
