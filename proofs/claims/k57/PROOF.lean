import PyProof.Rows.All
import Wide.All
import OpenK.AllK
import Wide.FinOn
import Lean
import PyProof.EqAt
import PyProof.EqKinds
import PyProof.TupleCall
import PyProof.Rows.SetFrom
import PyProof.ExcAttrAll.ValueError
import KE.KDictList
import KE.KRevIter
import KE.KPairComp
import PyProof.EqAt
import KE.KSortTup
import PySem.Challenge.RW_homeround_k57_settled_or_not
set_option Elab.async false
set_option linter.all false
set_option maxRecDepth 100000
set_option maxHeartbeats 4000000
namespace L2
open PySem PySem.Spec PyProof.Rows
abbrev Key := Sum Int Str
def keyIs : Key → Value → Bool
  | .inl k, v => Value.isInt k v
  | .inr x, v => Value.isStrOf x v
def keyH (w : World) : Key → Int
  | .inl k => hashInt k
  | .inr x => hashStr w x
theorem keyIs_shape : ∀ {k : Key} {v : Value}, keyIs k v = true → (∃ i t, k = Sum.inl i ∧ v = Value.int i t) ∨ (∃ x t, k = Sum.inr x ∧ v = Value.str x t)
  | .inl i, v, h => by
    obtain ⟨t, e⟩ := Value.isInt_shape (k := i) (v := v) h
    exact .inl ⟨i, t, rfl, e⟩
  | .inr x, v, h => by
    obtain ⟨t, e⟩ := Value.isStrOf_shape (x := x) (v := v) h
    exact .inr ⟨x, t, rfl, e⟩
theorem keyIs_int (i : Int) (t : Tok) : keyIs (.inl i) (.int i t) = true := by simp [keyIs, Value.isInt]
theorem keyIs_str (x : Str) (t : Tok) : keyIs (.inr x) (.str x t) = true := by simp [keyIs, Value.isStrOf]
theorem key_ll (a b : Int) : decide ((Sum.inl a : Key) = Sum.inl b) = (a == b) := by
  by_cases e : a = b
  · subst e; simp
  · have h : ¬ (Sum.inl a : Key) = Sum.inl b := fun q => e (Sum.inl.inj q)
    rw [decide_eq_false h]
    exact (beq_eq_false_iff_ne.mpr e).symm
theorem key_rr (a b : Str) : decide ((Sum.inr a : Key) = Sum.inr b) = decide (a = b) := by
  by_cases e : a = b
  · subst e; simp
  · have h : ¬ (Sum.inr a : Key) = Sum.inr b := fun q => e (Sum.inr.inj q)
    rw [decide_eq_false h, decide_eq_false e]
theorem key_lr (a : Int) (b : Str) : decide ((Sum.inl a : Key) = Sum.inr b) = false := decide_eq_false (fun q => nomatch q)
theorem key_rl (a : Str) (b : Int) : decide ((Sum.inr a : Key) = Sum.inl b) = false := decide_eq_false (fun q => nomatch q)
def mixKind (prog : Program) (w : World) : PySem.KeyKind prog w Key where
  is := keyIs
  hash := keyH w
  inj := fun v a b ha hb => by
    rcases keyIs_shape ha with ⟨i, t, rfl, rfl⟩ | ⟨x, t, rfl, rfl⟩
    · rcases keyIs_shape hb with ⟨j, u, rfl, e⟩ | ⟨y, u, rfl, e⟩
      · injection e with e1 _; rw [e1]
      · exact nomatch e
    · rcases keyIs_shape hb with ⟨j, u, rfl, e⟩ | ⟨y, u, rfl, e⟩
      · exact nomatch e
      · injection e with e1 _; rw [e1]
  byValue := fun k v h => by
    rcases keyIs_shape h with ⟨i, t, rfl, rfl⟩ | ⟨x, t, rfl, rfl⟩ <;> rfl
  pyHash := fun hv h => by
    rcases keyIs_shape hv with ⟨i, t, rfl, rfl⟩ | ⟨x, t, rfl, rfl⟩
    · exact wpAny_pyHash_int h
    · exact wpAny_pyHash_str h
  eqBool := fun hu hv h => by
    rcases keyIs_shape hu with ⟨i, t, rfl, rfl⟩ | ⟨x, t, rfl, rfl⟩
    · rcases keyIs_shape hv with ⟨j, u, rfl, rfl⟩ | ⟨y, u, rfl, rfl⟩
      · rw [key_ll] at h; exact wpAny_eqBool_int h
      · rw [key_lr] at h; exact SeqAt.EqAt.int_str i t y u _ _ _ _ h
    · rcases keyIs_shape hv with ⟨j, u, rfl, rfl⟩ | ⟨y, u, rfl, rfl⟩
      · rw [key_rl] at h; exact SeqAt.EqAt.str_int x t j u _ _ _ _ h
      · rw [key_rr] at h; exact wpAny_eqBool_str h
  «strs» := fun k x t v h => by
    rcases keyIs_shape h with ⟨i, u, rfl, e⟩ | ⟨y, u, rfl, e⟩
    · exact nomatch e
    · injection e with e1 _
      subst e1
      cases v <;> rfl
theorem mixKind_int (prog : Program) (w : World) (i : Int) (t : Tok) : (mixKind prog w).is (.inl i) (.int i t) = true := keyIs_int i t
theorem mixKind_str (prog : Program) (w : World) (x : Str) (t : Tok) : (mixKind prog w).is (.inr x) (.str x t) = true := keyIs_str x t
end L2
namespace L2
open PySem PySem.Spec PyProof.Rows
inductive V where
  | non | bl (b : Bool) | int (i : Int) | str (x : Str) | byt (b : Array UInt8) | flt (b : UInt64) | ref (a : Addr) | ty (n : String)
  deriving DecidableEq
def RelV : V → Value → Prop
  | .non, u => u = Value.none
  | .bl b, u => u = Value.bool b
  | .int i, u => ∃ t, u = Value.int i t
  | .str x, u => ∃ t, u = Value.str x t
  | .byt b, u => ∃ t, u = Value.bytes b t
  | .flt b, u => ∃ t, u = Value.float b t
  | .ref a, u => u = Value.ref a
  | .ty n, u => u = Value.type n
abbrev Vals : List V → List Value → Prop := Paired RelV
theorem Vals.length {xs : List V} {us : List Value} (r : Vals xs us) : xs.length = us.length := Paired.length r
theorem Vals.get : ∀ {xs : List V} {us : List Value} {i : Nat} {x : V}, Vals xs us → xs[i]? = some x → ∃ u, us[i]? = some u ∧ RelV x u
  | _, _, _, _, .nil, e => by simp at e
  | _, _, 0, _, .cons r _, e => by simp at e; subst e; exact ⟨_, rfl, r⟩
  | _, _, i + 1, x, .cons _ t, e => by
    obtain ⟨u, h1, h2⟩ := Vals.get (i := i) (x := x) t (by simpa using e)
    exact ⟨u, by simpa using h1, h2⟩
theorem Vals.set {x : V} {u : Value} (r : RelV x u) : ∀ {xs : List V} {us : List Value} (i : Nat), Vals xs us → Vals (xs.set i x) (us.set i u)
  | _, _, _, .nil => .nil
  | _, _, 0, .cons _ t => .cons r t
  | _, _, i + 1, .cons q t => .cons q (Vals.set r i t)
theorem Vals.append : ∀ {xs ys : List V} {us ws : List Value}, Vals xs us → Vals ys ws → Vals (xs ++ ys) (us ++ ws)
  | _, _, _, _, .nil, s => s
  | _, _, _, _, .cons r t, s => .cons r (Vals.append t s)
theorem Vals.take : ∀ {xs : List V} {us : List Value} (n : Nat), Vals xs us → Vals (xs.take n) (us.take n)
  | _, _, 0, _ => .nil
  | _, _, _ + 1, .nil => .nil
  | _, _, n + 1, .cons r t => .cons r (Vals.take n t)
theorem Vals.drop : ∀ {xs : List V} {us : List Value} (n : Nat), Vals xs us → Vals (xs.drop n) (us.drop n)
  | _, _, 0, r => r
  | _, _, _ + 1, .nil => .nil
  | _, _, n + 1, .cons _ t => Vals.drop n t
def RelO : Option V → Option Value → Prop
  | some v, some u => RelV v u
  | none, none => True
  | _, _ => False
def KV {κ : Type} : List (κ × V) → List (κ × Value) → Prop := Paired fun (p : κ × V) (q : κ × Value) => p.1 = q.1 ∧ RelV p.2 q.2
def kV : Key → V
  | .inl i => .int i
  | .inr x => .str x
inductive HO where
  | lst (xs : List V)
  | tup (xs : List V)
  | dK (kvs : List (Key × V)) | dT (kvs : List (List Key × V))
  | set (S : Int → Bool) (n : Nat)
  | ins (C dx : Addr) (fs : List (Str × V))
  | own (x : Addr)
  | xd (fs : List (Str × V))
  | met (f x : Addr)
  | rng (lo hi : Int)
  | frz (o : Obj) (u : HO)
  | tbl (ps : Array Value)
  | ext (φ : Heap → Prop)
abbrev Hp := Addr → Option HO
def upd (H : Hp) (a : Addr) (o : HO) : Hp := fun b => if b = a then some o else H b
theorem upd_same {H : Hp} {a : Addr} {o : HO} : upd H a o a = some o := by unfold upd; rw [if_pos rfl]
theorem upd_ne {H : Hp} {a b : Addr} {o : HO} (h : b ≠ a) : upd H a o b = H b := by unfold upd; rw [if_neg h]
theorem ne_of {H : Hp} {a b : Addr} {o u : HO} (h : H a = some o) (h' : H b = some u) (d : o ≠ u) : a ≠ b := by
  intro e; subst e; rw [h] at h'; exact d (Option.some.inj h')
theorem ne_of_none {H : Hp} {a b : Addr} {o : HO} (h : H a = some o) (h' : H b = none) : a ≠ b := by
  intro e; subst e; rw [h] at h'; cases h'
def TupN (h : Heap) (a : Addr) (items : Array Value) : Prop := ∃ o, h.get? a = some o ∧ o.cls = .type "tuple" ∧ (∃ n, o.data = .seq items n) ∧ o.dict = none
theorem TupN.tup {h : Heap} {a : Addr} {items : Array Value} (p : TupN h a items) : IsTup h a items := let ⟨o, e, c, n, _⟩ := p; ⟨o, e, c, n⟩
theorem TupN.bare {h : Heap} {a : Addr} {items : Array Value} (p : TupN h a items) : ∃ o, h.get? a = some o ∧ o.dict = none := let ⟨o, e, _, _, d⟩ := p; ⟨o, e, d⟩
theorem TupN.new (h : Heap) (items : Array Value) : TupN (h.push { cls := .type "tuple", data := .seq items }) h.objs.size items := ⟨_, Heap.get?_push_size _ rfl, rfl, ⟨_, rfl⟩, rfl⟩
section
variable (P : Program) (w : World)
def ObjOk (H : Hp) (h : Heap) (a : Addr) : HO → Prop
  | .lst xs => xs.length ≤ sizeLine ∧ ∃ (its : List Value) (n : Nat), Vals xs its ∧ h.get? a = some { cls := .type "list", data := .seq its.toArray n }
  | .tup xs => xs.length ≤ sizeLine ∧ ∃ its : List Value, Vals xs its ∧ TupN h a its.toArray
  | .dK kvs => kvs.length ≤ sizeLine ∧ (a == sysModules) = false ∧ ∃ vs, KV kvs vs ∧ h.DictOf (mixKind P w) a vs
  | .dT kvs => kvs.length ≤ sizeLine ∧ (a == sysModules) = false ∧ ∃ xs : List (List Key × Addr × Value),
      Paired (fun (p : List Key × V) (q : List Key × Addr × Value) => p.1 = q.1 ∧ H q.2.1 = some (.tup (p.1.map kV)) ∧ RelV p.2 q.2.2) kvs xs ∧
      ∃ o es ep, h.get? a = some o ∧ o.ExactDict ∧ o.data = .dict es ep ∧ es.toList = xs.map (entryOfKey (tupleKind (mixKind P w))) ∧ (xs.map (·.1)).Nodup
  | .set S n => h.SetOf (intKind P w) a S n
  | .ins C dx fs => H dx = some (.own a) ∧ fs.length ≤ 1000 ∧ dx ≠ a ∧ h.get? a = some (PySem.W.instObj C dx) ∧
      ∃ mA, h.Ns1 dx mA ∧ (∀ f, RelO (fs.lookup f) (mA f)) ∧ PySem.Within mA (fs.map (·.1))
  | .own _ => ∃ o, h.get? a = some o
  | .xd fs => ∃ mA, h.Ns1 a mA ∧ ∀ f, RelO (fs.lookup f) (mA f)
  | .rng lo hi => ∃ t u v, h.get? a = some { cls := .type "range", data := .fields #[.int lo t, .int hi u, .int 1 v] }
  | .frz o u => h.get? a = some o ∧ ObjOk H h a u
  | .tbl ps => h.get? a = some { cls := .none, data := .fields ps }
  | .met f x => h.get? a = some (PySem.W.methodObj (.ref f) (.ref x))
  | .ext φ => φ h ∧ (∃ o, h.get? a = some o) ∧ ∀ h1 h2 : Heap, φ h1 → (∀ o, h1.get? a = some o → h2.get? a = some o) → φ h2
def HOk (H : Hp) (h : Heap) : Prop := ∀ a o, H a = some o → ObjOk P w H h a o
end
section
variable {P : Program} {w : World} {H H' : Hp} {h h' : Heap} {a : Addr} {o : HO}
theorem ObjOk.lt (x : ObjOk P w H h a o) : a < h.objs.size := by
  cases o with
  | lst xs => obtain ⟨_, _, _, _, e⟩ := x; exact Heap.lt_size e
  | tup xs => obtain ⟨_, _, _, p⟩ := x; exact p.tup.lt
  | dK kvs => obtain ⟨_, _, _, _, o, _, _, e, _⟩ := x; exact Heap.lt_size e
  | dT kvs => obtain ⟨_, _, _, _, o, _, _, e, _⟩ := x; exact Heap.lt_size e
  | set S n => obtain ⟨o, _, _, _, e, _⟩ := x; exact Heap.lt_size e
  | ins C dx fs => obtain ⟨_, _, _, e, _⟩ := x; exact Heap.lt_size e
  | own y => obtain ⟨_, e⟩ := x; exact Heap.lt_size e
  | xd fs => obtain ⟨_, ⟨_, _, _, e, _⟩, _⟩ := x; exact Heap.lt_size e
  | rng lo hi => obtain ⟨_, _, _, e⟩ := x; exact Heap.lt_size e
  | frz ob u => obtain ⟨e, _⟩ := x; exact Heap.lt_size e
  | tbl ps => exact Heap.lt_size (show h.get? a = some _ from x)
  | met f y => exact Heap.lt_size (show h.get? a = some _ from x)
  | ext φ => obtain ⟨_, ⟨_, e⟩, _⟩ := x; exact Heap.lt_size e
theorem Paired.mapP {α β : Type} {F G : α → β → Prop} : ∀ {l₁ : List α} {l₂ : List β}, Paired F l₁ l₂ → (∀ a b, F a b → G a b) → Paired G l₁ l₂
  | _, _, .nil, _ => .nil
  | _, _, .cons r t, f => .cons (f _ _ r) (Paired.mapP t f)
theorem ObjOk.stay (x : ObjOk P w H h a o) (k : ∀ b u, (b = a ∨ H b = some (.own a)) → h.get? b = some u → h'.get? b = some u)
    (ho : ∀ b, H b = some (.own a) → H' b = some (.own a)) (ht : ∀ b xs, H b = some (.tup xs) → H' b = some (.tup xs)) : ObjOk P w H' h' a o := by
  induction o with
  | lst xs => obtain ⟨z, its, n, r, e⟩ := x; exact ⟨z, its, n, r, k _ _ (.inl rfl) e⟩
  | tup xs => obtain ⟨z, its, r, ob, e, c⟩ := x; exact ⟨z, its, r, ob, k _ _ (.inl rfl) e, c⟩
  | dK kvs => obtain ⟨z, y, vs, r, ob, es, ep, e, c⟩ := x; exact ⟨z, y, vs, r, ob, es, ep, k _ _ (.inl rfl) e, c⟩
  | dT kvs =>
    obtain ⟨z, y, xs, r, ob, es, ep, e, c⟩ := x
    exact ⟨z, y, xs, Paired.mapP r fun p q z => ⟨z.1, ht _ _ z.2.1, z.2.2⟩, ob, es, ep, k _ _ (.inl rfl) e, c⟩
  | set S n => obtain ⟨ob, es, ep, t, e, c⟩ := x; exact ⟨ob, es, ep, t, k _ _ (.inl rfl) e, c⟩
  | ins C dx fs =>
    obtain ⟨d, z, ne, e, mA, ⟨od, es, ep, e2, c⟩, r⟩ := x
    exact ⟨ho _ d, z, ne, k _ _ (.inl rfl) e, mA, ⟨od, es, ep, k _ _ (.inr d) e2, c⟩, r⟩
  | own y => obtain ⟨ob, e⟩ := x; exact ⟨ob, k _ _ (.inl rfl) e⟩
  | xd fs => obtain ⟨mA, ⟨od, es, ep, e, c⟩, r⟩ := x; exact ⟨mA, ⟨od, es, ep, k _ _ (.inl rfl) e, c⟩, r⟩
  | rng lo hi => obtain ⟨t, u, v, e⟩ := x; exact ⟨t, u, v, k _ _ (.inl rfl) e⟩
  | frz ob u ih => obtain ⟨e, q⟩ := x; exact ⟨k _ _ (.inl rfl) e, ih q⟩
  | tbl ps =>
    have e : h.get? a = some { cls := .none, data := .fields ps } := x
    show h'.get? a = some { cls := .none, data := .fields ps }
    exact k a _ (.inl rfl) e
  | met f y =>
    have e : h.get? a = some (PySem.W.methodObj (.ref f) (.ref y)) := x
    show h'.get? a = some (PySem.W.methodObj (.ref f) (.ref y))
    exact k a _ (.inl rfl) e
  | ext φ => obtain ⟨p, ⟨o, e⟩, st⟩ := x; exact ⟨st _ _ p fun o q => k _ _ (.inl rfl) q, ⟨o, k _ _ (.inl rfl) e⟩, st⟩
theorem HOk.lt (x : HOk P w H h) (e : H a = some o) : a < h.objs.size := (x a o e).lt
theorem HOk.fresh (x : HOk P w H h) (e : h.objs.size ≤ a) : H a = none := by
  cases q : H a with
  | none => rfl
  | some u => exact absurd (Nat.lt_of_lt_of_le (x.lt q) e) (Nat.lt_irrefl _)
theorem HOk.kept (x : HOk P w H h) (k : ∀ b u, h.get? b = some u → h'.get? b = some u) : HOk P w H h' := fun a o e =>
  (x a o e).stay (fun b u _ q => k b u q) (fun _ q => q) fun _ _ q => q
theorem HOk.laid (x : HOk P w H h) (k : ∀ b u, h.get? b = some u → h'.get? b = some u) (hp : h.objs.size ≤ a) (new : ObjOk P w (upd H a o) h' a o) : HOk P w (upd H a o) h' := fun b u e => by
  have hn := x.fresh hp
  by_cases hb : b = a
  · subst hb; rw [upd_same] at e; cases e; exact new
  · rw [upd_ne hb] at e
    exact (x b u e).stay (fun c v _ q => k c v q) (fun c q => by rw [upd_ne (ne_of_none q hn)]; exact q) fun c xs q => by rw [upd_ne (ne_of_none q hn)]; exact q
end
def Rd (H : Hp) (a : Addr) (u : HO) : Prop := H a = some u ∨ ∃ o, H a = some (.frz o u)
theorem Rd.of {H : Hp} {a : Addr} {u : HO} (h : H a = some u) : Rd H a u := .inl h
theorem Rd.ok {P : Program} {w : World} {H : Hp} {h : Heap} {a : Addr} {u : HO} (r : Rd H a u) (x : HOk P w H h) : ObjOk P w H h a u := by
  rcases r with r | ⟨o, r⟩
  · exact x a u r
  · obtain ⟨_, q⟩ := x a _ r
    exact q
def Mut : Option HO → Prop
  | some (.lst _) => True
  | some (.dK _) => True
  | some (.dT _) => True
  | some (.set _ _) => True
  | some (.ins _ _ _) => True
  | some (.ext _) => True
  | _ => False
section
variable {P : Program} {w : World} {H : Hp} {h h' : Heap} {x e : Addr} {o' : HO}
theorem HOk.write (ok : HOk P w H h) (mu : Mut (H x)) (he : e = x ∨ H e = some (.own x)) (k : ∀ b u, b ≠ e → h.get? b = some u → h'.get? b = some u) (heo : ∃ u, h'.get? e = some u)
    (new : ObjOk P w (upd H x o') h' x o') : HOk P w (upd H x o') h' := fun b u q => by
  have nown : ∀ c y, H c = some (.own y) → c ≠ x := fun c y r z => by subst z; rw [r] at mu; exact mu
  have ntup : ∀ c xs, H c = some (.tup xs) → c ≠ x := fun c xs r z => by subst z; rw [r] at mu; exact mu
  by_cases hb : b = x
  · subst hb; rw [upd_same] at q; cases q; exact new
  · rw [upd_ne hb] at q
    by_cases hbe : b = e
    · have q' : H b = some (.own x) := by
        rcases he with z | z
        · exact absurd (hbe.trans z) hb
        · rw [hbe]; exact z
      rw [q] at q'; cases q'
      obtain ⟨v, hv⟩ := heo
      exact ⟨v, by rw [hbe]; exact hv⟩
    · refine (ok b u q).stay (fun c v hc r => k c v ?_ r) (fun c r => by rw [upd_ne (nown c b r)]; exact r) fun c xs r => by rw [upd_ne (ntup c xs r)]; exact r
      rcases hc with rfl | hc
      · exact hbe
      · rintro rfl
        rcases he with z | z
        · exact nown c b hc z
        · rw [hc] at z; cases z; exact hb rfl
end
structure Un (fs ex : List Addr) (H H' : Hp) (h h' : Heap) : Prop where
  keep : ∀ b o, h.get? b = some o → H b = none → b ∉ fs → b ∉ ex → h'.get? b = some o
  slot : ∀ b o, h.get? b = some o → H b = none → b ∈ fs → b ∉ ex → ∃ sl, h'.get? b = some { o with slots := sl }
  free : ∀ b o, h.get? b = some o → H b = none → b ∉ ex → H' b = none
  there : ∀ b o, h.get? b = some o → b ∉ ex → ∃ o', h'.get? b = some o'
  tups : ∀ b xs, H b = some (.tup xs) → H' b = some (.tup xs)
  frzs : ∀ b o u, H b = some (.frz o u) → H' b = some (.frz o u)
  tbls : ∀ b ps, H b = some (.tbl ps) → ∃ more, H' b = some (.tbl (ps ++ more))
section
variable {fs fs' ex ex' : List Addr} {H H1 H2 : Hp} {h h1 h2 h' : Heap} {a x e : Addr} {o : HO}
theorem Un.any (u : Un fs ex H H1 h h1) {b : Addr} {ob : Obj} (q : h.get? b = some ob) (n : H b = none) (hx : b ∉ ex) : ∃ sl, h1.get? b = some { ob with slots := sl } := by
  by_cases hb : b ∈ fs
  · exact u.slot b ob q n hb hx
  · exact ⟨ob.slots, u.keep b ob q n hb hx⟩
theorem Un.trans (a : Un fs ex H H1 h h1) (b : Un fs ex H1 H2 h1 h2) : Un fs ex H H2 h h2 where
  keep := fun c ob q n hc hx => b.keep c ob (a.keep c ob q n hc hx) (a.free c ob q n hx) hc hx
  slot := fun c ob q n hc hx => by
    obtain ⟨sl, e1⟩ := a.slot c ob q n hc hx
    obtain ⟨sl', e2⟩ := b.slot c _ e1 (a.free c ob q n hx) hc hx
    exact ⟨sl', e2⟩
  free := fun c ob q n hx => by
    obtain ⟨o', e1⟩ := a.there c ob q hx
    exact b.free c o' e1 (a.free c ob q n hx) hx
  there := fun c ob q hx => by
    obtain ⟨o', e1⟩ := a.there c ob q hx
    exact b.there c o' e1 hx
  tups := fun c xs q => b.tups c xs (a.tups c xs q)
  frzs := fun c ob xs q => b.frzs c ob xs (a.frzs c ob xs q)
  tbls := fun c ps q => by
    obtain ⟨m1, e1⟩ := a.tbls c ps q
    obtain ⟨m2, e2⟩ := b.tbls c _ e1
    exact ⟨m1 ++ m2, by rw [e2, Array.append_assoc]⟩
theorem Un.kept (k : ∀ b u, h.get? b = some u → h'.get? b = some u) : Un fs ex H H h h' :=
  ⟨fun b ob q _ _ _ => k b ob q, fun b ob q _ _ _ => ⟨ob.slots, k b ob q⟩, fun _ _ _ n _ => n, fun b ob q _ => ⟨ob, k b ob q⟩, fun _ _ q => q, fun _ _ _ q => q, fun _ ps q => ⟨#[], by rw [q]; simp⟩⟩
theorem Un.refl : Un fs ex H H h h := Un.kept fun _ _ q => q
theorem Un.laid (k : ∀ b u, h.get? b = some u → h'.get? b = some u) (hp : h.objs.size ≤ a) (hn : H a = none) : Un fs ex H (upd H a o) h h' where
  keep := fun b u q _ _ _ => k b u q
  slot := fun b u q _ _ _ => ⟨u.slots, k b u q⟩
  free := fun b u q n _ => by rw [upd_ne (Nat.ne_of_lt (Nat.lt_of_lt_of_le (Heap.lt_size q) hp))]; exact n
  there := fun b u q _ => ⟨u, k b u q⟩
  tups := fun b xs q => by rw [upd_ne (ne_of_none q hn)]; exact q
  frzs := fun b u xs q => by rw [upd_ne (ne_of_none q hn)]; exact q
  tbls := fun b ps q => ⟨#[], by rw [upd_ne (ne_of_none q hn), q]; simp⟩
theorem Un.write (mu : Mut (H x)) (he : e = x ∨ H e = some (.own x)) (k : ∀ b u, b ≠ e → h.get? b = some u → h'.get? b = some u) (heo : ∃ u, h'.get? e = some u) : Un fs ex H (upd H x o) h h' := by
  have hx : ∀ b, H b = none → b ≠ x := fun b n z => by subst z; rw [n] at mu; exact mu
  have hb : ∀ b, H b = none → b ≠ e := fun b n z => by
    subst z
    rcases he with r | r
    · exact hx b n r
    · rw [n] at r; cases r
  have hm : ∀ b u, H b = some u → ¬ Mut (some u) → b ≠ x := fun b u q nm z => by subst z; rw [q] at mu; exact nm mu
  refine ⟨fun b u q n _ _ => k b u (hb b n) q, fun b u q n _ _ => ⟨u.slots, k b u (hb b n) q⟩, fun b u q n _ => by rw [upd_ne (hx b n)]; exact n, fun b u q _ => ?_,
    fun b xs q => by rw [upd_ne (hm b _ q fun z => z)]; exact q, fun b u xs q => by rw [upd_ne (hm b _ q fun z => z)]; exact q, fun b ps q => ⟨#[], by rw [upd_ne (hm b _ q fun z => z), q]; simp⟩⟩
  by_cases hbe : b = e
  · subst hbe; exact heo
  · exact ⟨u, k b u hbe q⟩
theorem Un.mono (u : Un fs ex H H1 h h1) (hs : ∀ b ∈ fs, b ∈ fs') (hx : ∀ b ∈ ex, b ∈ ex') : Un fs' ex' H H1 h h1 :=
  ⟨fun b ob q n hb he => u.keep b ob q n (fun z => hb (hs b z)) fun z => he (hx b z), fun _ _ q n _ he => u.any q n fun z => he (hx _ z), fun b ob q n he => u.free b ob q n fun z => he (hx b z), fun b ob q he => u.there b ob q fun z => he (hx b z), u.tups, u.frzs, u.tbls⟩
end
def trk (h : Heap) (H : Hp) : List Addr := (List.range h.objs.size).filter fun a => (H a).isSome
def hidT (h : Heap) (H : Hp) : Heap := PySem.W.hideAll h (trk h H)
theorem hidT_size (h : Heap) (H : Hp) : (hidT h H).objs.size = h.objs.size := PySem.W.hideAll_size _ _
theorem hidT_get {h : Heap} {H : Hp} {b : Addr} {o : Obj} (e : h.get? b = some o) (n : H b = none) : (hidT h H).get? b = some o :=
  PySem.W.hideAll_get _ e fun hm => by
    have q : (H b).isSome = true := (List.mem_filter.mp hm).2
    rw [n] at q; simp at q
theorem of_hidT {h : Heap} {H : Hp} {b : Addr} {o : Obj} (e : (hidT h H).get? b = some o) : h.get? b = some o ∧ H b = none := by
  have e' : h.get? b = some o := PySem.W.of_hideAll (trk h H) e
  refine ⟨e', ?_⟩
  cases q : H b with
  | none => rfl
  | some x =>
    have hm : b ∈ trk h H := List.mem_filter.mpr ⟨List.mem_range.mpr (Heap.lt_size e'), by simp [q]⟩
    have z : (hidT h H).get? b = none := PySem.W.hideAll_none (trk h H) hm
    rw [z] at e; cases e
def allNews (g h : Heap) (L : Addr) : List (Addr × Obj) := (List.range h.objs.size).filterMap fun a => if a = L ∨ (g.get? a).isSome = true then none else (h.get? a).map fun o => (a, o)
def rest (g h : Heap) (L d : Addr) : List (Addr × Obj) := (allNews g h L).filter fun p => decide (p.1 ≠ d)
end L2
namespace L2
open PySem PySem.Spec PyProof.Rows
structure Mod (K : PySem.W.Frag) (mg : Str → Option Value) (base : Heap) : Prop where
  kin : K.In base
  glob : base.Ns mainGlobals mg
  blt : ∃ mb, base.Ns builtinsNs mb ∧ ∀ x : Str, x ≠ "__name__" → mb x = bootBuiltins x
  nolimit : base.NoLimit
structure Cx where
  prog : Program
  w : World
  K : PySem.W.Frag
  mg : Str → Option Value
  base : Heap
  A : Around
  N : List Str
  s₀ : Shared
  H₀ : Hp
  env : Env
  outer : List Env
  stack : List Env
  ex : List Addr
  fn : Str → Bool
  calm : Bool
  pn : List (Addr × Obj)
  xe : Value → Shared → Prop
def frs (l : List Env) : List Addr := l.filterMap (·.frame)
abbrev Cx.fs (X : Cx) : List Addr := frs X.outer
def Vis (sc : Scope) (x : Str) : Prop := sc.names.lookup x = some .local ∨ sc.names.lookup x = some .cell ∨ sc.names.lookup x = some .free
def Loc (sc : Scope) (x : Str) : Prop := sc.names.lookup x = some .local ∨ sc.names.lookup x = some .cell
def Look (env : Env) (h : Heap) (m : Str → Option Value) (x : Str) (u : Value) : Prop :=
  (env.kindOf x = some .local ∧ m x = some u) ∨ ((env.kindOf x = some .cell ∨ env.kindOf x = some .free) ∧ ∃ c, env.cells.lookup x = some c ∧ h.IsCell c (some u))
structure Cx.Ok (X : Cx) : Prop where
  mod : Mod X.K X.mg X.base
  kind : X.env.scope.kind = .function
  glob : X.env.globals = mainGlobals
  blt : X.env.builtins = builtinsNs
  above : X.s₀.heap.objs.size ≤ X.env.locals
  inj : ∀ x y c, X.env.cells.lookup x = some c → X.env.cells.lookup y = some c → x = y
  has : ∀ x, (X.env.kindOf x = some .cell ∨ X.env.kindOf x = some .free) → ∃ c, X.env.cells.lookup x = some c
  cab : ∀ x c, X.fn x = true → X.env.cells.lookup x = some c → X.s₀.heap.objs.size ≤ c
  hd : X.calm = true → X.A.handled = none
  frames : X.A.frames = some X.stack
  stk : X.stack = X.outer ∨ (X.stack = X.env :: X.outer ∧ X.env.frame = some X.env.locals)
  exf : ∀ b ∈ X.ex, b ≠ X.env.locals ∧ ∀ x c, X.env.cells.lookup x = some c → c ≠ b
  bs : ∀ b o, X.base.get? b = some o → X.s₀.heap.get? b = some o ∧ X.H₀ b = none
  bsz : X.base.objs.size ≤ X.s₀.heap.objs.size
  noex : ∀ b o, X.base.get? b = some o → b ∉ X.ex
  exfs : ∀ b ∈ X.ex, b ∉ X.fs
  funs : X.s₀.heap.FunFrames X.base X.outer
  frf : ∀ b ∈ X.fs, X.H₀ b = none
structure Inv (X : Cx) (pins : List (Addr × Obj)) (σ : List (Option V)) (H : Hp) (s : Shared) : Prop where
  ok : X.Ok
  os : s.os = X.s₀.os
  bare : AllBare s.gens
  base : Un X.fs X.ex X.H₀ H X.s₀.heap s.heap
  loc : ∃ m, s.heap.Ns X.env.locals m ∧ ∀ (i : Nat) (x : Str) (v : V), X.N[i]? = some x → σ[i]? = some (some v) → Vis X.env.scope x → ∃ u, RelV v u ∧ Look X.env s.heap m x u
  cell : ∀ x c, X.env.cells.lookup x = some c → ∃ v, s.heap.IsCell c v
  free : H X.env.locals = none
  freeC : ∀ x c, X.env.cells.lookup x = some c → H c = none
  pin : ∀ p ∈ X.pn ++ pins, s.heap.get? p.1 = some p.2 ∧ H p.1 = none ∧ p.1 ≠ X.env.locals ∧ p.1 ∉ X.fs ∧ ∀ v, p.2.data ≠ .cell v
  hok : HOk X.prog X.w H s.heap
  len : σ.length = X.N.length
section
variable {X : Cx} {pins : List (Addr × Obj)} {σ : List (Option V)} {H H' : Hp} {s : Shared} {h' : Heap}
theorem Cx.Ok.nofr (ok : X.Ok) {b : Addr} {o : Obj} (e : X.base.get? b = some o) : b ∉ X.fs := fun hb => by
  have := (ok.funs.mem hb).1
  rw [e] at this; cases this
theorem Inv.bs (I : Inv X pins σ H s) : ∀ b o, X.base.get? b = some o → s.heap.get? b = some o ∧ H b = none := fun b o e =>
  ⟨I.base.keep b o (I.ok.bs b o e).1 (I.ok.bs b o e).2 (I.ok.nofr e) (I.ok.noex b o e), I.base.free b o (I.ok.bs b o e).1 (I.ok.bs b o e).2 (I.ok.noex b o e)⟩
theorem Inv.bk (I : Inv X pins σ H s) : ∀ b o, X.base.get? b = some o → s.heap.get? b = some o := fun b o e => (I.bs b o e).1
theorem Inv.mod (I : Inv X pins σ H s) : Mod X.K X.mg X.base := I.ok.mod
theorem Inv.kIn (I : Inv X pins σ H s) : X.K.In s.heap := I.ok.mod.kin.keeps I.bk
theorem Inv.nolimit (I : Inv X pins σ H s) : s.heap.NoLimit := I.ok.mod.nolimit.keeps I.bk
theorem Inv.lt (I : Inv X pins σ H s) : X.env.locals < s.heap.objs.size := let ⟨_, hn, _⟩ := I.loc; hn.lt
theorem Inv.sz (I : Inv X pins σ H s) : X.s₀.heap.objs.size ≤ s.heap.objs.size := Nat.le_trans I.ok.above (Nat.le_of_lt I.lt)
theorem Inv.nofs (I : Inv X pins σ H s) {a : Addr} (h : s.heap.objs.size ≤ a) : a ∉ X.fs := fun hb => by
  obtain ⟨_, o, ho, _⟩ := I.ok.funs.mem hb
  exact absurd (Nat.lt_of_lt_of_le (Heap.lt_size ho) (Nat.le_trans I.sz h)) (Nat.lt_irrefl _)
theorem Inv.cne (I : Inv X pins σ H s) : ∀ x c, X.env.cells.lookup x = some c → c ≠ X.env.locals := fun x c e z => by
  obtain ⟨v, o, ho, hd⟩ := I.cell x c e
  obtain ⟨m, ⟨o', es, ep, ho', hd', _⟩, _⟩ := I.loc
  rw [z, ho'] at ho; cases ho; rw [hd'] at hd; cases hd
theorem Inv.funs (I : Inv X pins σ H s) : s.heap.FunFrames X.base X.outer := by
  have all : ∀ (l : List Env), (∀ b ∈ frs l, b ∈ X.fs) → X.s₀.heap.FunFrames X.base l → s.heap.FunFrames X.base l := by
    intro l
    induction l with
    | nil => intro _ _; trivial
    | cons env r ih =>
      intro hs hl
      obtain ⟨hk, ⟨L, o, hf, hn, ho, hd⟩, hr⟩ := hl
      have hL : L ∈ X.fs := hs L (by unfold frs; rw [List.filterMap_cons, hf]; exact List.mem_cons_self)
      obtain ⟨sl, e⟩ := I.base.slot L o ho (I.ok.frf L hL) hL fun z => I.ok.exfs L z hL
      exact ⟨hk, ⟨L, _, hf, hn, e, hd⟩, ih (fun b hb => hs b (by unfold frs; rw [List.filterMap_cons, hf]; exact List.mem_cons_of_mem _ hb)) hr⟩
  exact all X.outer (fun _ hb => hb) I.ok.funs
theorem Inv.stack (I : Inv X pins σ H s) : s.heap.FunFrames X.base X.stack := by
  rcases I.ok.stk with e | ⟨e, hf⟩
  · rw [e]; exact I.funs
  · rw [e]
    obtain ⟨m, hn, _⟩ := I.loc
    refine .cons (by rw [I.ok.kind]; decide) hf hn ?_ I.funs
    exact Heap.get?_none_of_le (Nat.le_trans I.ok.bsz I.ok.above)
theorem Inv.stkSub (I : Inv X pins σ H s) : ∀ b ∈ frs X.stack, b ∈ X.env.locals :: X.fs := fun b hb => by
  rcases I.ok.stk with e | ⟨e, hf⟩
  · rw [e] at hb; exact List.mem_cons_of_mem _ hb
  · rw [e] at hb
    unfold frs at hb
    rw [List.filterMap_cons, hf] at hb
    exact hb
theorem Inv.stkFree (I : Inv X pins σ H s) : ∀ b ∈ frs X.stack, H b = none := fun b hb => by
  rcases List.mem_cons.mp (I.stkSub b hb) with e | hb
  · rw [e]; exact I.free
  · obtain ⟨_, o, ho, _⟩ := I.ok.funs.mem hb
    exact I.base.free b o ho (I.ok.frf b hb) fun z => I.ok.exfs b z hb
theorem Inv.step {g' : Array GenState} {t' : Nat} {d' : Drawn} {ch : List Addr} (I : Inv X pins σ H s)
    (hch : ∀ b ∈ ch, (b ∈ X.ex ∨ X.s₀.heap.objs.size ≤ b) ∧ b ≠ X.env.locals ∧ (∀ x c, X.env.cells.lookup x = some c → c ≠ b) ∧ ∀ p ∈ X.pn ++ pins, p.1 ≠ b)
    (keep : ∀ b o, b ≠ X.env.locals → b ∉ X.fs → b ∉ ch → s.heap.get? b = some o → H b = none → h'.get? b = some o)
    (slot : ∀ b o, b ≠ X.env.locals → b ∈ X.fs → b ∉ ch → s.heap.get? b = some o → H b = none → ∃ sl, h'.get? b = some { o with slots := sl }) (free : ∀ b o, b ∉ ch → s.heap.get? b = some o → H b = none → H' b = none)
    (there : ∀ b o, b ∉ ch → s.heap.get? b = some o → ∃ o', h'.get? b = some o')
    (tups : ∀ b xs, H b = some (.tup xs) → H' b = some (.tup xs)) (frzs : ∀ b o u, H b = some (.frz o u) → H' b = some (.frz o u)) (tbls : ∀ b ps, H b = some (.tbl ps) → ∃ more, H' b = some (.tbl (ps ++ more)))
    (ns : ∀ m, s.heap.Ns X.env.locals m → h'.Ns X.env.locals m) (hok : HOk X.prog X.w H' h') (hg : AllBare g') :
    Inv X pins σ H' { s with heap := h', gens := g', drawn := d', toks := t' } := by
  have neL : ∀ b o, X.s₀.heap.get? b = some o → b ≠ X.env.locals := fun b o e => Nat.ne_of_lt (Nat.lt_of_lt_of_le (Heap.lt_size e) I.ok.above)
  have neC : ∀ b o, X.s₀.heap.get? b = some o → b ∉ X.ex → b ∉ ch := fun b o e hx hb => by
    rcases (hch b hb).1 with z | z
    · exact hx z
    · exact absurd (Nat.lt_of_lt_of_le (Heap.lt_size e) z) (Nat.lt_irrefl _)
  have cellK : ∀ x c, X.env.cells.lookup x = some c → ∀ v, s.heap.IsCell c v → h'.IsCell c v := fun x c e v ⟨o, ho, hd⟩ => by
    have nch : c ∉ ch := fun z => (hch c z).2.2.1 x c e rfl
    by_cases hc : c ∈ X.fs
    · obtain ⟨sl, q⟩ := slot c o (I.cne x c e) hc nch ho (I.freeC x c e)
      exact ⟨_, q, hd⟩
    · exact ⟨o, keep c o (I.cne x c e) hc nch ho (I.freeC x c e), hd⟩
  refine ⟨I.ok, I.os, hg, ⟨fun b o e n hb hx => ?_, fun b o e n hb hx => ?_, fun b o e n hx => ?_, fun b o e hx => ?_, fun b xs e => tups b xs (I.base.tups b xs e), fun b o xs e => frzs b o xs (I.base.frzs b o xs e), fun b ps e => ?_⟩, ?_, fun x c e => ?_, ?_, fun x c e => ?_, fun p hp => ?_, hok, I.len⟩
  · exact keep b o (neL b o e) hb (neC b o e hx) (I.base.keep b o e n hb hx) (I.base.free b o e n hx)
  · obtain ⟨sl, e1⟩ := I.base.slot b o e n hb hx
    obtain ⟨sl', e2⟩ := slot b _ (neL b o e) hb (neC b o e hx) e1 (I.base.free b o e n hx)
    exact ⟨sl', e2⟩
  · obtain ⟨o', e1⟩ := I.base.there b o e hx
    exact free b o' (neC b o e hx) e1 (I.base.free b o e n hx)
  · obtain ⟨o', e1⟩ := I.base.there b o e hx
    exact there b o' (neC b o e hx) e1
  · obtain ⟨m1, e1⟩ := I.base.tbls b ps e
    obtain ⟨m2, e2⟩ := tbls b _ e1
    exact ⟨m1 ++ m2, by rw [e2, Array.append_assoc]⟩
  · obtain ⟨m, hn, hl⟩ := I.loc
    refine ⟨m, ns m hn, fun i x v e1 e2 e3 => ?_⟩
    obtain ⟨u, r, l⟩ := hl i x v e1 e2 e3
    refine ⟨u, r, ?_⟩
    rcases l with l | ⟨k, c, e, z⟩
    · exact .inl l
    · exact .inr ⟨k, c, e, cellK x c e _ z⟩
  · obtain ⟨v, z⟩ := I.cell x c e
    exact ⟨v, cellK x c e v z⟩
  · obtain ⟨m, ⟨o, _, _, ho, _⟩, _⟩ := I.loc
    exact free _ o (fun z => (hch _ z).2.1 rfl) ho I.free
  · obtain ⟨v, o, ho, hd⟩ := I.cell x c e
    exact free c o (fun z => (hch c z).2.2.1 x c e rfl) ho (I.freeC x c e)
  · obtain ⟨e, n, ne, nf, d⟩ := I.pin p hp
    have nch : p.1 ∉ ch := fun z => (hch p.1 z).2.2.2 p hp rfl
    exact ⟨keep p.1 p.2 ne nf nch e n, free p.1 p.2 nch e n, ne, nf, d⟩
theorem Inv.un {t' : Nat} (I : Inv X pins σ H s) (u : Un X.fs [] H H' s.heap h') (hok : HOk X.prog X.w H' h') : Inv X pins σ H' { s with heap := h', toks := t' } := by
  obtain ⟨m, ⟨o, es, ep, ho, r⟩, _⟩ := id I.loc
  obtain ⟨sl, hL⟩ := u.any ho I.free (by simp)
  exact I.step (g' := s.gens) (d' := s.drawn) (ch := []) (fun _ z => nomatch z) (fun b o _ hb _ e n => u.keep b o e n hb (by simp)) (fun b o _ hb _ e n => u.slot b o e n hb (by simp)) (fun b o _ e n => u.free b o e n (by simp)) (fun b o _ e => u.there b o e (by simp)) u.tups u.frzs u.tbls (fun m' hm => by
    obtain ⟨o', es', ep', ho', r'⟩ := hm
    rw [ho] at ho'; cases ho'
    exact ⟨_, es', ep', hL, r'⟩) hok I.bare
theorem Inv.call {g' : Array GenState} {t' : Nat} {d' : Drawn} {ch : List Addr} (I : Inv X pins σ H s) (u : Un (frs X.stack) ch H H' s.heap h') (hok : HOk X.prog X.w H' h') (hg : AllBare g')
    (hch : ∀ b ∈ ch, (b ∈ X.ex ∨ X.s₀.heap.objs.size ≤ b) ∧ b ≠ X.env.locals ∧ (∀ x c, X.env.cells.lookup x = some c → c ≠ b) ∧ ∀ p ∈ X.pn ++ pins, p.1 ≠ b) :
    Inv X pins σ H' { s with heap := h', gens := g', drawn := d', toks := t' } := by
  obtain ⟨m, ⟨o, es, ep, ho, r⟩, _⟩ := id I.loc
  obtain ⟨sl, hL⟩ := u.any ho I.free fun z => (hch _ z).2.1 rfl
  exact I.step (ch := ch) hch (fun b o hL hb hc e n => u.keep b o e n (fun z => (List.mem_cons.mp (I.stkSub b z)).elim hL hb) hc) (fun b o _ _ hc e n => u.any e n hc) (fun b o hc e n => u.free b o e n hc) (fun b o hc e => u.there b o e hc) u.tups u.frzs u.tbls (fun m' hm => by
    obtain ⟨o', es', ep', ho', r'⟩ := hm
    rw [ho] at ho'; cases ho'
    exact ⟨_, es', ep', hL, r'⟩) hok hg
theorem Inv.turned {t' : Nat} {it : Addr} (I : Inv X pins σ H s) (k : ∀ b o, b ≠ it → s.heap.get? b = some o → h'.get? b = some o) (hn : H it = none) (hL : it ≠ X.env.locals)
    (h1 : it ∈ X.ex ∨ X.s₀.heap.objs.size ≤ it) (h2 : ∀ x c, X.env.cells.lookup x = some c → c ≠ it) (h3 : ∀ p ∈ X.pn ++ pins, p.1 ≠ it) : Inv X pins σ H { s with heap := h', toks := t' } := by
  have nit : ∀ b u, H b = some u → b ≠ it := fun b u e z => by rw [z, hn] at e; cases e
  refine I.step (g' := s.gens) (d' := s.drawn) (ch := [it]) (fun b hb => ?_) (fun b o _ _ hc e _ => k b o (fun z => hc (by simp [z])) e) (fun b o _ _ hc e _ => ⟨o.slots, k b o (fun z => hc (by simp [z])) e⟩) (fun _ _ _ _ n => n)
    (fun b o hc e => ⟨o, k b o (fun z => hc (by simp [z])) e⟩) (fun _ _ e => e) (fun _ _ _ e => e) (fun b ps e => ⟨#[], by rw [e]; simp⟩) (fun m hm => ?_) (fun b u e => ?_) I.bare
  · have e : b = it := by simpa using hb
    subst e
    exact ⟨h1, hL, h2, h3⟩
  · obtain ⟨o, es, ep, ho, r⟩ := hm
    exact ⟨o, es, ep, k _ o (Ne.symm hL) ho, r⟩
  · refine (I.hok b u e).stay (fun c v hc q => k c v ?_ q) (fun _ q => q) fun _ _ q => q
    rcases hc with z | z
    · rw [z]; exact nit b u e
    · exact nit c _ z
theorem Inv.tok (I : Inv X pins σ H s) (t : Nat) : Inv X pins σ H { s with toks := t } := I.un (h' := s.heap) (t' := t) Un.refl I.hok
theorem Inv.kept {t' : Nat} (I : Inv X pins σ H s) (k : ∀ b u, s.heap.get? b = some u → h'.get? b = some u) : Inv X pins σ H { s with heap := h', toks := t' } := I.un (Un.kept k) (I.hok.kept k)
theorem Inv.laid {a : Addr} {o : HO} {t' : Nat} (I : Inv X pins σ H s) (k : ∀ b u, s.heap.get? b = some u → h'.get? b = some u) (hp : s.heap.objs.size ≤ a) (new : ObjOk X.prog X.w (upd H a o) h' a o) :
    Inv X pins σ (upd H a o) { s with heap := h', toks := t' } := I.un (Un.laid k hp (I.hok.fresh hp)) (I.hok.laid k hp new)
theorem Inv.write {x e : Addr} {o : HO} {t' : Nat} (I : Inv X pins σ H s) (mu : Mut (H x)) (he : e = x ∨ H e = some (.own x)) (k : ∀ b u, b ≠ e → s.heap.get? b = some u → h'.get? b = some u) (heo : ∃ u, h'.get? e = some u)
    (new : ObjOk X.prog X.w (upd H x o) h' x o) : Inv X pins σ (upd H x o) { s with heap := h', toks := t' } := I.un (Un.write mu he k heo) (I.hok.write mu he k heo new)
theorem Inv.pins_of {pins' : List (Addr × Obj)} (I : Inv X pins σ H s) (h : ∀ p ∈ pins', s.heap.get? p.1 = some p.2 ∧ H p.1 = none ∧ p.1 ≠ X.env.locals ∧ p.1 ∉ X.fs ∧ ∀ v, p.2.data ≠ .cell v) : Inv X pins' σ H s :=
  ⟨I.ok, I.os, I.bare, I.base, I.loc, I.cell, I.free, I.freeC, fun p hp => (List.mem_append.mp hp).elim (fun z => I.pin p (List.mem_append_left _ z)) (h p), I.hok, I.len⟩
theorem nodup_ix {N : List Str} (hN : N.Nodup) {i j : Nat} {x : Str} (a : N[i]? = some x) (b : N[j]? = some x) : i = j := by
  obtain ⟨h1, e1⟩ := List.getElem?_eq_some_iff.mp a
  obtain ⟨h2, e2⟩ := List.getElem?_eq_some_iff.mp b
  exact (List.getElem_inj hN).mp (e1.trans e2.symm)
theorem store_ok2 {M : Model} {A : Around} {E : Value → Shared → Prop} {i : Nat} {x : Str} {v : V} {u : Value} {Q : Unit → Shared → Prop} (I : Inv X pins σ H s) (hN : X.N.Nodup) (hi : X.N[i]? = some x) (hx : Loc X.env.scope x) (r : RelV v u)
    (h : ∀ s', Inv X pins (σ.set i (some v)) H s' → (∃ a, Heap.SameBut a s.heap s'.heap ∧ (a = X.env.locals ∨ X.env.cells.lookup x = some a)) → Q () s') (hf : X.fn x = true ∨ X.env.scope.names.lookup x = some .local := by first | exact .inl rfl | exact .inr rfl | assumption) : wpAny M A (storeName X.env x u) Q E s := by
  obtain ⟨m, hn, hl⟩ := id I.loc
  have hcls : (X.env.scope.kind == .class || (X.env.scope.kind == .module && X.env.locals != X.env.globals)) = false := by rw [I.ok.kind]; rfl
  have hiσ : i < σ.length := by rw [I.len]; exact (List.getElem?_eq_some_iff.mp hi).1
  have cne := I.cne
  have tracked : ∀ {a : Addr} {h' : Heap}, (∃ o, s.heap.get? a = some o ∧ H a = none) → Heap.SameBut a s.heap h' → HOk X.prog X.w H h' := fun {a h'} ha hs b ob e => by
    obtain ⟨_, _, hfree⟩ := ha
    refine (I.hok b ob e).stay (fun c w' hc q => (hs.2 c ?_).trans q) (fun _ q => q) fun _ _ q => q
    rintro rfl
    rcases hc with rfl | hc
    · rw [hfree] at e; cases e
    · rw [hfree] at hc; cases hc
  rcases hx with hk | hk
  · refine wpAny_storeName_local hk hn (fun h' hn' hs => ?_) hcls
    obtain ⟨oL, _, _, hoL, _⟩ := id hn
    refine h _ ⟨I.ok, I.os, I.bare, ⟨fun b o e n hb hx => ?_, fun b o e n hb hx => ?_, I.base.free, fun b o e hx => ?_, I.base.tups, I.base.frzs, I.base.tbls⟩, ⟨_, hn', fun j y v' e1 e2 e3 => ?_⟩, fun y c e => ?_, I.free, I.freeC, fun p hp => ?_, tracked ⟨oL, hoL, I.free⟩ hs, by simpa using I.len⟩ ⟨_, hs, .inl rfl⟩
    · exact (hs.2 b (Nat.ne_of_lt (Nat.lt_of_lt_of_le (Heap.lt_size e) I.ok.above))).trans (I.base.keep b o e n hb hx)
    · obtain ⟨sl, e1⟩ := I.base.slot b o e n hb hx
      exact ⟨sl, (hs.2 b (Nat.ne_of_lt (Nat.lt_of_lt_of_le (Heap.lt_size e) I.ok.above))).trans e1⟩
    · obtain ⟨o', e1⟩ := I.base.there b o e hx
      exact ⟨o', (hs.2 b (Nat.ne_of_lt (Nat.lt_of_lt_of_le (Heap.lt_size e) I.ok.above))).trans e1⟩
    · by_cases hj : j = i
      · subst hj
        rw [hi] at e1; cases e1
        rw [List.getElem?_set_self hiσ] at e2
        cases e2
        exact ⟨u, r, .inl ⟨hk, by simp⟩⟩
      · rw [List.getElem?_set_ne (Ne.symm hj)] at e2
        obtain ⟨u', r', q⟩ := hl j y v' e1 e2 e3
        refine ⟨u', r', ?_⟩
        rcases q with ⟨k, e⟩ | ⟨k, c, e, z⟩
        · refine .inl ⟨k, ?_⟩
          have : y ≠ x := fun e => hj (nodup_ix hN e1 (e ▸ hi))
          simp [this, e]
        · exact .inr ⟨k, c, e, z.sameBut hs (cne y c e)⟩
    · obtain ⟨w', z⟩ := I.cell y c e
      exact ⟨w', z.sameBut hs (cne y c e)⟩
    · obtain ⟨e, n, ne, nf, d⟩ := I.pin p hp
      exact ⟨(hs.2 p.1 ne).trans e, n, ne, nf, d⟩
  · have hfn : X.fn x = true := by
      rcases hf with z | z
      · exact z
      · rw [z] at hk; cases hk
    obtain ⟨c, hc⟩ := I.ok.has x (.inl hk)
    obtain ⟨w', z⟩ := I.cell x c hc
    refine wpAny_storeName_cell I.ok.kind hk hc z (fun h' hc' hs => ?_)
    obtain ⟨oc, hoc, hocd⟩ := id z
    refine h { s with heap := h' } ⟨I.ok, I.os, I.bare, ⟨fun b o e n hb hx => ?_, fun b o e n hb hx => ?_, I.base.free, fun b o e hx => ?_, I.base.tups, I.base.frzs, I.base.tbls⟩, ⟨m, hn.sameBut hs (Ne.symm (cne x c hc)), fun j y v' e1 e2 e3 => ?_⟩, fun y c' e => ?_, I.free, I.freeC, fun p hp => ?_, tracked ⟨oc, hoc, I.freeC x c hc⟩ hs, by simpa using I.len⟩ ⟨c, hs, .inr hc⟩
    · exact (hs.2 b (Nat.ne_of_lt (Nat.lt_of_lt_of_le (Heap.lt_size e) (I.ok.cab x c hfn hc)))).trans (I.base.keep b o e n hb hx)
    · obtain ⟨sl, e1⟩ := I.base.slot b o e n hb hx
      exact ⟨sl, (hs.2 b (Nat.ne_of_lt (Nat.lt_of_lt_of_le (Heap.lt_size e) (I.ok.cab x c hfn hc)))).trans e1⟩
    · obtain ⟨o', e1⟩ := I.base.there b o e hx
      exact ⟨o', (hs.2 b (Nat.ne_of_lt (Nat.lt_of_lt_of_le (Heap.lt_size e) (I.ok.cab x c hfn hc)))).trans e1⟩
    · by_cases hj : j = i
      · subst hj
        rw [hi] at e1; cases e1
        rw [List.getElem?_set_self hiσ] at e2
        cases e2
        exact ⟨u, r, .inr ⟨.inl hk, c, hc, hc'⟩⟩
      · rw [List.getElem?_set_ne (Ne.symm hj)] at e2
        obtain ⟨u', r', q⟩ := hl j y v' e1 e2 e3
        refine ⟨u', r', ?_⟩
        rcases q with q | ⟨k, c', e, z'⟩
        · exact .inl q
        · refine .inr ⟨k, c', e, z'.sameBut hs ?_⟩
          rintro rfl
          exact hj (nodup_ix hN e1 (I.ok.inj _ _ _ e hc ▸ hi))
    · by_cases hcc : c' = c
      · subst hcc; exact ⟨_, hc'⟩
      · obtain ⟨w2, z2⟩ := I.cell y c' e
        exact ⟨w2, z2.sameBut hs hcc⟩
    · obtain ⟨e, n, ne, nf, d⟩ := I.pin p hp
      refine ⟨(hs.2 p.1 ?_).trans e, n, ne, nf, d⟩
      intro q
      rw [q, hoc] at e
      have q' : oc = p.2 := Option.some.inj e
      exact d w' (by rw [← q']; exact hocd)
theorem store_ok {M : Model} {A : Around} {E : Value → Shared → Prop} {i : Nat} {x : Str} {v : V} {u : Value} {Q : Unit → Shared → Prop} (I : Inv X pins σ H s) (hN : X.N.Nodup) (hi : X.N[i]? = some x) (hx : Loc X.env.scope x) (r : RelV v u)
    (h : ∀ s', Inv X pins (σ.set i (some v)) H s' → Q () s') (hf : X.fn x = true ∨ X.env.scope.names.lookup x = some .local := by first | exact .inl rfl | exact .inr rfl | assumption) : wpAny M A (storeName X.env x u) Q E s :=
  store_ok2 I hN hi hx r (fun s' I' _ => h s' I') hf
theorem Inv.call' {s' : Shared} {ch : List Addr} (I : Inv X pins σ H s) (ho : s'.os = s.os) (u : Un (frs X.stack) ch H H' s.heap s'.heap) (hok : HOk X.prog X.w H' s'.heap) (hg : AllBare s'.gens)
    (hch : ∀ b ∈ ch, (b ∈ X.ex ∨ X.s₀.heap.objs.size ≤ b) ∧ b ≠ X.env.locals ∧ (∀ x c, X.env.cells.lookup x = some c → c ≠ b) ∧ ∀ p ∈ X.pn ++ pins, p.1 ≠ b) : Inv X pins σ H' s' := by
  obtain ⟨h', g', d', t', o'⟩ := s'
  have e : o' = s.os := ho
  subst e
  exact I.call (g' := g') (t' := t') (d' := d') u hok hg hch
end
abbrev XK := Value → Option Addr → Hp → Prop
abbrev St := List (Option V)
abbrev VK := V → Hp → Prop
abbrev TE := St → Hp → VK → Prop
abbrev TT := St → Hp → (Bool → Hp → Prop) → Prop
abbrev TA := St → Hp → (List V → Hp → Prop) → Prop
structure Ends where
  nx : St → Hp → Prop
  rt : VK
  bk : St → Hp → Prop := fun _ _ => False
  ct : St → Hp → Prop := fun _ _ => False
abbrev TS := Ends → St → Hp → Prop
def EP (X : Cx) (pins : List (Addr × Obj)) (σ : St) (Q : VK) (u : Value) (s' : Shared) : Prop := ∃ v H', Inv X pins σ H' s' ∧ RelV v u ∧ Q v H'
def TP (X : Cx) (pins : List (Addr × Obj)) (σ : St) (Q : Bool → Hp → Prop) (b : Bool) (s' : Shared) : Prop := ∃ H', Inv X pins σ H' s' ∧ Q b H'
def AP (X : Cx) (pins : List (Addr × Obj)) (σ : St) (Q : List V → Hp → Prop) (us : List Value) (s' : Shared) : Prop := ∃ vs H', Inv X pins σ H' s' ∧ Vals vs us ∧ Q vs H'
def SP (X : Cx) (pins : List (Addr × Obj)) (D : Ends) (f : Flow) (s' : Shared) : Prop :=
  match f with
  | .next => ∃ σ' H', Inv X pins σ' H' s' ∧ D.nx σ' H'
  | .brk => ∃ σ' H', Inv X pins σ' H' s' ∧ D.bk σ' H'
  | .cont => ∃ σ' H', Inv X pins σ' H' s' ∧ D.ct σ' H'
  | .ret u => ∃ v σ' H', Inv X pins σ' H' s' ∧ RelV v u ∧ D.rt v H'
def PE (X : Cx) (e : Expr) (t : TE) : Prop :=
  ∀ (pins : List (Addr × Obj)) (s : Shared) (σ : St) (H : Hp) (Q : VK), Inv X pins σ H s → t σ H Q → wpAny (model X.prog X.w) X.A (eval e X.env) (EP X pins σ Q) X.xe s
def PT (X : Cx) (e : Expr) (t : TT) : Prop :=
  ∀ (pins : List (Addr × Obj)) (s : Shared) (σ : St) (H : Hp) (Q : Bool → Hp → Prop), Inv X pins σ H s → t σ H Q → wpAny (model X.prog X.w) X.A (isTrue e X.env (eval e X.env)) (TP X pins σ Q) X.xe s
def PW (X : Cx) (e : Expr) (t : TT) : Prop :=
  ∀ (whole : Sem Value) (pins : List (Addr × Obj)) (s : Shared) (σ : St) (H : Hp) (Q : Bool → Hp → Prop), Inv X pins σ H s → t σ H Q → wpAny (model X.prog X.w) X.A (isTrue e X.env whole) (TP X pins σ Q) X.xe s
theorem PW.pt {X : Cx} {e : Expr} {t : TT} (h : PW X e t) : PT X e t := h _
def PA (X : Cx) (es : List Expr) (t : TA) : Prop :=
  ∀ (pos : Pos) (pins : List (Addr × Obj)) (s : Shared) (σ : St) (H : Hp) (Q : List V → Hp → Prop), Inv X pins σ H s → t σ H Q → wpAny (model X.prog X.w) X.A (spliced (backTo pos (starEach es X.env))) (AP X pins σ Q) X.xe s
def PS (X : Cx) (st : Stmt) (t : TS) : Prop :=
  ∀ (pins : List (Addr × Obj)) (s : Shared) (σ : St) (H : Hp) (D : Ends), Inv X pins σ H s → t D σ H → wpAny (model X.prog X.w) X.A (exec st X.env) (SP X pins D) X.xe s
def PSs (X : Cx) (st : List Stmt) (t : TS) : Prop :=
  ∀ (pins : List (Addr × Obj)) (s : Shared) (σ : St) (H : Hp) (D : Ends), Inv X pins σ H s → t D σ H → wpAny (model X.prog X.w) X.A (execs st X.env) (SP X pins D) X.xe s
theorem thn {α : Type} {t : Sem α} {Q Q' : α → Shared → Prop} {M : Model} {A : Around} {E : Value → Shared → Prop} {s : Shared} (h : wpAny M A t Q E s) (hQ : ∀ a s, Q a s → Q' a s) : wpAny M A t Q' E s := wpAny_mono h hQ fun _ _ x => x
end L2
namespace L2
open PySem PySem.Spec PyProof.Rows
section
variable {X : Cx}
def tVar (i : Nat) : TE := fun σ H Q => ∃ v, σ[i]? = some (some v) ∧ Q v H
def tC (v : V) : TE := fun _ H Q => Q v H
theorem pe_var {i : Nat} {x : Str} {pos : Pos} (hN : X.N[i]? = some x) (hv : Vis X.env.scope x) (hd : (x == ("__debug__" : Str)) = false := by decide) (hcd : (x == ("__classdict__" : Str)) = false := by decide) : PE X (.Name x pos) (tVar i) := by
  intro pins s σ H Q I h
  obtain ⟨v, e, h⟩ := h
  obtain ⟨m, hn, hl⟩ := I.loc
  obtain ⟨u, r, l⟩ := hl i x v hN e hv
  have fin : EP X pins σ Q u s := ⟨v, H, I, r, h⟩
  rcases l with ⟨hk, hm⟩ | ⟨hk, c, hc, hcell⟩
  · exact wpAny_Name (wpAny_loadName_local I.ok.kind hk hn hm fin) hd
  · rcases hk with hk | hk
    · exact wpAny_Name (wpAny_loadName_cell I.ok.kind hk hc hcell fin) hd
    · exact wpAny_Name (wpAny_loadName_free I.ok.kind hk hc hcell fin hcd) hd
theorem pe_int {i j pos} : PE X (.Constant (.int i) j pos) (tC (.int i)) := fun _ _ _ H _ I h => wpAny_Constant_int ⟨.int i, H, I.tok _, ⟨_, rfl⟩, h⟩
theorem pe_bl {b j pos} : PE X (.Constant (.bool b) j pos) (tC (.bl b)) := fun _ _ _ H _ I h => Constant_bool ⟨.bl b, H, I, rfl, h⟩
theorem pe_non {j pos} : PE X (.Constant .none j pos) (tC .non) := fun _ _ _ H _ I h => Constant_none ⟨.non, H, I, rfl, h⟩
def Gl (X : Cx) (x : Str) : Prop := X.env.kindOf x = some .globalImplicit
theorem ld_glob {E : Value → Shared → Prop} {pins : List (Addr × Obj)} {s : Shared} {σ : St} {H : Hp} {x : Str} {u : Value} {pos : Pos} {Q : Value → Shared → Prop} (I : Inv X pins σ H s) (hg : Gl X x) (hm : X.mg x = some u) (h : Q u s)
    (hd : (x == ("__debug__" : Str)) = false := by decide) : wpAny (model X.prog X.w) X.A (eval (.Name x pos) X.env) Q E s :=
  Calls.Name_function_global I.ok.kind hg (Calls.loadGlobal_global (by rw [I.ok.glob]; exact I.mod.glob.keeps I.bk) hm h) hd
theorem ld_blt {E : Value → Shared → Prop} {pins : List (Addr × Obj)} {s : Shared} {σ : St} {H : Hp} {x : Str} {u : Value} {pos : Pos} {Q : Value → Shared → Prop} (I : Inv X pins σ H s) (hg : Gl X x) (hm : X.mg x = none) (hv : bootBuiltins x = some u) (h : Q u s)
    (hn : x ≠ "__name__" := by decide) (hd : (x == ("__debug__" : Str)) = false := by decide) : wpAny (model X.prog X.w) X.A (eval (.Name x pos) X.env) Q E s := by
  obtain ⟨mb, h1, h2⟩ := I.mod.blt
  exact Calls.Name_function_global I.ok.kind hg (Calls.loadGlobal_builtin (by rw [I.ok.glob]; exact I.mod.glob.keeps I.bk) hm (by rw [I.ok.blt]; exact h1.keeps I.bk) ((h2 x hn).trans hv) h) hd
theorem pe_glob {x : Str} {v : V} {u : Value} {pos : Pos} (hg : Gl X x) (hm : X.mg x = some u) (r : RelV v u) (hd : (x == ("__debug__" : Str)) = false := by decide) : PE X (.Name x pos) (tC v) :=
  fun _ _ _ H _ I h => ld_glob I hg hm ⟨v, H, I, r, h⟩ hd
variable {a b : Expr} {ta tb : TE} {pos : Pos}
variable {tA tB' : TT} {rest : List Expr}
def tNot (t : TT) : TT := fun σ H Q => t σ H fun c H1 => Q (!c) H1
theorem pt_not (ha : PT X a tA) : PT X (.UnaryOp .Not a pos) (tNot tA) := by
  intro pins s σ H Q I h
  exact isTrue_not (ha pins s σ H (fun c H1 => Q (!c) H1) I h)
def tIf (t : TT) (ta tb : TE) : TE := fun σ H Q => t σ H fun c H1 => if c = true then ta σ H1 Q else tb σ H1 Q
theorem pe_ifExp {c : Expr} (hc : PT X c tA) (ha : PE X a ta) (hb : PE X b tb) : PE X (.IfExp c a b pos) (tIf tA ta tb) := by
  intro pins s σ H Q I h
  refine wpAny_IfExp (thn (hc pins s σ H _ I h) fun d s1 ⟨H1, I1, q1⟩ => ?_)
  cases d with
  | true => exact ha pins s1 σ H1 Q I1 q1
  | false => exact hb pins s1 σ H1 Q I1 q1
end
end L2
namespace L2
open PySem PySem.Spec PyProof.Rows
def SqL (K : PySem.W.Frag) (H : Hp) (a : Addr) (xs : List V) : Prop :=
  Rd H a (.lst xs) ∨
    ∃ (o : Obj) (its : Array Value) (n : Nat), K.lookup a = some o ∧ o.cls = .type "list" ∧ o.dict = none ∧ o.data = .seq its n ∧ its.size ≤ sizeLine ∧ Vals xs its.toList
def SqT (K : PySem.W.Frag) (H : Hp) (a : Addr) (xs : List V) : Prop :=
  Rd H a (.tup xs) ∨
    ∃ (o : Obj) (its : Array Value) (n : Nat), K.lookup a = some o ∧ o.cls = .type "tuple" ∧ o.dict = none ∧ o.data = .seq its n ∧ its.size ≤ sizeLine ∧ Vals xs its.toList
def absV : Value → Option V
  | .none => some .non
  | .bool b => some (.bl b)
  | .int i _ => some (.int i)
  | .str x _ => some (.str x)
  | .bytes b _ => some (.byt b)
  | .float b _ => some (.flt b)
  | .ref a => some (.ref a)
  | .type n => some (.ty n)
  | _ => none
theorem RelV.abs {x : V} {u : Value} (r : RelV x u) : absV u = some x := by
  cases x with
  | non => cases r; rfl
  | bl _ => cases r; rfl
  | int _ => obtain ⟨t, rfl⟩ := r; rfl
  | str _ => obtain ⟨t, rfl⟩ := r; rfl
  | byt _ => obtain ⟨t, rfl⟩ := r; rfl
  | flt _ => obtain ⟨t, rfl⟩ := r; rfl
  | ref _ => cases r; rfl
  | ty _ => cases r; rfl
theorem RelV.inj {x y : V} {u : Value} (r : RelV x u) (q : RelV y u) : x = y := Option.some.inj (r.abs.symm.trans q.abs)
theorem Vals.inj : ∀ {xs ys : List V} {us : List Value}, Vals xs us → Vals ys us → xs = ys
  | _, _, _, .nil, .nil => rfl
  | _, _, _, .cons r t, .cons r' t' => by rw [r.inj r', Vals.inj t t']
section
variable {X : Cx} {pins : List (Addr × Obj)} {σ : St} {H : Hp} {s : Shared} {a : Addr} {xs ys : List V}
theorem SqL.of {K : PySem.W.Frag} (h : H a = some (.lst xs)) : SqL K H a xs := .inl (.inl h)
theorem SqT.of {K : PySem.W.Frag} (h : H a = some (.tup xs)) : SqT K H a xs := .inl (.inl h)
theorem Inv.list (I : Inv X pins σ H s) (h : SqL X.K H a xs) : ∃ its : List Value, Vals xs its ∧ PlainL s.heap a its.toArray ∧ xs.length ≤ sizeLine := by
  rcases h with h | ⟨o, its, n, hk, hc, hd, hs, hz, r⟩
  · obtain ⟨z, its, n, r, e⟩ := h.ok I.hok
    exact ⟨its, r, ⟨_, n, e, rfl, rfl, rfl⟩, z⟩
  · refine ⟨its.toList, r, ⟨o, n, I.kIn a o hk, hc, hd, by simpa using hs⟩, ?_⟩
    have e := r.length
    simp only [Array.length_toList] at e
    omega
theorem Inv.tuple (I : Inv X pins σ H s) (h : SqT X.K H a xs) : ∃ its : List Value, Vals xs its ∧ IsTup s.heap a its.toArray ∧ xs.length ≤ sizeLine := by
  rcases h with h | ⟨o, its, n, hk, hc, _, hs, hz, r⟩
  · obtain ⟨z, its, r, p⟩ := h.ok I.hok
    exact ⟨its, r, p.tup, z⟩
  · refine ⟨its.toList, r, ⟨o, I.kIn a o hk, hc, n, by simpa using hs⟩, ?_⟩
    have e := r.length
    simp only [Array.length_toList] at e
    omega
theorem Inv.tupN (I : Inv X pins σ H s) (h : SqT X.K H a xs) : ∃ o, s.heap.get? a = some o ∧ o.dict = none := by
  rcases h with h | ⟨o, its, n, hk, hc, hd, _⟩
  · obtain ⟨_, _, _, p⟩ := h.ok I.hok
    exact p.bare
  · exact ⟨o, I.kIn a o hk, hd⟩
theorem Inv.list_inj (I : Inv X pins σ H s) (h : SqL X.K H a xs) (h' : SqL X.K H a ys) : xs = ys := by
  obtain ⟨its, r, ⟨o, n, e, _, _, d⟩, _⟩ := I.list h
  obtain ⟨its', r', ⟨o', n', e', _, _, d'⟩, _⟩ := I.list h'
  rw [e] at e'; cases e'
  rw [d] at d'
  injection d' with d1 _
  have : its = its' := by simpa using congrArg Array.toList d1
  subst this
  exact r.inj r'
theorem Inv.tuple_inj (I : Inv X pins σ H s) (h : SqT X.K H a xs) (h' : SqT X.K H a ys) : xs = ys := by
  obtain ⟨its, r, ⟨o, e, _, n, d⟩, _⟩ := I.tuple h
  obtain ⟨its', r', ⟨o', e', _, n', d'⟩, _⟩ := I.tuple h'
  rw [e] at e'; cases e'
  rw [d] at d'
  injection d' with d1 _
  have : its = its' := by simpa using congrArg Array.toList d1
  subst this
  exact r.inj r'
end
abbrev Cx.wish (X : Cx) (E : Value → Shared → Prop) : Cx := { X with xe := E }
abbrev Cx.nox (X : Cx) : Cx := X.wish fun _ _ => False
theorem Cx.Ok.wish {X : Cx} (ok : X.Ok) (E : Value → Shared → Prop) : (X.wish E).Ok :=
  ⟨ok.mod, ok.kind, ok.glob, ok.blt, ok.above, ok.inj, ok.has, ok.cab, ok.hd, ok.frames, ok.stk, ok.exf, ok.bs, ok.bsz, ok.noex, ok.exfs, ok.funs, ok.frf⟩
theorem Cx.Ok.unwish {X : Cx} {E : Value → Shared → Prop} (ok : (X.wish E).Ok) : X.Ok :=
  ⟨ok.mod, ok.kind, ok.glob, ok.blt, ok.above, ok.inj, ok.has, ok.cab, ok.hd, ok.frames, ok.stk, ok.exf, ok.bs, ok.bsz, ok.noex, ok.exfs, ok.funs, ok.frf⟩
section
variable {X : Cx} {pins : List (Addr × Obj)} {σ : St} {H : Hp} {s : Shared} {E : Value → Shared → Prop}
theorem Inv.wish (I : Inv X pins σ H s) (E : Value → Shared → Prop) : Inv (X.wish E) pins σ H s := ⟨I.ok.wish E, I.os, I.bare, I.base, I.loc, I.cell, I.free, I.freeC, I.pin, I.hok, I.len⟩
theorem Inv.unwish (I : Inv (X.wish E) pins σ H s) : Inv X pins σ H s := ⟨I.ok.unwish, I.os, I.bare, I.base, I.loc, I.cell, I.free, I.freeC, I.pin, I.hok, I.len⟩
theorem SP.unwish {D : Ends} {f : Flow} {s' : Shared} (h : SP (X.wish E) pins D f s') : SP X pins D f s' := by
  cases f with
  | next => obtain ⟨σ', H', I, q⟩ := h; exact ⟨σ', H', I.unwish, q⟩
  | brk => obtain ⟨σ', H', I, q⟩ := h; exact ⟨σ', H', I.unwish, q⟩
  | cont => obtain ⟨σ', H', I, q⟩ := h; exact ⟨σ', H', I.unwish, q⟩
  | ret u => obtain ⟨v, σ', H', I, r, q⟩ := h; exact ⟨v, σ', H', I.unwish, r, q⟩
theorem PE.nox {e : Expr} {t : TE} (h : PE X.nox e t) : PE X e t := fun pins s σ H Q I hw =>
  wpAny_mono (h pins s σ H Q (I.wish _) hw) (fun _ _ ⟨v, H', I', r, q⟩ => ⟨v, H', I'.unwish, r, q⟩) fun _ _ z => False.elim z
theorem PT.nox {e : Expr} {t : TT} (h : PT X.nox e t) : PT X e t := fun pins s σ H Q I hw =>
  wpAny_mono (h pins s σ H Q (I.wish _) hw) (fun _ _ ⟨H', I', q⟩ => ⟨H', I'.unwish, q⟩) fun _ _ z => False.elim z
theorem PSs.nox {st : List Stmt} {t : TS} (h : PSs X.nox st t) : PSs X st t := fun pins s σ H D I hw =>
  wpAny_mono (h pins s σ H D (I.wish _) hw) (fun _ _ q => q.unwish) fun _ _ z => False.elim z
end
section
variable {X : Cx} {st : Stmt} {rest : List Stmt} {t u : TS} {e : Expr} {te : TE} {pos : Pos}
def tNext : TS := fun D σ H => D.nx σ H
def tSeq (t u : TS) : TS := fun D σ H => t { D with nx := u D } σ H
theorem pss_nil : PSs X [] tNext := fun _ _ σ H _ I h => wpAny_execs_nil ⟨σ, H, I, h⟩
theorem pss_cons (h1 : PS X st t) (h2 : PSs X rest u) : PSs X (st :: rest) (tSeq t u) := by
  intro pins s σ H D I h
  refine wpAny_execs_cons (thn (h1 pins s σ H { D with nx := u D } I h) fun f s1 q => ?_)
  cases f with
  | next =>
    obtain ⟨σ', H', I', q⟩ := q
    exact h2 pins s1 σ' H' D I' q
  | ret v => exact q
  | brk => exact q
  | cont => exact q
theorem Inv.quiet {pins : List (Addr × Obj)} {σ : St} {H : Hp} {s : Shared} (I : Inv X pins σ H s) : interactive X.env = false := by simp [interactive, I.ok.kind]
def tDrop (te : TE) : TS := fun D σ H => te σ H fun _ H1 => D.nx σ H1
theorem ps_expr (he : PE X e te) (hs : swapsWith e none pos.line X.env = pure false := by rfl) : PS X (.Expr e pos) (tDrop te) := by
  intro pins s σ H D I h
  exact wpAny_Expr_any (thn (he pins s σ H _ I h) fun v s1 ⟨x, H1, I1, r1, q1⟩ => ⟨σ, H1, I1, q1⟩) I.quiet hs
def tRet (te : TE) : TS := fun D σ H => te σ H D.rt
theorem ps_ret (he : PE X e te) : PS X (.Return (some e) pos) (tRet te) := by
  intro pins s σ H D I h
  exact wpAny_Return_some (thn (he pins s σ H _ I h) fun v s1 ⟨x, H1, I1, r1, q1⟩ => ⟨x, σ, H1, I1, r1, q1⟩)
def tIfS (c : TT) (t u : TS) : TS := fun D σ H => c σ H fun b H1 => if b = true then t D σ H1 else u D σ H1
theorem ps_if {c : Expr} {a b : List Stmt} {tc : TT} (hc : PT X c tc) (ha : PSs X a t) (hb : PSs X b u) : PS X (.If c a b pos) (tIfS tc t u) := by
  intro pins s σ H D I h
  refine wpAny_If (thn (hc pins s σ H _ I h) fun d s1 ⟨H1, I1, q1⟩ => ?_)
  cases d with
  | true => exact ha pins s1 σ H1 D I1 q1
  | false => exact hb pins s1 σ H1 D I1 q1
end
abbrev TG := V → St → Hp → (St → Hp → Prop) → Prop
abbrev TGs := List V → St → Hp → (St → Hp → Prop) → Prop
def PG (X : Cx) (target : Expr) (t : TG) : Prop :=
  ∀ (pins : List (Addr × Obj)) (s : Shared) (σ : St) (H : Hp) (v : V) (u : Value) (Q : St → Hp → Prop), Inv X pins σ H s → RelV v u → t v σ H Q →
    wpAny (model X.prog X.w) X.A (assign target X.env u) (fun _ s' => ∃ σ' H', Inv X pins σ' H' s' ∧ Q σ' H') X.xe s
def PGs (X : Cx) (ts : List Expr) (t : TGs) : Prop :=
  ∀ (pins : List (Addr × Obj)) (s : Shared) (σ : St) (H : Hp) (vs : List V) (us : List Value) (Q : St → Hp → Prop), Inv X pins σ H s → Vals vs us → t vs σ H Q →
    wpAny (model X.prog X.w) X.A (assignInOrder ((assignEach ts X.env).map (·.2)) us) (fun _ s' => ∃ σ' H', Inv X pins σ' H' s' ∧ Q σ' H') X.xe s
abbrev TSet := V → V → V → Hp → (Hp → Prop) → Prop
def PSet (X : Cx) (t : TSet) : Prop :=
  ∀ (pins : List (Addr × Obj)) (s : Shared) (σ : St) (H : Hp) (o i v : V) (ov iv u : Value) (Q : Hp → Prop), Inv X pins σ H s → RelV o ov → RelV i iv → RelV v u → t o i v H Q →
    wpAny (model X.prog X.w) X.A (setItem ov iv u) (fun _ s' => ∃ H', Inv X pins σ H' s' ∧ Q H') X.xe s
section
variable {X : Cx} {pos : Pos}
def gName (i : Nat) : TG := fun v σ H Q => Q (σ.set i (some v)) H
theorem pg_name {i : Nat} {x : Str} (hN : X.N.Nodup) (hi : X.N[i]? = some x) (hx : Loc X.env.scope x) (hf : X.fn x = true ∨ X.env.scope.names.lookup x = some .local := by first | exact .inl rfl | exact .inr rfl | assumption) : PG X (.Name x pos) (gName i) := by
  intro pins s σ H v u Q I r h
  exact wpAny_assign_Name (store_ok I hN hi hx r (fun s' I' => ⟨_, H, I', h⟩) hf)
def gNil : TGs := fun vs σ H Q => vs = [] ∧ Q σ H
def gCons (t : TG) (u : TGs) : TGs := fun vs σ H Q => ∃ v r, vs = v :: r ∧ t v σ H fun σ' H' => u r σ' H' Q
theorem pgs_nil : PGs X [] gNil := by
  intro pins s σ H vs us Q I r h
  obtain ⟨e, h⟩ := h
  subst e
  cases r
  exact assignInOrder_nil ⟨σ, H, I, h⟩
theorem pgs_cons {e : Expr} {es : List Expr} {t : TG} {u : TGs} (h1 : PG X e t) (h2 : PGs X es u)
    (hs : (assignEach (e :: es) X.env).map (·.2) = assign e X.env :: (assignEach es X.env).map (·.2) := by rfl) : PGs X (e :: es) (gCons t u) := by
  intro pins s σ H vs us Q I r h
  obtain ⟨v, vr, e1, h⟩ := h
  subst e1
  cases r with
  | cons r rr =>
    rw [hs]
    refine assignInOrder_cons (thn (h1 pins s σ H _ _ _ I r h) fun _ s1 ⟨σ1, H1, I1, q1⟩ => ?_)
    exact h2 pins s1 σ1 H1 _ _ Q I1 rr q1
def gTup (K : PySem.W.Frag) (n : Nat) (t : TGs) : TG := fun v σ H Q => ∃ a xs, v = .ref a ∧ SqT K H a xs ∧ xs.length = n ∧ t xs σ H Q
theorem pg_tup {es : List Expr} {k : Nat} {t : TGs} {n : Nat} (hc : X.calm = true) (h : PGs X es t)
    (hn : (assignEach es X.env).length = n := by rfl) (hst : (assignEach es X.env).findIdx? (·.1) = none := by rfl) : PG X (.Tuple es k pos) (gTup X.K n t) := by
  intro pins s σ H v u Q I r hw
  obtain ⟨a, xs, e1, hq, hl, hw⟩ := hw
  subst e1
  cases r
  obtain ⟨its, rv, ht, hz⟩ := I.tuple hq
  refine assign_Tuple_tuple (I.ok.hd hc) ht (by simp [hn, ← hl, rv.length]) hst fun h' hx => ?_
  have I1 : Inv X pins σ H { s with heap := h' } := I.kept (t' := s.toks) fun b o e => hx b o (Nat.ne_of_lt (Heap.lt_size e)) e
  exact h pins _ σ H xs _ Q I1 (by simpa using rv) hw
def gSub (to ti : TE) (t : TSet) : TG := fun v σ H Q => to σ H fun o H1 => ti σ H1 fun i H2 => t o i v H2 fun H3 => Q σ H3
theorem pg_sub {o i : Expr} {to ti : TE} {t : TSet} (ho : PE X o to) (hi : PE X i ti) (hs : PSet X t)
    (ha : ∀ v, assign (.Subscript o i pos) X.env v = (do
      let ov ← holding [v] (eval o X.env)
      let iv ← holding [v, ov] (eval i X.env)
      standAt pos
      holding [v, ov, iv] (setItem ov iv v)
      release [v, ov, iv] []) := by intro _; rfl) : PG X (.Subscript o i pos) (gSub to ti t) := by
  intro pins s σ H v u Q I r h
  rw [ha]
  refine wpAny_bind (wpAny_holding (thn (ho pins s σ H _ I h) fun ov s1 ⟨x, H1, I1, r1, q1⟩ => ?_))
  refine wpAny_bind (wpAny_holding (thn (hi pins s1 σ H1 _ I1 q1) fun iv s2 ⟨y, H2, I2, r2, q2⟩ => ?_))
  refine wpAny_bind (wpAny_standAt (wpAny_bind (wpAny_holding (thn (hs pins s2 σ H2 x y v ov iv u _ I2 r1 r2 r q2) fun _ s3 ⟨H3, I3, q3⟩ => ?_))))
  exact wpAny_release ⟨σ, H3, I3, q3⟩
def tAsg (te : TE) (g : TG) : TS := fun D σ H => te σ H fun x H1 => g x σ H1 D.nx
theorem ps_asg {tg e : Expr} {te : TE} {g : TG} (he : PE X e te) (hg : PG X tg g) (hs : swapsWithSole [tg] e pos.line X.env = pure false := by rfl) (hw : swappedStores [tg] e X.env = pure none := by rfl)
    (h1 : (assignEach [tg] X.env).map (·.2) = [assign tg X.env] := by rfl) : PS X (.Assign [tg] e pos) (tAsg te g) := by
  intro pins s σ H D I h
  refine wpAny_Assign_stores (thn (he pins s σ H _ I h) fun v s1 ⟨x, H1, I1, r1, q1⟩ => ?_) hs hw
  rw [h1]
  exact thn (hg pins s1 σ H1 x v _ I1 r1 q1) fun _ s2 q => q
theorem ps_set {i : Nat} {x : Str} {e : Expr} {te : TE} {pos' : Pos} (hN : X.N.Nodup) (hi : X.N[i]? = some x) (hx : Loc X.env.scope x) (he : PE X e te) (hs : swapsWith e (some (.Name x pos')) pos.line X.env = pure false := by rfl) (hf : X.fn x = true ∨ X.env.scope.names.lookup x = some .local := by first | exact .inl rfl | exact .inr rfl | assumption) :
    PS X (.Assign [.Name x pos'] e pos) (tAsg te (gName i)) := by
  intro pins s σ H D I h
  refine wpAny_Assign_Name (thn (he pins s σ H _ I h) fun v s1 ⟨y, H1, I1, r1, q1⟩ => ?_) hs
  exact store_ok I1 hN hi hx r1 (fun s2 I2 => ⟨_, H1, I2, q1⟩) hf
end
section
variable {X : Cx} {pos : Pos}
def tWhile (c : TT) (tb : TS) : TS := fun D σ H => ∃ W : Nat → St → Hp → Prop, (∃ m, W m σ H) ∧ ∀ m σ H, W m σ H →
  c σ H fun b H1 => if b = true then ∃ N : St → Hp → Prop, (∀ σ' H', N σ' H' → ∃ m', m' < m ∧ W m' σ' H') ∧ tb { D with nx := N, ct := N, bk := D.nx } σ H1 else D.nx σ H1
theorem ps_while {c : Expr} {body : List Stmt} {tc : TT} {tb : TS} (hp : PassesOwn (model X.prog X.w) X.A X.env X.xe) (hc : PT X c tc) (hb : PSs X body tb) : PS X (.While c body [] pos) (tWhile tc tb) := by
  intro pins s σ H D I h
  obtain ⟨W, ⟨m0, w0⟩, turn⟩ := h
  refine wpAny_While (codeAny_whileLoop (fun n s' => ∃ σ' H', Inv X pins σ' H' s' ∧ W n σ' H') ?_ m0 ⟨σ, H, I, w0⟩)
  rintro n s1 ⟨σ1, H1, I1, w1⟩
  refine wpAny_passesOwn hp (thn (hc pins s1 σ1 H1 _ I1 (turn n σ1 H1 w1)) fun b s2 ⟨H2, I2, q2⟩ => ?_)
  cases b with
  | true =>
    obtain ⟨N, hN, q2⟩ := q2
    rw [if_pos rfl]
    refine wpAny_passesOwn hp (thn (hb pins s2 σ1 H2 _ I2 q2) fun f s3 q3 => ?_)
    cases f with
    | next =>
      obtain ⟨σ3, H3, I3, n3⟩ := q3
      obtain ⟨m', hm, w3⟩ := hN σ3 H3 n3
      exact ⟨m', hm, σ3, H3, I3, w3⟩
    | cont =>
      obtain ⟨σ3, H3, I3, n3⟩ := q3
      obtain ⟨m', hm, w3⟩ := hN σ3 H3 n3
      exact ⟨m', hm, σ3, H3, I3, w3⟩
    | brk => exact q3
    | ret v => exact q3
  | false =>
    rw [if_neg Bool.false_ne_true]
    exact wpAny_execs_nil ⟨σ1, H2, I2, q2⟩
end
structure It where
  go : Nat → Hp → Prop
  yld : Nat → Hp → V → Hp → Prop
  stop : Nat → Hp → Prop
def FpOk (X : Cx) (pins : List (Addr × Obj)) (H : Hp) (b : Addr) : Prop :=
  H b = none ∧ b ≠ X.env.locals ∧ b ∉ X.fs ∧ (b ∈ X.ex ∨ X.s₀.heap.objs.size ≤ b) ∧ (∀ x c, X.env.cells.lookup x = some c → c ≠ b) ∧ ∀ p ∈ X.pn ++ pins, p.1 ≠ b
theorem Inv.fpOk {X : Cx} {pins : List (Addr × Obj)} {σ : St} {H H' : Hp} {s : Shared} {b : Addr} (I : Inv X pins σ H s) (hb : s.heap.objs.size ≤ b) (hn : H' b = none) : FpOk X pins H' b := by
  refine ⟨hn, Nat.ne_of_gt (Nat.lt_of_lt_of_le I.lt hb), I.nofs hb, .inr (Nat.le_trans I.sz hb), fun x c e z => ?_, fun p hp z => ?_⟩
  · obtain ⟨v, q⟩ := I.cell x c e
    exact absurd (Nat.lt_of_lt_of_le q.lt (by rw [z]; exact hb)) (Nat.lt_irrefl _)
  · exact absurd (Nat.lt_of_lt_of_le (Heap.lt_size (I.pin p hp).1) (by rw [z]; exact hb)) (Nat.lt_irrefl _)
structure Turn (P : Program) (w : World) (K : PySem.W.Frag) (tg : Expr) (J : It) (fp : List Addr) (it : Addr) (tn : Nat → Heap → Prop) : Prop where
  mem : it ∈ fp
  obj : ∀ i h, tn i h → ∀ b ∈ fp, ∃ o, h.get? b = some o ∧ ∀ v, o.data ≠ .cell v
  keep : ∀ i h h', tn i h → (∀ b ∈ fp, ∀ o, h.get? b = some o → h'.get? b = some o) → tn i h'
  item : ∀ (X : Cx), X.prog = P → X.w = w → X.K = K → X.calm = true → ∀ (i : Nat) (pins : List (Addr × Obj)) (s : Shared) (σ : St) (H : Hp) (E : Value → Shared → Prop), Inv X pins σ H s → (∀ b ∈ fp, FpOk X pins H b) → tn i s.heap → J.go i H →
    wpAny (model P w) X.A (pyNext (.ref it)) (fun r s1 => ∃ u, r = some u ∧
      wpAny (model P w) X.A (letOwnedTupleGo tg (.ref it) u) (fun _ s2 => ∃ x H', Inv X pins σ H' s2 ∧ RelV x u ∧ J.yld i H x H' ∧ tn (i + 1) s2.heap ∧ ∀ b ∈ fp, H' b = none) E s1) E s
  done : ∀ (X : Cx), X.prog = P → X.w = w → X.K = K → X.calm = true → ∀ (i : Nat) (pins : List (Addr × Obj)) (s : Shared) (σ : St) (H : Hp) (E : Value → Shared → Prop), Inv X pins σ H s → (∀ b ∈ fp, FpOk X pins H b) → tn i s.heap → J.stop i H →
    wpAny (model P w) X.A (pyNext (.ref it)) (fun r s1 => r = none ∧ Inv X pins σ H s1) E s
  self : ∀ (A : Around) (i : Nat) (s : Shared) (Q : Value → Shared → Prop) (E : Value → Shared → Prop), tn i s.heap → Q (.ref it) s → wpAny (model P w) A (pyIter (.ref it)) Q E s
abbrev TI := St → Hp → (It → Hp → Prop) → Prop
def PIE (X : Cx) (pins : List (Addr × Obj)) (σ : St) (tg : Expr) (R : It → Hp → Prop) (itv : Value) (s2 : Shared) : Prop :=
  ∃ (it : Addr) (fp : List Addr) (tn : Nat → Heap → Prop) (J : It) (H' : Hp), itv = .ref it ∧ Inv X pins σ H' s2 ∧ Turn X.prog X.w X.K tg J fp it tn ∧ tn 0 s2.heap ∧ (∀ b ∈ fp, FpOk X pins H' b) ∧ R J H'
def PI (X : Cx) (tg iter : Expr) (wi : TI) : Prop :=
  ∀ (pins : List (Addr × Obj)) (s : Shared) (σ : St) (H : Hp) (R : It → Hp → Prop), Inv X pins σ H s → wi σ H R →
    wpAny (model X.prog X.w) X.A (eval iter X.env) (fun v s1 => wpAny (model X.prog X.w) X.A (pyIter v) (PIE X pins σ tg R) X.xe s1) X.xe s
theorem go_of {M : Model} {A : Around} {E : Value → Shared → Prop} {s : Shared} {tg : Expr} {it : Addr} {u : Value} {o : Obj} {n : String} {vs : Array Value} {Q : Unit → Shared → Prop} (ho : s.heap.get? it = some o) (hc : o.cls = .type n) (hd : o.data = .fields vs)
    (hn : ["enumerate", "zip", "dict_itemiterator", "dict_reverseitemiterator", "odict_iterator", "itertools.zip_longest", "itertools.pairwise"].contains n = false) (hQ : Q () s) : wpAny M A (letOwnedTupleGo tg (.ref it) u) Q E s := by
  unfold letOwnedTupleGo
  cases tg <;> first
    | exact wpAny_pure hQ
    | (cases u <;> first
        | exact wpAny_pure hQ
        | (refine wpAny_bind (wpAny_load ho ?_)
           rw [hc, hd]
           show wpAny M A (if (["enumerate", "zip", "dict_itemiterator", "dict_reverseitemiterator", "odict_iterator", "itertools.zip_longest", "itertools.pairwise"].contains n && vs[0]? == some (rawInt _)) = true then _ else _) Q E s
           rw [if_neg (by intro h; rw [hn, Bool.false_and] at h; cases h)]
           exact wpAny_pure hQ))
def Itl (K : PySem.W.Frag) (a : Addr) : It :=
  ⟨fun i H => ∃ xs x, SqL K H a xs ∧ xs[i]? = some x, fun i H x H' => H' = H ∧ ∀ xs, SqL K H a xs → xs[i]? = some x, fun i H => ∃ xs, SqL K H a xs ∧ xs.length ≤ i⟩
def Itt (K : PySem.W.Frag) (a : Addr) : It :=
  ⟨fun i H => ∃ xs x, SqT K H a xs ∧ xs[i]? = some x, fun i H x H' => H' = H ∧ ∀ xs, SqT K H a xs → xs[i]? = some x, fun i H => ∃ xs, SqT K H a xs ∧ xs.length ≤ i⟩
def Itr (lo : Int) (n : Nat) : It := ⟨fun i _ => i < n, fun i H x H' => H' = H ∧ x = .int (lo + i), fun i _ => n ≤ i⟩
theorem turn_list {P : Program} {w : World} {K : PySem.W.Frag} {tg : Expr} (a it : Addr) : Turn P w K tg (Itl K a) [it] it (fun i h => h.IsListIter it a i) where
  mem := by simp
  obj := fun i h st b hb => by
    have e : b = it := by simpa using hb
    subst e
    obtain ⟨o, e, c, d⟩ := st
    exact ⟨o, e, fun v z => by rw [d] at z; cases z⟩
  keep := fun i h h' st k => st.at fun o e => k it (by simp) o e
  item := by
    intro X hP hw hK hc i pins s σ H E I hf st hg
    subst hP hw hK
    obtain ⟨xs, x, hq, hx⟩ := hg
    obtain ⟨its, rv, p, hz⟩ := I.list hq
    obtain ⟨u, hu, ru⟩ := rv.get hx
    obtain ⟨f0, f1, f2, f3, f4, f5⟩ := hf it (by simp)
    refine wpAny_pyNext_list_item st p.isList (x := u) (by simpa using hu) fun h' st' sb => ?_
    have I1 : Inv X pins σ H { s with heap := h' } := I.turned (t' := s.toks) (fun b o hb e => (sb.2 b hb).trans e) f0 f1 f3 f4 f5
    obtain ⟨o, e, c, d⟩ := id st'
    exact ⟨u, rfl, go_of (s := { s with heap := h' }) e c d (by decide) ⟨x, H, I1, ru, ⟨rfl, fun ys hy => by rw [I.list_inj hy hq]; exact hx⟩, st', fun b hb => (hf b hb).1⟩⟩
  done := by
    intro X hP hw hK hc i pins s σ H E I hf st hg
    subst hP hw hK
    obtain ⟨xs, hq, hx⟩ := hg
    obtain ⟨its, rv, p, hz⟩ := I.list hq
    obtain ⟨f0, f1, f2, f3, f4, f5⟩ := hf it (by simp)
    have hl := rv.length
    exact wpAny_pyNext_list_end (I.ok.hd hc) st p.isList (by simp; omega) fun h' eb => ⟨rfl, I.turned (t' := s.toks) (fun b o hb e => eb b o hb e) f0 f1 f3 f4 f5⟩
  self := fun _ _ _ _ _ st h => wpAny_pyIter_listiter st h
theorem turn_tuple {P : Program} {w : World} {K : PySem.W.Frag} {tg : Expr} (a it : Addr) : Turn P w K tg (Itt K a) [it] it (fun i h => h.IsTupleIter it a i) where
  mem := by simp
  obj := fun i h st b hb => by
    have e : b = it := by simpa using hb
    subst e
    obtain ⟨o, e, c, d⟩ := st
    exact ⟨o, e, fun v z => by rw [d] at z; cases z⟩
  keep := fun i h h' st k => st.at fun o e => k it (by simp) o e
  item := by
    intro X hP hw hK hc i pins s σ H E I hf st hg
    subst hP hw hK
    obtain ⟨xs, x, hq, hx⟩ := hg
    obtain ⟨its, rv, p, hz⟩ := I.tuple hq
    obtain ⟨u, hu, ru⟩ := rv.get hx
    obtain ⟨f0, f1, f2, f3, f4, f5⟩ := hf it (by simp)
    refine wpAny_pyNext_tuple_item st (show s.heap.IsTuple a its.toArray from p) (x := u) (by simpa using hu) fun h' st' sb => ?_
    have I1 : Inv X pins σ H { s with heap := h' } := I.turned (t' := s.toks) (fun b o hb e => (sb.2 b hb).trans e) f0 f1 f3 f4 f5
    obtain ⟨o, e, c, d⟩ := id st'
    exact ⟨u, rfl, go_of (s := { s with heap := h' }) e c d (by decide) ⟨x, H, I1, ru, ⟨rfl, fun ys hy => by rw [I.tuple_inj hy hq]; exact hx⟩, st', fun b hb => (hf b hb).1⟩⟩
  done := by
    intro X hP hw hK hc i pins s σ H E I hf st hg
    subst hP hw hK
    obtain ⟨xs, hq, hx⟩ := hg
    obtain ⟨its, rv, p, hz⟩ := I.tuple hq
    obtain ⟨f0, f1, f2, f3, f4, f5⟩ := hf it (by simp)
    have hl := rv.length
    exact wpAny_pyNext_tuple_end (I.ok.hd hc) st (show s.heap.IsTuple a its.toArray from p) (by simp; omega) fun h' eb => ⟨rfl, I.turned (t' := s.toks) (fun b o hb e => eb b o hb e) f0 f1 f3 f4 f5⟩
  self := fun _ _ _ _ _ st h => wpAny_pyIter_tupleiter st h
theorem turn_range {P : Program} {w : World} {K : PySem.W.Frag} {tg : Expr} (it : Addr) (lo : Int) (n : Nat) : Turn P w K tg (Itr lo n) [it] it (fun i h => IsRangeIter h it (lo + (i : Nat) * 1) ((n : Int) - (i : Nat)) 1) where
  mem := by simp
  obj := fun i h st b hb => by
    have e : b = it := by simpa using hb
    subst e
    exact ⟨_, st, fun v z => by
      have z' : Data.fields _ = Data.cell v := z
      cases z'⟩
  keep := fun i h h' st k => k it (by simp) _ st
  item := by
    intro X hP hw hK hc i pins s σ H E I hf st hg
    subst hP hw hK
    obtain ⟨f0, f1, f2, f3, f4, f5⟩ := hf it (by simp)
    have W := Walks.range (prog := X.prog) (w := X.w) (I.ok.hd hc) it lo 1 n
    refine W.item i s _ _ hg st fun v h' tk hv st' kk => ?_
    obtain ⟨t, rfl⟩ := hv
    have I1 : Inv X pins σ H { s with heap := h', toks := tk } := I.turned (fun b o hb e => kk b o (by simpa using hb) e) f0 f1 f3 f4 f5
    refine ⟨_, rfl, go_of (s := { s with heap := h', toks := tk }) (n := "range_iterator") st' rfl rfl (by decide) ⟨.int (lo + i), H, I1, ⟨t, ?_⟩, ⟨rfl, rfl⟩, st', fun b hb => (hf b hb).1⟩⟩
    rw [Int.mul_one]
  done := by
    intro X hP hw hK hc i pins s σ H E I hf st hg
    subst hP hw hK
    obtain ⟨f0, f1, f2, f3, f4, f5⟩ := hf it (by simp)
    exact wpAny_pyNext_range_end (I.ok.hd hc) st (by have : n ≤ i := hg; omega) fun h' eb => ⟨rfl, I.turned (t' := s.toks) (fun b o hb e => eb b o hb e) f0 f1 f3 f4 f5⟩
  self := fun _ _ _ _ _ st h => wpAny_pyIter_rangeiter st h
end L2
namespace L2
open PySem PySem.Spec PyProof.Rows
section
variable {X : Cx} {tg : Expr}
theorem range_it {pins : List (Addr × Obj)} {σ : St} {H : Hp} {s : Shared} {R : It → Hp → Prop} {E : Value → Shared → Prop} {lo hi : Int} {t u v : Tok} {tk : Nat} (I : Inv X pins σ H s) (h1 : -(2 ^ 62) ≤ lo) (h2 : lo < 2 ^ 62) (h3 : -(2 ^ 62) ≤ hi) (h4 : hi < 2 ^ 62)
    (q : R (Itr lo (hi - lo).toNat) H) : wpAny (model X.prog X.w) X.A (pyIter (.ref s.heap.objs.size)) (PIE X pins σ tg R) E { s with heap := s.heap.push { cls := .type "range", data := .fields #[.int lo t, .int hi u, .int 1 v] }, toks := tk } := by
  refine wpAny_pyIter_range (IsRange.new ..) (small_one h1 h2 h3 h4) ?_
  have I1 : Inv X pins σ H { s with heap := s.heap.push { cls := .type "range", data := .fields #[.int lo t, .int hi u, .int 1 v] }, toks := tk } := I.kept fun b o e => Heap.get?_push_of_some _ e
  refine ⟨(s.heap.push { cls := .type "range", data := .fields #[.int lo t, .int hi u, .int 1 v] }).objs.size, [(s.heap.push { cls := .type "range", data := .fields #[.int lo t, .int hi u, .int 1 v] }).objs.size], _, _, H, rfl,
    I1.kept (t' := tk) fun b o e => Heap.get?_push_of_some _ e, turn_range _ lo (hi - lo).toNat, ?_, fun b hb => ?_, q⟩
  · have e1 : lo + ((0 : Nat) : Int) * 1 = lo := by simp
    have e2 : (((hi - lo).toNat : Nat) : Int) - ((0 : Nat) : Int) = Builtin.Range.rangeSize lo hi 1 := by rw [rangeSize_one]; split <;> omega
    show IsRangeIter _ _ (lo + ((0 : Nat) : Int) * 1) ((((hi - lo).toNat : Nat) : Int) - ((0 : Nat) : Int)) 1
    rw [e1, e2]
    exact Heap.get?_push_size _ rfl
  · have e : b = (s.heap.push { cls := .type "range", data := .fields #[.int lo t, .int hi u, .int 1 v] }).objs.size := by simpa using hb
    subst e
    exact I1.fpOk (Nat.le_refl _) (I1.hok.fresh (Nat.le_refl _))
def iRng1 (ta : TA) : TI := fun σ H R => ta σ H fun vs H1 => ∃ j : Int, vs = [.int j] ∧ -(2 ^ 62) ≤ j ∧ j < 2 ^ 62 ∧ R (Itr 0 j.toNat) H1
def iRng2 (ta : TA) : TI := fun σ H R => ta σ H fun vs H1 => ∃ i j : Int, vs = [.int i, .int j] ∧ (-(2 ^ 62) ≤ i ∧ i < 2 ^ 62 ∧ -(2 ^ 62) ≤ j ∧ j < 2 ^ 62) ∧ R (Itr i (j - i).toNat) H1
theorem pi_range1 {a : Expr} {ta : TA} {p pos : Pos} (hg : Gl X "range") (hm : X.mg "range" = none) (ha : PA X [a] ta) (hs : starEach [a] X.env = [(false, eval a X.env)] := by rfl) : PI X tg (.Call (.Name "range" p) [a] [] pos) (iRng1 ta) := by
  intro pins s σ H R I h
  refine Call_ (ld_blt I hg hm boot_range (PyProof.Rows.callWith_type1 (thn (ha pos pins s σ H _ I h) fun us s1 ⟨vs, H1, I1, r1, q1⟩ => ?_) hs rfl))
  obtain ⟨j, e, q1, q2, q⟩ := q1
  subst e
  cases r1 with
  | cons r rr =>
    cases rr
    obtain ⟨t, rfl⟩ := r
    exact call_range_1 (range_it I1 (by omega) (by omega) q1 q2 (by simpa using q))
theorem pi_range2 {a b : Expr} {ta : TA} {p pos : Pos} (hg : Gl X "range") (hm : X.mg "range" = none) (ha : PA X [a, b] ta) (hs : starEach [a, b] X.env = [(false, eval a X.env), (false, eval b X.env)] := by rfl) (hs2 : starEach [b] X.env = [(false, eval b X.env)] := by rfl) :
    PI X tg (.Call (.Name "range" p) [a, b] [] pos) (iRng2 ta) := by
  intro pins s σ H R I h
  refine Call_ (ld_blt I hg hm boot_range (PyProof.Rows.callWith_type1 (thn (ha pos pins s σ H _ I h) fun us s1 ⟨vs, H1, I1, r1, q1⟩ => ?_) (by rw [hs, hs2]) (by rw [hs2]; rfl)))
  obtain ⟨i, j, e, ⟨q1, q2, q3, q4⟩, q⟩ := q1
  subst e
  cases r1 with
  | cons r rr =>
    cases rr with
    | cons r' rr =>
      cases rr
      obtain ⟨t, rfl⟩ := r
      obtain ⟨t', rfl⟩ := r'
      exact call_range_2 (range_it I1 q1 q2 q3 q4 q)
def tFor (wi : TI) (g : TG) (tb : TS) : TS := fun D σ H => wi σ H fun J H1 => ∃ W : Nat → Nat → St → Hp → Prop, (∃ m, W 0 m σ H1) ∧ ∀ i m σ H, W i m σ H →
  (J.stop i H ∧ D.nx σ H) ∨ (J.go i H ∧ ∃ N : St → Hp → Prop, (∀ σ' H', N σ' H' → ∃ m', m' < m ∧ W (i + 1) m' σ' H') ∧ ∀ x H', J.yld i H x H' → g x σ H' fun σ2 H2 => tb { D with nx := N, ct := N, bk := D.nx } σ2 H2)
def pinsAt (fp : List Addr) (h : Heap) : List (Addr × Obj) := fp.filterMap fun b => (h.get? b).map fun o => (b, o)
theorem mem_pinsAt {fp : List Addr} {h : Heap} {b : Addr} {o : Obj} (hb : b ∈ fp) (e : h.get? b = some o) : (b, o) ∈ pinsAt fp h := List.mem_filterMap.mpr ⟨b, hb, by rw [e]; rfl⟩
theorem of_pinsAt {fp : List Addr} {h : Heap} {p : Addr × Obj} (hp : p ∈ pinsAt fp h) : p.1 ∈ fp ∧ h.get? p.1 = some p.2 := by
  obtain ⟨b, hb, e⟩ := List.mem_filterMap.mp hp
  cases q : h.get? b with
  | none => rw [q] at e; cases e
  | some o =>
    rw [q] at e
    have e' : (b, o) = p := Option.some.inj e
    subst e'
    exact ⟨hb, q⟩
theorem Inv.pinned {pins : List (Addr × Obj)} {σ : St} {H : Hp} {s : Shared} {fp : List Addr} (I : Inv X pins σ H s) (hf : ∀ b ∈ fp, FpOk X pins H b) (ho : ∀ b ∈ fp, ∃ o, s.heap.get? b = some o ∧ ∀ v, o.data ≠ .cell v) : Inv X (pins ++ pinsAt fp s.heap) σ H s :=
  I.pins_of fun p hp => (List.mem_append.mp hp).elim (fun z => I.pin p (List.mem_append_right _ z)) fun z => by
    obtain ⟨hb, e⟩ := of_pinsAt z
    obtain ⟨f0, f1, f2, _⟩ := hf p.1 hb
    obtain ⟨o, e', d⟩ := ho p.1 hb
    rw [e] at e'; cases e'
    exact ⟨e, f0, f1, f2, d⟩
theorem Inv.unpinned {pins pl : List (Addr × Obj)} {σ : St} {H : Hp} {s : Shared} (I : Inv X (pins ++ pl) σ H s) : Inv X pins σ H s := I.pins_of fun p hp => I.pin p (List.mem_append_right _ (List.mem_append_left _ hp))
theorem ps_for {iter : Expr} {body : List Stmt} {wi : TI} {g : TG} {tb : TS} {pos : Pos} (hp : PassesOwn (model X.prog X.w) X.A X.env X.xe) (hc : X.calm = true) (hi : PI X tg iter wi) (hg : PG X tg g) (hb : PSs X body tb)
    (hs : ∀ x, foldedSetIterable iter X.env x = pure x := by intro _; rfl) : PS X (.For tg iter body [] pos) (tFor wi g tb) := by
  intro pins s σ H D I h
  refine wpAny_For (thn (hi pins s σ H _ I h) fun v s1 h1 => thn h1 fun itv s2 h2 => ?_) hs
  obtain ⟨it, fp, tn, J, H2, e, I2, T, st2, f2, W, ⟨m0, w0⟩, turn⟩ := h2
  subst e
  have stat : ∀ {H' : Hp}, (∀ b ∈ fp, H' b = none) → ∀ b ∈ fp, FpOk X pins H' b := fun hn b hb => ⟨hn b hb, (f2 b hb).2⟩
  refine codeAny_forLoop_any (fun n s' => ∃ i σ' H', Inv X pins σ' H' s' ∧ tn i s'.heap ∧ (∀ b ∈ fp, H' b = none) ∧ W i n σ' H') ?_ m0 ⟨0, σ, H2, I2, st2, fun b hb => (f2 b hb).1, w0⟩
  rintro n s3 ⟨i, σ3, H3, I3, st3, fr3, w3⟩
  rcases turn i n σ3 H3 w3 with ⟨stop, qn⟩ | ⟨go, N, hN, step⟩
  · refine wpAny_passesOwn hp (thn (T.done X rfl rfl rfl hc i pins s3 σ3 H3 X.xe I3 (stat fr3) st3 stop) fun r s4 ⟨hr, I4⟩ => ?_)
    subst hr
    exact wpAny_execs_nil ⟨σ3, H3, I4, qn⟩
  · refine wpAny_passesOwn hp (thn (T.item X rfl rfl rfl hc i pins s3 σ3 H3 X.xe I3 (stat fr3) st3 go) fun r s4 ⟨u, hr, h4⟩ => ?_)
    subst hr
    refine wpAny_passesOwn hp (thn h4 fun _ s5 ⟨x, H5, I5, r5, y5, st5, fr5⟩ => ?_)
    have I5' := I5.pinned (stat fr5) (T.obj _ _ st5)
    refine wpAny_passesOwn hp (thn (hg _ s5 σ3 H5 x u _ I5' r5 (step x H5 y5)) fun _ s6 ⟨σ6, H6, I6, q6⟩ => ?_)
    refine wpAny_passesOwn hp (thn (hb _ s6 σ6 H6 _ I6 q6) fun f s7 q7 => ?_)
    have again : ∀ {σ7 : St} {H7 : Hp}, Inv X (pins ++ pinsAt fp s5.heap) σ7 H7 s7 → N σ7 H7 → ∃ m, m < n ∧ ∃ i σ' H', Inv X pins σ' H' s7 ∧ tn i s7.heap ∧ (∀ b ∈ fp, H' b = none) ∧ W i m σ' H' := fun {σ7 H7} I7 n7 => by
      obtain ⟨m', hm, w7⟩ := hN σ7 H7 n7
      refine ⟨m', hm, i + 1, σ7, H7, I7.unpinned, T.keep _ _ _ st5 fun b hb o e => (I7.pin (b, o) (List.mem_append_right _ (List.mem_append_right _ (mem_pinsAt hb e)))).1, fun b hb => ?_, w7⟩
      obtain ⟨o, e, d⟩ := T.obj _ _ st5 b hb
      exact (I7.pin (b, o) (List.mem_append_right _ (List.mem_append_right _ (mem_pinsAt hb e)))).2.1
    cases f with
    | next => obtain ⟨σ7, H7, I7, n7⟩ := q7; exact again I7 n7
    | cont => obtain ⟨σ7, H7, I7, n7⟩ := q7; exact again I7 n7
    | brk => obtain ⟨σ7, H7, I7, q7⟩ := q7; exact ⟨σ7, H7, I7.unpinned, q7⟩
    | ret v => obtain ⟨x7, σ7, H7, I7, r7, q7⟩ := q7; exact ⟨x7, σ7, H7, I7.unpinned, r7, q7⟩
end
theorem for_list {K : PySem.W.Frag} {a : Addr} {xs : List V} {g : TG} {tb : TS} {D : Ends} {σ : St} {H : Hp} (Pv : Nat → St → Hp → Prop) (h0 : Pv 0 σ H) (hl : ∀ i σ H, i ≤ xs.length → Pv i σ H → SqL K H a xs)
    (hs : ∀ i x σ H, xs[i]? = some x → Pv i σ H → g x σ H fun σ2 H2 => tb { D with nx := Pv (i + 1), ct := Pv (i + 1), bk := D.nx } σ2 H2) (hd : ∀ σ H, Pv xs.length σ H → D.nx σ H) :
    ∃ W : Nat → Nat → St → Hp → Prop, (∃ m, W 0 m σ H) ∧ ∀ i m σ H, W i m σ H →
      ((Itl K a).stop i H ∧ D.nx σ H) ∨ ((Itl K a).go i H ∧ ∃ N : St → Hp → Prop, (∀ σ' H', N σ' H' → ∃ m', m' < m ∧ W (i + 1) m' σ' H') ∧ ∀ x H', (Itl K a).yld i H x H' → g x σ H' fun σ2 H2 => tb { D with nx := N, ct := N, bk := D.nx } σ2 H2) := by
  refine ⟨fun i m σ H => m = xs.length - i ∧ i ≤ xs.length ∧ Pv i σ H, ⟨xs.length, by simp, Nat.zero_le _, h0⟩, ?_⟩
  rintro i m σ H ⟨rfl, hi, p⟩
  have q := hl i σ H hi p
  by_cases hlt : i < xs.length
  · refine .inr ⟨⟨xs, xs[i], q, by simp [hlt]⟩, Pv (i + 1), fun σ' H' p' => ⟨xs.length - (i + 1), by omega, rfl, hlt, p'⟩, fun x H' y => ?_⟩
    obtain ⟨e, y⟩ := y
    subst e
    exact hs i x σ _ (y xs q) p
  · have e : i = xs.length := by omega
    subst e
    exact .inl ⟨⟨xs, q, Nat.le_refl _⟩, hd σ H p⟩
theorem for_range {lo : Int} {n : Nat} {g : TG} {tb : TS} {D : Ends} {σ : St} {H : Hp} (Pv : Nat → St → Hp → Prop) (h0 : Pv 0 σ H)
    (hs : ∀ i σ H, i < n → Pv i σ H → g (.int (lo + i)) σ H fun σ2 H2 => tb { D with nx := Pv (i + 1), ct := Pv (i + 1), bk := D.nx } σ2 H2) (hd : ∀ σ H, Pv n σ H → D.nx σ H) :
    ∃ W : Nat → Nat → St → Hp → Prop, (∃ m, W 0 m σ H) ∧ ∀ i m σ H, W i m σ H →
      ((Itr lo n).stop i H ∧ D.nx σ H) ∨ ((Itr lo n).go i H ∧ ∃ N : St → Hp → Prop, (∀ σ' H', N σ' H' → ∃ m', m' < m ∧ W (i + 1) m' σ' H') ∧ ∀ x H', (Itr lo n).yld i H x H' → g x σ H' fun σ2 H2 => tb { D with nx := N, ct := N, bk := D.nx } σ2 H2) := by
  refine ⟨fun i m σ H => m = n - i ∧ i ≤ n ∧ Pv i σ H, ⟨n, by simp, Nat.zero_le _, h0⟩, ?_⟩
  rintro i m σ H ⟨rfl, hi, p⟩
  by_cases hlt : i < n
  · refine .inr ⟨hlt, Pv (i + 1), fun σ' H' p' => ⟨n - (i + 1), by omega, rfl, hlt, p'⟩, fun x H' y => ?_⟩
    obtain ⟨e, y⟩ := y
    subst e y
    exact hs i σ _ hlt p
  · have e : i = n := by omega
    subst e
    exact .inl ⟨Nat.le_refl _, hd σ H p⟩
end L2
namespace L2
open PySem PySem.Spec PyProof.Rows
abbrev R2 := V → V → Hp → VK → Prop
def OpR (X : Cx) (f : Value → Value → Sem Value) (r : R2) : Prop :=
  ∀ (pins : List (Addr × Obj)) (s : Shared) (σ : St) (H : Hp) (x y : V) (v u : Value) (Q : VK), Inv X pins σ H s → RelV x v → RelV y u → r x y H Q →
    wpAny (model X.prog X.w) X.A (f v u) (EP X pins σ Q) X.xe s
def UnR (X : Cx) (f : Value → Sem Value) (r : V → Hp → VK → Prop) : Prop :=
  ∀ (pins : List (Addr × Obj)) (s : Shared) (σ : St) (H : Hp) (x : V) (v : Value) (Q : VK), Inv X pins σ H s → RelV x v → r x H Q →
    wpAny (model X.prog X.w) X.A (f v) (EP X pins σ Q) X.xe s
def CallR (X : Cx) (f : Value) (r : List V → Hp → VK → Prop) : Prop :=
  ∀ (pins : List (Addr × Obj)) (s : Shared) (σ : St) (H : Hp) (xs : List V) (us : List Value) (Q : VK), Inv X pins σ H s → Vals xs us → r xs H Q →
    wpAny (model X.prog X.w) X.A (call f us) (EP X pins σ Q) X.xe s
def TruR (X : Cx) (r : V → Hp → (Bool → Hp → Prop) → Prop) : Prop :=
  ∀ (pins : List (Addr × Obj)) (s : Shared) (σ : St) (H : Hp) (x : V) (v : Value) (Q : Bool → Hp → Prop), Inv X pins σ H s → RelV x v → r x H Q →
    wpAny (model X.prog X.w) X.A (truthy v) (TP X pins σ Q) X.xe s
def tOp (r : R2) (ta tb : TE) : TE := fun σ H Q => ta σ H fun x H1 => tb σ H1 fun y H2 => r x y H2 Q
def tUn (r : V → Hp → VK → Prop) (ta : TE) : TE := fun σ H Q => ta σ H fun x H1 => r x H1 Q
def rI (C : Int → Int → Prop) (g : Int → Int → V) : R2 := fun x y H Q => ∃ i j, x = .int i ∧ y = .int j ∧ C i j ∧ Q (g i j) H
def rI0 (g : Int → Int → V) : R2 := fun x y H Q => ∃ i j, x = .int i ∧ y = .int j ∧ Q (g i j) H
def rU (g : Int → V) : V → Hp → VK → Prop := fun x H Q => ∃ i, x = .int i ∧ Q (g i) H
section
variable {X : Cx} {a b c : Expr} {ta tb tc : TE} {pos : Pos}
theorem binT (ha : PE X a ta) (hb : PE X b tb) {pins : List (Addr × Obj)} {s : Shared} {σ : St} {H : Hp} {R : V → V → Hp → Prop} (I : Inv X pins σ H s)
    (h : ta σ H fun x H1 => tb σ H1 fun y H2 => R x y H2) {Q : Value → Shared → Prop} {f : Value → Value → Sem Value}
    (hf : ∀ v u s2 x y H2, Inv X pins σ H2 s2 → RelV x v → RelV y u → R x y H2 → wpAny (model X.prog X.w) X.A (f v u) Q X.xe s2) :
    wpAny (model X.prog X.w) X.A (eval a X.env) (fun v s₁ => wpAny (model X.prog X.w) X.A (eval b X.env) (fun u s₂ => wpAny (model X.prog X.w) X.A (f v u) Q X.xe s₂) X.xe s₁) X.xe s := by
  refine thn (ha pins s σ H _ I h) fun v s1 ⟨x, H1, I1, r1, q1⟩ => ?_
  refine thn (hb pins s1 σ H1 _ I1 q1) fun u s2 ⟨y, H2, I2, r2, q2⟩ => ?_
  exact hf v u s2 x y H2 I2 r1 r2 q2
theorem pe_op {op : Operator} {r : R2} (ho : OpR X (binaryOp op) r) (ha : PE X a ta) (hb : PE X b tb) : PE X (.BinOp a op b pos) (tOp r ta tb) := by
  intro pins s σ H Q I h
  exact wpAny_BinOp (binT ha hb I h fun v u s2 x y H2 I2 rx ry q => ho pins s2 σ H2 x y v u Q I2 rx ry q)
theorem pe_un {op : UnaryOp} {r : V → Hp → VK → Prop} (ho : UnR X (unaryOp op) r) (ha : PE X a ta) : PE X (.UnaryOp op a pos) (tUn r ta) := by
  intro pins s σ H Q I h
  exact UnaryOp_ (thn (ha pins s σ H _ I h) fun v s1 ⟨x, H1, I1, r1, q1⟩ => ho pins s1 σ H1 x v Q I1 r1 q1)
theorem opI {f : Value → Value → Sem Value} {C : Int → Int → Prop} {g : Int → Int → Int}
    (rule : ∀ (i j : Int) (t u : Tok) (s : Shared) (Q : Value → Shared → Prop) (E : Value → Shared → Prop), C i j → Q (.int (g i j) s.toks) { s with toks := s.toks + 1 } → wpAny (model X.prog X.w) X.A (f (.int i t) (.int j u)) Q E s) :
    OpR X f (rI C fun i j => .int (g i j)) := by
  intro pins s σ H x y v u Q I rx ry h
  obtain ⟨i, j, rfl, rfl, hc, q⟩ := h
  obtain ⟨t, rfl⟩ := rx
  obtain ⟨t', rfl⟩ := ry
  exact rule i j t t' s _ _ hc ⟨.int (g i j), H, I.tok _, ⟨_, rfl⟩, q⟩
theorem opI0 {f : Value → Value → Sem Value} {g : Int → Int → Int}
    (rule : ∀ (i j : Int) (t u : Tok) (s : Shared) (Q : Value → Shared → Prop) (E : Value → Shared → Prop), Q (.int (g i j) s.toks) { s with toks := s.toks + 1 } → wpAny (model X.prog X.w) X.A (f (.int i t) (.int j u)) Q E s) :
    OpR X f (rI0 fun i j => .int (g i j)) := by
  intro pins s σ H x y v u Q I rx ry h
  obtain ⟨i, j, rfl, rfl, q⟩ := h
  obtain ⟨t, rfl⟩ := rx
  obtain ⟨t', rfl⟩ := ry
  exact rule i j t t' s _ _ ⟨.int (g i j), H, I.tok _, ⟨_, rfl⟩, q⟩
theorem opB0 {f : Value → Value → Sem Value} {g : Int → Int → Bool}
    (rule : ∀ (i j : Int) (t u : Tok) (s : Shared) (Q : Value → Shared → Prop) (E : Value → Shared → Prop), Q (.bool (g i j)) s → wpAny (model X.prog X.w) X.A (f (.int i t) (.int j u)) Q E s) :
    OpR X f (rI0 fun i j => .bl (g i j)) := by
  intro pins s σ H x y v u Q I rx ry h
  obtain ⟨i, j, rfl, rfl, q⟩ := h
  obtain ⟨t, rfl⟩ := rx
  obtain ⟨t', rfl⟩ := ry
  exact rule i j t t' s _ _ ⟨.bl (g i j), H, I, rfl, q⟩
def CDiv (i j : Int) : Prop := 0 < j ∧ j < 1073741824
def CPow (i j : Int) : Prop := 0 ≤ j ∧ j ≤ 1000000 ∧ i.natAbs < 2 ^ 64
def CMul (i j : Int) : Prop := (-(2 ^ 64) < i ∧ i < 2 ^ 64) ∨ (-(2 ^ 64) < j ∧ j < 2 ^ 64)
theorem CMul.ok {i j : Int} (h : CMul i j) : IntMulOk i j := by
  rcases h with ⟨h1, h2⟩ | ⟨h1, h2⟩
  · exact .of_left (intBits_le_64 h1 h2)
  · exact .of_right (intBits_le_64 h1 h2)
theorem op_add : OpR X (binaryOp .Add) (rI0 fun i j => .int (i + j)) := opI0 fun _ _ _ _ _ _ _ q => add_int q
theorem op_sub : OpR X (binaryOp .Sub) (rI0 fun i j => .int (i - j)) := opI0 fun _ _ _ _ _ _ _ q => sub_int q
theorem op_mul : OpR X (binaryOp .Mult) (rI CMul fun i j => .int (i * j)) := opI fun _ _ _ _ _ _ _ hc q => mul_int q hc.ok
theorem op_fdiv : OpR X (binaryOp .FloorDiv) (rI CDiv fun i j => .int (i / j)) := opI fun i j _ _ _ _ _ hc q => by
  have h1 : (0 : Int) < j := hc.1
  have h2 : j < 1073741824 := hc.2
  exact floordiv_int (by omega) (by rw [Int.fdiv_eq_ediv_of_nonneg i (by omega)]; exact q) (.inl (PyProof.noPylong_small (by omega)))
theorem op_mod : OpR X (binaryOp .Mod) (rI (fun _ j => 0 < j) fun i j => .int (i % j)) := opI fun i j _ _ _ _ _ hc q => by
  have h1 : (0 : Int) < j := hc
  exact mod_int' (by omega) (by rw [Int.fmod_eq_emod_of_nonneg i (by omega)]; exact q)
theorem op_pow : OpR X (binaryOp .Pow) (rI CPow fun i j => .int (i ^ j.toNat)) := opI fun _ _ _ _ _ _ _ hc q => pow_int_small hc.1 hc.2.1 hc.2.2 q
theorem unI {f : Value → Sem Value} {g : Int → Int}
    (rule : ∀ (i : Int) (t : Tok) (s : Shared) (Q : Value → Shared → Prop) (E : Value → Shared → Prop), Q (.int (g i) s.toks) { s with toks := s.toks + 1 } → wpAny (model X.prog X.w) X.A (f (.int i t)) Q E s) :
    UnR X f (rU fun i => .int (g i)) := by
  intro pins s σ H x v Q I rx h
  obtain ⟨i, rfl, q⟩ := h
  obtain ⟨t, rfl⟩ := rx
  exact rule i t s _ _ ⟨.int (g i), H, I.tok _, ⟨_, rfl⟩, q⟩
theorem un_neg : UnR X (unaryOp .USub) (rU fun i => .int (-i)) := unI fun _ _ _ _ _ q => neg_int q
end
section
variable {X : Cx} {a b c : Expr} {ta tb tc : TE} {pos : Pos}
theorem op_lt : OpR X (compareOp .Lt) (rI0 fun i j => .bl (decide (i < j))) := opB0 fun _ _ _ _ _ _ _ q => lt_int q
theorem op_le : OpR X (compareOp .LtE) (rI0 fun i j => .bl (decide (i ≤ j))) := opB0 fun _ _ _ _ _ _ _ q => le_int q
theorem op_gt : OpR X (compareOp .Gt) (rI0 fun i j => .bl (decide (j < i))) := opB0 fun _ _ _ _ _ _ _ q => gt_int q
theorem op_ge : OpR X (compareOp .GtE) (rI0 fun i j => .bl (decide (j ≤ i))) := opB0 fun _ _ _ _ _ _ _ q => ge_int q
theorem OpR.or {f : Value → Value → Sem Value} {r r' : R2} (h : OpR X f r) (h' : OpR X f r') : OpR X f (fun x y H Q => r x y H Q ∨ r' x y H Q) := by
  intro pins s σ H x y v u Q I rx ry q
  rcases q with q | q
  · exact h pins s σ H x y v u Q I rx ry q
  · exact h' pins s σ H x y v u Q I rx ry q
theorem nomark (b : Expr) {op : CmpOp} (h : op ≠ .In := by decide) (h2 : op ≠ .NotIn := by decide) : behindInMarks op b = false := by
  have e1 : (op == CmpOp.In) = false := by cases op <;> first | rfl | exact absurd rfl h
  have e2 : (op == CmpOp.NotIn) = false := by cases op <;> first | rfl | exact absurd rfl h2
  cases b <;> simp [behindInMarks, e1, e2]
theorem pe_cmpR {op : CmpOp} {r : R2} (ho : OpR X (compareOp op) r) (ha : PE X a ta) (hb : PE X b tb) (hm : behindInMarks op b = false) : PE X (.Compare a [op] [b] pos) (tOp r ta tb) := by
  intro pins s σ H Q I h
  exact wpAny_Compare1 (binT ha hb I h fun v u s2 x y H2 I2 rx ry q => ho pins s2 σ H2 x y v u Q I2 rx ry q) hm
def tTest (t : TE) : TT := fun σ H Q => t σ H fun x H' => ∃ k, x = .bl k ∧ Q k H'
theorem pt_cmpR {op : CmpOp} {r : R2} (ho : OpR X (compareOp op) r) (ha : PE X a ta) (hb : PE X b tb) (hm : behindInMarks op b = false) : PT X (.Compare a [op] [b] pos) (tTest (tOp r ta tb)) := by
  intro pins s σ H Q I h
  refine wpAny_isTrue_Compare1 (thn (ha pins s σ H _ I h) fun v s1 ⟨x, H1, I1, r1, q1⟩ => thn (hb pins s1 σ H1 _ I1 q1) fun u s2 ⟨y, H2, I2, r2, q2⟩ =>
    thn (ho pins s2 σ H2 x y v u _ I2 r1 r2 q2) fun c s3 ⟨z, H3, I3, r3, k, e, q3⟩ => ?_) hm
  subst e
  cases r3
  exact wpAny_truthy_bool ⟨H3, I3, q3⟩
def TruV (K : PySem.W.Frag) (x : V) (H : Hp) (k : Bool) : Prop :=
  match x with
  | .non => k = false
  | .bl b => k = b
  | .int i => k = (i != 0)
  | .str y => y.length ≤ sizeLine ∧ k = ((y.length : Int) != 0)
  | .byt y => y.size ≤ sizeLine ∧ k = ((y.size : Int) != 0)
  | .ref p => (∃ xs, SqL K H p xs ∧ k = !xs.isEmpty) ∨ (∃ xs, SqT K H p xs ∧ k = !xs.isEmpty) ∨ ∃ kvs, H p = some (.dK kvs) ∧ k = !kvs.isEmpty
  | _ => False
theorem isEmpty_kv {κ : Type} {kvs : List (κ × V)} {vs : List (κ × Value)} (r : KV kvs vs) : (!vs.isEmpty) = !kvs.isEmpty := by
  cases r <;> rfl
theorem isEmpty_of {xs : List V} {its : List Value} (r : Vals xs its) : (!its.toArray.isEmpty) = !xs.isEmpty := by
  cases r <;> simp
theorem line63 : (sizeLine : Nat) < 2 ^ 63 := by rw [sizeLine_eq]; decide
theorem tru_ok : TruR X (fun x H Q => ∃ k, TruV X.K x H k ∧ Q k H) := by
  intro pins s σ H x v Q I rx h
  obtain ⟨k, e, q⟩ := h
  have hl := line63
  have hs : sizeLine = 16777216 := sizeLine_eq
  cases x with
  | non =>
    cases rx
    have e' : k = false := e
    subst e'
    exact truthy_none ⟨H, I, q⟩
  | bl b =>
    cases rx
    have e' : k = b := e
    subst e'
    exact wpAny_truthy_bool ⟨H, I, q⟩
  | int i =>
    obtain ⟨t, rfl⟩ := rx
    have e' : k = (i != 0) := e
    subst e'
    exact PySem.P.truthy_int ⟨H, I, q⟩
  | str y =>
    obtain ⟨t, rfl⟩ := rx
    obtain ⟨hy, e'⟩ : y.length ≤ sizeLine ∧ k = ((y.length : Int) != 0) := e
    subst e'
    exact PySem.P.truthy_str (by omega) ⟨H, I.tok _, q⟩
  | byt y =>
    obtain ⟨t, rfl⟩ := rx
    obtain ⟨hy, e'⟩ : y.size ≤ sizeLine ∧ k = ((y.size : Int) != 0) := e
    subst e'
    exact PySem.W.truthy_bytes (by omega) ⟨H, I.tok _, q⟩
  | ref p =>
    cases rx
    have e' : (∃ xs, SqL X.K H p xs ∧ k = !xs.isEmpty) ∨ (∃ xs, SqT X.K H p xs ∧ k = !xs.isEmpty) ∨ ∃ kvs, H p = some (.dK kvs) ∧ k = !kvs.isEmpty := e
    rcases e' with ⟨xs, hx, e'⟩ | ⟨xs, hx, e'⟩ | ⟨kvs, hx, e'⟩
    · subst e'
      obtain ⟨its, r, pl, hz⟩ := I.list hx
      have hlen := r.length
      exact wpAny_truthy_list pl.isList (by simp only [List.size_toArray]; omega) ⟨H, I.tok _, by rw [isEmpty_of r]; exact q⟩
    · subst e'
      obtain ⟨its, r, pl, hz⟩ := I.tuple hx
      have hlen := r.length
      exact truthy_tuple pl (by simp only [List.size_toArray]; omega) ⟨H, I.tok _, by rw [isEmpty_of r]; exact q⟩
    · subst e'
      obtain ⟨hz, hS, vs, r, m⟩ : kvs.length ≤ sizeLine ∧ (p == sysModules) = false ∧ ∃ vs, KV kvs vs ∧ s.heap.DictOf (mixKind X.prog X.w) p vs := I.hok p _ hx
      have hlen : kvs.length = vs.length := Paired.length r
      exact wpAny_truthy_dict hS m (by omega) ⟨H, I.tok _, by rw [isEmpty_kv r]; exact q⟩
  | _ => exact (show False from e).elim
theorem pt_truth (ha : PE X a ta) (he : ∀ whole, isTrue a X.env whole = (do let v ← whole; standAt a.pos; holding [v] (truthy v))) :
    PT X a (fun σ H Q => ta σ H fun x H' => ∃ k, TruV X.K x H' k ∧ Q k H') := by
  intro pins s σ H Q I h
  exact isTrue_plain (thn (ha pins s σ H _ I h) fun v s1 ⟨x, H1, I1, r1, q1⟩ => tru_ok pins s1 σ H1 x v Q I1 r1 q1) (he _)
theorem op_add_str : OpR X (binaryOp .Add) (fun x y H Q => ∃ i j, x = .str i ∧ y = .str j ∧ i.length + j.length ≤ sizeLine ∧ Q (.str (i ++ j)) H) := by
  intro pins s σ H x y v u Q I rx ry h
  obtain ⟨i, j, rfl, rfl, hz, q⟩ := h
  obtain ⟨t, rfl⟩ := rx
  obtain ⟨t', rfl⟩ := ry
  exact add_str (fun t' tk => ⟨.str (i ++ j), H, I.tok _, ⟨_, rfl⟩, q⟩) hz
theorem vals1 {x : V} {us : List Value} (r : Vals [x] us) : ∃ u, us = [u] ∧ RelV x u := by
  cases r with
  | cons r1 r2 => cases r2; exact ⟨_, rfl, r1⟩
theorem vals2 {x y : V} {us : List Value} (r : Vals [x, y] us) : ∃ u w', us = [u, w'] ∧ RelV x u ∧ RelV y w' := by
  cases r with
  | cons r1 r2 =>
    cases r2 with
    | cons r3 r4 => cases r4; exact ⟨_, _, rfl, r1, r3⟩
theorem call_max2 (hc : X.calm = true) : CallR X (.builtin "max") (fun xs H Q => ∃ i j, xs = [.int i, .int j] ∧ Q (.int (if j > i then j else i)) H) := by
  intro pins s σ H xs us Q I r h
  obtain ⟨i, j, rfl, q⟩ := h
  obtain ⟨u, w', rfl, ⟨t, rfl⟩, ⟨t', rfl⟩⟩ := vals2 r
  refine max_two_ints (I.ok.hd hc) fun h' tk k => ⟨_, H, I.kept k, ?_, q⟩
  by_cases hj : j > i
  · rw [if_pos hj, if_pos hj]; exact ⟨_, rfl⟩
  · rw [if_neg hj, if_neg hj]; exact ⟨_, rfl⟩
theorem call_int1 : CallR X (.type "int") (fun xs H Q => (∃ i, xs = [.int i] ∧ Q (.int i) H) ∨ ∃ k, xs = [.bl k] ∧ Q (.int (if k then 1 else 0)) H) := by
  intro pins s σ H xs us Q I r h
  rcases h with ⟨i, rfl, q⟩ | ⟨k, rfl, q⟩
  · obtain ⟨u, rfl, t, rfl⟩ := vals1 r
    exact call_int_int ⟨.int i, H, I, ⟨_, rfl⟩, q⟩
  · obtain ⟨u, rfl, r1⟩ := vals1 r
    cases r1
    exact call_int_bool ⟨.int (if k then 1 else 0), H, I.tok _, ⟨_, rfl⟩, q⟩
end
end L2
namespace L2
open PySem PySem.Spec PyProof.Rows
structure ObjM (h : Heap) (x dx C : Addr) (mA : Str → Option Value) : Prop where
  obj : h.get? x = some (PySem.W.instObj C dx)
  ns : h.Ns1 dx mA
  ne : dx ≠ x
section
variable {prog : Program} {w : World} {A : Around} {E : Value → Shared → Prop} {s : Shared} {K : PySem.W.Frag} {x dx C f : Addr} {mA : Str → Option Value} {name : Str} {v : Value}
end
section
variable {P : Program} {w : World} {H H' : Hp} {h h' : Heap} {a C dx : Addr} {fs fs' : List (Str × V)}
end
structure Cls (K : PySem.W.Frag) (C : Addr) : Prop where
  pg : PySem.W.plainGet K C Str.empty = true
  hd : PySem.W.hasDictIn K C = true
  po : PySem.W.plainOver K C = true
  sa : PySem.W.findIn K (.ref C) "__setattr__" = some (some (.builtin "object.__setattr__"))
theorem Cls.get {K : PySem.W.Frag} {C : Addr} (c : Cls K C) (f : Str) : PySem.W.plainGet K C f = true := c.pg
structure Con (K : PySem.W.Frag) (C : Addr) (f : Str) (v : V) (u : Value) : Prop where
  at_ : PySem.W.findIn K (.ref C) f = some (some u)
  rel : RelV v u
  get : PySem.W.specialIn K u "__get__" = some none
  cp : PySem.W.copiedNames.contains f = false
structure Meth (K : PySem.W.Frag) (C : Addr) (m : Str) (f : Addr) : Prop where
  at_ : PySem.W.findIn K (.ref C) m = some (some (.ref f))
  fn : PySem.W.isFn K (.ref f) = true
  kp : PySem.W.keepIn K (.ref f) = true
section
variable {X : Cx} {pins : List (Addr × Obj)} {σ : St} {H : Hp} {s : Shared} {a C dx : Addr} {fs : List (Str × V)} {f : Str} {v : V} {A : Around} {E : Value → Shared → Prop}
end
section
variable {X : Cx} {o e value : Expr} {f : Str} {pos pos' tpos : Pos} {ta tv : TE}
end
section
variable {X : Cx} {pins : List (Addr × Obj)} {σ : St} {H : Hp} {s : Shared} {A : Around} {E : Value → Shared → Prop} {Q : Value → Shared → Prop} {c : Value} {b : Bool}
inductive TyOf (K : PySem.W.Frag) (H : Hp) : V → Value → Prop where
  | non : TyOf K H .non (.type "NoneType")
  | bl (x : Bool) : TyOf K H (.bl x) (.type "bool")
  | int (i : Int) : TyOf K H (.int i) (.type "int")
  | str (x : Str) : TyOf K H (.str x) (.type "str")
  | flt (x : UInt64) : TyOf K H (.flt x) (.type "float")
  | lst {a : Addr} {xs : List V} (e : H a = some (.lst xs)) : TyOf K H (.ref a) (.type "list")
  | frz {a : Addr} {o : Obj} {xs : List V} (e : H a = some (.frz o (.lst xs))) : TyOf K H (.ref a) (.type "list")
  | tup {a : Addr} {xs : List V} (e : H a = some (.tup xs)) : TyOf K H (.ref a) (.type "tuple")
  | dK {a : Addr} {kvs : List (Key × V)} (e : H a = some (.dK kvs)) : TyOf K H (.ref a) (.type "dict")
  | dT {a : Addr} {kvs : List (List Key × V)} (e : H a = some (.dT kvs)) : TyOf K H (.ref a) (.type "dict")
  | ins {a C dx : Addr} {fs : List (Str × V)} (e : H a = some (.ins C dx fs)) (cl : Cls K C) (ha : PySem.W.findIn K (.ref C) "__class__" = some (some (.builtin "object.__class__")))
      (hn : PySem.W.specialIn K (.builtin "object.__class__") "__get__" = some (some (.builtin "getset_descriptor.__get__"))) (htk : PySem.W.takesIn K (.builtin "object.__class__") = some true)
      (hm : PySem.W.mroIn K C (.type "object") = some true) : TyOf K H (.ref a) (.ref C)
end
end L2
namespace L2
open PySem PySem.Spec PyProof.Rows
structure Room (k : Nat) (A : Around) : Prop where
  hd : A.handled = none
  dp : A.depth + 3 * k + 5 < recursionLimit
  un : A.units + 16 * k + 200 < cLine
  gd : A.guards = some []
theorem Room.mono {j k : Nat} {A : Around} (r : Room k A) (h : j ≤ k) : Room j A := ⟨r.hd, by have := r.dp; omega, by have := r.un; omega, r.gd⟩
theorem Room.deeper {k : Nat} {A : Around} (r : Room (k + 1) A) (env : Env) : Room k (A.deeper env) :=
  ⟨r.hd, by have := r.dp; show A.depth + 1 + 3 * k + 5 < _; omega, by have := r.un; show A.units + 3 + 16 * k + 200 < _; omega, r.gd⟩
theorem Room.in1 {k : Nat} {A : Around} (r : Room (k + 1) A) : Room k A.in1 :=
  ⟨r.hd, by have := r.dp; show A.depth + 3 * k + 5 < _; omega, by have := r.un; show A.units + 1 + 16 * k + 200 < _; omega, r.gd⟩
theorem Room.depth {k : Nat} {A : Around} (r : Room k A) : A.depth < recursionLimit := by have := r.dp; omega
theorem Room.units {k : Nat} {A : Around} (r : Room k A) : A.units + 64 < cLine := by have := r.un; omega
def tNil : TA := fun _ H Q => Q [] H
def tCons (ta : TE) (tr : TA) : TA := fun σ H Q => ta σ H fun x H1 => tr σ H1 fun xs H2 => Q (x :: xs) H2
section
variable {X : Cx} {e : Expr} {es : List Expr} {te : TE} {t : TA} {pos : Pos}
theorem pa_nil : PA X [] tNil := fun _ _ _ _ H Q I h => Calls.spliced_nil ⟨[], H, I, .nil, h⟩
theorem pa_cons (ha : PE X e te) (hr : PA X es t) (hs : starEach (e :: es) X.env = (false, eval e X.env) :: starEach es X.env := by rfl) : PA X (e :: es) (tCons te t) := by
  intro pos pins s σ H Q I h
  rw [hs]
  show wpAny _ _ (spliced ((false, eval e X.env) :: backTo pos (starEach es X.env))) _ _ s
  refine Calls.spliced_cons (thn (ha pins s σ H _ I h) fun u s1 ⟨x, H1, I1, r1, q1⟩ => ?_)
  exact thn (hr pos pins s1 σ H1 _ I1 q1) fun us s2 ⟨xs, H2, I2, r2, q2⟩ => ⟨x :: xs, H2, I2, .cons r1 r2, q2⟩
def tTup (t : TA) : TE := fun σ H Q => t σ H fun xs H1 => xs.length ≤ sizeLine ∧ ∀ p, H1 p = none → Q (.ref p) (upd H1 p (.tup xs))
def tLst (t : TA) : TE := fun σ H Q => t σ H fun xs H1 => xs.length ≤ sizeLine ∧ ∀ p, H1 p = none → Q (.ref p) (upd H1 p (.lst xs))
theorem pe_tup {x1} (h : PA X es t) : PE X (.Tuple es x1 pos) (tTup t) := by
  intro pins s σ H Q I hq
  refine wpAny_Tuple_spliced (thn (h pos pins s σ H _ I hq) fun us s1 ⟨xs, H1, I1, r, z, q⟩ => ⟨by rw [← r.length]; exact z, ?_⟩)
  have hf : H1 s1.heap.objs.size = none := I1.hok.fresh (Nat.le_refl _)
  refine ⟨.ref s1.heap.objs.size, upd H1 s1.heap.objs.size (.tup xs), I1.laid (t' := s1.toks) (fun b u e => Heap.get?_push_of_some _ e) (Nat.le_refl _) ?_, rfl, q _ hf⟩
  exact ⟨z, us, r, TupN.new _ _⟩
theorem pe_lst (h : PA X es t) : PE X (.List es pos) (tLst t) := by
  intro pins s σ H Q I hq
  refine wpAny_List_spliced (thn (h pos pins s σ H _ I hq) fun us s1 ⟨xs, H1, I1, r, z, q⟩ => ⟨by rw [← r.length]; exact z, ?_⟩)
  have hf : H1 s1.heap.objs.size = none := I1.hok.fresh (Nat.le_refl _)
  refine ⟨.ref s1.heap.objs.size, upd H1 s1.heap.objs.size (.lst xs), I1.laid (t' := s1.toks) (fun b u e => Heap.get?_push_of_some _ e) (Nat.le_refl _) ?_, rfl, q _ hf⟩
  exact ⟨z, us, 0, r, Heap.get?_push_size _ rfl⟩
end
abbrev Sp := List V → Hp → VK → XK → Prop
abbrev CXT := List Env → Hp → Shared → XK → Value → Shared → Prop
structure Env0 (P : Program) (w : World) (K : PySem.W.Frag) (mg : Str → Option Value) (base : Heap) (A : Around) (outer : List Env) (s : Shared) (H : Hp) : Prop where
  frames : A.frames = some outer
  mod : Mod K mg base
  bs : ∀ b o, base.get? b = some o → s.heap.get? b = some o ∧ H b = none
  bsz : base.objs.size ≤ s.heap.objs.size
  funs : s.heap.FunFrames base outer
  frf : ∀ b ∈ frs outer, H b = none
  hok : HOk P w H s.heap
  bare : AllBare s.gens
def CE (outer : List Env) (P : Program) (w : World) (H : Hp) (s : Shared) (Q : VK) (u : Value) (s' : Shared) : Prop :=
  ∃ v H', s'.os = s.os ∧ AllBare s'.gens ∧ Un (frs outer) [] H H' s.heap s'.heap ∧ HOk P w H' s'.heap ∧ RelV v u ∧ Q v H'
def CR (CX : CXT) (outer : List Env) (P : Program) (w : World) (H : Hp) (s : Shared) (Q : VK) (E : XK) (r : Result) (s' : Shared) : Prop :=
  match r with
  | .ok (.ret u) => CE outer P w H s Q u s'
  | .ok _ => False
  | .error e => CX outer H s E e s'
structure FnOk (P : Program) (w : World) (K : PySem.W.Frag) (mg : Str → Option Value) (base : Heap) (CX : CXT) (k : Nat) (f : Addr) (fd : FuncData) (ps : List Str) (sp : Sp) : Prop where
  len : ∀ vs H Q E, sp vs H Q E → vs.length = ps.length
  run : ∀ (A : Around) (outer : List Env) (s : Shared) (H : Hp) (args : Args) (us : List Value) (vs : List V) (Q : VK) (E : XK), Room k A → Env0 P w K mg base A outer s H → BindsTo s fd args (ps.zip us) → Vals vs us → sp vs H Q E →
    codeAny (model P w) A (.call (.ref f) args) (CR CX outer P w H s Q E) s
theorem FnOk.mono {P : Program} {w : World} {K : PySem.W.Frag} {mg : Str → Option Value} {base : Heap} {CX : CXT} {j k : Nat} {f : Addr} {fd : FuncData} {ps : List Str} {sp : Sp} (F : FnOk P w K mg base CX j f fd ps sp) (h : j ≤ k) :
    FnOk P w K mg base CX k f fd ps sp := ⟨F.len, fun A outer s H args us vs Q E hr => F.run A outer s H args us vs Q E (hr.mono h)⟩
theorem FnOk.imp {P : Program} {w : World} {K : PySem.W.Frag} {mg : Str → Option Value} {base : Heap} {CX : CXT} {k : Nat} {f : Addr} {fd : FuncData} {ps : List Str} {sp sp' : Sp} (F : FnOk P w K mg base CX k f fd ps sp)
    (h : ∀ vs H Q E, sp' vs H Q E → sp vs H Q E) : FnOk P w K mg base CX k f fd ps sp' :=
  ⟨fun vs H Q E q => F.len vs H Q E (h _ _ _ _ q), fun A outer s H args us vs Q E hr he hb hv hs => F.run A outer s H args us vs Q E hr he hb hv (h _ _ _ _ hs)⟩
theorem Env0.in1 {P : Program} {w : World} {K : PySem.W.Frag} {mg : Str → Option Value} {base : Heap} {A : Around} {outer : List Env} {s : Shared} {H : Hp} (e : Env0 P w K mg base A outer s H) :
    Env0 P w K mg base A.in1 outer s H := ⟨e.frames, e.mod, e.bs, e.bsz, e.funs, e.frf, e.hok, e.bare⟩
section
variable {X : Cx} {pins : List (Addr × Obj)} {σ : St} {H : Hp} {s s' : Shared}
theorem Inv.env0 (I : Inv X pins σ H s) : Env0 X.prog X.w X.K X.mg X.base X.A X.stack s H :=
  ⟨I.ok.frames, I.ok.mod, I.bs, Nat.le_trans I.ok.bsz I.sz, I.stack, I.stkFree, I.hok, I.bare⟩
theorem Inv.after {Q : VK} {u : Value} (I : Inv X pins σ H s) (h : CE X.stack X.prog X.w H s Q u s') : EP X pins σ Q u s' := by
  obtain ⟨v, H', os, bare, un, hok, r, q⟩ := h
  obtain ⟨hh, g, d, t, os'⟩ := s'
  obtain rfl : os' = s.os := os
  exact ⟨v, H', I.call (h' := hh) (g' := g) (d' := d) (t' := t) (ch := []) un hok bare (fun b z => absurd z (by simp)), r, q⟩
end
def tCall (sp : Sp) (dvs : List V) (E : XK) (t : TA) : TE := fun σ H Q => t σ H fun vs H1 => sp (vs ++ dvs) H1 Q E
def Binds (K : PySem.W.Frag) (fd : FuncData) (ps : List Str) (ds : List Value) : Prop :=
  ∀ (s : Shared) (us : List Value), K.In s.heap → (us ++ ds).length = ps.length → BindsTo s fd ⟨us, []⟩ (ps.zip (us ++ ds))
theorem Binds.all {K : PySem.W.Frag} {fd : FuncData} {ps : List Str} (h : ∀ us : List Value, us.length = ps.length → bindArgs fd ⟨us, []⟩ = pure (ps.zip us)) : Binds K fd ps [] := fun s us _ hl => by
  rw [List.append_nil] at hl ⊢
  exact .of_eq (h us hl)
def Passes (CX : CXT) (X : Cx) (E : XK) : Prop := ∀ (pins : List (Addr × Obj)) (σ : St) (H : Hp) (s : Shared) (e : Value) (s' : Shared), Inv X pins σ H s → CX X.stack H s E e s' → X.xe e s'
section
variable {X : Cx} {CX : CXT} {k : Nat} {f C : Addr} {fd : FuncData} {ps : List Str} {sp : Sp} {dvs : List V} {ds : List Value} {E : XK} {x m : Str} {p pos apos : Pos} {e o : Expr} {es : List Expr} {ta : TE} {t : TA}
theorem run_fn {pins : List (Addr × Obj)} {σ : St} {H : Hp} {s : Shared} {Q : VK} {us : List Value} {vs : List V} (F : FnOk X.prog X.w X.K X.mg X.base CX k f fd ps sp) (hr : Room k X.A) (hb : Binds X.K fd ps ds) (hd : Vals dvs ds) (hx : Passes CX X E)
    (I : Inv X pins σ H s) (r : Vals vs us) (h : sp (vs ++ dvs) H Q E) : wpAny (model X.prog X.w) X.A (call (.ref f) us) (EP X pins σ Q) X.xe s := by
  have r2 : Vals (vs ++ dvs) (us ++ ds) := r.append hd
  have hl : (us ++ ds).length = ps.length := by rw [← r2.length]; exact F.len _ _ _ _ h
  refine wpAny_call (codeAny_mono (F.run X.A X.stack s H ⟨us, []⟩ (us ++ ds) (vs ++ dvs) Q E hr I.env0 (hb s us I.kIn hl) r2 h) fun r s' hq => ?_)
  cases r with
  | error e => exact hx pins σ H s e s' I hq
  | ok fl =>
    cases fl with
    | ret u => exact I.after hq
    | next => exact False.elim hq
    | brk => exact False.elim hq
    | cont => exact False.elim hq
theorem pe_call (F : FnOk X.prog X.w X.K X.mg X.base CX k f fd ps sp) (hr : Room k X.A) (hg : Gl X x) (hm : X.mg x = some (.ref f)) (hk : PySem.W.keepIn X.K (.ref f) = true) (hb : Binds X.K fd ps ds) (hd : Vals dvs ds) (hx : Passes CX X E)
    (ha : PA X (e :: es) t) (hdb : (x == ("__debug__" : Str)) = false := by decide) (he : starEach (e :: es) X.env = (false, eval e X.env) :: starEach es X.env := by rfl) (hpl : (backTo pos (starEach es X.env)).any (·.1) = false := by rfl) :
    PE X (.Call (.Name x p) (e :: es) [] pos) (tCall sp dvs E t) := by
  intro pins s σ H Q I h
  refine wpAny_Call_Name_kw (ld_glob I hg hm ?_ hdb)
  refine PySem.W.callWith_K (h₀ := X.base) I.ok.mod.kin hk (thn (ha pos pins s σ H _ I h) fun us s1 ⟨vs, H1, I1, r, q⟩ => ⟨I1.kIn, ?_⟩) he hpl
  exact run_fn F hr hb hd hx I1 r q
structure Mk (K : PySem.W.Frag) (C f : Addr) : Prop where
  makes : PySem.W.makesIn K C = true
  init : PySem.W.findIn K (.ref C) "__init__" = some (some (.ref f))
  fn : PySem.W.isFn K (.ref f) = true
  kp : PySem.W.keepIn K (.ref C) = true
end
section
variable {X : Cx} {CX : CXT} {k : Nat} {f C : Addr} {fd : FuncData} {ps ks : List Str} {sp : Sp} {E : XK} {x m : Str} {p pos apos kpos : Pos} {e o : Expr} {es : List Expr} {kws : List Keyword} {te ta : TE} {t tk : TA} {nm : Option Str}
structure KBinds (K : PySem.W.Frag) (fd : FuncData) (ps ks : List Str) (g : List Value → List Value → List Value) (gV : List V → List V → List V) : Prop where
  to : ∀ (s : Shared) (us ws : List Value), K.In s.heap → (g us ws).length = ps.length → BindsTo s fd ⟨us, ks.zip ws⟩ (ps.zip (g us ws))
  rel : ∀ {vs : List V} {us : List Value} {zs : List V} {ws : List Value}, Vals vs us → Vals zs ws → Vals (gV vs zs) (g us ws)
variable {g : List Value → List Value → List Value} {gV : List V → List V → List V}
end
structure FnScope (N P : List Str) (sc : Scope) : Prop where
  kind : sc.kind = .function
  co : sc.isCoroutine = false
  gen : sc.isGenerator = false
  nd : N.Nodup
  pre : N.take P.length = P
  par : ∀ x ∈ P, sc.names.lookup x = some .local ∨ sc.names.lookup x = some .cell
  nofree : ∀ y ∈ sc.names, y.2 ≠ .free
theorem bindL_out {kindOf : Str → Option NameKind} {x : Str} : ∀ {binds : List (Str × Value)} {m : Str → Option Value}, (∀ v, (x, v) ∉ binds) → bindL kindOf binds m x = m x
  | [], _, _ => rfl
  | (n, v) :: r, m, h => by
    unfold bindL
    rw [bindL_out fun w hw => h w (List.mem_cons_of_mem _ hw)]
    split
    · have : x ≠ n := by rintro rfl; exact h v List.mem_cons_self
      simp [this]
    · rfl
theorem bindC_out {kindOf : Str → Option NameKind} {x : Str} : ∀ {binds : List (Str × Value)} {m : Str → Option Value}, (∀ v, (x, v) ∉ binds) → bindC kindOf binds m x = m x
  | [], _, _ => rfl
  | (n, v) :: r, m, h => by
    unfold bindC
    rw [bindC_out fun w hw => h w (List.mem_cons_of_mem _ hw)]
    split
    · rfl
    · have : x ≠ n := by rintro rfl; exact h v List.mem_cons_self
      simp [this]
theorem bindL_get {kindOf : Str → Option NameKind} {x : Str} {v : Value} : ∀ {P : List Str} {vs : List Value} {i : Nat} {m : Str → Option Value}, P.Nodup → P[i]? = some x → vs[i]? = some v → kindOf x = some .local →
    bindL kindOf (P.zip vs) m x = some v
  | [], _, _, _, _, h, _, _ => by simp at h
  | _ :: _, [], _, _, _, _, h, _ => by simp at h
  | p :: P, w :: vs, 0, m, nd, h1, h2, hk => by
    simp at h1 h2; subst h1; subst h2
    show bindL kindOf ((p, w) :: P.zip vs) m p = _
    unfold bindL
    rw [bindL_out fun v hv => (List.nodup_cons.mp nd).1 (List.of_mem_zip hv).1, if_pos hk]
    simp
  | p :: P, w :: vs, i + 1, m, nd, h1, h2, hk => by
    show bindL kindOf ((p, w) :: P.zip vs) m x = _
    unfold bindL
    exact bindL_get (i := i) (List.nodup_cons.mp nd).2 (by simpa using h1) (by simpa using h2) hk
theorem bindC_get {kindOf : Str → Option NameKind} {x : Str} {v : Value} : ∀ {P : List Str} {vs : List Value} {i : Nat} {m : Str → Option Value}, P.Nodup → P[i]? = some x → vs[i]? = some v → kindOf x ≠ some .local →
    bindC kindOf (P.zip vs) m x = some v
  | [], _, _, _, _, h, _, _ => by simp at h
  | _ :: _, [], _, _, _, _, h, _ => by simp at h
  | p :: P, w :: vs, 0, m, nd, h1, h2, hk => by
    simp at h1 h2; subst h1; subst h2
    show bindC kindOf ((p, w) :: P.zip vs) m p = _
    unfold bindC
    rw [bindC_out fun v hv => (List.nodup_cons.mp nd).1 (List.of_mem_zip hv).1, if_neg hk]
    simp
  | p :: P, w :: vs, i + 1, m, nd, h1, h2, hk => by
    show bindC kindOf ((p, w) :: P.zip vs) m x = _
    unfold bindC
    exact bindC_get (i := i) (List.nodup_cons.mp nd).2 (by simpa using h1) (by simpa using h2) hk
def start (N : List Str) (vs : List V) : St := vs.map some ++ List.replicate (N.length - vs.length) none
def cxOf (CX : CXT) (P : Program) (w : World) (K : PySem.W.Frag) (mg : Str → Option Value) (base : Heap) (N : List Str) (qual : Str) (scope : Scope) (f : Addr) (cd : Value) (A : Around) (outer : List Env) (s : Shared) (H : Hp) (E : XK) : Cx where
  prog := P
  w := w
  K := K
  mg := mg
  base := base
  A := A.deeper (envOfC qual scope s.heap.objs.size f cd)
  N := N
  s₀ := s
  H₀ := H
  env := envOfC qual scope s.heap.objs.size f cd
  outer := outer
  stack := envOfC qual scope s.heap.objs.size f cd :: outer
  ex := []
  calm := true
  fn := fun _ => true
  pn := []
  xe := fun e s' => wpAny (model P w) (A.deeper (envOfC qual scope s.heap.objs.size f cd)) (leaving (envOfC qual scope s.heap.objs.size f cd) e) (fun _ s'' => CX outer H s E e s'') (fun e' s'' => CX outer H s E e' s'') s'
theorem cell_has {sc : Scope} {n : Nat} {x : Str} (h : sc.names.lookup x = some .cell) : ∃ c, (cellsFrom n sc.names []).lookup x = some c := by
  have q := PySem.W.cellsFrom_some sc.names n [] (.inl h)
  exact Option.isSome_iff_exists.mp q
theorem inv_start {CX : CXT} {P : Program} {w : World} {K : PySem.W.Frag} {mg : Str → Option Value} {base : Heap} {N ps : List Str} {qual : Str} {scope : Scope} {f : Addr} {cd : Value} {A : Around} {outer : List Env} {s s1 : Shared} {H : Hp} {E : XK} {us : List Value} {vs : List V}
    (S : FnScope N ps scope) (hd : A.handled = none) (e0 : Env0 P w K mg base A outer s H) (hl : vs.length = ps.length) (r : Vals vs us)
    (x : InCallC s s.heap.objs.size (bindL (envOfC qual scope s.heap.objs.size f cd).kindOf (ps.zip us) fun _ => none) (cellsFrom (s.heap.objs.size + 1) scope.names []) (bindC (envOfC qual scope s.heap.objs.size f cd).kindOf (ps.zip us) fun _ => none) s1) :
    Inv (cxOf CX P w K mg base N qual scope f cd A outer s H E) [] (start N vs) H s1 := by
  have hpl : ps.length ≤ N.length := by have := congrArg List.length S.pre; rw [List.length_take] at this; omega
  obtain ⟨h1, tk, rfl, hk⟩ := x.done
  have noA : ∀ b : Addr, b ∉ (cxOf CX P w K mg base N qual scope f cd A outer s H E).ex := fun b z => absurd (show b ∈ ([] : List Addr) from z) (by simp)
  refine ⟨⟨e0.mod, S.kind, rfl, rfl, Nat.le_refl _, fun y z c h1 h2 => ?_, fun y hy => ?_, fun y c _ h => ?_, fun _ => hd, Around.frames_deeper e0.frames, .inr ⟨rfl, rfl⟩, fun b z => absurd z (noA b), e0.bs, e0.bsz, fun b _ _ => noA b, fun b z => absurd z (noA b), e0.funs, e0.frf⟩,
    rfl, e0.bare, Un.kept hk, ⟨_, x.toInCall.ns, fun i y v h1 h2 h3 => ?_⟩, fun y c h => ⟨_, x.cell y c h⟩, e0.hok.fresh (Nat.le_refl _), fun y c h => ?_, fun p hp => absurd (show p ∈ ([] : List (Addr × Obj)) from hp) (by simp), e0.hok.kept hk, ?_⟩
  · exact name_of_addr x.apart (PySem.mem_of_lookup h1) (PySem.mem_of_lookup h2)
  · have hy : scope.names.lookup y = some .cell ∨ scope.names.lookup y = some .free := hy
    rcases hy with hy | hy
    · exact cell_has hy
    · exact absurd rfl (S.nofree _ (PySem.mem_of_lookup hy))
  · exact Nat.le_of_lt (x.above y c (PySem.mem_of_lookup h))
  · have hi : i < vs.length := by
      unfold start at h2
      by_cases hi : i < vs.length
      · exact hi
      · rw [List.getElem?_append_right (by simpa using hi)] at h2
        rw [List.getElem?_replicate] at h2
        split at h2 <;> cases h2
    have ha : vs[i]? = some v := by
      unfold start at h2
      rw [List.getElem?_append_left (by simpa using hi), List.getElem?_map] at h2
      cases e : vs[i]? with
      | none => rw [e] at h2; cases h2
      | some a => rw [e] at h2; cases h2; rfl
    obtain ⟨u, hu, rv⟩ := r.get ha
    have hp : ps[i]? = some y := by
      rw [← S.pre, List.getElem?_take_of_lt (by omega)]; exact h1
    have ndP : ps.Nodup := by rw [← S.pre]; exact S.nd.sublist (List.take_sublist _ _)
    refine ⟨u, rv, ?_⟩
    rcases S.par y (List.mem_of_getElem? hp) with k | k
    · exact .inl ⟨k, bindL_get ndP hp hu k⟩
    · obtain ⟨c, e⟩ := cell_has (n := s.heap.objs.size + 1) k
      refine .inr ⟨.inl k, c, e, ?_⟩
      have q := x.cell y c e
      rw [bindC_get ndP hp hu (by show scope.names.lookup y ≠ _; rw [k]; decide)] at q
      exact q
  · exact e0.hok.fresh (Nat.le_of_lt (x.above y c (PySem.mem_of_lookup h)))
  · unfold start
    show _ = N.length
    rw [List.length_append, List.length_map, List.length_replicate]
    omega
theorem fn_of {CX : CXT} {P : Program} {w : World} {K : PySem.W.Frag} {mg : Str → Option Value} {base : Heap} {k : Nat} {f : Addr} {name qual : Str} {params : Arguments} {body : List Stmt} {scope : Scope} {dV kV doc pm cdv ct oc : Value} {an od : Option Addr}
    {osl : Array (Option Value)} {N ps : List Str} {sp : Sp} (lk : K.lookup f = some ⟨oc, od, .func (PySem.W.fnOf name qual params body scope dV kV doc pm an cdv ct), osl⟩) (hcd : PySem.W.codeIn K cdv qual = true) (S : FnScope N ps scope)
    (len : ∀ vs H Q E, sp vs H Q E → vs.length = ps.length)
    (hbody : ∀ (A : Around) (outer : List Env) (s : Shared) (H : Hp) (vs : List V) (Q : VK) (E : XK), Room k (A.deeper (envOfC qual scope s.heap.objs.size f cdv)) → sp vs H Q E →
      ∃ t, PSs (cxOf CX P w K mg base N qual scope f cdv A outer s H E) body t ∧ t { nx := fun _ H' => Q .non H', rt := Q } (start N vs) H) :
    FnOk P w K mg base CX (k + 1) f (PySem.W.fnOf name qual params body scope dV kV doc pm an cdv ct) ps sp := by
  refine ⟨len, fun A outer s H args us vs Q E hr e0 hb r hsp => ?_⟩
  have hl := len _ _ _ _ hsp
  have KX : K.In s.heap := e0.mod.kin.keeps fun b o e => (e0.bs b o e).1
  have lim : s.heap.NoLimit := e0.mod.nolimit.keeps fun b o e => (e0.bs b o e).1
  have hkind : ∀ y ∈ ps.zip us, scope.names.lookup y.1 = some .local ∨ (scope.names.lookup y.1 = some .cell ∧ ((cellsFrom (s.heap.objs.size + 1) scope.names []).lookup y.1).isSome = true) := fun ⟨n, v⟩ hy => by
    rcases S.par n (List.of_mem_zip hy).1 with q | q
    · exact .inl q
    · exact .inr ⟨q, PySem.W.cellsFrom_some _ _ _ (.inl q)⟩
  refine codeAny_call_function hr.depth (KX _ _ lk) rfl S.co S.gen rfl (PySem.W.codeRec_of KX hcd) (hb _ _ _ _ ?_)
  refine wpAny_newFunctionEnv_cells S.kind hkind fun env he s1 x => ?_
  subst he
  refine ⟨lim.keeps x.toInCall.keep, codeAny_func ?_⟩
  obtain ⟨t, ht, hq⟩ := hbody A outer s H vs Q E (hr.deeper _) hsp
  have I : Inv (cxOf CX P w K mg base N qual scope f cdv A outer s H E) [] (start N vs) H s1 := inv_start S hr.hd e0 hl r x
  refine wpAny_mono (ht [] s1 (start N vs) H _ I hq) (fun fl s' hs => ?_) fun e s' hs => hs
  have fin : ∀ {σ' : St} {H' : Hp} {v : V} {u : Value}, Inv (cxOf CX P w K mg base N qual scope f cdv A outer s H E) [] σ' H' s' → RelV v u → Q v H' → CE outer P w H s Q u s' :=
    fun {σ' H' v u} J rv q => ⟨v, H', J.os, J.bare, J.base, J.hok, rv, q⟩
  cases fl with
  | ret u =>
    obtain ⟨v, σ', H', J, rv, q⟩ := hs
    exact fin J rv q
  | next =>
    obtain ⟨σ', H', J, q⟩ := hs
    exact fin (v := V.non) (u := Value.none) J rfl q
  | brk =>
    obtain ⟨_, _, _, q⟩ := hs
    exact False.elim q
  | cont =>
    obtain ⟨_, _, _, q⟩ := hs
    exact False.elim q
end L2
namespace L2
open PySem PySem.Spec PyProof.Rows
section
variable {X : Cx} {x : Str} {p pos : Pos} {e : Expr} {es : List Expr} {t : TA} {id T : String} {r : List V → Hp → VK → Prop}
def tCB (r : List V → Hp → VK → Prop) (t : TA) : TE := fun σ H Q => t σ H fun vs H1 => r vs H1 Q
theorem pe_callB (hc : CallR X (.builtin id) r) (hg : Gl X x) (hm : X.mg x = none) (hv : bootBuiltins x = some (.builtin id)) (ha : PA X (e :: es) t) (hn : x ≠ "__name__" := by decide) (hdb : (x == ("__debug__" : Str)) = false := by decide)
    (he : starEach (e :: es) X.env = (false, eval e X.env) :: starEach es X.env := by rfl) (hpl : (backTo pos (starEach es X.env)).any (·.1) = false := by rfl) : PE X (.Call (.Name x p) (e :: es) [] pos) (tCB r t) := by
  intro pins s σ H Q I h
  refine wpAny_Call_Name_kw (ld_blt I hg hm hv ?_ hn hdb)
  exact PyProof.Rows.callWith_builtin1 (thn (ha pos pins s σ H _ I h) fun us s1 ⟨vs, H1, I1, r1, q1⟩ => hc pins s1 σ H1 vs us Q I1 r1 q1) he hpl
theorem pe_callTy (hc : CallR X (.type T) r) (hg : Gl X x) (hm : X.mg x = none) (hv : bootBuiltins x = some (.type T)) (ha : PA X (e :: es) t) (hn : x ≠ "__name__" := by decide) (hdb : (x == ("__debug__" : Str)) = false := by decide)
    (he : starEach (e :: es) X.env = (false, eval e X.env) :: starEach es X.env := by rfl) (hpl : (backTo pos (starEach es X.env)).any (·.1) = false := by rfl) : PE X (.Call (.Name x p) (e :: es) [] pos) (tCB r t) := by
  intro pins s σ H Q I h
  refine wpAny_Call_Name_kw (ld_blt I hg hm hv ?_ hn hdb)
  exact PyProof.Rows.callWith_type1 (thn (ha pos pins s σ H _ I h) fun us s1 ⟨vs, H1, I1, r1, q1⟩ => hc pins s1 σ H1 vs us Q I1 r1 q1) he hpl
end
end L2
namespace HT
open PySem PyProof.Rows
section
open PySem.SeqAt
open PySem.AutoSeq1 (wpAny_loadPart')
open PySem.MeetsSeq PySem.MeetsSeq2 PySem.MeetsSeq3
end
section
variable {prog : Program} {w : World} {A : Around} {E : Value → Shared → Prop} {s : Shared}
theorem cat_tup {t b : Addr} {vs ws : List Value} {Q : Value → Shared → Prop} (ht : IsTup s.heap t vs.toArray) (hb : IsTup s.heap b ws.toArray) (hv : vs ≠ [])
    (h1 : ws = [] → Q (.ref t) s) (h2 : ws ≠ [] → Q (.ref s.heap.objs.size) { s with heap := s.heap.push { cls := .type "tuple", data := .seq (vs ++ ws).toArray } })
    (hsz : vs.length + ws.length ≤ sizeLine) : wpAny (model prog w) A (binaryOp .Add (.ref t) (.ref b)) Q E s := by
  obtain ⟨⟨cls, dd, data, sl⟩, ho, hc, n, hd⟩ := id ht
  obtain ⟨⟨cls2, dd2, data2, sl2⟩, ho2, hc2, n2, hd2⟩ := id hb
  simp only at hc hd hc2 hd2
  subst hc hd hc2 hd2
  have e : vs.toArray ++ ws.toArray = (vs ++ ws).toArray := by simp
  by_cases hw : ws = []
  · exact concat_meets ⟨_, ho, rfl⟩ ⟨_, ho2, rfl⟩ noFill_tuple_add seq_tuple_add PySem.F.slot_tuple_add PySem.F.entry_tuple_add (PySem.F.args_tuple_add_2 _ _)
      (tuple_addW1 t b vs.toArray ws.toArray n n2 dd dd2 sl sl2 (by simpa using hv) (by simp [hw])) ⟨ho, ho2, h1 hw⟩
  · refine concat_meets ⟨_, ho, rfl⟩ ⟨_, ho2, rfl⟩ noFill_tuple_add seq_tuple_add PySem.F.slot_tuple_add PySem.F.entry_tuple_add (PySem.F.args_tuple_add_2 _ _)
      (tuple_addW2 t b vs.toArray ws.toArray n n2 dd dd2 sl sl2 (by simpa using hv) (by simpa using hw) (by rw [List.size_toArray, List.size_toArray]; exact hsz)) ⟨ho, ho2, ?_⟩
    rw [e]
    exact h2 hw
def sIx (n d : Nat) : Option Int → Nat
  | none => d
  | some v => if v < 0 then (v + (n : Int)).toNat else min v.toNat n
theorem sIx_le (n d : Nat) (hd : d ≤ n) (o : Option Int) : sIx n d o ≤ n := by
  cases o with
  | none => exact hd
  | some v =>
    show (if v < 0 then (v + (n : Int)).toNat else min v.toNat n) ≤ n
    by_cases hv : v < 0
    · rw [if_pos hv]; omega
    · rw [if_neg hv]; exact Nat.min_le_right _ _
theorem clip_eq (v : Int) (n d : Nat) : (if v < 0 then max (v + (n : Int)) 0 else min v (n : Int)) = ((sIx n d (some v) : Nat) : Int) := by
  show (if v < 0 then max (v + (n : Int)) 0 else min v (n : Int)) = (((if v < 0 then (v + (n : Int)).toNat else min v.toNat n) : Nat) : Int)
  by_cases hv : v < 0
  · simp only [if_pos hv]; omega
  · simp only [if_neg hv]; omega
theorem adjust_gen (lo hi : Option Int) (n : Nat) : Builtin.Slice.sliceAdjust lo hi 1 (n : Int) = (((sIx n 0 lo : Nat) : Int), ((sIx n n hi : Nat) : Int)) := by
  have h1 : ¬ ((1 : Int) < 0) := by omega
  unfold Builtin.Slice.sliceAdjust
  simp only [h1, if_false]
  refine Prod.ext ?_ ?_
  · cases lo with
    | none => rfl
    | some v => exact clip_eq v n 0
  · cases hi with
    | none => rfl
    | some v => exact clip_eq v n n
theorem places_gen (i j : Nat) : Builtin.Slice.slicePlaces (i : Int) (j : Int) 1 = j - i := by
  unfold Builtin.Slice.slicePlaces
  have h1 : (1 : Int) > 0 := by omega
  simp only [h1, if_true, Int.ediv_one]
  split <;> omega
theorem slicePart_ {v : Value} {o : Option Int} {Q : Option Int → Shared → Prop} (p : IsPart v o) (h : Q o s) : wpAny (model prog w) A (Builtin.Slice.slicePartIndex v) Q E s := by
  cases p with
  | none => exact slicePart_none h
  | int i t => exact slicePart_int h
theorem sliceApplied_gen {sl : Addr} {vl vu : Value} {lo hi : Option Int} {n : Nat} {Q : Int × Int × Nat → Shared → Prop} (hs : s.heap.IsSliceOf sl vl vu .none) (pl : IsPart vl lo) (pu : IsPart vu hi)
    (h : Q (((sIx n 0 lo : Nat) : Int), 1, sIx n n hi - sIx n 0 lo) s) : wpAny (model prog w) A (Builtin.Slice.sliceApplied (.ref sl) (pure (n : Int))) Q E s := by
  obtain ⟨os, hos, hcs, hds⟩ := id hs
  unfold Builtin.Slice.sliceApplied Builtin.Slice.sliceFields
  refine wpAny_bind (wpAny_bind (wpAny_field hos hds (x := vl) rfl (wpAny_bind (wpAny_field hos hds (x := vu) rfl (wpAny_bind (wpAny_field hos hds (x := .none) rfl (wpAny_pure ?_)))))))
  refine wpAny_bind (slicePart_none ?_)
  show wpAny _ _ (if ((1 : Int) == 0) = true then _ else _) _ _ s
  rw [if_neg (by decide)]
  refine wpAny_bind (slicePart_ pl (wpAny_bind (slicePart_ pu (wpAny_bind (wpAny_pure ?_)))))
  show wpAny _ _ (match Builtin.Slice.sliceAdjust lo hi 1 (n : Int) with | (lo, hi) => pure (lo, (1 : Int), Builtin.Slice.slicePlaces lo hi 1)) _ _ s
  rw [adjust_gen lo hi n]
  show wpAny _ _ (pure (((sIx n 0 lo : Nat) : Int), (1 : Int), Builtin.Slice.slicePlaces ((sIx n 0 lo : Nat) : Int) ((sIx n n hi : Nat) : Int) 1)) _ _ s
  rw [places_gen]
  exact wpAny_pure h
theorem pick_gen (xs : Array Value) (i k : Nat) : ((List.range k).filterMap fun (m : Nat) => xs[((i : Int) + (m : Int) * 1).toNat]?).toArray = ((xs.toList.drop i).take k).toArray := by
  have e : (fun (m : Nat) => xs[((i : Int) + (m : Int) * 1).toNat]?) = fun m => xs[i + m]? := by
    funext m
    have : ((i : Int) + (m : Int) * 1).toNat = i + m := by omega
    rw [this]
  rw [e]
  have := pick_run xs i k
  rw [List.filterMap_map] at this
  have e2 : ((fun x => xs[x]?) ∘ fun x => i + x) = fun m => xs[i + m]? := rfl
  rw [e2] at this
  rw [this]
theorem getItem_tuple_cut {t sl : Addr} {items : Array Value} {vl vu : Value} {lo hi : Option Int} {Q : Value → Shared → Prop} (ht : IsTup s.heap t items) (hs : s.heap.IsSliceOf sl vl vu .none) (pl : IsPart vl lo) (pu : IsPart vu hi)
    (hw : ¬ (sIx items.size 0 lo = 0 ∧ sIx items.size items.size hi = items.size))
    (h : Q (.ref s.heap.objs.size) { s with heap := s.heap.push { cls := .type "tuple", data := .seq ((items.toList.drop (sIx items.size 0 lo)).take (sIx items.size items.size hi - sIx items.size 0 lo)).toArray } })
    (hsz : items.size ≤ sizeLine) : wpAny (model prog w) A (getItem (.ref t) (.ref sl)) Q E s := by
  have htake : sizeOk (.seq ((items.toList.drop (sIx items.size 0 lo)).take (sIx items.size items.size hi - sIx items.size 0 lo)).toArray) := by
    show ((items.toList.drop (sIx items.size 0 lo)).take (sIx items.size items.size hi - sIx items.size 0 lo)).toArray.size ≤ sizeLine
    rw [List.size_toArray, List.length_take, List.length_drop, Array.length_toList]
    omega
  have hj : sIx items.size items.size hi ≤ items.size := sIx_le _ _ (Nat.le_refl _) hi
  obtain ⟨os, hos, hcs, hds⟩ := id hs
  have hTs : s.TypeIs (.ref sl) "slice" := ⟨os, hos, hcs⟩
  unfold getItem
  try with_reducible refine wpAny_holding ?_
  first | refine wpAny_bind (wpAny_pure ?_) | skip
  refine wpAny_bind (wpAny_sequenceKey ht.typeIs (by decide) ?_)
  refine wpAny_bind (wpAny_callSpecial?_slot (name := Str.ofString "__getitem__") ht.typeIs PyProof.Rows.slot_tuple_getitem
    (wpAny_call_entry PyProof.Rows.slot_tuple_getitem ht.typeIs entry_tuple_getitem ?_ (args_tuple_getitem _ _)))
  show wpAny _ _ (Builtin.Tuple.tupleItemsOf (.ref t) >>= _) _ _ s
  refine wpAny_bind (tupleItemsOf_ ht ?_)
  refine wpAny_bind (wpAny_typeOf hTs ?_)
  rw [if_pos (by decide)]
  refine wpAny_bind (sliceApplied_gen hs pl pu ?_)
  have hno : ¬ ((((sIx items.size 0 lo : Nat) : Int) == 0 && (1 : Int) == 1 && (sIx items.size items.size hi - sIx items.size 0 lo) == items.size) = true) := by
    intro q
    rw [Bool.and_eq_true, Bool.and_eq_true] at q
    have q1 : ((sIx items.size 0 lo : Nat) : Int) = 0 := eq_of_beq q.1.1
    have q2 : sIx items.size items.size hi - sIx items.size 0 lo = items.size := eq_of_beq q.2
    exact hw ⟨by omega, by omega⟩
  show wpAny _ _ (if (((sIx items.size 0 lo : Nat) : Int) == 0 && (1 : Int) == 1 && (sIx items.size items.size hi - sIx items.size 0 lo) == items.size) = true then _ else _) _ _ s
  rw [if_neg hno, pick_gen]
  first
    | exact wpAny_bind (m := Builtin.Tuple.tupleExact _) (wpAny_newObj_type (wpAny_pure ⟨_, rfl, wpAny_pure h⟩) htake)
    | exact wpAny_bind (m := Builtin.Tuple.tupleExact _) (wpAny_newObj_type (wpAny_bind (wpAny_pure (wpAny_pure ⟨_, rfl, wpAny_pure h⟩))) htake)
    | exact wpAny_bind (wpAny_bind (m := Builtin.Tuple.tupleExact _) (wpAny_newObj_type (wpAny_pure (wpAny_pure ⟨_, rfl, wpAny_pure h⟩)) htake))
    | exact wpAny_bind (wpAny_bind (m := Builtin.Tuple.tupleExact _) (wpAny_newObj_type (wpAny_pure ⟨_, rfl, wpAny_pure h⟩) htake))
end
end HT
namespace L2
open PySem PySem.Spec PyProof.Rows
abbrev TO := St → Hp → (Option Int → Hp → Prop) → Prop
def PO (X : Cx) (e : Option Expr) (t : TO) : Prop :=
  ∀ (pins : List (Addr × Obj)) (s : Shared) (σ : St) (H : Hp) (Q : Option Int → Hp → Prop), Inv X pins σ H s → t σ H Q →
    wpAny (model X.prog X.w) X.A (evalPart e X.env) (fun u s' => ∃ o H', Inv X pins σ H' s' ∧ IsPart u o ∧ Q o H') X.xe s
def tNoPart : TO := fun _ H Q => Q none H
def tPart (t : TE) : TO := fun σ H Q => t σ H fun x H1 => ∃ i, x = .int i ∧ Q (some i) H1
theorem intsAre_of {ns : List Int} : ∀ {us : List Value}, Vals (ns.map V.int) us → IntsAre us ns := by
  induction ns with
  | nil => intro us r; rw [List.map_nil] at r; cases r; exact .nil
  | cons n ns ih =>
    intro us r
    rw [List.map_cons] at r
    cases r with
    | cons r1 r2 =>
      obtain ⟨t, e⟩ := r1
      subst e
      exact .cons n t (ih r2)
section
variable {X : Cx} {e : Expr} {te : TE} {lo hi : Option Expr} {tl th : TO} {pos p2 : Pos}
theorem po_none : PO X none tNoPart := by
  intro pins s σ H Q I h
  rw [evalPart_none]
  exact wpAny_pure ⟨none, H, I, .none, h⟩
theorem po_some (h : PE X e te) : PO X (some e) (tPart te) := by
  intro pins s σ H Q I hw
  rw [evalPart_some]
  refine thn (h pins s σ H _ I hw) fun u s1 ⟨x, H1, I1, r1, q1⟩ => ?_
  obtain ⟨i, rfl, q⟩ := q1
  obtain ⟨t, rfl⟩ := r1
  exact ⟨some i, H1, I1, .int i t, q⟩
def SlR (X : Cx) (r : V → Option Int → Option Int → Hp → VK → Prop) : Prop :=
  ∀ (pins : List (Addr × Obj)) (s : Shared) (σ : St) (H : Hp) (x : V) (v vl vu : Value) (lo hi : Option Int) (sl : Addr) (Q : VK), Inv X pins σ H s → RelV x v → s.heap.IsSliceOf sl vl vu .none → IsPart vl lo → IsPart vu hi → r x lo hi H Q →
    ∃ T id, typeLookup (.type T) "__getitem__" = pure (some (.builtin id)) ∧ s.TypeIs v T ∧ wpAny (model X.prog X.w) X.A (getItem v (.ref sl)) (EP X pins σ Q) X.xe s
theorem SlR.or {r r' : V → Option Int → Option Int → Hp → VK → Prop} (h : SlR X r) (h' : SlR X r') : SlR X (fun x lo hi H Q => r x lo hi H Q ∨ r' x lo hi H Q) := by
  intro pins s σ H x v vl vu lo hi sl Q I rx hs pl pu q
  rcases q with q | q
  · exact h pins s σ H x v vl vu lo hi sl Q I rx hs pl pu q
  · exact h' pins s σ H x v vl vu lo hi sl Q I rx hs pl pu q
def tSl (r : V → Option Int → Option Int → Hp → VK → Prop) (te : TE) (tl th : TO) : TE := fun σ H Q => te σ H fun x H1 => tl σ H1 fun l H2 => th σ H2 fun u H3 => r x l u H3 Q
theorem pe_slice {r : V → Option Int → Option Int → Hp → VK → Prop} (hr : SlR X r) (he : PE X e te) (hl : PO X lo tl) (hu : PO X hi th) : PE X (.Subscript e (.Slice lo hi none p2) pos) (tSl r te tl th) := by
  intro pins s σ H Q I h
  refine Subscript_ (thn (he pins s σ H _ I h) fun v s1 ⟨x, H1, I1, r1, q1⟩ => ?_)
  refine wpAny_Slice (thn (hl pins s1 σ H1 _ I1 q1) fun vl s2 ⟨l, H2, I2, pl, q2⟩ => thn (hu pins s2 σ H2 _ I2 q2) fun vu s3 ⟨u, H3, I3, pu, q3⟩ => ?_)
  rw [evalPart_none]
  refine wpAny_pure ?_
  have I4 : Inv X pins σ H3 { s3 with heap := s3.heap.push { cls := .type "slice", data := .fields #[vl, vu, .none] } } := I3.kept (t' := s3.toks) fun b ob q => Heap.get?_push_of_some _ q
  obtain ⟨T, id, hT, ht, hg⟩ := hr pins { s3 with heap := s3.heap.push { cls := .type "slice", data := .fields #[vl, vu, .none] } } σ H3 x v vl vu l u s3.heap.objs.size Q I4 r1 (Heap.IsSliceOf.new ..) pl pu q3
  show wpAny (model X.prog X.w) X.A (subscriptTail e (.Slice lo hi none p2) v (.ref s3.heap.objs.size)) (EP X pins σ Q) X.xe { s3 with heap := s3.heap.push { cls := .type "slice", data := .fields #[vl, vu, .none] } }
  exact tail_any (ops := [.ref s3.heap.objs.size, v]) ht hT hg (by with_unfolding_all rfl)
def cutV (xs : List V) (lo hi : Option Int) : List V := (xs.drop (HT.sIx xs.length 0 lo)).take (HT.sIx xs.length xs.length hi - HT.sIx xs.length 0 lo)
theorem cutV_length (xs : List V) (lo hi : Option Int) : (cutV xs lo hi).length ≤ xs.length := by
  unfold cutV
  rw [List.length_take, List.length_drop]
  omega
def rSlT (K : PySem.W.Frag) : V → Option Int → Option Int → Hp → VK → Prop := fun x lo hi H Q => ∃ a xs, x = .ref a ∧ SqT K H a xs ∧
  ¬ (HT.sIx xs.length 0 lo = 0 ∧ HT.sIx xs.length xs.length hi = xs.length) ∧ ∀ p, H p = none → Q (.ref p) (upd H p (.tup (cutV xs lo hi)))
theorem sl_tup : SlR X (rSlT X.K) := by
  intro pins s σ H x v vl vu lo hi sl Q I rx hs pl pu h
  obtain ⟨a, xs, rfl, hx, hw, q⟩ := h
  cases rx
  obtain ⟨its, r, ht, hz⟩ := I.tuple hx
  have hlen : its.toArray.size = xs.length := by rw [List.size_toArray]; exact r.length.symm
  refine ⟨"tuple", _, PyProof.Rows.slot_tuple_getitem.lookup, ht.typeIs, ?_⟩
  refine HT.getItem_tuple_cut ht hs pl pu (by rw [hlen]; exact hw) ?_ (by rw [hlen]; exact hz)
  rw [hlen]
  refine ⟨.ref s.heap.objs.size, _, I.laid (t' := s.toks) (o := .tup (cutV xs lo hi)) (fun b ob q => Heap.get?_push_of_some _ q) (Nat.le_refl _) ?_, rfl, q _ (I.hok.fresh (Nat.le_refl _))⟩
  exact ⟨Nat.le_trans (cutV_length xs lo hi) hz, _, (r.drop (HT.sIx xs.length 0 lo)).take (HT.sIx xs.length xs.length hi - HT.sIx xs.length 0 lo), TupN.new _ _⟩
def rCatT (K : PySem.W.Frag) : R2 := fun x y H Q => ∃ a b xs ys, x = .ref a ∧ y = .ref b ∧ SqT K H a xs ∧ SqT K H b ys ∧ xs ≠ [] ∧ xs.length + ys.length ≤ sizeLine ∧
  (ys = [] → Q (.ref a) H) ∧ (ys ≠ [] → ∀ p, H p = none → Q (.ref p) (upd H p (.tup (xs ++ ys))))
theorem Vals.nil_iff {xs : List V} {us : List Value} (r : Vals xs us) : us = [] ↔ xs = [] := by
  cases r with
  | nil => simp
  | cons _ _ => simp
theorem op_catT : OpR X (binaryOp .Add) (rCatT X.K) := by
  intro pins s σ H x y v u Q I rx ry h
  obtain ⟨a, b, xs, ys, rfl, rfl, ha, hb, hx, hz, q1, q2⟩ := h
  cases rx
  cases ry
  obtain ⟨its, r1, p1, _⟩ := I.tuple ha
  obtain ⟨its2, r2, p2, _⟩ := I.tuple hb
  refine HT.cat_tup p1 p2 (fun z => hx (r1.nil_iff.mp z)) (fun z => ⟨.ref a, H, I, rfl, q1 (r2.nil_iff.mp z)⟩) (fun z => ?_) (by rw [← r1.length, ← r2.length]; exact hz)
  refine ⟨.ref s.heap.objs.size, _, I.laid (t' := s.toks) (o := .tup (xs ++ ys)) (fun b ob q => Heap.get?_push_of_some _ q) (Nat.le_refl _) ?_, rfl, q2 (fun w => z (r2.nil_iff.mpr w)) _ (I.hok.fresh (Nat.le_refl _))⟩
  exact ⟨by rw [List.length_append]; exact hz, _, r1.append r2, TupN.new _ _⟩
end
end L2
namespace L2
open PySem PySem.Spec PyProof.Rows
def ixN (n : Nat) (i : Int) : Option Nat := if 0 ≤ i then (if i < n then some i.toNat else none) else if -(n : Int) ≤ i then some (i + n).toNat else none
def atI {α : Type} (xs : List α) (i : Int) : Option α := (ixN xs.length i).bind fun j => xs[j]?
theorem ixN_seq {n : Nat} {i : Int} {j : Nat} (h : ixN n i = some j) : seqIndex? i n = some j ∧ j < n ∧ -(n : Int) ≤ i ∧ i < n := by
  unfold ixN at h
  by_cases h0 : 0 ≤ i
  · rw [if_pos h0] at h
    by_cases h1 : i < n
    · rw [if_pos h1] at h
      have e : i.toNat = j := Option.some.inj h
      exact ⟨by rw [seqIndex_of h0 h1, e], by omega, by omega, h1⟩
    · rw [if_neg h1] at h; cases h
  · rw [if_neg h0] at h
    by_cases h1 : -(n : Int) ≤ i
    · rw [if_pos h1] at h
      have e : (i + n).toNat = j := Option.some.inj h
      exact ⟨by rw [seqIndex_neg (by omega) h1, e], by omega, h1, by omega⟩
    · rw [if_neg h1] at h; cases h
theorem atI_get {α : Type} {xs : List α} {i : Int} {v : α} (h : atI xs i = some v) : ∃ j, seqIndex? i xs.length = some j ∧ xs[j]? = some v ∧ j < xs.length ∧ -(xs.length : Int) ≤ i ∧ i < xs.length := by
  unfold atI at h
  cases e : ixN xs.length i with
  | none => rw [e] at h; cases h
  | some j =>
    rw [e] at h
    obtain ⟨h1, h2, h3, h4⟩ := ixN_seq e
    exact ⟨j, h1, h, h2, h3, h4⟩
theorem atI_nat {α : Type} {xs : List α} {j : Nat} {v : α} (h : xs[j]? = some v) : atI xs (j : Int) = some v := by
  have hj : j < xs.length := (List.getElem?_eq_some_iff.mp h).1
  have e : ixN xs.length (j : Int) = some j := by
    unfold ixN
    rw [if_pos (by omega), if_pos (by omega)]; simp
  unfold atI; rw [e]; exact h
def PlainIx (b : Expr) : Prop := ∀ o i, subscripted b false o i = operate [o, i] (getItem o i)
def IxR (X : Cx) (r : R2) : Prop :=
  ∀ (value slice : Expr) (pins : List (Addr × Obj)) (s : Shared) (σ : St) (H : Hp) (x y : V) (v u : Value) (Q : VK), Inv X pins σ H s → RelV x v → RelV y u → r x y H Q →
    subscripted slice false v u = operate [v, u] (getItem v u) → wpAny (model X.prog X.w) X.A (subscriptTail value slice v u) (EP X pins σ Q) X.xe s
def MtR (X : Cx) (id : String) (r : V → List V → Hp → VK → Prop) : Prop :=
  ∀ (pins : List (Addr × Obj)) (s : Shared) (σ : St) (H : Hp) (x : V) (xs : List V) (v : Value) (us : List Value) (Q : VK), Inv X pins σ H s → RelV x v → Vals xs us → r x xs H Q →
    wpAny (model X.prog X.w) X.A (call (.builtin id) (v :: us)) (EP X pins σ Q) X.xe s
section
variable {X : Cx} {a b : Expr} {ta tb : TE} {pos : Pos}
theorem IxR.or {r r' : R2} (h : IxR X r) (h' : IxR X r') : IxR X (fun x y H Q => r x y H Q ∨ r' x y H Q) := by
  intro value slice pins s σ H x y v u Q I rx ry q hs
  rcases q with q | q
  · exact h value slice pins s σ H x y v u Q I rx ry q hs
  · exact h' value slice pins s σ H x y v u Q I rx ry q hs
theorem MtR.or {id : String} {r r' : V → List V → Hp → VK → Prop} (h : MtR X id r) (h' : MtR X id r') : MtR X id (fun x xs H Q => r x xs H Q ∨ r' x xs H Q) := by
  intro pins s σ H x xs v us Q I rx rs q
  rcases q with q | q
  · exact h pins s σ H x xs v us Q I rx rs q
  · exact h' pins s σ H x xs v us Q I rx rs q
theorem pe_ix {r : R2} (hr : IxR X r) (ha : PE X a ta) (hb : PE X b tb) (hs : PlainIx b) : PE X (.Subscript a b pos) (tOp r ta tb) := by
  intro pins s σ H Q I h
  exact Subscript_ (binT ha hb I h fun v u s2 x y H2 I2 rx ry q => hr a b pins s2 σ H2 x y v u Q I2 rx ry q (hs _ _))
def rIxL (K : PySem.W.Frag) : R2 := fun x y H Q => ∃ p xs i v, x = .ref p ∧ y = .int i ∧ SqL K H p xs ∧ atI xs i = some v ∧ Q v H
def rIxT (K : PySem.W.Frag) : R2 := fun x y H Q => ∃ p xs i v, x = .ref p ∧ y = .int i ∧ SqT K H p xs ∧ atI xs i = some v ∧ Q v H
theorem ix_list : IxR X (rIxL X.K) := by
  intro value slice pins s σ H x y v u Q I rx ry h hs
  obtain ⟨p, xs, i, z, rfl, rfl, hq, he, q⟩ := h
  cases rx
  obtain ⟨t, rfl⟩ := ry
  obtain ⟨its, r, pl, hz⟩ := I.list hq
  obtain ⟨j, h1, h2, h3, h4, h5⟩ := atI_get he
  obtain ⟨w, ew, rw'⟩ := r.get h2
  have hl := r.length
  have hn := line63
  have fin : EP X pins σ Q w s := ⟨z, H, I, rw', q⟩
  by_cases h0 : 0 ≤ i
  · have hj : i.toNat = j := by
      rw [seqIndex_of h0 h5] at h1
      exact Option.some.inj h1
    exact item_listR pl.isList h0 (by omega) (by rw [hj]; simpa using ew) fin hs
  · have hj : (i + (its.toArray.size : Int)).toNat = j := by
      rw [seqIndex_neg (by omega) h4] at h1
      rw [List.size_toArray, ← hl]
      exact Option.some.inj h1
    exact subscriptTail_builtinR (x := w) pl.isList.typeIs slot_list_getitem.lookup
      (wpAny_getItem_list_neg (Q := fun r s' => r = w ∧ EP X pins σ Q r s') pl.isList (by omega) (by rw [List.size_toArray] <;> omega) (by omega) (by rw [hj]; simpa using ew) ⟨rfl, fin⟩) hs
theorem ix_tup : IxR X (rIxT X.K) := by
  intro value slice pins s σ H x y v u Q I rx ry h hs
  obtain ⟨p, xs, i, z, rfl, rfl, hq, he, q⟩ := h
  cases rx
  obtain ⟨t, rfl⟩ := ry
  obtain ⟨its, r, pl, hz⟩ := I.tuple hq
  obtain ⟨j, h1, h2, h3, h4, h5⟩ := atI_get he
  obtain ⟨w, ew, rw'⟩ := r.get h2
  have hl := r.length
  have hn := line63
  have fin : EP X pins σ Q w s := ⟨z, H, I, rw', q⟩
  exact subscriptTail_builtinR (x := w) pl.typeIs slot_tuple_getitem.lookup
    (getItem_tuple (j := j) (Q := fun r s' => r = w ∧ EP X pins σ Q r s') pl (by omega) (by omega) (by rw [List.size_toArray, ← hl]; exact h1) (by simpa using ew) ⟨rfl, fin⟩) hs
theorem mapSeq_set (its : List Value) (n j : Nat) (u : Value) : Obj.mapSeq (·.setIfInBounds j u) { cls := .type "list", data := .seq its.toArray n } = { cls := .type "list", data := .seq (its.set j u).toArray n } := by
  simp [Obj.mapSeq]
theorem Inv.lst {pins : List (Addr × Obj)} {σ : St} {H : Hp} {s : Shared} {p : Addr} {xs : List V} (I : Inv X pins σ H s) (h : H p = some (.lst xs)) :
    ∃ (its : List Value) (n : Nat), Vals xs its ∧ s.heap.get? p = some { cls := .type "list", data := .seq its.toArray n } ∧ xs.length ≤ sizeLine := by
  obtain ⟨z, its, n, r, e⟩ := I.hok p _ h
  exact ⟨its, n, r, e, z⟩
theorem Inv.lstUpd {pins : List (Addr × Obj)} {σ : St} {H : Hp} {s : Shared} {p : Addr} {xs ys : List V} {its its' : List Value} {n n' : Nat} {f : Obj → Obj} (I : Inv X pins σ H s) (h : H p = some (.lst xs))
    (ho : s.heap.get? p = some { cls := .type "list", data := .seq its.toArray n }) (hf : f { cls := .type "list", data := .seq its.toArray n } = { cls := .type "list", data := .seq its'.toArray n' }) (r : Vals ys its') (hz : ys.length ≤ sizeLine) (t : Nat) :
    Inv X pins σ (upd H p (.lst ys)) { s with heap := s.heap.update p f, toks := t } := by
  have e : (s.heap.update p f).get? p = some { cls := .type "list", data := .seq its'.toArray n' } := by
    rw [Heap.get?_update_self f ho (by rw [hf] <;> rfl), hf]
  refine I.write (x := p) (e := p) (by rw [h]; trivial) (.inl rfl) (fun b u hb q => (Heap.get?_update_other _ _ (Ne.symm hb)).trans q) ⟨_, e⟩ ?_
  exact ⟨hz, its', n', r, e⟩
def rSetL : V → V → V → Hp → (Hp → Prop) → Prop := fun o i v H Q => ∃ p xs k j, o = .ref p ∧ i = .int k ∧ H p = some (.lst xs) ∧ ixN xs.length k = some j ∧ Q (upd H p (.lst (xs.set j v)))
theorem set_list : PSet X rSetL := by
  intro pins s σ H o i v ov iv u Q I ro ri rv h
  obtain ⟨p, xs, k, j, rfl, rfl, hp, hj, q⟩ := h
  cases ro
  obtain ⟨t, rfl⟩ := ri
  obtain ⟨its, n, r, ho, hz⟩ := I.lst hp
  obtain ⟨h1, h2, h3, h4⟩ := ixN_seq hj
  have hl := r.length
  have hn := line63
  have I' : Inv X pins σ (upd H p (.lst (xs.set j v))) { s with heap := s.heap.update p (Obj.mapSeq (·.setIfInBounds j u)) } :=
    I.lstUpd hp ho (mapSeq_set its n j u) (r.set rv j) (by rw [List.length_set]; exact hz) s.toks
  by_cases h0 : 0 ≤ k
  · have hk : k.toNat = j := by
      rw [seqIndex_of h0 h4] at h1
      exact Option.some.inj h1
    exact PySem.W.ki_setAt ho h0 (by omega) (by rw [List.size_toArray, ← hl]; exact h4) (by rw [hk]; exact ⟨_, I', q⟩)
  · have hk : (k + (its.toArray.size : Int)).toNat = j := by
      rw [seqIndex_neg (by omega) h3] at h1
      rw [List.size_toArray, ← hl]
      exact Option.some.inj h1
    exact PySem.W.ki_setBack ho (by omega) (by rw [List.size_toArray, ← hl]; exact h3) (by omega) (by rw [hk]; exact ⟨_, I', q⟩)
theorem slice_bounds (lo hi : Option Int) (n : Nat) : (sliceBounds lo hi none n).1 = ((HT.sIx n 0 lo : Nat) : Int) ∧ (sliceBounds lo hi none n).2.1 = ((HT.sIx n n hi : Nat) : Int) ∧ (sliceBounds lo hi none n).2.2 = 1 := by
  refine ⟨?_, ?_, rfl⟩
  · cases lo with
    | none => simp [sliceBounds, HT.sIx]
    | some i =>
      simp only [sliceBounds, HT.sIx, Option.getD_none, show (1 : Int) > 0 by decide, if_true]
      by_cases h : i < 0
      · simp only [h, if_true] <;> omega
      · simp only [h, if_false] <;> omega
  · cases hi with
    | none => simp [sliceBounds, HT.sIx]
    | some i =>
      simp only [sliceBounds, HT.sIx, Option.getD_none, show (1 : Int) > 0 by decide, if_true]
      by_cases h : i < 0
      · simp only [h, if_true] <;> omega
      · simp only [h, if_false] <;> omega
theorem slicePick_cut (its : List Value) (lo hi : Option Int) : slicePick its.toArray lo hi none = ((its.drop (HT.sIx its.length 0 lo)).take (HT.sIx its.length its.length hi - HT.sIx its.length 0 lo)).toArray := by
  obtain ⟨h1, h2, h3⟩ := slice_bounds lo hi its.toArray.size
  unfold slicePick
  rw [h1, h2, h3]
  simp only [sliceRange_one, pick_run, List.size_toArray] <;> rfl
def rSlL (K : PySem.W.Frag) : V → Option Int → Option Int → Hp → VK → Prop := fun x lo hi H Q => ∃ a xs, x = .ref a ∧ SqL K H a xs ∧ ∀ p, H p = none → Q (.ref p) (upd H p (.lst (cutV xs lo hi)))
theorem sl_list : SlR X (rSlL X.K) := by
  intro pins s σ H x v vl vu lo hi sl Q I rx hs pl pu h
  obtain ⟨a, xs, rfl, hx, q⟩ := h
  cases rx
  obtain ⟨its, r, ht, hz⟩ := I.list hx
  have hlen := r.length
  refine ⟨"list", _, slot_list_getitem.lookup, ht.isList.typeIs, ?_⟩
  refine wpAny_getItem_list_slice ht.isList hs pl pu .none (by simp) ?_ (by rw [List.size_toArray] <;> omega)
  rw [slicePick_cut, ← hlen]
  refine ⟨.ref s.heap.objs.size, _, I.laid (t' := s.toks) (o := .lst (cutV xs lo hi)) (fun b ob q => Heap.get?_push_of_some _ q) (Nat.le_refl _) ?_, rfl, q _ (I.hok.fresh (Nat.le_refl _))⟩
  exact ⟨Nat.le_trans (cutV_length xs lo hi) hz, _, 0, (r.drop (HT.sIx xs.length 0 lo)).take (HT.sIx xs.length xs.length hi - HT.sIx xs.length 0 lo), Heap.get?_push_size _ rfl⟩
theorem call_len_seq : CallR X (.builtin "len") (fun xs H Q => ∃ p ys, xs = [.ref p] ∧ (SqL X.K H p ys ∨ SqT X.K H p ys) ∧ Q (.int ys.length) H) := by
  intro pins s σ H xs us Q I r h
  obtain ⟨p, ys, rfl, hq, q⟩ := h
  obtain ⟨u, rfl, rx⟩ := vals1 r
  cases rx
  have hn := line63
  rcases hq with hq | hq
  · obtain ⟨its, r', pl, hz⟩ := I.list hq
    have hlen := r'.length
    exact Calls.call_len_list pl.isList (by simp only [List.size_toArray] <;> omega) ⟨.int ys.length, H, I.tok _, ⟨s.toks + 1, by rw [List.size_toArray, hlen]⟩, q⟩
  · obtain ⟨its, r', pl, hz⟩ := I.tuple hq
    have hlen := r'.length
    exact len_tuple pl (by simp only [List.size_toArray] <;> omega) ⟨.int ys.length, H, I.tok _, ⟨s.toks + 1, by rw [List.size_toArray, hlen]⟩, q⟩
theorem CallR.or {f : Value} {r r' : List V → Hp → VK → Prop} (h : CallR X f r) (h' : CallR X f r') : CallR X f (fun xs H Q => r xs H Q ∨ r' xs H Q) := by
  intro pins s σ H xs us Q I rs q
  rcases q with q | q
  · exact h pins s σ H xs us Q I rs q
  · exact h' pins s σ H xs us Q I rs q
theorem call_list_of : CallR X (.type "list") (fun xs H Q => ∃ p ys, xs = [.ref p] ∧ (SqL X.K H p ys ∨ SqT X.K H p ys) ∧ ∀ l, H l = none → Q (.ref l) (upd H l (.lst ys))) := by
  intro pins s σ H xs us Q I r h
  obtain ⟨p, ys, rfl, hq, q⟩ := h
  obtain ⟨u, rfl, rx⟩ := vals1 r
  cases rx
  have fin : ∀ (its : List Value), Vals ys its → ys.length ≤ sizeLine → ∀ (h' : Heap) (c' : Nat), (∀ b o', s.heap.get? b = some o' → h'.get? b = some o') →
      h'.get? s.heap.objs.size = some { cls := .type "list", dict := none, data := .seq its.toArray c', slots := #[] } → EP X pins σ Q (.ref s.heap.objs.size) { s with heap := h' } := fun its r' hz h' c' kp e =>
    ⟨.ref s.heap.objs.size, _, I.laid (t' := s.toks) kp (Nat.le_refl _) (show ObjOk X.prog X.w _ h' _ (.lst ys) from ⟨hz, its, c', r', e⟩), rfl, q _ (I.hok.fresh (Nat.le_refl _))⟩
  rcases hq with hq | hq
  · obtain ⟨its, r', pl, hz⟩ := I.list hq
    have hlen := r'.length
    obtain ⟨o, ho, hc, n, hd⟩ := pl.isList
    exact call_list_seq p (.inl rfl) ho hc hd (fun h' c' kp e => fin its r' hz h' c' kp e) (by simp only [List.size_toArray] <;> omega)
  · obtain ⟨its, r', pl, hz⟩ := I.tuple hq
    have hlen := r'.length
    obtain ⟨o, ho, hc, n, hd⟩ := pl
    exact call_list_seq p (.inr rfl) ho hc hd (fun h' c' kp e => fin its r' hz h' c' kp e) (by simp only [List.size_toArray] <;> omega)
theorem call_tuple_of : CallR X (.type "tuple") (fun xs H Q => ∃ p ys, xs = [.ref p] ∧ ((SqL X.K H p ys ∧ ∀ l, H l = none → Q (.ref l) (upd H l (.tup ys))) ∨ (SqT X.K H p ys ∧ Q (.ref p) H))) := by
  intro pins s σ H xs us Q I r h
  obtain ⟨p, ys, rfl, h⟩ := h
  obtain ⟨u, rfl, rx⟩ := vals1 r
  cases rx
  rcases h with ⟨hq, q⟩ | ⟨hq, q⟩
  · obtain ⟨its, r', pl, hz⟩ := I.list hq
    have hlen := r'.length
    refine call_tuple_list pl.isList (fun h' kp => ?_) (by simp only [List.size_toArray] <;> omega)
    have I1 : Inv X pins σ H { s with heap := h' } := I.kept (t' := s.toks) kp
    have I2 : Inv X pins σ (upd H h'.objs.size (.tup ys)) { s with heap := h'.push { cls := .type "tuple", data := .seq its.toArray } } :=
      I1.laid (t' := s.toks) (fun b o e => Heap.get?_push_of_some _ e) (Nat.le_refl _) (show ObjOk X.prog X.w _ _ _ (.tup ys) from ⟨hz, its, r', TupN.new _ _⟩)
    exact ⟨.ref h'.objs.size, _, I2, rfl, q _ (I1.hok.fresh (Nat.le_refl _))⟩
  · obtain ⟨its, r', pl, hz⟩ := I.tuple hq
    exact call_tuple_same pl ⟨.ref p, H, I, rfl, q⟩
def tyV (K : PySem.W.Frag) (T : String) (x : V) (H : Hp) : Prop := match x with
  | .str _ => T = "str"
  | .int _ => T = "int"
  | .ref p => (T = "list" ∧ ∃ xs, SqL K H p xs) ∨ (T = "tuple" ∧ ∃ o, K.lookup p = some o ∧ o.cls = .type "tuple" ∧ o.dict = none) ∨
      (T = "dict" ∧ ((∃ kvs, H p = some (.dK kvs)) ∨ ∃ kvs, H p = some (.dT kvs))) ∨ (T = "set" ∧ ∃ S n, H p = some (.set S n))
  | _ => False
theorem tyV_is {pins : List (Addr × Obj)} {σ : St} {H : Hp} {s : Shared} {T : String} {x : V} {v : Value} (I : Inv X pins σ H s) (r : RelV x v) (ty : tyV X.K T x H) :
    s.TypeIs v T ∧ ∀ a, v = .ref a → ∃ ob, s.heap.get? a = some ob ∧ ob.dict = none := by
  cases x with
  | str z =>
    obtain ⟨t, rfl⟩ := r
    cases (show T = "str" from ty)
    exact ⟨typeIs_str s z t, fun _ e => nomatch e⟩
  | int i =>
    obtain ⟨t, rfl⟩ := r
    cases (show T = "int" from ty)
    exact ⟨typeIs_int s i t, fun _ e => nomatch e⟩
  | ref p =>
    cases r
    rcases ty with ⟨rfl, xs, hq⟩ | ⟨rfl, o, hk, hc, hd⟩ | ⟨rfl, hk⟩ | ⟨rfl, S, n, hk⟩
    · obtain ⟨its, _, pl, _⟩ := I.list hq
      refine ⟨pl.isList.typeIs, fun a e => ?_⟩
      cases e
      obtain ⟨o, n, e, c, hd, _⟩ := pl
      exact ⟨o, e, hd⟩
    · refine ⟨⟨o, I.kIn p o hk, hc⟩, fun a e => ?_⟩
      cases e
      exact ⟨o, I.kIn _ o hk, hd⟩
    · have z : ∃ o, s.heap.get? p = some o ∧ o.ExactDict := by
        rcases hk with ⟨kvs, hk⟩ | ⟨kvs, hk⟩
        · obtain ⟨_, _, _, _, o, _, _, e, ex, _⟩ := I.hok p _ hk
          exact ⟨o, e, ex⟩
        · obtain ⟨_, _, _, _, o, _, _, e, ex, _⟩ := I.hok p _ hk
          exact ⟨o, e, ex⟩
      obtain ⟨o, e, ex⟩ := z
      refine ⟨⟨o, e, ex.1⟩, fun a e2 => ?_⟩
      cases e2
      exact ⟨o, e, ex.2.1⟩
    · obtain ⟨o, _, _, _, e, ex, _⟩ := I.hok p _ hk
      refine ⟨⟨o, e, ex.1⟩, fun a e2 => ?_⟩
      cases e2
      exact ⟨o, e, ex.2.1⟩
  | _ => exact False.elim ty
def tBM (K : PySem.W.Frag) (T : String) (r : V → List V → Hp → VK → Prop) (to : TE) (t : TA) : TE := fun σ H Q => to σ H fun x H1 => tyV K T x H1 ∧ t σ H1 fun xs H2 => r x xs H2 Q
variable {o e : Expr} {es : List Expr} {to : TE} {t : TA} {name : Str} {apos cpos : Pos} {T id : String} {r : V → List V → Hp → VK → Prop}
theorem pe_bm (pa : PlainAttrs T) (slot : Slot T name id) (hty : typeOf (.builtin id) = pure (.type "method_descriptor")) (hm : MtR X id r) (ho : PE X o to) (ha : PA X (e :: es) t)
    (hbase : attributeBase o name X.env (eval o X.env) = eval o X.env := by rfl)
    (hfew : ((backTo cpos (starEach (e :: es) X.env)).all (fun x => !x.1) && (backToKw cpos (keywordEach [] X.env)).all (fun x => x.1.isSome)
      && decide ((e :: es).length + ([] : List Keyword).length + (if ([] : List Keyword).isEmpty then 0 else 1) < 30)) = true := by rfl)
    (hline : (apos.endLine == cpos.line) = true := by rfl) (hs : starEach (e :: es) X.env = (false, eval e X.env) :: starEach es X.env := by rfl) (hplain : (backTo cpos (starEach es X.env)).any (·.1) = false := by rfl) :
    PE X (.Call (.Attribute o name apos) (e :: es) [] cpos) (tBM X.K T r to t) := by
  intro pins s σ H Q I h
  refine wpAny_Call_method_late hbase hfew hline rfl (thn (ho pins s σ H _ I h) fun v s1 ⟨x, H1, I1, r1, ty, q1⟩ => ?_)
  obtain ⟨h1, h2⟩ := tyV_is I1 r1 ty
  refine ⟨T, id, pa, slot, hty, h1, h2, ?_⟩
  have hA := ha cpos pins s1 σ H1 _ I1 q1
  rw [hs] at hA ⊢
  refine Calls.callWith_builtin (by show (false || (backTo cpos (starEach es X.env)).any (·.1)) = false; rw [hplain] <;> rfl) (Calls.evalArgs_plain ?_)
  exact thn hA fun us s2 ⟨vs, H2, I2, r2, q2⟩ => hm pins s2 σ H2 x vs v us Q I2 r1 r2 q2
end
end L2
namespace L2
open PySem PySem.Spec PyProof.Rows
def MtM (X : Cx) (id : String) (r : V → List V → Hp → VK → Prop) : Prop :=
  ∀ (pins : List (Addr × Obj)) (s : Shared) (σ : St) (H : Hp) (x : V) (xs : List V) (v : Value) (us : List Value) (Q : VK), Inv X pins σ H s → RelV x v → Vals xs us → r x xs H Q →
    wpAny (model X.prog X.w) X.A (call (.builtin id) (v :: us)) (EP X pins σ Q) X.xe s
theorem Vals.one : ∀ {x : V} {us : List Value}, Vals [x] us → ∃ u, us = [u] ∧ RelV x u
  | _, _, .cons r .nil => ⟨_, rfl, r⟩
theorem Vals.two : ∀ {x y : V} {us : List Value}, Vals [x, y] us → ∃ u v, us = [u, v] ∧ RelV x u ∧ RelV y v
  | _, _, _, .cons r (.cons q .nil) => ⟨_, _, rfl, r, q⟩
theorem Vals.zero : ∀ {us : List Value}, Vals [] us → us = []
  | _, .nil => rfl
theorem Vals.eraseIdx : ∀ {xs : List V} {us : List Value} (i : Nat), Vals xs us → Vals (xs.eraseIdx i) (us.eraseIdx i)
  | _, _, _, .nil => .nil
  | _, _, 0, .cons _ t => t
  | _, _, i + 1, .cons r t => .cons r (Vals.eraseIdx i t)
theorem Vals.reverse {xs : List V} {us : List Value} (h : Vals xs us) : Vals xs.reverse us.reverse := by
  induction h with
  | nil => exact .nil
  | cons r t ih => rw [List.reverse_cons, List.reverse_cons]; exact Vals.append ih (.cons r .nil)
theorem Vals.rep {xs : List V} {us : List Value} (h : Vals xs us) : ∀ k : Nat, Vals (List.replicate k xs).flatten (List.replicate k us).flatten
  | 0 => .nil
  | k + 1 => by
    rw [List.replicate_succ, List.replicate_succ, List.flatten_cons, List.flatten_cons]
    exact Vals.append h (Vals.rep h k)
theorem len_erase {α : Type} : ∀ (l : List α) (i : Nat), (l.eraseIdx i).length ≤ l.length
  | [], _ => Nat.le_refl _
  | _ :: _, 0 => Nat.le_succ _
  | _ :: r, i + 1 => Nat.succ_le_succ (len_erase r i)
theorem foldl_rep (its : List Value) : ∀ (k : Nat) (acc : List Value),
    List.foldl (fun x1 x2 => x1 ++ x2) acc.toArray (List.replicate k its.toArray) = (acc ++ (List.replicate k its).flatten).toArray
  | 0, acc => by simp
  | k + 1, acc => by
    have e : acc.toArray ++ its.toArray = (acc ++ its).toArray := by simp
    have e2 : (acc ++ its) ++ (List.replicate k its).flatten = acc ++ (List.replicate (k + 1) its).flatten := by
      rw [List.replicate_succ, List.flatten_cons, List.append_assoc]
    rw [← e2, ← foldl_rep its k (acc ++ its), ← e, List.replicate_succ, List.foldl_cons]
section
variable {X : Cx} {pins : List (Addr × Obj)} {σ : St} {H : Hp} {s : Shared} {l b : Addr} {xs ys zs : List V}
theorem Inv.lset {its its' : List Value} {n : Nat} {f : Array Value → Array Value} {t' : Nat} (I : Inv X pins σ H s) (hH : H l = some (.lst xs))
    (e : s.heap.get? l = some { cls := .type "list", data := .seq its.toArray n }) (hf : f its.toArray = its'.toArray) (hv : Vals ys its') (hz : ys.length ≤ sizeLine) :
    Inv X pins σ (upd H l (.lst ys)) { s with heap := s.heap.update l (Obj.mapSeq f), toks := t' } := by
  have q := PySem.IsL.update e f
  rw [hf] at q
  refine I.write (x := l) (e := l) (by rw [hH]; exact trivial) (.inl rfl) (fun b' u hb hu => (Heap.get?_update_other s.heap (Obj.mapSeq f) (Ne.symm hb)).trans hu) ⟨_, q⟩ ?_
  exact ⟨hz, its', _, hv, q⟩
theorem Inv.lnew {its : List Value} {t' : Nat} (I : Inv X pins σ H s) (hv : Vals ys its) (hz : ys.length ≤ sizeLine) :
    Inv X pins σ (upd H s.heap.objs.size (.lst ys)) { s with heap := s.heap.push { cls := .type "list", data := .seq its.toArray }, toks := t' } :=
  I.laid (fun _ _ q => Heap.get?_push_of_some _ q) (Nat.le_refl _) ⟨hz, its, 0, hv, Heap.get?_push_size _ rfl⟩
theorem Inv.fresh (I : Inv X pins σ H s) : H s.heap.objs.size = none := I.hok.fresh (Nat.le_refl _)
theorem Inv.lstM (I : Inv X pins σ H s) (hH : H l = some (.lst xs)) : xs.length ≤ sizeLine ∧ ∃ (its : List Value) (n : Nat), Vals xs its ∧ xs.length = its.length ∧ s.heap.get? l = some { cls := .type "list", data := .seq its.toArray n } := by
  obtain ⟨z, its, n, r, e⟩ := I.hok l _ hH
  exact ⟨z, its, n, r, r.length, e⟩
theorem notLongL {n : Nat} (h : n ≤ sizeLine) : Builtin.List.listTooLong n = false := by
  unfold Builtin.List.listTooLong
  exact decide_eq_false (by omega)
end
section
variable {X : Cx}
def rAppend : V → List V → Hp → VK → Prop := fun x vs H Q => ∃ l xs y, x = .ref l ∧ vs = [y] ∧ H l = some (.lst xs) ∧ xs.length < sizeLine ∧ Q .non (upd H l (.lst (xs ++ [y])))
theorem mt_append : MtM X "list.append" rAppend := by
  intro pins s σ H x vs v us Q I rx rv h
  obtain ⟨l, xs, y, rfl, rfl, hH, hz, q⟩ := h
  cases rx
  obtain ⟨u, rfl, ru⟩ := rv.one
  obtain ⟨z, its, n, r, hl, e⟩ := I.lstM hH
  refine call_meets F.slot_list_append ⟨_, e, rfl⟩ F.entry_list_append (F.args_list_append_2 _ _) (PySem.list_append l its.toArray n u (by rw [List.size_toArray]; omega)) ⟨e, ?_⟩
  refine ⟨.non, _, I.lset (its' := its ++ [u]) hH e (by simp) (r.append (.cons ru .nil)) ?_, rfl, q⟩
  rw [List.length_append, List.length_singleton]
  omega
def rExtend : V → List V → Hp → VK → Prop := fun x vs H Q => ∃ l b xs zs, x = .ref l ∧ vs = [.ref b] ∧ H l = some (.lst xs) ∧ H b = some (.lst zs) ∧ xs.length + zs.length ≤ sizeLine ∧ Q .non (upd H l (.lst (xs ++ zs)))
theorem mt_extend : MtM X "list.extend" rExtend := by
  intro pins s σ H x vs v us Q I rx rv h
  obtain ⟨l, b, xs, zs, rfl, rfl, hH, hB, hz, q⟩ := h
  cases rx
  obtain ⟨u, rfl, ru⟩ := rv.one
  cases ru
  obtain ⟨z, its, n, r, hl, e⟩ := I.lstM hH
  obtain ⟨z2, its2, n2, r2, hl2, e2⟩ := I.lstM hB
  have hsz : its.toArray.size + its2.toArray.size ≤ sizeLine := by rw [List.size_toArray, List.size_toArray]; omega
  have hlong : ¬ (!its.toArray.isEmpty && Builtin.List.listTooLong (its.toArray.size + its2.toArray.size)) = true := by
    rw [notLongL hsz, Bool.and_false]
    exact Bool.false_ne_true
  refine call_meets F.slot_list_extend ⟨_, e, rfl⟩ F.entry_list_extend (F.args_list_extend_2 _ _)
    (AutoSeq1.list_extend_list_list_0 l its.toArray n b its2.toArray n2 hlong (by rw [List.size_toArray]; omega) (by omega)) ⟨e, e2, ?_⟩
  refine ⟨.non, _, I.lset (its' := its ++ its2) hH e (by simp) (r.append r2) ?_, rfl, q⟩
  rw [List.length_append]
  omega
def rPopAt : V → List V → Hp → VK → Prop := fun x vs H Q => ∃ l xs i k y, x = .ref l ∧ vs = [.int i] ∧ H l = some (.lst xs) ∧ -(2 ^ 63) ≤ i ∧ i < 2 ^ 63 ∧ seqIndex? i xs.length = some k ∧ xs[k]? = some y ∧ Q y (upd H l (.lst (xs.eraseIdx k)))
theorem mt_popAt : MtM X "list.pop" rPopAt := by
  intro pins s σ H x vs v us Q I rx rv h
  obtain ⟨l, xs, i, k, y, rfl, rfl, hH, h1, h2, hk, hy, q⟩ := h
  cases rx
  obtain ⟨u, rfl, ru⟩ := rv.one
  obtain ⟨t, rfl⟩ := ru
  obtain ⟨z, its, n, r, hl, e⟩ := I.lstM hH
  obtain ⟨w, hw, rw'⟩ := r.get hy
  refine call_meets F.slot_list_pop ⟨_, e, rfl⟩ F.entry_list_pop (F.args_list_pop_2 _ _)
    (MeetsSeq.list_pop_at l its.toArray n i t k w (fitsIndex_both h1 h2) (by rw [List.size_toArray, ← hl]; exact hk) (by rw [← Array.getElem?_toList]; exact hw) (by rw [List.size_toArray]; omega)) ⟨e, ?_⟩
  refine ⟨y, _, I.lset (its' := its.eraseIdx k) hH e ?_ (r.eraseIdx k) ?_, rw', q⟩
  · show its.toArray.eraseIdxIfInBounds k = (its.eraseIdx k).toArray
    rw [List.eraseIdxIfInBounds_toArray]
  · have := len_erase xs k
    omega
def rCat : R2 := fun x y H Q => ∃ l b xs zs, x = .ref l ∧ y = .ref b ∧ H l = some (.lst xs) ∧ H b = some (.lst zs) ∧ xs.length + zs.length ≤ sizeLine ∧ ∀ p, H p = none → Q (.ref p) (upd H p (.lst (xs ++ zs)))
theorem op_cat : OpR X (binaryOp .Add) rCat := by
  intro pins s σ H x y v u Q I rx ry h
  obtain ⟨l, b, xs, zs, rfl, rfl, hH, hB, hz, q⟩ := h
  cases rx
  cases ry
  obtain ⟨z, its, n, r, hl, e⟩ := I.lstM hH
  obtain ⟨z2, its2, n2, r2, hl2, e2⟩ := I.lstM hB
  refine PySem.P.add_list e e2 ?_ (by rw [List.size_toArray, List.size_toArray]; omega)
  have ea : its.toArray ++ its2.toArray = (its ++ its2).toArray := by simp
  rw [ea]
  exact ⟨.ref _, _, I.lnew (t' := s.toks) (r.append r2) (by rw [List.length_append]; omega), rfl, q _ I.fresh⟩
def rRep : R2 := fun x y H Q => ∃ l k xs, x = .ref l ∧ y = .int k ∧ H l = some (.lst xs) ∧ -(2 ^ 63) ≤ k ∧ k < 2 ^ 63 ∧ xs.length * k.toNat ≤ sizeLine ∧
  ∀ p, H p = none → Q (.ref p) (upd H p (.lst (List.replicate k.toNat xs).flatten))
theorem len_rep {α : Type} (xs : List α) (k : Nat) : (List.replicate k xs).flatten.length = k * xs.length := by
  induction k with
  | zero => simp
  | succ k ih => rw [List.replicate_succ, List.flatten_cons, List.length_append, ih, Nat.succ_mul, Nat.add_comm]
theorem op_rep : OpR X (binaryOp .Mult) rRep := by
  intro pins s σ H x y v u Q I rx ry h
  obtain ⟨l, k, xs, rfl, rfl, hH, h1, h2, hz, q⟩ := h
  cases rx
  obtain ⟨t, rfl⟩ := ry
  obtain ⟨z, its, n, r, hl, e⟩ := I.lstM hH
  have hlen : its.toArray.size * k.toNat ≤ sizeLine := by rw [List.size_toArray, ← hl]; exact hz
  have hcap : ¬ its.toArray.size * k.toNat > (2 ^ 63 - 1) / 8 := by
    have : (sizeLine : Nat) ≤ (2 ^ 63 - 1) / 8 := by decide
    omega
  have hfit : ¬ (!Builtin.List.listFitsIndex k) = true := by
    rw [fitsIndex_both h1 h2]
    exact Bool.false_ne_true
  have hlong : ¬ Builtin.List.listTooLong (its.toArray.size * k.toNat) = true := by
    rw [notLongL hlen]
    exact Bool.false_ne_true
  have hnew : List.foldl (fun x1 x2 => x1 ++ x2) #[] (List.replicate (if its.toArray.isEmpty = true then 0 else k.toNat) its.toArray) = (List.replicate k.toNat its).flatten.toArray := by
    have f0 : ∀ m : Nat, List.foldl (fun x1 x2 => x1 ++ x2) #[] (List.replicate m its.toArray) = (List.replicate m its).flatten.toArray := fun m => by
      have := foldl_rep its m []
      rw [List.nil_append] at this
      exact this
    rw [f0]
    cases its with
    | nil => simp
    | cons a r' => rw [if_neg (by simp)]
  refine wpAny_binaryOp_repeat_ref (T := "list") (U := "int") (by decide) ⟨_, e, rfl⟩ (fun s' => typeIs_int s' k t) noFill_list_mul F.fills_int_mul F.slot_int_rmul repeat_list F.slot_int_index.lookup
    (call_meets F.slot_int_rmul (typeIs_int s k t) F.entry_int_rmul (F.args_int_rmul_2 _ _) (int___rmul___int_list k t l its.toArray n)
      ⟨e, rfl, ⟨_, e, rfl⟩, call_meets F.slot_list_mul ⟨_, e, rfl⟩ F.entry_list_mul (F.args_list_mul_2 _ _) (AutoListH.list___mul___list_int_3 l its.toArray n k t hfit hcap hlong) ⟨e, ?_⟩⟩)
  rw [hnew]
  exact ⟨.ref _, _, I.lnew (t' := s.toks) (r.rep k.toNat) (by rw [len_rep, Nat.mul_comm]; exact hz), rfl, q _ I.fresh⟩
end
section
variable {prog : Program} {w : World} {A : Around} {E : Value → Shared → Prop} {s : Shared}
set_option maxRecDepth 100000 in
end
section
variable {X : Cx}
end
end L2
namespace Att
open PySem PySem.W PySem.Calls PyProof.Rows
theorem ints_of_wellAll {P : Params} {h : Heap} : ∀ (ns : List Int) (vs : List Value), WellAll P h vs (ns.map WData.int) → IntsAre vs ns := by
  intro ns
  induction ns with
  | nil =>
    intro vs w
    rw [List.map_nil] at w
    cases w
    exact .nil
  | cons n ns ih =>
    intro vs w
    rw [List.map_cons] at w
    cases w with
    | cons a b =>
      cases a
      exact .cons _ _ (ih _ b)
theorem script_of {l : OpenLaw} {n : Nat} (hn : l.most = some n) {P : Params} {h : Heap} {args : List WData} {vals : List Value}
    (hpre : l.row.toRowW.claim.pre args = true) (hwl : WellAll P h vals args) :
    ∃ a vs ns, vals = [Value.ref a] ∧ args = [WData.list (ns.map WData.int)] ∧ h.get? a = some { cls := .type "list", data := .seq vs.toArray } ∧ IntsAre vs ns ∧ ns.length ≤ n := by
  have hsh : WShape.hasAll [] args [.list .int] = true := (pre_splitW hpre).1
  have hc : l.pre.holds [] { args := args } = true := (pre_splitW hpre).2
  obtain ⟨d, r, rfl, h1, h2⟩ := hasAllW_cons hsh
  obtain rfl := hasAllW_nil h2
  obtain ⟨xs, rfl, h3⟩ := hasW_list h1
  obtain ⟨ns, rfl⟩ := items_int h3
  have hlen : ns.length ≤ n := by
    unfold OpenLaw.pre at hc
    have h4 : (WTm.not (.lt (.lit (.int (n : Int))) (.len (.arg 0)))).holds [] { args := [.list (ns.map .int)] } = true := by
      have h4 := (holds_andW hc).1
      rw [hn] at h4
      exact h4
    have h5 := condW_of h4 (w_not (w_lt w_lit (w_len_list (w_arg rfl))))
    rw [List.length_map] at h5
    refine Nat.le_of_not_lt fun q => ?_
    have q' : (n : Int) < ((ns.length : Nat) : Int) := by omega
    first
      | (rw [decide_eq_true q'] at h5; exact absurd h5 (by decide))
      | (simp at h5; omega)
  cases hwl with
  | cons w1 w2 =>
    cases w2
    cases w1 with
    | list ho hall => exact ⟨_, _, ns, rfl, rfl, ho, ints_of_wellAll ns _ hall, hlen⟩
theorem post_true (l : OpenLaw) (args : List WData) : l.row.toRowW.claim.post args (.bool true) args = true :=
  postW_of (r := l.row.toRowW) (X := (true == true))
    (show WShape.has [] (.bool true) .bool = true by first | rfl | decide | simp [WShape.has, WShape.arms, WShape.armsAll])
    (show (WTm.eq .res (.lit (.bool true))).value [] { args := args, res := some (.bool true), after := args } = some (.bool (true == true)) from w_eq_bool (w_res rfl) w_lit) rfl
theorem attach_call {l : OpenLaw} {n : Nat} {q : Program} {loose : List Str} {XP : (Str → Option Value) → Heap → Prop} {YP : World → Heap → Prop} {d : DefRec}
    (hn : l.most = some n) (hdf : d.params.defaults = [])
    (call : ∀ (w : World) (s₀ s₁ : Shared) (mg mb : Str → Option Value) (fa : Addr) (o : Obj) (pm cd doc : Value) (a : Addr) (vs : List Value) (ns : List Int),
      Ground q loose [] XP w s₀ mg mb s₁.heap → YP w s₁.heap →
      s₁.heap.get? fa = some o → o.data = .func (docDef d.name d.params d.body d.scope pm cd doc) → s₁.heap.CodeRec cd d.name → mg d.name = some (.ref fa) →
      s₁.heap.get? a = some { cls := .type "list", data := .seq vs.toArray } → IntsAre vs ns → ns.length ≤ n → s₁.gens = #[] →
      codeAny (model l.prog w) callerA (.call (.ref fa) ⟨[.ref a], []⟩) (fun r s' => r = .ok (.ret (.bool true)) ∧ OldK s₁.heap s'.heap ∧ s'.os = s₁.os ∧ AllBare s'.gens) s₁) :
    WalkO q loose XP YP l.row.toRowW d [] (fun f vs => PySem.call f vs) := by
  intro w s₀ s₁ mg mb G Y fa o pm cd doc dV kV ho hd hcd hD hmg hg args vals as hpre hlay hrd hwl hlo
  obtain rfl : dV = .none := Dflts.none hD hdf
  obtain rfl : kV = .none := Dflts.noKw hD
  obtain ⟨a, vs, ns, rfl, rfl, hobj, hints, hlen⟩ := script_of hn hpre hwl
  refine enter_call (codeAny_mono (call w s₀ s₁ mg mb fa o pm cd doc a vs ns G Y ho (fd_plain hd) hcd hmg hobj hints hlen hg) fun r s' hq => ?_)
  obtain ⟨rfl, h2, h3, h4⟩ := hq
  exact ⟨.inl ⟨.bool true, .bool true, [], rfl, fun _ => rfl, .bool true, post_true l _, fun _ => ⟨List.Pairwise.nil, fun _ hm => (nomatch hm)⟩⟩, h2, h3, h4⟩
section
variable {prog : Program} {w : World} {A : Around} {E : Value → Shared → Prop} {s : Shared} {K : Frag}
end
end Att
namespace L2
open PySem PySem.Spec PyProof.Rows
theorem vals_ints : ∀ {vs : List Value} {ns : List Int}, IntsAre vs ns → Vals (ns.map V.int) vs
  | _, _, .nil => .nil
  | _, _, .cons n t h => .cons ⟨t, rfl⟩ (vals_ints h)
def Only (H : Hp) : Prop := ∀ b, H b = none ∨ ∃ o xs, H b = some (.frz o (.lst xs))
theorem law_call {P : Program} {w : World} {K : PySem.W.Frag} {mg mb : Str → Option Value} {CX : CXT} {k : Nat} {fa a : Addr} {fd : FuncData} {x : Str} {sp : Sp} {s₁ : Shared} {vs : List Value} {ns : List Int}
    (KX : K.In s₁.heap) (hns : s₁.heap.Ns mainGlobals mg) (hb : s₁.heap.Ns builtinsNs mb) (hbb : ∀ x : Str, x ≠ "__name__" → mb x = bootBuiltins x) (hlim : s₁.heap.NoLimit) (hg : s₁.gens = #[])
    (ha : s₁.heap.get? a = some { cls := .type "list", data := .seq vs.toArray }) (hi : IntsAre vs ns) (hl : ns.length ≤ sizeLine) (hr : Room k callerA)
    (F : ∀ base : Heap, K.In base → base.Ns mainGlobals mg → FnOk P w K mg base CX k fa fd [x] sp) (hbind : ∀ (s : Shared) (u : Value), BindsTo s fd ⟨[u], []⟩ [(x, u)])
    (hsp : ∀ H : Hp, Only H → SqL K H a (ns.map V.int) → sp [.ref a] H (fun v _ => v = .bl true) fun _ _ _ => False)
    (hCX : ∀ H e s', CX [] H s₁ (fun _ _ _ => False) e s' → False) :
    codeAny (model P w) callerA (.call (.ref fa) ⟨[.ref a], []⟩) (fun r s' => r = .ok (.ret (.bool true)) ∧ OldK s₁.heap s'.heap ∧ s'.os = s₁.os ∧ AllBare s'.gens) s₁ := by
  have rv := vals_ints hi
  have lenV := hi.length
  have core : ∀ H : Hp, Only H → SqL K H a (ns.map V.int) → HOk P w H s₁.heap → (∀ b, H b ≠ none → b = a) → (H a ≠ none → K.lookup a = none) →
      codeAny (model P w) callerA (.call (.ref fa) ⟨[.ref a], []⟩) (fun r s' => r = .ok (.ret (.bool true)) ∧ OldK s₁.heap s'.heap ∧ s'.os = s₁.os ∧ AllBare s'.gens) s₁ := by
    intro H hO hS hok hA hK
    have base_of : ∀ {b : Addr} {o : Obj}, s₁.heap.get? b = some o → H b = none → (hidT s₁.heap H).get? b = some o := fun e n => hidT_get e n
    have noA : ∀ {b : Addr} {o : Obj} {es : Array DictEntry} {ep : Nat}, s₁.heap.get? b = some o → o.data = .dict es ep → H b = none := fun {b o es ep} e d => by
      cases q : H b with
      | none => rfl
      | some u =>
        have e' : b = a := hA b (by rw [q]; simp)
        subst e'
        rw [ha] at e; cases e
        have d' : Data.seq vs.toArray _ = Data.dict es ep := d
        cases d'
    have nsK : ∀ {b : Addr} {m : Str → Option Value}, s₁.heap.Ns b m → (hidT s₁.heap H).Ns b m := fun {b m} ⟨o, es, ep, e, d, r⟩ => ⟨o, es, ep, base_of e (noA e d), d, r⟩
    have hKb : K.In (hidT s₁.heap H) := fun b o e => base_of (KX b o e) (by
      cases q : H b with
      | none => rfl
      | some u =>
        have e' : b = a := hA b (by rw [q]; simp)
        subst e'
        rw [hK (by rw [q]; simp)] at e; cases e)
    have hM : Mod K mg (hidT s₁.heap H) := ⟨hKb, nsK hns, ⟨mb, nsK hb, hbb⟩, let ⟨mc, h1, h2⟩ := hlim; ⟨mc, nsK h1, h2⟩⟩
    have e0 : Env0 P w K mg (hidT s₁.heap H) callerA [] s₁ H := ⟨rfl, hM, fun b o e => of_hidT e, Nat.le_of_eq (hidT_size _ _), trivial, fun b hb => absurd (show b ∈ ([] : List Addr) from hb) (by simp), hok, .of_eq hg⟩
    refine codeAny_mono ((F _ hKb (nsK hns)).run callerA [] s₁ H ⟨[.ref a], []⟩ [.ref a] [.ref a] _ _ hr e0 (hbind s₁ (.ref a)) (.cons rfl .nil) (hsp H hO hS)) fun r s' h => ?_
    cases r with
    | error e => exact (hCX H e s' h).elim
    | ok fl =>
      cases fl with
      | next => exact False.elim h
      | brk => exact False.elim h
      | cont => exact False.elim h
      | ret u =>
        obtain ⟨v, H', os, bare, un, hok', r', q⟩ := h
        have q' : v = .bl true := q
        subst q'
        obtain rfl : u = Value.bool true := r'
        refine ⟨rfl, OldK.of_keep fun b o e => ?_, os, bare⟩
        cases q : H b with
        | none => exact un.keep b o e q (by intro z; exact absurd (show b ∈ ([] : List Addr) from z) (by simp)) (by simp)
        | some u =>
          rcases hO b with z | ⟨ob, xs, z⟩
          · rw [q] at z; cases z
          · have z2 := un.frzs b ob _ z
            obtain ⟨e1, _⟩ := hok b _ z
            obtain ⟨e2, _⟩ := hok' b _ z2
            rw [e] at e1; cases e1
            exact e2
  cases hk : K.lookup a with
  | some o =>
    have e := KX a o hk
    rw [ha] at e
    cases e
    refine core (fun _ => none) (fun _ => .inl rfl) (.inr ⟨_, vs.toArray, _, hk, rfl, rfl, rfl, by rw [List.size_toArray, lenV]; exact hl, by simpa using rv⟩) (fun b u z => by have z' : (none : Option HO) = some u := z; cases z') (fun b z => absurd rfl z) fun z => absurd rfl z
  | none =>
    refine core (fun b => if b = a then some (.frz { cls := .type "list", data := .seq vs.toArray } (.lst (ns.map V.int))) else none) (fun b => ?_) (.inl (.inr ⟨{ cls := .type "list", data := .seq vs.toArray }, if_pos rfl⟩)) (fun b u z => ?_) (fun b z => ?_) fun _ => hk
    · by_cases hb : b = a
      · exact .inr ⟨_, _, if_pos hb⟩
      · exact .inl (if_neg hb)
    · by_cases hb : b = a
      · have z' := (if_pos hb).symm.trans z
        cases z'
        subst hb
        exact ⟨ha, by rw [List.length_map]; exact hl, vs, _, rv, ha⟩
      · have z' := (if_neg hb).symm.trans z
        cases z'
    · by_cases hb : b = a
      · exact hb
      · exact absurd (if_neg hb) z
end L2
namespace L2
open PySem PySem.Spec PyProof.Rows
theorem walk_of {l : PySem.W.OpenLaw} {n k : Nat} {q : Program} {loose : List Str} {XP : (Str → Option Value) → Heap → Prop} {YP : World → Heap → Prop} {d : DefRec} {K : Params → PySem.W.Frag} {CX : World → CXT} {sp : World → Sp} {x : Str}
    (hn : l.most = some n) (hn2 : n ≤ sizeLine) (hdf : d.params.defaults = []) (hr : Room k callerA)
    (hY : ∀ (w : World) (h : Heap), YP w h → (K w.params).In h)
    (F : ∀ (w : World) (mg : Str → Option Value) (fa : Addr) (h : Heap), (K w.params).In h → h.Ns mainGlobals mg → mg d.name = some (.ref fa) →
      ∃ fd : FuncData, (∀ (s : Shared) (u : Value), BindsTo s fd ⟨[u], []⟩ [(x, u)]) ∧
        ∀ base : Heap, (K w.params).In base → base.Ns mainGlobals mg → FnOk l.prog w (K w.params) mg base (CX w) k fa fd [x] (sp w))
    (hsp : ∀ (w : World) (H : Hp) (a : Addr) (ns : List Int), ns.length ≤ n → Only H → SqL (K w.params) H a (ns.map V.int) → sp w [.ref a] H (fun v _ => v = .bl true) fun _ _ _ => False)
    (hCX : ∀ (w : World) (H : Hp) (s : Shared) (e : Value) (s' : Shared), CX w [] H s (fun _ _ _ => False) e s' → False) :
    PySem.W.WalkO q loose XP YP l.row.toRowW d [] (fun f vs => PySem.call f vs) := by
  refine Att.attach_call hn hdf fun w s₀ s₁ mg mb fa o pm cd doc a vs ns G Y ho hd hcd hmg hobj hints hlen hg => ?_
  have KX := hY w _ Y
  obtain ⟨fd, hb, hF⟩ := F w mg fa _ KX G.T.g hmg
  exact law_call KX G.T.g G.T.b G.T.builtins G.T.nolimit hg hobj hints (Nat.le_trans hlen hn2) hr hF hb (fun H hO hS => hsp w H a ns hlen hO hS) fun H e s' => hCX w H s₁ e s'
end L2
namespace L2
open PySem PySem.Spec PyProof.Rows
def defArgs (s : Stmt) : Arguments := match s with
  | .FunctionDef _ a _ _ _ _ _ _ _ _ => a
  | _ => { posonlyargs := [], args := [], vararg := none, kwonlyargs := [], kw_defaults := [], kwarg := none, defaults := [] }
def defBody (s : Stmt) : List Stmt := match s with
  | .FunctionDef _ _ b _ _ _ _ _ _ _ => b
  | _ => []
def defScope (s : Stmt) : Scope := match s with
  | .FunctionDef _ _ _ _ _ _ sc _ _ _ => sc
  | _ => { kind := .function, names := [], isGenerator := false, isCoroutine := false }
abbrev CX0 : CXT := fun _ _ _ _ _ _ => False
abbrev E0 : XK := fun _ _ _ => False
theorem pass0 {X : Cx} : Passes CX0 X E0 := fun _ _ _ _ _ _ _ h => h.elim
structure Fun (K : PySem.W.Frag) (x qual : Str) (st : Stmt) (f : Addr) (fd : FuncData) : Prop where
  ex : ∃ (oc : Value) (od : Option Addr) (kV doc pm : Value) (an : Option Addr) (cdv ct : Value) (osl : Array (Option Value)),
    fd = PySem.W.fnOf x qual (defArgs st) (defBody st) (defScope st) .none kV doc pm an cdv ct ∧ K.lookup f = some ⟨oc, od, .func fd, osl⟩ ∧ PySem.W.codeIn K cdv qual = true
  kp : PySem.W.keepIn K (.ref f) = true
section
variable {P : Program} {w : World} {K : PySem.W.Frag} {mg : Str → Option Value} {base : Heap}
theorem Fun.ok {x qual : Str} {st : Stmt} {f : Addr} {fd : FuncData} {N ps : List Str} {k : Nat} {sp : Sp} (F : Fun K x qual st f fd) (S : FnScope N ps (defScope st)) (len : ∀ vs H Q E, sp vs H Q E → vs.length = ps.length)
    (hbody : ∀ (cdv : Value) (A : Around) (outer : List Env) (s : Shared) (H : Hp) (vs : List V) (Q : VK) (E : XK), Room k (A.deeper (envOfC qual (defScope st) s.heap.objs.size f cdv)) → sp vs H Q E →
      ∃ t, PSs (cxOf CX0 P w K mg base N qual (defScope st) f cdv A outer s H E).nox (defBody st) t ∧ t { nx := fun _ H' => Q .non H', rt := Q } (start N vs) H) : FnOk P w K mg base CX0 (k + 1) f fd ps sp := by
  obtain ⟨oc, od, kV, doc, pm, an, cdv, ct, osl, rfl, lk, hcd⟩ := F.ex
  refine fn_of lk hcd S len fun A outer s H vs Q E hr hsp => ?_
  obtain ⟨t, h, q⟩ := hbody cdv A outer s H vs Q E hr hsp
  exact ⟨t, h.nox, q⟩
theorem Fun.binds {x qual : Str} {st : Stmt} {f : Addr} {fd : FuncData} {ps : List Str} (F : Fun K x qual st f fd)
    (h : ∀ (kV doc pm : Value) (an : Option Addr) (cdv ct : Value) (us : List Value), us.length = ps.length → bindArgs (PySem.W.fnOf x qual (defArgs st) (defBody st) (defScope st) .none kV doc pm an cdv ct) ⟨us, []⟩ = pure (ps.zip us)) : Binds K fd ps [] := by
  obtain ⟨oc, od, kV, doc, pm, an, cdv, ct, osl, rfl, lk, hcd⟩ := F.ex
  exact .all (h kV doc pm an cdv ct)
theorem fun_mk {x qual : Str} {st : Stmt} {f : Addr} {oc : Value} {od an : Option Addr} {osl : Array (Option Value)} {kV doc pm cdv ct : Value} (l : K.lookup f = some ⟨oc, od, .func (PySem.W.fnOf x qual (defArgs st) (defBody st) (defScope st) .none kV doc pm an cdv ct), osl⟩)
    (c : PySem.W.codeIn K cdv qual = true) (k : PySem.W.keepIn K (.ref f) = true) : Fun K x qual st f (PySem.W.fnOf x qual (defArgs st) (defBody st) (defScope st) .none kV doc pm an cdv ct) := ⟨⟨oc, od, kV, doc, pm, an, cdv, ct, osl, rfl, l, c⟩, k⟩
end
theorem hu_of {A : Around} {k : Nat} (hr : Room k A) : A.units + 1 < cLine := Nat.lt_of_le_of_lt (Nat.add_le_add_left (by decide : 1 ≤ 64) _) hr.units
section
variable {X : Cx}
theorem pv (i : Nat) {x : Str} {pos : Pos} (hN : X.N[i]? = some x := by rfl) (hv : Vis X.env.scope x := by first | exact Or.inl rfl | exact Or.inr (Or.inl rfl) | exact Or.inr (Or.inr rfl)) (hd : (x == ("__debug__" : Str)) = false := by decide)
    (hcd : (x == ("__classdict__" : Str)) = false := by decide) : PE X (.Name x pos) (tVar i) := pe_var hN hv hd hcd
end
theorem iteF {A B : Prop} (h : B) : if false = true then A else B := by
  rw [if_neg Bool.false_ne_true]
  exact h
theorem iteT {A B : Prop} (h : A) : if true = true then A else B := by
  rw [if_pos rfl]
  exact h
theorem ite2 {c A B : Prop} [Decidable c] (h1 : c → A) (h2 : ¬ c → B) : if c then A else B := by
  by_cases h : c
  · rw [if_pos h]
    exact h1 h
  · rw [if_neg h]
    exact h2 h
def Same (H H' : Hp) : Prop := ∀ b o, H b = some o → H' b = some o
theorem Same.refl (H : Hp) : Same H H := fun _ _ h => h
theorem Same.trans {H H1 H2 : Hp} (a : Same H H1) (b : Same H1 H2) : Same H H2 := fun c o h => b c o (a c o h)
theorem Same.free {H H' : Hp} (e : Same H H') {l : Addr} (h : H' l = Option.none) : H l = Option.none := by
  cases q : H l with
  | none => rfl
  | some o =>
    rw [e l o q] at h
    cases h
theorem Same.seq {K : PySem.W.Frag} {H H' : Hp} {a : Addr} {xs : List V} (e : Same H H') (h : SqL K H a xs) : SqL K H' a xs := by
  rcases h with (h | ⟨o, h⟩) | h
  · exact .inl (.inl (e _ _ h))
  · exact .inl (.inr ⟨o, e _ _ h⟩)
  · exact .inr h
end L2
namespace L2
open PySem PySem.Spec PyProof.Rows
section
variable {κ : Type} [DecidableEq κ]
def valV (kvs : List (κ × V)) (k : κ) : Option V := (kvs.find? fun kv => decide (kv.1 = k)).map (·.2)
def putK (kvs : List (κ × V)) (k : κ) (v : V) : List (κ × V) :=
  if (kvs.any fun kv => decide (kv.1 = k)) = true then kvs.map (fun kv => if kv.1 = k then (kv.1, v) else kv) else kvs ++ [(k, v)]
def dropK (kvs : List (κ × V)) (k : κ) : List (κ × V) := kvs.filter fun kv => decide (kv.1 ≠ k)
theorem valV_pos {p : κ × V} {r : List (κ × V)} {k : κ} (e : p.1 = k) : valV (p :: r) k = some p.2 := by simp [valV, List.find?_cons, e]
theorem valV_neg {p : κ × V} {r : List (κ × V)} {k : κ} (e : ¬ p.1 = k) : valV (p :: r) k = valV r k := by simp [valV, List.find?_cons, e]
theorem valV_any (k : κ) : ∀ kvs : List (κ × V), (kvs.any fun kv => decide (kv.1 = k)) = (valV kvs k).isSome
  | [] => rfl
  | p :: r => by
    rw [List.any_cons]
    by_cases e : p.1 = k
    · simp only [valV_pos e, decide_eq_true e, Bool.true_or, Option.isSome_some]
    · rw [valV_neg e, decide_eq_false e, Bool.false_or]; exact valV_any k r
theorem length_putK (kvs : List (κ × V)) (k : κ) (v : V) : (putK kvs k v).length ≤ kvs.length + 1 := by
  unfold putK
  split
  · rw [List.length_map]; omega
  · rw [List.length_append, List.length_cons, List.length_nil]; omega
theorem RelO.isSome_eq {o : Option V} {u : Option Value} (r : RelO o u) : o.isSome = u.isSome := by
  cases o with
  | none => cases u with
    | none => rfl
    | some _ => exact (show False from r).elim
  | some _ => cases u with
    | none => exact (show False from r).elim
    | some _ => rfl
theorem RelO.getD {o : Option V} {u : Option Value} {d : V} {d' : Value} (r : RelO o u) (rd : RelV d d') : RelV (o.getD d) (u.getD d') := by
  cases o with
  | none => cases u with
    | none => exact rd
    | some _ => exact (show False from r).elim
  | some _ => cases u with
    | none => exact (show False from r).elim
    | some _ => exact r
theorem KV.val {kvs : List (κ × V)} {vs : List (κ × Value)} (r : KV kvs vs) (k : κ) : RelO (valV kvs k) (valueAt vs k) := by
  unfold KV at r
  induction r with
  | nil => exact True.intro
  | @cons p q ps qs h t ih =>
    obtain ⟨h1, h2⟩ := h
    by_cases e : p.1 = k
    · have e' : q.1 = k := h1.symm.trans e
      have b : valueAt (q :: qs) k = some q.2 := by simp [valueAt, List.find?_cons, e']
      rw [valV_pos e, b]; exact h2
    · have e' : ¬ q.1 = k := fun z => e (h1.trans z)
      have b : valueAt (q :: qs) k = valueAt qs k := by simp [valueAt, List.find?_cons, e']
      rw [valV_neg e, b]; exact ih
theorem KV.any {kvs : List (κ × V)} {vs : List (κ × Value)} (r : KV kvs vs) (k : κ) : (kvs.any fun kv => decide (kv.1 = k)) = vs.any fun kv => decide (kv.1 = k) := by
  unfold KV at r
  induction r with
  | nil => rfl
  | cons h t ih => rw [List.any_cons, List.any_cons, ih, h.1]
theorem KV.repl {kvs : List (κ × V)} {vs : List (κ × Value)} (r : KV kvs vs) (k : κ) {y : V} {u : Value} (ry : RelV y u) :
    KV (kvs.map fun kv => if kv.1 = k then (kv.1, y) else kv) (vs.map fun kv => if kv.1 = k then (kv.1, u) else kv) := by
  unfold KV at r ⊢
  induction r with
  | nil => exact .nil
  | @cons p q ps qs h t ih =>
    rw [List.map_cons, List.map_cons]
    refine .cons ?_ ih
    obtain ⟨h1, h2⟩ := h
    by_cases e : p.1 = k
    · rw [if_pos e, if_pos (h1.symm.trans e)]; exact ⟨h1, ry⟩
    · rw [if_neg e, if_neg (fun z => e (h1.trans z))]; exact ⟨h1, h2⟩
theorem KV.put {kvs : List (κ × V)} {vs : List (κ × Value)} (r : KV kvs vs) (k : κ) {y : V} {u : Value} (ry : RelV y u) : KV (putK kvs k y) (stored vs k u) := by
  unfold putK stored
  rw [r.any k]
  by_cases e : (vs.any fun kv => decide (kv.1 = k)) = true
  · rw [if_pos e, if_pos e]; exact r.repl k ry
  · rw [if_neg e, if_neg e]; exact Paired.snoc r ⟨rfl, ry⟩
theorem KV.drop {kvs : List (κ × V)} {vs : List (κ × Value)} (r : KV kvs vs) (k : κ) : KV (dropK kvs k) (without vs k) := by
  unfold KV at r ⊢
  unfold dropK without
  induction r with
  | nil => exact .nil
  | @cons p q ps qs h t ih =>
    obtain ⟨h1, h2⟩ := h
    rw [List.filter_cons, List.filter_cons]
    by_cases e : p.1 = k
    · have a : ¬ decide (p.1 ≠ k) = true := by simp [e]
      have b : ¬ decide (q.1 ≠ k) = true := by simp [h1.symm.trans e]
      rw [if_neg a, if_neg b]; exact ih
    · have e' : ¬ q.1 = k := fun z => e (h1.trans z)
      have a : decide (p.1 ≠ k) = true := by simp [e]
      have b : decide (q.1 ≠ k) = true := by simp [e']
      rw [if_pos a, if_pos b]; exact .cons ⟨h1, h2⟩ ih
theorem KV.length {kvs : List (κ × V)} {vs : List (κ × Value)} (r : KV kvs vs) : kvs.length = vs.length := Paired.length r
end
theorem kV_is {P : Program} {w : World} {k : Key} {u : Value} (r : RelV (kV k) u) : (mixKind P w).is k u = true := by
  cases k with
  | inl i => obtain ⟨t, e⟩ := (show ∃ t, u = Value.int i t from r); subst e; exact mixKind_int P w i t
  | inr x => obtain ⟨t, e⟩ := (show ∃ t, u = Value.str x t from r); subst e; exact mixKind_str P w x t
theorem items_are {P : Program} {w : World} : ∀ {ks : List Key} {us : List Value}, Vals (ks.map kV) us → ItemsAre (mixKind P w) ks us
  | [], _, r => by rw [List.map_nil] at r; cases r; exact .nil
  | k :: ks, _, r => by
    rw [List.map_cons] at r
    cases r with
    | cons h t => exact .cons (kV_is h) (items_are t)
abbrev KT (H : Hp) : List (List Key × V) → List (List Key × Addr × Value) → Prop := Paired fun p q => p.1 = q.1 ∧ H q.2.1 = some (.tup (p.1.map kV)) ∧ RelV p.2 q.2.2
theorem KT.val {H : Hp} {kvs : List (List Key × V)} {xs : List (List Key × Addr × Value)} (r : KT H kvs xs) (k : List Key) : RelO (valV kvs k) ((atKey xs k).map (·.2)) := by
  induction r with
  | nil => exact True.intro
  | @cons p q ps qs h t ih =>
    obtain ⟨h1, _, h2⟩ := h
    by_cases e : p.1 = k
    · have e' : q.1 = k := h1.symm.trans e
      have b : atKey (q :: qs) k = some q.2 := by simp [atKey, List.find?_cons, e']
      rw [valV_pos e, b]; exact h2
    · have e' : ¬ q.1 = k := fun z => e (h1.trans z)
      have b : atKey (q :: qs) k = atKey qs k := by simp [atKey, List.find?_cons, e']
      rw [valV_neg e, b]; exact ih
theorem KT.repl {H : Hp} {kvs : List (List Key × V)} {xs : List (List Key × Addr × Value)} (r : KT H kvs xs) (k : List Key) {y : V} {u : Value} (ry : RelV y u) :
    KT H (kvs.map fun kv => if kv.1 = k then (kv.1, y) else kv) (xs.map (putAt k u)) := by
  induction r with
  | nil => exact .nil
  | @cons p q ps qs h t ih =>
    rw [List.map_cons, List.map_cons]
    refine .cons ?_ ih
    obtain ⟨h1, h2, h3⟩ := h
    unfold putAt
    by_cases e : p.1 = k
    · rw [if_pos e, if_pos (h1.symm.trans e)]; exact ⟨h1, h2, ry⟩
    · rw [if_neg e, if_neg (fun z => e (h1.trans z))]; exact ⟨h1, h2, h3⟩
theorem KT.put {H : Hp} {kvs : List (List Key × V)} {xs : List (List Key × Addr × Value)} (r : KT H kvs xs) (k : List Key) {b : Addr} {y : V} {u : Value} (hb : H b = some (.tup (k.map kV))) (ry : RelV y u) :
    KT H (putK kvs k y) (storedH xs k b u) := by
  have e : (kvs.any fun kv => decide (kv.1 = k)) = (atKey xs k).isSome := by
    rw [valV_any, (r.val k).isSome_eq, Option.isSome_map]
  unfold putK storedH
  rw [e]
  by_cases q : (atKey xs k).isSome = true
  · rw [if_pos q, if_pos q]; exact r.repl k ry
  · rw [if_neg q, if_neg q]; exact Paired.snoc r ⟨rfl, hb, ry⟩
theorem KT.keeps {H H' : Hp} {kvs : List (List Key × V)} {xs : List (List Key × Addr × Value)} (r : KT H kvs xs) (ht : ∀ b ys, H b = some (.tup ys) → H' b = some (.tup ys)) : KT H' kvs xs :=
  Paired.mapP r fun _ _ z => ⟨z.1, ht _ _ z.2.1, z.2.2⟩
section
variable {P : Program} {w : World} {H : Hp} {h : Heap} {a : Addr}
theorem rd_of {u : HO} (ok : HOk P w H h) (e : Rd H a u) : ObjOk P w H h a u := e.ok ok
theorem dk_rd {kvs : List (Key × V)} (ok : HOk P w H h) (e : Rd H a (.dK kvs)) : kvs.length ≤ sizeLine ∧ (a == sysModules) = false ∧ ∃ vs, KV kvs vs ∧ h.DictOf (mixKind P w) a vs :=
  show ObjOk P w H h a (.dK kvs) from rd_of ok e
theorem dk_of {kvs : List (Key × V)} (ok : HOk P w H h) (e : H a = some (.dK kvs)) : kvs.length ≤ sizeLine ∧ (a == sysModules) = false ∧ ∃ vs, KV kvs vs ∧ h.DictOf (mixKind P w) a vs := dk_rd ok (.inl e)
theorem key_of {ks : List Key} (ok : HOk P w H h) (e : H a = some (.tup (ks.map kV))) : (tupleKind (mixKind P w)).is h ks a := by
  obtain ⟨_, its, r, o, h1, h2, ⟨n, h3⟩, _⟩ := (show ObjOk P w H h a (.tup (ks.map kV)) from ok a _ e)
  exact ⟨o, its.toArray, n, h1, h2, h3, by simpa using items_are r⟩
theorem dt_rd {kvs : List (List Key × V)} (ok : HOk P w H h) (e : Rd H a (.dT kvs)) : kvs.length ≤ sizeLine ∧ (a == sysModules) = false ∧
    ∃ xs, KT H kvs xs ∧ h.DictOfH (tupleKind (mixKind P w)) a xs := by
  obtain ⟨z, y, xs, r, o, es, ep, h1, h2, h3, h4, h5⟩ := (show ObjOk P w H h a (.dT kvs) from rd_of ok e)
  refine ⟨z, y, xs, r, o, es, ep, h1, h2, h3, h4, fun x hx => ?_, h5⟩
  have all : ∀ {l : List (List Key × V)} {m : List (List Key × Addr × Value)}, KT H l m → ∀ x ∈ m, (tupleKind (mixKind P w)).is h x.1 x.2.1 := by
    intro l m q
    induction q with
    | nil => intro x hx; exact nomatch hx
    | @cons p q ps qs hq t ih =>
      intro x hx
      rcases List.mem_cons.mp hx with e | hx
      · subst e
        exact key_of ok (by rw [← hq.1]; exact hq.2.1)
      · exact ih x hx
  exact all r x hx
theorem dt_of {kvs : List (List Key × V)} (ok : HOk P w H h) (e : H a = some (.dT kvs)) : kvs.length ≤ sizeLine ∧ (a == sysModules) = false ∧
    ∃ xs, KT H kvs xs ∧ h.DictOfH (tupleKind (mixKind P w)) a xs := dt_rd ok (.inl e)
end
def DGet (H : Hp) (a : Addr) (y : V) (r : Option V) : Prop :=
  (∃ kvs k, Rd H a (.dK kvs) ∧ y = kV k ∧ r = valV kvs k) ∨ ∃ kvs k b, Rd H a (.dT kvs) ∧ y = .ref b ∧ H b = some (.tup (k.map kV)) ∧ r = valV kvs k
def DPut (H : Hp) (a : Addr) (y v : V) (H' : Hp) : Prop :=
  (∃ kvs k, H a = some (.dK kvs) ∧ y = kV k ∧ kvs.length < sizeLine ∧ H' = upd H a (.dK (putK kvs k v))) ∨
  ∃ kvs k b, H a = some (.dT kvs) ∧ y = .ref b ∧ H b = some (.tup (k.map kV)) ∧ kvs.length < sizeLine ∧ H' = upd H a (.dT (putK kvs k v))
theorem DGet.k {H : Hp} {a : Addr} {kvs : List (Key × V)} {k : Key} (e : H a = some (.dK kvs)) : DGet H a (kV k) (valV kvs k) := .inl ⟨kvs, k, .inl e, rfl, rfl⟩
theorem DGet.t {H : Hp} {a b : Addr} {kvs : List (List Key × V)} {k : List Key} (e : H a = some (.dT kvs)) (eb : H b = some (.tup (k.map kV))) : DGet H a (.ref b) (valV kvs k) := .inr ⟨kvs, k, b, .inl e, rfl, eb, rfl⟩
theorem DPut.k {H : Hp} {a : Addr} {kvs : List (Key × V)} {k : Key} {v : V} (e : H a = some (.dK kvs)) (hl : kvs.length < sizeLine) : DPut H a (kV k) v (upd H a (.dK (putK kvs k v))) := .inl ⟨kvs, k, e, rfl, hl, rfl⟩
theorem DPut.t {H : Hp} {a b : Addr} {kvs : List (List Key × V)} {k : List Key} {v : V} (e : H a = some (.dT kvs)) (eb : H b = some (.tup (k.map kV))) (hl : kvs.length < sizeLine) :
    DPut H a (.ref b) v (upd H a (.dT (putK kvs k v))) := .inr ⟨kvs, k, b, e, rfl, eb, hl, rfl⟩
section
variable {X : Cx} {pins : List (Addr × Obj)} {σ : St} {H : Hp} {s : Shared} {a : Addr} {y v : V} {u r : Value} {o : Option V} {A : Around} {E : Value → Shared → Prop}
theorem Inv.big (I : Inv X pins σ H s) : sysModules < s.heap.objs.size := by
  have h : mainGlobals < s.heap.objs.size := (I.mod.glob.keeps I.bk).lt
  exact Nat.lt_trans (by decide) h
theorem d_write {h' : Heap} {t' : Nat} {ob : HO} (I : Inv X pins σ H s) (mu : Mut (H a)) (hs : Heap.SameBut a s.heap h') (he : ∃ q, h'.get? a = some q) (new : ObjOk X.prog X.w (upd H a ob) h' a ob) :
    Inv X pins σ (upd H a ob) { s with heap := h', toks := t' } :=
  I.write (x := a) (e := a) mu (.inl rfl) (fun b q hb z => (hs.2 b hb).trans z) he new
theorem dk_new {P : Program} {w : World} {H' : Hp} {h' : Heap} {kvs : List (Key × V)} {vs : List (Key × Value)} (z : kvs.length ≤ sizeLine) (hd : (a == sysModules) = false) (rel : KV kvs vs) (dd : h'.DictOf (mixKind P w) a vs) :
    ObjOk P w H' h' a (.dK kvs) := ⟨z, hd, vs, rel, dd⟩
theorem d_setItem {H' : Hp} {Q : Unit → Shared → Prop} (hu : A.units + 1 < cLine) (I : Inv X pins σ H s) (g : DPut H a y v H') (ry : RelV y u) (rv : RelV v r) (h : ∀ s', Inv X pins σ H' s' → Q () s') :
    wpAny (model X.prog X.w) A (setItem (.ref a) u r) Q E s := by
  rcases g with ⟨kvs, k, e, ey, l, eH⟩ | ⟨kvs, k, b, e, ey, eb, l, eH⟩
  · subst ey eH
    obtain ⟨z, hd, vs, rel, dd⟩ := dk_of I.hok e
    have hz : vs.length ≤ sizeLine := by rw [← rel.length]; exact z
    have hl : (putK kvs k v).length ≤ sizeLine := by have := length_putK kvs k v; omega
    refine wpAny_setItem_pairs (hsz := hz) (kV_is ry) dd fun h' dd' hs => h _ ?_
    have he : ∃ q, h'.get? a = some q := let ⟨q, _, _, hq, _⟩ := dd'; ⟨q, hq⟩
    exact d_write I (by rw [e]; exact True.intro) hs he (dk_new hl hd (rel.put k rv) dd')
  · subst ey eH
    cases (show u = Value.ref b from ry)
    obtain ⟨z, hd, xs, rel, dd⟩ := dt_of I.hok e
    have hz : xs.length ≤ sizeLine := by rw [← Paired.length rel]; exact z
    have hl : (putK kvs k v).length ≤ sizeLine := by have := length_putK kvs k v; omega
    refine wpAny_setItem_heap (hsz := hz) (tupleKind_room_in1 hu) (key_of I.hok eb) dd fun h' dd' hs => h _ ?_
    obtain ⟨q, es, ep, hq, h2, h3, h4, _, h5⟩ := dd'
    refine d_write I (by rw [e]; exact True.intro) hs ⟨q, hq⟩ ⟨hl, hd, _, (rel.put k eb rv).keeps fun c ys ec => ?_, q, es, ep, hq, h2, h3, h4, h5⟩
    rw [upd_ne (ne_of ec e (fun z => nomatch z))]
    exact ec
end
section
variable {X : Cx} {pins : List (Addr × Obj)} {σ : St} {H : Hp} {s : Shared} {a : Addr} {kvs : List (Key × V)} {k : Key} {u : Value} {A : Around} {E : Value → Shared → Prop}
end
def sDPut (td ty tv : TE) : TS := fun D σ H => tv σ H fun v H1 => td σ H1 fun x H2 => ty σ H2 fun y H3 => ∃ a H4, x = .ref a ∧ DPut H3 a y v H4 ∧ D.nx σ H4
section
variable {X : Cx} {o i e value : Expr} {pos pos' tpos : Pos} {td ty tv : TE}
theorem ps_dput (hu : X.A.units + 1 < cLine) (ho : PE X o td) (hi : PE X i ty) (hv : PE X value tv) (hs : swapsWith value (some (.Subscript o i pos')) pos.line X.env = pure false) :
    PS X (.Assign [.Subscript o i pos'] value pos) (sDPut td ty tv) := by
  intro pins s σ H D I h
  refine wpAny_Assign_Subscript (thn (hv pins s σ H _ I h) fun r s1 ⟨v, H1, I1, rv, q1⟩ => thn (ho pins s1 σ H1 _ I1 q1) fun u s2 ⟨x, H2, I2, rx, q2⟩ => thn (hi pins s2 σ H2 _ I2 q2) fun iv s3 ⟨y, H3, I3, ry, a, H4, ex, g, q3⟩ => ?_) hs
  subst ex
  obtain rfl : u = Value.ref a := rx
  exact d_setItem hu I3 g ry rv fun s4 I4 => ⟨σ, H4, I4, q3⟩
end
theorem dt_empty {P : Program} {w : World} {H : Hp} (h : Heap) (hb : sysModules < h.objs.size) : ObjOk P w H (h.push { cls := .type "dict", data := .dict #[] }) h.objs.size (.dT []) :=
  ⟨Nat.zero_le _, beq_eq_false_iff_ne.mpr (Ne.symm (Nat.ne_of_lt hb)), [], .nil, _, #[], 0, Heap.get?_push_size _ rfl, ⟨rfl, rfl, rfl⟩, rfl, rfl, List.nodup_nil⟩
def tDNewT : TE := fun _ H Q => ∀ p, H p = none → Q (.ref p) (upd H p (.dT []))
section
variable {X : Cx} {pos : Pos}
theorem pe_dnewT : PE X (.Dict [] [] pos) tDNewT := fun pins s σ H Q I h =>
  wpAny_Dict_empty ⟨.ref s.heap.objs.size, _, I.laid (a := s.heap.objs.size) (o := .dT []) (t' := s.toks) (fun _ _ q => Heap.get?_push_of_some _ q) (Nat.le_refl _) (dt_empty s.heap I.big), rfl, h _ (I.hok.fresh (Nat.le_refl _))⟩
end
structure M1 (X : Cx) (o : Expr) (m : Str) (apos : Pos) (e : Expr) (cpos : Pos) : Prop where
  base : attributeBase o m X.env (eval o X.env) = eval o X.env
  few : ((backTo cpos (starEach [e] X.env)).all (fun x => !x.1) && (backToKw cpos (keywordEach [] X.env)).all (fun x => x.1.isSome)
    && decide (([e] : List Expr).length + ([] : List Keyword).length + (if ([] : List Keyword).isEmpty then 0 else 1) < 30)) = true
  line : (apos.endLine == cpos.line) = true
  trees : backTo cpos (starEach [e] X.env) = [(false, eval e X.env)]
structure M2 (X : Cx) (o : Expr) (m : Str) (apos : Pos) (e f : Expr) (cpos : Pos) : Prop where
  base : attributeBase o m X.env (eval o X.env) = eval o X.env
  few : ((backTo cpos (starEach [e, f] X.env)).all (fun x => !x.1) && (backToKw cpos (keywordEach [] X.env)).all (fun x => x.1.isSome)
    && decide (([e, f] : List Expr).length + ([] : List Keyword).length + (if ([] : List Keyword).isEmpty then 0 else 1) < 30)) = true
  line : (apos.endLine == cpos.line) = true
  trees : backTo cpos (starEach [e, f] X.env) = [(false, eval e X.env), (false, eval f X.env)]
def IsD (H : Hp) (a : Addr) : Prop := (∃ kvs, Rd H a (.dK kvs)) ∨ ∃ kvs, Rd H a (.dT kvs)
theorem isD_at {X : Cx} {pins : List (Addr × Obj)} {σ : St} {H : Hp} {s : Shared} {a : Addr} (I : Inv X pins σ H s) (d : IsD H a) :
    s.TypeIs (.ref a) "dict" ∧ (∀ b, Value.ref a = .ref b → ∃ ob, s.heap.get? b = some ob ∧ ob.dict = none) ∧ (a == sysModules) = false := by
  rcases d with ⟨kvs, e⟩ | ⟨kvs, e⟩
  · obtain ⟨_, hd, vs, _, dd⟩ := dk_rd I.hok e
    refine ⟨dd.typeIs, fun b q => ?_, hd⟩
    cases q
    obtain ⟨ob, _, _, h1, h2, _⟩ := dd
    exact ⟨ob, h1, h2.2.1⟩
  · obtain ⟨_, hd, xs, _, dd⟩ := dt_rd I.hok e
    refine ⟨dd.typeIs, fun b q => ?_, hd⟩
    cases q
    obtain ⟨ob, _, _, h1, h2, _⟩ := dd
    exact ⟨ob, h1, h2.2.1⟩
section
variable {X : Cx} {pins : List (Addr × Obj)} {σ : St} {H : Hp} {s : Shared} {a : Addr} {y d : V} {u r : Value} {o : Option V} {A : Around} {E : Value → Shared → Prop}
end
section
variable {X : Cx} {o e f : Expr} {apos cpos : Pos} {td ty tx : TE}
end
section
variable {X : Cx} {pins : List (Addr × Obj)} {σ : St} {H : Hp} {s : Shared} {a : Addr} {kvs : List (Key × V)} {A : Around} {E : Value → Shared → Prop}
end
section
variable {X : Cx} {pins : List (Addr × Obj)} {σ : St} {H : Hp} {s : Shared} {a : Addr} {y : V} {u : Value} {A : Around} {E : Value → Shared → Prop}
end
end L2
namespace L2
open PySem PySem.Spec PyProof.Rows
section
variable {X : Cx}
end
end L2
namespace L2
open PySem PySem.Spec PyProof.Rows
section
variable {κ : Type} [DecidableEq κ]
theorem nd_snoc : ∀ {l : List κ} {k : κ}, l.Nodup → ¬ k ∈ l → (l ++ [k]).Nodup
  | [], k, _, _ => by simp
  | a :: r, k, h, hk => by
    obtain ⟨h1, h2⟩ := List.nodup_cons.mp h
    show (a :: (r ++ [k])).Nodup
    refine List.nodup_cons.mpr ⟨fun m => ?_, nd_snoc h2 fun m => hk (List.mem_cons.mpr (Or.inr m))⟩
    rcases List.mem_append.mp m with q | q
    · exact h1 q
    · exact hk (List.mem_cons.mpr (Or.inl (List.mem_singleton.mp q).symm))
end
end L2
namespace L2
open PySem PySem.Spec PyProof.Rows
def tLoop (J : It) (g : TG) (tb : TS) : TS := fun D σ H => ∃ W : Nat → Nat → St → Hp → Prop, (∃ m, W 0 m σ H) ∧ ∀ i m σ H, W i m σ H →
  (J.stop i H ∧ D.nx σ H) ∨ (J.go i H ∧ ∃ N : St → Hp → Prop, (∀ σ' H', N σ' H' → ∃ m', m' < m ∧ W (i + 1) m' σ' H') ∧ ∀ x H', J.yld i H x H' → g x σ H' fun σ2 H2 => tb { D with nx := N, ct := N, bk := D.nx } σ2 H2)
def cInner (elt : Expr) (gens : List Comprehension) (scope : Scope) (pos : Pos) (d : Nat) (acc : Value) (env : Env) (k : Sem Fin) : Sem Fin :=
  match gens[d + 1]? with
  | some g' => eval g'.iter env >>= fun x => standAt g'.iter.pos >>= fun _ => foldedSetIterable g'.iter env x >>= fun x => holding [x] (pyIter x) >>= fun i =>
      runOwn (.compStart (.ListComp elt gens scope pos) (d + 1) i acc env) env >>= fun _ => k
  | none => (eval elt env >>= fun x => call (.builtin "list.append") [acc, x] >>= fun _ => pure ()) >>= fun _ => k
theorem compTurn_at {elt target iter : Expr} {ifs : List Expr} {gens : List Comprehension} {scope : Scope} {pos : Pos} {d : Nat} (it acc : Value) (env : Env) (hg : gens[d]? = some ⟨target, iter, ifs, 0⟩)
    (hn : ∀ g', gens[d + 1]? = some g' → g'.is_async = 0) :
    compTurn (.ListComp elt gens scope pos) d it acc env = (standAt iter.pos >>= fun _ => pyNext it >>= fun r => match r with
      | none => pure (.done .next)
      | some v => letOwnedTupleGo target it v >>= fun _ => assign target env v >>= fun _ =>
        (forIn ifs true fun c r => if r = true then do let ok ← isTrue c env (eval c env); pure (ForInStep.yield ok) else pure (ForInStep.yield r)) >>= fun ok =>
          if ok = true then cInner elt gens scope pos d acc env (again (.compLoop (.ListComp elt gens scope pos) d it acc env))
          else again (.compLoop (.ListComp elt gens scope pos) d it acc env)) := by
  unfold compTurn cInner
  simp only [hg]
  cases h : gens[d + 1]? with
  | none => rfl
  | some g' =>
    obtain ⟨t', i', f', a'⟩ := g'
    have e : a' = 0 := hn _ h
    subst e
    rfl
def tTests : List TT → TS → TS
  | [], tb => tb
  | c :: r, tb => tIfS c (tTests r tb) tNext
inductive PTs (X : Cx) : List Expr → List TT → Prop
  | nil : PTs X [] []
  | cons {c : Expr} {cs : List Expr} {t : TT} {ts : List TT} : PT X c t → PTs X cs ts → PTs X (c :: cs) (t :: ts)
section
variable {X : Cx}
theorem tests_false {cs : List Expr} {s : Shared} {Q : Bool → Shared → Prop} {E : Value → Shared → Prop} (h : Q false s) :
    wpAny (model X.prog X.w) X.A (forIn cs false fun c r => if r = true then do let ok ← isTrue c X.env (eval c X.env); pure (ForInStep.yield ok) else pure (ForInStep.yield r)) Q E s := by
  induction cs with
  | nil => rw [List.forIn_nil]; exact wpAny_pure h
  | cons c cs ih =>
    rw [List.forIn_cons, if_neg Bool.false_ne_true]
    exact wpAny_bind (wpAny_pure ih)
theorem tests_run {tb : TS} {D : Ends} {pins : List (Addr × Obj)} : ∀ {cs : List Expr} {ts : List TT}, PTs X cs ts → ∀ {s : Shared} {σ : St} {H : Hp}, Inv X pins σ H s → tTests ts tb D σ H →
    wpAny (model X.prog X.w) X.A (forIn cs true fun c r => if r = true then do let ok ← isTrue c X.env (eval c X.env); pure (ForInStep.yield ok) else pure (ForInStep.yield r))
      (fun ok s' => ∃ H', Inv X pins σ H' s' ∧ if ok = true then tb D σ H' else D.nx σ H') X.xe s
  | _, _, .nil, s, σ, H, I, h => by rw [List.forIn_nil]; exact wpAny_pure ⟨H, I, by rw [if_pos rfl]; exact h⟩
  | _, _, .cons (cs := cs) hc hr, s, σ, H, I, h => by
    rw [List.forIn_cons, if_pos rfl]
    refine wpAny_bind (wpAny_bind (thn (hc pins s σ H _ I h) fun b s1 ⟨H1, I1, q1⟩ => wpAny_pure ?_))
    cases b with
    | true =>
      rw [if_pos rfl] at q1
      exact tests_run hr I1 q1
    | false =>
      rw [if_neg Bool.false_ne_true] at q1
      exact tests_false ⟨H1, I1, by rw [if_neg Bool.false_ne_true]; exact q1⟩
end
def PB (X : Cx) (elt : Expr) (gens : List Comprehension) (scope : Scope) (pos : Pos) (d : Nat) (acc : Addr) (t : TS) : Prop :=
  ∀ (pins : List (Addr × Obj)) (s : Shared) (σ : St) (H : Hp) (D : Ends) (k : Sem Fin) (Q : Fin → Shared → Prop) (E : Value → Shared → Prop), Inv X pins σ H s → t D σ H →
    (∀ s' σ' H', Inv X pins σ' H' s' → D.nx σ' H' → wpAny (model X.prog X.w) X.A k Q E s') → wpAny (model X.prog X.w) X.A (cInner elt gens scope pos d (.ref acc) X.env k) Q E s
def tEmit (te : TE) (acc : Addr) : TS := fun D σ H => te σ H fun x H1 => ∃ xs, H1 acc = some (.lst xs) ∧ xs.length < sizeLine ∧ D.nx σ (upd H1 acc (.lst (xs ++ [x])))
section
variable {X : Cx}
theorem pb_emit {elt : Expr} {gens : List Comprehension} {scope : Scope} {pos : Pos} {d : Nat} {acc : Addr} {te : TE} (hx : X.xe = fun _ _ => False) (he : PE X elt te) (hl : gens[d + 1]? = none) : PB X elt gens scope pos d acc (tEmit te acc) := by
  intro pins s σ H D k Q E I h hk
  unfold cInner
  rw [hl]
  refine wpAny_bind (wpAny_bind (wpAny_mono (he pins s σ H _ I h) (fun v s1 ⟨x, H1, I1, r1, xs, ha, hz, q⟩ => ?_) fun _ _ z => by rw [hx] at z; exact z.elim))
  have hm := mt_append (X := X) pins s1 σ H1 (.ref acc) [x] (.ref acc) [v] (fun v H' => v = .non ∧ D.nx σ H') I1 rfl (.cons r1 .nil) ⟨acc, xs, x, rfl, rfl, ha, hz, rfl, q⟩
  refine wpAny_bind (wpAny_mono hm (fun _ s2 ⟨x2, H2, I2, r2, _, q2⟩ => wpAny_pure (hk s2 σ H2 I2 q2)) fun _ _ z => by rw [hx] at z; exact z.elim)
theorem comp_loop {elt target iter : Expr} {ifs : List Expr} {gens : List Comprehension} {scope : Scope} {pos : Pos} {d : Nat} {acc it : Addr} {fp : List Addr} {tn : Nat → Heap → Prop} {J : It} {g : TG} {ts : List TT} {tb : TS} {D : Ends} {pins : List (Addr × Obj)} {s : Shared} {σ : St} {H : Hp}
    (hx : X.xe = fun _ _ => False) (hc : X.calm = true) (hgd : gens[d]? = some ⟨target, iter, ifs, 0⟩) (hn : ∀ g', gens[d + 1]? = some g' → g'.is_async = 0)
    (hg : PG X target g) (hts : PTs X ifs ts) (hb : PB X elt gens scope pos d acc tb)
    (T : Turn X.prog X.w X.K target J fp it tn) (I : Inv X pins σ H s) (st : tn 0 s.heap) (hf : ∀ b ∈ fp, FpOk X pins H b) (h : tLoop J g (tTests ts tb) D σ H) :
    codeAny (model X.prog X.w) X.A (.compStart (.ListComp elt gens scope pos) d (.ref it) (.ref acc) X.env) (fun r s' => ∃ f, r = .ok f ∧ ∃ σ' H', Inv X pins σ' H' s' ∧ D.nx σ' H') s := by
  have stat : ∀ {H' : Hp}, (∀ b ∈ fp, H' b = none) → ∀ b ∈ fp, FpOk X pins H' b := fun hn b hb => ⟨hn b hb, (hf b hb).2⟩
  obtain ⟨W, ⟨m0, w0⟩, turn⟩ := h
  have E0 : ∀ (e : Value) (s' : Shared), X.xe e s' → notedBy (model X.prog X.w) X.A X.env (fun e s' => ∃ f, (Except.error e : Result) = .ok f ∧ ∃ σ' H', Inv X pins σ' H' s' ∧ D.nx σ' H') e s' := fun e s' z => by rw [hx] at z; exact z.elim
  have loop : codeAny (model X.prog X.w) X.A (.compLoop (.ListComp elt gens scope pos) d (.ref it) (.ref acc) X.env) (fun r s' => ∃ f, r = .ok f ∧ ∃ σ' H', Inv X pins σ' H' s' ∧ D.nx σ' H') s := by
    refine codeAny_loop rfl (fun n s' => ∃ i σ' H', Inv X pins σ' H' s' ∧ tn i s'.heap ∧ (∀ b ∈ fp, H' b = none) ∧ W i n σ' H') ?_ m0 ⟨0, σ, H, I, st, fun b hb => (hf b hb).1, w0⟩
    rintro n s3 ⟨i, σ3, H3, I3, st3, fr3, w3⟩
    show wpAny _ X.A ((compTurn (.ListComp elt gens scope pos) d (.ref it) (.ref acc) X.env).onRaise (fun x => do noteFrame x X.env; theTreesLotGoes x)) _ _ s3
    refine wpAny_noted ?_
    rw [compTurn_at _ _ _ hgd hn]
    refine wpAny_bind (wpAny_standAt (wpAny_bind ?_))
    rcases turn i n σ3 H3 w3 with ⟨stop, qn⟩ | ⟨go, N, hN, step⟩
    · refine wpAny_mono (T.done X rfl rfl rfl hc i pins s3 σ3 H3 (fun _ _ => False) I3 (stat fr3) st3 stop) (fun r s4 ⟨hr, I4⟩ => ?_) (fun _ _ z => z.elim)
      subst hr
      exact wpAny_pure ⟨.next, rfl, σ3, H3, I4, qn⟩
    · refine wpAny_mono (T.item X rfl rfl rfl hc i pins s3 σ3 H3 (fun _ _ => False) I3 (stat fr3) st3 go) (fun r s4 ⟨u, hr, h4⟩ => ?_) (fun _ _ z => z.elim)
      subst hr
      refine wpAny_bind (wpAny_mono h4 (fun _ s5 ⟨x, H5, I5, r5, y5, st5, fr5⟩ => ?_) (fun _ _ z => z.elim))
      have I5' := I5.pinned (stat fr5) (T.obj _ _ st5)
      refine wpAny_bind (wpAny_mono (hg _ s5 σ3 H5 x u _ I5' r5 (step x H5 y5)) (fun _ s6 ⟨σ6, H6, I6, q6⟩ => ?_) E0)
      refine wpAny_bind (wpAny_mono (tests_run hts I6 q6) (fun ok s7 ⟨H7, I7, q7⟩ => ?_) E0)
      have again : ∀ {σ7 : St} {H7 : Hp} {s7 : Shared}, Inv X (pins ++ pinsAt fp s5.heap) σ7 H7 s7 → N σ7 H7 → ∃ m, m < n ∧ ∃ i σ' H', Inv X pins σ' H' s7 ∧ tn i s7.heap ∧ (∀ b ∈ fp, H' b = none) ∧ W i m σ' H' := fun {σ7 H7 s7} I7 n7 => by
        obtain ⟨m', hm, w7⟩ := hN σ7 H7 n7
        refine ⟨m', hm, i + 1, σ7, H7, I7.unpinned, T.keep _ _ _ st5 fun b hb o e => (I7.pin (b, o) (List.mem_append_right _ (List.mem_append_right _ (mem_pinsAt hb e)))).1, fun b hb => ?_, w7⟩
        obtain ⟨o, e, d⟩ := T.obj _ _ st5 b hb
        exact (I7.pin (b, o) (List.mem_append_right _ (List.mem_append_right _ (mem_pinsAt hb e)))).2.1
      cases ok with
      | false =>
        rw [if_neg Bool.false_ne_true] at q7 ⊢
        exact wpAny_pure ⟨rfl, again I7 q7⟩
      | true =>
        rw [if_pos rfl] at q7 ⊢
        exact hb _ s7 σ6 H7 _ _ _ _ I7 q7 fun s8 σ8 H8 I8 q8 => wpAny_pure ⟨rfl, again I8 q8⟩
  refine codeAny_of_tree ?_
  show wpAny _ _ ((compStart (.ListComp elt gens scope pos) d (.ref it) (.ref acc) X.env).onRaise (fun x => do noteFrame x X.env; standAt theWindowsPlace)) _ _ s
  refine wpAny_notedAt ?_
  have hcl : clausesOf (.ListComp elt gens scope pos) = gens := rfl
  unfold compStart
  rw [hcl, hgd]
  show wpAny _ _ (ask >>= _) _ _ s
  refine wpAny_bind (wpAny_askSetting (wpAny_ite ?_))
  split
  · first
      | exact wpAny_bind (wpAny_pure (wpAny_pure (And.intro rfl loop)))
      | exact wpAny_pure (And.intro rfl loop)
  · refine wpAny_bind (wpAny_rule ?_)
    show wpAny _ _ (standAt iter.pos >>= _) _ _ s
    exact wpAny_bind (wpAny_standAt (wpAny_bind (T.self X.A 0 s _ _ st (wpAny_pure (And.intro rfl loop)))))
end
end L2
namespace L2
open PySem PySem.Spec PyProof.Rows
def closC (cells : List (Str × Addr)) : List (Str × NameKind) → List (Str × Addr) → List (Str × Addr)
  | [], acc => acc
  | (n, k) :: r, acc => if k == .free then closC cells r ((n, (cells.lookup n).getD 0) :: acc) else closC cells r acc
theorem closureFor_are {scope : Scope} {env : Env} (h : ∀ x ∈ scope.names, x.2 = .free → (env.cells.lookup x.1).isSome = true) : closureFor scope env = pure (closC env.cells scope.names []) := by
  have go : ∀ (names : List (Str × NameKind)) (acc : List (Str × Addr)), (∀ x ∈ names, x.2 = .free → (env.cells.lookup x.1).isSome = true) →
      (forIn names acc fun x (r : List (Str × Addr)) => if x.2 == NameKind.free then (do let c ← cellOf env x.1; pure (ForInStep.yield ((x.1, c) :: r))) else pure (ForInStep.yield r) : Sem (List (Str × Addr))) = pure (closC env.cells names acc) := by
    intro names
    induction names with
    | nil => intro acc _; rw [List.forIn_nil]; rfl
    | cons x r ih =>
      intro acc hh
      obtain ⟨n, k⟩ := x
      rw [List.forIn_cons]
      unfold closC
      cases hk : k == NameKind.free with
      | false =>
        rw [if_neg Bool.false_ne_true, if_neg Bool.false_ne_true]
        exact ih acc fun y hy => hh y (List.mem_cons_of_mem _ hy)
      | true =>
        rw [if_pos rfl, if_pos rfl]
        obtain ⟨c, hc⟩ := Option.isSome_iff_exists.mp (hh (n, k) List.mem_cons_self (by simpa using hk))
        have e : cellOf env n = pure c := by
          unfold cellOf
          rw [show env.cells.lookup n = some c from hc]
        show (do let x ← (do let c ← cellOf env n; pure (ForInStep.yield ((n, c) :: acc))); _) = _
        rw [e]
        rw [show ((env.cells.lookup n).getD 0) = c by rw [show env.cells.lookup n = some c from hc]; rfl]
        exact ih ((n, c) :: acc) fun y hy => hh y (List.mem_cons_of_mem _ hy)
  have := go scope.names [] h
  unfold closureFor
  refine Eq.trans ?_ (congrArg (fun m => m >>= fun r => pure r) this |>.trans rfl)
  rfl
theorem closC_out {cells : List (Str × Addr)} {x : Str} : ∀ (names : List (Str × NameKind)) (acc : List (Str × Addr)), (x, NameKind.free) ∉ names → (closC cells names acc).lookup x = acc.lookup x
  | [], _, _ => rfl
  | (n, k) :: r, acc, h => by
    unfold closC
    have hr : (x, NameKind.free) ∉ r := fun z => h (List.mem_cons_of_mem _ z)
    cases hk : k == NameKind.free with
    | false => rw [if_neg Bool.false_ne_true]; exact closC_out r acc hr
    | true =>
      rw [if_pos rfl, closC_out r _ hr, List.lookup_cons]
      have e : k = .free := by simpa using hk
      have ne : (x == n) = false := by
        cases q : x == n with
        | false => rfl
        | true => exact absurd (by rw [beq_iff_eq.mp q, e]; exact List.mem_cons_self) h
      rw [ne]
theorem closC_in {cells : List (Str × Addr)} {x : Str} {c : Addr} (hc : cells.lookup x = some c) : ∀ (names : List (Str × NameKind)) (acc : List (Str × Addr)), (x, NameKind.free) ∈ names → (closC cells names acc).lookup x = some c
  | [], _, h => by simp at h
  | (n, k) :: r, acc, h => by
    unfold closC
    by_cases hr : (x, NameKind.free) ∈ r
    · cases hk : k == NameKind.free with
      | false => rw [if_neg Bool.false_ne_true]; exact closC_in hc r acc hr
      | true => rw [if_pos rfl]; exact closC_in hc r _ hr
    · rcases List.mem_cons.mp h with e | e
      · cases e
        rw [if_pos (by decide), closC_out r _ hr, List.lookup_cons]
        simp [hc]
      · exact absurd e hr
theorem closC_from {cells : List (Str × Addr)} {x : Str} {c : Addr} : ∀ (names : List (Str × NameKind)) (acc : List (Str × Addr)), (∀ y ∈ names, y.2 = .free → (cells.lookup y.1).isSome = true) → (x, c) ∈ closC cells names acc →
    (x, c) ∈ acc ∨ ((x, NameKind.free) ∈ names ∧ cells.lookup x = some c)
  | [], _, _, h => .inl h
  | (n, k) :: r, acc, hh, h => by
    unfold closC at h
    have hr : ∀ y ∈ r, y.2 = .free → (cells.lookup y.1).isSome = true := fun y hy => hh y (List.mem_cons_of_mem _ hy)
    cases hk : k == NameKind.free with
    | false =>
      rw [hk, if_neg Bool.false_ne_true] at h
      exact (closC_from r acc hr h).imp id fun z => ⟨List.mem_cons_of_mem _ z.1, z.2⟩
    | true =>
      rw [hk, if_pos rfl] at h
      have ek : k = .free := by simpa using hk
      rcases closC_from r _ hr h with z | z
      · rcases List.mem_cons.mp z with z | z
        · cases z
          obtain ⟨d, hd⟩ := Option.isSome_iff_exists.mp (hh (x, k) List.mem_cons_self ek)
          exact .inr ⟨by rw [ek]; exact List.mem_cons_self, by rw [hd]; rfl⟩
        · exact .inl z
      · exact .inr ⟨List.mem_cons_of_mem _ z.1, z.2⟩
theorem closC_apart {cells : List (Str × Addr)} (inj : ∀ x y c, cells.lookup x = some c → cells.lookup y = some c → x = y) : ∀ (names : List (Str × NameKind)) (acc : List (Str × Addr)), (names.map (·.1)).Nodup →
    (∀ y ∈ names, y.2 = .free → (cells.lookup y.1).isSome = true) → (∀ p ∈ acc, cells.lookup p.1 = some p.2 ∧ p.1 ∉ names.map (·.1)) → (acc.Pairwise fun x y => x.2 ≠ y.2) → (closC cells names acc).Pairwise fun x y => x.2 ≠ y.2
  | [], _, _, _, _, h => h
  | (n, k) :: r, acc, nd, hh, ha, h => by
    unfold closC
    have hr : ∀ y ∈ r, y.2 = .free → (cells.lookup y.1).isSome = true := fun y hy => hh y (List.mem_cons_of_mem _ hy)
    obtain ⟨n1, n2⟩ := List.nodup_cons.mp nd
    cases hk : k == NameKind.free with
    | false =>
      rw [if_neg Bool.false_ne_true]
      exact closC_apart inj r acc n2 hr (fun p hp => ⟨(ha p hp).1, fun z => (ha p hp).2 (List.mem_cons_of_mem _ z)⟩) h
    | true =>
      rw [if_pos rfl]
      have ek : k = .free := by simpa using hk
      obtain ⟨d, hd⟩ := Option.isSome_iff_exists.mp (hh (n, k) List.mem_cons_self ek)
      have hd' : cells.lookup n = some d := hd
      refine closC_apart inj r _ n2 hr (fun p hp => ?_) (List.pairwise_cons.mpr ⟨fun p hp e => ?_, h⟩)
      · rcases List.mem_cons.mp hp with e | hp
        · subst e; exact ⟨by rw [hd']; rfl, n1⟩
        · exact ⟨(ha p hp).1, fun z => (ha p hp).2 (List.mem_cons_of_mem _ z)⟩
      · rw [hd'] at e
        have e' : d = p.2 := e
        have : n = p.1 := inj n p.1 d hd' (by rw [e']; exact (ha p hp).1)
        exact (ha p hp).2 (by rw [← this]; exact List.mem_cons_self)
theorem cellsFrom_from {x : Str} {c : Addr} : ∀ (names : List (Str × NameKind)) (n : Nat) (acc : List (Str × Addr)), (x, c) ∈ cellsFrom n names acc → (n ≤ c ∧ (x, NameKind.cell) ∈ names) ∨ (x, c) ∈ acc
  | [], _, _, h => .inr h
  | (y, k) :: r, n, acc, h => by
    unfold cellsFrom at h
    cases hk : k == NameKind.cell with
    | false =>
      rw [hk, if_neg Bool.false_ne_true] at h
      exact (cellsFrom_from r n acc h).imp (fun z => ⟨z.1, List.mem_cons_of_mem _ z.2⟩) id
    | true =>
      rw [hk, if_pos rfl] at h
      have ek : k = .cell := by simpa using hk
      rcases cellsFrom_from r (n + 1) _ h with z | z
      · exact .inl ⟨by omega, List.mem_cons_of_mem _ z.2⟩
      · rcases List.mem_cons.mp z with z | z
        · cases z
          exact .inl ⟨Nat.le_refl _, by rw [ek]; exact List.mem_cons_self⟩
        · exact .inr z
theorem cellsFrom_apart : ∀ (names : List (Str × NameKind)) (n : Nat) (acc : List (Str × Addr)), (∀ p ∈ acc, p.2 < n) → (acc.Pairwise fun x y => x.2 ≠ y.2) → (cellsFrom n names acc).Pairwise fun x y => x.2 ≠ y.2
  | [], _, _, _, h => h
  | (y, k) :: r, n, acc, hl, h => by
    unfold cellsFrom
    cases hk : k == NameKind.cell with
    | false => rw [if_neg Bool.false_ne_true]; exact cellsFrom_apart r n acc hl h
    | true =>
      rw [if_pos rfl]
      refine cellsFrom_apart r (n + 1) _ (fun p hp => ?_) (List.pairwise_cons.mpr ⟨fun p hp e => ?_, h⟩)
      · rcases List.mem_cons.mp hp with e | hp
        · subst e; exact Nat.lt_succ_self _
        · exact Nat.lt_succ_of_lt (hl p hp)
      · have e' : n = p.2 := e
        exact Nat.lt_irrefl _ (e' ▸ hl p hp)
theorem cellsFrom_out {x : Str} : ∀ (names : List (Str × NameKind)) (n : Nat) (acc : List (Str × Addr)), (x, NameKind.cell) ∉ names → (cellsFrom n names acc).lookup x = acc.lookup x
  | [], _, _, _ => rfl
  | (y, k) :: r, n, acc, h => by
    unfold cellsFrom
    have hr : (x, NameKind.cell) ∉ r := fun z => h (List.mem_cons_of_mem _ z)
    cases hk : k == NameKind.cell with
    | false => rw [if_neg Bool.false_ne_true]; exact cellsFrom_out r n acc hr
    | true =>
      rw [if_pos rfl, cellsFrom_out r _ _ hr, List.lookup_cons]
      have e : k = .cell := by simpa using hk
      have ne : (x == y) = false := by
        cases q : x == y with
        | false => rfl
        | true => exact absurd (by rw [beq_iff_eq.mp q, e]; exact List.mem_cons_self) h
      rw [ne]
theorem pushCells_empty {x : Str} {c : Addr} : ∀ (names : List (Str × NameKind)) (h : Heap) (acc : List (Str × Addr)), (x, c) ∈ cellsFrom h.objs.size names acc → (x, c) ∈ acc ∨ (pushCells h names).IsCell c none
  | [], _, _, hm => .inl hm
  | (y, k) :: r, h, acc, hm => by
    unfold cellsFrom at hm
    unfold pushCells
    cases hk : k == NameKind.cell with
    | false =>
      rw [hk, if_neg Bool.false_ne_true] at hm
      rw [if_neg Bool.false_ne_true]
      exact pushCells_empty r h acc hm
    | true =>
      rw [hk, if_pos rfl] at hm
      rw [if_pos rfl]
      have := pushCells_empty (x := x) (c := c) r (h.push { cls := .type "cell", data := .cell none }) ((y, h.objs.size) :: acc) (by rw [Heap.size_push]; exact hm)
      rcases this with z | z
      · rcases List.mem_cons.mp z with z | z
        · cases z
          exact .inr ⟨_, pushCells_keeps r _ _ _ (Heap.get?_push_size _ rfl), rfl⟩
        · exact .inl z
      · exact .inr z
theorem lookup_mem_nodup {x : Str} {k : NameKind} : ∀ {names : List (Str × NameKind)}, (names.map (·.1)).Nodup → (x, k) ∈ names → names.lookup x = some k
  | [], _, h => by simp at h
  | (y, j) :: r, nd, h => by
    obtain ⟨n1, n2⟩ := List.nodup_cons.mp nd
    rw [List.lookup_cons]
    rcases List.mem_cons.mp h with e | e
    · cases e; simp
    · have ne : (x == y) = false := by
        cases q : x == y with
        | false => rfl
        | true => exact absurd (List.mem_map.mpr ⟨(x, k), e, beq_iff_eq.mp q⟩) n1
      rw [ne]
      exact lookup_mem_nodup n2 e
theorem relabel_cases {scope : Scope} {env : Env} {x : Str} {k : NameKind} : (relabel scope env).names.lookup x = some k → (k = .cell ∨ k = .free) → scope.names.lookup x = some .cell ∨ scope.names.lookup x = some .free := by
  unfold relabel
  show (scope.names.map _).lookup x = some k → _
  induction scope.names with
  | nil => intro h; simp at h
  | cons p r ih =>
    obtain ⟨n, j⟩ := p
    intro h hk
    rw [List.map_cons] at h
    rw [List.lookup_cons]
    by_cases hc : (j == NameKind.free && env.scope.kind == .function && env.kindOf n == some .cell) = true
    · simp only [hc, if_true] at h
      rw [List.lookup_cons] at h
      cases q : x == n with
      | true =>
        have : j = .free := by
          have := (Bool.and_eq_true_iff.mp (Bool.and_eq_true_iff.mp hc).1).1
          simpa using this
        simp [this]
      | false => rw [q] at h; simpa using ih h hk
    · simp only [hc, Bool.false_eq_true, if_false] at h
      rw [List.lookup_cons] at h
      cases q : x == n with
      | true =>
        rw [q] at h
        simp only [Option.some.injEq] at h
        subst h
        rcases hk with e | e <;> simp [e]
      | false => rw [q] at h; simpa using ih h hk
theorem relabel_free {scope : Scope} {env : Env} {x : Str} (hf : env.scope.kind = .function) : scope.names.lookup x = some .free → (relabel scope env).names.lookup x = some .cell ∨ (relabel scope env).names.lookup x = some .free := by
  unfold relabel
  show _ → (scope.names.map _).lookup x = _ ∨ (scope.names.map _).lookup x = _
  induction scope.names with
  | nil => intro h; simp at h
  | cons p r ih =>
    obtain ⟨n, j⟩ := p
    intro h
    rw [List.lookup_cons] at h
    rw [List.map_cons]
    cases q : x == n with
    | true =>
      rw [q] at h
      simp only [Option.some.injEq] at h
      subst h
      by_cases hc : (NameKind.free == NameKind.free && env.scope.kind == .function && env.kindOf n == some .cell) = true
      · left; simp only [hc, if_true]; rw [List.lookup_cons, q]
      · right; simp only [hc, Bool.false_eq_true, if_false]; rw [List.lookup_cons, q]
    | false =>
      rw [q] at h
      by_cases hc : (j == NameKind.free && env.scope.kind == .function && env.kindOf n == some .cell) = true
      · simp only [hc, if_true]; rw [List.lookup_cons, q]; exact ih h
      · simp only [hc, Bool.false_eq_true, if_false]; rw [List.lookup_cons, q]; exact ih h
end L2
namespace L2
open PySem PySem.Spec PyProof.Rows
def cxComp (X : Cx) (N : List Str) (scope : Scope) (s : Shared) (H : Hp) (fp : List Addr) : Cx where
  prog := X.prog
  w := X.w
  K := X.K
  mg := X.mg
  base := X.base
  A := X.A
  N := N
  s₀ := s
  H₀ := H
  env := compEnvC scope (cellsFrom (s.heap.objs.size + 1) scope.names (closC X.env.cells scope.names [])) s.heap.objs.size X.env
  outer := X.stack
  stack := X.stack
  ex := fp
  fn := fun x => scope.names.lookup x == some .cell
  calm := X.calm
  pn := []
  xe := fun _ _ => False
def capt (σ : St) : Option Nat → Option V
  | none => none
  | some j => (σ[j]?).join
def compOk (N : List Str) (names encl : List (Str × NameKind)) (N' : List Str) (ix : List (Option Nat)) : Bool :=
  decide ((names.map (·.1)).Nodup) && names.all (fun p => !(p.2 == NameKind.free) || (encl.lookup p.1 == some NameKind.cell || encl.lookup p.1 == some NameKind.free)) && ix.length == N'.length &&
    ((N'.zip ix).all fun p => match p.2 with
      | none => true
      | some j => N[j]? == some p.1 && names.lookup p.1 == some NameKind.free)
def tComp (ix : List (Option Nat)) (wi : TI) (g : TG) (ts : List TT) (tb : Addr → TS) : TE := fun σ H Q => wi σ H fun J H1 => ∀ acc, H1 acc = none →
  tLoop J g (tTests ts (tb acc)) { nx := fun _ H' => Q (.ref acc) H', rt := fun _ _ => False } (ix.map (capt σ)) (upd H1 acc (.lst []))
section
variable {X : Cx} {elt target iter : Expr} {ifs : List Expr} {rest : List Comprehension} {scope : Scope} {pos : Pos} {N' : List Str} {ix : List (Option Nat)} {wi : TI} {g : TG} {ts : List TT} {tb : Addr → TS}
theorem comp_enter {pins : List (Addr × Obj)} {σ : St} {H : Hp} {s : Shared} {fp : List Addr} {Q : Env → Shared → Prop} {E : Value → Shared → Prop} (I : Inv X pins σ H s) (hok : compOk X.N scope.names X.env.scope.names N' ix = true) (hk : scope.kind = .function)
    (hf : ∀ b ∈ fp, FpOk X pins H b) (hfo : ∀ b ∈ fp, ∃ o, s.heap.get? b = some o)
    (h : ∀ s', (∀ b o, s.heap.get? b = some o → s'.heap.get? b = some o) → Inv (cxComp X N' scope s H fp) [] (ix.map (capt σ)) H s' → Q (newEnv scope s.heap.objs.size X.env.globals (cellsFrom (s.heap.objs.size + 1) scope.names (closC X.env.cells scope.names [])) X.env.qual none .none (some X.env) builtinsNs) s') :
    wpAny (model X.prog X.w) X.A (newFunctionEnv scope X.env.globals (closC X.env.cells scope.names []) [] X.env.qual none .none (some X.env)) Q E s := by
  have hok2 := hok
  simp only [compOk, Bool.and_eq_true, decide_eq_true_eq, List.all_eq_true] at hok
  obtain ⟨⟨⟨nd, hfr⟩, hlen⟩, hix⟩ := hok
  have hlen : ix.length = N'.length := by simpa using hlen
  have isF : ∀ y ∈ scope.names, y.2 = .free → X.env.kindOf y.1 = some .cell ∨ X.env.kindOf y.1 = some .free := fun y hy e => by
    have := hfr y hy
    have : X.env.scope.names.lookup y.1 = some .cell ∨ X.env.scope.names.lookup y.1 = some .free := by simpa [e] using this
    exact this
  have hasC : ∀ y ∈ scope.names, y.2 = .free → (X.env.cells.lookup y.1).isSome = true := fun y hy e => by
    obtain ⟨c, hc⟩ := I.ok.has y.1 (isF y hy e)
    rw [hc]; rfl
  have oldC : ∀ x c, (x, c) ∈ closC X.env.cells scope.names [] → (x, NameKind.free) ∈ scope.names ∧ X.env.cells.lookup x = some c := fun x c hm => (closC_from _ _ hasC hm).resolve_left (by simp)
  have ltC : ∀ x c, X.env.cells.lookup x = some c → c < s.heap.objs.size := fun x c e => by obtain ⟨v, q⟩ := I.cell x c e; exact q.lt
  have apart : (cellsFrom (s.heap.objs.size + 1) scope.names (closC X.env.cells scope.names [])).Pairwise fun x y => x.2 ≠ y.2 :=
    cellsFrom_apart _ _ _ (fun p hp => Nat.lt_succ_of_lt (ltC p.1 p.2 (oldC p.1 p.2 hp).2)) (closC_apart I.ok.inj _ _ nd hasC (by simp) List.Pairwise.nil)
  have fromC : ∀ x c, (cellsFrom (s.heap.objs.size + 1) scope.names (closC X.env.cells scope.names [])).lookup x = some c → (s.heap.objs.size + 1 ≤ c ∧ (x, NameKind.cell) ∈ scope.names) ∨ ((x, NameKind.free) ∈ scope.names ∧ X.env.cells.lookup x = some c) := fun x c e =>
    (cellsFrom_from _ _ _ (PySem.mem_of_lookup e)).imp id fun z => oldC x c z
  have sz1 : (s.heap.push { cls := .type "dict", data := .dict #[] }).objs.size = s.heap.objs.size + 1 := Heap.size_push ..
  simp only [newFunctionEnv, Option.isSome_some, if_true]
  refine wpAny_bind (wpAny_alloc ?_)
  refine wpAny_bind (wpAny_layCells _ (fun name kind cells => by cases hkc : kind == NameKind.cell <;> simp [hkc]) _ _ _ _ ?_)
  rw [show ({ s with heap := s.heap.push { cls := .type "dict", data := .dict #[] } } : Shared).heap.objs.size = s.heap.objs.size + 1 from sz1]
  refine wpAny_bind ?_
  rw [List.forIn_nil]
  refine wpAny_pure (wpAny_pure ?_)
  have keep : ∀ b o, s.heap.get? b = some o → (pushCells (s.heap.push { cls := .type "dict", data := .dict #[] }) scope.names).get? b = some o := fun b o e => pushCells_keeps _ _ b o (Heap.get?_push_of_some _ e)
  refine h _ keep ?_
  have kk : ∀ x : Str, (cxComp X N' scope s H fp).env.kindOf x = (relabel scope X.env).names.lookup x := fun _ => rfl
  have emptyC : ∀ x c, (cellsFrom (s.heap.objs.size + 1) scope.names (closC X.env.cells scope.names [])).lookup x = some c → ∃ v, (pushCells (s.heap.push { cls := .type "dict", data := .dict #[] }) scope.names).IsCell c v := fun x c e => by
    have := pushCells_empty (x := x) (c := c) scope.names (s.heap.push { cls := .type "dict", data := .dict #[] }) (closC X.env.cells scope.names []) (by rw [sz1]; exact PySem.mem_of_lookup e)
    rcases this with z | z
    · obtain ⟨v, q⟩ := I.cell x c (oldC x c z).2
      exact ⟨v, q.keeps keep⟩
    · exact ⟨none, z⟩
  refine ⟨⟨I.ok.mod, hk, I.ok.glob, I.ok.blt, Nat.le_refl _, fun y z c h1 h2 => ?_, fun y hy => ?_, fun y c hy e => ?_, I.ok.hd, I.ok.frames, .inl rfl, fun b hb => ⟨?_, fun x c e => ?_⟩, I.bs, Nat.le_trans I.ok.bsz I.sz, fun b o e hb => ?_, fun b hb hs => ?_, I.stack, I.stkFree⟩,
    rfl, I.bare, Un.kept keep, ⟨fun _ => none, (Heap.Ns.new s.heap (.type "dict")).keeps (pushCells_keeps _ _), fun i x v e1 e2 e3 => ?_⟩, emptyC, I.hok.fresh (Nat.le_refl _), fun y c e => ?_, fun p hp => absurd (show p ∈ ([] : List (Addr × Obj)) from hp) (by simp), I.hok.kept keep, by rw [List.length_map]; exact hlen⟩
  · exact name_of_addr apart (PySem.mem_of_lookup h1) (PySem.mem_of_lookup h2)
  · rw [kk] at hy
    have hy' : scope.names.lookup y = some .cell ∨ scope.names.lookup y = some .free := by
      rcases hy with q | q
      · exact relabel_cases q (.inl rfl)
      · exact relabel_cases q (.inr rfl)
    refine Option.isSome_iff_exists.mp (PySem.W.cellsFrom_some _ _ _ ?_)
    rcases hy' with q | q
    · exact .inl q
    · have hm := PySem.mem_of_lookup q
      obtain ⟨c, hc⟩ := Option.isSome_iff_exists.mp (hasC _ hm rfl)
      exact .inr (by rw [closC_in hc _ _ hm]; rfl)
  · have hy : scope.names.lookup y = some .cell := by simpa using (show (scope.names.lookup y == some NameKind.cell) = true from hy)
    rcases fromC y c e with z | z
    · exact Nat.le_of_succ_le z.1
    · have := lookup_mem_nodup nd z.1
      rw [hy] at this; cases this
  · obtain ⟨o, ho⟩ := hfo b hb
    exact Nat.ne_of_lt (Heap.lt_size ho)
  · rcases fromC x c e with z | z
    · obtain ⟨o, ho⟩ := hfo b hb
      exact Nat.ne_of_gt (Nat.lt_of_lt_of_le (Heap.lt_size ho) (Nat.le_of_succ_le z.1))
    · exact (hf b hb).2.2.2.2.1 x c z.2
  · rcases (hf b hb).2.2.2.1 with z | z
    · exact I.ok.noex b o e z
    · exact absurd (Nat.lt_of_lt_of_le (Heap.lt_size (I.ok.bs b o e).1) z) (Nat.lt_irrefl _)
  · rcases List.mem_cons.mp (I.stkSub b hs) with z | z
    · exact (hf b hb).2.1 z
    · exact (hf b hb).2.2.1 z
  · rw [List.getElem?_map] at e2
    cases hj : ix[i]? with
    | none => rw [hj] at e2; cases e2
    | some oj =>
      rw [hj] at e2
      have e2 : capt σ oj = some v := by simpa using e2
      cases oj with
      | none => cases e2
      | some j =>
        have hv : σ[j]? = some (some v) := by
          have e2' : (σ[j]?).join = some v := e2
          cases q : σ[j]? with
          | none => rw [q] at e2'; cases e2'
          | some w => rw [q] at e2'; have : w = some v := e2'; rw [this]
        have hz : (x, some j) ∈ N'.zip ix := by
          refine List.mem_of_getElem? (i := i) ?_
          rw [List.getElem?_zip_eq_some]
          exact ⟨e1, hj⟩
        have := hix _ hz
        simp only [Bool.and_eq_true, beq_iff_eq] at this
        obtain ⟨n1, n2⟩ := this
        have hm := PySem.mem_of_lookup n2
        obtain ⟨m, hn, hl⟩ := I.loc
        have kf := isF (x, .free) hm rfl
        have vis : Vis X.env.scope x := by
          rcases kf with q | q
          · exact .inr (.inl q)
          · exact .inr (.inr q)
        obtain ⟨u, r, l⟩ := hl j x v n1 hv vis
        refine ⟨u, r, .inr ?_⟩
        rcases l with ⟨k1, _⟩ | ⟨_, c, hc, hcell⟩
        · rcases kf with q | q <;> (rw [show X.env.kindOf x = some NameKind.local from k1] at q; cases q)
        · refine ⟨?_, c, ?_, hcell.keeps keep⟩
          · rw [kk]; exact relabel_free I.ok.kind n2
          · show (cellsFrom _ _ _).lookup x = some c
            rw [cellsFrom_out, closC_in hc _ _ hm]
            intro z
            have := lookup_mem_nodup nd z
            rw [n2] at this; cases this
  · rcases fromC y c e with z | z
    · exact I.hok.fresh (Nat.le_of_succ_le z.1)
    · exact I.freeC y c z.2
theorem comp_block {pins : List (Addr × Obj)} {σ : St} {H : Hp} {s : Shared} {it : Addr} {fp : List Addr} {tn : Nat → Heap → Prop} {J : It} {RR : Value → Addr → Result → Shared → Prop} {E : Value → Shared → Prop} {D : Addr → Ends}
    (hc : X.calm = true) (hok : compOk X.N scope.names X.env.scope.names N' ix = true) (hk : scope.kind = .function) (hn : ∀ g', rest[0]? = some g' → g'.is_async = 0)
    (hg : ∀ s H fp, PG (cxComp X N' scope s H fp) target g) (hts : ∀ s H fp, PTs (cxComp X N' scope s H fp) ifs ts)
    (hb : ∀ s H fp acc, PB (cxComp X N' scope s H fp) elt (⟨target, iter, ifs, 0⟩ :: rest) scope pos 0 acc (tb acc))
    (I : Inv X pins σ H s) (T : Turn X.prog X.w X.K target J fp it tn) (st : tn 0 s.heap) (hf : ∀ b ∈ fp, FpOk X pins H b)
    (h : ∀ acc, H acc = none → tLoop J g (tTests ts (tb acc)) (D acc) (ix.map (capt σ)) (upd H acc (.lst [])))
    (hR : ∀ acc C s' H' σ', H acc = none → s.heap.objs.size ≤ C → Inv X pins σ H' s' → FpOk X pins H' C → (∃ m, s'.heap.Ns C m) → (D acc).nx σ' H' → RR (.ref acc) C (.ok .next) s') :
    wpAny (model X.prog X.w) X.A (newList []) (fun acc s₃ => wpAny (model X.prog X.w) X.A (newFunctionEnv scope X.env.globals (closC X.env.cells scope.names []) [] X.env.qual none .none (some X.env)) (fun cenv s₄ =>
      codeAny (model X.prog X.w) X.A (.compStart (.ListComp elt (⟨target, iter, ifs, 0⟩ :: rest) scope pos) 0 (.ref it) acc { cenv with scope := relabel scope X.env }) (fun r s' => ∃ f, r = .ok f ∧ RR acc cenv.locals (.ok .next) s') s₄) E s₃) E s := by
  refine wpAny_newObj_type ?_
  have hnone : H s.heap.objs.size = none := I.hok.fresh (Nat.le_refl _)
  have I3 : Inv X pins σ (upd H s.heap.objs.size (.lst [])) { s with heap := s.heap.push { cls := .type "list", data := .seq ([] : List Value).toArray } } :=
    I.laid (t' := s.toks) (fun b u e => Heap.get?_push_of_some _ e) (Nat.le_refl _) ⟨Nat.zero_le _, [], 0, .nil, Heap.get?_push_size _ rfl⟩
  have hlt : ∀ b ∈ fp, b < s.heap.objs.size := fun b hb => by obtain ⟨o, ho, _⟩ := T.obj 0 _ st b hb; exact Heap.lt_size ho
  have hf3 : ∀ b ∈ fp, FpOk X pins (upd H s.heap.objs.size (.lst [])) b := fun b hb => ⟨by rw [upd_ne (Nat.ne_of_lt (hlt b hb))]; exact (hf b hb).1, (hf b hb).2⟩
  refine comp_enter (fp := fp) I3 hok hk hf3 (fun b hb => ?_) fun s4 keep I4 => ?_
  · obtain ⟨o, ho, _⟩ := T.obj 0 _ st b hb
    exact ⟨o, Heap.get?_push_of_some _ ho⟩
  have st4 : tn 0 s4.heap := T.keep 0 _ _ st fun b hb o e => keep b o (Heap.get?_push_of_some _ e)
  have size3 : ({ s with heap := s.heap.push { cls := .type "list", data := .seq ([] : List Value).toArray } } : Shared).heap.objs.size = s.heap.objs.size + 1 := Heap.size_push ..
  have hf4 : ∀ b ∈ fp, FpOk (cxComp X N' scope { s with heap := s.heap.push { cls := .type "list", data := .seq ([] : List Value).toArray } } (upd H s.heap.objs.size (.lst [])) fp) [] (upd H s.heap.objs.size (.lst [])) b := fun b hb =>
    ⟨(hf3 b hb).1, (I4.ok.exf b hb).1, I4.ok.exfs b hb, .inl hb, (I4.ok.exf b hb).2, fun p hp => absurd (show p ∈ ([] : List (Addr × Obj)) from hp) (by simp)⟩
  refine codeAny_mono (comp_loop (X := cxComp X N' scope { s with heap := s.heap.push { cls := .type "list", data := .seq ([] : List Value).toArray } } (upd H s.heap.objs.size (.lst [])) fp) rfl hc (d := 0) (gens := ⟨target, iter, ifs, 0⟩ :: rest) rfl hn (hg _ _ _) (hts _ _ _) (hb _ _ _ _) T I4 st4 hf4 (h _ hnone)) fun r s5 ⟨f, hr, σ5, H5, I5, q5⟩ => ⟨f, hr, ?_⟩
  have I6 : Inv X pins σ H5 s5 := I3.call' (ch := fp) (I5.os.trans rfl) I5.base I5.hok I5.bare fun b hb => ⟨(hf3 b hb).2.2.2.1, (hf3 b hb).2.1, (hf3 b hb).2.2.2.2.1, (hf3 b hb).2.2.2.2.2⟩
  have hC : s.heap.objs.size ≤ (cxComp X N' scope { s with heap := s.heap.push { cls := .type "list", data := .seq ([] : List Value).toArray } } (upd H s.heap.objs.size (.lst [])) fp).env.locals := by
    show s.heap.objs.size ≤ _
    exact Nat.le_trans (Nat.le_succ _) (Nat.le_of_eq size3.symm)
  refine hR _ _ s5 H5 σ5 hnone hC I6 (I3.fpOk (Nat.le_refl _) I5.free) ?_ q5
  obtain ⟨m, hm, _⟩ := I5.loc
  exact ⟨m, hm⟩
theorem compOk_names (hok : compOk X.N scope.names X.env.scope.names N' ix = true) : ∀ x ∈ scope.names, x.2 = .local → scope.names.lookup x.1 = some .local := by
  simp only [compOk, Bool.and_eq_true, decide_eq_true_eq, List.all_eq_true] at hok
  intro x hx e
  obtain ⟨n, k⟩ := x
  have e : k = .local := e
  subst e
  exact lookup_mem_nodup hok.1.1.1 hx
theorem compOk_clos {pins : List (Addr × Obj)} {σ : St} {H : Hp} {s : Shared} (I : Inv X pins σ H s) (hok : compOk X.N scope.names X.env.scope.names N' ix = true) : closureFor scope X.env = pure (closC X.env.cells scope.names []) := by
  refine closureFor_are fun y hy e => ?_
  simp only [compOk, Bool.and_eq_true, decide_eq_true_eq, List.all_eq_true] at hok
  have := hok.1.1.2 y hy
  have : X.env.scope.names.lookup y.1 = some .cell ∨ X.env.scope.names.lookup y.1 = some .free := by simpa [e] using this
  obtain ⟨c, hc⟩ := I.ok.has y.1 this
  rw [hc]; rfl
theorem pe_comp (hok : compOk X.N scope.names X.env.scope.names N' ix = true) (hk : scope.kind = .function) (hc : X.calm = true) (hi : PI X target iter wi)
    (hg : ∀ s H fp, PG (cxComp X N' scope s H fp) target g) (hts : ∀ s H fp, PTs (cxComp X N' scope s H fp) ifs ts)
    (hb : ∀ s H fp acc, PB (cxComp X N' scope s H fp) elt (⟨target, iter, ifs, 0⟩ :: rest) scope pos 0 acc (tb acc))
    (hn : ∀ g', rest[0]? = some g' → g'.is_async = 0 := by intro _ h; first | cases h; rfl | cases h) (hs : ∀ x, foldedSetIterable iter X.env x = pure x := by intro _; rfl) :
    PE X (.ListComp elt (⟨target, iter, ifs, 0⟩ :: rest) scope pos) (tComp ix wi g ts tb) := by
  intro pins s σ H Q I h
  rw [eval_ListComp]
  refine wpAny_comprehension_free (use := none) rfl hs (compOk_clos I hok) hk (compOk_names hok) (thn (hi pins s σ H _ I h) fun xv s₁ h₁ => thn h₁ fun itv s₂ h₂ => ?_)
  obtain ⟨it, fp, tn, J, H2, e, I2, T, st2, f2, q2⟩ := h₂
  subst e
  refine thn (comp_block (RR := fun acc C r s' => compPost (model X.prog X.w) X.A X.xe none (EP X pins σ Q) acc C r s') hc hok hk hn hg hts hb I2 T st2 f2 q2 fun acc C s' H' σ' ha hC I' fC hns q => ?_) fun acc s3 h3 => thn h3 fun cenv s4 h4 => codeAny_mono h4 fun r s5 ⟨f, hr, h5⟩ => ?_
  · obtain ⟨m, hm⟩ := hns
    refine ⟨m, hm, fun h' hs' => ⟨.ref acc, H', I'.turned (t' := s'.toks) (fun b o hb e => (hs'.2 b hb).trans e) fC.1 fC.2.1 fC.2.2.2.1 fC.2.2.2.2.1 fC.2.2.2.2.2, rfl, q⟩⟩
  · subst hr
    exact h5
theorem ps_setComp {i : Nat} {x : Str} {pos' spos : Pos} (hN : X.N.Nodup) (hix : X.N[i]? = some x) (hx : Loc X.env.scope x) (hok : compOk X.N scope.names X.env.scope.names N' ix = true) (hk : scope.kind = .function) (hc : X.calm = true) (hi : PI X target iter wi)
    (hg : ∀ s H fp, PG (cxComp X N' scope s H fp) target g) (hts : ∀ s H fp, PTs (cxComp X N' scope s H fp) ifs ts)
    (hb : ∀ s H fp acc, PB (cxComp X N' scope s H fp) elt (⟨target, iter, ifs, 0⟩ :: rest) scope pos 0 acc (tb acc))
    (hsw : swapsWith (.ListComp elt (⟨target, iter, ifs, 0⟩ :: rest) scope pos) (some (.Name x pos')) spos.line X.env = pure true := by rfl)
    (hf : X.fn x = true ∨ X.env.scope.names.lookup x = some .local := by first | exact .inl rfl | exact .inr rfl | assumption)
    (hn : ∀ g', rest[0]? = some g' → g'.is_async = 0 := by intro _ h; first | cases h; rfl | cases h) (hs : ∀ x, foldedSetIterable iter X.env x = pure x := by intro _; rfl) :
    PS X (.Assign [.Name x pos'] (.ListComp elt (⟨target, iter, ifs, 0⟩ :: rest) scope pos) spos) (tAsg (tComp ix wi g ts tb) (gName i)) := by
  intro pins s σ H D I h
  rw [exec_Assign_Name_used _ _ _ _ hsw]
  refine wpAny_bind (wpAny_standAt (wpAny_bind ?_))
  show wpAny _ X.A (do let _ ← comprehension (.ListComp elt (⟨target, iter, ifs, 0⟩ :: rest) scope pos) scope X.env _ (newList []) false (eval iter X.env) (some (assign (.Name x pos') X.env))) _ _ s
  refine wpAny_bind (wpAny_mono (wpAny_comprehension_free (use := some (assign (.Name x pos') X.env)) (Q := fun _ s' => SP X pins D .next s') rfl hs (compOk_clos I hok) hk (compOk_names hok) (thn (hi pins s σ H _ I h) fun xv s₁ h₁ => thn h₁ fun itv s₂ h₂ => ?_)) (fun _ s' hq => wpAny_pure (wpAny_pure hq)) fun _ _ e => e)
  obtain ⟨it, fp, tn, J, H2, e, I2, T, st2, f2, q2⟩ := h₂
  subst e
  refine thn (comp_block (RR := fun acc C r s' => compPost (model X.prog X.w) X.A X.xe (some (assign (.Name x pos') X.env)) (fun _ s' => SP X pins D .next s') acc C r s') hc hok hk hn hg hts hb I2 T st2 f2 q2 fun acc C s' H' σ' ha hC I' fC hns q => ?_) fun acc s3 h3 => thn h3 fun cenv s4 h4 => codeAny_mono h4 fun r s5 ⟨f, hr, h5⟩ => ?_
  · obtain ⟨m, hm⟩ := hns
    show wpAny _ X.A (assign (.Name x pos') X.env (.ref acc)) _ _ _
    refine wpAny_assign_Name (store_ok2 I' hN hix hx (v := .ref acc) rfl (fun s6 I6 ⟨a, hsb, ha6⟩ => ?_) hf)
    have hCa : C ≠ a := by
      rcases ha6 with z | z
      · rw [z]; exact fC.2.1
      · exact (fC.2.2.2.2.1 x a z).symm
    refine ⟨m, hm.sameBut hsb hCa, fun h' hs' => ⟨_, H', I6.turned (t' := s6.toks) (fun b o hb e => (hs'.2 b hb).trans e) fC.1 fC.2.1 fC.2.2.2.1 fC.2.2.2.2.1 fC.2.2.2.2.2, q⟩⟩
  · subst hr
    exact h5
end
end L2
namespace L2
open PySem PySem.Spec PyProof.Rows
theorem Same.tup {K : PySem.W.Frag} {H H' : Hp} {a : Addr} {xs : List V} (e : Same H H') (h : SqT K H a xs) : SqT K H' a xs := by
  rcases h with (h | ⟨o, h⟩) | h
  · exact .inl (.inl (e _ _ h))
  · exact .inl (.inr ⟨o, e _ _ h⟩)
  · exact .inr h
inductive Dt where
  | non | bl (b : Bool) | int (i : Int) | str (x : Str) | tup (ds : List Dt) | lst (ds : List Dt)
mutual
def Sh (K : PySem.W.Frag) (H : Hp) : Dt → V → Prop
  | .non, v => v = .non
  | .bl b, v => v = .bl b
  | .int i, v => v = .int i
  | .str x, v => v = .str x
  | .tup ds, v => ∃ a xs, v = .ref a ∧ SqT K H a xs ∧ ShL K H ds xs
  | .lst ds, v => ∃ a xs, v = .ref a ∧ SqL K H a xs ∧ ShL K H ds xs
def ShL (K : PySem.W.Frag) (H : Hp) : List Dt → List V → Prop
  | [], xs => xs = []
  | d :: ds, xs => ∃ x r, xs = x :: r ∧ Sh K H d x ∧ ShL K H ds r
end
mutual
def eqD : Dt → Dt → Bool
  | .non, .non => true
  | .bl a, .bl b => a == b
  | .int a, .int b => a == b
  | .str a, .str b => a == b
  | .bl a, .int b => (if a then 1 else 0) == b
  | .int a, .bl b => a == (if b then 1 else 0)
  | .tup ds, .tup es => eqL ds es
  | .lst ds, .lst es => eqL ds es
  | _, _ => false
def eqL : List Dt → List Dt → Bool
  | [], [] => true
  | d :: ds, e :: es => eqD d e && eqL ds es
  | _, _ => false
end
mutual
def dep : Dt → Nat
  | .tup ds => depL ds + 1
  | .lst ds => depL ds + 1
  | _ => 0
def depL : List Dt → Nat
  | [] => 0
  | d :: ds => max (dep d) (depL ds)
end
section
variable {K : PySem.W.Frag} {H H' : Hp}
mutual
theorem Sh.same (e : Same H H') : ∀ {d : Dt} {v : V}, Sh K H d v → Sh K H' d v
  | .non, _, h => h
  | .bl _, _, h => h
  | .int _, _, h => h
  | .str _, _, h => h
  | .tup ds, _, ⟨a, xs, h1, h2, h3⟩ => ⟨a, xs, h1, e.tup h2, ShL.same e h3⟩
  | .lst ds, _, ⟨a, xs, h1, h2, h3⟩ => ⟨a, xs, h1, e.seq h2, ShL.same e h3⟩
theorem ShL.same (e : Same H H') : ∀ {ds : List Dt} {xs : List V}, ShL K H ds xs → ShL K H' ds xs
  | [], _, h => h
  | d :: ds, _, ⟨x, r, h1, h2, h3⟩ => ⟨x, r, h1, Sh.same e h2, ShL.same e h3⟩
end
theorem ShL.length : ∀ {ds : List Dt} {xs : List V}, ShL K H ds xs → ds.length = xs.length
  | [], _, h => by rw [show _ = [] from h]; rfl
  | d :: ds, _, ⟨x, r, h1, h2, h3⟩ => by rw [h1, List.length_cons, List.length_cons, ShL.length h3]
theorem ShL.get : ∀ {ds : List Dt} {xs : List V} {j : Nat} {d : Dt}, ShL K H ds xs → ds[j]? = some d → ∃ x, xs[j]? = some x ∧ Sh K H d x
  | [], _, _, _, _, h => by simp at h
  | d :: ds, _, 0, e, ⟨x, r, h1, h2, h3⟩, h => by
    have : d = e := by simpa using h
    subst this
    exact ⟨x, by rw [h1]; rfl, h2⟩
  | d :: ds, _, j + 1, e, ⟨x, r, h1, h2, h3⟩, h => by
    obtain ⟨y, h4, h5⟩ := ShL.get (j := j) h3 (by simpa using h)
    exact ⟨y, by rw [h1]; simpa using h4, h5⟩
theorem ShL.snoc {d : Dt} {x : V} (hx : Sh K H d x) : ∀ {ds : List Dt} {xs : List V}, ShL K H ds xs → ShL K H (ds ++ [d]) (xs ++ [x])
  | [], _, h => ⟨x, [], by rw [show _ = [] from h]; rfl, hx, rfl⟩
  | _ :: _, _, ⟨y, r, h1, h2, h3⟩ => ⟨y, r ++ [x], by rw [h1]; rfl, h2, ShL.snoc hx h3⟩
theorem ShL.ints : ∀ (ns : List Int), ShL K H (ns.map Dt.int) (ns.map V.int)
  | [] => rfl
  | n :: ns => ⟨.int n, ns.map V.int, rfl, rfl, ShL.ints ns⟩
theorem ShL.of_ints : ∀ {ns : List Int} {xs : List V}, ShL K H (ns.map Dt.int) xs → xs = ns.map V.int
  | [], _, h => h
  | n :: ns, _, ⟨x, r, h1, h2, h3⟩ => by rw [h1, ShL.of_ints h3, show x = V.int n from h2]; rfl
end
mutual
theorem eqD_refl : ∀ d : Dt, eqD d d = true
  | .non => by unfold eqD; rfl
  | .bl b => by unfold eqD; simp
  | .int b => by unfold eqD; simp
  | .str b => by unfold eqD; simp
  | .tup ds => by unfold eqD; exact eqL_refl ds
  | .lst ds => by unfold eqD; exact eqL_refl ds
theorem eqL_refl : ∀ ds : List Dt, eqL ds ds = true
  | [] => by unfold eqL; rfl
  | d :: ds => by unfold eqL; rw [eqD_refl d, eqL_refl ds]; rfl
end
theorem eqL_length : ∀ {ds es : List Dt}, eqL ds es = true → ds.length = es.length
  | [], [], _ => rfl
  | [], _ :: _, h => by unfold eqL at h; cases h
  | _ :: _, [], h => by unfold eqL at h; cases h
  | d :: ds, e :: es, h => by
    unfold eqL at h
    rw [List.length_cons, List.length_cons, eqL_length (Bool.and_eq_true_iff.mp h).2]
theorem all_range_succ (n : Nat) (f : Nat → Bool) : (List.range (n + 1)).all f = (f 0 && (List.range n).all fun j => f (j + 1)) := by
  rw [List.range_succ_eq_map, List.all_cons, List.all_map]
  rfl
theorem eqL_all : ∀ (ds es : List Dt), ((List.range (min ds.length es.length)).all (fun j => eqD (ds.getD j .non) (es.getD j .non)) && ds.length == es.length) = eqL ds es
  | [], [] => by unfold eqL; rfl
  | [], e :: es => by unfold eqL; simp
  | d :: ds, [] => by unfold eqL; simp
  | d :: ds, e :: es => by
    have ih := eqL_all ds es
    unfold eqL
    rw [← ih, List.length_cons, List.length_cons, Nat.succ_min_succ, all_range_succ, Bool.and_assoc]
    congr 1
    congr 1
    simp
theorem depL_le {ds : List Dt} {j : Nat} {d : Dt} (h : ds[j]? = some d) : dep d ≤ depL ds := by
  induction ds generalizing j with
  | nil => simp at h
  | cons e es ih =>
    unfold depL
    cases j with
    | zero =>
      have : e = d := by simpa using h
      subst this
      exact Nat.le_max_left _ _
    | succ j => exact Nat.le_trans (ih (by simpa using h)) (Nat.le_max_right _ _)
section
variable {X : Cx} {pins : List (Addr × Obj)} {σ : St} {H : Hp} {s : Shared}
theorem Inv.tl_ne (I : Inv X pins σ H s) {a : Addr} {xs ys : List V} (h : SqT X.K H a xs) (h' : SqL X.K H a ys) : False := by
  obtain ⟨its, r, ⟨o, e, c, n, d⟩, _⟩ := I.tuple h
  obtain ⟨its', r', ⟨o', n', e', c', _, d'⟩, _⟩ := I.list h'
  rw [e] at e'; cases e'
  rw [c] at c'; simp at c'
mutual
theorem Inv.sh_inj (I : Inv X pins σ H s) : ∀ {d e : Dt} {v : V}, Sh X.K H d v → Sh X.K H e v → d = e
  | .non, e, v, h, h' => by
    have h : v = .non := h
    subst h
    cases e <;> first | rfl | (exact absurd (show V.non = _ from h') (fun z => nomatch z)) | (obtain ⟨_, _, z, _⟩ := h'; cases z)
  | .bl b, e, v, h, h' => by
    have h : v = .bl b := h
    subst h
    cases e <;> first | (cases (show V.bl b = V.bl _ from h'); rfl) | (exact absurd (show V.bl b = _ from h') (fun z => nomatch z)) | (obtain ⟨_, _, z, _⟩ := h'; cases z)
  | .int b, e, v, h, h' => by
    have h : v = .int b := h
    subst h
    cases e <;> first | (cases (show V.int b = V.int _ from h'); rfl) | (exact absurd (show V.int b = _ from h') (fun z => nomatch z)) | (obtain ⟨_, _, z, _⟩ := h'; cases z)
  | .str b, e, v, h, h' => by
    have h : v = .str b := h
    subst h
    cases e <;> first | (cases (show V.str b = V.str _ from h'); rfl) | (exact absurd (show V.str b = _ from h') (fun z => nomatch z)) | (obtain ⟨_, _, z, _⟩ := h'; cases z)
  | .tup ds, e, v, ⟨a, xs, h1, h2, h3⟩, h' => by
    subst h1
    cases e with
    | tup es =>
      obtain ⟨a', xs', z, h2', h3'⟩ := h'
      cases z
      rw [I.tuple_inj h2' h2] at h3'
      rw [Inv.shL_inj I h3 h3']
    | lst es =>
      obtain ⟨a', xs', z, h2', h3'⟩ := h'
      cases z
      exact (I.tl_ne h2 h2').elim
    | _ => exact absurd (show V.ref a = _ from h') (fun z => nomatch z)
  | .lst ds, e, v, ⟨a, xs, h1, h2, h3⟩, h' => by
    subst h1
    cases e with
    | lst es =>
      obtain ⟨a', xs', z, h2', h3'⟩ := h'
      cases z
      rw [I.list_inj h2' h2] at h3'
      rw [Inv.shL_inj I h3 h3']
    | tup es =>
      obtain ⟨a', xs', z, h2', h3'⟩ := h'
      cases z
      exact (I.tl_ne h2' h2).elim
    | _ => exact absurd (show V.ref a = _ from h') (fun z => nomatch z)
theorem Inv.shL_inj (I : Inv X pins σ H s) : ∀ {ds es : List Dt} {xs : List V}, ShL X.K H ds xs → ShL X.K H es xs → ds = es
  | [], [], _, _, _ => rfl
  | [], e :: es, _, h, ⟨x, r, h1, _⟩ => by rw [show _ = [] from h] at h1; cases h1
  | d :: ds, [], _, ⟨x, r, h1, _⟩, h => by rw [show _ = [] from h] at h1; cases h1
  | d :: ds, e :: es, _, ⟨x, r, h1, h2, h3⟩, ⟨x', r', h1', h2', h3'⟩ => by
    rw [h1] at h1'
    cases h1'
    rw [Inv.sh_inj I h2 h2', Inv.shL_inj I h3 h3']
end
end
end L2
namespace L2
open PySem PySem.Spec PyProof.Rows
section
variable {X : Cx} {pins : List (Addr × Obj)} {σ : St} {H : Hp} {s : Shared}
open PySem.SeqAt
theorem items_at {ds es : List Dt} {xs ys : List V} {us vs : List Value} (hs : ShL X.K H ds xs) (hr : Vals xs us) (hs' : ShL X.K H es ys) (hr' : Vals ys vs) {A : Around}
    (h : ∀ (d e : Dt) (x y : V) (u v : Value), (∃ j : Nat, ds[j]? = some d) → RelV x u → RelV y v → Sh X.K H d x → Sh X.K H e y → EqAt A s u v (eqD d e)) :
    ∀ j (h1 : j < us.toArray.size) (h2 : j < vs.toArray.size), EqAt A s us.toArray[j] vs.toArray[j] (eqD (ds.getD j .non) (es.getD j .non)) := by
  intro j h1 h2
  have l1 := hs.length
  have l2 := hr.length
  have l3 := hs'.length
  have l4 := hr'.length
  have g1 : j < us.length := by simpa using h1
  have g2 : j < vs.length := by simpa using h2
  have e1 : ds[j]? = some (ds.getD j .non) := by rw [List.getD_eq_getElem?_getD, List.getElem?_eq_getElem (by omega)]; rfl
  have e2 : es[j]? = some (es.getD j .non) := by rw [List.getD_eq_getElem?_getD, List.getElem?_eq_getElem (by omega)]; rfl
  obtain ⟨x, hx, sx⟩ := hs.get e1
  obtain ⟨y, hy, sy⟩ := hs'.get e2
  obtain ⟨u, hu, ru⟩ := hr.get hx
  obtain ⟨v, hv, rv⟩ := hr'.get hy
  have q1 : us.toArray[j] = u := by
    rw [List.getElem?_eq_getElem g1] at hu
    simpa using hu
  have q2 : vs.toArray[j] = v := by
    rw [List.getElem?_eq_getElem g2] at hv
    simpa using hv
  rw [q1, q2]
  exact h _ _ x y u v ⟨j, e1⟩ ru rv sx sy
theorem Inv.eq_sh (I : Inv X pins σ H s) : ∀ (n : Nat) (A : Around) (d e : Dt) (x y : V) (u v : Value), dep d ≤ n → A.units + n < cLine → RelV x u → RelV y v → Sh X.K H d x → Sh X.K H e y → RcAt A s u v (eqD d e) ∧ EqAt A s u v (eqD d e) := by
  intro n
  induction n with
  | zero =>
    intro A d e x y u v hd hu rx ry hx hy
    have hu0 : A.units < cLine := by omega
    cases d with
    | tup ds => unfold dep at hd; omega
    | lst ds => unfold dep at hd; omega
    | non =>
      obtain rfl : x = .non := hx
      obtain rfl : u = Value.none := rx
      cases e with
      | non => obtain rfl : y = .non := hy; obtain rfl : v = Value.none := ry; unfold eqD; exact ⟨RcAt.none_none, EqAt.same _⟩
      | bl b => obtain rfl : y = .bl b := hy; obtain rfl : v = Value.bool b := ry; unfold eqD; exact ⟨RcAt.none_bool b, EqAt.none_bool b⟩
      | int b => obtain rfl : y = .int b := hy; obtain ⟨t, rfl⟩ := ry; unfold eqD; exact ⟨RcAt.none_int b t, EqAt.none_int b t⟩
      | str b => obtain rfl : y = .str b := hy; obtain ⟨t, rfl⟩ := ry; unfold eqD; exact ⟨RcAt.none_str b t, EqAt.none_str b t⟩
      | tup es => obtain ⟨b, ys, rfl, hq, _⟩ := hy; obtain rfl : v = Value.ref b := ry; obtain ⟨its, _, p, _⟩ := I.tuple hq; unfold eqD; exact ⟨RcAt.none_tuple (show s.heap.IsTuple b its.toArray from p) hu0, EqAt.none_tuple (show s.heap.IsTuple b its.toArray from p) hu0⟩
      | lst es => obtain ⟨b, ys, rfl, hq, _⟩ := hy; obtain rfl : v = Value.ref b := ry; obtain ⟨its, _, p, _⟩ := I.list hq; unfold eqD; exact ⟨RcAt.none_list p.isList hu0, EqAt.none_list p.isList hu0⟩
    | bl a =>
      obtain rfl : x = .bl a := hx
      obtain rfl : u = Value.bool a := rx
      cases e with
      | non => obtain rfl : y = .non := hy; obtain rfl : v = Value.none := ry; unfold eqD; exact ⟨RcAt.bool_none a, EqAt.bool_none a⟩
      | bl b => obtain rfl : y = .bl b := hy; obtain rfl : v = Value.bool b := ry; unfold eqD; exact ⟨RcAt.bool_bool a b, EqAt.bool_bool a b⟩
      | int b => obtain rfl : y = .int b := hy; obtain ⟨t, rfl⟩ := ry; unfold eqD; exact ⟨RcAt.bool_int a b t, EqAt.bool_int a b t⟩
      | str b => obtain rfl : y = .str b := hy; obtain ⟨t, rfl⟩ := ry; unfold eqD; exact ⟨RcAt.bool_str a b t, EqAt.bool_str a b t⟩
      | tup es => obtain ⟨b, ys, rfl, hq, _⟩ := hy; obtain rfl : v = Value.ref b := ry; obtain ⟨its, _, p, _⟩ := I.tuple hq; unfold eqD; exact ⟨RcAt.bool_tuple a (show s.heap.IsTuple b its.toArray from p) hu0, EqAt.bool_tuple a (show s.heap.IsTuple b its.toArray from p) hu0⟩
      | lst es => obtain ⟨b, ys, rfl, hq, _⟩ := hy; obtain rfl : v = Value.ref b := ry; obtain ⟨its, _, p, _⟩ := I.list hq; unfold eqD; exact ⟨RcAt.bool_list a p.isList hu0, EqAt.bool_list a p.isList hu0⟩
    | int a =>
      obtain rfl : x = .int a := hx
      obtain ⟨t0, rfl⟩ := rx
      cases e with
      | non => obtain rfl : y = .non := hy; obtain rfl : v = Value.none := ry; unfold eqD; exact ⟨RcAt.int_none a t0, EqAt.int_none a t0⟩
      | bl b => obtain rfl : y = .bl b := hy; obtain rfl : v = Value.bool b := ry; unfold eqD; exact ⟨RcAt.int_bool a t0 b, EqAt.int_bool a t0 b⟩
      | int b => obtain rfl : y = .int b := hy; obtain ⟨t, rfl⟩ := ry; unfold eqD; exact ⟨RcAt.int_int a t0 b t, EqAt.int_int a t0 b t⟩
      | str b => obtain rfl : y = .str b := hy; obtain ⟨t, rfl⟩ := ry; unfold eqD; exact ⟨RcAt.int_str a t0 b t, EqAt.int_str a t0 b t⟩
      | tup es => obtain ⟨b, ys, rfl, hq, _⟩ := hy; obtain rfl : v = Value.ref b := ry; obtain ⟨its, _, p, _⟩ := I.tuple hq; unfold eqD; exact ⟨RcAt.int_tuple a t0 (show s.heap.IsTuple b its.toArray from p) hu0, EqAt.int_tuple a t0 (show s.heap.IsTuple b its.toArray from p) hu0⟩
      | lst es => obtain ⟨b, ys, rfl, hq, _⟩ := hy; obtain rfl : v = Value.ref b := ry; obtain ⟨its, _, p, _⟩ := I.list hq; unfold eqD; exact ⟨RcAt.int_list a t0 p.isList hu0, EqAt.int_list a t0 p.isList hu0⟩
    | str a =>
      obtain rfl : x = .str a := hx
      obtain ⟨t0, rfl⟩ := rx
      cases e with
      | non => obtain rfl : y = .non := hy; obtain rfl : v = Value.none := ry; unfold eqD; exact ⟨RcAt.str_none a t0, EqAt.str_none a t0⟩
      | bl b => obtain rfl : y = .bl b := hy; obtain rfl : v = Value.bool b := ry; unfold eqD; exact ⟨RcAt.str_bool a t0 b, EqAt.str_bool a t0 b⟩
      | int b => obtain rfl : y = .int b := hy; obtain ⟨t, rfl⟩ := ry; unfold eqD; exact ⟨RcAt.str_int a t0 b t, EqAt.str_int a t0 b t⟩
      | str b => obtain rfl : y = .str b := hy; obtain ⟨t, rfl⟩ := ry; unfold eqD; exact ⟨RcAt.str_str a t0 b t, EqAt.str_str a t0 b t⟩
      | tup es => obtain ⟨b, ys, rfl, hq, _⟩ := hy; obtain rfl : v = Value.ref b := ry; obtain ⟨its, _, p, _⟩ := I.tuple hq; unfold eqD; exact ⟨RcAt.str_tuple a t0 (show s.heap.IsTuple b its.toArray from p) hu0, EqAt.str_tuple a t0 (show s.heap.IsTuple b its.toArray from p) hu0⟩
      | lst es => obtain ⟨b, ys, rfl, hq, _⟩ := hy; obtain rfl : v = Value.ref b := ry; obtain ⟨its, _, p, _⟩ := I.list hq; unfold eqD; exact ⟨RcAt.str_list a t0 p.isList hu0, EqAt.str_list a t0 p.isList hu0⟩
  | succ n ih =>
    intro A d e x y u v hd hu rx ry hx hy
    have hu0 : A.units < cLine := by omega
    by_cases hd0 : dep d ≤ n
    · exact ih A d e x y u v hd0 (by omega) rx ry hx hy
    cases d with
    | non => exact absurd (Nat.zero_le _) hd0
    | bl a => exact absurd (Nat.zero_le _) hd0
    | int a => exact absurd (Nat.zero_le _) hd0
    | str a => exact absurd (Nat.zero_le _) hd0
    | tup ds =>
      have hdd : depL ds ≤ n := by unfold dep at hd; omega
      have hx0 := hx
      obtain ⟨a, xs, rfl, hq, hl⟩ := hx
      obtain rfl : u = Value.ref a := rx
      obtain ⟨its, rv, p, _⟩ := I.tuple hq
      have p : s.heap.IsTuple a its.toArray := p
      cases e with
      | non => obtain rfl : y = .non := hy; obtain rfl : v = Value.none := ry; unfold eqD; exact ⟨RcAt.tuple_none p hu0, EqAt.tuple_none p hu0⟩
      | bl b => obtain rfl : y = .bl b := hy; obtain rfl : v = Value.bool b := ry; unfold eqD; exact ⟨RcAt.tuple_bool b p hu0, EqAt.tuple_bool b p hu0⟩
      | int b => obtain rfl : y = .int b := hy; obtain ⟨t, rfl⟩ := ry; unfold eqD; exact ⟨RcAt.tuple_int b t p hu0, EqAt.tuple_int b t p hu0⟩
      | str b => obtain rfl : y = .str b := hy; obtain ⟨t, rfl⟩ := ry; unfold eqD; exact ⟨RcAt.tuple_str b t p hu0, EqAt.tuple_str b t p hu0⟩
      | lst es => obtain ⟨b, ys, rfl, hq', _⟩ := hy; obtain rfl : v = Value.ref b := ry; obtain ⟨its', _, p', _⟩ := I.list hq'; unfold eqD; exact ⟨RcAt.tuple_list p p'.isList hu0, EqAt.tuple_list p p'.isList hu0⟩
      | tup es =>
        have hy0 := hy
        obtain ⟨b, ys, rfl, hq', hl'⟩ := hy
        obtain rfl : v = Value.ref b := ry
        obtain ⟨its', rv', p', _⟩ := I.tuple hq'
        have p' : s.heap.IsTuple b its'.toArray := p'
        have he := items_at (A := A.in1) (s := s) hl rv hl' rv' (fun d e x y u v ⟨j, hj⟩ r1 r2 s1 s2 => (ih A.in1 d e x y u v (Nat.le_trans (depL_le hj) hdd) (by show A.units + 1 + n < cLine; omega) r1 r2 s1 s2).2)
        have rc := RcAt.tuples p p' hu0 he
        have l1 := hl.length
        have l2 := rv.length
        have l3 := hl'.length
        have l4 := rv'.length
        rw [List.size_toArray, List.size_toArray, ← l2, ← l4, ← l1, ← l3, eqL_all] at rc
        unfold eqD
        refine ⟨rc, ?_⟩
        by_cases hab : a = b
        · subst hab
          have := I.sh_inj hx0 hy0
          cases this
          rw [eqL_refl]
          exact EqAt.same _
        · exact EqAt.of_refs hab rc
    | lst ds =>
      have hdd : depL ds ≤ n := by unfold dep at hd; omega
      have hx0 := hx
      obtain ⟨a, xs, rfl, hq, hl⟩ := hx
      obtain rfl : u = Value.ref a := rx
      obtain ⟨its, rv, p, _⟩ := I.list hq
      have p := p.isList
      cases e with
      | non => obtain rfl : y = .non := hy; obtain rfl : v = Value.none := ry; unfold eqD; exact ⟨RcAt.list_none p hu0, EqAt.list_none p hu0⟩
      | bl b => obtain rfl : y = .bl b := hy; obtain rfl : v = Value.bool b := ry; unfold eqD; exact ⟨RcAt.list_bool b p hu0, EqAt.list_bool b p hu0⟩
      | int b => obtain rfl : y = .int b := hy; obtain ⟨t, rfl⟩ := ry; unfold eqD; exact ⟨RcAt.list_int b t p hu0, EqAt.list_int b t p hu0⟩
      | str b => obtain rfl : y = .str b := hy; obtain ⟨t, rfl⟩ := ry; unfold eqD; exact ⟨RcAt.list_str b t p hu0, EqAt.list_str b t p hu0⟩
      | tup es => obtain ⟨b, ys, rfl, hq', _⟩ := hy; obtain rfl : v = Value.ref b := ry; obtain ⟨its', _, p', _⟩ := I.tuple hq'; unfold eqD; exact ⟨RcAt.list_tuple p (show s.heap.IsTuple b its'.toArray from p') hu0, EqAt.list_tuple p (show s.heap.IsTuple b its'.toArray from p') hu0⟩
      | lst es =>
        have hy0 := hy
        obtain ⟨b, ys, rfl, hq', hl'⟩ := hy
        obtain rfl : v = Value.ref b := ry
        obtain ⟨its', rv', p', _⟩ := I.list hq'
        have p' := p'.isList
        have l1 := hl.length
        have l2 := rv.length
        have l3 := hl'.length
        have l4 := rv'.length
        have rc : RcAt A s (.ref a) (.ref b) (eqL ds es) := by
          by_cases hz : ds.length = es.length
          · have he := items_at (A := A.in1) (s := s) hl rv hl' rv' (fun d e x y u v ⟨j, hj⟩ r1 r2 s1 s2 => (ih A.in1 d e x y u v (Nat.le_trans (depL_le hj) hdd) (by show A.units + 1 + n < cLine; omega) r1 r2 s1 s2).2)
            have rc := RcAt.lists p p' (by rw [List.size_toArray, List.size_toArray]; omega) hu0 he
            rw [List.size_toArray, ← l2, ← l1] at rc
            have q := eqL_all ds es
            rw [← hz, Nat.min_self, beq_self_eq_true, Bool.and_true] at q
            rw [← q]
            exact rc
          · have q : eqL ds es = false := by
              cases q : eqL ds es with
              | false => rfl
              | true => exact absurd (eqL_length q) hz
            rw [q]
            exact RcAt.lists_lengths p p' (by rw [List.size_toArray, List.size_toArray]; simp; omega) hu0
        unfold eqD
        refine ⟨rc, ?_⟩
        by_cases hab : a = b
        · subst hab
          have := I.sh_inj hx0 hy0
          cases this
          rw [eqL_refl]
          exact EqAt.same _
        · exact EqAt.of_refs hab rc
def rEqD (K : PySem.W.Frag) : R2 := fun x y H Q => ∃ d e, dep d ≤ 100 ∧ Sh K H d x ∧ Sh K H e y ∧ Q (.bl (eqD d e)) H
theorem op_eqD (hu : X.A.units + 100 < cLine) : OpR X (compareOp .Eq) (rEqD X.K) := by
  intro pins s σ H x y v u Q I rx ry ⟨d, e, hd, hx, hy, q⟩
  exact (I.eq_sh 100 X.A d e x y v u hd hu rx ry hx hy).1 X.prog X.w X.xe _ ⟨.bl _, H, I, rfl, q⟩
end
end L2
namespace L2
open PySem PySem.Spec PyProof.Rows
section
variable {X : Cx} {pins : List (Addr × Obj)} {σ : St} {H : Hp} {s : Shared}
open PySem.SeqAt
theorem Inv.ne_sh (I : Inv X pins σ H s) {A : Around} (d e : Dt) (x y : V) (u v : Value) (hd : dep d ≤ 100) (hu : A.units + 101 < cLine) (rx : RelV x u) (ry : RelV y v) (hx : Sh X.K H d x) (hy : Sh X.K H e y) : RcNeAt A s u v (!eqD d e) := by
  have hu0 : A.units < cLine := by omega
  cases d with
  | non =>
    obtain rfl : x = .non := hx
    obtain rfl : u = Value.none := rx
    cases e with
    | non => obtain rfl : y = .non := hy; obtain rfl : v = Value.none := ry; unfold eqD; exact RcNeAt.none_none
    | bl b => obtain rfl : y = .bl b := hy; obtain rfl : v = Value.bool b := ry; unfold eqD; exact RcNeAt.none_bool b
    | int b => obtain rfl : y = .int b := hy; obtain ⟨t, rfl⟩ := ry; unfold eqD; exact RcNeAt.none_int b t
    | str b => obtain rfl : y = .str b := hy; obtain ⟨t, rfl⟩ := ry; unfold eqD; exact RcNeAt.none_str b t
    | tup es => obtain ⟨b, ys, rfl, hq, _⟩ := hy; obtain rfl : v = Value.ref b := ry; obtain ⟨its, _, p, _⟩ := I.tuple hq; unfold eqD; exact RcNeAt.none_tuple (show s.heap.IsTuple b its.toArray from p) hu0
    | lst es => obtain ⟨b, ys, rfl, hq, _⟩ := hy; obtain rfl : v = Value.ref b := ry; obtain ⟨its, _, p, _⟩ := I.list hq; unfold eqD; exact RcNeAt.none_list p.isList hu0
  | bl a =>
    obtain rfl : x = .bl a := hx
    obtain rfl : u = Value.bool a := rx
    cases e with
    | non => obtain rfl : y = .non := hy; obtain rfl : v = Value.none := ry; unfold eqD; exact RcNeAt.bool_none a
    | bl b => obtain rfl : y = .bl b := hy; obtain rfl : v = Value.bool b := ry; unfold eqD; exact RcNeAt.bool_bool a b
    | int b => obtain rfl : y = .int b := hy; obtain ⟨t, rfl⟩ := ry; unfold eqD; exact RcNeAt.bool_int a b t
    | str b => obtain rfl : y = .str b := hy; obtain ⟨t, rfl⟩ := ry; unfold eqD; exact RcNeAt.bool_str a b t
    | tup es => obtain ⟨b, ys, rfl, hq, _⟩ := hy; obtain rfl : v = Value.ref b := ry; obtain ⟨its, _, p, _⟩ := I.tuple hq; unfold eqD; exact RcNeAt.bool_tuple a (show s.heap.IsTuple b its.toArray from p) hu0
    | lst es => obtain ⟨b, ys, rfl, hq, _⟩ := hy; obtain rfl : v = Value.ref b := ry; obtain ⟨its, _, p, _⟩ := I.list hq; unfold eqD; exact RcNeAt.bool_list a p.isList hu0
  | int a =>
    obtain rfl : x = .int a := hx
    obtain ⟨t0, rfl⟩ := rx
    cases e with
    | non => obtain rfl : y = .non := hy; obtain rfl : v = Value.none := ry; unfold eqD; exact RcNeAt.int_none a t0
    | bl b => obtain rfl : y = .bl b := hy; obtain rfl : v = Value.bool b := ry; unfold eqD; exact RcNeAt.int_bool a t0 b
    | int b => obtain rfl : y = .int b := hy; obtain ⟨t, rfl⟩ := ry; unfold eqD; exact RcNeAt.int_int a t0 b t
    | str b => obtain rfl : y = .str b := hy; obtain ⟨t, rfl⟩ := ry; unfold eqD; exact RcNeAt.int_str a t0 b t
    | tup es => obtain ⟨b, ys, rfl, hq, _⟩ := hy; obtain rfl : v = Value.ref b := ry; obtain ⟨its, _, p, _⟩ := I.tuple hq; unfold eqD; exact RcNeAt.int_tuple a t0 (show s.heap.IsTuple b its.toArray from p) hu0
    | lst es => obtain ⟨b, ys, rfl, hq, _⟩ := hy; obtain rfl : v = Value.ref b := ry; obtain ⟨its, _, p, _⟩ := I.list hq; unfold eqD; exact RcNeAt.int_list a t0 p.isList hu0
  | str a =>
    obtain rfl : x = .str a := hx
    obtain ⟨t0, rfl⟩ := rx
    cases e with
    | non => obtain rfl : y = .non := hy; obtain rfl : v = Value.none := ry; unfold eqD; exact RcNeAt.str_none a t0
    | bl b => obtain rfl : y = .bl b := hy; obtain rfl : v = Value.bool b := ry; unfold eqD; exact RcNeAt.str_bool a t0 b
    | int b => obtain rfl : y = .int b := hy; obtain ⟨t, rfl⟩ := ry; unfold eqD; exact RcNeAt.str_int a t0 b t
    | str b => obtain rfl : y = .str b := hy; obtain ⟨t, rfl⟩ := ry; unfold eqD; exact RcNeAt.str_str a t0 b t
    | tup es => obtain ⟨b, ys, rfl, hq, _⟩ := hy; obtain rfl : v = Value.ref b := ry; obtain ⟨its, _, p, _⟩ := I.tuple hq; unfold eqD; exact RcNeAt.str_tuple a t0 (show s.heap.IsTuple b its.toArray from p) hu0
    | lst es => obtain ⟨b, ys, rfl, hq, _⟩ := hy; obtain rfl : v = Value.ref b := ry; obtain ⟨its, _, p, _⟩ := I.list hq; unfold eqD; exact RcNeAt.str_list a t0 p.isList hu0
  | tup ds =>
    have hdd : depL ds ≤ 100 := by unfold dep at hd; omega
    obtain ⟨a, xs, rfl, hq, hl⟩ := hx
    obtain rfl : u = Value.ref a := rx
    obtain ⟨its, rv, p, _⟩ := I.tuple hq
    have p : s.heap.IsTuple a its.toArray := p
    cases e with
    | non => obtain rfl : y = .non := hy; obtain rfl : v = Value.none := ry; unfold eqD; exact RcNeAt.tuple_none p hu0
    | bl b => obtain rfl : y = .bl b := hy; obtain rfl : v = Value.bool b := ry; unfold eqD; exact RcNeAt.tuple_bool b p hu0
    | int b => obtain rfl : y = .int b := hy; obtain ⟨t, rfl⟩ := ry; unfold eqD; exact RcNeAt.tuple_int b t p hu0
    | str b => obtain rfl : y = .str b := hy; obtain ⟨t, rfl⟩ := ry; unfold eqD; exact RcNeAt.tuple_str b t p hu0
    | lst es => obtain ⟨b, ys, rfl, hq', _⟩ := hy; obtain rfl : v = Value.ref b := ry; obtain ⟨its', _, p', _⟩ := I.list hq'; unfold eqD; exact RcNeAt.tuple_list p p'.isList hu0
    | tup es =>
      obtain ⟨b, ys, rfl, hq', hl'⟩ := hy
      obtain rfl : v = Value.ref b := ry
      obtain ⟨its', rv', p', _⟩ := I.tuple hq'
      have p' : s.heap.IsTuple b its'.toArray := p'
      have he := items_at (A := A.in1) (s := s) hl rv hl' rv' (fun d e x y u v ⟨j, hj⟩ r1 r2 s1 s2 => (I.eq_sh 100 A.in1 d e x y u v (Nat.le_trans (depL_le hj) hdd) (by show A.units + 1 + 100 < cLine; omega) r1 r2 s1 s2).2)
      have rc := RcNeAt.tuples p p' hu0 he
      have l1 := hl.length
      have l2 := rv.length
      have l3 := hl'.length
      have l4 := rv'.length
      rw [List.size_toArray, List.size_toArray, ← l2, ← l4, ← l1, ← l3, eqL_all] at rc
      unfold eqD
      exact rc
  | lst ds =>
    have hdd : depL ds ≤ 100 := by unfold dep at hd; omega
    obtain ⟨a, xs, rfl, hq, hl⟩ := hx
    obtain rfl : u = Value.ref a := rx
    obtain ⟨its, rv, p, _⟩ := I.list hq
    have p := p.isList
    cases e with
    | non => obtain rfl : y = .non := hy; obtain rfl : v = Value.none := ry; unfold eqD; exact RcNeAt.list_none p hu0
    | bl b => obtain rfl : y = .bl b := hy; obtain rfl : v = Value.bool b := ry; unfold eqD; exact RcNeAt.list_bool b p hu0
    | int b => obtain rfl : y = .int b := hy; obtain ⟨t, rfl⟩ := ry; unfold eqD; exact RcNeAt.list_int b t p hu0
    | str b => obtain rfl : y = .str b := hy; obtain ⟨t, rfl⟩ := ry; unfold eqD; exact RcNeAt.list_str b t p hu0
    | tup es => obtain ⟨b, ys, rfl, hq', _⟩ := hy; obtain rfl : v = Value.ref b := ry; obtain ⟨its', _, p', _⟩ := I.tuple hq'; unfold eqD; exact RcNeAt.list_tuple p (show s.heap.IsTuple b its'.toArray from p') hu0
    | lst es =>
      obtain ⟨b, ys, rfl, hq', hl'⟩ := hy
      obtain rfl : v = Value.ref b := ry
      obtain ⟨its', rv', p', _⟩ := I.list hq'
      have p' := p'.isList
      have l1 := hl.length
      have l2 := rv.length
      have l3 := hl'.length
      have l4 := rv'.length
      unfold eqD
      by_cases hz : ds.length = es.length
      · have he := items_at (A := A.in1) (s := s) hl rv hl' rv' (fun d e x y u v ⟨j, hj⟩ r1 r2 s1 s2 => (I.eq_sh 100 A.in1 d e x y u v (Nat.le_trans (depL_le hj) hdd) (by show A.units + 1 + 100 < cLine; omega) r1 r2 s1 s2).2)
        have rc := RcNeAt.lists p p' (by rw [List.size_toArray, List.size_toArray]; omega) hu0 he
        rw [List.size_toArray, ← l2, ← l1] at rc
        have q := eqL_all ds es
        rw [← hz, Nat.min_self, beq_self_eq_true, Bool.and_true] at q
        rw [← q]
        exact rc
      · have q : eqL ds es = false := by
          cases q : eqL ds es with
          | false => rfl
          | true => exact absurd (eqL_length q) hz
        rw [q]
        exact RcNeAt.lists_lengths p p' (by rw [List.size_toArray, List.size_toArray]; simp; omega) hu0
def rNeD (K : PySem.W.Frag) : R2 := fun x y H Q => ∃ d e, dep d ≤ 100 ∧ Sh K H d x ∧ Sh K H e y ∧ Q (.bl (!eqD d e)) H
theorem op_neD (hu : X.A.units + 101 < cLine) : OpR X (compareOp .NotEq) (rNeD X.K) := by
  intro pins s σ H x y v u Q I rx ry ⟨d, e, hd, hx, hy, q⟩
  exact (I.ne_sh d e x y v u hd hu rx ry hx hy) X.prog X.w X.xe _ ⟨.bl _, H, I, rfl, q⟩
theorem walks_tuple {prog : Program} {w : World} {A : Around} (hh : A.handled = none) (It ax : Addr) (hne : ax ≠ It) (items : Array Value) :
    Walks prog w A It [It, ax] [It] items.size (fun i v => items[i]? = some v) (fun i h => h.IsTupleIter It ax i ∧ h.IsTuple ax items) where
  sub := fun b hb => by simp at hb; simp [hb]
  frame := fun _ _ _ st hk => ⟨st.1.at fun o e => hk It (by simp) o e, let ⟨o, e, r⟩ := st.2; ⟨o, hk ax (by simp) o e, r⟩⟩
  item := fun i s Q E hi st hQ => by
    refine wpAny_pyNext_tuple_item st.1 st.2 (x := items[i]) (by simp [hi]) fun h' hit' hs' => ?_
    refine hQ _ h' s.toks (by simp [hi]) ⟨hit', ?_⟩ fun b o hb e => hs'.extBut b o (fun h => hb (by simp [h])) e
    obtain ⟨o, e, r⟩ := st.2
    exact ⟨o, hs'.extBut _ _ hne e, r⟩
  done := fun s Q E st hQ => wpAny_pyNext_tuple_end hh st.1 st.2 (by simp) fun h' he' => hQ h' s.toks fun b o hb e => he' b o (fun h => hb (by simp [h])) e
  self := fun _ _ _ _ st hQ => wpAny_pyIter_tupleiter st.1 hQ
def Sq (K : PySem.W.Frag) (H : Hp) (a : Addr) (xs : List V) : Prop := SqL K H a xs ∨ SqT K H a xs
theorem seq_walk {A : Around} {a : Addr} {xs : List V} {Q : Value → Shared → Prop} {E : Value → Shared → Prop} (hh : A.handled = none) (I : Inv X pins σ H s) (h : Sq X.K H a xs)
    (hq : ∀ (its : List Value) (It : Addr) (fp wr : List Addr) (S : Nat → Heap → Prop) (s2 : Shared), Vals xs its → xs.length ≤ sizeLine → Walks X.prog X.w A It fp wr its.length (fun i v => its[i]? = some v) S → S 0 s2.heap → (∀ b ∈ fp, b < s2.heap.objs.size) →
      (∀ h' tk, (∀ b o, b ∉ wr → s2.heap.get? b = some o → h'.get? b = some o) → Inv X pins σ H { s2 with heap := h', toks := tk }) → Q (.ref It) s2) : wpAny (model X.prog X.w) A (pyIter (.ref a)) Q E s := by
  rcases h with h | h
  · obtain ⟨its, rv, p, hz⟩ := I.list h
    refine wpAny_pyIter_list p.isList ?_
    have ha : a < s.heap.objs.size := by obtain ⟨o, e, _⟩ := p.isList; exact Heap.lt_size e
    refine hq its s.heap.objs.size [s.heap.objs.size, a] [s.heap.objs.size] (fun i h => h.IsListIter s.heap.objs.size a i ∧ h.IsList a its.toArray) _ rv hz (by simpa using Walks.list (prog := X.prog) (w := X.w) hh s.heap.objs.size a (Nat.ne_of_lt ha) its.toArray) ⟨⟨_, Heap.get?_push_size _ rfl, rfl, rfl⟩, ?_⟩ (fun b hb => ?_) fun h' tk hk => ?_
    · obtain ⟨o, e, r⟩ := p.isList
      exact ⟨o, Heap.get?_push_of_some _ e, r⟩
    · simp at hb
      show b < (s.heap.push _).objs.size
      rw [Heap.size_push]
      rcases hb with rfl | rfl
      · exact Nat.lt_succ_self _
      · exact Nat.lt_succ_of_lt ha
    · exact I.kept fun b o e => hk b o (by simpa using Nat.ne_of_lt (Heap.lt_size e)) (Heap.get?_push_of_some _ e)
  · obtain ⟨its, rv, p, hz⟩ := I.tuple h
    have p : s.heap.IsTuple a its.toArray := p
    refine wpAny_pyIter_tuple p ?_
    have ha : a < s.heap.objs.size := by obtain ⟨o, e, _⟩ := p; exact Heap.lt_size e
    refine hq its s.heap.objs.size [s.heap.objs.size, a] [s.heap.objs.size] (fun i h => h.IsTupleIter s.heap.objs.size a i ∧ h.IsTuple a its.toArray) _ rv hz (by simpa using walks_tuple (prog := X.prog) (w := X.w) hh s.heap.objs.size a (Nat.ne_of_lt ha) its.toArray) ⟨⟨_, Heap.get?_push_size _ rfl, rfl, rfl⟩, ?_⟩ (fun b hb => ?_) fun h' tk hk => ?_
    · obtain ⟨o, e, r⟩ := p
      exact ⟨o, Heap.get?_push_of_some _ e, r⟩
    · simp at hb
      show b < (s.heap.push _).objs.size
      rw [Heap.size_push]
      rcases hb with rfl | rfl
      · exact Nat.lt_succ_self _
      · exact Nat.lt_succ_of_lt ha
    · exact I.kept fun b o e => hk b o (by simpa using Nat.ne_of_lt (Heap.lt_size e)) (Heap.get?_push_of_some _ e)
theorem Vals.getR : ∀ {xs : List V} {us : List Value} {i : Nat} {u : Value}, Vals xs us → us[i]? = some u → ∃ x, xs[i]? = some x ∧ RelV x u
  | _, _, _, _, .nil, e => by simp at e
  | _, _, 0, _, .cons r _, e => by simp at e; subst e; exact ⟨_, rfl, r⟩
  | _, _, i + 1, u, .cons _ t, e => by
    obtain ⟨x, h1, h2⟩ := Vals.getR (i := i) (u := u) t (by simpa using e)
    exact ⟨x, by simpa using h1, h2⟩
theorem preSum_list : ∀ (ns : List Int) (k : Nat), k ≤ ns.length → preSum (fun j => ns.getD j 0) k = (ns.take k).sum
  | ns, 0, _ => by simp [preSum]
  | ns, k + 1, h => by
    have e : ns.take (k + 1) = ns.take k ++ [ns[k]] := by
      rw [List.take_add_one, List.getElem?_eq_getElem (by omega)]; rfl
    have g : ns.getD k 0 = ns[k] := by rw [List.getD_eq_getElem?_getD, List.getElem?_eq_getElem (by omega)]; rfl
    rw [preSum, preSum_list ns k (by omega), e, List.sum_append_int, g]
    simp
theorem call_sum (hc : X.calm = true) : CallR X (.builtin "sum") (fun vs H Q => ∃ (a : Addr) (ns : List Int), vs = [.ref a] ∧ Sq X.K H a (ns.map V.int) ∧ Q (.int ns.sum) H) := by
  intro pins s σ H xs us Q I r ⟨a, ns, e, hq, q⟩
  subst e
  obtain ⟨u, rfl, ru⟩ := r.one
  obtain rfl : u = Value.ref a := ru
  refine call_sum_walkG (seq_walk (I.ok.hd hc) I hq fun its It fp wr S s2 rv hz W st hf hI => ?_)
  refine ⟨It, fp, wr, its.length, _, S, fun j => ns.getD j 0, rfl, W, st, hf, fun i v hv => ?_, fun h' tk t' hk => ?_⟩
  · obtain ⟨x, hx, rx⟩ := rv.getR hv
    rw [List.getElem?_map] at hx
    cases hb : ns[i]? with
    | none => rw [hb] at hx; cases hx
    | some b =>
      rw [hb] at hx
      obtain rfl : V.int b = x := by simpa using hx
      obtain ⟨t, rfl⟩ := rx
      exact ⟨t, by show Value.int b t = Value.int (ns.getD i 0) t; rw [List.getD_eq_getElem?_getD, hb]; rfl⟩
  · have hl : its.length = ns.length := by rw [← rv.length, List.length_map]
    refine ⟨.int ns.sum, H, hI h' tk hk, ⟨t', ?_⟩, q⟩
    rw [hl, preSum_list ns ns.length (Nat.le_refl _), List.take_length]
theorem argBest_lt {bt : Nat → Nat → Bool} : ∀ k, argBest bt k ≤ k
  | 0 => Nat.le_refl _
  | k + 1 => by
    unfold argBest
    split
    · exact Nat.le_refl _
    · exact Nat.le_succ_of_le (argBest_lt k)
theorem argBest_least {ns : List Int} : ∀ (k : Nat), ∀ j, j ≤ k → ns.getD (argBest (fun i j => decide (ns.getD i 0 < ns.getD j 0)) k) 0 ≤ ns.getD j 0
  | 0, j, h => by
    have : j = 0 := by omega
    subst this
    exact Int.le_refl _
  | k + 1, j, h => by
    have ih := argBest_least (ns := ns) k
    unfold argBest
    by_cases c : ns.getD (k + 1) 0 < ns.getD (argBest (fun i j => decide (ns.getD i 0 < ns.getD j 0)) k) 0
    · rw [if_pos (decide_eq_true c)]
      by_cases e : j = k + 1
      · subst e; exact Int.le_refl _
      · have := ih j (by omega); omega
    · rw [if_neg (by simpa using c)]
      by_cases e : j = k + 1
      · subst e; omega
      · exact ih j (by omega)
theorem call_min (hc : X.calm = true) : CallR X (.builtin "min") (fun vs H Q => ∃ (a : Addr) (ns : List Int), vs = [.ref a] ∧ Sq X.K H a (ns.map V.int) ∧ ns ≠ [] ∧ ∀ m : Int, m ∈ ns → (∀ k ∈ ns, m ≤ k) → Q (.int m) H) := by
  intro pins s σ H xs us Q I r ⟨a, ns, e, hq, hne, q⟩
  subst e
  obtain ⟨u, rfl, ru⟩ := r.one
  obtain rfl : u = Value.ref a := ru
  refine call_min_walk (seq_walk (I.ok.hd hc) I hq fun its It fp wr S s2 rv hz W st hf hI => ?_)
  have hl : its.length = ns.length := by rw [← rv.length, List.length_map]
  have hpos : 0 < ns.length := List.length_pos_iff.mpr hne
  have item : ∀ (i : Nat) (v : Value), its[i]? = some v → ∃ t, v = .int (ns.getD i 0) t := fun i v hv => by
    obtain ⟨x, hx, rx⟩ := rv.getR hv
    rw [List.getElem?_map] at hx
    cases hb : ns[i]? with
    | none => rw [hb] at hx; cases hx
    | some b =>
      rw [hb] at hx
      obtain rfl : V.int b = x := by simpa using hx
      obtain ⟨t, rfl⟩ := rx
      exact ⟨t, by rw [List.getD_eq_getElem?_getD, hb]; rfl⟩
  refine ⟨It, fp, wr, its.length, _, S, fun i j => decide (ns.getD i 0 < ns.getD j 0), rfl, W, st, hf, by omega, fun i j vi vj s' Q' E' hi hj hQ' => ?_, fun v h' tk hv hk => ?_⟩
  · obtain ⟨t, rfl⟩ := item i vi hi
    obtain ⟨t', rfl⟩ := item j vj hj
    exact (lt_int hQ' : wpAny (model X.prog X.w) X.A.in1 (compareOp .Lt _ _) Q' E' s')
  · obtain ⟨t, rfl⟩ := item _ v hv
    have hb := argBest_lt (bt := fun i j => decide (ns.getD i 0 < ns.getD j 0)) (its.length - 1)
    refine ⟨.int _, H, hI h' tk hk, ⟨t, rfl⟩, q _ ?_ fun k hk => ?_⟩
    · rw [List.getD_eq_getElem?_getD, List.getElem?_eq_getElem (by omega)]
      exact List.getElem_mem _
    · obtain ⟨j, hj, rfl⟩ := List.mem_iff_getElem.mp hk
      have := argBest_least (ns := ns) (its.length - 1) j (by omega)
      rw [List.getD_eq_getElem?_getD (l := ns) (i := j), List.getElem?_eq_getElem hj] at this
      exact this
end
end L2
namespace L2
open PySem PySem.Spec PyProof.Rows
section
variable {X : Cx}
def rCatA (K : PySem.W.Frag) : R2 := fun x y H Q => ∃ a b xs ys, x = .ref a ∧ y = .ref b ∧ SqT K H a xs ∧ SqT K H b ys ∧ xs.length + ys.length ≤ sizeLine ∧
  ∀ p H', ((p = a ∧ H' = H ∧ ys = []) ∨ (p = b ∧ H' = H ∧ xs = []) ∨ (H p = none ∧ H' = upd H p (.tup (xs ++ ys)))) → SqT K H' p (xs ++ ys) → Same H H' → Q (.ref p) H'
theorem same_new {H : Hp} {p : Addr} (h : H p = none) (o : HO) : Same H (upd H p o) := fun b u q => by rw [upd_ne (ne_of_none q h)]; exact q
theorem op_catA : OpR X (binaryOp .Add) (rCatA X.K) := by
  intro pins s σ H x y v u Q I rx ry ⟨a, b, xs, ys, ex, ey, ha, hb, hz, q⟩
  subst ex ey
  obtain rfl : v = Value.ref a := rx
  obtain rfl : u = Value.ref b := ry
  by_cases hx : xs = []
  · obtain ⟨its, r1, p1, _⟩ := I.tuple ha
    obtain ⟨its2, r2, p2, _⟩ := I.tuple hb
    have he : its = [] := r1.nil_iff.mpr hx
    obtain ⟨⟨cls, dd, data, sl⟩, ho, hc, n, hd⟩ := id p1
    obtain ⟨⟨cls2, dd2, data2, sl2⟩, ho2, hc2, n2, hd2⟩ := id p2
    simp only at hc hd hc2 hd2
    subst hc hd hc2 hd2
    refine concat_meets ⟨_, ho, rfl⟩ ⟨_, ho2, rfl⟩ noFill_tuple_add seq_tuple_add PySem.F.slot_tuple_add PySem.F.entry_tuple_add (PySem.F.args_tuple_add_2 _ _)
      (tuple_addW0 a b its.toArray its2.toArray n n2 dd dd2 sl sl2 (by simp [he])) ⟨ho, ho2, ?_⟩
    exact ⟨.ref b, H, I, rfl, q b H (.inr (.inl ⟨rfl, rfl, hx⟩)) (by rw [hx]; exact hb) (Same.refl H)⟩
  · refine op_catT (X := X) pins s σ H (.ref a) (.ref b) (.ref a) (.ref b) Q I rfl rfl ⟨a, b, xs, ys, rfl, rfl, ha, hb, hx, hz, fun hy => ?_, fun hy p hp => ?_⟩
    · exact q a H (.inl ⟨rfl, rfl, hy⟩) (by rw [hy, List.append_nil]; exact ha) (Same.refl H)
    · exact q p _ (.inr (.inr ⟨hp, rfl⟩)) (.of upd_same) (same_new hp _)
def rAddA (K : PySem.W.Frag) : R2 := fun x y H Q => match x, y with
  | .int i, .int j => Q (.int (i + j)) H
  | .str i, .str j => i.length + j.length ≤ sizeLine ∧ Q (.str (i ++ j)) H
  | .ref a, .ref b => rCat (.ref a) (.ref b) H Q ∨ rCatA K (.ref a) (.ref b) H Q
  | _, _ => False
theorem op_addA : OpR X (binaryOp .Add) (rAddA X.K) := by
  intro pins s σ H x y v u Q I rx ry h
  unfold rAddA at h
  split at h
  · exact op_add (X := X) pins s σ H _ _ v u Q I rx ry ⟨_, _, rfl, rfl, h⟩
  · exact op_add_str (X := X) pins s σ H _ _ v u Q I rx ry ⟨_, _, rfl, rfl, h.1, h.2⟩
  · rcases h with h | h
    · exact op_cat (X := X) pins s σ H _ _ v u Q I rx ry h
    · exact op_catA (X := X) pins s σ H _ _ v u Q I rx ry h
  · exact h.elim
def rMulA : R2 := fun x y H Q => match x, y with
  | .int i, .int j => CMul i j ∧ Q (.int (i * j)) H
  | .ref a, .int k => rRep (.ref a) (.int k) H Q
  | _, _ => False
theorem op_mulA : OpR X (binaryOp .Mult) rMulA := by
  intro pins s σ H x y v u Q I rx ry h
  unfold rMulA at h
  split at h
  · exact op_mul (X := X) pins s σ H _ _ v u Q I rx ry ⟨_, _, rfl, rfl, h.1, h.2⟩
  · exact op_rep (X := X) pins s σ H _ _ v u Q I rx ry h
  · exact h.elim
theorem ix_sq : IxR X (fun x y H Q => rIxL X.K x y H Q ∨ rIxT X.K x y H Q) := ix_list.or ix_tup
theorem Vals.of_get : ∀ {xs : List V} {us : List Value}, xs.length = us.length → (∀ (i : Nat) x u, xs[i]? = some x → us[i]? = some u → RelV x u) → Vals xs us
  | [], [], _, _ => .nil
  | [], _ :: _, h, _ => by simp at h
  | _ :: _, [], h, _ => by simp at h
  | x :: xs, u :: us, h, hr => .cons (hr 0 x u rfl rfl) (Vals.of_get (by simpa using h) fun i y w h1 h2 => hr (i + 1) y w (by simpa using h1) (by simpa using h2))
theorem call_rng1 : CallR X (.type "range") (fun vs H Q => ∃ n : Int, vs = [.int n] ∧ ∀ p, H p = none → Q (.ref p) (upd H p (.rng 0 n))) := by
  intro pins s σ H xs us Q I r ⟨n, e, q⟩
  subst e
  obtain ⟨u, rfl, ru⟩ := r.one
  obtain ⟨t, rfl⟩ := ru
  refine call_range_1 ⟨.ref s.heap.objs.size, _, I.laid (a := s.heap.objs.size) (o := .rng 0 n) (fun b o e => Heap.get?_push_of_some _ e) (Nat.le_refl _) ⟨_, _, _, Heap.get?_push_size _ rfl⟩, rfl, q _ (I.hok.fresh (Nat.le_refl _))⟩
theorem call_rng2 : CallR X (.type "range") (fun vs H Q => ∃ m n : Int, vs = [.int m, .int n] ∧ ∀ p, H p = none → Q (.ref p) (upd H p (.rng m n))) := by
  intro pins s σ H xs us Q I r ⟨m, n, e, q⟩
  subst e
  obtain ⟨u, u', rfl, ru, ru'⟩ := r.two
  obtain ⟨t, rfl⟩ := ru
  obtain ⟨t', rfl⟩ := ru'
  refine call_range_2 ⟨.ref s.heap.objs.size, _, I.laid (a := s.heap.objs.size) (o := .rng m n) (fun b o e => Heap.get?_push_of_some _ e) (Nat.le_refl _) ⟨_, _, _, Heap.get?_push_size _ rfl⟩, rfl, q _ (I.hok.fresh (Nat.le_refl _))⟩
theorem call_rng : CallR X (.type "range") (fun vs H Q => (∃ n : Int, vs = [.int n] ∧ ∀ p, H p = none → Q (.ref p) (upd H p (.rng 0 n))) ∨ ∃ m n : Int, vs = [.int m, .int n] ∧ ∀ p, H p = none → Q (.ref p) (upd H p (.rng m n))) := call_rng1.or call_rng2
def rngI (lo hi : Int) : List Int := (List.range (hi - lo).toNat).map fun i : Nat => lo + (i : Int)
theorem call_list_rng (hc : X.calm = true) : CallR X (.type "list") (fun vs H Q => ∃ (a : Addr) (lo hi : Int), vs = [.ref a] ∧ H a = some (.rng lo hi) ∧ (-(2 ^ 62) ≤ lo ∧ lo < 2 ^ 62 ∧ -(2 ^ 62) ≤ hi ∧ hi < 2 ^ 62 ∧ hi - lo ≤ 1000000) ∧
    ∀ p, H p = none → Q (.ref p) (upd H p (.lst ((rngI lo hi).map V.int)))) := by
  intro pins s σ H xs us Q I r ⟨a, lo, hi, e, ha, ⟨b1, b2, b3, b4, b5⟩, q⟩
  subst e
  obtain ⟨u, rfl, ru⟩ := r.one
  obtain rfl : u = Value.ref a := ru
  obtain ⟨t, u, v, hr⟩ := I.hok a _ ha
  refine call_list_range (a := lo) (b := hi) (c := 1) (n := (hi - lo).toNat) (I.ok.hd hc) hr (small_one b1 b2 b3 b4) (by rw [rangeSize_one]; split <;> omega) (by omega) fun h' tk acc' c' hk hS hI => ?_
  refine ⟨.ref s.heap.objs.size, _, I.laid (a := s.heap.objs.size) (o := .lst ((rngI lo hi).map V.int)) hk (Nat.le_refl _) ⟨?_, acc'.toList, c', ?_, by simpa using hS⟩, rfl, q _ (I.hok.fresh (Nat.le_refl _))⟩
  · rw [List.length_map]; unfold rngI; rw [List.length_map, List.length_range]
    exact Nat.le_trans (show (hi - lo).toNat ≤ 1000000 by omega) (by decide)
  · refine Vals.of_get ?_ fun i x u hx hu => ?_
    · have el : acc'.toList.length = (hi - lo).toNat := by rw [← hI.1]; simp
      rw [List.length_map, el]; unfold rngI; rw [List.length_map, List.length_range]
    · obtain ⟨t, rfl⟩ := hI.2 i u (by simpa using hu)
      rw [List.getElem?_map] at hx
      unfold rngI at hx
      rw [List.getElem?_map] at hx
      cases hi' : (List.range (hi - lo).toNat)[i]? with
      | none => rw [hi'] at hx; cases hx
      | some j =>
        rw [hi'] at hx
        have : j = i := by
          obtain ⟨h1, h2⟩ := List.getElem?_eq_some_iff.mp hi'
          simpa using h2.symm
        subst this
        obtain rfl : V.int (lo + (j : Int)) = x := by simpa using hx
        exact ⟨t, by rw [Int.mul_one]⟩
theorem call_list_any (hc : X.calm = true) : CallR X (.type "list") (fun vs H Q => (∃ p ys, vs = [.ref p] ∧ (SqL X.K H p ys ∨ SqT X.K H p ys) ∧ ∀ l, H l = none → Q (.ref l) (upd H l (.lst ys))) ∨
    ∃ (a : Addr) (lo hi : Int), vs = [.ref a] ∧ H a = some (.rng lo hi) ∧ (-(2 ^ 62) ≤ lo ∧ lo < 2 ^ 62 ∧ -(2 ^ 62) ≤ hi ∧ hi < 2 ^ 62 ∧ hi - lo ≤ 1000000) ∧ ∀ p, H p = none → Q (.ref p) (upd H p (.lst ((rngI lo hi).map V.int)))) := call_list_of.or (call_list_rng hc)
def iSeq (K : PySem.W.Frag) (tl : TE) : TI := fun σ H R => tl σ H fun x H1 => ∃ a, x = .ref a ∧ (((∃ xs, SqL K H1 a xs) ∧ R (Itl K a) H1) ∨ ((∃ xs, SqT K H1 a xs) ∧ R (Itt K a) H1))
theorem pi_seq {tg l : Expr} {tl : TE} (hl : PE X l tl) : PI X tg l (iSeq X.K tl) := by
  intro pins s σ H R I h
  refine thn (hl pins s σ H _ I h) fun v s1 ⟨x, H1, I1, r1, q1⟩ => ?_
  obtain ⟨a, e, q⟩ := q1
  subst e
  cases r1
  rcases q with ⟨⟨xs, hq⟩, q⟩ | ⟨⟨xs, hq⟩, q⟩
  · obtain ⟨its, rv, p, hz⟩ := I1.list hq
    refine wpAny_pyIter_list p.isList ?_
    refine ⟨s1.heap.objs.size, [s1.heap.objs.size], _, _, H1, rfl, I1.kept (t' := s1.toks) fun b o e => Heap.get?_push_of_some _ e, turn_list a _, ⟨_, Heap.get?_push_size _ rfl, rfl, rfl⟩, fun b hb => ?_, q⟩
    have e : b = s1.heap.objs.size := by simpa using hb
    subst e
    exact I1.fpOk (Nat.le_refl _) (I1.hok.fresh (Nat.le_refl _))
  · obtain ⟨its, rv, p, hz⟩ := I1.tuple hq
    refine wpAny_pyIter_tuple (show s1.heap.IsTuple a its.toArray from p) ?_
    refine ⟨s1.heap.objs.size, [s1.heap.objs.size], _, _, H1, rfl, I1.kept (t' := s1.toks) fun b o e => Heap.get?_push_of_some _ e, turn_tuple a _, ⟨_, Heap.get?_push_size _ rfl, rfl, rfl⟩, fun b hb => ?_, q⟩
    have e : b = s1.heap.objs.size := by simpa using hb
    subst e
    exact I1.fpOk (Nat.le_refl _) (I1.hok.fresh (Nat.le_refl _))
end
structure Def (P : Program) (w : World) (K : PySem.W.Frag) (mg : Str → Option Value) (base : Heap) (x : Str) (k : Nat) (ps : List Str) (sp : Sp) : Prop where
  ex : ∃ (f : Addr) (fd : FuncData), FnOk P w K mg base CX0 k f fd ps sp ∧ mg x = some (.ref f) ∧ PySem.W.keepIn K (.ref f) = true ∧ Binds K fd ps []
theorem Def.mono {P : Program} {w : World} {K : PySem.W.Frag} {mg : Str → Option Value} {base : Heap} {x : Str} {j k : Nat} {ps : List Str} {sp : Sp} (D : Def P w K mg base x j ps sp) (h : j ≤ k) : Def P w K mg base x k ps sp := by
  obtain ⟨f, fd, F, r⟩ := D.ex
  exact ⟨f, fd, F.mono h, r⟩
theorem pe_def {X : Cx} {x : Str} {k : Nat} {ps : List Str} {sp : Sp} {p pos : Pos} {e : Expr} {es : List Expr} {t : TA} (D : Def X.prog X.w X.K X.mg X.base x k ps sp) (hr : Room k X.A) (hg : Gl X x) (ha : PA X (e :: es) t)
    (hdb : (x == ("__debug__" : Str)) = false := by decide) (he : starEach (e :: es) X.env = (false, eval e X.env) :: starEach es X.env := by rfl) (hpl : (backTo pos (starEach es X.env)).any (·.1) = false := by rfl) :
    PE X (.Call (.Name x p) (e :: es) [] pos) (tCall sp [] E0 t) := by
  obtain ⟨f, fd, F, hm, hk, hb⟩ := D.ex
  exact pe_call F hr hg hm hk hb .nil pass0 ha hdb he hpl
end L2
namespace L2
open PySem PySem.Spec PyProof.Rows
def SameX (acc : Addr) (H H' : Hp) : Prop := ∀ b o, b ≠ acc → H b = some o → H' b = some o
theorem SameX.refl (acc : Addr) (H : Hp) : SameX acc H H := fun _ _ _ h => h
theorem SameX.trans {acc : Addr} {H H1 H2 : Hp} (a : SameX acc H H1) (b : SameX acc H1 H2) : SameX acc H H2 := fun c o n h => b c o n (a c o n h)
theorem Same.x {acc : Addr} {H H' : Hp} (e : Same H H') : SameX acc H H' := fun b o _ h => e b o h
theorem SameX.put {acc : Addr} {H : Hp} (o : HO) : SameX acc H (upd H acc o) := fun b u n h => by rw [upd_ne n]; exact h
def Agree (vars : List Nat) (σ σ' : St) : Prop := ∀ k, k ∉ vars → σ'[k]? = σ[k]?
theorem Agree.refl (vars : List Nat) (σ : St) : Agree vars σ σ := fun _ _ => rfl
theorem Agree.trans {vars : List Nat} {σ σ1 σ2 : St} (a : Agree vars σ σ1) (b : Agree vars σ1 σ2) : Agree vars σ σ2 := fun k h => (b k h).trans (a k h)
theorem Agree.set {vars : List Nat} {σ : St} {j : Nat} (h : j ∈ vars) (v : Option V) : Agree vars σ (σ.set j v) := fun k hk => List.getElem?_set_ne (fun e : j = k => hk (by rw [← e]; exact h))
theorem set_at {σ : St} {j : Nat} {v : Option V} (h : j < σ.length) : (σ.set j v)[j]? = some v := List.getElem?_set_self h
def Emits (vars : List Nat) (tb : TS) (acc : Addr) (σ : St) (H : Hp) (L : List V) : Prop :=
  ∀ (D : Ends) (pre : List V), H acc = some (.lst pre) → pre.length + L.length ≤ 1000000 → (∀ σ' H', σ'.length = σ.length → Agree vars σ σ' → SameX acc H H' → H' acc = some (.lst (pre ++ L)) → D.nx σ' H') → tb D σ H
theorem emits_one {vars : List Nat} {te : TE} {acc : Addr} {σ : St} {H : Hp} {x : V} (h : ∀ Q : VK, (∀ H', Same H H' → Q x H') → te σ H Q) : Emits vars (tEmit te acc) acc σ H [x] := by
  intro D pre ha hz hd
  refine h _ fun H' e => ⟨pre, e _ _ ha, ?_, hd σ _ rfl (Agree.refl _ _) (e.x.trans (SameX.put _)) upd_same⟩
  exact Nat.lt_of_le_of_lt (show pre.length ≤ 1000000 by simp at hz; omega) (by decide)
theorem flatMap_range_succ {α : Type} (f : Nat → List α) (i : Nat) : (List.range (i + 1)).flatMap f = (List.range i).flatMap f ++ f i := by
  rw [List.range_succ, List.flatMap_append]
  simp
theorem flatMap_range_le {α : Type} (f : Nat → List α) {i n : Nat} (h : i ≤ n) : ((List.range i).flatMap f).length ≤ ((List.range n).flatMap f).length := by
  induction h with
  | refl => exact Nat.le_refl _
  | step _ ih => rw [flatMap_range_succ, List.length_append]; omega
theorem loop_range {vars : List Nat} {tb : TS} {acc : Addr} {σ : St} {H : Hp} {lo : Int} {n j : Nat} {L : Nat → List V} (hj : j ∈ vars) (hjl : j < σ.length)
    (h : ∀ i σ' H', i < n → σ'.length = σ.length → Agree vars σ σ' → σ'[j]? = some (some (.int (lo + (i : Int)))) → SameX acc H H' → (∃ pre, H' acc = some (.lst pre)) → Emits vars tb acc σ' H' (L i)) :
    Emits vars (tLoop (Itr lo n) (gName j) tb) acc σ H ((List.range n).flatMap L) := by
  intro D pre ha hz hd
  refine for_range (lo := lo) (n := n) (g := gName j) (D := D) (fun i σ' H' => i ≤ n ∧ σ'.length = σ.length ∧ Agree vars σ σ' ∧ SameX acc H H' ∧ H' acc = some (.lst (pre ++ (List.range i).flatMap L))) ⟨Nat.zero_le _, rfl, Agree.refl _ _, SameX.refl _ _, by simpa using ha⟩ (fun i σ1 H1 hi ⟨_, hl1, ag1, sx1, h1⟩ => ?_) fun σ1 H1 ⟨_, hl1, ag1, sx1, h1⟩ => hd σ1 H1 hl1 ag1 sx1 h1
  have hle := flatMap_range_le L (show i + 1 ≤ n from hi)
  rw [flatMap_range_succ, List.length_append] at hle
  have fin : ∀ σ' H', σ'.length = σ1.length → Agree vars (σ1.set j (some (.int (lo + (i : Int))))) σ' → SameX acc H1 H' → H' acc = some (.lst ((pre ++ (List.range i).flatMap L) ++ L i)) →
      (i + 1 ≤ n ∧ σ'.length = σ.length ∧ Agree vars σ σ' ∧ SameX acc H H' ∧ H' acc = some (.lst (pre ++ (List.range (i + 1)).flatMap L))) := fun σ' H' hl ag sx h2 =>
    ⟨hi, hl.trans hl1, (ag1.trans (Agree.set hj _)).trans ag, sx1.trans sx, by rw [h2, flatMap_range_succ, List.append_assoc]⟩
  refine h i (σ1.set j (some (.int (lo + (i : Int))))) H1 hi (by rw [List.length_set]; exact hl1) (ag1.trans (Agree.set hj _)) (set_at (by omega)) sx1 ⟨_, h1⟩ _ _ h1 (by rw [List.length_append]; omega) fun σ' H' hl ag sx h2 => fin σ' H' (hl.trans (List.length_set ..)) ag sx h2
end L2
namespace L2
open PySem PySem.Spec PyProof.Rows
theorem bt_len : bootBuiltins "len" = some (.builtin "len") := by decide +kernel
theorem bt_min : bootBuiltins "min" = some (.builtin "min") := by decide +kernel
theorem bt_max : bootBuiltins "max" = some (.builtin "max") := by decide +kernel
theorem bt_sum : bootBuiltins "sum" = some (.builtin "sum") := by decide +kernel
theorem bt_tuple : bootBuiltins "tuple" = some (.type "tuple") := by decide +kernel
theorem bt_list : bootBuiltins "list" = some (.type "list") := by decide +kernel
theorem bt_range : bootBuiltins "range" = some (.type "range") := by decide +kernel
theorem bt_int : bootBuiltins "int" = some (.type "int") := by decide +kernel
structure Blt (mg : Str → Option Value) : Prop where
  len : mg "len" = none
  all : mg "all" = none
  min : mg "min" = none
  max : mg "max" = none
  sum : mg "sum" = none
  isi : mg "isinstance" = none
  sorted : mg "sorted" = none
  tuple : mg "tuple" = none
  list : mg "list" = none
  range : mg "range" = none
  int : mg "int" = none
  bool : mg "bool" = none
end L2
namespace L2
open PySem
theorem hu100 {A : Around} {k : Nat} (hr : Room k A) : A.units + 100 < cLine := by have := hr.un; omega
theorem hu101 {A : Around} {k : Nat} (hr : Room k A) : A.units + 101 < cLine := by have := hr.un; omega
end L2
namespace L2
open PySem PySem.Spec PyProof.Rows
section
variable {X : Cx} {K : PySem.W.Frag}
theorem ix_sqK (hK : X.K = K) : IxR X (fun x y H Q => rIxL K x y H Q ∨ rIxT K x y H Q) := by subst hK; exact ix_sq
theorem op_addK (hK : X.K = K) : OpR X (binaryOp .Add) (rAddA K) := by subst hK; exact op_addA
theorem op_eqK {k : Nat} (hK : X.K = K) (hr : Room k X.A) : OpR X (compareOp .Eq) (rEqD K) := by subst hK; exact op_eqD (hu100 hr)
theorem op_neK {k : Nat} (hK : X.K = K) (hr : Room k X.A) : OpR X (compareOp .NotEq) (rNeD K) := by subst hK; exact op_neD (hu101 hr)
def rLen (K : PySem.W.Frag) : List V → Hp → VK → Prop := fun xs H Q => ∃ p ys, xs = [.ref p] ∧ (SqL K H p ys ∨ SqT K H p ys) ∧ Q (.int ys.length) H
theorem call_lenK (hK : X.K = K) : CallR X (.builtin "len") (rLen K) := by subst hK; exact call_len_seq
def rSum (K : PySem.W.Frag) : List V → Hp → VK → Prop := fun vs H Q => ∃ (a : Addr) (ns : List Int), vs = [.ref a] ∧ Sq K H a (ns.map V.int) ∧ Q (.int ns.sum) H
theorem call_sumK (hK : X.K = K) (hc : X.calm = true) : CallR X (.builtin "sum") (rSum K) := by subst hK; exact call_sum hc
def rMin (K : PySem.W.Frag) : List V → Hp → VK → Prop := fun vs H Q => ∃ (a : Addr) (ns : List Int), vs = [.ref a] ∧ Sq K H a (ns.map V.int) ∧ ns ≠ [] ∧ ∀ m : Int, m ∈ ns → (∀ k ∈ ns, m ≤ k) → Q (.int m) H
theorem call_minK (hK : X.K = K) (hc : X.calm = true) : CallR X (.builtin "min") (rMin K) := by subst hK; exact call_min hc
def rMax2 : List V → Hp → VK → Prop := fun xs H Q => ∃ i j : Int, xs = [.int i, .int j] ∧ Q (.int (if j > i then j else i)) H
theorem call_max2K (hc : X.calm = true) : CallR X (.builtin "max") rMax2 := call_max2 hc
def rTuple (K : PySem.W.Frag) : List V → Hp → VK → Prop := fun xs H Q => ∃ p ys, xs = [.ref p] ∧ ((SqL K H p ys ∧ ∀ l, H l = none → Q (.ref l) (upd H l (.tup ys))) ∨ (SqT K H p ys ∧ Q (.ref p) H))
theorem call_tupleK (hK : X.K = K) : CallR X (.type "tuple") (rTuple K) := by subst hK; exact call_tuple_of
def rList (K : PySem.W.Frag) : List V → Hp → VK → Prop := fun vs H Q => (∃ p ys, vs = [.ref p] ∧ (SqL K H p ys ∨ SqT K H p ys) ∧ ∀ l, H l = none → Q (.ref l) (upd H l (.lst ys))) ∨
    ∃ (a : Addr) (lo hi : Int), vs = [.ref a] ∧ H a = some (.rng lo hi) ∧ (-(2 ^ 62) ≤ lo ∧ lo < 2 ^ 62 ∧ -(2 ^ 62) ≤ hi ∧ hi < 2 ^ 62 ∧ hi - lo ≤ 1000000) ∧ ∀ p, H p = none → Q (.ref p) (upd H p (.lst ((rngI lo hi).map V.int)))
theorem call_listK (hK : X.K = K) (hc : X.calm = true) : CallR X (.type "list") (rList K) := by subst hK; exact call_list_any hc
theorem pi_seqK {tg l : Expr} {tl : TE} (hK : X.K = K) (hl : PE X l tl) : PI X tg l (iSeq K tl) := by subst hK; exact pi_seq hl
theorem pg_tupK {es : List Expr} {k : Nat} {t : TGs} {n : Nat} {pos : Pos} (hK : X.K = K) (hc : X.calm = true) (h : PGs X es t) (hn : (assignEach es X.env).length = n := by rfl) (hst : (assignEach es X.env).findIdx? (·.1) = none := by rfl) : PG X (.Tuple es k pos) (gTup K n t) := by
  subst hK; exact pg_tup hc h hn hst
end
end L2
namespace L2
open PySem PySem.Spec PyProof.Rows
abbrev yLt : R2 := rI0 fun i j => .bl (decide (i < j))
abbrev yLe : R2 := rI0 fun i j => .bl (decide (i ≤ j))
abbrev yGt : R2 := rI0 fun i j => .bl (decide (j < i))
abbrev yGe : R2 := rI0 fun i j => .bl (decide (j ≤ i))
abbrev ySub : R2 := rI0 fun i j => .int (i - j)
abbrev yDiv : R2 := rI CDiv fun i j => .int (i / j)
abbrev yMod : R2 := rI (fun _ j => 0 < j) fun i j => .int (i % j)
abbrev yPow : R2 := rI CPow fun i j => .int (i ^ j.toNat)
abbrev yNeg : V → Hp → VK → Prop := rU fun i => .int (-i)
abbrev rIx2 (K : PySem.W.Frag) : R2 := fun x y H Q => rIxL K x y H Q ∨ rIxT K x y H Q
def rRng : List V → Hp → VK → Prop := fun vs H Q => (∃ n : Int, vs = [.int n] ∧ ∀ p, H p = none → Q (.ref p) (upd H p (.rng 0 n))) ∨ ∃ m n : Int, vs = [.int m, .int n] ∧ ∀ p, H p = none → Q (.ref p) (upd H p (.rng m n))
theorem call_rngK {X : Cx} : CallR X (.type "range") rRng := call_rng
end L2
namespace L2
open PySem
def tabD (T : List (List Int)) : Dt := .tup (T.map fun r => .tup (r.map .int))
structure Quad (T : List (List Int)) (n : Nat) : Prop where
  len : T.length = n
  row : ∀ r ∈ T, r.length = n
def at2 (T : List (List Int)) (i j : Nat) : Int := (T.getD i []).getD j 0
section
variable {K : PySem.W.Frag} {H : Hp} {T : List (List Int)} {n : Nat}
theorem ShL.rows : ∀ {T : List (List Int)} {rs : List V}, ShL K H (T.map fun r => Dt.tup (r.map Dt.int)) rs → rs.length = T.length ∧ ∀ (i : Nat) (row : List Int), T[i]? = some row → ∃ b, rs[i]? = some (.ref b) ∧ SqT K H b (row.map V.int)
  | [], rs, h => by
    have h : rs = [] := h
    subst h
    exact ⟨rfl, fun i row e => by simp at e⟩
  | r :: T, rs, ⟨x, rr, h1, ⟨b, xs, h2, h3, h4⟩, h5⟩ => by
    obtain ⟨e, g⟩ := ShL.rows h5
    subst h1
    refine ⟨by rw [List.length_cons, List.length_cons, e], fun i row er => ?_⟩
    cases i with
    | zero =>
      have : r = row := by simpa using er
      subst this
      exact ⟨b, by rw [h2]; rfl, by rw [← ShL.of_ints h4]; exact h3⟩
    | succ i => exact g i row (by simpa using er)
theorem Sh.tab {v : V} (h : Sh K H (tabD T) v) : ∃ a rs, v = .ref a ∧ SqT K H a rs ∧ rs.length = T.length ∧ ∀ (i : Nat) (row : List Int), T[i]? = some row → ∃ b, rs[i]? = some (.ref b) ∧ SqT K H b (row.map V.int) := by
  obtain ⟨a, rs, e, hq, hl⟩ := h
  obtain ⟨e2, g⟩ := ShL.rows hl
  exact ⟨a, rs, e, hq, e2, g⟩
theorem ShL.of_rows : ∀ {T : List (List Int)} {rs : List V}, rs.length = T.length → (∀ (i : Nat) (row : List Int), T[i]? = some row → ∃ b, rs[i]? = some (.ref b) ∧ SqT K H b (row.map V.int)) → ShL K H (T.map fun r => Dt.tup (r.map Dt.int)) rs
  | [], rs, h, _ => List.length_eq_zero_iff.mp h
  | r :: T, [], h, _ => by simp at h
  | r :: T, x :: rs, h, g => by
    obtain ⟨b, e, hq⟩ := g 0 r rfl
    have e : x = .ref b := by simpa using e
    exact ⟨x, rs, rfl, ⟨b, _, e, hq, ShL.ints r⟩, ShL.of_rows (by simpa using h) fun i row er => by
      obtain ⟨c, e2, q2⟩ := g (i + 1) row (by simpa using er)
      exact ⟨c, by simpa using e2, q2⟩⟩
theorem Quad.get (q : Quad T n) {i : Nat} (h : i < n) : ∃ row, T[i]? = some row ∧ row.length = n ∧ T.getD i [] = row := by
  have hi : i < T.length := by rw [q.len]; exact h
  refine ⟨T[i], List.getElem?_eq_getElem hi, q.row _ (List.getElem_mem hi), ?_⟩
  rw [List.getD_eq_getElem?_getD, List.getElem?_eq_getElem hi]; rfl
theorem getD_at {xs : List Int} {j : Nat} (h : j < xs.length) : xs[j]? = some (xs.getD j 0) := by
  rw [List.getD_eq_getElem?_getD, List.getElem?_eq_getElem h]; rfl
theorem ixT {p : Addr} {xs : List V} {j : Nat} {v : V} {Q : VK} (h : SqT K H p xs) (hj : xs[j]? = some v) (q : Q v H) : rIx2 K (.ref p) (.int (j : Int)) H Q := .inr ⟨p, xs, j, v, rfl, rfl, h, atI_nat hj, q⟩
theorem ixL {p : Addr} {xs : List V} {j : Nat} {v : V} {Q : VK} (h : SqL K H p xs) (hj : xs[j]? = some v) (q : Q v H) : rIx2 K (.ref p) (.int (j : Int)) H Q := .inl ⟨p, xs, j, v, rfl, rfl, h, atI_nat hj, q⟩
theorem tab_row {v : V} {i : Nat} {Q : VK} (hS : Sh K H (tabD T) v) (hq : Quad T n) (hi : i < n) (q : ∀ b, SqT K H b ((T.getD i []).map V.int) → Q (.ref b) H) : rIx2 K v (.int (i : Int)) H Q := by
  obtain ⟨a, rs, rfl, ha, hl, g⟩ := hS.tab
  obtain ⟨row, e1, e2, e3⟩ := hq.get hi
  obtain ⟨b, hb, hs⟩ := g i row e1
  exact ixT ha hb (q b (by rw [e3]; exact hs))
theorem tab_at {σ : St} {t si sj : Nat} {v : V} {i j : Nat} {Q : VK} (ht : σ[t]? = some (some v)) (hi : σ[si]? = some (some (.int (i : Int)))) (hj : σ[sj]? = some (some (.int (j : Int)))) (hS : Sh K H (tabD T) v) (hq : Quad T n) (li : i < n) (lj : j < n)
    (q : Q (.int (at2 T i j)) H) : tOp (rIx2 K) (tOp (rIx2 K) (tVar t) (tVar si)) (tVar sj) σ H Q := by
  refine ⟨_, ht, _, hi, tab_row hS hq li fun b hb => ⟨_, hj, ixT hb ?_ q⟩⟩
  obtain ⟨row, e1, e2, e3⟩ := hq.get li
  rw [List.getElem?_map, getD_at (by rw [e3]; omega)]
  rfl
end
theorem same_of_x {acc : Addr} {H H2 : Hp} {o : HO} (hacc : H acc = none) (sx : SameX acc (upd H acc o) H2) : Same H H2 := fun b u e => sx b u (ne_of_none e hacc) (by rw [upd_ne (ne_of_none e hacc)]; exact e)
theorem Emits.mono {vars vars' : List Nat} {tb : TS} {acc : Addr} {σ : St} {H : Hp} {L : List V} (h : Emits vars tb acc σ H L) (hs : ∀ k ∈ vars, k ∈ vars') : Emits vars' tb acc σ H L :=
  fun D pre ha hz hd => h D pre ha hz fun σ' H' hl ag sx h2 => hd σ' H' hl (fun k hk => ag k fun z => hk (hs k z)) sx h2
theorem Emits.cast {vars : List Nat} {tb : TS} {acc : Addr} {σ : St} {H : Hp} {L L' : List V} (h : Emits vars tb acc σ H L) (e : L = L') : Emits vars tb acc σ H L' := e ▸ h
theorem comp_emitsD (vars : List Nat) (L : List V) {g : TG} {J : It} {tb : TS} {acc : Addr} {σ : St} {H : Hp} {D : Ends} (ha : H acc = none) (hz : L.length ≤ 1000000) (h : Emits vars (tLoop J g tb) acc σ (upd H acc (.lst [])) L)
    (q : ∀ σ' H', Same H H' → H' acc = some (.lst L) → D.nx σ' H') : tLoop J g tb D σ (upd H acc (.lst [])) :=
  h _ [] upd_same (by simpa using hz) fun σ' H' _ _ sx h2 => q σ' H' (same_of_x ha sx) (by simpa using h2)
theorem len_flatMap_le {α : Type} (f : Nat → List α) (c : Nat) : ∀ n, (∀ i, i < n → (f i).length ≤ c) → ((List.range n).flatMap f).length ≤ n * c
  | 0, _ => by simp
  | n + 1, h => by
    rw [flatMap_range_succ, List.length_append, Nat.add_mul, Nat.one_mul]
    have := len_flatMap_le f c n fun i hi => h i (by omega)
    have := h n (by omega)
    omega
theorem map_flatMap' {α β : Type} (g : α → β) (f : Nat → List α) (l : List Nat) : (l.flatMap f).map g = l.flatMap fun i => (f i).map g := by
  induction l with
  | nil => rfl
  | cons x r ih => rw [List.flatMap_cons, List.map_append, ih, List.flatMap_cons]
end L2
namespace L2
open PySem
section
variable {vars : List Nat} {tb : TS} {acc a : Addr} {σ : St} {H : Hp} {j : Nat} {D : Ends} {K : PySem.W.Frag}
theorem inv_range {lo : Int} {n : Nat} (R : Nat → List V → Hp → Prop) (hj : j ∈ vars) (hjl : j < σ.length) (h0 : R 0 [] (upd H acc (.lst []))) (ha : H acc = none)
    (h : ∀ i σ' H' L (D : Ends), i < n → σ'.length = σ.length → Agree vars σ σ' → σ'[j]? = some (some (.int (lo + (i : Int)))) → Same H H' → H' acc = some (.lst L) → R i L H' →
      (∀ σ'' H'' L', σ''.length = σ.length → Agree vars σ σ'' → Same H H'' → H'' acc = some (.lst L') → R (i + 1) L' H'' → D.nx σ'' H'') → tb D σ' H')
    (q : ∀ σ' H' L, Same H H' → H' acc = some (.lst L) → R n L H' → D.nx σ' H') : tLoop (Itr lo n) (gName j) tb D σ (upd H acc (.lst [])) := by
  refine for_range (lo := lo) (n := n) (g := gName j) (D := D) (fun i σ' H' => i ≤ n ∧ σ'.length = σ.length ∧ Agree vars σ σ' ∧ Same H H' ∧ ∃ L, H' acc = some (.lst L) ∧ R i L H') ⟨Nat.zero_le _, rfl, Agree.refl _ _, same_new ha _, [], upd_same, h0⟩ (fun i σ1 H1 hi ⟨_, hl1, ag1, sx1, L, h1, r1⟩ => ?_) fun σ1 H1 ⟨_, _, _, sm, L, h1, r1⟩ => q σ1 H1 L sm h1 r1
  exact h i (σ1.set j (some (.int (lo + (i : Int))))) H1 L _ hi (by rw [List.length_set]; exact hl1) (ag1.trans (Agree.set hj _)) (set_at (by omega)) sx1 h1 r1 fun σ2 H2 L' hl2 ag2 sm2 h2 r2 => ⟨hi, hl2, ag2, sm2, L', h2, r2⟩
theorem inv_list {xs : List V} (R : Nat → List V → Hp → Prop) (hj : j ∈ vars) (hjl : j < σ.length) (h0 : R 0 [] (upd H acc (.lst []))) (ha : H acc = none) (hs : ∀ i L H', Same H H' → R i L H' → SqL K H' a xs)
    (h : ∀ i x σ' H' L (D : Ends), xs[i]? = some x → σ'.length = σ.length → Agree vars σ σ' → σ'[j]? = some (some x) → Same H H' → H' acc = some (.lst L) → R i L H' →
      (∀ σ'' H'' L', σ''.length = σ.length → Agree vars σ σ'' → Same H H'' → H'' acc = some (.lst L') → R (i + 1) L' H'' → D.nx σ'' H'') → tb D σ' H')
    (q : ∀ σ' H' L, Same H H' → H' acc = some (.lst L) → R xs.length L H' → D.nx σ' H') : tLoop (Itl K a) (gName j) tb D σ (upd H acc (.lst [])) := by
  refine for_list (K := K) (a := a) (xs := xs) (g := gName j) (D := D) (fun i σ' H' => i ≤ xs.length ∧ σ'.length = σ.length ∧ Agree vars σ σ' ∧ Same H H' ∧ ∃ L, H' acc = some (.lst L) ∧ R i L H') ⟨Nat.zero_le _, rfl, Agree.refl _ _, same_new ha _, [], upd_same, h0⟩ (fun i σ1 H1 _ ⟨_, _, _, sm, L, _, r1⟩ => hs i L H1 sm r1) (fun i x σ1 H1 hx ⟨_, hl1, ag1, sx1, L, h1, r1⟩ => ?_) fun σ1 H1 ⟨_, _, _, sm, L, h1, r1⟩ => q σ1 H1 L sm h1 r1
  have hi : i < xs.length := (List.getElem?_eq_some_iff.mp hx).1
  exact h i x (σ1.set j (some x)) H1 L _ hx (by rw [List.length_set]; exact hl1) (ag1.trans (Agree.set hj _)) (set_at (by omega)) sx1 h1 r1 fun σ2 H2 L' hl2 ag2 sm2 h2 r2 => ⟨hi, hl2, ag2, sm2, L', h2, r2⟩
end
structure Mat (H : Hp) (F : Addr) (ls : List Addr) (M : List (List Int)) : Prop where
  top : H F = some (.lst (ls.map V.ref))
  len : ls.length = M.length
  row : ∀ (i : Nat) (l : Addr) (r : List Int), ls[i]? = some l → M[i]? = some r → H l = some (.lst (r.map V.int))
  nd : ls.Nodup
  out : F ∉ ls
theorem Mat.same {H H' : Hp} {F : Addr} {ls : List Addr} {M : List (List Int)} (m : Mat H F ls M) (e : Same H H') : Mat H' F ls M := ⟨e _ _ m.top, m.len, fun i l r a b => e _ _ (m.row i l r a b), m.nd, m.out⟩
theorem Mat.keep {H H' : Hp} {F : Addr} {ls : List Addr} {M : List (List Int)} (m : Mat H F ls M) (e : ∀ b o, (b = F ∨ b ∈ ls) → H b = some o → H' b = some o) : Mat H' F ls M :=
  ⟨e _ _ (.inl rfl) m.top, m.len, fun i l r a b => e _ _ (.inr (List.mem_of_getElem? a)) (m.row i l r a b), m.nd, m.out⟩
def put2 (M : List (List Int)) (i j : Nat) (v : Int) : List (List Int) := M.set i ((M.getD i []).set j v)
theorem put2_quad {M : List (List Int)} {n i j : Nat} {v : Int} (q : Quad M n) (hi : i < n) : Quad (put2 M i j v) n := by
  refine ⟨by unfold put2; rw [List.length_set]; exact q.len, fun r hr => ?_⟩
  unfold put2 at hr
  rcases List.mem_or_eq_of_mem_set hr with h | h
  · exact q.row r h
  · obtain ⟨row, e1, e2, e3⟩ := q.get hi
    rw [h, List.length_set, e3]; exact e2
theorem put2_at {M : List (List Int)} {n i j : Nat} {v : Int} (q : Quad M n) (hi : i < n) (hj : j < n) (a b : Nat) : at2 (put2 M i j v) a b = if a = i ∧ b = j then v else at2 M a b := by
  obtain ⟨row, e1, e2, e3⟩ := q.get hi
  unfold at2 put2
  by_cases ha : a = i
  · subst ha
    have : (M.set a ((M.getD a []).set j v)).getD a [] = (M.getD a []).set j v := by
      rw [List.getD_eq_getElem?_getD, List.getElem?_set_self (by rw [q.len]; exact hi)]; rfl
    rw [this, e3]
    by_cases hb : b = j
    · subst hb
      rw [if_pos ⟨rfl, rfl⟩, List.getD_eq_getElem?_getD, List.getElem?_set_self (by omega)]; rfl
    · rw [if_neg (fun z => hb z.2), List.getD_eq_getElem?_getD, List.getElem?_set_ne (Ne.symm hb), ← List.getD_eq_getElem?_getD]
  · have : (M.set i ((M.getD i []).set j v)).getD a [] = M.getD a [] := by
      rw [List.getD_eq_getElem?_getD, List.getElem?_set_ne (Ne.symm ha), ← List.getD_eq_getElem?_getD]
    rw [this, if_neg (fun z => ha z.1)]
theorem Mat.at {K : PySem.W.Frag} {H : Hp} {F : Addr} {ls : List Addr} {M : List (List Int)} {n i : Nat} (m : Mat H F ls M) (q : Quad M n) (hi : i < n) : ∃ l, ls[i]? = some l ∧ (ls.map V.ref)[i]? = some (.ref l) ∧ H l = some (.lst ((M.getD i []).map V.int)) := by
  obtain ⟨row, e1, e2, e3⟩ := q.get hi
  have hl : i < ls.length := by rw [m.len, q.len]; exact hi
  refine ⟨ls[i], List.getElem?_eq_getElem hl, by rw [List.getElem?_map, List.getElem?_eq_getElem hl]; rfl, ?_⟩
  rw [e3]
  exact m.row i _ row (List.getElem?_eq_getElem hl) e1
theorem Mat.put {H : Hp} {F : Addr} {ls : List Addr} {M : List (List Int)} {n i j : Nat} {v : Int} {l : Addr} (m : Mat H F ls M) (q : Quad M n) (hi : i < n) (hl : ls[i]? = some l) : Mat (upd H l (.lst (((M.getD i []).set j v).map V.int))) F ls (put2 M i j v) := by
  have hm : l ∈ ls := List.mem_of_getElem? hl
  have hF : F ≠ l := fun e => m.out (e ▸ hm)
  refine ⟨by rw [upd_ne hF]; exact m.top, by unfold put2; rw [List.length_set]; exact m.len, fun a b r h1 h2 => ?_, m.nd, m.out⟩
  by_cases ha : a = i
  · subst ha
    rw [hl] at h1
    cases h1
    rw [upd_same]
    unfold put2 at h2
    rw [List.getElem?_set_self (by rw [q.len]; exact hi)] at h2
    cases h2
    rfl
  · have hne : b ≠ l := by
      intro e
      subst e
      obtain ⟨i1, z1⟩ := List.getElem?_eq_some_iff.mp h1
      obtain ⟨i2, z2⟩ := List.getElem?_eq_some_iff.mp hl
      exact ha ((List.getElem_inj m.nd).mp (z1.trans z2.symm))
    rw [upd_ne hne]
    unfold put2 at h2
    rw [List.getElem?_set_ne (Ne.symm ha)] at h2
    exact m.row a b r h1 h2
theorem mat_at {K : PySem.W.Frag} {H : Hp} {F : Addr} {ls : List Addr} {M : List (List Int)} {n i j t si sj : Nat} {σ : St} {Q : VK} (m : Mat H F ls M) (q : Quad M n) (ht : σ[t]? = some (some (.ref F))) (hi : σ[si]? = some (some (.int (i : Int)))) (hj : σ[sj]? = some (some (.int (j : Int)))) (li : i < n) (lj : j < n)
    (h : Q (.int (at2 M i j)) H) : tOp (rIx2 K) (tOp (rIx2 K) (tVar t) (tVar si)) (tVar sj) σ H Q := by
  obtain ⟨l, h1, h2, h3⟩ := m.at (K := K) q li
  refine ⟨_, ht, _, hi, ixL (.of m.top) h2 ⟨_, hj, ixL (.of h3) ?_ h⟩⟩
  obtain ⟨row, e1, e2, e3⟩ := q.get li
  rw [List.getElem?_map, getD_at (by rw [e3]; omega)]
  rfl
theorem mat_set {K : PySem.W.Frag} {H : Hp} {F : Addr} {ls : List Addr} {M : List (List Int)} {n i j t si sj : Nat} {σ : St} {v : Int} {N : St → Hp → Prop} (m : Mat H F ls M) (q : Quad M n) (ht : σ[t]? = some (some (.ref F))) (hi : σ[si]? = some (some (.int (i : Int)))) (hj : σ[sj]? = some (some (.int (j : Int)))) (li : i < n) (lj : j < n)
    (h : ∀ l H', l ∈ ls → H' = upd H l (.lst (((M.getD i []).set j v).map V.int)) → Mat H' F ls (put2 M i j v) → N σ H') : gSub (tOp (rIx2 K) (tVar t) (tVar si)) (tVar sj) rSetL (.int v) σ H N := by
  obtain ⟨l, h1, h2, h3⟩ := m.at (K := K) q li
  obtain ⟨row, e1, e2, e3⟩ := q.get li
  refine ⟨_, ht, _, hi, ixL (.of m.top) h2 ⟨_, hj, l, _, (j : Int), j, rfl, rfl, h3, ?_, ?_⟩⟩
  rotate_left
  · rw [← List.map_set]
    exact h l _ (List.mem_of_getElem? h1) rfl (m.put q li h1)
  rw [List.length_map, e3, e2]
  unfold ixN
  rw [if_pos (by omega), if_pos (by omega), Int.toNat_natCast]
end L2
namespace L2
open PySem
theorem rd_freeze {K : PySem.W.Frag} {σ : St} {H : Hp} {t n : Nat} {F : Addr} {ls : List Addr} {M : List (List Int)} {Q : VK} (ht : σ[t]? = some (some (.ref F))) (m : Mat H F ls M) (q : Quad M n) (hn : n ≤ 100) (h : ∀ p H', Same H H' → Sh K H' (tabD M) (.ref p) → Q (.ref p) H') :
    tCB (rTuple K) (tCons (tComp [none] (iSeq K (tVar t)) (gName 0) [] fun acc => tEmit (tCB (rTuple K) (tCons (tVar 0) tNil)) acc) tNil) σ H Q := by
  refine ⟨_, ht, F, rfl, .inl ⟨⟨_, .of m.top⟩, fun acc hacc => ?_⟩⟩
  have hlen : (ls.map V.ref).length = n := by rw [List.length_map, m.len, q.len]
  refine inv_list (vars := [0]) (K := K) (a := F) (xs := ls.map V.ref) (fun i L H' => L.length = i ∧ ∀ (j : Nat) (row : List Int), j < i → M[j]? = some row → ∃ b, L[j]? = some (.ref b) ∧ H' b = some (.tup (row.map V.int))) (by decide) (by show 0 < 1; decide) ⟨rfl, fun j row hj => absurd hj (Nat.not_lt_zero _)⟩ hacc (fun i L H' sm _ => .of (sm _ _ m.top)) (fun i x σ1 H1 L D hx l1 ag1 s1 sm1 ha1 ⟨r1, r2⟩ hD => ?_) fun σ1 H1 L sm1 ha1 ⟨r1, r2⟩ => ?_
  · have hi : i < n := by rw [← hlen]; exact (List.getElem?_eq_some_iff.mp hx).1
    have hil : i < ls.length := by rw [m.len, q.len]; exact hi
    obtain ⟨row, e1, e2, e3⟩ := q.get hi
    have ex : x = .ref ls[i] := by
      rw [List.getElem?_map, List.getElem?_eq_getElem hil] at hx
      simpa using hx.symm
    subst ex
    have hrow := m.row i _ row (List.getElem?_eq_getElem hil) e1
    refine ⟨_, s1, ls[i], row.map V.int, rfl, .inl ⟨.of (sm1 _ _ hrow), fun p hp => ?_⟩⟩
    have hpa : p ≠ acc := fun e => by rw [e, ha1] at hp; cases hp
    refine ⟨L, by rw [upd_ne (Ne.symm hpa)]; exact ha1, Nat.lt_of_le_of_lt (show L.length ≤ 100 by omega) (by decide), ?_⟩
    refine hD σ1 _ (L ++ [.ref p]) l1 ag1 (fun b o e => ?_) upd_same ⟨by rw [List.length_append, r1]; rfl, fun j row' hj e => ?_⟩
    · have hb : b ≠ acc := ne_of_none e hacc
      rw [upd_ne hb, upd_ne (ne_of_none (sm1 _ _ e) hp)]
      exact sm1 _ _ e
    · by_cases hji : j < i
      · obtain ⟨b, g1, g2⟩ := r2 j row' hji e
        refine ⟨b, by rw [List.getElem?_append_left (by omega)]; exact g1, ?_⟩
        have hb : b ≠ acc := ne_of g2 ha1 (fun z => nomatch z)
        rw [upd_ne hb, upd_ne (ne_of_none g2 hp)]
        exact g2
      · have : j = i := by omega
        subst this
        rw [e1] at e
        cases e
        refine ⟨p, by rw [List.getElem?_append_right (by omega), r1]; simp, ?_⟩
        rw [upd_ne hpa]
        exact upd_same
  · refine ⟨acc, L, rfl, .inl ⟨.of ha1, fun p hp => ?_⟩⟩
    have sm2 : Same H (upd H1 p (.tup L)) := sm1.trans (same_new hp _)
    refine h p _ sm2 ⟨p, L, rfl, .of upd_same, ShL.of_rows (by rw [r1, hlen, q.len]) fun i row e => ?_⟩
    have hi : i < n := by rw [← q.len]; exact (List.getElem?_eq_some_iff.mp e).1
    obtain ⟨b, g1, g2⟩ := r2 i row (by omega) e
    exact ⟨b, g1, .of (by rw [upd_ne (ne_of_none g2 hp)]; exact g2)⟩
end L2
namespace L2
open PySem
section
variable {K : PySem.W.Frag} {H : Hp}
theorem ShL.append : ∀ {ds es : List Dt} {xs ys : List V}, ShL K H ds xs → ShL K H es ys → ShL K H (ds ++ es) (xs ++ ys)
  | [], es, xs, ys, h, h' => by rw [show xs = [] from h]; exact h'
  | d :: ds, es, _, ys, ⟨x, r, h1, h2, h3⟩, h' => ⟨x, r ++ ys, by rw [h1]; rfl, h2, ShL.append h3 h'⟩
theorem ShL.take : ∀ {ds : List Dt} {xs : List V} (n : Nat), ShL K H ds xs → ShL K H (ds.take n) (xs.take n)
  | _, _, 0, _ => by rw [List.take_zero, List.take_zero]; rfl
  | [], xs, n + 1, h => by rw [show xs = [] from h]; rfl
  | d :: ds, _, n + 1, ⟨x, r, h1, h2, h3⟩ => ⟨x, r.take n, by rw [h1]; rfl, h2, ShL.take n h3⟩
theorem ShL.drop : ∀ {ds : List Dt} {xs : List V} (n : Nat), ShL K H ds xs → ShL K H (ds.drop n) (xs.drop n)
  | _, _, 0, h => by rw [List.drop_zero, List.drop_zero]; exact h
  | [], xs, n + 1, h => by rw [show xs = [] from h]; rfl
  | d :: ds, _, n + 1, ⟨x, r, h1, h2, h3⟩ => by rw [h1, List.drop_succ_cons, List.drop_succ_cons]; exact ShL.drop n h3
end
theorem cut_ints (ns : List Int) (lo hi : Option Int) : ∃ ms : List Int, cutV (ns.map V.int) lo hi = ms.map V.int ∧ ms.length ≤ ns.length := by
  refine ⟨(ns.drop (HT.sIx ns.length 0 lo)).take (HT.sIx ns.length ns.length hi - HT.sIx ns.length 0 lo), ?_, ?_⟩
  · unfold cutV
    rw [List.length_map, List.map_take, List.map_drop]
  · rw [List.length_take, List.length_drop]; omega
end L2
namespace L2
open PySem
end L2
namespace L2
open PySem PySem.Spec PyProof.Rows
section
variable {X : Cx}
theorem getItem_tuple_all {prog : Program} {w : World} {A : Around} {E : Value → Shared → Prop} {s : Shared} {t sl : Addr} {items : Array Value} {vl vu : Value} {lo hi : Option Int} {Q : Value → Shared → Prop} (ht : IsTup s.heap t items) (hs : s.heap.IsSliceOf sl vl vu .none) (pl : IsPart vl lo) (pu : IsPart vu hi)
    (hw : HT.sIx items.size 0 lo = 0 ∧ HT.sIx items.size items.size hi = items.size) (h : Q (.ref t) s) : wpAny (model prog w) A (getItem (.ref t) (.ref sl)) Q E s := by
  obtain ⟨os, hos, hcs, hds⟩ := id hs
  have hTs : s.TypeIs (.ref sl) "slice" := ⟨os, hos, hcs⟩
  unfold getItem
  try with_reducible refine wpAny_holding ?_
  first | refine wpAny_bind (wpAny_pure ?_) | skip
  refine wpAny_bind (wpAny_sequenceKey ht.typeIs (by decide) ?_)
  refine wpAny_bind (wpAny_callSpecial?_slot (name := Str.ofString "__getitem__") ht.typeIs PyProof.Rows.slot_tuple_getitem
    (wpAny_call_entry PyProof.Rows.slot_tuple_getitem ht.typeIs entry_tuple_getitem ?_ (args_tuple_getitem _ _)))
  show wpAny _ _ (Builtin.Tuple.tupleItemsOf (.ref t) >>= _) _ _ s
  refine wpAny_bind (tupleItemsOf_ ht ?_)
  refine wpAny_bind (wpAny_typeOf hTs ?_)
  rw [if_pos (by decide)]
  refine wpAny_bind (HT.sliceApplied_gen hs pl pu ?_)
  rw [hw.1, hw.2]
  have hyes : ((((0 : Nat) : Int) == 0 && (1 : Int) == 1 && (items.size - 0) == items.size) = true) := by simp
  show wpAny _ _ (if (((0 : Nat) : Int) == 0 && (1 : Int) == 1 && (items.size - 0) == items.size) = true then _ else _) _ _ s
  rw [if_pos hyes]
  unfold Builtin.Tuple.tupleIsExact
  refine wpAny_bind (wpAny_bind (wpAny_typeOf ht.typeIs (wpAny_pure ?_)))
  rw [if_pos (show (Value.type "tuple" == Value.type "tuple") = true by rfl)]
  exact wpAny_bind (wpAny_rule (wpAny_pure ⟨_, rfl, wpAny_pure h⟩))
def rSlV (K : PySem.W.Frag) : V → Option Int → Option Int → Hp → VK → Prop := fun x lo hi H Q => ∃ a xs, x = .ref a ∧ SqT K H a xs ∧ ∀ p H', Same H H' → SqT K H' p (cutV xs lo hi) → Q (.ref p) H'
theorem sl_tupV : SlR X (rSlV X.K) := by
  intro pins s σ H x v vl vu lo hi sl Q I rx hs pl pu h
  obtain ⟨a, xs, rfl, hx, q⟩ := h
  by_cases hw : HT.sIx xs.length 0 lo = 0 ∧ HT.sIx xs.length xs.length hi = xs.length
  · obtain rfl : v = Value.ref a := rx
    obtain ⟨its, rv, p, hz⟩ := I.tuple hx
    have hl := rv.length
    have ec : cutV xs lo hi = xs := by unfold cutV; rw [hw.1, hw.2, List.drop_zero, Nat.sub_zero, List.take_length]
    refine ⟨"tuple", _, PyProof.Rows.slot_tuple_getitem.lookup, p.typeIs, ?_⟩
    refine getItem_tuple_all p hs pl pu (by simp only [List.size_toArray, ← hl]; exact hw) ?_
    exact ⟨.ref a, H, I, rfl, q a H (Same.refl H) (by rw [ec]; exact hx)⟩
  · exact sl_tup (X := X) pins s σ H (.ref a) v vl vu lo hi sl Q I rx hs pl pu ⟨a, xs, rfl, hx, hw, fun p hp => q p _ (same_new hp _) (.of upd_same)⟩
abbrev rSlU (K : PySem.W.Frag) : V → Option Int → Option Int → Hp → VK → Prop := fun x lo hi H Q => rSlL K x lo hi H Q ∨ rSlV K x lo hi H Q
theorem sl_uK {K : PySem.W.Frag} (hK : X.K = K) : SlR X (rSlU K) := by subst hK; exact sl_list.or sl_tupV
end
section
variable {prog : Program} {w : World} {A : Around} {E : Value → Shared → Prop} {s : Shared}
end
end L2
namespace L2
open PySem PySem.Spec PyProof.Rows
theorem IntsAre.len : ∀ {ns : List Int} {us : List Value}, IntsAre us ns → us.length = ns.length
  | [], _, h => by cases h; rfl
  | n :: ns, _, h => by
    cases h with
    | cons _ t h => rw [List.length_cons, List.length_cons, IntsAre.len h]
mutual
def toP : Dt → PyData
  | .non => .none
  | .bl b => .bool b
  | .int i => .int i
  | .str x => .str x
  | .tup ds => .tuple (toPs ds)
  | .lst ds => .list (toPs ds)
def toPs : List Dt → List PyData
  | [] => []
  | d :: ds => toP d :: toPs ds
end
mutual
theorem toP_dep : ∀ d, (toP d).depth = dep d
  | .non => rfl
  | .bl b => rfl
  | .int i => rfl
  | .str x => rfl
  | .tup ds => by show (PyData.tuple (toPs ds)).depth = _; unfold PyData.depth dep; rw [toPs_dep]
  | .lst ds => by show (PyData.list (toPs ds)).depth = _; unfold PyData.depth dep; rw [toPs_dep]
theorem toPs_dep : ∀ ds, PyData.depthAll (toPs ds) = depL ds
  | [] => by unfold toPs depL PyData.depthAll; rfl
  | d :: ds => by unfold toPs depL PyData.depthAll; rw [toP_dep, toPs_dep]
end
mutual
theorem toP_nodict : ∀ d, (toP d).hasDict = false
  | .non => by unfold toP PyData.hasDict; rfl
  | .bl b => by unfold toP PyData.hasDict; rfl
  | .int i => by unfold toP PyData.hasDict; rfl
  | .str x => by unfold toP PyData.hasDict; rfl
  | .tup ds => by unfold toP PyData.hasDict; exact toPs_nodict ds
  | .lst ds => by unfold toP PyData.hasDict; exact toPs_nodict ds
theorem toPs_nodict : ∀ ds, PyData.hasDictAll (toPs ds) = false
  | [] => by unfold toPs PyData.hasDictAll; rfl
  | d :: ds => by unfold toPs PyData.hasDictAll; rw [toP_nodict, toPs_nodict]; rfl
end
section
variable {X : Cx} {pins : List (Addr × Obj)} {σ : St} {H : Hp} {s : Shared}
mutual
theorem Inv.reads (I : Inv X pins σ H s) : ∀ {d : Dt} {x : V} {v : Value}, RelV x v → Sh X.K H d x → ∃ as, Reads s.heap v (toP d) as
  | .non, x, v, r, h => by obtain rfl : x = .non := h; obtain rfl : v = .none := r; exact ⟨_, .none⟩
  | .bl b, x, v, r, h => by obtain rfl : x = .bl b := h; obtain rfl : v = .bool b := r; exact ⟨_, .bool b⟩
  | .int i, x, v, r, h => by obtain rfl : x = .int i := h; obtain ⟨t, rfl⟩ := r; exact ⟨_, .int i t⟩
  | .str y, x, v, r, h => by obtain rfl : x = .str y := h; obtain ⟨t, rfl⟩ := r; exact ⟨_, .str y t⟩
  | .tup ds, x, v, r, ⟨a, xs, h1, h2, h3⟩ => by
    subst h1
    obtain rfl : v = Value.ref a := r
    obtain ⟨its, rv, ⟨o, ho, hc, n, hd⟩, _⟩ := I.tuple h2
    obtain ⟨as, ha⟩ := Inv.readsAll I rv h3
    exact ⟨_, .tuple ho hc hd ha⟩
  | .lst ds, x, v, r, ⟨a, xs, h1, h2, h3⟩ => by
    subst h1
    obtain rfl : v = Value.ref a := r
    obtain ⟨its, rv, pl, _⟩ := I.list h2
    obtain ⟨o, ho, hc, n, hd⟩ := pl.isList
    obtain ⟨as, ha⟩ := Inv.readsAll I rv h3
    exact ⟨_, .list ho hc hd ha⟩
theorem Inv.readsAll (I : Inv X pins σ H s) : ∀ {ds : List Dt} {xs : List V} {us : List Value}, Vals xs us → ShL X.K H ds xs → ∃ as, ReadsAll s.heap us (toPs ds) as
  | [], xs, us, r, h => by obtain rfl : xs = [] := h; cases r; exact ⟨_, .nil⟩
  | d :: ds, xs, us, r, ⟨x, t, h1, h2, h3⟩ => by
    subst h1
    cases r with
    | cons r1 r2 =>
      obtain ⟨as, h4⟩ := Inv.reads I r1 h2
      obtain ⟨bs, h5⟩ := Inv.readsAll I r2 h3
      exact ⟨_, .cons h4 h5⟩
end
end
def okR (d : Dt) : Prop := (toP d).showable = true ∧ (toP d).leavesShort 1930 = true ∧ (toP d).bulk ≤ 4000 ∧ dep d ≤ 100
def rRepr (K : PySem.W.Frag) : List V → Hp → VK → Prop := fun vs H Q => ∃ (d : Dt) (x : V), vs = [x] ∧ Sh K H d x ∧ okR d ∧ Q (.str (toP d).shown) H
theorem call_repr {X : Cx} {k : Nat} (hr : Room k X.A) : CallR X (.builtin "repr") (rRepr X.K) := by
  intro pins s σ H xs us Q I r ⟨d, x, e, hx, ⟨k1, k2, k3, k4⟩, q⟩
  subst e
  obtain ⟨u, rfl, ru⟩ := vals1 r
  obtain ⟨as, hR⟩ := I.reads ru hx
  have hsz : (toP d).shown.length ≤ sizeLine := by
    refine Nat.le_trans (PyData.shown_le_bulk 1930 (by decide) _ k2) (Nat.le_trans (Nat.add_le_add_right (Nat.mul_le_mul_left _ k3) _) (by decide))
  have fin : ∀ (h' : Heap) (t : Tok) (tk : Nat), (∀ b o, s.heap.get? b = some o → h'.get? b = some o) → EP X pins σ Q (.str (toP d).shown t) { s with heap := h', toks := tk } := fun h' t tk kp =>
    ⟨.str (toP d).shown, H, I.kept (t' := tk) kp, ⟨t, rfl⟩, q⟩
  cases u with
  | ref a =>
    exact repr_of_reads' hR k1 (PyData.noDict_hsm (toP_nodict d)) hr.gd (by rw [toP_dep]; have := hr.un; omega) (fun _ _ e => e) (fun h' u tk hk => fin h' u tk hk) hsz
  | none =>
    cases d <;> first | (cases hR; done) | skip
    exact P.repr_of_none (fin _ _ _ fun _ _ e => e)
  | bool b =>
    cases d <;> cases hR
    exact P.repr_of_bool (fin _ _ _ fun _ _ e => e)
  | int i t =>
    cases d <;> cases hR
    exact P.repr_of_int (by simpa [toP, PyData.showable] using k1) (fin _ _ _ fun _ _ e => e)
  | str y t =>
    cases d <;> cases hR
    exact P.repr_of_str (fin _ _ _ fun _ _ e => e) hsz
  | _ => cases d <;> cases hR
theorem call_reprK {X : Cx} {K : PySem.W.Frag} {k : Nat} (hK : X.K = K) (hr : Room k X.A) : CallR X (.builtin "repr") (rRepr K) := by subst hK; exact call_repr hr
end L2
namespace L2
open PySem PySem.Spec PyProof.Rows
def ItAt (b : Bool) (h : Heap) (it l : Addr) (i : Nat) : Prop := ∃ o, h.get? it = some o ∧ o.cls = .type (if b then "list_iterator" else "tuple_iterator") ∧ o.data = .fields #[.ref l, .int i 0]
def ObAt (b : Bool) (h : Heap) (l : Addr) (us : Array Value) : Prop := ∃ o, h.get? l = some o ∧ o.cls = .type (if b then "list" else "tuple") ∧ ∃ n, o.data = .seq us n
theorem ItAt.keep {b : Bool} {h h' : Heap} {it l : Addr} {i : Nat} (x : ItAt b h it l i) (e : ∀ o, h.get? it = some o → h'.get? it = some o) : ItAt b h' it l i := let ⟨o, ho, r⟩ := x; ⟨o, e _ ho, r⟩
theorem ObAt.keep {b : Bool} {h h' : Heap} {l : Addr} {us : Array Value} (x : ObAt b h l us) (e : ∀ o, h.get? l = some o → h'.get? l = some o) : ObAt b h' l us := let ⟨o, ho, r⟩ := x; ⟨o, e _ ho, r⟩
theorem ItAt.lt {b : Bool} {h : Heap} {it l : Addr} {i : Nat} (x : ItAt b h it l i) : it < h.objs.size := let ⟨_, ho, _⟩ := x; Heap.lt_size ho
section
variable {prog : Program} {w : World} {A : Around} {E : Value → Shared → Prop} {s : Shared}
theorem nextOf_tup_item {it t : Addr} {i : Nat} {us : Array Value} {x : Value} {Q : Value → Shared → Prop} (hit : s.heap.IsTupleIter it t i) (ht : s.heap.IsTuple t us) (hx : us[i]? = some x)
    (q : ∀ h', h'.IsTupleIter it t (i + 1) → Heap.SameBut it s.heap h' → Q x { s with heap := h' }) : wpAny (model prog w) A (Builtin.SmallTypes.nextOf (.ref it)) Q E s := by
  obtain ⟨ob, e1, e2, e3⟩ := id hit
  obtain ⟨ol, f1, _, nl, f2⟩ := ht
  unfold Builtin.SmallTypes.nextOf; refine wpAny_bind (wpAny_callSpecial?_slot (name := Str.ofString "__next__") hit.typeIs F.slot_tuple_iterator_next (wpAny_call_entry F.slot_tuple_iterator_next hit.typeIs F.entry_tuple_iterator_next ?g (F.args_tuple_iterator_next_1 _)))
  case g =>
    show wpAny _ _ (field (.ref it) 0 >>= _) _ _ s; refine wpAny_bind (wpAny_field e1 e3 (x := .ref t) rfl ?g)
    case g =>
      show wpAny _ _ (if (Value.ref t == Value.none) = true then _ else _) _ _ s; rw [if_neg (show ¬ ((Value.ref t == Value.none) = true) from Bool.false_ne_true)]
      show wpAny _ _ (field (.ref it) 1 >>= _) _ _ s; refine wpAny_bind (wpAny_field e1 e3 (x := .int i 0) rfl ?g)
      case g =>
        show wpAny _ _ (seqItems? (.ref t) >>= _) _ _ s; refine wpAny_bind (wpAny_seqItems f1 f2 ?g)
        case g =>
          simp only [Int.toNat_natCast, hx]; refine wpAny_bind (wpAny_setField e1 e3 (by simp) (wpAny_pure ⟨x, rfl, wpAny_pure (q _ ?g (Heap.SameBut.update ..))⟩))
          case g => exact ⟨_, Heap.get?_update_self _ e1 (Obj.isFreed_of_fields (Obj.data_mapFields e3 _)), (Obj.cls_mapFields ..).trans e2, by rw [Obj.data_mapFields e3]; simp [rawInt]⟩
theorem nextOf_tup_end {it t : Addr} {i : Nat} {us : Array Value} {Q : Value → Shared → Prop} (hh : A.handled = none) (hit : s.heap.IsTupleIter it t i) (ht : s.heap.IsTuple t us) (hx : us[i]? = none)
    (q : ∀ h' e, Heap.ExtBut it s.heap h' → (∃ o, h'.get? e = some o ∧ o.cls = .type "StopIteration") → E (.ref e) { s with heap := h' }) : wpAny (model prog w) A (Builtin.SmallTypes.nextOf (.ref it)) Q E s := by
  obtain ⟨ob, e1, e2, e3⟩ := id hit
  obtain ⟨ol, f1, _, nl, f2⟩ := ht
  unfold Builtin.SmallTypes.nextOf; refine wpAny_bind (wpAny_callSpecial?_slot (name := Str.ofString "__next__") hit.typeIs F.slot_tuple_iterator_next (wpAny_call_entry F.slot_tuple_iterator_next hit.typeIs F.entry_tuple_iterator_next ?g (F.args_tuple_iterator_next_1 _)))
  case g =>
    show wpAny _ _ (field (.ref it) 0 >>= _) _ _ s; refine wpAny_bind (wpAny_field e1 e3 (x := .ref t) rfl ?g)
    case g =>
      show wpAny _ _ (if (Value.ref t == Value.none) = true then _ else _) _ _ s; rw [if_neg (show ¬ ((Value.ref t == Value.none) = true) from Bool.false_ne_true)]
      show wpAny _ _ (field (.ref it) 1 >>= _) _ _ s; refine wpAny_bind (wpAny_field e1 e3 (x := .int i 0) rfl ?g)
      case g =>
        show wpAny _ _ (seqItems? (.ref t) >>= _) _ _ s; refine wpAny_bind (wpAny_seqItems f1 f2 ?g)
        case g =>
          simp only [Int.toNat_natCast, hx]; refine wpAny_bind (wpAny_rule (wpAny_bind (wpAny_setField e1 e3 (by simp) ?g)))
          case g =>
            show wpAny _ _ (newExc (.type "StopIteration") [] >>= _) _ _ _; refine wpAny_bind ?g
            case g =>
              simp only [newExc, newTuple]; refine wpAny_bind (wpAny_newObj_type ?g (by size_fits))
              case g =>
                refine wpAny_bind (m := firstArgMember _ _) (wpAny_of_eq (a := Value.none) (by first | rfl | (simp only [firstArgMember]; rfl)) ?g)
                case g =>
                  refine wpAny_newObj_type ?g (by size_fits)
                  case g =>
                    simp only [raiseNew]; refine wpAny_bind (wpAny_handled ?g)
                    case g =>
                      first | rw [show A.in1.handled = none from hh] | rw [hh]
                      exact wpAny_bind (wpAny_pure (wpAny_throw (q _ _ (((Heap.SameBut.update ..).extBut.push _).push _) ⟨_, Heap.get?_push_size _ rfl, rfl⟩)))
theorem next_src {b : Bool} {it l : Addr} {i : Nat} {us : Array Value} {x : Value} {Q : Value → Shared → Prop} (hit : ItAt b s.heap it l i) (ho : ObAt b s.heap l us) (hx : us[i]? = some x)
    (q : ∀ h', ItAt b h' it l (i + 1) → Heap.SameBut it s.heap h' → Q x { s with heap := h' }) : wpAny (model prog w) A (Builtin.SmallTypes.nextOf (.ref it)) Q E s := by
  cases b with
  | true => exact wpAny_nextOf_list_item (l := l) (i := i) (items := us) hit ho hx q
  | false => exact nextOf_tup_item (t := l) (i := i) (us := us) hit ho hx q
theorem end_src {b : Bool} {it l : Addr} {i : Nat} {us : Array Value} {Q : Value → Shared → Prop} (hh : A.handled = none) (hit : ItAt b s.heap it l i) (ho : ObAt b s.heap l us) (hx : us[i]? = none)
    (q : ∀ h' e, Heap.ExtBut it s.heap h' → (∃ o, h'.get? e = some o ∧ o.cls = .type "StopIteration") → E (.ref e) { s with heap := h' }) : wpAny (model prog w) A (Builtin.SmallTypes.nextOf (.ref it)) Q E s := by
  cases b with
  | true => exact wpAny_nextOf_list_end (l := l) (i := i) (items := us) hh hit ho hx q
  | false => exact nextOf_tup_end (t := l) (i := i) (us := us) hh hit ho hx q
abbrev itO (b : Bool) (l : Addr) : Obj := { cls := .type (if b then "list_iterator" else "tuple_iterator"), data := .fields #[.ref l, .int 0 0] }
theorem iter_src {b : Bool} {l : Addr} {us : Array Value} {Q : Value → Shared → Prop} (ho : ObAt b s.heap l us) (q : Q (.ref s.heap.objs.size) { s with heap := s.heap.push (itO b l) }) : wpAny (model prog w) A (pyIter (.ref l)) Q E s := by
  cases b with
  | true => exact wpAny_pyIter_list (show s.heap.IsList l us from ho) q
  | false => exact wpAny_pyIter_tuple (show s.heap.IsTuple l us from ho) q
structure ZA (z ti to i1 i2 : Addr) : Prop where
  a1 : ti ≠ z
  a2 : to ≠ z
  a3 : i1 ≠ z
  a4 : i2 ≠ z
  a5 : ti ≠ to
  a6 : ti ≠ i1
  a7 : ti ≠ i2
  a8 : to ≠ i1
  a9 : to ≠ i2
  a10 : i1 ≠ i2
def ZP (z to i1 i2 c : Addr) : Prop := c ≠ z ∧ c ≠ to ∧ c ≠ i1 ∧ c ≠ i2
theorem zip_item {b1 b2 : Bool} {z ti to i1 i2 l1 l2 : Addr} {k1 k2 : Nat} {xs ys : Array Value} {x y u v : Value} {Q : Value → Shared → Prop} (D : ZA z ti to i1 i2) (D1 : ZP z to i1 i2 l1) (D2 : ZP z to i1 i2 l2) (hz : IsZip s.heap z ti to .none) (hti : IsPair s.heap ti (.ref i1) (.ref i2)) (hto : IsPair s.heap to u v)
    (h1 : ItAt b1 s.heap i1 l1 k1) (h2 : ItAt b2 s.heap i2 l2 k2) (o1 : ObAt b1 s.heap l1 xs) (o2 : ObAt b2 s.heap l2 ys) (hx : xs[k1]? = some x) (hy : ys[k2]? = some y)
    (q : ∀ h', IsZip h' z ti to (rawInt s.heap.objs.size) → IsPair h' to x y → ItAt b1 h' i1 l1 (k1 + 1) → ItAt b2 h' i2 l2 (k2 + 1) → IsPair h' s.heap.objs.size x y → h'.objs.size = s.heap.objs.size + 1 → (∀ c o, ZP z to i1 i2 c → s.heap.get? c = some o → h'.get? c = some o) → Q (.ref s.heap.objs.size) { s with heap := h' }) :
    wpAny (model prog w) A (Builtin.«zip.__next__» ⟨[.ref z], []⟩) (fun fin s' => ∃ r, fin = .done (.ret r) ∧ Q r s') E s := by
  show wpAny _ _ (field (.ref z) 2 >>= _) _ _ _; refine wpAny_bind (wpAny_field hz rfl (x := .bool false) rfl ?g)
  case g =>
  show wpAny _ _ (field (.ref z) 3 >>= _) _ _ _; refine wpAny_bind (wpAny_field hz rfl (x := .ref ti) rfl (wpAny_bind (wpAny_seqItems hti rfl ?g)))
  case g =>
  show wpAny _ _ (Builtin.SmallTypes.ownedTupleIsFree (.ref z) >>= _) _ _ _; unfold Builtin.SmallTypes.ownedTupleIsFree; refine wpAny_bind (wpAny_bind (wpAny_field hz rfl (x := .none) rfl (wpAny_pure ?g)))
  case g =>
  simp only [if_true]; refine wpAny_bind (wpAny_rule (wpAny_bind (wpAny_field hz rfl (x := .ref to) rfl (wpAny_bind (wpAny_setField_rec hz (by simp) fun H1 z1 s1 => ?g)))))
  case g =>
  replace z1 : IsZip H1 z ti to .ellipsis := z1
  refine wpAny_bind ?g
  case g =>
  simp only [List.zipIdx_cons, List.zipIdx_nil, List.forIn_cons, List.forIn_nil]; refine wpAny_bind (wpAny_bind (wpAny_onRaise ?g))
  case g =>
  show wpAny _ _ (Builtin.SmallTypes.nextOf (.ref i1) >>= _) _ _ _; refine wpAny_bind (next_src (b := b1) (h1.keep fun o e => s1.extBut _ _ D.a3 e) (o1.keep fun o e => s1.extBut _ _ D1.1 e) hx fun H2 t1 s2 => wpAny_pure ?g)
  case g =>
  have p2 : IsPair H2 to u v := s2.extBut _ _ D.a8 (s1.extBut _ _ D.a2 hto)
  refine wpAny_bind (wpAny_seqItems p2 rfl (wpAny_bind (wpAny_updateSeq_pair p2 fun H3 p3 s3 => ?g)))
  case g =>
  replace p3 : IsPair H3 to x v := p3
  refine wpAny_bind (wpAny_letGo (wpAny_pure (wpAny_bind (wpAny_bind (wpAny_onRaise ?g)))))
  case g =>
  show wpAny _ _ (Builtin.SmallTypes.nextOf (.ref i2) >>= _) _ _ _
  refine wpAny_bind (next_src (b := b2) (h2.keep fun o e => s3.extBut _ _ D.a9.symm (s2.extBut _ _ D.a10.symm (s1.extBut _ _ D.a4 e))) (o2.keep fun o e => s3.extBut _ _ D2.2.1 (s2.extBut _ _ D2.2.2.1 (s1.extBut _ _ D2.1 e))) hy fun H4 t2 s4 => wpAny_pure ?g)
  case g =>
  have p4 : IsPair H4 to x v := s4.extBut _ _ D.a9 p3
  refine wpAny_bind (wpAny_seqItems p4 rfl (wpAny_bind (wpAny_updateSeq_pair p4 fun H5 p5 s5 => ?g)))
  case g =>
  replace p5 : IsPair H5 to x y := p5
  refine wpAny_bind (wpAny_letGo (wpAny_pure (wpAny_pure (wpAny_bind (wpAny_seqItems p5 rfl (wpAny_bind (wpAny_newTuple ?g)))))))
  case g =>
  have sz : H5.objs.size = s.heap.objs.size := by rw [s5.1, s4.1, s3.1, s2.1, s1.1]
  have z5 : IsZip H5 z ti to .ellipsis := s5.extBut _ _ D.a2.symm (s4.extBut _ _ D.a4.symm (s3.extBut _ _ D.a2.symm (s2.extBut _ _ D.a3.symm z1)))
  have k5 : ∀ c o, ZP z to i1 i2 c → s.heap.get? c = some o → H5.get? c = some o := fun c o n e => s5.extBut _ _ n.2.1 (s4.extBut _ _ n.2.2.2 (s3.extBut _ _ n.2.1 (s2.extBut _ _ n.2.2.1 (s1.extBut _ _ n.1 e))))
  have t15 : ItAt b1 H5 i1 l1 (k1 + 1) := t1.keep fun o e => s5.extBut _ _ D.a8.symm (s4.extBut _ _ D.a10 (s3.extBut _ _ D.a8.symm e))
  have t25 : ItAt b2 H5 i2 l2 (k2 + 1) := t2.keep fun o e => s5.extBut _ _ D.a9.symm e
  have lz : z < H5.objs.size := Heap.lt_size z5
  show wpAny _ _ (Builtin.SmallTypes.ownedTupleHandOut (.ref z) (.ref H5.objs.size) >>= _) _ _ _; unfold Builtin.SmallTypes.ownedTupleHandOut
  have z6 : IsZip (H5.push { cls := .type "tuple", data := .seq #[x, y] }) z ti to .ellipsis := Heap.get?_push_of_some _ z5
  refine wpAny_bind (wpAny_bind (wpAny_setField_rec z6 (by simp) fun H7 z7 s7 => ?g))
  case g =>
  replace z7 : IsZip H7 z ti to (rawInt H5.objs.size) := z7
  refine wpAny_setField_rec z7 (by simp) fun H8 z8 s8 => ?g
  case g =>
  replace z8 : IsZip H8 z ti to (rawInt H5.objs.size) := z8
  have up : ∀ c o, c ≠ z → H5.get? c = some o → H8.get? c = some o := fun c o n e => s8.extBut _ _ n (s7.extBut _ _ n (Heap.get?_push_of_some _ e))
  have p8 : IsPair H8 H5.objs.size x y := s8.extBut _ _ (Nat.ne_of_gt lz) (s7.extBut _ _ (Nat.ne_of_gt lz) (Heap.get?_push_size _ rfl))
  have n8 : H8.objs.size = H5.objs.size + 1 := by rw [s8.1, s7.1, Heap.size_push]
  rw [sz] at z8 p8 n8
  refine wpAny_pure ⟨_, rfl, (?g : Q (.ref H5.objs.size) _)⟩
  case g =>
  rw [sz]
  exact q H8 z8 (up _ _ D.a2 p5) (t15.keep fun o e => up _ o D.a3 e) (t25.keep fun o e => up _ o D.a4 e) p8 n8 fun c o n e => up c o n.1 (k5 c o n e)
theorem zip_end {b1 b2 : Bool} {z ti to i1 i2 l1 l2 : Addr} {k1 k2 : Nat} {xs ys : Array Value} {u v : Value} {Q : Fin → Shared → Prop} (hh : A.handled = none) (D : ZA z ti to i1 i2) (D1 : ZP z to i1 i2 l1) (D2 : ZP z to i1 i2 l2) (hz : IsZip s.heap z ti to .none) (hti : IsPair s.heap ti (.ref i1) (.ref i2)) (hto : IsPair s.heap to u v)
    (h1 : ItAt b1 s.heap i1 l1 k1) (h2 : ItAt b2 s.heap i2 l2 k2) (o1 : ObAt b1 s.heap l1 xs) (o2 : ObAt b2 s.heap l2 ys) (hend : xs[k1]? = none ∨ ys[k2]? = none)
    (q : ∀ h' e, (∀ c o, ZP z to i1 i2 c → s.heap.get? c = some o → h'.get? c = some o) → (∃ o, h'.get? e = some o ∧ o.cls = .type "StopIteration") → E (.ref e) { s with heap := h' }) :
    wpAny (model prog w) A (Builtin.«zip.__next__» ⟨[.ref z], []⟩) Q E s := by
  show wpAny _ _ (field (.ref z) 2 >>= _) _ _ _; refine wpAny_bind (wpAny_field hz rfl (x := .bool false) rfl ?g)
  case g =>
  show wpAny _ _ (field (.ref z) 3 >>= _) _ _ _; refine wpAny_bind (wpAny_field hz rfl (x := .ref ti) rfl (wpAny_bind (wpAny_seqItems hti rfl ?g)))
  case g =>
  show wpAny _ _ (Builtin.SmallTypes.ownedTupleIsFree (.ref z) >>= _) _ _ _; unfold Builtin.SmallTypes.ownedTupleIsFree; refine wpAny_bind (wpAny_bind (wpAny_field hz rfl (x := .none) rfl (wpAny_pure ?g)))
  case g =>
  simp only [if_true]; refine wpAny_bind (wpAny_rule (wpAny_bind (wpAny_field hz rfl (x := .ref to) rfl (wpAny_bind (wpAny_setField_rec hz (by simp) fun H1 z1 s1 => ?g)))))
  case g =>
  replace z1 : IsZip H1 z ti to .ellipsis := z1
  refine wpAny_bind ?g
  case g =>
  simp only [List.zipIdx_cons, List.zipIdx_nil, List.forIn_cons, List.forIn_nil]; refine wpAny_bind (wpAny_bind (wpAny_onRaise ?g))
  case g =>
  show wpAny _ _ (Builtin.SmallTypes.nextOf (.ref i1) >>= _) _ _ _
  cases hx : xs[k1]? with
  | none =>
    refine wpAny_bind (end_src (b := b1) hh (h1.keep fun o e => s1.extBut _ _ D.a3 e) (o1.keep fun o e => s1.extBut _ _ D1.1 e) hx fun H2 e s2 ⟨oe, e1, e2⟩ => ?g)
    case g =>
    have z2 : IsZip H2 z ti to .ellipsis := s2 _ _ D.a3.symm z1
    have ne : e ≠ z := fun x => by subst x; rw [z2] at e1; cases e1; simp at e2
    exact wpAny_setField_rec z2 (by simp) fun H3 _ s3 => q H3 e (fun c o n x => s3.extBut _ _ n.1 (s2 _ _ n.2.2.1 (s1.extBut _ _ n.1 x))) ⟨oe, s3.extBut _ _ ne e1, e2⟩
  | some x =>
    have hy : ys[k2]? = none := hend.resolve_left (by rw [hx]; exact fun h => by cases h)
    refine wpAny_bind (next_src (b := b1) (h1.keep fun o e => s1.extBut _ _ D.a3 e) (o1.keep fun o e => s1.extBut _ _ D1.1 e) hx fun H2 t1 s2 => wpAny_pure ?g)
    case g =>
    have p2 : IsPair H2 to u v := s2.extBut _ _ D.a8 (s1.extBut _ _ D.a2 hto)
    refine wpAny_bind (wpAny_seqItems p2 rfl (wpAny_bind (wpAny_updateSeq_pair p2 fun H3 p3 s3 => ?g)))
    case g =>
    refine wpAny_bind (wpAny_letGo (wpAny_pure (wpAny_bind (wpAny_bind (wpAny_onRaise ?g)))))
    case g =>
    show wpAny _ _ (Builtin.SmallTypes.nextOf (.ref i2) >>= _) _ _ _
    refine wpAny_bind (end_src (b := b2) hh (h2.keep fun o e => s3.extBut _ _ D.a9.symm (s2.extBut _ _ D.a10.symm (s1.extBut _ _ D.a4 e))) (o2.keep fun o e => s3.extBut _ _ D2.2.1 (s2.extBut _ _ D2.2.2.1 (s1.extBut _ _ D2.1 e))) hy fun H4 e s4 ⟨oe, e1, e2⟩ => ?g)
    case g =>
    have z4 : IsZip H4 z ti to .ellipsis := s4 _ _ D.a4.symm (s3.extBut _ _ D.a2.symm (s2.extBut _ _ D.a3.symm z1))
    have ne : e ≠ z := fun x => by subst x; rw [z4] at e1; cases e1; simp at e2
    exact wpAny_setField_rec z4 (by simp) fun H5 _ s5 => q H5 e (fun c o n x => s5.extBut _ _ n.1 (s4 _ _ n.2.2.2 (s3.extBut _ _ n.2.1 (s2.extBut _ _ n.2.2.1 (s1.extBut _ _ n.1 x))))) ⟨oe, s5.extBut _ _ ne e1, e2⟩
end
end L2
namespace L2
open PySem PySem.Spec PyProof.Rows
section
variable {X : Cx} {pins : List (Addr × Obj)} {σ : St} {H : Hp} {s : Shared} {h' : Heap}
theorem Inv.turnedL {t' : Nat} {ch : List Addr} (I : Inv X pins σ H s) (hf : ∀ b ∈ ch, FpOk X pins H b) (k : ∀ b o, b ∉ ch → s.heap.get? b = some o → h'.get? b = some o) : Inv X pins σ H { s with heap := h', toks := t' } := by
  have nit : ∀ b u, H b = some u → b ∉ ch := fun b u e z => by rw [(hf b z).1] at e; cases e
  refine I.step (g' := s.gens) (d' := s.drawn) (ch := ch) (fun b hb => ?_) (fun b o _ _ hc e _ => k b o hc e) (fun b o _ _ hc e _ => ⟨o.slots, k b o hc e⟩) (fun _ _ _ _ n => n) (fun b o hc e => ⟨o, k b o hc e⟩) (fun _ _ e => e) (fun _ _ _ e => e) (fun b ps e => ⟨#[], by rw [e]; simp⟩) (fun m hm => ?_) (fun b u e => ?_) I.bare
  · obtain ⟨_, f1, _, f3, f4, f5⟩ := hf b hb
    exact ⟨f3, f1, f4, f5⟩
  · obtain ⟨o, es, ep, ho, r⟩ := hm
    exact ⟨o, es, ep, k _ o (fun z => (hf _ z).2.1 rfl) ho, r⟩
  · refine (I.hok b u e).stay (fun c v hc q => k c v ?_ q) (fun _ q => q) fun _ _ q => q
    rcases hc with z | z
    · rw [z]; exact nit b u e
    · exact nit c _ z
end
def SqB (b : Bool) (K : PySem.W.Frag) (H : Hp) (l : Addr) (xs : List V) : Prop := match b with | true => SqL K H l xs | false => SqT K H l xs
section
variable {X : Cx} {pins : List (Addr × Obj)} {σ : St} {H : Hp} {s : Shared}
theorem Inv.obAt {b : Bool} {l : Addr} {xs : List V} (I : Inv X pins σ H s) (h : SqB b X.K H l xs) : ∃ its : List Value, Vals xs its ∧ ObAt b s.heap l its.toArray ∧ xs.length ≤ sizeLine := by
  cases b with
  | true =>
    obtain ⟨its, rv, pl, hz⟩ := I.list h
    obtain ⟨o, ho, hc, n, hd⟩ := pl.isList
    exact ⟨its, rv, ⟨o, ho, hc, n, hd⟩, hz⟩
  | false =>
    obtain ⟨its, rv, ⟨o, ho, hc, n, hd⟩, hz⟩ := I.tuple h
    exact ⟨its, rv, ⟨o, ho, hc, n, hd⟩, hz⟩
theorem Inv.sqB_inj {b : Bool} {l : Addr} {xs ys : List V} (I : Inv X pins σ H s) (h : SqB b X.K H l xs) (h' : SqB b X.K H l ys) : xs = ys := by
  cases b with
  | true => exact I.list_inj h h'
  | false => exact I.tuple_inj h h'
end
def Itz (K : PySem.W.Frag) (b1 b2 : Bool) (l1 l2 : Addr) : It :=
  ⟨fun i H => ∃ xs ys x y, SqB b1 K H l1 xs ∧ SqB b2 K H l2 ys ∧ xs[i]? = some x ∧ ys[i]? = some y,
   fun i H v H' => ∃ p x y, v = .ref p ∧ H p = none ∧ H' = upd H p (.tup [x, y]) ∧ (∀ xs, SqB b1 K H l1 xs → xs[i]? = some x) ∧ ∀ ys, SqB b2 K H l2 ys → ys[i]? = some y,
   fun i H => ∃ xs ys, SqB b1 K H l1 xs ∧ SqB b2 K H l2 ys ∧ (xs.length ≤ i ∨ ys.length ≤ i)⟩
def zTn (b1 b2 : Bool) (z ti to i1 i2 l1 l2 : Addr) (i : Nat) (h : Heap) : Prop := IsZip h z ti to .none ∧ IsPair h ti (.ref i1) (.ref i2) ∧ (∃ u v, IsPair h to u v) ∧ ItAt b1 h i1 l1 i ∧ ItAt b2 h i2 l2 i
theorem turn_zip {P : Program} {w : World} {K : PySem.W.Frag} {es : List Expr} {k : Nat} {pos : Pos} {b1 b2 : Bool} {z ti to i1 i2 l1 l2 : Addr} (D : ZA z ti to i1 i2) (D1 : ZP z to i1 i2 l1) (D2 : ZP z to i1 i2 l2) :
    Turn P w K (.Tuple es k pos) (Itz K b1 b2 l1 l2) [z, ti, to, i1, i2] z (zTn b1 b2 z ti to i1 i2 l1 l2) where
  mem := by simp
  obj := fun i h ⟨h1, h2, ⟨u, v, h3⟩, ⟨o4, h4, _, d4⟩, ⟨o5, h5, _, d5⟩⟩ b hb => by
    simp only [List.mem_cons, List.not_mem_nil, or_false] at hb
    rcases hb with rfl | rfl | rfl | rfl | rfl
    · exact ⟨_, h1, fun v q => by cases q⟩
    · exact ⟨_, h2, fun v q => by cases q⟩
    · exact ⟨_, h3, fun v q => by cases q⟩
    · exact ⟨_, h4, fun v q => by rw [d4] at q; cases q⟩
    · exact ⟨_, h5, fun v q => by rw [d5] at q; cases q⟩
  keep := fun i h h' ⟨h1, h2, ⟨u, v, h3⟩, h4, h5⟩ kp => ⟨kp z (by simp) _ h1, kp ti (by simp) _ h2, ⟨u, v, kp to (by simp) _ h3⟩, h4.keep fun o e => kp i1 (by simp) o e, h5.keep fun o e => kp i2 (by simp) o e⟩
  item := by
    intro X hP hw hK hc i pins s σ H E I hf st hg
    subst hP hw hK
    obtain ⟨h1, h2, ⟨u0, v0, h3⟩, h4, h5⟩ := st
    obtain ⟨xs, ys, x, y, q1, q2, hx, hy⟩ := hg
    obtain ⟨us, r1, o1, z1⟩ := I.obAt q1
    obtain ⟨vs, r2, o2, z2⟩ := I.obAt q2
    obtain ⟨ux, hux, rx⟩ := r1.get hx
    obtain ⟨uy, huy, ry⟩ := r2.get hy
    have hT : s.TypeIs (.ref z) "zip" := ⟨_, h1, rfl⟩
    unfold pyNext
    refine wpAny_bind (wpAny_attempt (wpAny_callSpecial?_slot (name := Str.ofString "__next__") hT F.slot_zip_next (wpAny_call_entry F.slot_zip_next hT F.entry_zip_next (zip_item D D1 D2 h1 h2 h3 h4 h5 o1 o2 (by simpa using hux) (by simpa using huy) fun h' g1 g2 g3 g4 g5 g6 kp => wpAny_pure ⟨_, rfl, ?g⟩) (F.args_zip_next_1 _))))
    case g =>
    refine wpAny_letOwnedTupleGo_zip (s := { s with heap := h' }) g1 fun h2' g1' sb => ?g
    case g =>
    have lt : ∀ b ∈ [z, ti, to, i1, i2], b < s.heap.objs.size := fun b hb => by
      simp only [List.mem_cons, List.not_mem_nil, or_false] at hb
      rcases hb with rfl | rfl | rfl | rfl | rfl
      · exact Heap.lt_size h1
      · exact Heap.lt_size h2
      · exact Heap.lt_size h3
      · exact h4.lt
      · exact h5.lt
    have kb : ∀ c o, c ∉ [z, ti, to, i1, i2] → s.heap.get? c = some o → h'.get? c = some o := fun c o n e => kp c o ⟨fun q => n (by simp [q]), fun q => n (by simp [q]), fun q => n (by simp [q]), fun q => n (by simp [q])⟩ e
    have hn : H s.heap.objs.size = none := I.hok.fresh (Nat.le_refl _)
    have I1 : Inv X pins σ (upd H s.heap.objs.size (.tup [x, y])) { s with heap := s.heap.push { cls := .type "tuple", data := .seq #[ux, uy] } } :=
      I.laid (t' := s.toks) (fun b o e => Heap.get?_push_of_some _ e) (Nat.le_refl _) (show ObjOk X.prog X.w _ _ _ (.tup [x, y]) from ⟨show 2 ≤ sizeLine by decide, [ux, uy], .cons rx (.cons ry .nil), TupN.new _ _⟩)
    have hf1 : ∀ b ∈ [z, ti, to, i1, i2], FpOk X pins (upd H s.heap.objs.size (.tup [x, y])) b := fun b hb => by
      obtain ⟨f0, f⟩ := hf b hb
      exact ⟨by rw [upd_ne (Nat.ne_of_lt (lt b hb))]; exact f0, f⟩
    have I2 : Inv X pins σ (upd H s.heap.objs.size (.tup [x, y])) { s with heap := h' } := I1.turnedL (t' := s.toks) hf1 fun b o nb e => by
      rcases Heap.get?_push_cases e with ⟨eb, eo⟩ | e
      · subst eb; subst eo
        exact g5
      · exact kb b o nb e
    have I3 : Inv X pins σ (upd H s.heap.objs.size (.tup [x, y])) { s with heap := h2' } := I2.turnedL (t' := s.toks) hf1 fun b o nb e => sb.extBut _ _ (fun q => nb (by simp [q])) e
    exact ⟨.ref s.heap.objs.size, _, I3, rfl, ⟨_, x, y, rfl, hn, rfl, fun xs' e => by rw [I.sqB_inj e q1]; exact hx, fun ys' e => by rw [I.sqB_inj e q2]; exact hy⟩,
      ⟨g1', sb.extBut _ _ D.a1 (kp _ _ ⟨D.a1, D.a5, D.a6, D.a7⟩ h2), ⟨_, _, sb.extBut _ _ D.a2 g2⟩, g3.keep fun o e => sb.extBut _ _ D.a3 e, g4.keep fun o e => sb.extBut _ _ D.a4 e⟩, fun b hb => (hf1 b hb).1⟩
  done := by
    intro X hP hw hK hc i pins s σ H E I hf st hg
    subst hP hw hK
    obtain ⟨h1, h2, ⟨u0, v0, h3⟩, h4, h5⟩ := st
    obtain ⟨xs, ys, q1, q2, hl⟩ := hg
    obtain ⟨us, r1, o1, z1⟩ := I.obAt q1
    obtain ⟨vs, r2, o2, z2⟩ := I.obAt q2
    have l1' := r1.length
    have l2' := r2.length
    have hT : s.TypeIs (.ref z) "zip" := ⟨_, h1, rfl⟩
    unfold pyNext
    refine wpAny_bind (wpAny_attempt (wpAny_callSpecial?_slot (name := Str.ofString "__next__") hT F.slot_zip_next (wpAny_call_entry F.slot_zip_next hT F.entry_zip_next (zip_end (I.ok.hd hc) D D1 D2 h1 h2 h3 h4 h5 o1 o2 (hl.elim (fun h => .inl (by simp; omega)) fun h => .inr (by simp; omega)) fun h' e kp ⟨o, e1, e2⟩ => ?g) (F.args_zip_next_1 _))))
    case g =>
    refine wpAny_bind (wpAny_isInstance (T := "StopIteration") (b := true) ⟨o, e1, e2⟩ isSubtype_stop (wpAny_pure ⟨rfl, ?g⟩))
    case g =>
    exact I.turnedL (t' := s.toks) hf fun c o n e => kp c o ⟨fun q => n (by simp [q]), fun q => n (by simp [q]), fun q => n (by simp [q]), fun q => n (by simp [q])⟩ e
  self := fun _ _ _ _ _ st q => wpAny_pyIter_zip st.1 q
abbrev zH1 (h : Heap) (b1 : Bool) (l1 : Addr) : Heap := h.push (itO b1 l1)
abbrev zH2 (h : Heap) (b1 b2 : Bool) (l1 l2 : Addr) : Heap := (zH1 h b1 l1).push (itO b2 l2)
abbrev zH3 (h : Heap) (b1 b2 : Bool) (l1 l2 : Addr) : Heap := (zH2 h b1 b2 l1 l2).push { cls := .type "tuple", data := .seq #[.ref h.objs.size, .ref (zH1 h b1 l1).objs.size] }
abbrev zH4 (h : Heap) (b1 b2 : Bool) (l1 l2 : Addr) : Heap := (zH3 h b1 b2 l1 l2).push { cls := .type "tuple", data := .seq #[.none, .none] }
abbrev zH5 (h : Heap) (b1 b2 : Bool) (l1 l2 : Addr) : Heap := (zH4 h b1 b2 l1 l2).push { cls := .type "zip", data := .fields #[.none, .bool false, .bool false, .ref (zH2 h b1 b2 l1 l2).objs.size, .ref (zH3 h b1 b2 l1 l2).objs.size] }
theorem ObAt.push {b : Bool} {h : Heap} {l : Addr} {us : Array Value} (x : ObAt b h l us) (o : Obj) : ObAt b (h.push o) l us := x.keep fun _ e => Heap.get?_push_of_some _ e
theorem zip_new (b1 b2 : Bool) (l1 l2 : Addr) (xs ys : Array Value) :
    Meets (Builtin.«zip.__new__» ⟨[.type "zip", .ref l1, .ref l2], []⟩) (fun _ R s => ObAt b1 s.heap l1 xs ∧ ObAt b2 s.heap l2 ys ∧ R (.ok (.ret (.ref (zH4 s.heap b1 b2 l1 l2).objs.size))) { s with heap := zH5 s.heap b1 b2 l1 l2 }) :=
  .of_wp fun prog w A R s h => by
    obtain ⟨hp, g, d, tk, os⟩ := s; obtain ⟨m1, m2, q⟩ := h
    have hsub := sub_zip; have n1 : ObAt b1 (Shared.heap ⟨hp, g, d, tk, os⟩) l1 xs := m1
    have n2 : ObAt b2 (Shared.heap ⟨hp.push (itO b1 l1), g, d, tk, os⟩) l2 ys := ObAt.push m2 _
    wp_walk using iter_src n1, iter_src n2
    exact ⟨_, rfl, q⟩
theorem zip_made {prog : Program} {w : World} {A : Around} {E : Value → Shared → Prop} {s : Shared} {b1 b2 : Bool} {l1 l2 : Addr} {xs ys : Array Value} {Q : Value → Shared → Prop} (o1 : ObAt b1 s.heap l1 xs) (o2 : ObAt b2 s.heap l2 ys)
    (q : ∀ h', zTn b1 b2 (s.heap.objs.size + 4) (s.heap.objs.size + 2) (s.heap.objs.size + 3) s.heap.objs.size (s.heap.objs.size + 1) l1 l2 0 h' → (∀ c o, s.heap.get? c = some o → h'.get? c = some o) → Q (.ref (s.heap.objs.size + 4)) { s with heap := h' }) :
    wpAny (model prog w) A (call (.type "zip") [.ref l1, .ref l2]) Q E s := by
  refine callType_new F.called_zip (by decide) (F.typeCall_zip_2 _ _) (F.newCall_zip_2 _ _) (fun ob => F.args_object_init_3 ob _ _) F.entry_zip_new (zip_new b1 b2 l1 l2 xs ys) ⟨o1, o2, ?g⟩
  case g =>
  have z1 : (zH1 s.heap b1 l1).objs.size = s.heap.objs.size + 1 := Heap.size_push ..
  have z2 : (zH2 s.heap b1 b2 l1 l2).objs.size = s.heap.objs.size + 2 := by rw [Heap.size_push, z1]
  have z3 : (zH3 s.heap b1 b2 l1 l2).objs.size = s.heap.objs.size + 3 := by rw [Heap.size_push, z2]
  have z4 : (zH4 s.heap b1 b2 l1 l2).objs.size = s.heap.objs.size + 4 := by rw [Heap.size_push, z3]
  have g5 : (zH5 s.heap b1 b2 l1 l2).get? (zH4 s.heap b1 b2 l1 l2).objs.size = some _ := Heap.get?_push_size _ rfl
  have g4 : (zH5 s.heap b1 b2 l1 l2).get? (zH3 s.heap b1 b2 l1 l2).objs.size = some _ := Heap.get?_push_of_some _ (Heap.get?_push_size _ rfl)
  have g3 : (zH5 s.heap b1 b2 l1 l2).get? (zH2 s.heap b1 b2 l1 l2).objs.size = some _ := Heap.get?_push_of_some _ (Heap.get?_push_of_some _ (Heap.get?_push_size _ rfl))
  have g2 : (zH5 s.heap b1 b2 l1 l2).get? (zH1 s.heap b1 l1).objs.size = some _ := Heap.get?_push_of_some _ (Heap.get?_push_of_some _ (Heap.get?_push_of_some _ (Heap.get?_push_size _ rfl)))
  have g1 : (zH5 s.heap b1 b2 l1 l2).get? s.heap.objs.size = some _ := Heap.get?_push_of_some _ (Heap.get?_push_of_some _ (Heap.get?_push_of_some _ (Heap.get?_push_of_some _ (Heap.get?_push_size _ rfl))))
  rw [z2, z3, z4] at g5; rw [z1, z2] at g3; rw [z3] at g4; rw [z1] at g2
  show _ ∧ _
  rw [z4]
  exact ⟨⟨_, g5, rfl⟩, q _ ⟨g5, g3, ⟨_, _, g4⟩, ⟨_, g1, rfl, rfl⟩, ⟨_, g2, rfl, rfl⟩⟩ fun c o x => Heap.get?_push_of_some _ (Heap.get?_push_of_some _ (Heap.get?_push_of_some _ (Heap.get?_push_of_some _ (Heap.get?_push_of_some _ x))))⟩
def iZip (K : PySem.W.Frag) (ta : TA) : TI := fun σ H R => ta σ H fun vs H1 => ∃ l1 l2 b1 b2, vs = [.ref l1, .ref l2] ∧ (∃ xs, SqB b1 K H1 l1 xs) ∧ (∃ ys, SqB b2 K H1 l2 ys) ∧ R (Itz K b1 b2 l1 l2) H1
theorem za_new (n : Nat) : ZA (n + 4) (n + 2) (n + 3) n (n + 1) := by
  constructor <;> (intro h; replace h : (_ : Nat) = _ := h; omega)
theorem zp_new {n l : Nat} (h : l < n) : ZP (n + 4) (n + 3) n (n + 1) l :=
  ⟨Nat.ne_of_lt (Nat.lt_of_lt_of_le h (Nat.le_add_right _ _)), Nat.ne_of_lt (Nat.lt_of_lt_of_le h (Nat.le_add_right _ _)), Nat.ne_of_lt h, Nat.ne_of_lt (Nat.lt_of_lt_of_le h (Nat.le_add_right _ _))⟩
theorem bt_zip : bootBuiltins "zip" = some (.type "zip") := by decide +kernel
theorem bt_repr : bootBuiltins "repr" = some (.builtin "repr") := by decide +kernel
theorem pi_zip {X : Cx} {es : List Expr} {k : Nat} {po : Pos} {a b : Expr} {ta : TA} {p pos : Pos} (hg : Gl X "zip") (hm : X.mg "zip" = none) (ha : PA X [a, b] ta) (hs : starEach [a, b] X.env = [(false, eval a X.env), (false, eval b X.env)] := by rfl) (hs2 : starEach [b] X.env = [(false, eval b X.env)] := by rfl) :
    PI X (.Tuple es k po) (.Call (.Name "zip" p) [a, b] [] pos) (iZip X.K ta) := by
  intro pins s σ H R I h
  refine Call_ (ld_blt I hg hm bt_zip (PyProof.Rows.callWith_type1 (thn (ha pos pins s σ H _ I h) fun us s1 ⟨vs, H1, I1, r1, q1⟩ => ?g) (by rw [hs, hs2]) (by rw [hs2]; rfl)))
  case g =>
  obtain ⟨l1, l2, b1, b2, e, ⟨xs, q2⟩, ⟨ys, q3⟩, q⟩ := q1
  subst e
  obtain ⟨u1, u2, rfl, e1, e2⟩ := vals2 r1
  obtain rfl : u1 = Value.ref l1 := e1
  obtain rfl : u2 = Value.ref l2 := e2
  obtain ⟨x1, v1, o1, _⟩ := I1.obAt q2
  obtain ⟨x2, v2, o2, _⟩ := I1.obAt q3
  have a1 : l1 < s1.heap.objs.size := let ⟨_, e, _⟩ := o1; Heap.lt_size e
  have a2 : l2 < s1.heap.objs.size := let ⟨_, e, _⟩ := o2; Heap.lt_size e
  refine zip_made o1 o2 fun h' zt kp => wpAny_pyIter_zip (s := { s1 with heap := h' }) zt.1 ?g
  case g =>
  refine ⟨_, [s1.heap.objs.size + 4, s1.heap.objs.size + 2, s1.heap.objs.size + 3, s1.heap.objs.size, s1.heap.objs.size + 1], _, _, H1, rfl, I1.kept (t' := s1.toks) kp, turn_zip (za_new _) (zp_new a1) (zp_new a2), zt, fun b hb => ?g, q⟩
  case g =>
  have lb : s1.heap.objs.size ≤ b := by
    simp only [List.mem_cons, List.not_mem_nil, or_false] at hb
    rcases hb with rfl | rfl | rfl | rfl | rfl <;> first | exact Nat.le_add_right _ _ | exact Nat.le_refl _
  exact I1.fpOk lb (I1.hok.fresh lb)
theorem pi_zipK {X : Cx} {K : PySem.W.Frag} {es : List Expr} {k : Nat} {po : Pos} {a b : Expr} {ta : TA} {p pos : Pos} (hK : X.K = K) (hg : Gl X "zip") (hm : X.mg "zip" = none) (ha : PA X [a, b] ta) (hs : starEach [a, b] X.env = [(false, eval a X.env), (false, eval b X.env)] := by rfl) (hs2 : starEach [b] X.env = [(false, eval b X.env)] := by rfl) :
    PI X (.Tuple es k po) (.Call (.Name "zip" p) [a, b] [] pos) (iZip K ta) := by subst hK; exact pi_zip hg hm ha hs hs2
theorem for_zip {K : PySem.W.Frag} {b1 b2 : Bool} {l1 l2 : Addr} {xs ys : List V} {g : TG} {tb : TS} {D : Ends} {σ : St} {H : Hp} (hlen : ys.length = xs.length) (Pv : Nat → St → Hp → Prop) (h0 : Pv 0 σ H) (hl : ∀ i σ H, i ≤ xs.length → Pv i σ H → SqB b1 K H l1 xs ∧ SqB b2 K H l2 ys)
    (hs : ∀ i x y σ H p, xs[i]? = some x → ys[i]? = some y → H p = none → Pv i σ H → g (.ref p) σ (upd H p (.tup [x, y])) fun σ2 H2 => tb { D with nx := Pv (i + 1), ct := Pv (i + 1), bk := D.nx } σ2 H2) (hd : ∀ σ H, Pv xs.length σ H → D.nx σ H) :
    tLoop (Itz K b1 b2 l1 l2) g tb D σ H := by
  refine ⟨fun i m σ H => m = xs.length - i ∧ i ≤ xs.length ∧ Pv i σ H, ⟨xs.length, by simp, Nat.zero_le _, h0⟩, ?g⟩
  case g =>
  rintro i m σ H ⟨rfl, hi, p⟩
  obtain ⟨q1, q2⟩ := hl i σ H hi p
  by_cases hlt : i < xs.length
  · refine .inr ⟨⟨xs, ys, xs[i], ys[i]'(by omega), q1, q2, by simp [hlt], by simp [show i < ys.length by omega]⟩, Pv (i + 1), fun σ' H' p' => ⟨xs.length - (i + 1), by omega, rfl, hlt, p'⟩, fun v H' ⟨a, x, y, e1, e2, e3, e4, e5⟩ => ?g⟩
    case g =>
    subst e1; subst e3
    exact hs i x y σ H a (e4 xs q1) (e5 ys q2) e2 p
  · obtain rfl : i = xs.length := by omega
    exact .inl ⟨⟨xs, ys, q1, q2, .inl (Nat.le_refl _)⟩, hd σ H p⟩
structure Blt2 (mg : Str → Option Value) : Prop extends Blt mg where
  zip : mg "zip" = none
  repr : mg "repr" = none
  enumerate : mg "enumerate" = none
  reversed : mg "reversed" = none
  str : mg "str" = none
end L2
namespace L2
open PySem PySem.Spec PyProof.Rows
section
variable {prog : Program} {w : World} {A : Around} {E : Value → Shared → Prop} {s : Shared}
theorem applied_rev {sl : Addr} {t : Tok} {n : Nat} {Q : Int × Int × Nat → Shared → Prop} (hs : s.heap.IsSliceOf sl .none .none (.int (-1) t)) (h : Q ((n : Int) - 1, -1, n) s) : wpAny (model prog w) A (Builtin.Slice.sliceApplied (.ref sl) (pure (n : Int))) Q E s := by
  obtain ⟨os, e1, e2, e3⟩ := id hs
  unfold Builtin.Slice.sliceApplied Builtin.Slice.sliceFields; refine wpAny_bind (wpAny_bind (wpAny_field e1 e3 (x := .none) rfl (wpAny_bind (wpAny_field e1 e3 (x := .none) rfl (wpAny_bind (wpAny_field e1 e3 (x := .int (-1) t) rfl (wpAny_pure ?g)))))))
  case g =>
  refine wpAny_bind (HT.slicePart_ (IsPart.int (-1) t) ?g)
  case g =>
  show wpAny _ _ (if ((-1 : Int) == 0) = true then _ else _) _ _ s; rw [if_neg (by decide)]
  refine wpAny_bind (HT.slicePart_ IsPart.none (wpAny_bind (HT.slicePart_ IsPart.none (wpAny_bind (wpAny_pure ?g)))))
  case g =>
  have ea : Builtin.Slice.sliceAdjust none none (-1) (n : Int) = ((n : Int) - 1, -1) := by
    unfold Builtin.Slice.sliceAdjust
    simp
  have ep : Builtin.Slice.slicePlaces ((n : Int) - 1) (-1) (-1) = n := by
    unfold Builtin.Slice.slicePlaces
    rw [if_neg (by decide)]
    by_cases h0 : (n : Int) - 1 > -1
    · rw [if_pos h0]; simp
    · rw [if_neg h0]; simp; omega
  show wpAny _ _ (match Builtin.Slice.sliceAdjust none none (-1) (n : Int) with | (lo, hi) => pure (lo, (-1 : Int), Builtin.Slice.slicePlaces lo hi (-1))) _ _ s
  rw [ea]
  show wpAny _ _ (pure ((n : Int) - 1, (-1 : Int), Builtin.Slice.slicePlaces ((n : Int) - 1) (-1) (-1))) _ _ s
  rw [ep]
  exact wpAny_pure h
theorem pick_rev (us : List Value) : ((List.range us.length).filterMap fun (k : Nat) => us.toArray[((us.length : Int) - 1 + (k : Int) * (-1)).toNat]?) = us.reverse := by
  have e : ∀ k ∈ List.range us.length, us.toArray[((us.length : Int) - 1 + (k : Int) * (-1)).toNat]? = us.reverse[k]? := fun k hk => by
    have hk' : k < us.length := List.mem_range.mp hk
    rw [List.getElem?_reverse hk', List.getElem?_toArray]
    congr 1
    omega
  have e2 : ∀ L : List Nat, (∀ k ∈ L, us.toArray[((us.length : Int) - 1 + (k : Int) * (-1)).toNat]? = us.reverse[k]?) → (L.filterMap fun (k : Nat) => us.toArray[((us.length : Int) - 1 + (k : Int) * (-1)).toNat]?) = L.filterMap fun k => us.reverse[k]? := by
    intro L
    induction L with
    | nil => intro _; rfl
    | cons k L ih =>
      intro h
      rw [List.filterMap_cons, List.filterMap_cons, h k (by simp), ih fun j hj => h j (by simp [hj])]
  rw [e2 _ e]
  have hr : us.length = us.reverse.length := (List.length_reverse).symm
  rw [hr]
  generalize us.reverse = vs
  clear e e2 hr
  induction vs with
  | nil => rfl
  | cons v vs ih =>
    rw [List.length_cons, List.range_succ_eq_map, List.filterMap_cons, List.filterMap_map]
    show v :: _ = v :: vs
    congr 1
theorem getItem_rev {t sl : Addr} {us : List Value} {tk : Tok} {Q : Value → Shared → Prop} (ht : IsTup s.heap t us.toArray) (hs : s.heap.IsSliceOf sl .none .none (.int (-1) tk)) (hz : us.length ≤ sizeLine)
    (h : Q (.ref s.heap.objs.size) { s with heap := s.heap.push { cls := .type "tuple", data := .seq us.reverse.toArray } }) : wpAny (model prog w) A (getItem (.ref t) (.ref sl)) Q E s := by
  obtain ⟨os, e1, e2, e3⟩ := id hs
  have hok : sizeOk (.seq us.reverse.toArray) := by show us.reverse.toArray.size ≤ sizeLine; rw [List.size_toArray, List.length_reverse]; exact hz
  unfold getItem; try with_reducible refine wpAny_holding ?_
  first | refine wpAny_bind (wpAny_pure ?_) | skip
  refine wpAny_bind (wpAny_sequenceKey ht.typeIs (by decide) (wpAny_bind (wpAny_callSpecial?_slot (name := Str.ofString "__getitem__") ht.typeIs PyProof.Rows.slot_tuple_getitem (wpAny_call_entry PyProof.Rows.slot_tuple_getitem ht.typeIs entry_tuple_getitem ?g (args_tuple_getitem _ _)))))
  case g =>
  show wpAny _ _ (Builtin.Tuple.tupleItemsOf (.ref t) >>= _) _ _ s; refine wpAny_bind (tupleItemsOf_ ht (wpAny_bind (wpAny_typeOf (T := "slice") ⟨os, e1, e2⟩ ?g)))
  case g =>
  rw [if_pos (by decide)]; refine wpAny_bind (applied_rev (n := us.toArray.size) hs ?g)
  case g =>
  have no : ¬ ((((us.toArray.size : Int) - 1) == 0 && (-1 : Int) == 1 && us.toArray.size == us.toArray.size) = true) := by simp
  show wpAny _ _ (if (((us.toArray.size : Int) - 1) == 0 && (-1 : Int) == 1 && us.toArray.size == us.toArray.size) = true then _ else _) _ _ s
  rw [if_neg no]
  rw [show ((List.range us.toArray.size).filterMap fun (k : Nat) => us.toArray[((us.toArray.size : Int) - 1 + (k : Int) * (-1)).toNat]?) = us.reverse by rw [List.size_toArray]; exact pick_rev us]
  first
    | exact wpAny_bind (m := Builtin.Tuple.tupleExact _) (wpAny_newObj_type (wpAny_pure ⟨_, rfl, wpAny_pure h⟩) hok)
    | exact wpAny_bind (m := Builtin.Tuple.tupleExact _) (wpAny_newObj_type (wpAny_bind (wpAny_pure (wpAny_pure ⟨_, rfl, wpAny_pure h⟩))) hok)
    | exact wpAny_bind (wpAny_bind (m := Builtin.Tuple.tupleExact _) (wpAny_newObj_type (wpAny_pure (wpAny_pure ⟨_, rfl, wpAny_pure h⟩)) hok))
    | exact wpAny_bind (wpAny_bind (m := Builtin.Tuple.tupleExact _) (wpAny_newObj_type (wpAny_pure ⟨_, rfl, wpAny_pure h⟩) hok))
end
theorem Vals.rev : ∀ {xs : List V} {us : List Value}, Vals xs us → Vals xs.reverse us.reverse
  | _, _, .nil => .nil
  | _, _, .cons r t => by
    rw [List.reverse_cons, List.reverse_cons]
    exact Vals.append (Vals.rev t) (.cons r .nil)
def tRev (K : PySem.W.Frag) (te : TE) : TE := fun σ H Q => te σ H fun x H1 => ∃ a xs, x = .ref a ∧ SqT K H1 a xs ∧ ∀ p, H1 p = none → Q (.ref p) (upd H1 p (.tup xs.reverse))
theorem pe_rev {X : Cx} {e : Expr} {te : TE} {p1 p2 p3 pos : Pos} {k : Nat} (he : PE X e te) : PE X (.Subscript e (.Slice none none (some (.UnaryOp .USub (.Constant (.int 1) k p1) p3)) p2) pos) (tRev X.K te) := by
  intro pins s σ H Q I h
  refine Subscript_ (thn (he pins s σ H _ I h) fun v s1 ⟨x, H1, I1, r1, q1⟩ => ?g)
  case g =>
  obtain ⟨a, xs, rfl, hx, q⟩ := q1
  obtain rfl : v = Value.ref a := r1
  refine wpAny_Slice ?g
  case g =>
  rw [evalPart_none]
  refine wpAny_pure (wpAny_pure ?g)
  case g =>
  rw [evalPart_some]
  refine thn ((pe_un un_neg pe_int : PE X (.UnaryOp .USub (.Constant (.int 1) k p1) p3) (tUn yNeg (tC (.int 1)))) pins s1 σ H1 (fun x H' => x = .int (-1) ∧ H' = H1) I1 ⟨1, rfl, rfl, rfl⟩) fun u s2 ⟨y, H2, I2, r2, q2⟩ => ?g
  case g =>
  obtain ⟨rfl, rfl⟩ := q2
  obtain ⟨t, rfl⟩ := r2
  obtain ⟨its, rv, pt, hz⟩ := I2.tuple hx
  have hl := rv.length
  have I4 : Inv X pins σ H2 { s2 with heap := s2.heap.push { cls := .type "slice", data := .fields #[.none, .none, .int (-1) t] } } := I2.kept (t' := s2.toks) fun b ob q => Heap.get?_push_of_some _ q
  obtain ⟨its', rv', pt', _⟩ := I4.tuple hx
  have hl' := rv'.length
  show wpAny (model X.prog X.w) X.A (subscriptTail e (.Slice none none (some (.UnaryOp .USub (.Constant (.int 1) k p1) p3)) p2) (.ref a) (.ref s2.heap.objs.size)) (EP X pins σ Q) X.xe { s2 with heap := s2.heap.push { cls := .type "slice", data := .fields #[.none, .none, .int (-1) t] } }
  refine tail_any (ops := [.ref a, .ref s2.heap.objs.size]) pt'.typeIs PyProof.Rows.slot_tuple_getitem.lookup (getItem_rev pt' (Heap.IsSliceOf.new ..) (by omega) ?g) (by with_unfolding_all rfl)
  case g =>
  refine ⟨.ref _, _, I4.laid (t' := s2.toks) (o := .tup xs.reverse) (fun b ob q => Heap.get?_push_of_some _ q) (Nat.le_refl _) ?g, rfl, q _ (I4.hok.fresh (Nat.le_refl _))⟩
  case g => exact ⟨by rw [List.length_reverse]; exact hz, _, Vals.rev rv', TupN.new _ _⟩
theorem pe_revK {X : Cx} {K : PySem.W.Frag} {e : Expr} {te : TE} {p1 p2 p3 pos : Pos} {k : Nat} (hK : X.K = K) (he : PE X e te) : PE X (.Subscript e (.Slice none none (some (.UnaryOp .USub (.Constant (.int 1) k p1) p3)) p2) pos) (tRev K te) := by subst hK; exact pe_rev he
theorem pe_bmK {X : Cx} {K : PySem.W.Frag} {o e : Expr} {es : List Expr} {to : TE} {t : TA} {name : Str} {apos cpos : Pos} {T id : String} {r : V → List V → Hp → VK → Prop} (hK : X.K = K) (pa : PlainAttrs T) (slot : Slot T name id) (hty : typeOf (.builtin id) = pure (.type "method_descriptor")) (hm : MtM X id r) (ho : PE X o to) (ha : PA X (e :: es) t)
    (b1 : attributeBase o name X.env (eval o X.env) = eval o X.env := by rfl)
    (b2 : ((backTo cpos (starEach (e :: es) X.env)).all (fun x => !x.1) && (backToKw cpos (keywordEach [] X.env)).all (fun x => x.1.isSome) && decide ((e :: es).length + ([] : List Keyword).length + (if ([] : List Keyword).isEmpty then 0 else 1) < 30)) = true := by rfl)
    (b3 : (apos.endLine == cpos.line) = true := by rfl) (b4 : starEach (e :: es) X.env = (false, eval e X.env) :: starEach es X.env := by rfl) (b5 : (backTo cpos (starEach es X.env)).any (·.1) = false := by rfl) :
    PE X (.Call (.Attribute o name apos) (e :: es) [] cpos) (tBM K T r to t) := by subst hK; exact pe_bm pa slot hty hm ho ha b1 b2 b3 b4 b5
end L2
namespace L2
open PySem PySem.Spec PyProof.Rows
theorem extend_tuple (l : Addr) (items : Array Value) (n : Nat) (b : Addr) (dd : Option Addr) (ss : Array (Option Value)) (items2 : Array Value) (n2 : Nat) (hs0 : ¬(!items.isEmpty && Builtin.List.listTooLong (items.size + items2.size)) = true) (hs1 : items.size ≤ sizeLine) (hs2 : items.size + items2.size ≤ sizeLine + 1) :
    Meets (Builtin.«list.extend» ⟨[.ref l, .ref b], []⟩) (fun _ R s => s.heap.get? l = some { cls := .type "list", dict := none, data := .seq items n, slots := #[] } ∧ s.heap.get? b = some { cls := .type "tuple", dict := dd, data := .seq items2 n2, slots := ss } ∧ R (.ok (.ret Value.none)) { s with heap := s.heap.update l (Obj.mapSeq fun x => x ++ items2), toks := s.toks }) :=
  .of_wp fun prog w A R s h => by
    obtain ⟨s1, s2, s3, s4, s5⟩ := s
    obtain ⟨gl, gb, h⟩ := h
    have f2 := AutoSeq1.sub_tuple_tuple
    have f3 := AutoSeq1.sub_list_list
    have f4 := AutoSeq1.sub_tuple_list
    have f5 := AutoSeq1.sub_list_tuple
    have gz : (items ++ items2).size ≤ sizeLine + 1 := by rw [Array.size_append]; exact hs2
    wp_walk using (wpAny_updateSeq gl rfl (hz := hs1) (_hz' := gz)), AutoSeq1.wpAny_loadPart' gl, AutoSeq1.wpAny_loadPart' gb
    exact ⟨_, rfl, h⟩
def rExtendT (K : PySem.W.Frag) : V → List V → Hp → VK → Prop := fun x vs H Q => ∃ l b xs zs, x = .ref l ∧ vs = [.ref b] ∧ H l = some (.lst xs) ∧ SqT K H b zs ∧ xs.length + zs.length ≤ sizeLine ∧ Q .non (upd H l (.lst (xs ++ zs)))
theorem mt_extendT {X : Cx} {K : PySem.W.Frag} (hK : X.K = K) : MtM X "list.extend" (rExtendT K) := by
  subst hK
  intro pins s σ H x vs v us Q I rx rv h
  obtain ⟨l, b, xs, zs, rfl, rfl, hH, hB, hz, q⟩ := h
  cases rx
  obtain ⟨u, rfl, ru⟩ := rv.one
  cases ru
  obtain ⟨z, its, n, r, hl, e⟩ := I.lstM hH
  obtain ⟨its2, r2, ⟨o, e2, hc, n2, hd⟩, z2⟩ := I.tuple hB
  obtain ⟨oc, od, odt, osl⟩ := o
  subst hc hd
  have hl2 := r2.length
  have hsz : its.toArray.size + its2.toArray.size ≤ sizeLine := by rw [List.size_toArray, List.size_toArray]; omega
  have hlong : ¬ (!its.toArray.isEmpty && Builtin.List.listTooLong (its.toArray.size + its2.toArray.size)) = true := by
    rw [notLongL hsz, Bool.and_false]
    exact Bool.false_ne_true
  refine call_meets F.slot_list_extend ⟨_, e, rfl⟩ F.entry_list_extend (F.args_list_extend_2 _ _)
    (extend_tuple l its.toArray n b od osl its2.toArray n2 hlong (by rw [List.size_toArray]; omega) (by omega)) ⟨e, e2, ?_⟩
  refine ⟨.non, _, I.lset (its' := its ++ its2) hH e (by simp) (r.append r2) ?_, rfl, q⟩
  rw [List.length_append]
  omega
abbrev rExtendA (K : PySem.W.Frag) : V → List V → Hp → VK → Prop := fun x vs H Q => rExtend x vs H Q ∨ rExtendT K x vs H Q
theorem mt_extendA {X : Cx} {K : PySem.W.Frag} (hK : X.K = K) : MtM X "list.extend" (rExtendA K) := by
  intro pins s σ H x vs v us Q I rx rv h
  rcases h with h | h
  · exact mt_extend pins s σ H x vs v us Q I rx rv h
  · exact mt_extendT hK pins s σ H x vs v us Q I rx rv h
end L2
namespace L2
open PySem
def natV (p : Nat) : V := .int (p : Int)
theorem natV_map (ps : List Nat) : ps.map natV = (ps.map fun p : Nat => (p : Int)).map V.int := by rw [List.map_map]; rfl
theorem iteT' {c : Bool} {A B : Prop} (e : c = true) (h : A) : if c = true then A else B := by rw [if_pos e]; exact h
theorem iteF' {c : Bool} {A B : Prop} (e : c = false) (h : B) : if c = true then A else B := by subst e; exact iteF h
theorem sqT_put {K : PySem.W.Frag} {H : Hp} {a l : Addr} {xs ys : List V} {o : HO} (h : SqT K H a xs) (hl : H l = some (.lst ys)) : SqT K (upd H l o) a xs := by
  have key : ∀ u, H a = some u → (∀ zs, u ≠ .lst zs) → upd H l o a = some u := fun u e n => by
    rw [upd_ne]
    · exact e
    · intro z
      rw [z, hl] at e
      cases e
      exact n _ rfl
  rcases h with (h | ⟨u, h⟩) | h
  · exact .inl (.inl (key _ h fun _ z => by cases z))
  · exact .inl (.inr ⟨u, key _ h fun _ z => by cases z⟩)
  · exact .inr h
theorem perm_erase {fs ls : List Nat} {k : Nat} (hk : k < ls.length) : ((fs ++ [ls[k]]) ++ ls.eraseIdx k).Perm (fs ++ ls) := by
  rw [List.append_assoc]
  refine List.Perm.append_left _ ?_
  have e : ls = ls.take k ++ ls[k] :: ls.drop (k + 1) := by simp
  have e2 : ls.eraseIdx k = ls.take k ++ ls.drop (k + 1) := List.eraseIdx_eq_take_drop_succ _ _
  rw [e2]
  refine List.Perm.trans ?_ (List.Perm.of_eq e.symm)
  show (ls[k] :: (ls.take k ++ ls.drop (k + 1))).Perm _
  exact List.perm_middle.symm
theorem seqIx {k n : Nat} (h : k < n) : seqIndex? (k : Int) n = some k := by
  have e : seqIndex? (k : Int) n = if (decide (0 ≤ (if (k : Int) < 0 then (k : Int) + (n : Int) else (k : Int))) && decide ((if (k : Int) < 0 then (k : Int) + (n : Int) else (k : Int)) < (n : Int))) = true then some (if (k : Int) < 0 then (k : Int) + (n : Int) else (k : Int)).toNat else none := rfl
  rw [e]
  simp only [show ¬ (k : Int) < 0 by omega, if_false]
  rw [if_pos (by simp; omega)]
  rfl
theorem map_erase {α β : Type} (f : α → β) : ∀ (l : List α) (k : Nat), (l.map f).eraseIdx k = (l.eraseIdx k).map f
  | [], _ => rfl
  | _ :: _, 0 => rfl
  | a :: l, k + 1 => by
    show f a :: (l.map f).eraseIdx k = f a :: (l.eraseIdx k).map f
    rw [map_erase f l k]
section
variable {K : PySem.W.Frag} {H : Hp}
theorem atI_end {xs : List V} {v : V} (hj : xs[xs.length - 1]? = some v) : atI xs (-1) = some v := by
  have hl : xs.length - 1 < xs.length := (List.getElem?_eq_some_iff.mp hj).1
  unfold atI ixN
  rw [if_neg (by decide), if_pos (by omega), show ((-1 : Int) + (xs.length : Int)).toNat = xs.length - 1 by omega]
  exact hj
theorem ixT_last {p : Addr} {xs : List V} {v : V} {Q : VK} (h : SqT K H p xs) (hj : xs[xs.length - 1]? = some v) (q : Q v H) : rIx2 K (.ref p) (.int (-1)) H Q := .inr ⟨p, xs, -1, v, rfl, rfl, h, atI_end hj, q⟩
theorem ixL_last {p : Addr} {xs : List V} {v : V} {Q : VK} (h : SqL K H p xs) (hj : xs[xs.length - 1]? = some v) (q : Q v H) : rIx2 K (.ref p) (.int (-1)) H Q := .inl ⟨p, xs, -1, v, rfl, rfl, h, atI_end hj, q⟩
end
theorem mod_nat {c : Int} {n : Nat} (h : 1 ≤ n) : ∃ k : Nat, c % (n : Int) = (k : Int) ∧ k < n := by
  have g0 := Int.emod_nonneg c (show (n : Int) ≠ 0 by omega)
  have g1 := Int.emod_lt_of_pos c (show (0 : Int) < (n : Int) by omega)
  obtain ⟨k, hk⟩ := Int.eq_ofNat_of_zero_le g0
  exact ⟨k, hk, by omega⟩
theorem getV {ps : List Nat} {i : Nat} (h : i < ps.length) : (ps.map natV)[i]? = some (natV (ps.getD i 0)) := by
  rw [List.getElem?_map, List.getD_eq_getElem?_getD, List.getElem?_eq_getElem h]
  rfl
def Rows (K : PySem.W.Frag) (H : Hp) (xs : List V) (T : List (List Int)) : Prop := xs.length = T.length ∧ ∀ (i : Nat) (row : List Int), T[i]? = some row → ∃ b, xs[i]? = some (.ref b) ∧ SqT K H b (row.map V.int)
section
variable {K : PySem.W.Frag} {H H' : Hp} {xs : List V} {T : List (List Int)}
theorem Rows.map (h : Rows K H xs T) (f : ∀ b row, SqT K H b row → SqT K H' b row) : Rows K H' xs T := ⟨h.1, fun i row e => by
  obtain ⟨b, e1, e2⟩ := h.2 i row e
  exact ⟨b, e1, f _ _ e2⟩⟩
theorem Rows.same (h : Rows K H xs T) (e : Same H H') : Rows K H' xs T := h.map fun _ _ s => e.tup s
theorem Rows.put (h : Rows K H xs T) {l : Addr} {ys : List V} {o : HO} (hl : H l = some (.lst ys)) : Rows K (upd H l o) xs T := h.map fun _ _ s => sqT_put s hl
theorem Rows.nil : Rows K H [] [] := ⟨rfl, fun i row e => by cases e⟩
theorem Rows.snoc (h : Rows K H xs T) {b : Addr} {r : List Int} (hb : SqT K H b (r.map V.int)) : Rows K H (xs ++ [.ref b]) (T ++ [r]) := by
  refine ⟨by rw [List.length_append, List.length_append, h.1]; rfl, fun i row e => ?_⟩
  by_cases hi : i < T.length
  · rw [List.getElem?_append_left hi] at e
    obtain ⟨b', e1, e2⟩ := h.2 i row e
    exact ⟨b', by rw [List.getElem?_append_left (by rw [h.1]; exact hi)]; exact e1, e2⟩
  · rw [List.getElem?_append_right (by omega)] at e
    have : i - T.length = 0 := by
      rcases hk : i - T.length with _ | k
      · rfl
      · rw [hk] at e; cases e
    rw [this] at e
    cases e
    exact ⟨b, by rw [List.getElem?_append_right (by rw [h.1]; omega), h.1, this]; rfl, hb⟩
theorem Rows.sh (h : Rows K H xs T) {l : Addr} (hl : SqL K H l xs) : Sh K H (.lst (T.map fun r => Dt.tup (r.map Dt.int))) (.ref l) := ⟨l, xs, rfl, hl, ShL.of_rows h.1 h.2⟩
end
theorem dep_rowsL (T : List (List Int)) : dep (.lst (T.map fun r => Dt.tup (r.map Dt.int))) ≤ 100 := by
  have hi : ∀ r : List Int, depL (r.map Dt.int) = 0 := fun r => by
    induction r with
    | nil => rfl
    | cons a r ih => rw [List.map_cons, depL, ih]; rfl
  have : ∀ T : List (List Int), depL (T.map fun r => Dt.tup (r.map Dt.int)) ≤ 1 := fun T => by
    induction T with
    | nil => decide
    | cons r T ih => rw [List.map_cons, depL, dep, hi]; omega
  have := this T
  rw [dep]
  omega
end L2
namespace L2
open PySem PySem.Spec PyProof.Rows
section
variable {prog : Program} {w : World} {A : Around} {E : Value → Shared → Prop} {s : Shared}
end
abbrev eH (h : Heap) (b : Bool) (l : Addr) : Heap := (h.push (itO b l)).push { cls := .type "enumerate", data := .fields #[.none, .bool false, .ref h.objs.size, rawInt 0, .none, .none] }
end L2
namespace L2
open PySem
section
variable {X : Cx} {es : List Expr} {te : TE} {t : TA}
theorem pa_consC {c : Const} {k : Nat} {p : Pos} (ha : PE X (.Constant c k p) te) (hr : PA X es t) : PA X (.Constant c k p :: es) (tCons te t) := pa_cons ha hr
theorem pa_consN {n : Str} {p : Pos} (ha : PE X (.Name n p) te) (hr : PA X es t) : PA X (.Name n p :: es) (tCons te t) := pa_cons ha hr
theorem pa_consT {l : List Expr} {k : Nat} {p : Pos} (ha : PE X (.Tuple l k p) te) (hr : PA X es t) : PA X (.Tuple l k p :: es) (tCons te t) := pa_cons ha hr
theorem pa_consB {a b : Expr} {o : Operator} {p : Pos} (ha : PE X (.BinOp a o b p) te) (hr : PA X es t) : PA X (.BinOp a o b p :: es) (tCons te t) := pa_cons ha hr
theorem pa_consS {a b : Expr} {p : Pos} (ha : PE X (.Subscript a b p) te) (hr : PA X es t) : PA X (.Subscript a b p :: es) (tCons te t) := pa_cons ha hr
theorem pa_consK {a : Expr} {l : List Expr} {kw : List Keyword} {p : Pos} (ha : PE X (.Call a l kw p) te) (hr : PA X es t) : PA X (.Call a l kw p :: es) (tCons te t) := pa_cons ha hr
end
end L2
namespace L2
open PySem
mutual
def thin : Dt → Bool
  | .tup ds => decide (ds.length < 64) && thinL ds
  | .lst ds => thinL ds
  | _ => true
def thinL : List Dt → Bool
  | [] => true
  | d :: ds => thin d && thinL ds
end
def okM (m e : Nat) (d : Dt) : Prop := (toP d).showable = true ∧ (toP d).leavesShort 1930 = true ∧ (toP d).bulk ≤ m ∧ dep d ≤ e ∧ thin d = true
def Am (K : PySem.W.Frag) (H : Hp) (m e : Nat) (x : V) : Prop := ∃ d, Sh K H d x ∧ okM m e d
def Goo (K : PySem.W.Frag) (H : Hp) (v : V) : Prop := ∃ d, Sh K H d v ∧ okR d ∧ thin d = true
section
variable {K : PySem.W.Frag} {H H' : Hp}
theorem Am.same {m e : Nat} {x : V} (s : Same H H') : Am K H m e x → Am K H' m e x := fun ⟨d, h, o⟩ => ⟨d, h.same s, o⟩
theorem Am.le {m k e f : Nat} {x : V} (h1 : m ≤ k) (h2 : e ≤ f) : Am K H m e x → Am K H k f x := fun ⟨d, h, a, b, c, g, t⟩ => ⟨d, h, a, b, Nat.le_trans c h1, Nat.le_trans g h2, t⟩
theorem Goo.same {v : V} (s : Same H H') : Goo K H v → Goo K H' v := fun ⟨d, h, o⟩ => ⟨d, h.same s, o⟩
def Tu (K : PySem.W.Frag) (H : Hp) (m e k : Nat) (v : V) : Prop := ∃ a xs, v = .ref a ∧ SqT K H a xs ∧ xs.length ≤ k ∧ ∀ x ∈ xs, Am K H m e x
theorem Tu.same {m e k : Nat} {v : V} (s : Same H H') : Tu K H m e k v → Tu K H' m e k v := fun ⟨a, xs, h1, h2, h3, h4⟩ => ⟨a, xs, h1, s.tup h2, h3, fun x hx => (h4 x hx).same s⟩
theorem Tu.le {m e k m' e' k' : Nat} {v : V} (h : m ≤ m') (h' : e ≤ e') (h'' : k ≤ k') : Tu K H m e k v → Tu K H m' e' k' v := fun ⟨a, xs, h1, h2, h3, h4⟩ => ⟨a, xs, h1, h2, Nat.le_trans h3 h'', fun x hx => (h4 x hx).le h h'⟩
end
theorem yMod_nat {c : Int} {n k : Nat} {H : Hp} {Q : VK} (h : 1 ≤ n) (e : c % (n : Int) = (k : Int)) (q : Q (.int (k : Int)) H) : yMod (.int c) (.int (n : Int)) H Q := ⟨_, _, rfl, rfl, by omega, by show Q (.int (c % (n : Int))) H; rw [e]; exact q⟩
end L2
namespace L2
open PySem PySem.Spec PyProof.Rows
inductive PrsAre : List (Value × Value) → List (Int × Int) → Prop
  | nil : PrsAre [] []
  | cons (a b : Int) (t u : Tok) {r : List (Value × Value)} {zs : List (Int × Int)} : PrsAre r zs → PrsAre ((.int a t, .int b u) :: r) ((a, b) :: zs)
def lexZ (f : Bool) : List (Int × Int) → Bool
  | [] => f
  | (a, b) :: r => if a = b then lexZ f r else decide (a < b)
theorem rc_lt_int {prog : Program} {w : World} {A : Around} {E : Value → Shared → Prop} {s : Shared} {a b : Int} {t u : Tok} {Q : Value → Shared → Prop} (h : Q (.bool (decide (a < b))) s) : wpAny (model prog w) A (richCompare .Lt (.int a t) (.int b u)) Q E s := lt_int h
theorem tuple_ltI (l b : Addr) (us vs : Array Value) (n n2 : Nat) (dd dd2 : Option Addr) (sl sl2 : Array (Option Value)) (zs : List (Int × Int)) (hz : PrsAre (us.toList.zip vs.toList) zs) :
    Meets (Builtin.«tuple.__lt__» ⟨[.ref l, .ref b], []⟩)
      (fun _ R s => s.heap.get? l = some { cls := .type "tuple", dict := dd, data := .seq us n, slots := sl } ∧ s.heap.get? b = some { cls := .type "tuple", dict := dd2, data := .seq vs n2, slots := sl2 } ∧ R (.ok (.ret (.bool (lexZ (decide (us.size < vs.size)) zs)))) s) :=
  .of_wp fun prog w A R s h => by
    obtain ⟨s1, s2, s3, s4, s5⟩ := s
    obtain ⟨gl, gb, h⟩ := h
    have f2 := AutoSeq1.sub_tuple_tuple
    wp_walk using AutoSeq1.wpAny_loadPart' gl, AutoSeq1.wpAny_loadPart' gb, wpAny_forIn_list _ (fun rest b s' => b.1 = none ∧ s' = ⟨s1, s2, s3, s4, s5⟩ ∧ ∃ ys, PrsAre rest ys ∧ R (.ok (.ret (.bool (lexZ (decide (us.size < vs.size)) ys)))) ⟨s1, s2, s3, s4, s5⟩) _
    case turn =>
      rintro ⟨y, x⟩ rest b s' ⟨hb', rfl, ys, hy, hR⟩
      cases hy with
      | cons p q t u hr =>
        refine wpAny_bind (wpAny_eqBool_int ?_)
        by_cases e : p = q
        · rw [show (p == q) = true by simpa using e]
          rw [lexZ, if_pos e] at hR
          wp_walk
          exact ⟨rfl, rfl, _, hr, hR⟩
        · rw [show (p == q) = false by simpa using e]
          rw [lexZ, if_neg e] at hR
          wp_walk using rc_lt_int
          exact ⟨_, rfl, hR⟩
    case fin =>
      rintro ⟨b1, b2⟩ s' ⟨hb', rfl, ys, hy, hR⟩
      simp only at hb'
      subst hb'
      cases hy
      wp_walk
      exact ⟨_, rfl, hR⟩
    case h =>
      exact ⟨rfl, rfl, zs, hz, h⟩
section
variable {prog : Program} {w : World} {A : Around} {R : Result → Shared → Prop} {It : Addr} {fp wr : List Addr} {n : Nat} {P : Nat → Value → Prop} {St : Nat → Heap → Prop}
def LtAt (prog : Program) (w : World) (A : Around) (kp : Heap → Prop) (P : Nat → Value → Prop) (bt : Nat → Nat → Bool) : Prop :=
  ∀ i j x y (s : Shared) (Q : Value → Shared → Prop) (E : Value → Shared → Prop), kp s.heap → P i x → P j y → Q (.bool (bt i j)) s → wpAny (model prog w) A (richCompare .Lt x y) Q E s
def Kp (kp : Heap → Prop) (wr : List Addr) (z : Addr) : Prop := ∀ h h', kp h → (∀ b o, b ∉ wr → b ≠ z → h.get? b = some o → h'.get? b = some o) → kp h'
theorem minL (W : Walks prog w A.in1 It fp wr n P St) (bt : Nat → Nat → Bool) {kp : Heap → Prop} (z : Addr) (hz : z ∉ fp) (kk : Kp kp wr z) (hc : LtAt prog w A.in1 kp P bt) :
    ∀ (k j : Nat) (s : Shared) (x : Value) (c : Nat), n - (j + 1) = k → j + 1 ≤ n → kp s.heap → St (j + 1) s.heap → P (argBest bt j) x → s.heap.get? z = some { cls := .type "list", dict := none, data := .seq #[x, x] c, slots := #[] } →
    (∀ v h' tk, P (argBest bt (n - 1)) v → (∀ b o, b ∉ wr → b ≠ z → s.heap.get? b = some o → h'.get? b = some o) → R (.ok (.ret v)) { s with heap := h', toks := tk }) →
    codeAny (model prog w) A (.builtin "min.loop" ⟨[.ref It, .none, .ref z], []⟩) R s := by
  have zw : z ∉ wr := fun h => hz (W.sub _ h)
  have nm : (toString "min" ++ toString ".loop" : String) = "min.loop" := by decide
  intro k
  induction k with
  | zero =>
    intro j s x c hk hj kp0 st px gz hR
    have en : j + 1 = n := by omega
    refine codeAny_builtin F.entry_min_loop ?g
    case g =>
    rw [Around.under_plainId F.plain_min_loop _]; show wpAny _ A.in1 (seqItems? (.ref z) >>= _) _ _ s; refine wpAny_bind (wpAny_seqItems gz rfl ?g)
    case g =>
    show wpAny _ A.in1 (tryCatch (pyNext (.ref It)) _ >>= _) _ _ s; refine wpAny_bind (wpAny_tryCatch (W.done s _ _ (en ▸ st) fun h' tk kh => ?g))
    case g =>
    show wpAny _ A.in1 (updateSeq z (fun _ => #[]) >>= _) _ _ _; refine wpAny_bind (wpAny_updateSeq (kh z _ zw gz) rfl (wpAny_bind (wpAny_letGo (wpAny_pure ?g))))
    case g =>
    exact hR x _ tk (by rw [← en]; exact px) fun b o bw bz e => (Heap.get?_update_other _ _ (Ne.symm bz)).trans (kh b o bw e)
  | succ k ih =>
    intro j s x c hk hj kp0 st px gz hR
    have lt : j + 1 < n := by omega
    refine codeAny_builtin F.entry_min_loop ?g
    case g =>
    rw [Around.under_plainId F.plain_min_loop _]; show wpAny _ A.in1 (seqItems? (.ref z) >>= _) _ _ s; refine wpAny_bind (wpAny_seqItems gz rfl ?g)
    case g =>
    show wpAny _ A.in1 (tryCatch (pyNext (.ref It)) _ >>= _) _ _ s; refine wpAny_bind (wpAny_tryCatch (W.item (j + 1) s _ _ lt st fun v h' tk pv st' kh => ?g))
    case g =>
    have gz' := kh z _ zw gz
    have kp1 : kp h' := kk _ _ kp0 fun b o bw _ e => kh b o bw e
    show wpAny _ A.in1 (tryCatch (holding [v, v] (richCompare .Lt v x >>= _)) _ >>= _) _ _ _; refine wpAny_bind (wpAny_tryCatch (wpAny_holding (wpAny_bind (hc (j + 1) (argBest bt j) v x _ _ _ kp1 pv px ?g))))
    case g =>
    refine wpAny_bind (wpAny_holding (wpAny_truthy_bool (wpAny_bind (wpAny_letGo (wpAny_pure ?g)))))
    case g =>
    cases hb : bt (j + 1) (argBest bt j) with
    | true =>
      simp only [if_true]; refine wpAny_bind (wpAny_updateSeq gz' rfl (wpAny_bind (wpAny_letGo ?g)))
      case g =>
      have up : ∀ b o, b ≠ z → h'.get? b = some o → (h'.update z (Obj.mapSeq fun _ => #[v, v])).get? b = some o := fun b o bz e => (Heap.get?_update_other _ _ (Ne.symm bz)).trans e
      rw [nm]; refine wpAny_pure ⟨plainId_quiet F.plain_min_loop _, ih (j + 1) _ v _ (by omega) lt (kk _ _ kp1 fun b o _ bz e => up b o bz e) (W.frame _ _ _ st' fun b bf o e => up b o (fun q => hz (by rw [← q]; exact bf)) e) (by simp only [argBest, hb, if_true]; exact pv) (Heap.get?_update_self _ gz' rfl) fun v' h2 tk2 pv' kh2 => ?g⟩
      case g =>
      exact hR v' h2 tk2 pv' fun b o bw bz e => kh2 b o bw bz (up b o bz (kh b o bw e))
    | false =>
      simp only [Bool.false_eq_true, if_false]; refine wpAny_bind (wpAny_letGo ?g)
      case g =>
      rw [nm]; refine wpAny_pure ⟨plainId_quiet F.plain_min_loop _, ih (j + 1) _ x c (by omega) lt kp1 st' (by simp only [argBest, hb, Bool.false_eq_true, if_false]; exact px) gz' fun v' h2 tk2 pv' kh2 => ?g⟩
      case g =>
      exact hR v' h2 tk2 pv' fun b o bw bz e => kh2 b o bw bz (kh b o bw e)
theorem minF (W : Walks prog w A.in1 It fp wr n P St) (bt : Nat → Nat → Bool) {kp : Heap → Prop} (z : Addr) (hz : z ∉ fp) (kk : Kp kp wr z) (hc : LtAt prog w A.in1 kp P bt) (hn : 0 < n) {s : Shared} {c : Nat} (kp0 : kp s.heap) (st : St 0 s.heap) (gz : s.heap.get? z = some { cls := .type "list", dict := none, data := .seq #[] c, slots := #[] })
    (hR : ∀ v h' tk, P (argBest bt (n - 1)) v → (∀ b o, b ∉ wr → b ≠ z → s.heap.get? b = some o → h'.get? b = some o) → R (.ok (.ret v)) { s with heap := h', toks := tk }) :
    codeAny (model prog w) A (.builtin "min.loop" ⟨[.ref It, .none, .ref z], []⟩) R s := by
  have zw : z ∉ wr := fun h => hz (W.sub _ h)
  have nm : (toString "min" ++ toString ".loop" : String) = "min.loop" := by decide
  refine codeAny_builtin F.entry_min_loop ?g
  case g =>
  rw [Around.under_plainId F.plain_min_loop _]; show wpAny _ A.in1 (seqItems? (.ref z) >>= _) _ _ s; refine wpAny_bind (wpAny_seqItems gz rfl ?g)
  case g =>
  show wpAny _ A.in1 (tryCatch (pyNext (.ref It)) _ >>= _) _ _ s; refine wpAny_bind (wpAny_tryCatch (W.item 0 s _ _ hn st fun v h' tk pv st' kh => ?g))
  case g =>
  have gz' := kh z _ zw gz
  have kp1 : kp h' := kk _ _ kp0 fun b o bw _ e => kh b o bw e
  have up : ∀ b o, b ≠ z → h'.get? b = some o → (h'.update z (Obj.mapSeq fun _ => #[v, v])).get? b = some o := fun b o bz e => (Heap.get?_update_other _ _ (Ne.symm bz)).trans e
  show wpAny _ A.in1 (updateSeq z (fun _ => #[v, v]) >>= _) _ _ _; refine wpAny_bind (wpAny_updateSeq gz' rfl ?g)
  case g =>
  rw [nm]; refine wpAny_pure ⟨plainId_quiet F.plain_min_loop _, minL W bt z hz kk hc _ 0 _ v _ rfl hn (kk _ _ kp1 fun b o _ bz e => up b o bz e) (W.frame _ _ _ st' fun b bf o e => up b o (fun q => hz (by rw [← q]; exact bf)) e) pv (Heap.get?_update_self _ gz' rfl) fun v' h2 tk2 pv' kh2 => ?g⟩
  case g =>
  exact hR v' h2 tk2 pv' fun b o bw bz e => kh2 b o bw bz (up b o bz (kh b o bw e))
end
section
variable {prog : Program} {w : World} {A : Around} {E : Value → Shared → Prop} {s : Shared}
theorem min_walkAt {x : Value} {Q : Value → Shared → Prop}
    (h : wpAny (model prog w) A.in1 (pyIter x) (fun it s₂ => ∃ It fp wr n P St bt, ∃ kp : Heap → Prop, it = .ref It ∧ Walks prog w A.in1 It fp wr n P St ∧ St 0 s₂.heap ∧ (∀ b ∈ fp, b < s₂.heap.objs.size) ∧ 0 < n ∧ kp s₂.heap ∧ (∀ z, s₂.heap.objs.size ≤ z → Kp kp wr z) ∧ LtAt prog w A.in1 kp P bt ∧
      ∀ v h' tk, P (argBest bt (n - 1)) v → (∀ b o, b ∉ wr → s₂.heap.get? b = some o → h'.get? b = some o) → Q v { s₂ with heap := h', toks := tk }) E s) :
    wpAny (model prog w) A (call (.builtin "min") [x]) Q E s := by
  have nm : (toString "min" ++ toString ".loop" : String) = "min.loop" := by decide
  refine call_function_tree F.kind_min F.plain_min F.entry_min (F.args_min1 _) ?g
  case g =>
  show wpAny _ A.in1 (Builtin.Builtins.bindParams "min" ["key", "default"] 0 ⟨[], []⟩ >>= _) _ _ s; refine wpAny_bind (wpAny_of_eq (show Builtin.Builtins.bindParams "min" ["key", "default"] 0 ⟨[], []⟩ = pure [none, none] from rfl) (wpAny_bind (wpAny_pure (wpAny_bind (wpAny_mono h (fun it s2 h2 => ?g) fun _ _ e => e)))))
  case g =>
  obtain ⟨It, fp, wr, n, P, St, bt, kp, rfl, W, st, hf, hn, kp0, kk, hc, hQ⟩ := h2
  refine wpAny_bind (wpAny_newObj_type ?g)
  case g =>
  have zf : s2.heap.objs.size ∉ fp := fun m => Nat.lt_irrefl _ (hf _ m)
  have kz := kk s2.heap.objs.size (Nat.le_refl _)
  rw [nm]; refine wpAny_pure ⟨plainId_quiet F.plain_min_loop _, minF W bt s2.heap.objs.size zf kz hc hn (kz _ _ kp0 fun b o _ _ e => Heap.get?_push_of_some _ e) (W.frame _ _ _ st fun b _ o e => Heap.get?_push_of_some _ e) (Heap.get?_push_size _ rfl) fun v h' tk pv kh => ?g⟩
  case g =>
  exact hQ v h' tk pv fun b o bw e => kh b o bw (Nat.ne_of_lt (Heap.lt_size e)) (Heap.get?_push_of_some _ e)
end
end L2
namespace L2
open PySem PySem.Spec PyProof.Rows
def lexL : List Int → List Int → Bool
  | [], [] => false
  | [], _ :: _ => true
  | _ :: _, [] => false
  | a :: r, b :: q => if a = b then lexL r q else decide (a < b)
theorem lexZ_eq : ∀ (ns ms : List Int), lexZ (decide (ns.length < ms.length)) (ns.zip ms) = lexL ns ms
  | [], [] => rfl
  | [], m :: ms => by simp [lexZ, lexL]
  | n :: ns, [] => by simp [lexZ, lexL]
  | n :: ns, m :: ms => by
    rw [List.zip_cons_cons, lexZ, lexL, ← lexZ_eq ns ms]
    have : decide ((n :: ns).length < (m :: ms).length) = decide (ns.length < ms.length) := by
      by_cases h : ns.length < ms.length <;> simp [h]
    rw [this]
theorem lexL_irr : ∀ ns : List Int, lexL ns ns = false
  | [] => rfl
  | n :: ns => by rw [lexL, if_pos rfl]; exact lexL_irr ns
theorem lexL_trans : ∀ {a b c : List Int}, lexL a b = true → lexL b c = true → lexL a c = true
  | [], [], _, h, _ => by cases h
  | [], _ :: _, [], _, h => by cases h
  | [], _ :: _, _ :: _, _, _ => rfl
  | _ :: _, [], _, h, _ => by cases h
  | _ :: _, _ :: _, [], _, h => by cases h
  | x :: a, y :: b, z :: c, h1, h2 => by
    rw [lexL] at h1 h2 ⊢
    by_cases e1 : x = y <;> by_cases e2 : y = z
    · subst e1 e2
      rw [if_pos rfl] at h1 h2 ⊢
      exact lexL_trans h1 h2
    · subst e1
      rw [if_neg e2] at h2 ⊢
      exact h2
    · subst e2
      rw [if_neg e1] at h1 ⊢
      exact h1
    · rw [if_neg e1] at h1
      rw [if_neg e2] at h2
      have g1 := of_decide_eq_true h1
      have g2 := of_decide_eq_true h2
      rw [if_neg (by omega)]
      exact decide_eq_true (by omega)
theorem argBest_min {bt : Nat → Nat → Bool} (irr : ∀ i, bt i i = false) (tr : ∀ i j k, bt i j = true → bt j k = true → bt i k = true) : ∀ k j, j ≤ k → bt j (argBest bt k) = false
  | 0, j, h => by
    obtain rfl : j = 0 := by omega
    exact irr 0
  | k + 1, j, h => by
    unfold argBest
    by_cases c : bt (k + 1) (argBest bt k) = true
    · rw [if_pos c]
      by_cases e : j = k + 1
      · subst e; exact irr _
      · refine Bool.eq_false_iff.mpr fun q => ?_
        have := argBest_min irr tr k j (by omega)
        rw [tr _ _ _ q c] at this
        cases this
    · rw [if_neg c]
      by_cases e : j = k + 1
      · subst e; simpa using c
      · exact argBest_min irr tr k j (by omega)
theorem prs_of : ∀ {ns ms : List Int} {us vs : List Value}, IntsAre us ns → IntsAre vs ms → PrsAre (us.zip vs) (ns.zip ms)
  | [], _, _, _, h, _ => by cases h; exact .nil
  | _ :: _, [], _, _, h, g => by cases g; cases h; exact .nil
  | n :: ns, m :: ms, _, _, h, g => by
    cases h with
    | cons _ t h =>
      cases g with
      | cons _ u g => exact .cons n m t u (prs_of h g)
theorem lt_tups {prog : Program} {w : World} {A : Around} {E : Value → Shared → Prop} {s : Shared} {a b : Addr} {us vs : List Value} {ns ms : List Int} {Q : Value → Shared → Prop} (hu : A.units < cLine) (ha : IsTup s.heap a us.toArray) (hb : IsTup s.heap b vs.toArray) (h1 : IntsAre us ns) (h2 : IntsAre vs ms) (q : Q (.bool (lexL ns ms)) s) :
    wpAny (model prog w) A (richCompare .Lt (.ref a) (.ref b)) Q E s := by
  obtain ⟨⟨oc, od, odt, osl⟩, e1, c1, n1, d1⟩ := ha
  obtain ⟨⟨pc, pd, pdt, psl⟩, e2, c2, n2, d2⟩ := hb
  subst c1 d1 c2 d2
  refine richCompare_meets_room (op := .Lt) ⟨_, e1, rfl⟩ ⟨_, e2, rfl⟩ F.slot_tuple_lt F.entry_tuple_lt (F.args_tuple_lt_2 _ _) (tuple_ltI a b us.toArray vs.toArray n1 n2 od pd osl psl (ns.zip ms) (prs_of h1 h2)) ⟨e1, e2, ?g⟩ hu
  case g =>
  have l1 := IntsAre.len h1
  have l2 := IntsAre.len h2
  rw [List.size_toArray, List.size_toArray, l1, l2, lexZ_eq]
  exact ⟨fun z => (by cases z), q⟩
def rMinT (K : PySem.W.Frag) : List V → Hp → VK → Prop := fun vs H Q => ∃ (a : Addr) (xs : List V) (T : List (List Int)), vs = [.ref a] ∧ Sq K H a xs ∧ Rows K H xs T ∧ T ≠ [] ∧ ∀ (i : Nat) (b : Addr) (row : List Int), xs[i]? = some (.ref b) → T[i]? = some row → SqT K H b (row.map V.int) → (∀ r ∈ T, lexL r row = false) → Q (.ref b) H
theorem call_minT {X : Cx} {k : Nat} (hr : Room k X.A) (hc : X.calm = true) : CallR X (.builtin "min") (rMinT X.K) := by
  intro pins s σ H vs us Q I r ⟨a, xs, T, e, hq, hR, hne, q⟩
  subst e
  obtain ⟨u, rfl, ru⟩ := r.one
  obtain rfl : u = Value.ref a := ru
  refine min_walkAt (seq_walk (I.ok.hd hc) I hq fun its It fp wr S s2 rv hz W st hf hI => ?g)
  case g =>
  have hl : its.length = T.length := by rw [← rv.length, hR.1]
  have hpos : 0 < T.length := List.length_pos_iff.mpr hne
  have item : ∀ (i : Nat) (v : Value), its[i]? = some v → ∃ b row, v = .ref b ∧ T[i]? = some row ∧ xs[i]? = some (.ref b) ∧ SqT X.K H b (row.map V.int) := fun i v hv => by
    obtain ⟨x, hx, rx⟩ := rv.getR hv
    have hi : i < T.length := by rw [← hR.1]; exact (List.getElem?_eq_some_iff.mp hx).1
    obtain ⟨b, e1, e2⟩ := hR.2 i _ (List.getElem?_eq_getElem hi)
    rw [e1] at hx
    cases hx
    exact ⟨b, _, rx, List.getElem?_eq_getElem hi, e1, e2⟩
  refine ⟨It, fp, wr, its.length, _, S, fun i j => lexL (T.getD i []) (T.getD j []), fun h => ∀ b o, b ∉ wr → s2.heap.get? b = some o → h.get? b = some o, rfl, W, st, hf, by omega, fun b o _ e => e, fun z hz0 h h' k1 k2 b o bw e => k2 b o bw (fun q0 => Nat.not_lt.mpr hz0 (q0 ▸ Heap.lt_size e)) (k1 b o bw e), fun i j vi vj s' Q' E' kp hi hj hQ' => ?g, fun v h' tk hv hk => ?h⟩
  case g =>
    obtain ⟨b1, r1, rfl, t1, _, q1⟩ := item i vi hi
    obtain ⟨b2, r2, rfl, t2, _, q2⟩ := item j vj hj
    have I' := hI s'.heap s'.toks kp
    obtain ⟨us1, v1, p1, _⟩ := I'.tuple q1
    obtain ⟨us2, v2, p2, _⟩ := I'.tuple q2
    refine lt_tups (ns := r1) (ms := r2) (us := us1) (vs := us2) (by have := hr.un; show X.A.units + 1 < cLine; omega) p1 p2 (intsAre_of v1) (intsAre_of v2) ?g
    case g =>
    have e1 : T.getD i [] = r1 := by rw [List.getD_eq_getElem?_getD, t1]; rfl
    have e2 : T.getD j [] = r2 := by rw [List.getD_eq_getElem?_getD, t2]; rfl
    have hQ2 : Q' (Value.bool (lexL (T.getD i []) (T.getD j []))) s' := hQ'
    rw [e1, e2] at hQ2
    exact hQ2
  case h =>
    obtain ⟨b, row, rfl, t1, e1, q1⟩ := item _ v hv
    refine ⟨.ref b, H, hI h' tk hk, rfl, q _ b row e1 t1 q1 fun r0 hr0 => ?g⟩
    case g =>
    obtain ⟨j, hj, rfl⟩ := List.getElem_of_mem hr0
    have := argBest_min (bt := fun i j => lexL (T.getD i []) (T.getD j [])) (fun i => lexL_irr _) (fun i j k => lexL_trans) (its.length - 1) j (by omega)
    have e1 : T.getD j [] = T[j] := by rw [List.getD_eq_getElem?_getD, List.getElem?_eq_getElem hj]; rfl
    have e2 : T.getD (argBest (fun i j => lexL (T.getD i []) (T.getD j [])) (its.length - 1)) [] = row := by rw [List.getD_eq_getElem?_getD, t1]; rfl
    have g : lexL (T.getD j []) (T.getD (argBest (fun i j => lexL (T.getD i []) (T.getD j [])) (its.length - 1)) []) = false := this
    rw [e1, e2] at g
    exact g
theorem call_minTK {X : Cx} {K : PySem.W.Frag} {k : Nat} (hK : X.K = K) (hr : Room k X.A) (hc : X.calm = true) : CallR X (.builtin "min") (rMinT K) := by subst hK; exact call_minT hr hc
abbrev rMinA (K : PySem.W.Frag) : List V → Hp → VK → Prop := fun vs H Q => rMin K vs H Q ∨ rMinT K vs H Q
theorem call_minAK {X : Cx} {K : PySem.W.Frag} {k : Nat} (hK : X.K = K) (hr : Room k X.A) (hc : X.calm = true) : CallR X (.builtin "min") (rMinA K) := by
  intro pins s σ H vs us Q I r h
  rcases h with h | h
  · exact call_minK hK hc pins s σ H vs us Q I r h
  · exact call_minTK hK hr hc pins s σ H vs us Q I r h
abbrev rInt1 : List V → Hp → VK → Prop := fun xs H Q => (∃ i, xs = [.int i] ∧ Q (.int i) H) ∨ ∃ k, xs = [.bl k] ∧ Q (.int (if k then 1 else 0)) H
theorem call_int1K {X : Cx} : CallR X (.type "int") rInt1 := call_int1
end L2
namespace L2
open PySem PySem.Spec PyProof.Rows
section
variable {prog : Program} {w : World} {A : Around} {E : Value → Shared → Prop} {s : Shared}
end
structure EZ (e z ti to i1 i2 : Addr) : Prop where
  a1 : e ≠ z
  a2 : e ≠ ti
  a3 : e ≠ to
  a4 : e ≠ i1
  a5 : e ≠ i2
section
variable {prog : Program} {w : World} {A : Around} {E : Value → Shared → Prop} {s : Shared}
end
end L2
namespace L2
open PySem PySem.Spec PyProof.Rows
end L2
namespace L2
open PySem
end L2
namespace L2
open PySem PySem.Spec PyProof.Rows
section
variable {prog : Program} {w : World} {A : Around} {E : Value → Shared → Prop} {s : Shared}
end
section
variable {X : Cx}
end
end L2
namespace L2
open PySem
section
variable {X : Cx}
end
end L2
namespace L2
open PySem PySem.Spec PyProof.Rows
section
variable {prog : Program} {w : World} {A : Around} {E : Value → Shared → Prop} {s : Shared}
end
end L2
namespace L2
open PySem PySem.Spec PyProof.Rows
section
variable {X : Cx}
end
end L2
namespace L2
open PySem PySem.Spec PyProof.Rows
section
variable {X : Cx}
end
end L2
namespace L2
open PySem
structure Blt3 (mg : Str → Option Value) : Prop extends Blt2 mg where
  set : mg "set" = none
section
variable {X : Cx}
def tTru (K : PySem.W.Frag) (ta : TE) : TT := fun σ H Q => ta σ H fun x H' => ∃ k, TruV K x H' k ∧ Q k H'
theorem pt_truK {K : PySem.W.Frag} {a : Expr} {ta : TE} (hK : X.K = K) (ha : PE X a ta) (he : ∀ whole, isTrue a X.env whole = (do let v ← whole; standAt a.pos; holding [v] (truthy v))) : PT X a (tTru K ta) := by
  subst hK
  exact pt_truth ha he
end
end L2
namespace L2
open PySem
structure Blt4 (mg : Str → Option Value) : Prop extends Blt3 mg where
  abs : mg "abs" = none
end L2
namespace L2
open PySem
section
variable {vars : List Nat} {tb : TS} {acc a : Addr} {σ : St} {H : Hp} {j : Nat} {D : Ends} {K : PySem.W.Frag}
end
def EmR (K : PySem.W.Frag) (vars : List Nat) (tb : TS) (acc : Addr) (σ : St) (H : Hp) (L : List (List Int)) : Prop :=
  ∀ (D : Ends) (pre : List V) (R : List (List Int)), H acc = some (.lst pre) → Rows K H pre R → R.length + L.length ≤ 100000 → (∀ σ' H' pre', σ'.length = σ.length → Agree vars σ σ' → SameX acc H H' → H' acc = some (.lst pre') → Rows K H' pre' (R ++ L) → D.nx σ' H') → tb D σ H
section
variable {K : PySem.W.Frag} {vars : List Nat} {tb : TS} {acc : Addr} {σ : St} {H : Hp}
theorem EmR.cast {L L' : List (List Int)} (h : EmR K vars tb acc σ H L) (e : L = L') : EmR K vars tb acc σ H L' := e ▸ h
theorem emr_seq {L : List (List Int)} (h : EmR K vars tb acc σ H L) : EmR K vars (tSeq tb tNext) acc σ H L := fun D pre R ha hR hz hd => h _ pre R ha hR hz hd
theorem emr_loop {lo : Int} {n j : Nat} {L : Nat → List (List Int)} (hj : j ∈ vars) (hjl : j < σ.length)
    (h : ∀ i σ' H', i < n → σ'.length = σ.length → Agree vars σ σ' → σ'[j]? = some (some (.int (lo + (i : Int)))) → SameX acc H H' → EmR K vars tb acc σ' H' (L i)) :
    EmR K vars (tLoop (Itr lo n) (gName j) tb) acc σ H ((List.range n).flatMap L) := by
  intro D pre R ha hR hz hd
  refine for_range (lo := lo) (n := n) (g := gName j) (D := D) (fun i σ' H' => i ≤ n ∧ σ'.length = σ.length ∧ Agree vars σ σ' ∧ SameX acc H H' ∧ ∃ pre', H' acc = some (.lst pre') ∧ Rows K H' pre' (R ++ (List.range i).flatMap L)) ⟨Nat.zero_le _, rfl, Agree.refl _ _, SameX.refl _ _, pre, ha, by simpa using hR⟩ (fun i σ1 H1 hi ⟨_, hl1, ag1, sx1, pre1, h1, r1⟩ => ?_) fun σ1 H1 ⟨_, hl1, ag1, sx1, pre1, h1, r1⟩ => hd σ1 H1 pre1 hl1 ag1 sx1 h1 r1
  have hle := flatMap_range_le L (show i + 1 ≤ n from hi)
  rw [flatMap_range_succ, List.length_append] at hle
  refine h i (σ1.set j (some (.int (lo + (i : Int))))) H1 hi (by rw [List.length_set]; exact hl1) (ag1.trans (Agree.set hj _)) (set_at (by omega)) sx1 _ pre1 _ h1 r1 (by rw [List.length_append]; omega) fun σ' H' pre' hl ag sx h2 r2 => ⟨hi, hl.trans ((List.length_set ..).trans hl1), (ag1.trans (Agree.set hj _)).trans ag, sx1.trans sx, pre', h2, by rw [flatMap_range_succ, ← List.append_assoc]; exact r2⟩
theorem emr_for {ti : TI} {lo : Int} {n j : Nat} {L : Nat → List (List Int)} (hti : ∀ R : It → Hp → Prop, R (Itr lo n) H → ti σ H R) (hj : j ∈ vars) (hjl : j < σ.length)
    (h : ∀ i σ' H', i < n → σ'.length = σ.length → Agree vars σ σ' → σ'[j]? = some (some (.int (lo + (i : Int)))) → SameX acc H H' → EmR K vars tb acc σ' H' (L i)) :
    EmR K vars (tFor ti (gName j) tb) acc σ H ((List.range n).flatMap L) := by
  intro D pre R ha hR hz hd
  exact hti _ (emr_loop hj hjl h D pre R ha hR hz hd)
end
end L2
namespace L2
open PySem PySem.Spec PyProof.Rows
open PySem.SeqAt
def LtA (A : Around) (s : Shared) (u v : Value) (b : Bool) : Prop := ∀ (prog : Program) (w : World) (E : Value → Shared → Prop) (Q : Value → Shared → Prop), Q (.bool b) s → wpAny (model prog w) A (richCompare .Lt u v) Q E s
def EqA (A : Around) (s : Shared) (u v : Value) (b : Bool) : Prop := ∀ (prog : Program) (w : World) (E : Value → Shared → Prop) (Q : Bool → Shared → Prop), Q b s → wpAny (model prog w) A (eqBool u v) Q E s
inductive PrsG (A : Around) (s : Shared) : List (Value × Value) → List (Bool × Bool) → Prop
  | nil : PrsG A s [] []
  | cons {u v : Value} {e l : Bool} {r : List (Value × Value)} {zs : List (Bool × Bool)} : EqA A s u v e → (e = false → LtA A s u v l) → PrsG A s r zs → PrsG A s ((u, v) :: r) ((e, l) :: zs)
def lexB (f : Bool) : List (Bool × Bool) → Bool
  | [] => f
  | (e, l) :: r => if e = true then lexB f r else l
theorem tuple_ltG (l b : Addr) (us vs : Array Value) (n n2 : Nat) (dd dd2 : Option Addr) (sl sl2 : Array (Option Value)) (zs : List (Bool × Bool)) :
    Meets (Builtin.«tuple.__lt__» ⟨[.ref l, .ref b], []⟩)
      (fun A R s => s.heap.get? l = some { cls := .type "tuple", dict := dd, data := .seq us n, slots := sl } ∧ s.heap.get? b = some { cls := .type "tuple", dict := dd2, data := .seq vs n2, slots := sl2 } ∧ PrsG A.in1 s (us.toList.zip vs.toList) zs ∧ R (.ok (.ret (.bool (lexB (decide (us.size < vs.size)) zs)))) s) :=
  .of_wp fun prog w A R s h => by
    obtain ⟨s1, s2, s3, s4, s5⟩ := s
    obtain ⟨gl, gb, hz, h⟩ := h
    have f2 := AutoSeq1.sub_tuple_tuple
    wp_walk using AutoSeq1.wpAny_loadPart' gl, AutoSeq1.wpAny_loadPart' gb, wpAny_forIn_list _ (fun rest b s' => b.1 = none ∧ s' = ⟨s1, s2, s3, s4, s5⟩ ∧ ∃ ys, PrsG A.in1 ⟨s1, s2, s3, s4, s5⟩ rest ys ∧ R (.ok (.ret (.bool (lexB (decide (us.size < vs.size)) ys)))) ⟨s1, s2, s3, s4, s5⟩) _
    case turn =>
      rintro ⟨y, x⟩ rest b s' ⟨hb', rfl, ys, hy, hR⟩
      cases hy with
      | @cons _ _ e l _ _ he hl hr =>
        refine wpAny_bind (he _ _ _ _ ?_)
        cases e with
        | true =>
          rw [lexB, if_pos rfl] at hR
          wp_walk
          exact ⟨rfl, rfl, _, hr, hR⟩
        | false =>
          rw [lexB, if_neg Bool.false_ne_true] at hR
          have hl' : ∀ {E : Value → Shared → Prop} {Q : Value → Shared → Prop}, Q (.bool l) ⟨s1, s2, s3, s4, s5⟩ → wpAny (model prog w) A.in1 (richCompare .Lt y x) Q E ⟨s1, s2, s3, s4, s5⟩ := fun {E Q} => hl rfl prog w E Q
          wp_walk using hl'
          exact ⟨_, rfl, hR⟩
    case fin =>
      rintro ⟨b1, b2⟩ s' ⟨hb', rfl, ys, hy, hR⟩
      simp only at hb'
      subst hb'
      cases hy
      wp_walk
      exact ⟨_, rfl, hR⟩
    case h =>
      exact ⟨rfl, rfl, zs, hz, h⟩
theorem eqL_ints : ∀ {r q : List Int}, eqL (r.map Dt.int) (q.map Dt.int) = true → r = q
  | [], [], _ => rfl
  | [], _ :: _, h => by simp [eqL] at h
  | _ :: _, [], h => by simp [eqL] at h
  | a :: r, b :: q, h => by
    rw [List.map_cons, List.map_cons, eqL, Bool.and_eq_true] at h
    have h1 : a = b := by have := h.1; rw [eqD] at this; exact eq_of_beq this
    rw [h1, eqL_ints h.2]
theorem ints_at : ∀ {us : List Value} {ns : List Int}, IntsAre us ns → ∀ j (h : j < us.length), ∃ t, us[j] = .int (ns.getD j 0) t
  | _, _, .nil, j, h => absurd h (Nat.not_lt_zero _)
  | _, _, .cons n t h, 0, _ => ⟨t, rfl⟩
  | _, _, .cons n t h, j + 1, hj => by
    obtain ⟨t', e⟩ := ints_at h j (by simpa using hj)
    exact ⟨t', by simpa using e⟩
theorem ints_inj : ∀ {us : List Value} {ns ms : List Int}, IntsAre us ns → IntsAre us ms → ns = ms
  | _, _, _, .nil, .nil => rfl
  | _, _, _, .cons n t h, .cons _ _ g => by rw [ints_inj h g]
theorem eq_tups {A : Around} {s : Shared} {c d : Addr} {us vs : List Value} {r q : List Int} (hu : A.units < cLine) (hc : IsTup s.heap c us.toArray) (hd : IsTup s.heap d vs.toArray) (h1 : IntsAre us r) (h2 : IntsAre vs q) : EqA A s (.ref c) (.ref d) (eqL (r.map Dt.int) (q.map Dt.int)) := by
  by_cases hcd : c = d
  · subst hcd
    have e : us = vs := by
      obtain ⟨o, e1, _, n, e2⟩ := hc
      obtain ⟨o', e3, _, m, e4⟩ := hd
      rw [e1] at e3
      cases e3
      rw [e2] at e4
      have e5 : us = vs ∧ n = m := by simpa using e4
      exact e5.1
    subst e
    rw [ints_inj h1 h2, eqL_refl]
    exact EqAt.same _
  · have l1 := IntsAre.len h1
    have l2 := IntsAre.len h2
    have he : ∀ (j : Nat) (h1 : j < us.toArray.size) (h2 : j < vs.toArray.size), EqAt A.in1 s us.toArray[j] vs.toArray[j] (eqD ((r.map Dt.int).getD j .non) ((q.map Dt.int).getD j .non)) := fun j g1 g2 => by
      have g1 : j < us.length := by simpa using g1
      have g2 : j < vs.length := by simpa using g2
      obtain ⟨t1, e1⟩ := ints_at h1 j g1
      obtain ⟨t2, e2⟩ := ints_at h2 j g2
      have q1 : (r.map Dt.int).getD j .non = .int (r.getD j 0) := by
        rw [List.getD_eq_getElem?_getD, List.getElem?_map, List.getD_eq_getElem?_getD, List.getElem?_eq_getElem (by omega)]
        rfl
      have q2 : (q.map Dt.int).getD j .non = .int (q.getD j 0) := by
        rw [List.getD_eq_getElem?_getD, List.getElem?_map, List.getD_eq_getElem?_getD, List.getElem?_eq_getElem (by omega)]
        rfl
      have e1' : us.toArray[j] = .int (r.getD j 0) t1 := by simpa using e1
      have e2' : vs.toArray[j] = .int (q.getD j 0) t2 := by simpa using e2
      rw [q1, q2, e1', e2', eqD]
      exact EqAt.int_int _ _ _ _
    have rc := RcAt.tuples (A := A) hc hd hu he
    rw [List.size_toArray, List.size_toArray, l1, l2] at rc
    have := eqL_all (r.map Dt.int) (q.map Dt.int)
    rw [List.length_map, List.length_map] at this
    rw [this] at rc
    exact EqAt.of_refs hcd rc
theorem lt_pairs {prog : Program} {w : World} {A : Around} {E : Value → Shared → Prop} {s : Shared} {a b c d : Addr} {x y : Int} {t1 t3 : Tok} {us1 us2 : List Value} {r q : List Int} {Q : Value → Shared → Prop} (hu : A.units + 10 < cLine) (p1 : IsTup s.heap a [Value.int x t1, .ref c].toArray) (p2 : IsTup s.heap b [Value.int y t3, .ref d].toArray) (o1 : IsTup s.heap c us1.toArray) (o2 : IsTup s.heap d us2.toArray) (w1 : IntsAre us1 r) (w2 : IntsAre us2 q)
    (h : Q (.bool (lexL (x :: r) (y :: q))) s) : wpAny (model prog w) A (richCompare .Lt (.ref a) (.ref b)) Q E s := by
  obtain ⟨⟨oc, od, odt, osl⟩, e1, c1, n1, d1⟩ := p1
  obtain ⟨⟨pc, pd, pdt, psl⟩, e2, c2, n2, d2⟩ := p2
  subst c1 d1 c2 d2
  refine richCompare_meets_room (op := .Lt) ⟨_, e1, rfl⟩ ⟨_, e2, rfl⟩ F.slot_tuple_lt F.entry_tuple_lt (F.args_tuple_lt_2 _ _) (tuple_ltG a b _ _ n1 n2 od pd osl psl [((x == y), decide (x < y)), (eqL (r.map Dt.int) (q.map Dt.int), lexL r q)]) ⟨e1, e2, ?p, ?g⟩ (by omega)
  case p =>
    refine .cons (fun prog w E Q h => wpAny_eqBool_int h) (fun _ prog w E Q h => rc_lt_int h) (.cons ?_ (fun _ prog w E Q h => ?_) .nil)
    · exact eq_tups (by show A.units + 1 < cLine; omega) o1 o2 w1 w2
    · exact lt_tups (ns := r) (ms := q) (us := us1) (vs := us2) (by show A.units + 1 < cLine; omega) o1 o2 w1 w2 h
  case g =>
    refine ⟨fun z => (by cases z), ?_⟩
    have e : lexB (decide (([Value.int x t1, Value.ref c].toArray).size < ([Value.int y t3, Value.ref d].toArray).size)) [((x == y), decide (x < y)), (eqL (r.map Dt.int) (q.map Dt.int), lexL r q)] = lexL (x :: r) (y :: q) := by
      rw [lexB, lexL]
      by_cases hxy : x = y
      · rw [if_pos (by simpa using hxy), if_pos hxy, lexB, lexB]
        by_cases hq : eqL (r.map Dt.int) (q.map Dt.int) = true
        · rw [if_pos hq, eqL_ints hq, lexL_irr]
          rfl
        · rw [if_neg hq]
      · rw [if_neg (by simpa using hxy), if_neg hxy]
    rw [e]
    exact h
def RowsP (K : PySem.W.Frag) (H : Hp) (xs : List V) (T : List (List Int)) : Prop := xs.length = T.length ∧ ∀ (i : Nat) (row : List Int), T[i]? = some row → ∃ b c n r, row = n :: r ∧ xs[i]? = some (.ref b) ∧ SqT K H b [.int n, .ref c] ∧ SqT K H c (r.map V.int)
end L2
namespace L2
open PySem PySem.Spec PyProof.Rows
section
variable {X : Cx} {tg : Expr}
end
end L2
namespace L2
open PySem PySem.Spec PyProof.Rows
section
variable {X : Cx} {pins : List (Addr × Obj)} {σ : St} {H : Hp} {s : Shared}
theorem HOk.swap {P : Program} {w : World} {h : Heap} {d : Addr} {v u : HO} (ok : HOk P w H h) (hd : H d = some v) (hv1 : ∀ xs, v ≠ .tup xs) (hv2 : ∀ y, v ≠ .own y) (new : ObjOk P w (upd H d u) h d u) : HOk P w (upd H d u) h := fun b o e => by
  by_cases hb : b = d
  · subst hb; rw [upd_same] at e; cases e; exact new
  · rw [upd_ne hb] at e
    refine (ok b o e).stay (fun _ _ _ q => q) (fun c q => ?_) fun c xs q => ?_
    · rw [upd_ne (fun z => by subst z; rw [hd] at q; exact hv2 _ (Option.some.inj q))]; exact q
    · rw [upd_ne (fun z => by subst z; rw [hd] at q; exact hv1 _ (Option.some.inj q))]; exact q
end
theorem KV.len {κ : Type} : ∀ {l : List (κ × V)} {m : List (κ × Value)}, KV l m → l.length = m.length
  | _, _, .nil => rfl
  | _, _, .cons _ t => by rw [List.length_cons, List.length_cons, KV.len t]
theorem KV.at {κ : Type} : ∀ {l : List (κ × V)} {m : List (κ × Value)}, KV l m → ∀ {i : Nat} {k : κ} {x : Value}, m[i]? = some (k, x) → ∃ v, l[i]? = some (k, v)
  | _, _, .nil, _, _, _, h => by cases h
  | _, _, .cons (a := p) (b := q) r t, 0, k, x, h => by
    have e : q = (k, x) := by simpa using h
    exact ⟨p.2, by rw [List.getElem?_cons_zero, show p = (k, p.2) from Prod.ext (by rw [r.1, e]) rfl]⟩
  | _, _, .cons _ t, i + 1, k, x, h => KV.at t (i := i) (by simpa using h)
end L2
namespace L2
open PySem PySem.Spec PyProof.Rows
structure XCls (K : PySem.W.Frag) (C : Addr) : Prop where
  ga : PySem.W.findIn K (.ref C) "__getattribute__" = some (some (.builtin "BaseException.__getattribute__"))
  gn : PySem.W.findIn K (.ref C) "__getattr__" = some none
  cl : PySem.W.findIn K (.ref C) "__class__" = some (some (.builtin "object.__class__"))
  gt : PySem.W.specialIn K (.builtin "object.__class__") "__get__" = some (some (.builtin "getset_descriptor.__get__"))
  tk : PySem.W.takesIn K (.builtin "object.__class__") = some true
  ob : PySem.W.mroIn K C (.type "object") = some true
  bx : PySem.W.subIn K (.ref C) (.type "BaseException") = some true
  is : (PySem.W.clsIn K C).isSome = true
def XAt (h : Heap) (x C : Addr) : Prop := ∃ o, h.get? x = some o ∧ o.cls = .ref C
section
open Builtin Builtin.ObjectAttr Builtin.Getset_descriptor
variable {prog : Program} {w : World} {A : Around} {E : Value → Shared → Prop} {s : Shared} {K : PySem.W.Frag} {x C : Addr} {R : Result → Shared → Prop}
theorem XAt.type {M : Model} {h : Heap} (I : XAt h x C) : PySem.W.Looks M h (typeOf (.ref x)) (.ref C) := by
  obtain ⟨o, e, c⟩ := I
  exact c ▸ (PySem.W.Looks.ld e).andThen .now
end
section
variable {X : Cx}
end
section
variable {X : Cx} {x : Str} {np cpos pos p : Pos} {C : Addr} {E : XK} {m : Str} {j : Nat}
end
def lies (P : Program) (w : World) : CXT := fun outer H s E e s' =>
  ∃ (a : Addr) (cls a0 : Value) (H' : Hp) (B : Heap), e = .ref a ∧ s'.os = s.os ∧ AllBare s'.gens ∧ Un (frs outer) [] H H' s.heap s'.heap ∧ HOk P w H' s'.heap ∧
    Heap.FlyingW B outer a cls a0 s'.heap ∧ (∀ b o, s'.heap.get? b = some o → b ∉ frs outer → (H' b ≠ none ∨ ∃ o', s.heap.get? b = some o') → B.get? b = some o) ∧ E cls none H'
section
variable {X : Cx} {pins : List (Addr × Obj)} {σ : St} {H : Hp} {s : Shared} {E : XK} {a : Addr} {cls a0 : Value} {B h2 : Heap}
theorem ObjOk.there {P : Program} {w : World} {H : Hp} {h : Heap} {a : Addr} : ∀ {o : HO}, ObjOk P w H h a o → ∃ u, h.get? a = some u
  | .lst _, ⟨_, _, _, _, e⟩ => ⟨_, e⟩
  | .tup _, ⟨_, _, _, o, e, _⟩ => ⟨_, e⟩
  | .dK _, ⟨_, _, _, _, o, _, _, e, _⟩ => ⟨_, e⟩
  | .dT _, ⟨_, _, _, _, o, _, _, e, _⟩ => ⟨_, e⟩
  | .set _ _, ⟨o, _, _, _, e, _⟩ => ⟨_, e⟩
  | .ins _ _ _, ⟨_, _, _, e, _⟩ => ⟨_, e⟩
  | .own _, ⟨_, e⟩ => ⟨_, e⟩
  | .xd _, ⟨_, ⟨_, _, _, e, _⟩, _⟩ => ⟨_, e⟩
  | .rng _ _, ⟨_, _, _, e⟩ => ⟨_, e⟩
  | .frz _ _, ⟨e, _⟩ => ⟨_, e⟩
  | .tbl _, e => ⟨_, e⟩
  | .met _ _, e => ⟨_, e⟩
  | .ext _, ⟨_, e, _⟩ => e
end
section
variable {P : Program} {w : World} {K : PySem.W.Frag} {mg : Str → Option Value} {base : Heap} {N : List Str} {qual : Str} {scope : Scope} {f : Addr} {cd : Value} {A : Around} {outer : List Env} {s₀ : Shared} {H₀ : Hp} {E : XK}
end
end L2
namespace L2
open PySem PySem.Spec PyProof.Rows
section
variable {X : Cx} {pins : List (Addr × Obj)} {σ : St} {H : Hp} {s : Shared}
end
abbrev Cx.suite (X : Cx) (pn : List (Addr × Obj)) (a : Addr) : Cx := { X with pn := pn, xe := fun _ _ => False, A := X.A.mark (some (.ref a)), calm := false }
section
variable {X : Cx} {pins pn pins' : List (Addr × Obj)} {σ : St} {H H' : Hp} {s s' : Shared} {W : Value → Shared → Prop} {a C : Addr} {cls a0 : Value} {B h2 : Heap}
theorem Inv.suite (I : Inv X pins σ H s) (a : Addr) : Inv (X.suite (X.pn ++ pins) a) [] σ H s :=
  ⟨⟨I.ok.mod, I.ok.kind, I.ok.glob, I.ok.blt, I.ok.above, I.ok.inj, I.ok.has, I.ok.cab, (fun z => by cases z), I.ok.frames, I.ok.stk, I.ok.exf, I.ok.bs, I.ok.bsz, I.ok.noex, I.ok.exfs, I.ok.funs, I.ok.frf⟩, I.os, I.bare, I.base, I.loc, I.cell, I.free, I.freeC,
    fun p hp => I.pin p (by simpa using hp), I.hok, I.len⟩
end
section
variable {X : Cx} {x n : Str} {np pos hpos : Pos} {C0 : Addr} {ie ln : Nat} {tb : XK → TS} {th : TS} {body suite : List Stmt} {b₀ : Stmt}
end
end L2
namespace L2
open PySem PySem.Spec PyProof.Rows
section
variable {X : Cx} {st : Stmt} {t : TS} {x : Str} {np pos hpos cpos p : Pos} {C C0 : Addr} {E : XK} {m : Str} {j : Nat} {K : PySem.W.Frag}
theorem PS.nox (h : PS X.nox st t) : PS X st t := fun pins s σ H D I hw =>
  wpAny_mono (h pins s σ H D (I.wish _) hw) (fun _ _ q => q.unwish) fun _ _ z => False.elim z
theorem PA.nox {es : List Expr} {t : TA} (h : PA X.nox es t) : PA X es t := fun pos pins s σ H Q I hw =>
  wpAny_mono (h pos pins s σ H Q (I.wish _) hw) (fun _ _ ⟨vs, H', I', r, q⟩ => ⟨vs, H', I'.unwish, r, q⟩) fun _ _ z => False.elim z
end
structure DefX (P : Program) (w : World) (K : PySem.W.Frag) (mg : Str → Option Value) (base : Heap) (x : Str) (k : Nat) (ps : List Str) (sp : Sp) : Prop where
  ex : ∃ (f : Addr) (fd : FuncData), FnOk P w K mg base (lies P w) k f fd ps sp ∧ mg x = some (.ref f) ∧ PySem.W.keepIn K (.ref f) = true ∧ Binds K fd ps []
theorem DefX.mono {P : Program} {w : World} {K : PySem.W.Frag} {mg : Str → Option Value} {base : Heap} {x : Str} {j k : Nat} {ps : List Str} {sp : Sp} (D : DefX P w K mg base x j ps sp) (h : j ≤ k) : DefX P w K mg base x k ps sp := by
  obtain ⟨f, fd, F, r⟩ := D.ex
  exact ⟨f, fd, F.mono h, r⟩
section
variable {P : Program} {w : World} {K : PySem.W.Frag} {mg : Str → Option Value} {base : Heap}
end
end L2
namespace L2
open PySem
section
variable {X : Cx}
end
end L2
namespace L2
open PySem
end L2
namespace L2
open PySem
section
variable {P : Program} {w : World}
def IsPairKey (P : Program) (w : World) (h : Heap) (k : List Int × Int) (a : Addr) : Prop := ∃ o n b t, h.get? a = some o ∧ o.cls = .type "tuple" ∧ o.data = .seq #[.ref b, .int k.2 t] n ∧ IsTupleKey (intKind P w) h k.1 b
theorem IsPairKey.typeIs {s : Shared} {k : List Int × Int} {a : Addr} (x : IsPairKey P w s.heap k a) : s.TypeIs (.ref a) "tuple" := let ⟨o, _, _, _, ho, hc, _⟩ := x; ⟨o, ho, hc⟩
theorem IsPairKey.inj {h : Heap} {a : Addr} {x y : List Int × Int} (hx : IsPairKey P w h x a) (hy : IsPairKey P w h y a) : x = y := by
  obtain ⟨o, n, b, t, ho, _, hd, hi⟩ := hx
  obtain ⟨o', n', b', t', ho', _, hd', hi'⟩ := hy
  obtain rfl : o = o' := Option.some.inj (ho.symm.trans ho')
  rw [hd] at hd'
  injection hd' with h1 _
  have h2 : [Value.ref b, .int x.2 t] = [.ref b', .int y.2 t'] := congrArg Array.toList h1
  injection h2 with h3 h4
  injection h4 with h5 _
  injection h3 with h3
  injection h5 with h5 _
  subst h3
  exact Prod.ext (hi.inj hi') h5
theorem IsPairKey.keeps {h h' : Heap} {k : List Int × Int} {a d : Addr} {o : Obj} {es ep} (x : IsPairKey P w h k a) (ho : h.get? d = some o) (hd : o.data = .dict es ep) (hs : Heap.SameBut d h h') : IsPairKey P w h' k a := by
  obtain ⟨o', n, b, t, ho', hc, hd', hi⟩ := x
  have hne : a ≠ d := by
    rintro rfl
    obtain rfl : o' = o := Option.some.inj (ho'.symm.trans ho)
    rw [hd] at hd'; exact nomatch hd'
  exact ⟨o', n, b, t, (hs.2 a hne).trans ho', hc, hd', hi.keeps ho hd hs⟩
def pairHash (P : Program) (w : World) (k : List Int × Int) : Int := reduceHash (Builtin.Tuple.tupleHashOf [tupleKeyHash (intKind P w) k.1, (intKind P w).hash k.2])
variable {A : Around} {E : Value → Shared → Prop} {s : Shared}
theorem pyHash_pair {k : List Int × Int} {a : Addr} {Q : Int → Shared → Prop} (hu : A.units + 5 < cLine) (hk : IsPairKey P w s.heap k a) (h : Q (pairHash P w k) { s with toks := s.toks + (k.1.length + 3) }) :
    wpAny (model P w) A (pyHash (.ref a)) Q E s := by
  have hT := hk.typeIs
  obtain ⟨o, n, b, t, ho, _, hd, hi⟩ := hk
  unfold pyHash
  first | unfold pyHashByItsType | skip
  first | refine wpAny_bind (wpAny_cRoomFor_or (.inr (by omega)) ?_) | skip
  refine wpAny_bind (wpAny_specialOf hT F.slot_tuple_hash.lookup ?_)
  show wpAny _ _ (if (some (Value.builtin "tuple.__hash__") == some Value.none) = true then _ else _) Q E s
  rw [if_neg (by rw [beq_builtin_none]; exact Bool.false_ne_true)]
  refine wpAny_bind (wpAny_specialOf hT F.slot_tuple_hash.lookup ?_)
  show wpAny _ _ (callSpecialIfBoundUnlessNone? (.ref a) "__hash__" _ >>= _) Q E s
  refine wpAny_bind (wpAny_callSpecialIfBoundUnlessNone?_slot hT F.slot_tuple_hash (wpAny_call_entry F.slot_tuple_hash hT F.entry_tuple_hash ?_ (F.args_tuple_hash_1 _)))
  show wpAny _ _ (Builtin.Tuple.tupleItemsOf (.ref a) >>= _) _ _ s
  refine wpAny_bind (wpAny_tupleItemsOf ho hd ?_)
  refine wpAny_bind ?_
  rw [← Array.forIn_toList]
  show wpAny _ _ (forIn [Value.ref b, Value.int k.2 t] #[] _) _ _ s
  rw [List.forIn_cons]
  refine wpAny_bind (wpAny_bind (wpAny_pyHash_tuple (knd := intKind P w) (show A.units + 1 < cLine by omega) hi (wpAny_pure ?_)))
  show wpAny _ _ (forIn [Value.int k.2 t] #[tupleKeyHash (intKind P w) k.1] _) _ _ _
  rw [List.forIn_cons]
  refine wpAny_bind (wpAny_bind ((intKind P w).pyHash (k := k.2) (v := .int k.2 t) (by show Value.isInt k.2 (.int k.2 t) = true; unfold Value.isInt; exact beq_self_eq_true _) (wpAny_pure ?_)))
  show wpAny _ _ (forIn [] #[tupleKeyHash (intKind P w) k.1, (intKind P w).hash k.2] _) _ _ _
  rw [List.forIn_nil]
  refine wpAny_pure ?_
  show wpAny _ _ (retInt (Builtin.Tuple.tupleHashOf [tupleKeyHash (intKind P w) k.1, (intKind P w).hash k.2])) _ _ _
  refine wpAny_ret_mkInt ?_
  show wpAny _ _ (if (decide (-(2 : Int) ^ 63 ≤ Builtin.Tuple.tupleHashOf [tupleKeyHash (intKind P w) k.1, (intKind P w).hash k.2]) && decide (Builtin.Tuple.tupleHashOf [tupleKeyHash (intKind P w) k.1, (intKind P w).hash k.2] < 2 ^ 63)) = true then _ else _) Q E _
  unfold pairHash reduceHash at h
  by_cases hr : (decide (-(2 : Int) ^ 63 ≤ Builtin.Tuple.tupleHashOf [tupleKeyHash (intKind P w) k.1, (intKind P w).hash k.2]) && decide (Builtin.Tuple.tupleHashOf [tupleKeyHash (intKind P w) k.1, (intKind P w).hash k.2] < 2 ^ 63)) = true
  · rw [if_pos hr]
    rw [if_pos hr] at h
    exact wpAny_pure (by simpa [Nat.add_assoc] using h)
  · rw [if_neg hr]
    rw [if_neg hr] at h
    exact wpAny_bind (wpAny_rule (wpAny_pure (by simpa [Nat.add_assoc] using h)))
theorem pair_eq_tree {x y : List Int × Int} {a b : Addr} {Pd : Fin → Shared → Prop} (hu : A.units < cLine) (hx : IsPairKey P w s.heap x a) (hy : IsPairKey P w s.heap y b) (h : Pd (.done (.ret (.bool (decide (x = y))))) s) :
    wpAny (model P w) A (Builtin.«tuple.__eq__» ⟨[.ref a, .ref b], []⟩) Pd E s := by
  have hTb := hy.typeIs
  obtain ⟨oa, na, ia, ta, hoa, _, hda, hia⟩ := hx
  obtain ⟨ob, nb, ib, tb, hob, _, hdb, hib⟩ := hy
  show wpAny _ _ (isInstance (.ref b) (.type "tuple") >>= _) _ _ s
  refine wpAny_bind (wpAny_isInstance hTb isSubtype_tuple_tuple ?_)
  simp only [Bool.not_true, Bool.false_eq_true, if_false]
  refine wpAny_bind (wpAny_tupleItemsOf hoa hda ?_)
  refine wpAny_bind (wpAny_tupleItemsOf hob hdb ?_)
  refine wpAny_bind ?_
  show wpAny _ _ (forIn [(Value.ref ia, Value.ref ib), (Value.int x.2 ta, Value.int y.2 tb)] _ _) _ _ s
  rw [List.forIn_cons]
  refine wpAny_bind (wpAny_bind (wpAny_eqBool_tuple (knd := intKind P w) hu hia hib ?_))
  by_cases h1 : x.1 = y.1
  · rw [decide_eq_true h1]
    simp only [Bool.not_true, Bool.false_eq_true, if_false]
    refine wpAny_pure ?_
    show wpAny _ _ (forIn [(Value.int x.2 ta, Value.int y.2 tb)] _ _) _ _ s
    rw [List.forIn_cons]
    refine wpAny_bind (wpAny_bind (wpAny_eqBool_int ?_))
    by_cases h2 : x.2 = y.2
    · rw [show (x.2 == y.2) = true by rw [h2]; exact beq_self_eq_true _]
      simp only [Bool.not_true, Bool.false_eq_true, if_false]
      refine wpAny_pure ?_
      show wpAny _ _ (forIn [] _ _) _ _ s
      rw [List.forIn_nil]
      refine wpAny_pure (wpAny_pure ?_)
      have e : decide (x = y) = true := decide_eq_true (Prod.ext h1 h2)
      rw [e] at h
      exact h
    · rw [show (x.2 == y.2) = false by exact beq_false_of_ne h2]
      simp only [Bool.not_false, if_true]
      have e : decide (x = y) = false := decide_eq_false fun z => h2 (congrArg Prod.snd z)
      rw [e] at h
      exact wpAny_bind (wpAny_pure (wpAny_pure (wpAny_pure (wpAny_pure h))))
  · rw [decide_eq_false h1]
    simp only [Bool.not_false, if_true]
    have e : decide (x = y) = false := decide_eq_false fun z => h1 (congrArg Prod.fst z)
    rw [e] at h
    exact wpAny_bind (wpAny_pure (wpAny_pure (wpAny_pure (wpAny_pure h))))
theorem eqBool_pair {x y : List Int × Int} {a b : Addr} {Q : Bool → Shared → Prop} (hu : A.units + 5 < cLine) (hx : IsPairKey P w s.heap x a) (hy : IsPairKey P w s.heap y b) (h : Q (decide (x = y)) s) :
    wpAny (model P w) A (eqBool (.ref a) (.ref b)) Q E s := by
  unfold eqBool
  try with_reducible refine wpAny_holding ?_
  show wpAny _ _ (if (Value.ref a == Value.ref b) = true then _ else _) Q E s
  by_cases hab : (Value.ref a == Value.ref b) = true
  · rw [if_pos hab]
    have e : a = b := by have := eq_of_beq hab; injection this
    subst e
    obtain rfl := hx.inj hy
    exact wpAny_bind (wpAny_rule (wpAny_pure (by simpa using h)))
  · rw [if_neg hab]
    exact wpAny_bind (wpAny_richCompare_same_room (op := .Eq) hx.typeIs hy.typeIs F.slot_tuple_eq
      (wpAny_call_entry F.slot_tuple_eq hx.typeIs F.entry_tuple_eq (pair_eq_tree (show A.units + 1 < cLine by omega) hx hy ⟨_, rfl, (fun e => nomatch e), wpAny_truthy_bool h⟩) (F.args_tuple_eq_2 _ _)) (by omega))
theorem quiet_in {ks : List Int} {a : Addr} {m : Nat} {Q : Bool → Shared → Prop} (hk : IsTupleKey (intKind P w) s.heap ks a) (h : Q true s) : wpAny (model P w) A (eqIsQuiet (m + 1) (.ref a)) Q E s := by
  have hT := hk.typeIs
  obtain ⟨o, items, n, ho, _, hd, hi⟩ := hk
  unfold eqIsQuiet
  refine wpAny_bind (wpAny_specialOf hT F.slot_tuple_eq.lookup ?_)
  show wpAny _ _ (isInstance (.ref a) (.type "tuple") >>= _) _ _ s
  refine wpAny_bind (wpAny_isInstance hT isSubtype_tuple_tuple ?_)
  simp only [Bool.not_true, Bool.false_eq_true, if_false]
  refine wpAny_bind (wpAny_seqItems ho hd ?_)
  refine wpAny_bind ?_
  show wpAny _ _ (forIn items _ _) _ _ s
  rw [← Array.forIn_toList]
  refine wpAny_forIn_list _ (fun rest r s' => r.1 = none ∧ s' = s ∧ ∀ v ∈ rest, carriedByValue v = true) _ ?_ ?_ _ _ ⟨rfl, rfl, hi.byValue⟩
  · rintro v rest r s' ⟨hr, rfl, hall⟩
    rw [eqIsQuiet_byValue _ (hall v List.mem_cons_self)]
    refine wpAny_bind (wpAny_pure ?_)
    simp only [Bool.not_true, Bool.false_eq_true, if_false]
    exact wpAny_pure ⟨rfl, rfl, fun u hu' => hall u (List.mem_cons_of_mem _ hu')⟩
  · rintro ⟨r1, r2⟩ s' ⟨hr, rfl, _⟩
    simp only at hr
    subst hr
    exact wpAny_pure h
theorem quiet_pair {k : List Int × Int} {a : Addr} {Q : Bool → Shared → Prop} (hk : IsPairKey P w s.heap k a) (h : Q true s) : wpAny (model P w) A (eqIsQuiet 8 (.ref a)) Q E s := by
  have hT := hk.typeIs
  obtain ⟨o, n, b, t, ho, _, hd, hi⟩ := hk
  unfold eqIsQuiet
  refine wpAny_bind (wpAny_specialOf hT F.slot_tuple_eq.lookup ?_)
  show wpAny _ _ (isInstance (.ref a) (.type "tuple") >>= _) _ _ s
  refine wpAny_bind (wpAny_isInstance hT isSubtype_tuple_tuple ?_)
  simp only [Bool.not_true, Bool.false_eq_true, if_false]
  refine wpAny_bind (wpAny_seqItems ho hd ?_)
  refine wpAny_bind ?_
  show wpAny _ _ (forIn #[Value.ref b, Value.int k.2 t] _ _) _ _ s
  rw [← Array.forIn_toList]
  show wpAny _ _ (forIn [Value.ref b, Value.int k.2 t] _ _) _ _ s
  rw [List.forIn_cons]
  refine wpAny_bind (wpAny_bind (quiet_in hi ?_))
  simp only [Bool.not_true, Bool.false_eq_true, if_false]
  refine wpAny_pure ?_
  show wpAny _ _ (forIn [Value.int k.2 t] _ _) _ _ s
  rw [List.forIn_cons, eqIsQuiet_byValue _ (v := Value.int k.2 t) rfl]
  refine wpAny_bind (wpAny_bind (wpAny_pure ?_))
  simp only [Bool.not_true, Bool.false_eq_true, if_false]
  refine wpAny_pure ?_
  show wpAny _ _ (forIn [] _ _) _ _ s
  rw [List.forIn_nil]
  exact wpAny_pure (wpAny_pure h)
def pairKind (P : Program) (w : World) : HeapKind P w (List Int × Int) where
  is := IsPairKey P w
  hash := pairHash P w
  draws := fun k => k.1.length + 3
  room := fun A => A.units + 5 < cLine
  inj := fun hx hy => hx.inj hy
  keeps := fun x ho hd hs => x.keeps ho hd hs
  pyHash := fun hu hk h => pyHash_pair hu hk h
  eqBool := fun hu hx hy h => eqBool_pair hu hx hy h
  quiet := fun hk h => quiet_pair hk h
end
end L2
namespace L2
open PySem
abbrev PKy := List Int × Int
abbrev PEs := List (PKy × Addr × V)
def pairH (k : PKy) : Int := reduceHash (Builtin.Tuple.tupleHashOf [reduceHash (Builtin.Tuple.tupleHashOf (k.1.map hashInt)), hashInt k.2])
abbrev PRel (p : PKy × Addr × V) (q : PKy × Addr × Value) : Prop := p.1 = q.1 ∧ p.2.1 = q.2.1 ∧ RelV p.2.2 q.2.2
def dpP (a : Addr) (xs : PEs) (ep : Nat) (h : Heap) : Prop := xs.length ≤ sizeLine ∧ (a == sysModules) = false ∧ ∃ ys : List (PKy × Addr × Value), Paired PRel xs ys ∧
  ∃ o es, h.get? a = some o ∧ o.ExactDict ∧ o.data = .dict es ep ∧ es.toList = ys.map (fun y => (⟨pairH y.1, .ref y.2.1, y.2.2⟩ : DictEntry)) ∧ (ys.map (·.1)).Nodup
def dpO (a : Addr) (xs : PEs) (ep : Nat) : HO := .ext (dpP a xs ep)
def KeyP (H : Hp) (k : PKy) (c : Addr) : Prop := ∃ b, H c = some (.tup [.ref b, .int k.2]) ∧ H b = some (.tup (k.1.map V.int))
def DP (H : Hp) (a : Addr) (xs : PEs) (ep : Nat) : Prop := H a = some (dpO a xs ep) ∧ ∀ x ∈ xs, KeyP H x.1 x.2.1
section
variable {P : Program} {w : World} {H : Hp} {h : Heap} {a c : Addr} {k : PKy} {xs : PEs}
theorem ints_items : ∀ {ns : List Int} {its : List Value}, Vals (ns.map V.int) its → ItemsAre (intKind P w) ns its
  | [], _, .nil => .nil
  | n :: ns, _, .cons r t => by
    obtain ⟨tk, rfl⟩ := r
    exact .cons (by show Value.isInt n (.int n tk) = true; unfold Value.isInt; exact beq_self_eq_true _) (ints_items t)
theorem KeyP.is (ok : HOk P w H h) (e : KeyP H k c) : (pairKind P w).is h k c := by
  obtain ⟨b, e1, e2⟩ := e
  obtain ⟨_, its, r, o, h1, h2, ⟨n, h3⟩, _⟩ := (show ObjOk P w H h c (.tup [.ref b, .int k.2]) from ok c _ e1)
  obtain ⟨_, its', r', o', h1', h2', ⟨n', h3'⟩, _⟩ := (show ObjOk P w H h b (.tup (k.1.map V.int)) from ok b _ e2)
  obtain ⟨u, v, rfl, ru, rv⟩ := r.two
  obtain rfl : u = Value.ref b := ru
  obtain ⟨t, rfl⟩ := rv
  exact ⟨o, n, b, t, h1, h2, h3, o', its'.toArray, n', h1', h2', h3', by simpa using ints_items r'⟩
theorem DP.of {ep : Nat} (ok : HOk P w H h) (e : DP H a xs ep) : xs.length ≤ sizeLine ∧ (a == sysModules) = false ∧ ∃ ys, Paired PRel xs ys ∧ h.DictOfH (pairKind P w) a ys := by
  obtain ⟨z, y, ys, r, o, es, h1, h2, h3, h4, h5⟩ := (show dpP a xs ep h from (ok a _ e.1).1)
  refine ⟨z, y, ys, r, o, es, ep, h1, h2, h3, h4, ?_, h5⟩
  have all : ∀ {l : PEs} {m : List (PKy × Addr × Value)}, Paired PRel l m → (∀ x ∈ l, KeyP H x.1 x.2.1) → ∀ x ∈ m, (pairKind P w).is h x.1 x.2.1 := by
    intro l m q
    induction q with
    | nil => intro _ x hx; exact nomatch hx
    | @cons p q ps qs hq t ih =>
      intro hk x hx
      rcases List.mem_cons.mp hx with e | hx
      · subst e
        have := hk p (List.mem_cons_self ..)
        rw [hq.1, hq.2.1] at this
        exact this.is ok
      · exact ih (fun x hx => hk x (List.mem_cons_of_mem _ hx)) x hx
  exact all r e.2
end
def KeyQ (K : PySem.W.Frag) (H : Hp) (k : PKy) (c : Addr) : Prop := ∃ b, SqT K H c [.ref b, .int k.2] ∧ SqT K H b (k.1.map V.int)
theorem KeyP.q {K : PySem.W.Frag} {H : Hp} {k : PKy} {c : Addr} (e : KeyP H k c) : KeyQ K H k c := let ⟨b, h1, h2⟩ := e; ⟨b, .of h1, .of h2⟩
theorem KeyQ.is {X : Cx} {pins : List (Addr × Obj)} {σ : St} {H : Hp} {s : Shared} {k : PKy} {c : Addr} (I : Inv X pins σ H s) (e : KeyQ X.K H k c) : (pairKind X.prog X.w).is s.heap k c := by
  obtain ⟨b, e1, e2⟩ := e
  obtain ⟨its, r, ⟨o, h1, h2, n, h3⟩, _⟩ := I.tuple e1
  obtain ⟨its', r', ⟨o', h1', h2', n', h3'⟩, _⟩ := I.tuple e2
  obtain ⟨u, v, rfl, ru, rv⟩ := r.two
  obtain rfl : u = Value.ref b := ru
  obtain ⟨t, rfl⟩ := rv
  exact ⟨o, n, b, t, h1, h2, h3, o', its'.toArray, n', h1', h2', h3', by simpa using ints_items r'⟩
section
variable {X : Cx} {o i value : Expr} {pos pos' : Pos} {td ty tv : TE}
end
end L2
namespace L2
open PySem PySem.Spec PyProof.Rows
section
variable {prog : Program} {w : World} {A : Around} {E : Value → Shared → Prop} {s : Shared} {d : Addr} {o : Obj} {es : Array DictEntry} {ep : Nat}
end
end L2
namespace L2
open PySem PySem.Spec PyProof.Rows
end L2
namespace L2
open PySem
theorem samePut {H H' : Hp} {p : Addr} {o : HO} (h : H p = none) (s : Same H H') : Same H (upd H' p o) := fun b u e => by rw [upd_ne (ne_of_none e h)]; exact s _ _ e
section
variable {K : PySem.W.Frag}
end
end L2
namespace L2
open PySem
open PySem.SeqAt
section
variable {X : Cx}
end
end L2
namespace L2
open PySem PySem.W PyProof.Rows
section
variable (r : Nat → Int)
variable {r}
end
end L2
namespace L2
open PySem PySem.W PyProof.Rows
section
variable {N : Nat}
def Bnd (N : Nat) (p : Array Nat) : Prop := ∀ k, p.getD k 0 < N
def AskP (N : Nat) {α : Type} (P : α → Prop) : KasT α → Prop
  | .ret a => P a
  | .ask i j k => i < N ∧ j < N ∧ ∀ b, AskP N P (k b)
theorem AskP.bind {α β : Type} {f : α → KasT β} {P : α → Prop} {Q : β → Prop} (hf : ∀ a, P a → AskP N Q (f a)) : ∀ t : KasT α, AskP N P t → AskP N Q (t.bind f)
  | .ret a, h => hf a h
  | .ask i j k, h => ⟨h.1, h.2.1, fun b => AskP.bind hf (k b) (h.2.2 b)⟩
end
end L2
namespace L2
open PySem PySem.W PyProof.Rows
def TupsAt (h : Heap) (vs : List Value) (R : List (List Int)) : Prop := vs.length = R.length ∧ ∀ (i : Nat) (row : List Int), R[i]? = some row → ∃ x us, vs[i]? = some (.ref x) ∧ IsTup h x us.toArray ∧ IntsAre us row
section
variable {prog : Program} {w : World} {A : Around} {E : Value → Shared → Prop} {s : Shared}
theorem TupsAt.keep {h h' : Heap} {vs : List Value} {R : List (List Int)} (hv : TupsAt h vs R) (k : ∀ x us, IsTup h x us → IsTup h' x us) : TupsAt h' vs R :=
  ⟨hv.1, fun i row hr => by obtain ⟨x, us, e1, e2, e3⟩ := hv.2 i row hr; exact ⟨x, us, e1, k _ _ e2, e3⟩⟩
end
end L2
namespace L2
open PySem PySem.W PyProof.Rows
section
variable {prog : Program} {w : World} {A : Around} {E : Value → Shared → Prop} {s : Shared}
end
end L2
namespace L2
open PySem PyProof.Rows
section
variable {X : Cx}
end
end L2
namespace L2
open PySem PyProof.Rows
section
variable {X : Cx}
end
end L2
namespace L2
open PySem PySem.Spec PyProof.Rows
section
variable {prog : Program} {w : World} {A : Around} {E : Value → Shared → Prop} {s : Shared} {d : Addr} {o : Obj} {es : Array DictEntry} {ep : Nat}
abbrev keyI (d : Addr) (n ep : Nat) : Obj := { cls := .type "dict_keyiterator", data := .fields #[.ref d, .int 0 0, .int n 0, .int ep 0] }
theorem iter_keysO {Q : Value → Shared → Prop} (hd : (d == sysModules) = false) (ho : s.heap.get? d = some o) (hc : o.ExactDict) (hdat : o.data = .dict es ep) (h : Q (.ref s.heap.objs.size) { s with heap := s.heap.push (keyI d es.size ep) }) : wpAny (model prog w) A (pyIter (.ref d)) Q E s := by
  have hT : s.TypeIs (.ref d) "dict" := ⟨o, ho, hc.1⟩
  refine wpAny_pyIter_slot hT F.slot_dict_iter (wpAny_call_entry F.slot_dict_iter hT F.entry_dict_iter ?g (F.args_dict_iter_1 _))
  case g =>
  unfold Builtin.«dict.__iter__» Builtin.Dict.dictSlotNone
  refine wpAny_bind (wpAny_bind (wpAny_notOrdered_dict hT (wpAny_pure ?g)))
  case g =>
  show wpAny _ _ (Builtin.Dict.showsAll d >>= _) _ _ s
  unfold Builtin.Dict.showsAll; rw [if_neg (by rw [hd]; exact Bool.false_ne_true)]
  refine wpAny_bind (wpAny_pure (wpAny_bind (wpAny_dictEntries ho hdat (wpAny_bind (wpAny_dictEpoch ho hdat (wpAny_bind (wpAny_newObj_type (wpAny_pure ⟨_, rfl, "dict_keyiterator", _, ⟨_, Heap.get?_push_size _ rfl, rfl⟩, F.slot_dict_keyiterator_next.lookup, ?g⟩))))))))
  case g => simpa [rawInt] using h
theorem next_keysO {it : Addr} {i : Nat} {e : DictEntry} {Q : Option Value → Shared → Prop} (hit : s.heap.IsKeyIter it d i es.size ep) (ho : s.heap.get? d = some o) (hdat : o.data = .dict es ep) (hx : es[i]? = some e)
    (q : ∀ h', h'.IsKeyIter it d (i + 1) es.size ep → Heap.SameBut it s.heap h' → Q (some e.key) { s with heap := h' }) : wpAny (model prog w) A (pyNext (.ref it)) Q E s := by
  have hT := hit.typeIs
  obtain ⟨oi, hi1, hi2, hi3⟩ := id hit
  unfold pyNext
  refine wpAny_bind (wpAny_attempt (wpAny_callSpecial?_slot (name := Str.ofString "__next__") hT F.slot_dict_keyiterator_next (wpAny_call_entry F.slot_dict_keyiterator_next hT F.entry_dict_keyiterator_next ?g (F.args_dict_keyiterator_next_1 _))))
  case g =>
  refine wpAny_bind (wpAny_pure (wpAny_bind (wpAny_bind ?g)))
  case g =>
  first | refine wpAny_bind (wpAny_typeNameOfWhole_keyiter hT (wpAny_pure (wpAny_bind (wpAny_fieldsOf hi1 hi3 ?g)))) | refine wpAny_bind (wpAny_typeNameOf_keyiter hT (wpAny_pure (wpAny_bind (wpAny_fieldsOf hi1 hi3 ?g))))
  case g =>
  simp only [show Builtin.Dict_items.ownsTuple "dict_keyiterator" = false by decide, Bool.false_eq_true, if_false]
  show wpAny _ _ (if (Value.ref d == Value.none) = true then _ else _) _ _ _
  rw [if_neg (by exact Bool.false_ne_true)]
  refine wpAny_bind (wpAny_pure (wpAny_bind (wpAny_dictEntries ho hdat ?g)))
  case g =>
  rw [if_neg (by simp)]
  refine wpAny_bind (wpAny_pure (wpAny_bind (wpAny_dictEpoch ho hdat ?g)))
  case g =>
  rw [if_neg (by simp)]
  refine wpAny_pure ?g
  case g =>
  have lt : i < es.size := by
    rcases Nat.lt_or_ge i es.size with h | h
    · exact h
    · rw [Array.getElem?_eq_none h] at hx; cases hx
  rw [Array.getElem?_eq_getElem lt] at hx
  have hx := Option.some.inj hx
  simp only [show ¬ ((i : Int) < 0) from by omega, if_false, Int.toNat_natCast, Array.getElem?_eq_getElem lt, hx]
  refine wpAny_bind ?g
  case g =>
  first | refine wpAny_bind (wpAny_typeNameOfWhole_keyiter hT (wpAny_pure (wpAny_bind (wpAny_isOneOf_keyiter hT ?g)))) | refine wpAny_bind (wpAny_typeNameOf_keyiter hT (wpAny_pure (wpAny_bind (wpAny_isOneOf_keyiter hT ?g))))
  case g =>
  show wpAny _ _ (setField (.ref it) 1 (rawInt ((i : Int) + 1)) >>= _) _ _ s
  refine wpAny_bind (wpAny_setField hi1 hi3 (by simp) ?g)
  case g =>
  have n1 : (s.heap.update it (Obj.mapFields (·.setIfInBounds 1 (rawInt ((i : Int) + 1))))).IsKeyIter it d (i + 1) es.size ep :=
    ⟨_, Heap.get?_update_self _ hi1 (Obj.isFreed_of_fields (Obj.data_mapFields hi3 _)), (Obj.cls_mapFields ..).trans hi2, by rw [Obj.data_mapFields hi3]; simp [rawInt]⟩
  refine wpAny_bind (wpAny_holding (wpAny_bind (wpAny_isOneOf_keyiter (s := { s with heap := s.heap.update it (Obj.mapFields (·.setIfInBounds 1 (rawInt ((i : Int) + 1)))) }) n1.typeIs ?g)))
  case g =>
  show wpAny _ _ (pure e.key) _ _ _
  exact wpAny_pure (wpAny_pure ⟨_, rfl, wpAny_pure (q _ n1 (Heap.SameBut.update ..))⟩)
theorem end_keysO {it : Addr} {Q : Option Value → Shared → Prop} (hh : A.handled = none) (hit : s.heap.IsKeyIter it d es.size es.size ep) (ho : s.heap.get? d = some o) (hdat : o.data = .dict es ep)
    (q : ∀ h', Heap.ExtBut it s.heap h' → Q none { s with heap := h' }) : wpAny (model prog w) A (pyNext (.ref it)) Q E s := by
  have hT := hit.typeIs
  obtain ⟨oi, hi1, hi2, hi3⟩ := id hit
  unfold pyNext
  refine wpAny_bind (wpAny_attempt (wpAny_callSpecial?_slot (name := Str.ofString "__next__") hT F.slot_dict_keyiterator_next (wpAny_call_entry F.slot_dict_keyiterator_next hT F.entry_dict_keyiterator_next ?g (F.args_dict_keyiterator_next_1 _))))
  case g =>
  refine wpAny_bind (wpAny_pure (wpAny_bind (wpAny_bind ?g)))
  case g =>
  first | refine wpAny_bind (wpAny_typeNameOfWhole_keyiter hT (wpAny_pure (wpAny_bind (wpAny_fieldsOf hi1 hi3 ?g)))) | refine wpAny_bind (wpAny_typeNameOf_keyiter hT (wpAny_pure (wpAny_bind (wpAny_fieldsOf hi1 hi3 ?g))))
  case g =>
  simp only [show Builtin.Dict_items.ownsTuple "dict_keyiterator" = false by decide, Bool.false_eq_true, if_false]
  show wpAny _ _ (if (Value.ref d == Value.none) = true then _ else _) _ _ _
  rw [if_neg (by exact Bool.false_ne_true)]
  refine wpAny_bind (wpAny_pure (wpAny_bind (wpAny_dictEntries ho hdat ?g)))
  case g =>
  rw [if_neg (by simp)]
  refine wpAny_bind (wpAny_pure (wpAny_bind (wpAny_dictEpoch ho hdat ?g)))
  case g =>
  rw [if_neg (by simp)]
  refine wpAny_pure ?g
  case g =>
  simp only [show ¬ ((es.size : Int) < 0) from by omega, if_false, Int.toNat_natCast, Array.getElem?_eq_none (Nat.le_refl es.size)]
  refine wpAny_bind ?g
  case g =>
  first | refine wpAny_bind (wpAny_typeNameOfWhole_keyiter hT (wpAny_pure ?g)) | refine wpAny_bind (wpAny_typeNameOf_keyiter hT (wpAny_pure ?g))
  case g =>
  show wpAny _ _ (setField (.ref it) 0 .none >>= _) _ _ s
  refine wpAny_bind (wpAny_setField hi1 hi3 (by simp) ?g)
  case g =>
  show wpAny _ _ (newExc (.type "StopIteration") [] >>= _) _ _ _
  simp only [newExc, newTuple]
  refine wpAny_bind (wpAny_bind (wpAny_newObj_type (wpAny_bind (m := firstArgMember _ _) (wpAny_of_eq (a := Value.none) (by first | rfl | (simp only [firstArgMember]; rfl)) (wpAny_newObj_type ?g (by size_fits)))) (by size_fits)))
  case g =>
  simp only [raiseNew]
  refine wpAny_bind (wpAny_handled ?g)
  case g =>
  rw [show A.in1.handled = none from hh]
  refine wpAny_bind (wpAny_pure (wpAny_throw ?z))
  case z => refine wpAny_bind (wpAny_isInstance (T := "StopIteration") (b := true) ⟨_, Heap.get?_push_size _ rfl, rfl⟩ isSubtype_stop ?z)
            case z => exact wpAny_pure (q _ (((Heap.SameBut.update ..).extBut.push _).push _))
end
end L2
namespace L2
open PySem PySem.Spec PyProof.Rows
theorem Inv.freezeT {X : Cx} {pins : List (Addr × Obj)} {σ : St} {H : Hp} {s : Shared} {d : Addr} {kvs : List (List Key × V)} {o : Obj} (I : Inv X pins σ H s) (hd : H d = some (.dT kvs)) (ho : s.heap.get? d = some o) : Inv X pins σ (upd H d (.frz o (.dT kvs))) s := by
  have ne : ∀ b, H b = none → b ≠ d := fun b e z => by subst z; rw [hd] at e; cases e
  refine I.step (h' := s.heap) (g' := s.gens) (d' := s.drawn) (t' := s.toks) (ch := []) (fun _ z => nomatch z) (fun b o _ _ _ e _ => e) (fun b o _ _ _ e _ => ⟨o.slots, e⟩) (fun b o _ _ e => by rw [upd_ne (ne b e)]; exact e) (fun b o _ e => ⟨o, e⟩) (fun b xs e => ?_) (fun b o u e => ?_) (fun b ps e => ?_) (fun m hm => hm) ?_ I.bare
  · rw [upd_ne (fun z => by subst z; rw [hd] at e; cases e)]; exact e
  · rw [upd_ne (fun z => by subst z; rw [hd] at e; cases e)]; exact e
  · exact ⟨#[], by rw [upd_ne (fun z => by subst z; rw [hd] at e; cases e), e]; simp⟩
  · refine I.hok.swap hd (fun _ z => by cases z) (fun _ z => by cases z) ⟨ho, ?_⟩
    refine (I.hok d _ hd).stay (fun _ _ _ q => q) (fun c q => ?_) fun c xs q => ?_
    · rw [upd_ne (fun z => by subst z; rw [hd] at q; cases q)]; exact q
    · rw [upd_ne (fun z => by subst z; rw [hd] at q; cases q)]; exact q
def ItkT (d : Addr) (o : Obj) (kvs : List (List Key × V)) : It := ⟨fun i H => i < kvs.length ∧ H d = some (.frz o (.dT kvs)), fun i H x H' => H' = H ∧ ∃ ks v c, kvs[i]? = some (ks, v) ∧ x = .ref c ∧ H c = some (.tup (ks.map kV)), fun i H => i = kvs.length ∧ H d = some (.frz o (.dT kvs))⟩
theorem paired_at {α β : Type} {F : α → β → Prop} : ∀ {l : List α} {m : List β}, Paired F l m → ∀ {i : Nat} {x : α}, l[i]? = some x → ∃ y, m[i]? = some y ∧ F x y
  | _, _, .nil, _, _, h => by cases h
  | _, _, .cons r t, 0, x, h => by
    simp only [List.getElem?_cons_zero, Option.some.injEq] at h
    subst h
    exact ⟨_, by simp, r⟩
  | _, _, .cons _ t, i + 1, x, h => by
    obtain ⟨y, e, r⟩ := paired_at t (i := i) (by simpa using h)
    exact ⟨y, by simpa using e, r⟩
theorem dt_at {P : Program} {w : World} {H : Hp} {h : Heap} {d : Addr} {o : Obj} {kvs : List (List Key × V)} (ok : HOk P w H h) (hd : H d = some (.frz o (.dT kvs))) : (d == sysModules) = false ∧ h.get? d = some o ∧ o.ExactDict ∧ ∃ es ep, o.data = .dict es ep ∧ es.size = kvs.length ∧ ∀ (i : Nat) (x : List Key × V), kvs[i]? = some x → ∃ (e : DictEntry) (c : Addr), es[i]? = some e ∧ e.key = .ref c ∧ H c = some (.tup (x.1.map kV)) := by
  obtain ⟨e1, z, y, xs, r, o', es, ep, h1, h2, h3, h4, h5⟩ := ok d _ hd
  rw [e1] at h1
  cases h1
  have hl : kvs.length = xs.length := Paired.length r
  refine ⟨y, e1, h2, es, ep, h3, by rw [hl, ← Array.length_toList, h4, List.length_map], fun i x hx => ?_⟩
  obtain ⟨q, hq, rq⟩ := paired_at r hx
  refine ⟨entryOfKey (tupleKind (mixKind P w)) q, q.2.1, by rw [← Array.getElem?_toList, h4, List.getElem?_map, hq]; rfl, rfl, rq.2.1⟩
theorem turn_keysT {P : Program} {w : World} {K : PySem.W.Frag} {tg : Expr} {d it : Addr} {o : Obj} {kvs : List (List Key × V)} {es : Array DictEntry} {ep : Nat} (hne : d ≠ it) (hdat : o.data = .dict es ep) (hz : es.size = kvs.length) : Turn P w K tg (ItkT d o kvs) [it] it (fun i h => h.IsKeyIter it d i kvs.length ep) where
  mem := by simp
  obj := fun i h st b hb => by
    have e : b = it := by simpa using hb
    subst e
    obtain ⟨o, e, c, d⟩ := st
    exact ⟨o, e, fun v z => by rw [d] at z; cases z⟩
  keep := fun i h h' st k => by
    obtain ⟨o, e, c⟩ := st
    exact ⟨o, k it (by simp) o e, c⟩
  item := by
    intro X hP hw hK hc i pins s σ H E I hf st hg
    subst hP hw hK
    obtain ⟨hi, hd⟩ := hg
    obtain ⟨_, h1, h2, es', ep', h3, _, hat⟩ := dt_at I.hok hd
    rw [hdat] at h3
    cases h3
    obtain ⟨e, c, he, ek, hc'⟩ := hat i kvs[i] (List.getElem?_eq_getElem hi)
    obtain ⟨f0, f1, f2, f3, f4, f5⟩ := hf it (by simp)
    rw [← hz] at st
    refine next_keysO st h1 hdat he fun h' st' sb => ?_
    have I1 : Inv X pins σ H { s with heap := h' } := I.turned (t' := s.toks) (fun b o hb e => sb.extBut b o hb e) f0 f1 f3 f4 f5
    rw [hz] at st'
    obtain ⟨o1, e1, c1, d1⟩ := id st'
    refine ⟨e.key, rfl, go_of (s := { s with heap := h' }) e1 c1 d1 (by decide) ⟨.ref c, H, I1, ek, ⟨rfl, _, _, c, List.getElem?_eq_getElem hi, rfl, hc'⟩, st', fun b hb => (hf b hb).1⟩⟩
  done := by
    intro X hP hw hK hc i pins s σ H E I hf st hg
    subst hP hw hK
    obtain ⟨hi, hd⟩ := hg
    subst hi
    obtain ⟨_, h1, h2, es', ep', h3, _, _⟩ := dt_at I.hok hd
    obtain ⟨f0, f1, f2, f3, f4, f5⟩ := hf it (by simp)
    rw [← hz] at st
    refine end_keysO (I.ok.hd hc) st h1 hdat fun h' kp => ⟨rfl, I.turned (t' := s.toks) (fun b o hb e => kp b o hb e) f0 f1 f3 f4 f5⟩
  self := fun _ _ _ _ _ st h => wpAny_pyIter_keyiter st h
def iKeysT (td : TE) : TI := fun σ H R => td σ H fun x H1 => ∃ d kvs, x = .ref d ∧ H1 d = some (.dT kvs) ∧ ∀ o, R (ItkT d o kvs) (upd H1 d (.frz o (.dT kvs)))
theorem pi_keysT {X : Cx} {tg e : Expr} {td : TE} (he : PE X e td) : PI X tg e (iKeysT td) := by
  intro pins s σ H R I h
  refine thn (he pins s σ H _ I h) fun v s1 ⟨x, H1, I1, r1, d, kvs, ex, hd, q1⟩ => ?_
  subst ex
  obtain rfl : v = Value.ref d := r1
  obtain ⟨z, y, xs, r, ob, es, ep, h1, h2, h3, h4, h5⟩ := I1.hok d _ hd
  have hl : kvs.length = xs.length := Paired.length r
  have hz : es.size = kvs.length := by rw [hl, ← Array.length_toList, h4, List.length_map]
  refine iter_keysO y h1 h2 h3 ?_
  have I2 := (I1.freezeT hd h1)
  have I3 : Inv X pins σ (upd H1 d (.frz ob (.dT kvs))) { s1 with heap := s1.heap.push (keyI d es.size ep) } := I2.kept (t' := s1.toks) fun b o e => Heap.get?_push_of_some _ e
  have hne : d ≠ s1.heap.objs.size := Nat.ne_of_lt (Heap.lt_size h1)
  refine ⟨_, [s1.heap.objs.size], _, _, _, rfl, I3, turn_keysT hne h3 hz, ⟨_, Heap.get?_push_size _ rfl, rfl, by rw [hz]; rfl⟩, fun c hb => ?_, q1 ob⟩
  obtain rfl : c = s1.heap.objs.size := by simpa using hb
  exact I2.fpOk (Nat.le_refl _) (I2.hok.fresh (Nat.le_refl _))
end L2
namespace L2
open PySem PySem.Spec PyProof.Rows
section
variable {prog : Program} {w : World} {K : Type} [DecidableEq K] {knd : HeapKind prog w K} {A : Around} {E : Value → Shared → Prop} {s : Shared} {d a : Addr} {xs : List (K × Addr × Value)} {k : K}
theorem takeOut_heap {j : Nat} {p : Addr × Value} {Q : Option DictEntry → Shared → Prop} (hu : knd.room A) (hkey : knd.is s.heap k a) (hm : s.heap.DictOfH knd d xs) (hsz : xs.length ≤ sizeLine) (hj : xs[j]? = some (k, p))
    (q : ∀ h', h'.DictOfH knd d (xs.eraseIdx j) → Heap.SameBut d s.heap h' → Q (some (entryOfKey knd (k, p))) { s with heap := h', toks := s.toks + knd.draws k }) : wpAny (model prog w) A (Builtin.Dict.takeOut d (.ref a)) Q E s := by
  obtain ⟨o, es, ep, ho, hc, hd, he, his, hn⟩ := hm
  have hz : es.size = xs.length := by rw [← Array.length_toList, he, List.length_map]
  unfold Builtin.Dict.takeOut
  try with_reducible refine wpAny_holding ?_
  refine wpAny_bind (knd.pyHash hu hkey (wpAny_bind (wpAny_dictFind_heap (s := { s with toks := s.toks + knd.draws k }) hu hkey ho hd he his hn (fun no => absurd hj (no j p)) fun j' p' hj' => ?_)))
  have ej : j' = j := by
    have l1 := (List.getElem?_eq_some_iff.mp hj).1
    have l2 := (List.getElem?_eq_some_iff.mp hj').1
    have e1 : (xs.map (·.1))[j]? = some k := by rw [List.getElem?_map, hj]; rfl
    have e2 : (xs.map (·.1))[j']? = some k := by rw [List.getElem?_map, hj']; rfl
    obtain ⟨m1, e1⟩ := List.getElem?_eq_some_iff.mp e1
    obtain ⟨m2, e2⟩ := List.getElem?_eq_some_iff.mp e2
    rcases Nat.lt_trichotomy j' j with z | z | z
    · exact absurd (e2.trans e1.symm) (List.pairwise_iff_getElem.mp hn j' j m2 m1 z)
    · exact z
    · exact absurd (e1.trans e2.symm) (List.pairwise_iff_getElem.mp hn j j' m1 m2 z)
  subst ej
  rw [hj] at hj'
  cases hj'
  refine wpAny_bind (wpAny_dictEntries (s := { s with toks := s.toks + knd.draws k }) ho hd ?_)
  have hat : es[j']? = some (entryOfKey knd (k, p)) := by rw [← Array.getElem?_toList, he, List.getElem?_map, hj]; rfl
  rw [hat]
  have hlt : j' < es.size := by rw [hz]; exact (List.getElem?_eq_some_iff.mp hj).1
  refine wpAny_bind (wpAny_updateDictKeys (hz := by omega) (s := { s with toks := s.toks + knd.draws k }) ho hd (wpAny_pure (q _ ⟨_, _, ep + 1, Heap.get?_update_self _ ho (Obj.isFreed_of_dict (Obj.data_mapDictKeys hd _)), hc.mapDictKeys _, Obj.data_mapDictKeys hd _, ?_, fun x hx => ?_, ?_⟩ (Heap.SameBut.update ..))))
  · rw [Array.eraseIdxIfInBounds_eq]
    rw [dif_pos hlt]
    rw [Array.toList_eraseIdx, he, map_erase]
  · exact knd.keeps (his x (List.mem_of_mem_eraseIdx hx)) ho hd (Heap.SameBut.update ..)
  · rw [← map_erase]
    exact (List.eraseIdx_sublist ..).nodup hn
end
end L2
namespace L2
open PySem PySem.Spec PyProof.Rows
section
variable {X : Cx} {pins : List (Addr × Obj)} {σ : St} {H : Hp} {s : Shared} {A : Around} {E : Value → Shared → Prop} {a b : Addr} {kvs : List (List Key × V)} {k : List Key}
theorem paired_erase {α β : Type} {F : α → β → Prop} : ∀ {l : List α} {m : List β} (j : Nat), Paired F l m → Paired F (l.eraseIdx j) (m.eraseIdx j)
  | _, _, _, .nil => .nil
  | _, _, 0, .cons _ t => t
  | _, _, j + 1, .cons r t => .cons r (paired_erase j t)
theorem d_popT {j : Nat} {v : V} {r : Value} {Q : Value → Shared → Prop} (hu : A.units + 1 < cLine) (I : Inv X pins σ H s) (e : H a = some (.dT kvs)) (eb : H b = some (.tup (k.map kV))) (hj : kvs[j]? = some (k, v))
    (h : ∀ w' s', Inv X pins σ (upd H a (.dT (kvs.eraseIdx j))) s' → RelV v w' → Q w' s') : wpAny (model X.prog X.w) A (call (.builtin "dict.pop") [.ref a, .ref b, r]) Q E s := by
  obtain ⟨z, hs, xs, rel, dd⟩ := dt_of I.hok e
  have hz : xs.length ≤ sizeLine := by rw [← Paired.length rel]; exact z
  obtain ⟨⟨k', c, w'⟩, hq, e1, e2, e3⟩ := paired_at rel hj
  simp only at e1 e2 e3
  subst e1
  have hT := dd.typeIs
  have dd' := dd
  obtain ⟨o, es, ep, ho, hc, hd, he, _, _⟩ := dd'
  have hne : es.isEmpty = false := by
    have : 0 < es.size := by
      rw [← Array.length_toList, he, List.length_map]
      exact Nat.lt_of_le_of_lt (Nat.zero_le _) (List.getElem?_eq_some_iff.mp hq).1
    cases hh : es.isEmpty with
    | false => rfl
    | true =>
      rw [Array.isEmpty_iff_size_eq_zero] at hh
      omega
  refine wpAny_call_entry PySem.F.slot_dict_pop hT PySem.F.entry_dict_pop ?g (PySem.F.args_dict_pop_3 _ _ _)
  case g =>
  unfold Builtin.«dict.pop» Builtin.Dict.keyAndDefault
  refine wpAny_bind (wpAny_bind (wpAny_notOrdered_dict hT (wpAny_pure ?g)))
  case g =>
  simp only [show (keyPart (Value.ref b)).isSome = false from rfl, Bool.false_eq_true, if_false]
  refine wpAny_bind (wpAny_dictEntries ho hd (wpAny_bind (wpAny_pure ?g)))
  case g =>
  simp only [hne, Bool.false_eq_true, if_false]
  refine wpAny_bind (takeOut_heap (tupleKind_room_in1 hu) (key_of I.hok eb) dd hz hq fun h' dd2 sb => ?g)
  case g =>
  simp only [Option.isNone_some, Bool.false_eq_true, if_false]
  refine wpAny_bind (wpAny_letGo (wpAny_pure ⟨w', rfl, h w' _ ?g e3⟩))
  case g =>
  obtain ⟨q, es2, ep2, hq2, h2, h3, h4, _, h5⟩ := dd2
  refine d_write I (by rw [e]; exact True.intro) sb ⟨q, hq2⟩ ⟨?_, hs, _, Paired.mapP (paired_erase j rel) fun _ _ y => ⟨y.1, ?_, y.2.2⟩, q, es2, ep2, hq2, h2, h3, h4, h5⟩
  · exact Nat.le_trans (List.length_eraseIdx_le ..) z
  · rw [upd_ne (ne_of y.2.1 e (fun z => nomatch z))]
    exact y.2.1
theorem d_popE {r : Value} {Q : Value → Shared → Prop} (I : Inv X pins σ H s) (e : H a = some (.dT [])) (h : ∀ s', Inv X pins σ H s' → Q r s') : wpAny (model X.prog X.w) A (call (.builtin "dict.pop") [.ref a, .ref b, r]) Q E s := by
  obtain ⟨z, hs, xs, rel, dd⟩ := dt_of I.hok e
  have hT := dd.typeIs
  obtain ⟨o, es, ep, ho, hc, hd, he, _, _⟩ := dd
  have hx : xs = [] := by
    have := Paired.length rel
    exact List.eq_nil_of_length_eq_zero this.symm
  subst hx
  have hem : es.isEmpty = true := by
    rw [Array.isEmpty_iff_size_eq_zero, ← Array.length_toList, he]; rfl
  refine wpAny_call_entry PySem.F.slot_dict_pop hT PySem.F.entry_dict_pop ?g (PySem.F.args_dict_pop_3 _ _ _)
  case g =>
  unfold Builtin.«dict.pop» Builtin.Dict.keyAndDefault
  refine wpAny_bind (wpAny_bind (wpAny_notOrdered_dict hT (wpAny_pure ?g)))
  case g =>
  simp only [show (keyPart (Value.ref b)).isSome = false from rfl, Bool.false_eq_true, if_false]
  refine wpAny_bind (wpAny_dictEntries ho hd (wpAny_bind (wpAny_pure ?g)))
  case g =>
  simp only [hem, if_true]
  refine wpAny_bind (wpAny_rule (wpAny_bind (wpAny_pure ?g)))
  case g =>
  simp only [Option.isNone_none, if_true]
  unfold Builtin.Dict.missedRemoval
  rw [if_neg (by rw [hs]; exact Bool.false_ne_true)]
  exact wpAny_bind (wpAny_pure (wpAny_bind (wpAny_rule (wpAny_pure ⟨r, rfl, h s I⟩))))
end
section
variable {X : Cx} {o e f : Expr} {td ty tx : TE} {apos cpos : Pos}
def tDPopT (td ty tx : TE) : TE := fun σ H Q => td σ H fun x H1 => ∃ a, x = .ref a ∧ IsD H1 a ∧ ty σ H1 fun y H2 => tx σ H2 fun z H3 => ∃ kvs b, H3 a = some (.dT kvs) ∧ y = .ref b ∧ ((kvs = [] ∧ Q z H3) ∨ ∃ k j v, H3 b = some (.tup (k.map kV)) ∧ kvs[j]? = some (k, v) ∧ Q v (upd H3 a (.dT (kvs.eraseIdx j))))
theorem pe_dpopT (hu : X.A.units + 1 < cLine) (ho : PE X o td) (he : PE X e ty) (hf : PE X f tx) (m : M2 X o "pop" apos e f cpos) : PE X (.Call (.Attribute o "pop" apos) [e, f] [] cpos) (tDPopT td ty tx) := by
  intro pins s σ H Q I h
  refine wpAny_Call_method m.base m.few m.line PySem.F.plainAttrs_dict PySem.F.slot_dict_pop PySem.F.type_dict_pop (thn (ho pins s σ H _ I h) fun u s1 ⟨x, H1, I1, rx, a, ex, d, q1⟩ => ?_)
  subst ex
  obtain rfl : u = Value.ref a := rx
  obtain ⟨t1, t2, _⟩ := isD_at I1 d
  refine ⟨t1, t2, ?_⟩
  rw [m.trees]
  refine Calls.callWith_builtin rfl (Calls.evalArgs_plain (Calls.spliced_cons (thn (he pins s1 σ H1 _ I1 q1) fun iv s2 ⟨y, H2, I2, ry, q2⟩ =>
    Calls.spliced_cons (thn (hf pins s2 σ H2 _ I2 q2) fun fv s3 ⟨z, H3, I3, rz, kvs, b, ea, ey, q3⟩ => Calls.spliced_nil ?_))))
  subst ey
  obtain rfl : iv = Value.ref b := ry
  rcases q3 with ⟨rfl, q3⟩ | ⟨k, j, v, eb, hj, q3⟩
  · exact d_popE I3 ea fun s4 I4 => ⟨z, H3, I4, rz, q3⟩
  · exact d_popT hu I3 ea eb hj fun w' s4 I4 rw' => ⟨v, _, I4, rw', q3⟩
end
end L2
namespace L2
open PySem PySem.Spec PyProof.Rows
def rMinQ (K : PySem.W.Frag) : List V → Hp → VK → Prop := fun vs H Q => ∃ (a : Addr) (xs : List V) (T : List (List Int)), vs = [.ref a] ∧ Sq K H a xs ∧ RowsP K H xs T ∧ T ≠ [] ∧ ∀ (i : Nat) (b c : Addr) (n : Int) (r : List Int), xs[i]? = some (.ref b) → T[i]? = some (n :: r) → SqT K H b [.int n, .ref c] → SqT K H c (r.map V.int) → (∀ q ∈ T, lexL q (n :: r) = false) → Q (.ref b) H
theorem call_minQ {X : Cx} {k : Nat} (hr : Room k X.A) (hc : X.calm = true) : CallR X (.builtin "min") (rMinQ X.K) := by
  intro pins s σ H vs us Q I r ⟨a, xs, T, e, hq, hR, hne, q⟩
  subst e
  obtain ⟨u, rfl, ru⟩ := r.one
  obtain rfl : u = Value.ref a := ru
  refine min_walkAt (seq_walk (I.ok.hd hc) I hq fun its It fp wr S s2 rv hz W st hf hI => ?g)
  case g =>
  have hl : its.length = T.length := by rw [← rv.length, hR.1]
  have hpos : 0 < T.length := List.length_pos_iff.mpr hne
  have item : ∀ (i : Nat) (v : Value), its[i]? = some v → ∃ b c n r, v = .ref b ∧ xs[i]? = some (.ref b) ∧ T[i]? = some (n :: r) ∧ SqT X.K H b [.int n, .ref c] ∧ SqT X.K H c (r.map V.int) := fun i v hv => by
    obtain ⟨x, hx, rx⟩ := rv.getR hv
    have hi : i < T.length := by rw [← hR.1]; exact (List.getElem?_eq_some_iff.mp hx).1
    obtain ⟨b, c, n, r, e0, e1, e2, e3⟩ := hR.2 i _ (List.getElem?_eq_getElem hi)
    have hx' := hx
    rw [e1] at hx
    cases hx
    exact ⟨b, c, n, r, rx, hx', by rw [List.getElem?_eq_getElem hi, e0], e2, e3⟩
  refine ⟨It, fp, wr, its.length, _, S, fun i j => lexL (T.getD i []) (T.getD j []), fun h => ∀ b o, b ∉ wr → s2.heap.get? b = some o → h.get? b = some o, rfl, W, st, hf, by omega, fun b o _ e => e, fun z hz0 h h' k1 k2 b o bw e => k2 b o bw (fun q0 => Nat.not_lt.mpr hz0 (q0 ▸ Heap.lt_size e)) (k1 b o bw e), fun i j vi vj s' Q' E' kp hi hj hQ' => ?g, fun v h' tk hv hk => ?h⟩
  case g =>
    obtain ⟨b1, c1, n1, r1, rfl, _, t1, q1, p1⟩ := item i vi hi
    obtain ⟨b2, c2, n2, r2, rfl, _, t2, q2, p2⟩ := item j vj hj
    have I' := hI s'.heap s'.toks kp
    obtain ⟨us1, v1, g1, _⟩ := I'.tuple q1
    obtain ⟨us2, v2, g2, _⟩ := I'.tuple q2
    obtain ⟨ws1, w1, k1, _⟩ := I'.tuple p1
    obtain ⟨ws2, w2, k2, _⟩ := I'.tuple p2
    obtain ⟨y1, y2, rfl, ⟨t1', rfl⟩, ry2⟩ := vals2 v1
    obtain ⟨y3, y4, rfl, ⟨t3', rfl⟩, ry4⟩ := vals2 v2
    obtain rfl : y2 = Value.ref c1 := ry2
    obtain rfl : y4 = Value.ref c2 := ry4
    refine lt_pairs (A := X.A.in1) (by have := hr.un; show X.A.units + 1 + 10 < cLine; omega) g1 g2 k1 k2 (intsAre_of w1) (intsAre_of w2) ?g
    case g =>
    have e1 : T.getD i [] = n1 :: r1 := by rw [List.getD_eq_getElem?_getD, t1]; rfl
    have e2 : T.getD j [] = n2 :: r2 := by rw [List.getD_eq_getElem?_getD, t2]; rfl
    have hQ2 : Q' (Value.bool (lexL (T.getD i []) (T.getD j []))) s' := hQ'
    rw [e1, e2] at hQ2
    exact hQ2
  case h =>
    obtain ⟨b, c, n, r, rfl, x1, t1, q1, p1⟩ := item _ v hv
    refine ⟨.ref b, H, hI h' tk hk, rfl, q _ b c n r x1 t1 q1 p1 fun r0 hr0 => ?g⟩
    case g =>
    obtain ⟨j, hj, rfl⟩ := List.getElem_of_mem hr0
    have := argBest_min (bt := fun i j => lexL (T.getD i []) (T.getD j [])) (fun i => lexL_irr _) (fun i j k => lexL_trans) (its.length - 1) j (by omega)
    have e1 : T.getD j [] = T[j] := by rw [List.getD_eq_getElem?_getD, List.getElem?_eq_getElem hj]; rfl
    have e2 : T.getD (argBest (fun i j => lexL (T.getD i []) (T.getD j [])) (its.length - 1)) [] = n :: r := by rw [List.getD_eq_getElem?_getD, t1]; rfl
    have g : lexL (T.getD j []) (T.getD (argBest (fun i j => lexL (T.getD i []) (T.getD j [])) (its.length - 1)) []) = false := this
    rw [e1, e2] at g
    exact g
abbrev rMinC (K : PySem.W.Frag) : List V → Hp → VK → Prop := fun vs H Q => rMinA K vs H Q ∨ rMinQ K vs H Q
theorem call_minCK {X : Cx} {K : PySem.W.Frag} {k : Nat} (hK : X.K = K) (hr : Room k X.A) (hc : X.calm = true) : CallR X (.builtin "min") (rMinC K) := by
  intro pins s σ H vs us Q I r h
  rcases h with h | h
  · exact call_minAK hK hr hc pins s σ H vs us Q I r h
  · subst hK
    exact call_minQ hr hc pins s σ H vs us Q I r h
theorem for_keysT {d : Addr} {o : Obj} {kvs : List (List Key × V)} {g : TG} {tb : TS} {D : Ends} {σ : St} {H : Hp} (Pv : Nat → St → Hp → Prop) (h0 : Pv 0 σ H) (hl : ∀ i σ H, i ≤ kvs.length → Pv i σ H → H d = some (.frz o (.dT kvs)))
    (hs : ∀ i k v c σ H, kvs[i]? = some (k, v) → H c = some (.tup (k.map kV)) → Pv i σ H → g (.ref c) σ H fun σ2 H2 => tb { D with nx := Pv (i + 1), ct := Pv (i + 1), bk := D.nx } σ2 H2) (hd : ∀ σ H, Pv kvs.length σ H → D.nx σ H) : tLoop (ItkT d o kvs) g tb D σ H := by
  refine ⟨fun i m σ H => m = kvs.length - i ∧ i ≤ kvs.length ∧ Pv i σ H, ⟨kvs.length, by simp, Nat.zero_le _, h0⟩, ?_⟩
  rintro i m σ H ⟨rfl, hi, p⟩
  have e := hl i σ H hi p
  by_cases hlt : i < kvs.length
  · refine .inr ⟨⟨hlt, e⟩, Pv (i + 1), fun σ' H' p' => ⟨kvs.length - (i + 1), by omega, rfl, hlt, p'⟩, fun x H' y => ?_⟩
    obtain ⟨rfl, k, v, c, hk, rfl, hc⟩ := y
    exact hs i k v c σ _ hk hc p
  · have e2 : i = kvs.length := by omega
    subst e2
    exact .inl ⟨⟨rfl, e⟩, hd σ H p⟩
end L2
namespace K57
open PySem L2
def top (i : Nat) : Stmt := PySem.Challenge.pw_homeround_k57_settled_or_not.main.body.getD i (.Pass ⟨0, 0, 0, 0⟩)
section
variable {P : Program} {w : World} {K : PySem.W.Frag} {mg : Str → Option Value} {base : Heap} {f : Addr} {fd : FuncData}
theorem sc_length : FnScope ["table", "round_", "followers"] ["table", "round_"] (defScope (top 1)) := ⟨rfl, rfl, rfl, by decide +kernel, rfl, by decide +kernel, by decide +kernel⟩
def T_length (K : PySem.W.Frag)   : TS := (tSeq (tAsg (tOp (rAddA K) (tSl (rSlU K) (tVar 1) (tPart (tC (.int 1))) tNoPart) (tSl (rSlU K) (tVar 1) tNoPart (tPart (tC (.int 1))))) (gName 2)) (tSeq (tRet (tCB (rSum K) (tCons (tComp [none, none, some 0] (iZip K (tCons (tVar 1) (tCons (tVar 2) tNil))) (gTup K 2 (gCons (gName 0) (gCons (gName 1) gNil))) [] fun acc => (tEmit (tOp (rIx2 K) (tOp (rIx2 K) (tVar 2) (tVar 0)) (tVar 1)) acc)) tNil))) tNext))
theorem ok_length (F : Fun K "length" "length" (top 1) f fd) (B : Blt4 mg)      {sp : Sp} (len : ∀ vs H Q E, sp vs H Q E → vs.length = 2)
    (rd : ∀ vs H Q E, sp vs H Q E → T_length K   { nx := fun _ H' => Q .non H', rt := Q } (start ["table", "round_", "followers"] vs) H) : FnOk P w K mg base CX0 1 f fd ["table", "round_"] sp := by
  refine F.ok sc_length len (fun cdv A outer s H vs Q E hr h => ⟨_, ?_, rd vs H Q E h⟩)
  have nd := sc_length.nd
  exact (@pss_cons _ _ _ _ _ (@ps_set _ _ 2 _ _ _ _ nd rfl (Or.inl rfl) (@pe_op _ _ _ _ _ _ _ _ (op_addK (K := K) rfl) (pe_slice (sl_uK (K := K) rfl) (pv 1) (po_some pe_int) po_none) (pe_slice (sl_uK (K := K) rfl) (pv 1) po_none (po_some pe_int))) (by rfl) (by first | exact .inl rfl | exact .inr rfl | assumption)) (@pss_cons _ _ _ _ _ (@ps_ret _ _ _ _ (pe_callB (call_sumK (K := K) rfl rfl) rfl B.sum bt_sum (pa_cons (pe_comp (N' := ["one", "other", "table"]) (ix := [none, none, some 0]) rfl rfl rfl (pi_zipK (K := K) rfl rfl B.zip (@pa_consN _ _ _ _ _ _ (pv 1) (@pa_consN _ _ _ _ _ _ (pv 2) pa_nil))) (fun _ _ _ => (pg_tupK (K := K) rfl rfl (pgs_cons (pg_name (i := 0) (show (["one", "other", "table"] : List Str).Nodup from by decide +kernel) rfl (Or.inl rfl)) (pgs_cons (pg_name (i := 1) (show (["one", "other", "table"] : List Str).Nodup from by decide +kernel) rfl (Or.inl rfl)) pgs_nil)))) (fun _ _ _ => .nil) (fun _ _ _ _ => (pb_emit rfl (@pe_ix _ _ _ _ _ _ _ (ix_sqK (K := K) rfl) (@pe_ix _ _ _ _ _ _ _ (ix_sqK (K := K) rfl) (pv 2) (pv 0) (fun _ _ => rfl)) (pv 1) (fun _ _ => rfl)) rfl))) pa_nil))) pss_nil))
theorem sc_moves_of : FnScope ["round_", "found", "stop", "start"] ["round_"] (defScope (top 4)) := ⟨rfl, rfl, rfl, by decide +kernel, rfl, by decide +kernel, by decide +kernel⟩
def T_moves_of (K : PySem.W.Frag)  (sp_moves_of_stretch : Sp) : TS := (tSeq (tAsg (tLst tNil) (gName 1)) (tSeq (tFor (iRng2 (tCons (tC (.int 2)) (tCons (tOp (rAddA K) (tCB (rLen K) (tCons (tVar 0) tNil)) (tC (.int 1))) tNil))) (gName 2) (tSeq (tFor (iRng2 (tCons (tC (.int 1)) (tCons (tVar 2) tNil))) (gName 3) (tSeq (tDrop (tBM K "list" (rExtendA K) (tVar 1) (tCons (tCall sp_moves_of_stretch [] E0 (tCons (tVar 0) (tCons (tVar 3) (tCons (tVar 2) tNil)))) tNil))) tNext)) tNext)) (tSeq (tRet (tComp [none, some 0] (iSeq K (tVar 1)) (gName 0) [(tTest (tOp (rNeD K) (tVar 0) (tVar 1)))] fun acc => (tEmit (tVar 0) acc))) tNext)))
theorem ok_moves_of (F : Fun K "moves_of" "moves_of" (top 4) f fd) (B : Blt4 mg)    {sp_moves_of_stretch : Sp} (D_moves_of_stretch : Def P w K mg base "moves_of_stretch" 1 ["round_", "start", "stop"] sp_moves_of_stretch)  {sp : Sp} (len : ∀ vs H Q E, sp vs H Q E → vs.length = 1)
    (rd : ∀ vs H Q E, sp vs H Q E → T_moves_of K  sp_moves_of_stretch { nx := fun _ H' => Q .non H', rt := Q } (start ["round_", "found", "stop", "start"] vs) H) : FnOk P w K mg base CX0 2 f fd ["round_"] sp := by
  refine F.ok sc_moves_of len (fun cdv A outer s H vs Q E hr h => ⟨_, ?_, rd vs H Q E h⟩)
  have nd := sc_moves_of.nd
  exact (@pss_cons _ _ _ _ _ (@ps_set _ _ 1 _ _ _ _ nd rfl (Or.inl rfl) (@pe_lst _ _ _ _ pa_nil) (by rfl) (by first | exact .inl rfl | exact .inr rfl | assumption)) (@pss_cons _ _ _ _ _ (ps_for PassesOwn.never rfl (pi_range2 rfl B.range (@pa_consC _ _ _ _ _ _ _ pe_int (@pa_consB _ _ _ _ _ _ _ _ (@pe_op _ _ _ _ _ _ _ _ (op_addK (K := K) rfl) (pe_callB (call_lenK (K := K) rfl) rfl B.len bt_len (@pa_consN _ _ _ _ _ _ (pv 0) pa_nil)) pe_int) pa_nil))) (pg_name (i := 2) nd rfl (Or.inl rfl)) (@pss_cons _ _ _ _ _ (ps_for PassesOwn.never rfl (pi_range2 rfl B.range (@pa_consC _ _ _ _ _ _ _ pe_int (@pa_consN _ _ _ _ _ _ (pv 2) pa_nil))) (pg_name (i := 3) nd rfl (Or.inl rfl)) (@pss_cons _ _ _ _ _ (ps_expr (pe_bmK (K := K) rfl PySem.F.plainAttrs_list PySem.F.slot_list_extend PySem.F.type_list_extend (mt_extendA (K := K) rfl) (pv 1) (@pa_consK _ _ _ _ _ _ _ _ (pe_def (D_moves_of_stretch.mono (by decide)) hr rfl (@pa_consN _ _ _ _ _ _ (pv 0) (@pa_consN _ _ _ _ _ _ (pv 3) (@pa_consN _ _ _ _ _ _ (pv 2) pa_nil)))) pa_nil))) pss_nil)) pss_nil)) (@pss_cons _ _ _ _ _ (@ps_ret _ _ _ _ (pe_comp (N' := ["other", "round_"]) (ix := [none, some 0]) rfl rfl rfl (pi_seqK (K := K) rfl (pv 1)) (fun _ _ _ => (pg_name (i := 0) (show (["other", "round_"] : List Str).Nodup from by decide +kernel) rfl (Or.inl rfl))) (fun _ _ _ => (.cons (pt_cmpR (op_neK (K := K) rfl hr) (pv 0) (pv 1) (nomark _)) .nil)) (fun _ _ _ _ => (pb_emit rfl (pv 0) rfl)))) pss_nil)))
theorem sc_moves_of_stretch : FnScope ["round_", "start", "stop", "stretch", "found", "rest", "at"] ["round_", "start", "stop"] (defScope (top 5)) := ⟨rfl, rfl, rfl, by decide +kernel, rfl, by decide +kernel, by decide +kernel⟩
def T_moves_of_stretch (K : PySem.W.Frag)   : TS := (tSeq (tAsg (tSl (rSlU K) (tVar 0) (tPart (tVar 1)) (tPart (tVar 2))) (gName 3)) (tSeq (tAsg (tLst (tCons (tOp (rAddA K) (tOp (rAddA K) (tSl (rSlU K) (tVar 0) tNoPart (tPart (tVar 1))) (tRev K (tVar 3))) (tSl (rSlU K) (tVar 0) (tPart (tVar 2)) tNoPart)) tNil)) (gName 4)) (tSeq (tIfS (tTest (tOp yLe (tCB (rLen K) (tCons (tVar 3) tNil)) (tC (.int 3)))) (tSeq (tAsg (tOp (rAddA K) (tSl (rSlU K) (tVar 0) tNoPart (tPart (tVar 1))) (tSl (rSlU K) (tVar 0) (tPart (tVar 2)) tNoPart)) (gName 5)) (tSeq (tFor (iRng2 (tCons (tC (.int 1)) (tCons (tOp (rAddA K) (tCB (rLen K) (tCons (tVar 5) tNil)) (tC (.int 1))) tNil))) (gName 6) (tSeq (tDrop (tBM K "list" rAppend (tVar 4) (tCons (tOp (rAddA K) (tOp (rAddA K) (tSl (rSlU K) (tVar 5) tNoPart (tPart (tVar 6))) (tVar 3)) (tSl (rSlU K) (tVar 5) (tPart (tVar 6)) tNoPart)) tNil))) (tSeq (tDrop (tBM K "list" rAppend (tVar 4) (tCons (tOp (rAddA K) (tOp (rAddA K) (tSl (rSlU K) (tVar 5) tNoPart (tPart (tVar 6))) (tRev K (tVar 3))) (tSl (rSlU K) (tVar 5) (tPart (tVar 6)) tNoPart)) tNil))) tNext))) tNext)) tNext) (tSeq (tRet (tVar 4)) tNext))))
theorem ok_moves_of_stretch (F : Fun K "moves_of_stretch" "moves_of_stretch" (top 5) f fd) (B : Blt4 mg) {tk_LONGEST_MOVED : Tok} (G_LONGEST_MOVED : mg "LONGEST_MOVED" = some (.int 3 tk_LONGEST_MOVED))     {sp : Sp} (len : ∀ vs H Q E, sp vs H Q E → vs.length = 3)
    (rd : ∀ vs H Q E, sp vs H Q E → T_moves_of_stretch K   { nx := fun _ H' => Q .non H', rt := Q } (start ["round_", "start", "stop", "stretch", "found", "rest", "at"] vs) H) : FnOk P w K mg base CX0 1 f fd ["round_", "start", "stop"] sp := by
  refine F.ok sc_moves_of_stretch len (fun cdv A outer s H vs Q E hr h => ⟨_, ?_, rd vs H Q E h⟩)
  have nd := sc_moves_of_stretch.nd
  exact (@pss_cons _ _ _ _ _ (@ps_set _ _ 3 _ _ _ _ nd rfl (Or.inl rfl) (pe_slice (sl_uK (K := K) rfl) (pv 0) (po_some (pv 1)) (po_some (pv 2))) (by rfl) (by first | exact .inl rfl | exact .inr rfl | assumption)) (@pss_cons _ _ _ _ _ (@ps_set _ _ 4 _ _ _ _ nd rfl (Or.inl rfl) (@pe_lst _ _ _ _ (@pa_consB _ _ _ _ _ _ _ _ (@pe_op _ _ _ _ _ _ _ _ (op_addK (K := K) rfl) (@pe_op _ _ _ _ _ _ _ _ (op_addK (K := K) rfl) (pe_slice (sl_uK (K := K) rfl) (pv 0) po_none (po_some (pv 1))) (pe_revK (K := K) rfl (pv 3))) (pe_slice (sl_uK (K := K) rfl) (pv 0) (po_some (pv 2)) po_none)) pa_nil)) (by rfl) (by first | exact .inl rfl | exact .inr rfl | assumption)) (@pss_cons _ _ _ _ _ (@ps_if _ _ _ _ _ _ _ _ (pt_cmpR op_le (pe_callB (call_lenK (K := K) rfl) rfl B.len bt_len (@pa_consN _ _ _ _ _ _ (pv 3) pa_nil)) (pe_glob rfl G_LONGEST_MOVED ⟨_, rfl⟩) (nomark _)) (@pss_cons _ _ _ _ _ (@ps_set _ _ 5 _ _ _ _ nd rfl (Or.inl rfl) (@pe_op _ _ _ _ _ _ _ _ (op_addK (K := K) rfl) (pe_slice (sl_uK (K := K) rfl) (pv 0) po_none (po_some (pv 1))) (pe_slice (sl_uK (K := K) rfl) (pv 0) (po_some (pv 2)) po_none)) (by rfl) (by first | exact .inl rfl | exact .inr rfl | assumption)) (@pss_cons _ _ _ _ _ (ps_for PassesOwn.never rfl (pi_range2 rfl B.range (@pa_consC _ _ _ _ _ _ _ pe_int (@pa_consB _ _ _ _ _ _ _ _ (@pe_op _ _ _ _ _ _ _ _ (op_addK (K := K) rfl) (pe_callB (call_lenK (K := K) rfl) rfl B.len bt_len (@pa_consN _ _ _ _ _ _ (pv 5) pa_nil)) pe_int) pa_nil))) (pg_name (i := 6) nd rfl (Or.inl rfl)) (@pss_cons _ _ _ _ _ (ps_expr (pe_bmK (K := K) rfl PySem.F.plainAttrs_list PySem.F.slot_list_append PySem.F.type_list_append mt_append (pv 4) (@pa_consB _ _ _ _ _ _ _ _ (@pe_op _ _ _ _ _ _ _ _ (op_addK (K := K) rfl) (@pe_op _ _ _ _ _ _ _ _ (op_addK (K := K) rfl) (pe_slice (sl_uK (K := K) rfl) (pv 5) po_none (po_some (pv 6))) (pv 3)) (pe_slice (sl_uK (K := K) rfl) (pv 5) (po_some (pv 6)) po_none)) pa_nil))) (@pss_cons _ _ _ _ _ (ps_expr (pe_bmK (K := K) rfl PySem.F.plainAttrs_list PySem.F.slot_list_append PySem.F.type_list_append mt_append (pv 4) (@pa_consB _ _ _ _ _ _ _ _ (@pe_op _ _ _ _ _ _ _ _ (op_addK (K := K) rfl) (@pe_op _ _ _ _ _ _ _ _ (op_addK (K := K) rfl) (pe_slice (sl_uK (K := K) rfl) (pv 5) po_none (po_some (pv 6))) (pe_revK (K := K) rfl (pv 3))) (pe_slice (sl_uK (K := K) rfl) (pv 5) (po_some (pv 6)) po_none)) pa_nil))) pss_nil))) pss_nil)) pss_nil) (@pss_cons _ _ _ _ _ (@ps_ret _ _ _ _ (pv 4)) pss_nil))))
theorem sc_shorter_moves : FnScope ["table", "round_", "own"] ["table", "round_"] (defScope (top 6)) := ⟨rfl, rfl, rfl, by decide +kernel, rfl, by decide +kernel, by decide +kernel⟩
def T_shorter_moves (K : PySem.W.Frag)  (sp_length : Sp) (sp_moves_of : Sp) : TS := (tSeq (tAsg (tCall sp_length [] E0 (tCons (tVar 0) (tCons (tVar 1) tNil))) (gName 2)) (tSeq (tRet (tComp [none, some 0, some 2] (iSeq K (tCall sp_moves_of [] E0 (tCons (tVar 1) tNil))) (gName 0) [(tTest (tOp yLt (tCall sp_length [] E0 (tCons (tVar 1) (tCons (tVar 0) tNil))) (tVar 2)))] fun acc => (tEmit (tVar 0) acc))) tNext))
theorem ok_shorter_moves (F : Fun K "shorter_moves" "shorter_moves" (top 6) f fd) (B : Blt4 mg)    {sp_length : Sp} (D_length : Def P w K mg base "length" 1 ["table", "round_"] sp_length) {sp_moves_of : Sp} (D_moves_of : Def P w K mg base "moves_of" 2 ["round_"] sp_moves_of)  {sp : Sp} (len : ∀ vs H Q E, sp vs H Q E → vs.length = 2)
    (rd : ∀ vs H Q E, sp vs H Q E → T_shorter_moves K  sp_length sp_moves_of { nx := fun _ H' => Q .non H', rt := Q } (start ["table", "round_", "own"] vs) H) : FnOk P w K mg base CX0 3 f fd ["table", "round_"] sp := by
  refine F.ok sc_shorter_moves len (fun cdv A outer s H vs Q E hr h => ⟨_, ?_, rd vs H Q E h⟩)
  have nd := sc_shorter_moves.nd
  exact (@pss_cons _ _ _ _ _ (@ps_set _ _ 2 _ _ _ _ nd rfl (Or.inr rfl) (pe_def (D_length.mono (by decide)) hr rfl (@pa_consN _ _ _ _ _ _ (pv 0) (@pa_consN _ _ _ _ _ _ (pv 1) pa_nil))) (by rfl) (by first | exact .inl rfl | exact .inr rfl | assumption)) (@pss_cons _ _ _ _ _ (@ps_ret _ _ _ _ (pe_comp (N' := ["other", "table", "own"]) (ix := [none, some 0, some 2]) rfl rfl rfl (pi_seqK (K := K) rfl (pe_def (D_moves_of.mono (by decide)) hr rfl (@pa_consN _ _ _ _ _ _ (pv 1) pa_nil))) (fun _ _ _ => (pg_name (i := 0) (show (["other", "table", "own"] : List Str).Nodup from by decide +kernel) rfl (Or.inl rfl))) (fun _ _ _ => (.cons (pt_cmpR op_lt (pe_def (D_length.mono (by decide)) hr rfl (@pa_consN _ _ _ _ _ _ (pv 1) (@pa_consN _ _ _ _ _ _ (pv 0) pa_nil))) (pv 2) (nomark _)) .nil)) (fun _ _ _ _ => (pb_emit rfl (pv 0) rfl)))) pss_nil))
theorem sc_is_settled : FnScope ["table", "round_"] ["table", "round_"] (defScope (top 7)) := ⟨rfl, rfl, rfl, by decide +kernel, rfl, by decide +kernel, by decide +kernel⟩
def T_is_settled (K : PySem.W.Frag)  (sp_shorter_moves : Sp) : TS := (tSeq (tRet (tOp (rEqD K) (tCall sp_shorter_moves [] E0 (tCons (tVar 0) (tCons (tVar 1) tNil))) (tLst tNil))) tNext)
theorem ok_is_settled (F : Fun K "is_settled" "is_settled" (top 7) f fd) (B : Blt4 mg)    {sp_shorter_moves : Sp} (D_shorter_moves : Def P w K mg base "shorter_moves" 3 ["table", "round_"] sp_shorter_moves)  {sp : Sp} (len : ∀ vs H Q E, sp vs H Q E → vs.length = 2)
    (rd : ∀ vs H Q E, sp vs H Q E → T_is_settled K  sp_shorter_moves { nx := fun _ H' => Q .non H', rt := Q } (start ["table", "round_"] vs) H) : FnOk P w K mg base CX0 4 f fd ["table", "round_"] sp := by
  refine F.ok sc_is_settled len (fun cdv A outer s H vs Q E hr h => ⟨_, ?_, rd vs H Q E h⟩)
  have nd := sc_is_settled.nd
  exact (@pss_cons _ _ _ _ _ (@ps_ret _ _ _ _ (pe_cmpR (op_eqK (K := K) rfl hr) (pe_def (D_shorter_moves.mono (by decide)) hr rfl (@pa_consN _ _ _ _ _ _ (pv 0) (@pa_consN _ _ _ _ _ _ (pv 1) pa_nil))) (@pe_lst _ _ _ _ pa_nil) (nomark _))) pss_nil)
theorem sc__law_e_pen : FnScope ["script"] ["script"] (defScope (top 9)) := ⟨rfl, rfl, rfl, by decide +kernel, rfl, by decide +kernel, by decide +kernel⟩
def T__law_e_pen (K : PySem.W.Frag)   : TS := (tSeq (tRet (tLst (tCons (tCB (rList K) (tCons (tSl (rSlU K) (tVar 0) tNoPart (tPart (tC (.int 63)))) tNil)) (tCons (tC (.int 0)) (tCons (tC (.int 0)) tNil))))) tNext)
theorem ok__law_e_pen (F : Fun K "_law_e_pen" "_law_e_pen" (top 9) f fd) (B : Blt4 mg)      {sp : Sp} (len : ∀ vs H Q E, sp vs H Q E → vs.length = 1)
    (rd : ∀ vs H Q E, sp vs H Q E → T__law_e_pen K   { nx := fun _ H' => Q .non H', rt := Q } (start ["script"] vs) H) : FnOk P w K mg base CX0 1 f fd ["script"] sp := by
  refine F.ok sc__law_e_pen len (fun cdv A outer s H vs Q E hr h => ⟨_, ?_, rd vs H Q E h⟩)
  have nd := sc__law_e_pen.nd
  exact (@pss_cons _ _ _ _ _ (@ps_ret _ _ _ _ (@pe_lst _ _ _ _ (@pa_consK _ _ _ _ _ _ _ _ (pe_callTy (call_listK (K := K) rfl rfl) rfl B.list bt_list (@pa_consS _ _ _ _ _ _ _ (pe_slice (sl_uK (K := K) rfl) (pv 0) po_none (po_some pe_int)) pa_nil)) (@pa_consC _ _ _ _ _ _ _ pe_int (@pa_consC _ _ _ _ _ _ _ pe_int pa_nil))))) pss_nil)
theorem sc__law_e_fresh : FnScope ["pen", "at", "cell", "one", "two"] ["pen"] (defScope (top 10)) := ⟨rfl, rfl, rfl, by decide +kernel, rfl, by decide +kernel, by decide +kernel⟩
def T__law_e_fresh (K : PySem.W.Frag)   : TS := (tSeq (tAsg (tOp (rIx2 K) (tVar 0) (tC (.int 1))) (gName 1)) (tSeq (tAsg (tOp (rAddA K) (tVar 1) (tC (.int 1))) (gSub (tVar 0) (tC (.int 1)) rSetL)) (tSeq (tAsg (tOp (rAddA K) (tOp rMulA (tVar 1) (tVar 1)) (tC (.int 5))) (gName 2)) (tSeq (tIfS (tTest (tOp yLt (tVar 1) (tCB (rLen K) (tCons (tOp (rIx2 K) (tVar 0) (tC (.int 0))) tNil)))) (tSeq (tAsg (tOp (rIx2 K) (tOp (rIx2 K) (tVar 0) (tC (.int 0))) (tVar 1)) (gName 2)) tNext) (tSeq (tIfS (tTest (tOp yGt (tCB (rLen K) (tCons (tOp (rIx2 K) (tVar 0) (tC (.int 0))) tNil)) (tC (.int 0)))) (tSeq (tAsg (tOp (rAddA K) (tVar 2) (tOp rMulA (tOp yMod (tOp (rIx2 K) (tOp (rIx2 K) (tVar 0) (tC (.int 0))) (tOp yMod (tOp rMulA (tVar 1) (tC (.int 3))) (tCB (rLen K) (tCons (tOp (rIx2 K) (tVar 0) (tC (.int 0))) tNil)))) (tC (.int 1000003))) (tOp (rAddA K) (tVar 1) (tC (.int 1))))) (gName 2)) tNext) tNext) tNext)) (tSeq (tIfS (tTest (tOp yGe (tVar 2) (tOp yPow (tC (.int 10)) (tC (.int 18))))) (tSeq (tRet (tVar 2)) tNext) tNext) (tSeq (tAsg (tOp yMod (tOp (rAddA K) (tOp (rAddA K) (tOp rMulA (tOp yMod (tVar 2) (tC (.int 2147483423))) (tC (.int 60013))) (tOp rMulA (tVar 1) (tC (.int 40692)))) (tC (.int 17))) (tC (.int 2147483399))) (gName 3)) (tSeq (tAsg (tOp yMod (tOp (rAddA K) (tOp (rAddA K) (tOp rMulA (tVar 3) (tVar 3)) (tOp rMulA (tVar 1) (tC (.int 811)))) (tC (.int 3))) (tC (.int 2147483353))) (gName 4)) (tSeq (tRet (tOp (rAddA K) (tOp rMulA (tOp (rAddA K) (tVar 4) (tC (.int 2147483353))) (tC (.int 2147483353))) (tOp yMod (tOp (rAddA K) (tOp rMulA (tVar 4) (tVar 4)) (tVar 3)) (tC (.int 2147483353))))) tNext))))))))
theorem ok__law_e_fresh (F : Fun K "_law_e_fresh" "_law_e_fresh" (top 10) f fd) (B : Blt4 mg)      {sp : Sp} (len : ∀ vs H Q E, sp vs H Q E → vs.length = 1)
    (rd : ∀ vs H Q E, sp vs H Q E → T__law_e_fresh K   { nx := fun _ H' => Q .non H', rt := Q } (start ["pen", "at", "cell", "one", "two"] vs) H) : FnOk P w K mg base CX0 1 f fd ["pen"] sp := by
  refine F.ok sc__law_e_fresh len (fun cdv A outer s H vs Q E hr h => ⟨_, ?_, rd vs H Q E h⟩)
  have nd := sc__law_e_fresh.nd
  exact (@pss_cons _ _ _ _ _ (@ps_set _ _ 1 _ _ _ _ nd rfl (Or.inl rfl) (@pe_ix _ _ _ _ _ _ _ (ix_sqK (K := K) rfl) (pv 0) pe_int (fun _ _ => rfl)) (by rfl) (by first | exact .inl rfl | exact .inr rfl | assumption)) (@pss_cons _ _ _ _ _ (ps_asg (@pe_op _ _ _ _ _ _ _ _ (op_addK (K := K) rfl) (pv 1) pe_int) (pg_sub (pv 0) pe_int set_list)) (@pss_cons _ _ _ _ _ (@ps_set _ _ 2 _ _ _ _ nd rfl (Or.inl rfl) (@pe_op _ _ _ _ _ _ _ _ (op_addK (K := K) rfl) (@pe_op _ _ _ _ _ _ _ _ op_mulA (pv 1) (pv 1)) pe_int) (by rfl) (by first | exact .inl rfl | exact .inr rfl | assumption)) (@pss_cons _ _ _ _ _ (@ps_if _ _ _ _ _ _ _ _ (pt_cmpR op_lt (pv 1) (pe_callB (call_lenK (K := K) rfl) rfl B.len bt_len (@pa_consS _ _ _ _ _ _ _ (@pe_ix _ _ _ _ _ _ _ (ix_sqK (K := K) rfl) (pv 0) pe_int (fun _ _ => rfl)) pa_nil)) (nomark _)) (@pss_cons _ _ _ _ _ (@ps_set _ _ 2 _ _ _ _ nd rfl (Or.inl rfl) (@pe_ix _ _ _ _ _ _ _ (ix_sqK (K := K) rfl) (@pe_ix _ _ _ _ _ _ _ (ix_sqK (K := K) rfl) (pv 0) pe_int (fun _ _ => rfl)) (pv 1) (fun _ _ => rfl)) (by rfl) (by first | exact .inl rfl | exact .inr rfl | assumption)) pss_nil) (@pss_cons _ _ _ _ _ (@ps_if _ _ _ _ _ _ _ _ (pt_cmpR op_gt (pe_callB (call_lenK (K := K) rfl) rfl B.len bt_len (@pa_consS _ _ _ _ _ _ _ (@pe_ix _ _ _ _ _ _ _ (ix_sqK (K := K) rfl) (pv 0) pe_int (fun _ _ => rfl)) pa_nil)) pe_int (nomark _)) (@pss_cons _ _ _ _ _ (@ps_set _ _ 2 _ _ _ _ nd rfl (Or.inl rfl) (@pe_op _ _ _ _ _ _ _ _ (op_addK (K := K) rfl) (pv 2) (@pe_op _ _ _ _ _ _ _ _ op_mulA (@pe_op _ _ _ _ _ _ _ _ op_mod (@pe_ix _ _ _ _ _ _ _ (ix_sqK (K := K) rfl) (@pe_ix _ _ _ _ _ _ _ (ix_sqK (K := K) rfl) (pv 0) pe_int (fun _ _ => rfl)) (@pe_op _ _ _ _ _ _ _ _ op_mod (@pe_op _ _ _ _ _ _ _ _ op_mulA (pv 1) pe_int) (pe_callB (call_lenK (K := K) rfl) rfl B.len bt_len (@pa_consS _ _ _ _ _ _ _ (@pe_ix _ _ _ _ _ _ _ (ix_sqK (K := K) rfl) (pv 0) pe_int (fun _ _ => rfl)) pa_nil))) (fun _ _ => rfl)) pe_int) (@pe_op _ _ _ _ _ _ _ _ (op_addK (K := K) rfl) (pv 1) pe_int))) (by rfl) (by first | exact .inl rfl | exact .inr rfl | assumption)) pss_nil) pss_nil) pss_nil)) (@pss_cons _ _ _ _ _ (@ps_if _ _ _ _ _ _ _ _ (pt_cmpR op_ge (pv 2) (@pe_op _ _ _ _ _ _ _ _ op_pow pe_int pe_int) (nomark _)) (@pss_cons _ _ _ _ _ (@ps_ret _ _ _ _ (pv 2)) pss_nil) pss_nil) (@pss_cons _ _ _ _ _ (@ps_set _ _ 3 _ _ _ _ nd rfl (Or.inl rfl) (@pe_op _ _ _ _ _ _ _ _ op_mod (@pe_op _ _ _ _ _ _ _ _ (op_addK (K := K) rfl) (@pe_op _ _ _ _ _ _ _ _ (op_addK (K := K) rfl) (@pe_op _ _ _ _ _ _ _ _ op_mulA (@pe_op _ _ _ _ _ _ _ _ op_mod (pv 2) pe_int) pe_int) (@pe_op _ _ _ _ _ _ _ _ op_mulA (pv 1) pe_int)) pe_int) pe_int) (by rfl) (by first | exact .inl rfl | exact .inr rfl | assumption)) (@pss_cons _ _ _ _ _ (@ps_set _ _ 4 _ _ _ _ nd rfl (Or.inl rfl) (@pe_op _ _ _ _ _ _ _ _ op_mod (@pe_op _ _ _ _ _ _ _ _ (op_addK (K := K) rfl) (@pe_op _ _ _ _ _ _ _ _ (op_addK (K := K) rfl) (@pe_op _ _ _ _ _ _ _ _ op_mulA (pv 3) (pv 3)) (@pe_op _ _ _ _ _ _ _ _ op_mulA (pv 1) pe_int)) pe_int) pe_int) (by rfl) (by first | exact .inl rfl | exact .inr rfl | assumption)) (@pss_cons _ _ _ _ _ (@ps_ret _ _ _ _ (@pe_op _ _ _ _ _ _ _ _ (op_addK (K := K) rfl) (@pe_op _ _ _ _ _ _ _ _ op_mulA (@pe_op _ _ _ _ _ _ _ _ (op_addK (K := K) rfl) (pv 4) pe_int) pe_int) (@pe_op _ _ _ _ _ _ _ _ op_mod (@pe_op _ _ _ _ _ _ _ _ (op_addK (K := K) rfl) (@pe_op _ _ _ _ _ _ _ _ op_mulA (pv 4) (pv 4)) (pv 3)) pe_int))) pss_nil))))))))
theorem sc__law_e_take : FnScope ["pen", "many", "found"] ["pen", "many"] (defScope (top 11)) := ⟨rfl, rfl, rfl, by decide +kernel, rfl, by decide +kernel, by decide +kernel⟩
def T__law_e_take (K : PySem.W.Frag)  (sp__law_e_fresh : Sp) : TS := (tSeq (tIfS (tTest (tOp yLt (tOp (rIx2 K) (tVar 0) (tC (.int 2))) (tVar 1))) (tSeq (tAsg (tCall sp__law_e_fresh [] E0 (tCons (tVar 0) tNil)) (gSub (tVar 0) (tC (.int 2)) rSetL)) tNext) tNext) (tSeq (tAsg (tOp yMod (tOp (rIx2 K) (tVar 0) (tC (.int 2))) (tVar 1)) (gName 2)) (tSeq (tAsg (tOp yDiv (tOp (rIx2 K) (tVar 0) (tC (.int 2))) (tVar 1)) (gSub (tVar 0) (tC (.int 2)) rSetL)) (tSeq (tRet (tVar 2)) tNext))))
theorem ok__law_e_take (F : Fun K "_law_e_take" "_law_e_take" (top 11) f fd) (B : Blt4 mg)    {sp__law_e_fresh : Sp} (D__law_e_fresh : Def P w K mg base "_law_e_fresh" 1 ["pen"] sp__law_e_fresh)  {sp : Sp} (len : ∀ vs H Q E, sp vs H Q E → vs.length = 2)
    (rd : ∀ vs H Q E, sp vs H Q E → T__law_e_take K  sp__law_e_fresh { nx := fun _ H' => Q .non H', rt := Q } (start ["pen", "many", "found"] vs) H) : FnOk P w K mg base CX0 2 f fd ["pen", "many"] sp := by
  refine F.ok sc__law_e_take len (fun cdv A outer s H vs Q E hr h => ⟨_, ?_, rd vs H Q E h⟩)
  have nd := sc__law_e_take.nd
  exact (@pss_cons _ _ _ _ _ (@ps_if _ _ _ _ _ _ _ _ (pt_cmpR op_lt (@pe_ix _ _ _ _ _ _ _ (ix_sqK (K := K) rfl) (pv 0) pe_int (fun _ _ => rfl)) (pv 1) (nomark _)) (@pss_cons _ _ _ _ _ (ps_asg (pe_def (D__law_e_fresh.mono (by decide)) hr rfl (@pa_consN _ _ _ _ _ _ (pv 0) pa_nil)) (pg_sub (pv 0) pe_int set_list)) pss_nil) pss_nil) (@pss_cons _ _ _ _ _ (@ps_set _ _ 2 _ _ _ _ nd rfl (Or.inl rfl) (@pe_op _ _ _ _ _ _ _ _ op_mod (@pe_ix _ _ _ _ _ _ _ (ix_sqK (K := K) rfl) (pv 0) pe_int (fun _ _ => rfl)) (pv 1)) (by rfl) (by first | exact .inl rfl | exact .inr rfl | assumption)) (@pss_cons _ _ _ _ _ (ps_asg (@pe_op _ _ _ _ _ _ _ _ op_fdiv (@pe_ix _ _ _ _ _ _ _ (ix_sqK (K := K) rfl) (pv 0) pe_int (fun _ _ => rfl)) (pv 1)) (pg_sub (pv 0) pe_int set_list)) (@pss_cons _ _ _ _ _ (@ps_ret _ _ _ _ (pv 2)) pss_nil))))
theorem sc__law_e_table : FnScope ["pen", "many", "even", "top", "low", "lines", "i", "j"] ["pen", "many", "even"] (defScope (top 12)) := ⟨rfl, rfl, rfl, by decide +kernel, rfl, by decide +kernel, by decide +kernel⟩
def T__law_e_table (K : PySem.W.Frag)  (sp__law_e_take : Sp) : TS := (tSeq (tAsg (tOp (rIx2 K) (tLst (tCons (tC (.int 10)) (tCons (tC (.int 1000001)) (tCons (tC (.int 3)) (tCons (tC (.int 60)) (tCons (tC (.int 1001)) (tCons (tC (.int 2)) tNil))))))) (tCall sp__law_e_take [] E0 (tCons (tVar 0) (tCons (tC (.int 6)) tNil)))) (gName 3)) (tSeq (tAsg (tOp rMulA (tC (.int 999999)) (tCB rInt1 (tCons (tOp (rEqD K) (tVar 3) (tC (.int 2))) tNil))) (gName 4)) (tSeq (tAsg (tComp [none, some 1] (iRng1 (tCons (tVar 1) tNil)) (gName 0) [] fun acc => (tEmit (tOp rMulA (tLst (tCons (tC (.int 0)) tNil)) (tVar 1)) acc)) (gName 5)) (tSeq (tFor (iRng1 (tCons (tVar 1) tNil)) (gName 6) (tSeq (tFor (iRng1 (tCons (tVar 6) tNil)) (gName 7) (tSeq (tAsg (tOp (rAddA K) (tVar 4) (tCall sp__law_e_take [] E0 (tCons (tVar 0) (tCons (tVar 3) tNil)))) (gSub (tOp (rIx2 K) (tVar 5) (tVar 6)) (tVar 7) rSetL)) (tSeq (tAsg (tOp (rIx2 K) (tOp (rIx2 K) (tVar 5) (tVar 6)) (tVar 7)) (gSub (tOp (rIx2 K) (tVar 5) (tVar 7)) (tVar 6) rSetL)) (tSeq (tIfS (tNot (tTru K (tVar 2))) (tSeq (tAsg (tOp (rAddA K) (tVar 4) (tCall sp__law_e_take [] E0 (tCons (tVar 0) (tCons (tVar 3) tNil)))) (gSub (tOp (rIx2 K) (tVar 5) (tVar 7)) (tVar 6) rSetL)) tNext) tNext) tNext)))) tNext)) (tSeq (tRet (tCB (rTuple K) (tCons (tComp [none] (iSeq K (tVar 5)) (gName 0) [] fun acc => (tEmit (tCB (rTuple K) (tCons (tVar 0) tNil)) acc)) tNil))) tNext)))))
theorem ok__law_e_table (F : Fun K "_law_e_table" "_law_e_table" (top 12) f fd) (B : Blt4 mg)    {sp__law_e_take : Sp} (D__law_e_take : Def P w K mg base "_law_e_take" 2 ["pen", "many"] sp__law_e_take)  {sp : Sp} (len : ∀ vs H Q E, sp vs H Q E → vs.length = 3)
    (rd : ∀ vs H Q E, sp vs H Q E → T__law_e_table K  sp__law_e_take { nx := fun _ H' => Q .non H', rt := Q } (start ["pen", "many", "even", "top", "low", "lines", "i", "j"] vs) H) : FnOk P w K mg base CX0 3 f fd ["pen", "many", "even"] sp := by
  refine F.ok sc__law_e_table len (fun cdv A outer s H vs Q E hr h => ⟨_, ?_, rd vs H Q E h⟩)
  have nd := sc__law_e_table.nd
  exact (@pss_cons _ _ _ _ _ (@ps_set _ _ 3 _ _ _ _ nd rfl (Or.inl rfl) (@pe_ix _ _ _ _ _ _ _ (ix_sqK (K := K) rfl) (@pe_lst _ _ _ _ (@pa_consC _ _ _ _ _ _ _ pe_int (@pa_consC _ _ _ _ _ _ _ pe_int (@pa_consC _ _ _ _ _ _ _ pe_int (@pa_consC _ _ _ _ _ _ _ pe_int (@pa_consC _ _ _ _ _ _ _ pe_int (@pa_consC _ _ _ _ _ _ _ pe_int pa_nil))))))) (pe_def (D__law_e_take.mono (by decide)) hr rfl (@pa_consN _ _ _ _ _ _ (pv 0) (@pa_consC _ _ _ _ _ _ _ pe_int pa_nil))) (fun _ _ => rfl)) (by rfl) (by first | exact .inl rfl | exact .inr rfl | assumption)) (@pss_cons _ _ _ _ _ (@ps_set _ _ 4 _ _ _ _ nd rfl (Or.inl rfl) (@pe_op _ _ _ _ _ _ _ _ op_mulA pe_int (pe_callTy call_int1K rfl B.int bt_int (pa_cons (pe_cmpR (op_eqK (K := K) rfl hr) (pv 3) pe_int (nomark _)) pa_nil))) (by rfl) (by first | exact .inl rfl | exact .inr rfl | assumption)) (@pss_cons _ _ _ _ _ (ps_setComp (i := 5) nd rfl (Or.inl rfl) (N' := ["k", "many"]) (ix := [none, some 1]) rfl rfl rfl (pi_range1 rfl B.range (@pa_consN _ _ _ _ _ _ (pv 1) pa_nil)) (fun _ _ _ => (pg_name (i := 0) (show (["k", "many"] : List Str).Nodup from by decide +kernel) rfl (Or.inl rfl))) (fun _ _ _ => .nil) (fun _ _ _ _ => (pb_emit rfl (@pe_op _ _ _ _ _ _ _ _ op_mulA (@pe_lst _ _ _ _ (@pa_consC _ _ _ _ _ _ _ pe_int pa_nil)) (pv 1)) rfl))) (@pss_cons _ _ _ _ _ (ps_for PassesOwn.never rfl (pi_range1 rfl B.range (@pa_consN _ _ _ _ _ _ (pv 1) pa_nil)) (pg_name (i := 6) nd rfl (Or.inl rfl)) (@pss_cons _ _ _ _ _ (ps_for PassesOwn.never rfl (pi_range1 rfl B.range (@pa_consN _ _ _ _ _ _ (pv 6) pa_nil)) (pg_name (i := 7) nd rfl (Or.inl rfl)) (@pss_cons _ _ _ _ _ (ps_asg (@pe_op _ _ _ _ _ _ _ _ (op_addK (K := K) rfl) (pv 4) (pe_def (D__law_e_take.mono (by decide)) hr rfl (@pa_consN _ _ _ _ _ _ (pv 0) (@pa_consN _ _ _ _ _ _ (pv 3) pa_nil)))) (pg_sub (@pe_ix _ _ _ _ _ _ _ (ix_sqK (K := K) rfl) (pv 5) (pv 6) (fun _ _ => rfl)) (pv 7) set_list)) (@pss_cons _ _ _ _ _ (ps_asg (@pe_ix _ _ _ _ _ _ _ (ix_sqK (K := K) rfl) (@pe_ix _ _ _ _ _ _ _ (ix_sqK (K := K) rfl) (pv 5) (pv 6) (fun _ _ => rfl)) (pv 7) (fun _ _ => rfl)) (pg_sub (@pe_ix _ _ _ _ _ _ _ (ix_sqK (K := K) rfl) (pv 5) (pv 7) (fun _ _ => rfl)) (pv 6) set_list)) (@pss_cons _ _ _ _ _ (@ps_if _ _ _ _ _ _ _ _ (pt_not (pt_truK (K := K) rfl (pv 2) (fun _ => rfl))) (@pss_cons _ _ _ _ _ (ps_asg (@pe_op _ _ _ _ _ _ _ _ (op_addK (K := K) rfl) (pv 4) (pe_def (D__law_e_take.mono (by decide)) hr rfl (@pa_consN _ _ _ _ _ _ (pv 0) (@pa_consN _ _ _ _ _ _ (pv 3) pa_nil)))) (pg_sub (@pe_ix _ _ _ _ _ _ _ (ix_sqK (K := K) rfl) (pv 5) (pv 7) (fun _ _ => rfl)) (pv 6) set_list)) pss_nil) pss_nil) pss_nil)))) pss_nil)) (@pss_cons _ _ _ _ _ (@ps_ret _ _ _ _ (pe_callTy (call_tupleK (K := K) rfl) rfl B.tuple bt_tuple (pa_cons (pe_comp (N' := ["line"]) (ix := [none]) rfl rfl rfl (pi_seqK (K := K) rfl (pv 5)) (fun _ _ _ => (pg_name (i := 0) (show (["line"] : List Str).Nodup from by decide +kernel) rfl (Or.inl rfl))) (fun _ _ _ => .nil) (fun _ _ _ _ => (pb_emit rfl (pe_callTy (call_tupleK (K := K) rfl) rfl B.tuple bt_tuple (@pa_consN _ _ _ _ _ _ (pv 0) pa_nil)) rfl))) pa_nil))) pss_nil)))))
theorem sc__law_e_tour : FnScope ["pen", "many", "left", "found"] ["pen", "many"] (defScope (top 13)) := ⟨rfl, rfl, rfl, by decide +kernel, rfl, by decide +kernel, by decide +kernel⟩
def T__law_e_tour (K : PySem.W.Frag)  (sp__law_e_take : Sp) : TS := (tSeq (tAsg (tCB (rList K) (tCons (tCB rRng (tCons (tC (.int 1)) (tCons (tVar 1) tNil))) tNil)) (gName 2)) (tSeq (tAsg (tTup (tCons (tC (.int 0)) tNil)) (gName 3)) (tSeq (tWhile (tTest (tOp (rNeD K) (tVar 2) (tLst tNil))) (tSeq (tAsg (tOp (rAddA K) (tVar 3) (tTup (tCons (tBM K "list" rPopAt (tVar 2) (tCons (tCall sp__law_e_take [] E0 (tCons (tVar 0) (tCons (tCB (rLen K) (tCons (tVar 2) tNil)) tNil))) tNil)) tNil))) (gName 3)) tNext)) (tSeq (tRet (tVar 3)) tNext))))
theorem ok__law_e_tour (F : Fun K "_law_e_tour" "_law_e_tour" (top 13) f fd) (B : Blt4 mg)    {sp__law_e_take : Sp} (D__law_e_take : Def P w K mg base "_law_e_take" 2 ["pen", "many"] sp__law_e_take)  {sp : Sp} (len : ∀ vs H Q E, sp vs H Q E → vs.length = 2)
    (rd : ∀ vs H Q E, sp vs H Q E → T__law_e_tour K  sp__law_e_take { nx := fun _ H' => Q .non H', rt := Q } (start ["pen", "many", "left", "found"] vs) H) : FnOk P w K mg base CX0 3 f fd ["pen", "many"] sp := by
  refine F.ok sc__law_e_tour len (fun cdv A outer s H vs Q E hr h => ⟨_, ?_, rd vs H Q E h⟩)
  have nd := sc__law_e_tour.nd
  exact (@pss_cons _ _ _ _ _ (@ps_set _ _ 2 _ _ _ _ nd rfl (Or.inl rfl) (pe_callTy (call_listK (K := K) rfl rfl) rfl B.list bt_list (@pa_consK _ _ _ _ _ _ _ _ (pe_callTy call_rngK rfl B.range bt_range (@pa_consC _ _ _ _ _ _ _ pe_int (@pa_consN _ _ _ _ _ _ (pv 1) pa_nil))) pa_nil)) (by rfl) (by first | exact .inl rfl | exact .inr rfl | assumption)) (@pss_cons _ _ _ _ _ (@ps_set _ _ 3 _ _ _ _ nd rfl (Or.inl rfl) (@pe_tup _ _ _ _ _ (@pa_consC _ _ _ _ _ _ _ pe_int pa_nil)) (by rfl) (by first | exact .inl rfl | exact .inr rfl | assumption)) (@pss_cons _ _ _ _ _ (ps_while PassesOwn.never (pt_cmpR (op_neK (K := K) rfl hr) (pv 2) (@pe_lst _ _ _ _ pa_nil) (nomark _)) (@pss_cons _ _ _ _ _ (@ps_set _ _ 3 _ _ _ _ nd rfl (Or.inl rfl) (@pe_op _ _ _ _ _ _ _ _ (op_addK (K := K) rfl) (pv 3) (@pe_tup _ _ _ _ _ (@pa_consK _ _ _ _ _ _ _ _ (pe_bmK (K := K) rfl PySem.F.plainAttrs_list PySem.F.slot_list_pop PySem.F.type_list_pop mt_popAt (pv 2) (@pa_consK _ _ _ _ _ _ _ _ (pe_def (D__law_e_take.mono (by decide)) hr rfl (@pa_consN _ _ _ _ _ _ (pv 0) (@pa_consK _ _ _ _ _ _ _ _ (pe_callB (call_lenK (K := K) rfl) rfl B.len bt_len (@pa_consN _ _ _ _ _ _ (pv 2) pa_nil)) pa_nil))) pa_nil)) pa_nil))) (by rfl) (by first | exact .inl rfl | exact .inr rfl | assumption)) pss_nil)) (@pss_cons _ _ _ _ _ (@ps_ret _ _ _ _ (pv 3)) pss_nil))))
theorem sc__law_e_sum : FnScope ["table", "told"] ["table", "told"] (defScope (top 14)) := ⟨rfl, rfl, rfl, by decide +kernel, rfl, by decide +kernel, by decide +kernel⟩
def T__law_e_sum (K : PySem.W.Frag)   : TS := (tSeq (tRet (tCB (rSum K) (tCons (tComp [none, some 0, some 1] (iRng1 (tCons (tCB (rLen K) (tCons (tVar 1) tNil)) tNil)) (gName 0) [] fun acc => (tEmit (tOp (rIx2 K) (tOp (rIx2 K) (tVar 1) (tOp (rIx2 K) (tVar 2) (tOp ySub (tVar 0) (tC (.int 1))))) (tOp (rIx2 K) (tVar 2) (tVar 0))) acc)) tNil))) tNext)
theorem ok__law_e_sum (F : Fun K "_law_e_sum" "_law_e_sum" (top 14) f fd) (B : Blt4 mg)      {sp : Sp} (len : ∀ vs H Q E, sp vs H Q E → vs.length = 2)
    (rd : ∀ vs H Q E, sp vs H Q E → T__law_e_sum K   { nx := fun _ H' => Q .non H', rt := Q } (start ["table", "told"] vs) H) : FnOk P w K mg base CX0 1 f fd ["table", "told"] sp := by
  refine F.ok sc__law_e_sum len (fun cdv A outer s H vs Q E hr h => ⟨_, ?_, rd vs H Q E h⟩)
  have nd := sc__law_e_sum.nd
  exact (@pss_cons _ _ _ _ _ (@ps_ret _ _ _ _ (pe_callB (call_sumK (K := K) rfl rfl) rfl B.sum bt_sum (pa_cons (pe_comp (N' := ["k", "table", "told"]) (ix := [none, some 0, some 1]) rfl rfl rfl (pi_range1 rfl B.range (@pa_consK _ _ _ _ _ _ _ _ (pe_callB (call_lenK (K := K) rfl) rfl B.len bt_len (@pa_consN _ _ _ _ _ _ (pv 1) pa_nil)) pa_nil)) (fun _ _ _ => (pg_name (i := 0) (show (["k", "table", "told"] : List Str).Nodup from by decide +kernel) rfl (Or.inl rfl))) (fun _ _ _ => .nil) (fun _ _ _ _ => (pb_emit rfl (@pe_ix _ _ _ _ _ _ _ (ix_sqK (K := K) rfl) (@pe_ix _ _ _ _ _ _ _ (ix_sqK (K := K) rfl) (pv 1) (@pe_ix _ _ _ _ _ _ _ (ix_sqK (K := K) rfl) (pv 2) (@pe_op _ _ _ _ _ _ _ _ op_sub (pv 0) pe_int) (fun _ _ => rfl)) (fun _ _ => rfl)) (@pe_ix _ _ _ _ _ _ _ (ix_sqK (K := K) rfl) (pv 2) (pv 0) (fun _ _ => rfl)) (fun _ _ => rfl)) rfl))) pa_nil))) pss_nil)
theorem sc__law_e_moves : FnScope ["told", "found", "many", "size", "begin", "piece", "rest", "spots", "spot"] ["told"] (defScope (top 15)) := ⟨rfl, rfl, rfl, by decide +kernel, rfl, by decide +kernel, by decide +kernel⟩
def T__law_e_moves (K : PySem.W.Frag)   : TS := (tSeq (tAsg tDNewT (gName 1)) (tSeq (tAsg (tCB (rLen K) (tCons (tVar 0) tNil)) (gName 2)) (tSeq (tFor (iRng2 (tCons (tC (.int 1)) (tCons (tVar 2) tNil))) (gName 3) (tSeq (tFor (iRng2 (tCons (tC (.int 1)) (tCons (tOp (rAddA K) (tOp ySub (tVar 2) (tVar 3)) (tC (.int 1))) tNil))) (gName 4) (tSeq (tAsg (tSl (rSlU K) (tVar 0) (tPart (tVar 4)) (tPart (tOp (rAddA K) (tVar 4) (tVar 3)))) (gName 5)) (tSeq (tAsg (tOp (rAddA K) (tSl (rSlU K) (tVar 0) tNoPart (tPart (tVar 4))) (tSl (rSlU K) (tVar 0) (tPart (tOp (rAddA K) (tVar 4) (tVar 3))) tNoPart)) (gName 6)) (tSeq (tAsg (tLst (tCons (tVar 4) tNil)) (gName 7)) (tSeq (tIfS (tTest (tOp yLt (tVar 3) (tC (.int 4)))) (tSeq (tAsg (tCB (rList K) (tCons (tCB rRng (tCons (tC (.int 1)) (tCons (tOp (rAddA K) (tCB (rLen K) (tCons (tVar 6) tNil)) (tC (.int 1))) tNil))) tNil)) (gName 7)) tNext) tNext) (tSeq (tFor (iSeq K (tVar 7)) (gName 8) (tSeq (sDPut (tVar 1) (tOp (rAddA K) (tOp (rAddA K) (tSl (rSlU K) (tVar 6) tNoPart (tPart (tVar 8))) (tRev K (tVar 5))) (tSl (rSlU K) (tVar 6) (tPart (tVar 8)) tNoPart)) (tC (.bl true))) (tSeq (sDPut (tVar 1) (tOp (rAddA K) (tOp (rAddA K) (tSl (rSlU K) (tVar 6) tNoPart (tPart (tVar 8))) (tVar 5)) (tSl (rSlU K) (tVar 6) (tPart (tVar 8)) tNoPart)) (tC (.bl true))) tNext))) tNext)))))) tNext)) (tSeq (tDrop (tDPopT (tVar 1) (tVar 0) (tC .non))) (tSeq (tRet (tVar 1)) tNext)))))
theorem ok__law_e_moves (F : Fun K "_law_e_moves" "_law_e_moves" (top 15) f fd) (B : Blt4 mg)      {sp : Sp} (len : ∀ vs H Q E, sp vs H Q E → vs.length = 1)
    (rd : ∀ vs H Q E, sp vs H Q E → T__law_e_moves K   { nx := fun _ H' => Q .non H', rt := Q } (start ["told", "found", "many", "size", "begin", "piece", "rest", "spots", "spot"] vs) H) : FnOk P w K mg base CX0 1 f fd ["told"] sp := by
  refine F.ok sc__law_e_moves len (fun cdv A outer s H vs Q E hr h => ⟨_, ?_, rd vs H Q E h⟩)
  have nd := sc__law_e_moves.nd
  exact (@pss_cons _ _ _ _ _ (@ps_set _ _ 1 _ _ _ _ nd rfl (Or.inl rfl) pe_dnewT (by rfl) (by first | exact .inl rfl | exact .inr rfl | assumption)) (@pss_cons _ _ _ _ _ (@ps_set _ _ 2 _ _ _ _ nd rfl (Or.inl rfl) (pe_callB (call_lenK (K := K) rfl) rfl B.len bt_len (@pa_consN _ _ _ _ _ _ (pv 0) pa_nil)) (by rfl) (by first | exact .inl rfl | exact .inr rfl | assumption)) (@pss_cons _ _ _ _ _ (ps_for PassesOwn.never rfl (pi_range2 rfl B.range (@pa_consC _ _ _ _ _ _ _ pe_int (@pa_consN _ _ _ _ _ _ (pv 2) pa_nil))) (pg_name (i := 3) nd rfl (Or.inl rfl)) (@pss_cons _ _ _ _ _ (ps_for PassesOwn.never rfl (pi_range2 rfl B.range (@pa_consC _ _ _ _ _ _ _ pe_int (@pa_consB _ _ _ _ _ _ _ _ (@pe_op _ _ _ _ _ _ _ _ (op_addK (K := K) rfl) (@pe_op _ _ _ _ _ _ _ _ op_sub (pv 2) (pv 3)) pe_int) pa_nil))) (pg_name (i := 4) nd rfl (Or.inl rfl)) (@pss_cons _ _ _ _ _ (@ps_set _ _ 5 _ _ _ _ nd rfl (Or.inl rfl) (pe_slice (sl_uK (K := K) rfl) (pv 0) (po_some (pv 4)) (po_some (@pe_op _ _ _ _ _ _ _ _ (op_addK (K := K) rfl) (pv 4) (pv 3)))) (by rfl) (by first | exact .inl rfl | exact .inr rfl | assumption)) (@pss_cons _ _ _ _ _ (@ps_set _ _ 6 _ _ _ _ nd rfl (Or.inl rfl) (@pe_op _ _ _ _ _ _ _ _ (op_addK (K := K) rfl) (pe_slice (sl_uK (K := K) rfl) (pv 0) po_none (po_some (pv 4))) (pe_slice (sl_uK (K := K) rfl) (pv 0) (po_some (@pe_op _ _ _ _ _ _ _ _ (op_addK (K := K) rfl) (pv 4) (pv 3))) po_none)) (by rfl) (by first | exact .inl rfl | exact .inr rfl | assumption)) (@pss_cons _ _ _ _ _ (@ps_set _ _ 7 _ _ _ _ nd rfl (Or.inl rfl) (@pe_lst _ _ _ _ (@pa_consN _ _ _ _ _ _ (pv 4) pa_nil)) (by rfl) (by first | exact .inl rfl | exact .inr rfl | assumption)) (@pss_cons _ _ _ _ _ (@ps_if _ _ _ _ _ _ _ _ (pt_cmpR op_lt (pv 3) pe_int (nomark _)) (@pss_cons _ _ _ _ _ (@ps_set _ _ 7 _ _ _ _ nd rfl (Or.inl rfl) (pe_callTy (call_listK (K := K) rfl rfl) rfl B.list bt_list (@pa_consK _ _ _ _ _ _ _ _ (pe_callTy call_rngK rfl B.range bt_range (@pa_consC _ _ _ _ _ _ _ pe_int (@pa_consB _ _ _ _ _ _ _ _ (@pe_op _ _ _ _ _ _ _ _ (op_addK (K := K) rfl) (pe_callB (call_lenK (K := K) rfl) rfl B.len bt_len (@pa_consN _ _ _ _ _ _ (pv 6) pa_nil)) pe_int) pa_nil))) pa_nil)) (by rfl) (by first | exact .inl rfl | exact .inr rfl | assumption)) pss_nil) pss_nil) (@pss_cons _ _ _ _ _ (ps_for PassesOwn.never rfl (pi_seqK (K := K) rfl (pv 7)) (pg_name (i := 8) nd rfl (Or.inl rfl)) (@pss_cons _ _ _ _ _ (ps_dput (hu_of hr) (pv 1) (@pe_op _ _ _ _ _ _ _ _ (op_addK (K := K) rfl) (@pe_op _ _ _ _ _ _ _ _ (op_addK (K := K) rfl) (pe_slice (sl_uK (K := K) rfl) (pv 6) po_none (po_some (pv 8))) (pe_revK (K := K) rfl (pv 5))) (pe_slice (sl_uK (K := K) rfl) (pv 6) (po_some (pv 8)) po_none)) pe_bl rfl) (@pss_cons _ _ _ _ _ (ps_dput (hu_of hr) (pv 1) (@pe_op _ _ _ _ _ _ _ _ (op_addK (K := K) rfl) (@pe_op _ _ _ _ _ _ _ _ (op_addK (K := K) rfl) (pe_slice (sl_uK (K := K) rfl) (pv 6) po_none (po_some (pv 8))) (pv 5)) (pe_slice (sl_uK (K := K) rfl) (pv 6) (po_some (pv 8)) po_none)) pe_bl rfl) pss_nil))) pss_nil)))))) pss_nil)) (@pss_cons _ _ _ _ _ (ps_expr (pe_dpopT (hu_of hr) (pv 1) (pv 0) pe_non ⟨rfl, rfl, rfl, rfl⟩)) (@pss_cons _ _ _ _ _ (@ps_ret _ _ _ _ (pv 1)) pss_nil)))))
theorem sc__law_e_best : FnScope ["table", "told", "some"] ["table", "told"] (defScope (top 16)) := ⟨rfl, rfl, rfl, by decide +kernel, rfl, by decide +kernel, by decide +kernel⟩
def T__law_e_best (K : PySem.W.Frag)  (sp__law_e_moves : Sp) (sp__law_e_sum : Sp) : TS := (tSeq (tAsg (tComp [none, some 0] (iKeysT (tCall sp__law_e_moves [] E0 (tCons (tVar 1) tNil))) (gName 0) [] fun acc => (tEmit (tTup (tCons (tCall sp__law_e_sum [] E0 (tCons (tVar 1) (tCons (tVar 0) tNil))) (tCons (tVar 0) tNil))) acc)) (gName 2)) (tSeq (tDrop (tBM K "list" rAppend (tVar 2) (tCons (tTup (tCons (tCall sp__law_e_sum [] E0 (tCons (tVar 0) (tCons (tVar 1) tNil))) (tCons (tVar 1) tNil))) tNil))) (tSeq (tRet (tIf (tTest (tOp yLt (tOp (rIx2 K) (tCB (rMinC K) (tCons (tVar 2) tNil)) (tC (.int 0))) (tCall sp__law_e_sum [] E0 (tCons (tVar 0) (tCons (tVar 1) tNil))))) (tOp (rIx2 K) (tCB (rMinC K) (tCons (tVar 2) tNil)) (tC (.int 1))) (tVar 1))) tNext)))
theorem ok__law_e_best (F : Fun K "_law_e_best" "_law_e_best" (top 16) f fd) (B : Blt4 mg)    {sp__law_e_moves : Sp} (D__law_e_moves : Def P w K mg base "_law_e_moves" 1 ["told"] sp__law_e_moves) {sp__law_e_sum : Sp} (D__law_e_sum : Def P w K mg base "_law_e_sum" 1 ["table", "told"] sp__law_e_sum)  {sp : Sp} (len : ∀ vs H Q E, sp vs H Q E → vs.length = 2)
    (rd : ∀ vs H Q E, sp vs H Q E → T__law_e_best K  sp__law_e_moves sp__law_e_sum { nx := fun _ H' => Q .non H', rt := Q } (start ["table", "told", "some"] vs) H) : FnOk P w K mg base CX0 2 f fd ["table", "told"] sp := by
  refine F.ok sc__law_e_best len (fun cdv A outer s H vs Q E hr h => ⟨_, ?_, rd vs H Q E h⟩)
  have nd := sc__law_e_best.nd
  exact (@pss_cons _ _ _ _ _ (ps_setComp (i := 2) nd rfl (Or.inl rfl) (N' := ["other", "table"]) (ix := [none, some 0]) rfl rfl rfl (pi_keysT (pe_def (D__law_e_moves.mono (by decide)) hr rfl (@pa_consN _ _ _ _ _ _ (pv 1) pa_nil))) (fun _ _ _ => (pg_name (i := 0) (show (["other", "table"] : List Str).Nodup from by decide +kernel) rfl (Or.inl rfl))) (fun _ _ _ => .nil) (fun _ _ _ _ => (pb_emit rfl (@pe_tup _ _ _ _ _ (@pa_consK _ _ _ _ _ _ _ _ (pe_def (D__law_e_sum.mono (by decide)) hr rfl (@pa_consN _ _ _ _ _ _ (pv 1) (@pa_consN _ _ _ _ _ _ (pv 0) pa_nil))) (@pa_consN _ _ _ _ _ _ (pv 0) pa_nil))) rfl))) (@pss_cons _ _ _ _ _ (ps_expr (pe_bmK (K := K) rfl PySem.F.plainAttrs_list PySem.F.slot_list_append PySem.F.type_list_append mt_append (pv 2) (@pa_consT _ _ _ _ _ _ _ (@pe_tup _ _ _ _ _ (@pa_consK _ _ _ _ _ _ _ _ (pe_def (D__law_e_sum.mono (by decide)) hr rfl (@pa_consN _ _ _ _ _ _ (pv 0) (@pa_consN _ _ _ _ _ _ (pv 1) pa_nil))) (@pa_consN _ _ _ _ _ _ (pv 1) pa_nil))) pa_nil))) (@pss_cons _ _ _ _ _ (@ps_ret _ _ _ _ (pe_ifExp (pt_cmpR op_lt (@pe_ix _ _ _ _ _ _ _ (ix_sqK (K := K) rfl) (pe_callB (call_minCK (K := K) rfl hr rfl) rfl B.min bt_min (@pa_consN _ _ _ _ _ _ (pv 2) pa_nil)) pe_int (fun _ _ => rfl)) (pe_def (D__law_e_sum.mono (by decide)) hr rfl (@pa_consN _ _ _ _ _ _ (pv 0) (@pa_consN _ _ _ _ _ _ (pv 1) pa_nil))) (nomark _)) (@pe_ix _ _ _ _ _ _ _ (ix_sqK (K := K) rfl) (pe_callB (call_minCK (K := K) rfl hr rfl) rfl B.min bt_min (@pa_consN _ _ _ _ _ _ (pv 2) pa_nil)) pe_int (fun _ _ => rfl)) (pv 1))) pss_nil)))
theorem sc_law : FnScope ["script", "pen", "turn", "many", "table", "tours", "other", "told", "some", "due"] ["script"] (defScope (top 17)) := ⟨rfl, rfl, rfl, by decide +kernel, rfl, by decide +kernel, by decide +kernel⟩
def T_law (K : PySem.W.Frag)  (sp__law_e_best : Sp) (sp__law_e_pen : Sp) (sp__law_e_table : Sp) (sp__law_e_take : Sp) (sp__law_e_tour : Sp) (sp_is_settled : Sp) : TS := (tSeq (tAsg (tCall sp__law_e_pen [] E0 (tCons (tVar 0) tNil)) (gName 1)) (tSeq (tFor (iRng1 (tCons (tC (.int 4)) tNil)) (gName 2) (tSeq (tAsg (tOp (rAddA K) (tC (.int 1)) (tCall sp__law_e_take [] E0 (tCons (tVar 1) (tCons (tC (.int 8)) tNil)))) (gName 3)) (tSeq (tAsg (tCall sp__law_e_table [] E0 (tCons (tVar 1) (tCons (tVar 3) (tCons (tOp (rEqD K) (tCall sp__law_e_take [] E0 (tCons (tVar 1) (tCons (tC (.int 2)) tNil))) (tC (.int 0))) tNil)))) (gName 4)) (tSeq (tAsg (tLst (tCons (tCall sp__law_e_tour [] E0 (tCons (tVar 1) (tCons (tVar 3) tNil))) tNil)) (gName 5)) (tSeq (tWhile (tTest (tOp (rNeD K) (tCall sp__law_e_best [] E0 (tCons (tVar 4) (tCons (tOp (rIx2 K) (tVar 5) (tUn yNeg (tC (.int 1)))) tNil))) (tOp (rIx2 K) (tVar 5) (tUn yNeg (tC (.int 1)))))) (tSeq (tDrop (tBM K "list" rAppend (tVar 5) (tCons (tCall sp__law_e_best [] E0 (tCons (tVar 4) (tCons (tOp (rIx2 K) (tVar 5) (tUn yNeg (tC (.int 1)))) tNil))) tNil))) tNext)) (tSeq (tAsg (tCall sp__law_e_table [] E0 (tCons (tVar 1) (tCons (tVar 3) (tCons (tOp (rEqD K) (tCall sp__law_e_take [] E0 (tCons (tVar 1) (tCons (tC (.int 2)) tNil))) (tC (.int 0))) tNil)))) (gName 6)) (tSeq (tFor (iSeq K (tLst (tCons (tOp (rIx2 K) (tVar 5) (tC (.int 0))) (tCons (tOp (rIx2 K) (tVar 5) (tUn yNeg (tC (.int 1)))) (tCons (tOp (rIx2 K) (tVar 5) (tCB rMax2 (tCons (tC (.int 0)) (tCons (tOp ySub (tCB (rLen K) (tCons (tVar 5) tNil)) (tC (.int 2))) tNil)))) tNil))))) (gName 7) (tSeq (tFor (iSeq K (tLst (tCons (tVar 4) (tCons (tVar 6) (tCons (tVar 4) tNil))))) (gName 8) (tSeq (tAsg (tOp (rEqD K) (tCall sp__law_e_best [] E0 (tCons (tVar 8) (tCons (tVar 7) tNil))) (tVar 7)) (gName 9)) (tSeq (tIfS (tTest (tOp (rNeD K) (tCB (rRepr K) (tCons (tCall sp_is_settled [] E0 (tCons (tVar 8) (tCons (tVar 7) tNil))) tNil)) (tCB (rRepr K) (tCons (tVar 9) tNil)))) (tSeq (tRet (tC (.bl false))) tNext) tNext) tNext))) tNext)) tNext))))))) (tSeq (tRet (tC (.bl true))) tNext)))
theorem ok_law (F : Fun K "law" "law" (top 17) f fd) (B : Blt4 mg)    {sp__law_e_best : Sp} (D__law_e_best : Def P w K mg base "_law_e_best" 2 ["table", "told"] sp__law_e_best) {sp__law_e_pen : Sp} (D__law_e_pen : Def P w K mg base "_law_e_pen" 1 ["script"] sp__law_e_pen) {sp__law_e_table : Sp} (D__law_e_table : Def P w K mg base "_law_e_table" 3 ["pen", "many", "even"] sp__law_e_table) {sp__law_e_take : Sp} (D__law_e_take : Def P w K mg base "_law_e_take" 2 ["pen", "many"] sp__law_e_take) {sp__law_e_tour : Sp} (D__law_e_tour : Def P w K mg base "_law_e_tour" 3 ["pen", "many"] sp__law_e_tour) {sp_is_settled : Sp} (D_is_settled : Def P w K mg base "is_settled" 4 ["table", "round_"] sp_is_settled)  {sp : Sp} (len : ∀ vs H Q E, sp vs H Q E → vs.length = 1)
    (rd : ∀ vs H Q E, sp vs H Q E → T_law K  sp__law_e_best sp__law_e_pen sp__law_e_table sp__law_e_take sp__law_e_tour sp_is_settled { nx := fun _ H' => Q .non H', rt := Q } (start ["script", "pen", "turn", "many", "table", "tours", "other", "told", "some", "due"] vs) H) : FnOk P w K mg base CX0 5 f fd ["script"] sp := by
  refine F.ok sc_law len (fun cdv A outer s H vs Q E hr h => ⟨_, ?_, rd vs H Q E h⟩)
  have nd := sc_law.nd
  exact (@pss_cons _ _ _ _ _ (@ps_set _ _ 1 _ _ _ _ nd rfl (Or.inl rfl) (pe_def (D__law_e_pen.mono (by decide)) hr rfl (@pa_consN _ _ _ _ _ _ (pv 0) pa_nil)) (by rfl) (by first | exact .inl rfl | exact .inr rfl | assumption)) (@pss_cons _ _ _ _ _ (ps_for PassesOwn.never rfl (pi_range1 rfl B.range (@pa_consC _ _ _ _ _ _ _ pe_int pa_nil)) (pg_name (i := 2) nd rfl (Or.inl rfl)) (@pss_cons _ _ _ _ _ (@ps_set _ _ 3 _ _ _ _ nd rfl (Or.inl rfl) (@pe_op _ _ _ _ _ _ _ _ (op_addK (K := K) rfl) pe_int (pe_def (D__law_e_take.mono (by decide)) hr rfl (@pa_consN _ _ _ _ _ _ (pv 1) (@pa_consC _ _ _ _ _ _ _ pe_int pa_nil)))) (by rfl) (by first | exact .inl rfl | exact .inr rfl | assumption)) (@pss_cons _ _ _ _ _ (@ps_set _ _ 4 _ _ _ _ nd rfl (Or.inl rfl) (pe_def (D__law_e_table.mono (by decide)) hr rfl (@pa_consN _ _ _ _ _ _ (pv 1) (@pa_consN _ _ _ _ _ _ (pv 3) (pa_cons (pe_cmpR (op_eqK (K := K) rfl hr) (pe_def (D__law_e_take.mono (by decide)) hr rfl (@pa_consN _ _ _ _ _ _ (pv 1) (@pa_consC _ _ _ _ _ _ _ pe_int pa_nil))) pe_int (nomark _)) pa_nil)))) (by rfl) (by first | exact .inl rfl | exact .inr rfl | assumption)) (@pss_cons _ _ _ _ _ (@ps_set _ _ 5 _ _ _ _ nd rfl (Or.inl rfl) (@pe_lst _ _ _ _ (@pa_consK _ _ _ _ _ _ _ _ (pe_def (D__law_e_tour.mono (by decide)) hr rfl (@pa_consN _ _ _ _ _ _ (pv 1) (@pa_consN _ _ _ _ _ _ (pv 3) pa_nil))) pa_nil)) (by rfl) (by first | exact .inl rfl | exact .inr rfl | assumption)) (@pss_cons _ _ _ _ _ (ps_while PassesOwn.never (pt_cmpR (op_neK (K := K) rfl hr) (pe_def (D__law_e_best.mono (by decide)) hr rfl (@pa_consN _ _ _ _ _ _ (pv 4) (@pa_consS _ _ _ _ _ _ _ (@pe_ix _ _ _ _ _ _ _ (ix_sqK (K := K) rfl) (pv 5) (pe_un un_neg pe_int) (fun _ _ => rfl)) pa_nil))) (@pe_ix _ _ _ _ _ _ _ (ix_sqK (K := K) rfl) (pv 5) (pe_un un_neg pe_int) (fun _ _ => rfl)) (nomark _)) (@pss_cons _ _ _ _ _ (ps_expr (pe_bmK (K := K) rfl PySem.F.plainAttrs_list PySem.F.slot_list_append PySem.F.type_list_append mt_append (pv 5) (@pa_consK _ _ _ _ _ _ _ _ (pe_def (D__law_e_best.mono (by decide)) hr rfl (@pa_consN _ _ _ _ _ _ (pv 4) (@pa_consS _ _ _ _ _ _ _ (@pe_ix _ _ _ _ _ _ _ (ix_sqK (K := K) rfl) (pv 5) (pe_un un_neg pe_int) (fun _ _ => rfl)) pa_nil))) pa_nil))) pss_nil)) (@pss_cons _ _ _ _ _ (@ps_set _ _ 6 _ _ _ _ nd rfl (Or.inl rfl) (pe_def (D__law_e_table.mono (by decide)) hr rfl (@pa_consN _ _ _ _ _ _ (pv 1) (@pa_consN _ _ _ _ _ _ (pv 3) (pa_cons (pe_cmpR (op_eqK (K := K) rfl hr) (pe_def (D__law_e_take.mono (by decide)) hr rfl (@pa_consN _ _ _ _ _ _ (pv 1) (@pa_consC _ _ _ _ _ _ _ pe_int pa_nil))) pe_int (nomark _)) pa_nil)))) (by rfl) (by first | exact .inl rfl | exact .inr rfl | assumption)) (@pss_cons _ _ _ _ _ (ps_for PassesOwn.never rfl (pi_seqK (K := K) rfl (@pe_lst _ _ _ _ (@pa_consS _ _ _ _ _ _ _ (@pe_ix _ _ _ _ _ _ _ (ix_sqK (K := K) rfl) (pv 5) pe_int (fun _ _ => rfl)) (@pa_consS _ _ _ _ _ _ _ (@pe_ix _ _ _ _ _ _ _ (ix_sqK (K := K) rfl) (pv 5) (pe_un un_neg pe_int) (fun _ _ => rfl)) (@pa_consS _ _ _ _ _ _ _ (@pe_ix _ _ _ _ _ _ _ (ix_sqK (K := K) rfl) (pv 5) (pe_callB (call_max2K rfl) rfl B.max bt_max (@pa_consC _ _ _ _ _ _ _ pe_int (@pa_consB _ _ _ _ _ _ _ _ (@pe_op _ _ _ _ _ _ _ _ op_sub (pe_callB (call_lenK (K := K) rfl) rfl B.len bt_len (@pa_consN _ _ _ _ _ _ (pv 5) pa_nil)) pe_int) pa_nil))) (fun _ _ => rfl)) pa_nil))))) (pg_name (i := 7) nd rfl (Or.inl rfl)) (@pss_cons _ _ _ _ _ (ps_for PassesOwn.never rfl (pi_seqK (K := K) rfl (@pe_lst _ _ _ _ (@pa_consN _ _ _ _ _ _ (pv 4) (@pa_consN _ _ _ _ _ _ (pv 6) (@pa_consN _ _ _ _ _ _ (pv 4) pa_nil))))) (pg_name (i := 8) nd rfl (Or.inl rfl)) (@pss_cons _ _ _ _ _ (@ps_set _ _ 9 _ _ _ _ nd rfl (Or.inl rfl) (pe_cmpR (op_eqK (K := K) rfl hr) (pe_def (D__law_e_best.mono (by decide)) hr rfl (@pa_consN _ _ _ _ _ _ (pv 8) (@pa_consN _ _ _ _ _ _ (pv 7) pa_nil))) (pv 7) (nomark _)) (by rfl) (by first | exact .inl rfl | exact .inr rfl | assumption)) (@pss_cons _ _ _ _ _ (@ps_if _ _ _ _ _ _ _ _ (pt_cmpR (op_neK (K := K) rfl hr) (pe_callB (call_reprK (K := K) rfl hr) rfl B.repr bt_repr (@pa_consK _ _ _ _ _ _ _ _ (pe_def (D_is_settled.mono (by decide)) hr rfl (@pa_consN _ _ _ _ _ _ (pv 8) (@pa_consN _ _ _ _ _ _ (pv 7) pa_nil))) pa_nil)) (pe_callB (call_reprK (K := K) rfl hr) rfl B.repr bt_repr (@pa_consN _ _ _ _ _ _ (pv 9) pa_nil)) (nomark _)) (@pss_cons _ _ _ _ _ (@ps_ret _ _ _ _ pe_bl) pss_nil) pss_nil) pss_nil))) pss_nil)) pss_nil))))))) (@pss_cons _ _ _ _ _ (@ps_ret _ _ _ _ pe_bl) pss_nil)))
end
end K57
namespace K57
open PySem L2
theorem cmul_mod {a m j : Int} (h0 : 0 < m) (h1 : m ≤ 4611686018427387904) : CMul (a % m) j := .inl ⟨by have := Int.emod_nonneg a (show m ≠ 0 by omega); omega, by have := Int.emod_lt_of_pos a h0; omega⟩
def penO (l : Addr) (k : Nat) (z : Int) : HO := .lst [.ref l, .int (k : Int), .int z]
def PenAt (H : Hp) (p l : Addr) (ns : List Int) (k : Nat) (z : Int) : Prop := H p = some (penO l k z) ∧ H l = some (.lst (ns.map V.int)) ∧ l ≠ p
def frRest (K : PySem.W.Frag) : TS := (tSeq (tIfS (tTest (tOp yGe (tVar 2) (tOp yPow (tC (.int 10)) (tC (.int 18))))) (tSeq (tRet (tVar 2)) tNext) tNext) (tSeq (tAsg (tOp yMod (tOp (rAddA K) (tOp (rAddA K) (tOp rMulA (tOp yMod (tVar 2) (tC (.int 2147483423))) (tC (.int 60013))) (tOp rMulA (tVar 1) (tC (.int 40692)))) (tC (.int 17))) (tC (.int 2147483399))) (gName 3)) (tSeq (tAsg (tOp yMod (tOp (rAddA K) (tOp (rAddA K) (tOp rMulA (tVar 3) (tVar 3)) (tOp rMulA (tVar 1) (tC (.int 811)))) (tC (.int 3))) (tC (.int 2147483353))) (gName 4)) (tSeq (tRet (tOp (rAddA K) (tOp rMulA (tOp (rAddA K) (tVar 4) (tC (.int 2147483353))) (tC (.int 2147483353))) (tOp yMod (tOp (rAddA K) (tOp rMulA (tVar 4) (tVar 4)) (tVar 3)) (tC (.int 2147483353))))) tNext))))
section
variable {K : PySem.W.Frag}
def spFresh : Sp := fun vs H Q _ => ∃ (p l : Addr) (ns : List Int) (k : Nat) (z : Int), vs = [.ref p] ∧ PenAt H p l ns k z ∧ k ≤ 100000 ∧ ∀ v : Int, Q (.int v) (upd H p (penO l (k + 1) z))
theorem rd_frRest {G : Hp} {p : Addr} {k : Nat} {c : Int} {Q : VK} (hk : k ≤ 100000) (q : ∀ v : Int, Q (.int v) G) : frRest K { nx := fun _ H' => Q .non H', rt := Q } [some (.ref p), some (.int (k : Int)), some (.int c), none, none] G := by
  refine ⟨_, rfl, 10, 18, rfl, rfl, ⟨by decide, by decide, by decide⟩, _, _, rfl, rfl, _, rfl, ite2 (fun c1 => ⟨_, rfl, q c⟩) fun c1 => ?_⟩
  refine ⟨_, rfl, _, _, rfl, rfl, by show (0 : Int) < 2147483423; decide, .inr ⟨by decide, by decide⟩, _, rfl, .inr ⟨by decide, by decide⟩, _, _, rfl, rfl, by show (0 : Int) < 2147483399; decide, ?_⟩
  refine ⟨_, rfl, _, rfl, cmul_mod (by decide) (by decide), _, rfl, .inr ⟨by decide, by decide⟩, _, _, rfl, rfl, by show (0 : Int) < 2147483353; decide, ?_⟩
  exact ⟨_, rfl, .inr ⟨by decide, by decide⟩, _, rfl, _, rfl, cmul_mod (by decide) (by decide), _, rfl, _, _, rfl, rfl, by show (0 : Int) < 2147483353; decide, q _⟩
theorem rd_fresh : ∀ vs H Q E, spFresh vs H Q E → T__law_e_fresh K { nx := fun _ H' => Q .non H', rt := Q } (start ["pen", "at", "cell", "one", "two"] vs) H := by
  intro vs H Q E h
  obtain ⟨p, l, ns, k, z, rfl, ⟨hp, hl, hlp⟩, hk, q⟩ := h
  refine ⟨_, rfl, ixL (j := 1) (.of hp) rfl ?_⟩
  refine ⟨_, rfl, _, rfl, p, _, 1, 1, rfl, rfl, hp, rfl, ?_⟩
  have hG : (upd H p (.lst ([.ref l, .int (k : Int), .int z].set 1 (.int ((k : Int) + 1))))) p = some (penO l (k + 1) z) := by rw [upd_same]; rfl
  have hlG : (upd H p (.lst ([.ref l, .int (k : Int), .int z].set 1 (.int ((k : Int) + 1))))) l = some (.lst (ns.map V.int)) := by rw [upd_ne hlp]; exact hl
  have q' : ∀ v : Int, Q (.int v) (upd H p (.lst ([.ref l, .int (k : Int), .int z].set 1 (.int ((k : Int) + 1))))) := q
  generalize upd H p (.lst ([.ref l, .int (k : Int), .int z].set 1 (.int ((k : Int) + 1)))) = G at *
  refine ⟨_, rfl, _, rfl, .inl ⟨by omega, by omega⟩, ?_⟩
  refine ⟨_, rfl, _, rfl, ixL (j := 0) (.of hG) rfl ⟨l, _, rfl, .inl (.of hlG), _, _, rfl, rfl, _, rfl, ?_⟩⟩
  rw [List.length_map]
  by_cases c1 : k < ns.length
  · refine iteT' (decide_eq_true (by omega)) ?_
    refine ⟨_, rfl, ixL (j := 0) (.of hG) rfl ⟨_, rfl, ixL (j := k) (v := .int (ns.getD k 0)) (.of hlG) (by rw [List.getElem?_map, L2.getD_at c1]; rfl) ?_⟩⟩
    exact rd_frRest hk q'
  · refine iteF' (decide_eq_false (by omega)) ?_
    refine ⟨_, rfl, ixL (j := 0) (.of hG) rfl ⟨l, _, rfl, .inl (.of hlG), _, _, rfl, rfl, _, rfl, ?_⟩⟩
    rw [List.length_map]
    by_cases c2 : 0 < ns.length
    · refine iteT' (decide_eq_true (by omega)) ?_
      obtain ⟨j, ej, hj⟩ := mod_nat (c := (k : Int) * 3) (n := ns.length) c2
      refine ⟨_, rfl, _, rfl, ixL (j := 0) (.of hG) rfl ⟨_, rfl, .inr ⟨by decide, by decide⟩, _, rfl, ixL (j := 0) (.of hG) rfl ⟨l, _, rfl, .inl (.of hlG), ?_⟩⟩⟩
      rw [List.length_map]
      refine yMod_nat c2 ej ?_
      refine ixL (j := j) (v := .int (ns.getD j 0)) (.of hlG) (by rw [List.getElem?_map, L2.getD_at hj]; rfl) ⟨_, _, rfl, rfl, by show (0 : Int) < 1000003; decide, _, rfl, cmul_mod (by decide) (by decide), ?_⟩
      exact rd_frRest hk q'
    · refine iteF' (decide_eq_false (by omega)) ?_
      exact rd_frRest hk q'
def spTake : Sp := fun vs H Q _ => ∃ (p l : Addr) (ns : List Int) (k : Nat) (z : Int) (m : Nat), vs = [.ref p, .int (m : Int)] ∧ PenAt H p l ns k z ∧ k ≤ 100000 ∧ 1 ≤ m ∧ m ≤ 1000001 ∧ ∀ (r k' : Nat) (z' : Int) H', r < m → k' ≤ k + 1 → PenAt H' p l ns k' z' → SameX p H H' → Q (.int (r : Int)) H'
theorem PenAt.put {H : Hp} {p l : Addr} {ns : List Int} {k k' : Nat} {z z' : Int} (h : PenAt H p l ns k z) : PenAt (upd H p (penO l k' z')) p l ns k' z' := ⟨upd_same, by rw [upd_ne h.2.2]; exact h.2.1, h.2.2⟩
theorem PenAt.x {H H' : Hp} {p l : Addr} {ns : List Int} {k : Nat} {z : Int} (h : PenAt H p l ns k z) (s : Same H H') : PenAt H' p l ns k z := ⟨s _ _ h.1, s _ _ h.2.1, h.2.2⟩
theorem rd_take : ∀ vs H Q E, spTake vs H Q E → T__law_e_take K spFresh { nx := fun _ H' => Q .non H', rt := Q } (start ["pen", "many", "found"] vs) H := by
  intro vs H Q E h
  obtain ⟨p, l, ns, k, z, m, rfl, hP, hk, h1, hm, q⟩ := h
  have rest : ∀ (G : Hp) (k' : Nat) (z' : Int), PenAt G p l ns k' z' → k' ≤ k + 1 → SameX p H G → tSeq (tAsg (tOp yMod (tOp (rIx2 K) (tVar 0) (tC (.int 2))) (tVar 1)) (gName 2)) (tSeq (tAsg (tOp yDiv (tOp (rIx2 K) (tVar 0) (tC (.int 2))) (tVar 1)) (gSub (tVar 0) (tC (.int 2)) rSetL)) (tSeq (tRet (tVar 2)) tNext)) { nx := fun _ H' => Q .non H', rt := Q } [some (.ref p), some (.int (m : Int)), none] G := fun G k' z' hG hk' sx => by
    obtain ⟨r, er, hr⟩ := mod_nat (c := z') (n := m) h1
    refine ⟨_, rfl, ixL (j := 2) (.of hG.1) rfl ⟨_, rfl, yMod_nat h1 er ?_⟩⟩
    refine ⟨_, rfl, ixL (j := 2) (.of hG.1) rfl ⟨_, rfl, _, _, rfl, rfl, ⟨by omega, by omega⟩, _, rfl, p, _, 2, 2, rfl, rfl, hG.1, rfl, ?_⟩⟩
    exact ⟨_, rfl, q r k' (z' / (m : Int)) _ hr hk' hG.put (sx.trans (SameX.put _))⟩
  refine ⟨_, rfl, ixL (j := 2) (.of hP.1) rfl ⟨_, rfl, _, _, rfl, rfl, _, rfl, ite2 (fun c1 => ?_) fun c1 => ?_⟩⟩
  · refine ⟨_, rfl, p, l, ns, k, z, rfl, hP, hk, fun v => ⟨_, rfl, p, _, 2, 2, rfl, rfl, upd_same, rfl, ?_⟩⟩
    exact rest _ (k + 1) v hP.put.put (by omega) ((SameX.put _).trans (SameX.put _))
  · exact rest H k z hP (by omega) (SameX.refl _ _)
end
end K57
namespace K57
open PySem L2
def Bnd (M : List (List Int)) (n : Nat) : Prop := ∀ i j, i < n → j < n → 0 ≤ at2 M i j ∧ at2 M i j ≤ 1000000 ∧ at2 M i i = 0
theorem bnd_put {M : List (List Int)} {n i j : Nat} {v : Int} (b : Bnd M n) (q : Quad M n) (hi : i < n) (hj : j < n) (h0 : 0 ≤ v) (h1 : v ≤ 1000000) (hne : i ≠ j) : Bnd (put2 M i j v) n := by
  intro a c ha hc
  rw [put2_at q hi hj, put2_at q hi hj]
  have := b a c ha hc
  refine ⟨?_, ?_, ?_⟩
  · split <;> omega
  · split <;> omega
  · rw [if_neg (by rintro ⟨rfl, rfl⟩; exact hne rfl)]; exact this.2.2
theorem rep_at {n a b : Nat} : at2 (List.replicate n (List.replicate n 0)) a b = 0 := by
  unfold at2
  have : (List.replicate n (List.replicate n (0 : Int))).getD a [] = [] ∨ (List.replicate n (List.replicate n (0 : Int))).getD a [] = List.replicate n 0 := by
    rw [List.getD_eq_getElem?_getD, List.getElem?_replicate]
    split
    · exact .inr rfl
    · exact .inl rfl
  rcases this with e | e
  · rw [e]; rfl
  · rw [e, List.getD_eq_getElem?_getD, List.getElem?_replicate]
    split <;> rfl
structure Mid (G : Hp) (p l F : Addr) (ls : List Addr) (ns : List Int) (n kb : Nat) (H' : Hp) : Prop where
  ex : ∃ (M : List (List Int)) (k : Nat) (z : Int), Quad M n ∧ Bnd M n ∧ Mat H' F ls M ∧ PenAt H' p l ns k z ∧ k ≤ kb ∧ SameX p G H'
structure Old (G : Hp) (p l F : Addr) (ls : List Addr) : Prop where
  p : ∃ o, G p = some o
  l : ∃ o, G l = some o
  F : G F = none
  ls : ∀ x ∈ ls, G x = none
section
variable {K : PySem.W.Frag} {G : Hp} {p l F : Addr} {ls : List Addr} {ns : List Int} {n kb : Nat} {H4 : Hp}
theorem Mid.le {kc : Nat} (h : kb ≤ kc) (m : Mid G p l F ls ns n kb H4) : Mid G p l F ls ns n kc H4 := by
  obtain ⟨M, k, z, a, b, c, d, e, f⟩ := m.ex
  exact ⟨M, k, z, a, b, c, d, by omega, f⟩
theorem mid_set {σ : St} {t si sj i j : Nat} {v : Int} {N : St → Hp → Prop} (o : Old G p l F ls) (m : Mid G p l F ls ns n kb H4) (ht : σ[t]? = some (some (.ref F))) (hsi : σ[si]? = some (some (.int (i : Int)))) (hsj : σ[sj]? = some (some (.int (j : Int)))) (hi : i < n) (hj : j < n) (hne : i ≠ j) (h0 : 0 ≤ v) (h1 : v ≤ 1000000)
    (q : ∀ H5, Mid G p l F ls ns n kb H5 → N σ H5) : gSub (tOp (rIx2 K) (tVar t) (tVar si)) (tVar sj) rSetL (.int v) σ H4 N := by
  obtain ⟨M, k, z, qM, bM, mM, hP, hk, sx⟩ := m.ex
  refine mat_set mM qM ht hsi hsj hi hj fun l' H5 hl' e5 m5 => q H5 ⟨_, k, z, put2_quad qM hi, bnd_put bM qM hi hj h0 h1 hne, m5, ?_, hk, fun b u hb e => ?_⟩
  · obtain ⟨op, hop⟩ := o.p
    obtain ⟨ol, hol⟩ := o.l
    have n1 : p ≠ l' := ne_of_none hop (o.ls l' hl')
    have n2 : l ≠ l' := ne_of_none hol (o.ls l' hl')
    rw [e5]
    exact ⟨by rw [upd_ne n1]; exact hP.1, by rw [upd_ne n2]; exact hP.2.1, hP.2.2⟩
  · rw [e5, upd_ne (ne_of_none e (o.ls l' hl'))]
    exact sx _ _ hb e
theorem mid_at {σ : St} {t si sj i j : Nat} {Q : VK} (m : Mid G p l F ls ns n kb H4) (ht : σ[t]? = some (some (.ref F))) (hsi : σ[si]? = some (some (.int (i : Int)))) (hsj : σ[sj]? = some (some (.int (j : Int)))) (hi : i < n) (hj : j < n)
    (q : ∀ v : Int, 0 ≤ v → v ≤ 1000000 → Q (.int v) H4) : tOp (rIx2 K) (tOp (rIx2 K) (tVar t) (tVar si)) (tVar sj) σ H4 Q := by
  obtain ⟨M, k, z, qM, bM, mM, hP, hk, sx⟩ := m.ex
  have := bM i j hi hj
  exact mat_at mM qM ht hsi hsj hi hj (q _ this.1 this.2.1)
theorem mid_take {Q : VK} {σ : St} {a c t : Nat} (ha : σ[a]? = some (some (.ref p))) (hc : σ[c]? = some (some (.int (t : Int)))) (o : Old G p l F ls) (m : Mid G p l F ls ns n kb H4) (hb : kb ≤ 100000) (h1 : 1 ≤ t) (h2 : t ≤ 1000001) (q : ∀ (r : Nat) H5, r < t → Mid G p l F ls ns n (kb + 1) H5 → Q (.int (r : Int)) H5) : tCall spTake [] E0 (tCons (tVar a) (tCons (tVar c) tNil)) σ H4 Q := by
  obtain ⟨M, k, z, qM, bM, mM, hP, hk, sx⟩ := m.ex
  refine ⟨_, ha, _, hc, p, l, ns, k, z, t, rfl, hP, by omega, h1, h2, fun r k' z' H5 hr hk' hP' sx' => q r H5 hr ⟨M, k', z', qM, bM, mM.keep fun b u hb e => sx' b u (fun z => ?_) e, hP', by omega, sx.trans sx'⟩⟩
  obtain ⟨op, hop⟩ := o.p
  rcases hb with rfl | hb
  · exact ne_of_none hop o.F z.symm
  · exact ne_of_none hop (o.ls b hb) z.symm
def spETab (K : PySem.W.Frag) : Sp := fun vs H Q _ => ∃ (p l : Addr) (ns : List Int) (k : Nat) (z : Int) (n : Nat) (ev : Bool), vs = [.ref p, .int (n : Int), .bl ev] ∧ PenAt H p l ns k z ∧ k ≤ 90000 ∧ 1 ≤ n ∧ n ≤ 8 ∧
  ∀ (T : List (List Int)) (v : V) (k' : Nat) (z' : Int) H', Quad T n → Bnd T n → Sh K H' (tabD T) v → PenAt H' p l ns k' z' → k' ≤ k + 200 → SameX p H H' → Q v H'
theorem PenAt.ne {H : Hp} {k : Nat} {z : Int} (h : PenAt H p l ns k z) {x : Addr} (hx : H x = none) : x ≠ p ∧ x ≠ l := ⟨fun e => (by rw [e, h.1] at hx; cases hx), fun e => (by rw [e, h.2.1] at hx; cases hx)⟩
def tbRest (K : PySem.W.Frag)  (sp__law_e_take : Sp) : TS := (tSeq (tAsg (tOp rMulA (tC (.int 999999)) (tCB rInt1 (tCons (tOp (rEqD K) (tVar 3) (tC (.int 2))) tNil))) (gName 4)) (tSeq (tAsg (tComp [none, some 1] (iRng1 (tCons (tVar 1) tNil)) (gName 0) [] fun acc => (tEmit (tOp rMulA (tLst (tCons (tC (.int 0)) tNil)) (tVar 1)) acc)) (gName 5)) (tSeq (tFor (iRng1 (tCons (tVar 1) tNil)) (gName 6) (tSeq (tFor (iRng1 (tCons (tVar 6) tNil)) (gName 7) (tSeq (tAsg (tOp (rAddA K) (tVar 4) (tCall sp__law_e_take [] E0 (tCons (tVar 0) (tCons (tVar 3) tNil)))) (gSub (tOp (rIx2 K) (tVar 5) (tVar 6)) (tVar 7) rSetL)) (tSeq (tAsg (tOp (rIx2 K) (tOp (rIx2 K) (tVar 5) (tVar 6)) (tVar 7)) (gSub (tOp (rIx2 K) (tVar 5) (tVar 7)) (tVar 6) rSetL)) (tSeq (tIfS (tNot (tTru K (tVar 2))) (tSeq (tAsg (tOp (rAddA K) (tVar 4) (tCall sp__law_e_take [] E0 (tCons (tVar 0) (tCons (tVar 3) tNil)))) (gSub (tOp (rIx2 K) (tVar 5) (tVar 7)) (tVar 6) rSetL)) tNext) tNext) tNext)))) tNext)) (tSeq (tRet (tCB (rTuple K) (tCons (tComp [none] (iSeq K (tVar 5)) (gName 0) [] fun acc => (tEmit (tCB (rTuple K) (tCons (tVar 0) tNil)) acc)) tNil))) tNext))))
theorem rd_tbRest {H H1 : Hp} {k k1 : Nat} {z1 : Int} {ev : Bool} {t : Nat} {Q : VK} (hk : k ≤ 90000) (h1 : 1 ≤ n) (h8 : n ≤ 8) (hP : PenAt H1 p l ns k1 z1) (hk1 : k1 ≤ k + 1) (sx1 : SameX p H H1) (t1 : 2 ≤ t) (t2 : t ≤ 1000001)
    (q : ∀ (T : List (List Int)) (v : V) (k' : Nat) (z' : Int) H', Quad T n → Bnd T n → Sh K H' (tabD T) v → PenAt H' p l ns k' z' → k' ≤ k + 200 → SameX p H H' → Q v H') :
    tbRest K spTake { nx := fun _ H' => Q .non H', rt := Q } [some (.ref p), some (.int (n : Int)), some (.bl ev), some (.int (t : Int)), none, none, none, none] H1 := by
  have lo : ∃ lo : Int, 999999 * (if eqD (.int (t : Int)) (.int 2) then 1 else 0) = lo ∧ 0 ≤ lo ∧ lo + t ≤ 1000001 := by
    refine ⟨_, rfl, ?_⟩
    have e : eqD (.int (t : Int)) (.int 2) = decide ((t : Int) = 2) := by rw [eqD]; rfl
    rw [e]
    by_cases c : (t : Int) = 2
    · rw [decide_eq_true c]
      simp
      omega
    · rw [decide_eq_false c]
      simp
      omega
  obtain ⟨lo, elo, lo0, lo1⟩ := lo
  refine ⟨_, rfl, .int _, .int 2, Nat.zero_le _, rfl, rfl, .inr ⟨_, rfl, .inl ⟨by decide, by decide⟩, ?_⟩⟩
  dsimp only
  rw [elo]
  refine ⟨_, rfl, (n : Int), rfl, by omega, by omega, fun F hF => ?_⟩
  rw [Int.toNat_natCast]
  refine inv_range (vars := [0]) (fun i L H' => ∃ ls : List Addr, L = ls.map V.ref ∧ ls.length = i ∧ ls.Nodup ∧ F ∉ ls ∧ (∀ l ∈ ls, H' l = some (.lst (List.replicate n (.int 0)))) ∧ ∀ l ∈ ls, H1 l = none) (by decide) (by show 0 < 2; decide) ⟨[], rfl, rfl, List.nodup_nil, by simp, by simp, by simp⟩ hF (fun i σ1 H2 L D hi l1 ag1 s1 sm1 ha1 ⟨ls, e1, e2, e3, e4, e5, e6⟩ hD => ?_) fun σ1 H2 L sm1 ha1 ⟨ls, e1, e2, e3, e4, e5, e6⟩ => ?_
  · have m1 : σ1[1]? = some (some (.int (n : Int))) := (ag1 1 (by decide)).trans rfl
    refine ⟨by show 1 ≤ sizeLine; decide, fun p' hp => ⟨_, m1, p', (n : Int), _, rfl, rfl, upd_same, by omega, by omega, ?_, fun p2 hp2 => ?_⟩⟩
    · rw [Int.toNat_natCast]
      exact Nat.le_trans (show 1 * n ≤ 9 by omega) (by decide)
    have hpF : p' ≠ F := fun e => by rw [e, ha1] at hp; cases hp
    have hF2 : upd H2 p' (.lst [V.int 0]) F = some (.lst L) := by rw [upd_ne (Ne.symm hpF)]; exact ha1
    have hp2F : p2 ≠ F := fun e => by rw [e, hF2] at hp2; cases hp2
    rw [Int.toNat_natCast, List.flatten_replicate_singleton]
    refine ⟨L, by rw [upd_ne (Ne.symm hp2F)]; exact hF2, Nat.lt_of_le_of_lt (show L.length ≤ 9 by rw [e1, List.length_map]; omega) (by decide), ?_⟩
    have keep : ∀ b o, b ≠ F → H2 b = some o → upd (upd (upd H2 p' (.lst [V.int 0])) p2 (.lst (List.replicate n (V.int 0)))) F (.lst (L ++ [V.ref p2])) b = some o := fun b o hb e => by
      have e' : upd H2 p' (.lst [V.int 0]) b = some o := by rw [upd_ne (ne_of_none e hp)]; exact e
      rw [upd_ne hb, upd_ne (ne_of_none e' hp2)]; exact e'
    refine hD σ1 _ (L ++ [.ref p2]) l1 ag1 (fun b o e => keep b o (ne_of_none e hF) (sm1 _ _ e)) upd_same ⟨ls ++ [p2], by rw [e1, List.map_append]; rfl, by rw [List.length_append, e2]; rfl, ?_, ?_, ?_, ?_⟩
    · refine nd_snoc e3 fun hmem => ?_
      have g := e5 p2 hmem
      have g' : upd H2 p' (.lst [V.int 0]) p2 = some (.lst (List.replicate n (.int 0))) := by rw [upd_ne (ne_of_none g hp)]; exact g
      rw [g'] at hp2; cases hp2
    · intro hmem
      rcases List.mem_append.mp hmem with y | y
      · exact e4 y
      · exact hp2F (List.mem_singleton.mp y).symm
    · intro x hx
      rcases List.mem_append.mp hx with y | y
      · exact keep x _ (fun e => e4 (e ▸ y)) (e5 x y)
      · rw [List.mem_singleton.mp y, upd_ne hp2F]
        exact upd_same
    · intro x hx
      rcases List.mem_append.mp hx with y | y
      · exact e6 x y
      · rw [List.mem_singleton.mp y]
        exact (sm1.trans (same_new hp _)).free hp2
  have mat0 : Mat H2 F ls (List.replicate n (List.replicate n 0)) := by
    refine ⟨by rw [ha1, e1], by rw [e2, List.length_replicate], fun i x r a b => ?_, e3, e4⟩
    have := e5 x (List.mem_of_getElem? a)
    rw [List.getElem?_replicate] at b
    split at b
    · cases b
      rw [this, List.map_replicate]
    · cases b
  have quad0 : Quad (List.replicate n (List.replicate n (0 : Int))) n := ⟨List.length_replicate, fun r hr => by rw [List.eq_of_mem_replicate hr, List.length_replicate]⟩
  have old : Old H1 p l F ls := ⟨⟨_, hP.1⟩, ⟨_, hP.2.1⟩, hF, e6⟩
  have mid0 : Mid H1 p l F ls ns n k1 H2 := ⟨_, k1, z1, quad0, fun i j _ _ => by rw [rep_at, rep_at]; omega, mat0, hP.x sm1, Nat.le_refl _, sm1.x⟩
  refine ⟨_, rfl, (n : Int), rfl, by omega, by omega, ?_⟩
  rw [Int.toNat_natCast]
  refine for_range (lo := 0) (n := n) (fun i σ' H' => ∃ a b, σ' = [some (.ref p), some (.int (n : Int)), some (.bl ev), some (.int (t : Int)), some (.int lo), some (.ref F), a, b] ∧ Mid H1 p l F ls ns n (k1 + 16 * i) H') ⟨none, none, rfl, mid0⟩ (fun i σ2 H3 hi ⟨a, b, es, mid2⟩ => ?_) fun σ2 H3 ⟨a, b, es, mid2⟩ => ?_
  · subst es
    rw [Int.zero_add]
    refine ⟨_, rfl, (i : Int), rfl, by omega, by omega, ?_⟩
    rw [Int.toNat_natCast]
    refine for_range (lo := 0) (n := i) (fun j σ' H' => ∃ b, σ' = [some (.ref p), some (.int (n : Int)), some (.bl ev), some (.int (t : Int)), some (.int lo), some (.ref F), some (.int (i : Int)), b] ∧ Mid H1 p l F ls ns n (k1 + 16 * i + 2 * j) H') ⟨b, rfl, mid2⟩ (fun j σ3 H4 hj ⟨b3, es3, mid3⟩ => ?_) fun σ3 H4 ⟨b3, es3, mid3⟩ => ⟨_, b3, es3, mid3.le (by omega)⟩
    subst es3
    rw [Int.zero_add]
    refine ⟨_, rfl, mid_take rfl rfl old mid3 (by omega) (by omega) t2 fun r H5 hr m5 => ?_⟩
    dsimp only [rAddA]
    refine mid_set (t := 5) (si := 6) (sj := 7) old m5 rfl rfl rfl hi (by omega) (by omega) (by omega) (by omega) fun H6 m6 => ?_
    refine mid_at (t := 5) (si := 6) (sj := 7) m6 rfl rfl rfl hi (by omega) fun v v0 v1 => ?_
    refine mid_set (t := 5) (si := 7) (sj := 6) old m6 rfl rfl rfl (by omega) hi (by omega) v0 v1 fun H7 m7 => ?_
    refine ⟨_, rfl, _, rfl, ?_⟩
    cases ev with
    | true => exact iteF ⟨_, rfl, m7.le (by omega)⟩
    | false =>
      refine iteT ⟨_, rfl, mid_take rfl rfl old m7 (by omega) (by omega) t2 fun r2 H8 hr2 m8 => ?_⟩
      dsimp only [rAddA]
      exact mid_set (t := 5) (si := 7) (sj := 6) old m8 rfl rfl rfl (by omega) hi (by omega) (by omega) (by omega) fun H9 m9 => ⟨_, rfl, m9.le (by omega)⟩
  · subst es
    obtain ⟨M, k3, z3, qM, bM, mM, hP3, hk3, f3⟩ := mid2.ex
    exact rd_freeze (t := 5) rfl mM qM (by omega) fun p9 H' sm hS => q M _ k3 z3 H' qM bM hS (hP3.x sm) (by omega) (sx1.trans (f3.trans sm.x))
theorem rd_etab : ∀ vs H Q E, spETab K vs H Q E → T__law_e_table K spTake { nx := fun _ H' => Q .non H', rt := Q } (start ["pen", "many", "even", "top", "low", "lines", "i", "j"] vs) H := by
  intro vs H Q E h
  obtain ⟨p, l, ns, k, z, n, ev, rfl, hP, hk, h1, h8, q⟩ := h
  refine ⟨show 6 ≤ sizeLine by decide, fun p0 hp0 => ⟨_, rfl, p, l, ns, k, z, 6, rfl, hP.x (same_new hp0 _), by omega, by decide, by decide, fun r k1 z1 H1 hr hk1 hP1 sx1 => ?_⟩⟩
  have s0 := same_new hp0 (.lst [.int 10, .int 1000001, .int 3, .int 60, .int 1001, .int 2])
  have e0 : H1 p0 = some (.lst [.int 10, .int 1000001, .int 3, .int 60, .int 1001, .int 2]) := sx1 _ _ (hP.ne hp0).1 upd_same
  have sx := s0.x.trans sx1 (acc := p)
  have go : ∀ t : Nat, 2 ≤ t → t ≤ 1000001 → _ := fun t t1 t2 => rd_tbRest (K := K) (ev := ev) hk h1 h8 hP1 hk1 sx t1 t2 q
  rcases r with _ | _ | _ | _ | _ | _ | r
  · exact ixL (j := 0) (.of e0) rfl (go 10 (by decide) (by decide))
  · exact ixL (j := 1) (.of e0) rfl (go 1000001 (by decide) (by decide))
  · exact ixL (j := 2) (.of e0) rfl (go 3 (by decide) (by decide))
  · exact ixL (j := 3) (.of e0) rfl (go 60 (by decide) (by decide))
  · exact ixL (j := 4) (.of e0) rfl (go 1001 (by decide) (by decide))
  · exact ixL (j := 5) (.of e0) rfl (go 2 (by decide) (by decide))
  · omega
end
end K57
namespace K57
open PySem L2
def pc (ps : List Nat) (b s : Nat) : List Nat := (ps.drop b).take s
def rs (ps : List Nat) (b s : Nat) : List Nat := ps.take b ++ ps.drop (b + s)
def putP (r p : List Nat) (i : Nat) : List Nat := r.take i ++ p ++ r.drop i
def mvS (ps : List Nat) (b s : Nat) : List (List Nat) := [ps.take b ++ (pc ps b s).reverse ++ ps.drop (b + s)] ++ if s ≤ 3 then (List.range (rs ps b s).length).flatMap (fun i => [putP (rs ps b s) (pc ps b s) (i + 1), putP (rs ps b s) (pc ps b s).reverse (i + 1)]) else []
def mvA (ps : List Nat) : List (List Nat) := (List.range (ps.length - 1)).flatMap fun i => (List.range (i + 1)).flatMap fun j => mvS ps (j + 1) (i + 1 - j)
def IsSp (ps : List Nat) (b s i : Nat) : Prop := 1 ≤ b ∧ 1 ≤ s ∧ b + s ≤ ps.length ∧ ((s < 4 ∧ 1 ≤ i ∧ i ≤ ps.length - s) ∨ (4 ≤ s ∧ i = b))
def IsLM (ps o : List Nat) : Prop := ∃ b s i, IsSp ps b s i ∧ (o = putP (rs ps b s) (pc ps b s).reverse i ∨ o = putP (rs ps b s) (pc ps b s) i)
theorem pc_len {ps : List Nat} {b s : Nat} (h : b + s ≤ ps.length) : (pc ps b s).length = s := by
  unfold pc; rw [List.length_take, List.length_drop]; omega
theorem rs_len {ps : List Nat} {b s : Nat} (h : b + s ≤ ps.length) : (rs ps b s).length = ps.length - s := by
  unfold rs; rw [List.length_append, List.length_take, List.length_drop]; omega
theorem put_b {ps p : List Nat} {b s : Nat} (h : b + s ≤ ps.length) : putP (rs ps b s) p b = ps.take b ++ p ++ ps.drop (b + s) := by
  have hb : (ps.take b).length = b := by rw [List.length_take]; omega
  unfold putP rs
  rw [List.take_append_of_le_length (by omega), List.take_of_length_le (by omega), List.drop_append_of_le_length (by omega), List.drop_of_length_le (by omega), List.nil_append]
theorem cut3 {ps : List Nat} {b s : Nat} : ps.take b ++ pc ps b s ++ ps.drop (b + s) = ps := by
  unfold pc
  rw [List.append_assoc, ← List.drop_drop, List.take_append_drop, List.take_append_drop]
theorem put_self {ps : List Nat} {b s : Nat} (h : b + s ≤ ps.length) : putP (rs ps b s) (pc ps b s) b = ps := by
  rw [put_b h, cut3]
theorem put_perm {r p : List Nat} {i : Nat} : (putP r p i).Perm (r ++ p) := by
  unfold putP
  have h1 : (r.take i ++ p ++ r.drop i).Perm (r.take i ++ r.drop i ++ p) := by
    rw [List.append_assoc, List.append_assoc]
    exact List.Perm.append_left _ List.perm_append_comm
  rw [List.take_append_drop] at h1
  exact h1
theorem rs_perm {ps : List Nat} {b s : Nat} : (rs ps b s ++ pc ps b s).Perm ps := by
  have h1 : (ps.take b ++ ps.drop (b + s) ++ pc ps b s).Perm (ps.take b ++ pc ps b s ++ ps.drop (b + s)) := by
    rw [List.append_assoc, List.append_assoc]
    exact List.Perm.append_left _ List.perm_append_comm
  rw [cut3] at h1
  exact h1
theorem lm_perm {ps o : List Nat} (h : IsLM ps o) : o.Perm ps := by
  obtain ⟨b, s, i, _, rfl | rfl⟩ := h
  · exact (put_perm.trans (List.Perm.append_left _ (List.reverse_perm _))).trans rs_perm
  · exact put_perm.trans rs_perm
theorem lm_self {ps : List Nat} (h : 2 ≤ ps.length) : IsLM ps ps := ⟨1, 1, 1, ⟨Nat.le_refl _, Nat.le_refl _, h, .inl ⟨by omega, Nat.le_refl _, by omega⟩⟩, .inr (put_self h).symm⟩
theorem mem_mvS {ps : List Nat} {b s : Nat} {o : List Nat} : o ∈ mvS ps b s ↔ o = ps.take b ++ (pc ps b s).reverse ++ ps.drop (b + s) ∨ (s ≤ 3 ∧ ∃ i, i < (rs ps b s).length ∧ (o = putP (rs ps b s) (pc ps b s) (i + 1) ∨ o = putP (rs ps b s) (pc ps b s).reverse (i + 1))) := by
  unfold mvS
  rw [List.mem_append, List.mem_singleton]
  by_cases c : s ≤ 3
  · rw [if_pos c, List.mem_flatMap]
    constructor
    · rintro (h | ⟨i, hi, h⟩)
      · exact .inl h
      · refine .inr ⟨c, i, List.mem_range.mp hi, ?_⟩
        simpa using h
    · rintro (h | ⟨_, i, hi, h⟩)
      · exact .inl h
      · exact .inr ⟨i, List.mem_range.mpr hi, by simpa using h⟩
  · rw [if_neg c]
    constructor
    · rintro (h | h)
      · exact .inl h
      · cases h
    · rintro (h | ⟨h, _⟩)
      · exact .inl h
      · exact absurd h c
theorem mem_mvA {ps o : List Nat} : o ∈ mvA ps ↔ ∃ b s, 1 ≤ b ∧ 1 ≤ s ∧ b + s ≤ ps.length ∧ o ∈ mvS ps b s := by
  unfold mvA
  constructor
  · intro h
    obtain ⟨i, hi, h⟩ := List.mem_flatMap.mp h
    obtain ⟨j, hj, h⟩ := List.mem_flatMap.mp h
    have := List.mem_range.mp hi
    have := List.mem_range.mp hj
    exact ⟨j + 1, i + 1 - j, by omega, by omega, by omega, h⟩
  · rintro ⟨b, s, h1, h2, h3, h⟩
    refine List.mem_flatMap.mpr ⟨b + s - 2, List.mem_range.mpr (by omega), List.mem_flatMap.mpr ⟨b - 1, List.mem_range.mpr (by omega), ?_⟩⟩
    rw [show b - 1 + 1 = b by omega, show b + s - 2 + 1 - (b - 1) = s by omega]
    exact h
theorem lm_of_mv {ps o : List Nat} (h : o ∈ mvA ps) : IsLM ps o := by
  obtain ⟨b, s, h1, h2, h3, h⟩ := mem_mvA.mp h
  rcases mem_mvS.mp h with h | ⟨c, i, hi, h⟩
  · by_cases c : s < 4
    · exact ⟨b, s, b, ⟨h1, h2, h3, .inl ⟨c, h1, by omega⟩⟩, .inl (by rw [put_b h3]; exact h)⟩
    · exact ⟨b, s, b, ⟨h1, h2, h3, .inr ⟨by omega, rfl⟩⟩, .inl (by rw [put_b h3]; exact h)⟩
  · rw [rs_len h3] at hi
    exact ⟨b, s, i + 1, ⟨h1, h2, h3, .inl ⟨by omega, by omega, by omega⟩⟩, h.symm⟩
theorem mv_of_lm {ps o : List Nat} (h : IsLM ps o) : o = ps ∨ o ∈ mvA ps := by
  obtain ⟨b, s, i, ⟨h1, h2, h3, h4⟩, h⟩ := h
  rcases h4 with ⟨c, i1, i2⟩ | ⟨c, rfl⟩
  · refine .inr (mem_mvA.mpr ⟨b, s, h1, h2, h3, mem_mvS.mpr (.inr ⟨by omega, i - 1, by rw [rs_len h3]; omega, ?_⟩)⟩)
    rw [show i - 1 + 1 = i by omega]
    exact h.symm
  · rcases h with h | h
    · exact .inr (mem_mvA.mpr ⟨i, s, h1, h2, h3, mem_mvS.mpr (.inl (by rw [put_b h3] at h; exact h))⟩)
    · exact .inl (by rw [put_self h3] at h; exact h)
def stp (T : List (List Int)) (ps : List Nat) (k : Nat) : Int := match k with
  | 0 => at2 T (ps.getD (ps.length - 1) 0) (ps.getD 0 0)
  | k + 1 => at2 T (ps.getD k 0) (ps.getD (k + 1) 0)
def sumL (T : List (List Int)) (ps : List Nat) : Int := ((List.range ps.length).map (stp T ps)).sum
def lenN (T : List (List Int)) (ps : List Nat) : Int := ((List.range ps.length).flatMap fun i => [at2 T (ps.getD i 0) ((ps.drop 1 ++ ps.take 1).getD i 0)]).sum
theorem fol_in {ps : List Nat} {i : Nat} (h : i + 1 < ps.length) : (ps.drop 1 ++ ps.take 1).getD i 0 = ps.getD (i + 1) 0 := by
  rw [List.getD_eq_getElem?_getD, List.getElem?_append_left (by rw [List.length_drop]; omega), List.getElem?_drop, ← List.getD_eq_getElem?_getD, Nat.add_comm]
theorem fol_end {ps : List Nat} {i : Nat} (h : i + 1 = ps.length) : (ps.drop 1 ++ ps.take 1).getD i 0 = ps.getD 0 0 := by
  rw [List.getD_eq_getElem?_getD, List.getElem?_append_right (by rw [List.length_drop]; omega), List.length_drop, show i - (ps.length - 1) = 0 by omega]
  cases ps with
  | nil => cases h
  | cons a ps => rfl
theorem flat_one {α : Type} (f : Nat → α) (L : List Nat) : (L.flatMap fun i => [f i]) = L.map f := by
  induction L with
  | nil => rfl
  | cons a L ih => rw [List.flatMap_cons, ih]; rfl
theorem sum_len {T : List (List Int)} {ps : List Nat} (h : 1 ≤ ps.length) : lenN T ps = sumL T ps := by
  unfold lenN sumL
  rw [flat_one]
  obtain ⟨m, hm⟩ : ∃ m, ps.length = m + 1 := ⟨ps.length - 1, by omega⟩
  rw [hm]
  have e1 : (List.range (m + 1)).map (stp T ps) = stp T ps 0 :: (List.range m).map (fun k => stp T ps (k + 1)) := by
    rw [List.range_succ_eq_map, List.map_cons, List.map_map]; rfl
  have e2 : (List.range (m + 1)).map (fun i => at2 T (ps.getD i 0) ((ps.drop 1 ++ ps.take 1).getD i 0)) = (List.range m).map (fun k => stp T ps (k + 1)) ++ [stp T ps 0] := by
    rw [List.range_succ, List.map_append, List.map_cons, List.map_nil]
    congr 1
    · refine List.map_congr_left fun k hk => ?_
      have := List.mem_range.mp hk
      show at2 T (ps.getD k 0) _ = at2 T (ps.getD k 0) (ps.getD (k + 1) 0)
      rw [fol_in (by omega)]
    · show [at2 T (ps.getD m 0) _] = [at2 T (ps.getD (ps.length - 1) 0) (ps.getD 0 0)]
      rw [fol_end (by omega), show ps.length - 1 = m by omega]
  rw [e1, e2, List.sum_append, List.sum_cons, List.sum_cons, List.sum_nil]
  omega
theorem sum_bnd {L : List Int} {c : Int} (h : ∀ x ∈ L, 0 ≤ x ∧ x ≤ c) : 0 ≤ L.sum ∧ L.sum ≤ c * (L.length : Int) := by
  induction L with
  | nil => simp
  | cons a L ih =>
    have := h a (by simp)
    have := ih fun x hx => h x (List.mem_cons_of_mem _ hx)
    rw [List.sum_cons, List.length_cons]
    have e : c * ((L.length + 1 : Nat) : Int) = c * (L.length : Int) + c := by
      rw [Int.natCast_add, Int.mul_add]; simp
    rw [e]
    omega
theorem get_in {ps : List Nat} {n i : Nat} (hlt : ∀ p ∈ ps, p < n) (h : i < ps.length) : ps.getD i 0 < n := hlt _ (by rw [List.getD_eq_getElem?_getD, List.getElem?_eq_getElem h]; exact List.getElem_mem h)
theorem sumL_bnd {T : List (List Int)} {n : Nat} {ps : List Nat} (b : ∀ i j, i < n → j < n → 0 ≤ at2 T i j ∧ at2 T i j ≤ 1000000) (hlt : ∀ p ∈ ps, p < n) (h8 : ps.length ≤ 8) : 0 ≤ sumL T ps ∧ sumL T ps ≤ 8000000 := by
  have := sum_bnd (L := (List.range ps.length).map (stp T ps)) (c := 1000000) fun x hx => by
    obtain ⟨k, hk, rfl⟩ := List.mem_map.mp hx
    have hk' := List.mem_range.mp hk
    cases k with
    | zero => exact b _ _ (get_in hlt (by omega)) (get_in hlt (by omega))
    | succ k => exact b _ _ (get_in hlt (by omega)) (get_in hlt (by omega))
  rw [List.length_map, List.length_range] at this
  unfold sumL
  omega
theorem settled_iff {T : List (List Int)} {ps : List Nat} (h1 : 1 ≤ ps.length) : ((mvA ps).filter (fun o => decide (o ≠ ps))).filter (fun o => decide (lenN T o < lenN T ps)) = [] ↔ ∀ o, IsLM ps o → sumL T ps ≤ sumL T o := by
  rw [List.filter_eq_nil_iff]
  constructor
  · intro h o ho
    rcases mv_of_lm ho with e | hm
    · rw [e]; exact Int.le_refl _
    · have hl : o.length = ps.length := (lm_perm ho).length_eq
      by_cases c : o = ps
      · rw [c]; exact Int.le_refl _
      · have := h o (List.mem_filter.mpr ⟨hm, decide_eq_true c⟩)
        rw [sum_len (by omega), sum_len h1] at this
        have := of_decide_eq_false (Bool.not_eq_true _ ▸ this : decide (sumL T o < sumL T ps) = false)
        omega
  · intro h o ho
    have ho' := lm_of_mv (List.mem_filter.mp ho).1
    have hl : o.length = ps.length := (lm_perm ho').length_eq
    have := h o ho'
    rw [sum_len (by omega), sum_len h1, decide_eq_true_eq]
    omega
end K57
namespace L2
open PySem
theorem loop_zip {K : PySem.W.Frag} {vars : List Nat} {tb : TS} {acc l1 l2 : Addr} {b1 b2 : Bool} {σ : St} {H : Hp} {xs ys : List V} {j k : Nat} {L : Nat → List V} (hj : j ∈ vars) (hk : k ∈ vars) (hjk : k ≠ j) (hjl : j < σ.length) (hkl : k < σ.length) (hlen : ys.length = xs.length) (hs : ∀ H', SameX acc H H' → SqB b1 K H' l1 xs ∧ SqB b2 K H' l2 ys)
    (h : ∀ i x y σ' H', xs[i]? = some x → ys[i]? = some y → σ'.length = σ.length → Agree vars σ σ' → σ'[j]? = some (some x) → σ'[k]? = some (some y) → SameX acc H H' → (∃ pre, H' acc = some (.lst pre)) → Emits vars tb acc σ' H' (L i)) :
    Emits vars (tLoop (Itz K b1 b2 l1 l2) (gTup K 2 (gCons (gName j) (gCons (gName k) gNil))) tb) acc σ H ((List.range xs.length).flatMap L) := by
  intro D pre ha hz hd
  refine for_zip (K := K) (xs := xs) (ys := ys) (D := D) hlen (fun i σ' H' => i ≤ xs.length ∧ σ'.length = σ.length ∧ Agree vars σ σ' ∧ SameX acc H H' ∧ H' acc = some (.lst (pre ++ (List.range i).flatMap L))) ⟨Nat.zero_le _, rfl, Agree.refl _ _, SameX.refl _ _, by simpa using ha⟩ (fun i σ1 H1 _ ⟨_, _, _, sx1, _⟩ => hs H1 sx1) (fun i x y σ1 H1 p hx hy hp ⟨_, hl1, ag1, sx1, e1⟩ => ?_) fun σ1 H1 ⟨_, hl1, ag1, sx1, e1⟩ => hd σ1 H1 hl1 ag1 sx1 e1
  have hi : i < xs.length := (List.getElem?_eq_some_iff.mp hx).1
  have hle := flatMap_range_le L (show i + 1 ≤ xs.length from hi)
  rw [flatMap_range_succ, List.length_append] at hle
  have sp : Same H1 (upd H1 p (.tup [x, y])) := same_new hp _
  have e2 := sp _ _ e1
  refine ⟨p, [x, y], rfl, .of upd_same, rfl, x, [y], rfl, y, [], rfl, rfl, ?_⟩
  have ag2 : Agree vars σ ((σ1.set j (some x)).set k (some y)) := (ag1.trans (Agree.set hj _)).trans (Agree.set hk _)
  refine h i x y ((σ1.set j (some x)).set k (some y)) (upd H1 p (.tup [x, y])) hx hy (by rw [List.length_set, List.length_set]; exact hl1) ag2 ?_ (set_at (by rw [List.length_set]; omega)) (sx1.trans sp.x) ⟨_, e2⟩ _ _ e2 (by rw [List.length_append]; omega) fun σ' H' hl ag sx h2 => ⟨hi, (hl.trans (by rw [List.length_set, List.length_set])).trans hl1, ag2.trans ag, (sx1.trans sp.x).trans sx, by rw [h2, flatMap_range_succ, List.append_assoc]⟩
  rw [List.getElem?_set_ne hjk]
  exact set_at (by omega)
end L2
namespace K57
open PySem L2
def lenR (T : List (List Int)) (ps : List Nat) : Int := ((List.range ps.length).flatMap fun i => [at2 T (ps.getD i 0) ((ps.drop 1 ++ ps.take 1).getD i 0)]).sum
def spLn (K : PySem.W.Frag) : Sp := fun vs H Q _ => ∃ (v : V) (b : Addr) (T : List (List Int)) (n : Nat) (ps : List Nat), vs = [v, .ref b] ∧ Sh K H (tabD T) v ∧ Quad T n ∧ n ≤ 9 ∧ SqT K H b (ps.map natV) ∧ ps.length = n ∧ 1 ≤ n ∧ (∀ p ∈ ps, p < n) ∧ ∀ H', Same H H' → Q (.int (lenR T ps)) H'
theorem cut_tail (ps : List Nat) : cutV (ps.map natV) (some 1) none = (ps.drop 1).map natV := by
  unfold cutV
  rw [show HT.sIx (ps.map natV).length 0 (some 1) = min 1 ps.length by rw [List.length_map]; rfl]
  cases ps with
  | nil => rfl
  | cons p ps =>
    simp [HT.sIx]
    exact List.take_of_length_le (by simp)
theorem cut_head (ps : List Nat) : cutV (ps.map natV) none (some 1) = (ps.take 1).map natV := by
  unfold cutV
  cases ps with
  | nil => rfl
  | cons p ps => simp [HT.sIx]
section
variable {K : PySem.W.Frag}
theorem rd_ln : ∀ vs H Q E, spLn K vs H Q E → T_length K { nx := fun _ H' => Q .non H', rt := Q } (start ["table", "round_", "followers"] vs) H := by
  intro vs H Q E h
  obtain ⟨v, b, T, n, ps, rfl, hS, hq, h9, hb, hl, h1, hlt, q⟩ := h
  refine ⟨_, rfl, _, rfl, .inr ⟨b, _, rfl, hb, fun p1 H1 s1 hp1 => ?_⟩⟩
  rw [cut_tail] at hp1
  refine ⟨_, rfl, _, rfl, .inr ⟨b, _, rfl, s1.tup hb, fun p2 H2 s2 hp2 => ?_⟩⟩
  rw [cut_head] at hp2
  refine .inr ⟨p1, p2, _, _, rfl, rfl, s2.tup hp1, hp2, ?_, fun p3 H3 _ hp3 s3 => ?_⟩
  · rw [List.length_map, List.length_map, List.length_drop, List.length_take]
    exact Nat.le_trans (show _ ≤ 20 by omega) (by decide)
  rw [← List.map_append] at hp3
  have sm := (s1.trans s2).trans s3
  refine ⟨_, rfl, _, rfl, b, p3, false, false, rfl, ⟨_, sm.tup hb⟩, ⟨_, hp3⟩, fun acc hacc => ?_⟩
  have hln : ((ps.drop 1 ++ ps.take 1).map natV).length = (ps.map natV).length := by
    rw [List.length_map, List.length_map, List.length_append, List.length_drop, List.length_take]; omega
  have hfl : (ps.drop 1 ++ ps.take 1).length = ps.length := by rw [List.length_append, List.length_drop, List.length_take]; omega
  refine comp_emitsD [0, 1] (((List.range ps.length).flatMap fun i => [at2 T (ps.getD i 0) ((ps.drop 1 ++ ps.take 1).getD i 0)]).map V.int) hacc ?_ ?_ fun σ' H' s4 hl' => ⟨acc, _, rfl, .inl (.of hl'), q H' (sm.trans s4)⟩
  · rw [List.length_map]
    have := len_flatMap_le (fun i => [at2 T (ps.getD i 0) ((ps.drop 1 ++ ps.take 1).getD i 0)]) 1 ps.length fun _ _ => Nat.le_refl _
    omega
  · refine Emits.cast (L := (List.range (ps.map natV).length).flatMap fun i => [V.int (at2 T (ps.getD i 0) ((ps.drop 1 ++ ps.take 1).getD i 0))]) ?_ (by rw [List.length_map]; simp only [map_flatMap', List.map_cons, List.map_nil])
    refine loop_zip (ys := (ps.drop 1 ++ ps.take 1).map natV) (by decide) (by decide) (by decide) (by show 0 < 3; decide) (by show 1 < 3; decide) hln (fun H' sx => ⟨(same_of_x hacc sx).tup (sm.tup hb), (same_of_x hacc sx).tup hp3⟩) fun i x y σ1 H1' hx hy l1 ag1 e1 e2 sx1 _ => ?_
    have hi : i < ps.length := by rw [← List.length_map (f := natV)]; exact (List.getElem?_eq_some_iff.mp hx).1
    have ex : x = .int ((ps.getD i 0 : Nat) : Int) := by
      rw [List.getElem?_map, List.getElem?_eq_getElem hi] at hx
      rw [List.getD_eq_getElem?_getD, List.getElem?_eq_getElem hi]
      cases hx; rfl
    have ey : y = .int (((ps.drop 1 ++ ps.take 1).getD i 0 : Nat) : Int) := by
      rw [List.getElem?_map, List.getElem?_eq_getElem (by rw [hfl]; exact hi)] at hy
      rw [List.getD_eq_getElem?_getD, List.getElem?_eq_getElem (by rw [hfl]; exact hi)]
      cases hy; rfl
    subst ex; subst ey
    have t2 : σ1[2]? = some (some v) := (ag1 2 (by decide)).trans rfl
    refine emits_one fun Q hQ => ?_
    refine tab_at t2 e1 e2 (hS.same (sm.trans (same_of_x hacc sx1))) hq ?_ ?_ (hQ H1' (Same.refl _))
    · refine hlt _ ?_
      rw [List.getD_eq_getElem?_getD, List.getElem?_eq_getElem hi]
      exact List.getElem_mem hi
    · have hm : (ps.drop 1 ++ ps.take 1).getD i 0 ∈ ps.drop 1 ++ ps.take 1 := by
        rw [List.getD_eq_getElem?_getD, List.getElem?_eq_getElem (by rw [hfl]; exact hi)]
        exact List.getElem_mem _
      rcases List.mem_append.mp hm with hm | hm
      · exact hlt _ (List.mem_of_mem_drop hm)
      · exact hlt _ (List.mem_of_mem_take hm)
end
end K57
namespace K57
open PySem L2
theorem okAll_depL : ∀ ns : List Int, depL (ns.map Dt.int) = 0
  | [] => rfl
  | n :: ns => by rw [List.map_cons, depL, okAll_depL ns]; rfl
section
variable {K : PySem.W.Frag}
theorem cat_new {H : Hp} {a b : Addr} {xs ys : List V} {Q : VK} (ha : SqT K H a xs) (hb : SqT K H b ys) (hx : xs ≠ []) (hy : ys ≠ []) (hz : xs.length + ys.length ≤ 100) (q : ∀ p, H p = none → Q (.ref p) (upd H p (.tup (xs ++ ys)))) : rAddA K (.ref a) (.ref b) H Q := by
  refine .inr ⟨a, b, xs, ys, rfl, rfl, ha, hb, Nat.le_trans hz (by decide), fun p H' w _ _ => ?_⟩
  rcases w with ⟨_, _, e⟩ | ⟨_, _, e⟩ | ⟨hp, rfl⟩
  · exact absurd e hy
  · exact absurd e hx
  · exact q p hp
theorem cat_end {H : Hp} {a b : Addr} {xs ys : List V} {Q : VK} (ha : H a = some (.tup xs)) (hb : SqT K H b ys) (hx : xs ≠ []) (hz : xs.length + ys.length ≤ 100) (q : ∀ p H', Same H H' → H' p = some (.tup (xs ++ ys)) → Q (.ref p) H') : rAddA K (.ref a) (.ref b) H Q := by
  refine .inr ⟨a, b, xs, ys, rfl, rfl, .of ha, hb, Nat.le_trans hz (by decide), fun p H' w _ s => ?_⟩
  rcases w with ⟨rfl, rfl, e⟩ | ⟨_, _, e⟩ | ⟨hp, rfl⟩
  · exact q p _ s (by rw [e, List.append_nil]; exact ha)
  · exact absurd e hx
  · exact q p _ s upd_same
theorem sqT_x {H H' : Hp} {a p : Addr} {xs ys : List V} (h : SqT K H a xs) (hp : H p = some (.lst ys)) (sx : SameX p H H') : SqT K H' a xs := by
  rcases h with (h | ⟨ob, h⟩) | h
  · exact .inl (.inl (sx _ _ (ne_of h hp (fun z => nomatch z)) h))
  · exact .inl (.inr ⟨ob, sx _ _ (ne_of h hp (fun z => nomatch z)) h⟩)
  · exact .inr h
theorem tab_x {H H' : Hp} {v : V} {p : Addr} {T : List (List Int)} {ys : List V} (h : Sh K H (tabD T) v) (hp : H p = some (.lst ys)) (sx : SameX p H H') : Sh K H' (tabD T) v := by
  obtain ⟨a, rs, rfl, ha, hl, g⟩ := h.tab
  exact ⟨a, rs, rfl, sqT_x ha hp sx, ShL.of_rows hl fun i row e => by
    obtain ⟨b, e1, e2⟩ := g i row e
    exact ⟨b, e1, sqT_x e2 hp sx⟩⟩
def spTour (K : PySem.W.Frag) : Sp := fun vs H Q _ => ∃ (p l : Addr) (ms : List Int) (k : Nat) (z : Int) (n : Nat), vs = [.ref p, .int (n : Int)] ∧ PenAt H p l ms k z ∧ k ≤ 90000 ∧ 1 ≤ n ∧ n ≤ 8 ∧ ∀ (os : List Nat) (b : Addr) (k' : Nat) (z' : Int) H', os.Perm (List.range n) → os.take 1 = [0] → PenAt H' p l ms k' z' → k' ≤ k + 8 → SameX p H H' → H' b = some (.tup (os.map natV)) → Q (.ref b) H'
theorem rng1 (n : Nat) (h : 1 ≤ n) : (rngI 1 (n : Int)).map V.int = ((List.range (n - 1)).map (· + 1)).map natV := by
  unfold rngI
  rw [List.map_map, List.map_map, show ((n : Int) - 1).toNat = n - 1 by omega]
  refine List.map_congr_left fun i _ => ?_
  show V.int (1 + (i : Int)) = V.int ((i + 1 : Nat) : Int)
  congr 1
  omega
theorem rd_tour : ∀ vs H Q E, spTour K vs H Q E → T__law_e_tour K spTake { nx := fun _ H' => Q .non H', rt := Q } (start ["pen", "many", "left", "found"] vs) H := by
  intro vs H Q E h
  obtain ⟨p, lp, ms, k0, z0, n, rfl, hP, hk0, h1, h8, q⟩ := h
  refine ⟨_, rfl, .inr ⟨_, _, rfl, fun pr hpr => ?_⟩⟩
  refine .inr ⟨pr, 1, _, rfl, upd_same, ⟨by omega, by omega, by omega, by omega, by omega⟩, fun l hl => ?_⟩
  rw [rng1 n h1]
  have s1 : Same H (upd (upd H pr (.rng 1 (n : Int))) l (.lst (((List.range (n - 1)).map (· + 1)).map natV))) := (same_new hpr _).trans (same_new hl _)
  have hlH : H l = none := (same_new hpr _).free hl
  have e1 : (upd (upd H pr (.rng 1 (n : Int))) l (.lst (((List.range (n - 1)).map (· + 1)).map natV))) l = some (.lst (((List.range (n - 1)).map (· + 1)).map natV)) := upd_same
  generalize upd (upd H pr (.rng 1 (n : Int))) l (.lst (((List.range (n - 1)).map (· + 1)).map natV)) = G at *
  obtain ⟨nlp, nll⟩ := hP.ne hlH
  refine ⟨show 1 ≤ sizeLine by decide, fun f0 hf0 => ?_⟩
  have sf := same_new hf0 (.tup [.int 0])
  refine ⟨fun m σ' H' => ∃ (f : Addr) (ls fs : List Nat) (k : Nat) (z : Int), σ' = [some (.ref p), some (.int (n : Int)), some (.ref l), some (.ref f)] ∧ PenAt H' p lp ms k z ∧ k + m ≤ k0 + n ∧ H' l = some (.lst (ls.map natV)) ∧ H' f = some (.tup (fs.map natV)) ∧ SameX p H H' ∧ ls.length = m ∧ (fs ++ ls).Perm (List.range n) ∧ fs.take 1 = [0],
    ⟨n - 1, f0, (List.range (n - 1)).map (· + 1), [0], k0, z0, rfl, hP.x (s1.trans sf), by omega, sf _ _ e1, upd_same, (s1.trans sf).x, by simp, ?_, rfl⟩, ?_⟩
  · obtain ⟨j, rfl⟩ : ∃ j, n = j + 1 := ⟨n - 1, by omega⟩
    rw [List.range_succ_eq_map]
    exact List.Perm.refl _
  · rintro m σ' H' ⟨f, ls, fs, k, z, rfl, hP', hk, el, hf, sx, rfl, pm, h0⟩
    refine ⟨_, rfl, show 0 ≤ sizeLine by decide, fun pe hpe => ?_⟩
    have se := same_new hpe (.lst [])
    refine ⟨.lst ((ls.map fun x : Nat => (x : Int)).map Dt.int), .lst [], by rw [dep]; have : depL ((ls.map fun x : Nat => (x : Int)).map Dt.int) = 0 := (okAll_depL _); omega, ⟨l, _, rfl, .of (se _ _ el), by rw [natV_map]; exact ShL.ints _⟩, ⟨pe, [], rfl, .of upd_same, rfl⟩, _, rfl, ?_⟩
    have hle : fs.length + ls.length = n := by rw [← List.length_append, pm.length_eq, List.length_range]
    cases ls with
    | nil =>
      refine iteF' (by simp [eqD, eqL]) ?_
      rw [List.append_nil] at pm
      exact ⟨_, rfl, q fs f k z _ pm h0 (hP'.x se) (by omega) (sx.trans se.x) (se _ _ hf)⟩
    | cons a ls =>
      refine iteT' (by simp [eqD, eqL]) ?_
      have hPe := hP'.x se
      have ele := se _ _ el
      have hfe := se _ _ hf
      have sxe := sx.trans se.x
      generalize upd H' pe (.lst []) = G1 at *
      refine ⟨fun σ2 H2 => ∃ (f : Addr) (ls2 fs2 : List Nat) (k : Nat) (z : Int), σ2 = [some (.ref p), some (.int (n : Int)), some (.ref l), some (.ref f)] ∧ PenAt H2 p lp ms k z ∧ k + ls.length ≤ k0 + n ∧ H2 l = some (.lst (ls2.map natV)) ∧ H2 f = some (.tup (fs2.map natV)) ∧ SameX p H H2 ∧ ls2.length = ls.length ∧ (fs2 ++ ls2).Perm (List.range n) ∧ fs2.take 1 = [0], fun σ2 H2 ⟨f, ls2, fs2, k, z, c1, c2, c3, c4, c5, c6, c7, c8, c9⟩ => ⟨ls.length, by simp, f, ls2, fs2, k, z, c1, c2, c3, c4, c5, c6, c7, c8, c9⟩, ?_⟩
      rw [List.length_cons] at hk hle
      refine ⟨_, rfl, _, rfl, .inl ⟨rfl, _, .of ele⟩, _, rfl, _, rfl, l, _, rfl, .inl (.of ele), p, lp, ms, k, z, ls.length + 1, by rw [List.length_map, List.length_cons]; rfl, hPe, by omega, by omega, by omega, fun r k2 z2 H2 hr hk2 hP2 sx2 => ?_⟩
      have el2 : H2 l = some (.lst ((a :: ls).map natV)) := sx2 _ _ nlp ele
      have hf2 : H2 f = some (.tup (fs.map natV)) := sx2 _ _ (ne_of hfe hPe.1 (fun z => nomatch z)) hfe
      have hr' : r < (a :: ls).length := by rw [List.length_cons]; exact hr
      refine ⟨l, _, _, r, natV (a :: ls)[r], rfl, rfl, el2, by omega, by omega, by rw [List.length_map]; exact seqIx hr', by rw [List.getElem?_map, List.getElem?_eq_getElem hr']; rfl, ?_⟩
      rw [map_erase]
      refine ⟨show 1 ≤ sizeLine by decide, fun p2 hp2 => ?_⟩
      have st := same_new hp2 (.tup [natV (a :: ls)[r]])
      have hf3 : SqT K _ f _ := st.tup (sqT_put (o := .lst (((a :: ls).eraseIdx r).map natV)) (.of hf2) el2)
      refine cat_new hf3 (.of upd_same) (by cases fs with | nil => cases h0 | cons b fs => simp) (by simp) ?_ fun p3 hp3 => ?_
      · rw [List.length_map]
        show _ + 1 ≤ 100
        omega
      · have s3 := same_new hp3 (.tup (fs.map natV ++ [natV (a :: ls)[r]]))
        have st3 := st.trans s3
        have hP3 : PenAt (upd H2 l (.lst (((a :: ls).eraseIdx r).map natV))) p lp ms k2 z2 := ⟨by rw [upd_ne (Ne.symm nlp)]; exact hP2.1, by rw [upd_ne (Ne.symm nll)]; exact hP2.2.1, hP2.2.2⟩
        refine ⟨p3, (a :: ls).eraseIdx r, fs ++ [(a :: ls)[r]], k2, z2, rfl, hP3.x st3, by omega, st3 _ _ upd_same, by rw [List.map_append]; exact upd_same, fun c o hc e => ?_, by rw [List.length_eraseIdx_of_lt hr']; rfl, (perm_erase hr').trans pm, ?_⟩
        · have := sx2 _ _ hc (sxe _ _ hc e)
          exact st3 _ _ (by rw [upd_ne (ne_of_none e hlH)]; exact this)
        · cases fs with
          | nil => cases h0
          | cons b fs => exact h0
def spPen (K : PySem.W.Frag) : Sp := fun vs H Q _ => ∃ (a : Addr) (ns : List Int), vs = [.ref a] ∧ SqL K H a (ns.map V.int) ∧ ∀ p l ms H', Same H H' → PenAt H' p l ms 0 0 → Q (.ref p) H'
theorem rd_pen : ∀ vs H Q E, spPen K vs H Q E → T__law_e_pen K { nx := fun _ H' => Q .non H', rt := Q } (start ["script"] vs) H := by
  intro vs H Q E h
  obtain ⟨a, ns, rfl, hS, q⟩ := h
  refine ⟨_, rfl, _, rfl, .inl ⟨a, _, rfl, hS, fun sc hsc => ?_⟩⟩
  obtain ⟨ms, ems, _⟩ := cut_ints ns none (some 63)
  rw [ems]
  refine .inl ⟨sc, _, rfl, .inl (.of upd_same), fun l hl => ⟨show 3 ≤ sizeLine by decide, fun p hp => ?_⟩⟩
  have hlp : l ≠ p := fun e => by rw [← e, upd_same] at hp; cases hp
  refine q p l ms _ (((same_new hsc _).trans (same_new hl _)).trans (same_new hp _)) ⟨upd_same, ?_, hlp⟩
  rw [upd_ne hlp]
  exact upd_same
end
end K57
namespace K57
open PySem L2
theorem sIxN {n d a : Nat} (h : a ≤ n) : HT.sIx n d (some (a : Int)) = a := by
  unfold HT.sIx
  simp
  rw [if_neg (by omega)]
  omega
theorem cutN (ps : List Nat) (a b : Nat) (h : a ≤ b) (hb : b ≤ ps.length) : cutV (ps.map natV) (some (a : Int)) (some (b : Int)) = ((ps.drop a).take (b - a)).map natV := by
  unfold cutV
  have e1 : HT.sIx (ps.map natV).length 0 (some (a : Int)) = a := by rw [List.length_map]; exact sIxN (by omega)
  have e2 : HT.sIx (ps.map natV).length (ps.map natV).length (some (b : Int)) = b := by rw [List.length_map]; exact sIxN (by omega)
  rw [e1, e2, List.map_take, List.map_drop]
theorem cutTo (ps : List Nat) (a : Nat) (h : a ≤ ps.length) : cutV (ps.map natV) none (some (a : Int)) = (ps.take a).map natV := by
  unfold cutV
  have e2 : HT.sIx (ps.map natV).length (ps.map natV).length (some (a : Int)) = a := by rw [List.length_map]; exact sIxN (by omega)
  have e1 : HT.sIx (ps.map natV).length 0 none = 0 := rfl
  rw [e1, e2, List.map_take, List.drop_zero, Nat.sub_zero]
theorem cutFr (ps : List Nat) (a : Nat) (h : a ≤ ps.length) : cutV (ps.map natV) (some (a : Int)) none = (ps.drop a).map natV := by
  unfold cutV
  have e1 : HT.sIx (ps.map natV).length 0 (some (a : Int)) = a := by rw [List.length_map]; exact sIxN (by omega)
  have e2 : HT.sIx (ps.map natV).length (ps.map natV).length none = ps.length := by rw [List.length_map]; rfl
  rw [e1, e2, List.map_drop]
  exact List.take_of_length_le (by rw [List.length_drop, List.length_map]; exact Nat.le_refl _)
def toI (R : List (List Nat)) : List (List Int) := R.map fun r => r.map fun p : Nat => (p : Int)
section
variable {K : PySem.W.Frag}
def spSum (K : PySem.W.Frag) : Sp := fun vs H Q _ => ∃ (v : V) (b : Addr) (T : List (List Int)) (n : Nat) (ps : List Nat), vs = [v, .ref b] ∧ Sh K H (tabD T) v ∧ Quad T n ∧ SqT K H b (ps.map natV) ∧ 1 ≤ ps.length ∧ ps.length ≤ 8 ∧ (∀ p ∈ ps, p < n) ∧ ∀ H', Same H H' → Q (.int (sumL T ps)) H'
theorem rd_sum : ∀ vs H Q E, spSum K vs H Q E → T__law_e_sum K { nx := fun _ H' => Q .non H', rt := Q } (start ["table", "told"] vs) H := by
  intro vs H Q E h
  obtain ⟨v, b, T, n, ps, rfl, hS, hq, hb, h1, h8, hlt, q⟩ := h
  refine ⟨_, rfl, b, _, rfl, .inr hb, _, rfl, by rw [List.length_map]; omega, by rw [List.length_map]; omega, fun acc hacc => ?_⟩
  refine comp_emitsD [0] (((List.range ps.length).map (stp T ps)).map V.int) hacc (by rw [List.length_map, List.length_map, List.length_range]; omega) ?_ fun σ' H' s4 hl' => ⟨acc, _, rfl, .inl (.of hl'), q H' s4⟩
  rw [List.length_map]
  refine Emits.cast (L := (List.range ps.length).flatMap fun i => [V.int (stp T ps i)]) ?_ (by rw [flat_one, List.map_map]; rfl)
  refine loop_range (by decide) (by show 0 < 3; decide) fun i σ1 H1 hi l1 ag1 e1 sx1 _ => ?_
  have t1 : σ1[1]? = some (some v) := (ag1 1 (by decide)).trans rfl
  have t2 : σ1[2]? = some (some (.ref b)) := (ag1 2 (by decide)).trans rfl
  have hi : i < ps.length := hi
  have hb1 := (same_of_x hacc sx1).tup hb
  have hS1 := hS.same (same_of_x hacc sx1)
  rw [Int.zero_add] at e1
  have fin : ∀ (R : VK) (j : Nat), j < ps.length → R (.int (at2 T (ps.getD j 0) (ps.getD i 0))) H1 → rIx2 K v (natV (ps.getD j 0)) H1 fun x H2 => (tOp (rIx2 K) (tVar 2) (tVar 0)) σ1 H2 fun y H3 => rIx2 K x y H3 R := fun R j hj hR => by
    refine tab_row hS1 hq (get_in hlt hj) fun c hc => ⟨_, t2, _, e1, ixT hb1 (getV hi) ?_⟩
    refine ixT hc ?_ hR
    obtain ⟨row, g1, g2, g3⟩ := hq.get (get_in hlt hj)
    rw [List.getElem?_map, L2.getD_at (by rw [g3, g2]; exact get_in hlt hi)]
    rfl
  refine emits_one fun R hR => ⟨_, t1, _, t2, _, e1, _, _, rfl, rfl, ?_⟩
  cases i with
  | zero => exact ixT_last hb1 (by rw [List.length_map]; exact getV (by omega)) (fin R (ps.length - 1) (by omega) (hR H1 (Same.refl _)))
  | succ i =>
    show rIx2 K (.ref b) (.int (((i + 1 : Nat) : Int) - 1)) H1 _
    rw [show ((i + 1 : Nat) : Int) - 1 = (i : Int) by omega]
    exact ixT hb1 (getV (by omega)) (fin R i (by omega) (hR H1 (Same.refl _)))
end
end K57
namespace K57
open PySem L2
section
variable {K : PySem.W.Frag} {σ : St} {H : Hp}
def Gv (K : PySem.W.Frag) (t : TE) (σ : St) (H : Hp) (xs : List Nat) : Prop := ∀ H1, Same H H1 → ∀ Q : VK, (∀ p H2, Same H1 H2 → SqT K H2 p (xs.map natV) → Q (.ref p) H2) → t σ H1 Q
theorem gv_var {i : Nat} {a : Addr} {ps : List Nat} (hv : σ[i]? = some (some (.ref a))) (h : SqT K H a (ps.map natV)) : Gv K (tVar i) σ H ps := fun H1 s1 Q q => ⟨_, hv, q a H1 (Same.refl _) (s1.tup h)⟩
theorem gv_rev {t : TE} {ps : List Nat} (h : Gv K t σ H ps) : Gv K (tRev K t) σ H ps.reverse := fun H1 s1 Q q => h H1 s1 _ fun p H2 s2 hp => ⟨p, _, rfl, hp, fun z hz => q z _ (s2.trans (same_new hz _)) (.of (by rw [List.map_reverse]; exact upd_same))⟩
theorem gv_to {t : TE} {i k : Nat} {ps : List Nat} (h : Gv K t σ H ps) (hk : σ[i]? = some (some (.int (k : Int)))) (hl : k ≤ ps.length) : Gv K (tSl (rSlU K) t tNoPart (tPart (tVar i))) σ H (ps.take k) := fun H1 s1 Q q => h H1 s1 _ fun p H2 s2 hp => ⟨_, hk, _, rfl, .inr ⟨p, _, rfl, hp, fun z H3 s3 hz => q z H3 (s2.trans s3) (by rw [cutTo _ _ hl] at hz; exact hz)⟩⟩
theorem gv_from {t : TE} {i k : Nat} {ps : List Nat} (h : Gv K t σ H ps) (hk : σ[i]? = some (some (.int (k : Int)))) (hl : k ≤ ps.length) : Gv K (tSl (rSlU K) t (tPart (tVar i)) tNoPart) σ H (ps.drop k) := fun H1 s1 Q q => h H1 s1 _ fun p H2 s2 hp => ⟨_, hk, _, rfl, .inr ⟨p, _, rfl, hp, fun z H3 s3 hz => q z H3 (s2.trans s3) (by rw [cutFr _ _ hl] at hz; exact hz)⟩⟩
theorem gv_cat {ta tb : TE} {xs ys : List Nat} (ha : Gv K ta σ H xs) (hb : Gv K tb σ H ys) (hz : xs.length + ys.length ≤ 100) : Gv K (tOp (rAddA K) ta tb) σ H (xs ++ ys) := fun H1 s1 Q q => ha H1 s1 _ fun p H2 s2 hp => hb H2 (s1.trans s2) _ fun r H3 s3 hr => .inr ⟨p, r, _, _, rfl, rfl, s3.tup hp, hr, by rw [List.length_map, List.length_map]; exact Nat.le_trans hz (by decide), fun z H4 _ hz' s4 => q z H4 ((s2.trans s3).trans s4) (by rw [List.map_append]; exact hz')⟩
theorem gv_cat3 {ta tb tc : TE} {xs ys zs : List Nat} {Q : VK} (ha : Gv K ta σ H xs) (hb : Gv K tb σ H ys) (hc : Gv K tc σ H zs) (hx : xs ≠ []) (hy : ys ≠ []) (hz : xs.length + ys.length + zs.length ≤ 100) (q : ∀ p H', Same H H' → H' p = some (.tup ((xs ++ ys ++ zs).map natV)) → Q (.ref p) H') : tOp (rAddA K) (tOp (rAddA K) ta tb) tc σ H Q :=
  ha H (Same.refl _) _ fun p H2 s2 hp => hb H2 s2 _ fun r H3 s3 hr => cat_new (s3.tup hp) hr (fun e => hx (List.map_eq_nil_iff.mp e)) (fun e => hy (List.map_eq_nil_iff.mp e)) (by rw [List.length_map, List.length_map]; omega) fun u hu => by
    have su := same_new hu (.tup (xs.map natV ++ ys.map natV))
    refine hc _ ((s2.trans s3).trans su) _ fun w H4 s4 hw => cat_end (s4 _ _ upd_same) hw ?_ ?_ fun z H5 s5 hz' => q z H5 ((((s2.trans s3).trans su).trans s4).trans s5) ?_
    · intro e
      exact hx (List.map_eq_nil_iff.mp (List.append_eq_nil_iff.mp e).1)
    · rw [List.length_append, List.length_map, List.length_map, List.length_map]; omega
    · rw [List.map_append, List.map_append]; exact hz'
theorem gv_of3 {t : TE} {xs : List Nat} (h : ∀ H1, Same H H1 → ∀ Q : VK, (∀ p H2, Same H1 H2 → H2 p = some (.tup (xs.map natV)) → Q (.ref p) H2) → t σ H1 Q) : Gv K t σ H xs := fun H1 s1 Q q => h H1 s1 Q fun p H2 s2 e => q p H2 s2 (.of e)
theorem Gv.at {t : TE} {H' : Hp} {xs : List Nat} (h : Gv K t σ H xs) (s : Same H H') : Gv K t σ H' xs := fun H1 s1 Q q => h H1 (s.trans s1) Q q
theorem toI_len {R : List (List Nat)} : (toI R).length = R.length := by unfold toI; rw [List.length_map]
theorem toI_app {R S : List (List Nat)} : toI (R ++ S) = toI R ++ toI S := by unfold toI; rw [List.map_append]
theorem toI_flat {n : Nat} {f : Nat → List (List Nat)} : toI ((List.range n).flatMap f) = (List.range n).flatMap fun i => toI (f i) := by unfold toI; rw [List.map_flatMap]
theorem natI (r : List Nat) : (r.map fun p : Nat => (p : Int)).map V.int = r.map natV := (natV_map r).symm
theorem emr_gv {vars : List Nat} {acc : Addr} {t : Nat} {te : TE} {r : List Nat} (hs : σ[t]? = some (some (.ref acc))) (h : ∀ H0, SameX acc H0 H0 → Gv K te σ H r) : EmR K vars (tDrop (tBM K "list" rAppend (tVar t) (tCons te tNil))) acc σ H (toI [r]) := by
  intro D pre R ha hR hz hd
  refine ⟨_, hs, .inl ⟨rfl, _, .of ha⟩, h H (SameX.refl _ _) H (Same.refl _) _ fun u H2 s2 hu => ?_⟩
  have ha' := s2 _ _ ha
  refine ⟨acc, pre, .ref u, rfl, rfl, ha', Nat.lt_of_le_of_lt (show pre.length ≤ 100000 by rw [hR.1]; omega) (by decide), ?_⟩
  exact hd σ _ _ rfl (Agree.refl _ _) (s2.x.trans (SameX.put _)) upd_same (Rows.snoc (Rows.put (hR.same s2) ha') (sqT_put (by rw [natI]; exact hu) ha'))
theorem emr_two {vars : List Nat} {acc : Addr} {tb tc : TS} {L M : List (List Int)} (h : EmR K [] tb acc σ H L) (g : ∀ σ' H', σ'.length = σ.length → Agree [] σ σ' → SameX acc H H' → EmR K vars tc acc σ' H' M) : EmR K vars (tSeq tb tc) acc σ H (L ++ M) := by
  intro D pre R ha hR hz hd
  rw [List.length_append] at hz
  refine h _ pre R ha hR (by omega) fun σ1 H1 pre1 l1 ag1 sx1 h1 r1 => ?_
  exact g σ1 H1 l1 ag1 sx1 D pre1 _ h1 r1 (by rw [List.length_append]; omega) fun σ2 H2 pre2 l2 ag2 sx2 h2 r2 => hd σ2 H2 pre2 (l2.trans l1) ((fun k hk => ag1 k (by simp)) |> fun z => Agree.trans z ag2) (sx1.trans sx2) h2 (by rw [← List.append_assoc]; exact r2)
def spStr (K : PySem.W.Frag) : Sp := fun vs H Q _ => ∃ (a : Addr) (ps : List Nat) (b s : Nat), vs = [.ref a, .int (b : Int), .int ((b + s : Nat) : Int)] ∧ SqT K H a (ps.map natV) ∧ 1 ≤ b ∧ 1 ≤ s ∧ b + s ≤ ps.length ∧ ps.length ≤ 8 ∧ ∀ l xs H', Same H H' → H l = none → H' l = some (.lst xs) → Rows K H' xs (toI (mvS ps b s)) → Q (.ref l) H'
theorem put_ne {ps : List Nat} {i : Nat} (h1 : 1 ≤ i) (h2 : i ≤ ps.length) : ps.take i ≠ [] := fun e => by
  have := congrArg List.length e
  rw [List.length_take, List.length_nil] at this
  omega
theorem rd_str : ∀ vs H Q E, spStr K vs H Q E → T_moves_of_stretch K { nx := fun _ H' => Q .non H', rt := Q } (start ["round_", "start", "stop", "stretch", "found", "rest", "at"] vs) H := by
  intro vs H Q E h
  obtain ⟨a, ps, b, s, rfl, ha, b1, s1, hl, h8, q⟩ := h
  have pl := pc_len hl
  have pn : pc ps b s ≠ [] := fun e => by rw [e] at pl; simp at pl; omega
  refine ⟨_, rfl, _, rfl, _, rfl, _, rfl, _, rfl, .inr ⟨a, _, rfl, ha, fun p1 H1 m1 hp1 => ?_⟩⟩
  rw [cutN ps b (b + s) (by omega) hl, show b + s - b = s by omega] at hp1
  have hp1 : SqT K H1 p1 ((pc ps b s).map natV) := hp1
  have ha1 := m1.tup ha
  refine gv_cat3 (gv_to (gv_var rfl ha1) rfl (by omega)) (gv_rev (gv_var rfl hp1)) (gv_from (gv_var rfl ha1) rfl hl) (put_ne b1 (by omega)) (by simpa using pn) (by rw [List.length_take, List.length_reverse, pl, List.length_drop]; omega) fun p2 H2 m2 hp2 => ?_
  refine ⟨show 1 ≤ sizeLine by decide, fun F hF => ?_⟩
  have mF := same_new hF (.lst [.ref p2])
  have hF1 : (upd H2 F (.lst [.ref p2])) F = some (.lst [.ref p2]) := upd_same
  have hR : Rows K (upd H2 F (.lst [.ref p2])) [.ref p2] (toI [ps.take b ++ (pc ps b s).reverse ++ ps.drop (b + s)]) := Rows.snoc (xs := []) (T := []) Rows.nil (by rw [natI]; exact .of (mF _ _ hp2))
  have mm := (m1.trans m2).trans mF
  have hFH : H F = none := (m1.trans m2).free hF
  have ha2 := mm.tup ha
  have hp2' := (m2.trans mF).tup hp1
  generalize upd H2 F (.lst [.ref p2]) = G at *
  refine ⟨_, rfl, p1, _, rfl, .inr hp2', _, _, rfl, rfl, _, rfl, ?_⟩
  rw [List.length_map, pl]
  by_cases c : s ≤ 3
  · refine iteT' (decide_eq_true (by omega)) ?_
    refine gv_cat (gv_to (gv_var rfl ha2) rfl (by omega)) (gv_from (gv_var rfl ha2) rfl hl) (by rw [List.length_take, List.length_drop]; omega) G (Same.refl _) _ fun p3 H3 m3 hp3 => ?_
    have hp3 : SqT K H3 p3 ((rs ps b s).map natV) := hp3
    have rl := rs_len hl
    have hF3 := m3 _ _ hF1
    have key : EmR K [6] (tFor (iRng2 (tCons (tC (.int 1)) (tCons (tOp (rAddA K) (tCB (rLen K) (tCons (tVar 5) tNil)) (tC (.int 1))) tNil))) (gName 6) (tSeq (tDrop (tBM K "list" rAppend (tVar 4) (tCons (tOp (rAddA K) (tOp (rAddA K) (tSl (rSlU K) (tVar 5) tNoPart (tPart (tVar 6))) (tVar 3)) (tSl (rSlU K) (tVar 5) (tPart (tVar 6)) tNoPart)) tNil))) (tSeq (tDrop (tBM K "list" rAppend (tVar 4) (tCons (tOp (rAddA K) (tOp (rAddA K) (tSl (rSlU K) (tVar 5) tNoPart (tPart (tVar 6))) (tRev K (tVar 3))) (tSl (rSlU K) (tVar 5) (tPart (tVar 6)) tNoPart)) tNil))) tNext))) F
        [some (.ref a), some (.int (b : Int)), some (.int ((b + s : Nat) : Int)), some (.ref p1), some (.ref F), some (.ref p3), none] H3 ((List.range (rs ps b s).length).flatMap fun i => toI [putP (rs ps b s) (pc ps b s) (i + 1), putP (rs ps b s) (pc ps b s).reverse (i + 1)]) := by
      refine emr_for (lo := 1) (fun R hR => ⟨_, rfl, p3, _, rfl, .inr hp3, _, _, rfl, ⟨by decide, by decide, by rw [List.length_map, rl]; omega, by rw [List.length_map, rl]; omega⟩, ?_⟩) (by decide) (by show 6 < 7; decide) fun i σ4 H4 hi l4 ag4 e6 sx4 => ?_
      · rw [List.length_map, show (((rs ps b s).length : Int) + 1 - 1).toNat = (rs ps b s).length by omega]; exact hR
      have e3 : σ4[3]? = some (some (.ref p1)) := (ag4 3 (by decide)).trans rfl
      have e4 : σ4[4]? = some (some (.ref F)) := (ag4 4 (by decide)).trans rfl
      have e5 : σ4[5]? = some (some (.ref p3)) := (ag4 5 (by decide)).trans rfl
      rw [show (1 : Int) + (i : Int) = ((i + 1 : Nat) : Int) by omega] at e6
      have k3 := sqT_x hp3 hF3 sx4
      have k1 := sqT_x (m3.tup hp2') hF3 sx4
      have kz : ((rs ps b s).take (i + 1)).length + (pc ps b s).length + ((rs ps b s).drop (i + 1)).length ≤ 100 := by rw [List.length_take, List.length_drop, pl, rl]; omega
      refine emr_two (L := toI [putP (rs ps b s) (pc ps b s) (i + 1)]) (M := toI [putP (rs ps b s) (pc ps b s).reverse (i + 1)]) (emr_gv e4 fun _ _ => gv_of3 fun H5 s5 R hR => gv_cat3 ((gv_to (gv_var e5 k3) e6 (by omega)).at s5) ((gv_var e3 k1).at s5) ((gv_from (gv_var e5 k3) e6 (by omega)).at s5) (put_ne (by omega) (by omega)) pn kz hR) fun σ5 H5 l5 ag5 sx5 => emr_seq ?_
      have sx6 := sx4.trans sx5
      have k3' := sqT_x hp3 hF3 sx6
      have k1' := sqT_x (m3.tup hp2') hF3 sx6
      have e3' := (ag5 3 (by simp)).trans e3
      have e4' := (ag5 4 (by simp)).trans e4
      have e5' := (ag5 5 (by simp)).trans e5
      have e6' := (ag5 6 (by simp)).trans e6
      exact emr_gv e4' fun _ _ => gv_of3 fun H6 s6 R hR => gv_cat3 ((gv_to (gv_var e5' k3') e6' (by omega)).at s6) ((gv_rev (gv_var e3' k1')).at s6) ((gv_from (gv_var e5' k3') e6' (by omega)).at s6) (put_ne (by omega) (by omega)) (by simpa using pn) (by rw [List.length_reverse]; exact kz) hR
    refine key _ _ _ hF3 (hR.same m3) ?_ fun σ4 H4 pre4 l4 ag4 sx4 h4 r4 => ?_
    · have := len_flatMap_le (fun i => toI [putP (rs ps b s) (pc ps b s) (i + 1), putP (rs ps b s) (pc ps b s).reverse (i + 1)]) 2 (rs ps b s).length fun i _ => Nat.le_refl _
      rw [toI_len, List.length_singleton]
      omega
    · refine ⟨_, (ag4 4 (by decide)).trans rfl, q F _ H4 (fun c o e => sx4 _ _ (ne_of_none e hFH) (m3 _ _ (mm _ _ e))) hFH h4 ?_⟩
      have e : mvS ps b s = [ps.take b ++ (pc ps b s).reverse ++ ps.drop (b + s)] ++ (List.range (rs ps b s).length).flatMap (fun i => [putP (rs ps b s) (pc ps b s) (i + 1), putP (rs ps b s) (pc ps b s).reverse (i + 1)]) := by unfold mvS; rw [if_pos c]
      rw [e, toI_app, toI_flat]
      exact r4
  · refine iteF' (decide_eq_false (by omega)) ?_
    refine ⟨_, rfl, q F _ G mm hFH hF1 ?_⟩
    have e : mvS ps b s = [ps.take b ++ (pc ps b s).reverse ++ ps.drop (b + s)] := by unfold mvS; rw [if_neg c, List.append_nil]
    rw [e]
    exact hR
end
end K57
namespace K57
open PySem L2
def tupN (ps : List Nat) : Dt := .tup ((ps.map fun p : Nat => (p : Int)).map Dt.int)
theorem mapI_inj : ∀ {a b : List Nat}, (a.map fun p : Nat => (p : Int)) = (b.map fun p : Nat => (p : Int)) → a = b
  | [], [], _ => rfl
  | [], _ :: _, h => by cases h
  | _ :: _, [], h => by cases h
  | x :: a, y :: b, h => by
    rw [List.map_cons, List.map_cons, List.cons.injEq] at h
    rw [Int.ofNat.inj h.1, mapI_inj h.2]
theorem eqL_ints : ∀ (r q : List Int), eqL (r.map Dt.int) (q.map Dt.int) = decide (r = q)
  | [], [] => by simp [eqL]
  | [], _ :: _ => by simp [eqL]
  | _ :: _, [] => by simp [eqL]
  | x :: r, y :: q => by
    rw [List.map_cons, List.map_cons, eqL, eqL_ints r q, eqD]
    by_cases c : x = y <;> by_cases d : r = q <;> simp [c, d]
theorem eq_tupN (a b : List Nat) : eqD (tupN a) (tupN b) = decide (a = b) := by
  unfold tupN
  rw [eqD, eqL_ints]
  by_cases c : a = b
  · rw [c]; simp
  · rw [decide_eq_false c, decide_eq_false fun e => c (mapI_inj e)]
theorem dep_tupN (a : List Nat) : dep (tupN a) ≤ 100 := by
  unfold tupN
  rw [dep, okAll_depL]
  decide
section
variable {K : PySem.W.Frag}
theorem sh_tupN {H : Hp} {a : Addr} {ps : List Nat} (h : SqT K H a (ps.map natV)) : Sh K H (tupN ps) (.ref a) := ⟨a, _, rfl, h, by rw [natV_map]; exact ShL.ints _⟩
theorem rN_at {H : Hp} {xs : List V} {L : List (List Nat)} (h : Rows K H xs (toI L)) {i : Nat} {x : V} (hx : xs[i]? = some x) : ∃ e b, L[i]? = some e ∧ x = .ref b ∧ SqT K H b (e.map natV) := by
  have hi : i < xs.length := (List.getElem?_eq_some_iff.mp hx).1
  have hl : i < L.length := by rw [h.1, toI_len] at hi; exact hi
  obtain ⟨b, e1, e2⟩ := h.2 i (L[i].map fun p : Nat => (p : Int)) (by unfold toI; rw [List.getElem?_map, List.getElem?_eq_getElem hl]; rfl)
  rw [hx] at e1
  exact ⟨L[i], b, List.getElem?_eq_getElem hl, Option.some.inj e1, by rw [natI] at e2; exact e2⟩
section
variable {H : Hp} {A t : Addr} {xs : List V} {L : List (List Nat)} {f : List Nat → Bool} {tc : TT} {σ : St} {D : Ends}
def TestF (K : PySem.W.Frag) (H : Hp) (σ : St) (L : List (List Nat)) (f : List Nat → Bool) (tc : TT) : Prop := ∀ e ∈ L, ∀ b σ2 H2, σ2[0]? = some (some (.ref b)) → Agree [0] σ σ2 → Same H H2 → SqT K H2 b (e.map natV) → ∀ R : Bool → Hp → Prop, (∀ H', Same H2 H' → R (f e) H') → tc σ2 H2 R
theorem fil_step (hz : L.length ≤ 10000) {i : Nat} {x : V} {σ1 : St} {H1 : Hp} {ys : List V} {D1 : Ends} (hA : H A = none) (hr : Rows K H xs (toI L)) (ht : TestF K H σ L f tc) (hx : xs[i]? = some x) (ag : Agree [0] σ σ1) (s0 : σ1[0]? = some (some x)) (sm : Same H H1) (ha : H1 A = some (.lst ys)) (hL : Rows K H1 ys (toI ((L.take i).filter f))) (l1 : σ1.length = σ.length)
    (hD : ∀ σ2 H2 zs, σ2.length = σ.length → Agree [0] σ σ2 → Same H H2 → H2 A = some (.lst zs) → Rows K H2 zs (toI ((L.take (i + 1)).filter f)) → D1.nx σ2 H2) : tTests [tc] (tEmit (tVar 0) A) D1 σ1 H1 := by
  obtain ⟨e, b, he, rfl, hb⟩ := rN_at (hr.same sm) hx
  have tk : (L.take (i + 1)).filter f = (L.take i).filter f ++ (if f e = true then [e] else []) := by
    rw [List.take_add_one, he, List.filter_append]
    congr 1
    show List.filter f [e] = _
    by_cases c : f e = true
    · rw [if_pos c, List.filter_cons_of_pos c]; rfl
    · rw [if_neg c, List.filter_cons_of_neg c]; rfl
  refine ht e (List.mem_of_getElem? he) b σ1 H1 s0 ag sm hb _ fun H2 s2 => ?_
  have ha2 := s2 _ _ ha
  by_cases c : f e = true
  · refine iteT' c ⟨_, s0, ys, ha2, ?_, hD σ1 _ (ys ++ [.ref b]) l1 ag (samePut hA (sm.trans s2)) upd_same ?_⟩
    · rw [hL.1, toI_len]
      exact Nat.lt_of_le_of_lt (show _ ≤ 10000 from Nat.le_trans (List.length_filter_le ..) (by rw [List.length_take]; omega)) (by decide)
    · rw [tk, if_pos c, toI_app]
      exact Rows.put (Rows.snoc (hL.same s2) (by rw [natI]; exact s2.tup hb)) ha2
  · refine iteF' (by simpa using c) (hD σ1 H2 ys l1 ag (sm.trans s2) ha2 ?_)
    rw [tk, if_neg c, List.append_nil]
    exact hL.same s2
theorem fil_list (hA : H A = none) (ht : H t = some (.lst xs)) (hr : Rows K H xs (toI L)) (hz : L.length ≤ 10000) (h0 : 0 < σ.length) (hc : TestF K H σ L f tc) (q : ∀ σ' H' ys, Same H H' → H' A = some (.lst ys) → Rows K H' ys (toI (L.filter f)) → D.nx σ' H') : tLoop (Itl K t) (gName 0) (tTests [tc] (tEmit (tVar 0) A)) D σ (upd H A (.lst [])) := by
  have hl : xs.length = L.length := by rw [hr.1, toI_len]
  refine inv_list (K := K) (a := t) (vars := [0]) (xs := xs) (fun i ys H' => Rows K H' ys (toI ((L.take i).filter f))) (by decide) h0 Rows.nil hA (fun i ys H' sm _ => .of (sm _ _ ht)) (fun i x σ1 H1 ys D1 hx l1 ag s0 sm ha hL hD => fil_step hz hA hr hc hx ag s0 sm ha hL l1 hD) fun σ1 H1 ys sm ha hL => q σ1 H1 ys sm ha (by rw [hl, List.take_length] at hL; exact hL)
end
theorem EmR.mono {vars vars' : List Nat} {tb : TS} {acc : Addr} {σ : St} {H : Hp} {L : List (List Int)} (h : EmR K vars tb acc σ H L) (hs : ∀ k ∈ vars, k ∈ vars') : EmR K vars' tb acc σ H L :=
  fun D pre R ha hR hz hd => h D pre R ha hR hz fun σ' H' pre' hl ag sx h2 r2 => hd σ' H' pre' hl (fun k hk => ag k fun z => hk (hs k z)) sx h2 r2
theorem mvS_len {ps : List Nat} {b s : Nat} (h : b + s ≤ ps.length) (h8 : ps.length ≤ 8) : (mvS ps b s).length ≤ 17 := by
  unfold mvS
  rw [List.length_append, List.length_singleton]
  split
  · have := len_flatMap_le (fun i => [putP (rs ps b s) (pc ps b s) (i + 1), putP (rs ps b s) (pc ps b s).reverse (i + 1)]) 2 (rs ps b s).length fun i _ => Nat.le_refl _
    rw [rs_len h] at this
    rw [rs_len h]
    omega
  · decide
theorem mvA_len {ps : List Nat} (h8 : ps.length ≤ 8) : (mvA ps).length ≤ 1000 := by
  unfold mvA
  have := len_flatMap_le (fun i => (List.range (i + 1)).flatMap fun j => mvS ps (j + 1) (i + 1 - j)) (8 * 17) (ps.length - 1) fun i hi => by
    refine Nat.le_trans (len_flatMap_le (fun j => mvS ps (j + 1) (i + 1 - j)) 17 (i + 1) fun j hj => mvS_len (by omega) h8) (Nat.mul_le_mul_right _ (by omega))
  have : (ps.length - 1) * (8 * 17) ≤ 7 * (8 * 17) := Nat.mul_le_mul_right _ (by omega)
  omega
def spMoves (K : PySem.W.Frag) : Sp := fun vs H Q _ => ∃ (a : Addr) (ps : List Nat), vs = [.ref a] ∧ SqT K H a (ps.map natV) ∧ 1 ≤ ps.length ∧ ps.length ≤ 8 ∧ ∀ l xs H', Same H H' → H' l = some (.lst xs) → Rows K H' xs (toI ((mvA ps).filter fun o => decide (o ≠ ps))) → Q (.ref l) H'
theorem rd_moves : ∀ vs H Q E, spMoves K vs H Q E → T_moves_of K (spStr K) { nx := fun _ H' => Q .non H', rt := Q } (start ["round_", "found", "stop", "start"] vs) H := by
  intro vs H Q E h
  obtain ⟨a, ps, rfl, ha, h1, h8, q⟩ := h
  refine ⟨show 0 ≤ sizeLine by decide, fun F hF => ?_⟩
  have mF := same_new hF (.lst [])
  have hF1 : (upd H F (.lst [])) F = some (.lst []) := upd_same
  generalize upd H F (.lst []) = G at *
  have key : EmR K [2, 3] (tFor (iRng2 (tCons (tC (.int 2)) (tCons (tOp (rAddA K) (tCB (rLen K) (tCons (tVar 0) tNil)) (tC (.int 1))) tNil))) (gName 2) (tSeq (tFor (iRng2 (tCons (tC (.int 1)) (tCons (tVar 2) tNil))) (gName 3) (tSeq (tDrop (tBM K "list" (rExtendA K) (tVar 1) (tCons (tCall (spStr K) [] E0 (tCons (tVar 0) (tCons (tVar 3) (tCons (tVar 2) tNil)))) tNil))) tNext)) tNext)) F
      [some (.ref a), some (.ref F), none, none] G ((List.range (ps.length - 1)).flatMap fun i => (List.range (i + 1)).flatMap fun j => toI (mvS ps (j + 1) (i + 1 - j))) := by
    refine emr_for (lo := 2) (fun R hR => ⟨_, rfl, a, _, rfl, .inr (mF.tup ha), _, _, rfl, ⟨by decide, by decide, by rw [List.length_map]; omega, by rw [List.length_map]; omega⟩, ?_⟩) (by decide) (by show 2 < 4; decide) fun i σ1 H1 hi l1 ag1 e2 sx1 => emr_seq ?_
    · rw [List.length_map, show ((ps.length : Int) + 1 - 2).toNat = ps.length - 1 by omega]; exact hR
    refine EmR.mono (vars := [3]) (emr_for (lo := 1) (fun R hR => ⟨_, e2, _, _, rfl, ⟨by decide, by decide, by omega, by omega⟩, ?_⟩) (by decide) (by rw [l1]; show 3 < 4; decide) fun j σ2 H2 hj l2 ag2 e3 sx2 => emr_seq ?_) (by decide)
    · rw [show ((2 : Int) + (i : Int) - 1).toNat = i + 1 by omega]; exact hR
    intro D pre R hp hR hz hd
    have c0 : σ2[0]? = some (some (.ref a)) := (ag2 0 (by decide)).trans ((ag1 0 (by decide)).trans rfl)
    have c1 : σ2[1]? = some (some (.ref F)) := (ag2 1 (by decide)).trans ((ag1 1 (by decide)).trans rfl)
    have c2 := (ag2 2 (by decide)).trans e2
    have sx := sx1.trans sx2
    have ha2 := sqT_x (mF.tup ha) hF1 sx
    refine ⟨_, c1, .inl ⟨rfl, _, .of hp⟩, _, c0, _, e3, _, c2, a, ps, j + 1, i + 1 - j, ?_, ha2, by omega, by omega, by omega, h8, fun l xs H3 m3 hlH hl3 r3 => ?_⟩
    · show [V.ref a, V.int (1 + (j : Int)), V.int (2 + (i : Int))] = _
      rw [show (1 : Int) + (j : Int) = ((j + 1 : Nat) : Int) by omega, show (2 : Int) + (i : Int) = ((j + 1 + (i + 1 - j) : Nat) : Int) by omega]
    have hp3 := m3 _ _ hp
    refine .inl ⟨F, l, pre, xs, rfl, rfl, hp3, hl3, ?_, ?_⟩
    · rw [r3.1, hR.1]
      exact Nat.le_trans hz (by decide)
    · refine hd σ2 _ _ rfl (Agree.refl _ _) (m3.x.trans (SameX.put _)) upd_same ?_
      refine Rows.put (o := .lst (pre ++ xs)) ⟨?_, fun k row e => ?_⟩ hp3
      · rw [List.length_append, List.length_append, hR.1, r3.1]
      · by_cases hk : k < R.length
        · rw [List.getElem?_append_left hk] at e
          obtain ⟨b', u1, u2⟩ := (hR.same m3).2 k row e
          exact ⟨b', by rw [List.getElem?_append_left (by rw [hR.1]; exact hk)]; exact u1, u2⟩
        · rw [List.getElem?_append_right (by omega)] at e
          obtain ⟨b', u1, u2⟩ := r3.2 _ row e
          exact ⟨b', by rw [List.getElem?_append_right (by rw [hR.1]; omega), hR.1]; exact u1, u2⟩
  have eA : ((List.range (ps.length - 1)).flatMap fun i => (List.range (i + 1)).flatMap fun j => toI (mvS ps (j + 1) (i + 1 - j))) = toI (mvA ps) := by
    unfold mvA
    rw [toI_flat]
    congr 1
    funext i
    rw [toI_flat]
  have lA := mvA_len h8
  refine key _ [] [] hF1 Rows.nil (by rw [eA, toI_len, List.length_nil]; omega) fun σ1 H1 pre l1 ag1 sx1 hp1 r1 => ?_
  rw [eA, List.nil_append] at r1
  have c0 : σ1[0]? = some (some (.ref a)) := (ag1 0 (by decide)).trans rfl
  have c1 : σ1[1]? = some (some (.ref F)) := (ag1 1 (by decide)).trans rfl
  have m1 : Same H H1 := fun c o e => sx1 _ _ (ne_of_none e hF) (mF _ _ e)
  refine ⟨_, c1, F, rfl, .inl ⟨⟨_, .of hp1⟩, fun A hA => ?_⟩⟩
  refine fil_list (f := fun o => decide (o ≠ ps)) hA hp1 r1 (by omega) (by show 0 < 2; decide) (fun e he b σ2 H2 s0 ag2 m2 hb R hR => ?_) fun σ2 H2 ys m2 h2 r2 => q A ys H2 (m1.trans m2) h2 r2
  refine ⟨_, s0, _, (ag2 1 (by decide)).trans (by show [none, σ1[0]?.join][1]? = _; rw [c0]; rfl), tupN e, tupN ps, dep_tupN _, sh_tupN hb, sh_tupN ((m1.trans m2).tup ha), _, rfl, ?_⟩
  rw [eq_tupN]
  have e1 : (!decide (e = ps)) = (fun o : List Nat => decide (o ≠ ps)) e := by simp
  rw [e1]
  exact hR H2 (Same.refl _)
def spShort (K : PySem.W.Frag) : Sp := fun vs H Q _ => ∃ (v : V) (b : Addr) (T : List (List Int)) (n : Nat) (ps : List Nat), vs = [v, .ref b] ∧ Sh K H (tabD T) v ∧ Quad T n ∧ SqT K H b (ps.map natV) ∧ ps.length = n ∧ 1 ≤ n ∧ n ≤ 8 ∧ (∀ p ∈ ps, p < n) ∧ ∀ l xs H', Same H H' → H' l = some (.lst xs) → Rows K H' xs (toI (((mvA ps).filter fun o => decide (o ≠ ps)).filter fun o => decide (lenR T o < lenR T ps))) → Q (.ref l) H'
theorem rd_short : ∀ vs H Q E, spShort K vs H Q E → T_shorter_moves K (spLn K) (spMoves K) { nx := fun _ H' => Q .non H', rt := Q } (start ["table", "round_", "own"] vs) H := by
  intro vs H Q E h
  obtain ⟨v, b, T, n, ps, rfl, hS, hq, hb, hl, h1, h8, hlt, q⟩ := h
  refine ⟨_, rfl, _, rfl, v, b, T, n, ps, rfl, hS, hq, by omega, hb, hl, h1, hlt, fun H1 m1 => ?_⟩
  refine ⟨_, rfl, b, ps, rfl, m1.tup hb, by omega, by omega, fun F xs H2 m2 hF r2 => ?_⟩
  refine ⟨F, rfl, .inl ⟨⟨_, .of hF⟩, fun A hA => ?_⟩⟩
  have lA := mvA_len (ps := ps) (by omega)
  refine fil_list (f := fun o => decide (lenR T o < lenR T ps)) hA hF r2 (Nat.le_trans (List.length_filter_le ..) (by omega)) (by show 0 < 3; decide) (fun e he c σ3 H3 s0 ag3 m3 hc R hR => ?_) fun σ3 H3 ys m3 h3 r3 => q A ys H3 ((m1.trans m2).trans m3) h3 r3
  have pe := lm_perm (lm_of_mv (List.mem_filter.mp he).1)
  refine ⟨_, (ag3 1 (by decide)).trans rfl, _, s0, v, c, T, n, e, rfl, hS.same ((m1.trans m2).trans m3), hq, by omega, hc, by rw [pe.length_eq]; exact hl, h1, fun p hp => hlt p (pe.mem_iff.mp hp), fun H4 m4 => ?_⟩
  exact ⟨_, (ag3 2 (by decide)).trans rfl, _, _, rfl, rfl, _, rfl, hR H4 m4⟩
def spSet (K : PySem.W.Frag) : Sp := fun vs H Q _ => ∃ (v : V) (b : Addr) (T : List (List Int)) (n : Nat) (ps : List Nat), vs = [v, .ref b] ∧ Sh K H (tabD T) v ∧ Quad T n ∧ SqT K H b (ps.map natV) ∧ ps.length = n ∧ 1 ≤ n ∧ n ≤ 8 ∧ (∀ p ∈ ps, p < n) ∧ ∀ (c : Bool) H', Same H H' → (c = true ↔ ∀ o, IsLM ps o → sumL T ps ≤ sumL T o) → Q (.bl c) H'
theorem rd_set : ∀ vs H Q E, spSet K vs H Q E → T_is_settled K (spShort K) { nx := fun _ H' => Q .non H', rt := Q } (start ["table", "round_"] vs) H := by
  intro vs H Q E h
  obtain ⟨v, b, T, n, ps, rfl, hS, hq, hb, hl, h1, h8, hlt, q⟩ := h
  refine ⟨_, rfl, _, rfl, v, b, T, n, ps, rfl, hS, hq, hb, hl, h1, h8, hlt, fun l xs H1 m1 hl1 r1 => ?_⟩
  refine ⟨show 0 ≤ sizeLine by decide, fun z hz => ?_⟩
  have mz := same_new hz (.lst [])
  refine ⟨_, .lst [], dep_rowsL _, (r1.sh (.of hl1)).same mz, ⟨z, [], rfl, .of upd_same, rfl⟩, q _ _ (m1.trans mz) ?_⟩
  rw [← settled_iff (by omega)]
  have e : ∀ L : List (List Nat), (eqD (.lst ((toI L).map fun r => Dt.tup (r.map Dt.int))) (.lst []) = true ↔ L = []) := fun L => by
    cases L with
    | nil => simp [toI, eqD, eqL]
    | cons a L => simp [toI, eqD, eqL]
  exact e _
end
end K57
namespace K57
open PySem L2
def kk (ps : List Nat) : List Key := ps.map fun p : Nat => (Sum.inl (p : Int) : Key)
theorem kk_map (ps : List Nat) : (kk ps).map kV = ps.map natV := by unfold kk; rw [List.map_map]; rfl
theorem kk_inj : ∀ {a b : List Nat}, kk a = kk b → a = b
  | [], [], _ => rfl
  | [], _ :: _, h => by cases h
  | _ :: _, [], h => by cases h
  | x :: a, y :: b, h => by
    unfold kk at h
    rw [List.map_cons, List.map_cons, List.cons.injEq] at h
    rw [Int.ofNat.inj (Sum.inl.inj h.1), kk_inj (a := a) (b := b) h.2]
def Dc (kvs : List (List Key × V)) (P : List Nat → Prop) : Prop := (∀ kv ∈ kvs, ∃ o, kv.1 = kk o ∧ P o) ∧ ∀ o, P o → ∃ v, (kk o, v) ∈ kvs
theorem Dc.iff {kvs : List (List Key × V)} {P Q : List Nat → Prop} (h : Dc kvs P) (e : ∀ o, P o ↔ Q o) : Dc kvs Q := ⟨fun kv hk => by
  obtain ⟨o, h1, h2⟩ := h.1 kv hk
  exact ⟨o, h1, (e o).mp h2⟩, fun o ho => h.2 o ((e o).mpr ho)⟩
theorem Dc.put {kvs : List (List Key × V)} {P : List Nat → Prop} (h : Dc kvs P) (o : List Nat) (v : V) : Dc (putK kvs (kk o) v) fun x => P x ∨ x = o := by
  unfold putK
  split
  · rename_i c
    obtain ⟨kv0, m0, e0⟩ := List.any_eq_true.mp c
    have e0 := of_decide_eq_true e0
    refine ⟨fun kv hk => ?_, fun x hx => ?_⟩
    · obtain ⟨kv1, m1, rfl⟩ := List.mem_map.mp hk
      obtain ⟨o1, a1, a2⟩ := h.1 kv1 m1
      refine ⟨o1, ?_, .inl a2⟩
      split
      · exact a1
      · exact a1
    · rcases hx with hx | rfl
      · obtain ⟨w, hw⟩ := h.2 x hx
        by_cases cx : kk x = kk o
        · exact ⟨v, List.mem_map.mpr ⟨_, hw, by rw [if_pos cx]⟩⟩
        · exact ⟨w, List.mem_map.mpr ⟨_, hw, by rw [if_neg cx]⟩⟩
      · exact ⟨v, List.mem_map.mpr ⟨kv0, m0, by rw [if_pos e0, e0]⟩⟩
  · refine ⟨fun kv hk => ?_, fun x hx => ?_⟩
    · rcases List.mem_append.mp hk with hk | hk
      · obtain ⟨o1, a1, a2⟩ := h.1 kv hk
        exact ⟨o1, a1, .inl a2⟩
      · rw [List.mem_singleton.mp hk]
        exact ⟨o, rfl, .inr rfl⟩
    · rcases hx with hx | rfl
      · obtain ⟨w, hw⟩ := h.2 x hx
        exact ⟨w, List.mem_append_left _ hw⟩
      · exact ⟨v, List.mem_append_right _ (List.mem_singleton.mpr rfl)⟩
def Fm (ps : List Nat) (b s t : Nat) (o : List Nat) : Prop := o = putP (rs ps b s) (pc ps b s).reverse t ∨ o = putP (rs ps b s) (pc ps b s) t
section
variable {K : PySem.W.Frag}
theorem sqT_d {H H' : Hp} {a p : Addr} {xs : List V} {kvs : List (List Key × V)} (h : SqT K H a xs) (hp : H p = some (.dT kvs)) (sx : SameX p H H') : SqT K H' a xs := by
  rcases h with (h | ⟨ob, h⟩) | h
  · exact .inl (.inl (sx _ _ (ne_of h hp (fun z => nomatch z)) h))
  · exact .inl (.inr ⟨ob, sx _ _ (ne_of h hp (fun z => nomatch z)) h⟩)
  · exact .inr h
theorem gv_fromE {t te : TE} {σ : St} {H : Hp} {k : Nat} {ps : List Nat} (h : Gv K t σ H ps) (hk : ∀ H' Q, Q (.int (k : Int)) H' → te σ H' Q) (hl : k ≤ ps.length) : Gv K (tSl (rSlU K) t (tPart te) tNoPart) σ H (ps.drop k) := fun H1 s1 Q q => h H1 s1 _ fun p H2 s2 hp => hk _ _ ⟨_, rfl, .inr ⟨p, _, rfl, hp, fun z H3 s3 hz => q z H3 (s2.trans s3) (by rw [cutFr _ _ hl] at hz; exact hz)⟩⟩
theorem gv_cutE {t ta te : TE} {σ : St} {H : Hp} {k m : Nat} {ps : List Nat} (h : Gv K t σ H ps) (ha : ∀ H' Q, Q (.int (k : Int)) H' → ta σ H' Q) (he : ∀ H' Q, Q (.int (m : Int)) H' → te σ H' Q) (hkm : k ≤ m) (hl : m ≤ ps.length) : Gv K (tSl (rSlU K) t (tPart ta) (tPart te)) σ H ((ps.drop k).take (m - k)) := fun H1 s1 Q q => h H1 s1 _ fun p H2 s2 hp => ha _ _ ⟨_, rfl, he _ _ ⟨_, rfl, .inr ⟨p, _, rfl, hp, fun z H3 s3 hz => q z H3 (s2.trans s3) (by rw [cutN _ _ _ hkm hl] at hz; exact hz)⟩⟩⟩
theorem rd_spots {D : Ends} {a F P R S : Addr} {x2 x3 x4 x8 : Option V} {H : Hp} {ps : List Nat} {b s : Nat} {sp : List Nat} {kvs : List (List Key × V)} {Pr : List Nat → Prop} (hl : b + s ≤ ps.length) (b1 : 1 ≤ b) (s1 : 1 ≤ s) (h8 : ps.length ≤ 8) (hP : SqT K H P ((pc ps b s).map natV)) (hR : SqT K H R ((rs ps b s).map natV)) (hS : H S = some (.lst (sp.map natV))) (hF : H F = some (.dT kvs)) (hsp : ∀ t ∈ sp, 1 ≤ t ∧ t ≤ ps.length - s) (hs8 : sp.length ≤ 8) (hc : Dc kvs Pr) (hz : kvs.length ≤ 5000)
    (q : ∀ y8 kvs' H', SameX F H H' → H' F = some (.dT kvs') → Dc kvs' (fun o => Pr o ∨ ∃ t ∈ sp, Fm ps b s t o) → kvs'.length ≤ kvs.length + 2 * sp.length → D.nx [some (.ref a), some (.ref F), x2, x3, x4, some (.ref P), some (.ref R), some (.ref S), y8] H') :
    tFor (iSeq K (tVar 7)) (gName 8) (tSeq (sDPut (tVar 1) (tOp (rAddA K) (tOp (rAddA K) (tSl (rSlU K) (tVar 6) tNoPart (tPart (tVar 8))) (tRev K (tVar 5))) (tSl (rSlU K) (tVar 6) (tPart (tVar 8)) tNoPart)) (tC (.bl true))) (tSeq (sDPut (tVar 1) (tOp (rAddA K) (tOp (rAddA K) (tSl (rSlU K) (tVar 6) tNoPart (tPart (tVar 8))) (tVar 5)) (tSl (rSlU K) (tVar 6) (tPart (tVar 8)) tNoPart)) (tC (.bl true))) tNext)) D [some (.ref a), some (.ref F), x2, x3, x4, some (.ref P), some (.ref R), some (.ref S), x8] H := by
  have hSF : S ≠ F := ne_of hS hF (fun z => nomatch z)
  have pl := pc_len hl
  have rl := rs_len hl
  have pn : pc ps b s ≠ [] := fun e => by rw [e] at pl; simp at pl; omega
  refine ⟨_, rfl, S, rfl, .inl ⟨⟨_, .of hS⟩, for_list (K := K) (a := S) (xs := sp.map natV) (fun i σ' H' => ∃ y8 kvs', σ' = [some (.ref a), some (.ref F), x2, x3, x4, some (.ref P), some (.ref R), some (.ref S), y8] ∧ SameX F H H' ∧ H' F = some (.dT kvs') ∧ Dc kvs' (fun o => Pr o ∨ ∃ t ∈ sp.take i, Fm ps b s t o) ∧ kvs'.length ≤ kvs.length + 2 * i) ⟨x8, kvs, rfl, SameX.refl _ _, hF, hc.iff fun o => ⟨.inl, fun h => ?_⟩, by omega⟩ (fun i σ1 H1 _ ⟨_, _, _, sx1, _⟩ => .of (sx1 _ _ hSF hS)) (fun i x σ1 H1 hx ⟨y8, kvs1, hσ, sx1, hF1, hc1, hz1⟩ => ?_) fun σ1 H1 ⟨y8, kvs1, hσ, sx1, hF1, hc1, hz1⟩ => ?_⟩⟩
  · rcases h with h | ⟨t, ht, _⟩
    · exact h
    · simp at ht
  · subst hσ
    have hi : i < sp.length := by have := (List.getElem?_eq_some_iff.mp hx).1; rwa [List.length_map] at this
    obtain rfl : x = natV sp[i] := by
      rw [List.getElem?_map, List.getElem?_eq_getElem hi] at hx
      exact (Option.some.inj hx).symm
    obtain ⟨t1, t2⟩ := hsp _ (List.getElem_mem hi)
    have kz : ((rs ps b s).take sp[i]).length + (pc ps b s).length + ((rs ps b s).drop sp[i]).length ≤ 100 := by rw [List.length_take, List.length_drop, pl, rl]; omega
    have hR1 := sqT_d hR hF sx1
    have hP1 := sqT_d hP hF sx1
    refine ⟨_, rfl, gv_cat3 (gv_to (gv_var rfl hR1) rfl (by omega)) (gv_rev (gv_var rfl hP1)) (gv_from (gv_var rfl hR1) rfl (by omega)) (put_ne t1 (by omega)) (by simpa using pn) (by rw [List.length_reverse]; exact kz) fun p2 H2 m2 hp2 => ?_⟩
    refine ⟨F, _, rfl, DPut.t (k := kk (putP (rs ps b s) (pc ps b s).reverse sp[i])) (m2 _ _ hF1) (by rw [kk_map]; exact hp2) (Nat.lt_of_le_of_lt (show kvs1.length ≤ 6000 by omega) (by decide)), ?_⟩
    have hF2 := m2 _ _ hF1
    have hR2 := sqT_d (m2.tup hR1) hF2 (SameX.put (.dT (putK kvs1 (kk (putP (rs ps b s) (pc ps b s).reverse sp[i])) (.bl true))))
    have hP2 := sqT_d (m2.tup hP1) hF2 (SameX.put (.dT (putK kvs1 (kk (putP (rs ps b s) (pc ps b s).reverse sp[i])) (.bl true))))
    have hc2 := hc1.put (putP (rs ps b s) (pc ps b s).reverse sp[i]) (.bl true)
    have hz2 := length_putK kvs1 (kk (putP (rs ps b s) (pc ps b s).reverse sp[i])) (.bl true)
    have sx2 : SameX F H (upd H2 F (.dT (putK kvs1 (kk (putP (rs ps b s) (pc ps b s).reverse sp[i])) (.bl true)))) := (sx1.trans m2.x).trans (SameX.put _)
    have hF3 : (upd H2 F (.dT (putK kvs1 (kk (putP (rs ps b s) (pc ps b s).reverse sp[i])) (.bl true)))) F = some (.dT (putK kvs1 (kk (putP (rs ps b s) (pc ps b s).reverse sp[i])) (.bl true))) := upd_same
    generalize upd H2 F (.dT (putK kvs1 (kk (putP (rs ps b s) (pc ps b s).reverse sp[i])) (.bl true))) = G at *
    generalize putK kvs1 (kk (putP (rs ps b s) (pc ps b s).reverse sp[i])) (.bl true) = kvs2 at *
    refine ⟨_, rfl, gv_cat3 (gv_to (gv_var rfl hR2) rfl (by omega)) (gv_var rfl hP2) (gv_from (gv_var rfl hR2) rfl (by omega)) (put_ne t1 (by omega)) pn kz fun p4 H4 m4 hp4 => ?_⟩
    refine ⟨F, _, rfl, DPut.t (k := kk (putP (rs ps b s) (pc ps b s) sp[i])) (m4 _ _ hF3) (by rw [kk_map]; exact hp4) (Nat.lt_of_le_of_lt (show kvs2.length ≤ 6000 by omega) (by decide)), ?_⟩
    have hz4 := length_putK kvs2 (kk (putP (rs ps b s) (pc ps b s) sp[i])) (.bl true)
    refine ⟨_, _, rfl, (sx2.trans m4.x).trans (SameX.put _), upd_same, (hc2.put _ _).iff fun o => ?_, by omega⟩
    rw [List.take_add_one, List.getElem?_eq_getElem hi]
    constructor
    · rintro (((h | ⟨t, ht, h⟩) | h) | h)
      · exact .inl h
      · exact .inr ⟨t, List.mem_append_left _ ht, h⟩
      · exact .inr ⟨sp[i], List.mem_append_right _ (by simp), .inl h⟩
      · exact .inr ⟨sp[i], List.mem_append_right _ (by simp), .inr h⟩
    · rintro (h | ⟨t, ht, h⟩)
      · exact .inl (.inl (.inl h))
      · rcases List.mem_append.mp ht with ht | ht
        · exact .inl (.inl (.inr ⟨t, ht, h⟩))
        · obtain rfl : t = sp[i] := by simpa using ht
          rcases h with h | h
          · exact .inl (.inr h)
          · exact .inr h
  · subst hσ
    rw [List.length_map] at hc1 hz1
    exact q y8 kvs1 H1 sx1 hF1 (by rw [List.take_length] at hc1; exact hc1) hz1
end
end K57
namespace K57
open PySem L2
def Ps (ps : List Nat) (i j : Nat) (o : List Nat) : Prop := ∃ b s t, IsSp ps b s t ∧ (s < i + 1 ∨ (s = i + 1 ∧ b < j + 1)) ∧ Fm ps b s t o
theorem Ps.start {ps : List Nat} {o : List Nat} : ¬ Ps ps 0 0 o := by
  rintro ⟨b, s, t, ⟨h1, h2, _⟩, h, _⟩
  omega
theorem Ps.step {ps : List Nat} {i j : Nat} {sp : List Nat} (hs : ∀ t, t ∈ sp ↔ IsSp ps (j + 1) (i + 1) t) (o : List Nat) : (Ps ps i j o ∨ ∃ t ∈ sp, Fm ps (j + 1) (i + 1) t o) ↔ Ps ps i (j + 1) o := by
  constructor
  · rintro (⟨b, s, t, h1, h2, h3⟩ | ⟨t, ht, h⟩)
    · exact ⟨b, s, t, h1, by omega, h3⟩
    · exact ⟨j + 1, i + 1, t, (hs t).mp ht, by omega, h⟩
  · rintro ⟨b, s, t, h1, h2, h3⟩
    by_cases c : s = i + 1 ∧ b = j + 1
    · obtain ⟨rfl, rfl⟩ := c
      exact .inr ⟨t, (hs t).mpr h1, h3⟩
    · exact .inl ⟨b, s, t, h1, by omega, h3⟩
theorem Ps.next {ps : List Nat} {i m : Nat} (hm : m = ps.length - 1 - i) (o : List Nat) : Ps ps i m o ↔ Ps ps (i + 1) 0 o := by
  constructor
  · rintro ⟨b, s, t, h1, h2, h3⟩
    exact ⟨b, s, t, h1, by omega, h3⟩
  · rintro ⟨b, s, t, h1, h2, h3⟩
    have h1' := h1
    obtain ⟨a1, a2, a3, _⟩ := h1'
    exact ⟨b, s, t, h1, by omega, h3⟩
theorem Ps.all {ps : List Nat} {m : Nat} (hm : m = ps.length - 1) (o : List Nat) : Ps ps m 0 o ↔ IsLM ps o := by
  constructor
  · rintro ⟨b, s, t, h1, _, h3⟩
    exact ⟨b, s, t, h1, h3⟩
  · rintro ⟨b, s, t, h1, h3⟩
    have h1' := h1
    obtain ⟨a1, a2, a3, _⟩ := h1'
    exact ⟨b, s, t, h1, by omega, h3⟩
section
variable {K : PySem.W.Frag}
def spEM (K : PySem.W.Frag) : Sp := fun vs H Q _ => ∃ (a : Addr) (ps : List Nat), vs = [.ref a] ∧ H a = some (.tup (ps.map natV)) ∧ 1 ≤ ps.length ∧ ps.length ≤ 8 ∧ ∀ F kvs H', Same H H' → H F = none → H' F = some (.dT kvs) → (∀ kv ∈ kvs, ∃ o, kv.1 = kk o ∧ IsLM ps o) → (∀ o, IsLM ps o → o ≠ ps → ∃ v, (kk o, v) ∈ kvs) → kvs.length ≤ 2000 → Q (.ref F) H'
theorem erase_mem {α : Type} {L : List α} {j : Nat} {x y : α} (hx : L[j]? = some x) (hy : y ∈ L) (hne : y ≠ x) : y ∈ L.eraseIdx j := by
  obtain ⟨k, hk, rfl⟩ := List.getElem_of_mem hy
  rw [List.mem_eraseIdx_iff_getElem]
  refine ⟨k, hk, ?_, rfl⟩
  rintro rfl
  rw [List.getElem?_eq_getElem hk] at hx
  exact hne (Option.some.inj hx)
theorem rngN (n : Nat) : (rngI 1 ((n : Int) + 1)).map V.int = ((List.range n).map (· + 1)).map natV := by
  unfold rngI
  rw [List.map_map, List.map_map, show ((n : Int) + 1 - 1).toNat = n by omega]
  refine List.map_congr_left fun i _ => ?_
  show V.int (1 + (i : Int)) = V.int ((i + 1 : Nat) : Int)
  congr 1
  omega
theorem rd_emoves : ∀ vs H Q E, spEM K vs H Q E → T__law_e_moves K { nx := fun _ H' => Q .non H', rt := Q } (start ["told", "found", "many", "size", "begin", "piece", "rest", "spots", "spot"] vs) H := by
  intro vs H Q E h
  obtain ⟨a, ps, rfl, ha, h1, h8, q⟩ := h
  refine fun F hF => ?_
  have mF := same_new hF (.dT [])
  have hF1 : (upd H F (.dT [])) F = some (.dT []) := upd_same
  generalize upd H F (.dT []) = G at *
  have haG := mF _ _ ha
  have haF : a ≠ F := ne_of haG hF1 (fun z => nomatch z)
  refine ⟨_, rfl, a, _, rfl, .inr (.of haG), ?_⟩
  rw [List.length_map]
  refine ⟨_, rfl, _, _, rfl, ⟨by decide, by decide, by omega, by omega⟩, ?_⟩
  rw [show ((ps.length : Int) - 1).toNat = ps.length - 1 by omega]
  refine for_range (lo := 1) (n := ps.length - 1) (fun i σ' H' => ∃ x3 x4 x5 x6 x7 x8 kvs, σ' = [some (.ref a), some (.ref F), some (.int (ps.length : Int)), x3, x4, x5, x6, x7, x8] ∧ SameX F G H' ∧ H' F = some (.dT kvs) ∧ Dc kvs (Ps ps i 0) ∧ kvs.length ≤ 200 * i) ⟨none, none, none, none, none, none, [], rfl, SameX.refl _ _, hF1, ⟨(fun _ z => nomatch z), fun o ho => absurd ho Ps.start⟩, by simp⟩ (fun i σ1 H1 hi ⟨x3, x4, x5, x6, x7, x8, kvs1, hσ, sx1, f1, c1, z1⟩ => ?_) fun σ1 H1 ⟨x3, x4, x5, x6, x7, x8, kvs1, hσ, sx1, f1, c1, z1⟩ => ?_
  · subst hσ
    refine ⟨_, rfl, _, rfl, _, _, rfl, rfl, _, _, rfl, ⟨by decide, by decide, by omega, by omega⟩, ?_⟩
    rw [show ((ps.length : Int) - (1 + (i : Int)) + 1 - 1).toNat = ps.length - 1 - i by omega]
    refine for_range (lo := 1) (n := ps.length - 1 - i) (fun j σ' H' => ∃ x4 x5 x6 x7 x8 kvs, σ' = [some (.ref a), some (.ref F), some (.int (ps.length : Int)), some (.int (1 + (i : Int))), x4, x5, x6, x7, x8] ∧ SameX F G H' ∧ H' F = some (.dT kvs) ∧ Dc kvs (Ps ps i j) ∧ kvs.length ≤ 200 * i + 20 * j) ⟨x4, x5, x6, x7, x8, kvs1, rfl, sx1, f1, c1, by omega⟩ (fun j σ2 H2 hj ⟨x4, x5, x6, x7, x8, kvs2, hσ, sx2, f2, c2, z2⟩ => ?_) fun σ2 H2 ⟨x4, x5, x6, x7, x8, kvs2, hσ, sx2, f2, c2, z2⟩ => ?_
    · subst hσ
      have hl : (j + 1) + (i + 1) ≤ ps.length := by omega
      have ha2 := sx2 _ _ haF haG
      have e34 : (1 : Int) + (j : Int) + (1 + (i : Int)) = (((j + 1) + (i + 1) : Nat) : Int) := by omega
      have e4 : (1 : Int) + (j : Int) = ((j + 1 : Nat) : Int) := by omega
      have rl := rs_len hl
      refine gv_cutE (k := j + 1) (m := (j + 1) + (i + 1)) (gv_var rfl (.of ha2)) (fun H' R r => ⟨_, rfl, by rw [e4]; exact r⟩) (fun H' R r => ⟨_, rfl, _, rfl, by show R (.int (1 + (j : Int) + (1 + (i : Int)))) H'; rw [e34]; exact r⟩) (by omega) hl H2 (Same.refl _) _ fun P H3 m3 hP3 => ?_
      rw [show (j + 1) + (i + 1) - (j + 1) = i + 1 by omega] at hP3
      have hP3 : SqT K H3 P ((pc ps (j + 1) (i + 1)).map natV) := hP3
      have ha3 := m3 _ _ ha2
      refine gv_cat (gv_to (k := j + 1) (gv_var rfl (.of ha3)) (by rw [← e4]; rfl) (by omega)) (gv_fromE (k := (j + 1) + (i + 1)) (gv_var rfl (.of ha3)) (fun H' R r => ⟨_, rfl, _, rfl, by show R (.int (1 + (j : Int) + (1 + (i : Int)))) H'; rw [e34]; exact r⟩) hl) (by rw [List.length_take, List.length_drop]; omega) H3 (Same.refl _) _ fun R H4 m4 hR4 => ?_
      have hR4 : SqT K H4 R ((rs ps (j + 1) (i + 1)).map natV) := hR4
      refine ⟨_, rfl, show 1 ≤ sizeLine by decide, fun S hS => ?_⟩
      have mS := same_new hS (.lst [.int (1 + (j : Int))])
      have hS5 : (upd H4 S (.lst [.int (1 + (j : Int))])) S = some (.lst ([j + 1].map natV)) := by rw [upd_same, e4]; rfl
      have f4 := mS _ _ (m4 _ _ (m3 _ _ f2))
      have hR5 := mS.tup hR4
      have hP5 := mS.tup (m4.tup hP3)
      have sx5 := ((sx2.trans m3.x).trans m4.x).trans mS.x
      generalize upd H4 S (.lst [.int (1 + (j : Int))]) = G5 at *
      refine ⟨_, rfl, _, _, rfl, rfl, _, rfl, ?_⟩
      by_cases c : i + 1 < 4
      · refine iteT' (decide_eq_true (by omega)) ?_
        refine ⟨_, rfl, R, _, rfl, .inr hR5, .inr ⟨_, _, rfl, fun pr hpr => ?_⟩⟩
        rw [List.length_map, rl]
        refine .inr ⟨pr, 1, _, rfl, upd_same, ⟨by omega, by omega, by omega, by omega, by omega⟩, fun L hL => ?_⟩
        rw [rngN]
        have mr := same_new hpr (.rng 1 (((ps.length - (i + 1) : Nat) : Int) + 1))
        have mL := same_new hL (.lst (((List.range (ps.length - (i + 1))).map (· + 1)).map natV))
        have m6 := mr.trans mL
        have sp1 : ∀ t, t ∈ (List.range (ps.length - (i + 1))).map (· + 1) ↔ IsSp ps (j + 1) (i + 1) t := fun t => by
          rw [List.mem_map]
          constructor
          · rintro ⟨u, hu, rfl⟩
            have := List.mem_range.mp hu
            exact ⟨by omega, by omega, hl, .inl ⟨c, by omega, by omega⟩⟩
          · rintro ⟨_, _, _, ⟨_, h4, h5⟩ | ⟨h4, _⟩⟩
            · exact ⟨t - 1, List.mem_range.mpr (by omega), by omega⟩
            · omega
        refine rd_spots (b := j + 1) (s := i + 1) (sp := (List.range (ps.length - (i + 1))).map (· + 1)) hl (by omega) (by omega) h8 (m6.tup hP5) (m6.tup hR5) upd_same (m6 _ _ f4) (fun t ht => ?_) (by rw [List.length_map, List.length_range]; omega) c2 (by omega) fun y8 kvs3 H6 sx6 f6 c6 z6 => ?_
        · obtain ⟨u, hu, rfl⟩ := List.mem_map.mp ht
          have := List.mem_range.mp hu
          omega
        · rw [List.length_map, List.length_range] at z6
          exact ⟨_, _, _, _, _, kvs3, rfl, (sx5.trans m6.x).trans sx6, f6, c6.iff (Ps.step sp1), by omega⟩
      · refine iteF' (decide_eq_false (by omega)) ?_
        have sp1 : ∀ t, t ∈ [j + 1] ↔ IsSp ps (j + 1) (i + 1) t := fun t => by
          rw [List.mem_singleton]
          constructor
          · rintro rfl
            exact ⟨by omega, by omega, hl, .inr ⟨by omega, rfl⟩⟩
          · rintro ⟨_, _, _, ⟨h4, _⟩ | ⟨_, h4⟩⟩
            · omega
            · exact h4
        refine rd_spots (b := j + 1) (s := i + 1) (sp := [j + 1]) hl (by omega) (by omega) h8 hP5 hR5 hS5 f4 (fun t ht => ?_) (by simp) c2 (by omega) fun y8 kvs3 H6 sx6 f6 c6 z6 => ?_
        · have := List.mem_singleton.mp ht
          omega
        · rw [List.length_singleton] at z6
          exact ⟨_, _, _, _, _, kvs3, rfl, sx5.trans sx6, f6, c6.iff (Ps.step sp1), by omega⟩
    · subst hσ
      exact ⟨_, x4, x5, x6, x7, x8, kvs2, rfl, sx2, f2, c2.iff (Ps.next rfl), by omega⟩
  · subst hσ
    have ha1 := sx1 _ _ haF haG
    have m1 : Same H H1 := fun c o e => sx1 _ _ (ne_of_none e hF) (mF _ _ e)
    have c1 := c1.iff (Ps.all rfl)
    refine ⟨_, rfl, F, rfl, .inr ⟨_, .of f1⟩, _, rfl, kvs1, a, f1, rfl, ?_⟩
    by_cases c : 2 ≤ ps.length
    · obtain ⟨v, hv⟩ := c1.2 ps (lm_self c)
      obtain ⟨j, hj, ej⟩ := List.getElem_of_mem hv
      have hj' : kvs1[j]? = some (kk ps, v) := by rw [List.getElem?_eq_getElem hj, ej]
      refine .inr ⟨kk ps, j, v, by rw [kk_map]; exact ha1, hj', _, rfl, q F _ _ (fun c o e => ?_) hF upd_same (fun kv hk => c1.1 kv (List.mem_of_mem_eraseIdx hk)) (fun o ho hne => ?_) ?_⟩
      · rw [upd_ne (ne_of_none e hF)]; exact m1 _ _ e
      · obtain ⟨w, hw⟩ := c1.2 o ho
        exact ⟨w, erase_mem hj' hw fun e => hne (kk_inj (Prod.mk.inj e).1)⟩
      · exact Nat.le_trans (List.length_eraseIdx_le ..) (by omega)
    · have e : kvs1 = [] := by
        cases kvs1 with
        | nil => rfl
        | cons kv r =>
          obtain ⟨o, _, b, s, t, ⟨a1, a2, a3, _⟩, _⟩ := c1.1 kv (by simp)
          omega
      subst e
      exact .inl ⟨rfl, _, rfl, q F _ _ m1 hF f1 (fun kv hk => nomatch hk) (fun o ho _ => c1.2 o ho) (by simp)⟩
end
end K57
namespace K57
open PySem L2
def PR (T : List (List Int)) (H : Hp) (L : List V) (os : List (List Nat)) : Prop := L.length = os.length ∧ ∀ (j : Nat) (o : List Nat), os[j]? = some o → ∃ b c, L[j]? = some (.ref b) ∧ H b = some (.tup [.int (sumL T o), .ref c]) ∧ H c = some (.tup (o.map natV))
theorem PR.snoc {T : List (List Int)} {H : Hp} {L : List V} {os : List (List Nat)} (h : PR T H L os) {b c : Addr} {o : List Nat} (hb : H b = some (.tup [.int (sumL T o), .ref c])) (hc : H c = some (.tup (o.map natV))) : PR T H (L ++ [.ref b]) (os ++ [o]) := by
  refine ⟨by rw [List.length_append, List.length_append, h.1]; rfl, fun j x e => ?_⟩
  by_cases hj : j < os.length
  · rw [List.getElem?_append_left hj] at e
    obtain ⟨b', c', e1, e2⟩ := h.2 j x e
    exact ⟨b', c', by rw [List.getElem?_append_left (by rw [h.1]; exact hj)]; exact e1, e2⟩
  · rw [List.getElem?_append_right (by omega)] at e
    have : j - os.length = 0 := by
      rcases hk : j - os.length with _ | k
      · rfl
      · rw [hk] at e; cases e
    rw [this] at e
    cases e
    exact ⟨b, c, by rw [List.getElem?_append_right (by rw [h.1]; omega), h.1, this]; rfl, hb, hc⟩
theorem PR.same {T : List (List Int)} {H H' : Hp} {L : List V} {os : List (List Nat)} (h : PR T H L os) (s : Same H H') : PR T H' L os := ⟨h.1, fun j o e => by
  obtain ⟨b, c, e1, e2, e3⟩ := h.2 j o e
  exact ⟨b, c, e1, s _ _ e2, s _ _ e3⟩⟩
theorem PR.put {T : List (List Int)} {H : Hp} {L ys : List V} {l : Addr} {u : HO} {os : List (List Nat)} (h : PR T H L os) (hl : H l = some (.lst ys)) : PR T (upd H l u) L os := ⟨h.1, fun j o e => by
  obtain ⟨b, c, e1, e2, e3⟩ := h.2 j o e
  exact ⟨b, c, e1, by rw [upd_ne (ne_of e2 hl (fun z => nomatch z))]; exact e2, by rw [upd_ne (ne_of e3 hl (fun z => nomatch z))]; exact e3⟩⟩
def prI (T : List (List Int)) (os : List (List Nat)) : List (List Int) := os.map fun o => sumL T o :: o.map fun p : Nat => (p : Int)
theorem PR.rows {K : PySem.W.Frag} {T : List (List Int)} {H : Hp} {L : List V} {os : List (List Nat)} (h : PR T H L os) : RowsP K H L (prI T os) := by
  refine ⟨by unfold prI; rw [List.length_map]; exact h.1, fun i row e => ?_⟩
  unfold prI at e
  rw [List.getElem?_map] at e
  rcases ho : os[i]? with _ | o
  · rw [ho] at e; cases e
  · rw [ho] at e
    cases e
    obtain ⟨b, c, e1, e2, e3⟩ := h.2 i o ho
    exact ⟨b, c, _, _, rfl, e1, .inl (.inl e2), .inl (.inl (by rw [natI]; exact e3))⟩
theorem lex_le {a b : Int} {r q : List Int} (h : lexL (a :: r) (b :: q) = false) : b ≤ a := by
  rw [lexL] at h
  by_cases e : a = b
  · omega
  · rw [if_neg e] at h
    have := of_decide_eq_false h
    omega
section
variable {K : PySem.W.Frag}
theorem rd_min {T : List (List Int)} {H : Hp} {L : List V} {os : List (List Nat)} {S : Addr} {Q : VK} (hS : H S = some (.lst L)) (h : PR T H L os) (hne : os ≠ []) (q : ∀ (b c : Addr) (o : List Nat), o ∈ os → H b = some (.tup [.int (sumL T o), .ref c]) → H c = some (.tup (o.map natV)) → (∀ x ∈ os, sumL T o ≤ sumL T x) → Q (.ref b) H) : rMinC K [.ref S] H Q := by
  refine .inr ⟨S, L, prI T os, rfl, .inl (.of hS), h.rows, by unfold prI; simpa using hne, fun i b c n r e1 e2 _ _ e5 => ?_⟩
  have e2' := e2
  unfold prI at e2'
  rw [List.getElem?_map] at e2'
  rcases ho : os[i]? with _ | o
  · rw [ho] at e2'; cases e2'
  · rw [ho] at e2'
    have e3 : (sumL T o :: o.map fun p : Nat => (p : Int)) = n :: r := Option.some.inj e2'
    obtain ⟨b', c', g1, g2, g3⟩ := h.2 i o ho
    rw [e1] at g1
    cases g1
    refine q b c' o (List.mem_of_getElem? ho) g2 g3 fun x hx => ?_
    have := e5 (sumL T x :: x.map fun p : Nat => (p : Int)) (List.mem_map.mpr ⟨x, hx, rfl⟩)
    rw [← e3] at this
    exact lex_le this
def spBest (K : PySem.W.Frag) : Sp := fun vs H Q _ => ∃ (v : V) (b : Addr) (T : List (List Int)) (n : Nat) (ps : List Nat), vs = [v, .ref b] ∧ Sh K H (tabD T) v ∧ Quad T n ∧ H b = some (.tup (ps.map natV)) ∧ ps.length = n ∧ 1 ≤ n ∧ n ≤ 8 ∧ (∀ p ∈ ps, p < n) ∧ ∀ (c : Addr) (o : List Nat) H', Same H H' → H' c = some (.tup (o.map natV)) → ((IsLM ps o ∧ sumL T o < sumL T ps) ∨ (o = ps ∧ ∀ x, IsLM ps x → sumL T ps ≤ sumL T x)) → Q (.ref c) H'
theorem keys_os {kvs : List (List Key × V)} {P : List Nat → Prop} (h : ∀ kv ∈ kvs, ∃ o, kv.1 = kk o ∧ P o) : ∃ os : List (List Nat), kvs.map Prod.fst = os.map kk ∧ ∀ o ∈ os, P o := by
  induction kvs with
  | nil => exact ⟨[], rfl, fun _ z => nomatch z⟩
  | cons kv r ih =>
    obtain ⟨os, e, p⟩ := ih fun x hx => h x (List.mem_cons_of_mem _ hx)
    obtain ⟨o, e1, p1⟩ := h kv (by simp)
    refine ⟨o :: os, by rw [List.map_cons, List.map_cons, e, e1], fun x hx => ?_⟩
    rcases List.mem_cons.mp hx with rfl | hx
    · exact p1
    · exact p x hx
theorem rd_best : ∀ vs H Q E, spBest K vs H Q E → T__law_e_best K (spEM K) (spSum K) { nx := fun _ H' => Q .non H', rt := Q } (start ["table", "told", "some"] vs) H := by
  intro vs H Q E h
  obtain ⟨v, b, T, n, ps, rfl, hS, hq, hb, hl, h1, h8, hlt, q⟩ := h
  refine ⟨_, rfl, b, ps, rfl, hb, by omega, by omega, fun F kvs H1 m1 hF hF1 k1 k2 kz => ?_⟩
  obtain ⟨os, eos, pos⟩ := keys_os k1
  have olen : os.length = kvs.length := by rw [← List.length_map (f := kk), ← eos, List.length_map]
  refine ⟨F, kvs, rfl, hF1, fun ob A hA => ?_⟩
  have mG : Same H (upd H1 F (.frz ob (.dT kvs))) := fun c o e => by rw [upd_ne (ne_of_none e hF)]; exact m1 _ _ e
  have hFG : (upd H1 F (.frz ob (.dT kvs))) F = some (.frz ob (.dT kvs)) := upd_same
  generalize upd H1 F (.frz ob (.dT kvs)) = G at *
  have pv : ∀ o ∈ os, o.length = n ∧ ∀ p ∈ o, p < n := fun o ho => by
    have pe := lm_perm (pos o ho)
    exact ⟨by rw [pe.length_eq]; exact hl, fun p hp => hlt p (pe.mem_iff.mp hp)⟩
  refine for_keysT (d := F) (o := ob) (kvs := kvs) (fun i σ' H' => i ≤ kvs.length ∧ (∃ y, σ' = [y, some v]) ∧ Same G H' ∧ ∃ L, H' A = some (.lst L) ∧ PR T H' L (os.take i)) ⟨Nat.zero_le _, ⟨none, rfl⟩, same_new hA _, [], upd_same, rfl, fun j o e => by cases e⟩ (fun i σ1 H2 hi ⟨_, _, m2, _⟩ => m2 _ _ hFG) (fun i k w c σ1 H2 hk hc ⟨_, ⟨y, hσ⟩, m2, L, hL, pr⟩ => ?_) fun σ1 H2 ⟨_, _, m2, L, hL, pr⟩ => ?_
  · subst hσ
    have hi : i < kvs.length := (List.getElem?_eq_some_iff.mp hk).1
    have hio : i < os.length := by omega
    have ek : k = kk os[i] := by
      have e1 : (kvs.map Prod.fst)[i]? = some k := by rw [List.getElem?_map, hk]; rfl
      rw [eos, List.getElem?_map, List.getElem?_eq_getElem hio] at e1
      exact (Option.some.inj e1).symm
    subst ek
    rw [kk_map] at hc
    obtain ⟨p1, p2⟩ := pv os[i] (List.getElem_mem hio)
    refine ⟨_, rfl, _, rfl, v, c, T, n, os[i], rfl, hS.same (mG.trans m2), hq, .of hc, by omega, by omega, p2, fun H3 m3 => ?_⟩
    refine ⟨_, rfl, show 2 ≤ sizeLine by decide, fun t ht => ?_⟩
    have mt := same_new ht (.tup [.int (sumL T os[i]), .ref c])
    have hL4 := mt _ _ (m3 _ _ hL)
    refine ⟨L, hL4, Nat.lt_of_le_of_lt (show L.length ≤ 2000 by rw [pr.1, List.length_take]; omega) (by decide), hi, ⟨_, rfl⟩, ?_, _, upd_same, ?_⟩
    · exact samePut hA ((m2.trans m3).trans mt)
    · rw [List.take_add_one, List.getElem?_eq_getElem hio]
      exact PR.put (PR.snoc ((pr.same m3).same mt) upd_same (mt _ _ (m3 _ _ hc))) hL4
  · have hbG := m2 _ _ (mG _ _ hb)
    have m02 := mG.trans m2
    rw [← olen, List.take_length] at pr
    have hAH : H A = none := mG.free hA
    refine ⟨_, rfl, .inl ⟨rfl, _, .of hL⟩, _, rfl, _, rfl, v, b, T, n, ps, rfl, hS.same m02, hq, .of hbG, by omega, by omega, hlt, fun H3 m3 => ?_⟩
    refine ⟨_, rfl, show 2 ≤ sizeLine by decide, fun t ht => ?_⟩
    have mt := same_new ht (.tup [.int (sumL T ps), .ref b])
    have hL4 := mt _ _ (m3 _ _ hL)
    refine ⟨A, L, _, rfl, rfl, hL4, Nat.lt_of_le_of_lt (show L.length ≤ 2000 by rw [pr.1]; omega) (by decide), ?_⟩
    have pr5 := PR.put (u := .lst (L ++ [.ref t])) (PR.snoc ((pr.same m3).same mt) upd_same (mt _ _ (m3 _ _ hbG))) hL4
    have hA5 : (upd (upd H3 t (.tup [.int (sumL T ps), .ref b])) A (.lst (L ++ [.ref t]))) A = some (.lst (L ++ [.ref t])) := upd_same
    have m5 : Same H (upd (upd H3 t (.tup [.int (sumL T ps), .ref b])) A (.lst (L ++ [.ref t]))) := samePut hAH ((m02.trans m3).trans mt)
    generalize upd (upd H3 t (.tup [.int (sumL T ps), .ref b])) A (.lst (L ++ [.ref t])) = H5 at *
    have hb5 := m5 _ _ hb
    refine ⟨_, rfl, rd_min hA5 pr5 (by simp) fun b1 c1 o1 ho1 hb1 hc1 le1 => ixT (j := 0) (.of hb1) rfl ?_⟩
    refine ⟨_, rfl, _, rfl, v, b, T, n, ps, rfl, hS.same m5, hq, .of hb5, by omega, by omega, hlt, fun H6 m6 => ?_⟩
    refine ⟨_, _, rfl, rfl, _, rfl, ?_⟩
    by_cases c : sumL T o1 < sumL T ps
    · refine iteT' (decide_eq_true c) ?_
      refine ⟨_, rfl, rd_min (m6 _ _ hA5) (pr5.same m6) (by simp) fun b2 c2 o2 ho2 hb2 hc2 le2 => ixT (j := 1) (.of hb2) rfl ?_⟩
      have l2 : sumL T o2 < sumL T ps := by have := le2 o1 ho1; omega
      refine q c2 o2 H6 (m5.trans m6) hc2 (.inl ⟨?_, l2⟩)
      rcases List.mem_append.mp ho2 with h | h
      · exact pos o2 h
      · rw [List.mem_singleton.mp h] at l2; omega
    · refine iteF' (decide_eq_false c) ⟨_, rfl, q b ps H6 (m5.trans m6) (m6 _ _ hb5) (.inr ⟨rfl, fun x hx => ?_⟩)⟩
      by_cases cx : x = ps
      · rw [cx]; exact Int.le_refl _
      · obtain ⟨w, hw⟩ := k2 x hx cx
        have : kk x ∈ os.map kk := by rw [← eos]; exact List.mem_map.mpr ⟨_, hw, rfl⟩
        obtain ⟨x', hx', ex⟩ := List.mem_map.mp this
        rw [kk_inj ex] at hx'
        have := le1 x (List.mem_append_left _ hx')
        omega
end
end K57
namespace K57
open PySem L2
def bodyL (K : PySem.W.Frag) (sp__law_e_best : Sp) (sp__law_e_pen : Sp) (sp__law_e_table : Sp) (sp__law_e_take : Sp) (sp__law_e_tour : Sp) (sp_is_settled : Sp) : TS := (tSeq (tAsg (tOp (rAddA K) (tC (.int 1)) (tCall sp__law_e_take [] E0 (tCons (tVar 1) (tCons (tC (.int 8)) tNil)))) (gName 3)) (tSeq (tAsg (tCall sp__law_e_table [] E0 (tCons (tVar 1) (tCons (tVar 3) (tCons (tOp (rEqD K) (tCall sp__law_e_take [] E0 (tCons (tVar 1) (tCons (tC (.int 2)) tNil))) (tC (.int 0))) tNil)))) (gName 4)) (tSeq (tAsg (tLst (tCons (tCall sp__law_e_tour [] E0 (tCons (tVar 1) (tCons (tVar 3) tNil))) tNil)) (gName 5)) (tSeq (tWhile (tTest (tOp (rNeD K) (tCall sp__law_e_best [] E0 (tCons (tVar 4) (tCons (tOp (rIx2 K) (tVar 5) (tUn yNeg (tC (.int 1)))) tNil))) (tOp (rIx2 K) (tVar 5) (tUn yNeg (tC (.int 1)))))) (tSeq (tDrop (tBM K "list" rAppend (tVar 5) (tCons (tCall sp__law_e_best [] E0 (tCons (tVar 4) (tCons (tOp (rIx2 K) (tVar 5) (tUn yNeg (tC (.int 1)))) tNil))) tNil))) tNext)) (tSeq (tAsg (tCall sp__law_e_table [] E0 (tCons (tVar 1) (tCons (tVar 3) (tCons (tOp (rEqD K) (tCall sp__law_e_take [] E0 (tCons (tVar 1) (tCons (tC (.int 2)) tNil))) (tC (.int 0))) tNil)))) (gName 6)) (tSeq (tFor (iSeq K (tLst (tCons (tOp (rIx2 K) (tVar 5) (tC (.int 0))) (tCons (tOp (rIx2 K) (tVar 5) (tUn yNeg (tC (.int 1)))) (tCons (tOp (rIx2 K) (tVar 5) (tCB rMax2 (tCons (tC (.int 0)) (tCons (tOp ySub (tCB (rLen K) (tCons (tVar 5) tNil)) (tC (.int 2))) tNil)))) tNil))))) (gName 7) (tSeq (tFor (iSeq K (tLst (tCons (tVar 4) (tCons (tVar 6) (tCons (tVar 4) tNil))))) (gName 8) (tSeq (tAsg (tOp (rEqD K) (tCall sp__law_e_best [] E0 (tCons (tVar 8) (tCons (tVar 7) tNil))) (tVar 7)) (gName 9)) (tSeq (tIfS (tTest (tOp (rNeD K) (tCB (rRepr K) (tCons (tCall sp_is_settled [] E0 (tCons (tVar 8) (tCons (tVar 7) tNil))) tNil)) (tCB (rRepr K) (tCons (tVar 9) tNil)))) (tSeq (tRet (tC (.bl false))) tNext) tNext) tNext))) tNext)) tNext))))))
def oneL (K : PySem.W.Frag) (sp__law_e_best : Sp) (sp__law_e_pen : Sp) (sp__law_e_table : Sp) (sp__law_e_take : Sp) (sp__law_e_tour : Sp) (sp_is_settled : Sp) : TS := (tSeq (tAsg (tOp (rEqD K) (tCall sp__law_e_best [] E0 (tCons (tVar 8) (tCons (tVar 7) tNil))) (tVar 7)) (gName 9)) (tSeq (tIfS (tTest (tOp (rNeD K) (tCB (rRepr K) (tCons (tCall sp_is_settled [] E0 (tCons (tVar 8) (tCons (tVar 7) tNil))) tNil)) (tCB (rRepr K) (tCons (tVar 9) tNil)))) (tSeq (tRet (tC (.bl false))) tNext) tNext) tNext))
def whL (K : PySem.W.Frag) (sp__law_e_best : Sp) (sp__law_e_pen : Sp) (sp__law_e_table : Sp) (sp__law_e_take : Sp) (sp__law_e_tour : Sp) (sp_is_settled : Sp) : TS := (tWhile (tTest (tOp (rNeD K) (tCall sp__law_e_best [] E0 (tCons (tVar 4) (tCons (tOp (rIx2 K) (tVar 5) (tUn yNeg (tC (.int 1)))) tNil))) (tOp (rIx2 K) (tVar 5) (tUn yNeg (tC (.int 1)))))) (tSeq (tDrop (tBM K "list" rAppend (tVar 5) (tCons (tCall sp__law_e_best [] E0 (tCons (tVar 4) (tCons (tOp (rIx2 K) (tVar 5) (tUn yNeg (tC (.int 1)))) tNil))) tNil))) tNext))
def nineL (K : PySem.W.Frag) (sp__law_e_best : Sp) (sp__law_e_pen : Sp) (sp__law_e_table : Sp) (sp__law_e_take : Sp) (sp__law_e_tour : Sp) (sp_is_settled : Sp) : TS := (tFor (iSeq K (tLst (tCons (tOp (rIx2 K) (tVar 5) (tC (.int 0))) (tCons (tOp (rIx2 K) (tVar 5) (tUn yNeg (tC (.int 1)))) (tCons (tOp (rIx2 K) (tVar 5) (tCB rMax2 (tCons (tC (.int 0)) (tCons (tOp ySub (tCB (rLen K) (tCons (tVar 5) tNil)) (tC (.int 2))) tNil)))) tNil))))) (gName 7) (tSeq (tFor (iSeq K (tLst (tCons (tVar 4) (tCons (tVar 6) (tCons (tVar 4) tNil))))) (gName 8) (tSeq (tAsg (tOp (rEqD K) (tCall sp__law_e_best [] E0 (tCons (tVar 8) (tCons (tVar 7) tNil))) (tVar 7)) (gName 9)) (tSeq (tIfS (tTest (tOp (rNeD K) (tCB (rRepr K) (tCons (tCall sp_is_settled [] E0 (tCons (tVar 8) (tCons (tVar 7) tNil))) tNil)) (tCB (rRepr K) (tCons (tVar 9) tNil)))) (tSeq (tRet (tC (.bl false))) tNext) tNext) tNext))) tNext))
theorem okR_bl (c : Bool) : okR (.bl c) := by
  refine ⟨?_, ?_, ?_, ?_⟩
  · unfold toP; rfl
  · unfold toP PyData.leavesShort; cases c <;> rfl
  · unfold toP PyData.bulk; cases c <;> decide
  · simp [dep]
section
variable {K : PySem.W.Frag}
def Good (n : Nat) (H : Hp) (x : V) : Prop := ∃ (c : Addr) (o : List Nat), x = .ref c ∧ H c = some (.tup (o.map natV)) ∧ o.Perm (List.range n)
theorem Good.same {n : Nat} {H H' : Hp} {x : V} (h : Good n H x) (s : Same H H') : Good n H' x := by
  obtain ⟨c, o, e1, e2, e3⟩ := h
  exact ⟨c, o, e1, s _ _ e2, e3⟩
theorem perm_lt {n : Nat} {o : List Nat} (h : o.Perm (List.range n)) : o.length = n ∧ ∀ p ∈ o, p < n := ⟨by rw [h.length_eq, List.length_range], fun p hp => List.mem_range.mp (h.mem_iff.mp hp)⟩
theorem rd_one {D : Ends} {x0 x1 x2 x3 x4 x5 x6 x9 : Option V} {x v : V} {n : Nat} {T : List (List Int)} {H : Hp} (hS : Sh K H (tabD T) v) (hq : Quad T n) (h1 : 1 ≤ n) (h8 : n ≤ 8) (hg : Good n H x) (q : ∀ y9 H', Same H H' → D.nx [x0, x1, x2, x3, x4, x5, x6, some x, some v, y9] H') :
    oneL K (spBest K) (spPen K) (spETab K) spTake (spTour K) (spSet K) D [x0, x1, x2, x3, x4, x5, x6, some x, some v, x9] H := by
  obtain ⟨c, o, rfl, hc, pm⟩ := hg
  obtain ⟨ol, olt⟩ := perm_lt pm
  refine ⟨_, rfl, _, rfl, v, c, T, n, o, rfl, hS, hq, hc, ol, h1, h8, olt, fun c1 o1 H1 m1 hc1 alt => ?_⟩
  refine ⟨_, rfl, tupN o1, tupN o, dep_tupN _, sh_tupN (.of hc1), sh_tupN (.of (m1 _ _ hc)), ?_⟩
  rw [eq_tupN]
  refine ⟨_, rfl, _, rfl, v, c, T, n, o, rfl, hS.same m1, hq, .of (m1 _ _ hc), ol, h1, h8, olt, fun b H2 m2 hb => ?_⟩
  refine ⟨.bl b, _, rfl, rfl, okR_bl _, _, rfl, .bl (decide (o1 = o)), _, rfl, rfl, okR_bl _, .str _, .str _, Nat.zero_le _, rfl, rfl, _, rfl, ?_⟩
  have e : b = decide (o1 = o) := by
    rcases alt with ⟨l1, l2⟩ | ⟨rfl, l2⟩
    · have hne : o1 ≠ o := fun e => by rw [e] at l2; omega
      rw [decide_eq_false hne]
      cases b with
      | false => rfl
      | true =>
        have := hb.mp rfl o1 l1
        omega
    · rw [decide_eq_true rfl]
      exact hb.mpr l2
  rw [e]
  refine iteF' ?_ (q _ H2 (m1.trans m2))
  rw [eqD_refl]
  rfl
theorem rd_nine {D : Ends} {x0 x1 x2 x3 x7 x8 x9 : Option V} {v v2 : V} {tl : Addr} {L : List V} {n : Nat} {T T2 : List (List Int)} {H : Hp} (hS : Sh K H (tabD T) v) (hq : Quad T n) (hS2 : Sh K H (tabD T2) v2) (hq2 : Quad T2 n) (h1 : 1 ≤ n) (h8 : n ≤ 8) (hL : H tl = some (.lst L)) (hne : L ≠ []) (hz : L.length ≤ 9000000) (hg : ∀ x ∈ L, Good n H x) (q : ∀ y7 y8 y9 H', Same H H' → D.nx [x0, x1, x2, x3, some v, some (.ref tl), some v2, y7, y8, y9] H') :
    nineL K (spBest K) (spPen K) (spETab K) spTake (spTour K) (spSet K) D [x0, x1, x2, x3, some v, some (.ref tl), some v2, x7, x8, x9] H := by
  have hp : 0 < L.length := List.length_pos_iff.mpr hne
  refine ⟨_, rfl, ixL (j := 0) (.of hL) (List.getElem?_eq_getElem hp) ?_⟩
  refine ⟨_, rfl, 1, rfl, ixL_last (.of hL) (List.getElem?_eq_getElem (by omega)) ?_⟩
  refine ⟨_, rfl, _, rfl, tl, _, rfl, .inl (.of hL), _, _, rfl, rfl, _, _, rfl, ?_⟩
  have em : (if (L.length : Int) - 2 > 0 then (L.length : Int) - 2 else 0) = ((L.length - 2 : Nat) : Int) := by
    split
    · omega
    · omega
  rw [em]
  refine ixL (j := L.length - 2) (.of hL) (List.getElem?_eq_getElem (by omega)) ?_
  have g3 : ∀ x ∈ [L[0], L[L.length - 1], L[L.length - 2]], Good n H x := fun x hx => by
    rcases List.mem_cons.mp hx with rfl | hx
    · exact hg _ (List.getElem_mem _)
    · rcases List.mem_cons.mp hx with rfl | hx
      · exact hg _ (List.getElem_mem _)
      · rw [List.mem_singleton.mp hx]; exact hg _ (List.getElem_mem _)
  refine ⟨show 3 ≤ sizeLine by decide, fun z hz => ⟨z, rfl, .inl ⟨⟨_, .of upd_same⟩, ?_⟩⟩⟩
  have mz := same_new hz (.lst [L[0], L[L.length - 1], L[L.length - 2]])
  have hz1 : (upd H z (.lst [L[0], L[L.length - 1], L[L.length - 2]])) z = some (.lst [L[0], L[L.length - 1], L[L.length - 2]]) := upd_same
  generalize upd H z (.lst [L[0], L[L.length - 1], L[L.length - 2]]) = G at *
  generalize [L[0], L[L.length - 1], L[L.length - 2]] = ts at *
  refine for_list (K := K) (a := z) (xs := ts) (fun i σ' H' => Same G H' ∧ ∃ y7 y8 y9, σ' = [x0, x1, x2, x3, some v, some (.ref tl), some v2, y7, y8, y9]) ⟨Same.refl _, _, _, _, rfl⟩ (fun i σ' H' _ ⟨sm, _⟩ => .of (sm _ _ hz1)) (fun i x σ' H' hx ⟨sm, y7, y8, y9, es⟩ => ?_) fun σ' H' ⟨sm, y7, y8, y9, es⟩ => ?_
  · subst es
    have gx := (g3 x (List.mem_of_getElem? hx)).same (mz.trans sm)
    have hS' := hS.same (mz.trans sm)
    have hS2' := hS2.same (mz.trans sm)
    refine ⟨_, rfl, _, rfl, _, rfl, show 3 ≤ sizeLine by decide, fun w hw => ⟨w, rfl, .inl ⟨⟨_, .of upd_same⟩, ?_⟩⟩⟩
    have mw := same_new hw (.lst [v, v2, v])
    have hw1 : (upd H' w (.lst [v, v2, v])) w = some (.lst [v, v2, v]) := upd_same
    generalize upd H' w (.lst [v, v2, v]) = G2 at *
    refine for_list (K := K) (a := w) (xs := [v, v2, v]) (fun i σ' H' => Same G2 H' ∧ ∃ y8 y9, σ' = [x0, x1, x2, x3, some v, some (.ref tl), some v2, some x, y8, y9]) ⟨Same.refl _, _, _, rfl⟩ (fun i σ' H' _ ⟨sm, _⟩ => .of (sm _ _ hw1)) (fun k y σ2 H2 hy ⟨sm2, y8, y9, es⟩ => ?_) fun σ2 H2 ⟨sm2, y8, y9, es⟩ => ?_
    · subst es
      have m2 := mw.trans sm2
      rcases k with _ | _ | _ | k
      · obtain rfl : v = y := by cases hy; rfl
        exact rd_one (hS'.same m2) hq h1 h8 (gx.same m2) fun z9 H8 s8 => ⟨sm2.trans s8, _, _, rfl⟩
      · obtain rfl : v2 = y := by cases hy; rfl
        exact rd_one (hS2'.same m2) hq2 h1 h8 (gx.same m2) fun z9 H8 s8 => ⟨sm2.trans s8, _, _, rfl⟩
      · obtain rfl : v = y := by cases hy; rfl
        exact rd_one (hS'.same m2) hq h1 h8 (gx.same m2) fun z9 H8 s8 => ⟨sm2.trans s8, _, _, rfl⟩
      · cases hy
    · subst es
      exact ⟨sm.trans (mw.trans sm2), _, _, _, rfl⟩
  · subst es
    exact q _ _ _ H' (mz.trans sm)
theorem rd_wh {D : Ends} {x0 x1 x2 x3 x6 x7 x8 x9 : Option V} {v : V} {tl : Addr} {n : Nat} {T : List (List Int)} {G : Hp} {c0 : Addr} {o0 : List Nat} (hS : Sh K G (tabD T) v) (hq : Quad T n) (bT : Bnd T n) (h1 : 1 ≤ n) (h8 : n ≤ 8) (hL : G tl = some (.lst [.ref c0])) (hc0 : G c0 = some (.tup (o0.map natV))) (pm0 : o0.Perm (List.range n))
    (q : ∀ L H', SameX tl G H' → H' tl = some (.lst L) → L ≠ [] → L.length ≤ 9000000 → (∀ x ∈ L, Good n H' x) → D.nx [x0, x1, x2, x3, some v, some (.ref tl), x6, x7, x8, x9] H') :
    whL K (spBest K) (spPen K) (spETab K) spTake (spTour K) (spSet K) D [x0, x1, x2, x3, some v, some (.ref tl), x6, x7, x8, x9] G := by
  have bd : ∀ o : List Nat, o.Perm (List.range n) → 0 ≤ sumL T o ∧ sumL T o ≤ 8000000 := fun o pm => sumL_bnd (fun i j hi hj => ⟨(bT i j hi hj).1, (bT i j hi hj).2.1⟩) (perm_lt pm).2 (by rw [(perm_lt pm).1]; exact h8)
  have gx : ∀ {H H' : Hp} {L : List V} {x : V}, H tl = some (.lst L) → SameX tl H H' → Good n H x → Good n H' x := fun hl sx ⟨c, o, e1, e2, e3⟩ => ⟨c, o, e1, sx _ _ (ne_of e2 hl (fun z => nomatch z)) e2, e3⟩
  have lastI : ∀ (L : List V) (x : V), (L ++ [x])[(L ++ [x]).length - 1]? = some x := fun L x => by simp
  refine ⟨fun m σ' H' => ∃ L c o, σ' = [x0, x1, x2, x3, some v, some (.ref tl), x6, x7, x8, x9] ∧ SameX tl G H' ∧ H' tl = some (.lst (L ++ [.ref c])) ∧ H' c = some (.tup (o.map natV)) ∧ o.Perm (List.range n) ∧ (∀ x ∈ L, Good n H' x) ∧ sumL T o = (m : Int) ∧ L.length + m ≤ 8000000, ?_, ?_⟩
  · obtain ⟨b0, b1⟩ := bd o0 pm0
    obtain ⟨m, hm⟩ := Int.eq_ofNat_of_zero_le b0
    exact ⟨m, [], c0, o0, rfl, SameX.refl _ _, hL, hc0, pm0, (fun _ z => nomatch z), hm, by simp; omega⟩
  · rintro m σ' H ⟨L, c, o, rfl, sx, hl, hc, pm, hg, hm, hz⟩
    obtain ⟨ol, olt⟩ := perm_lt pm
    have hSH := tab_x hS hL sx
    refine ⟨_, rfl, _, rfl, 1, rfl, ixL_last (.of hl) (lastI _ _) ⟨v, c, T, n, o, rfl, hSH, hq, hc, ol, h1, h8, olt, fun c1 o1 H1 m1 hc1 alt => ?_⟩⟩
    refine ⟨_, rfl, 1, rfl, ixL_last (.of (m1 _ _ hl)) (lastI _ _) ⟨tupN o1, tupN o, dep_tupN _, sh_tupN (.of hc1), sh_tupN (.of (m1 _ _ hc)), _, rfl, ?_⟩⟩
    rw [eq_tupN]
    rcases alt with ⟨l1, l2⟩ | ⟨rfl, l2⟩
    · have hne : o1 ≠ o := fun e => by rw [e] at l2; omega
      refine iteT' (by rw [decide_eq_false hne]; rfl) ?_
      refine ⟨fun σ2 H2 => ∃ m', m' < m ∧ ∃ L c o, σ2 = [x0, x1, x2, x3, some v, some (.ref tl), x6, x7, x8, x9] ∧ SameX tl G H2 ∧ H2 tl = some (.lst (L ++ [.ref c])) ∧ H2 c = some (.tup (o.map natV)) ∧ o.Perm (List.range n) ∧ (∀ x ∈ L, Good n H2 x) ∧ sumL T o = (m' : Int) ∧ L.length + m' ≤ 8000000, fun σ2 H2 h => h, ?_⟩
      have hl1 := m1 _ _ hl
      refine ⟨_, rfl, .inl ⟨rfl, _, .of hl1⟩, _, rfl, _, rfl, 1, rfl, ixL_last (.of hl1) (lastI _ _) ⟨v, c, T, n, o, rfl, hSH.same m1, hq, m1 _ _ hc, ol, h1, h8, olt, fun c2 o2 H2 m2 hc2 alt2 => ?_⟩⟩
      have hl2 := m2 _ _ hl1
      refine ⟨tl, _, .ref c2, rfl, rfl, hl2, Nat.lt_of_le_of_lt (show _ ≤ 8000001 by rw [List.length_append, List.length_singleton]; omega) (by decide), ?_⟩
      rcases alt2 with ⟨k1, k2⟩ | ⟨rfl, k2⟩
      · have pm2 := (lm_perm k1).trans pm
        obtain ⟨b0, b1⟩ := bd o2 pm2
        obtain ⟨m', hm'⟩ := Int.eq_ofNat_of_zero_le b0
        have m12 := m1.trans m2
        refine ⟨m', by omega, L ++ [.ref c], c2, o2, rfl, (sx.trans m12.x).trans (SameX.put _), upd_same, ?_, pm2, fun x hx => ?_, hm', ?_⟩
        · rw [upd_ne (ne_of hc2 hl2 (fun z => nomatch z))]; exact hc2
        · refine gx hl2 (SameX.put _) ?_
          rcases List.mem_append.mp hx with hx | hx
          · exact (hg x hx).same m12
          · rw [List.mem_singleton.mp hx]
            exact ⟨c, o, rfl, m12 _ _ hc, pm⟩
        · rw [List.length_append, List.length_singleton]; omega
      · have := k2 o1 l1
        omega
    · refine iteF' (by rw [decide_eq_true rfl]; rfl) ?_
      refine q (L ++ [.ref c]) H1 (sx.trans m1.x) (m1 _ _ hl) (by simp) (by rw [List.length_append, List.length_singleton]; omega) fun x hx => ?_
      rcases List.mem_append.mp hx with hx | hx
      · exact (hg x hx).same m1
      · rw [List.mem_singleton.mp hx]
        exact ⟨c, o1, rfl, m1 _ _ hc, pm⟩
theorem rd_body {a p l : Addr} {ms : List Int} {H0 : Hp} {x2 x3 x4 x5 x6 x7 x8 x9 : Option V} {k : Nat} {z : Int} {D : Ends} (hP : PenAt H0 p l ms k z) (hk : k ≤ 6000)
    (hN : ∀ x3 x4 x5 x6 x7 x8 x9 k' z' H', PenAt H' p l ms k' z' → k' ≤ k + 500 → D.nx [some (.ref a), some (.ref p), x2, x3, x4, x5, x6, x7, x8, x9] H') :
    bodyL K (spBest K) (spPen K) (spETab K) spTake (spTour K) (spSet K) D [some (.ref a), some (.ref p), x2, x3, x4, x5, x6, x7, x8, x9] H0 := by
  refine ⟨_, rfl, p, l, ms, k, z, 8, rfl, hP, by omega, by decide, by decide, fun r1 k1 z1 H1 hr1 hk1 hP1 sx1 => ?_⟩
  dsimp only [rAddA]
  rw [show 1 + (r1 : Int) = ((1 + r1 : Nat) : Int) by omega]
  generalize hn : 1 + r1 = n
  have n1 : 1 ≤ n := by omega
  have n8 : n ≤ 8 := by omega
  refine ⟨_, rfl, _, rfl, _, rfl, p, l, ms, k1, z1, 2, rfl, hP1, by omega, by decide, by decide, fun r2 k2 z2 H2 hr2 hk2 hP2 sx2 => ⟨.int _, .int 0, Nat.zero_le _, rfl, rfl, p, l, ms, k2, z2, n, _, rfl, hP2, by omega, n1, n8, fun T v k3 z3 H3 qT bT hT hP3 hk3 sx3 => ?_⟩⟩
  refine ⟨_, rfl, _, rfl, p, l, ms, k3, z3, n, rfl, hP3, by omega, n1, n8, fun os b k4 z4 H4 pm h0 hP4 hk4 sx4 hb => ?_⟩
  have hT4 := tab_x hT hP3.1 sx4
  refine ⟨show 1 ≤ sizeLine by decide, fun tl htl => ?_⟩
  have mt := same_new htl (.lst [.ref b])
  have hP5 := hP4.x mt
  have htl5 : (upd H4 tl (.lst [.ref b])) tl = some (.lst [.ref b]) := upd_same
  have hT5 := hT4.same mt
  have hb5 := mt _ _ hb
  obtain ⟨ntp, ntl⟩ := hP4.ne htl
  generalize upd H4 tl (.lst [.ref b]) = G at *
  refine rd_wh hT5 qT bT n1 n8 htl5 hb5 pm fun L H6 sx6 hL6 hne hz hg => ?_
  have hP6 : PenAt H6 p l ms k4 z4 := ⟨sx6 _ _ (Ne.symm ntp) hP5.1, sx6 _ _ (Ne.symm ntl) hP5.2.1, hP5.2.2⟩
  have hT6 := tab_x hT5 htl5 sx6
  refine ⟨_, rfl, _, rfl, _, rfl, p, l, ms, k4, z4, 2, rfl, hP6, by omega, by decide, by decide, fun r7 k7 z7 H7 hr7 hk7 hP7 sx7 => ⟨.int _, .int 0, Nat.zero_le _, rfl, rfl, p, l, ms, k7, z7, n, _, rfl, hP7, by omega, n1, n8, fun T2 v2 k8 z8 H8 qT2 bT2 hT2 hP8 hk8 sx8 => ?_⟩⟩
  have hT8 := tab_x (tab_x hT6 hP6.1 sx7) hP7.1 sx8
  have sx78 := sx7.trans sx8
  have hL8 := sx78 _ _ ntp hL6
  refine rd_nine hT8 qT hT2 qT2 n1 n8 hL8 hne hz (fun x hx => ?_) fun y7 y8 y9 H9 m9 => hN _ _ _ _ _ _ _ k8 z8 H9 (hP8.x m9) (by omega)
  obtain ⟨c, o, e1, e2, e3⟩ := hg x hx
  exact ⟨c, o, e1, sx78 _ _ (ne_of e2 hP6.1 (fun z => nomatch z)) e2, e3⟩
def spLaw (K : PySem.W.Frag) : Sp := fun vs H Q _ => ∃ (a : Addr) (ns : List Int), vs = [.ref a] ∧ SqL K H a (ns.map V.int) ∧ ns.length ≤ 63 ∧ ∀ H', Q (.bl true) H'
theorem rd_law : ∀ vs H Q E, spLaw K vs H Q E → T_law K (spBest K) (spPen K) (spETab K) spTake (spTour K) (spSet K) { nx := fun _ H' => Q .non H', rt := Q } (start ["script", "pen", "turn", "many", "table", "tours", "other", "told", "some", "due"] vs) H := by
  intro vs H Q E h
  obtain ⟨a, ns, rfl, hS, hn, q⟩ := h
  refine ⟨_, rfl, a, ns, rfl, hS, fun p l ms H1 s1 hP => ?_⟩
  refine ⟨4, rfl, by decide, by decide, ?_⟩
  refine for_range (lo := 0) (n := 4) (fun i σ' H' => ∃ x2 x3 x4 x5 x6 x7 x8 x9 k z, σ' = [some (.ref a), some (.ref p), x2, x3, x4, x5, x6, x7, x8, x9] ∧ PenAt H' p l ms k z ∧ k ≤ 500 * i) ⟨_, _, _, _, _, _, _, _, 0, 0, rfl, hP, Nat.zero_le _⟩ (fun i σ' H' hi ⟨x2, x3, x4, x5, x6, x7, x8, x9, k, z, es, hP', hk⟩ => ?_) fun σ' H' _ => q H'
  subst es
  exact rd_body hP' (by omega) fun x3 x4 x5 x6 x7 x8 x9 k' z' H2 hP2 hk2 => ⟨_, _, _, _, _, _, _, _, k', z', rfl, hP2, by omega⟩
end
end K57
namespace K57
open PySem L2
section
variable {K : PySem.W.Frag}
theorem ln_length : ∀ vs H Q E, (spLn K) vs H Q E → vs.length = 2 := fun vs H Q E ⟨_, _, _, _, _, e, _⟩ => by rw [e]; rfl
theorem ln_moves_of_stretch : ∀ vs H Q E, (spStr K) vs H Q E → vs.length = 3 := fun vs H Q E ⟨_, _, _, _, e, _⟩ => by rw [e]; rfl
theorem ln_moves_of : ∀ vs H Q E, (spMoves K) vs H Q E → vs.length = 1 := fun vs H Q E ⟨_, _, e, _⟩ => by rw [e]; rfl
theorem ln_shorter_moves : ∀ vs H Q E, (spShort K) vs H Q E → vs.length = 2 := fun vs H Q E ⟨_, _, _, _, _, e, _⟩ => by rw [e]; rfl
theorem ln_is_settled : ∀ vs H Q E, (spSet K) vs H Q E → vs.length = 2 := fun vs H Q E ⟨_, _, _, _, _, e, _⟩ => by rw [e]; rfl
theorem ln__law_e_pen : ∀ vs H Q E, (spPen K) vs H Q E → vs.length = 1 := fun vs H Q E ⟨_, _, e, _⟩ => by rw [e]; rfl
theorem ln__law_e_fresh : ∀ vs H Q E, spFresh vs H Q E → vs.length = 1 := fun vs H Q E ⟨_, _, _, _, _, e, _⟩ => by rw [e]; rfl
theorem ln__law_e_take : ∀ vs H Q E, spTake vs H Q E → vs.length = 2 := fun vs H Q E ⟨_, _, _, _, _, _, e, _⟩ => by rw [e]; rfl
theorem ln__law_e_table : ∀ vs H Q E, (spETab K) vs H Q E → vs.length = 3 := fun vs H Q E ⟨_, _, _, _, _, _, _, e, _⟩ => by rw [e]; rfl
theorem ln__law_e_tour : ∀ vs H Q E, (spTour K) vs H Q E → vs.length = 2 := fun vs H Q E ⟨_, _, _, _, _, _, e, _⟩ => by rw [e]; rfl
theorem ln__law_e_sum : ∀ vs H Q E, (spSum K) vs H Q E → vs.length = 2 := fun vs H Q E ⟨_, _, _, _, _, e, _⟩ => by rw [e]; rfl
theorem ln__law_e_moves : ∀ vs H Q E, (spEM K) vs H Q E → vs.length = 1 := fun vs H Q E ⟨_, _, e, _⟩ => by rw [e]; rfl
theorem ln__law_e_best : ∀ vs H Q E, (spBest K) vs H Q E → vs.length = 2 := fun vs H Q E ⟨_, _, _, _, _, e, _⟩ => by rw [e]; rfl
theorem ln_law : ∀ vs H Q E, spLaw K vs H Q E → vs.length = 1 := fun vs H Q E ⟨a, ns, e, _⟩ => by rw [e]; rfl
end
theorem all_mk {l : PySem.W.OpenLaw} {w : World} {K : PySem.W.Frag} {h : Heap} {mg : Str → Option Value} {fa : Addr} (X : K.In h) (G : h.Ns mainGlobals mg) (hfa : mg "law" = some (.ref fa))
    {f0 : Addr} {od0 an0 : Option Addr} {sl0 : Array (Option Value)} {oc0 kV0 dc0 pm0 cd0 ct0 : Value} (a0 : PySem.W.nsIn K mainGlobals "length" = some (some (.ref f0))) (l0 : K.lookup f0 = some ⟨oc0, od0, .func (PySem.W.fnOf "length" "length" (defArgs (top 1)) (defBody (top 1)) (defScope (top 1)) .none kV0 dc0 pm0 an0 cd0 ct0), sl0⟩) (c0 : PySem.W.codeIn K cd0 "length" = true) (k0 : PySem.W.keepIn K (.ref f0) = true)
    {f1 : Addr} {od1 an1 : Option Addr} {sl1 : Array (Option Value)} {oc1 kV1 dc1 pm1 cd1 ct1 : Value} (a1 : PySem.W.nsIn K mainGlobals "moves_of" = some (some (.ref f1))) (l1 : K.lookup f1 = some ⟨oc1, od1, .func (PySem.W.fnOf "moves_of" "moves_of" (defArgs (top 4)) (defBody (top 4)) (defScope (top 4)) .none kV1 dc1 pm1 an1 cd1 ct1), sl1⟩) (c1 : PySem.W.codeIn K cd1 "moves_of" = true) (k1 : PySem.W.keepIn K (.ref f1) = true)
    {f2 : Addr} {od2 an2 : Option Addr} {sl2 : Array (Option Value)} {oc2 kV2 dc2 pm2 cd2 ct2 : Value} (a2 : PySem.W.nsIn K mainGlobals "moves_of_stretch" = some (some (.ref f2))) (l2 : K.lookup f2 = some ⟨oc2, od2, .func (PySem.W.fnOf "moves_of_stretch" "moves_of_stretch" (defArgs (top 5)) (defBody (top 5)) (defScope (top 5)) .none kV2 dc2 pm2 an2 cd2 ct2), sl2⟩) (c2 : PySem.W.codeIn K cd2 "moves_of_stretch" = true) (k2 : PySem.W.keepIn K (.ref f2) = true)
    {f3 : Addr} {od3 an3 : Option Addr} {sl3 : Array (Option Value)} {oc3 kV3 dc3 pm3 cd3 ct3 : Value} (a3 : PySem.W.nsIn K mainGlobals "shorter_moves" = some (some (.ref f3))) (l3 : K.lookup f3 = some ⟨oc3, od3, .func (PySem.W.fnOf "shorter_moves" "shorter_moves" (defArgs (top 6)) (defBody (top 6)) (defScope (top 6)) .none kV3 dc3 pm3 an3 cd3 ct3), sl3⟩) (c3 : PySem.W.codeIn K cd3 "shorter_moves" = true) (k3 : PySem.W.keepIn K (.ref f3) = true)
    {f4 : Addr} {od4 an4 : Option Addr} {sl4 : Array (Option Value)} {oc4 kV4 dc4 pm4 cd4 ct4 : Value} (a4 : PySem.W.nsIn K mainGlobals "is_settled" = some (some (.ref f4))) (l4 : K.lookup f4 = some ⟨oc4, od4, .func (PySem.W.fnOf "is_settled" "is_settled" (defArgs (top 7)) (defBody (top 7)) (defScope (top 7)) .none kV4 dc4 pm4 an4 cd4 ct4), sl4⟩) (c4 : PySem.W.codeIn K cd4 "is_settled" = true) (k4 : PySem.W.keepIn K (.ref f4) = true)
    {f5 : Addr} {od5 an5 : Option Addr} {sl5 : Array (Option Value)} {oc5 kV5 dc5 pm5 cd5 ct5 : Value} (a5 : PySem.W.nsIn K mainGlobals "_law_e_pen" = some (some (.ref f5))) (l5 : K.lookup f5 = some ⟨oc5, od5, .func (PySem.W.fnOf "_law_e_pen" "_law_e_pen" (defArgs (top 9)) (defBody (top 9)) (defScope (top 9)) .none kV5 dc5 pm5 an5 cd5 ct5), sl5⟩) (c5 : PySem.W.codeIn K cd5 "_law_e_pen" = true) (k5 : PySem.W.keepIn K (.ref f5) = true)
    {f6 : Addr} {od6 an6 : Option Addr} {sl6 : Array (Option Value)} {oc6 kV6 dc6 pm6 cd6 ct6 : Value} (a6 : PySem.W.nsIn K mainGlobals "_law_e_fresh" = some (some (.ref f6))) (l6 : K.lookup f6 = some ⟨oc6, od6, .func (PySem.W.fnOf "_law_e_fresh" "_law_e_fresh" (defArgs (top 10)) (defBody (top 10)) (defScope (top 10)) .none kV6 dc6 pm6 an6 cd6 ct6), sl6⟩) (c6 : PySem.W.codeIn K cd6 "_law_e_fresh" = true) (k6 : PySem.W.keepIn K (.ref f6) = true)
    {f7 : Addr} {od7 an7 : Option Addr} {sl7 : Array (Option Value)} {oc7 kV7 dc7 pm7 cd7 ct7 : Value} (a7 : PySem.W.nsIn K mainGlobals "_law_e_take" = some (some (.ref f7))) (l7 : K.lookup f7 = some ⟨oc7, od7, .func (PySem.W.fnOf "_law_e_take" "_law_e_take" (defArgs (top 11)) (defBody (top 11)) (defScope (top 11)) .none kV7 dc7 pm7 an7 cd7 ct7), sl7⟩) (c7 : PySem.W.codeIn K cd7 "_law_e_take" = true) (k7 : PySem.W.keepIn K (.ref f7) = true)
    {f8 : Addr} {od8 an8 : Option Addr} {sl8 : Array (Option Value)} {oc8 kV8 dc8 pm8 cd8 ct8 : Value} (a8 : PySem.W.nsIn K mainGlobals "_law_e_table" = some (some (.ref f8))) (l8 : K.lookup f8 = some ⟨oc8, od8, .func (PySem.W.fnOf "_law_e_table" "_law_e_table" (defArgs (top 12)) (defBody (top 12)) (defScope (top 12)) .none kV8 dc8 pm8 an8 cd8 ct8), sl8⟩) (c8 : PySem.W.codeIn K cd8 "_law_e_table" = true) (k8 : PySem.W.keepIn K (.ref f8) = true)
    {f9 : Addr} {od9 an9 : Option Addr} {sl9 : Array (Option Value)} {oc9 kV9 dc9 pm9 cd9 ct9 : Value} (a9 : PySem.W.nsIn K mainGlobals "_law_e_tour" = some (some (.ref f9))) (l9 : K.lookup f9 = some ⟨oc9, od9, .func (PySem.W.fnOf "_law_e_tour" "_law_e_tour" (defArgs (top 13)) (defBody (top 13)) (defScope (top 13)) .none kV9 dc9 pm9 an9 cd9 ct9), sl9⟩) (c9 : PySem.W.codeIn K cd9 "_law_e_tour" = true) (k9 : PySem.W.keepIn K (.ref f9) = true)
    {f10 : Addr} {od10 an10 : Option Addr} {sl10 : Array (Option Value)} {oc10 kV10 dc10 pm10 cd10 ct10 : Value} (a10 : PySem.W.nsIn K mainGlobals "_law_e_sum" = some (some (.ref f10))) (l10 : K.lookup f10 = some ⟨oc10, od10, .func (PySem.W.fnOf "_law_e_sum" "_law_e_sum" (defArgs (top 14)) (defBody (top 14)) (defScope (top 14)) .none kV10 dc10 pm10 an10 cd10 ct10), sl10⟩) (c10 : PySem.W.codeIn K cd10 "_law_e_sum" = true) (k10 : PySem.W.keepIn K (.ref f10) = true)
    {f11 : Addr} {od11 an11 : Option Addr} {sl11 : Array (Option Value)} {oc11 kV11 dc11 pm11 cd11 ct11 : Value} (a11 : PySem.W.nsIn K mainGlobals "_law_e_moves" = some (some (.ref f11))) (l11 : K.lookup f11 = some ⟨oc11, od11, .func (PySem.W.fnOf "_law_e_moves" "_law_e_moves" (defArgs (top 15)) (defBody (top 15)) (defScope (top 15)) .none kV11 dc11 pm11 an11 cd11 ct11), sl11⟩) (c11 : PySem.W.codeIn K cd11 "_law_e_moves" = true) (k11 : PySem.W.keepIn K (.ref f11) = true)
    {f12 : Addr} {od12 an12 : Option Addr} {sl12 : Array (Option Value)} {oc12 kV12 dc12 pm12 cd12 ct12 : Value} (a12 : PySem.W.nsIn K mainGlobals "_law_e_best" = some (some (.ref f12))) (l12 : K.lookup f12 = some ⟨oc12, od12, .func (PySem.W.fnOf "_law_e_best" "_law_e_best" (defArgs (top 16)) (defBody (top 16)) (defScope (top 16)) .none kV12 dc12 pm12 an12 cd12 ct12), sl12⟩) (c12 : PySem.W.codeIn K cd12 "_law_e_best" = true) (k12 : PySem.W.keepIn K (.ref f12) = true)
    {f13 : Addr} {od13 an13 : Option Addr} {sl13 : Array (Option Value)} {oc13 kV13 dc13 pm13 cd13 ct13 : Value} (a13 : PySem.W.nsIn K mainGlobals "law" = some (some (.ref f13))) (l13 : K.lookup f13 = some ⟨oc13, od13, .func (PySem.W.fnOf "law" "law" (defArgs (top 17)) (defBody (top 17)) (defScope (top 17)) .none kV13 dc13 pm13 an13 cd13 ct13), sl13⟩) (c13 : PySem.W.codeIn K cd13 "law" = true) (k13 : PySem.W.keepIn K (.ref f13) = true)
    (z_len : PySem.W.nsIn K mainGlobals "len" = some none)
    (z_all : PySem.W.nsIn K mainGlobals "all" = some none)
    (z_min : PySem.W.nsIn K mainGlobals "min" = some none)
    (z_max : PySem.W.nsIn K mainGlobals "max" = some none)
    (z_sum : PySem.W.nsIn K mainGlobals "sum" = some none)
    (z_isinstance : PySem.W.nsIn K mainGlobals "isinstance" = some none)
    (z_sorted : PySem.W.nsIn K mainGlobals "sorted" = some none)
    (z_tuple : PySem.W.nsIn K mainGlobals "tuple" = some none)
    (z_list : PySem.W.nsIn K mainGlobals "list" = some none)
    (z_range : PySem.W.nsIn K mainGlobals "range" = some none)
    (z_int : PySem.W.nsIn K mainGlobals "int" = some none)
    (z_bool : PySem.W.nsIn K mainGlobals "bool" = some none)
    (z_zip : PySem.W.nsIn K mainGlobals "zip" = some none)
    (z_repr : PySem.W.nsIn K mainGlobals "repr" = some none)
    (z_enumerate : PySem.W.nsIn K mainGlobals "enumerate" = some none)
    (z_reversed : PySem.W.nsIn K mainGlobals "reversed" = some none)
    (z_str : PySem.W.nsIn K mainGlobals "str" = some none)
    (z_set : PySem.W.nsIn K mainGlobals "set" = some none)
    (z_abs : PySem.W.nsIn K mainGlobals "abs" = some none)
    {tk_LONGEST_MOVED : Tok} (g_LONGEST_MOVED : PySem.W.nsIn K mainGlobals "LONGEST_MOVED" = some (some (.int 3 tk_LONGEST_MOVED))) :
    ∃ fd : FuncData, (∀ (s : Shared) (v : Value), BindsTo s fd ⟨[v], []⟩ [("script", v)]) ∧ ∀ base : Heap, K.In base → base.Ns mainGlobals mg → FnOk l.prog w K mg base CX0 5 fa fd ["script"] (spLaw K) := by
  have e := hfa.symm.trans (PySem.W.mg_of X G a13)
  cases e
  have B : Blt4 mg := ⟨⟨⟨⟨PySem.W.mg_none_of X G z_len, PySem.W.mg_none_of X G z_all, PySem.W.mg_none_of X G z_min, PySem.W.mg_none_of X G z_max, PySem.W.mg_none_of X G z_sum, PySem.W.mg_none_of X G z_isinstance, PySem.W.mg_none_of X G z_sorted, PySem.W.mg_none_of X G z_tuple, PySem.W.mg_none_of X G z_list, PySem.W.mg_none_of X G z_range, PySem.W.mg_none_of X G z_int, PySem.W.mg_none_of X G z_bool⟩, PySem.W.mg_none_of X G z_zip, PySem.W.mg_none_of X G z_repr, PySem.W.mg_none_of X G z_enumerate, PySem.W.mg_none_of X G z_reversed, PySem.W.mg_none_of X G z_str⟩, PySem.W.mg_none_of X G z_set⟩, PySem.W.mg_none_of X G z_abs⟩
  have G_LONGEST_MOVED := PySem.W.mg_of X G g_LONGEST_MOVED
  have F0 := fun_mk (st := top 1) l0 c0 k0
  have b0 := F0.binds (ps := ["table", "round_"]) fun _ _ _ _ _ _ us hl => match us, hl with | [_, _], _ => rfl
  have F1 := fun_mk (st := top 4) l1 c1 k1
  have b1 := F1.binds (ps := ["round_"]) fun _ _ _ _ _ _ us hl => match us, hl with | [_], _ => rfl
  have F2 := fun_mk (st := top 5) l2 c2 k2
  have b2 := F2.binds (ps := ["round_", "start", "stop"]) fun _ _ _ _ _ _ us hl => match us, hl with | [_, _, _], _ => rfl
  have F3 := fun_mk (st := top 6) l3 c3 k3
  have b3 := F3.binds (ps := ["table", "round_"]) fun _ _ _ _ _ _ us hl => match us, hl with | [_, _], _ => rfl
  have F4 := fun_mk (st := top 7) l4 c4 k4
  have b4 := F4.binds (ps := ["table", "round_"]) fun _ _ _ _ _ _ us hl => match us, hl with | [_, _], _ => rfl
  have F5 := fun_mk (st := top 9) l5 c5 k5
  have b5 := F5.binds (ps := ["script"]) fun _ _ _ _ _ _ us hl => match us, hl with | [_], _ => rfl
  have F6 := fun_mk (st := top 10) l6 c6 k6
  have b6 := F6.binds (ps := ["pen"]) fun _ _ _ _ _ _ us hl => match us, hl with | [_], _ => rfl
  have F7 := fun_mk (st := top 11) l7 c7 k7
  have b7 := F7.binds (ps := ["pen", "many"]) fun _ _ _ _ _ _ us hl => match us, hl with | [_, _], _ => rfl
  have F8 := fun_mk (st := top 12) l8 c8 k8
  have b8 := F8.binds (ps := ["pen", "many", "even"]) fun _ _ _ _ _ _ us hl => match us, hl with | [_, _, _], _ => rfl
  have F9 := fun_mk (st := top 13) l9 c9 k9
  have b9 := F9.binds (ps := ["pen", "many"]) fun _ _ _ _ _ _ us hl => match us, hl with | [_, _], _ => rfl
  have F10 := fun_mk (st := top 14) l10 c10 k10
  have b10 := F10.binds (ps := ["table", "told"]) fun _ _ _ _ _ _ us hl => match us, hl with | [_, _], _ => rfl
  have F11 := fun_mk (st := top 15) l11 c11 k11
  have b11 := F11.binds (ps := ["told"]) fun _ _ _ _ _ _ us hl => match us, hl with | [_], _ => rfl
  have F12 := fun_mk (st := top 16) l12 c12 k12
  have b12 := F12.binds (ps := ["table", "told"]) fun _ _ _ _ _ _ us hl => match us, hl with | [_, _], _ => rfl
  have F13 := fun_mk (st := top 17) l13 c13 k13
  refine ⟨PySem.W.fnOf "law" "law" (defArgs (top 17)) (defBody (top 17)) (defScope (top 17)) .none kV13 dc13 pm13 an13 cd13 ct13, fun s v => .of_eq rfl, fun base _ _ => ?_⟩
  have D_length : Def l.prog w K mg base "length" 1 ["table", "round_"] (spLn K) := ⟨f0, _, ok_length (P := l.prog) (w := w) (base := base) F0 B   ln_length (rd_ln), PySem.W.mg_of X G a0, k0, b0⟩
  have D_moves_of_stretch : Def l.prog w K mg base "moves_of_stretch" 1 ["round_", "start", "stop"] (spStr K) := ⟨f2, _, ok_moves_of_stretch (P := l.prog) (w := w) (base := base) F2 B G_LONGEST_MOVED  ln_moves_of_stretch (rd_str), PySem.W.mg_of X G a2, k2, b2⟩
  have D__law_e_pen : Def l.prog w K mg base "_law_e_pen" 1 ["script"] (spPen K) := ⟨f5, _, ok__law_e_pen (P := l.prog) (w := w) (base := base) F5 B   ln__law_e_pen (rd_pen), PySem.W.mg_of X G a5, k5, b5⟩
  have D__law_e_fresh : Def l.prog w K mg base "_law_e_fresh" 1 ["pen"] (spFresh) := ⟨f6, _, ok__law_e_fresh (P := l.prog) (w := w) (base := base) F6 B   ln__law_e_fresh (rd_fresh), PySem.W.mg_of X G a6, k6, b6⟩
  have D__law_e_sum : Def l.prog w K mg base "_law_e_sum" 1 ["table", "told"] (spSum K) := ⟨f10, _, ok__law_e_sum (P := l.prog) (w := w) (base := base) F10 B   ln__law_e_sum (rd_sum), PySem.W.mg_of X G a10, k10, b10⟩
  have D__law_e_moves : Def l.prog w K mg base "_law_e_moves" 1 ["told"] (spEM K) := ⟨f11, _, ok__law_e_moves (P := l.prog) (w := w) (base := base) F11 B   ln__law_e_moves (rd_emoves), PySem.W.mg_of X G a11, k11, b11⟩
  have D_moves_of : Def l.prog w K mg base "moves_of" 2 ["round_"] (spMoves K) := ⟨f1, _, ok_moves_of (P := l.prog) (w := w) (base := base) F1 B  D_moves_of_stretch ln_moves_of (rd_moves), PySem.W.mg_of X G a1, k1, b1⟩
  have D__law_e_take : Def l.prog w K mg base "_law_e_take" 2 ["pen", "many"] (spTake) := ⟨f7, _, ok__law_e_take (P := l.prog) (w := w) (base := base) F7 B  D__law_e_fresh ln__law_e_take (rd_take), PySem.W.mg_of X G a7, k7, b7⟩
  have D__law_e_best : Def l.prog w K mg base "_law_e_best" 2 ["table", "told"] (spBest K) := ⟨f12, _, ok__law_e_best (P := l.prog) (w := w) (base := base) F12 B  D__law_e_moves D__law_e_sum ln__law_e_best (rd_best), PySem.W.mg_of X G a12, k12, b12⟩
  have D_shorter_moves : Def l.prog w K mg base "shorter_moves" 3 ["table", "round_"] (spShort K) := ⟨f3, _, ok_shorter_moves (P := l.prog) (w := w) (base := base) F3 B  D_length D_moves_of ln_shorter_moves (rd_short), PySem.W.mg_of X G a3, k3, b3⟩
  have D__law_e_table : Def l.prog w K mg base "_law_e_table" 3 ["pen", "many", "even"] (spETab K) := ⟨f8, _, ok__law_e_table (P := l.prog) (w := w) (base := base) F8 B  D__law_e_take ln__law_e_table (rd_etab), PySem.W.mg_of X G a8, k8, b8⟩
  have D__law_e_tour : Def l.prog w K mg base "_law_e_tour" 3 ["pen", "many"] (spTour K) := ⟨f9, _, ok__law_e_tour (P := l.prog) (w := w) (base := base) F9 B  D__law_e_take ln__law_e_tour (rd_tour), PySem.W.mg_of X G a9, k9, b9⟩
  have D_is_settled : Def l.prog w K mg base "is_settled" 4 ["table", "round_"] (spSet K) := ⟨f4, _, ok_is_settled (P := l.prog) (w := w) (base := base) F4 B  D_shorter_moves ln_is_settled (rd_set), PySem.W.mg_of X G a4, k4, b4⟩
  exact ok_law (P := l.prog) (w := w) (base := base) F13 B  D__law_e_best D__law_e_pen D__law_e_table D__law_e_take D__law_e_tour D_is_settled ln_law (rd_law)
theorem walk {l : PySem.W.OpenLaw} {q : Program} {loose : List Str} {XP : (Str → Option Value) → Heap → Prop} {YP : World → Heap → Prop} {d : DefRec} {K : Params → PySem.W.Frag} (hn : l.most = some 63) (hdf : d.params.defaults = [])
    (hY : ∀ (w : World) (h : Heap), YP w h → (K w.params).In h)
    (F : ∀ (w : World) (mg : Str → Option Value) (fa : Addr) (h : Heap), (K w.params).In h → h.Ns mainGlobals mg → mg d.name = some (.ref fa) →
      ∃ fd : FuncData, (∀ (s : Shared) (u : Value), BindsTo s fd ⟨[u], []⟩ [("script", u)]) ∧ ∀ base : Heap, (K w.params).In base → base.Ns mainGlobals mg → FnOk l.prog w (K w.params) mg base CX0 5 fa fd ["script"] (spLaw (K w.params))) :
    PySem.W.WalkO q loose XP YP l.row.toRowW d [] (fun f vs => PySem.call f vs) :=
  L2.walk_of (n := 63) (k := 5) (x := "script") (CX := fun _ => CX0) (sp := fun w => spLaw (K w.params)) hn (by decide) hdf ⟨rfl, by decide, by decide, rfl⟩ hY F (fun _ _ a ns hl _ hS => ⟨a, ns, rfl, hS, hl, fun _ => rfl⟩) fun _ _ _ _ _ z => z
end K57
open PySem PySem.W PyProof.Rows
set_option maxRecDepth 100000 in
set_option maxHeartbeats 0 in
theorem PySem.Challenge.cw_homeround_k57_settled_or_not_holds : PySem.Challenge.rw_homeround_k57_settled_or_not.Holds := by
  w_on; o_law; k_head; (case hw => w_witness2)
  k_fill
  refine K57.walk (l := PySem.Challenge.rw_homeround_k57_settled_or_not) rfl rfl (fun w h Y => PySem.W.kIn_of Y) ?F
  case F =>
    intro w mg fa h KX G hmg
    refine' K57.all_mk KX G hmg ?a0 ?l0 ?c0 ?k0 ?a1 ?l1 ?c1 ?k1 ?a2 ?l2 ?c2 ?k2 ?a3 ?l3 ?c3 ?k3 ?a4 ?l4 ?c4 ?k4 ?a5 ?l5 ?c5 ?k5 ?a6 ?l6 ?c6 ?k6 ?a7 ?l7 ?c7 ?k7 ?a8 ?l8 ?c8 ?k8 ?a9 ?l9 ?c9 ?k9 ?a10 ?l10 ?c10 ?k10 ?a11 ?l11 ?c11 ?k11 ?a12 ?l12 ?c12 ?k12 ?a13 ?l13 ?c13 ?k13 ?z_len ?z_all ?z_min ?z_max ?z_sum ?z_isinstance ?z_sorted ?z_tuple ?z_list ?z_range ?z_int ?z_bool ?z_zip ?z_repr ?z_enumerate ?z_reversed ?z_str ?z_set ?z_abs ?g_LONGEST_MOVED
    (case a0 => k_is)
    (case l0 => k_is)
    (case c0 => k_is)
    (case k0 => k_is)
    (case a1 => k_is)
    (case l1 => k_is)
    (case c1 => k_is)
    (case k1 => k_is)
    (case a2 => k_is)
    (case l2 => k_is)
    (case c2 => k_is)
    (case k2 => k_is)
    (case a3 => k_is)
    (case l3 => k_is)
    (case c3 => k_is)
    (case k3 => k_is)
    (case a4 => k_is)
    (case l4 => k_is)
    (case c4 => k_is)
    (case k4 => k_is)
    (case a5 => k_is)
    (case l5 => k_is)
    (case c5 => k_is)
    (case k5 => k_is)
    (case a6 => k_is)
    (case l6 => k_is)
    (case c6 => k_is)
    (case k6 => k_is)
    (case a7 => k_is)
    (case l7 => k_is)
    (case c7 => k_is)
    (case k7 => k_is)
    (case a8 => k_is)
    (case l8 => k_is)
    (case c8 => k_is)
    (case k8 => k_is)
    (case a9 => k_is)
    (case l9 => k_is)
    (case c9 => k_is)
    (case k9 => k_is)
    (case a10 => k_is)
    (case l10 => k_is)
    (case c10 => k_is)
    (case k10 => k_is)
    (case a11 => k_is)
    (case l11 => k_is)
    (case c11 => k_is)
    (case k11 => k_is)
    (case a12 => k_is)
    (case l12 => k_is)
    (case c12 => k_is)
    (case k12 => k_is)
    (case a13 => k_is)
    (case l13 => k_is)
    (case c13 => k_is)
    (case k13 => k_is)
    (case z_len => k_is)
    (case z_all => k_is)
    (case z_min => k_is)
    (case z_max => k_is)
    (case z_sum => k_is)
    (case z_isinstance => k_is)
    (case z_sorted => k_is)
    (case z_tuple => k_is)
    (case z_list => k_is)
    (case z_range => k_is)
    (case z_int => k_is)
    (case z_bool => k_is)
    (case z_zip => k_is)
    (case z_repr => k_is)
    (case z_enumerate => k_is)
    (case z_reversed => k_is)
    (case z_str => k_is)
    (case z_set => k_is)
    (case z_abs => k_is)
    (case g_LONGEST_MOVED => k_is)
