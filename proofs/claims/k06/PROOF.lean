import PyProof.Rows.All
import Wide.All
import OpenK.AllK
import Wide.FinOn
import Lean
import PyProof.EqAt
import PyProof.EqKinds
import PyProof.TupleCall
import PyProof.Rows.SetFrom
import PyProof.ExcAttrAll.ValueError
import KE.KDictList
import KE.KRevIter
import KE.KPairComp
import PyProof.EqAt
import KE.KSortTup
import PyProof.DictValues
import PySem.Challenge.RW_homeround_k06_shortest_rounds
set_option Elab.async false
set_option linter.all false
set_option maxRecDepth 100000
set_option maxHeartbeats 4000000
namespace L2
open PySem PySem.Spec PyProof.Rows
abbrev Key := Sum Int Str
def keyIs : Key → Value → Bool
  | .inl k, v => Value.isInt k v
  | .inr x, v => Value.isStrOf x v
def keyH (w : World) : Key → Int
  | .inl k => hashInt k
  | .inr x => hashStr w x
theorem keyIs_shape : ∀ {k : Key} {v : Value}, keyIs k v = true → (∃ i t, k = Sum.inl i ∧ v = Value.int i t) ∨ (∃ x t, k = Sum.inr x ∧ v = Value.str x t)
  | .inl i, v, h => by
    obtain ⟨t, e⟩ := Value.isInt_shape (k := i) (v := v) h
    exact .inl ⟨i, t, rfl, e⟩
  | .inr x, v, h => by
    obtain ⟨t, e⟩ := Value.isStrOf_shape (x := x) (v := v) h
    exact .inr ⟨x, t, rfl, e⟩
theorem keyIs_int (i : Int) (t : Tok) : keyIs (.inl i) (.int i t) = true := by simp [keyIs, Value.isInt]
theorem keyIs_str (x : Str) (t : Tok) : keyIs (.inr x) (.str x t) = true := by simp [keyIs, Value.isStrOf]
theorem key_ll (a b : Int) : decide ((Sum.inl a : Key) = Sum.inl b) = (a == b) := by
  by_cases e : a = b
  · subst e; simp
  · have h : ¬ (Sum.inl a : Key) = Sum.inl b := fun q => e (Sum.inl.inj q)
    rw [decide_eq_false h]
    exact (beq_eq_false_iff_ne.mpr e).symm
theorem key_rr (a b : Str) : decide ((Sum.inr a : Key) = Sum.inr b) = decide (a = b) := by
  by_cases e : a = b
  · subst e; simp
  · have h : ¬ (Sum.inr a : Key) = Sum.inr b := fun q => e (Sum.inr.inj q)
    rw [decide_eq_false h, decide_eq_false e]
theorem key_lr (a : Int) (b : Str) : decide ((Sum.inl a : Key) = Sum.inr b) = false := decide_eq_false (fun q => nomatch q)
theorem key_rl (a : Str) (b : Int) : decide ((Sum.inr a : Key) = Sum.inl b) = false := decide_eq_false (fun q => nomatch q)
def mixKind (prog : Program) (w : World) : PySem.KeyKind prog w Key where
  is := keyIs
  hash := keyH w
  inj := fun v a b ha hb => by
    rcases keyIs_shape ha with ⟨i, t, rfl, rfl⟩ | ⟨x, t, rfl, rfl⟩
    · rcases keyIs_shape hb with ⟨j, u, rfl, e⟩ | ⟨y, u, rfl, e⟩
      · injection e with e1 _; rw [e1]
      · exact nomatch e
    · rcases keyIs_shape hb with ⟨j, u, rfl, e⟩ | ⟨y, u, rfl, e⟩
      · exact nomatch e
      · injection e with e1 _; rw [e1]
  byValue := fun k v h => by
    rcases keyIs_shape h with ⟨i, t, rfl, rfl⟩ | ⟨x, t, rfl, rfl⟩ <;> rfl
  pyHash := fun hv h => by
    rcases keyIs_shape hv with ⟨i, t, rfl, rfl⟩ | ⟨x, t, rfl, rfl⟩
    · exact wpAny_pyHash_int h
    · exact wpAny_pyHash_str h
  eqBool := fun hu hv h => by
    rcases keyIs_shape hu with ⟨i, t, rfl, rfl⟩ | ⟨x, t, rfl, rfl⟩
    · rcases keyIs_shape hv with ⟨j, u, rfl, rfl⟩ | ⟨y, u, rfl, rfl⟩
      · rw [key_ll] at h; exact wpAny_eqBool_int h
      · rw [key_lr] at h; exact SeqAt.EqAt.int_str i t y u _ _ _ _ h
    · rcases keyIs_shape hv with ⟨j, u, rfl, rfl⟩ | ⟨y, u, rfl, rfl⟩
      · rw [key_rl] at h; exact SeqAt.EqAt.str_int x t j u _ _ _ _ h
      · rw [key_rr] at h; exact wpAny_eqBool_str h
  «strs» := fun k x t v h => by
    rcases keyIs_shape h with ⟨i, u, rfl, e⟩ | ⟨y, u, rfl, e⟩
    · exact nomatch e
    · injection e with e1 _
      subst e1
      cases v <;> rfl
theorem mixKind_int (prog : Program) (w : World) (i : Int) (t : Tok) : (mixKind prog w).is (.inl i) (.int i t) = true := keyIs_int i t
theorem mixKind_str (prog : Program) (w : World) (x : Str) (t : Tok) : (mixKind prog w).is (.inr x) (.str x t) = true := keyIs_str x t
end L2
namespace L2
open PySem PySem.Spec PyProof.Rows
inductive V where
  | non | bl (b : Bool) | int (i : Int) | str (x : Str) | byt (b : Array UInt8) | flt (b : UInt64) | ref (a : Addr) | ty (n : String)
  deriving DecidableEq
def RelV : V → Value → Prop
  | .non, u => u = Value.none
  | .bl b, u => u = Value.bool b
  | .int i, u => ∃ t, u = Value.int i t
  | .str x, u => ∃ t, u = Value.str x t
  | .byt b, u => ∃ t, u = Value.bytes b t
  | .flt b, u => ∃ t, u = Value.float b t
  | .ref a, u => u = Value.ref a
  | .ty n, u => u = Value.type n
abbrev Vals : List V → List Value → Prop := Paired RelV
theorem Vals.length {xs : List V} {us : List Value} (r : Vals xs us) : xs.length = us.length := Paired.length r
theorem Vals.get : ∀ {xs : List V} {us : List Value} {i : Nat} {x : V}, Vals xs us → xs[i]? = some x → ∃ u, us[i]? = some u ∧ RelV x u
  | _, _, _, _, .nil, e => by simp at e
  | _, _, 0, _, .cons r _, e => by simp at e; subst e; exact ⟨_, rfl, r⟩
  | _, _, i + 1, x, .cons _ t, e => by
    obtain ⟨u, h1, h2⟩ := Vals.get (i := i) (x := x) t (by simpa using e)
    exact ⟨u, by simpa using h1, h2⟩
theorem Vals.set {x : V} {u : Value} (r : RelV x u) : ∀ {xs : List V} {us : List Value} (i : Nat), Vals xs us → Vals (xs.set i x) (us.set i u)
  | _, _, _, .nil => .nil
  | _, _, 0, .cons _ t => .cons r t
  | _, _, i + 1, .cons q t => .cons q (Vals.set r i t)
theorem Vals.append : ∀ {xs ys : List V} {us ws : List Value}, Vals xs us → Vals ys ws → Vals (xs ++ ys) (us ++ ws)
  | _, _, _, _, .nil, s => s
  | _, _, _, _, .cons r t, s => .cons r (Vals.append t s)
theorem Vals.take : ∀ {xs : List V} {us : List Value} (n : Nat), Vals xs us → Vals (xs.take n) (us.take n)
  | _, _, 0, _ => .nil
  | _, _, _ + 1, .nil => .nil
  | _, _, n + 1, .cons r t => .cons r (Vals.take n t)
theorem Vals.drop : ∀ {xs : List V} {us : List Value} (n : Nat), Vals xs us → Vals (xs.drop n) (us.drop n)
  | _, _, 0, r => r
  | _, _, _ + 1, .nil => .nil
  | _, _, n + 1, .cons _ t => Vals.drop n t
def RelO : Option V → Option Value → Prop
  | some v, some u => RelV v u
  | none, none => True
  | _, _ => False
def KV {κ : Type} : List (κ × V) → List (κ × Value) → Prop := Paired fun (p : κ × V) (q : κ × Value) => p.1 = q.1 ∧ RelV p.2 q.2
def kV : Key → V
  | .inl i => .int i
  | .inr x => .str x
inductive HO where
  | lst (xs : List V)
  | tup (xs : List V)
  | dK (kvs : List (Key × V)) | dT (kvs : List (List Key × V))
  | set (S : Int → Bool) (n : Nat)
  | ins (C dx : Addr) (fs : List (Str × V))
  | own (x : Addr)
  | xd (fs : List (Str × V))
  | met (f x : Addr)
  | rng (lo hi : Int)
  | frz (o : Obj) (u : HO)
  | tbl (ps : Array Value)
  | ext (φ : Heap → Prop)
abbrev Hp := Addr → Option HO
def upd (H : Hp) (a : Addr) (o : HO) : Hp := fun b => if b = a then some o else H b
theorem upd_same {H : Hp} {a : Addr} {o : HO} : upd H a o a = some o := by unfold upd; rw [if_pos rfl]
theorem upd_ne {H : Hp} {a b : Addr} {o : HO} (h : b ≠ a) : upd H a o b = H b := by unfold upd; rw [if_neg h]
theorem ne_of {H : Hp} {a b : Addr} {o u : HO} (h : H a = some o) (h' : H b = some u) (d : o ≠ u) : a ≠ b := by
  intro e; subst e; rw [h] at h'; exact d (Option.some.inj h')
theorem ne_of_none {H : Hp} {a b : Addr} {o : HO} (h : H a = some o) (h' : H b = none) : a ≠ b := by
  intro e; subst e; rw [h] at h'; cases h'
def TupN (h : Heap) (a : Addr) (items : Array Value) : Prop := ∃ o, h.get? a = some o ∧ o.cls = .type "tuple" ∧ (∃ n, o.data = .seq items n) ∧ o.dict = none
theorem TupN.tup {h : Heap} {a : Addr} {items : Array Value} (p : TupN h a items) : IsTup h a items := let ⟨o, e, c, n, _⟩ := p; ⟨o, e, c, n⟩
theorem TupN.bare {h : Heap} {a : Addr} {items : Array Value} (p : TupN h a items) : ∃ o, h.get? a = some o ∧ o.dict = none := let ⟨o, e, _, _, d⟩ := p; ⟨o, e, d⟩
theorem TupN.new (h : Heap) (items : Array Value) : TupN (h.push { cls := .type "tuple", data := .seq items }) h.objs.size items := ⟨_, Heap.get?_push_size _ rfl, rfl, ⟨_, rfl⟩, rfl⟩
section
variable (P : Program) (w : World)
def ObjOk (H : Hp) (h : Heap) (a : Addr) : HO → Prop
  | .lst xs => xs.length ≤ sizeLine ∧ ∃ (its : List Value) (n : Nat), Vals xs its ∧ h.get? a = some { cls := .type "list", data := .seq its.toArray n }
  | .tup xs => xs.length ≤ sizeLine ∧ ∃ its : List Value, Vals xs its ∧ TupN h a its.toArray
  | .dK kvs => kvs.length ≤ sizeLine ∧ (a == sysModules) = false ∧ ∃ vs, KV kvs vs ∧ h.DictOf (mixKind P w) a vs
  | .dT kvs => kvs.length ≤ sizeLine ∧ (a == sysModules) = false ∧ ∃ xs : List (List Key × Addr × Value),
      Paired (fun (p : List Key × V) (q : List Key × Addr × Value) => p.1 = q.1 ∧ H q.2.1 = some (.tup (p.1.map kV)) ∧ RelV p.2 q.2.2) kvs xs ∧
      ∃ o es ep, h.get? a = some o ∧ o.ExactDict ∧ o.data = .dict es ep ∧ es.toList = xs.map (entryOfKey (tupleKind (mixKind P w))) ∧ (xs.map (·.1)).Nodup
  | .set S n => h.SetOf (intKind P w) a S n
  | .ins C dx fs => H dx = some (.own a) ∧ fs.length ≤ 1000 ∧ dx ≠ a ∧ h.get? a = some (PySem.W.instObj C dx) ∧
      ∃ mA, h.Ns1 dx mA ∧ (∀ f, RelO (fs.lookup f) (mA f)) ∧ PySem.Within mA (fs.map (·.1))
  | .own _ => ∃ o, h.get? a = some o
  | .xd fs => ∃ mA, h.Ns1 a mA ∧ ∀ f, RelO (fs.lookup f) (mA f)
  | .rng lo hi => ∃ t u v, h.get? a = some { cls := .type "range", data := .fields #[.int lo t, .int hi u, .int 1 v] }
  | .frz o u => h.get? a = some o ∧ ObjOk H h a u
  | .tbl ps => h.get? a = some { cls := .none, data := .fields ps }
  | .met f x => h.get? a = some (PySem.W.methodObj (.ref f) (.ref x))
  | .ext φ => φ h ∧ (∃ o, h.get? a = some o) ∧ ∀ h1 h2 : Heap, φ h1 → (∀ o, h1.get? a = some o → h2.get? a = some o) → φ h2
def HOk (H : Hp) (h : Heap) : Prop := ∀ a o, H a = some o → ObjOk P w H h a o
end
section
variable {P : Program} {w : World} {H H' : Hp} {h h' : Heap} {a : Addr} {o : HO}
theorem ObjOk.lt (x : ObjOk P w H h a o) : a < h.objs.size := by
  cases o with
  | lst xs => obtain ⟨_, _, _, _, e⟩ := x; exact Heap.lt_size e
  | tup xs => obtain ⟨_, _, _, p⟩ := x; exact p.tup.lt
  | dK kvs => obtain ⟨_, _, _, _, o, _, _, e, _⟩ := x; exact Heap.lt_size e
  | dT kvs => obtain ⟨_, _, _, _, o, _, _, e, _⟩ := x; exact Heap.lt_size e
  | set S n => obtain ⟨o, _, _, _, e, _⟩ := x; exact Heap.lt_size e
  | ins C dx fs => obtain ⟨_, _, _, e, _⟩ := x; exact Heap.lt_size e
  | own y => obtain ⟨_, e⟩ := x; exact Heap.lt_size e
  | xd fs => obtain ⟨_, ⟨_, _, _, e, _⟩, _⟩ := x; exact Heap.lt_size e
  | rng lo hi => obtain ⟨_, _, _, e⟩ := x; exact Heap.lt_size e
  | frz ob u => obtain ⟨e, _⟩ := x; exact Heap.lt_size e
  | tbl ps => exact Heap.lt_size (show h.get? a = some _ from x)
  | met f y => exact Heap.lt_size (show h.get? a = some _ from x)
  | ext φ => obtain ⟨_, ⟨_, e⟩, _⟩ := x; exact Heap.lt_size e
theorem Paired.mapP {α β : Type} {F G : α → β → Prop} : ∀ {l₁ : List α} {l₂ : List β}, Paired F l₁ l₂ → (∀ a b, F a b → G a b) → Paired G l₁ l₂
  | _, _, .nil, _ => .nil
  | _, _, .cons r t, f => .cons (f _ _ r) (Paired.mapP t f)
theorem ObjOk.stay (x : ObjOk P w H h a o) (k : ∀ b u, (b = a ∨ H b = some (.own a)) → h.get? b = some u → h'.get? b = some u)
    (ho : ∀ b, H b = some (.own a) → H' b = some (.own a)) (ht : ∀ b xs, H b = some (.tup xs) → H' b = some (.tup xs)) : ObjOk P w H' h' a o := by
  induction o with
  | lst xs => obtain ⟨z, its, n, r, e⟩ := x; exact ⟨z, its, n, r, k _ _ (.inl rfl) e⟩
  | tup xs => obtain ⟨z, its, r, ob, e, c⟩ := x; exact ⟨z, its, r, ob, k _ _ (.inl rfl) e, c⟩
  | dK kvs => obtain ⟨z, y, vs, r, ob, es, ep, e, c⟩ := x; exact ⟨z, y, vs, r, ob, es, ep, k _ _ (.inl rfl) e, c⟩
  | dT kvs =>
    obtain ⟨z, y, xs, r, ob, es, ep, e, c⟩ := x
    exact ⟨z, y, xs, Paired.mapP r fun p q z => ⟨z.1, ht _ _ z.2.1, z.2.2⟩, ob, es, ep, k _ _ (.inl rfl) e, c⟩
  | set S n => obtain ⟨ob, es, ep, t, e, c⟩ := x; exact ⟨ob, es, ep, t, k _ _ (.inl rfl) e, c⟩
  | ins C dx fs =>
    obtain ⟨d, z, ne, e, mA, ⟨od, es, ep, e2, c⟩, r⟩ := x
    exact ⟨ho _ d, z, ne, k _ _ (.inl rfl) e, mA, ⟨od, es, ep, k _ _ (.inr d) e2, c⟩, r⟩
  | own y => obtain ⟨ob, e⟩ := x; exact ⟨ob, k _ _ (.inl rfl) e⟩
  | xd fs => obtain ⟨mA, ⟨od, es, ep, e, c⟩, r⟩ := x; exact ⟨mA, ⟨od, es, ep, k _ _ (.inl rfl) e, c⟩, r⟩
  | rng lo hi => obtain ⟨t, u, v, e⟩ := x; exact ⟨t, u, v, k _ _ (.inl rfl) e⟩
  | frz ob u ih => obtain ⟨e, q⟩ := x; exact ⟨k _ _ (.inl rfl) e, ih q⟩
  | tbl ps =>
    have e : h.get? a = some { cls := .none, data := .fields ps } := x
    show h'.get? a = some { cls := .none, data := .fields ps }
    exact k a _ (.inl rfl) e
  | met f y =>
    have e : h.get? a = some (PySem.W.methodObj (.ref f) (.ref y)) := x
    show h'.get? a = some (PySem.W.methodObj (.ref f) (.ref y))
    exact k a _ (.inl rfl) e
  | ext φ => obtain ⟨p, ⟨o, e⟩, st⟩ := x; exact ⟨st _ _ p fun o q => k _ _ (.inl rfl) q, ⟨o, k _ _ (.inl rfl) e⟩, st⟩
theorem HOk.lt (x : HOk P w H h) (e : H a = some o) : a < h.objs.size := (x a o e).lt
theorem HOk.fresh (x : HOk P w H h) (e : h.objs.size ≤ a) : H a = none := by
  cases q : H a with
  | none => rfl
  | some u => exact absurd (Nat.lt_of_lt_of_le (x.lt q) e) (Nat.lt_irrefl _)
theorem HOk.kept (x : HOk P w H h) (k : ∀ b u, h.get? b = some u → h'.get? b = some u) : HOk P w H h' := fun a o e =>
  (x a o e).stay (fun b u _ q => k b u q) (fun _ q => q) fun _ _ q => q
theorem HOk.laid (x : HOk P w H h) (k : ∀ b u, h.get? b = some u → h'.get? b = some u) (hp : h.objs.size ≤ a) (new : ObjOk P w (upd H a o) h' a o) : HOk P w (upd H a o) h' := fun b u e => by
  have hn := x.fresh hp
  by_cases hb : b = a
  · subst hb; rw [upd_same] at e; cases e; exact new
  · rw [upd_ne hb] at e
    exact (x b u e).stay (fun c v _ q => k c v q) (fun c q => by rw [upd_ne (ne_of_none q hn)]; exact q) fun c xs q => by rw [upd_ne (ne_of_none q hn)]; exact q
end
def Rd (H : Hp) (a : Addr) (u : HO) : Prop := H a = some u ∨ ∃ o, H a = some (.frz o u)
theorem Rd.of {H : Hp} {a : Addr} {u : HO} (h : H a = some u) : Rd H a u := .inl h
theorem Rd.ok {P : Program} {w : World} {H : Hp} {h : Heap} {a : Addr} {u : HO} (r : Rd H a u) (x : HOk P w H h) : ObjOk P w H h a u := by
  rcases r with r | ⟨o, r⟩
  · exact x a u r
  · obtain ⟨_, q⟩ := x a _ r
    exact q
def Mut : Option HO → Prop
  | some (.lst _) => True
  | some (.dK _) => True
  | some (.dT _) => True
  | some (.set _ _) => True
  | some (.ins _ _ _) => True
  | some (.ext _) => True
  | _ => False
section
variable {P : Program} {w : World} {H : Hp} {h h' : Heap} {x e : Addr} {o' : HO}
theorem HOk.write (ok : HOk P w H h) (mu : Mut (H x)) (he : e = x ∨ H e = some (.own x)) (k : ∀ b u, b ≠ e → h.get? b = some u → h'.get? b = some u) (heo : ∃ u, h'.get? e = some u)
    (new : ObjOk P w (upd H x o') h' x o') : HOk P w (upd H x o') h' := fun b u q => by
  have nown : ∀ c y, H c = some (.own y) → c ≠ x := fun c y r z => by subst z; rw [r] at mu; exact mu
  have ntup : ∀ c xs, H c = some (.tup xs) → c ≠ x := fun c xs r z => by subst z; rw [r] at mu; exact mu
  by_cases hb : b = x
  · subst hb; rw [upd_same] at q; cases q; exact new
  · rw [upd_ne hb] at q
    by_cases hbe : b = e
    · have q' : H b = some (.own x) := by
        rcases he with z | z
        · exact absurd (hbe.trans z) hb
        · rw [hbe]; exact z
      rw [q] at q'; cases q'
      obtain ⟨v, hv⟩ := heo
      exact ⟨v, by rw [hbe]; exact hv⟩
    · refine (ok b u q).stay (fun c v hc r => k c v ?_ r) (fun c r => by rw [upd_ne (nown c b r)]; exact r) fun c xs r => by rw [upd_ne (ntup c xs r)]; exact r
      rcases hc with rfl | hc
      · exact hbe
      · rintro rfl
        rcases he with z | z
        · exact nown c b hc z
        · rw [hc] at z; cases z; exact hb rfl
end
structure Un (fs ex : List Addr) (H H' : Hp) (h h' : Heap) : Prop where
  keep : ∀ b o, h.get? b = some o → H b = none → b ∉ fs → b ∉ ex → h'.get? b = some o
  slot : ∀ b o, h.get? b = some o → H b = none → b ∈ fs → b ∉ ex → ∃ sl, h'.get? b = some { o with slots := sl }
  free : ∀ b o, h.get? b = some o → H b = none → b ∉ ex → H' b = none
  there : ∀ b o, h.get? b = some o → b ∉ ex → ∃ o', h'.get? b = some o'
  tups : ∀ b xs, H b = some (.tup xs) → H' b = some (.tup xs)
  frzs : ∀ b o u, H b = some (.frz o u) → H' b = some (.frz o u)
  tbls : ∀ b ps, H b = some (.tbl ps) → ∃ more, H' b = some (.tbl (ps ++ more))
section
variable {fs fs' ex ex' : List Addr} {H H1 H2 : Hp} {h h1 h2 h' : Heap} {a x e : Addr} {o : HO}
theorem Un.any (u : Un fs ex H H1 h h1) {b : Addr} {ob : Obj} (q : h.get? b = some ob) (n : H b = none) (hx : b ∉ ex) : ∃ sl, h1.get? b = some { ob with slots := sl } := by
  by_cases hb : b ∈ fs
  · exact u.slot b ob q n hb hx
  · exact ⟨ob.slots, u.keep b ob q n hb hx⟩
theorem Un.trans (a : Un fs ex H H1 h h1) (b : Un fs ex H1 H2 h1 h2) : Un fs ex H H2 h h2 where
  keep := fun c ob q n hc hx => b.keep c ob (a.keep c ob q n hc hx) (a.free c ob q n hx) hc hx
  slot := fun c ob q n hc hx => by
    obtain ⟨sl, e1⟩ := a.slot c ob q n hc hx
    obtain ⟨sl', e2⟩ := b.slot c _ e1 (a.free c ob q n hx) hc hx
    exact ⟨sl', e2⟩
  free := fun c ob q n hx => by
    obtain ⟨o', e1⟩ := a.there c ob q hx
    exact b.free c o' e1 (a.free c ob q n hx) hx
  there := fun c ob q hx => by
    obtain ⟨o', e1⟩ := a.there c ob q hx
    exact b.there c o' e1 hx
  tups := fun c xs q => b.tups c xs (a.tups c xs q)
  frzs := fun c ob xs q => b.frzs c ob xs (a.frzs c ob xs q)
  tbls := fun c ps q => by
    obtain ⟨m1, e1⟩ := a.tbls c ps q
    obtain ⟨m2, e2⟩ := b.tbls c _ e1
    exact ⟨m1 ++ m2, by rw [e2, Array.append_assoc]⟩
theorem Un.kept (k : ∀ b u, h.get? b = some u → h'.get? b = some u) : Un fs ex H H h h' :=
  ⟨fun b ob q _ _ _ => k b ob q, fun b ob q _ _ _ => ⟨ob.slots, k b ob q⟩, fun _ _ _ n _ => n, fun b ob q _ => ⟨ob, k b ob q⟩, fun _ _ q => q, fun _ _ _ q => q, fun _ ps q => ⟨#[], by rw [q]; simp⟩⟩
theorem Un.refl : Un fs ex H H h h := Un.kept fun _ _ q => q
theorem Un.laid (k : ∀ b u, h.get? b = some u → h'.get? b = some u) (hp : h.objs.size ≤ a) (hn : H a = none) : Un fs ex H (upd H a o) h h' where
  keep := fun b u q _ _ _ => k b u q
  slot := fun b u q _ _ _ => ⟨u.slots, k b u q⟩
  free := fun b u q n _ => by rw [upd_ne (Nat.ne_of_lt (Nat.lt_of_lt_of_le (Heap.lt_size q) hp))]; exact n
  there := fun b u q _ => ⟨u, k b u q⟩
  tups := fun b xs q => by rw [upd_ne (ne_of_none q hn)]; exact q
  frzs := fun b u xs q => by rw [upd_ne (ne_of_none q hn)]; exact q
  tbls := fun b ps q => ⟨#[], by rw [upd_ne (ne_of_none q hn), q]; simp⟩
theorem Un.write (mu : Mut (H x)) (he : e = x ∨ H e = some (.own x)) (k : ∀ b u, b ≠ e → h.get? b = some u → h'.get? b = some u) (heo : ∃ u, h'.get? e = some u) : Un fs ex H (upd H x o) h h' := by
  have hx : ∀ b, H b = none → b ≠ x := fun b n z => by subst z; rw [n] at mu; exact mu
  have hb : ∀ b, H b = none → b ≠ e := fun b n z => by
    subst z
    rcases he with r | r
    · exact hx b n r
    · rw [n] at r; cases r
  have hm : ∀ b u, H b = some u → ¬ Mut (some u) → b ≠ x := fun b u q nm z => by subst z; rw [q] at mu; exact nm mu
  refine ⟨fun b u q n _ _ => k b u (hb b n) q, fun b u q n _ _ => ⟨u.slots, k b u (hb b n) q⟩, fun b u q n _ => by rw [upd_ne (hx b n)]; exact n, fun b u q _ => ?_,
    fun b xs q => by rw [upd_ne (hm b _ q fun z => z)]; exact q, fun b u xs q => by rw [upd_ne (hm b _ q fun z => z)]; exact q, fun b ps q => ⟨#[], by rw [upd_ne (hm b _ q fun z => z), q]; simp⟩⟩
  by_cases hbe : b = e
  · subst hbe; exact heo
  · exact ⟨u, k b u hbe q⟩
theorem Un.mono (u : Un fs ex H H1 h h1) (hs : ∀ b ∈ fs, b ∈ fs') (hx : ∀ b ∈ ex, b ∈ ex') : Un fs' ex' H H1 h h1 :=
  ⟨fun b ob q n hb he => u.keep b ob q n (fun z => hb (hs b z)) fun z => he (hx b z), fun _ _ q n _ he => u.any q n fun z => he (hx _ z), fun b ob q n he => u.free b ob q n fun z => he (hx b z), fun b ob q he => u.there b ob q fun z => he (hx b z), u.tups, u.frzs, u.tbls⟩
end
def trk (h : Heap) (H : Hp) : List Addr := (List.range h.objs.size).filter fun a => (H a).isSome
def hidT (h : Heap) (H : Hp) : Heap := PySem.W.hideAll h (trk h H)
theorem hidT_size (h : Heap) (H : Hp) : (hidT h H).objs.size = h.objs.size := PySem.W.hideAll_size _ _
theorem hidT_get {h : Heap} {H : Hp} {b : Addr} {o : Obj} (e : h.get? b = some o) (n : H b = none) : (hidT h H).get? b = some o :=
  PySem.W.hideAll_get _ e fun hm => by
    have q : (H b).isSome = true := (List.mem_filter.mp hm).2
    rw [n] at q; simp at q
theorem of_hidT {h : Heap} {H : Hp} {b : Addr} {o : Obj} (e : (hidT h H).get? b = some o) : h.get? b = some o ∧ H b = none := by
  have e' : h.get? b = some o := PySem.W.of_hideAll (trk h H) e
  refine ⟨e', ?_⟩
  cases q : H b with
  | none => rfl
  | some x =>
    have hm : b ∈ trk h H := List.mem_filter.mpr ⟨List.mem_range.mpr (Heap.lt_size e'), by simp [q]⟩
    have z : (hidT h H).get? b = none := PySem.W.hideAll_none (trk h H) hm
    rw [z] at e; cases e
def allNews (g h : Heap) (L : Addr) : List (Addr × Obj) := (List.range h.objs.size).filterMap fun a => if a = L ∨ (g.get? a).isSome = true then none else (h.get? a).map fun o => (a, o)
def rest (g h : Heap) (L d : Addr) : List (Addr × Obj) := (allNews g h L).filter fun p => decide (p.1 ≠ d)
end L2
namespace L2
open PySem PySem.Spec PyProof.Rows
structure Mod (K : PySem.W.Frag) (mg : Str → Option Value) (base : Heap) : Prop where
  kin : K.In base
  glob : base.Ns mainGlobals mg
  blt : ∃ mb, base.Ns builtinsNs mb ∧ ∀ x : Str, x ≠ "__name__" → mb x = bootBuiltins x
  nolimit : base.NoLimit
structure Cx where
  prog : Program
  w : World
  K : PySem.W.Frag
  mg : Str → Option Value
  base : Heap
  A : Around
  N : List Str
  s₀ : Shared
  H₀ : Hp
  env : Env
  outer : List Env
  stack : List Env
  ex : List Addr
  fn : Str → Bool
  calm : Bool
  pn : List (Addr × Obj)
  xe : Value → Shared → Prop
def frs (l : List Env) : List Addr := l.filterMap (·.frame)
abbrev Cx.fs (X : Cx) : List Addr := frs X.outer
def Vis (sc : Scope) (x : Str) : Prop := sc.names.lookup x = some .local ∨ sc.names.lookup x = some .cell ∨ sc.names.lookup x = some .free
def Loc (sc : Scope) (x : Str) : Prop := sc.names.lookup x = some .local ∨ sc.names.lookup x = some .cell
def Look (env : Env) (h : Heap) (m : Str → Option Value) (x : Str) (u : Value) : Prop :=
  (env.kindOf x = some .local ∧ m x = some u) ∨ ((env.kindOf x = some .cell ∨ env.kindOf x = some .free) ∧ ∃ c, env.cells.lookup x = some c ∧ h.IsCell c (some u))
structure Cx.Ok (X : Cx) : Prop where
  mod : Mod X.K X.mg X.base
  kind : X.env.scope.kind = .function
  glob : X.env.globals = mainGlobals
  blt : X.env.builtins = builtinsNs
  above : X.s₀.heap.objs.size ≤ X.env.locals
  inj : ∀ x y c, X.env.cells.lookup x = some c → X.env.cells.lookup y = some c → x = y
  has : ∀ x, (X.env.kindOf x = some .cell ∨ X.env.kindOf x = some .free) → ∃ c, X.env.cells.lookup x = some c
  cab : ∀ x c, X.fn x = true → X.env.cells.lookup x = some c → X.s₀.heap.objs.size ≤ c
  hd : X.calm = true → X.A.handled = none
  frames : X.A.frames = some X.stack
  stk : X.stack = X.outer ∨ (X.stack = X.env :: X.outer ∧ X.env.frame = some X.env.locals)
  exf : ∀ b ∈ X.ex, b ≠ X.env.locals ∧ ∀ x c, X.env.cells.lookup x = some c → c ≠ b
  bs : ∀ b o, X.base.get? b = some o → X.s₀.heap.get? b = some o ∧ X.H₀ b = none
  bsz : X.base.objs.size ≤ X.s₀.heap.objs.size
  noex : ∀ b o, X.base.get? b = some o → b ∉ X.ex
  exfs : ∀ b ∈ X.ex, b ∉ X.fs
  funs : X.s₀.heap.FunFrames X.base X.outer
  frf : ∀ b ∈ X.fs, X.H₀ b = none
structure Inv (X : Cx) (pins : List (Addr × Obj)) (σ : List (Option V)) (H : Hp) (s : Shared) : Prop where
  ok : X.Ok
  os : s.os = X.s₀.os
  bare : AllBare s.gens
  base : Un X.fs X.ex X.H₀ H X.s₀.heap s.heap
  loc : ∃ m, s.heap.Ns X.env.locals m ∧ ∀ (i : Nat) (x : Str) (v : V), X.N[i]? = some x → σ[i]? = some (some v) → Vis X.env.scope x → ∃ u, RelV v u ∧ Look X.env s.heap m x u
  cell : ∀ x c, X.env.cells.lookup x = some c → ∃ v, s.heap.IsCell c v
  free : H X.env.locals = none
  freeC : ∀ x c, X.env.cells.lookup x = some c → H c = none
  pin : ∀ p ∈ X.pn ++ pins, s.heap.get? p.1 = some p.2 ∧ H p.1 = none ∧ p.1 ≠ X.env.locals ∧ p.1 ∉ X.fs ∧ ∀ v, p.2.data ≠ .cell v
  hok : HOk X.prog X.w H s.heap
  len : σ.length = X.N.length
section
variable {X : Cx} {pins : List (Addr × Obj)} {σ : List (Option V)} {H H' : Hp} {s : Shared} {h' : Heap}
theorem Cx.Ok.nofr (ok : X.Ok) {b : Addr} {o : Obj} (e : X.base.get? b = some o) : b ∉ X.fs := fun hb => by
  have := (ok.funs.mem hb).1
  rw [e] at this; cases this
theorem Inv.bs (I : Inv X pins σ H s) : ∀ b o, X.base.get? b = some o → s.heap.get? b = some o ∧ H b = none := fun b o e =>
  ⟨I.base.keep b o (I.ok.bs b o e).1 (I.ok.bs b o e).2 (I.ok.nofr e) (I.ok.noex b o e), I.base.free b o (I.ok.bs b o e).1 (I.ok.bs b o e).2 (I.ok.noex b o e)⟩
theorem Inv.bk (I : Inv X pins σ H s) : ∀ b o, X.base.get? b = some o → s.heap.get? b = some o := fun b o e => (I.bs b o e).1
theorem Inv.mod (I : Inv X pins σ H s) : Mod X.K X.mg X.base := I.ok.mod
theorem Inv.kIn (I : Inv X pins σ H s) : X.K.In s.heap := I.ok.mod.kin.keeps I.bk
theorem Inv.nolimit (I : Inv X pins σ H s) : s.heap.NoLimit := I.ok.mod.nolimit.keeps I.bk
theorem Inv.lt (I : Inv X pins σ H s) : X.env.locals < s.heap.objs.size := let ⟨_, hn, _⟩ := I.loc; hn.lt
theorem Inv.sz (I : Inv X pins σ H s) : X.s₀.heap.objs.size ≤ s.heap.objs.size := Nat.le_trans I.ok.above (Nat.le_of_lt I.lt)
theorem Inv.nofs (I : Inv X pins σ H s) {a : Addr} (h : s.heap.objs.size ≤ a) : a ∉ X.fs := fun hb => by
  obtain ⟨_, o, ho, _⟩ := I.ok.funs.mem hb
  exact absurd (Nat.lt_of_lt_of_le (Heap.lt_size ho) (Nat.le_trans I.sz h)) (Nat.lt_irrefl _)
theorem Inv.cne (I : Inv X pins σ H s) : ∀ x c, X.env.cells.lookup x = some c → c ≠ X.env.locals := fun x c e z => by
  obtain ⟨v, o, ho, hd⟩ := I.cell x c e
  obtain ⟨m, ⟨o', es, ep, ho', hd', _⟩, _⟩ := I.loc
  rw [z, ho'] at ho; cases ho; rw [hd'] at hd; cases hd
theorem Inv.funs (I : Inv X pins σ H s) : s.heap.FunFrames X.base X.outer := by
  have all : ∀ (l : List Env), (∀ b ∈ frs l, b ∈ X.fs) → X.s₀.heap.FunFrames X.base l → s.heap.FunFrames X.base l := by
    intro l
    induction l with
    | nil => intro _ _; trivial
    | cons env r ih =>
      intro hs hl
      obtain ⟨hk, ⟨L, o, hf, hn, ho, hd⟩, hr⟩ := hl
      have hL : L ∈ X.fs := hs L (by unfold frs; rw [List.filterMap_cons, hf]; exact List.mem_cons_self)
      obtain ⟨sl, e⟩ := I.base.slot L o ho (I.ok.frf L hL) hL fun z => I.ok.exfs L z hL
      exact ⟨hk, ⟨L, _, hf, hn, e, hd⟩, ih (fun b hb => hs b (by unfold frs; rw [List.filterMap_cons, hf]; exact List.mem_cons_of_mem _ hb)) hr⟩
  exact all X.outer (fun _ hb => hb) I.ok.funs
theorem Inv.stack (I : Inv X pins σ H s) : s.heap.FunFrames X.base X.stack := by
  rcases I.ok.stk with e | ⟨e, hf⟩
  · rw [e]; exact I.funs
  · rw [e]
    obtain ⟨m, hn, _⟩ := I.loc
    refine .cons (by rw [I.ok.kind]; decide) hf hn ?_ I.funs
    exact Heap.get?_none_of_le (Nat.le_trans I.ok.bsz I.ok.above)
theorem Inv.stkSub (I : Inv X pins σ H s) : ∀ b ∈ frs X.stack, b ∈ X.env.locals :: X.fs := fun b hb => by
  rcases I.ok.stk with e | ⟨e, hf⟩
  · rw [e] at hb; exact List.mem_cons_of_mem _ hb
  · rw [e] at hb
    unfold frs at hb
    rw [List.filterMap_cons, hf] at hb
    exact hb
theorem Inv.stkFree (I : Inv X pins σ H s) : ∀ b ∈ frs X.stack, H b = none := fun b hb => by
  rcases List.mem_cons.mp (I.stkSub b hb) with e | hb
  · rw [e]; exact I.free
  · obtain ⟨_, o, ho, _⟩ := I.ok.funs.mem hb
    exact I.base.free b o ho (I.ok.frf b hb) fun z => I.ok.exfs b z hb
theorem Inv.step {g' : Array GenState} {t' : Nat} {d' : Drawn} {ch : List Addr} (I : Inv X pins σ H s)
    (hch : ∀ b ∈ ch, (b ∈ X.ex ∨ X.s₀.heap.objs.size ≤ b) ∧ b ≠ X.env.locals ∧ (∀ x c, X.env.cells.lookup x = some c → c ≠ b) ∧ ∀ p ∈ X.pn ++ pins, p.1 ≠ b)
    (keep : ∀ b o, b ≠ X.env.locals → b ∉ X.fs → b ∉ ch → s.heap.get? b = some o → H b = none → h'.get? b = some o)
    (slot : ∀ b o, b ≠ X.env.locals → b ∈ X.fs → b ∉ ch → s.heap.get? b = some o → H b = none → ∃ sl, h'.get? b = some { o with slots := sl }) (free : ∀ b o, b ∉ ch → s.heap.get? b = some o → H b = none → H' b = none)
    (there : ∀ b o, b ∉ ch → s.heap.get? b = some o → ∃ o', h'.get? b = some o')
    (tups : ∀ b xs, H b = some (.tup xs) → H' b = some (.tup xs)) (frzs : ∀ b o u, H b = some (.frz o u) → H' b = some (.frz o u)) (tbls : ∀ b ps, H b = some (.tbl ps) → ∃ more, H' b = some (.tbl (ps ++ more)))
    (ns : ∀ m, s.heap.Ns X.env.locals m → h'.Ns X.env.locals m) (hok : HOk X.prog X.w H' h') (hg : AllBare g') :
    Inv X pins σ H' { s with heap := h', gens := g', drawn := d', toks := t' } := by
  have neL : ∀ b o, X.s₀.heap.get? b = some o → b ≠ X.env.locals := fun b o e => Nat.ne_of_lt (Nat.lt_of_lt_of_le (Heap.lt_size e) I.ok.above)
  have neC : ∀ b o, X.s₀.heap.get? b = some o → b ∉ X.ex → b ∉ ch := fun b o e hx hb => by
    rcases (hch b hb).1 with z | z
    · exact hx z
    · exact absurd (Nat.lt_of_lt_of_le (Heap.lt_size e) z) (Nat.lt_irrefl _)
  have cellK : ∀ x c, X.env.cells.lookup x = some c → ∀ v, s.heap.IsCell c v → h'.IsCell c v := fun x c e v ⟨o, ho, hd⟩ => by
    have nch : c ∉ ch := fun z => (hch c z).2.2.1 x c e rfl
    by_cases hc : c ∈ X.fs
    · obtain ⟨sl, q⟩ := slot c o (I.cne x c e) hc nch ho (I.freeC x c e)
      exact ⟨_, q, hd⟩
    · exact ⟨o, keep c o (I.cne x c e) hc nch ho (I.freeC x c e), hd⟩
  refine ⟨I.ok, I.os, hg, ⟨fun b o e n hb hx => ?_, fun b o e n hb hx => ?_, fun b o e n hx => ?_, fun b o e hx => ?_, fun b xs e => tups b xs (I.base.tups b xs e), fun b o xs e => frzs b o xs (I.base.frzs b o xs e), fun b ps e => ?_⟩, ?_, fun x c e => ?_, ?_, fun x c e => ?_, fun p hp => ?_, hok, I.len⟩
  · exact keep b o (neL b o e) hb (neC b o e hx) (I.base.keep b o e n hb hx) (I.base.free b o e n hx)
  · obtain ⟨sl, e1⟩ := I.base.slot b o e n hb hx
    obtain ⟨sl', e2⟩ := slot b _ (neL b o e) hb (neC b o e hx) e1 (I.base.free b o e n hx)
    exact ⟨sl', e2⟩
  · obtain ⟨o', e1⟩ := I.base.there b o e hx
    exact free b o' (neC b o e hx) e1 (I.base.free b o e n hx)
  · obtain ⟨o', e1⟩ := I.base.there b o e hx
    exact there b o' (neC b o e hx) e1
  · obtain ⟨m1, e1⟩ := I.base.tbls b ps e
    obtain ⟨m2, e2⟩ := tbls b _ e1
    exact ⟨m1 ++ m2, by rw [e2, Array.append_assoc]⟩
  · obtain ⟨m, hn, hl⟩ := I.loc
    refine ⟨m, ns m hn, fun i x v e1 e2 e3 => ?_⟩
    obtain ⟨u, r, l⟩ := hl i x v e1 e2 e3
    refine ⟨u, r, ?_⟩
    rcases l with l | ⟨k, c, e, z⟩
    · exact .inl l
    · exact .inr ⟨k, c, e, cellK x c e _ z⟩
  · obtain ⟨v, z⟩ := I.cell x c e
    exact ⟨v, cellK x c e v z⟩
  · obtain ⟨m, ⟨o, _, _, ho, _⟩, _⟩ := I.loc
    exact free _ o (fun z => (hch _ z).2.1 rfl) ho I.free
  · obtain ⟨v, o, ho, hd⟩ := I.cell x c e
    exact free c o (fun z => (hch c z).2.2.1 x c e rfl) ho (I.freeC x c e)
  · obtain ⟨e, n, ne, nf, d⟩ := I.pin p hp
    have nch : p.1 ∉ ch := fun z => (hch p.1 z).2.2.2 p hp rfl
    exact ⟨keep p.1 p.2 ne nf nch e n, free p.1 p.2 nch e n, ne, nf, d⟩
theorem Inv.un {t' : Nat} (I : Inv X pins σ H s) (u : Un X.fs [] H H' s.heap h') (hok : HOk X.prog X.w H' h') : Inv X pins σ H' { s with heap := h', toks := t' } := by
  obtain ⟨m, ⟨o, es, ep, ho, r⟩, _⟩ := id I.loc
  obtain ⟨sl, hL⟩ := u.any ho I.free (by simp)
  exact I.step (g' := s.gens) (d' := s.drawn) (ch := []) (fun _ z => nomatch z) (fun b o _ hb _ e n => u.keep b o e n hb (by simp)) (fun b o _ hb _ e n => u.slot b o e n hb (by simp)) (fun b o _ e n => u.free b o e n (by simp)) (fun b o _ e => u.there b o e (by simp)) u.tups u.frzs u.tbls (fun m' hm => by
    obtain ⟨o', es', ep', ho', r'⟩ := hm
    rw [ho] at ho'; cases ho'
    exact ⟨_, es', ep', hL, r'⟩) hok I.bare
theorem Inv.call {g' : Array GenState} {t' : Nat} {d' : Drawn} {ch : List Addr} (I : Inv X pins σ H s) (u : Un (frs X.stack) ch H H' s.heap h') (hok : HOk X.prog X.w H' h') (hg : AllBare g')
    (hch : ∀ b ∈ ch, (b ∈ X.ex ∨ X.s₀.heap.objs.size ≤ b) ∧ b ≠ X.env.locals ∧ (∀ x c, X.env.cells.lookup x = some c → c ≠ b) ∧ ∀ p ∈ X.pn ++ pins, p.1 ≠ b) :
    Inv X pins σ H' { s with heap := h', gens := g', drawn := d', toks := t' } := by
  obtain ⟨m, ⟨o, es, ep, ho, r⟩, _⟩ := id I.loc
  obtain ⟨sl, hL⟩ := u.any ho I.free fun z => (hch _ z).2.1 rfl
  exact I.step (ch := ch) hch (fun b o hL hb hc e n => u.keep b o e n (fun z => (List.mem_cons.mp (I.stkSub b z)).elim hL hb) hc) (fun b o _ _ hc e n => u.any e n hc) (fun b o hc e n => u.free b o e n hc) (fun b o hc e => u.there b o e hc) u.tups u.frzs u.tbls (fun m' hm => by
    obtain ⟨o', es', ep', ho', r'⟩ := hm
    rw [ho] at ho'; cases ho'
    exact ⟨_, es', ep', hL, r'⟩) hok hg
theorem Inv.turned {t' : Nat} {it : Addr} (I : Inv X pins σ H s) (k : ∀ b o, b ≠ it → s.heap.get? b = some o → h'.get? b = some o) (hn : H it = none) (hL : it ≠ X.env.locals)
    (h1 : it ∈ X.ex ∨ X.s₀.heap.objs.size ≤ it) (h2 : ∀ x c, X.env.cells.lookup x = some c → c ≠ it) (h3 : ∀ p ∈ X.pn ++ pins, p.1 ≠ it) : Inv X pins σ H { s with heap := h', toks := t' } := by
  have nit : ∀ b u, H b = some u → b ≠ it := fun b u e z => by rw [z, hn] at e; cases e
  refine I.step (g' := s.gens) (d' := s.drawn) (ch := [it]) (fun b hb => ?_) (fun b o _ _ hc e _ => k b o (fun z => hc (by simp [z])) e) (fun b o _ _ hc e _ => ⟨o.slots, k b o (fun z => hc (by simp [z])) e⟩) (fun _ _ _ _ n => n)
    (fun b o hc e => ⟨o, k b o (fun z => hc (by simp [z])) e⟩) (fun _ _ e => e) (fun _ _ _ e => e) (fun b ps e => ⟨#[], by rw [e]; simp⟩) (fun m hm => ?_) (fun b u e => ?_) I.bare
  · have e : b = it := by simpa using hb
    subst e
    exact ⟨h1, hL, h2, h3⟩
  · obtain ⟨o, es, ep, ho, r⟩ := hm
    exact ⟨o, es, ep, k _ o (Ne.symm hL) ho, r⟩
  · refine (I.hok b u e).stay (fun c v hc q => k c v ?_ q) (fun _ q => q) fun _ _ q => q
    rcases hc with z | z
    · rw [z]; exact nit b u e
    · exact nit c _ z
theorem Inv.tok (I : Inv X pins σ H s) (t : Nat) : Inv X pins σ H { s with toks := t } := I.un (h' := s.heap) (t' := t) Un.refl I.hok
theorem Inv.kept {t' : Nat} (I : Inv X pins σ H s) (k : ∀ b u, s.heap.get? b = some u → h'.get? b = some u) : Inv X pins σ H { s with heap := h', toks := t' } := I.un (Un.kept k) (I.hok.kept k)
theorem Inv.laid {a : Addr} {o : HO} {t' : Nat} (I : Inv X pins σ H s) (k : ∀ b u, s.heap.get? b = some u → h'.get? b = some u) (hp : s.heap.objs.size ≤ a) (new : ObjOk X.prog X.w (upd H a o) h' a o) :
    Inv X pins σ (upd H a o) { s with heap := h', toks := t' } := I.un (Un.laid k hp (I.hok.fresh hp)) (I.hok.laid k hp new)
theorem Inv.write {x e : Addr} {o : HO} {t' : Nat} (I : Inv X pins σ H s) (mu : Mut (H x)) (he : e = x ∨ H e = some (.own x)) (k : ∀ b u, b ≠ e → s.heap.get? b = some u → h'.get? b = some u) (heo : ∃ u, h'.get? e = some u)
    (new : ObjOk X.prog X.w (upd H x o) h' x o) : Inv X pins σ (upd H x o) { s with heap := h', toks := t' } := I.un (Un.write mu he k heo) (I.hok.write mu he k heo new)
theorem Inv.pins_of {pins' : List (Addr × Obj)} (I : Inv X pins σ H s) (h : ∀ p ∈ pins', s.heap.get? p.1 = some p.2 ∧ H p.1 = none ∧ p.1 ≠ X.env.locals ∧ p.1 ∉ X.fs ∧ ∀ v, p.2.data ≠ .cell v) : Inv X pins' σ H s :=
  ⟨I.ok, I.os, I.bare, I.base, I.loc, I.cell, I.free, I.freeC, fun p hp => (List.mem_append.mp hp).elim (fun z => I.pin p (List.mem_append_left _ z)) (h p), I.hok, I.len⟩
theorem nodup_ix {N : List Str} (hN : N.Nodup) {i j : Nat} {x : Str} (a : N[i]? = some x) (b : N[j]? = some x) : i = j := by
  obtain ⟨h1, e1⟩ := List.getElem?_eq_some_iff.mp a
  obtain ⟨h2, e2⟩ := List.getElem?_eq_some_iff.mp b
  exact (List.getElem_inj hN).mp (e1.trans e2.symm)
theorem store_ok2 {M : Model} {A : Around} {E : Value → Shared → Prop} {i : Nat} {x : Str} {v : V} {u : Value} {Q : Unit → Shared → Prop} (I : Inv X pins σ H s) (hN : X.N.Nodup) (hi : X.N[i]? = some x) (hx : Loc X.env.scope x) (r : RelV v u)
    (h : ∀ s', Inv X pins (σ.set i (some v)) H s' → (∃ a, Heap.SameBut a s.heap s'.heap ∧ (a = X.env.locals ∨ X.env.cells.lookup x = some a)) → Q () s') (hf : X.fn x = true ∨ X.env.scope.names.lookup x = some .local := by first | exact .inl rfl | exact .inr rfl | assumption) : wpAny M A (storeName X.env x u) Q E s := by
  obtain ⟨m, hn, hl⟩ := id I.loc
  have hcls : (X.env.scope.kind == .class || (X.env.scope.kind == .module && X.env.locals != X.env.globals)) = false := by rw [I.ok.kind]; rfl
  have hiσ : i < σ.length := by rw [I.len]; exact (List.getElem?_eq_some_iff.mp hi).1
  have cne := I.cne
  have tracked : ∀ {a : Addr} {h' : Heap}, (∃ o, s.heap.get? a = some o ∧ H a = none) → Heap.SameBut a s.heap h' → HOk X.prog X.w H h' := fun {a h'} ha hs b ob e => by
    obtain ⟨_, _, hfree⟩ := ha
    refine (I.hok b ob e).stay (fun c w' hc q => (hs.2 c ?_).trans q) (fun _ q => q) fun _ _ q => q
    rintro rfl
    rcases hc with rfl | hc
    · rw [hfree] at e; cases e
    · rw [hfree] at hc; cases hc
  rcases hx with hk | hk
  · refine wpAny_storeName_local hk hn (fun h' hn' hs => ?_) hcls
    obtain ⟨oL, _, _, hoL, _⟩ := id hn
    refine h _ ⟨I.ok, I.os, I.bare, ⟨fun b o e n hb hx => ?_, fun b o e n hb hx => ?_, I.base.free, fun b o e hx => ?_, I.base.tups, I.base.frzs, I.base.tbls⟩, ⟨_, hn', fun j y v' e1 e2 e3 => ?_⟩, fun y c e => ?_, I.free, I.freeC, fun p hp => ?_, tracked ⟨oL, hoL, I.free⟩ hs, by simpa using I.len⟩ ⟨_, hs, .inl rfl⟩
    · exact (hs.2 b (Nat.ne_of_lt (Nat.lt_of_lt_of_le (Heap.lt_size e) I.ok.above))).trans (I.base.keep b o e n hb hx)
    · obtain ⟨sl, e1⟩ := I.base.slot b o e n hb hx
      exact ⟨sl, (hs.2 b (Nat.ne_of_lt (Nat.lt_of_lt_of_le (Heap.lt_size e) I.ok.above))).trans e1⟩
    · obtain ⟨o', e1⟩ := I.base.there b o e hx
      exact ⟨o', (hs.2 b (Nat.ne_of_lt (Nat.lt_of_lt_of_le (Heap.lt_size e) I.ok.above))).trans e1⟩
    · by_cases hj : j = i
      · subst hj
        rw [hi] at e1; cases e1
        rw [List.getElem?_set_self hiσ] at e2
        cases e2
        exact ⟨u, r, .inl ⟨hk, by simp⟩⟩
      · rw [List.getElem?_set_ne (Ne.symm hj)] at e2
        obtain ⟨u', r', q⟩ := hl j y v' e1 e2 e3
        refine ⟨u', r', ?_⟩
        rcases q with ⟨k, e⟩ | ⟨k, c, e, z⟩
        · refine .inl ⟨k, ?_⟩
          have : y ≠ x := fun e => hj (nodup_ix hN e1 (e ▸ hi))
          simp [this, e]
        · exact .inr ⟨k, c, e, z.sameBut hs (cne y c e)⟩
    · obtain ⟨w', z⟩ := I.cell y c e
      exact ⟨w', z.sameBut hs (cne y c e)⟩
    · obtain ⟨e, n, ne, nf, d⟩ := I.pin p hp
      exact ⟨(hs.2 p.1 ne).trans e, n, ne, nf, d⟩
  · have hfn : X.fn x = true := by
      rcases hf with z | z
      · exact z
      · rw [z] at hk; cases hk
    obtain ⟨c, hc⟩ := I.ok.has x (.inl hk)
    obtain ⟨w', z⟩ := I.cell x c hc
    refine wpAny_storeName_cell I.ok.kind hk hc z (fun h' hc' hs => ?_)
    obtain ⟨oc, hoc, hocd⟩ := id z
    refine h { s with heap := h' } ⟨I.ok, I.os, I.bare, ⟨fun b o e n hb hx => ?_, fun b o e n hb hx => ?_, I.base.free, fun b o e hx => ?_, I.base.tups, I.base.frzs, I.base.tbls⟩, ⟨m, hn.sameBut hs (Ne.symm (cne x c hc)), fun j y v' e1 e2 e3 => ?_⟩, fun y c' e => ?_, I.free, I.freeC, fun p hp => ?_, tracked ⟨oc, hoc, I.freeC x c hc⟩ hs, by simpa using I.len⟩ ⟨c, hs, .inr hc⟩
    · exact (hs.2 b (Nat.ne_of_lt (Nat.lt_of_lt_of_le (Heap.lt_size e) (I.ok.cab x c hfn hc)))).trans (I.base.keep b o e n hb hx)
    · obtain ⟨sl, e1⟩ := I.base.slot b o e n hb hx
      exact ⟨sl, (hs.2 b (Nat.ne_of_lt (Nat.lt_of_lt_of_le (Heap.lt_size e) (I.ok.cab x c hfn hc)))).trans e1⟩
    · obtain ⟨o', e1⟩ := I.base.there b o e hx
      exact ⟨o', (hs.2 b (Nat.ne_of_lt (Nat.lt_of_lt_of_le (Heap.lt_size e) (I.ok.cab x c hfn hc)))).trans e1⟩
    · by_cases hj : j = i
      · subst hj
        rw [hi] at e1; cases e1
        rw [List.getElem?_set_self hiσ] at e2
        cases e2
        exact ⟨u, r, .inr ⟨.inl hk, c, hc, hc'⟩⟩
      · rw [List.getElem?_set_ne (Ne.symm hj)] at e2
        obtain ⟨u', r', q⟩ := hl j y v' e1 e2 e3
        refine ⟨u', r', ?_⟩
        rcases q with q | ⟨k, c', e, z'⟩
        · exact .inl q
        · refine .inr ⟨k, c', e, z'.sameBut hs ?_⟩
          rintro rfl
          exact hj (nodup_ix hN e1 (I.ok.inj _ _ _ e hc ▸ hi))
    · by_cases hcc : c' = c
      · subst hcc; exact ⟨_, hc'⟩
      · obtain ⟨w2, z2⟩ := I.cell y c' e
        exact ⟨w2, z2.sameBut hs hcc⟩
    · obtain ⟨e, n, ne, nf, d⟩ := I.pin p hp
      refine ⟨(hs.2 p.1 ?_).trans e, n, ne, nf, d⟩
      intro q
      rw [q, hoc] at e
      have q' : oc = p.2 := Option.some.inj e
      exact d w' (by rw [← q']; exact hocd)
theorem store_ok {M : Model} {A : Around} {E : Value → Shared → Prop} {i : Nat} {x : Str} {v : V} {u : Value} {Q : Unit → Shared → Prop} (I : Inv X pins σ H s) (hN : X.N.Nodup) (hi : X.N[i]? = some x) (hx : Loc X.env.scope x) (r : RelV v u)
    (h : ∀ s', Inv X pins (σ.set i (some v)) H s' → Q () s') (hf : X.fn x = true ∨ X.env.scope.names.lookup x = some .local := by first | exact .inl rfl | exact .inr rfl | assumption) : wpAny M A (storeName X.env x u) Q E s :=
  store_ok2 I hN hi hx r (fun s' I' _ => h s' I') hf
theorem Inv.call' {s' : Shared} {ch : List Addr} (I : Inv X pins σ H s) (ho : s'.os = s.os) (u : Un (frs X.stack) ch H H' s.heap s'.heap) (hok : HOk X.prog X.w H' s'.heap) (hg : AllBare s'.gens)
    (hch : ∀ b ∈ ch, (b ∈ X.ex ∨ X.s₀.heap.objs.size ≤ b) ∧ b ≠ X.env.locals ∧ (∀ x c, X.env.cells.lookup x = some c → c ≠ b) ∧ ∀ p ∈ X.pn ++ pins, p.1 ≠ b) : Inv X pins σ H' s' := by
  obtain ⟨h', g', d', t', o'⟩ := s'
  have e : o' = s.os := ho
  subst e
  exact I.call (g' := g') (t' := t') (d' := d') u hok hg hch
end
abbrev XK := Value → Option Addr → Hp → Prop
abbrev St := List (Option V)
abbrev VK := V → Hp → Prop
abbrev TE := St → Hp → VK → Prop
abbrev TT := St → Hp → (Bool → Hp → Prop) → Prop
abbrev TA := St → Hp → (List V → Hp → Prop) → Prop
structure Ends where
  nx : St → Hp → Prop
  rt : VK
  bk : St → Hp → Prop := fun _ _ => False
  ct : St → Hp → Prop := fun _ _ => False
abbrev TS := Ends → St → Hp → Prop
def EP (X : Cx) (pins : List (Addr × Obj)) (σ : St) (Q : VK) (u : Value) (s' : Shared) : Prop := ∃ v H', Inv X pins σ H' s' ∧ RelV v u ∧ Q v H'
def TP (X : Cx) (pins : List (Addr × Obj)) (σ : St) (Q : Bool → Hp → Prop) (b : Bool) (s' : Shared) : Prop := ∃ H', Inv X pins σ H' s' ∧ Q b H'
def AP (X : Cx) (pins : List (Addr × Obj)) (σ : St) (Q : List V → Hp → Prop) (us : List Value) (s' : Shared) : Prop := ∃ vs H', Inv X pins σ H' s' ∧ Vals vs us ∧ Q vs H'
def SP (X : Cx) (pins : List (Addr × Obj)) (D : Ends) (f : Flow) (s' : Shared) : Prop :=
  match f with
  | .next => ∃ σ' H', Inv X pins σ' H' s' ∧ D.nx σ' H'
  | .brk => ∃ σ' H', Inv X pins σ' H' s' ∧ D.bk σ' H'
  | .cont => ∃ σ' H', Inv X pins σ' H' s' ∧ D.ct σ' H'
  | .ret u => ∃ v σ' H', Inv X pins σ' H' s' ∧ RelV v u ∧ D.rt v H'
def PE (X : Cx) (e : Expr) (t : TE) : Prop :=
  ∀ (pins : List (Addr × Obj)) (s : Shared) (σ : St) (H : Hp) (Q : VK), Inv X pins σ H s → t σ H Q → wpAny (model X.prog X.w) X.A (eval e X.env) (EP X pins σ Q) X.xe s
def PT (X : Cx) (e : Expr) (t : TT) : Prop :=
  ∀ (pins : List (Addr × Obj)) (s : Shared) (σ : St) (H : Hp) (Q : Bool → Hp → Prop), Inv X pins σ H s → t σ H Q → wpAny (model X.prog X.w) X.A (isTrue e X.env (eval e X.env)) (TP X pins σ Q) X.xe s
def PW (X : Cx) (e : Expr) (t : TT) : Prop :=
  ∀ (whole : Sem Value) (pins : List (Addr × Obj)) (s : Shared) (σ : St) (H : Hp) (Q : Bool → Hp → Prop), Inv X pins σ H s → t σ H Q → wpAny (model X.prog X.w) X.A (isTrue e X.env whole) (TP X pins σ Q) X.xe s
theorem PW.pt {X : Cx} {e : Expr} {t : TT} (h : PW X e t) : PT X e t := h _
def PA (X : Cx) (es : List Expr) (t : TA) : Prop :=
  ∀ (pos : Pos) (pins : List (Addr × Obj)) (s : Shared) (σ : St) (H : Hp) (Q : List V → Hp → Prop), Inv X pins σ H s → t σ H Q → wpAny (model X.prog X.w) X.A (spliced (backTo pos (starEach es X.env))) (AP X pins σ Q) X.xe s
def PS (X : Cx) (st : Stmt) (t : TS) : Prop :=
  ∀ (pins : List (Addr × Obj)) (s : Shared) (σ : St) (H : Hp) (D : Ends), Inv X pins σ H s → t D σ H → wpAny (model X.prog X.w) X.A (exec st X.env) (SP X pins D) X.xe s
def PSs (X : Cx) (st : List Stmt) (t : TS) : Prop :=
  ∀ (pins : List (Addr × Obj)) (s : Shared) (σ : St) (H : Hp) (D : Ends), Inv X pins σ H s → t D σ H → wpAny (model X.prog X.w) X.A (execs st X.env) (SP X pins D) X.xe s
theorem thn {α : Type} {t : Sem α} {Q Q' : α → Shared → Prop} {M : Model} {A : Around} {E : Value → Shared → Prop} {s : Shared} (h : wpAny M A t Q E s) (hQ : ∀ a s, Q a s → Q' a s) : wpAny M A t Q' E s := wpAny_mono h hQ fun _ _ x => x
end L2
namespace L2
open PySem PySem.Spec PyProof.Rows
section
variable {X : Cx}
def tVar (i : Nat) : TE := fun σ H Q => ∃ v, σ[i]? = some (some v) ∧ Q v H
def tC (v : V) : TE := fun _ H Q => Q v H
theorem pe_var {i : Nat} {x : Str} {pos : Pos} (hN : X.N[i]? = some x) (hv : Vis X.env.scope x) (hd : (x == ("__debug__" : Str)) = false := by decide) (hcd : (x == ("__classdict__" : Str)) = false := by decide) : PE X (.Name x pos) (tVar i) := by
  intro pins s σ H Q I h
  obtain ⟨v, e, h⟩ := h
  obtain ⟨m, hn, hl⟩ := I.loc
  obtain ⟨u, r, l⟩ := hl i x v hN e hv
  have fin : EP X pins σ Q u s := ⟨v, H, I, r, h⟩
  rcases l with ⟨hk, hm⟩ | ⟨hk, c, hc, hcell⟩
  · exact wpAny_Name (wpAny_loadName_local I.ok.kind hk hn hm fin) hd
  · rcases hk with hk | hk
    · exact wpAny_Name (wpAny_loadName_cell I.ok.kind hk hc hcell fin) hd
    · exact wpAny_Name (wpAny_loadName_free I.ok.kind hk hc hcell fin hcd) hd
theorem pe_int {i j pos} : PE X (.Constant (.int i) j pos) (tC (.int i)) := fun _ _ _ H _ I h => wpAny_Constant_int ⟨.int i, H, I.tok _, ⟨_, rfl⟩, h⟩
theorem pe_bl {b j pos} : PE X (.Constant (.bool b) j pos) (tC (.bl b)) := fun _ _ _ H _ I h => Constant_bool ⟨.bl b, H, I, rfl, h⟩
theorem pe_non {j pos} : PE X (.Constant .none j pos) (tC .non) := fun _ _ _ H _ I h => Constant_none ⟨.non, H, I, rfl, h⟩
theorem pe_str {x j pos} : PE X (.Constant (.str x) j pos) (tC (.str x)) := fun _ _ _ H _ I h => Calls.Constant_str ⟨.str x, H, I.tok _, ⟨_, rfl⟩, h⟩
def Gl (X : Cx) (x : Str) : Prop := X.env.kindOf x = some .globalImplicit
theorem ld_glob {E : Value → Shared → Prop} {pins : List (Addr × Obj)} {s : Shared} {σ : St} {H : Hp} {x : Str} {u : Value} {pos : Pos} {Q : Value → Shared → Prop} (I : Inv X pins σ H s) (hg : Gl X x) (hm : X.mg x = some u) (h : Q u s)
    (hd : (x == ("__debug__" : Str)) = false := by decide) : wpAny (model X.prog X.w) X.A (eval (.Name x pos) X.env) Q E s :=
  Calls.Name_function_global I.ok.kind hg (Calls.loadGlobal_global (by rw [I.ok.glob]; exact I.mod.glob.keeps I.bk) hm h) hd
theorem ld_blt {E : Value → Shared → Prop} {pins : List (Addr × Obj)} {s : Shared} {σ : St} {H : Hp} {x : Str} {u : Value} {pos : Pos} {Q : Value → Shared → Prop} (I : Inv X pins σ H s) (hg : Gl X x) (hm : X.mg x = none) (hv : bootBuiltins x = some u) (h : Q u s)
    (hn : x ≠ "__name__" := by decide) (hd : (x == ("__debug__" : Str)) = false := by decide) : wpAny (model X.prog X.w) X.A (eval (.Name x pos) X.env) Q E s := by
  obtain ⟨mb, h1, h2⟩ := I.mod.blt
  exact Calls.Name_function_global I.ok.kind hg (Calls.loadGlobal_builtin (by rw [I.ok.glob]; exact I.mod.glob.keeps I.bk) hm (by rw [I.ok.blt]; exact h1.keeps I.bk) ((h2 x hn).trans hv) h) hd
theorem pe_glob {x : Str} {v : V} {u : Value} {pos : Pos} (hg : Gl X x) (hm : X.mg x = some u) (r : RelV v u) (hd : (x == ("__debug__" : Str)) = false := by decide) : PE X (.Name x pos) (tC v) :=
  fun _ _ _ H _ I h => ld_glob I hg hm ⟨v, H, I, r, h⟩ hd
theorem pe_bltn {x : Str} {v : V} {u : Value} {pos : Pos} (hg : Gl X x) (hm : X.mg x = none) (hv : bootBuiltins x = some u) (r : RelV v u) (hn : x ≠ "__name__" := by decide) (hd : (x == ("__debug__" : Str)) = false := by decide) : PE X (.Name x pos) (tC v) :=
  fun _ _ _ H _ I h => ld_blt I hg hm hv ⟨v, H, I, r, h⟩ hn hd
variable {a b : Expr} {ta tb : TE} {pos : Pos}
def tB (t : TE) : TT := fun σ H Q => t σ H fun x H1 => ∃ c, x = .bl c ∧ Q c H1
theorem pt_val {e : Expr} {t : TE} (h : PE X e t) (he : ∀ whole, isTrue e X.env whole = (do let v ← whole; standAt e.pos; holding [v] (truthy v)) := by intro _; rfl) : PT X e (tB t) := by
  intro pins s σ H Q I hw
  refine isTrue_plain (thn (h pins s σ H _ I hw) fun v s1 ⟨x, H1, I1, r1, q1⟩ => ?_) (he _)
  obtain ⟨d, rfl, q⟩ := q1
  cases r1
  exact wpAny_truthy_bool ⟨H1, I1, q⟩
variable {tA tB' : TT} {rest : List Expr}
def tAnd (t u : TT) : TT := fun σ H Q => t σ H fun c H1 => if c = true then u σ H1 Q else Q false H1
def tOr (t u : TT) : TT := fun σ H Q => t σ H fun c H1 => if c = true then Q true H1 else u σ H1 Q
def tNot (t : TT) : TT := fun σ H Q => t σ H fun c H1 => Q (!c) H1
theorem pw_and1 (ha : PT X a tA) : PW X (.BoolOp .And [a] pos) tA := by
  intro wh pins s σ H Q I h
  refine isTrue_and (thn (ha pins s σ H Q I h) fun c s1 e => ?_)
  cases c with
  | true => exact isTrue_and_nil e
  | false => exact e
theorem pw_or1 (ha : PT X a tA) : PW X (.BoolOp .Or [a] pos) tA := by
  intro wh pins s σ H Q I h
  refine isTrue_or (thn (ha pins s σ H Q I h) fun c s1 e => ?_)
  cases c with
  | false => exact isTrue_or_nil e
  | true => exact e
theorem pw_and (ha : PT X a tA) (hb : PW X (.BoolOp .And (b :: rest) pos) tB') : PW X (.BoolOp .And (a :: b :: rest) pos) (tAnd tA tB') := by
  intro wh pins s σ H Q I h
  refine isTrue_and (thn (ha pins s σ H _ I h) fun c s1 ⟨H1, I1, q1⟩ => ?_)
  cases c with
  | true => exact hb wh pins s1 σ H1 Q I1 q1
  | false => exact ⟨H1, I1, q1⟩
theorem pw_or (ha : PT X a tA) (hb : PW X (.BoolOp .Or (b :: rest) pos) tB') : PW X (.BoolOp .Or (a :: b :: rest) pos) (tOr tA tB') := by
  intro wh pins s σ H Q I h
  refine isTrue_or (thn (ha pins s σ H _ I h) fun c s1 ⟨H1, I1, q1⟩ => ?_)
  cases c with
  | true => exact ⟨H1, I1, q1⟩
  | false => exact hb wh pins s1 σ H1 Q I1 q1
theorem pt_not (ha : PT X a tA) : PT X (.UnaryOp .Not a pos) (tNot tA) := by
  intro pins s σ H Q I h
  exact isTrue_not (ha pins s σ H (fun c H1 => Q (!c) H1) I h)
def tAndV (ta tb : TE) : TE := fun σ H Q => ta σ H fun x H1 => ∃ c, x = .bl c ∧ if c = true then tb σ H1 Q else Q (.bl false) H1
def tOrV (ta tb : TE) : TE := fun σ H Q => ta σ H fun x H1 => ∃ c, x = .bl c ∧ if c = true then Q (.bl true) H1 else tb σ H1 Q
def tNotV (ta : TE) : TE := fun σ H Q => ta σ H fun x H1 => ∃ c, x = .bl c ∧ Q (.bl (!c)) H1
theorem pe_one {op} {t : TE} (h : PE X a t) : PE X (.BoolOp op [a] pos) t := fun pins s σ H Q I hw => BoolOp_one (h pins s σ H Q I hw)
theorem pe_and (ha : PE X a ta) (hb : PE X (.BoolOp .And (b :: rest) pos) tb) : PE X (.BoolOp .And (a :: b :: rest) pos) (tAndV ta tb) := by
  intro pins s σ H Q I h
  refine BoolOp_and (thn (ha pins s σ H _ I h) fun v s1 ⟨x, H1, I1, r1, q1⟩ => ?_)
  obtain ⟨c, rfl, q1⟩ := q1
  cases r1
  refine wpAny_truthy_bool ?_
  cases c with
  | true => exact hb pins s1 σ H1 Q I1 q1
  | false => exact ⟨.bl false, H1, I1, rfl, q1⟩
theorem pe_or (ha : PE X a ta) (hb : PE X (.BoolOp .Or (b :: rest) pos) tb) : PE X (.BoolOp .Or (a :: b :: rest) pos) (tOrV ta tb) := by
  intro pins s σ H Q I h
  refine BoolOp_or (thn (ha pins s σ H _ I h) fun v s1 ⟨x, H1, I1, r1, q1⟩ => ?_)
  obtain ⟨c, rfl, q1⟩ := q1
  cases r1
  refine wpAny_truthy_bool ?_
  cases c with
  | false => exact hb pins s1 σ H1 Q I1 q1
  | true => exact ⟨.bl true, H1, I1, rfl, q1⟩
theorem pe_not (ha : PE X a ta) : PE X (.UnaryOp .Not a pos) (tNotV ta) := by
  intro pins s σ H Q I h
  refine UnaryOp_ (thn (ha pins s σ H _ I h) fun v s1 ⟨x, H1, I1, r1, q1⟩ => ?_)
  obtain ⟨c, rfl, q1⟩ := q1
  cases r1
  exact not_of (wpAny_truthy_bool ⟨.bl (!c), H1, I1, rfl, q1⟩)
end
end L2
namespace L2
open PySem PySem.Spec PyProof.Rows
def SqL (K : PySem.W.Frag) (H : Hp) (a : Addr) (xs : List V) : Prop :=
  Rd H a (.lst xs) ∨
    ∃ (o : Obj) (its : Array Value) (n : Nat), K.lookup a = some o ∧ o.cls = .type "list" ∧ o.dict = none ∧ o.data = .seq its n ∧ its.size ≤ sizeLine ∧ Vals xs its.toList
def SqT (K : PySem.W.Frag) (H : Hp) (a : Addr) (xs : List V) : Prop :=
  Rd H a (.tup xs) ∨
    ∃ (o : Obj) (its : Array Value) (n : Nat), K.lookup a = some o ∧ o.cls = .type "tuple" ∧ o.dict = none ∧ o.data = .seq its n ∧ its.size ≤ sizeLine ∧ Vals xs its.toList
def absV : Value → Option V
  | .none => some .non
  | .bool b => some (.bl b)
  | .int i _ => some (.int i)
  | .str x _ => some (.str x)
  | .bytes b _ => some (.byt b)
  | .float b _ => some (.flt b)
  | .ref a => some (.ref a)
  | .type n => some (.ty n)
  | _ => none
theorem RelV.abs {x : V} {u : Value} (r : RelV x u) : absV u = some x := by
  cases x with
  | non => cases r; rfl
  | bl _ => cases r; rfl
  | int _ => obtain ⟨t, rfl⟩ := r; rfl
  | str _ => obtain ⟨t, rfl⟩ := r; rfl
  | byt _ => obtain ⟨t, rfl⟩ := r; rfl
  | flt _ => obtain ⟨t, rfl⟩ := r; rfl
  | ref _ => cases r; rfl
  | ty _ => cases r; rfl
theorem RelV.inj {x y : V} {u : Value} (r : RelV x u) (q : RelV y u) : x = y := Option.some.inj (r.abs.symm.trans q.abs)
theorem Vals.inj : ∀ {xs ys : List V} {us : List Value}, Vals xs us → Vals ys us → xs = ys
  | _, _, _, .nil, .nil => rfl
  | _, _, _, .cons r t, .cons r' t' => by rw [r.inj r', Vals.inj t t']
section
variable {X : Cx} {pins : List (Addr × Obj)} {σ : St} {H : Hp} {s : Shared} {a : Addr} {xs ys : List V}
theorem SqL.of {K : PySem.W.Frag} (h : H a = some (.lst xs)) : SqL K H a xs := .inl (.inl h)
theorem SqT.of {K : PySem.W.Frag} (h : H a = some (.tup xs)) : SqT K H a xs := .inl (.inl h)
theorem Inv.list (I : Inv X pins σ H s) (h : SqL X.K H a xs) : ∃ its : List Value, Vals xs its ∧ PlainL s.heap a its.toArray ∧ xs.length ≤ sizeLine := by
  rcases h with h | ⟨o, its, n, hk, hc, hd, hs, hz, r⟩
  · obtain ⟨z, its, n, r, e⟩ := h.ok I.hok
    exact ⟨its, r, ⟨_, n, e, rfl, rfl, rfl⟩, z⟩
  · refine ⟨its.toList, r, ⟨o, n, I.kIn a o hk, hc, hd, by simpa using hs⟩, ?_⟩
    have e := r.length
    simp only [Array.length_toList] at e
    omega
theorem Inv.tuple (I : Inv X pins σ H s) (h : SqT X.K H a xs) : ∃ its : List Value, Vals xs its ∧ IsTup s.heap a its.toArray ∧ xs.length ≤ sizeLine := by
  rcases h with h | ⟨o, its, n, hk, hc, _, hs, hz, r⟩
  · obtain ⟨z, its, r, p⟩ := h.ok I.hok
    exact ⟨its, r, p.tup, z⟩
  · refine ⟨its.toList, r, ⟨o, I.kIn a o hk, hc, n, by simpa using hs⟩, ?_⟩
    have e := r.length
    simp only [Array.length_toList] at e
    omega
theorem Inv.list_inj (I : Inv X pins σ H s) (h : SqL X.K H a xs) (h' : SqL X.K H a ys) : xs = ys := by
  obtain ⟨its, r, ⟨o, n, e, _, _, d⟩, _⟩ := I.list h
  obtain ⟨its', r', ⟨o', n', e', _, _, d'⟩, _⟩ := I.list h'
  rw [e] at e'; cases e'
  rw [d] at d'
  injection d' with d1 _
  have : its = its' := by simpa using congrArg Array.toList d1
  subst this
  exact r.inj r'
theorem Inv.tuple_inj (I : Inv X pins σ H s) (h : SqT X.K H a xs) (h' : SqT X.K H a ys) : xs = ys := by
  obtain ⟨its, r, ⟨o, e, _, n, d⟩, _⟩ := I.tuple h
  obtain ⟨its', r', ⟨o', e', _, n', d'⟩, _⟩ := I.tuple h'
  rw [e] at e'; cases e'
  rw [d] at d'
  injection d' with d1 _
  have : its = its' := by simpa using congrArg Array.toList d1
  subst this
  exact r.inj r'
end
abbrev Cx.wish (X : Cx) (E : Value → Shared → Prop) : Cx := { X with xe := E }
abbrev Cx.nox (X : Cx) : Cx := X.wish fun _ _ => False
theorem Cx.Ok.wish {X : Cx} (ok : X.Ok) (E : Value → Shared → Prop) : (X.wish E).Ok :=
  ⟨ok.mod, ok.kind, ok.glob, ok.blt, ok.above, ok.inj, ok.has, ok.cab, ok.hd, ok.frames, ok.stk, ok.exf, ok.bs, ok.bsz, ok.noex, ok.exfs, ok.funs, ok.frf⟩
theorem Cx.Ok.unwish {X : Cx} {E : Value → Shared → Prop} (ok : (X.wish E).Ok) : X.Ok :=
  ⟨ok.mod, ok.kind, ok.glob, ok.blt, ok.above, ok.inj, ok.has, ok.cab, ok.hd, ok.frames, ok.stk, ok.exf, ok.bs, ok.bsz, ok.noex, ok.exfs, ok.funs, ok.frf⟩
section
variable {X : Cx} {pins : List (Addr × Obj)} {σ : St} {H : Hp} {s : Shared} {E : Value → Shared → Prop}
theorem Inv.wish (I : Inv X pins σ H s) (E : Value → Shared → Prop) : Inv (X.wish E) pins σ H s := ⟨I.ok.wish E, I.os, I.bare, I.base, I.loc, I.cell, I.free, I.freeC, I.pin, I.hok, I.len⟩
theorem Inv.unwish (I : Inv (X.wish E) pins σ H s) : Inv X pins σ H s := ⟨I.ok.unwish, I.os, I.bare, I.base, I.loc, I.cell, I.free, I.freeC, I.pin, I.hok, I.len⟩
theorem SP.unwish {D : Ends} {f : Flow} {s' : Shared} (h : SP (X.wish E) pins D f s') : SP X pins D f s' := by
  cases f with
  | next => obtain ⟨σ', H', I, q⟩ := h; exact ⟨σ', H', I.unwish, q⟩
  | brk => obtain ⟨σ', H', I, q⟩ := h; exact ⟨σ', H', I.unwish, q⟩
  | cont => obtain ⟨σ', H', I, q⟩ := h; exact ⟨σ', H', I.unwish, q⟩
  | ret u => obtain ⟨v, σ', H', I, r, q⟩ := h; exact ⟨v, σ', H', I.unwish, r, q⟩
theorem PE.nox {e : Expr} {t : TE} (h : PE X.nox e t) : PE X e t := fun pins s σ H Q I hw =>
  wpAny_mono (h pins s σ H Q (I.wish _) hw) (fun _ _ ⟨v, H', I', r, q⟩ => ⟨v, H', I'.unwish, r, q⟩) fun _ _ z => False.elim z
theorem PT.nox {e : Expr} {t : TT} (h : PT X.nox e t) : PT X e t := fun pins s σ H Q I hw =>
  wpAny_mono (h pins s σ H Q (I.wish _) hw) (fun _ _ ⟨H', I', q⟩ => ⟨H', I'.unwish, q⟩) fun _ _ z => False.elim z
theorem PSs.nox {st : List Stmt} {t : TS} (h : PSs X.nox st t) : PSs X st t := fun pins s σ H D I hw =>
  wpAny_mono (h pins s σ H D (I.wish _) hw) (fun _ _ q => q.unwish) fun _ _ z => False.elim z
end
section
variable {X : Cx} {st : Stmt} {rest : List Stmt} {t u : TS} {e : Expr} {te : TE} {pos : Pos}
def tNext : TS := fun D σ H => D.nx σ H
def tSeq (t u : TS) : TS := fun D σ H => t { D with nx := u D } σ H
theorem pss_nil : PSs X [] tNext := fun _ _ σ H _ I h => wpAny_execs_nil ⟨σ, H, I, h⟩
theorem pss_cons (h1 : PS X st t) (h2 : PSs X rest u) : PSs X (st :: rest) (tSeq t u) := by
  intro pins s σ H D I h
  refine wpAny_execs_cons (thn (h1 pins s σ H { D with nx := u D } I h) fun f s1 q => ?_)
  cases f with
  | next =>
    obtain ⟨σ', H', I', q⟩ := q
    exact h2 pins s1 σ' H' D I' q
  | ret v => exact q
  | brk => exact q
  | cont => exact q
theorem Inv.quiet {pins : List (Addr × Obj)} {σ : St} {H : Hp} {s : Shared} (I : Inv X pins σ H s) : interactive X.env = false := by simp [interactive, I.ok.kind]
def tDrop (te : TE) : TS := fun D σ H => te σ H fun _ H1 => D.nx σ H1
theorem ps_expr (he : PE X e te) (hs : swapsWith e none pos.line X.env = pure false := by rfl) : PS X (.Expr e pos) (tDrop te) := by
  intro pins s σ H D I h
  exact wpAny_Expr_any (thn (he pins s σ H _ I h) fun v s1 ⟨x, H1, I1, r1, q1⟩ => ⟨σ, H1, I1, q1⟩) I.quiet hs
def tRet (te : TE) : TS := fun D σ H => te σ H D.rt
theorem ps_ret (he : PE X e te) : PS X (.Return (some e) pos) (tRet te) := by
  intro pins s σ H D I h
  exact wpAny_Return_some (thn (he pins s σ H _ I h) fun v s1 ⟨x, H1, I1, r1, q1⟩ => ⟨x, σ, H1, I1, r1, q1⟩)
def tIfS (c : TT) (t u : TS) : TS := fun D σ H => c σ H fun b H1 => if b = true then t D σ H1 else u D σ H1
theorem ps_if {c : Expr} {a b : List Stmt} {tc : TT} (hc : PT X c tc) (ha : PSs X a t) (hb : PSs X b u) : PS X (.If c a b pos) (tIfS tc t u) := by
  intro pins s σ H D I h
  refine wpAny_If (thn (hc pins s σ H _ I h) fun d s1 ⟨H1, I1, q1⟩ => ?_)
  cases d with
  | true => exact ha pins s1 σ H1 D I1 q1
  | false => exact hb pins s1 σ H1 D I1 q1
end
abbrev TG := V → St → Hp → (St → Hp → Prop) → Prop
abbrev TGs := List V → St → Hp → (St → Hp → Prop) → Prop
def PG (X : Cx) (target : Expr) (t : TG) : Prop :=
  ∀ (pins : List (Addr × Obj)) (s : Shared) (σ : St) (H : Hp) (v : V) (u : Value) (Q : St → Hp → Prop), Inv X pins σ H s → RelV v u → t v σ H Q →
    wpAny (model X.prog X.w) X.A (assign target X.env u) (fun _ s' => ∃ σ' H', Inv X pins σ' H' s' ∧ Q σ' H') X.xe s
def PGs (X : Cx) (ts : List Expr) (t : TGs) : Prop :=
  ∀ (pins : List (Addr × Obj)) (s : Shared) (σ : St) (H : Hp) (vs : List V) (us : List Value) (Q : St → Hp → Prop), Inv X pins σ H s → Vals vs us → t vs σ H Q →
    wpAny (model X.prog X.w) X.A (assignInOrder ((assignEach ts X.env).map (·.2)) us) (fun _ s' => ∃ σ' H', Inv X pins σ' H' s' ∧ Q σ' H') X.xe s
abbrev TSet := V → V → V → Hp → (Hp → Prop) → Prop
def PSet (X : Cx) (t : TSet) : Prop :=
  ∀ (pins : List (Addr × Obj)) (s : Shared) (σ : St) (H : Hp) (o i v : V) (ov iv u : Value) (Q : Hp → Prop), Inv X pins σ H s → RelV o ov → RelV i iv → RelV v u → t o i v H Q →
    wpAny (model X.prog X.w) X.A (setItem ov iv u) (fun _ s' => ∃ H', Inv X pins σ H' s' ∧ Q H') X.xe s
section
variable {X : Cx} {pos : Pos}
def gName (i : Nat) : TG := fun v σ H Q => Q (σ.set i (some v)) H
theorem pg_name {i : Nat} {x : Str} (hN : X.N.Nodup) (hi : X.N[i]? = some x) (hx : Loc X.env.scope x) (hf : X.fn x = true ∨ X.env.scope.names.lookup x = some .local := by first | exact .inl rfl | exact .inr rfl | assumption) : PG X (.Name x pos) (gName i) := by
  intro pins s σ H v u Q I r h
  exact wpAny_assign_Name (store_ok I hN hi hx r (fun s' I' => ⟨_, H, I', h⟩) hf)
def gNil : TGs := fun vs σ H Q => vs = [] ∧ Q σ H
def gCons (t : TG) (u : TGs) : TGs := fun vs σ H Q => ∃ v r, vs = v :: r ∧ t v σ H fun σ' H' => u r σ' H' Q
theorem pgs_nil : PGs X [] gNil := by
  intro pins s σ H vs us Q I r h
  obtain ⟨e, h⟩ := h
  subst e
  cases r
  exact assignInOrder_nil ⟨σ, H, I, h⟩
theorem pgs_cons {e : Expr} {es : List Expr} {t : TG} {u : TGs} (h1 : PG X e t) (h2 : PGs X es u)
    (hs : (assignEach (e :: es) X.env).map (·.2) = assign e X.env :: (assignEach es X.env).map (·.2) := by rfl) : PGs X (e :: es) (gCons t u) := by
  intro pins s σ H vs us Q I r h
  obtain ⟨v, vr, e1, h⟩ := h
  subst e1
  cases r with
  | cons r rr =>
    rw [hs]
    refine assignInOrder_cons (thn (h1 pins s σ H _ _ _ I r h) fun _ s1 ⟨σ1, H1, I1, q1⟩ => ?_)
    exact h2 pins s1 σ1 H1 _ _ Q I1 rr q1
def gTup (K : PySem.W.Frag) (n : Nat) (t : TGs) : TG := fun v σ H Q => ∃ a xs, v = .ref a ∧ SqT K H a xs ∧ xs.length = n ∧ t xs σ H Q
theorem pg_tup {es : List Expr} {k : Nat} {t : TGs} {n : Nat} (hc : X.calm = true) (h : PGs X es t)
    (hn : (assignEach es X.env).length = n := by rfl) (hst : (assignEach es X.env).findIdx? (·.1) = none := by rfl) : PG X (.Tuple es k pos) (gTup X.K n t) := by
  intro pins s σ H v u Q I r hw
  obtain ⟨a, xs, e1, hq, hl, hw⟩ := hw
  subst e1
  cases r
  obtain ⟨its, rv, ht, hz⟩ := I.tuple hq
  refine assign_Tuple_tuple (I.ok.hd hc) ht (by simp [hn, ← hl, rv.length]) hst fun h' hx => ?_
  have I1 : Inv X pins σ H { s with heap := h' } := I.kept (t' := s.toks) fun b o e => hx b o (Nat.ne_of_lt (Heap.lt_size e)) e
  exact h pins _ σ H xs _ Q I1 (by simpa using rv) hw
def gSub (to ti : TE) (t : TSet) : TG := fun v σ H Q => to σ H fun o H1 => ti σ H1 fun i H2 => t o i v H2 fun H3 => Q σ H3
theorem pg_sub {o i : Expr} {to ti : TE} {t : TSet} (ho : PE X o to) (hi : PE X i ti) (hs : PSet X t)
    (ha : ∀ v, assign (.Subscript o i pos) X.env v = (do
      let ov ← holding [v] (eval o X.env)
      let iv ← holding [v, ov] (eval i X.env)
      standAt pos
      holding [v, ov, iv] (setItem ov iv v)
      release [v, ov, iv] []) := by intro _; rfl) : PG X (.Subscript o i pos) (gSub to ti t) := by
  intro pins s σ H v u Q I r h
  rw [ha]
  refine wpAny_bind (wpAny_holding (thn (ho pins s σ H _ I h) fun ov s1 ⟨x, H1, I1, r1, q1⟩ => ?_))
  refine wpAny_bind (wpAny_holding (thn (hi pins s1 σ H1 _ I1 q1) fun iv s2 ⟨y, H2, I2, r2, q2⟩ => ?_))
  refine wpAny_bind (wpAny_standAt (wpAny_bind (wpAny_holding (thn (hs pins s2 σ H2 x y v ov iv u _ I2 r1 r2 r q2) fun _ s3 ⟨H3, I3, q3⟩ => ?_))))
  exact wpAny_release ⟨σ, H3, I3, q3⟩
def tAsg (te : TE) (g : TG) : TS := fun D σ H => te σ H fun x H1 => g x σ H1 D.nx
theorem ps_asg {tg e : Expr} {te : TE} {g : TG} (he : PE X e te) (hg : PG X tg g) (hs : swapsWithSole [tg] e pos.line X.env = pure false := by rfl) (hw : swappedStores [tg] e X.env = pure none := by rfl)
    (h1 : (assignEach [tg] X.env).map (·.2) = [assign tg X.env] := by rfl) : PS X (.Assign [tg] e pos) (tAsg te g) := by
  intro pins s σ H D I h
  refine wpAny_Assign_stores (thn (he pins s σ H _ I h) fun v s1 ⟨x, H1, I1, r1, q1⟩ => ?_) hs hw
  rw [h1]
  exact thn (hg pins s1 σ H1 x v _ I1 r1 q1) fun _ s2 q => q
theorem ps_set {i : Nat} {x : Str} {e : Expr} {te : TE} {pos' : Pos} (hN : X.N.Nodup) (hi : X.N[i]? = some x) (hx : Loc X.env.scope x) (he : PE X e te) (hs : swapsWith e (some (.Name x pos')) pos.line X.env = pure false := by rfl) (hf : X.fn x = true ∨ X.env.scope.names.lookup x = some .local := by first | exact .inl rfl | exact .inr rfl | assumption) :
    PS X (.Assign [.Name x pos'] e pos) (tAsg te (gName i)) := by
  intro pins s σ H D I h
  refine wpAny_Assign_Name (thn (he pins s σ H _ I h) fun v s1 ⟨y, H1, I1, r1, q1⟩ => ?_) hs
  exact store_ok I1 hN hi hx r1 (fun s2 I2 => ⟨_, H1, I2, q1⟩) hf
end
section
variable {X : Cx} {pos : Pos}
def tWhile (c : TT) (tb : TS) : TS := fun D σ H => ∃ W : Nat → St → Hp → Prop, (∃ m, W m σ H) ∧ ∀ m σ H, W m σ H →
  c σ H fun b H1 => if b = true then ∃ N : St → Hp → Prop, (∀ σ' H', N σ' H' → ∃ m', m' < m ∧ W m' σ' H') ∧ tb { D with nx := N, ct := N, bk := D.nx } σ H1 else D.nx σ H1
theorem ps_while {c : Expr} {body : List Stmt} {tc : TT} {tb : TS} (hp : PassesOwn (model X.prog X.w) X.A X.env X.xe) (hc : PT X c tc) (hb : PSs X body tb) : PS X (.While c body [] pos) (tWhile tc tb) := by
  intro pins s σ H D I h
  obtain ⟨W, ⟨m0, w0⟩, turn⟩ := h
  refine wpAny_While (codeAny_whileLoop (fun n s' => ∃ σ' H', Inv X pins σ' H' s' ∧ W n σ' H') ?_ m0 ⟨σ, H, I, w0⟩)
  rintro n s1 ⟨σ1, H1, I1, w1⟩
  refine wpAny_passesOwn hp (thn (hc pins s1 σ1 H1 _ I1 (turn n σ1 H1 w1)) fun b s2 ⟨H2, I2, q2⟩ => ?_)
  cases b with
  | true =>
    obtain ⟨N, hN, q2⟩ := q2
    rw [if_pos rfl]
    refine wpAny_passesOwn hp (thn (hb pins s2 σ1 H2 _ I2 q2) fun f s3 q3 => ?_)
    cases f with
    | next =>
      obtain ⟨σ3, H3, I3, n3⟩ := q3
      obtain ⟨m', hm, w3⟩ := hN σ3 H3 n3
      exact ⟨m', hm, σ3, H3, I3, w3⟩
    | cont =>
      obtain ⟨σ3, H3, I3, n3⟩ := q3
      obtain ⟨m', hm, w3⟩ := hN σ3 H3 n3
      exact ⟨m', hm, σ3, H3, I3, w3⟩
    | brk => exact q3
    | ret v => exact q3
  | false =>
    rw [if_neg Bool.false_ne_true]
    exact wpAny_execs_nil ⟨σ1, H2, I2, q2⟩
end
structure It where
  go : Nat → Hp → Prop
  yld : Nat → Hp → V → Hp → Prop
  stop : Nat → Hp → Prop
def FpOk (X : Cx) (pins : List (Addr × Obj)) (H : Hp) (b : Addr) : Prop :=
  H b = none ∧ b ≠ X.env.locals ∧ b ∉ X.fs ∧ (b ∈ X.ex ∨ X.s₀.heap.objs.size ≤ b) ∧ (∀ x c, X.env.cells.lookup x = some c → c ≠ b) ∧ ∀ p ∈ X.pn ++ pins, p.1 ≠ b
theorem Inv.fpOk {X : Cx} {pins : List (Addr × Obj)} {σ : St} {H H' : Hp} {s : Shared} {b : Addr} (I : Inv X pins σ H s) (hb : s.heap.objs.size ≤ b) (hn : H' b = none) : FpOk X pins H' b := by
  refine ⟨hn, Nat.ne_of_gt (Nat.lt_of_lt_of_le I.lt hb), I.nofs hb, .inr (Nat.le_trans I.sz hb), fun x c e z => ?_, fun p hp z => ?_⟩
  · obtain ⟨v, q⟩ := I.cell x c e
    exact absurd (Nat.lt_of_lt_of_le q.lt (by rw [z]; exact hb)) (Nat.lt_irrefl _)
  · exact absurd (Nat.lt_of_lt_of_le (Heap.lt_size (I.pin p hp).1) (by rw [z]; exact hb)) (Nat.lt_irrefl _)
structure Turn (P : Program) (w : World) (K : PySem.W.Frag) (tg : Expr) (J : It) (fp : List Addr) (it : Addr) (tn : Nat → Heap → Prop) : Prop where
  mem : it ∈ fp
  obj : ∀ i h, tn i h → ∀ b ∈ fp, ∃ o, h.get? b = some o ∧ ∀ v, o.data ≠ .cell v
  keep : ∀ i h h', tn i h → (∀ b ∈ fp, ∀ o, h.get? b = some o → h'.get? b = some o) → tn i h'
  item : ∀ (X : Cx), X.prog = P → X.w = w → X.K = K → X.calm = true → ∀ (i : Nat) (pins : List (Addr × Obj)) (s : Shared) (σ : St) (H : Hp) (E : Value → Shared → Prop), Inv X pins σ H s → (∀ b ∈ fp, FpOk X pins H b) → tn i s.heap → J.go i H →
    wpAny (model P w) X.A (pyNext (.ref it)) (fun r s1 => ∃ u, r = some u ∧
      wpAny (model P w) X.A (letOwnedTupleGo tg (.ref it) u) (fun _ s2 => ∃ x H', Inv X pins σ H' s2 ∧ RelV x u ∧ J.yld i H x H' ∧ tn (i + 1) s2.heap ∧ ∀ b ∈ fp, H' b = none) E s1) E s
  done : ∀ (X : Cx), X.prog = P → X.w = w → X.K = K → X.calm = true → ∀ (i : Nat) (pins : List (Addr × Obj)) (s : Shared) (σ : St) (H : Hp) (E : Value → Shared → Prop), Inv X pins σ H s → (∀ b ∈ fp, FpOk X pins H b) → tn i s.heap → J.stop i H →
    wpAny (model P w) X.A (pyNext (.ref it)) (fun r s1 => r = none ∧ Inv X pins σ H s1) E s
  self : ∀ (A : Around) (i : Nat) (s : Shared) (Q : Value → Shared → Prop) (E : Value → Shared → Prop), tn i s.heap → Q (.ref it) s → wpAny (model P w) A (pyIter (.ref it)) Q E s
abbrev TI := St → Hp → (It → Hp → Prop) → Prop
def PIE (X : Cx) (pins : List (Addr × Obj)) (σ : St) (tg : Expr) (R : It → Hp → Prop) (itv : Value) (s2 : Shared) : Prop :=
  ∃ (it : Addr) (fp : List Addr) (tn : Nat → Heap → Prop) (J : It) (H' : Hp), itv = .ref it ∧ Inv X pins σ H' s2 ∧ Turn X.prog X.w X.K tg J fp it tn ∧ tn 0 s2.heap ∧ (∀ b ∈ fp, FpOk X pins H' b) ∧ R J H'
def PI (X : Cx) (tg iter : Expr) (wi : TI) : Prop :=
  ∀ (pins : List (Addr × Obj)) (s : Shared) (σ : St) (H : Hp) (R : It → Hp → Prop), Inv X pins σ H s → wi σ H R →
    wpAny (model X.prog X.w) X.A (eval iter X.env) (fun v s1 => wpAny (model X.prog X.w) X.A (pyIter v) (PIE X pins σ tg R) X.xe s1) X.xe s
theorem go_of {M : Model} {A : Around} {E : Value → Shared → Prop} {s : Shared} {tg : Expr} {it : Addr} {u : Value} {o : Obj} {n : String} {vs : Array Value} {Q : Unit → Shared → Prop} (ho : s.heap.get? it = some o) (hc : o.cls = .type n) (hd : o.data = .fields vs)
    (hn : ["enumerate", "zip", "dict_itemiterator", "dict_reverseitemiterator", "odict_iterator", "itertools.zip_longest", "itertools.pairwise"].contains n = false) (hQ : Q () s) : wpAny M A (letOwnedTupleGo tg (.ref it) u) Q E s := by
  unfold letOwnedTupleGo
  cases tg <;> first
    | exact wpAny_pure hQ
    | (cases u <;> first
        | exact wpAny_pure hQ
        | (refine wpAny_bind (wpAny_load ho ?_)
           rw [hc, hd]
           show wpAny M A (if (["enumerate", "zip", "dict_itemiterator", "dict_reverseitemiterator", "odict_iterator", "itertools.zip_longest", "itertools.pairwise"].contains n && vs[0]? == some (rawInt _)) = true then _ else _) Q E s
           rw [if_neg (by intro h; rw [hn, Bool.false_and] at h; cases h)]
           exact wpAny_pure hQ))
def Itl (K : PySem.W.Frag) (a : Addr) : It :=
  ⟨fun i H => ∃ xs x, SqL K H a xs ∧ xs[i]? = some x, fun i H x H' => H' = H ∧ ∀ xs, SqL K H a xs → xs[i]? = some x, fun i H => ∃ xs, SqL K H a xs ∧ xs.length ≤ i⟩
def Itt (K : PySem.W.Frag) (a : Addr) : It :=
  ⟨fun i H => ∃ xs x, SqT K H a xs ∧ xs[i]? = some x, fun i H x H' => H' = H ∧ ∀ xs, SqT K H a xs → xs[i]? = some x, fun i H => ∃ xs, SqT K H a xs ∧ xs.length ≤ i⟩
def Itr (lo : Int) (n : Nat) : It := ⟨fun i _ => i < n, fun i H x H' => H' = H ∧ x = .int (lo + i), fun i _ => n ≤ i⟩
theorem turn_list {P : Program} {w : World} {K : PySem.W.Frag} {tg : Expr} (a it : Addr) : Turn P w K tg (Itl K a) [it] it (fun i h => h.IsListIter it a i) where
  mem := by simp
  obj := fun i h st b hb => by
    have e : b = it := by simpa using hb
    subst e
    obtain ⟨o, e, c, d⟩ := st
    exact ⟨o, e, fun v z => by rw [d] at z; cases z⟩
  keep := fun i h h' st k => st.at fun o e => k it (by simp) o e
  item := by
    intro X hP hw hK hc i pins s σ H E I hf st hg
    subst hP hw hK
    obtain ⟨xs, x, hq, hx⟩ := hg
    obtain ⟨its, rv, p, hz⟩ := I.list hq
    obtain ⟨u, hu, ru⟩ := rv.get hx
    obtain ⟨f0, f1, f2, f3, f4, f5⟩ := hf it (by simp)
    refine wpAny_pyNext_list_item st p.isList (x := u) (by simpa using hu) fun h' st' sb => ?_
    have I1 : Inv X pins σ H { s with heap := h' } := I.turned (t' := s.toks) (fun b o hb e => (sb.2 b hb).trans e) f0 f1 f3 f4 f5
    obtain ⟨o, e, c, d⟩ := id st'
    exact ⟨u, rfl, go_of (s := { s with heap := h' }) e c d (by decide) ⟨x, H, I1, ru, ⟨rfl, fun ys hy => by rw [I.list_inj hy hq]; exact hx⟩, st', fun b hb => (hf b hb).1⟩⟩
  done := by
    intro X hP hw hK hc i pins s σ H E I hf st hg
    subst hP hw hK
    obtain ⟨xs, hq, hx⟩ := hg
    obtain ⟨its, rv, p, hz⟩ := I.list hq
    obtain ⟨f0, f1, f2, f3, f4, f5⟩ := hf it (by simp)
    have hl := rv.length
    exact wpAny_pyNext_list_end (I.ok.hd hc) st p.isList (by simp; omega) fun h' eb => ⟨rfl, I.turned (t' := s.toks) (fun b o hb e => eb b o hb e) f0 f1 f3 f4 f5⟩
  self := fun _ _ _ _ _ st h => wpAny_pyIter_listiter st h
theorem turn_tuple {P : Program} {w : World} {K : PySem.W.Frag} {tg : Expr} (a it : Addr) : Turn P w K tg (Itt K a) [it] it (fun i h => h.IsTupleIter it a i) where
  mem := by simp
  obj := fun i h st b hb => by
    have e : b = it := by simpa using hb
    subst e
    obtain ⟨o, e, c, d⟩ := st
    exact ⟨o, e, fun v z => by rw [d] at z; cases z⟩
  keep := fun i h h' st k => st.at fun o e => k it (by simp) o e
  item := by
    intro X hP hw hK hc i pins s σ H E I hf st hg
    subst hP hw hK
    obtain ⟨xs, x, hq, hx⟩ := hg
    obtain ⟨its, rv, p, hz⟩ := I.tuple hq
    obtain ⟨u, hu, ru⟩ := rv.get hx
    obtain ⟨f0, f1, f2, f3, f4, f5⟩ := hf it (by simp)
    refine wpAny_pyNext_tuple_item st (show s.heap.IsTuple a its.toArray from p) (x := u) (by simpa using hu) fun h' st' sb => ?_
    have I1 : Inv X pins σ H { s with heap := h' } := I.turned (t' := s.toks) (fun b o hb e => (sb.2 b hb).trans e) f0 f1 f3 f4 f5
    obtain ⟨o, e, c, d⟩ := id st'
    exact ⟨u, rfl, go_of (s := { s with heap := h' }) e c d (by decide) ⟨x, H, I1, ru, ⟨rfl, fun ys hy => by rw [I.tuple_inj hy hq]; exact hx⟩, st', fun b hb => (hf b hb).1⟩⟩
  done := by
    intro X hP hw hK hc i pins s σ H E I hf st hg
    subst hP hw hK
    obtain ⟨xs, hq, hx⟩ := hg
    obtain ⟨its, rv, p, hz⟩ := I.tuple hq
    obtain ⟨f0, f1, f2, f3, f4, f5⟩ := hf it (by simp)
    have hl := rv.length
    exact wpAny_pyNext_tuple_end (I.ok.hd hc) st (show s.heap.IsTuple a its.toArray from p) (by simp; omega) fun h' eb => ⟨rfl, I.turned (t' := s.toks) (fun b o hb e => eb b o hb e) f0 f1 f3 f4 f5⟩
  self := fun _ _ _ _ _ st h => wpAny_pyIter_tupleiter st h
theorem turn_range {P : Program} {w : World} {K : PySem.W.Frag} {tg : Expr} (it : Addr) (lo : Int) (n : Nat) : Turn P w K tg (Itr lo n) [it] it (fun i h => IsRangeIter h it (lo + (i : Nat) * 1) ((n : Int) - (i : Nat)) 1) where
  mem := by simp
  obj := fun i h st b hb => by
    have e : b = it := by simpa using hb
    subst e
    exact ⟨_, st, fun v z => by
      have z' : Data.fields _ = Data.cell v := z
      cases z'⟩
  keep := fun i h h' st k => k it (by simp) _ st
  item := by
    intro X hP hw hK hc i pins s σ H E I hf st hg
    subst hP hw hK
    obtain ⟨f0, f1, f2, f3, f4, f5⟩ := hf it (by simp)
    have W := Walks.range (prog := X.prog) (w := X.w) (I.ok.hd hc) it lo 1 n
    refine W.item i s _ _ hg st fun v h' tk hv st' kk => ?_
    obtain ⟨t, rfl⟩ := hv
    have I1 : Inv X pins σ H { s with heap := h', toks := tk } := I.turned (fun b o hb e => kk b o (by simpa using hb) e) f0 f1 f3 f4 f5
    refine ⟨_, rfl, go_of (s := { s with heap := h', toks := tk }) (n := "range_iterator") st' rfl rfl (by decide) ⟨.int (lo + i), H, I1, ⟨t, ?_⟩, ⟨rfl, rfl⟩, st', fun b hb => (hf b hb).1⟩⟩
    rw [Int.mul_one]
  done := by
    intro X hP hw hK hc i pins s σ H E I hf st hg
    subst hP hw hK
    obtain ⟨f0, f1, f2, f3, f4, f5⟩ := hf it (by simp)
    exact wpAny_pyNext_range_end (I.ok.hd hc) st (by have : n ≤ i := hg; omega) fun h' eb => ⟨rfl, I.turned (t' := s.toks) (fun b o hb e => eb b o hb e) f0 f1 f3 f4 f5⟩
  self := fun _ _ _ _ _ st h => wpAny_pyIter_rangeiter st h
end L2
namespace L2
open PySem PySem.Spec PyProof.Rows
section
variable {X : Cx} {tg : Expr}
theorem range_it {pins : List (Addr × Obj)} {σ : St} {H : Hp} {s : Shared} {R : It → Hp → Prop} {E : Value → Shared → Prop} {lo hi : Int} {t u v : Tok} {tk : Nat} (I : Inv X pins σ H s) (h1 : -(2 ^ 62) ≤ lo) (h2 : lo < 2 ^ 62) (h3 : -(2 ^ 62) ≤ hi) (h4 : hi < 2 ^ 62)
    (q : R (Itr lo (hi - lo).toNat) H) : wpAny (model X.prog X.w) X.A (pyIter (.ref s.heap.objs.size)) (PIE X pins σ tg R) E { s with heap := s.heap.push { cls := .type "range", data := .fields #[.int lo t, .int hi u, .int 1 v] }, toks := tk } := by
  refine wpAny_pyIter_range (IsRange.new ..) (small_one h1 h2 h3 h4) ?_
  have I1 : Inv X pins σ H { s with heap := s.heap.push { cls := .type "range", data := .fields #[.int lo t, .int hi u, .int 1 v] }, toks := tk } := I.kept fun b o e => Heap.get?_push_of_some _ e
  refine ⟨(s.heap.push { cls := .type "range", data := .fields #[.int lo t, .int hi u, .int 1 v] }).objs.size, [(s.heap.push { cls := .type "range", data := .fields #[.int lo t, .int hi u, .int 1 v] }).objs.size], _, _, H, rfl,
    I1.kept (t' := tk) fun b o e => Heap.get?_push_of_some _ e, turn_range _ lo (hi - lo).toNat, ?_, fun b hb => ?_, q⟩
  · have e1 : lo + ((0 : Nat) : Int) * 1 = lo := by simp
    have e2 : (((hi - lo).toNat : Nat) : Int) - ((0 : Nat) : Int) = Builtin.Range.rangeSize lo hi 1 := by rw [rangeSize_one]; split <;> omega
    show IsRangeIter _ _ (lo + ((0 : Nat) : Int) * 1) ((((hi - lo).toNat : Nat) : Int) - ((0 : Nat) : Int)) 1
    rw [e1, e2]
    exact Heap.get?_push_size _ rfl
  · have e : b = (s.heap.push { cls := .type "range", data := .fields #[.int lo t, .int hi u, .int 1 v] }).objs.size := by simpa using hb
    subst e
    exact I1.fpOk (Nat.le_refl _) (I1.hok.fresh (Nat.le_refl _))
def iRng1 (ta : TA) : TI := fun σ H R => ta σ H fun vs H1 => ∃ j : Int, vs = [.int j] ∧ -(2 ^ 62) ≤ j ∧ j < 2 ^ 62 ∧ R (Itr 0 j.toNat) H1
def iRng2 (ta : TA) : TI := fun σ H R => ta σ H fun vs H1 => ∃ i j : Int, vs = [.int i, .int j] ∧ (-(2 ^ 62) ≤ i ∧ i < 2 ^ 62 ∧ -(2 ^ 62) ≤ j ∧ j < 2 ^ 62) ∧ R (Itr i (j - i).toNat) H1
theorem pi_range1 {a : Expr} {ta : TA} {p pos : Pos} (hg : Gl X "range") (hm : X.mg "range" = none) (ha : PA X [a] ta) (hs : starEach [a] X.env = [(false, eval a X.env)] := by rfl) : PI X tg (.Call (.Name "range" p) [a] [] pos) (iRng1 ta) := by
  intro pins s σ H R I h
  refine Call_ (ld_blt I hg hm boot_range (PyProof.Rows.callWith_type1 (thn (ha pos pins s σ H _ I h) fun us s1 ⟨vs, H1, I1, r1, q1⟩ => ?_) hs rfl))
  obtain ⟨j, e, q1, q2, q⟩ := q1
  subst e
  cases r1 with
  | cons r rr =>
    cases rr
    obtain ⟨t, rfl⟩ := r
    exact call_range_1 (range_it I1 (by omega) (by omega) q1 q2 (by simpa using q))
theorem pi_range2 {a b : Expr} {ta : TA} {p pos : Pos} (hg : Gl X "range") (hm : X.mg "range" = none) (ha : PA X [a, b] ta) (hs : starEach [a, b] X.env = [(false, eval a X.env), (false, eval b X.env)] := by rfl) (hs2 : starEach [b] X.env = [(false, eval b X.env)] := by rfl) :
    PI X tg (.Call (.Name "range" p) [a, b] [] pos) (iRng2 ta) := by
  intro pins s σ H R I h
  refine Call_ (ld_blt I hg hm boot_range (PyProof.Rows.callWith_type1 (thn (ha pos pins s σ H _ I h) fun us s1 ⟨vs, H1, I1, r1, q1⟩ => ?_) (by rw [hs, hs2]) (by rw [hs2]; rfl)))
  obtain ⟨i, j, e, ⟨q1, q2, q3, q4⟩, q⟩ := q1
  subst e
  cases r1 with
  | cons r rr =>
    cases rr with
    | cons r' rr =>
      cases rr
      obtain ⟨t, rfl⟩ := r
      obtain ⟨t', rfl⟩ := r'
      exact call_range_2 (range_it I1 q1 q2 q3 q4 q)
def tFor (wi : TI) (g : TG) (tb : TS) : TS := fun D σ H => wi σ H fun J H1 => ∃ W : Nat → Nat → St → Hp → Prop, (∃ m, W 0 m σ H1) ∧ ∀ i m σ H, W i m σ H →
  (J.stop i H ∧ D.nx σ H) ∨ (J.go i H ∧ ∃ N : St → Hp → Prop, (∀ σ' H', N σ' H' → ∃ m', m' < m ∧ W (i + 1) m' σ' H') ∧ ∀ x H', J.yld i H x H' → g x σ H' fun σ2 H2 => tb { D with nx := N, ct := N, bk := D.nx } σ2 H2)
def pinsAt (fp : List Addr) (h : Heap) : List (Addr × Obj) := fp.filterMap fun b => (h.get? b).map fun o => (b, o)
theorem mem_pinsAt {fp : List Addr} {h : Heap} {b : Addr} {o : Obj} (hb : b ∈ fp) (e : h.get? b = some o) : (b, o) ∈ pinsAt fp h := List.mem_filterMap.mpr ⟨b, hb, by rw [e]; rfl⟩
theorem of_pinsAt {fp : List Addr} {h : Heap} {p : Addr × Obj} (hp : p ∈ pinsAt fp h) : p.1 ∈ fp ∧ h.get? p.1 = some p.2 := by
  obtain ⟨b, hb, e⟩ := List.mem_filterMap.mp hp
  cases q : h.get? b with
  | none => rw [q] at e; cases e
  | some o =>
    rw [q] at e
    have e' : (b, o) = p := Option.some.inj e
    subst e'
    exact ⟨hb, q⟩
theorem Inv.pinned {pins : List (Addr × Obj)} {σ : St} {H : Hp} {s : Shared} {fp : List Addr} (I : Inv X pins σ H s) (hf : ∀ b ∈ fp, FpOk X pins H b) (ho : ∀ b ∈ fp, ∃ o, s.heap.get? b = some o ∧ ∀ v, o.data ≠ .cell v) : Inv X (pins ++ pinsAt fp s.heap) σ H s :=
  I.pins_of fun p hp => (List.mem_append.mp hp).elim (fun z => I.pin p (List.mem_append_right _ z)) fun z => by
    obtain ⟨hb, e⟩ := of_pinsAt z
    obtain ⟨f0, f1, f2, _⟩ := hf p.1 hb
    obtain ⟨o, e', d⟩ := ho p.1 hb
    rw [e] at e'; cases e'
    exact ⟨e, f0, f1, f2, d⟩
theorem Inv.unpinned {pins pl : List (Addr × Obj)} {σ : St} {H : Hp} {s : Shared} (I : Inv X (pins ++ pl) σ H s) : Inv X pins σ H s := I.pins_of fun p hp => I.pin p (List.mem_append_right _ (List.mem_append_left _ hp))
theorem ps_for {iter : Expr} {body : List Stmt} {wi : TI} {g : TG} {tb : TS} {pos : Pos} (hp : PassesOwn (model X.prog X.w) X.A X.env X.xe) (hc : X.calm = true) (hi : PI X tg iter wi) (hg : PG X tg g) (hb : PSs X body tb)
    (hs : ∀ x, foldedSetIterable iter X.env x = pure x := by intro _; rfl) : PS X (.For tg iter body [] pos) (tFor wi g tb) := by
  intro pins s σ H D I h
  refine wpAny_For (thn (hi pins s σ H _ I h) fun v s1 h1 => thn h1 fun itv s2 h2 => ?_) hs
  obtain ⟨it, fp, tn, J, H2, e, I2, T, st2, f2, W, ⟨m0, w0⟩, turn⟩ := h2
  subst e
  have stat : ∀ {H' : Hp}, (∀ b ∈ fp, H' b = none) → ∀ b ∈ fp, FpOk X pins H' b := fun hn b hb => ⟨hn b hb, (f2 b hb).2⟩
  refine codeAny_forLoop_any (fun n s' => ∃ i σ' H', Inv X pins σ' H' s' ∧ tn i s'.heap ∧ (∀ b ∈ fp, H' b = none) ∧ W i n σ' H') ?_ m0 ⟨0, σ, H2, I2, st2, fun b hb => (f2 b hb).1, w0⟩
  rintro n s3 ⟨i, σ3, H3, I3, st3, fr3, w3⟩
  rcases turn i n σ3 H3 w3 with ⟨stop, qn⟩ | ⟨go, N, hN, step⟩
  · refine wpAny_passesOwn hp (thn (T.done X rfl rfl rfl hc i pins s3 σ3 H3 X.xe I3 (stat fr3) st3 stop) fun r s4 ⟨hr, I4⟩ => ?_)
    subst hr
    exact wpAny_execs_nil ⟨σ3, H3, I4, qn⟩
  · refine wpAny_passesOwn hp (thn (T.item X rfl rfl rfl hc i pins s3 σ3 H3 X.xe I3 (stat fr3) st3 go) fun r s4 ⟨u, hr, h4⟩ => ?_)
    subst hr
    refine wpAny_passesOwn hp (thn h4 fun _ s5 ⟨x, H5, I5, r5, y5, st5, fr5⟩ => ?_)
    have I5' := I5.pinned (stat fr5) (T.obj _ _ st5)
    refine wpAny_passesOwn hp (thn (hg _ s5 σ3 H5 x u _ I5' r5 (step x H5 y5)) fun _ s6 ⟨σ6, H6, I6, q6⟩ => ?_)
    refine wpAny_passesOwn hp (thn (hb _ s6 σ6 H6 _ I6 q6) fun f s7 q7 => ?_)
    have again : ∀ {σ7 : St} {H7 : Hp}, Inv X (pins ++ pinsAt fp s5.heap) σ7 H7 s7 → N σ7 H7 → ∃ m, m < n ∧ ∃ i σ' H', Inv X pins σ' H' s7 ∧ tn i s7.heap ∧ (∀ b ∈ fp, H' b = none) ∧ W i m σ' H' := fun {σ7 H7} I7 n7 => by
      obtain ⟨m', hm, w7⟩ := hN σ7 H7 n7
      refine ⟨m', hm, i + 1, σ7, H7, I7.unpinned, T.keep _ _ _ st5 fun b hb o e => (I7.pin (b, o) (List.mem_append_right _ (List.mem_append_right _ (mem_pinsAt hb e)))).1, fun b hb => ?_, w7⟩
      obtain ⟨o, e, d⟩ := T.obj _ _ st5 b hb
      exact (I7.pin (b, o) (List.mem_append_right _ (List.mem_append_right _ (mem_pinsAt hb e)))).2.1
    cases f with
    | next => obtain ⟨σ7, H7, I7, n7⟩ := q7; exact again I7 n7
    | cont => obtain ⟨σ7, H7, I7, n7⟩ := q7; exact again I7 n7
    | brk => obtain ⟨σ7, H7, I7, q7⟩ := q7; exact ⟨σ7, H7, I7.unpinned, q7⟩
    | ret v => obtain ⟨x7, σ7, H7, I7, r7, q7⟩ := q7; exact ⟨x7, σ7, H7, I7.unpinned, r7, q7⟩
end
theorem for_list {K : PySem.W.Frag} {a : Addr} {xs : List V} {g : TG} {tb : TS} {D : Ends} {σ : St} {H : Hp} (Pv : Nat → St → Hp → Prop) (h0 : Pv 0 σ H) (hl : ∀ i σ H, i ≤ xs.length → Pv i σ H → SqL K H a xs)
    (hs : ∀ i x σ H, xs[i]? = some x → Pv i σ H → g x σ H fun σ2 H2 => tb { D with nx := Pv (i + 1), ct := Pv (i + 1), bk := D.nx } σ2 H2) (hd : ∀ σ H, Pv xs.length σ H → D.nx σ H) :
    ∃ W : Nat → Nat → St → Hp → Prop, (∃ m, W 0 m σ H) ∧ ∀ i m σ H, W i m σ H →
      ((Itl K a).stop i H ∧ D.nx σ H) ∨ ((Itl K a).go i H ∧ ∃ N : St → Hp → Prop, (∀ σ' H', N σ' H' → ∃ m', m' < m ∧ W (i + 1) m' σ' H') ∧ ∀ x H', (Itl K a).yld i H x H' → g x σ H' fun σ2 H2 => tb { D with nx := N, ct := N, bk := D.nx } σ2 H2) := by
  refine ⟨fun i m σ H => m = xs.length - i ∧ i ≤ xs.length ∧ Pv i σ H, ⟨xs.length, by simp, Nat.zero_le _, h0⟩, ?_⟩
  rintro i m σ H ⟨rfl, hi, p⟩
  have q := hl i σ H hi p
  by_cases hlt : i < xs.length
  · refine .inr ⟨⟨xs, xs[i], q, by simp [hlt]⟩, Pv (i + 1), fun σ' H' p' => ⟨xs.length - (i + 1), by omega, rfl, hlt, p'⟩, fun x H' y => ?_⟩
    obtain ⟨e, y⟩ := y
    subst e
    exact hs i x σ _ (y xs q) p
  · have e : i = xs.length := by omega
    subst e
    exact .inl ⟨⟨xs, q, Nat.le_refl _⟩, hd σ H p⟩
theorem for_tup {K : PySem.W.Frag} {a : Addr} {xs : List V} {g : TG} {tb : TS} {D : Ends} {σ : St} {H : Hp} (Pv : Nat → St → Hp → Prop) (h0 : Pv 0 σ H) (hl : ∀ i σ H, i ≤ xs.length → Pv i σ H → SqT K H a xs)
    (hs : ∀ i x σ H, xs[i]? = some x → Pv i σ H → g x σ H fun σ2 H2 => tb { D with nx := Pv (i + 1), ct := Pv (i + 1), bk := D.nx } σ2 H2) (hd : ∀ σ H, Pv xs.length σ H → D.nx σ H) :
    ∃ W : Nat → Nat → St → Hp → Prop, (∃ m, W 0 m σ H) ∧ ∀ i m σ H, W i m σ H →
      ((Itt K a).stop i H ∧ D.nx σ H) ∨ ((Itt K a).go i H ∧ ∃ N : St → Hp → Prop, (∀ σ' H', N σ' H' → ∃ m', m' < m ∧ W (i + 1) m' σ' H') ∧ ∀ x H', (Itt K a).yld i H x H' → g x σ H' fun σ2 H2 => tb { D with nx := N, ct := N, bk := D.nx } σ2 H2) := by
  refine ⟨fun i m σ H => m = xs.length - i ∧ i ≤ xs.length ∧ Pv i σ H, ⟨xs.length, by simp, Nat.zero_le _, h0⟩, ?_⟩
  rintro i m σ H ⟨rfl, hi, p⟩
  have q := hl i σ H hi p
  by_cases hlt : i < xs.length
  · refine .inr ⟨⟨xs, xs[i], q, by simp [hlt]⟩, Pv (i + 1), fun σ' H' p' => ⟨xs.length - (i + 1), by omega, rfl, hlt, p'⟩, fun x H' y => ?_⟩
    obtain ⟨e, y⟩ := y
    subst e
    exact hs i x σ _ (y xs q) p
  · have e : i = xs.length := by omega
    subst e
    exact .inl ⟨⟨xs, q, Nat.le_refl _⟩, hd σ H p⟩
theorem for_range {lo : Int} {n : Nat} {g : TG} {tb : TS} {D : Ends} {σ : St} {H : Hp} (Pv : Nat → St → Hp → Prop) (h0 : Pv 0 σ H)
    (hs : ∀ i σ H, i < n → Pv i σ H → g (.int (lo + i)) σ H fun σ2 H2 => tb { D with nx := Pv (i + 1), ct := Pv (i + 1), bk := D.nx } σ2 H2) (hd : ∀ σ H, Pv n σ H → D.nx σ H) :
    ∃ W : Nat → Nat → St → Hp → Prop, (∃ m, W 0 m σ H) ∧ ∀ i m σ H, W i m σ H →
      ((Itr lo n).stop i H ∧ D.nx σ H) ∨ ((Itr lo n).go i H ∧ ∃ N : St → Hp → Prop, (∀ σ' H', N σ' H' → ∃ m', m' < m ∧ W (i + 1) m' σ' H') ∧ ∀ x H', (Itr lo n).yld i H x H' → g x σ H' fun σ2 H2 => tb { D with nx := N, ct := N, bk := D.nx } σ2 H2) := by
  refine ⟨fun i m σ H => m = n - i ∧ i ≤ n ∧ Pv i σ H, ⟨n, by simp, Nat.zero_le _, h0⟩, ?_⟩
  rintro i m σ H ⟨rfl, hi, p⟩
  by_cases hlt : i < n
  · refine .inr ⟨hlt, Pv (i + 1), fun σ' H' p' => ⟨n - (i + 1), by omega, rfl, hlt, p'⟩, fun x H' y => ?_⟩
    obtain ⟨e, y⟩ := y
    subst e y
    exact hs i σ _ hlt p
  · have e : i = n := by omega
    subst e
    exact .inl ⟨Nat.le_refl _, hd σ H p⟩
end L2
namespace L2
open PySem PySem.Spec PyProof.Rows
abbrev R2 := V → V → Hp → VK → Prop
def OpR (X : Cx) (f : Value → Value → Sem Value) (r : R2) : Prop :=
  ∀ (pins : List (Addr × Obj)) (s : Shared) (σ : St) (H : Hp) (x y : V) (v u : Value) (Q : VK), Inv X pins σ H s → RelV x v → RelV y u → r x y H Q →
    wpAny (model X.prog X.w) X.A (f v u) (EP X pins σ Q) X.xe s
def UnR (X : Cx) (f : Value → Sem Value) (r : V → Hp → VK → Prop) : Prop :=
  ∀ (pins : List (Addr × Obj)) (s : Shared) (σ : St) (H : Hp) (x : V) (v : Value) (Q : VK), Inv X pins σ H s → RelV x v → r x H Q →
    wpAny (model X.prog X.w) X.A (f v) (EP X pins σ Q) X.xe s
def CallR (X : Cx) (f : Value) (r : List V → Hp → VK → Prop) : Prop :=
  ∀ (pins : List (Addr × Obj)) (s : Shared) (σ : St) (H : Hp) (xs : List V) (us : List Value) (Q : VK), Inv X pins σ H s → Vals xs us → r xs H Q →
    wpAny (model X.prog X.w) X.A (call f us) (EP X pins σ Q) X.xe s
def TruR (X : Cx) (r : V → Hp → (Bool → Hp → Prop) → Prop) : Prop :=
  ∀ (pins : List (Addr × Obj)) (s : Shared) (σ : St) (H : Hp) (x : V) (v : Value) (Q : Bool → Hp → Prop), Inv X pins σ H s → RelV x v → r x H Q →
    wpAny (model X.prog X.w) X.A (truthy v) (TP X pins σ Q) X.xe s
def tOp (r : R2) (ta tb : TE) : TE := fun σ H Q => ta σ H fun x H1 => tb σ H1 fun y H2 => r x y H2 Q
def tUn (r : V → Hp → VK → Prop) (ta : TE) : TE := fun σ H Q => ta σ H fun x H1 => r x H1 Q
def rI (C : Int → Int → Prop) (g : Int → Int → V) : R2 := fun x y H Q => ∃ i j, x = .int i ∧ y = .int j ∧ C i j ∧ Q (g i j) H
def rI0 (g : Int → Int → V) : R2 := fun x y H Q => ∃ i j, x = .int i ∧ y = .int j ∧ Q (g i j) H
def rU (g : Int → V) : V → Hp → VK → Prop := fun x H Q => ∃ i, x = .int i ∧ Q (g i) H
section
variable {X : Cx} {a b c : Expr} {ta tb tc : TE} {pos : Pos}
theorem binT (ha : PE X a ta) (hb : PE X b tb) {pins : List (Addr × Obj)} {s : Shared} {σ : St} {H : Hp} {R : V → V → Hp → Prop} (I : Inv X pins σ H s)
    (h : ta σ H fun x H1 => tb σ H1 fun y H2 => R x y H2) {Q : Value → Shared → Prop} {f : Value → Value → Sem Value}
    (hf : ∀ v u s2 x y H2, Inv X pins σ H2 s2 → RelV x v → RelV y u → R x y H2 → wpAny (model X.prog X.w) X.A (f v u) Q X.xe s2) :
    wpAny (model X.prog X.w) X.A (eval a X.env) (fun v s₁ => wpAny (model X.prog X.w) X.A (eval b X.env) (fun u s₂ => wpAny (model X.prog X.w) X.A (f v u) Q X.xe s₂) X.xe s₁) X.xe s := by
  refine thn (ha pins s σ H _ I h) fun v s1 ⟨x, H1, I1, r1, q1⟩ => ?_
  refine thn (hb pins s1 σ H1 _ I1 q1) fun u s2 ⟨y, H2, I2, r2, q2⟩ => ?_
  exact hf v u s2 x y H2 I2 r1 r2 q2
theorem pe_op {op : Operator} {r : R2} (ho : OpR X (binaryOp op) r) (ha : PE X a ta) (hb : PE X b tb) : PE X (.BinOp a op b pos) (tOp r ta tb) := by
  intro pins s σ H Q I h
  exact wpAny_BinOp (binT ha hb I h fun v u s2 x y H2 I2 rx ry q => ho pins s2 σ H2 x y v u Q I2 rx ry q)
theorem pe_un {op : UnaryOp} {r : V → Hp → VK → Prop} (ho : UnR X (unaryOp op) r) (ha : PE X a ta) : PE X (.UnaryOp op a pos) (tUn r ta) := by
  intro pins s σ H Q I h
  exact UnaryOp_ (thn (ha pins s σ H _ I h) fun v s1 ⟨x, H1, I1, r1, q1⟩ => ho pins s1 σ H1 x v Q I1 r1 q1)
theorem opI {f : Value → Value → Sem Value} {C : Int → Int → Prop} {g : Int → Int → Int}
    (rule : ∀ (i j : Int) (t u : Tok) (s : Shared) (Q : Value → Shared → Prop) (E : Value → Shared → Prop), C i j → Q (.int (g i j) s.toks) { s with toks := s.toks + 1 } → wpAny (model X.prog X.w) X.A (f (.int i t) (.int j u)) Q E s) :
    OpR X f (rI C fun i j => .int (g i j)) := by
  intro pins s σ H x y v u Q I rx ry h
  obtain ⟨i, j, rfl, rfl, hc, q⟩ := h
  obtain ⟨t, rfl⟩ := rx
  obtain ⟨t', rfl⟩ := ry
  exact rule i j t t' s _ _ hc ⟨.int (g i j), H, I.tok _, ⟨_, rfl⟩, q⟩
theorem opI0 {f : Value → Value → Sem Value} {g : Int → Int → Int}
    (rule : ∀ (i j : Int) (t u : Tok) (s : Shared) (Q : Value → Shared → Prop) (E : Value → Shared → Prop), Q (.int (g i j) s.toks) { s with toks := s.toks + 1 } → wpAny (model X.prog X.w) X.A (f (.int i t) (.int j u)) Q E s) :
    OpR X f (rI0 fun i j => .int (g i j)) := by
  intro pins s σ H x y v u Q I rx ry h
  obtain ⟨i, j, rfl, rfl, q⟩ := h
  obtain ⟨t, rfl⟩ := rx
  obtain ⟨t', rfl⟩ := ry
  exact rule i j t t' s _ _ ⟨.int (g i j), H, I.tok _, ⟨_, rfl⟩, q⟩
theorem opB0 {f : Value → Value → Sem Value} {g : Int → Int → Bool}
    (rule : ∀ (i j : Int) (t u : Tok) (s : Shared) (Q : Value → Shared → Prop) (E : Value → Shared → Prop), Q (.bool (g i j)) s → wpAny (model X.prog X.w) X.A (f (.int i t) (.int j u)) Q E s) :
    OpR X f (rI0 fun i j => .bl (g i j)) := by
  intro pins s σ H x y v u Q I rx ry h
  obtain ⟨i, j, rfl, rfl, q⟩ := h
  obtain ⟨t, rfl⟩ := rx
  obtain ⟨t', rfl⟩ := ry
  exact rule i j t t' s _ _ ⟨.bl (g i j), H, I, rfl, q⟩
def CDiv (i j : Int) : Prop := 0 < j ∧ j < 1073741824
def CPow (i j : Int) : Prop := 0 ≤ j ∧ j ≤ 1000000 ∧ i.natAbs < 2 ^ 64
def CMul (i j : Int) : Prop := (-(2 ^ 64) < i ∧ i < 2 ^ 64) ∨ (-(2 ^ 64) < j ∧ j < 2 ^ 64)
theorem CMul.ok {i j : Int} (h : CMul i j) : IntMulOk i j := by
  rcases h with ⟨h1, h2⟩ | ⟨h1, h2⟩
  · exact .of_left (intBits_le_64 h1 h2)
  · exact .of_right (intBits_le_64 h1 h2)
theorem op_add : OpR X (binaryOp .Add) (rI0 fun i j => .int (i + j)) := opI0 fun _ _ _ _ _ _ _ q => add_int q
theorem op_sub : OpR X (binaryOp .Sub) (rI0 fun i j => .int (i - j)) := opI0 fun _ _ _ _ _ _ _ q => sub_int q
theorem op_mul : OpR X (binaryOp .Mult) (rI CMul fun i j => .int (i * j)) := opI fun _ _ _ _ _ _ _ hc q => mul_int q hc.ok
theorem op_fdiv : OpR X (binaryOp .FloorDiv) (rI CDiv fun i j => .int (i / j)) := opI fun i j _ _ _ _ _ hc q => by
  have h1 : (0 : Int) < j := hc.1
  have h2 : j < 1073741824 := hc.2
  exact floordiv_int (by omega) (by rw [Int.fdiv_eq_ediv_of_nonneg i (by omega)]; exact q) (.inl (PyProof.noPylong_small (by omega)))
theorem op_mod : OpR X (binaryOp .Mod) (rI (fun _ j => 0 < j) fun i j => .int (i % j)) := opI fun i j _ _ _ _ _ hc q => by
  have h1 : (0 : Int) < j := hc
  exact mod_int' (by omega) (by rw [Int.fmod_eq_emod_of_nonneg i (by omega)]; exact q)
theorem op_pow : OpR X (binaryOp .Pow) (rI CPow fun i j => .int (i ^ j.toNat)) := opI fun _ _ _ _ _ _ _ hc q => pow_int_small hc.1 hc.2.1 hc.2.2 q
theorem unI {f : Value → Sem Value} {g : Int → Int}
    (rule : ∀ (i : Int) (t : Tok) (s : Shared) (Q : Value → Shared → Prop) (E : Value → Shared → Prop), Q (.int (g i) s.toks) { s with toks := s.toks + 1 } → wpAny (model X.prog X.w) X.A (f (.int i t)) Q E s) :
    UnR X f (rU fun i => .int (g i)) := by
  intro pins s σ H x v Q I rx h
  obtain ⟨i, rfl, q⟩ := h
  obtain ⟨t, rfl⟩ := rx
  exact rule i t s _ _ ⟨.int (g i), H, I.tok _, ⟨_, rfl⟩, q⟩
theorem un_neg : UnR X (unaryOp .USub) (rU fun i => .int (-i)) := unI fun _ _ _ _ _ q => neg_int q
end
section
variable {X : Cx} {a b c : Expr} {ta tb tc : TE} {pos : Pos}
theorem fin_bl {pins : List (Addr × Obj)} {σ : St} {H : Hp} {s : Shared} {Q : VK} {k k' : Bool} (I : Inv X pins σ H s) (q : Q (.bl k) H) (e : k = k') : EP X pins σ Q (.bool k') s := by
  subst e
  exact ⟨.bl k, H, I, rfl, q⟩
theorem op_lt : OpR X (compareOp .Lt) (rI0 fun i j => .bl (decide (i < j))) := opB0 fun _ _ _ _ _ _ _ q => lt_int q
theorem op_le : OpR X (compareOp .LtE) (rI0 fun i j => .bl (decide (i ≤ j))) := opB0 fun _ _ _ _ _ _ _ q => le_int q
theorem op_gt : OpR X (compareOp .Gt) (rI0 fun i j => .bl (decide (j < i))) := opB0 fun _ _ _ _ _ _ _ q => gt_int q
theorem op_ge : OpR X (compareOp .GtE) (rI0 fun i j => .bl (decide (j ≤ i))) := opB0 fun _ _ _ _ _ _ _ q => ge_int q
theorem op_notN : OpR X (compareOp .IsNot) (fun x y H Q => y = .non ∧ Q (.bl (!decide (x = .non))) H) := by
  intro pins s σ H x y v u Q I rx ry h
  obtain ⟨rfl, q⟩ := h
  cases ry
  refine isnot_none_gen (fin_bl I q ?_)
  cases x <;> first
    | (cases rx; rfl)
    | (obtain ⟨t, rfl⟩ := rx; rfl)
theorem OpR.or {f : Value → Value → Sem Value} {r r' : R2} (h : OpR X f r) (h' : OpR X f r') : OpR X f (fun x y H Q => r x y H Q ∨ r' x y H Q) := by
  intro pins s σ H x y v u Q I rx ry q
  rcases q with q | q
  · exact h pins s σ H x y v u Q I rx ry q
  · exact h' pins s σ H x y v u Q I rx ry q
theorem nomark (b : Expr) {op : CmpOp} (h : op ≠ .In := by decide) (h2 : op ≠ .NotIn := by decide) : behindInMarks op b = false := by
  have e1 : (op == CmpOp.In) = false := by cases op <;> first | rfl | exact absurd rfl h
  have e2 : (op == CmpOp.NotIn) = false := by cases op <;> first | rfl | exact absurd rfl h2
  cases b <;> simp [behindInMarks, e1, e2]
theorem pe_cmpR {op : CmpOp} {r : R2} (ho : OpR X (compareOp op) r) (ha : PE X a ta) (hb : PE X b tb) (hm : behindInMarks op b = false) : PE X (.Compare a [op] [b] pos) (tOp r ta tb) := by
  intro pins s σ H Q I h
  exact wpAny_Compare1 (binT ha hb I h fun v u s2 x y H2 I2 rx ry q => ho pins s2 σ H2 x y v u Q I2 rx ry q) hm
def tTest (t : TE) : TT := fun σ H Q => t σ H fun x H' => ∃ k, x = .bl k ∧ Q k H'
theorem pt_cmpR {op : CmpOp} {r : R2} (ho : OpR X (compareOp op) r) (ha : PE X a ta) (hb : PE X b tb) (hm : behindInMarks op b = false) : PT X (.Compare a [op] [b] pos) (tTest (tOp r ta tb)) := by
  intro pins s σ H Q I h
  refine wpAny_isTrue_Compare1 (thn (ha pins s σ H _ I h) fun v s1 ⟨x, H1, I1, r1, q1⟩ => thn (hb pins s1 σ H1 _ I1 q1) fun u s2 ⟨y, H2, I2, r2, q2⟩ =>
    thn (ho pins s2 σ H2 x y v u _ I2 r1 r2 q2) fun c s3 ⟨z, H3, I3, r3, k, e, q3⟩ => ?_) hm
  subst e
  cases r3
  exact wpAny_truthy_bool ⟨H3, I3, q3⟩
def tChain (r r' : R2) (ta tb tc : TE) : TE := fun σ H Q => ta σ H fun x H1 => tb σ H1 fun y H2 => r x y H2 fun z H3 => ∃ k, z = .bl k ∧
  (if k = true then tc σ H3 fun w' H4 => r' y w' H4 Q else Q (.bl false) H3)
theorem pt_chain {op op' : CmpOp} {r r' : R2} (ho : OpR X (compareOp op) r) (ho' : OpR X (compareOp op') r') (ha : PE X a ta) (hb : PE X b tb) (hc : PE X c tc)
    (hm : lastMarks [op, op'] [b, c] = false := by with_unfolding_all rfl) : PT X (.Compare a [op, op'] [b, c] pos) (tTest (tChain r r' ta tb tc)) := by
  intro pins s σ H Q I h
  refine isTrue_chain (thn (ha pins s σ H _ I h) fun v s1 ⟨x, H1, I1, r1, q1⟩ => test_link (thn (hb pins s1 σ H1 _ I1 q1) fun u s2 ⟨y, H2, I2, r2, q2⟩ =>
    thn (ho pins s2 σ H2 x y v u _ I2 r1 r2 q2) fun d s3 ⟨z, H3, I3, r3, k, e, q3⟩ => ?_)) hm
  subst e
  cases r3
  refine wpAny_truthy_bool ?_
  cases k with
  | false =>
    obtain ⟨k', e', q'⟩ := q3
    cases e'
    exact ite_ff ⟨H3, I3, q'⟩
  | true =>
    refine ite_tt (test_last (thn (hc pins s3 σ H3 _ I3 q3) fun w' s4 ⟨z', H4, I4, r4, q4⟩ => thn (ho' pins s4 σ H4 y z' u w' _ I4 r2 r4 q4) fun d' s5 ⟨z2, H5, I5, r5, k2, e2, q5⟩ => ?_))
    subst e2
    cases r5
    exact wpAny_truthy_bool ⟨H5, I5, q5⟩
def TruV (K : PySem.W.Frag) (x : V) (H : Hp) (k : Bool) : Prop :=
  match x with
  | .non => k = false
  | .bl b => k = b
  | .int i => k = (i != 0)
  | .str y => y.length ≤ sizeLine ∧ k = ((y.length : Int) != 0)
  | .byt y => y.size ≤ sizeLine ∧ k = ((y.size : Int) != 0)
  | .ref p => (∃ xs, SqL K H p xs ∧ k = !xs.isEmpty) ∨ (∃ xs, SqT K H p xs ∧ k = !xs.isEmpty) ∨ ∃ kvs, H p = some (.dK kvs) ∧ k = !kvs.isEmpty
  | _ => False
theorem isEmpty_kv {κ : Type} {kvs : List (κ × V)} {vs : List (κ × Value)} (r : KV kvs vs) : (!vs.isEmpty) = !kvs.isEmpty := by
  cases r <;> rfl
theorem isEmpty_of {xs : List V} {its : List Value} (r : Vals xs its) : (!its.toArray.isEmpty) = !xs.isEmpty := by
  cases r <;> simp
theorem line63 : (sizeLine : Nat) < 2 ^ 63 := by rw [sizeLine_eq]; decide
theorem tru_ok : TruR X (fun x H Q => ∃ k, TruV X.K x H k ∧ Q k H) := by
  intro pins s σ H x v Q I rx h
  obtain ⟨k, e, q⟩ := h
  have hl := line63
  have hs : sizeLine = 16777216 := sizeLine_eq
  cases x with
  | non =>
    cases rx
    have e' : k = false := e
    subst e'
    exact truthy_none ⟨H, I, q⟩
  | bl b =>
    cases rx
    have e' : k = b := e
    subst e'
    exact wpAny_truthy_bool ⟨H, I, q⟩
  | int i =>
    obtain ⟨t, rfl⟩ := rx
    have e' : k = (i != 0) := e
    subst e'
    exact PySem.P.truthy_int ⟨H, I, q⟩
  | str y =>
    obtain ⟨t, rfl⟩ := rx
    obtain ⟨hy, e'⟩ : y.length ≤ sizeLine ∧ k = ((y.length : Int) != 0) := e
    subst e'
    exact PySem.P.truthy_str (by omega) ⟨H, I.tok _, q⟩
  | byt y =>
    obtain ⟨t, rfl⟩ := rx
    obtain ⟨hy, e'⟩ : y.size ≤ sizeLine ∧ k = ((y.size : Int) != 0) := e
    subst e'
    exact PySem.W.truthy_bytes (by omega) ⟨H, I.tok _, q⟩
  | ref p =>
    cases rx
    have e' : (∃ xs, SqL X.K H p xs ∧ k = !xs.isEmpty) ∨ (∃ xs, SqT X.K H p xs ∧ k = !xs.isEmpty) ∨ ∃ kvs, H p = some (.dK kvs) ∧ k = !kvs.isEmpty := e
    rcases e' with ⟨xs, hx, e'⟩ | ⟨xs, hx, e'⟩ | ⟨kvs, hx, e'⟩
    · subst e'
      obtain ⟨its, r, pl, hz⟩ := I.list hx
      have hlen := r.length
      exact wpAny_truthy_list pl.isList (by simp only [List.size_toArray]; omega) ⟨H, I.tok _, by rw [isEmpty_of r]; exact q⟩
    · subst e'
      obtain ⟨its, r, pl, hz⟩ := I.tuple hx
      have hlen := r.length
      exact truthy_tuple pl (by simp only [List.size_toArray]; omega) ⟨H, I.tok _, by rw [isEmpty_of r]; exact q⟩
    · subst e'
      obtain ⟨hz, hS, vs, r, m⟩ : kvs.length ≤ sizeLine ∧ (p == sysModules) = false ∧ ∃ vs, KV kvs vs ∧ s.heap.DictOf (mixKind X.prog X.w) p vs := I.hok p _ hx
      have hlen : kvs.length = vs.length := Paired.length r
      exact wpAny_truthy_dict hS m (by omega) ⟨H, I.tok _, by rw [isEmpty_kv r]; exact q⟩
  | _ => exact (show False from e).elim
theorem pt_truth (ha : PE X a ta) (he : ∀ whole, isTrue a X.env whole = (do let v ← whole; standAt a.pos; holding [v] (truthy v))) :
    PT X a (fun σ H Q => ta σ H fun x H' => ∃ k, TruV X.K x H' k ∧ Q k H') := by
  intro pins s σ H Q I h
  exact isTrue_plain (thn (ha pins s σ H _ I h) fun v s1 ⟨x, H1, I1, r1, q1⟩ => tru_ok pins s1 σ H1 x v Q I1 r1 q1) (he _)
theorem op_add_str : OpR X (binaryOp .Add) (fun x y H Q => ∃ i j, x = .str i ∧ y = .str j ∧ i.length + j.length ≤ sizeLine ∧ Q (.str (i ++ j)) H) := by
  intro pins s σ H x y v u Q I rx ry h
  obtain ⟨i, j, rfl, rfl, hz, q⟩ := h
  obtain ⟨t, rfl⟩ := rx
  obtain ⟨t', rfl⟩ := ry
  exact add_str (fun t' tk => ⟨.str (i ++ j), H, I.tok _, ⟨_, rfl⟩, q⟩) hz
theorem vals1 {x : V} {us : List Value} (r : Vals [x] us) : ∃ u, us = [u] ∧ RelV x u := by
  cases r with
  | cons r1 r2 => cases r2; exact ⟨_, rfl, r1⟩
theorem vals2 {x y : V} {us : List Value} (r : Vals [x, y] us) : ∃ u w', us = [u, w'] ∧ RelV x u ∧ RelV y w' := by
  cases r with
  | cons r1 r2 =>
    cases r2 with
    | cons r3 r4 => cases r4; exact ⟨_, _, rfl, r1, r3⟩
theorem call_max2 (hc : X.calm = true) : CallR X (.builtin "max") (fun xs H Q => ∃ i j, xs = [.int i, .int j] ∧ Q (.int (if j > i then j else i)) H) := by
  intro pins s σ H xs us Q I r h
  obtain ⟨i, j, rfl, q⟩ := h
  obtain ⟨u, w', rfl, ⟨t, rfl⟩, ⟨t', rfl⟩⟩ := vals2 r
  refine max_two_ints (I.ok.hd hc) fun h' tk k => ⟨_, H, I.kept k, ?_, q⟩
  by_cases hj : j > i
  · rw [if_pos hj, if_pos hj]; exact ⟨_, rfl⟩
  · rw [if_neg hj, if_neg hj]; exact ⟨_, rfl⟩
theorem call_int1 : CallR X (.type "int") (fun xs H Q => (∃ i, xs = [.int i] ∧ Q (.int i) H) ∨ ∃ k, xs = [.bl k] ∧ Q (.int (if k then 1 else 0)) H) := by
  intro pins s σ H xs us Q I r h
  rcases h with ⟨i, rfl, q⟩ | ⟨k, rfl, q⟩
  · obtain ⟨u, rfl, t, rfl⟩ := vals1 r
    exact call_int_int ⟨.int i, H, I, ⟨_, rfl⟩, q⟩
  · obtain ⟨u, rfl, r1⟩ := vals1 r
    cases r1
    exact call_int_bool ⟨.int (if k then 1 else 0), H, I.tok _, ⟨_, rfl⟩, q⟩
end
end L2
namespace L2
open PySem PySem.Spec PyProof.Rows
structure ObjM (h : Heap) (x dx C : Addr) (mA : Str → Option Value) : Prop where
  obj : h.get? x = some (PySem.W.instObj C dx)
  ns : h.Ns1 dx mA
  ne : dx ≠ x
section
variable {prog : Program} {w : World} {A : Around} {E : Value → Shared → Prop} {s : Shared} {K : PySem.W.Frag} {x dx C f : Addr} {mA : Str → Option Value} {name : Str} {v : Value}
end
theorem RelO.some_of {v : V} {o : Option Value} (r : RelO (some v) o) : ∃ u, o = some u ∧ RelV v u := by
  cases o with
  | none => exact (show False from r).elim
  | some u => exact ⟨u, rfl, r⟩
section
variable {P : Program} {w : World} {H H' : Hp} {h h' : Heap} {a C dx : Addr} {fs fs' : List (Str × V)}
end
structure Cls (K : PySem.W.Frag) (C : Addr) : Prop where
  pg : PySem.W.plainGet K C Str.empty = true
  hd : PySem.W.hasDictIn K C = true
  po : PySem.W.plainOver K C = true
  sa : PySem.W.findIn K (.ref C) "__setattr__" = some (some (.builtin "object.__setattr__"))
theorem Cls.get {K : PySem.W.Frag} {C : Addr} (c : Cls K C) (f : Str) : PySem.W.plainGet K C f = true := c.pg
structure Con (K : PySem.W.Frag) (C : Addr) (f : Str) (v : V) (u : Value) : Prop where
  at_ : PySem.W.findIn K (.ref C) f = some (some u)
  rel : RelV v u
  get : PySem.W.specialIn K u "__get__" = some none
  cp : PySem.W.copiedNames.contains f = false
structure Meth (K : PySem.W.Frag) (C : Addr) (m : Str) (f : Addr) : Prop where
  at_ : PySem.W.findIn K (.ref C) m = some (some (.ref f))
  fn : PySem.W.isFn K (.ref f) = true
  kp : PySem.W.keepIn K (.ref f) = true
section
variable {X : Cx} {pins : List (Addr × Obj)} {σ : St} {H : Hp} {s : Shared} {a C dx : Addr} {fs : List (Str × V)} {f : Str} {v : V} {A : Around} {E : Value → Shared → Prop}
theorem Inv.made (I : Inv X pins σ H s) : Inv X pins σ (upd (upd H s.heap.objs.size (.own (s.heap.objs.size + 1))) (s.heap.objs.size + 1) (.ins C s.heap.objs.size []))
    { s with heap := (s.heap.push PySem.W.emptyDict).push (PySem.W.instObj C s.heap.objs.size) } := by
  have e1 : (s.heap.push PySem.W.emptyDict).get? s.heap.objs.size = some PySem.W.emptyDict := Heap.get?_push_size s.heap rfl
  have e2 : ((s.heap.push PySem.W.emptyDict).push (PySem.W.instObj C s.heap.objs.size)).get? (s.heap.objs.size + 1) = some (PySem.W.instObj C s.heap.objs.size) := by
    have := Heap.get?_push_size (s.heap.push PySem.W.emptyDict) (o := PySem.W.instObj C s.heap.objs.size) rfl
    rwa [Heap.size_push] at this
  have e3 : (s.heap.push PySem.W.emptyDict).Ns s.heap.objs.size (fun _ => none) := ⟨PySem.W.emptyDict, #[], _, e1, rfl, (fun e he => absurd he (by simp)), fun _ => rfl⟩
  have I1 := I.laid (a := s.heap.objs.size) (o := .own (s.heap.objs.size + 1)) (h' := s.heap.push PySem.W.emptyDict) (t' := s.toks) (fun b u q => Heap.get?_push_of_some _ q) (Nat.le_refl _) ⟨_, e1⟩
  refine I1.laid (a := s.heap.objs.size + 1) (o := .ins C s.heap.objs.size []) (t' := s.toks) (fun b u q => Heap.get?_push_of_some _ q) (Nat.le_of_eq (Heap.size_push _ _)) ?_
  have ne : s.heap.objs.size ≠ s.heap.objs.size + 1 := Nat.ne_of_lt (Nat.lt_succ_self _)
  refine ⟨by rw [upd_ne ne, upd_same], Nat.zero_le _, ne, e2, fun _ => none, (Heap.Ns1.of_empty e3).at fun o q => Heap.get?_push_of_some _ q, fun _ => True.intro, fun y hy => absurd rfl hy⟩
end
section
variable {X : Cx} {o e value : Expr} {f : Str} {pos pos' tpos : Pos} {ta tv : TE}
end
section
variable {X : Cx} {pins : List (Addr × Obj)} {σ : St} {H : Hp} {s : Shared} {A : Around} {E : Value → Shared → Prop} {Q : Value → Shared → Prop} {c : Value} {b : Bool}
inductive TyOf (K : PySem.W.Frag) (H : Hp) : V → Value → Prop where
  | non : TyOf K H .non (.type "NoneType")
  | bl (x : Bool) : TyOf K H (.bl x) (.type "bool")
  | int (i : Int) : TyOf K H (.int i) (.type "int")
  | str (x : Str) : TyOf K H (.str x) (.type "str")
  | flt (x : UInt64) : TyOf K H (.flt x) (.type "float")
  | lst {a : Addr} {xs : List V} (e : H a = some (.lst xs)) : TyOf K H (.ref a) (.type "list")
  | frz {a : Addr} {o : Obj} {xs : List V} (e : H a = some (.frz o (.lst xs))) : TyOf K H (.ref a) (.type "list")
  | tup {a : Addr} {xs : List V} (e : H a = some (.tup xs)) : TyOf K H (.ref a) (.type "tuple")
  | dK {a : Addr} {kvs : List (Key × V)} (e : H a = some (.dK kvs)) : TyOf K H (.ref a) (.type "dict")
  | dT {a : Addr} {kvs : List (List Key × V)} (e : H a = some (.dT kvs)) : TyOf K H (.ref a) (.type "dict")
  | ins {a C dx : Addr} {fs : List (Str × V)} (e : H a = some (.ins C dx fs)) (cl : Cls K C) (ha : PySem.W.findIn K (.ref C) "__class__" = some (some (.builtin "object.__class__")))
      (hn : PySem.W.specialIn K (.builtin "object.__class__") "__get__" = some (some (.builtin "getset_descriptor.__get__"))) (htk : PySem.W.takesIn K (.builtin "object.__class__") = some true)
      (hm : PySem.W.mroIn K C (.type "object") = some true) : TyOf K H (.ref a) (.ref C)
end
end L2
namespace L2
open PySem PySem.Spec PyProof.Rows
structure Room (k : Nat) (A : Around) : Prop where
  hd : A.handled = none
  dp : A.depth + 3 * k + 5 < recursionLimit
  un : A.units + 16 * k + 200 < cLine
  gd : A.guards = some []
theorem Room.mono {j k : Nat} {A : Around} (r : Room k A) (h : j ≤ k) : Room j A := ⟨r.hd, by have := r.dp; omega, by have := r.un; omega, r.gd⟩
theorem Room.deeper {k : Nat} {A : Around} (r : Room (k + 1) A) (env : Env) : Room k (A.deeper env) :=
  ⟨r.hd, by have := r.dp; show A.depth + 1 + 3 * k + 5 < _; omega, by have := r.un; show A.units + 3 + 16 * k + 200 < _; omega, r.gd⟩
theorem Room.in1 {k : Nat} {A : Around} (r : Room (k + 1) A) : Room k A.in1 :=
  ⟨r.hd, by have := r.dp; show A.depth + 3 * k + 5 < _; omega, by have := r.un; show A.units + 1 + 16 * k + 200 < _; omega, r.gd⟩
theorem Room.depth {k : Nat} {A : Around} (r : Room k A) : A.depth < recursionLimit := by have := r.dp; omega
theorem Room.units {k : Nat} {A : Around} (r : Room k A) : A.units + 64 < cLine := by have := r.un; omega
def tNil : TA := fun _ H Q => Q [] H
def tCons (ta : TE) (tr : TA) : TA := fun σ H Q => ta σ H fun x H1 => tr σ H1 fun xs H2 => Q (x :: xs) H2
section
variable {X : Cx} {e : Expr} {es : List Expr} {te : TE} {t : TA} {pos : Pos}
theorem pa_nil : PA X [] tNil := fun _ _ _ _ H Q I h => Calls.spliced_nil ⟨[], H, I, .nil, h⟩
theorem pa_cons (ha : PE X e te) (hr : PA X es t) (hs : starEach (e :: es) X.env = (false, eval e X.env) :: starEach es X.env := by rfl) : PA X (e :: es) (tCons te t) := by
  intro pos pins s σ H Q I h
  rw [hs]
  show wpAny _ _ (spliced ((false, eval e X.env) :: backTo pos (starEach es X.env))) _ _ s
  refine Calls.spliced_cons (thn (ha pins s σ H _ I h) fun u s1 ⟨x, H1, I1, r1, q1⟩ => ?_)
  exact thn (hr pos pins s1 σ H1 _ I1 q1) fun us s2 ⟨xs, H2, I2, r2, q2⟩ => ⟨x :: xs, H2, I2, .cons r1 r2, q2⟩
def tTup (t : TA) : TE := fun σ H Q => t σ H fun xs H1 => xs.length ≤ sizeLine ∧ ∀ p, H1 p = none → Q (.ref p) (upd H1 p (.tup xs))
def tLst (t : TA) : TE := fun σ H Q => t σ H fun xs H1 => xs.length ≤ sizeLine ∧ ∀ p, H1 p = none → Q (.ref p) (upd H1 p (.lst xs))
theorem pe_tup {x1} (h : PA X es t) : PE X (.Tuple es x1 pos) (tTup t) := by
  intro pins s σ H Q I hq
  refine wpAny_Tuple_spliced (thn (h pos pins s σ H _ I hq) fun us s1 ⟨xs, H1, I1, r, z, q⟩ => ⟨by rw [← r.length]; exact z, ?_⟩)
  have hf : H1 s1.heap.objs.size = none := I1.hok.fresh (Nat.le_refl _)
  refine ⟨.ref s1.heap.objs.size, upd H1 s1.heap.objs.size (.tup xs), I1.laid (t' := s1.toks) (fun b u e => Heap.get?_push_of_some _ e) (Nat.le_refl _) ?_, rfl, q _ hf⟩
  exact ⟨z, us, r, TupN.new _ _⟩
theorem pe_lst (h : PA X es t) : PE X (.List es pos) (tLst t) := by
  intro pins s σ H Q I hq
  refine wpAny_List_spliced (thn (h pos pins s σ H _ I hq) fun us s1 ⟨xs, H1, I1, r, z, q⟩ => ⟨by rw [← r.length]; exact z, ?_⟩)
  have hf : H1 s1.heap.objs.size = none := I1.hok.fresh (Nat.le_refl _)
  refine ⟨.ref s1.heap.objs.size, upd H1 s1.heap.objs.size (.lst xs), I1.laid (t' := s1.toks) (fun b u e => Heap.get?_push_of_some _ e) (Nat.le_refl _) ?_, rfl, q _ hf⟩
  exact ⟨z, us, 0, r, Heap.get?_push_size _ rfl⟩
end
abbrev Sp := List V → Hp → VK → XK → Prop
abbrev CXT := List Env → Hp → Shared → XK → Value → Shared → Prop
structure Env0 (P : Program) (w : World) (K : PySem.W.Frag) (mg : Str → Option Value) (base : Heap) (A : Around) (outer : List Env) (s : Shared) (H : Hp) : Prop where
  frames : A.frames = some outer
  mod : Mod K mg base
  bs : ∀ b o, base.get? b = some o → s.heap.get? b = some o ∧ H b = none
  bsz : base.objs.size ≤ s.heap.objs.size
  funs : s.heap.FunFrames base outer
  frf : ∀ b ∈ frs outer, H b = none
  hok : HOk P w H s.heap
  bare : AllBare s.gens
def CE (outer : List Env) (P : Program) (w : World) (H : Hp) (s : Shared) (Q : VK) (u : Value) (s' : Shared) : Prop :=
  ∃ v H', s'.os = s.os ∧ AllBare s'.gens ∧ Un (frs outer) [] H H' s.heap s'.heap ∧ HOk P w H' s'.heap ∧ RelV v u ∧ Q v H'
def CR (CX : CXT) (outer : List Env) (P : Program) (w : World) (H : Hp) (s : Shared) (Q : VK) (E : XK) (r : Result) (s' : Shared) : Prop :=
  match r with
  | .ok (.ret u) => CE outer P w H s Q u s'
  | .ok _ => False
  | .error e => CX outer H s E e s'
structure FnOk (P : Program) (w : World) (K : PySem.W.Frag) (mg : Str → Option Value) (base : Heap) (CX : CXT) (k : Nat) (f : Addr) (fd : FuncData) (ps : List Str) (sp : Sp) : Prop where
  len : ∀ vs H Q E, sp vs H Q E → vs.length = ps.length
  run : ∀ (A : Around) (outer : List Env) (s : Shared) (H : Hp) (args : Args) (us : List Value) (vs : List V) (Q : VK) (E : XK), Room k A → Env0 P w K mg base A outer s H → BindsTo s fd args (ps.zip us) → Vals vs us → sp vs H Q E →
    codeAny (model P w) A (.call (.ref f) args) (CR CX outer P w H s Q E) s
theorem FnOk.mono {P : Program} {w : World} {K : PySem.W.Frag} {mg : Str → Option Value} {base : Heap} {CX : CXT} {j k : Nat} {f : Addr} {fd : FuncData} {ps : List Str} {sp : Sp} (F : FnOk P w K mg base CX j f fd ps sp) (h : j ≤ k) :
    FnOk P w K mg base CX k f fd ps sp := ⟨F.len, fun A outer s H args us vs Q E hr => F.run A outer s H args us vs Q E (hr.mono h)⟩
theorem FnOk.imp {P : Program} {w : World} {K : PySem.W.Frag} {mg : Str → Option Value} {base : Heap} {CX : CXT} {k : Nat} {f : Addr} {fd : FuncData} {ps : List Str} {sp sp' : Sp} (F : FnOk P w K mg base CX k f fd ps sp)
    (h : ∀ vs H Q E, sp' vs H Q E → sp vs H Q E) : FnOk P w K mg base CX k f fd ps sp' :=
  ⟨fun vs H Q E q => F.len vs H Q E (h _ _ _ _ q), fun A outer s H args us vs Q E hr he hb hv hs => F.run A outer s H args us vs Q E hr he hb hv (h _ _ _ _ hs)⟩
theorem Env0.in1 {P : Program} {w : World} {K : PySem.W.Frag} {mg : Str → Option Value} {base : Heap} {A : Around} {outer : List Env} {s : Shared} {H : Hp} (e : Env0 P w K mg base A outer s H) :
    Env0 P w K mg base A.in1 outer s H := ⟨e.frames, e.mod, e.bs, e.bsz, e.funs, e.frf, e.hok, e.bare⟩
section
variable {X : Cx} {pins : List (Addr × Obj)} {σ : St} {H : Hp} {s s' : Shared}
theorem Inv.env0 (I : Inv X pins σ H s) : Env0 X.prog X.w X.K X.mg X.base X.A X.stack s H :=
  ⟨I.ok.frames, I.ok.mod, I.bs, Nat.le_trans I.ok.bsz I.sz, I.stack, I.stkFree, I.hok, I.bare⟩
theorem Inv.after {Q : VK} {u : Value} (I : Inv X pins σ H s) (h : CE X.stack X.prog X.w H s Q u s') : EP X pins σ Q u s' := by
  obtain ⟨v, H', os, bare, un, hok, r, q⟩ := h
  obtain ⟨hh, g, d, t, os'⟩ := s'
  obtain rfl : os' = s.os := os
  exact ⟨v, H', I.call (h' := hh) (g' := g) (d' := d) (t' := t) (ch := []) un hok bare (fun b z => absurd z (by simp)), r, q⟩
end
def tCall (sp : Sp) (dvs : List V) (E : XK) (t : TA) : TE := fun σ H Q => t σ H fun vs H1 => sp (vs ++ dvs) H1 Q E
def Binds (K : PySem.W.Frag) (fd : FuncData) (ps : List Str) (ds : List Value) : Prop :=
  ∀ (s : Shared) (us : List Value), K.In s.heap → (us ++ ds).length = ps.length → BindsTo s fd ⟨us, []⟩ (ps.zip (us ++ ds))
theorem Binds.all {K : PySem.W.Frag} {fd : FuncData} {ps : List Str} (h : ∀ us : List Value, us.length = ps.length → bindArgs fd ⟨us, []⟩ = pure (ps.zip us)) : Binds K fd ps [] := fun s us _ hl => by
  rw [List.append_nil] at hl ⊢
  exact .of_eq (h us hl)
def Passes (CX : CXT) (X : Cx) (E : XK) : Prop := ∀ (pins : List (Addr × Obj)) (σ : St) (H : Hp) (s : Shared) (e : Value) (s' : Shared), Inv X pins σ H s → CX X.stack H s E e s' → X.xe e s'
section
variable {X : Cx} {CX : CXT} {k : Nat} {f C : Addr} {fd : FuncData} {ps : List Str} {sp : Sp} {dvs : List V} {ds : List Value} {E : XK} {x m : Str} {p pos apos : Pos} {e o : Expr} {es : List Expr} {ta : TE} {t : TA}
theorem run_fn {pins : List (Addr × Obj)} {σ : St} {H : Hp} {s : Shared} {Q : VK} {us : List Value} {vs : List V} (F : FnOk X.prog X.w X.K X.mg X.base CX k f fd ps sp) (hr : Room k X.A) (hb : Binds X.K fd ps ds) (hd : Vals dvs ds) (hx : Passes CX X E)
    (I : Inv X pins σ H s) (r : Vals vs us) (h : sp (vs ++ dvs) H Q E) : wpAny (model X.prog X.w) X.A (call (.ref f) us) (EP X pins σ Q) X.xe s := by
  have r2 : Vals (vs ++ dvs) (us ++ ds) := r.append hd
  have hl : (us ++ ds).length = ps.length := by rw [← r2.length]; exact F.len _ _ _ _ h
  refine wpAny_call (codeAny_mono (F.run X.A X.stack s H ⟨us, []⟩ (us ++ ds) (vs ++ dvs) Q E hr I.env0 (hb s us I.kIn hl) r2 h) fun r s' hq => ?_)
  cases r with
  | error e => exact hx pins σ H s e s' I hq
  | ok fl =>
    cases fl with
    | ret u => exact I.after hq
    | next => exact False.elim hq
    | brk => exact False.elim hq
    | cont => exact False.elim hq
theorem pe_call (F : FnOk X.prog X.w X.K X.mg X.base CX k f fd ps sp) (hr : Room k X.A) (hg : Gl X x) (hm : X.mg x = some (.ref f)) (hk : PySem.W.keepIn X.K (.ref f) = true) (hb : Binds X.K fd ps ds) (hd : Vals dvs ds) (hx : Passes CX X E)
    (ha : PA X (e :: es) t) (hdb : (x == ("__debug__" : Str)) = false := by decide) (he : starEach (e :: es) X.env = (false, eval e X.env) :: starEach es X.env := by rfl) (hpl : (backTo pos (starEach es X.env)).any (·.1) = false := by rfl) :
    PE X (.Call (.Name x p) (e :: es) [] pos) (tCall sp dvs E t) := by
  intro pins s σ H Q I h
  refine wpAny_Call_Name_kw (ld_glob I hg hm ?_ hdb)
  refine PySem.W.callWith_K (h₀ := X.base) I.ok.mod.kin hk (thn (ha pos pins s σ H _ I h) fun us s1 ⟨vs, H1, I1, r, q⟩ => ⟨I1.kIn, ?_⟩) he hpl
  exact run_fn F hr hb hd hx I1 r q
structure Mk (K : PySem.W.Frag) (C f : Addr) : Prop where
  makes : PySem.W.makesIn K C = true
  init : PySem.W.findIn K (.ref C) "__init__" = some (some (.ref f))
  fn : PySem.W.isFn K (.ref f) = true
  kp : PySem.W.keepIn K (.ref C) = true
end
section
variable {X : Cx} {CX : CXT} {k : Nat} {f C : Addr} {fd : FuncData} {ps ks : List Str} {sp : Sp} {E : XK} {x m : Str} {p pos apos kpos : Pos} {e o : Expr} {es : List Expr} {kws : List Keyword} {te ta : TE} {t tk : TA} {nm : Option Str}
structure KBinds (K : PySem.W.Frag) (fd : FuncData) (ps ks : List Str) (g : List Value → List Value → List Value) (gV : List V → List V → List V) : Prop where
  to : ∀ (s : Shared) (us ws : List Value), K.In s.heap → (g us ws).length = ps.length → BindsTo s fd ⟨us, ks.zip ws⟩ (ps.zip (g us ws))
  rel : ∀ {vs : List V} {us : List Value} {zs : List V} {ws : List Value}, Vals vs us → Vals zs ws → Vals (gV vs zs) (g us ws)
variable {g : List Value → List Value → List Value} {gV : List V → List V → List V}
end
structure FnScope (N P : List Str) (sc : Scope) : Prop where
  kind : sc.kind = .function
  co : sc.isCoroutine = false
  gen : sc.isGenerator = false
  nd : N.Nodup
  pre : N.take P.length = P
  par : ∀ x ∈ P, sc.names.lookup x = some .local ∨ sc.names.lookup x = some .cell
  nofree : ∀ y ∈ sc.names, y.2 ≠ .free
theorem bindL_out {kindOf : Str → Option NameKind} {x : Str} : ∀ {binds : List (Str × Value)} {m : Str → Option Value}, (∀ v, (x, v) ∉ binds) → bindL kindOf binds m x = m x
  | [], _, _ => rfl
  | (n, v) :: r, m, h => by
    unfold bindL
    rw [bindL_out fun w hw => h w (List.mem_cons_of_mem _ hw)]
    split
    · have : x ≠ n := by rintro rfl; exact h v List.mem_cons_self
      simp [this]
    · rfl
theorem bindC_out {kindOf : Str → Option NameKind} {x : Str} : ∀ {binds : List (Str × Value)} {m : Str → Option Value}, (∀ v, (x, v) ∉ binds) → bindC kindOf binds m x = m x
  | [], _, _ => rfl
  | (n, v) :: r, m, h => by
    unfold bindC
    rw [bindC_out fun w hw => h w (List.mem_cons_of_mem _ hw)]
    split
    · rfl
    · have : x ≠ n := by rintro rfl; exact h v List.mem_cons_self
      simp [this]
theorem bindL_get {kindOf : Str → Option NameKind} {x : Str} {v : Value} : ∀ {P : List Str} {vs : List Value} {i : Nat} {m : Str → Option Value}, P.Nodup → P[i]? = some x → vs[i]? = some v → kindOf x = some .local →
    bindL kindOf (P.zip vs) m x = some v
  | [], _, _, _, _, h, _, _ => by simp at h
  | _ :: _, [], _, _, _, _, h, _ => by simp at h
  | p :: P, w :: vs, 0, m, nd, h1, h2, hk => by
    simp at h1 h2; subst h1; subst h2
    show bindL kindOf ((p, w) :: P.zip vs) m p = _
    unfold bindL
    rw [bindL_out fun v hv => (List.nodup_cons.mp nd).1 (List.of_mem_zip hv).1, if_pos hk]
    simp
  | p :: P, w :: vs, i + 1, m, nd, h1, h2, hk => by
    show bindL kindOf ((p, w) :: P.zip vs) m x = _
    unfold bindL
    exact bindL_get (i := i) (List.nodup_cons.mp nd).2 (by simpa using h1) (by simpa using h2) hk
theorem bindC_get {kindOf : Str → Option NameKind} {x : Str} {v : Value} : ∀ {P : List Str} {vs : List Value} {i : Nat} {m : Str → Option Value}, P.Nodup → P[i]? = some x → vs[i]? = some v → kindOf x ≠ some .local →
    bindC kindOf (P.zip vs) m x = some v
  | [], _, _, _, _, h, _, _ => by simp at h
  | _ :: _, [], _, _, _, _, h, _ => by simp at h
  | p :: P, w :: vs, 0, m, nd, h1, h2, hk => by
    simp at h1 h2; subst h1; subst h2
    show bindC kindOf ((p, w) :: P.zip vs) m p = _
    unfold bindC
    rw [bindC_out fun v hv => (List.nodup_cons.mp nd).1 (List.of_mem_zip hv).1, if_neg hk]
    simp
  | p :: P, w :: vs, i + 1, m, nd, h1, h2, hk => by
    show bindC kindOf ((p, w) :: P.zip vs) m x = _
    unfold bindC
    exact bindC_get (i := i) (List.nodup_cons.mp nd).2 (by simpa using h1) (by simpa using h2) hk
def start (N : List Str) (vs : List V) : St := vs.map some ++ List.replicate (N.length - vs.length) none
def cxOf (CX : CXT) (P : Program) (w : World) (K : PySem.W.Frag) (mg : Str → Option Value) (base : Heap) (N : List Str) (qual : Str) (scope : Scope) (f : Addr) (cd : Value) (A : Around) (outer : List Env) (s : Shared) (H : Hp) (E : XK) : Cx where
  prog := P
  w := w
  K := K
  mg := mg
  base := base
  A := A.deeper (envOfC qual scope s.heap.objs.size f cd)
  N := N
  s₀ := s
  H₀ := H
  env := envOfC qual scope s.heap.objs.size f cd
  outer := outer
  stack := envOfC qual scope s.heap.objs.size f cd :: outer
  ex := []
  calm := true
  fn := fun _ => true
  pn := []
  xe := fun e s' => wpAny (model P w) (A.deeper (envOfC qual scope s.heap.objs.size f cd)) (leaving (envOfC qual scope s.heap.objs.size f cd) e) (fun _ s'' => CX outer H s E e s'') (fun e' s'' => CX outer H s E e' s'') s'
theorem cell_has {sc : Scope} {n : Nat} {x : Str} (h : sc.names.lookup x = some .cell) : ∃ c, (cellsFrom n sc.names []).lookup x = some c := by
  have q := PySem.W.cellsFrom_some sc.names n [] (.inl h)
  exact Option.isSome_iff_exists.mp q
theorem inv_start {CX : CXT} {P : Program} {w : World} {K : PySem.W.Frag} {mg : Str → Option Value} {base : Heap} {N ps : List Str} {qual : Str} {scope : Scope} {f : Addr} {cd : Value} {A : Around} {outer : List Env} {s s1 : Shared} {H : Hp} {E : XK} {us : List Value} {vs : List V}
    (S : FnScope N ps scope) (hd : A.handled = none) (e0 : Env0 P w K mg base A outer s H) (hl : vs.length = ps.length) (r : Vals vs us)
    (x : InCallC s s.heap.objs.size (bindL (envOfC qual scope s.heap.objs.size f cd).kindOf (ps.zip us) fun _ => none) (cellsFrom (s.heap.objs.size + 1) scope.names []) (bindC (envOfC qual scope s.heap.objs.size f cd).kindOf (ps.zip us) fun _ => none) s1) :
    Inv (cxOf CX P w K mg base N qual scope f cd A outer s H E) [] (start N vs) H s1 := by
  have hpl : ps.length ≤ N.length := by have := congrArg List.length S.pre; rw [List.length_take] at this; omega
  obtain ⟨h1, tk, rfl, hk⟩ := x.done
  have noA : ∀ b : Addr, b ∉ (cxOf CX P w K mg base N qual scope f cd A outer s H E).ex := fun b z => absurd (show b ∈ ([] : List Addr) from z) (by simp)
  refine ⟨⟨e0.mod, S.kind, rfl, rfl, Nat.le_refl _, fun y z c h1 h2 => ?_, fun y hy => ?_, fun y c _ h => ?_, fun _ => hd, Around.frames_deeper e0.frames, .inr ⟨rfl, rfl⟩, fun b z => absurd z (noA b), e0.bs, e0.bsz, fun b _ _ => noA b, fun b z => absurd z (noA b), e0.funs, e0.frf⟩,
    rfl, e0.bare, Un.kept hk, ⟨_, x.toInCall.ns, fun i y v h1 h2 h3 => ?_⟩, fun y c h => ⟨_, x.cell y c h⟩, e0.hok.fresh (Nat.le_refl _), fun y c h => ?_, fun p hp => absurd (show p ∈ ([] : List (Addr × Obj)) from hp) (by simp), e0.hok.kept hk, ?_⟩
  · exact name_of_addr x.apart (PySem.mem_of_lookup h1) (PySem.mem_of_lookup h2)
  · have hy : scope.names.lookup y = some .cell ∨ scope.names.lookup y = some .free := hy
    rcases hy with hy | hy
    · exact cell_has hy
    · exact absurd rfl (S.nofree _ (PySem.mem_of_lookup hy))
  · exact Nat.le_of_lt (x.above y c (PySem.mem_of_lookup h))
  · have hi : i < vs.length := by
      unfold start at h2
      by_cases hi : i < vs.length
      · exact hi
      · rw [List.getElem?_append_right (by simpa using hi)] at h2
        rw [List.getElem?_replicate] at h2
        split at h2 <;> cases h2
    have ha : vs[i]? = some v := by
      unfold start at h2
      rw [List.getElem?_append_left (by simpa using hi), List.getElem?_map] at h2
      cases e : vs[i]? with
      | none => rw [e] at h2; cases h2
      | some a => rw [e] at h2; cases h2; rfl
    obtain ⟨u, hu, rv⟩ := r.get ha
    have hp : ps[i]? = some y := by
      rw [← S.pre, List.getElem?_take_of_lt (by omega)]; exact h1
    have ndP : ps.Nodup := by rw [← S.pre]; exact S.nd.sublist (List.take_sublist _ _)
    refine ⟨u, rv, ?_⟩
    rcases S.par y (List.mem_of_getElem? hp) with k | k
    · exact .inl ⟨k, bindL_get ndP hp hu k⟩
    · obtain ⟨c, e⟩ := cell_has (n := s.heap.objs.size + 1) k
      refine .inr ⟨.inl k, c, e, ?_⟩
      have q := x.cell y c e
      rw [bindC_get ndP hp hu (by show scope.names.lookup y ≠ _; rw [k]; decide)] at q
      exact q
  · exact e0.hok.fresh (Nat.le_of_lt (x.above y c (PySem.mem_of_lookup h)))
  · unfold start
    show _ = N.length
    rw [List.length_append, List.length_map, List.length_replicate]
    omega
theorem fn_of {CX : CXT} {P : Program} {w : World} {K : PySem.W.Frag} {mg : Str → Option Value} {base : Heap} {k : Nat} {f : Addr} {name qual : Str} {params : Arguments} {body : List Stmt} {scope : Scope} {dV kV doc pm cdv ct oc : Value} {an od : Option Addr}
    {osl : Array (Option Value)} {N ps : List Str} {sp : Sp} (lk : K.lookup f = some ⟨oc, od, .func (PySem.W.fnOf name qual params body scope dV kV doc pm an cdv ct), osl⟩) (hcd : PySem.W.codeIn K cdv qual = true) (S : FnScope N ps scope)
    (len : ∀ vs H Q E, sp vs H Q E → vs.length = ps.length)
    (hbody : ∀ (A : Around) (outer : List Env) (s : Shared) (H : Hp) (vs : List V) (Q : VK) (E : XK), Room k (A.deeper (envOfC qual scope s.heap.objs.size f cdv)) → sp vs H Q E →
      ∃ t, PSs (cxOf CX P w K mg base N qual scope f cdv A outer s H E) body t ∧ t { nx := fun _ H' => Q .non H', rt := Q } (start N vs) H) :
    FnOk P w K mg base CX (k + 1) f (PySem.W.fnOf name qual params body scope dV kV doc pm an cdv ct) ps sp := by
  refine ⟨len, fun A outer s H args us vs Q E hr e0 hb r hsp => ?_⟩
  have hl := len _ _ _ _ hsp
  have KX : K.In s.heap := e0.mod.kin.keeps fun b o e => (e0.bs b o e).1
  have lim : s.heap.NoLimit := e0.mod.nolimit.keeps fun b o e => (e0.bs b o e).1
  have hkind : ∀ y ∈ ps.zip us, scope.names.lookup y.1 = some .local ∨ (scope.names.lookup y.1 = some .cell ∧ ((cellsFrom (s.heap.objs.size + 1) scope.names []).lookup y.1).isSome = true) := fun ⟨n, v⟩ hy => by
    rcases S.par n (List.of_mem_zip hy).1 with q | q
    · exact .inl q
    · exact .inr ⟨q, PySem.W.cellsFrom_some _ _ _ (.inl q)⟩
  refine codeAny_call_function hr.depth (KX _ _ lk) rfl S.co S.gen rfl (PySem.W.codeRec_of KX hcd) (hb _ _ _ _ ?_)
  refine wpAny_newFunctionEnv_cells S.kind hkind fun env he s1 x => ?_
  subst he
  refine ⟨lim.keeps x.toInCall.keep, codeAny_func ?_⟩
  obtain ⟨t, ht, hq⟩ := hbody A outer s H vs Q E (hr.deeper _) hsp
  have I : Inv (cxOf CX P w K mg base N qual scope f cdv A outer s H E) [] (start N vs) H s1 := inv_start S hr.hd e0 hl r x
  refine wpAny_mono (ht [] s1 (start N vs) H _ I hq) (fun fl s' hs => ?_) fun e s' hs => hs
  have fin : ∀ {σ' : St} {H' : Hp} {v : V} {u : Value}, Inv (cxOf CX P w K mg base N qual scope f cdv A outer s H E) [] σ' H' s' → RelV v u → Q v H' → CE outer P w H s Q u s' :=
    fun {σ' H' v u} J rv q => ⟨v, H', J.os, J.bare, J.base, J.hok, rv, q⟩
  cases fl with
  | ret u =>
    obtain ⟨v, σ', H', J, rv, q⟩ := hs
    exact fin J rv q
  | next =>
    obtain ⟨σ', H', J, q⟩ := hs
    exact fin (v := V.non) (u := Value.none) J rfl q
  | brk =>
    obtain ⟨_, _, _, q⟩ := hs
    exact False.elim q
  | cont =>
    obtain ⟨_, _, _, q⟩ := hs
    exact False.elim q
end L2
namespace L2
open PySem PySem.Spec PyProof.Rows
section
variable {X : Cx} {x : Str} {p pos : Pos} {e : Expr} {es : List Expr} {t : TA} {id T : String} {r : List V → Hp → VK → Prop}
def tCB (r : List V → Hp → VK → Prop) (t : TA) : TE := fun σ H Q => t σ H fun vs H1 => r vs H1 Q
theorem pe_callB (hc : CallR X (.builtin id) r) (hg : Gl X x) (hm : X.mg x = none) (hv : bootBuiltins x = some (.builtin id)) (ha : PA X (e :: es) t) (hn : x ≠ "__name__" := by decide) (hdb : (x == ("__debug__" : Str)) = false := by decide)
    (he : starEach (e :: es) X.env = (false, eval e X.env) :: starEach es X.env := by rfl) (hpl : (backTo pos (starEach es X.env)).any (·.1) = false := by rfl) : PE X (.Call (.Name x p) (e :: es) [] pos) (tCB r t) := by
  intro pins s σ H Q I h
  refine wpAny_Call_Name_kw (ld_blt I hg hm hv ?_ hn hdb)
  exact PyProof.Rows.callWith_builtin1 (thn (ha pos pins s σ H _ I h) fun us s1 ⟨vs, H1, I1, r1, q1⟩ => hc pins s1 σ H1 vs us Q I1 r1 q1) he hpl
theorem pe_callTy (hc : CallR X (.type T) r) (hg : Gl X x) (hm : X.mg x = none) (hv : bootBuiltins x = some (.type T)) (ha : PA X (e :: es) t) (hn : x ≠ "__name__" := by decide) (hdb : (x == ("__debug__" : Str)) = false := by decide)
    (he : starEach (e :: es) X.env = (false, eval e X.env) :: starEach es X.env := by rfl) (hpl : (backTo pos (starEach es X.env)).any (·.1) = false := by rfl) : PE X (.Call (.Name x p) (e :: es) [] pos) (tCB r t) := by
  intro pins s σ H Q I h
  refine wpAny_Call_Name_kw (ld_blt I hg hm hv ?_ hn hdb)
  exact PyProof.Rows.callWith_type1 (thn (ha pos pins s σ H _ I h) fun us s1 ⟨vs, H1, I1, r1, q1⟩ => hc pins s1 σ H1 vs us Q I1 r1 q1) he hpl
end
end L2
namespace HT
open PySem PyProof.Rows
section
open PySem.SeqAt
open PySem.AutoSeq1 (wpAny_loadPart')
open PySem.MeetsSeq PySem.MeetsSeq2 PySem.MeetsSeq3
end
section
variable {prog : Program} {w : World} {A : Around} {E : Value → Shared → Prop} {s : Shared}
theorem cat_tup {t b : Addr} {vs ws : List Value} {Q : Value → Shared → Prop} (ht : IsTup s.heap t vs.toArray) (hb : IsTup s.heap b ws.toArray) (hv : vs ≠ [])
    (h1 : ws = [] → Q (.ref t) s) (h2 : ws ≠ [] → Q (.ref s.heap.objs.size) { s with heap := s.heap.push { cls := .type "tuple", data := .seq (vs ++ ws).toArray } })
    (hsz : vs.length + ws.length ≤ sizeLine) : wpAny (model prog w) A (binaryOp .Add (.ref t) (.ref b)) Q E s := by
  obtain ⟨⟨cls, dd, data, sl⟩, ho, hc, n, hd⟩ := id ht
  obtain ⟨⟨cls2, dd2, data2, sl2⟩, ho2, hc2, n2, hd2⟩ := id hb
  simp only at hc hd hc2 hd2
  subst hc hd hc2 hd2
  have e : vs.toArray ++ ws.toArray = (vs ++ ws).toArray := by simp
  by_cases hw : ws = []
  · exact concat_meets ⟨_, ho, rfl⟩ ⟨_, ho2, rfl⟩ noFill_tuple_add seq_tuple_add PySem.F.slot_tuple_add PySem.F.entry_tuple_add (PySem.F.args_tuple_add_2 _ _)
      (tuple_addW1 t b vs.toArray ws.toArray n n2 dd dd2 sl sl2 (by simpa using hv) (by simp [hw])) ⟨ho, ho2, h1 hw⟩
  · refine concat_meets ⟨_, ho, rfl⟩ ⟨_, ho2, rfl⟩ noFill_tuple_add seq_tuple_add PySem.F.slot_tuple_add PySem.F.entry_tuple_add (PySem.F.args_tuple_add_2 _ _)
      (tuple_addW2 t b vs.toArray ws.toArray n n2 dd dd2 sl sl2 (by simpa using hv) (by simpa using hw) (by rw [List.size_toArray, List.size_toArray]; exact hsz)) ⟨ho, ho2, ?_⟩
    rw [e]
    exact h2 hw
def sIx (n d : Nat) : Option Int → Nat
  | none => d
  | some v => if v < 0 then (v + (n : Int)).toNat else min v.toNat n
theorem sIx_le (n d : Nat) (hd : d ≤ n) (o : Option Int) : sIx n d o ≤ n := by
  cases o with
  | none => exact hd
  | some v =>
    show (if v < 0 then (v + (n : Int)).toNat else min v.toNat n) ≤ n
    by_cases hv : v < 0
    · rw [if_pos hv]; omega
    · rw [if_neg hv]; exact Nat.min_le_right _ _
theorem clip_eq (v : Int) (n d : Nat) : (if v < 0 then max (v + (n : Int)) 0 else min v (n : Int)) = ((sIx n d (some v) : Nat) : Int) := by
  show (if v < 0 then max (v + (n : Int)) 0 else min v (n : Int)) = (((if v < 0 then (v + (n : Int)).toNat else min v.toNat n) : Nat) : Int)
  by_cases hv : v < 0
  · simp only [if_pos hv]; omega
  · simp only [if_neg hv]; omega
theorem adjust_gen (lo hi : Option Int) (n : Nat) : Builtin.Slice.sliceAdjust lo hi 1 (n : Int) = (((sIx n 0 lo : Nat) : Int), ((sIx n n hi : Nat) : Int)) := by
  have h1 : ¬ ((1 : Int) < 0) := by omega
  unfold Builtin.Slice.sliceAdjust
  simp only [h1, if_false]
  refine Prod.ext ?_ ?_
  · cases lo with
    | none => rfl
    | some v => exact clip_eq v n 0
  · cases hi with
    | none => rfl
    | some v => exact clip_eq v n n
theorem places_gen (i j : Nat) : Builtin.Slice.slicePlaces (i : Int) (j : Int) 1 = j - i := by
  unfold Builtin.Slice.slicePlaces
  have h1 : (1 : Int) > 0 := by omega
  simp only [h1, if_true, Int.ediv_one]
  split <;> omega
theorem slicePart_ {v : Value} {o : Option Int} {Q : Option Int → Shared → Prop} (p : IsPart v o) (h : Q o s) : wpAny (model prog w) A (Builtin.Slice.slicePartIndex v) Q E s := by
  cases p with
  | none => exact slicePart_none h
  | int i t => exact slicePart_int h
theorem sliceApplied_gen {sl : Addr} {vl vu : Value} {lo hi : Option Int} {n : Nat} {Q : Int × Int × Nat → Shared → Prop} (hs : s.heap.IsSliceOf sl vl vu .none) (pl : IsPart vl lo) (pu : IsPart vu hi)
    (h : Q (((sIx n 0 lo : Nat) : Int), 1, sIx n n hi - sIx n 0 lo) s) : wpAny (model prog w) A (Builtin.Slice.sliceApplied (.ref sl) (pure (n : Int))) Q E s := by
  obtain ⟨os, hos, hcs, hds⟩ := id hs
  unfold Builtin.Slice.sliceApplied Builtin.Slice.sliceFields
  refine wpAny_bind (wpAny_bind (wpAny_field hos hds (x := vl) rfl (wpAny_bind (wpAny_field hos hds (x := vu) rfl (wpAny_bind (wpAny_field hos hds (x := .none) rfl (wpAny_pure ?_)))))))
  refine wpAny_bind (slicePart_none ?_)
  show wpAny _ _ (if ((1 : Int) == 0) = true then _ else _) _ _ s
  rw [if_neg (by decide)]
  refine wpAny_bind (slicePart_ pl (wpAny_bind (slicePart_ pu (wpAny_bind (wpAny_pure ?_)))))
  show wpAny _ _ (match Builtin.Slice.sliceAdjust lo hi 1 (n : Int) with | (lo, hi) => pure (lo, (1 : Int), Builtin.Slice.slicePlaces lo hi 1)) _ _ s
  rw [adjust_gen lo hi n]
  show wpAny _ _ (pure (((sIx n 0 lo : Nat) : Int), (1 : Int), Builtin.Slice.slicePlaces ((sIx n 0 lo : Nat) : Int) ((sIx n n hi : Nat) : Int) 1)) _ _ s
  rw [places_gen]
  exact wpAny_pure h
theorem pick_gen (xs : Array Value) (i k : Nat) : ((List.range k).filterMap fun (m : Nat) => xs[((i : Int) + (m : Int) * 1).toNat]?).toArray = ((xs.toList.drop i).take k).toArray := by
  have e : (fun (m : Nat) => xs[((i : Int) + (m : Int) * 1).toNat]?) = fun m => xs[i + m]? := by
    funext m
    have : ((i : Int) + (m : Int) * 1).toNat = i + m := by omega
    rw [this]
  rw [e]
  have := pick_run xs i k
  rw [List.filterMap_map] at this
  have e2 : ((fun x => xs[x]?) ∘ fun x => i + x) = fun m => xs[i + m]? := rfl
  rw [e2] at this
  rw [this]
theorem getItem_tuple_cut {t sl : Addr} {items : Array Value} {vl vu : Value} {lo hi : Option Int} {Q : Value → Shared → Prop} (ht : IsTup s.heap t items) (hs : s.heap.IsSliceOf sl vl vu .none) (pl : IsPart vl lo) (pu : IsPart vu hi)
    (hw : ¬ (sIx items.size 0 lo = 0 ∧ sIx items.size items.size hi = items.size))
    (h : Q (.ref s.heap.objs.size) { s with heap := s.heap.push { cls := .type "tuple", data := .seq ((items.toList.drop (sIx items.size 0 lo)).take (sIx items.size items.size hi - sIx items.size 0 lo)).toArray } })
    (hsz : items.size ≤ sizeLine) : wpAny (model prog w) A (getItem (.ref t) (.ref sl)) Q E s := by
  have htake : sizeOk (.seq ((items.toList.drop (sIx items.size 0 lo)).take (sIx items.size items.size hi - sIx items.size 0 lo)).toArray) := by
    show ((items.toList.drop (sIx items.size 0 lo)).take (sIx items.size items.size hi - sIx items.size 0 lo)).toArray.size ≤ sizeLine
    rw [List.size_toArray, List.length_take, List.length_drop, Array.length_toList]
    omega
  have hj : sIx items.size items.size hi ≤ items.size := sIx_le _ _ (Nat.le_refl _) hi
  obtain ⟨os, hos, hcs, hds⟩ := id hs
  have hTs : s.TypeIs (.ref sl) "slice" := ⟨os, hos, hcs⟩
  unfold getItem
  try with_reducible refine wpAny_holding ?_
  first | refine wpAny_bind (wpAny_pure ?_) | skip
  refine wpAny_bind (wpAny_sequenceKey ht.typeIs (by decide) ?_)
  refine wpAny_bind (wpAny_callSpecial?_slot (name := Str.ofString "__getitem__") ht.typeIs PyProof.Rows.slot_tuple_getitem
    (wpAny_call_entry PyProof.Rows.slot_tuple_getitem ht.typeIs entry_tuple_getitem ?_ (args_tuple_getitem _ _)))
  show wpAny _ _ (Builtin.Tuple.tupleItemsOf (.ref t) >>= _) _ _ s
  refine wpAny_bind (tupleItemsOf_ ht ?_)
  refine wpAny_bind (wpAny_typeOf hTs ?_)
  rw [if_pos (by decide)]
  refine wpAny_bind (sliceApplied_gen hs pl pu ?_)
  have hno : ¬ ((((sIx items.size 0 lo : Nat) : Int) == 0 && (1 : Int) == 1 && (sIx items.size items.size hi - sIx items.size 0 lo) == items.size) = true) := by
    intro q
    rw [Bool.and_eq_true, Bool.and_eq_true] at q
    have q1 : ((sIx items.size 0 lo : Nat) : Int) = 0 := eq_of_beq q.1.1
    have q2 : sIx items.size items.size hi - sIx items.size 0 lo = items.size := eq_of_beq q.2
    exact hw ⟨by omega, by omega⟩
  show wpAny _ _ (if (((sIx items.size 0 lo : Nat) : Int) == 0 && (1 : Int) == 1 && (sIx items.size items.size hi - sIx items.size 0 lo) == items.size) = true then _ else _) _ _ s
  rw [if_neg hno, pick_gen]
  first
    | exact wpAny_bind (m := Builtin.Tuple.tupleExact _) (wpAny_newObj_type (wpAny_pure ⟨_, rfl, wpAny_pure h⟩) htake)
    | exact wpAny_bind (m := Builtin.Tuple.tupleExact _) (wpAny_newObj_type (wpAny_bind (wpAny_pure (wpAny_pure ⟨_, rfl, wpAny_pure h⟩))) htake)
    | exact wpAny_bind (wpAny_bind (m := Builtin.Tuple.tupleExact _) (wpAny_newObj_type (wpAny_pure (wpAny_pure ⟨_, rfl, wpAny_pure h⟩)) htake))
    | exact wpAny_bind (wpAny_bind (m := Builtin.Tuple.tupleExact _) (wpAny_newObj_type (wpAny_pure ⟨_, rfl, wpAny_pure h⟩) htake))
end
end HT
namespace L2
open PySem PySem.Spec PyProof.Rows
abbrev TO := St → Hp → (Option Int → Hp → Prop) → Prop
def PO (X : Cx) (e : Option Expr) (t : TO) : Prop :=
  ∀ (pins : List (Addr × Obj)) (s : Shared) (σ : St) (H : Hp) (Q : Option Int → Hp → Prop), Inv X pins σ H s → t σ H Q →
    wpAny (model X.prog X.w) X.A (evalPart e X.env) (fun u s' => ∃ o H', Inv X pins σ H' s' ∧ IsPart u o ∧ Q o H') X.xe s
def tNoPart : TO := fun _ H Q => Q none H
def tPart (t : TE) : TO := fun σ H Q => t σ H fun x H1 => ∃ i, x = .int i ∧ Q (some i) H1
theorem intsAre_of {ns : List Int} : ∀ {us : List Value}, Vals (ns.map V.int) us → IntsAre us ns := by
  induction ns with
  | nil => intro us r; rw [List.map_nil] at r; cases r; exact .nil
  | cons n ns ih =>
    intro us r
    rw [List.map_cons] at r
    cases r with
    | cons r1 r2 =>
      obtain ⟨t, e⟩ := r1
      subst e
      exact .cons n t (ih r2)
section
variable {X : Cx} {e : Expr} {te : TE} {lo hi : Option Expr} {tl th : TO} {pos p2 : Pos}
theorem po_none : PO X none tNoPart := by
  intro pins s σ H Q I h
  rw [evalPart_none]
  exact wpAny_pure ⟨none, H, I, .none, h⟩
theorem po_some (h : PE X e te) : PO X (some e) (tPart te) := by
  intro pins s σ H Q I hw
  rw [evalPart_some]
  refine thn (h pins s σ H _ I hw) fun u s1 ⟨x, H1, I1, r1, q1⟩ => ?_
  obtain ⟨i, rfl, q⟩ := q1
  obtain ⟨t, rfl⟩ := r1
  exact ⟨some i, H1, I1, .int i t, q⟩
def SlR (X : Cx) (r : V → Option Int → Option Int → Hp → VK → Prop) : Prop :=
  ∀ (pins : List (Addr × Obj)) (s : Shared) (σ : St) (H : Hp) (x : V) (v vl vu : Value) (lo hi : Option Int) (sl : Addr) (Q : VK), Inv X pins σ H s → RelV x v → s.heap.IsSliceOf sl vl vu .none → IsPart vl lo → IsPart vu hi → r x lo hi H Q →
    ∃ T id, typeLookup (.type T) "__getitem__" = pure (some (.builtin id)) ∧ s.TypeIs v T ∧ wpAny (model X.prog X.w) X.A (getItem v (.ref sl)) (EP X pins σ Q) X.xe s
theorem SlR.or {r r' : V → Option Int → Option Int → Hp → VK → Prop} (h : SlR X r) (h' : SlR X r') : SlR X (fun x lo hi H Q => r x lo hi H Q ∨ r' x lo hi H Q) := by
  intro pins s σ H x v vl vu lo hi sl Q I rx hs pl pu q
  rcases q with q | q
  · exact h pins s σ H x v vl vu lo hi sl Q I rx hs pl pu q
  · exact h' pins s σ H x v vl vu lo hi sl Q I rx hs pl pu q
def tSl (r : V → Option Int → Option Int → Hp → VK → Prop) (te : TE) (tl th : TO) : TE := fun σ H Q => te σ H fun x H1 => tl σ H1 fun l H2 => th σ H2 fun u H3 => r x l u H3 Q
theorem pe_slice {r : V → Option Int → Option Int → Hp → VK → Prop} (hr : SlR X r) (he : PE X e te) (hl : PO X lo tl) (hu : PO X hi th) : PE X (.Subscript e (.Slice lo hi none p2) pos) (tSl r te tl th) := by
  intro pins s σ H Q I h
  refine Subscript_ (thn (he pins s σ H _ I h) fun v s1 ⟨x, H1, I1, r1, q1⟩ => ?_)
  refine wpAny_Slice (thn (hl pins s1 σ H1 _ I1 q1) fun vl s2 ⟨l, H2, I2, pl, q2⟩ => thn (hu pins s2 σ H2 _ I2 q2) fun vu s3 ⟨u, H3, I3, pu, q3⟩ => ?_)
  rw [evalPart_none]
  refine wpAny_pure ?_
  have I4 : Inv X pins σ H3 { s3 with heap := s3.heap.push { cls := .type "slice", data := .fields #[vl, vu, .none] } } := I3.kept (t' := s3.toks) fun b ob q => Heap.get?_push_of_some _ q
  obtain ⟨T, id, hT, ht, hg⟩ := hr pins { s3 with heap := s3.heap.push { cls := .type "slice", data := .fields #[vl, vu, .none] } } σ H3 x v vl vu l u s3.heap.objs.size Q I4 r1 (Heap.IsSliceOf.new ..) pl pu q3
  show wpAny (model X.prog X.w) X.A (subscriptTail e (.Slice lo hi none p2) v (.ref s3.heap.objs.size)) (EP X pins σ Q) X.xe { s3 with heap := s3.heap.push { cls := .type "slice", data := .fields #[vl, vu, .none] } }
  exact tail_any (ops := [.ref s3.heap.objs.size, v]) ht hT hg (by with_unfolding_all rfl)
def cutV (xs : List V) (lo hi : Option Int) : List V := (xs.drop (HT.sIx xs.length 0 lo)).take (HT.sIx xs.length xs.length hi - HT.sIx xs.length 0 lo)
theorem cutV_length (xs : List V) (lo hi : Option Int) : (cutV xs lo hi).length ≤ xs.length := by
  unfold cutV
  rw [List.length_take, List.length_drop]
  omega
def rSlT (K : PySem.W.Frag) : V → Option Int → Option Int → Hp → VK → Prop := fun x lo hi H Q => ∃ a xs, x = .ref a ∧ SqT K H a xs ∧
  ¬ (HT.sIx xs.length 0 lo = 0 ∧ HT.sIx xs.length xs.length hi = xs.length) ∧ ∀ p, H p = none → Q (.ref p) (upd H p (.tup (cutV xs lo hi)))
theorem sl_tup : SlR X (rSlT X.K) := by
  intro pins s σ H x v vl vu lo hi sl Q I rx hs pl pu h
  obtain ⟨a, xs, rfl, hx, hw, q⟩ := h
  cases rx
  obtain ⟨its, r, ht, hz⟩ := I.tuple hx
  have hlen : its.toArray.size = xs.length := by rw [List.size_toArray]; exact r.length.symm
  refine ⟨"tuple", _, PyProof.Rows.slot_tuple_getitem.lookup, ht.typeIs, ?_⟩
  refine HT.getItem_tuple_cut ht hs pl pu (by rw [hlen]; exact hw) ?_ (by rw [hlen]; exact hz)
  rw [hlen]
  refine ⟨.ref s.heap.objs.size, _, I.laid (t' := s.toks) (o := .tup (cutV xs lo hi)) (fun b ob q => Heap.get?_push_of_some _ q) (Nat.le_refl _) ?_, rfl, q _ (I.hok.fresh (Nat.le_refl _))⟩
  exact ⟨Nat.le_trans (cutV_length xs lo hi) hz, _, (r.drop (HT.sIx xs.length 0 lo)).take (HT.sIx xs.length xs.length hi - HT.sIx xs.length 0 lo), TupN.new _ _⟩
def rCatT (K : PySem.W.Frag) : R2 := fun x y H Q => ∃ a b xs ys, x = .ref a ∧ y = .ref b ∧ SqT K H a xs ∧ SqT K H b ys ∧ xs ≠ [] ∧ xs.length + ys.length ≤ sizeLine ∧
  (ys = [] → Q (.ref a) H) ∧ (ys ≠ [] → ∀ p, H p = none → Q (.ref p) (upd H p (.tup (xs ++ ys))))
theorem Vals.nil_iff {xs : List V} {us : List Value} (r : Vals xs us) : us = [] ↔ xs = [] := by
  cases r with
  | nil => simp
  | cons _ _ => simp
theorem op_catT : OpR X (binaryOp .Add) (rCatT X.K) := by
  intro pins s σ H x y v u Q I rx ry h
  obtain ⟨a, b, xs, ys, rfl, rfl, ha, hb, hx, hz, q1, q2⟩ := h
  cases rx
  cases ry
  obtain ⟨its, r1, p1, _⟩ := I.tuple ha
  obtain ⟨its2, r2, p2, _⟩ := I.tuple hb
  refine HT.cat_tup p1 p2 (fun z => hx (r1.nil_iff.mp z)) (fun z => ⟨.ref a, H, I, rfl, q1 (r2.nil_iff.mp z)⟩) (fun z => ?_) (by rw [← r1.length, ← r2.length]; exact hz)
  refine ⟨.ref s.heap.objs.size, _, I.laid (t' := s.toks) (o := .tup (xs ++ ys)) (fun b ob q => Heap.get?_push_of_some _ q) (Nat.le_refl _) ?_, rfl, q2 (fun w => z (r2.nil_iff.mpr w)) _ (I.hok.fresh (Nat.le_refl _))⟩
  exact ⟨by rw [List.length_append]; exact hz, _, r1.append r2, TupN.new _ _⟩
end
end L2
namespace L2
open PySem PySem.Spec PyProof.Rows
def ixN (n : Nat) (i : Int) : Option Nat := if 0 ≤ i then (if i < n then some i.toNat else none) else if -(n : Int) ≤ i then some (i + n).toNat else none
def atI {α : Type} (xs : List α) (i : Int) : Option α := (ixN xs.length i).bind fun j => xs[j]?
theorem ixN_seq {n : Nat} {i : Int} {j : Nat} (h : ixN n i = some j) : seqIndex? i n = some j ∧ j < n ∧ -(n : Int) ≤ i ∧ i < n := by
  unfold ixN at h
  by_cases h0 : 0 ≤ i
  · rw [if_pos h0] at h
    by_cases h1 : i < n
    · rw [if_pos h1] at h
      have e : i.toNat = j := Option.some.inj h
      exact ⟨by rw [seqIndex_of h0 h1, e], by omega, by omega, h1⟩
    · rw [if_neg h1] at h; cases h
  · rw [if_neg h0] at h
    by_cases h1 : -(n : Int) ≤ i
    · rw [if_pos h1] at h
      have e : (i + n).toNat = j := Option.some.inj h
      exact ⟨by rw [seqIndex_neg (by omega) h1, e], by omega, h1, by omega⟩
    · rw [if_neg h1] at h; cases h
theorem atI_get {α : Type} {xs : List α} {i : Int} {v : α} (h : atI xs i = some v) : ∃ j, seqIndex? i xs.length = some j ∧ xs[j]? = some v ∧ j < xs.length ∧ -(xs.length : Int) ≤ i ∧ i < xs.length := by
  unfold atI at h
  cases e : ixN xs.length i with
  | none => rw [e] at h; cases h
  | some j =>
    rw [e] at h
    obtain ⟨h1, h2, h3, h4⟩ := ixN_seq e
    exact ⟨j, h1, h, h2, h3, h4⟩
theorem atI_nat {α : Type} {xs : List α} {j : Nat} {v : α} (h : xs[j]? = some v) : atI xs (j : Int) = some v := by
  have hj : j < xs.length := (List.getElem?_eq_some_iff.mp h).1
  have e : ixN xs.length (j : Int) = some j := by
    unfold ixN
    rw [if_pos (by omega), if_pos (by omega)]; simp
  unfold atI; rw [e]; exact h
def PlainIx (b : Expr) : Prop := ∀ o i, subscripted b false o i = operate [o, i] (getItem o i)
def IxR (X : Cx) (r : R2) : Prop :=
  ∀ (value slice : Expr) (pins : List (Addr × Obj)) (s : Shared) (σ : St) (H : Hp) (x y : V) (v u : Value) (Q : VK), Inv X pins σ H s → RelV x v → RelV y u → r x y H Q →
    subscripted slice false v u = operate [v, u] (getItem v u) → wpAny (model X.prog X.w) X.A (subscriptTail value slice v u) (EP X pins σ Q) X.xe s
def MtR (X : Cx) (id : String) (r : V → List V → Hp → VK → Prop) : Prop :=
  ∀ (pins : List (Addr × Obj)) (s : Shared) (σ : St) (H : Hp) (x : V) (xs : List V) (v : Value) (us : List Value) (Q : VK), Inv X pins σ H s → RelV x v → Vals xs us → r x xs H Q →
    wpAny (model X.prog X.w) X.A (call (.builtin id) (v :: us)) (EP X pins σ Q) X.xe s
section
variable {X : Cx} {a b : Expr} {ta tb : TE} {pos : Pos}
theorem IxR.or {r r' : R2} (h : IxR X r) (h' : IxR X r') : IxR X (fun x y H Q => r x y H Q ∨ r' x y H Q) := by
  intro value slice pins s σ H x y v u Q I rx ry q hs
  rcases q with q | q
  · exact h value slice pins s σ H x y v u Q I rx ry q hs
  · exact h' value slice pins s σ H x y v u Q I rx ry q hs
theorem MtR.or {id : String} {r r' : V → List V → Hp → VK → Prop} (h : MtR X id r) (h' : MtR X id r') : MtR X id (fun x xs H Q => r x xs H Q ∨ r' x xs H Q) := by
  intro pins s σ H x xs v us Q I rx rs q
  rcases q with q | q
  · exact h pins s σ H x xs v us Q I rx rs q
  · exact h' pins s σ H x xs v us Q I rx rs q
theorem pe_ix {r : R2} (hr : IxR X r) (ha : PE X a ta) (hb : PE X b tb) (hs : PlainIx b) : PE X (.Subscript a b pos) (tOp r ta tb) := by
  intro pins s σ H Q I h
  exact Subscript_ (binT ha hb I h fun v u s2 x y H2 I2 rx ry q => hr a b pins s2 σ H2 x y v u Q I2 rx ry q (hs _ _))
def rIxL (K : PySem.W.Frag) : R2 := fun x y H Q => ∃ p xs i v, x = .ref p ∧ y = .int i ∧ SqL K H p xs ∧ atI xs i = some v ∧ Q v H
def rIxT (K : PySem.W.Frag) : R2 := fun x y H Q => ∃ p xs i v, x = .ref p ∧ y = .int i ∧ SqT K H p xs ∧ atI xs i = some v ∧ Q v H
theorem ix_list : IxR X (rIxL X.K) := by
  intro value slice pins s σ H x y v u Q I rx ry h hs
  obtain ⟨p, xs, i, z, rfl, rfl, hq, he, q⟩ := h
  cases rx
  obtain ⟨t, rfl⟩ := ry
  obtain ⟨its, r, pl, hz⟩ := I.list hq
  obtain ⟨j, h1, h2, h3, h4, h5⟩ := atI_get he
  obtain ⟨w, ew, rw'⟩ := r.get h2
  have hl := r.length
  have hn := line63
  have fin : EP X pins σ Q w s := ⟨z, H, I, rw', q⟩
  by_cases h0 : 0 ≤ i
  · have hj : i.toNat = j := by
      rw [seqIndex_of h0 h5] at h1
      exact Option.some.inj h1
    exact item_listR pl.isList h0 (by omega) (by rw [hj]; simpa using ew) fin hs
  · have hj : (i + (its.toArray.size : Int)).toNat = j := by
      rw [seqIndex_neg (by omega) h4] at h1
      rw [List.size_toArray, ← hl]
      exact Option.some.inj h1
    exact subscriptTail_builtinR (x := w) pl.isList.typeIs slot_list_getitem.lookup
      (wpAny_getItem_list_neg (Q := fun r s' => r = w ∧ EP X pins σ Q r s') pl.isList (by omega) (by rw [List.size_toArray] <;> omega) (by omega) (by rw [hj]; simpa using ew) ⟨rfl, fin⟩) hs
theorem ix_tup : IxR X (rIxT X.K) := by
  intro value slice pins s σ H x y v u Q I rx ry h hs
  obtain ⟨p, xs, i, z, rfl, rfl, hq, he, q⟩ := h
  cases rx
  obtain ⟨t, rfl⟩ := ry
  obtain ⟨its, r, pl, hz⟩ := I.tuple hq
  obtain ⟨j, h1, h2, h3, h4, h5⟩ := atI_get he
  obtain ⟨w, ew, rw'⟩ := r.get h2
  have hl := r.length
  have hn := line63
  have fin : EP X pins σ Q w s := ⟨z, H, I, rw', q⟩
  exact subscriptTail_builtinR (x := w) pl.typeIs slot_tuple_getitem.lookup
    (getItem_tuple (j := j) (Q := fun r s' => r = w ∧ EP X pins σ Q r s') pl (by omega) (by omega) (by rw [List.size_toArray, ← hl]; exact h1) (by simpa using ew) ⟨rfl, fin⟩) hs
theorem mapSeq_set (its : List Value) (n j : Nat) (u : Value) : Obj.mapSeq (·.setIfInBounds j u) { cls := .type "list", data := .seq its.toArray n } = { cls := .type "list", data := .seq (its.set j u).toArray n } := by
  simp [Obj.mapSeq]
theorem Inv.lst {pins : List (Addr × Obj)} {σ : St} {H : Hp} {s : Shared} {p : Addr} {xs : List V} (I : Inv X pins σ H s) (h : H p = some (.lst xs)) :
    ∃ (its : List Value) (n : Nat), Vals xs its ∧ s.heap.get? p = some { cls := .type "list", data := .seq its.toArray n } ∧ xs.length ≤ sizeLine := by
  obtain ⟨z, its, n, r, e⟩ := I.hok p _ h
  exact ⟨its, n, r, e, z⟩
theorem Inv.lstUpd {pins : List (Addr × Obj)} {σ : St} {H : Hp} {s : Shared} {p : Addr} {xs ys : List V} {its its' : List Value} {n n' : Nat} {f : Obj → Obj} (I : Inv X pins σ H s) (h : H p = some (.lst xs))
    (ho : s.heap.get? p = some { cls := .type "list", data := .seq its.toArray n }) (hf : f { cls := .type "list", data := .seq its.toArray n } = { cls := .type "list", data := .seq its'.toArray n' }) (r : Vals ys its') (hz : ys.length ≤ sizeLine) (t : Nat) :
    Inv X pins σ (upd H p (.lst ys)) { s with heap := s.heap.update p f, toks := t } := by
  have e : (s.heap.update p f).get? p = some { cls := .type "list", data := .seq its'.toArray n' } := by
    rw [Heap.get?_update_self f ho (by rw [hf] <;> rfl), hf]
  refine I.write (x := p) (e := p) (by rw [h]; trivial) (.inl rfl) (fun b u hb q => (Heap.get?_update_other _ _ (Ne.symm hb)).trans q) ⟨_, e⟩ ?_
  exact ⟨hz, its', n', r, e⟩
def rSetL : V → V → V → Hp → (Hp → Prop) → Prop := fun o i v H Q => ∃ p xs k j, o = .ref p ∧ i = .int k ∧ H p = some (.lst xs) ∧ ixN xs.length k = some j ∧ Q (upd H p (.lst (xs.set j v)))
theorem set_list : PSet X rSetL := by
  intro pins s σ H o i v ov iv u Q I ro ri rv h
  obtain ⟨p, xs, k, j, rfl, rfl, hp, hj, q⟩ := h
  cases ro
  obtain ⟨t, rfl⟩ := ri
  obtain ⟨its, n, r, ho, hz⟩ := I.lst hp
  obtain ⟨h1, h2, h3, h4⟩ := ixN_seq hj
  have hl := r.length
  have hn := line63
  have I' : Inv X pins σ (upd H p (.lst (xs.set j v))) { s with heap := s.heap.update p (Obj.mapSeq (·.setIfInBounds j u)) } :=
    I.lstUpd hp ho (mapSeq_set its n j u) (r.set rv j) (by rw [List.length_set]; exact hz) s.toks
  by_cases h0 : 0 ≤ k
  · have hk : k.toNat = j := by
      rw [seqIndex_of h0 h4] at h1
      exact Option.some.inj h1
    exact PySem.W.ki_setAt ho h0 (by omega) (by rw [List.size_toArray, ← hl]; exact h4) (by rw [hk]; exact ⟨_, I', q⟩)
  · have hk : (k + (its.toArray.size : Int)).toNat = j := by
      rw [seqIndex_neg (by omega) h3] at h1
      rw [List.size_toArray, ← hl]
      exact Option.some.inj h1
    exact PySem.W.ki_setBack ho (by omega) (by rw [List.size_toArray, ← hl]; exact h3) (by omega) (by rw [hk]; exact ⟨_, I', q⟩)
theorem slice_bounds (lo hi : Option Int) (n : Nat) : (sliceBounds lo hi none n).1 = ((HT.sIx n 0 lo : Nat) : Int) ∧ (sliceBounds lo hi none n).2.1 = ((HT.sIx n n hi : Nat) : Int) ∧ (sliceBounds lo hi none n).2.2 = 1 := by
  refine ⟨?_, ?_, rfl⟩
  · cases lo with
    | none => simp [sliceBounds, HT.sIx]
    | some i =>
      simp only [sliceBounds, HT.sIx, Option.getD_none, show (1 : Int) > 0 by decide, if_true]
      by_cases h : i < 0
      · simp only [h, if_true] <;> omega
      · simp only [h, if_false] <;> omega
  · cases hi with
    | none => simp [sliceBounds, HT.sIx]
    | some i =>
      simp only [sliceBounds, HT.sIx, Option.getD_none, show (1 : Int) > 0 by decide, if_true]
      by_cases h : i < 0
      · simp only [h, if_true] <;> omega
      · simp only [h, if_false] <;> omega
theorem slicePick_cut (its : List Value) (lo hi : Option Int) : slicePick its.toArray lo hi none = ((its.drop (HT.sIx its.length 0 lo)).take (HT.sIx its.length its.length hi - HT.sIx its.length 0 lo)).toArray := by
  obtain ⟨h1, h2, h3⟩ := slice_bounds lo hi its.toArray.size
  unfold slicePick
  rw [h1, h2, h3]
  simp only [sliceRange_one, pick_run, List.size_toArray] <;> rfl
def rSlL (K : PySem.W.Frag) : V → Option Int → Option Int → Hp → VK → Prop := fun x lo hi H Q => ∃ a xs, x = .ref a ∧ SqL K H a xs ∧ ∀ p, H p = none → Q (.ref p) (upd H p (.lst (cutV xs lo hi)))
theorem sl_list : SlR X (rSlL X.K) := by
  intro pins s σ H x v vl vu lo hi sl Q I rx hs pl pu h
  obtain ⟨a, xs, rfl, hx, q⟩ := h
  cases rx
  obtain ⟨its, r, ht, hz⟩ := I.list hx
  have hlen := r.length
  refine ⟨"list", _, slot_list_getitem.lookup, ht.isList.typeIs, ?_⟩
  refine wpAny_getItem_list_slice ht.isList hs pl pu .none (by simp) ?_ (by rw [List.size_toArray] <;> omega)
  rw [slicePick_cut, ← hlen]
  refine ⟨.ref s.heap.objs.size, _, I.laid (t' := s.toks) (o := .lst (cutV xs lo hi)) (fun b ob q => Heap.get?_push_of_some _ q) (Nat.le_refl _) ?_, rfl, q _ (I.hok.fresh (Nat.le_refl _))⟩
  exact ⟨Nat.le_trans (cutV_length xs lo hi) hz, _, 0, (r.drop (HT.sIx xs.length 0 lo)).take (HT.sIx xs.length xs.length hi - HT.sIx xs.length 0 lo), Heap.get?_push_size _ rfl⟩
def flatV : V → Bool
  | .non => true
  | .bl _ => true
  | .int _ => true
  | .str _ => true
  | _ => false
def eqV : V → V → Bool
  | .non, .non => true
  | .bl a, .bl b => a == b
  | .bl a, .int b => (if a then 1 else 0) == b
  | .int a, .bl b => a == (if b then 1 else 0)
  | .int a, .int b => a == b
  | .str a, .str b => a == b
  | _, _ => false
theorem eqAt_V {A : Around} {s : Shared} {y x : V} {u v : Value} (ry : RelV y u) (rx : RelV x v) (fy : flatV y = true) (fx : flatV x = true) : SeqAt.EqAt A s u v (eqV y x) := by
  cases y with
  | non =>
    cases ry
    cases x with
    | non => cases rx; exact SeqAt.EqAt.same _
    | bl b => cases rx; exact SeqAt.EqAt.none_bool b
    | int b => obtain ⟨t, rfl⟩ := rx; exact SeqAt.EqAt.none_int b t
    | str b => obtain ⟨t, rfl⟩ := rx; exact SeqAt.EqAt.none_str b t
    | _ => exact absurd (show false = true from fx) Bool.false_ne_true
  | bl a =>
    cases ry
    cases x with
    | non => cases rx; exact SeqAt.EqAt.bool_none a
    | bl b => cases rx; exact SeqAt.EqAt.bool_bool a b
    | int b => obtain ⟨t, rfl⟩ := rx; exact SeqAt.EqAt.bool_int a b t
    | str b => obtain ⟨t, rfl⟩ := rx; exact SeqAt.EqAt.bool_str a b t
    | _ => exact absurd (show false = true from fx) Bool.false_ne_true
  | int a =>
    obtain ⟨t', rfl⟩ := ry
    cases x with
    | non => cases rx; exact SeqAt.EqAt.int_none a t'
    | bl b => cases rx; exact SeqAt.EqAt.int_bool a t' b
    | int b => obtain ⟨t, rfl⟩ := rx; exact SeqAt.EqAt.int_int a t' b t
    | str b => obtain ⟨t, rfl⟩ := rx; exact SeqAt.EqAt.int_str a t' b t
    | _ => exact absurd (show false = true from fx) Bool.false_ne_true
  | str a =>
    obtain ⟨t', rfl⟩ := ry
    cases x with
    | non => cases rx; exact SeqAt.EqAt.str_none a t'
    | bl b => cases rx; exact SeqAt.EqAt.str_bool a t' b
    | int b => obtain ⟨t, rfl⟩ := rx; exact SeqAt.EqAt.str_int a t' b t
    | str b => obtain ⟨t, rfl⟩ := rx; exact SeqAt.EqAt.str_str a t' b t
    | _ => exact absurd (show false = true from fx) Bool.false_ne_true
  | _ => exact absurd (show false = true from fy) Bool.false_ne_true
def eqU (x : V) (u : Value) : Bool := match u with
  | .none => eqV .non x
  | .bool b => eqV (.bl b) x
  | .int i _ => eqV (.int i) x
  | .str z _ => eqV (.str z) x
  | _ => false
theorem eqU_of {x y : V} {u : Value} (r : RelV y u) (f : flatV y = true) : eqU x u = eqV y x := by
  cases y with
  | non => cases r; rfl
  | bl b => cases r; rfl
  | int i => obtain ⟨t, rfl⟩ := r; rfl
  | str z => obtain ⟨t, rfl⟩ := r; rfl
  | _ => exact absurd (show false = true from f) Bool.false_ne_true
theorem any_eqU {x : V} : ∀ {xs : List V} {us : List Value}, Vals xs us → xs.all flatV = true → us.any (eqU x) = xs.any fun y => eqV y x
  | _, _, .nil, _ => rfl
  | y :: xs, u :: us, .cons r t, f => by
    rw [List.all_cons, Bool.and_eq_true] at f
    rw [List.any_cons, List.any_cons, eqU_of r f.1, any_eqU t f.2]
theorem mem_eqAt {A : Around} {s : Shared} {x : V} {v : Value} (rx : RelV x v) (fx : flatV x = true) : ∀ {xs : List V} {us : List Value}, Vals xs us → xs.all flatV = true → ∀ u ∈ us, SeqAt.EqAt A s u v (eqU x u)
  | _, _, .nil, _ => fun u hu => by cases hu
  | y :: xs, u :: us, .cons r t, f => fun u' hu => by
    rw [List.all_cons, Bool.and_eq_true] at f
    rcases List.mem_cons.mp hu with rfl | hu
    · rw [eqU_of r f.1]; exact eqAt_V r rx f.1 fx
    · exact mem_eqAt rx fx t f.2 u' hu
def inV (x : V) (xs : List V) : Bool := xs.any fun y => eqV y x
def rIn (K : PySem.W.Frag) (neg : Bool) : R2 := fun x y H Q => ∃ p xs, y = .ref p ∧ (SqL K H p xs ∨ SqT K H p xs) ∧ flatV x = true ∧ xs.all flatV = true ∧ Q (.bl (if neg then !inV x xs else inV x xs)) H
theorem op_in_seq : OpR X (compareOp .In) (rIn X.K false) := by
  intro pins s σ H x y v u Q I rx ry h
  obtain ⟨p, xs, rfl, hq, fx, fs, q⟩ := h
  cases ry
  rcases hq with hq | hq
  · obtain ⟨its, r, pl, hz⟩ := I.list hq
    refine SeqAt.in_listAt (eqU x) pl.isList (fun w hw => mem_eqAt rx fx r fs w (by simpa using hw)) ⟨.bl _, H, I, rfl, ?_⟩
    rw [show its.toArray.any (eqU x) = its.any (eqU x) by simp, any_eqU r fs]
    exact q
  · obtain ⟨its, r, pl, hz⟩ := I.tuple hq
    refine SeqAt.in_tupleAt (eqU x) pl (fun w hw => mem_eqAt rx fx r fs w (by simpa using hw)) ⟨.bl _, H, I, rfl, ?_⟩
    rw [show its.toArray.any (eqU x) = its.any (eqU x) by simp, any_eqU r fs]
    exact q
theorem op_notIn_seq : OpR X (compareOp .NotIn) (rIn X.K true) := by
  intro pins s σ H x y v u Q I rx ry h
  obtain ⟨p, xs, rfl, hq, fx, fs, q⟩ := h
  cases ry
  rcases hq with hq | hq
  · obtain ⟨its, r, pl, hz⟩ := I.list hq
    refine SeqAt.notIn_listAt (eqU x) pl.isList (fun w hw => mem_eqAt rx fx r fs w (by simpa using hw)) ⟨.bl _, H, I, rfl, ?_⟩
    rw [show its.toArray.any (eqU x) = its.any (eqU x) by simp, any_eqU r fs]
    exact q
  · obtain ⟨its, r, pl, hz⟩ := I.tuple hq
    refine SeqAt.notIn_tupleAt (eqU x) pl (fun w hw => mem_eqAt rx fx r fs w (by simpa using hw)) ⟨.bl _, H, I, rfl, ?_⟩
    rw [show its.toArray.any (eqU x) = its.any (eqU x) by simp, any_eqU r fs]
    exact q
theorem call_len_seq : CallR X (.builtin "len") (fun xs H Q => ∃ p ys, xs = [.ref p] ∧ (SqL X.K H p ys ∨ SqT X.K H p ys) ∧ Q (.int ys.length) H) := by
  intro pins s σ H xs us Q I r h
  obtain ⟨p, ys, rfl, hq, q⟩ := h
  obtain ⟨u, rfl, rx⟩ := vals1 r
  cases rx
  have hn := line63
  rcases hq with hq | hq
  · obtain ⟨its, r', pl, hz⟩ := I.list hq
    have hlen := r'.length
    exact Calls.call_len_list pl.isList (by simp only [List.size_toArray] <;> omega) ⟨.int ys.length, H, I.tok _, ⟨s.toks + 1, by rw [List.size_toArray, hlen]⟩, q⟩
  · obtain ⟨its, r', pl, hz⟩ := I.tuple hq
    have hlen := r'.length
    exact len_tuple pl (by simp only [List.size_toArray] <;> omega) ⟨.int ys.length, H, I.tok _, ⟨s.toks + 1, by rw [List.size_toArray, hlen]⟩, q⟩
theorem CallR.or {f : Value} {r r' : List V → Hp → VK → Prop} (h : CallR X f r) (h' : CallR X f r') : CallR X f (fun xs H Q => r xs H Q ∨ r' xs H Q) := by
  intro pins s σ H xs us Q I rs q
  rcases q with q | q
  · exact h pins s σ H xs us Q I rs q
  · exact h' pins s σ H xs us Q I rs q
theorem call_list_of : CallR X (.type "list") (fun xs H Q => ∃ p ys, xs = [.ref p] ∧ (SqL X.K H p ys ∨ SqT X.K H p ys) ∧ ∀ l, H l = none → Q (.ref l) (upd H l (.lst ys))) := by
  intro pins s σ H xs us Q I r h
  obtain ⟨p, ys, rfl, hq, q⟩ := h
  obtain ⟨u, rfl, rx⟩ := vals1 r
  cases rx
  have fin : ∀ (its : List Value), Vals ys its → ys.length ≤ sizeLine → ∀ (h' : Heap) (c' : Nat), (∀ b o', s.heap.get? b = some o' → h'.get? b = some o') →
      h'.get? s.heap.objs.size = some { cls := .type "list", dict := none, data := .seq its.toArray c', slots := #[] } → EP X pins σ Q (.ref s.heap.objs.size) { s with heap := h' } := fun its r' hz h' c' kp e =>
    ⟨.ref s.heap.objs.size, _, I.laid (t' := s.toks) kp (Nat.le_refl _) (show ObjOk X.prog X.w _ h' _ (.lst ys) from ⟨hz, its, c', r', e⟩), rfl, q _ (I.hok.fresh (Nat.le_refl _))⟩
  rcases hq with hq | hq
  · obtain ⟨its, r', pl, hz⟩ := I.list hq
    have hlen := r'.length
    obtain ⟨o, ho, hc, n, hd⟩ := pl.isList
    exact call_list_seq p (.inl rfl) ho hc hd (fun h' c' kp e => fin its r' hz h' c' kp e) (by simp only [List.size_toArray] <;> omega)
  · obtain ⟨its, r', pl, hz⟩ := I.tuple hq
    have hlen := r'.length
    obtain ⟨o, ho, hc, n, hd⟩ := pl
    exact call_list_seq p (.inr rfl) ho hc hd (fun h' c' kp e => fin its r' hz h' c' kp e) (by simp only [List.size_toArray] <;> omega)
theorem call_tuple_of : CallR X (.type "tuple") (fun xs H Q => ∃ p ys, xs = [.ref p] ∧ ((SqL X.K H p ys ∧ ∀ l, H l = none → Q (.ref l) (upd H l (.tup ys))) ∨ (SqT X.K H p ys ∧ Q (.ref p) H))) := by
  intro pins s σ H xs us Q I r h
  obtain ⟨p, ys, rfl, h⟩ := h
  obtain ⟨u, rfl, rx⟩ := vals1 r
  cases rx
  rcases h with ⟨hq, q⟩ | ⟨hq, q⟩
  · obtain ⟨its, r', pl, hz⟩ := I.list hq
    have hlen := r'.length
    refine call_tuple_list pl.isList (fun h' kp => ?_) (by simp only [List.size_toArray] <;> omega)
    have I1 : Inv X pins σ H { s with heap := h' } := I.kept (t' := s.toks) kp
    have I2 : Inv X pins σ (upd H h'.objs.size (.tup ys)) { s with heap := h'.push { cls := .type "tuple", data := .seq its.toArray } } :=
      I1.laid (t' := s.toks) (fun b o e => Heap.get?_push_of_some _ e) (Nat.le_refl _) (show ObjOk X.prog X.w _ _ _ (.tup ys) from ⟨hz, its, r', TupN.new _ _⟩)
    exact ⟨.ref h'.objs.size, _, I2, rfl, q _ (I1.hok.fresh (Nat.le_refl _))⟩
  · obtain ⟨its, r', pl, hz⟩ := I.tuple hq
    exact call_tuple_same pl ⟨.ref p, H, I, rfl, q⟩
def tyV (K : PySem.W.Frag) (T : String) (x : V) (H : Hp) : Prop := match x with
  | .str _ => T = "str"
  | .int _ => T = "int"
  | .ref p => (T = "list" ∧ ∃ xs, SqL K H p xs) ∨ (T = "tuple" ∧ ∃ o, K.lookup p = some o ∧ o.cls = .type "tuple" ∧ o.dict = none) ∨
      (T = "dict" ∧ ((∃ kvs, H p = some (.dK kvs)) ∨ ∃ kvs, H p = some (.dT kvs))) ∨ (T = "set" ∧ ∃ S n, H p = some (.set S n))
  | _ => False
theorem tyV_is {pins : List (Addr × Obj)} {σ : St} {H : Hp} {s : Shared} {T : String} {x : V} {v : Value} (I : Inv X pins σ H s) (r : RelV x v) (ty : tyV X.K T x H) :
    s.TypeIs v T ∧ ∀ a, v = .ref a → ∃ ob, s.heap.get? a = some ob ∧ ob.dict = none := by
  cases x with
  | str z =>
    obtain ⟨t, rfl⟩ := r
    cases (show T = "str" from ty)
    exact ⟨typeIs_str s z t, fun _ e => nomatch e⟩
  | int i =>
    obtain ⟨t, rfl⟩ := r
    cases (show T = "int" from ty)
    exact ⟨typeIs_int s i t, fun _ e => nomatch e⟩
  | ref p =>
    cases r
    rcases ty with ⟨rfl, xs, hq⟩ | ⟨rfl, o, hk, hc, hd⟩ | ⟨rfl, hk⟩ | ⟨rfl, S, n, hk⟩
    · obtain ⟨its, _, pl, _⟩ := I.list hq
      refine ⟨pl.isList.typeIs, fun a e => ?_⟩
      cases e
      obtain ⟨o, n, e, c, hd, _⟩ := pl
      exact ⟨o, e, hd⟩
    · refine ⟨⟨o, I.kIn p o hk, hc⟩, fun a e => ?_⟩
      cases e
      exact ⟨o, I.kIn _ o hk, hd⟩
    · have z : ∃ o, s.heap.get? p = some o ∧ o.ExactDict := by
        rcases hk with ⟨kvs, hk⟩ | ⟨kvs, hk⟩
        · obtain ⟨_, _, _, _, o, _, _, e, ex, _⟩ := I.hok p _ hk
          exact ⟨o, e, ex⟩
        · obtain ⟨_, _, _, _, o, _, _, e, ex, _⟩ := I.hok p _ hk
          exact ⟨o, e, ex⟩
      obtain ⟨o, e, ex⟩ := z
      refine ⟨⟨o, e, ex.1⟩, fun a e2 => ?_⟩
      cases e2
      exact ⟨o, e, ex.2.1⟩
    · obtain ⟨o, _, _, _, e, ex, _⟩ := I.hok p _ hk
      refine ⟨⟨o, e, ex.1⟩, fun a e2 => ?_⟩
      cases e2
      exact ⟨o, e, ex.2.1⟩
  | _ => exact False.elim ty
def tBM (K : PySem.W.Frag) (T : String) (r : V → List V → Hp → VK → Prop) (to : TE) (t : TA) : TE := fun σ H Q => to σ H fun x H1 => tyV K T x H1 ∧ t σ H1 fun xs H2 => r x xs H2 Q
variable {o e : Expr} {es : List Expr} {to : TE} {t : TA} {name : Str} {apos cpos : Pos} {T id : String} {r : V → List V → Hp → VK → Prop}
theorem pe_bm (pa : PlainAttrs T) (slot : Slot T name id) (hty : typeOf (.builtin id) = pure (.type "method_descriptor")) (hm : MtR X id r) (ho : PE X o to) (ha : PA X (e :: es) t)
    (hbase : attributeBase o name X.env (eval o X.env) = eval o X.env := by rfl)
    (hfew : ((backTo cpos (starEach (e :: es) X.env)).all (fun x => !x.1) && (backToKw cpos (keywordEach [] X.env)).all (fun x => x.1.isSome)
      && decide ((e :: es).length + ([] : List Keyword).length + (if ([] : List Keyword).isEmpty then 0 else 1) < 30)) = true := by rfl)
    (hline : (apos.endLine == cpos.line) = true := by rfl) (hs : starEach (e :: es) X.env = (false, eval e X.env) :: starEach es X.env := by rfl) (hplain : (backTo cpos (starEach es X.env)).any (·.1) = false := by rfl) :
    PE X (.Call (.Attribute o name apos) (e :: es) [] cpos) (tBM X.K T r to t) := by
  intro pins s σ H Q I h
  refine wpAny_Call_method_late hbase hfew hline rfl (thn (ho pins s σ H _ I h) fun v s1 ⟨x, H1, I1, r1, ty, q1⟩ => ?_)
  obtain ⟨h1, h2⟩ := tyV_is I1 r1 ty
  refine ⟨T, id, pa, slot, hty, h1, h2, ?_⟩
  have hA := ha cpos pins s1 σ H1 _ I1 q1
  rw [hs] at hA ⊢
  refine Calls.callWith_builtin (by show (false || (backTo cpos (starEach es X.env)).any (·.1)) = false; rw [hplain] <;> rfl) (Calls.evalArgs_plain ?_)
  exact thn hA fun us s2 ⟨vs, H2, I2, r2, q2⟩ => hm pins s2 σ H2 x vs v us Q I2 r1 r2 q2
end
end L2
namespace L2
open PySem PySem.Spec PyProof.Rows
def MtM (X : Cx) (id : String) (r : V → List V → Hp → VK → Prop) : Prop :=
  ∀ (pins : List (Addr × Obj)) (s : Shared) (σ : St) (H : Hp) (x : V) (xs : List V) (v : Value) (us : List Value) (Q : VK), Inv X pins σ H s → RelV x v → Vals xs us → r x xs H Q →
    wpAny (model X.prog X.w) X.A (call (.builtin id) (v :: us)) (EP X pins σ Q) X.xe s
theorem Vals.one : ∀ {x : V} {us : List Value}, Vals [x] us → ∃ u, us = [u] ∧ RelV x u
  | _, _, .cons r .nil => ⟨_, rfl, r⟩
theorem Vals.two : ∀ {x y : V} {us : List Value}, Vals [x, y] us → ∃ u v, us = [u, v] ∧ RelV x u ∧ RelV y v
  | _, _, _, .cons r (.cons q .nil) => ⟨_, _, rfl, r, q⟩
theorem Vals.zero : ∀ {us : List Value}, Vals [] us → us = []
  | _, .nil => rfl
theorem Vals.eraseIdx : ∀ {xs : List V} {us : List Value} (i : Nat), Vals xs us → Vals (xs.eraseIdx i) (us.eraseIdx i)
  | _, _, _, .nil => .nil
  | _, _, 0, .cons _ t => t
  | _, _, i + 1, .cons r t => .cons r (Vals.eraseIdx i t)
theorem Vals.reverse {xs : List V} {us : List Value} (h : Vals xs us) : Vals xs.reverse us.reverse := by
  induction h with
  | nil => exact .nil
  | cons r t ih => rw [List.reverse_cons, List.reverse_cons]; exact Vals.append ih (.cons r .nil)
theorem Vals.rep {xs : List V} {us : List Value} (h : Vals xs us) : ∀ k : Nat, Vals (List.replicate k xs).flatten (List.replicate k us).flatten
  | 0 => .nil
  | k + 1 => by
    rw [List.replicate_succ, List.replicate_succ, List.flatten_cons, List.flatten_cons]
    exact Vals.append h (Vals.rep h k)
theorem foldl_rep (its : List Value) : ∀ (k : Nat) (acc : List Value),
    List.foldl (fun x1 x2 => x1 ++ x2) acc.toArray (List.replicate k its.toArray) = (acc ++ (List.replicate k its).flatten).toArray
  | 0, acc => by simp
  | k + 1, acc => by
    have e : acc.toArray ++ its.toArray = (acc ++ its).toArray := by simp
    have e2 : (acc ++ its) ++ (List.replicate k its).flatten = acc ++ (List.replicate (k + 1) its).flatten := by
      rw [List.replicate_succ, List.flatten_cons, List.append_assoc]
    rw [← e2, ← foldl_rep its k (acc ++ its), ← e, List.replicate_succ, List.foldl_cons]
section
variable {X : Cx} {pins : List (Addr × Obj)} {σ : St} {H : Hp} {s : Shared} {l b : Addr} {xs ys zs : List V}
theorem Inv.lset {its its' : List Value} {n : Nat} {f : Array Value → Array Value} {t' : Nat} (I : Inv X pins σ H s) (hH : H l = some (.lst xs))
    (e : s.heap.get? l = some { cls := .type "list", data := .seq its.toArray n }) (hf : f its.toArray = its'.toArray) (hv : Vals ys its') (hz : ys.length ≤ sizeLine) :
    Inv X pins σ (upd H l (.lst ys)) { s with heap := s.heap.update l (Obj.mapSeq f), toks := t' } := by
  have q := PySem.IsL.update e f
  rw [hf] at q
  refine I.write (x := l) (e := l) (by rw [hH]; exact trivial) (.inl rfl) (fun b' u hb hu => (Heap.get?_update_other s.heap (Obj.mapSeq f) (Ne.symm hb)).trans hu) ⟨_, q⟩ ?_
  exact ⟨hz, its', _, hv, q⟩
theorem Inv.lnew {its : List Value} {t' : Nat} (I : Inv X pins σ H s) (hv : Vals ys its) (hz : ys.length ≤ sizeLine) :
    Inv X pins σ (upd H s.heap.objs.size (.lst ys)) { s with heap := s.heap.push { cls := .type "list", data := .seq its.toArray }, toks := t' } :=
  I.laid (fun _ _ q => Heap.get?_push_of_some _ q) (Nat.le_refl _) ⟨hz, its, 0, hv, Heap.get?_push_size _ rfl⟩
theorem Inv.fresh (I : Inv X pins σ H s) : H s.heap.objs.size = none := I.hok.fresh (Nat.le_refl _)
theorem Inv.lstM (I : Inv X pins σ H s) (hH : H l = some (.lst xs)) : xs.length ≤ sizeLine ∧ ∃ (its : List Value) (n : Nat), Vals xs its ∧ xs.length = its.length ∧ s.heap.get? l = some { cls := .type "list", data := .seq its.toArray n } := by
  obtain ⟨z, its, n, r, e⟩ := I.hok l _ hH
  exact ⟨z, its, n, r, r.length, e⟩
theorem notLongL {n : Nat} (h : n ≤ sizeLine) : Builtin.List.listTooLong n = false := by
  unfold Builtin.List.listTooLong
  exact decide_eq_false (by omega)
end
section
variable {X : Cx}
def rAppend : V → List V → Hp → VK → Prop := fun x vs H Q => ∃ l xs y, x = .ref l ∧ vs = [y] ∧ H l = some (.lst xs) ∧ xs.length < sizeLine ∧ Q .non (upd H l (.lst (xs ++ [y])))
theorem mt_append : MtM X "list.append" rAppend := by
  intro pins s σ H x vs v us Q I rx rv h
  obtain ⟨l, xs, y, rfl, rfl, hH, hz, q⟩ := h
  cases rx
  obtain ⟨u, rfl, ru⟩ := rv.one
  obtain ⟨z, its, n, r, hl, e⟩ := I.lstM hH
  refine call_meets F.slot_list_append ⟨_, e, rfl⟩ F.entry_list_append (F.args_list_append_2 _ _) (PySem.list_append l its.toArray n u (by rw [List.size_toArray]; omega)) ⟨e, ?_⟩
  refine ⟨.non, _, I.lset (its' := its ++ [u]) hH e (by simp) (r.append (.cons ru .nil)) ?_, rfl, q⟩
  rw [List.length_append, List.length_singleton]
  omega
def rExtend : V → List V → Hp → VK → Prop := fun x vs H Q => ∃ l b xs zs, x = .ref l ∧ vs = [.ref b] ∧ H l = some (.lst xs) ∧ H b = some (.lst zs) ∧ xs.length + zs.length ≤ sizeLine ∧ Q .non (upd H l (.lst (xs ++ zs)))
theorem mt_extend : MtM X "list.extend" rExtend := by
  intro pins s σ H x vs v us Q I rx rv h
  obtain ⟨l, b, xs, zs, rfl, rfl, hH, hB, hz, q⟩ := h
  cases rx
  obtain ⟨u, rfl, ru⟩ := rv.one
  cases ru
  obtain ⟨z, its, n, r, hl, e⟩ := I.lstM hH
  obtain ⟨z2, its2, n2, r2, hl2, e2⟩ := I.lstM hB
  have hsz : its.toArray.size + its2.toArray.size ≤ sizeLine := by rw [List.size_toArray, List.size_toArray]; omega
  have hlong : ¬ (!its.toArray.isEmpty && Builtin.List.listTooLong (its.toArray.size + its2.toArray.size)) = true := by
    rw [notLongL hsz, Bool.and_false]
    exact Bool.false_ne_true
  refine call_meets F.slot_list_extend ⟨_, e, rfl⟩ F.entry_list_extend (F.args_list_extend_2 _ _)
    (AutoSeq1.list_extend_list_list_0 l its.toArray n b its2.toArray n2 hlong (by rw [List.size_toArray]; omega) (by omega)) ⟨e, e2, ?_⟩
  refine ⟨.non, _, I.lset (its' := its ++ its2) hH e (by simp) (r.append r2) ?_, rfl, q⟩
  rw [List.length_append]
  omega
def rCat : R2 := fun x y H Q => ∃ l b xs zs, x = .ref l ∧ y = .ref b ∧ H l = some (.lst xs) ∧ H b = some (.lst zs) ∧ xs.length + zs.length ≤ sizeLine ∧ ∀ p, H p = none → Q (.ref p) (upd H p (.lst (xs ++ zs)))
theorem op_cat : OpR X (binaryOp .Add) rCat := by
  intro pins s σ H x y v u Q I rx ry h
  obtain ⟨l, b, xs, zs, rfl, rfl, hH, hB, hz, q⟩ := h
  cases rx
  cases ry
  obtain ⟨z, its, n, r, hl, e⟩ := I.lstM hH
  obtain ⟨z2, its2, n2, r2, hl2, e2⟩ := I.lstM hB
  refine PySem.P.add_list e e2 ?_ (by rw [List.size_toArray, List.size_toArray]; omega)
  have ea : its.toArray ++ its2.toArray = (its ++ its2).toArray := by simp
  rw [ea]
  exact ⟨.ref _, _, I.lnew (t' := s.toks) (r.append r2) (by rw [List.length_append]; omega), rfl, q _ I.fresh⟩
def rRep : R2 := fun x y H Q => ∃ l k xs, x = .ref l ∧ y = .int k ∧ H l = some (.lst xs) ∧ -(2 ^ 63) ≤ k ∧ k < 2 ^ 63 ∧ xs.length * k.toNat ≤ sizeLine ∧
  ∀ p, H p = none → Q (.ref p) (upd H p (.lst (List.replicate k.toNat xs).flatten))
theorem len_rep {α : Type} (xs : List α) (k : Nat) : (List.replicate k xs).flatten.length = k * xs.length := by
  induction k with
  | zero => simp
  | succ k ih => rw [List.replicate_succ, List.flatten_cons, List.length_append, ih, Nat.succ_mul, Nat.add_comm]
theorem op_rep : OpR X (binaryOp .Mult) rRep := by
  intro pins s σ H x y v u Q I rx ry h
  obtain ⟨l, k, xs, rfl, rfl, hH, h1, h2, hz, q⟩ := h
  cases rx
  obtain ⟨t, rfl⟩ := ry
  obtain ⟨z, its, n, r, hl, e⟩ := I.lstM hH
  have hlen : its.toArray.size * k.toNat ≤ sizeLine := by rw [List.size_toArray, ← hl]; exact hz
  have hcap : ¬ its.toArray.size * k.toNat > (2 ^ 63 - 1) / 8 := by
    have : (sizeLine : Nat) ≤ (2 ^ 63 - 1) / 8 := by decide
    omega
  have hfit : ¬ (!Builtin.List.listFitsIndex k) = true := by
    rw [fitsIndex_both h1 h2]
    exact Bool.false_ne_true
  have hlong : ¬ Builtin.List.listTooLong (its.toArray.size * k.toNat) = true := by
    rw [notLongL hlen]
    exact Bool.false_ne_true
  have hnew : List.foldl (fun x1 x2 => x1 ++ x2) #[] (List.replicate (if its.toArray.isEmpty = true then 0 else k.toNat) its.toArray) = (List.replicate k.toNat its).flatten.toArray := by
    have f0 : ∀ m : Nat, List.foldl (fun x1 x2 => x1 ++ x2) #[] (List.replicate m its.toArray) = (List.replicate m its).flatten.toArray := fun m => by
      have := foldl_rep its m []
      rw [List.nil_append] at this
      exact this
    rw [f0]
    cases its with
    | nil => simp
    | cons a r' => rw [if_neg (by simp)]
  refine wpAny_binaryOp_repeat_ref (T := "list") (U := "int") (by decide) ⟨_, e, rfl⟩ (fun s' => typeIs_int s' k t) noFill_list_mul F.fills_int_mul F.slot_int_rmul repeat_list F.slot_int_index.lookup
    (call_meets F.slot_int_rmul (typeIs_int s k t) F.entry_int_rmul (F.args_int_rmul_2 _ _) (int___rmul___int_list k t l its.toArray n)
      ⟨e, rfl, ⟨_, e, rfl⟩, call_meets F.slot_list_mul ⟨_, e, rfl⟩ F.entry_list_mul (F.args_list_mul_2 _ _) (AutoListH.list___mul___list_int_3 l its.toArray n k t hfit hcap hlong) ⟨e, ?_⟩⟩)
  rw [hnew]
  exact ⟨.ref _, _, I.lnew (t' := s.toks) (r.rep k.toNat) (by rw [len_rep, Nat.mul_comm]; exact hz), rfl, q _ I.fresh⟩
end
section
variable {prog : Program} {w : World} {A : Around} {E : Value → Shared → Prop} {s : Shared}
set_option maxRecDepth 100000 in
end
section
variable {X : Cx}
end
end L2
namespace Att
open PySem PySem.W PySem.Calls PyProof.Rows
theorem ints_of_wellAll {P : Params} {h : Heap} : ∀ (ns : List Int) (vs : List Value), WellAll P h vs (ns.map WData.int) → IntsAre vs ns := by
  intro ns
  induction ns with
  | nil =>
    intro vs w
    rw [List.map_nil] at w
    cases w
    exact .nil
  | cons n ns ih =>
    intro vs w
    rw [List.map_cons] at w
    cases w with
    | cons a b =>
      cases a
      exact .cons _ _ (ih _ b)
theorem script_of {l : OpenLaw} {n : Nat} (hn : l.most = some n) {P : Params} {h : Heap} {args : List WData} {vals : List Value}
    (hpre : l.row.toRowW.claim.pre args = true) (hwl : WellAll P h vals args) :
    ∃ a vs ns, vals = [Value.ref a] ∧ args = [WData.list (ns.map WData.int)] ∧ h.get? a = some { cls := .type "list", data := .seq vs.toArray } ∧ IntsAre vs ns ∧ ns.length ≤ n := by
  have hsh : WShape.hasAll [] args [.list .int] = true := (pre_splitW hpre).1
  have hc : l.pre.holds [] { args := args } = true := (pre_splitW hpre).2
  obtain ⟨d, r, rfl, h1, h2⟩ := hasAllW_cons hsh
  obtain rfl := hasAllW_nil h2
  obtain ⟨xs, rfl, h3⟩ := hasW_list h1
  obtain ⟨ns, rfl⟩ := items_int h3
  have hlen : ns.length ≤ n := by
    unfold OpenLaw.pre at hc
    have h4 : (WTm.not (.lt (.lit (.int (n : Int))) (.len (.arg 0)))).holds [] { args := [.list (ns.map .int)] } = true := by
      have h4 := (holds_andW hc).1
      rw [hn] at h4
      exact h4
    have h5 := condW_of h4 (w_not (w_lt w_lit (w_len_list (w_arg rfl))))
    rw [List.length_map] at h5
    refine Nat.le_of_not_lt fun q => ?_
    have q' : (n : Int) < ((ns.length : Nat) : Int) := by omega
    first
      | (rw [decide_eq_true q'] at h5; exact absurd h5 (by decide))
      | (simp at h5; omega)
  cases hwl with
  | cons w1 w2 =>
    cases w2
    cases w1 with
    | list ho hall => exact ⟨_, _, ns, rfl, rfl, ho, ints_of_wellAll ns _ hall, hlen⟩
theorem post_true (l : OpenLaw) (args : List WData) : l.row.toRowW.claim.post args (.bool true) args = true :=
  postW_of (r := l.row.toRowW) (X := (true == true))
    (show WShape.has [] (.bool true) .bool = true by first | rfl | decide | simp [WShape.has, WShape.arms, WShape.armsAll])
    (show (WTm.eq .res (.lit (.bool true))).value [] { args := args, res := some (.bool true), after := args } = some (.bool (true == true)) from w_eq_bool (w_res rfl) w_lit) rfl
theorem attach_call {l : OpenLaw} {n : Nat} {q : Program} {loose : List Str} {XP : (Str → Option Value) → Heap → Prop} {YP : World → Heap → Prop} {d : DefRec}
    (hn : l.most = some n) (hdf : d.params.defaults = [])
    (call : ∀ (w : World) (s₀ s₁ : Shared) (mg mb : Str → Option Value) (fa : Addr) (o : Obj) (pm cd doc : Value) (a : Addr) (vs : List Value) (ns : List Int),
      Ground q loose [] XP w s₀ mg mb s₁.heap → YP w s₁.heap →
      s₁.heap.get? fa = some o → o.data = .func (docDef d.name d.params d.body d.scope pm cd doc) → s₁.heap.CodeRec cd d.name → mg d.name = some (.ref fa) →
      s₁.heap.get? a = some { cls := .type "list", data := .seq vs.toArray } → IntsAre vs ns → ns.length ≤ n → s₁.gens = #[] →
      codeAny (model l.prog w) callerA (.call (.ref fa) ⟨[.ref a], []⟩) (fun r s' => r = .ok (.ret (.bool true)) ∧ OldK s₁.heap s'.heap ∧ s'.os = s₁.os ∧ AllBare s'.gens) s₁) :
    WalkO q loose XP YP l.row.toRowW d [] (fun f vs => PySem.call f vs) := by
  intro w s₀ s₁ mg mb G Y fa o pm cd doc dV kV ho hd hcd hD hmg hg args vals as hpre hlay hrd hwl hlo
  obtain rfl : dV = .none := Dflts.none hD hdf
  obtain rfl : kV = .none := Dflts.noKw hD
  obtain ⟨a, vs, ns, rfl, rfl, hobj, hints, hlen⟩ := script_of hn hpre hwl
  refine enter_call (codeAny_mono (call w s₀ s₁ mg mb fa o pm cd doc a vs ns G Y ho (fd_plain hd) hcd hmg hobj hints hlen hg) fun r s' hq => ?_)
  obtain ⟨rfl, h2, h3, h4⟩ := hq
  exact ⟨.inl ⟨.bool true, .bool true, [], rfl, fun _ => rfl, .bool true, post_true l _, fun _ => ⟨List.Pairwise.nil, fun _ hm => (nomatch hm)⟩⟩, h2, h3, h4⟩
section
variable {prog : Program} {w : World} {A : Around} {E : Value → Shared → Prop} {s : Shared} {K : Frag}
end
end Att
namespace L2
open PySem PySem.Spec PyProof.Rows
theorem vals_ints : ∀ {vs : List Value} {ns : List Int}, IntsAre vs ns → Vals (ns.map V.int) vs
  | _, _, .nil => .nil
  | _, _, .cons n t h => .cons ⟨t, rfl⟩ (vals_ints h)
def Only (H : Hp) : Prop := ∀ b, H b = none ∨ ∃ o xs, H b = some (.frz o (.lst xs))
theorem law_call {P : Program} {w : World} {K : PySem.W.Frag} {mg mb : Str → Option Value} {CX : CXT} {k : Nat} {fa a : Addr} {fd : FuncData} {x : Str} {sp : Sp} {s₁ : Shared} {vs : List Value} {ns : List Int}
    (KX : K.In s₁.heap) (hns : s₁.heap.Ns mainGlobals mg) (hb : s₁.heap.Ns builtinsNs mb) (hbb : ∀ x : Str, x ≠ "__name__" → mb x = bootBuiltins x) (hlim : s₁.heap.NoLimit) (hg : s₁.gens = #[])
    (ha : s₁.heap.get? a = some { cls := .type "list", data := .seq vs.toArray }) (hi : IntsAre vs ns) (hl : ns.length ≤ sizeLine) (hr : Room k callerA)
    (F : ∀ base : Heap, K.In base → base.Ns mainGlobals mg → FnOk P w K mg base CX k fa fd [x] sp) (hbind : ∀ (s : Shared) (u : Value), BindsTo s fd ⟨[u], []⟩ [(x, u)])
    (hsp : ∀ H : Hp, Only H → SqL K H a (ns.map V.int) → sp [.ref a] H (fun v _ => v = .bl true) fun _ _ _ => False)
    (hCX : ∀ H e s', CX [] H s₁ (fun _ _ _ => False) e s' → False) :
    codeAny (model P w) callerA (.call (.ref fa) ⟨[.ref a], []⟩) (fun r s' => r = .ok (.ret (.bool true)) ∧ OldK s₁.heap s'.heap ∧ s'.os = s₁.os ∧ AllBare s'.gens) s₁ := by
  have rv := vals_ints hi
  have lenV := hi.length
  have core : ∀ H : Hp, Only H → SqL K H a (ns.map V.int) → HOk P w H s₁.heap → (∀ b, H b ≠ none → b = a) → (H a ≠ none → K.lookup a = none) →
      codeAny (model P w) callerA (.call (.ref fa) ⟨[.ref a], []⟩) (fun r s' => r = .ok (.ret (.bool true)) ∧ OldK s₁.heap s'.heap ∧ s'.os = s₁.os ∧ AllBare s'.gens) s₁ := by
    intro H hO hS hok hA hK
    have base_of : ∀ {b : Addr} {o : Obj}, s₁.heap.get? b = some o → H b = none → (hidT s₁.heap H).get? b = some o := fun e n => hidT_get e n
    have noA : ∀ {b : Addr} {o : Obj} {es : Array DictEntry} {ep : Nat}, s₁.heap.get? b = some o → o.data = .dict es ep → H b = none := fun {b o es ep} e d => by
      cases q : H b with
      | none => rfl
      | some u =>
        have e' : b = a := hA b (by rw [q]; simp)
        subst e'
        rw [ha] at e; cases e
        have d' : Data.seq vs.toArray _ = Data.dict es ep := d
        cases d'
    have nsK : ∀ {b : Addr} {m : Str → Option Value}, s₁.heap.Ns b m → (hidT s₁.heap H).Ns b m := fun {b m} ⟨o, es, ep, e, d, r⟩ => ⟨o, es, ep, base_of e (noA e d), d, r⟩
    have hKb : K.In (hidT s₁.heap H) := fun b o e => base_of (KX b o e) (by
      cases q : H b with
      | none => rfl
      | some u =>
        have e' : b = a := hA b (by rw [q]; simp)
        subst e'
        rw [hK (by rw [q]; simp)] at e; cases e)
    have hM : Mod K mg (hidT s₁.heap H) := ⟨hKb, nsK hns, ⟨mb, nsK hb, hbb⟩, let ⟨mc, h1, h2⟩ := hlim; ⟨mc, nsK h1, h2⟩⟩
    have e0 : Env0 P w K mg (hidT s₁.heap H) callerA [] s₁ H := ⟨rfl, hM, fun b o e => of_hidT e, Nat.le_of_eq (hidT_size _ _), trivial, fun b hb => absurd (show b ∈ ([] : List Addr) from hb) (by simp), hok, .of_eq hg⟩
    refine codeAny_mono ((F _ hKb (nsK hns)).run callerA [] s₁ H ⟨[.ref a], []⟩ [.ref a] [.ref a] _ _ hr e0 (hbind s₁ (.ref a)) (.cons rfl .nil) (hsp H hO hS)) fun r s' h => ?_
    cases r with
    | error e => exact (hCX H e s' h).elim
    | ok fl =>
      cases fl with
      | next => exact False.elim h
      | brk => exact False.elim h
      | cont => exact False.elim h
      | ret u =>
        obtain ⟨v, H', os, bare, un, hok', r', q⟩ := h
        have q' : v = .bl true := q
        subst q'
        obtain rfl : u = Value.bool true := r'
        refine ⟨rfl, OldK.of_keep fun b o e => ?_, os, bare⟩
        cases q : H b with
        | none => exact un.keep b o e q (by intro z; exact absurd (show b ∈ ([] : List Addr) from z) (by simp)) (by simp)
        | some u =>
          rcases hO b with z | ⟨ob, xs, z⟩
          · rw [q] at z; cases z
          · have z2 := un.frzs b ob _ z
            obtain ⟨e1, _⟩ := hok b _ z
            obtain ⟨e2, _⟩ := hok' b _ z2
            rw [e] at e1; cases e1
            exact e2
  cases hk : K.lookup a with
  | some o =>
    have e := KX a o hk
    rw [ha] at e
    cases e
    refine core (fun _ => none) (fun _ => .inl rfl) (.inr ⟨_, vs.toArray, _, hk, rfl, rfl, rfl, by rw [List.size_toArray, lenV]; exact hl, by simpa using rv⟩) (fun b u z => by have z' : (none : Option HO) = some u := z; cases z') (fun b z => absurd rfl z) fun z => absurd rfl z
  | none =>
    refine core (fun b => if b = a then some (.frz { cls := .type "list", data := .seq vs.toArray } (.lst (ns.map V.int))) else none) (fun b => ?_) (.inl (.inr ⟨{ cls := .type "list", data := .seq vs.toArray }, if_pos rfl⟩)) (fun b u z => ?_) (fun b z => ?_) fun _ => hk
    · by_cases hb : b = a
      · exact .inr ⟨_, _, if_pos hb⟩
      · exact .inl (if_neg hb)
    · by_cases hb : b = a
      · have z' := (if_pos hb).symm.trans z
        cases z'
        subst hb
        exact ⟨ha, by rw [List.length_map]; exact hl, vs, _, rv, ha⟩
      · have z' := (if_neg hb).symm.trans z
        cases z'
    · by_cases hb : b = a
      · exact hb
      · exact absurd (if_neg hb) z
end L2
namespace L2
open PySem PySem.Spec PyProof.Rows
theorem walk_of {l : PySem.W.OpenLaw} {n k : Nat} {q : Program} {loose : List Str} {XP : (Str → Option Value) → Heap → Prop} {YP : World → Heap → Prop} {d : DefRec} {K : Params → PySem.W.Frag} {CX : World → CXT} {sp : World → Sp} {x : Str}
    (hn : l.most = some n) (hn2 : n ≤ sizeLine) (hdf : d.params.defaults = []) (hr : Room k callerA)
    (hY : ∀ (w : World) (h : Heap), YP w h → (K w.params).In h)
    (F : ∀ (w : World) (mg : Str → Option Value) (fa : Addr) (h : Heap), (K w.params).In h → h.Ns mainGlobals mg → mg d.name = some (.ref fa) →
      ∃ fd : FuncData, (∀ (s : Shared) (u : Value), BindsTo s fd ⟨[u], []⟩ [(x, u)]) ∧
        ∀ base : Heap, (K w.params).In base → base.Ns mainGlobals mg → FnOk l.prog w (K w.params) mg base (CX w) k fa fd [x] (sp w))
    (hsp : ∀ (w : World) (H : Hp) (a : Addr) (ns : List Int), ns.length ≤ n → Only H → SqL (K w.params) H a (ns.map V.int) → sp w [.ref a] H (fun v _ => v = .bl true) fun _ _ _ => False)
    (hCX : ∀ (w : World) (H : Hp) (s : Shared) (e : Value) (s' : Shared), CX w [] H s (fun _ _ _ => False) e s' → False) :
    PySem.W.WalkO q loose XP YP l.row.toRowW d [] (fun f vs => PySem.call f vs) := by
  refine Att.attach_call hn hdf fun w s₀ s₁ mg mb fa o pm cd doc a vs ns G Y ho hd hcd hmg hobj hints hlen hg => ?_
  have KX := hY w _ Y
  obtain ⟨fd, hb, hF⟩ := F w mg fa _ KX G.T.g hmg
  exact law_call KX G.T.g G.T.b G.T.builtins G.T.nolimit hg hobj hints (Nat.le_trans hlen hn2) hr hF hb (fun H hO hS => hsp w H a ns hlen hO hS) fun H e s' => hCX w H s₁ e s'
end L2
namespace L2
open PySem PySem.Spec PyProof.Rows
def defArgs (s : Stmt) : Arguments := match s with
  | .FunctionDef _ a _ _ _ _ _ _ _ _ => a
  | _ => { posonlyargs := [], args := [], vararg := none, kwonlyargs := [], kw_defaults := [], kwarg := none, defaults := [] }
def defBody (s : Stmt) : List Stmt := match s with
  | .FunctionDef _ _ b _ _ _ _ _ _ _ => b
  | _ => []
def defScope (s : Stmt) : Scope := match s with
  | .FunctionDef _ _ _ _ _ _ sc _ _ _ => sc
  | _ => { kind := .function, names := [], isGenerator := false, isCoroutine := false }
abbrev CX0 : CXT := fun _ _ _ _ _ _ => False
abbrev E0 : XK := fun _ _ _ => False
theorem pass0 {X : Cx} : Passes CX0 X E0 := fun _ _ _ _ _ _ _ h => h.elim
structure Fun (K : PySem.W.Frag) (x qual : Str) (st : Stmt) (f : Addr) (fd : FuncData) : Prop where
  ex : ∃ (oc : Value) (od : Option Addr) (kV doc pm : Value) (an : Option Addr) (cdv ct : Value) (osl : Array (Option Value)),
    fd = PySem.W.fnOf x qual (defArgs st) (defBody st) (defScope st) .none kV doc pm an cdv ct ∧ K.lookup f = some ⟨oc, od, .func fd, osl⟩ ∧ PySem.W.codeIn K cdv qual = true
  kp : PySem.W.keepIn K (.ref f) = true
section
variable {P : Program} {w : World} {K : PySem.W.Frag} {mg : Str → Option Value} {base : Heap}
theorem Fun.ok {x qual : Str} {st : Stmt} {f : Addr} {fd : FuncData} {N ps : List Str} {k : Nat} {sp : Sp} (F : Fun K x qual st f fd) (S : FnScope N ps (defScope st)) (len : ∀ vs H Q E, sp vs H Q E → vs.length = ps.length)
    (hbody : ∀ (cdv : Value) (A : Around) (outer : List Env) (s : Shared) (H : Hp) (vs : List V) (Q : VK) (E : XK), Room k (A.deeper (envOfC qual (defScope st) s.heap.objs.size f cdv)) → sp vs H Q E →
      ∃ t, PSs (cxOf CX0 P w K mg base N qual (defScope st) f cdv A outer s H E).nox (defBody st) t ∧ t { nx := fun _ H' => Q .non H', rt := Q } (start N vs) H) : FnOk P w K mg base CX0 (k + 1) f fd ps sp := by
  obtain ⟨oc, od, kV, doc, pm, an, cdv, ct, osl, rfl, lk, hcd⟩ := F.ex
  refine fn_of lk hcd S len fun A outer s H vs Q E hr hsp => ?_
  obtain ⟨t, h, q⟩ := hbody cdv A outer s H vs Q E hr hsp
  exact ⟨t, h.nox, q⟩
theorem Fun.binds {x qual : Str} {st : Stmt} {f : Addr} {fd : FuncData} {ps : List Str} (F : Fun K x qual st f fd)
    (h : ∀ (kV doc pm : Value) (an : Option Addr) (cdv ct : Value) (us : List Value), us.length = ps.length → bindArgs (PySem.W.fnOf x qual (defArgs st) (defBody st) (defScope st) .none kV doc pm an cdv ct) ⟨us, []⟩ = pure (ps.zip us)) : Binds K fd ps [] := by
  obtain ⟨oc, od, kV, doc, pm, an, cdv, ct, osl, rfl, lk, hcd⟩ := F.ex
  exact .all (h kV doc pm an cdv ct)
theorem fun_mk {x qual : Str} {st : Stmt} {f : Addr} {oc : Value} {od an : Option Addr} {osl : Array (Option Value)} {kV doc pm cdv ct : Value} (l : K.lookup f = some ⟨oc, od, .func (PySem.W.fnOf x qual (defArgs st) (defBody st) (defScope st) .none kV doc pm an cdv ct), osl⟩)
    (c : PySem.W.codeIn K cdv qual = true) (k : PySem.W.keepIn K (.ref f) = true) : Fun K x qual st f (PySem.W.fnOf x qual (defArgs st) (defBody st) (defScope st) .none kV doc pm an cdv ct) := ⟨⟨oc, od, kV, doc, pm, an, cdv, ct, osl, rfl, l, c⟩, k⟩
end
theorem hu_of {A : Around} {k : Nat} (hr : Room k A) : A.units + 1 < cLine := Nat.lt_of_le_of_lt (Nat.add_le_add_left (by decide : 1 ≤ 64) _) hr.units
section
variable {X : Cx}
theorem pv (i : Nat) {x : Str} {pos : Pos} (hN : X.N[i]? = some x := by rfl) (hv : Vis X.env.scope x := by first | exact Or.inl rfl | exact Or.inr (Or.inl rfl) | exact Or.inr (Or.inr rfl)) (hd : (x == ("__debug__" : Str)) = false := by decide)
    (hcd : (x == ("__classdict__" : Str)) = false := by decide) : PE X (.Name x pos) (tVar i) := pe_var hN hv hd hcd
end
theorem iteF {A B : Prop} (h : B) : if false = true then A else B := by
  rw [if_neg Bool.false_ne_true]
  exact h
theorem iteT {A B : Prop} (h : A) : if true = true then A else B := by
  rw [if_pos rfl]
  exact h
theorem ite2 {c A B : Prop} [Decidable c] (h1 : c → A) (h2 : ¬ c → B) : if c then A else B := by
  by_cases h : c
  · rw [if_pos h]
    exact h1 h
  · rw [if_neg h]
    exact h2 h
def Same (H H' : Hp) : Prop := ∀ b o, H b = some o → H' b = some o
theorem Same.refl (H : Hp) : Same H H := fun _ _ h => h
theorem Same.trans {H H1 H2 : Hp} (a : Same H H1) (b : Same H1 H2) : Same H H2 := fun c o h => b c o (a c o h)
theorem Same.free {H H' : Hp} (e : Same H H') {l : Addr} (h : H' l = Option.none) : H l = Option.none := by
  cases q : H l with
  | none => rfl
  | some o =>
    rw [e l o q] at h
    cases h
theorem Same.seq {K : PySem.W.Frag} {H H' : Hp} {a : Addr} {xs : List V} (e : Same H H') (h : SqL K H a xs) : SqL K H' a xs := by
  rcases h with (h | ⟨o, h⟩) | h
  · exact .inl (.inl (e _ _ h))
  · exact .inl (.inr ⟨o, e _ _ h⟩)
  · exact .inr h
end L2
namespace L2
open PySem PySem.Spec PyProof.Rows
section
variable {κ : Type} [DecidableEq κ]
def valV (kvs : List (κ × V)) (k : κ) : Option V := (kvs.find? fun kv => decide (kv.1 = k)).map (·.2)
def putK (kvs : List (κ × V)) (k : κ) (v : V) : List (κ × V) :=
  if (kvs.any fun kv => decide (kv.1 = k)) = true then kvs.map (fun kv => if kv.1 = k then (kv.1, v) else kv) else kvs ++ [(k, v)]
def dropK (kvs : List (κ × V)) (k : κ) : List (κ × V) := kvs.filter fun kv => decide (kv.1 ≠ k)
theorem valV_pos {p : κ × V} {r : List (κ × V)} {k : κ} (e : p.1 = k) : valV (p :: r) k = some p.2 := by simp [valV, List.find?_cons, e]
theorem valV_neg {p : κ × V} {r : List (κ × V)} {k : κ} (e : ¬ p.1 = k) : valV (p :: r) k = valV r k := by simp [valV, List.find?_cons, e]
theorem valV_any (k : κ) : ∀ kvs : List (κ × V), (kvs.any fun kv => decide (kv.1 = k)) = (valV kvs k).isSome
  | [] => rfl
  | p :: r => by
    rw [List.any_cons]
    by_cases e : p.1 = k
    · simp only [valV_pos e, decide_eq_true e, Bool.true_or, Option.isSome_some]
    · rw [valV_neg e, decide_eq_false e, Bool.false_or]; exact valV_any k r
theorem length_putK (kvs : List (κ × V)) (k : κ) (v : V) : (putK kvs k v).length ≤ kvs.length + 1 := by
  unfold putK
  split
  · rw [List.length_map]; omega
  · rw [List.length_append, List.length_cons, List.length_nil]; omega
theorem RelO.isSome_eq {o : Option V} {u : Option Value} (r : RelO o u) : o.isSome = u.isSome := by
  cases o with
  | none => cases u with
    | none => rfl
    | some _ => exact (show False from r).elim
  | some _ => cases u with
    | none => exact (show False from r).elim
    | some _ => rfl
theorem RelO.getD {o : Option V} {u : Option Value} {d : V} {d' : Value} (r : RelO o u) (rd : RelV d d') : RelV (o.getD d) (u.getD d') := by
  cases o with
  | none => cases u with
    | none => exact rd
    | some _ => exact (show False from r).elim
  | some _ => cases u with
    | none => exact (show False from r).elim
    | some _ => exact r
theorem KV.val {kvs : List (κ × V)} {vs : List (κ × Value)} (r : KV kvs vs) (k : κ) : RelO (valV kvs k) (valueAt vs k) := by
  unfold KV at r
  induction r with
  | nil => exact True.intro
  | @cons p q ps qs h t ih =>
    obtain ⟨h1, h2⟩ := h
    by_cases e : p.1 = k
    · have e' : q.1 = k := h1.symm.trans e
      have b : valueAt (q :: qs) k = some q.2 := by simp [valueAt, List.find?_cons, e']
      rw [valV_pos e, b]; exact h2
    · have e' : ¬ q.1 = k := fun z => e (h1.trans z)
      have b : valueAt (q :: qs) k = valueAt qs k := by simp [valueAt, List.find?_cons, e']
      rw [valV_neg e, b]; exact ih
theorem KV.any {kvs : List (κ × V)} {vs : List (κ × Value)} (r : KV kvs vs) (k : κ) : (kvs.any fun kv => decide (kv.1 = k)) = vs.any fun kv => decide (kv.1 = k) := by
  unfold KV at r
  induction r with
  | nil => rfl
  | cons h t ih => rw [List.any_cons, List.any_cons, ih, h.1]
theorem KV.repl {kvs : List (κ × V)} {vs : List (κ × Value)} (r : KV kvs vs) (k : κ) {y : V} {u : Value} (ry : RelV y u) :
    KV (kvs.map fun kv => if kv.1 = k then (kv.1, y) else kv) (vs.map fun kv => if kv.1 = k then (kv.1, u) else kv) := by
  unfold KV at r ⊢
  induction r with
  | nil => exact .nil
  | @cons p q ps qs h t ih =>
    rw [List.map_cons, List.map_cons]
    refine .cons ?_ ih
    obtain ⟨h1, h2⟩ := h
    by_cases e : p.1 = k
    · rw [if_pos e, if_pos (h1.symm.trans e)]; exact ⟨h1, ry⟩
    · rw [if_neg e, if_neg (fun z => e (h1.trans z))]; exact ⟨h1, h2⟩
theorem KV.put {kvs : List (κ × V)} {vs : List (κ × Value)} (r : KV kvs vs) (k : κ) {y : V} {u : Value} (ry : RelV y u) : KV (putK kvs k y) (stored vs k u) := by
  unfold putK stored
  rw [r.any k]
  by_cases e : (vs.any fun kv => decide (kv.1 = k)) = true
  · rw [if_pos e, if_pos e]; exact r.repl k ry
  · rw [if_neg e, if_neg e]; exact Paired.snoc r ⟨rfl, ry⟩
theorem KV.drop {kvs : List (κ × V)} {vs : List (κ × Value)} (r : KV kvs vs) (k : κ) : KV (dropK kvs k) (without vs k) := by
  unfold KV at r ⊢
  unfold dropK without
  induction r with
  | nil => exact .nil
  | @cons p q ps qs h t ih =>
    obtain ⟨h1, h2⟩ := h
    rw [List.filter_cons, List.filter_cons]
    by_cases e : p.1 = k
    · have a : ¬ decide (p.1 ≠ k) = true := by simp [e]
      have b : ¬ decide (q.1 ≠ k) = true := by simp [h1.symm.trans e]
      rw [if_neg a, if_neg b]; exact ih
    · have e' : ¬ q.1 = k := fun z => e (h1.trans z)
      have a : decide (p.1 ≠ k) = true := by simp [e]
      have b : decide (q.1 ≠ k) = true := by simp [e']
      rw [if_pos a, if_pos b]; exact .cons ⟨h1, h2⟩ ih
theorem KV.keys {kvs : List (κ × V)} {vs : List (κ × Value)} (r : KV kvs vs) : kvs.map (·.1) = vs.map (·.1) := by
  unfold KV at r
  induction r with
  | nil => rfl
  | cons h t ih => rw [List.map_cons, List.map_cons, ih, h.1]
theorem KV.length {kvs : List (κ × V)} {vs : List (κ × Value)} (r : KV kvs vs) : kvs.length = vs.length := Paired.length r
end
theorem kV_is {P : Program} {w : World} {k : Key} {u : Value} (r : RelV (kV k) u) : (mixKind P w).is k u = true := by
  cases k with
  | inl i => obtain ⟨t, e⟩ := (show ∃ t, u = Value.int i t from r); subst e; exact mixKind_int P w i t
  | inr x => obtain ⟨t, e⟩ := (show ∃ t, u = Value.str x t from r); subst e; exact mixKind_str P w x t
theorem items_are {P : Program} {w : World} : ∀ {ks : List Key} {us : List Value}, Vals (ks.map kV) us → ItemsAre (mixKind P w) ks us
  | [], _, r => by rw [List.map_nil] at r; cases r; exact .nil
  | k :: ks, _, r => by
    rw [List.map_cons] at r
    cases r with
    | cons h t => exact .cons (kV_is h) (items_are t)
abbrev KT (H : Hp) : List (List Key × V) → List (List Key × Addr × Value) → Prop := Paired fun p q => p.1 = q.1 ∧ H q.2.1 = some (.tup (p.1.map kV)) ∧ RelV p.2 q.2.2
theorem KT.val {H : Hp} {kvs : List (List Key × V)} {xs : List (List Key × Addr × Value)} (r : KT H kvs xs) (k : List Key) : RelO (valV kvs k) ((atKey xs k).map (·.2)) := by
  induction r with
  | nil => exact True.intro
  | @cons p q ps qs h t ih =>
    obtain ⟨h1, _, h2⟩ := h
    by_cases e : p.1 = k
    · have e' : q.1 = k := h1.symm.trans e
      have b : atKey (q :: qs) k = some q.2 := by simp [atKey, List.find?_cons, e']
      rw [valV_pos e, b]; exact h2
    · have e' : ¬ q.1 = k := fun z => e (h1.trans z)
      have b : atKey (q :: qs) k = atKey qs k := by simp [atKey, List.find?_cons, e']
      rw [valV_neg e, b]; exact ih
theorem KT.repl {H : Hp} {kvs : List (List Key × V)} {xs : List (List Key × Addr × Value)} (r : KT H kvs xs) (k : List Key) {y : V} {u : Value} (ry : RelV y u) :
    KT H (kvs.map fun kv => if kv.1 = k then (kv.1, y) else kv) (xs.map (putAt k u)) := by
  induction r with
  | nil => exact .nil
  | @cons p q ps qs h t ih =>
    rw [List.map_cons, List.map_cons]
    refine .cons ?_ ih
    obtain ⟨h1, h2, h3⟩ := h
    unfold putAt
    by_cases e : p.1 = k
    · rw [if_pos e, if_pos (h1.symm.trans e)]; exact ⟨h1, h2, ry⟩
    · rw [if_neg e, if_neg (fun z => e (h1.trans z))]; exact ⟨h1, h2, h3⟩
theorem KT.put {H : Hp} {kvs : List (List Key × V)} {xs : List (List Key × Addr × Value)} (r : KT H kvs xs) (k : List Key) {b : Addr} {y : V} {u : Value} (hb : H b = some (.tup (k.map kV))) (ry : RelV y u) :
    KT H (putK kvs k y) (storedH xs k b u) := by
  have e : (kvs.any fun kv => decide (kv.1 = k)) = (atKey xs k).isSome := by
    rw [valV_any, (r.val k).isSome_eq, Option.isSome_map]
  unfold putK storedH
  rw [e]
  by_cases q : (atKey xs k).isSome = true
  · rw [if_pos q, if_pos q]; exact r.repl k ry
  · rw [if_neg q, if_neg q]; exact Paired.snoc r ⟨rfl, hb, ry⟩
theorem KT.keeps {H H' : Hp} {kvs : List (List Key × V)} {xs : List (List Key × Addr × Value)} (r : KT H kvs xs) (ht : ∀ b ys, H b = some (.tup ys) → H' b = some (.tup ys)) : KT H' kvs xs :=
  Paired.mapP r fun _ _ z => ⟨z.1, ht _ _ z.2.1, z.2.2⟩
section
variable {P : Program} {w : World} {H : Hp} {h : Heap} {a : Addr}
theorem rd_of {u : HO} (ok : HOk P w H h) (e : Rd H a u) : ObjOk P w H h a u := e.ok ok
theorem dk_rd {kvs : List (Key × V)} (ok : HOk P w H h) (e : Rd H a (.dK kvs)) : kvs.length ≤ sizeLine ∧ (a == sysModules) = false ∧ ∃ vs, KV kvs vs ∧ h.DictOf (mixKind P w) a vs :=
  show ObjOk P w H h a (.dK kvs) from rd_of ok e
theorem dk_of {kvs : List (Key × V)} (ok : HOk P w H h) (e : H a = some (.dK kvs)) : kvs.length ≤ sizeLine ∧ (a == sysModules) = false ∧ ∃ vs, KV kvs vs ∧ h.DictOf (mixKind P w) a vs := dk_rd ok (.inl e)
theorem key_of {ks : List Key} (ok : HOk P w H h) (e : H a = some (.tup (ks.map kV))) : (tupleKind (mixKind P w)).is h ks a := by
  obtain ⟨_, its, r, o, h1, h2, ⟨n, h3⟩, _⟩ := (show ObjOk P w H h a (.tup (ks.map kV)) from ok a _ e)
  exact ⟨o, its.toArray, n, h1, h2, h3, by simpa using items_are r⟩
theorem dt_rd {kvs : List (List Key × V)} (ok : HOk P w H h) (e : Rd H a (.dT kvs)) : kvs.length ≤ sizeLine ∧ (a == sysModules) = false ∧
    ∃ xs, KT H kvs xs ∧ h.DictOfH (tupleKind (mixKind P w)) a xs := by
  obtain ⟨z, y, xs, r, o, es, ep, h1, h2, h3, h4, h5⟩ := (show ObjOk P w H h a (.dT kvs) from rd_of ok e)
  refine ⟨z, y, xs, r, o, es, ep, h1, h2, h3, h4, fun x hx => ?_, h5⟩
  have all : ∀ {l : List (List Key × V)} {m : List (List Key × Addr × Value)}, KT H l m → ∀ x ∈ m, (tupleKind (mixKind P w)).is h x.1 x.2.1 := by
    intro l m q
    induction q with
    | nil => intro x hx; exact nomatch hx
    | @cons p q ps qs hq t ih =>
      intro x hx
      rcases List.mem_cons.mp hx with e | hx
      · subst e
        exact key_of ok (by rw [← hq.1]; exact hq.2.1)
      · exact ih x hx
  exact all r x hx
theorem dt_of {kvs : List (List Key × V)} (ok : HOk P w H h) (e : H a = some (.dT kvs)) : kvs.length ≤ sizeLine ∧ (a == sysModules) = false ∧
    ∃ xs, KT H kvs xs ∧ h.DictOfH (tupleKind (mixKind P w)) a xs := dt_rd ok (.inl e)
end
def DGet (H : Hp) (a : Addr) (y : V) (r : Option V) : Prop :=
  (∃ kvs k, Rd H a (.dK kvs) ∧ y = kV k ∧ r = valV kvs k) ∨ ∃ kvs k b, Rd H a (.dT kvs) ∧ y = .ref b ∧ H b = some (.tup (k.map kV)) ∧ r = valV kvs k
def DPut (H : Hp) (a : Addr) (y v : V) (H' : Hp) : Prop :=
  (∃ kvs k, H a = some (.dK kvs) ∧ y = kV k ∧ kvs.length < sizeLine ∧ H' = upd H a (.dK (putK kvs k v))) ∨
  ∃ kvs k b, H a = some (.dT kvs) ∧ y = .ref b ∧ H b = some (.tup (k.map kV)) ∧ kvs.length < sizeLine ∧ H' = upd H a (.dT (putK kvs k v))
theorem DGet.k {H : Hp} {a : Addr} {kvs : List (Key × V)} {k : Key} (e : H a = some (.dK kvs)) : DGet H a (kV k) (valV kvs k) := .inl ⟨kvs, k, .inl e, rfl, rfl⟩
theorem DGet.t {H : Hp} {a b : Addr} {kvs : List (List Key × V)} {k : List Key} (e : H a = some (.dT kvs)) (eb : H b = some (.tup (k.map kV))) : DGet H a (.ref b) (valV kvs k) := .inr ⟨kvs, k, b, .inl e, rfl, eb, rfl⟩
theorem DPut.k {H : Hp} {a : Addr} {kvs : List (Key × V)} {k : Key} {v : V} (e : H a = some (.dK kvs)) (hl : kvs.length < sizeLine) : DPut H a (kV k) v (upd H a (.dK (putK kvs k v))) := .inl ⟨kvs, k, e, rfl, hl, rfl⟩
theorem DPut.t {H : Hp} {a b : Addr} {kvs : List (List Key × V)} {k : List Key} {v : V} (e : H a = some (.dT kvs)) (eb : H b = some (.tup (k.map kV))) (hl : kvs.length < sizeLine) :
    DPut H a (.ref b) v (upd H a (.dT (putK kvs k v))) := .inr ⟨kvs, k, b, e, rfl, eb, hl, rfl⟩
section
variable {X : Cx} {pins : List (Addr × Obj)} {σ : St} {H : Hp} {s : Shared} {a : Addr} {y v : V} {u r : Value} {o : Option V} {A : Around} {E : Value → Shared → Prop}
theorem Inv.big (I : Inv X pins σ H s) : sysModules < s.heap.objs.size := by
  have h : mainGlobals < s.heap.objs.size := (I.mod.glob.keeps I.bk).lt
  exact Nat.lt_trans (by decide) h
theorem d_getItem {Q : Value → Shared → Prop} (hu : A.units + 1 < cLine) (I : Inv X pins σ H s) (g : DGet H a y (some v)) (ry : RelV y u) (h : ∀ w' s', Inv X pins σ H s' → RelV v w' → Q w' s') :
    wpAny (model X.prog X.w) A (getItem (.ref a) u) Q E s := by
  rcases g with ⟨kvs, k, e, ey, l⟩ | ⟨kvs, k, b, e, ey, eb, l⟩
  · subst ey
    obtain ⟨z, hd, vs, rel, dd⟩ := dk_rd I.hok e
    obtain ⟨w', hw, rw'⟩ := RelO.some_of (v := v) (o := valueAt vs k) (by rw [l]; exact rel.val k)
    exact wpAny_getItem_of (kV_is ry) dd.mapOf hw (h w' _ (I.tok _) rw')
  · subst ey
    cases (show u = Value.ref b from ry)
    obtain ⟨z, hd, xs, rel, dd⟩ := dt_rd I.hok e
    obtain ⟨w', hw, rw'⟩ := RelO.some_of (v := v) (o := (atKey xs k).map (·.2)) (by rw [l]; exact rel.val k)
    obtain ⟨p, hp, hp2⟩ := Option.map_eq_some_iff.mp hw
    refine wpAny_getItem_heap (tupleKind_room_in1 hu) (key_of I.hok eb) dd hp ?_
    rw [hp2]
    exact h w' _ (I.tok _) rw'
theorem d_write {h' : Heap} {t' : Nat} {ob : HO} (I : Inv X pins σ H s) (mu : Mut (H a)) (hs : Heap.SameBut a s.heap h') (he : ∃ q, h'.get? a = some q) (new : ObjOk X.prog X.w (upd H a ob) h' a ob) :
    Inv X pins σ (upd H a ob) { s with heap := h', toks := t' } :=
  I.write (x := a) (e := a) mu (.inl rfl) (fun b q hb z => (hs.2 b hb).trans z) he new
theorem dk_new {P : Program} {w : World} {H' : Hp} {h' : Heap} {kvs : List (Key × V)} {vs : List (Key × Value)} (z : kvs.length ≤ sizeLine) (hd : (a == sysModules) = false) (rel : KV kvs vs) (dd : h'.DictOf (mixKind P w) a vs) :
    ObjOk P w H' h' a (.dK kvs) := ⟨z, hd, vs, rel, dd⟩
theorem d_setItem {H' : Hp} {Q : Unit → Shared → Prop} (hu : A.units + 1 < cLine) (I : Inv X pins σ H s) (g : DPut H a y v H') (ry : RelV y u) (rv : RelV v r) (h : ∀ s', Inv X pins σ H' s' → Q () s') :
    wpAny (model X.prog X.w) A (setItem (.ref a) u r) Q E s := by
  rcases g with ⟨kvs, k, e, ey, l, eH⟩ | ⟨kvs, k, b, e, ey, eb, l, eH⟩
  · subst ey eH
    obtain ⟨z, hd, vs, rel, dd⟩ := dk_of I.hok e
    have hz : vs.length ≤ sizeLine := by rw [← rel.length]; exact z
    have hl : (putK kvs k v).length ≤ sizeLine := by have := length_putK kvs k v; omega
    refine wpAny_setItem_pairs (hsz := hz) (kV_is ry) dd fun h' dd' hs => h _ ?_
    have he : ∃ q, h'.get? a = some q := let ⟨q, _, _, hq, _⟩ := dd'; ⟨q, hq⟩
    exact d_write I (by rw [e]; exact True.intro) hs he (dk_new hl hd (rel.put k rv) dd')
  · subst ey eH
    cases (show u = Value.ref b from ry)
    obtain ⟨z, hd, xs, rel, dd⟩ := dt_of I.hok e
    have hz : xs.length ≤ sizeLine := by rw [← Paired.length rel]; exact z
    have hl : (putK kvs k v).length ≤ sizeLine := by have := length_putK kvs k v; omega
    refine wpAny_setItem_heap (hsz := hz) (tupleKind_room_in1 hu) (key_of I.hok eb) dd fun h' dd' hs => h _ ?_
    obtain ⟨q, es, ep, hq, h2, h3, h4, _, h5⟩ := dd'
    refine d_write I (by rw [e]; exact True.intro) hs ⟨q, hq⟩ ⟨hl, hd, _, (rel.put k eb rv).keeps fun c ys ec => ?_, q, es, ep, hq, h2, h3, h4, h5⟩
    rw [upd_ne (ne_of ec e (fun z => nomatch z))]
    exact ec
end
section
variable {X : Cx} {pins : List (Addr × Obj)} {σ : St} {H : Hp} {s : Shared} {a : Addr} {kvs : List (Key × V)} {k : Key} {u : Value} {A : Around} {E : Value → Shared → Prop}
end
def NoSl (i : Expr) : Prop := ∀ ov iv, subscripted i false ov iv = operate [ov, iv] (getItem ov iv)
theorem subD_of {prog : Program} {w : World} {A : Around} {E : Value → Shared → Prop} {s : Shared} {env : Env} {value slice : Expr} {pos : Pos} {T id : String} {Q : Value → Shared → Prop}
    (hl : typeLookup (.type T) "__getitem__" = pure (some (.builtin id))) (hs : NoSl slice)
    (h : wpAny (model prog w) A (eval value env) (fun o s₁ => wpAny (model prog w) A (eval slice env) (fun i s₂ => s₂.TypeIs o T ∧ wpAny (model prog w) A (getItem o i) Q E s₂) E s₁) E s) :
    wpAny (model prog w) A (eval (.Subscript value slice pos) env) Q E s := by
  refine Subscript_ (wpAny_mono h (fun o s₁ h₁ => wpAny_mono h₁ (fun i s₂ h₂ => ?_) fun _ _ x => x) fun _ _ x => x)
  obtain ⟨hT, h₂⟩ := h₂
  unfold subscriptTail
  refine wpAny_bind ?_
  rw [getitemInPython_of_ne hT.not_modules]
  refine wpAny_bind (wpAny_specialOf hT hl ?_)
  have fin : wpAny (model prog w) A (subscripted slice false o i) (fun r s₃ => wpAny (model prog w) A (letTemporaryGo value o r >>= fun _ => pure r) Q E s₃) E s₂ := by
    rw [hs o i]
    exact wpAny_operating (wpAny_mono h₂ (fun r s₃ h₃ => wpAny_bind (wpAny_letTemporaryGo (wpAny_pure h₃))) fun _ _ x => x)
  first
    | exact wpAny_pure (wpAny_bind fin)
    | exact wpAny_bind (wpAny_pure (wpAny_bind fin))
    | exact wpAny_bind fin
theorem dict_typeIs {X : Cx} {pins : List (Addr × Obj)} {σ : St} {H : Hp} {s : Shared} {a : Addr} {y : V} {o : Option V} (I : Inv X pins σ H s) (g : DGet H a y o) : s.TypeIs (.ref a) "dict" := by
  rcases g with ⟨kvs, k, e, _, _⟩ | ⟨kvs, k, b, e, _, _, _⟩
  · obtain ⟨_, _, vs, _, dd⟩ := dk_rd I.hok e
    exact dd.typeIs
  · obtain ⟨_, _, xs, _, dd⟩ := dt_rd I.hok e
    exact dd.typeIs
def tDGet (td ty : TE) : TE := fun σ H Q => td σ H fun x H1 => ty σ H1 fun y H2 => ∃ a v, x = .ref a ∧ DGet H2 a y (some v) ∧ Q v H2
def sDPut (td ty tv : TE) : TS := fun D σ H => tv σ H fun v H1 => td σ H1 fun x H2 => ty σ H2 fun y H3 => ∃ a H4, x = .ref a ∧ DPut H3 a y v H4 ∧ D.nx σ H4
section
variable {X : Cx} {o i e value : Expr} {pos pos' tpos : Pos} {td ty tv : TE}
theorem pe_dget (hu : X.A.units + 1 < cLine) (ho : PE X o td) (hi : PE X i ty) (hs : NoSl i) : PE X (.Subscript o i pos) (tDGet td ty) := by
  intro pins s σ H Q I h
  refine subD_of PySem.F.slot_dict_getitem.lookup hs (thn (ho pins s σ H _ I h) fun u s1 ⟨x, H1, I1, rx, q1⟩ => thn (hi pins s1 σ H1 _ I1 q1) fun iv s2 ⟨y, H2, I2, ry, a, v, ex, g, q2⟩ => ?_)
  subst ex
  obtain rfl : u = Value.ref a := rx
  exact ⟨dict_typeIs I2 g, d_getItem hu I2 g ry fun w' s3 I3 rw' => ⟨v, H2, I3, rw', q2⟩⟩
theorem ps_dput (hu : X.A.units + 1 < cLine) (ho : PE X o td) (hi : PE X i ty) (hv : PE X value tv) (hs : swapsWith value (some (.Subscript o i pos')) pos.line X.env = pure false) :
    PS X (.Assign [.Subscript o i pos'] value pos) (sDPut td ty tv) := by
  intro pins s σ H D I h
  refine wpAny_Assign_Subscript (thn (hv pins s σ H _ I h) fun r s1 ⟨v, H1, I1, rv, q1⟩ => thn (ho pins s1 σ H1 _ I1 q1) fun u s2 ⟨x, H2, I2, rx, q2⟩ => thn (hi pins s2 σ H2 _ I2 q2) fun iv s3 ⟨y, H3, I3, ry, a, H4, ex, g, q3⟩ => ?_) hs
  subst ex
  obtain rfl : u = Value.ref a := rx
  exact d_setItem hu I3 g ry rv fun s4 I4 => ⟨σ, H4, I4, q3⟩
end
theorem dk_empty {P : Program} {w : World} {H : Hp} (h : Heap) (hb : sysModules < h.objs.size) : ObjOk P w H (h.push { cls := .type "dict", data := .dict #[] }) h.objs.size (.dK []) :=
  ⟨Nat.zero_le _, beq_eq_false_iff_ne.mpr (Ne.symm (Nat.ne_of_lt hb)), [], .nil, Heap.DictOf.new h⟩
section
variable {X : Cx} {pos : Pos}
end
def tPairs : List (TE × TE) → St → Hp → (List (V × V) → Hp → Prop) → Prop
  | [], _, H, Q => Q [] H
  | (tk, tv) :: r, σ, H, Q => tk σ H fun x H1 => tv σ H1 fun y H2 => tPairs r σ H2 fun ps H3 => Q ((x, y) :: ps) H3
abbrev VV : List (V × V) → List (Value × Value) → Prop := Paired fun p q => RelV p.1 q.1 ∧ RelV p.2 q.2
def PPs (X : Cx) (pos : Pos) (keys : List (Option Expr)) (values : List Expr) (trs : List (TE × TE)) : Prop :=
  ∀ (pins : List (Addr × Obj)) (s : Shared) (σ : St) (H : Hp) (Q : List (V × V) → Hp → Prop), Inv X pins σ H s → tPairs trs σ H Q →
    wpAny (model X.prog X.w) X.A (evalPairs (pairTrees keys values X.env pos)) (fun vs s' => ∃ ps H', Inv X pins σ H' s' ∧ VV ps vs ∧ Q ps H') X.xe s
theorem pps_nil {X : Cx} {pos : Pos} : PPs X pos [] [] [] := fun pins s σ H Q I h => pairTrees_nil_walk ⟨[], H, I, .nil, h⟩
theorem pps_cons {X : Cx} {pos : Pos} {k v : Expr} {ks : List (Option Expr)} {vs : List Expr} {tk tv : TE} {trs : List (TE × TE)} (hk : PE X k tk) (hv : PE X v tv) (hr : PPs X pos ks vs trs) :
    PPs X pos (some k :: ks) (v :: vs) ((tk, tv) :: trs) := fun pins s σ H Q I h =>
  pairTrees_cons_walk (thn (hk pins s σ H _ I h) fun u s1 ⟨x, H1, I1, rx, q1⟩ => thn (hv pins s1 σ H1 _ I1 q1) fun w2 s2 ⟨y, H2, I2, ry, q2⟩ =>
    thn (hr pins s2 σ H2 _ I2 q2) fun ws s3 ⟨ps, H3, I3, rel, q3⟩ => ⟨(x, y) :: ps, H3, I3, .cons ⟨rx, ry⟩ rel, q3⟩)
def mergeK (kvs more : List (Key × V)) : List (Key × V) := more.foldl (fun acc kv => putK acc kv.1 kv.2) kvs
theorem KV.merge : ∀ {more : List (Key × V)} {rs : List (Key × Value)} {kvs : List (Key × V)} {vs : List (Key × Value)}, KV more rs → KV kvs vs → KV (mergeK kvs more) (merged vs rs) := by
  intro more rs kvs vs r
  unfold KV at r
  induction r generalizing kvs vs with
  | nil => intro q; exact q
  | @cons p q ps qs h t ih =>
    intro r0
    have e : KV (putK kvs p.1 p.2) (stored vs q.1 q.2) := by
      have := r0.put p.1 h.2
      rw [← h.1]; exact this
    exact ih e
theorem length_mergeK : ∀ (more kvs : List (Key × V)), (mergeK kvs more).length ≤ kvs.length + more.length
  | [], kvs => by show kvs.length ≤ kvs.length + 0; omega
  | p :: r, kvs => by
    have h1 := length_mergeK r (putK kvs p.1 p.2)
    have h2 := length_putK kvs p.1 p.2
    show (mergeK (putK kvs p.1 p.2) r).length ≤ _
    rw [List.length_cons]; omega
theorem carries_of {P : Program} {w : World} : ∀ {kvs : List (Key × V)} {ws : List (Value × Value)}, VV (kvs.map fun kv => (kV kv.1, kv.2)) ws → ∃ rs, Carries (mixKind P w) ws rs ∧ KV kvs rs
  | [], _, r => by rw [List.map_nil] at r; cases r; exact ⟨[], True.intro, .nil⟩
  | p :: kvs, _, r => by
    rw [List.map_cons] at r
    cases r with
    | @cons a b as bs h t =>
      obtain ⟨rs, c, q⟩ := carries_of (P := P) (w := w) t
      obtain ⟨b1, b2⟩ := b
      exact ⟨(p.1, b2) :: rs, ⟨kV_is h.1, rfl, c⟩, .cons ⟨rfl, h.2⟩ q⟩
def tDisp (trs : List (TE × TE)) : TE := fun σ H Q => ∀ p, H p = none → tPairs trs σ (upd H p (.dK [])) fun ps H2 => H2 p = some (.dK []) ∧ ∃ kvs : List (Key × V), ps = kvs.map (fun kv => (kV kv.1, kv.2)) ∧ kvs.length ≤ 15 ∧ Q (.ref p) (upd H2 p (.dK (mergeK [] kvs)))
theorem pe_disp {X : Cx} {pos : Pos} {keys : List (Option Expr)} {values : List Expr} {trs : List (TE × TE)} (h : PPs X pos keys values trs) (hall : keys.all (·.isSome) = true) (hl : keys.length = values.length) (h0 : keys ≠ [])
    (h15 : keys.length ≤ 15) : PE X (.Dict keys values pos) (tDisp trs) := by
  intro pins s σ H Q I q
  have hn := I.hok.fresh (Nat.le_refl s.heap.objs.size)
  have I1 := I.laid (a := s.heap.objs.size) (o := .dK []) (h' := s.heap.push { cls := .type "dict", data := .dict #[] }) (t' := s.toks) (fun _ _ q => Heap.get?_push_of_some _ q) (Nat.le_refl _) (dk_empty s.heap I.big)
  refine wpAny_Dict_walk (knd := mixKind X.prog X.w) hall hl h0 h15 (thn (h pins _ σ _ _ I1 (q _ hn)) fun ws s2 ⟨ps, H2, I2, rel, e, kvs, ep, lk, q2⟩ => ?_)
  subst ep
  obtain ⟨rs, c, rk⟩ := carries_of (P := X.prog) (w := X.w) rel
  obtain ⟨z, hd, vs0, r0, dd⟩ := dk_of I2.hok e
  cases r0
  refine ⟨rs, c, dd, fun h' dd' hs => ⟨.ref s.heap.objs.size, _, ?_, rfl, q2⟩⟩
  have hz : (mergeK [] kvs).length ≤ sizeLine := by
    have h1 := length_mergeK kvs []
    rw [List.length_nil] at h1
    rw [sizeLine_eq]; omega
  have he : ∃ q, h'.get? s.heap.objs.size = some q := let ⟨q, _, _, hq, _⟩ := dd'; ⟨q, hq⟩
  exact d_write I2 (by rw [e]; exact True.intro) hs he (dk_new hz hd (rk.merge .nil) dd')
structure M1 (X : Cx) (o : Expr) (m : Str) (apos : Pos) (e : Expr) (cpos : Pos) : Prop where
  base : attributeBase o m X.env (eval o X.env) = eval o X.env
  few : ((backTo cpos (starEach [e] X.env)).all (fun x => !x.1) && (backToKw cpos (keywordEach [] X.env)).all (fun x => x.1.isSome)
    && decide (([e] : List Expr).length + ([] : List Keyword).length + (if ([] : List Keyword).isEmpty then 0 else 1) < 30)) = true
  line : (apos.endLine == cpos.line) = true
  trees : backTo cpos (starEach [e] X.env) = [(false, eval e X.env)]
structure M2 (X : Cx) (o : Expr) (m : Str) (apos : Pos) (e f : Expr) (cpos : Pos) : Prop where
  base : attributeBase o m X.env (eval o X.env) = eval o X.env
  few : ((backTo cpos (starEach [e, f] X.env)).all (fun x => !x.1) && (backToKw cpos (keywordEach [] X.env)).all (fun x => x.1.isSome)
    && decide (([e, f] : List Expr).length + ([] : List Keyword).length + (if ([] : List Keyword).isEmpty then 0 else 1) < 30)) = true
  line : (apos.endLine == cpos.line) = true
  trees : backTo cpos (starEach [e, f] X.env) = [(false, eval e X.env), (false, eval f X.env)]
section
variable {X : Cx} {pins : List (Addr × Obj)} {σ : St} {H : Hp} {s : Shared} {a : Addr} {y d : V} {u r : Value} {o : Option V} {A : Around} {E : Value → Shared → Prop}
end
section
variable {X : Cx} {o e f : Expr} {apos cpos : Pos} {td ty tx : TE}
end
section
variable {X : Cx} {pins : List (Addr × Obj)} {σ : St} {H : Hp} {s : Shared} {a : Addr} {kvs : List (Key × V)} {A : Around} {E : Value → Shared → Prop}
end
section
variable {X : Cx} {pins : List (Addr × Obj)} {σ : St} {H : Hp} {s : Shared} {a : Addr} {y : V} {u : Value} {A : Around} {E : Value → Shared → Prop}
end
end L2
namespace L2
open PySem PySem.Spec PyProof.Rows
section
variable {X : Cx}
end
end L2
namespace L2
open PySem PySem.Spec PyProof.Rows
section
variable {κ : Type} [DecidableEq κ]
theorem nd_snoc : ∀ {l : List κ} {k : κ}, l.Nodup → ¬ k ∈ l → (l ++ [k]).Nodup
  | [], k, _, _ => by simp
  | a :: r, k, h, hk => by
    obtain ⟨h1, h2⟩ := List.nodup_cons.mp h
    show (a :: (r ++ [k])).Nodup
    refine List.nodup_cons.mpr ⟨fun m => ?_, nd_snoc h2 fun m => hk (List.mem_cons.mpr (Or.inr m))⟩
    rcases List.mem_append.mp m with q | q
    · exact h1 q
    · exact hk (List.mem_cons.mpr (Or.inl (List.mem_singleton.mp q).symm))
end
end L2
namespace L2
open PySem PySem.Spec PyProof.Rows
def tLoop (J : It) (g : TG) (tb : TS) : TS := fun D σ H => ∃ W : Nat → Nat → St → Hp → Prop, (∃ m, W 0 m σ H) ∧ ∀ i m σ H, W i m σ H →
  (J.stop i H ∧ D.nx σ H) ∨ (J.go i H ∧ ∃ N : St → Hp → Prop, (∀ σ' H', N σ' H' → ∃ m', m' < m ∧ W (i + 1) m' σ' H') ∧ ∀ x H', J.yld i H x H' → g x σ H' fun σ2 H2 => tb { D with nx := N, ct := N, bk := D.nx } σ2 H2)
def cInner (elt : Expr) (gens : List Comprehension) (scope : Scope) (pos : Pos) (d : Nat) (acc : Value) (env : Env) (k : Sem Fin) : Sem Fin :=
  match gens[d + 1]? with
  | some g' => eval g'.iter env >>= fun x => standAt g'.iter.pos >>= fun _ => foldedSetIterable g'.iter env x >>= fun x => holding [x] (pyIter x) >>= fun i =>
      runOwn (.compStart (.ListComp elt gens scope pos) (d + 1) i acc env) env >>= fun _ => k
  | none => (eval elt env >>= fun x => call (.builtin "list.append") [acc, x] >>= fun _ => pure ()) >>= fun _ => k
theorem compTurn_at {elt target iter : Expr} {ifs : List Expr} {gens : List Comprehension} {scope : Scope} {pos : Pos} {d : Nat} (it acc : Value) (env : Env) (hg : gens[d]? = some ⟨target, iter, ifs, 0⟩)
    (hn : ∀ g', gens[d + 1]? = some g' → g'.is_async = 0) :
    compTurn (.ListComp elt gens scope pos) d it acc env = (standAt iter.pos >>= fun _ => pyNext it >>= fun r => match r with
      | none => pure (.done .next)
      | some v => letOwnedTupleGo target it v >>= fun _ => assign target env v >>= fun _ =>
        (forIn ifs true fun c r => if r = true then do let ok ← isTrue c env (eval c env); pure (ForInStep.yield ok) else pure (ForInStep.yield r)) >>= fun ok =>
          if ok = true then cInner elt gens scope pos d acc env (again (.compLoop (.ListComp elt gens scope pos) d it acc env))
          else again (.compLoop (.ListComp elt gens scope pos) d it acc env)) := by
  unfold compTurn cInner
  simp only [hg]
  cases h : gens[d + 1]? with
  | none => rfl
  | some g' =>
    obtain ⟨t', i', f', a'⟩ := g'
    have e : a' = 0 := hn _ h
    subst e
    rfl
def tTests : List TT → TS → TS
  | [], tb => tb
  | c :: r, tb => tIfS c (tTests r tb) tNext
inductive PTs (X : Cx) : List Expr → List TT → Prop
  | nil : PTs X [] []
  | cons {c : Expr} {cs : List Expr} {t : TT} {ts : List TT} : PT X c t → PTs X cs ts → PTs X (c :: cs) (t :: ts)
section
variable {X : Cx}
theorem tests_false {cs : List Expr} {s : Shared} {Q : Bool → Shared → Prop} {E : Value → Shared → Prop} (h : Q false s) :
    wpAny (model X.prog X.w) X.A (forIn cs false fun c r => if r = true then do let ok ← isTrue c X.env (eval c X.env); pure (ForInStep.yield ok) else pure (ForInStep.yield r)) Q E s := by
  induction cs with
  | nil => rw [List.forIn_nil]; exact wpAny_pure h
  | cons c cs ih =>
    rw [List.forIn_cons, if_neg Bool.false_ne_true]
    exact wpAny_bind (wpAny_pure ih)
theorem tests_run {tb : TS} {D : Ends} {pins : List (Addr × Obj)} : ∀ {cs : List Expr} {ts : List TT}, PTs X cs ts → ∀ {s : Shared} {σ : St} {H : Hp}, Inv X pins σ H s → tTests ts tb D σ H →
    wpAny (model X.prog X.w) X.A (forIn cs true fun c r => if r = true then do let ok ← isTrue c X.env (eval c X.env); pure (ForInStep.yield ok) else pure (ForInStep.yield r))
      (fun ok s' => ∃ H', Inv X pins σ H' s' ∧ if ok = true then tb D σ H' else D.nx σ H') X.xe s
  | _, _, .nil, s, σ, H, I, h => by rw [List.forIn_nil]; exact wpAny_pure ⟨H, I, by rw [if_pos rfl]; exact h⟩
  | _, _, .cons (cs := cs) hc hr, s, σ, H, I, h => by
    rw [List.forIn_cons, if_pos rfl]
    refine wpAny_bind (wpAny_bind (thn (hc pins s σ H _ I h) fun b s1 ⟨H1, I1, q1⟩ => wpAny_pure ?_))
    cases b with
    | true =>
      rw [if_pos rfl] at q1
      exact tests_run hr I1 q1
    | false =>
      rw [if_neg Bool.false_ne_true] at q1
      exact tests_false ⟨H1, I1, by rw [if_neg Bool.false_ne_true]; exact q1⟩
end
def PB (X : Cx) (elt : Expr) (gens : List Comprehension) (scope : Scope) (pos : Pos) (d : Nat) (acc : Addr) (t : TS) : Prop :=
  ∀ (pins : List (Addr × Obj)) (s : Shared) (σ : St) (H : Hp) (D : Ends) (k : Sem Fin) (Q : Fin → Shared → Prop) (E : Value → Shared → Prop), Inv X pins σ H s → t D σ H →
    (∀ s' σ' H', Inv X pins σ' H' s' → D.nx σ' H' → wpAny (model X.prog X.w) X.A k Q E s') → wpAny (model X.prog X.w) X.A (cInner elt gens scope pos d (.ref acc) X.env k) Q E s
def tEmit (te : TE) (acc : Addr) : TS := fun D σ H => te σ H fun x H1 => ∃ xs, H1 acc = some (.lst xs) ∧ xs.length < sizeLine ∧ D.nx σ (upd H1 acc (.lst (xs ++ [x])))
section
variable {X : Cx}
theorem pb_emit {elt : Expr} {gens : List Comprehension} {scope : Scope} {pos : Pos} {d : Nat} {acc : Addr} {te : TE} (hx : X.xe = fun _ _ => False) (he : PE X elt te) (hl : gens[d + 1]? = none) : PB X elt gens scope pos d acc (tEmit te acc) := by
  intro pins s σ H D k Q E I h hk
  unfold cInner
  rw [hl]
  refine wpAny_bind (wpAny_bind (wpAny_mono (he pins s σ H _ I h) (fun v s1 ⟨x, H1, I1, r1, xs, ha, hz, q⟩ => ?_) fun _ _ z => by rw [hx] at z; exact z.elim))
  have hm := mt_append (X := X) pins s1 σ H1 (.ref acc) [x] (.ref acc) [v] (fun v H' => v = .non ∧ D.nx σ H') I1 rfl (.cons r1 .nil) ⟨acc, xs, x, rfl, rfl, ha, hz, rfl, q⟩
  refine wpAny_bind (wpAny_mono hm (fun _ s2 ⟨x2, H2, I2, r2, _, q2⟩ => wpAny_pure (hk s2 σ H2 I2 q2)) fun _ _ z => by rw [hx] at z; exact z.elim)
theorem comp_loop {elt target iter : Expr} {ifs : List Expr} {gens : List Comprehension} {scope : Scope} {pos : Pos} {d : Nat} {acc it : Addr} {fp : List Addr} {tn : Nat → Heap → Prop} {J : It} {g : TG} {ts : List TT} {tb : TS} {D : Ends} {pins : List (Addr × Obj)} {s : Shared} {σ : St} {H : Hp}
    (hx : X.xe = fun _ _ => False) (hc : X.calm = true) (hgd : gens[d]? = some ⟨target, iter, ifs, 0⟩) (hn : ∀ g', gens[d + 1]? = some g' → g'.is_async = 0)
    (hg : PG X target g) (hts : PTs X ifs ts) (hb : PB X elt gens scope pos d acc tb)
    (T : Turn X.prog X.w X.K target J fp it tn) (I : Inv X pins σ H s) (st : tn 0 s.heap) (hf : ∀ b ∈ fp, FpOk X pins H b) (h : tLoop J g (tTests ts tb) D σ H) :
    codeAny (model X.prog X.w) X.A (.compStart (.ListComp elt gens scope pos) d (.ref it) (.ref acc) X.env) (fun r s' => ∃ f, r = .ok f ∧ ∃ σ' H', Inv X pins σ' H' s' ∧ D.nx σ' H') s := by
  have stat : ∀ {H' : Hp}, (∀ b ∈ fp, H' b = none) → ∀ b ∈ fp, FpOk X pins H' b := fun hn b hb => ⟨hn b hb, (hf b hb).2⟩
  obtain ⟨W, ⟨m0, w0⟩, turn⟩ := h
  have E0 : ∀ (e : Value) (s' : Shared), X.xe e s' → notedBy (model X.prog X.w) X.A X.env (fun e s' => ∃ f, (Except.error e : Result) = .ok f ∧ ∃ σ' H', Inv X pins σ' H' s' ∧ D.nx σ' H') e s' := fun e s' z => by rw [hx] at z; exact z.elim
  have loop : codeAny (model X.prog X.w) X.A (.compLoop (.ListComp elt gens scope pos) d (.ref it) (.ref acc) X.env) (fun r s' => ∃ f, r = .ok f ∧ ∃ σ' H', Inv X pins σ' H' s' ∧ D.nx σ' H') s := by
    refine codeAny_loop rfl (fun n s' => ∃ i σ' H', Inv X pins σ' H' s' ∧ tn i s'.heap ∧ (∀ b ∈ fp, H' b = none) ∧ W i n σ' H') ?_ m0 ⟨0, σ, H, I, st, fun b hb => (hf b hb).1, w0⟩
    rintro n s3 ⟨i, σ3, H3, I3, st3, fr3, w3⟩
    show wpAny _ X.A ((compTurn (.ListComp elt gens scope pos) d (.ref it) (.ref acc) X.env).onRaise (fun x => do noteFrame x X.env; theTreesLotGoes x)) _ _ s3
    refine wpAny_noted ?_
    rw [compTurn_at _ _ _ hgd hn]
    refine wpAny_bind (wpAny_standAt (wpAny_bind ?_))
    rcases turn i n σ3 H3 w3 with ⟨stop, qn⟩ | ⟨go, N, hN, step⟩
    · refine wpAny_mono (T.done X rfl rfl rfl hc i pins s3 σ3 H3 (fun _ _ => False) I3 (stat fr3) st3 stop) (fun r s4 ⟨hr, I4⟩ => ?_) (fun _ _ z => z.elim)
      subst hr
      exact wpAny_pure ⟨.next, rfl, σ3, H3, I4, qn⟩
    · refine wpAny_mono (T.item X rfl rfl rfl hc i pins s3 σ3 H3 (fun _ _ => False) I3 (stat fr3) st3 go) (fun r s4 ⟨u, hr, h4⟩ => ?_) (fun _ _ z => z.elim)
      subst hr
      refine wpAny_bind (wpAny_mono h4 (fun _ s5 ⟨x, H5, I5, r5, y5, st5, fr5⟩ => ?_) (fun _ _ z => z.elim))
      have I5' := I5.pinned (stat fr5) (T.obj _ _ st5)
      refine wpAny_bind (wpAny_mono (hg _ s5 σ3 H5 x u _ I5' r5 (step x H5 y5)) (fun _ s6 ⟨σ6, H6, I6, q6⟩ => ?_) E0)
      refine wpAny_bind (wpAny_mono (tests_run hts I6 q6) (fun ok s7 ⟨H7, I7, q7⟩ => ?_) E0)
      have again : ∀ {σ7 : St} {H7 : Hp} {s7 : Shared}, Inv X (pins ++ pinsAt fp s5.heap) σ7 H7 s7 → N σ7 H7 → ∃ m, m < n ∧ ∃ i σ' H', Inv X pins σ' H' s7 ∧ tn i s7.heap ∧ (∀ b ∈ fp, H' b = none) ∧ W i m σ' H' := fun {σ7 H7 s7} I7 n7 => by
        obtain ⟨m', hm, w7⟩ := hN σ7 H7 n7
        refine ⟨m', hm, i + 1, σ7, H7, I7.unpinned, T.keep _ _ _ st5 fun b hb o e => (I7.pin (b, o) (List.mem_append_right _ (List.mem_append_right _ (mem_pinsAt hb e)))).1, fun b hb => ?_, w7⟩
        obtain ⟨o, e, d⟩ := T.obj _ _ st5 b hb
        exact (I7.pin (b, o) (List.mem_append_right _ (List.mem_append_right _ (mem_pinsAt hb e)))).2.1
      cases ok with
      | false =>
        rw [if_neg Bool.false_ne_true] at q7 ⊢
        exact wpAny_pure ⟨rfl, again I7 q7⟩
      | true =>
        rw [if_pos rfl] at q7 ⊢
        exact hb _ s7 σ6 H7 _ _ _ _ I7 q7 fun s8 σ8 H8 I8 q8 => wpAny_pure ⟨rfl, again I8 q8⟩
  refine codeAny_of_tree ?_
  show wpAny _ _ ((compStart (.ListComp elt gens scope pos) d (.ref it) (.ref acc) X.env).onRaise (fun x => do noteFrame x X.env; standAt theWindowsPlace)) _ _ s
  refine wpAny_notedAt ?_
  have hcl : clausesOf (.ListComp elt gens scope pos) = gens := rfl
  unfold compStart
  rw [hcl, hgd]
  show wpAny _ _ (ask >>= _) _ _ s
  refine wpAny_bind (wpAny_askSetting (wpAny_ite ?_))
  split
  · first
      | exact wpAny_bind (wpAny_pure (wpAny_pure (And.intro rfl loop)))
      | exact wpAny_pure (And.intro rfl loop)
  · refine wpAny_bind (wpAny_rule ?_)
    show wpAny _ _ (standAt iter.pos >>= _) _ _ s
    exact wpAny_bind (wpAny_standAt (wpAny_bind (T.self X.A 0 s _ _ st (wpAny_pure (And.intro rfl loop)))))
end
end L2
namespace L2
open PySem PySem.Spec PyProof.Rows
def closC (cells : List (Str × Addr)) : List (Str × NameKind) → List (Str × Addr) → List (Str × Addr)
  | [], acc => acc
  | (n, k) :: r, acc => if k == .free then closC cells r ((n, (cells.lookup n).getD 0) :: acc) else closC cells r acc
theorem closureFor_are {scope : Scope} {env : Env} (h : ∀ x ∈ scope.names, x.2 = .free → (env.cells.lookup x.1).isSome = true) : closureFor scope env = pure (closC env.cells scope.names []) := by
  have go : ∀ (names : List (Str × NameKind)) (acc : List (Str × Addr)), (∀ x ∈ names, x.2 = .free → (env.cells.lookup x.1).isSome = true) →
      (forIn names acc fun x (r : List (Str × Addr)) => if x.2 == NameKind.free then (do let c ← cellOf env x.1; pure (ForInStep.yield ((x.1, c) :: r))) else pure (ForInStep.yield r) : Sem (List (Str × Addr))) = pure (closC env.cells names acc) := by
    intro names
    induction names with
    | nil => intro acc _; rw [List.forIn_nil]; rfl
    | cons x r ih =>
      intro acc hh
      obtain ⟨n, k⟩ := x
      rw [List.forIn_cons]
      unfold closC
      cases hk : k == NameKind.free with
      | false =>
        rw [if_neg Bool.false_ne_true, if_neg Bool.false_ne_true]
        exact ih acc fun y hy => hh y (List.mem_cons_of_mem _ hy)
      | true =>
        rw [if_pos rfl, if_pos rfl]
        obtain ⟨c, hc⟩ := Option.isSome_iff_exists.mp (hh (n, k) List.mem_cons_self (by simpa using hk))
        have e : cellOf env n = pure c := by
          unfold cellOf
          rw [show env.cells.lookup n = some c from hc]
        show (do let x ← (do let c ← cellOf env n; pure (ForInStep.yield ((n, c) :: acc))); _) = _
        rw [e]
        rw [show ((env.cells.lookup n).getD 0) = c by rw [show env.cells.lookup n = some c from hc]; rfl]
        exact ih ((n, c) :: acc) fun y hy => hh y (List.mem_cons_of_mem _ hy)
  have := go scope.names [] h
  unfold closureFor
  refine Eq.trans ?_ (congrArg (fun m => m >>= fun r => pure r) this |>.trans rfl)
  rfl
theorem closC_out {cells : List (Str × Addr)} {x : Str} : ∀ (names : List (Str × NameKind)) (acc : List (Str × Addr)), (x, NameKind.free) ∉ names → (closC cells names acc).lookup x = acc.lookup x
  | [], _, _ => rfl
  | (n, k) :: r, acc, h => by
    unfold closC
    have hr : (x, NameKind.free) ∉ r := fun z => h (List.mem_cons_of_mem _ z)
    cases hk : k == NameKind.free with
    | false => rw [if_neg Bool.false_ne_true]; exact closC_out r acc hr
    | true =>
      rw [if_pos rfl, closC_out r _ hr, List.lookup_cons]
      have e : k = .free := by simpa using hk
      have ne : (x == n) = false := by
        cases q : x == n with
        | false => rfl
        | true => exact absurd (by rw [beq_iff_eq.mp q, e]; exact List.mem_cons_self) h
      rw [ne]
theorem closC_in {cells : List (Str × Addr)} {x : Str} {c : Addr} (hc : cells.lookup x = some c) : ∀ (names : List (Str × NameKind)) (acc : List (Str × Addr)), (x, NameKind.free) ∈ names → (closC cells names acc).lookup x = some c
  | [], _, h => by simp at h
  | (n, k) :: r, acc, h => by
    unfold closC
    by_cases hr : (x, NameKind.free) ∈ r
    · cases hk : k == NameKind.free with
      | false => rw [if_neg Bool.false_ne_true]; exact closC_in hc r acc hr
      | true => rw [if_pos rfl]; exact closC_in hc r _ hr
    · rcases List.mem_cons.mp h with e | e
      · cases e
        rw [if_pos (by decide), closC_out r _ hr, List.lookup_cons]
        simp [hc]
      · exact absurd e hr
theorem closC_from {cells : List (Str × Addr)} {x : Str} {c : Addr} : ∀ (names : List (Str × NameKind)) (acc : List (Str × Addr)), (∀ y ∈ names, y.2 = .free → (cells.lookup y.1).isSome = true) → (x, c) ∈ closC cells names acc →
    (x, c) ∈ acc ∨ ((x, NameKind.free) ∈ names ∧ cells.lookup x = some c)
  | [], _, _, h => .inl h
  | (n, k) :: r, acc, hh, h => by
    unfold closC at h
    have hr : ∀ y ∈ r, y.2 = .free → (cells.lookup y.1).isSome = true := fun y hy => hh y (List.mem_cons_of_mem _ hy)
    cases hk : k == NameKind.free with
    | false =>
      rw [hk, if_neg Bool.false_ne_true] at h
      exact (closC_from r acc hr h).imp id fun z => ⟨List.mem_cons_of_mem _ z.1, z.2⟩
    | true =>
      rw [hk, if_pos rfl] at h
      have ek : k = .free := by simpa using hk
      rcases closC_from r _ hr h with z | z
      · rcases List.mem_cons.mp z with z | z
        · cases z
          obtain ⟨d, hd⟩ := Option.isSome_iff_exists.mp (hh (x, k) List.mem_cons_self ek)
          exact .inr ⟨by rw [ek]; exact List.mem_cons_self, by rw [hd]; rfl⟩
        · exact .inl z
      · exact .inr ⟨List.mem_cons_of_mem _ z.1, z.2⟩
theorem closC_apart {cells : List (Str × Addr)} (inj : ∀ x y c, cells.lookup x = some c → cells.lookup y = some c → x = y) : ∀ (names : List (Str × NameKind)) (acc : List (Str × Addr)), (names.map (·.1)).Nodup →
    (∀ y ∈ names, y.2 = .free → (cells.lookup y.1).isSome = true) → (∀ p ∈ acc, cells.lookup p.1 = some p.2 ∧ p.1 ∉ names.map (·.1)) → (acc.Pairwise fun x y => x.2 ≠ y.2) → (closC cells names acc).Pairwise fun x y => x.2 ≠ y.2
  | [], _, _, _, _, h => h
  | (n, k) :: r, acc, nd, hh, ha, h => by
    unfold closC
    have hr : ∀ y ∈ r, y.2 = .free → (cells.lookup y.1).isSome = true := fun y hy => hh y (List.mem_cons_of_mem _ hy)
    obtain ⟨n1, n2⟩ := List.nodup_cons.mp nd
    cases hk : k == NameKind.free with
    | false =>
      rw [if_neg Bool.false_ne_true]
      exact closC_apart inj r acc n2 hr (fun p hp => ⟨(ha p hp).1, fun z => (ha p hp).2 (List.mem_cons_of_mem _ z)⟩) h
    | true =>
      rw [if_pos rfl]
      have ek : k = .free := by simpa using hk
      obtain ⟨d, hd⟩ := Option.isSome_iff_exists.mp (hh (n, k) List.mem_cons_self ek)
      have hd' : cells.lookup n = some d := hd
      refine closC_apart inj r _ n2 hr (fun p hp => ?_) (List.pairwise_cons.mpr ⟨fun p hp e => ?_, h⟩)
      · rcases List.mem_cons.mp hp with e | hp
        · subst e; exact ⟨by rw [hd']; rfl, n1⟩
        · exact ⟨(ha p hp).1, fun z => (ha p hp).2 (List.mem_cons_of_mem _ z)⟩
      · rw [hd'] at e
        have e' : d = p.2 := e
        have : n = p.1 := inj n p.1 d hd' (by rw [e']; exact (ha p hp).1)
        exact (ha p hp).2 (by rw [← this]; exact List.mem_cons_self)
theorem cellsFrom_from {x : Str} {c : Addr} : ∀ (names : List (Str × NameKind)) (n : Nat) (acc : List (Str × Addr)), (x, c) ∈ cellsFrom n names acc → (n ≤ c ∧ (x, NameKind.cell) ∈ names) ∨ (x, c) ∈ acc
  | [], _, _, h => .inr h
  | (y, k) :: r, n, acc, h => by
    unfold cellsFrom at h
    cases hk : k == NameKind.cell with
    | false =>
      rw [hk, if_neg Bool.false_ne_true] at h
      exact (cellsFrom_from r n acc h).imp (fun z => ⟨z.1, List.mem_cons_of_mem _ z.2⟩) id
    | true =>
      rw [hk, if_pos rfl] at h
      have ek : k = .cell := by simpa using hk
      rcases cellsFrom_from r (n + 1) _ h with z | z
      · exact .inl ⟨by omega, List.mem_cons_of_mem _ z.2⟩
      · rcases List.mem_cons.mp z with z | z
        · cases z
          exact .inl ⟨Nat.le_refl _, by rw [ek]; exact List.mem_cons_self⟩
        · exact .inr z
theorem cellsFrom_apart : ∀ (names : List (Str × NameKind)) (n : Nat) (acc : List (Str × Addr)), (∀ p ∈ acc, p.2 < n) → (acc.Pairwise fun x y => x.2 ≠ y.2) → (cellsFrom n names acc).Pairwise fun x y => x.2 ≠ y.2
  | [], _, _, _, h => h
  | (y, k) :: r, n, acc, hl, h => by
    unfold cellsFrom
    cases hk : k == NameKind.cell with
    | false => rw [if_neg Bool.false_ne_true]; exact cellsFrom_apart r n acc hl h
    | true =>
      rw [if_pos rfl]
      refine cellsFrom_apart r (n + 1) _ (fun p hp => ?_) (List.pairwise_cons.mpr ⟨fun p hp e => ?_, h⟩)
      · rcases List.mem_cons.mp hp with e | hp
        · subst e; exact Nat.lt_succ_self _
        · exact Nat.lt_succ_of_lt (hl p hp)
      · have e' : n = p.2 := e
        exact Nat.lt_irrefl _ (e' ▸ hl p hp)
theorem cellsFrom_out {x : Str} : ∀ (names : List (Str × NameKind)) (n : Nat) (acc : List (Str × Addr)), (x, NameKind.cell) ∉ names → (cellsFrom n names acc).lookup x = acc.lookup x
  | [], _, _, _ => rfl
  | (y, k) :: r, n, acc, h => by
    unfold cellsFrom
    have hr : (x, NameKind.cell) ∉ r := fun z => h (List.mem_cons_of_mem _ z)
    cases hk : k == NameKind.cell with
    | false => rw [if_neg Bool.false_ne_true]; exact cellsFrom_out r n acc hr
    | true =>
      rw [if_pos rfl, cellsFrom_out r _ _ hr, List.lookup_cons]
      have e : k = .cell := by simpa using hk
      have ne : (x == y) = false := by
        cases q : x == y with
        | false => rfl
        | true => exact absurd (by rw [beq_iff_eq.mp q, e]; exact List.mem_cons_self) h
      rw [ne]
theorem pushCells_empty {x : Str} {c : Addr} : ∀ (names : List (Str × NameKind)) (h : Heap) (acc : List (Str × Addr)), (x, c) ∈ cellsFrom h.objs.size names acc → (x, c) ∈ acc ∨ (pushCells h names).IsCell c none
  | [], _, _, hm => .inl hm
  | (y, k) :: r, h, acc, hm => by
    unfold cellsFrom at hm
    unfold pushCells
    cases hk : k == NameKind.cell with
    | false =>
      rw [hk, if_neg Bool.false_ne_true] at hm
      rw [if_neg Bool.false_ne_true]
      exact pushCells_empty r h acc hm
    | true =>
      rw [hk, if_pos rfl] at hm
      rw [if_pos rfl]
      have := pushCells_empty (x := x) (c := c) r (h.push { cls := .type "cell", data := .cell none }) ((y, h.objs.size) :: acc) (by rw [Heap.size_push]; exact hm)
      rcases this with z | z
      · rcases List.mem_cons.mp z with z | z
        · cases z
          exact .inr ⟨_, pushCells_keeps r _ _ _ (Heap.get?_push_size _ rfl), rfl⟩
        · exact .inl z
      · exact .inr z
theorem lookup_mem_nodup {x : Str} {k : NameKind} : ∀ {names : List (Str × NameKind)}, (names.map (·.1)).Nodup → (x, k) ∈ names → names.lookup x = some k
  | [], _, h => by simp at h
  | (y, j) :: r, nd, h => by
    obtain ⟨n1, n2⟩ := List.nodup_cons.mp nd
    rw [List.lookup_cons]
    rcases List.mem_cons.mp h with e | e
    · cases e; simp
    · have ne : (x == y) = false := by
        cases q : x == y with
        | false => rfl
        | true => exact absurd (List.mem_map.mpr ⟨(x, k), e, beq_iff_eq.mp q⟩) n1
      rw [ne]
      exact lookup_mem_nodup n2 e
theorem relabel_cases {scope : Scope} {env : Env} {x : Str} {k : NameKind} : (relabel scope env).names.lookup x = some k → (k = .cell ∨ k = .free) → scope.names.lookup x = some .cell ∨ scope.names.lookup x = some .free := by
  unfold relabel
  show (scope.names.map _).lookup x = some k → _
  induction scope.names with
  | nil => intro h; simp at h
  | cons p r ih =>
    obtain ⟨n, j⟩ := p
    intro h hk
    rw [List.map_cons] at h
    rw [List.lookup_cons]
    by_cases hc : (j == NameKind.free && env.scope.kind == .function && env.kindOf n == some .cell) = true
    · simp only [hc, if_true] at h
      rw [List.lookup_cons] at h
      cases q : x == n with
      | true =>
        have : j = .free := by
          have := (Bool.and_eq_true_iff.mp (Bool.and_eq_true_iff.mp hc).1).1
          simpa using this
        simp [this]
      | false => rw [q] at h; simpa using ih h hk
    · simp only [hc, Bool.false_eq_true, if_false] at h
      rw [List.lookup_cons] at h
      cases q : x == n with
      | true =>
        rw [q] at h
        simp only [Option.some.injEq] at h
        subst h
        rcases hk with e | e <;> simp [e]
      | false => rw [q] at h; simpa using ih h hk
theorem relabel_free {scope : Scope} {env : Env} {x : Str} (hf : env.scope.kind = .function) : scope.names.lookup x = some .free → (relabel scope env).names.lookup x = some .cell ∨ (relabel scope env).names.lookup x = some .free := by
  unfold relabel
  show _ → (scope.names.map _).lookup x = _ ∨ (scope.names.map _).lookup x = _
  induction scope.names with
  | nil => intro h; simp at h
  | cons p r ih =>
    obtain ⟨n, j⟩ := p
    intro h
    rw [List.lookup_cons] at h
    rw [List.map_cons]
    cases q : x == n with
    | true =>
      rw [q] at h
      simp only [Option.some.injEq] at h
      subst h
      by_cases hc : (NameKind.free == NameKind.free && env.scope.kind == .function && env.kindOf n == some .cell) = true
      · left; simp only [hc, if_true]; rw [List.lookup_cons, q]
      · right; simp only [hc, Bool.false_eq_true, if_false]; rw [List.lookup_cons, q]
    | false =>
      rw [q] at h
      by_cases hc : (j == NameKind.free && env.scope.kind == .function && env.kindOf n == some .cell) = true
      · simp only [hc, if_true]; rw [List.lookup_cons, q]; exact ih h
      · simp only [hc, Bool.false_eq_true, if_false]; rw [List.lookup_cons, q]; exact ih h
end L2
namespace L2
open PySem PySem.Spec PyProof.Rows
def cxComp (X : Cx) (N : List Str) (scope : Scope) (s : Shared) (H : Hp) (fp : List Addr) : Cx where
  prog := X.prog
  w := X.w
  K := X.K
  mg := X.mg
  base := X.base
  A := X.A
  N := N
  s₀ := s
  H₀ := H
  env := compEnvC scope (cellsFrom (s.heap.objs.size + 1) scope.names (closC X.env.cells scope.names [])) s.heap.objs.size X.env
  outer := X.stack
  stack := X.stack
  ex := fp
  fn := fun x => scope.names.lookup x == some .cell
  calm := X.calm
  pn := []
  xe := fun _ _ => False
def capt (σ : St) : Option Nat → Option V
  | none => none
  | some j => (σ[j]?).join
def compOk (N : List Str) (names encl : List (Str × NameKind)) (N' : List Str) (ix : List (Option Nat)) : Bool :=
  decide ((names.map (·.1)).Nodup) && names.all (fun p => !(p.2 == NameKind.free) || (encl.lookup p.1 == some NameKind.cell || encl.lookup p.1 == some NameKind.free)) && ix.length == N'.length &&
    ((N'.zip ix).all fun p => match p.2 with
      | none => true
      | some j => N[j]? == some p.1 && names.lookup p.1 == some NameKind.free)
def tComp (ix : List (Option Nat)) (wi : TI) (g : TG) (ts : List TT) (tb : Addr → TS) : TE := fun σ H Q => wi σ H fun J H1 => ∀ acc, H1 acc = none →
  tLoop J g (tTests ts (tb acc)) { nx := fun _ H' => Q (.ref acc) H', rt := fun _ _ => False } (ix.map (capt σ)) (upd H1 acc (.lst []))
section
variable {X : Cx} {elt target iter : Expr} {ifs : List Expr} {rest : List Comprehension} {scope : Scope} {pos : Pos} {N' : List Str} {ix : List (Option Nat)} {wi : TI} {g : TG} {ts : List TT} {tb : Addr → TS}
theorem comp_enter {pins : List (Addr × Obj)} {σ : St} {H : Hp} {s : Shared} {fp : List Addr} {Q : Env → Shared → Prop} {E : Value → Shared → Prop} (I : Inv X pins σ H s) (hok : compOk X.N scope.names X.env.scope.names N' ix = true) (hk : scope.kind = .function)
    (hf : ∀ b ∈ fp, FpOk X pins H b) (hfo : ∀ b ∈ fp, ∃ o, s.heap.get? b = some o)
    (h : ∀ s', (∀ b o, s.heap.get? b = some o → s'.heap.get? b = some o) → Inv (cxComp X N' scope s H fp) [] (ix.map (capt σ)) H s' → Q (newEnv scope s.heap.objs.size X.env.globals (cellsFrom (s.heap.objs.size + 1) scope.names (closC X.env.cells scope.names [])) X.env.qual none .none (some X.env) builtinsNs) s') :
    wpAny (model X.prog X.w) X.A (newFunctionEnv scope X.env.globals (closC X.env.cells scope.names []) [] X.env.qual none .none (some X.env)) Q E s := by
  have hok2 := hok
  simp only [compOk, Bool.and_eq_true, decide_eq_true_eq, List.all_eq_true] at hok
  obtain ⟨⟨⟨nd, hfr⟩, hlen⟩, hix⟩ := hok
  have hlen : ix.length = N'.length := by simpa using hlen
  have isF : ∀ y ∈ scope.names, y.2 = .free → X.env.kindOf y.1 = some .cell ∨ X.env.kindOf y.1 = some .free := fun y hy e => by
    have := hfr y hy
    have : X.env.scope.names.lookup y.1 = some .cell ∨ X.env.scope.names.lookup y.1 = some .free := by simpa [e] using this
    exact this
  have hasC : ∀ y ∈ scope.names, y.2 = .free → (X.env.cells.lookup y.1).isSome = true := fun y hy e => by
    obtain ⟨c, hc⟩ := I.ok.has y.1 (isF y hy e)
    rw [hc]; rfl
  have oldC : ∀ x c, (x, c) ∈ closC X.env.cells scope.names [] → (x, NameKind.free) ∈ scope.names ∧ X.env.cells.lookup x = some c := fun x c hm => (closC_from _ _ hasC hm).resolve_left (by simp)
  have ltC : ∀ x c, X.env.cells.lookup x = some c → c < s.heap.objs.size := fun x c e => by obtain ⟨v, q⟩ := I.cell x c e; exact q.lt
  have apart : (cellsFrom (s.heap.objs.size + 1) scope.names (closC X.env.cells scope.names [])).Pairwise fun x y => x.2 ≠ y.2 :=
    cellsFrom_apart _ _ _ (fun p hp => Nat.lt_succ_of_lt (ltC p.1 p.2 (oldC p.1 p.2 hp).2)) (closC_apart I.ok.inj _ _ nd hasC (by simp) List.Pairwise.nil)
  have fromC : ∀ x c, (cellsFrom (s.heap.objs.size + 1) scope.names (closC X.env.cells scope.names [])).lookup x = some c → (s.heap.objs.size + 1 ≤ c ∧ (x, NameKind.cell) ∈ scope.names) ∨ ((x, NameKind.free) ∈ scope.names ∧ X.env.cells.lookup x = some c) := fun x c e =>
    (cellsFrom_from _ _ _ (PySem.mem_of_lookup e)).imp id fun z => oldC x c z
  have sz1 : (s.heap.push { cls := .type "dict", data := .dict #[] }).objs.size = s.heap.objs.size + 1 := Heap.size_push ..
  simp only [newFunctionEnv, Option.isSome_some, if_true]
  refine wpAny_bind (wpAny_alloc ?_)
  refine wpAny_bind (wpAny_layCells _ (fun name kind cells => by cases hkc : kind == NameKind.cell <;> simp [hkc]) _ _ _ _ ?_)
  rw [show ({ s with heap := s.heap.push { cls := .type "dict", data := .dict #[] } } : Shared).heap.objs.size = s.heap.objs.size + 1 from sz1]
  refine wpAny_bind ?_
  rw [List.forIn_nil]
  refine wpAny_pure (wpAny_pure ?_)
  have keep : ∀ b o, s.heap.get? b = some o → (pushCells (s.heap.push { cls := .type "dict", data := .dict #[] }) scope.names).get? b = some o := fun b o e => pushCells_keeps _ _ b o (Heap.get?_push_of_some _ e)
  refine h _ keep ?_
  have kk : ∀ x : Str, (cxComp X N' scope s H fp).env.kindOf x = (relabel scope X.env).names.lookup x := fun _ => rfl
  have emptyC : ∀ x c, (cellsFrom (s.heap.objs.size + 1) scope.names (closC X.env.cells scope.names [])).lookup x = some c → ∃ v, (pushCells (s.heap.push { cls := .type "dict", data := .dict #[] }) scope.names).IsCell c v := fun x c e => by
    have := pushCells_empty (x := x) (c := c) scope.names (s.heap.push { cls := .type "dict", data := .dict #[] }) (closC X.env.cells scope.names []) (by rw [sz1]; exact PySem.mem_of_lookup e)
    rcases this with z | z
    · obtain ⟨v, q⟩ := I.cell x c (oldC x c z).2
      exact ⟨v, q.keeps keep⟩
    · exact ⟨none, z⟩
  refine ⟨⟨I.ok.mod, hk, I.ok.glob, I.ok.blt, Nat.le_refl _, fun y z c h1 h2 => ?_, fun y hy => ?_, fun y c hy e => ?_, I.ok.hd, I.ok.frames, .inl rfl, fun b hb => ⟨?_, fun x c e => ?_⟩, I.bs, Nat.le_trans I.ok.bsz I.sz, fun b o e hb => ?_, fun b hb hs => ?_, I.stack, I.stkFree⟩,
    rfl, I.bare, Un.kept keep, ⟨fun _ => none, (Heap.Ns.new s.heap (.type "dict")).keeps (pushCells_keeps _ _), fun i x v e1 e2 e3 => ?_⟩, emptyC, I.hok.fresh (Nat.le_refl _), fun y c e => ?_, fun p hp => absurd (show p ∈ ([] : List (Addr × Obj)) from hp) (by simp), I.hok.kept keep, by rw [List.length_map]; exact hlen⟩
  · exact name_of_addr apart (PySem.mem_of_lookup h1) (PySem.mem_of_lookup h2)
  · rw [kk] at hy
    have hy' : scope.names.lookup y = some .cell ∨ scope.names.lookup y = some .free := by
      rcases hy with q | q
      · exact relabel_cases q (.inl rfl)
      · exact relabel_cases q (.inr rfl)
    refine Option.isSome_iff_exists.mp (PySem.W.cellsFrom_some _ _ _ ?_)
    rcases hy' with q | q
    · exact .inl q
    · have hm := PySem.mem_of_lookup q
      obtain ⟨c, hc⟩ := Option.isSome_iff_exists.mp (hasC _ hm rfl)
      exact .inr (by rw [closC_in hc _ _ hm]; rfl)
  · have hy : scope.names.lookup y = some .cell := by simpa using (show (scope.names.lookup y == some NameKind.cell) = true from hy)
    rcases fromC y c e with z | z
    · exact Nat.le_of_succ_le z.1
    · have := lookup_mem_nodup nd z.1
      rw [hy] at this; cases this
  · obtain ⟨o, ho⟩ := hfo b hb
    exact Nat.ne_of_lt (Heap.lt_size ho)
  · rcases fromC x c e with z | z
    · obtain ⟨o, ho⟩ := hfo b hb
      exact Nat.ne_of_gt (Nat.lt_of_lt_of_le (Heap.lt_size ho) (Nat.le_of_succ_le z.1))
    · exact (hf b hb).2.2.2.2.1 x c z.2
  · rcases (hf b hb).2.2.2.1 with z | z
    · exact I.ok.noex b o e z
    · exact absurd (Nat.lt_of_lt_of_le (Heap.lt_size (I.ok.bs b o e).1) z) (Nat.lt_irrefl _)
  · rcases List.mem_cons.mp (I.stkSub b hs) with z | z
    · exact (hf b hb).2.1 z
    · exact (hf b hb).2.2.1 z
  · rw [List.getElem?_map] at e2
    cases hj : ix[i]? with
    | none => rw [hj] at e2; cases e2
    | some oj =>
      rw [hj] at e2
      have e2 : capt σ oj = some v := by simpa using e2
      cases oj with
      | none => cases e2
      | some j =>
        have hv : σ[j]? = some (some v) := by
          have e2' : (σ[j]?).join = some v := e2
          cases q : σ[j]? with
          | none => rw [q] at e2'; cases e2'
          | some w => rw [q] at e2'; have : w = some v := e2'; rw [this]
        have hz : (x, some j) ∈ N'.zip ix := by
          refine List.mem_of_getElem? (i := i) ?_
          rw [List.getElem?_zip_eq_some]
          exact ⟨e1, hj⟩
        have := hix _ hz
        simp only [Bool.and_eq_true, beq_iff_eq] at this
        obtain ⟨n1, n2⟩ := this
        have hm := PySem.mem_of_lookup n2
        obtain ⟨m, hn, hl⟩ := I.loc
        have kf := isF (x, .free) hm rfl
        have vis : Vis X.env.scope x := by
          rcases kf with q | q
          · exact .inr (.inl q)
          · exact .inr (.inr q)
        obtain ⟨u, r, l⟩ := hl j x v n1 hv vis
        refine ⟨u, r, .inr ?_⟩
        rcases l with ⟨k1, _⟩ | ⟨_, c, hc, hcell⟩
        · rcases kf with q | q <;> (rw [show X.env.kindOf x = some NameKind.local from k1] at q; cases q)
        · refine ⟨?_, c, ?_, hcell.keeps keep⟩
          · rw [kk]; exact relabel_free I.ok.kind n2
          · show (cellsFrom _ _ _).lookup x = some c
            rw [cellsFrom_out, closC_in hc _ _ hm]
            intro z
            have := lookup_mem_nodup nd z
            rw [n2] at this; cases this
  · rcases fromC y c e with z | z
    · exact I.hok.fresh (Nat.le_of_succ_le z.1)
    · exact I.freeC y c z.2
theorem comp_block {pins : List (Addr × Obj)} {σ : St} {H : Hp} {s : Shared} {it : Addr} {fp : List Addr} {tn : Nat → Heap → Prop} {J : It} {RR : Value → Addr → Result → Shared → Prop} {E : Value → Shared → Prop} {D : Addr → Ends}
    (hc : X.calm = true) (hok : compOk X.N scope.names X.env.scope.names N' ix = true) (hk : scope.kind = .function) (hn : ∀ g', rest[0]? = some g' → g'.is_async = 0)
    (hg : ∀ s H fp, PG (cxComp X N' scope s H fp) target g) (hts : ∀ s H fp, PTs (cxComp X N' scope s H fp) ifs ts)
    (hb : ∀ s H fp acc, PB (cxComp X N' scope s H fp) elt (⟨target, iter, ifs, 0⟩ :: rest) scope pos 0 acc (tb acc))
    (I : Inv X pins σ H s) (T : Turn X.prog X.w X.K target J fp it tn) (st : tn 0 s.heap) (hf : ∀ b ∈ fp, FpOk X pins H b)
    (h : ∀ acc, H acc = none → tLoop J g (tTests ts (tb acc)) (D acc) (ix.map (capt σ)) (upd H acc (.lst [])))
    (hR : ∀ acc C s' H' σ', H acc = none → s.heap.objs.size ≤ C → Inv X pins σ H' s' → FpOk X pins H' C → (∃ m, s'.heap.Ns C m) → (D acc).nx σ' H' → RR (.ref acc) C (.ok .next) s') :
    wpAny (model X.prog X.w) X.A (newList []) (fun acc s₃ => wpAny (model X.prog X.w) X.A (newFunctionEnv scope X.env.globals (closC X.env.cells scope.names []) [] X.env.qual none .none (some X.env)) (fun cenv s₄ =>
      codeAny (model X.prog X.w) X.A (.compStart (.ListComp elt (⟨target, iter, ifs, 0⟩ :: rest) scope pos) 0 (.ref it) acc { cenv with scope := relabel scope X.env }) (fun r s' => ∃ f, r = .ok f ∧ RR acc cenv.locals (.ok .next) s') s₄) E s₃) E s := by
  refine wpAny_newObj_type ?_
  have hnone : H s.heap.objs.size = none := I.hok.fresh (Nat.le_refl _)
  have I3 : Inv X pins σ (upd H s.heap.objs.size (.lst [])) { s with heap := s.heap.push { cls := .type "list", data := .seq ([] : List Value).toArray } } :=
    I.laid (t' := s.toks) (fun b u e => Heap.get?_push_of_some _ e) (Nat.le_refl _) ⟨Nat.zero_le _, [], 0, .nil, Heap.get?_push_size _ rfl⟩
  have hlt : ∀ b ∈ fp, b < s.heap.objs.size := fun b hb => by obtain ⟨o, ho, _⟩ := T.obj 0 _ st b hb; exact Heap.lt_size ho
  have hf3 : ∀ b ∈ fp, FpOk X pins (upd H s.heap.objs.size (.lst [])) b := fun b hb => ⟨by rw [upd_ne (Nat.ne_of_lt (hlt b hb))]; exact (hf b hb).1, (hf b hb).2⟩
  refine comp_enter (fp := fp) I3 hok hk hf3 (fun b hb => ?_) fun s4 keep I4 => ?_
  · obtain ⟨o, ho, _⟩ := T.obj 0 _ st b hb
    exact ⟨o, Heap.get?_push_of_some _ ho⟩
  have st4 : tn 0 s4.heap := T.keep 0 _ _ st fun b hb o e => keep b o (Heap.get?_push_of_some _ e)
  have size3 : ({ s with heap := s.heap.push { cls := .type "list", data := .seq ([] : List Value).toArray } } : Shared).heap.objs.size = s.heap.objs.size + 1 := Heap.size_push ..
  have hf4 : ∀ b ∈ fp, FpOk (cxComp X N' scope { s with heap := s.heap.push { cls := .type "list", data := .seq ([] : List Value).toArray } } (upd H s.heap.objs.size (.lst [])) fp) [] (upd H s.heap.objs.size (.lst [])) b := fun b hb =>
    ⟨(hf3 b hb).1, (I4.ok.exf b hb).1, I4.ok.exfs b hb, .inl hb, (I4.ok.exf b hb).2, fun p hp => absurd (show p ∈ ([] : List (Addr × Obj)) from hp) (by simp)⟩
  refine codeAny_mono (comp_loop (X := cxComp X N' scope { s with heap := s.heap.push { cls := .type "list", data := .seq ([] : List Value).toArray } } (upd H s.heap.objs.size (.lst [])) fp) rfl hc (d := 0) (gens := ⟨target, iter, ifs, 0⟩ :: rest) rfl hn (hg _ _ _) (hts _ _ _) (hb _ _ _ _) T I4 st4 hf4 (h _ hnone)) fun r s5 ⟨f, hr, σ5, H5, I5, q5⟩ => ⟨f, hr, ?_⟩
  have I6 : Inv X pins σ H5 s5 := I3.call' (ch := fp) (I5.os.trans rfl) I5.base I5.hok I5.bare fun b hb => ⟨(hf3 b hb).2.2.2.1, (hf3 b hb).2.1, (hf3 b hb).2.2.2.2.1, (hf3 b hb).2.2.2.2.2⟩
  have hC : s.heap.objs.size ≤ (cxComp X N' scope { s with heap := s.heap.push { cls := .type "list", data := .seq ([] : List Value).toArray } } (upd H s.heap.objs.size (.lst [])) fp).env.locals := by
    show s.heap.objs.size ≤ _
    exact Nat.le_trans (Nat.le_succ _) (Nat.le_of_eq size3.symm)
  refine hR _ _ s5 H5 σ5 hnone hC I6 (I3.fpOk (Nat.le_refl _) I5.free) ?_ q5
  obtain ⟨m, hm, _⟩ := I5.loc
  exact ⟨m, hm⟩
theorem compOk_names (hok : compOk X.N scope.names X.env.scope.names N' ix = true) : ∀ x ∈ scope.names, x.2 = .local → scope.names.lookup x.1 = some .local := by
  simp only [compOk, Bool.and_eq_true, decide_eq_true_eq, List.all_eq_true] at hok
  intro x hx e
  obtain ⟨n, k⟩ := x
  have e : k = .local := e
  subst e
  exact lookup_mem_nodup hok.1.1.1 hx
theorem compOk_clos {pins : List (Addr × Obj)} {σ : St} {H : Hp} {s : Shared} (I : Inv X pins σ H s) (hok : compOk X.N scope.names X.env.scope.names N' ix = true) : closureFor scope X.env = pure (closC X.env.cells scope.names []) := by
  refine closureFor_are fun y hy e => ?_
  simp only [compOk, Bool.and_eq_true, decide_eq_true_eq, List.all_eq_true] at hok
  have := hok.1.1.2 y hy
  have : X.env.scope.names.lookup y.1 = some .cell ∨ X.env.scope.names.lookup y.1 = some .free := by simpa [e] using this
  obtain ⟨c, hc⟩ := I.ok.has y.1 this
  rw [hc]; rfl
theorem pe_comp (hok : compOk X.N scope.names X.env.scope.names N' ix = true) (hk : scope.kind = .function) (hc : X.calm = true) (hi : PI X target iter wi)
    (hg : ∀ s H fp, PG (cxComp X N' scope s H fp) target g) (hts : ∀ s H fp, PTs (cxComp X N' scope s H fp) ifs ts)
    (hb : ∀ s H fp acc, PB (cxComp X N' scope s H fp) elt (⟨target, iter, ifs, 0⟩ :: rest) scope pos 0 acc (tb acc))
    (hn : ∀ g', rest[0]? = some g' → g'.is_async = 0 := by intro _ h; first | cases h; rfl | cases h) (hs : ∀ x, foldedSetIterable iter X.env x = pure x := by intro _; rfl) :
    PE X (.ListComp elt (⟨target, iter, ifs, 0⟩ :: rest) scope pos) (tComp ix wi g ts tb) := by
  intro pins s σ H Q I h
  rw [eval_ListComp]
  refine wpAny_comprehension_free (use := none) rfl hs (compOk_clos I hok) hk (compOk_names hok) (thn (hi pins s σ H _ I h) fun xv s₁ h₁ => thn h₁ fun itv s₂ h₂ => ?_)
  obtain ⟨it, fp, tn, J, H2, e, I2, T, st2, f2, q2⟩ := h₂
  subst e
  refine thn (comp_block (RR := fun acc C r s' => compPost (model X.prog X.w) X.A X.xe none (EP X pins σ Q) acc C r s') hc hok hk hn hg hts hb I2 T st2 f2 q2 fun acc C s' H' σ' ha hC I' fC hns q => ?_) fun acc s3 h3 => thn h3 fun cenv s4 h4 => codeAny_mono h4 fun r s5 ⟨f, hr, h5⟩ => ?_
  · obtain ⟨m, hm⟩ := hns
    refine ⟨m, hm, fun h' hs' => ⟨.ref acc, H', I'.turned (t' := s'.toks) (fun b o hb e => (hs'.2 b hb).trans e) fC.1 fC.2.1 fC.2.2.2.1 fC.2.2.2.2.1 fC.2.2.2.2.2, rfl, q⟩⟩
  · subst hr
    exact h5
theorem ps_setComp {i : Nat} {x : Str} {pos' spos : Pos} (hN : X.N.Nodup) (hix : X.N[i]? = some x) (hx : Loc X.env.scope x) (hok : compOk X.N scope.names X.env.scope.names N' ix = true) (hk : scope.kind = .function) (hc : X.calm = true) (hi : PI X target iter wi)
    (hg : ∀ s H fp, PG (cxComp X N' scope s H fp) target g) (hts : ∀ s H fp, PTs (cxComp X N' scope s H fp) ifs ts)
    (hb : ∀ s H fp acc, PB (cxComp X N' scope s H fp) elt (⟨target, iter, ifs, 0⟩ :: rest) scope pos 0 acc (tb acc))
    (hsw : swapsWith (.ListComp elt (⟨target, iter, ifs, 0⟩ :: rest) scope pos) (some (.Name x pos')) spos.line X.env = pure true := by rfl)
    (hf : X.fn x = true ∨ X.env.scope.names.lookup x = some .local := by first | exact .inl rfl | exact .inr rfl | assumption)
    (hn : ∀ g', rest[0]? = some g' → g'.is_async = 0 := by intro _ h; first | cases h; rfl | cases h) (hs : ∀ x, foldedSetIterable iter X.env x = pure x := by intro _; rfl) :
    PS X (.Assign [.Name x pos'] (.ListComp elt (⟨target, iter, ifs, 0⟩ :: rest) scope pos) spos) (tAsg (tComp ix wi g ts tb) (gName i)) := by
  intro pins s σ H D I h
  rw [exec_Assign_Name_used _ _ _ _ hsw]
  refine wpAny_bind (wpAny_standAt (wpAny_bind ?_))
  show wpAny _ X.A (do let _ ← comprehension (.ListComp elt (⟨target, iter, ifs, 0⟩ :: rest) scope pos) scope X.env _ (newList []) false (eval iter X.env) (some (assign (.Name x pos') X.env))) _ _ s
  refine wpAny_bind (wpAny_mono (wpAny_comprehension_free (use := some (assign (.Name x pos') X.env)) (Q := fun _ s' => SP X pins D .next s') rfl hs (compOk_clos I hok) hk (compOk_names hok) (thn (hi pins s σ H _ I h) fun xv s₁ h₁ => thn h₁ fun itv s₂ h₂ => ?_)) (fun _ s' hq => wpAny_pure (wpAny_pure hq)) fun _ _ e => e)
  obtain ⟨it, fp, tn, J, H2, e, I2, T, st2, f2, q2⟩ := h₂
  subst e
  refine thn (comp_block (RR := fun acc C r s' => compPost (model X.prog X.w) X.A X.xe (some (assign (.Name x pos') X.env)) (fun _ s' => SP X pins D .next s') acc C r s') hc hok hk hn hg hts hb I2 T st2 f2 q2 fun acc C s' H' σ' ha hC I' fC hns q => ?_) fun acc s3 h3 => thn h3 fun cenv s4 h4 => codeAny_mono h4 fun r s5 ⟨f, hr, h5⟩ => ?_
  · obtain ⟨m, hm⟩ := hns
    show wpAny _ X.A (assign (.Name x pos') X.env (.ref acc)) _ _ _
    refine wpAny_assign_Name (store_ok2 I' hN hix hx (v := .ref acc) rfl (fun s6 I6 ⟨a, hsb, ha6⟩ => ?_) hf)
    have hCa : C ≠ a := by
      rcases ha6 with z | z
      · rw [z]; exact fC.2.1
      · exact (fC.2.2.2.2.1 x a z).symm
    refine ⟨m, hm.sameBut hsb hCa, fun h' hs' => ⟨_, H', I6.turned (t' := s6.toks) (fun b o hb e => (hs'.2 b hb).trans e) fC.1 fC.2.1 fC.2.2.2.1 fC.2.2.2.2.1 fC.2.2.2.2.2, q⟩⟩
  · subst hr
    exact h5
end
end L2
namespace L2
open PySem PySem.Spec PyProof.Rows
theorem Same.tup {K : PySem.W.Frag} {H H' : Hp} {a : Addr} {xs : List V} (e : Same H H') (h : SqT K H a xs) : SqT K H' a xs := by
  rcases h with (h | ⟨o, h⟩) | h
  · exact .inl (.inl (e _ _ h))
  · exact .inl (.inr ⟨o, e _ _ h⟩)
  · exact .inr h
inductive Dt where
  | non | bl (b : Bool) | int (i : Int) | str (x : Str) | tup (ds : List Dt) | lst (ds : List Dt)
mutual
def Sh (K : PySem.W.Frag) (H : Hp) : Dt → V → Prop
  | .non, v => v = .non
  | .bl b, v => v = .bl b
  | .int i, v => v = .int i
  | .str x, v => v = .str x
  | .tup ds, v => ∃ a xs, v = .ref a ∧ SqT K H a xs ∧ ShL K H ds xs
  | .lst ds, v => ∃ a xs, v = .ref a ∧ SqL K H a xs ∧ ShL K H ds xs
def ShL (K : PySem.W.Frag) (H : Hp) : List Dt → List V → Prop
  | [], xs => xs = []
  | d :: ds, xs => ∃ x r, xs = x :: r ∧ Sh K H d x ∧ ShL K H ds r
end
mutual
def eqD : Dt → Dt → Bool
  | .non, .non => true
  | .bl a, .bl b => a == b
  | .int a, .int b => a == b
  | .str a, .str b => a == b
  | .bl a, .int b => (if a then 1 else 0) == b
  | .int a, .bl b => a == (if b then 1 else 0)
  | .tup ds, .tup es => eqL ds es
  | .lst ds, .lst es => eqL ds es
  | _, _ => false
def eqL : List Dt → List Dt → Bool
  | [], [] => true
  | d :: ds, e :: es => eqD d e && eqL ds es
  | _, _ => false
end
mutual
def dep : Dt → Nat
  | .tup ds => depL ds + 1
  | .lst ds => depL ds + 1
  | _ => 0
def depL : List Dt → Nat
  | [] => 0
  | d :: ds => max (dep d) (depL ds)
end
section
variable {K : PySem.W.Frag} {H H' : Hp}
mutual
theorem Sh.same (e : Same H H') : ∀ {d : Dt} {v : V}, Sh K H d v → Sh K H' d v
  | .non, _, h => h
  | .bl _, _, h => h
  | .int _, _, h => h
  | .str _, _, h => h
  | .tup ds, _, ⟨a, xs, h1, h2, h3⟩ => ⟨a, xs, h1, e.tup h2, ShL.same e h3⟩
  | .lst ds, _, ⟨a, xs, h1, h2, h3⟩ => ⟨a, xs, h1, e.seq h2, ShL.same e h3⟩
theorem ShL.same (e : Same H H') : ∀ {ds : List Dt} {xs : List V}, ShL K H ds xs → ShL K H' ds xs
  | [], _, h => h
  | d :: ds, _, ⟨x, r, h1, h2, h3⟩ => ⟨x, r, h1, Sh.same e h2, ShL.same e h3⟩
end
theorem ShL.length : ∀ {ds : List Dt} {xs : List V}, ShL K H ds xs → ds.length = xs.length
  | [], _, h => by rw [show _ = [] from h]; rfl
  | d :: ds, _, ⟨x, r, h1, h2, h3⟩ => by rw [h1, List.length_cons, List.length_cons, ShL.length h3]
theorem ShL.get : ∀ {ds : List Dt} {xs : List V} {j : Nat} {d : Dt}, ShL K H ds xs → ds[j]? = some d → ∃ x, xs[j]? = some x ∧ Sh K H d x
  | [], _, _, _, _, h => by simp at h
  | d :: ds, _, 0, e, ⟨x, r, h1, h2, h3⟩, h => by
    have : d = e := by simpa using h
    subst this
    exact ⟨x, by rw [h1]; rfl, h2⟩
  | d :: ds, _, j + 1, e, ⟨x, r, h1, h2, h3⟩, h => by
    obtain ⟨y, h4, h5⟩ := ShL.get (j := j) h3 (by simpa using h)
    exact ⟨y, by rw [h1]; simpa using h4, h5⟩
theorem ShL.snoc {d : Dt} {x : V} (hx : Sh K H d x) : ∀ {ds : List Dt} {xs : List V}, ShL K H ds xs → ShL K H (ds ++ [d]) (xs ++ [x])
  | [], _, h => ⟨x, [], by rw [show _ = [] from h]; rfl, hx, rfl⟩
  | _ :: _, _, ⟨y, r, h1, h2, h3⟩ => ⟨y, r ++ [x], by rw [h1]; rfl, h2, ShL.snoc hx h3⟩
theorem ShL.ints : ∀ (ns : List Int), ShL K H (ns.map Dt.int) (ns.map V.int)
  | [] => rfl
  | n :: ns => ⟨.int n, ns.map V.int, rfl, rfl, ShL.ints ns⟩
theorem ShL.of_ints : ∀ {ns : List Int} {xs : List V}, ShL K H (ns.map Dt.int) xs → xs = ns.map V.int
  | [], _, h => h
  | n :: ns, _, ⟨x, r, h1, h2, h3⟩ => by rw [h1, ShL.of_ints h3, show x = V.int n from h2]; rfl
end
mutual
theorem eqD_refl : ∀ d : Dt, eqD d d = true
  | .non => by unfold eqD; rfl
  | .bl b => by unfold eqD; simp
  | .int b => by unfold eqD; simp
  | .str b => by unfold eqD; simp
  | .tup ds => by unfold eqD; exact eqL_refl ds
  | .lst ds => by unfold eqD; exact eqL_refl ds
theorem eqL_refl : ∀ ds : List Dt, eqL ds ds = true
  | [] => by unfold eqL; rfl
  | d :: ds => by unfold eqL; rw [eqD_refl d, eqL_refl ds]; rfl
end
theorem eqL_length : ∀ {ds es : List Dt}, eqL ds es = true → ds.length = es.length
  | [], [], _ => rfl
  | [], _ :: _, h => by unfold eqL at h; cases h
  | _ :: _, [], h => by unfold eqL at h; cases h
  | d :: ds, e :: es, h => by
    unfold eqL at h
    rw [List.length_cons, List.length_cons, eqL_length (Bool.and_eq_true_iff.mp h).2]
theorem all_range_succ (n : Nat) (f : Nat → Bool) : (List.range (n + 1)).all f = (f 0 && (List.range n).all fun j => f (j + 1)) := by
  rw [List.range_succ_eq_map, List.all_cons, List.all_map]
  rfl
theorem eqL_all : ∀ (ds es : List Dt), ((List.range (min ds.length es.length)).all (fun j => eqD (ds.getD j .non) (es.getD j .non)) && ds.length == es.length) = eqL ds es
  | [], [] => by unfold eqL; rfl
  | [], e :: es => by unfold eqL; simp
  | d :: ds, [] => by unfold eqL; simp
  | d :: ds, e :: es => by
    have ih := eqL_all ds es
    unfold eqL
    rw [← ih, List.length_cons, List.length_cons, Nat.succ_min_succ, all_range_succ, Bool.and_assoc]
    congr 1
    congr 1
    simp
theorem depL_le {ds : List Dt} {j : Nat} {d : Dt} (h : ds[j]? = some d) : dep d ≤ depL ds := by
  induction ds generalizing j with
  | nil => simp at h
  | cons e es ih =>
    unfold depL
    cases j with
    | zero =>
      have : e = d := by simpa using h
      subst this
      exact Nat.le_max_left _ _
    | succ j => exact Nat.le_trans (ih (by simpa using h)) (Nat.le_max_right _ _)
section
variable {X : Cx} {pins : List (Addr × Obj)} {σ : St} {H : Hp} {s : Shared}
theorem Inv.tl_ne (I : Inv X pins σ H s) {a : Addr} {xs ys : List V} (h : SqT X.K H a xs) (h' : SqL X.K H a ys) : False := by
  obtain ⟨its, r, ⟨o, e, c, n, d⟩, _⟩ := I.tuple h
  obtain ⟨its', r', ⟨o', n', e', c', _, d'⟩, _⟩ := I.list h'
  rw [e] at e'; cases e'
  rw [c] at c'; simp at c'
mutual
theorem Inv.sh_inj (I : Inv X pins σ H s) : ∀ {d e : Dt} {v : V}, Sh X.K H d v → Sh X.K H e v → d = e
  | .non, e, v, h, h' => by
    have h : v = .non := h
    subst h
    cases e <;> first | rfl | (exact absurd (show V.non = _ from h') (fun z => nomatch z)) | (obtain ⟨_, _, z, _⟩ := h'; cases z)
  | .bl b, e, v, h, h' => by
    have h : v = .bl b := h
    subst h
    cases e <;> first | (cases (show V.bl b = V.bl _ from h'); rfl) | (exact absurd (show V.bl b = _ from h') (fun z => nomatch z)) | (obtain ⟨_, _, z, _⟩ := h'; cases z)
  | .int b, e, v, h, h' => by
    have h : v = .int b := h
    subst h
    cases e <;> first | (cases (show V.int b = V.int _ from h'); rfl) | (exact absurd (show V.int b = _ from h') (fun z => nomatch z)) | (obtain ⟨_, _, z, _⟩ := h'; cases z)
  | .str b, e, v, h, h' => by
    have h : v = .str b := h
    subst h
    cases e <;> first | (cases (show V.str b = V.str _ from h'); rfl) | (exact absurd (show V.str b = _ from h') (fun z => nomatch z)) | (obtain ⟨_, _, z, _⟩ := h'; cases z)
  | .tup ds, e, v, ⟨a, xs, h1, h2, h3⟩, h' => by
    subst h1
    cases e with
    | tup es =>
      obtain ⟨a', xs', z, h2', h3'⟩ := h'
      cases z
      rw [I.tuple_inj h2' h2] at h3'
      rw [Inv.shL_inj I h3 h3']
    | lst es =>
      obtain ⟨a', xs', z, h2', h3'⟩ := h'
      cases z
      exact (I.tl_ne h2 h2').elim
    | _ => exact absurd (show V.ref a = _ from h') (fun z => nomatch z)
  | .lst ds, e, v, ⟨a, xs, h1, h2, h3⟩, h' => by
    subst h1
    cases e with
    | lst es =>
      obtain ⟨a', xs', z, h2', h3'⟩ := h'
      cases z
      rw [I.list_inj h2' h2] at h3'
      rw [Inv.shL_inj I h3 h3']
    | tup es =>
      obtain ⟨a', xs', z, h2', h3'⟩ := h'
      cases z
      exact (I.tl_ne h2' h2).elim
    | _ => exact absurd (show V.ref a = _ from h') (fun z => nomatch z)
theorem Inv.shL_inj (I : Inv X pins σ H s) : ∀ {ds es : List Dt} {xs : List V}, ShL X.K H ds xs → ShL X.K H es xs → ds = es
  | [], [], _, _, _ => rfl
  | [], e :: es, _, h, ⟨x, r, h1, _⟩ => by rw [show _ = [] from h] at h1; cases h1
  | d :: ds, [], _, ⟨x, r, h1, _⟩, h => by rw [show _ = [] from h] at h1; cases h1
  | d :: ds, e :: es, _, ⟨x, r, h1, h2, h3⟩, ⟨x', r', h1', h2', h3'⟩ => by
    rw [h1] at h1'
    cases h1'
    rw [Inv.sh_inj I h2 h2', Inv.shL_inj I h3 h3']
end
end
end L2
namespace L2
open PySem PySem.Spec PyProof.Rows
section
variable {X : Cx} {pins : List (Addr × Obj)} {σ : St} {H : Hp} {s : Shared}
open PySem.SeqAt
theorem items_at {ds es : List Dt} {xs ys : List V} {us vs : List Value} (hs : ShL X.K H ds xs) (hr : Vals xs us) (hs' : ShL X.K H es ys) (hr' : Vals ys vs) {A : Around}
    (h : ∀ (d e : Dt) (x y : V) (u v : Value), (∃ j : Nat, ds[j]? = some d) → RelV x u → RelV y v → Sh X.K H d x → Sh X.K H e y → EqAt A s u v (eqD d e)) :
    ∀ j (h1 : j < us.toArray.size) (h2 : j < vs.toArray.size), EqAt A s us.toArray[j] vs.toArray[j] (eqD (ds.getD j .non) (es.getD j .non)) := by
  intro j h1 h2
  have l1 := hs.length
  have l2 := hr.length
  have l3 := hs'.length
  have l4 := hr'.length
  have g1 : j < us.length := by simpa using h1
  have g2 : j < vs.length := by simpa using h2
  have e1 : ds[j]? = some (ds.getD j .non) := by rw [List.getD_eq_getElem?_getD, List.getElem?_eq_getElem (by omega)]; rfl
  have e2 : es[j]? = some (es.getD j .non) := by rw [List.getD_eq_getElem?_getD, List.getElem?_eq_getElem (by omega)]; rfl
  obtain ⟨x, hx, sx⟩ := hs.get e1
  obtain ⟨y, hy, sy⟩ := hs'.get e2
  obtain ⟨u, hu, ru⟩ := hr.get hx
  obtain ⟨v, hv, rv⟩ := hr'.get hy
  have q1 : us.toArray[j] = u := by
    rw [List.getElem?_eq_getElem g1] at hu
    simpa using hu
  have q2 : vs.toArray[j] = v := by
    rw [List.getElem?_eq_getElem g2] at hv
    simpa using hv
  rw [q1, q2]
  exact h _ _ x y u v ⟨j, e1⟩ ru rv sx sy
theorem Inv.eq_sh (I : Inv X pins σ H s) : ∀ (n : Nat) (A : Around) (d e : Dt) (x y : V) (u v : Value), dep d ≤ n → A.units + n < cLine → RelV x u → RelV y v → Sh X.K H d x → Sh X.K H e y → RcAt A s u v (eqD d e) ∧ EqAt A s u v (eqD d e) := by
  intro n
  induction n with
  | zero =>
    intro A d e x y u v hd hu rx ry hx hy
    have hu0 : A.units < cLine := by omega
    cases d with
    | tup ds => unfold dep at hd; omega
    | lst ds => unfold dep at hd; omega
    | non =>
      obtain rfl : x = .non := hx
      obtain rfl : u = Value.none := rx
      cases e with
      | non => obtain rfl : y = .non := hy; obtain rfl : v = Value.none := ry; unfold eqD; exact ⟨RcAt.none_none, EqAt.same _⟩
      | bl b => obtain rfl : y = .bl b := hy; obtain rfl : v = Value.bool b := ry; unfold eqD; exact ⟨RcAt.none_bool b, EqAt.none_bool b⟩
      | int b => obtain rfl : y = .int b := hy; obtain ⟨t, rfl⟩ := ry; unfold eqD; exact ⟨RcAt.none_int b t, EqAt.none_int b t⟩
      | str b => obtain rfl : y = .str b := hy; obtain ⟨t, rfl⟩ := ry; unfold eqD; exact ⟨RcAt.none_str b t, EqAt.none_str b t⟩
      | tup es => obtain ⟨b, ys, rfl, hq, _⟩ := hy; obtain rfl : v = Value.ref b := ry; obtain ⟨its, _, p, _⟩ := I.tuple hq; unfold eqD; exact ⟨RcAt.none_tuple (show s.heap.IsTuple b its.toArray from p) hu0, EqAt.none_tuple (show s.heap.IsTuple b its.toArray from p) hu0⟩
      | lst es => obtain ⟨b, ys, rfl, hq, _⟩ := hy; obtain rfl : v = Value.ref b := ry; obtain ⟨its, _, p, _⟩ := I.list hq; unfold eqD; exact ⟨RcAt.none_list p.isList hu0, EqAt.none_list p.isList hu0⟩
    | bl a =>
      obtain rfl : x = .bl a := hx
      obtain rfl : u = Value.bool a := rx
      cases e with
      | non => obtain rfl : y = .non := hy; obtain rfl : v = Value.none := ry; unfold eqD; exact ⟨RcAt.bool_none a, EqAt.bool_none a⟩
      | bl b => obtain rfl : y = .bl b := hy; obtain rfl : v = Value.bool b := ry; unfold eqD; exact ⟨RcAt.bool_bool a b, EqAt.bool_bool a b⟩
      | int b => obtain rfl : y = .int b := hy; obtain ⟨t, rfl⟩ := ry; unfold eqD; exact ⟨RcAt.bool_int a b t, EqAt.bool_int a b t⟩
      | str b => obtain rfl : y = .str b := hy; obtain ⟨t, rfl⟩ := ry; unfold eqD; exact ⟨RcAt.bool_str a b t, EqAt.bool_str a b t⟩
      | tup es => obtain ⟨b, ys, rfl, hq, _⟩ := hy; obtain rfl : v = Value.ref b := ry; obtain ⟨its, _, p, _⟩ := I.tuple hq; unfold eqD; exact ⟨RcAt.bool_tuple a (show s.heap.IsTuple b its.toArray from p) hu0, EqAt.bool_tuple a (show s.heap.IsTuple b its.toArray from p) hu0⟩
      | lst es => obtain ⟨b, ys, rfl, hq, _⟩ := hy; obtain rfl : v = Value.ref b := ry; obtain ⟨its, _, p, _⟩ := I.list hq; unfold eqD; exact ⟨RcAt.bool_list a p.isList hu0, EqAt.bool_list a p.isList hu0⟩
    | int a =>
      obtain rfl : x = .int a := hx
      obtain ⟨t0, rfl⟩ := rx
      cases e with
      | non => obtain rfl : y = .non := hy; obtain rfl : v = Value.none := ry; unfold eqD; exact ⟨RcAt.int_none a t0, EqAt.int_none a t0⟩
      | bl b => obtain rfl : y = .bl b := hy; obtain rfl : v = Value.bool b := ry; unfold eqD; exact ⟨RcAt.int_bool a t0 b, EqAt.int_bool a t0 b⟩
      | int b => obtain rfl : y = .int b := hy; obtain ⟨t, rfl⟩ := ry; unfold eqD; exact ⟨RcAt.int_int a t0 b t, EqAt.int_int a t0 b t⟩
      | str b => obtain rfl : y = .str b := hy; obtain ⟨t, rfl⟩ := ry; unfold eqD; exact ⟨RcAt.int_str a t0 b t, EqAt.int_str a t0 b t⟩
      | tup es => obtain ⟨b, ys, rfl, hq, _⟩ := hy; obtain rfl : v = Value.ref b := ry; obtain ⟨its, _, p, _⟩ := I.tuple hq; unfold eqD; exact ⟨RcAt.int_tuple a t0 (show s.heap.IsTuple b its.toArray from p) hu0, EqAt.int_tuple a t0 (show s.heap.IsTuple b its.toArray from p) hu0⟩
      | lst es => obtain ⟨b, ys, rfl, hq, _⟩ := hy; obtain rfl : v = Value.ref b := ry; obtain ⟨its, _, p, _⟩ := I.list hq; unfold eqD; exact ⟨RcAt.int_list a t0 p.isList hu0, EqAt.int_list a t0 p.isList hu0⟩
    | str a =>
      obtain rfl : x = .str a := hx
      obtain ⟨t0, rfl⟩ := rx
      cases e with
      | non => obtain rfl : y = .non := hy; obtain rfl : v = Value.none := ry; unfold eqD; exact ⟨RcAt.str_none a t0, EqAt.str_none a t0⟩
      | bl b => obtain rfl : y = .bl b := hy; obtain rfl : v = Value.bool b := ry; unfold eqD; exact ⟨RcAt.str_bool a t0 b, EqAt.str_bool a t0 b⟩
      | int b => obtain rfl : y = .int b := hy; obtain ⟨t, rfl⟩ := ry; unfold eqD; exact ⟨RcAt.str_int a t0 b t, EqAt.str_int a t0 b t⟩
      | str b => obtain rfl : y = .str b := hy; obtain ⟨t, rfl⟩ := ry; unfold eqD; exact ⟨RcAt.str_str a t0 b t, EqAt.str_str a t0 b t⟩
      | tup es => obtain ⟨b, ys, rfl, hq, _⟩ := hy; obtain rfl : v = Value.ref b := ry; obtain ⟨its, _, p, _⟩ := I.tuple hq; unfold eqD; exact ⟨RcAt.str_tuple a t0 (show s.heap.IsTuple b its.toArray from p) hu0, EqAt.str_tuple a t0 (show s.heap.IsTuple b its.toArray from p) hu0⟩
      | lst es => obtain ⟨b, ys, rfl, hq, _⟩ := hy; obtain rfl : v = Value.ref b := ry; obtain ⟨its, _, p, _⟩ := I.list hq; unfold eqD; exact ⟨RcAt.str_list a t0 p.isList hu0, EqAt.str_list a t0 p.isList hu0⟩
  | succ n ih =>
    intro A d e x y u v hd hu rx ry hx hy
    have hu0 : A.units < cLine := by omega
    by_cases hd0 : dep d ≤ n
    · exact ih A d e x y u v hd0 (by omega) rx ry hx hy
    cases d with
    | non => exact absurd (Nat.zero_le _) hd0
    | bl a => exact absurd (Nat.zero_le _) hd0
    | int a => exact absurd (Nat.zero_le _) hd0
    | str a => exact absurd (Nat.zero_le _) hd0
    | tup ds =>
      have hdd : depL ds ≤ n := by unfold dep at hd; omega
      have hx0 := hx
      obtain ⟨a, xs, rfl, hq, hl⟩ := hx
      obtain rfl : u = Value.ref a := rx
      obtain ⟨its, rv, p, _⟩ := I.tuple hq
      have p : s.heap.IsTuple a its.toArray := p
      cases e with
      | non => obtain rfl : y = .non := hy; obtain rfl : v = Value.none := ry; unfold eqD; exact ⟨RcAt.tuple_none p hu0, EqAt.tuple_none p hu0⟩
      | bl b => obtain rfl : y = .bl b := hy; obtain rfl : v = Value.bool b := ry; unfold eqD; exact ⟨RcAt.tuple_bool b p hu0, EqAt.tuple_bool b p hu0⟩
      | int b => obtain rfl : y = .int b := hy; obtain ⟨t, rfl⟩ := ry; unfold eqD; exact ⟨RcAt.tuple_int b t p hu0, EqAt.tuple_int b t p hu0⟩
      | str b => obtain rfl : y = .str b := hy; obtain ⟨t, rfl⟩ := ry; unfold eqD; exact ⟨RcAt.tuple_str b t p hu0, EqAt.tuple_str b t p hu0⟩
      | lst es => obtain ⟨b, ys, rfl, hq', _⟩ := hy; obtain rfl : v = Value.ref b := ry; obtain ⟨its', _, p', _⟩ := I.list hq'; unfold eqD; exact ⟨RcAt.tuple_list p p'.isList hu0, EqAt.tuple_list p p'.isList hu0⟩
      | tup es =>
        have hy0 := hy
        obtain ⟨b, ys, rfl, hq', hl'⟩ := hy
        obtain rfl : v = Value.ref b := ry
        obtain ⟨its', rv', p', _⟩ := I.tuple hq'
        have p' : s.heap.IsTuple b its'.toArray := p'
        have he := items_at (A := A.in1) (s := s) hl rv hl' rv' (fun d e x y u v ⟨j, hj⟩ r1 r2 s1 s2 => (ih A.in1 d e x y u v (Nat.le_trans (depL_le hj) hdd) (by show A.units + 1 + n < cLine; omega) r1 r2 s1 s2).2)
        have rc := RcAt.tuples p p' hu0 he
        have l1 := hl.length
        have l2 := rv.length
        have l3 := hl'.length
        have l4 := rv'.length
        rw [List.size_toArray, List.size_toArray, ← l2, ← l4, ← l1, ← l3, eqL_all] at rc
        unfold eqD
        refine ⟨rc, ?_⟩
        by_cases hab : a = b
        · subst hab
          have := I.sh_inj hx0 hy0
          cases this
          rw [eqL_refl]
          exact EqAt.same _
        · exact EqAt.of_refs hab rc
    | lst ds =>
      have hdd : depL ds ≤ n := by unfold dep at hd; omega
      have hx0 := hx
      obtain ⟨a, xs, rfl, hq, hl⟩ := hx
      obtain rfl : u = Value.ref a := rx
      obtain ⟨its, rv, p, _⟩ := I.list hq
      have p := p.isList
      cases e with
      | non => obtain rfl : y = .non := hy; obtain rfl : v = Value.none := ry; unfold eqD; exact ⟨RcAt.list_none p hu0, EqAt.list_none p hu0⟩
      | bl b => obtain rfl : y = .bl b := hy; obtain rfl : v = Value.bool b := ry; unfold eqD; exact ⟨RcAt.list_bool b p hu0, EqAt.list_bool b p hu0⟩
      | int b => obtain rfl : y = .int b := hy; obtain ⟨t, rfl⟩ := ry; unfold eqD; exact ⟨RcAt.list_int b t p hu0, EqAt.list_int b t p hu0⟩
      | str b => obtain rfl : y = .str b := hy; obtain ⟨t, rfl⟩ := ry; unfold eqD; exact ⟨RcAt.list_str b t p hu0, EqAt.list_str b t p hu0⟩
      | tup es => obtain ⟨b, ys, rfl, hq', _⟩ := hy; obtain rfl : v = Value.ref b := ry; obtain ⟨its', _, p', _⟩ := I.tuple hq'; unfold eqD; exact ⟨RcAt.list_tuple p (show s.heap.IsTuple b its'.toArray from p') hu0, EqAt.list_tuple p (show s.heap.IsTuple b its'.toArray from p') hu0⟩
      | lst es =>
        have hy0 := hy
        obtain ⟨b, ys, rfl, hq', hl'⟩ := hy
        obtain rfl : v = Value.ref b := ry
        obtain ⟨its', rv', p', _⟩ := I.list hq'
        have p' := p'.isList
        have l1 := hl.length
        have l2 := rv.length
        have l3 := hl'.length
        have l4 := rv'.length
        have rc : RcAt A s (.ref a) (.ref b) (eqL ds es) := by
          by_cases hz : ds.length = es.length
          · have he := items_at (A := A.in1) (s := s) hl rv hl' rv' (fun d e x y u v ⟨j, hj⟩ r1 r2 s1 s2 => (ih A.in1 d e x y u v (Nat.le_trans (depL_le hj) hdd) (by show A.units + 1 + n < cLine; omega) r1 r2 s1 s2).2)
            have rc := RcAt.lists p p' (by rw [List.size_toArray, List.size_toArray]; omega) hu0 he
            rw [List.size_toArray, ← l2, ← l1] at rc
            have q := eqL_all ds es
            rw [← hz, Nat.min_self, beq_self_eq_true, Bool.and_true] at q
            rw [← q]
            exact rc
          · have q : eqL ds es = false := by
              cases q : eqL ds es with
              | false => rfl
              | true => exact absurd (eqL_length q) hz
            rw [q]
            exact RcAt.lists_lengths p p' (by rw [List.size_toArray, List.size_toArray]; simp; omega) hu0
        unfold eqD
        refine ⟨rc, ?_⟩
        by_cases hab : a = b
        · subst hab
          have := I.sh_inj hx0 hy0
          cases this
          rw [eqL_refl]
          exact EqAt.same _
        · exact EqAt.of_refs hab rc
def rEqD (K : PySem.W.Frag) : R2 := fun x y H Q => ∃ d e, dep d ≤ 100 ∧ Sh K H d x ∧ Sh K H e y ∧ Q (.bl (eqD d e)) H
theorem op_eqD (hu : X.A.units + 100 < cLine) : OpR X (compareOp .Eq) (rEqD X.K) := by
  intro pins s σ H x y v u Q I rx ry ⟨d, e, hd, hx, hy, q⟩
  exact (I.eq_sh 100 X.A d e x y v u hd hu rx ry hx hy).1 X.prog X.w X.xe _ ⟨.bl _, H, I, rfl, q⟩
end
end L2
namespace L2
open PySem PySem.Spec PyProof.Rows
section
variable {X : Cx} {pins : List (Addr × Obj)} {σ : St} {H : Hp} {s : Shared}
open PySem.SeqAt
theorem Inv.ne_sh (I : Inv X pins σ H s) {A : Around} (d e : Dt) (x y : V) (u v : Value) (hd : dep d ≤ 100) (hu : A.units + 101 < cLine) (rx : RelV x u) (ry : RelV y v) (hx : Sh X.K H d x) (hy : Sh X.K H e y) : RcNeAt A s u v (!eqD d e) := by
  have hu0 : A.units < cLine := by omega
  cases d with
  | non =>
    obtain rfl : x = .non := hx
    obtain rfl : u = Value.none := rx
    cases e with
    | non => obtain rfl : y = .non := hy; obtain rfl : v = Value.none := ry; unfold eqD; exact RcNeAt.none_none
    | bl b => obtain rfl : y = .bl b := hy; obtain rfl : v = Value.bool b := ry; unfold eqD; exact RcNeAt.none_bool b
    | int b => obtain rfl : y = .int b := hy; obtain ⟨t, rfl⟩ := ry; unfold eqD; exact RcNeAt.none_int b t
    | str b => obtain rfl : y = .str b := hy; obtain ⟨t, rfl⟩ := ry; unfold eqD; exact RcNeAt.none_str b t
    | tup es => obtain ⟨b, ys, rfl, hq, _⟩ := hy; obtain rfl : v = Value.ref b := ry; obtain ⟨its, _, p, _⟩ := I.tuple hq; unfold eqD; exact RcNeAt.none_tuple (show s.heap.IsTuple b its.toArray from p) hu0
    | lst es => obtain ⟨b, ys, rfl, hq, _⟩ := hy; obtain rfl : v = Value.ref b := ry; obtain ⟨its, _, p, _⟩ := I.list hq; unfold eqD; exact RcNeAt.none_list p.isList hu0
  | bl a =>
    obtain rfl : x = .bl a := hx
    obtain rfl : u = Value.bool a := rx
    cases e with
    | non => obtain rfl : y = .non := hy; obtain rfl : v = Value.none := ry; unfold eqD; exact RcNeAt.bool_none a
    | bl b => obtain rfl : y = .bl b := hy; obtain rfl : v = Value.bool b := ry; unfold eqD; exact RcNeAt.bool_bool a b
    | int b => obtain rfl : y = .int b := hy; obtain ⟨t, rfl⟩ := ry; unfold eqD; exact RcNeAt.bool_int a b t
    | str b => obtain rfl : y = .str b := hy; obtain ⟨t, rfl⟩ := ry; unfold eqD; exact RcNeAt.bool_str a b t
    | tup es => obtain ⟨b, ys, rfl, hq, _⟩ := hy; obtain rfl : v = Value.ref b := ry; obtain ⟨its, _, p, _⟩ := I.tuple hq; unfold eqD; exact RcNeAt.bool_tuple a (show s.heap.IsTuple b its.toArray from p) hu0
    | lst es => obtain ⟨b, ys, rfl, hq, _⟩ := hy; obtain rfl : v = Value.ref b := ry; obtain ⟨its, _, p, _⟩ := I.list hq; unfold eqD; exact RcNeAt.bool_list a p.isList hu0
  | int a =>
    obtain rfl : x = .int a := hx
    obtain ⟨t0, rfl⟩ := rx
    cases e with
    | non => obtain rfl : y = .non := hy; obtain rfl : v = Value.none := ry; unfold eqD; exact RcNeAt.int_none a t0
    | bl b => obtain rfl : y = .bl b := hy; obtain rfl : v = Value.bool b := ry; unfold eqD; exact RcNeAt.int_bool a t0 b
    | int b => obtain rfl : y = .int b := hy; obtain ⟨t, rfl⟩ := ry; unfold eqD; exact RcNeAt.int_int a t0 b t
    | str b => obtain rfl : y = .str b := hy; obtain ⟨t, rfl⟩ := ry; unfold eqD; exact RcNeAt.int_str a t0 b t
    | tup es => obtain ⟨b, ys, rfl, hq, _⟩ := hy; obtain rfl : v = Value.ref b := ry; obtain ⟨its, _, p, _⟩ := I.tuple hq; unfold eqD; exact RcNeAt.int_tuple a t0 (show s.heap.IsTuple b its.toArray from p) hu0
    | lst es => obtain ⟨b, ys, rfl, hq, _⟩ := hy; obtain rfl : v = Value.ref b := ry; obtain ⟨its, _, p, _⟩ := I.list hq; unfold eqD; exact RcNeAt.int_list a t0 p.isList hu0
  | str a =>
    obtain rfl : x = .str a := hx
    obtain ⟨t0, rfl⟩ := rx
    cases e with
    | non => obtain rfl : y = .non := hy; obtain rfl : v = Value.none := ry; unfold eqD; exact RcNeAt.str_none a t0
    | bl b => obtain rfl : y = .bl b := hy; obtain rfl : v = Value.bool b := ry; unfold eqD; exact RcNeAt.str_bool a t0 b
    | int b => obtain rfl : y = .int b := hy; obtain ⟨t, rfl⟩ := ry; unfold eqD; exact RcNeAt.str_int a t0 b t
    | str b => obtain rfl : y = .str b := hy; obtain ⟨t, rfl⟩ := ry; unfold eqD; exact RcNeAt.str_str a t0 b t
    | tup es => obtain ⟨b, ys, rfl, hq, _⟩ := hy; obtain rfl : v = Value.ref b := ry; obtain ⟨its, _, p, _⟩ := I.tuple hq; unfold eqD; exact RcNeAt.str_tuple a t0 (show s.heap.IsTuple b its.toArray from p) hu0
    | lst es => obtain ⟨b, ys, rfl, hq, _⟩ := hy; obtain rfl : v = Value.ref b := ry; obtain ⟨its, _, p, _⟩ := I.list hq; unfold eqD; exact RcNeAt.str_list a t0 p.isList hu0
  | tup ds =>
    have hdd : depL ds ≤ 100 := by unfold dep at hd; omega
    obtain ⟨a, xs, rfl, hq, hl⟩ := hx
    obtain rfl : u = Value.ref a := rx
    obtain ⟨its, rv, p, _⟩ := I.tuple hq
    have p : s.heap.IsTuple a its.toArray := p
    cases e with
    | non => obtain rfl : y = .non := hy; obtain rfl : v = Value.none := ry; unfold eqD; exact RcNeAt.tuple_none p hu0
    | bl b => obtain rfl : y = .bl b := hy; obtain rfl : v = Value.bool b := ry; unfold eqD; exact RcNeAt.tuple_bool b p hu0
    | int b => obtain rfl : y = .int b := hy; obtain ⟨t, rfl⟩ := ry; unfold eqD; exact RcNeAt.tuple_int b t p hu0
    | str b => obtain rfl : y = .str b := hy; obtain ⟨t, rfl⟩ := ry; unfold eqD; exact RcNeAt.tuple_str b t p hu0
    | lst es => obtain ⟨b, ys, rfl, hq', _⟩ := hy; obtain rfl : v = Value.ref b := ry; obtain ⟨its', _, p', _⟩ := I.list hq'; unfold eqD; exact RcNeAt.tuple_list p p'.isList hu0
    | tup es =>
      obtain ⟨b, ys, rfl, hq', hl'⟩ := hy
      obtain rfl : v = Value.ref b := ry
      obtain ⟨its', rv', p', _⟩ := I.tuple hq'
      have p' : s.heap.IsTuple b its'.toArray := p'
      have he := items_at (A := A.in1) (s := s) hl rv hl' rv' (fun d e x y u v ⟨j, hj⟩ r1 r2 s1 s2 => (I.eq_sh 100 A.in1 d e x y u v (Nat.le_trans (depL_le hj) hdd) (by show A.units + 1 + 100 < cLine; omega) r1 r2 s1 s2).2)
      have rc := RcNeAt.tuples p p' hu0 he
      have l1 := hl.length
      have l2 := rv.length
      have l3 := hl'.length
      have l4 := rv'.length
      rw [List.size_toArray, List.size_toArray, ← l2, ← l4, ← l1, ← l3, eqL_all] at rc
      unfold eqD
      exact rc
  | lst ds =>
    have hdd : depL ds ≤ 100 := by unfold dep at hd; omega
    obtain ⟨a, xs, rfl, hq, hl⟩ := hx
    obtain rfl : u = Value.ref a := rx
    obtain ⟨its, rv, p, _⟩ := I.list hq
    have p := p.isList
    cases e with
    | non => obtain rfl : y = .non := hy; obtain rfl : v = Value.none := ry; unfold eqD; exact RcNeAt.list_none p hu0
    | bl b => obtain rfl : y = .bl b := hy; obtain rfl : v = Value.bool b := ry; unfold eqD; exact RcNeAt.list_bool b p hu0
    | int b => obtain rfl : y = .int b := hy; obtain ⟨t, rfl⟩ := ry; unfold eqD; exact RcNeAt.list_int b t p hu0
    | str b => obtain rfl : y = .str b := hy; obtain ⟨t, rfl⟩ := ry; unfold eqD; exact RcNeAt.list_str b t p hu0
    | tup es => obtain ⟨b, ys, rfl, hq', _⟩ := hy; obtain rfl : v = Value.ref b := ry; obtain ⟨its', _, p', _⟩ := I.tuple hq'; unfold eqD; exact RcNeAt.list_tuple p (show s.heap.IsTuple b its'.toArray from p') hu0
    | lst es =>
      obtain ⟨b, ys, rfl, hq', hl'⟩ := hy
      obtain rfl : v = Value.ref b := ry
      obtain ⟨its', rv', p', _⟩ := I.list hq'
      have p' := p'.isList
      have l1 := hl.length
      have l2 := rv.length
      have l3 := hl'.length
      have l4 := rv'.length
      unfold eqD
      by_cases hz : ds.length = es.length
      · have he := items_at (A := A.in1) (s := s) hl rv hl' rv' (fun d e x y u v ⟨j, hj⟩ r1 r2 s1 s2 => (I.eq_sh 100 A.in1 d e x y u v (Nat.le_trans (depL_le hj) hdd) (by show A.units + 1 + 100 < cLine; omega) r1 r2 s1 s2).2)
        have rc := RcNeAt.lists p p' (by rw [List.size_toArray, List.size_toArray]; omega) hu0 he
        rw [List.size_toArray, ← l2, ← l1] at rc
        have q := eqL_all ds es
        rw [← hz, Nat.min_self, beq_self_eq_true, Bool.and_true] at q
        rw [← q]
        exact rc
      · have q : eqL ds es = false := by
          cases q : eqL ds es with
          | false => rfl
          | true => exact absurd (eqL_length q) hz
        rw [q]
        exact RcNeAt.lists_lengths p p' (by rw [List.size_toArray, List.size_toArray]; simp; omega) hu0
def rNeD (K : PySem.W.Frag) : R2 := fun x y H Q => ∃ d e, dep d ≤ 100 ∧ Sh K H d x ∧ Sh K H e y ∧ Q (.bl (!eqD d e)) H
theorem op_neD (hu : X.A.units + 101 < cLine) : OpR X (compareOp .NotEq) (rNeD X.K) := by
  intro pins s σ H x y v u Q I rx ry ⟨d, e, hd, hx, hy, q⟩
  exact (I.ne_sh d e x y v u hd hu rx ry hx hy) X.prog X.w X.xe _ ⟨.bl _, H, I, rfl, q⟩
def isiD : Dt → String → Bool
  | .non, _ => false
  | .bl _, T => T == "bool" || T == "int"
  | .int _, T => T == "int"
  | .str _, T => T == "str"
  | .tup _, T => T == "tuple"
  | .lst _, T => T == "list"
def rIsi (K : PySem.W.Frag) : List V → Hp → VK → Prop := fun vs H Q => ∃ x d T, vs = [x, .ty T] ∧ (T = "int" ∨ T = "bool" ∨ T = "tuple" ∨ T = "list" ∨ T = "str") ∧ Sh K H d x ∧ Q (.bl (isiD d T)) H
theorem call_isi : CallR X (.builtin "isinstance") (rIsi X.K) := by
  intro pins s σ H xs us Q I r ⟨x, d, T, e, hT, hx, q⟩
  subst e
  obtain ⟨u, w', rfl, rx, rt⟩ := r.two
  obtain rfl : w' = Value.type T := rt
  have fin : ∀ (b : Bool) (t : Nat), isiD d T = b → EP X pins σ Q (.bool b) { s with toks := t } := fun b t e => ⟨.bl b, H, I.tok t, rfl, by rw [← e]; exact q⟩
  have fin0 : ∀ (b : Bool), isiD d T = b → EP X pins σ Q (.bool b) s := fun b e => ⟨.bl b, H, I, rfl, by rw [← e]; exact q⟩
  cases d with
  | non =>
    obtain rfl : x = .non := hx
    obtain rfl : u = Value.none := rx
    rcases hT with rfl | rfl | rfl | rfl | rfl
    · exact IsiPair.NoneType_int (fin _ _ rfl)
    · exact IsiPair.NoneType_bool (fin _ _ rfl)
    · exact IsiPair.NoneType_tuple (fin _ _ rfl)
    · exact IsiPair.NoneType_list (fin _ _ rfl)
    · exact IsiPair.NoneType_str (fin _ _ rfl)
  | bl b =>
    obtain rfl : x = .bl b := hx
    obtain rfl : u = Value.bool b := rx
    rcases hT with rfl | rfl | rfl | rfl | rfl
    · exact IsiPair.bool_int (fin0 _ rfl)
    · exact IsiPair.bool_bool (fin0 _ rfl)
    · exact IsiPair.bool_tuple (fin _ _ rfl)
    · exact IsiPair.bool_list (fin _ _ rfl)
    · exact IsiPair.bool_str (fin _ _ rfl)
  | int b =>
    obtain rfl : x = .int b := hx
    obtain ⟨t, rfl⟩ := rx
    rcases hT with rfl | rfl | rfl | rfl | rfl
    · exact IsiPair.int_int (fin0 _ rfl)
    · exact IsiPair.int_bool (fin _ _ rfl)
    · exact IsiPair.int_tuple (fin _ _ rfl)
    · exact IsiPair.int_list (fin _ _ rfl)
    · exact IsiPair.int_str (fin _ _ rfl)
  | str b =>
    obtain rfl : x = .str b := hx
    obtain ⟨t, rfl⟩ := rx
    rcases hT with rfl | rfl | rfl | rfl | rfl
    · exact IsiPair.str_int (fin _ _ rfl)
    · exact IsiPair.str_bool (fin _ _ rfl)
    · exact IsiPair.str_tuple (fin _ _ rfl)
    · exact IsiPair.str_list (fin _ _ rfl)
    · exact IsiPair.str_str (fin0 _ rfl)
  | tup ds =>
    obtain ⟨a, ys, rfl, hq, _⟩ := hx
    obtain rfl : u = Value.ref a := rx
    obtain ⟨its, _, ⟨o, ho, hc, _⟩, _⟩ := I.tuple hq
    rcases hT with rfl | rfl | rfl | rfl | rfl
    · exact IsiPair.tuple_int ho hc (fin _ _ rfl)
    · exact IsiPair.tuple_bool ho hc (fin _ _ rfl)
    · exact IsiPair.tuple_tuple ho hc (fin0 _ rfl)
    · exact IsiPair.tuple_list ho hc (fin _ _ rfl)
    · exact IsiPair.tuple_str ho hc (fin _ _ rfl)
  | lst ds =>
    obtain ⟨a, ys, rfl, hq, _⟩ := hx
    obtain rfl : u = Value.ref a := rx
    obtain ⟨its, _, p, _⟩ := I.list hq
    obtain ⟨o, ho, hc, _⟩ := p.isList
    rcases hT with rfl | rfl | rfl | rfl | rfl
    · exact IsiPair.list_int ho hc (fin _ _ rfl)
    · exact IsiPair.list_bool ho hc (fin _ _ rfl)
    · exact IsiPair.list_tuple ho hc (fin _ _ rfl)
    · exact IsiPair.list_list ho hc (fin0 _ rfl)
    · exact IsiPair.list_str ho hc (fin _ _ rfl)
theorem walks_tuple {prog : Program} {w : World} {A : Around} (hh : A.handled = none) (It ax : Addr) (hne : ax ≠ It) (items : Array Value) :
    Walks prog w A It [It, ax] [It] items.size (fun i v => items[i]? = some v) (fun i h => h.IsTupleIter It ax i ∧ h.IsTuple ax items) where
  sub := fun b hb => by simp at hb; simp [hb]
  frame := fun _ _ _ st hk => ⟨st.1.at fun o e => hk It (by simp) o e, let ⟨o, e, r⟩ := st.2; ⟨o, hk ax (by simp) o e, r⟩⟩
  item := fun i s Q E hi st hQ => by
    refine wpAny_pyNext_tuple_item st.1 st.2 (x := items[i]) (by simp [hi]) fun h' hit' hs' => ?_
    refine hQ _ h' s.toks (by simp [hi]) ⟨hit', ?_⟩ fun b o hb e => hs'.extBut b o (fun h => hb (by simp [h])) e
    obtain ⟨o, e, r⟩ := st.2
    exact ⟨o, hs'.extBut _ _ hne e, r⟩
  done := fun s Q E st hQ => wpAny_pyNext_tuple_end hh st.1 st.2 (by simp) fun h' he' => hQ h' s.toks fun b o hb e => he' b o (fun h => hb (by simp [h])) e
  self := fun _ _ _ _ st hQ => wpAny_pyIter_tupleiter st.1 hQ
def Sq (K : PySem.W.Frag) (H : Hp) (a : Addr) (xs : List V) : Prop := SqL K H a xs ∨ SqT K H a xs
theorem seq_walk {A : Around} {a : Addr} {xs : List V} {Q : Value → Shared → Prop} {E : Value → Shared → Prop} (hh : A.handled = none) (I : Inv X pins σ H s) (h : Sq X.K H a xs)
    (hq : ∀ (its : List Value) (It : Addr) (fp wr : List Addr) (S : Nat → Heap → Prop) (s2 : Shared), Vals xs its → xs.length ≤ sizeLine → Walks X.prog X.w A It fp wr its.length (fun i v => its[i]? = some v) S → S 0 s2.heap → (∀ b ∈ fp, b < s2.heap.objs.size) →
      (∀ h' tk, (∀ b o, b ∉ wr → s2.heap.get? b = some o → h'.get? b = some o) → Inv X pins σ H { s2 with heap := h', toks := tk }) → Q (.ref It) s2) : wpAny (model X.prog X.w) A (pyIter (.ref a)) Q E s := by
  rcases h with h | h
  · obtain ⟨its, rv, p, hz⟩ := I.list h
    refine wpAny_pyIter_list p.isList ?_
    have ha : a < s.heap.objs.size := by obtain ⟨o, e, _⟩ := p.isList; exact Heap.lt_size e
    refine hq its s.heap.objs.size [s.heap.objs.size, a] [s.heap.objs.size] (fun i h => h.IsListIter s.heap.objs.size a i ∧ h.IsList a its.toArray) _ rv hz (by simpa using Walks.list (prog := X.prog) (w := X.w) hh s.heap.objs.size a (Nat.ne_of_lt ha) its.toArray) ⟨⟨_, Heap.get?_push_size _ rfl, rfl, rfl⟩, ?_⟩ (fun b hb => ?_) fun h' tk hk => ?_
    · obtain ⟨o, e, r⟩ := p.isList
      exact ⟨o, Heap.get?_push_of_some _ e, r⟩
    · simp at hb
      show b < (s.heap.push _).objs.size
      rw [Heap.size_push]
      rcases hb with rfl | rfl
      · exact Nat.lt_succ_self _
      · exact Nat.lt_succ_of_lt ha
    · exact I.kept fun b o e => hk b o (by simpa using Nat.ne_of_lt (Heap.lt_size e)) (Heap.get?_push_of_some _ e)
  · obtain ⟨its, rv, p, hz⟩ := I.tuple h
    have p : s.heap.IsTuple a its.toArray := p
    refine wpAny_pyIter_tuple p ?_
    have ha : a < s.heap.objs.size := by obtain ⟨o, e, _⟩ := p; exact Heap.lt_size e
    refine hq its s.heap.objs.size [s.heap.objs.size, a] [s.heap.objs.size] (fun i h => h.IsTupleIter s.heap.objs.size a i ∧ h.IsTuple a its.toArray) _ rv hz (by simpa using walks_tuple (prog := X.prog) (w := X.w) hh s.heap.objs.size a (Nat.ne_of_lt ha) its.toArray) ⟨⟨_, Heap.get?_push_size _ rfl, rfl, rfl⟩, ?_⟩ (fun b hb => ?_) fun h' tk hk => ?_
    · obtain ⟨o, e, r⟩ := p
      exact ⟨o, Heap.get?_push_of_some _ e, r⟩
    · simp at hb
      show b < (s.heap.push _).objs.size
      rw [Heap.size_push]
      rcases hb with rfl | rfl
      · exact Nat.lt_succ_self _
      · exact Nat.lt_succ_of_lt ha
    · exact I.kept fun b o e => hk b o (by simpa using Nat.ne_of_lt (Heap.lt_size e)) (Heap.get?_push_of_some _ e)
theorem Vals.getR : ∀ {xs : List V} {us : List Value} {i : Nat} {u : Value}, Vals xs us → us[i]? = some u → ∃ x, xs[i]? = some x ∧ RelV x u
  | _, _, _, _, .nil, e => by simp at e
  | _, _, 0, _, .cons r _, e => by simp at e; subst e; exact ⟨_, rfl, r⟩
  | _, _, i + 1, u, .cons _ t, e => by
    obtain ⟨x, h1, h2⟩ := Vals.getR (i := i) (u := u) t (by simpa using e)
    exact ⟨x, by simpa using h1, h2⟩
theorem call_all (hc : X.calm = true) : CallR X (.builtin "all") (fun vs H Q => ∃ (a : Addr) (bs : List Bool), vs = [.ref a] ∧ Sq X.K H a (bs.map V.bl) ∧ Q (.bl (bs.all id)) H) := by
  intro pins s σ H xs us Q I r ⟨a, bs, e, hq, q⟩
  subst e
  obtain ⟨u, rfl, ru⟩ := r.one
  obtain rfl : u = Value.ref a := ru
  refine call_all_walk (seq_walk (I.ok.hd hc) I hq fun its It fp wr S s2 rv hz W st hf hI => ?_)
  refine ⟨It, fp, wr, its.length, _, S, fun j => bs.getD j false, rfl, W, st, fun i v s' Q' E' hv hQ' => ?_, fun h' tk hk => ?_⟩
  · obtain ⟨x, hx, rx⟩ := rv.getR hv
    rw [List.getElem?_map] at hx
    cases hb : bs[i]? with
    | none => rw [hb] at hx; cases hx
    | some b =>
      rw [hb] at hx
      obtain rfl : V.bl b = x := by simpa using hx
      obtain rfl : v = Value.bool b := rx
      have : bs.getD i false = b := by rw [List.getD_eq_getElem?_getD, hb]; rfl
      have hQ' : Q' (bs.getD i false) s' := hQ'
      rw [this] at hQ'
      exact wpAny_truthy_bool hQ'
  · refine ⟨.bl (bs.all id), H, hI h' tk hk, ?_, q⟩
    show Value.bool _ = Value.bool _
    congr 1
    have hl : its.length = bs.length := by rw [← rv.length, List.length_map]
    rw [hl]
    clear q hq rv hl hz
    induction bs with
    | nil => rfl
    | cons b bs ih => rw [List.length_cons, all_range_succ, List.all_cons]; exact congrArg (fun z => b && z) ih
theorem preSum_list : ∀ (ns : List Int) (k : Nat), k ≤ ns.length → preSum (fun j => ns.getD j 0) k = (ns.take k).sum
  | ns, 0, _ => by simp [preSum]
  | ns, k + 1, h => by
    have e : ns.take (k + 1) = ns.take k ++ [ns[k]] := by
      rw [List.take_add_one, List.getElem?_eq_getElem (by omega)]; rfl
    have g : ns.getD k 0 = ns[k] := by rw [List.getD_eq_getElem?_getD, List.getElem?_eq_getElem (by omega)]; rfl
    rw [preSum, preSum_list ns k (by omega), e, List.sum_append_int, g]
    simp
theorem call_sum (hc : X.calm = true) : CallR X (.builtin "sum") (fun vs H Q => ∃ (a : Addr) (ns : List Int), vs = [.ref a] ∧ Sq X.K H a (ns.map V.int) ∧ Q (.int ns.sum) H) := by
  intro pins s σ H xs us Q I r ⟨a, ns, e, hq, q⟩
  subst e
  obtain ⟨u, rfl, ru⟩ := r.one
  obtain rfl : u = Value.ref a := ru
  refine call_sum_walkG (seq_walk (I.ok.hd hc) I hq fun its It fp wr S s2 rv hz W st hf hI => ?_)
  refine ⟨It, fp, wr, its.length, _, S, fun j => ns.getD j 0, rfl, W, st, hf, fun i v hv => ?_, fun h' tk t' hk => ?_⟩
  · obtain ⟨x, hx, rx⟩ := rv.getR hv
    rw [List.getElem?_map] at hx
    cases hb : ns[i]? with
    | none => rw [hb] at hx; cases hx
    | some b =>
      rw [hb] at hx
      obtain rfl : V.int b = x := by simpa using hx
      obtain ⟨t, rfl⟩ := rx
      exact ⟨t, by show Value.int b t = Value.int (ns.getD i 0) t; rw [List.getD_eq_getElem?_getD, hb]; rfl⟩
  · have hl : its.length = ns.length := by rw [← rv.length, List.length_map]
    refine ⟨.int ns.sum, H, hI h' tk hk, ⟨t', ?_⟩, q⟩
    rw [hl, preSum_list ns ns.length (Nat.le_refl _), List.take_length]
theorem argBest_lt {bt : Nat → Nat → Bool} : ∀ k, argBest bt k ≤ k
  | 0 => Nat.le_refl _
  | k + 1 => by
    unfold argBest
    split
    · exact Nat.le_refl _
    · exact Nat.le_succ_of_le (argBest_lt k)
theorem argBest_least {ns : List Int} : ∀ (k : Nat), ∀ j, j ≤ k → ns.getD (argBest (fun i j => decide (ns.getD i 0 < ns.getD j 0)) k) 0 ≤ ns.getD j 0
  | 0, j, h => by
    have : j = 0 := by omega
    subst this
    exact Int.le_refl _
  | k + 1, j, h => by
    have ih := argBest_least (ns := ns) k
    unfold argBest
    by_cases c : ns.getD (k + 1) 0 < ns.getD (argBest (fun i j => decide (ns.getD i 0 < ns.getD j 0)) k) 0
    · rw [if_pos (decide_eq_true c)]
      by_cases e : j = k + 1
      · subst e; exact Int.le_refl _
      · have := ih j (by omega); omega
    · rw [if_neg (by simpa using c)]
      by_cases e : j = k + 1
      · subst e; omega
      · exact ih j (by omega)
theorem call_min (hc : X.calm = true) : CallR X (.builtin "min") (fun vs H Q => ∃ (a : Addr) (ns : List Int), vs = [.ref a] ∧ Sq X.K H a (ns.map V.int) ∧ ns ≠ [] ∧ ∀ m : Int, m ∈ ns → (∀ k ∈ ns, m ≤ k) → Q (.int m) H) := by
  intro pins s σ H xs us Q I r ⟨a, ns, e, hq, hne, q⟩
  subst e
  obtain ⟨u, rfl, ru⟩ := r.one
  obtain rfl : u = Value.ref a := ru
  refine call_min_walk (seq_walk (I.ok.hd hc) I hq fun its It fp wr S s2 rv hz W st hf hI => ?_)
  have hl : its.length = ns.length := by rw [← rv.length, List.length_map]
  have hpos : 0 < ns.length := List.length_pos_iff.mpr hne
  have item : ∀ (i : Nat) (v : Value), its[i]? = some v → ∃ t, v = .int (ns.getD i 0) t := fun i v hv => by
    obtain ⟨x, hx, rx⟩ := rv.getR hv
    rw [List.getElem?_map] at hx
    cases hb : ns[i]? with
    | none => rw [hb] at hx; cases hx
    | some b =>
      rw [hb] at hx
      obtain rfl : V.int b = x := by simpa using hx
      obtain ⟨t, rfl⟩ := rx
      exact ⟨t, by rw [List.getD_eq_getElem?_getD, hb]; rfl⟩
  refine ⟨It, fp, wr, its.length, _, S, fun i j => decide (ns.getD i 0 < ns.getD j 0), rfl, W, st, hf, by omega, fun i j vi vj s' Q' E' hi hj hQ' => ?_, fun v h' tk hv hk => ?_⟩
  · obtain ⟨t, rfl⟩ := item i vi hi
    obtain ⟨t', rfl⟩ := item j vj hj
    exact (lt_int hQ' : wpAny (model X.prog X.w) X.A.in1 (compareOp .Lt _ _) Q' E' s')
  · obtain ⟨t, rfl⟩ := item _ v hv
    have hb := argBest_lt (bt := fun i j => decide (ns.getD i 0 < ns.getD j 0)) (its.length - 1)
    refine ⟨.int _, H, hI h' tk hk, ⟨t, rfl⟩, q _ ?_ fun k hk => ?_⟩
    · rw [List.getD_eq_getElem?_getD, List.getElem?_eq_getElem (by omega)]
      exact List.getElem_mem _
    · obtain ⟨j, hj, rfl⟩ := List.mem_iff_getElem.mp hk
      have := argBest_least (ns := ns) (its.length - 1) j (by omega)
      rw [List.getD_eq_getElem?_getD (l := ns) (i := j), List.getElem?_eq_getElem hj] at this
      exact this
end
end L2
namespace L2
open PySem PySem.Spec PyProof.Rows
section
variable {X : Cx}
def rCatA (K : PySem.W.Frag) : R2 := fun x y H Q => ∃ a b xs ys, x = .ref a ∧ y = .ref b ∧ SqT K H a xs ∧ SqT K H b ys ∧ xs.length + ys.length ≤ sizeLine ∧
  ∀ p H', ((p = a ∧ H' = H ∧ ys = []) ∨ (p = b ∧ H' = H ∧ xs = []) ∨ (H p = none ∧ H' = upd H p (.tup (xs ++ ys)))) → SqT K H' p (xs ++ ys) → Same H H' → Q (.ref p) H'
theorem same_new {H : Hp} {p : Addr} (h : H p = none) (o : HO) : Same H (upd H p o) := fun b u q => by rw [upd_ne (ne_of_none q h)]; exact q
theorem op_catA : OpR X (binaryOp .Add) (rCatA X.K) := by
  intro pins s σ H x y v u Q I rx ry ⟨a, b, xs, ys, ex, ey, ha, hb, hz, q⟩
  subst ex ey
  obtain rfl : v = Value.ref a := rx
  obtain rfl : u = Value.ref b := ry
  by_cases hx : xs = []
  · obtain ⟨its, r1, p1, _⟩ := I.tuple ha
    obtain ⟨its2, r2, p2, _⟩ := I.tuple hb
    have he : its = [] := r1.nil_iff.mpr hx
    obtain ⟨⟨cls, dd, data, sl⟩, ho, hc, n, hd⟩ := id p1
    obtain ⟨⟨cls2, dd2, data2, sl2⟩, ho2, hc2, n2, hd2⟩ := id p2
    simp only at hc hd hc2 hd2
    subst hc hd hc2 hd2
    refine concat_meets ⟨_, ho, rfl⟩ ⟨_, ho2, rfl⟩ noFill_tuple_add seq_tuple_add PySem.F.slot_tuple_add PySem.F.entry_tuple_add (PySem.F.args_tuple_add_2 _ _)
      (tuple_addW0 a b its.toArray its2.toArray n n2 dd dd2 sl sl2 (by simp [he])) ⟨ho, ho2, ?_⟩
    exact ⟨.ref b, H, I, rfl, q b H (.inr (.inl ⟨rfl, rfl, hx⟩)) (by rw [hx]; exact hb) (Same.refl H)⟩
  · refine op_catT (X := X) pins s σ H (.ref a) (.ref b) (.ref a) (.ref b) Q I rfl rfl ⟨a, b, xs, ys, rfl, rfl, ha, hb, hx, hz, fun hy => ?_, fun hy p hp => ?_⟩
    · exact q a H (.inl ⟨rfl, rfl, hy⟩) (by rw [hy, List.append_nil]; exact ha) (Same.refl H)
    · exact q p _ (.inr (.inr ⟨hp, rfl⟩)) (.of upd_same) (same_new hp _)
def rAddA (K : PySem.W.Frag) : R2 := fun x y H Q => match x, y with
  | .int i, .int j => Q (.int (i + j)) H
  | .str i, .str j => i.length + j.length ≤ sizeLine ∧ Q (.str (i ++ j)) H
  | .ref a, .ref b => rCat (.ref a) (.ref b) H Q ∨ rCatA K (.ref a) (.ref b) H Q
  | _, _ => False
theorem op_addA : OpR X (binaryOp .Add) (rAddA X.K) := by
  intro pins s σ H x y v u Q I rx ry h
  unfold rAddA at h
  split at h
  · exact op_add (X := X) pins s σ H _ _ v u Q I rx ry ⟨_, _, rfl, rfl, h⟩
  · exact op_add_str (X := X) pins s σ H _ _ v u Q I rx ry ⟨_, _, rfl, rfl, h.1, h.2⟩
  · rcases h with h | h
    · exact op_cat (X := X) pins s σ H _ _ v u Q I rx ry h
    · exact op_catA (X := X) pins s σ H _ _ v u Q I rx ry h
  · exact h.elim
def rMulA : R2 := fun x y H Q => match x, y with
  | .int i, .int j => CMul i j ∧ Q (.int (i * j)) H
  | .ref a, .int k => rRep (.ref a) (.int k) H Q
  | _, _ => False
theorem op_mulA : OpR X (binaryOp .Mult) rMulA := by
  intro pins s σ H x y v u Q I rx ry h
  unfold rMulA at h
  split at h
  · exact op_mul (X := X) pins s σ H _ _ v u Q I rx ry ⟨_, _, rfl, rfl, h.1, h.2⟩
  · exact op_rep (X := X) pins s σ H _ _ v u Q I rx ry h
  · exact h.elim
theorem ix_sq : IxR X (fun x y H Q => rIxL X.K x y H Q ∨ rIxT X.K x y H Q) := ix_list.or ix_tup
theorem Vals.of_get : ∀ {xs : List V} {us : List Value}, xs.length = us.length → (∀ (i : Nat) x u, xs[i]? = some x → us[i]? = some u → RelV x u) → Vals xs us
  | [], [], _, _ => .nil
  | [], _ :: _, h, _ => by simp at h
  | _ :: _, [], h, _ => by simp at h
  | x :: xs, u :: us, h, hr => .cons (hr 0 x u rfl rfl) (Vals.of_get (by simpa using h) fun i y w h1 h2 => hr (i + 1) y w (by simpa using h1) (by simpa using h2))
def rngI (lo hi : Int) : List Int := (List.range (hi - lo).toNat).map fun i : Nat => lo + (i : Int)
theorem call_list_rng (hc : X.calm = true) : CallR X (.type "list") (fun vs H Q => ∃ (a : Addr) (lo hi : Int), vs = [.ref a] ∧ H a = some (.rng lo hi) ∧ (-(2 ^ 62) ≤ lo ∧ lo < 2 ^ 62 ∧ -(2 ^ 62) ≤ hi ∧ hi < 2 ^ 62 ∧ hi - lo ≤ 1000000) ∧
    ∀ p, H p = none → Q (.ref p) (upd H p (.lst ((rngI lo hi).map V.int)))) := by
  intro pins s σ H xs us Q I r ⟨a, lo, hi, e, ha, ⟨b1, b2, b3, b4, b5⟩, q⟩
  subst e
  obtain ⟨u, rfl, ru⟩ := r.one
  obtain rfl : u = Value.ref a := ru
  obtain ⟨t, u, v, hr⟩ := I.hok a _ ha
  refine call_list_range (a := lo) (b := hi) (c := 1) (n := (hi - lo).toNat) (I.ok.hd hc) hr (small_one b1 b2 b3 b4) (by rw [rangeSize_one]; split <;> omega) (by omega) fun h' tk acc' c' hk hS hI => ?_
  refine ⟨.ref s.heap.objs.size, _, I.laid (a := s.heap.objs.size) (o := .lst ((rngI lo hi).map V.int)) hk (Nat.le_refl _) ⟨?_, acc'.toList, c', ?_, by simpa using hS⟩, rfl, q _ (I.hok.fresh (Nat.le_refl _))⟩
  · rw [List.length_map]; unfold rngI; rw [List.length_map, List.length_range]
    exact Nat.le_trans (show (hi - lo).toNat ≤ 1000000 by omega) (by decide)
  · refine Vals.of_get ?_ fun i x u hx hu => ?_
    · have el : acc'.toList.length = (hi - lo).toNat := by rw [← hI.1]; simp
      rw [List.length_map, el]; unfold rngI; rw [List.length_map, List.length_range]
    · obtain ⟨t, rfl⟩ := hI.2 i u (by simpa using hu)
      rw [List.getElem?_map] at hx
      unfold rngI at hx
      rw [List.getElem?_map] at hx
      cases hi' : (List.range (hi - lo).toNat)[i]? with
      | none => rw [hi'] at hx; cases hx
      | some j =>
        rw [hi'] at hx
        have : j = i := by
          obtain ⟨h1, h2⟩ := List.getElem?_eq_some_iff.mp hi'
          simpa using h2.symm
        subst this
        obtain rfl : V.int (lo + (j : Int)) = x := by simpa using hx
        exact ⟨t, by rw [Int.mul_one]⟩
theorem call_list_any (hc : X.calm = true) : CallR X (.type "list") (fun vs H Q => (∃ p ys, vs = [.ref p] ∧ (SqL X.K H p ys ∨ SqT X.K H p ys) ∧ ∀ l, H l = none → Q (.ref l) (upd H l (.lst ys))) ∨
    ∃ (a : Addr) (lo hi : Int), vs = [.ref a] ∧ H a = some (.rng lo hi) ∧ (-(2 ^ 62) ≤ lo ∧ lo < 2 ^ 62 ∧ -(2 ^ 62) ≤ hi ∧ hi < 2 ^ 62 ∧ hi - lo ≤ 1000000) ∧ ∀ p, H p = none → Q (.ref p) (upd H p (.lst ((rngI lo hi).map V.int)))) := call_list_of.or (call_list_rng hc)
def iSeq (K : PySem.W.Frag) (tl : TE) : TI := fun σ H R => tl σ H fun x H1 => ∃ a, x = .ref a ∧ (((∃ xs, SqL K H1 a xs) ∧ R (Itl K a) H1) ∨ ((∃ xs, SqT K H1 a xs) ∧ R (Itt K a) H1))
theorem pi_seq {tg l : Expr} {tl : TE} (hl : PE X l tl) : PI X tg l (iSeq X.K tl) := by
  intro pins s σ H R I h
  refine thn (hl pins s σ H _ I h) fun v s1 ⟨x, H1, I1, r1, q1⟩ => ?_
  obtain ⟨a, e, q⟩ := q1
  subst e
  cases r1
  rcases q with ⟨⟨xs, hq⟩, q⟩ | ⟨⟨xs, hq⟩, q⟩
  · obtain ⟨its, rv, p, hz⟩ := I1.list hq
    refine wpAny_pyIter_list p.isList ?_
    refine ⟨s1.heap.objs.size, [s1.heap.objs.size], _, _, H1, rfl, I1.kept (t' := s1.toks) fun b o e => Heap.get?_push_of_some _ e, turn_list a _, ⟨_, Heap.get?_push_size _ rfl, rfl, rfl⟩, fun b hb => ?_, q⟩
    have e : b = s1.heap.objs.size := by simpa using hb
    subst e
    exact I1.fpOk (Nat.le_refl _) (I1.hok.fresh (Nat.le_refl _))
  · obtain ⟨its, rv, p, hz⟩ := I1.tuple hq
    refine wpAny_pyIter_tuple (show s1.heap.IsTuple a its.toArray from p) ?_
    refine ⟨s1.heap.objs.size, [s1.heap.objs.size], _, _, H1, rfl, I1.kept (t' := s1.toks) fun b o e => Heap.get?_push_of_some _ e, turn_tuple a _, ⟨_, Heap.get?_push_size _ rfl, rfl, rfl⟩, fun b hb => ?_, q⟩
    have e : b = s1.heap.objs.size := by simpa using hb
    subst e
    exact I1.fpOk (Nat.le_refl _) (I1.hok.fresh (Nat.le_refl _))
end
structure Def (P : Program) (w : World) (K : PySem.W.Frag) (mg : Str → Option Value) (base : Heap) (x : Str) (k : Nat) (ps : List Str) (sp : Sp) : Prop where
  ex : ∃ (f : Addr) (fd : FuncData), FnOk P w K mg base CX0 k f fd ps sp ∧ mg x = some (.ref f) ∧ PySem.W.keepIn K (.ref f) = true ∧ Binds K fd ps []
theorem Def.mono {P : Program} {w : World} {K : PySem.W.Frag} {mg : Str → Option Value} {base : Heap} {x : Str} {j k : Nat} {ps : List Str} {sp : Sp} (D : Def P w K mg base x j ps sp) (h : j ≤ k) : Def P w K mg base x k ps sp := by
  obtain ⟨f, fd, F, r⟩ := D.ex
  exact ⟨f, fd, F.mono h, r⟩
theorem pe_def {X : Cx} {x : Str} {k : Nat} {ps : List Str} {sp : Sp} {p pos : Pos} {e : Expr} {es : List Expr} {t : TA} (D : Def X.prog X.w X.K X.mg X.base x k ps sp) (hr : Room k X.A) (hg : Gl X x) (ha : PA X (e :: es) t)
    (hdb : (x == ("__debug__" : Str)) = false := by decide) (he : starEach (e :: es) X.env = (false, eval e X.env) :: starEach es X.env := by rfl) (hpl : (backTo pos (starEach es X.env)).any (·.1) = false := by rfl) :
    PE X (.Call (.Name x p) (e :: es) [] pos) (tCall sp [] E0 t) := by
  obtain ⟨f, fd, F, hm, hk, hb⟩ := D.ex
  exact pe_call F hr hg hm hk hb .nil pass0 ha hdb he hpl
end L2
namespace L2
open PySem PySem.Spec PyProof.Rows
def SameX (acc : Addr) (H H' : Hp) : Prop := ∀ b o, b ≠ acc → H b = some o → H' b = some o
theorem SameX.refl (acc : Addr) (H : Hp) : SameX acc H H := fun _ _ _ h => h
theorem SameX.trans {acc : Addr} {H H1 H2 : Hp} (a : SameX acc H H1) (b : SameX acc H1 H2) : SameX acc H H2 := fun c o n h => b c o n (a c o n h)
theorem Same.x {acc : Addr} {H H' : Hp} (e : Same H H') : SameX acc H H' := fun b o _ h => e b o h
theorem SameX.put {acc : Addr} {H : Hp} (o : HO) : SameX acc H (upd H acc o) := fun b u n h => by rw [upd_ne n]; exact h
def Agree (vars : List Nat) (σ σ' : St) : Prop := ∀ k, k ∉ vars → σ'[k]? = σ[k]?
theorem Agree.refl (vars : List Nat) (σ : St) : Agree vars σ σ := fun _ _ => rfl
theorem Agree.trans {vars : List Nat} {σ σ1 σ2 : St} (a : Agree vars σ σ1) (b : Agree vars σ1 σ2) : Agree vars σ σ2 := fun k h => (b k h).trans (a k h)
theorem Agree.set {vars : List Nat} {σ : St} {j : Nat} (h : j ∈ vars) (v : Option V) : Agree vars σ (σ.set j v) := fun k hk => List.getElem?_set_ne (fun e : j = k => hk (by rw [← e]; exact h))
theorem set_at {σ : St} {j : Nat} {v : Option V} (h : j < σ.length) : (σ.set j v)[j]? = some v := List.getElem?_set_self h
def Emits (vars : List Nat) (tb : TS) (acc : Addr) (σ : St) (H : Hp) (L : List V) : Prop :=
  ∀ (D : Ends) (pre : List V), H acc = some (.lst pre) → pre.length + L.length ≤ 1000000 → (∀ σ' H', σ'.length = σ.length → Agree vars σ σ' → SameX acc H H' → H' acc = some (.lst (pre ++ L)) → D.nx σ' H') → tb D σ H
theorem emits_one {vars : List Nat} {te : TE} {acc : Addr} {σ : St} {H : Hp} {x : V} (h : ∀ Q : VK, (∀ H', Same H H' → Q x H') → te σ H Q) : Emits vars (tEmit te acc) acc σ H [x] := by
  intro D pre ha hz hd
  refine h _ fun H' e => ⟨pre, e _ _ ha, ?_, hd σ _ rfl (Agree.refl _ _) (e.x.trans (SameX.put _)) upd_same⟩
  exact Nat.lt_of_le_of_lt (show pre.length ≤ 1000000 by simp at hz; omega) (by decide)
theorem emits_if {vars : List Nat} {tc : TT} {tb : TS} {acc : Addr} {σ : St} {H : Hp} {c : Bool} {L : List V} (hne : ∀ pre, H acc = some (.lst pre) → True) (h : ∀ Q : Bool → Hp → Prop, (∀ H', Same H H' → Q c H') → tc σ H Q) (hb : c = true → ∀ H', Same H H' → Emits vars tb acc σ H' L) :
    Emits vars (tTests [tc] tb) acc σ H (if c = true then L else []) := by
  intro D pre ha hz hd
  refine h _ fun H' e => ?_
  cases c with
  | true =>
    refine iteT (hb rfl H' e D pre (e _ _ ha) hz fun σ' H2 hl ag sx h2 => hd σ' H2 hl ag (e.x.trans sx) h2)
  | false => exact iteF (hd σ H' rfl (Agree.refl _ _) e.x (by rw [if_neg Bool.false_ne_true, List.append_nil]; exact e _ _ ha))
theorem flatMap_range_succ {α : Type} (f : Nat → List α) (i : Nat) : (List.range (i + 1)).flatMap f = (List.range i).flatMap f ++ f i := by
  rw [List.range_succ, List.flatMap_append]
  simp
theorem flatMap_range_le {α : Type} (f : Nat → List α) {i n : Nat} (h : i ≤ n) : ((List.range i).flatMap f).length ≤ ((List.range n).flatMap f).length := by
  induction h with
  | refl => exact Nat.le_refl _
  | step _ ih => rw [flatMap_range_succ, List.length_append]; omega
theorem loop_range {vars : List Nat} {tb : TS} {acc : Addr} {σ : St} {H : Hp} {lo : Int} {n j : Nat} {L : Nat → List V} (hj : j ∈ vars) (hjl : j < σ.length)
    (h : ∀ i σ' H', i < n → σ'.length = σ.length → Agree vars σ σ' → σ'[j]? = some (some (.int (lo + (i : Int)))) → SameX acc H H' → (∃ pre, H' acc = some (.lst pre)) → Emits vars tb acc σ' H' (L i)) :
    Emits vars (tLoop (Itr lo n) (gName j) tb) acc σ H ((List.range n).flatMap L) := by
  intro D pre ha hz hd
  refine for_range (lo := lo) (n := n) (g := gName j) (D := D) (fun i σ' H' => i ≤ n ∧ σ'.length = σ.length ∧ Agree vars σ σ' ∧ SameX acc H H' ∧ H' acc = some (.lst (pre ++ (List.range i).flatMap L))) ⟨Nat.zero_le _, rfl, Agree.refl _ _, SameX.refl _ _, by simpa using ha⟩ (fun i σ1 H1 hi ⟨_, hl1, ag1, sx1, h1⟩ => ?_) fun σ1 H1 ⟨_, hl1, ag1, sx1, h1⟩ => hd σ1 H1 hl1 ag1 sx1 h1
  have hle := flatMap_range_le L (show i + 1 ≤ n from hi)
  rw [flatMap_range_succ, List.length_append] at hle
  have fin : ∀ σ' H', σ'.length = σ1.length → Agree vars (σ1.set j (some (.int (lo + (i : Int))))) σ' → SameX acc H1 H' → H' acc = some (.lst ((pre ++ (List.range i).flatMap L) ++ L i)) →
      (i + 1 ≤ n ∧ σ'.length = σ.length ∧ Agree vars σ σ' ∧ SameX acc H H' ∧ H' acc = some (.lst (pre ++ (List.range (i + 1)).flatMap L))) := fun σ' H' hl ag sx h2 =>
    ⟨hi, hl.trans hl1, (ag1.trans (Agree.set hj _)).trans ag, sx1.trans sx, by rw [h2, flatMap_range_succ, List.append_assoc]⟩
  refine h i (σ1.set j (some (.int (lo + (i : Int))))) H1 hi (by rw [List.length_set]; exact hl1) (ag1.trans (Agree.set hj _)) (set_at (by omega)) sx1 ⟨_, h1⟩ _ _ h1 (by rw [List.length_append]; omega) fun σ' H' hl ag sx h2 => fin σ' H' (hl.trans (List.length_set ..)) ag sx h2
theorem loop_list {K : PySem.W.Frag} {vars : List Nat} {tb : TS} {acc a : Addr} {σ : St} {H : Hp} {xs : List V} {j : Nat} {L : Nat → List V} (hj : j ∈ vars) (hjl : j < σ.length) (hs : ∀ H', SameX acc H H' → SqL K H' a xs)
    (h : ∀ i x σ' H', xs[i]? = some x → σ'.length = σ.length → Agree vars σ σ' → σ'[j]? = some (some x) → SameX acc H H' → (∃ pre, H' acc = some (.lst pre)) → Emits vars tb acc σ' H' (L i)) :
    Emits vars (tLoop (Itl K a) (gName j) tb) acc σ H ((List.range xs.length).flatMap L) := by
  intro D pre ha hz hd
  refine for_list (K := K) (a := a) (xs := xs) (g := gName j) (D := D) (fun i σ' H' => i ≤ xs.length ∧ σ'.length = σ.length ∧ Agree vars σ σ' ∧ SameX acc H H' ∧ H' acc = some (.lst (pre ++ (List.range i).flatMap L))) ⟨Nat.zero_le _, rfl, Agree.refl _ _, SameX.refl _ _, by simpa using ha⟩ (fun i σ1 H1 _ ⟨_, _, _, sx1, _⟩ => hs H1 sx1) (fun i x σ1 H1 hx ⟨_, hl1, ag1, sx1, h1⟩ => ?_) fun σ1 H1 ⟨_, hl1, ag1, sx1, h1⟩ => hd σ1 H1 hl1 ag1 sx1 h1
  have hi : i < xs.length := (List.getElem?_eq_some_iff.mp hx).1
  have hle := flatMap_range_le L (show i + 1 ≤ xs.length from hi)
  rw [flatMap_range_succ, List.length_append] at hle
  have fin : ∀ σ' H', σ'.length = σ1.length → Agree vars (σ1.set j (some x)) σ' → SameX acc H1 H' → H' acc = some (.lst ((pre ++ (List.range i).flatMap L) ++ L i)) →
      (i + 1 ≤ xs.length ∧ σ'.length = σ.length ∧ Agree vars σ σ' ∧ SameX acc H H' ∧ H' acc = some (.lst (pre ++ (List.range (i + 1)).flatMap L))) := fun σ' H' hl ag sx h2 =>
    ⟨hi, hl.trans hl1, (ag1.trans (Agree.set hj _)).trans ag, sx1.trans sx, by rw [h2, flatMap_range_succ, List.append_assoc]⟩
  refine h i x (σ1.set j (some x)) H1 hx (by rw [List.length_set]; exact hl1) (ag1.trans (Agree.set hj _)) (set_at (by omega)) sx1 ⟨_, h1⟩ _ _ h1 (by rw [List.length_append]; omega) fun σ' H' hl ag sx h2 => fin σ' H' (hl.trans (List.length_set ..)) ag sx h2
end L2
namespace L2
open PySem PySem.Spec PyProof.Rows
theorem bt_len : bootBuiltins "len" = some (.builtin "len") := by decide +kernel
theorem bt_all : bootBuiltins "all" = some (.builtin "all") := by decide +kernel
theorem bt_min : bootBuiltins "min" = some (.builtin "min") := by decide +kernel
theorem bt_max : bootBuiltins "max" = some (.builtin "max") := by decide +kernel
theorem bt_sum : bootBuiltins "sum" = some (.builtin "sum") := by decide +kernel
theorem bt_isi : bootBuiltins "isinstance" = some (.builtin "isinstance") := by decide +kernel
theorem bt_sorted : bootBuiltins "sorted" = some (.builtin "sorted") := by decide +kernel
theorem bt_tuple : bootBuiltins "tuple" = some (.type "tuple") := by decide +kernel
theorem bt_list : bootBuiltins "list" = some (.type "list") := by decide +kernel
theorem bt_int : bootBuiltins "int" = some (.type "int") := by decide +kernel
theorem bt_bool : bootBuiltins "bool" = some (.type "bool") := by decide +kernel
structure Blt (mg : Str → Option Value) : Prop where
  len : mg "len" = none
  all : mg "all" = none
  min : mg "min" = none
  max : mg "max" = none
  sum : mg "sum" = none
  isi : mg "isinstance" = none
  sorted : mg "sorted" = none
  tuple : mg "tuple" = none
  list : mg "list" = none
  range : mg "range" = none
  int : mg "int" = none
  bool : mg "bool" = none
end L2
namespace L2
open PySem
theorem hu100 {A : Around} {k : Nat} (hr : Room k A) : A.units + 100 < cLine := by have := hr.un; omega
theorem hu101 {A : Around} {k : Nat} (hr : Room k A) : A.units + 101 < cLine := by have := hr.un; omega
end L2
namespace L2
open PySem PySem.Spec PyProof.Rows
section
variable {X : Cx} {K : PySem.W.Frag}
theorem ix_sqK (hK : X.K = K) : IxR X (fun x y H Q => rIxL K x y H Q ∨ rIxT K x y H Q) := by subst hK; exact ix_sq
theorem op_addK (hK : X.K = K) : OpR X (binaryOp .Add) (rAddA K) := by subst hK; exact op_addA
theorem op_eqK {k : Nat} (hK : X.K = K) (hr : Room k X.A) : OpR X (compareOp .Eq) (rEqD K) := by subst hK; exact op_eqD (hu100 hr)
theorem op_neK {k : Nat} (hK : X.K = K) (hr : Room k X.A) : OpR X (compareOp .NotEq) (rNeD K) := by subst hK; exact op_neD (hu101 hr)
theorem op_notInK (hK : X.K = K) : OpR X (compareOp .NotIn) (rIn K true) := by subst hK; exact op_notIn_seq
theorem call_isiK (hK : X.K = K) : CallR X (.builtin "isinstance") (rIsi K) := by subst hK; exact call_isi
def rLen (K : PySem.W.Frag) : List V → Hp → VK → Prop := fun xs H Q => ∃ p ys, xs = [.ref p] ∧ (SqL K H p ys ∨ SqT K H p ys) ∧ Q (.int ys.length) H
theorem call_lenK (hK : X.K = K) : CallR X (.builtin "len") (rLen K) := by subst hK; exact call_len_seq
def rAll (K : PySem.W.Frag) : List V → Hp → VK → Prop := fun vs H Q => ∃ (a : Addr) (bs : List Bool), vs = [.ref a] ∧ Sq K H a (bs.map V.bl) ∧ Q (.bl (bs.all id)) H
theorem call_allK (hK : X.K = K) (hc : X.calm = true) : CallR X (.builtin "all") (rAll K) := by subst hK; exact call_all hc
def rSum (K : PySem.W.Frag) : List V → Hp → VK → Prop := fun vs H Q => ∃ (a : Addr) (ns : List Int), vs = [.ref a] ∧ Sq K H a (ns.map V.int) ∧ Q (.int ns.sum) H
theorem call_sumK (hK : X.K = K) (hc : X.calm = true) : CallR X (.builtin "sum") (rSum K) := by subst hK; exact call_sum hc
def rMin (K : PySem.W.Frag) : List V → Hp → VK → Prop := fun vs H Q => ∃ (a : Addr) (ns : List Int), vs = [.ref a] ∧ Sq K H a (ns.map V.int) ∧ ns ≠ [] ∧ ∀ m : Int, m ∈ ns → (∀ k ∈ ns, m ≤ k) → Q (.int m) H
theorem call_minK (hK : X.K = K) (hc : X.calm = true) : CallR X (.builtin "min") (rMin K) := by subst hK; exact call_min hc
def rMax2 : List V → Hp → VK → Prop := fun xs H Q => ∃ i j : Int, xs = [.int i, .int j] ∧ Q (.int (if j > i then j else i)) H
theorem call_max2K (hc : X.calm = true) : CallR X (.builtin "max") rMax2 := call_max2 hc
def rTuple (K : PySem.W.Frag) : List V → Hp → VK → Prop := fun xs H Q => ∃ p ys, xs = [.ref p] ∧ ((SqL K H p ys ∧ ∀ l, H l = none → Q (.ref l) (upd H l (.tup ys))) ∨ (SqT K H p ys ∧ Q (.ref p) H))
theorem call_tupleK (hK : X.K = K) : CallR X (.type "tuple") (rTuple K) := by subst hK; exact call_tuple_of
def rList (K : PySem.W.Frag) : List V → Hp → VK → Prop := fun vs H Q => (∃ p ys, vs = [.ref p] ∧ (SqL K H p ys ∨ SqT K H p ys) ∧ ∀ l, H l = none → Q (.ref l) (upd H l (.lst ys))) ∨
    ∃ (a : Addr) (lo hi : Int), vs = [.ref a] ∧ H a = some (.rng lo hi) ∧ (-(2 ^ 62) ≤ lo ∧ lo < 2 ^ 62 ∧ -(2 ^ 62) ≤ hi ∧ hi < 2 ^ 62 ∧ hi - lo ≤ 1000000) ∧ ∀ p, H p = none → Q (.ref p) (upd H p (.lst ((rngI lo hi).map V.int)))
theorem call_listK (hK : X.K = K) (hc : X.calm = true) : CallR X (.type "list") (rList K) := by subst hK; exact call_list_any hc
theorem pi_seqK {tg l : Expr} {tl : TE} (hK : X.K = K) (hl : PE X l tl) : PI X tg l (iSeq K tl) := by subst hK; exact pi_seq hl
theorem pg_tupK {es : List Expr} {k : Nat} {t : TGs} {n : Nat} {pos : Pos} (hK : X.K = K) (hc : X.calm = true) (h : PGs X es t) (hn : (assignEach es X.env).length = n := by rfl) (hst : (assignEach es X.env).findIdx? (·.1) = none := by rfl) : PG X (.Tuple es k pos) (gTup K n t) := by
  subst hK; exact pg_tup hc h hn hst
end
end L2
namespace L2
open PySem PySem.Spec PyProof.Rows
abbrev yLt : R2 := rI0 fun i j => .bl (decide (i < j))
abbrev yLe : R2 := rI0 fun i j => .bl (decide (i ≤ j))
abbrev yGt : R2 := rI0 fun i j => .bl (decide (j < i))
abbrev yGe : R2 := rI0 fun i j => .bl (decide (j ≤ i))
abbrev ySub : R2 := rI0 fun i j => .int (i - j)
abbrev yDiv : R2 := rI CDiv fun i j => .int (i / j)
abbrev yMod : R2 := rI (fun _ j => 0 < j) fun i j => .int (i % j)
abbrev yPow : R2 := rI CPow fun i j => .int (i ^ j.toNat)
abbrev yNeg : V → Hp → VK → Prop := rU fun i => .int (-i)
abbrev rIx2 (K : PySem.W.Frag) : R2 := fun x y H Q => rIxL K x y H Q ∨ rIxT K x y H Q
end L2
namespace L2
open PySem
def tabD (T : List (List Int)) : Dt := .tup (T.map fun r => .tup (r.map .int))
structure Quad (T : List (List Int)) (n : Nat) : Prop where
  len : T.length = n
  row : ∀ r ∈ T, r.length = n
def at2 (T : List (List Int)) (i j : Nat) : Int := (T.getD i []).getD j 0
section
variable {K : PySem.W.Frag} {H : Hp} {T : List (List Int)} {n : Nat}
theorem ShL.rows : ∀ {T : List (List Int)} {rs : List V}, ShL K H (T.map fun r => Dt.tup (r.map Dt.int)) rs → rs.length = T.length ∧ ∀ (i : Nat) (row : List Int), T[i]? = some row → ∃ b, rs[i]? = some (.ref b) ∧ SqT K H b (row.map V.int)
  | [], rs, h => by
    have h : rs = [] := h
    subst h
    exact ⟨rfl, fun i row e => by simp at e⟩
  | r :: T, rs, ⟨x, rr, h1, ⟨b, xs, h2, h3, h4⟩, h5⟩ => by
    obtain ⟨e, g⟩ := ShL.rows h5
    subst h1
    refine ⟨by rw [List.length_cons, List.length_cons, e], fun i row er => ?_⟩
    cases i with
    | zero =>
      have : r = row := by simpa using er
      subst this
      exact ⟨b, by rw [h2]; rfl, by rw [← ShL.of_ints h4]; exact h3⟩
    | succ i => exact g i row (by simpa using er)
theorem Sh.tab {v : V} (h : Sh K H (tabD T) v) : ∃ a rs, v = .ref a ∧ SqT K H a rs ∧ rs.length = T.length ∧ ∀ (i : Nat) (row : List Int), T[i]? = some row → ∃ b, rs[i]? = some (.ref b) ∧ SqT K H b (row.map V.int) := by
  obtain ⟨a, rs, e, hq, hl⟩ := h
  obtain ⟨e2, g⟩ := ShL.rows hl
  exact ⟨a, rs, e, hq, e2, g⟩
theorem ShL.of_rows : ∀ {T : List (List Int)} {rs : List V}, rs.length = T.length → (∀ (i : Nat) (row : List Int), T[i]? = some row → ∃ b, rs[i]? = some (.ref b) ∧ SqT K H b (row.map V.int)) → ShL K H (T.map fun r => Dt.tup (r.map Dt.int)) rs
  | [], rs, h, _ => List.length_eq_zero_iff.mp h
  | r :: T, [], h, _ => by simp at h
  | r :: T, x :: rs, h, g => by
    obtain ⟨b, e, hq⟩ := g 0 r rfl
    have e : x = .ref b := by simpa using e
    exact ⟨x, rs, rfl, ⟨b, _, e, hq, ShL.ints r⟩, ShL.of_rows (by simpa using h) fun i row er => by
      obtain ⟨c, e2, q2⟩ := g (i + 1) row (by simpa using er)
      exact ⟨c, by simpa using e2, q2⟩⟩
theorem Quad.get (q : Quad T n) {i : Nat} (h : i < n) : ∃ row, T[i]? = some row ∧ row.length = n ∧ T.getD i [] = row := by
  have hi : i < T.length := by rw [q.len]; exact h
  refine ⟨T[i], List.getElem?_eq_getElem hi, q.row _ (List.getElem_mem hi), ?_⟩
  rw [List.getD_eq_getElem?_getD, List.getElem?_eq_getElem hi]; rfl
theorem getD_at {xs : List Int} {j : Nat} (h : j < xs.length) : xs[j]? = some (xs.getD j 0) := by
  rw [List.getD_eq_getElem?_getD, List.getElem?_eq_getElem h]; rfl
theorem ixT {p : Addr} {xs : List V} {j : Nat} {v : V} {Q : VK} (h : SqT K H p xs) (hj : xs[j]? = some v) (q : Q v H) : rIx2 K (.ref p) (.int (j : Int)) H Q := .inr ⟨p, xs, j, v, rfl, rfl, h, atI_nat hj, q⟩
theorem ixL {p : Addr} {xs : List V} {j : Nat} {v : V} {Q : VK} (h : SqL K H p xs) (hj : xs[j]? = some v) (q : Q v H) : rIx2 K (.ref p) (.int (j : Int)) H Q := .inl ⟨p, xs, j, v, rfl, rfl, h, atI_nat hj, q⟩
theorem tab_row {v : V} {i : Nat} {Q : VK} (hS : Sh K H (tabD T) v) (hq : Quad T n) (hi : i < n) (q : ∀ b, SqT K H b ((T.getD i []).map V.int) → Q (.ref b) H) : rIx2 K v (.int (i : Int)) H Q := by
  obtain ⟨a, rs, rfl, ha, hl, g⟩ := hS.tab
  obtain ⟨row, e1, e2, e3⟩ := hq.get hi
  obtain ⟨b, hb, hs⟩ := g i row e1
  exact ixT ha hb (q b (by rw [e3]; exact hs))
theorem tab_at {σ : St} {t si sj : Nat} {v : V} {i j : Nat} {Q : VK} (ht : σ[t]? = some (some v)) (hi : σ[si]? = some (some (.int (i : Int)))) (hj : σ[sj]? = some (some (.int (j : Int)))) (hS : Sh K H (tabD T) v) (hq : Quad T n) (li : i < n) (lj : j < n)
    (q : Q (.int (at2 T i j)) H) : tOp (rIx2 K) (tOp (rIx2 K) (tVar t) (tVar si)) (tVar sj) σ H Q := by
  refine ⟨_, ht, _, hi, tab_row hS hq li fun b hb => ⟨_, hj, ixT hb ?_ q⟩⟩
  obtain ⟨row, e1, e2, e3⟩ := hq.get li
  rw [List.getElem?_map, getD_at (by rw [e3]; omega)]
  rfl
end
theorem same_of_x {acc : Addr} {H H2 : Hp} {o : HO} (hacc : H acc = none) (sx : SameX acc (upd H acc o) H2) : Same H H2 := fun b u e => sx b u (ne_of_none e hacc) (by rw [upd_ne (ne_of_none e hacc)]; exact e)
theorem Emits.mono {vars vars' : List Nat} {tb : TS} {acc : Addr} {σ : St} {H : Hp} {L : List V} (h : Emits vars tb acc σ H L) (hs : ∀ k ∈ vars, k ∈ vars') : Emits vars' tb acc σ H L :=
  fun D pre ha hz hd => h D pre ha hz fun σ' H' hl ag sx h2 => hd σ' H' hl (fun k hk => ag k fun z => hk (hs k z)) sx h2
theorem Emits.cast {vars : List Nat} {tb : TS} {acc : Addr} {σ : St} {H : Hp} {L L' : List V} (h : Emits vars tb acc σ H L) (e : L = L') : Emits vars tb acc σ H L' := e ▸ h
theorem comp_emitsD (vars : List Nat) (L : List V) {g : TG} {J : It} {tb : TS} {acc : Addr} {σ : St} {H : Hp} {D : Ends} (ha : H acc = none) (hz : L.length ≤ 1000000) (h : Emits vars (tLoop J g tb) acc σ (upd H acc (.lst [])) L)
    (q : ∀ σ' H', Same H H' → H' acc = some (.lst L) → D.nx σ' H') : tLoop J g tb D σ (upd H acc (.lst [])) :=
  h _ [] upd_same (by simpa using hz) fun σ' H' _ _ sx h2 => q σ' H' (same_of_x ha sx) (by simpa using h2)
end L2
namespace L2
open PySem
section
variable {vars : List Nat} {tb : TS} {acc a : Addr} {σ : St} {H : Hp} {j : Nat} {D : Ends} {K : PySem.W.Frag}
theorem inv_range {lo : Int} {n : Nat} (R : Nat → List V → Hp → Prop) (hj : j ∈ vars) (hjl : j < σ.length) (h0 : R 0 [] (upd H acc (.lst []))) (ha : H acc = none)
    (h : ∀ i σ' H' L (D : Ends), i < n → σ'.length = σ.length → Agree vars σ σ' → σ'[j]? = some (some (.int (lo + (i : Int)))) → Same H H' → H' acc = some (.lst L) → R i L H' →
      (∀ σ'' H'' L', σ''.length = σ.length → Agree vars σ σ'' → Same H H'' → H'' acc = some (.lst L') → R (i + 1) L' H'' → D.nx σ'' H'') → tb D σ' H')
    (q : ∀ σ' H' L, Same H H' → H' acc = some (.lst L) → R n L H' → D.nx σ' H') : tLoop (Itr lo n) (gName j) tb D σ (upd H acc (.lst [])) := by
  refine for_range (lo := lo) (n := n) (g := gName j) (D := D) (fun i σ' H' => i ≤ n ∧ σ'.length = σ.length ∧ Agree vars σ σ' ∧ Same H H' ∧ ∃ L, H' acc = some (.lst L) ∧ R i L H') ⟨Nat.zero_le _, rfl, Agree.refl _ _, same_new ha _, [], upd_same, h0⟩ (fun i σ1 H1 hi ⟨_, hl1, ag1, sx1, L, h1, r1⟩ => ?_) fun σ1 H1 ⟨_, _, _, sm, L, h1, r1⟩ => q σ1 H1 L sm h1 r1
  exact h i (σ1.set j (some (.int (lo + (i : Int))))) H1 L _ hi (by rw [List.length_set]; exact hl1) (ag1.trans (Agree.set hj _)) (set_at (by omega)) sx1 h1 r1 fun σ2 H2 L' hl2 ag2 sm2 h2 r2 => ⟨hi, hl2, ag2, sm2, L', h2, r2⟩
theorem inv_list {xs : List V} (R : Nat → List V → Hp → Prop) (hj : j ∈ vars) (hjl : j < σ.length) (h0 : R 0 [] (upd H acc (.lst []))) (ha : H acc = none) (hs : ∀ i L H', Same H H' → R i L H' → SqL K H' a xs)
    (h : ∀ i x σ' H' L (D : Ends), xs[i]? = some x → σ'.length = σ.length → Agree vars σ σ' → σ'[j]? = some (some x) → Same H H' → H' acc = some (.lst L) → R i L H' →
      (∀ σ'' H'' L', σ''.length = σ.length → Agree vars σ σ'' → Same H H'' → H'' acc = some (.lst L') → R (i + 1) L' H'' → D.nx σ'' H'') → tb D σ' H')
    (q : ∀ σ' H' L, Same H H' → H' acc = some (.lst L) → R xs.length L H' → D.nx σ' H') : tLoop (Itl K a) (gName j) tb D σ (upd H acc (.lst [])) := by
  refine for_list (K := K) (a := a) (xs := xs) (g := gName j) (D := D) (fun i σ' H' => i ≤ xs.length ∧ σ'.length = σ.length ∧ Agree vars σ σ' ∧ Same H H' ∧ ∃ L, H' acc = some (.lst L) ∧ R i L H') ⟨Nat.zero_le _, rfl, Agree.refl _ _, same_new ha _, [], upd_same, h0⟩ (fun i σ1 H1 _ ⟨_, _, _, sm, L, _, r1⟩ => hs i L H1 sm r1) (fun i x σ1 H1 hx ⟨_, hl1, ag1, sx1, L, h1, r1⟩ => ?_) fun σ1 H1 ⟨_, _, _, sm, L, h1, r1⟩ => q σ1 H1 L sm h1 r1
  have hi : i < xs.length := (List.getElem?_eq_some_iff.mp hx).1
  exact h i x (σ1.set j (some x)) H1 L _ hx (by rw [List.length_set]; exact hl1) (ag1.trans (Agree.set hj _)) (set_at (by omega)) sx1 h1 r1 fun σ2 H2 L' hl2 ag2 sm2 h2 r2 => ⟨hi, hl2, ag2, sm2, L', h2, r2⟩
theorem inv_tup {xs : List V} (R : Nat → List V → Hp → Prop) (hj : j ∈ vars) (hjl : j < σ.length) (h0 : R 0 [] (upd H acc (.lst []))) (ha : H acc = none) (hs : SqT K H a xs)
    (h : ∀ i x σ' H' L (D : Ends), xs[i]? = some x → σ'.length = σ.length → Agree vars σ σ' → σ'[j]? = some (some x) → Same H H' → H' acc = some (.lst L) → R i L H' →
      (∀ σ'' H'' L', σ''.length = σ.length → Agree vars σ σ'' → Same H H'' → H'' acc = some (.lst L') → R (i + 1) L' H'' → D.nx σ'' H'') → tb D σ' H')
    (q : ∀ σ' H' L, Same H H' → H' acc = some (.lst L) → R xs.length L H' → D.nx σ' H') : tLoop (Itt K a) (gName j) tb D σ (upd H acc (.lst [])) := by
  refine for_tup (K := K) (a := a) (xs := xs) (g := gName j) (D := D) (fun i σ' H' => i ≤ xs.length ∧ σ'.length = σ.length ∧ Agree vars σ σ' ∧ Same H H' ∧ ∃ L, H' acc = some (.lst L) ∧ R i L H') ⟨Nat.zero_le _, rfl, Agree.refl _ _, same_new ha _, [], upd_same, h0⟩ (fun i σ1 H1 _ ⟨_, _, _, sm, L, _, r1⟩ => sm.tup hs) (fun i x σ1 H1 hx ⟨_, hl1, ag1, sx1, L, h1, r1⟩ => ?_) fun σ1 H1 ⟨_, _, _, sm, L, h1, r1⟩ => q σ1 H1 L sm h1 r1
  have hi : i < xs.length := (List.getElem?_eq_some_iff.mp hx).1
  exact h i x (σ1.set j (some x)) H1 L _ hx (by rw [List.length_set]; exact hl1) (ag1.trans (Agree.set hj _)) (set_at (by omega)) sx1 h1 r1 fun σ2 H2 L' hl2 ag2 sm2 h2 r2 => ⟨hi, hl2, ag2, sm2, L', h2, r2⟩
end
structure Mat (H : Hp) (F : Addr) (ls : List Addr) (M : List (List Int)) : Prop where
  top : H F = some (.lst (ls.map V.ref))
  len : ls.length = M.length
  row : ∀ (i : Nat) (l : Addr) (r : List Int), ls[i]? = some l → M[i]? = some r → H l = some (.lst (r.map V.int))
  nd : ls.Nodup
  out : F ∉ ls
theorem Mat.same {H H' : Hp} {F : Addr} {ls : List Addr} {M : List (List Int)} (m : Mat H F ls M) (e : Same H H') : Mat H' F ls M := ⟨e _ _ m.top, m.len, fun i l r a b => e _ _ (m.row i l r a b), m.nd, m.out⟩
theorem Mat.keep {H H' : Hp} {F : Addr} {ls : List Addr} {M : List (List Int)} (m : Mat H F ls M) (e : ∀ b o, (b = F ∨ b ∈ ls) → H b = some o → H' b = some o) : Mat H' F ls M :=
  ⟨e _ _ (.inl rfl) m.top, m.len, fun i l r a b => e _ _ (.inr (List.mem_of_getElem? a)) (m.row i l r a b), m.nd, m.out⟩
def put2 (M : List (List Int)) (i j : Nat) (v : Int) : List (List Int) := M.set i ((M.getD i []).set j v)
theorem put2_quad {M : List (List Int)} {n i j : Nat} {v : Int} (q : Quad M n) (hi : i < n) : Quad (put2 M i j v) n := by
  refine ⟨by unfold put2; rw [List.length_set]; exact q.len, fun r hr => ?_⟩
  unfold put2 at hr
  rcases List.mem_or_eq_of_mem_set hr with h | h
  · exact q.row r h
  · obtain ⟨row, e1, e2, e3⟩ := q.get hi
    rw [h, List.length_set, e3]; exact e2
theorem put2_at {M : List (List Int)} {n i j : Nat} {v : Int} (q : Quad M n) (hi : i < n) (hj : j < n) (a b : Nat) : at2 (put2 M i j v) a b = if a = i ∧ b = j then v else at2 M a b := by
  obtain ⟨row, e1, e2, e3⟩ := q.get hi
  unfold at2 put2
  by_cases ha : a = i
  · subst ha
    have : (M.set a ((M.getD a []).set j v)).getD a [] = (M.getD a []).set j v := by
      rw [List.getD_eq_getElem?_getD, List.getElem?_set_self (by rw [q.len]; exact hi)]; rfl
    rw [this, e3]
    by_cases hb : b = j
    · subst hb
      rw [if_pos ⟨rfl, rfl⟩, List.getD_eq_getElem?_getD, List.getElem?_set_self (by omega)]; rfl
    · rw [if_neg (fun z => hb z.2), List.getD_eq_getElem?_getD, List.getElem?_set_ne (Ne.symm hb), ← List.getD_eq_getElem?_getD]
  · have : (M.set i ((M.getD i []).set j v)).getD a [] = M.getD a [] := by
      rw [List.getD_eq_getElem?_getD, List.getElem?_set_ne (Ne.symm ha), ← List.getD_eq_getElem?_getD]
    rw [this, if_neg (fun z => ha z.1)]
theorem Mat.at {K : PySem.W.Frag} {H : Hp} {F : Addr} {ls : List Addr} {M : List (List Int)} {n i : Nat} (m : Mat H F ls M) (q : Quad M n) (hi : i < n) : ∃ l, ls[i]? = some l ∧ (ls.map V.ref)[i]? = some (.ref l) ∧ H l = some (.lst ((M.getD i []).map V.int)) := by
  obtain ⟨row, e1, e2, e3⟩ := q.get hi
  have hl : i < ls.length := by rw [m.len, q.len]; exact hi
  refine ⟨ls[i], List.getElem?_eq_getElem hl, by rw [List.getElem?_map, List.getElem?_eq_getElem hl]; rfl, ?_⟩
  rw [e3]
  exact m.row i _ row (List.getElem?_eq_getElem hl) e1
theorem Mat.put {H : Hp} {F : Addr} {ls : List Addr} {M : List (List Int)} {n i j : Nat} {v : Int} {l : Addr} (m : Mat H F ls M) (q : Quad M n) (hi : i < n) (hl : ls[i]? = some l) : Mat (upd H l (.lst (((M.getD i []).set j v).map V.int))) F ls (put2 M i j v) := by
  have hm : l ∈ ls := List.mem_of_getElem? hl
  have hF : F ≠ l := fun e => m.out (e ▸ hm)
  refine ⟨by rw [upd_ne hF]; exact m.top, by unfold put2; rw [List.length_set]; exact m.len, fun a b r h1 h2 => ?_, m.nd, m.out⟩
  by_cases ha : a = i
  · subst ha
    rw [hl] at h1
    cases h1
    rw [upd_same]
    unfold put2 at h2
    rw [List.getElem?_set_self (by rw [q.len]; exact hi)] at h2
    cases h2
    rfl
  · have hne : b ≠ l := by
      intro e
      subst e
      obtain ⟨i1, z1⟩ := List.getElem?_eq_some_iff.mp h1
      obtain ⟨i2, z2⟩ := List.getElem?_eq_some_iff.mp hl
      exact ha ((List.getElem_inj m.nd).mp (z1.trans z2.symm))
    rw [upd_ne hne]
    unfold put2 at h2
    rw [List.getElem?_set_ne (Ne.symm ha)] at h2
    exact m.row a b r h1 h2
theorem mat_at {K : PySem.W.Frag} {H : Hp} {F : Addr} {ls : List Addr} {M : List (List Int)} {n i j t si sj : Nat} {σ : St} {Q : VK} (m : Mat H F ls M) (q : Quad M n) (ht : σ[t]? = some (some (.ref F))) (hi : σ[si]? = some (some (.int (i : Int)))) (hj : σ[sj]? = some (some (.int (j : Int)))) (li : i < n) (lj : j < n)
    (h : Q (.int (at2 M i j)) H) : tOp (rIx2 K) (tOp (rIx2 K) (tVar t) (tVar si)) (tVar sj) σ H Q := by
  obtain ⟨l, h1, h2, h3⟩ := m.at (K := K) q li
  refine ⟨_, ht, _, hi, ixL (.of m.top) h2 ⟨_, hj, ixL (.of h3) ?_ h⟩⟩
  obtain ⟨row, e1, e2, e3⟩ := q.get li
  rw [List.getElem?_map, getD_at (by rw [e3]; omega)]
  rfl
theorem mat_set {K : PySem.W.Frag} {H : Hp} {F : Addr} {ls : List Addr} {M : List (List Int)} {n i j t si sj : Nat} {σ : St} {v : Int} {N : St → Hp → Prop} (m : Mat H F ls M) (q : Quad M n) (ht : σ[t]? = some (some (.ref F))) (hi : σ[si]? = some (some (.int (i : Int)))) (hj : σ[sj]? = some (some (.int (j : Int)))) (li : i < n) (lj : j < n)
    (h : ∀ l H', l ∈ ls → H' = upd H l (.lst (((M.getD i []).set j v).map V.int)) → Mat H' F ls (put2 M i j v) → N σ H') : gSub (tOp (rIx2 K) (tVar t) (tVar si)) (tVar sj) rSetL (.int v) σ H N := by
  obtain ⟨l, h1, h2, h3⟩ := m.at (K := K) q li
  obtain ⟨row, e1, e2, e3⟩ := q.get li
  refine ⟨_, ht, _, hi, ixL (.of m.top) h2 ⟨_, hj, l, _, (j : Int), j, rfl, rfl, h3, ?_, ?_⟩⟩
  rotate_left
  · rw [← List.map_set]
    exact h l _ (List.mem_of_getElem? h1) rfl (m.put q li h1)
  rw [List.length_map, e3, e2]
  unfold ixN
  rw [if_pos (by omega), if_pos (by omega), Int.toNat_natCast]
end L2
namespace L2
open PySem
theorem rd_freeze {K : PySem.W.Frag} {σ : St} {H : Hp} {t n : Nat} {F : Addr} {ls : List Addr} {M : List (List Int)} {Q : VK} (ht : σ[t]? = some (some (.ref F))) (m : Mat H F ls M) (q : Quad M n) (hn : n ≤ 100) (h : ∀ p H', Same H H' → Sh K H' (tabD M) (.ref p) → Q (.ref p) H') :
    tCB (rTuple K) (tCons (tComp [none] (iSeq K (tVar t)) (gName 0) [] fun acc => tEmit (tCB (rTuple K) (tCons (tVar 0) tNil)) acc) tNil) σ H Q := by
  refine ⟨_, ht, F, rfl, .inl ⟨⟨_, .of m.top⟩, fun acc hacc => ?_⟩⟩
  have hlen : (ls.map V.ref).length = n := by rw [List.length_map, m.len, q.len]
  refine inv_list (vars := [0]) (K := K) (a := F) (xs := ls.map V.ref) (fun i L H' => L.length = i ∧ ∀ (j : Nat) (row : List Int), j < i → M[j]? = some row → ∃ b, L[j]? = some (.ref b) ∧ H' b = some (.tup (row.map V.int))) (by decide) (by show 0 < 1; decide) ⟨rfl, fun j row hj => absurd hj (Nat.not_lt_zero _)⟩ hacc (fun i L H' sm _ => .of (sm _ _ m.top)) (fun i x σ1 H1 L D hx l1 ag1 s1 sm1 ha1 ⟨r1, r2⟩ hD => ?_) fun σ1 H1 L sm1 ha1 ⟨r1, r2⟩ => ?_
  · have hi : i < n := by rw [← hlen]; exact (List.getElem?_eq_some_iff.mp hx).1
    have hil : i < ls.length := by rw [m.len, q.len]; exact hi
    obtain ⟨row, e1, e2, e3⟩ := q.get hi
    have ex : x = .ref ls[i] := by
      rw [List.getElem?_map, List.getElem?_eq_getElem hil] at hx
      simpa using hx.symm
    subst ex
    have hrow := m.row i _ row (List.getElem?_eq_getElem hil) e1
    refine ⟨_, s1, ls[i], row.map V.int, rfl, .inl ⟨.of (sm1 _ _ hrow), fun p hp => ?_⟩⟩
    have hpa : p ≠ acc := fun e => by rw [e, ha1] at hp; cases hp
    refine ⟨L, by rw [upd_ne (Ne.symm hpa)]; exact ha1, Nat.lt_of_le_of_lt (show L.length ≤ 100 by omega) (by decide), ?_⟩
    refine hD σ1 _ (L ++ [.ref p]) l1 ag1 (fun b o e => ?_) upd_same ⟨by rw [List.length_append, r1]; rfl, fun j row' hj e => ?_⟩
    · have hb : b ≠ acc := ne_of_none e hacc
      rw [upd_ne hb, upd_ne (ne_of_none (sm1 _ _ e) hp)]
      exact sm1 _ _ e
    · by_cases hji : j < i
      · obtain ⟨b, g1, g2⟩ := r2 j row' hji e
        refine ⟨b, by rw [List.getElem?_append_left (by omega)]; exact g1, ?_⟩
        have hb : b ≠ acc := ne_of g2 ha1 (fun z => nomatch z)
        rw [upd_ne hb, upd_ne (ne_of_none g2 hp)]
        exact g2
      · have : j = i := by omega
        subst this
        rw [e1] at e
        cases e
        refine ⟨p, by rw [List.getElem?_append_right (by omega), r1]; simp, ?_⟩
        rw [upd_ne hpa]
        exact upd_same
  · refine ⟨acc, L, rfl, .inl ⟨.of ha1, fun p hp => ?_⟩⟩
    have sm2 : Same H (upd H1 p (.tup L)) := sm1.trans (same_new hp _)
    refine h p _ sm2 ⟨p, L, rfl, .of upd_same, ShL.of_rows (by rw [r1, hlen, q.len]) fun i row e => ?_⟩
    have hi : i < n := by rw [← q.len]; exact (List.getElem?_eq_some_iff.mp e).1
    obtain ⟨b, g1, g2⟩ := r2 i row (by omega) e
    exact ⟨b, g1, .of (by rw [upd_ne (ne_of_none g2 hp)]; exact g2)⟩
end L2
namespace L2
open PySem
section
variable {K : PySem.W.Frag} {H : Hp}
theorem ShL.append : ∀ {ds es : List Dt} {xs ys : List V}, ShL K H ds xs → ShL K H es ys → ShL K H (ds ++ es) (xs ++ ys)
  | [], es, xs, ys, h, h' => by rw [show xs = [] from h]; exact h'
  | d :: ds, es, _, ys, ⟨x, r, h1, h2, h3⟩, h' => ⟨x, r ++ ys, by rw [h1]; rfl, h2, ShL.append h3 h'⟩
theorem ShL.take : ∀ {ds : List Dt} {xs : List V} (n : Nat), ShL K H ds xs → ShL K H (ds.take n) (xs.take n)
  | _, _, 0, _ => by rw [List.take_zero, List.take_zero]; rfl
  | [], xs, n + 1, h => by rw [show xs = [] from h]; rfl
  | d :: ds, _, n + 1, ⟨x, r, h1, h2, h3⟩ => ⟨x, r.take n, by rw [h1]; rfl, h2, ShL.take n h3⟩
theorem ShL.drop : ∀ {ds : List Dt} {xs : List V} (n : Nat), ShL K H ds xs → ShL K H (ds.drop n) (xs.drop n)
  | _, _, 0, h => by rw [List.drop_zero, List.drop_zero]; exact h
  | [], xs, n + 1, h => by rw [show xs = [] from h]; rfl
  | d :: ds, _, n + 1, ⟨x, r, h1, h2, h3⟩ => by rw [h1, List.drop_succ_cons, List.drop_succ_cons]; exact ShL.drop n h3
end
theorem cut_to {xs : List V} {t : Nat} (h : t ≤ xs.length) : cutV xs none (some (t : Int)) = xs.take t := by
  unfold cutV HT.sIx
  simp only [Int.toNat_natCast]
  rw [if_neg (by omega), List.drop_zero, Nat.min_eq_left h, Nat.sub_zero]
theorem cut_from {xs : List V} {t : Nat} (h : t ≤ xs.length) : cutV xs (some (t : Int)) none = xs.drop t := by
  unfold cutV HT.sIx
  simp only [Int.toNat_natCast]
  rw [if_neg (by omega), Nat.min_eq_left h, List.take_of_length_le (by rw [List.length_drop]; omega)]
end L2
namespace L2
open PySem
end L2
namespace L2
open PySem PySem.Spec PyProof.Rows
section
variable {X : Cx}
theorem getItem_tuple_all {prog : Program} {w : World} {A : Around} {E : Value → Shared → Prop} {s : Shared} {t sl : Addr} {items : Array Value} {vl vu : Value} {lo hi : Option Int} {Q : Value → Shared → Prop} (ht : IsTup s.heap t items) (hs : s.heap.IsSliceOf sl vl vu .none) (pl : IsPart vl lo) (pu : IsPart vu hi)
    (hw : HT.sIx items.size 0 lo = 0 ∧ HT.sIx items.size items.size hi = items.size) (h : Q (.ref t) s) : wpAny (model prog w) A (getItem (.ref t) (.ref sl)) Q E s := by
  obtain ⟨os, hos, hcs, hds⟩ := id hs
  have hTs : s.TypeIs (.ref sl) "slice" := ⟨os, hos, hcs⟩
  unfold getItem
  try with_reducible refine wpAny_holding ?_
  first | refine wpAny_bind (wpAny_pure ?_) | skip
  refine wpAny_bind (wpAny_sequenceKey ht.typeIs (by decide) ?_)
  refine wpAny_bind (wpAny_callSpecial?_slot (name := Str.ofString "__getitem__") ht.typeIs PyProof.Rows.slot_tuple_getitem
    (wpAny_call_entry PyProof.Rows.slot_tuple_getitem ht.typeIs entry_tuple_getitem ?_ (args_tuple_getitem _ _)))
  show wpAny _ _ (Builtin.Tuple.tupleItemsOf (.ref t) >>= _) _ _ s
  refine wpAny_bind (tupleItemsOf_ ht ?_)
  refine wpAny_bind (wpAny_typeOf hTs ?_)
  rw [if_pos (by decide)]
  refine wpAny_bind (HT.sliceApplied_gen hs pl pu ?_)
  rw [hw.1, hw.2]
  have hyes : ((((0 : Nat) : Int) == 0 && (1 : Int) == 1 && (items.size - 0) == items.size) = true) := by simp
  show wpAny _ _ (if (((0 : Nat) : Int) == 0 && (1 : Int) == 1 && (items.size - 0) == items.size) = true then _ else _) _ _ s
  rw [if_pos hyes]
  unfold Builtin.Tuple.tupleIsExact
  refine wpAny_bind (wpAny_bind (wpAny_typeOf ht.typeIs (wpAny_pure ?_)))
  rw [if_pos (show (Value.type "tuple" == Value.type "tuple") = true by rfl)]
  exact wpAny_bind (wpAny_rule (wpAny_pure ⟨_, rfl, wpAny_pure h⟩))
def rSlV (K : PySem.W.Frag) : V → Option Int → Option Int → Hp → VK → Prop := fun x lo hi H Q => ∃ a xs, x = .ref a ∧ SqT K H a xs ∧ ∀ p H', Same H H' → SqT K H' p (cutV xs lo hi) → Q (.ref p) H'
theorem sl_tupV : SlR X (rSlV X.K) := by
  intro pins s σ H x v vl vu lo hi sl Q I rx hs pl pu h
  obtain ⟨a, xs, rfl, hx, q⟩ := h
  by_cases hw : HT.sIx xs.length 0 lo = 0 ∧ HT.sIx xs.length xs.length hi = xs.length
  · obtain rfl : v = Value.ref a := rx
    obtain ⟨its, rv, p, hz⟩ := I.tuple hx
    have hl := rv.length
    have ec : cutV xs lo hi = xs := by unfold cutV; rw [hw.1, hw.2, List.drop_zero, Nat.sub_zero, List.take_length]
    refine ⟨"tuple", _, PyProof.Rows.slot_tuple_getitem.lookup, p.typeIs, ?_⟩
    refine getItem_tuple_all p hs pl pu (by simp only [List.size_toArray, ← hl]; exact hw) ?_
    exact ⟨.ref a, H, I, rfl, q a H (Same.refl H) (by rw [ec]; exact hx)⟩
  · exact sl_tup (X := X) pins s σ H (.ref a) v vl vu lo hi sl Q I rx hs pl pu ⟨a, xs, rfl, hx, hw, fun p hp => q p _ (same_new hp _) (.of upd_same)⟩
abbrev rSlU (K : PySem.W.Frag) : V → Option Int → Option Int → Hp → VK → Prop := fun x lo hi H Q => rSlL K x lo hi H Q ∨ rSlV K x lo hi H Q
theorem sl_uK {K : PySem.W.Frag} (hK : X.K = K) : SlR X (rSlU K) := by subst hK; exact sl_list.or sl_tupV
end
section
variable {prog : Program} {w : World} {A : Around} {E : Value → Shared → Prop} {s : Shared}
theorem collect_sq {l : Addr} {ob : Obj} {n : Nat} {T : String} {us : List Value} {Q : List Value → Shared → Prop} (e0 : s.heap.get? l = some ob) (ec : ob.cls = .type T) (eT : T = "list" ∨ T = "tuple") (ed : ob.data = .seq us.toArray n)
    (q : Q us { s with heap := (s.heap.push (seqObj "list" #[] 0)).update s.heap.objs.size (Obj.mapSeq (· ++ us.toArray)) }) (z : us.length ≤ sizeLine) : wpAny (model prog w) A (collect (.ref l)) Q E s := by
  unfold collect
  refine wpAny_bind (wpAny_runValue (codeAny_builtin entry_proto_collect' ?g1))
  case g1 =>
    show wpAny _ _ (do again (.builtin "list.__iadd__" ⟨[← newList [], Value.ref l], []⟩)) _ _ s
    refine wpAny_bind (wpAny_newList (wpAny_pure ⟨Code.quiet_builtin _ (by decide +kernel), codeAny_builtin entry_list_iadd' ?g2⟩))
    case g2 =>
      have e1 : (s.heap.push (seqObj "list" #[] 0)).get? l = some ob := Heap.get?_push_of_some _ e0
      show wpAny _ _ (Builtin.List.listExtendWith (Value.ref s.heap.objs.size) (Value.ref l) (Value.ref s.heap.objs.size)) _ _ { s with heap := s.heap.push (seqObj "list" #[] 0) }
      unfold Builtin.List.listExtendWith
      refine wpAny_bind (wpAny_typeOf (T := T) ⟨ob, e1, ec⟩ ?g3)
      case g3 =>
        have ht : ((Value.type T == Value.type "list") || (Value.type T == Value.type "tuple")) = true := by rcases eT with rfl | rfl <;> rfl
        rw [if_pos (by first | exact ht | (rcases eT with rfl | rfl <;> simp))]
        refine wpAny_bind (listItems_at e1 ed (wpAny_bind (listItems_at (xs := #[]) (n := 0) (Heap.get?_push_size _ rfl) rfl ?g4)))
        case g4 =>
          rw [if_neg (by simp)]
          refine wpAny_bind (listUpdate_at (xs := #[]) (n := 0) (Heap.get?_push_size _ rfl) rfl ?g5 (Nat.zero_le _) (by show (#[] ++ us.toArray).size ≤ sizeLine + 1; simp only [Array.size_append, List.size_toArray, List.length_nil]; omega))
          case g5 =>
            refine wpAny_pure ?g6
            case g6 =>
              show wpAny (model prog w) A (load s.heap.objs.size >>= fun o => match o.data with | .seq xs _ => pure xs.toList | _ => unsupported "internal:collect") Q E { s with heap := (s.heap.push (seqObj "list" #[] 0)).update s.heap.objs.size (Obj.mapSeq (· ++ us.toArray)) }
              refine wpAny_bind (wpAny_load (get?_update_seq (Heap.get?_push_size _ rfl) _) ?g7)
              case g7 =>
                show wpAny _ _ (pure ((#[] : Array Value) ++ us.toArray).toList) Q E _
                rw [show ((#[] : Array Value) ++ us.toArray).toList = us by simp]
                exact wpAny_pure q
theorem sorted_sq {l : Addr} {ob : Obj} {n : Nat} {T : String} {us : List Value} {ks : List Int} {Q : Value → Shared → Prop} (e0 : s.heap.get? l = some ob) (ec : ob.cls = .type T) (eT : T = "list" ∨ T = "tuple") (ed : ob.data = .seq us.toArray n) (hI : IntsAre us ks) (h64 : us.length < 64)
    (q : ∀ (out : Array Value) (ns' : List Int), IntsAre out.toList ns' → ns'.Perm ks → ns'.Pairwise (· ≤ ·) → Q (.ref (s.heap.objs.size + 1)) { s with heap := sortedAll s.heap us out }) : wpAny (model prog w) A (call (.builtin "sorted") [.ref l]) Q E s := by
  refine Calls.call_function_entry kind_sorted plain_sorted entry_sorted (args_sorted1 _) ?g1
  case g1 =>
    unfold Builtin.«sorted»
    refine wpAny_bind (m := checkCount "sorted" 1 1 _) (wpAny_pure (wpAny_bind (collect_sq e0 ec eT ed ?g2 (Nat.le_trans (Nat.le_of_lt h64) (by decide)))))
    case g2 =>
      refine wpAny_bind (wpAny_newList ?g3)
      case g3 =>
        have z1 : ((s.heap.push (seqObj "list" #[] 0)).update s.heap.objs.size (Obj.mapSeq (· ++ us.toArray))).objs.size = s.heap.objs.size + 1 := by rw [Heap.size_update, size_push']
        have e2 : (((s.heap.push (seqObj "list" #[] 0)).update s.heap.objs.size (Obj.mapSeq (· ++ us.toArray))).push (seqObj "list" us.toArray 0)).get? (s.heap.objs.size + 1) = some (seqObj "list" us.toArray 0) := by rw [← z1]; exact Heap.get?_push_size _ rfl
        show wpAny _ _ _ _ _ { s with heap := ((s.heap.push (seqObj "list" #[] 0)).update s.heap.objs.size (Obj.mapSeq (· ++ us.toArray))).push (seqObj "list" us.toArray 0) }
        rw [z1]
        refine wpAny_bind (wpAny_holding (wpAny_call_entry slot_list_sort ⟨_, e2, rfl⟩ entry_list_sort (list_sort_tree e2 hI h64 fun out ns' a1 a2 a3 => ⟨_, rfl, wpAny_pure ⟨_, rfl, q out ns' a1 a2 a3⟩⟩) (args_list_sort _)))
end
end L2
namespace L2
open PySem PySem.Spec PyProof.Rows
theorem vals_of_ints : ∀ {ns : List Int} {us : List Value}, IntsAre us ns → Vals (ns.map V.int) us
  | [], _, h => by cases h; exact .nil
  | n :: ns, _, h => by
    cases h with
    | cons _ t h => exact .cons ⟨t, rfl⟩ (vals_of_ints h)
theorem IntsAre.len : ∀ {ns : List Int} {us : List Value}, IntsAre us ns → us.length = ns.length
  | [], _, h => by cases h; rfl
  | n :: ns, _, h => by
    cases h with
    | cons _ t h => rw [List.length_cons, List.length_cons, IntsAre.len h]
def rSorted (K : PySem.W.Frag) : List V → Hp → VK → Prop := fun vs H Q => ∃ (a : Addr) (ns : List Int), vs = [.ref a] ∧ Sq K H a (ns.map V.int) ∧ ns.length < 64 ∧
  ∀ ms : List Int, ms.Perm ns → ms.Pairwise (· ≤ ·) → ∀ l, H l = none → Q (.ref l) (upd H l (.lst (ms.map V.int)))
theorem call_sorted {X : Cx} : CallR X (.builtin "sorted") (rSorted X.K) := by
  intro pins s σ H xs us Q I r ⟨a, ns, e, hq, h64, q⟩
  subst e
  obtain ⟨u, rfl, ru⟩ := vals1 r
  obtain rfl : u = Value.ref a := ru
  have go : ∀ (its : List Value) (ob : Obj) (n : Nat) (T : String), Vals (ns.map V.int) its → s.heap.get? a = some ob → ob.cls = .type T → (T = "list" ∨ T = "tuple") → ob.data = .seq its.toArray n → wpAny (model X.prog X.w) X.A (call (.builtin "sorted") [.ref a]) (EP X pins σ Q) X.xe s := by
    intro its ob n T rv e0 ec eT ed
    have hi := intsAre_of rv
    refine sorted_sq e0 ec eT ed hi (by rw [IntsAre.len hi]; exact h64) fun out ns' a1 a2 a3 => ?_
    obtain ⟨c, he⟩ := sortedAll_at s.heap its out
    refine ⟨.ref (s.heap.objs.size + 1), _, I.laid (t' := s.toks) (o := .lst (ns'.map V.int)) (fun b ob q => sortedAll_old q) (Nat.le_succ _) ?_, rfl, q ns' a2 a3 _ (I.hok.fresh (Nat.le_succ _))⟩
    refine ⟨?_, out.toList, c, vals_of_ints a1, he⟩
    rw [List.length_map, a2.length_eq]
    exact Nat.le_trans (Nat.le_of_lt h64) (by decide)
  rcases hq with hq | hq
  · obtain ⟨its, rv, pl, hz⟩ := I.list hq
    obtain ⟨o, ho, hc, n, hd⟩ := pl.isList
    exact go its o n "list" rv ho hc (.inl rfl) hd
  · obtain ⟨its, rv, pl, hz⟩ := I.tuple hq
    obtain ⟨o, ho, hc, n, hd⟩ := pl
    exact go its o n "tuple" rv ho hc (.inr rfl) hd
theorem call_sortedK {X : Cx} {K : PySem.W.Frag} (hK : X.K = K) : CallR X (.builtin "sorted") (rSorted K) := by subst hK; exact call_sorted
mutual
def toP : Dt → PyData
  | .non => .none
  | .bl b => .bool b
  | .int i => .int i
  | .str x => .str x
  | .tup ds => .tuple (toPs ds)
  | .lst ds => .list (toPs ds)
def toPs : List Dt → List PyData
  | [] => []
  | d :: ds => toP d :: toPs ds
end
mutual
theorem toP_dep : ∀ d, (toP d).depth = dep d
  | .non => rfl
  | .bl b => rfl
  | .int i => rfl
  | .str x => rfl
  | .tup ds => by show (PyData.tuple (toPs ds)).depth = _; unfold PyData.depth dep; rw [toPs_dep]
  | .lst ds => by show (PyData.list (toPs ds)).depth = _; unfold PyData.depth dep; rw [toPs_dep]
theorem toPs_dep : ∀ ds, PyData.depthAll (toPs ds) = depL ds
  | [] => by unfold toPs depL PyData.depthAll; rfl
  | d :: ds => by unfold toPs depL PyData.depthAll; rw [toP_dep, toPs_dep]
end
mutual
theorem toP_nodict : ∀ d, (toP d).hasDict = false
  | .non => by unfold toP PyData.hasDict; rfl
  | .bl b => by unfold toP PyData.hasDict; rfl
  | .int i => by unfold toP PyData.hasDict; rfl
  | .str x => by unfold toP PyData.hasDict; rfl
  | .tup ds => by unfold toP PyData.hasDict; exact toPs_nodict ds
  | .lst ds => by unfold toP PyData.hasDict; exact toPs_nodict ds
theorem toPs_nodict : ∀ ds, PyData.hasDictAll (toPs ds) = false
  | [] => by unfold toPs PyData.hasDictAll; rfl
  | d :: ds => by unfold toPs PyData.hasDictAll; rw [toP_nodict, toPs_nodict]; rfl
end
section
variable {X : Cx} {pins : List (Addr × Obj)} {σ : St} {H : Hp} {s : Shared}
mutual
theorem Inv.reads (I : Inv X pins σ H s) : ∀ {d : Dt} {x : V} {v : Value}, RelV x v → Sh X.K H d x → ∃ as, Reads s.heap v (toP d) as
  | .non, x, v, r, h => by obtain rfl : x = .non := h; obtain rfl : v = .none := r; exact ⟨_, .none⟩
  | .bl b, x, v, r, h => by obtain rfl : x = .bl b := h; obtain rfl : v = .bool b := r; exact ⟨_, .bool b⟩
  | .int i, x, v, r, h => by obtain rfl : x = .int i := h; obtain ⟨t, rfl⟩ := r; exact ⟨_, .int i t⟩
  | .str y, x, v, r, h => by obtain rfl : x = .str y := h; obtain ⟨t, rfl⟩ := r; exact ⟨_, .str y t⟩
  | .tup ds, x, v, r, ⟨a, xs, h1, h2, h3⟩ => by
    subst h1
    obtain rfl : v = Value.ref a := r
    obtain ⟨its, rv, ⟨o, ho, hc, n, hd⟩, _⟩ := I.tuple h2
    obtain ⟨as, ha⟩ := Inv.readsAll I rv h3
    exact ⟨_, .tuple ho hc hd ha⟩
  | .lst ds, x, v, r, ⟨a, xs, h1, h2, h3⟩ => by
    subst h1
    obtain rfl : v = Value.ref a := r
    obtain ⟨its, rv, pl, _⟩ := I.list h2
    obtain ⟨o, ho, hc, n, hd⟩ := pl.isList
    obtain ⟨as, ha⟩ := Inv.readsAll I rv h3
    exact ⟨_, .list ho hc hd ha⟩
theorem Inv.readsAll (I : Inv X pins σ H s) : ∀ {ds : List Dt} {xs : List V} {us : List Value}, Vals xs us → ShL X.K H ds xs → ∃ as, ReadsAll s.heap us (toPs ds) as
  | [], xs, us, r, h => by obtain rfl : xs = [] := h; cases r; exact ⟨_, .nil⟩
  | d :: ds, xs, us, r, ⟨x, t, h1, h2, h3⟩ => by
    subst h1
    cases r with
    | cons r1 r2 =>
      obtain ⟨as, h4⟩ := Inv.reads I r1 h2
      obtain ⟨bs, h5⟩ := Inv.readsAll I r2 h3
      exact ⟨_, .cons h4 h5⟩
end
end
def okR (d : Dt) : Prop := (toP d).showable = true ∧ (toP d).leavesShort 1930 = true ∧ (toP d).bulk ≤ 4000 ∧ dep d ≤ 100
end L2
namespace L2
open PySem PySem.Spec PyProof.Rows
def ItAt (b : Bool) (h : Heap) (it l : Addr) (i : Nat) : Prop := ∃ o, h.get? it = some o ∧ o.cls = .type (if b then "list_iterator" else "tuple_iterator") ∧ o.data = .fields #[.ref l, .int i 0]
def ObAt (b : Bool) (h : Heap) (l : Addr) (us : Array Value) : Prop := ∃ o, h.get? l = some o ∧ o.cls = .type (if b then "list" else "tuple") ∧ ∃ n, o.data = .seq us n
theorem ItAt.keep {b : Bool} {h h' : Heap} {it l : Addr} {i : Nat} (x : ItAt b h it l i) (e : ∀ o, h.get? it = some o → h'.get? it = some o) : ItAt b h' it l i := let ⟨o, ho, r⟩ := x; ⟨o, e _ ho, r⟩
theorem ObAt.keep {b : Bool} {h h' : Heap} {l : Addr} {us : Array Value} (x : ObAt b h l us) (e : ∀ o, h.get? l = some o → h'.get? l = some o) : ObAt b h' l us := let ⟨o, ho, r⟩ := x; ⟨o, e _ ho, r⟩
theorem ItAt.lt {b : Bool} {h : Heap} {it l : Addr} {i : Nat} (x : ItAt b h it l i) : it < h.objs.size := let ⟨_, ho, _⟩ := x; Heap.lt_size ho
section
variable {prog : Program} {w : World} {A : Around} {E : Value → Shared → Prop} {s : Shared}
abbrev itO (b : Bool) (l : Addr) : Obj := { cls := .type (if b then "list_iterator" else "tuple_iterator"), data := .fields #[.ref l, .int 0 0] }
structure ZA (z ti to i1 i2 : Addr) : Prop where
  a1 : ti ≠ z
  a2 : to ≠ z
  a3 : i1 ≠ z
  a4 : i2 ≠ z
  a5 : ti ≠ to
  a6 : ti ≠ i1
  a7 : ti ≠ i2
  a8 : to ≠ i1
  a9 : to ≠ i2
  a10 : i1 ≠ i2
end
end L2
namespace L2
open PySem PySem.Spec PyProof.Rows
section
variable {X : Cx} {pins : List (Addr × Obj)} {σ : St} {H : Hp} {s : Shared} {h' : Heap}
theorem Inv.turnedL {t' : Nat} {ch : List Addr} (I : Inv X pins σ H s) (hf : ∀ b ∈ ch, FpOk X pins H b) (k : ∀ b o, b ∉ ch → s.heap.get? b = some o → h'.get? b = some o) : Inv X pins σ H { s with heap := h', toks := t' } := by
  have nit : ∀ b u, H b = some u → b ∉ ch := fun b u e z => by rw [(hf b z).1] at e; cases e
  refine I.step (g' := s.gens) (d' := s.drawn) (ch := ch) (fun b hb => ?_) (fun b o _ _ hc e _ => k b o hc e) (fun b o _ _ hc e _ => ⟨o.slots, k b o hc e⟩) (fun _ _ _ _ n => n) (fun b o hc e => ⟨o, k b o hc e⟩) (fun _ _ e => e) (fun _ _ _ e => e) (fun b ps e => ⟨#[], by rw [e]; simp⟩) (fun m hm => ?_) (fun b u e => ?_) I.bare
  · obtain ⟨_, f1, _, f3, f4, f5⟩ := hf b hb
    exact ⟨f3, f1, f4, f5⟩
  · obtain ⟨o, es, ep, ho, r⟩ := hm
    exact ⟨o, es, ep, k _ o (fun z => (hf _ z).2.1 rfl) ho, r⟩
  · refine (I.hok b u e).stay (fun c v hc q => k c v ?_ q) (fun _ q => q) fun _ _ q => q
    rcases hc with z | z
    · rw [z]; exact nit b u e
    · exact nit c _ z
end
section
variable {X : Cx} {pins : List (Addr × Obj)} {σ : St} {H : Hp} {s : Shared}
end
theorem ObAt.push {b : Bool} {h : Heap} {l : Addr} {us : Array Value} (x : ObAt b h l us) (o : Obj) : ObAt b (h.push o) l us := x.keep fun _ e => Heap.get?_push_of_some _ e
structure Blt2 (mg : Str → Option Value) : Prop extends Blt mg where
  zip : mg "zip" = none
  repr : mg "repr" = none
  enumerate : mg "enumerate" = none
  reversed : mg "reversed" = none
  str : mg "str" = none
end L2
namespace L2
open PySem PySem.Spec PyProof.Rows
section
variable {prog : Program} {w : World} {A : Around} {E : Value → Shared → Prop} {s : Shared}
end
theorem pe_bmK {X : Cx} {K : PySem.W.Frag} {o e : Expr} {es : List Expr} {to : TE} {t : TA} {name : Str} {apos cpos : Pos} {T id : String} {r : V → List V → Hp → VK → Prop} (hK : X.K = K) (pa : PlainAttrs T) (slot : Slot T name id) (hty : typeOf (.builtin id) = pure (.type "method_descriptor")) (hm : MtM X id r) (ho : PE X o to) (ha : PA X (e :: es) t)
    (b1 : attributeBase o name X.env (eval o X.env) = eval o X.env := by rfl)
    (b2 : ((backTo cpos (starEach (e :: es) X.env)).all (fun x => !x.1) && (backToKw cpos (keywordEach [] X.env)).all (fun x => x.1.isSome) && decide ((e :: es).length + ([] : List Keyword).length + (if ([] : List Keyword).isEmpty then 0 else 1) < 30)) = true := by rfl)
    (b3 : (apos.endLine == cpos.line) = true := by rfl) (b4 : starEach (e :: es) X.env = (false, eval e X.env) :: starEach es X.env := by rfl) (b5 : (backTo cpos (starEach es X.env)).any (·.1) = false := by rfl) :
    PE X (.Call (.Attribute o name apos) (e :: es) [] cpos) (tBM K T r to t) := by subst hK; exact pe_bm pa slot hty hm ho ha b1 b2 b3 b4 b5
def rIsnotB : R2 := fun x y H Q => (∃ a b, x = .bl a ∧ y = .bl b ∧ Q (.bl (!(a == b))) H) ∨ (y = .non ∧ Q (.bl (!decide (x = .non))) H)
theorem op_isnotB {X : Cx} : OpR X (compareOp .IsNot) rIsnotB := by
  refine OpR.or (fun pins s σ H x y v u Q I rx ry h => ?g) op_notN
  case g =>
  obtain ⟨a, b, rfl, rfl, q⟩ := h
  obtain rfl : v = Value.bool a := rx
  obtain rfl : u = Value.bool b := ry
  exact wpAny_isNot_plain (by cases a <;> cases b <;> rfl) (fin_bl I q (by cases a <;> cases b <;> rfl))
end L2
namespace L2
open PySem PySem.Spec PyProof.Rows
theorem extend_tuple (l : Addr) (items : Array Value) (n : Nat) (b : Addr) (dd : Option Addr) (ss : Array (Option Value)) (items2 : Array Value) (n2 : Nat) (hs0 : ¬(!items.isEmpty && Builtin.List.listTooLong (items.size + items2.size)) = true) (hs1 : items.size ≤ sizeLine) (hs2 : items.size + items2.size ≤ sizeLine + 1) :
    Meets (Builtin.«list.extend» ⟨[.ref l, .ref b], []⟩) (fun _ R s => s.heap.get? l = some { cls := .type "list", dict := none, data := .seq items n, slots := #[] } ∧ s.heap.get? b = some { cls := .type "tuple", dict := dd, data := .seq items2 n2, slots := ss } ∧ R (.ok (.ret Value.none)) { s with heap := s.heap.update l (Obj.mapSeq fun x => x ++ items2), toks := s.toks }) :=
  .of_wp fun prog w A R s h => by
    obtain ⟨s1, s2, s3, s4, s5⟩ := s
    obtain ⟨gl, gb, h⟩ := h
    have f2 := AutoSeq1.sub_tuple_tuple
    have f3 := AutoSeq1.sub_list_list
    have f4 := AutoSeq1.sub_tuple_list
    have f5 := AutoSeq1.sub_list_tuple
    have gz : (items ++ items2).size ≤ sizeLine + 1 := by rw [Array.size_append]; exact hs2
    wp_walk using (wpAny_updateSeq gl rfl (hz := hs1) (_hz' := gz)), AutoSeq1.wpAny_loadPart' gl, AutoSeq1.wpAny_loadPart' gb
    exact ⟨_, rfl, h⟩
def rExtendT (K : PySem.W.Frag) : V → List V → Hp → VK → Prop := fun x vs H Q => ∃ l b xs zs, x = .ref l ∧ vs = [.ref b] ∧ H l = some (.lst xs) ∧ SqT K H b zs ∧ xs.length + zs.length ≤ sizeLine ∧ Q .non (upd H l (.lst (xs ++ zs)))
theorem mt_extendT {X : Cx} {K : PySem.W.Frag} (hK : X.K = K) : MtM X "list.extend" (rExtendT K) := by
  subst hK
  intro pins s σ H x vs v us Q I rx rv h
  obtain ⟨l, b, xs, zs, rfl, rfl, hH, hB, hz, q⟩ := h
  cases rx
  obtain ⟨u, rfl, ru⟩ := rv.one
  cases ru
  obtain ⟨z, its, n, r, hl, e⟩ := I.lstM hH
  obtain ⟨its2, r2, ⟨o, e2, hc, n2, hd⟩, z2⟩ := I.tuple hB
  obtain ⟨oc, od, odt, osl⟩ := o
  subst hc hd
  have hl2 := r2.length
  have hsz : its.toArray.size + its2.toArray.size ≤ sizeLine := by rw [List.size_toArray, List.size_toArray]; omega
  have hlong : ¬ (!its.toArray.isEmpty && Builtin.List.listTooLong (its.toArray.size + its2.toArray.size)) = true := by
    rw [notLongL hsz, Bool.and_false]
    exact Bool.false_ne_true
  refine call_meets F.slot_list_extend ⟨_, e, rfl⟩ F.entry_list_extend (F.args_list_extend_2 _ _)
    (extend_tuple l its.toArray n b od osl its2.toArray n2 hlong (by rw [List.size_toArray]; omega) (by omega)) ⟨e, e2, ?_⟩
  refine ⟨.non, _, I.lset (its' := its ++ its2) hH e (by simp) (r.append r2) ?_, rfl, q⟩
  rw [List.length_append]
  omega
abbrev rExtendA (K : PySem.W.Frag) : V → List V → Hp → VK → Prop := fun x vs H Q => rExtend x vs H Q ∨ rExtendT K x vs H Q
theorem mt_extendA {X : Cx} {K : PySem.W.Frag} (hK : X.K = K) : MtM X "list.extend" (rExtendA K) := by
  intro pins s σ H x vs v us Q I rx rv h
  rcases h with h | h
  · exact mt_extend pins s σ H x vs v us Q I rx rv h
  · exact mt_extendT hK pins s σ H x vs v us Q I rx rv h
end L2
namespace L2
open PySem
def natV (p : Nat) : V := .int (p : Int)
theorem iteT' {c : Bool} {A B : Prop} (e : c = true) (h : A) : if c = true then A else B := by rw [if_pos e]; exact h
theorem iteF' {c : Bool} {A B : Prop} (e : c = false) (h : B) : if c = true then A else B := by subst e; exact iteF h
theorem sqT_put {K : PySem.W.Frag} {H : Hp} {a l : Addr} {xs ys : List V} {o : HO} (h : SqT K H a xs) (hl : H l = some (.lst ys)) : SqT K (upd H l o) a xs := by
  have key : ∀ u, H a = some u → (∀ zs, u ≠ .lst zs) → upd H l o a = some u := fun u e n => by
    rw [upd_ne]
    · exact e
    · intro z
      rw [z, hl] at e
      cases e
      exact n _ rfl
  rcases h with (h | ⟨u, h⟩) | h
  · exact .inl (.inl (key _ h fun _ z => by cases z))
  · exact .inl (.inr ⟨u, key _ h fun _ z => by cases z⟩)
  · exact .inr h
section
variable {K : PySem.W.Frag} {H : Hp}
theorem atI_end {xs : List V} {v : V} (hj : xs[xs.length - 1]? = some v) : atI xs (-1) = some v := by
  have hl : xs.length - 1 < xs.length := (List.getElem?_eq_some_iff.mp hj).1
  unfold atI ixN
  rw [if_neg (by decide), if_pos (by omega), show ((-1 : Int) + (xs.length : Int)).toNat = xs.length - 1 by omega]
  exact hj
theorem ixT_last {p : Addr} {xs : List V} {v : V} {Q : VK} (h : SqT K H p xs) (hj : xs[xs.length - 1]? = some v) (q : Q v H) : rIx2 K (.ref p) (.int (-1)) H Q := .inr ⟨p, xs, -1, v, rfl, rfl, h, atI_end hj, q⟩
end
theorem mod_nat {c : Int} {n : Nat} (h : 1 ≤ n) : ∃ k : Nat, c % (n : Int) = (k : Int) ∧ k < n := by
  have g0 := Int.emod_nonneg c (show (n : Int) ≠ 0 by omega)
  have g1 := Int.emod_lt_of_pos c (show (0 : Int) < (n : Int) by omega)
  obtain ⟨k, hk⟩ := Int.eq_ofNat_of_zero_le g0
  exact ⟨k, hk, by omega⟩
theorem nat_of {x : Int} (h : 0 ≤ x) : ∃ m : Nat, x = (m : Int) := Int.eq_ofNat_of_zero_le h
def Rows (K : PySem.W.Frag) (H : Hp) (xs : List V) (T : List (List Int)) : Prop := xs.length = T.length ∧ ∀ (i : Nat) (row : List Int), T[i]? = some row → ∃ b, xs[i]? = some (.ref b) ∧ SqT K H b (row.map V.int)
section
variable {K : PySem.W.Frag} {H H' : Hp} {xs : List V} {T : List (List Int)}
theorem Rows.map (h : Rows K H xs T) (f : ∀ b row, SqT K H b row → SqT K H' b row) : Rows K H' xs T := ⟨h.1, fun i row e => by
  obtain ⟨b, e1, e2⟩ := h.2 i row e
  exact ⟨b, e1, f _ _ e2⟩⟩
theorem Rows.same (h : Rows K H xs T) (e : Same H H') : Rows K H' xs T := h.map fun _ _ s => e.tup s
theorem Rows.put (h : Rows K H xs T) {l : Addr} {ys : List V} {o : HO} (hl : H l = some (.lst ys)) : Rows K (upd H l o) xs T := h.map fun _ _ s => sqT_put s hl
theorem Rows.nil : Rows K H [] [] := ⟨rfl, fun i row e => by cases e⟩
theorem Rows.snoc (h : Rows K H xs T) {b : Addr} {r : List Int} (hb : SqT K H b (r.map V.int)) : Rows K H (xs ++ [.ref b]) (T ++ [r]) := by
  refine ⟨by rw [List.length_append, List.length_append, h.1]; rfl, fun i row e => ?_⟩
  by_cases hi : i < T.length
  · rw [List.getElem?_append_left hi] at e
    obtain ⟨b', e1, e2⟩ := h.2 i row e
    exact ⟨b', by rw [List.getElem?_append_left (by rw [h.1]; exact hi)]; exact e1, e2⟩
  · rw [List.getElem?_append_right (by omega)] at e
    have : i - T.length = 0 := by
      rcases hk : i - T.length with _ | k
      · rfl
      · rw [hk] at e; cases e
    rw [this] at e
    cases e
    exact ⟨b, by rw [List.getElem?_append_right (by rw [h.1]; omega), h.1, this]; rfl, hb⟩
theorem Rows.sh (h : Rows K H xs T) {l : Addr} (hl : SqL K H l xs) : Sh K H (.lst (T.map fun r => Dt.tup (r.map Dt.int))) (.ref l) := ⟨l, xs, rfl, hl, ShL.of_rows h.1 h.2⟩
end
end L2
namespace L2
open PySem PySem.Spec PyProof.Rows
section
variable {prog : Program} {w : World} {A : Around} {E : Value → Shared → Prop} {s : Shared}
end
abbrev eH (h : Heap) (b : Bool) (l : Addr) : Heap := (h.push (itO b l)).push { cls := .type "enumerate", data := .fields #[.none, .bool false, .ref h.objs.size, rawInt 0, .none, .none] }
end L2
namespace L2
open PySem
section
variable {X : Cx} {es : List Expr} {te : TE} {t : TA}
theorem pa_consC {c : Const} {k : Nat} {p : Pos} (ha : PE X (.Constant c k p) te) (hr : PA X es t) : PA X (.Constant c k p :: es) (tCons te t) := pa_cons ha hr
theorem pa_consN {n : Str} {p : Pos} (ha : PE X (.Name n p) te) (hr : PA X es t) : PA X (.Name n p :: es) (tCons te t) := pa_cons ha hr
theorem pa_consL {l : List Expr} {p : Pos} (ha : PE X (.List l p) te) (hr : PA X es t) : PA X (.List l p :: es) (tCons te t) := pa_cons ha hr
theorem pa_consT {l : List Expr} {k : Nat} {p : Pos} (ha : PE X (.Tuple l k p) te) (hr : PA X es t) : PA X (.Tuple l k p :: es) (tCons te t) := pa_cons ha hr
theorem pa_consB {a b : Expr} {o : Operator} {p : Pos} (ha : PE X (.BinOp a o b p) te) (hr : PA X es t) : PA X (.BinOp a o b p :: es) (tCons te t) := pa_cons ha hr
theorem pa_consS {a b : Expr} {p : Pos} (ha : PE X (.Subscript a b p) te) (hr : PA X es t) : PA X (.Subscript a b p :: es) (tCons te t) := pa_cons ha hr
theorem pa_consK {a : Expr} {l : List Expr} {kw : List Keyword} {p : Pos} (ha : PE X (.Call a l kw p) te) (hr : PA X es t) : PA X (.Call a l kw p :: es) (tCons te t) := pa_cons ha hr
end
end L2
namespace L2
open PySem
mutual
def thin : Dt → Bool
  | .tup ds => decide (ds.length < 64) && thinL ds
  | .lst ds => thinL ds
  | _ => true
def thinL : List Dt → Bool
  | [] => true
  | d :: ds => thin d && thinL ds
end
def okM (m e : Nat) (d : Dt) : Prop := (toP d).showable = true ∧ (toP d).leavesShort 1930 = true ∧ (toP d).bulk ≤ m ∧ dep d ≤ e ∧ thin d = true
def Am (K : PySem.W.Frag) (H : Hp) (m e : Nat) (x : V) : Prop := ∃ d, Sh K H d x ∧ okM m e d
def Goo (K : PySem.W.Frag) (H : Hp) (v : V) : Prop := ∃ d, Sh K H d v ∧ okR d ∧ thin d = true
section
variable {K : PySem.W.Frag} {H H' : Hp}
theorem Am.same {m e : Nat} {x : V} (s : Same H H') : Am K H m e x → Am K H' m e x := fun ⟨d, h, o⟩ => ⟨d, h.same s, o⟩
theorem Am.le {m k e f : Nat} {x : V} (h1 : m ≤ k) (h2 : e ≤ f) : Am K H m e x → Am K H k f x := fun ⟨d, h, a, b, c, g, t⟩ => ⟨d, h, a, b, Nat.le_trans c h1, Nat.le_trans g h2, t⟩
theorem Goo.same {v : V} (s : Same H H') : Goo K H v → Goo K H' v := fun ⟨d, h, o⟩ => ⟨d, h.same s, o⟩
def Tu (K : PySem.W.Frag) (H : Hp) (m e k : Nat) (v : V) : Prop := ∃ a xs, v = .ref a ∧ SqT K H a xs ∧ xs.length ≤ k ∧ ∀ x ∈ xs, Am K H m e x
theorem Tu.same {m e k : Nat} {v : V} (s : Same H H') : Tu K H m e k v → Tu K H' m e k v := fun ⟨a, xs, h1, h2, h3, h4⟩ => ⟨a, xs, h1, s.tup h2, h3, fun x hx => (h4 x hx).same s⟩
theorem Tu.le {m e k m' e' k' : Nat} {v : V} (h : m ≤ m') (h' : e ≤ e') (h'' : k ≤ k') : Tu K H m e k v → Tu K H m' e' k' v := fun ⟨a, xs, h1, h2, h3, h4⟩ => ⟨a, xs, h1, h2, Nat.le_trans h3 h'', fun x hx => (h4 x hx).le h h'⟩
end
end L2
namespace L2
open PySem PySem.Spec PyProof.Rows
inductive PrsAre : List (Value × Value) → List (Int × Int) → Prop
  | nil : PrsAre [] []
  | cons (a b : Int) (t u : Tok) {r : List (Value × Value)} {zs : List (Int × Int)} : PrsAre r zs → PrsAre ((.int a t, .int b u) :: r) ((a, b) :: zs)
def lexZ (f : Bool) : List (Int × Int) → Bool
  | [] => f
  | (a, b) :: r => if a = b then lexZ f r else decide (a < b)
theorem rc_lt_int {prog : Program} {w : World} {A : Around} {E : Value → Shared → Prop} {s : Shared} {a b : Int} {t u : Tok} {Q : Value → Shared → Prop} (h : Q (.bool (decide (a < b))) s) : wpAny (model prog w) A (richCompare .Lt (.int a t) (.int b u)) Q E s := lt_int h
theorem tuple_ltI (l b : Addr) (us vs : Array Value) (n n2 : Nat) (dd dd2 : Option Addr) (sl sl2 : Array (Option Value)) (zs : List (Int × Int)) (hz : PrsAre (us.toList.zip vs.toList) zs) :
    Meets (Builtin.«tuple.__lt__» ⟨[.ref l, .ref b], []⟩)
      (fun _ R s => s.heap.get? l = some { cls := .type "tuple", dict := dd, data := .seq us n, slots := sl } ∧ s.heap.get? b = some { cls := .type "tuple", dict := dd2, data := .seq vs n2, slots := sl2 } ∧ R (.ok (.ret (.bool (lexZ (decide (us.size < vs.size)) zs)))) s) :=
  .of_wp fun prog w A R s h => by
    obtain ⟨s1, s2, s3, s4, s5⟩ := s
    obtain ⟨gl, gb, h⟩ := h
    have f2 := AutoSeq1.sub_tuple_tuple
    wp_walk using AutoSeq1.wpAny_loadPart' gl, AutoSeq1.wpAny_loadPart' gb, wpAny_forIn_list _ (fun rest b s' => b.1 = none ∧ s' = ⟨s1, s2, s3, s4, s5⟩ ∧ ∃ ys, PrsAre rest ys ∧ R (.ok (.ret (.bool (lexZ (decide (us.size < vs.size)) ys)))) ⟨s1, s2, s3, s4, s5⟩) _
    case turn =>
      rintro ⟨y, x⟩ rest b s' ⟨hb', rfl, ys, hy, hR⟩
      cases hy with
      | cons p q t u hr =>
        refine wpAny_bind (wpAny_eqBool_int ?_)
        by_cases e : p = q
        · rw [show (p == q) = true by simpa using e]
          rw [lexZ, if_pos e] at hR
          wp_walk
          exact ⟨rfl, rfl, _, hr, hR⟩
        · rw [show (p == q) = false by simpa using e]
          rw [lexZ, if_neg e] at hR
          wp_walk using rc_lt_int
          exact ⟨_, rfl, hR⟩
    case fin =>
      rintro ⟨b1, b2⟩ s' ⟨hb', rfl, ys, hy, hR⟩
      simp only at hb'
      subst hb'
      cases hy
      wp_walk
      exact ⟨_, rfl, hR⟩
    case h =>
      exact ⟨rfl, rfl, zs, hz, h⟩
section
variable {prog : Program} {w : World} {A : Around} {R : Result → Shared → Prop} {It : Addr} {fp wr : List Addr} {n : Nat} {P : Nat → Value → Prop} {St : Nat → Heap → Prop}
def LtAt (prog : Program) (w : World) (A : Around) (kp : Heap → Prop) (P : Nat → Value → Prop) (bt : Nat → Nat → Bool) : Prop :=
  ∀ i j x y (s : Shared) (Q : Value → Shared → Prop) (E : Value → Shared → Prop), kp s.heap → P i x → P j y → Q (.bool (bt i j)) s → wpAny (model prog w) A (richCompare .Lt x y) Q E s
def Kp (kp : Heap → Prop) (wr : List Addr) (z : Addr) : Prop := ∀ h h', kp h → (∀ b o, b ∉ wr → b ≠ z → h.get? b = some o → h'.get? b = some o) → kp h'
theorem minL (W : Walks prog w A.in1 It fp wr n P St) (bt : Nat → Nat → Bool) {kp : Heap → Prop} (z : Addr) (hz : z ∉ fp) (kk : Kp kp wr z) (hc : LtAt prog w A.in1 kp P bt) :
    ∀ (k j : Nat) (s : Shared) (x : Value) (c : Nat), n - (j + 1) = k → j + 1 ≤ n → kp s.heap → St (j + 1) s.heap → P (argBest bt j) x → s.heap.get? z = some { cls := .type "list", dict := none, data := .seq #[x, x] c, slots := #[] } →
    (∀ v h' tk, P (argBest bt (n - 1)) v → (∀ b o, b ∉ wr → b ≠ z → s.heap.get? b = some o → h'.get? b = some o) → R (.ok (.ret v)) { s with heap := h', toks := tk }) →
    codeAny (model prog w) A (.builtin "min.loop" ⟨[.ref It, .none, .ref z], []⟩) R s := by
  have zw : z ∉ wr := fun h => hz (W.sub _ h)
  have nm : (toString "min" ++ toString ".loop" : String) = "min.loop" := by decide
  intro k
  induction k with
  | zero =>
    intro j s x c hk hj kp0 st px gz hR
    have en : j + 1 = n := by omega
    refine codeAny_builtin F.entry_min_loop ?g
    case g =>
    rw [Around.under_plainId F.plain_min_loop _]; show wpAny _ A.in1 (seqItems? (.ref z) >>= _) _ _ s; refine wpAny_bind (wpAny_seqItems gz rfl ?g)
    case g =>
    show wpAny _ A.in1 (tryCatch (pyNext (.ref It)) _ >>= _) _ _ s; refine wpAny_bind (wpAny_tryCatch (W.done s _ _ (en ▸ st) fun h' tk kh => ?g))
    case g =>
    show wpAny _ A.in1 (updateSeq z (fun _ => #[]) >>= _) _ _ _; refine wpAny_bind (wpAny_updateSeq (kh z _ zw gz) rfl (wpAny_bind (wpAny_letGo (wpAny_pure ?g))))
    case g =>
    exact hR x _ tk (by rw [← en]; exact px) fun b o bw bz e => (Heap.get?_update_other _ _ (Ne.symm bz)).trans (kh b o bw e)
  | succ k ih =>
    intro j s x c hk hj kp0 st px gz hR
    have lt : j + 1 < n := by omega
    refine codeAny_builtin F.entry_min_loop ?g
    case g =>
    rw [Around.under_plainId F.plain_min_loop _]; show wpAny _ A.in1 (seqItems? (.ref z) >>= _) _ _ s; refine wpAny_bind (wpAny_seqItems gz rfl ?g)
    case g =>
    show wpAny _ A.in1 (tryCatch (pyNext (.ref It)) _ >>= _) _ _ s; refine wpAny_bind (wpAny_tryCatch (W.item (j + 1) s _ _ lt st fun v h' tk pv st' kh => ?g))
    case g =>
    have gz' := kh z _ zw gz
    have kp1 : kp h' := kk _ _ kp0 fun b o bw _ e => kh b o bw e
    show wpAny _ A.in1 (tryCatch (holding [v, v] (richCompare .Lt v x >>= _)) _ >>= _) _ _ _; refine wpAny_bind (wpAny_tryCatch (wpAny_holding (wpAny_bind (hc (j + 1) (argBest bt j) v x _ _ _ kp1 pv px ?g))))
    case g =>
    refine wpAny_bind (wpAny_holding (wpAny_truthy_bool (wpAny_bind (wpAny_letGo (wpAny_pure ?g)))))
    case g =>
    cases hb : bt (j + 1) (argBest bt j) with
    | true =>
      simp only [if_true]; refine wpAny_bind (wpAny_updateSeq gz' rfl (wpAny_bind (wpAny_letGo ?g)))
      case g =>
      have up : ∀ b o, b ≠ z → h'.get? b = some o → (h'.update z (Obj.mapSeq fun _ => #[v, v])).get? b = some o := fun b o bz e => (Heap.get?_update_other _ _ (Ne.symm bz)).trans e
      rw [nm]; refine wpAny_pure ⟨plainId_quiet F.plain_min_loop _, ih (j + 1) _ v _ (by omega) lt (kk _ _ kp1 fun b o _ bz e => up b o bz e) (W.frame _ _ _ st' fun b bf o e => up b o (fun q => hz (by rw [← q]; exact bf)) e) (by simp only [argBest, hb, if_true]; exact pv) (Heap.get?_update_self _ gz' rfl) fun v' h2 tk2 pv' kh2 => ?g⟩
      case g =>
      exact hR v' h2 tk2 pv' fun b o bw bz e => kh2 b o bw bz (up b o bz (kh b o bw e))
    | false =>
      simp only [Bool.false_eq_true, if_false]; refine wpAny_bind (wpAny_letGo ?g)
      case g =>
      rw [nm]; refine wpAny_pure ⟨plainId_quiet F.plain_min_loop _, ih (j + 1) _ x c (by omega) lt kp1 st' (by simp only [argBest, hb, Bool.false_eq_true, if_false]; exact px) gz' fun v' h2 tk2 pv' kh2 => ?g⟩
      case g =>
      exact hR v' h2 tk2 pv' fun b o bw bz e => kh2 b o bw bz (kh b o bw e)
theorem minF (W : Walks prog w A.in1 It fp wr n P St) (bt : Nat → Nat → Bool) {kp : Heap → Prop} (z : Addr) (hz : z ∉ fp) (kk : Kp kp wr z) (hc : LtAt prog w A.in1 kp P bt) (hn : 0 < n) {s : Shared} {c : Nat} (kp0 : kp s.heap) (st : St 0 s.heap) (gz : s.heap.get? z = some { cls := .type "list", dict := none, data := .seq #[] c, slots := #[] })
    (hR : ∀ v h' tk, P (argBest bt (n - 1)) v → (∀ b o, b ∉ wr → b ≠ z → s.heap.get? b = some o → h'.get? b = some o) → R (.ok (.ret v)) { s with heap := h', toks := tk }) :
    codeAny (model prog w) A (.builtin "min.loop" ⟨[.ref It, .none, .ref z], []⟩) R s := by
  have zw : z ∉ wr := fun h => hz (W.sub _ h)
  have nm : (toString "min" ++ toString ".loop" : String) = "min.loop" := by decide
  refine codeAny_builtin F.entry_min_loop ?g
  case g =>
  rw [Around.under_plainId F.plain_min_loop _]; show wpAny _ A.in1 (seqItems? (.ref z) >>= _) _ _ s; refine wpAny_bind (wpAny_seqItems gz rfl ?g)
  case g =>
  show wpAny _ A.in1 (tryCatch (pyNext (.ref It)) _ >>= _) _ _ s; refine wpAny_bind (wpAny_tryCatch (W.item 0 s _ _ hn st fun v h' tk pv st' kh => ?g))
  case g =>
  have gz' := kh z _ zw gz
  have kp1 : kp h' := kk _ _ kp0 fun b o bw _ e => kh b o bw e
  have up : ∀ b o, b ≠ z → h'.get? b = some o → (h'.update z (Obj.mapSeq fun _ => #[v, v])).get? b = some o := fun b o bz e => (Heap.get?_update_other _ _ (Ne.symm bz)).trans e
  show wpAny _ A.in1 (updateSeq z (fun _ => #[v, v]) >>= _) _ _ _; refine wpAny_bind (wpAny_updateSeq gz' rfl ?g)
  case g =>
  rw [nm]; refine wpAny_pure ⟨plainId_quiet F.plain_min_loop _, minL W bt z hz kk hc _ 0 _ v _ rfl hn (kk _ _ kp1 fun b o _ bz e => up b o bz e) (W.frame _ _ _ st' fun b bf o e => up b o (fun q => hz (by rw [← q]; exact bf)) e) pv (Heap.get?_update_self _ gz' rfl) fun v' h2 tk2 pv' kh2 => ?g⟩
  case g =>
  exact hR v' h2 tk2 pv' fun b o bw bz e => kh2 b o bw bz (up b o bz (kh b o bw e))
end
section
variable {prog : Program} {w : World} {A : Around} {E : Value → Shared → Prop} {s : Shared}
theorem min_walkAt {x : Value} {Q : Value → Shared → Prop}
    (h : wpAny (model prog w) A.in1 (pyIter x) (fun it s₂ => ∃ It fp wr n P St bt, ∃ kp : Heap → Prop, it = .ref It ∧ Walks prog w A.in1 It fp wr n P St ∧ St 0 s₂.heap ∧ (∀ b ∈ fp, b < s₂.heap.objs.size) ∧ 0 < n ∧ kp s₂.heap ∧ (∀ z, s₂.heap.objs.size ≤ z → Kp kp wr z) ∧ LtAt prog w A.in1 kp P bt ∧
      ∀ v h' tk, P (argBest bt (n - 1)) v → (∀ b o, b ∉ wr → s₂.heap.get? b = some o → h'.get? b = some o) → Q v { s₂ with heap := h', toks := tk }) E s) :
    wpAny (model prog w) A (call (.builtin "min") [x]) Q E s := by
  have nm : (toString "min" ++ toString ".loop" : String) = "min.loop" := by decide
  refine call_function_tree F.kind_min F.plain_min F.entry_min (F.args_min1 _) ?g
  case g =>
  show wpAny _ A.in1 (Builtin.Builtins.bindParams "min" ["key", "default"] 0 ⟨[], []⟩ >>= _) _ _ s; refine wpAny_bind (wpAny_of_eq (show Builtin.Builtins.bindParams "min" ["key", "default"] 0 ⟨[], []⟩ = pure [none, none] from rfl) (wpAny_bind (wpAny_pure (wpAny_bind (wpAny_mono h (fun it s2 h2 => ?g) fun _ _ e => e)))))
  case g =>
  obtain ⟨It, fp, wr, n, P, St, bt, kp, rfl, W, st, hf, hn, kp0, kk, hc, hQ⟩ := h2
  refine wpAny_bind (wpAny_newObj_type ?g)
  case g =>
  have zf : s2.heap.objs.size ∉ fp := fun m => Nat.lt_irrefl _ (hf _ m)
  have kz := kk s2.heap.objs.size (Nat.le_refl _)
  rw [nm]; refine wpAny_pure ⟨plainId_quiet F.plain_min_loop _, minF W bt s2.heap.objs.size zf kz hc hn (kz _ _ kp0 fun b o _ _ e => Heap.get?_push_of_some _ e) (W.frame _ _ _ st fun b _ o e => Heap.get?_push_of_some _ e) (Heap.get?_push_size _ rfl) fun v h' tk pv kh => ?g⟩
  case g =>
  exact hQ v h' tk pv fun b o bw e => kh b o bw (Nat.ne_of_lt (Heap.lt_size e)) (Heap.get?_push_of_some _ e)
end
end L2
namespace L2
open PySem PySem.Spec PyProof.Rows
def lexL : List Int → List Int → Bool
  | [], [] => false
  | [], _ :: _ => true
  | _ :: _, [] => false
  | a :: r, b :: q => if a = b then lexL r q else decide (a < b)
theorem lexZ_eq : ∀ (ns ms : List Int), lexZ (decide (ns.length < ms.length)) (ns.zip ms) = lexL ns ms
  | [], [] => rfl
  | [], m :: ms => by simp [lexZ, lexL]
  | n :: ns, [] => by simp [lexZ, lexL]
  | n :: ns, m :: ms => by
    rw [List.zip_cons_cons, lexZ, lexL, ← lexZ_eq ns ms]
    have : decide ((n :: ns).length < (m :: ms).length) = decide (ns.length < ms.length) := by
      by_cases h : ns.length < ms.length <;> simp [h]
    rw [this]
theorem lexL_irr : ∀ ns : List Int, lexL ns ns = false
  | [] => rfl
  | n :: ns => by rw [lexL, if_pos rfl]; exact lexL_irr ns
theorem lexL_trans : ∀ {a b c : List Int}, lexL a b = true → lexL b c = true → lexL a c = true
  | [], [], _, h, _ => by cases h
  | [], _ :: _, [], _, h => by cases h
  | [], _ :: _, _ :: _, _, _ => rfl
  | _ :: _, [], _, h, _ => by cases h
  | _ :: _, _ :: _, [], _, h => by cases h
  | x :: a, y :: b, z :: c, h1, h2 => by
    rw [lexL] at h1 h2 ⊢
    by_cases e1 : x = y <;> by_cases e2 : y = z
    · subst e1 e2
      rw [if_pos rfl] at h1 h2 ⊢
      exact lexL_trans h1 h2
    · subst e1
      rw [if_neg e2] at h2 ⊢
      exact h2
    · subst e2
      rw [if_neg e1] at h1 ⊢
      exact h1
    · rw [if_neg e1] at h1
      rw [if_neg e2] at h2
      have g1 := of_decide_eq_true h1
      have g2 := of_decide_eq_true h2
      rw [if_neg (by omega)]
      exact decide_eq_true (by omega)
theorem argBest_min {bt : Nat → Nat → Bool} (irr : ∀ i, bt i i = false) (tr : ∀ i j k, bt i j = true → bt j k = true → bt i k = true) : ∀ k j, j ≤ k → bt j (argBest bt k) = false
  | 0, j, h => by
    obtain rfl : j = 0 := by omega
    exact irr 0
  | k + 1, j, h => by
    unfold argBest
    by_cases c : bt (k + 1) (argBest bt k) = true
    · rw [if_pos c]
      by_cases e : j = k + 1
      · subst e; exact irr _
      · refine Bool.eq_false_iff.mpr fun q => ?_
        have := argBest_min irr tr k j (by omega)
        rw [tr _ _ _ q c] at this
        cases this
    · rw [if_neg c]
      by_cases e : j = k + 1
      · subst e; simpa using c
      · exact argBest_min irr tr k j (by omega)
theorem prs_of : ∀ {ns ms : List Int} {us vs : List Value}, IntsAre us ns → IntsAre vs ms → PrsAre (us.zip vs) (ns.zip ms)
  | [], _, _, _, h, _ => by cases h; exact .nil
  | _ :: _, [], _, _, h, g => by cases g; cases h; exact .nil
  | n :: ns, m :: ms, _, _, h, g => by
    cases h with
    | cons _ t h =>
      cases g with
      | cons _ u g => exact .cons n m t u (prs_of h g)
theorem lt_tups {prog : Program} {w : World} {A : Around} {E : Value → Shared → Prop} {s : Shared} {a b : Addr} {us vs : List Value} {ns ms : List Int} {Q : Value → Shared → Prop} (hu : A.units < cLine) (ha : IsTup s.heap a us.toArray) (hb : IsTup s.heap b vs.toArray) (h1 : IntsAre us ns) (h2 : IntsAre vs ms) (q : Q (.bool (lexL ns ms)) s) :
    wpAny (model prog w) A (richCompare .Lt (.ref a) (.ref b)) Q E s := by
  obtain ⟨⟨oc, od, odt, osl⟩, e1, c1, n1, d1⟩ := ha
  obtain ⟨⟨pc, pd, pdt, psl⟩, e2, c2, n2, d2⟩ := hb
  subst c1 d1 c2 d2
  refine richCompare_meets_room (op := .Lt) ⟨_, e1, rfl⟩ ⟨_, e2, rfl⟩ F.slot_tuple_lt F.entry_tuple_lt (F.args_tuple_lt_2 _ _) (tuple_ltI a b us.toArray vs.toArray n1 n2 od pd osl psl (ns.zip ms) (prs_of h1 h2)) ⟨e1, e2, ?g⟩ hu
  case g =>
  have l1 := IntsAre.len h1
  have l2 := IntsAre.len h2
  rw [List.size_toArray, List.size_toArray, l1, l2, lexZ_eq]
  exact ⟨fun z => (by cases z), q⟩
def rMinT (K : PySem.W.Frag) : List V → Hp → VK → Prop := fun vs H Q => ∃ (a : Addr) (xs : List V) (T : List (List Int)), vs = [.ref a] ∧ Sq K H a xs ∧ Rows K H xs T ∧ T ≠ [] ∧ ∀ (i : Nat) (b : Addr) (row : List Int), xs[i]? = some (.ref b) → T[i]? = some row → SqT K H b (row.map V.int) → (∀ r ∈ T, lexL r row = false) → Q (.ref b) H
theorem call_minT {X : Cx} {k : Nat} (hr : Room k X.A) (hc : X.calm = true) : CallR X (.builtin "min") (rMinT X.K) := by
  intro pins s σ H vs us Q I r ⟨a, xs, T, e, hq, hR, hne, q⟩
  subst e
  obtain ⟨u, rfl, ru⟩ := r.one
  obtain rfl : u = Value.ref a := ru
  refine min_walkAt (seq_walk (I.ok.hd hc) I hq fun its It fp wr S s2 rv hz W st hf hI => ?g)
  case g =>
  have hl : its.length = T.length := by rw [← rv.length, hR.1]
  have hpos : 0 < T.length := List.length_pos_iff.mpr hne
  have item : ∀ (i : Nat) (v : Value), its[i]? = some v → ∃ b row, v = .ref b ∧ T[i]? = some row ∧ xs[i]? = some (.ref b) ∧ SqT X.K H b (row.map V.int) := fun i v hv => by
    obtain ⟨x, hx, rx⟩ := rv.getR hv
    have hi : i < T.length := by rw [← hR.1]; exact (List.getElem?_eq_some_iff.mp hx).1
    obtain ⟨b, e1, e2⟩ := hR.2 i _ (List.getElem?_eq_getElem hi)
    rw [e1] at hx
    cases hx
    exact ⟨b, _, rx, List.getElem?_eq_getElem hi, e1, e2⟩
  refine ⟨It, fp, wr, its.length, _, S, fun i j => lexL (T.getD i []) (T.getD j []), fun h => ∀ b o, b ∉ wr → s2.heap.get? b = some o → h.get? b = some o, rfl, W, st, hf, by omega, fun b o _ e => e, fun z hz0 h h' k1 k2 b o bw e => k2 b o bw (fun q0 => Nat.not_lt.mpr hz0 (q0 ▸ Heap.lt_size e)) (k1 b o bw e), fun i j vi vj s' Q' E' kp hi hj hQ' => ?g, fun v h' tk hv hk => ?h⟩
  case g =>
    obtain ⟨b1, r1, rfl, t1, _, q1⟩ := item i vi hi
    obtain ⟨b2, r2, rfl, t2, _, q2⟩ := item j vj hj
    have I' := hI s'.heap s'.toks kp
    obtain ⟨us1, v1, p1, _⟩ := I'.tuple q1
    obtain ⟨us2, v2, p2, _⟩ := I'.tuple q2
    refine lt_tups (ns := r1) (ms := r2) (us := us1) (vs := us2) (by have := hr.un; show X.A.units + 1 < cLine; omega) p1 p2 (intsAre_of v1) (intsAre_of v2) ?g
    case g =>
    have e1 : T.getD i [] = r1 := by rw [List.getD_eq_getElem?_getD, t1]; rfl
    have e2 : T.getD j [] = r2 := by rw [List.getD_eq_getElem?_getD, t2]; rfl
    have hQ2 : Q' (Value.bool (lexL (T.getD i []) (T.getD j []))) s' := hQ'
    rw [e1, e2] at hQ2
    exact hQ2
  case h =>
    obtain ⟨b, row, rfl, t1, e1, q1⟩ := item _ v hv
    refine ⟨.ref b, H, hI h' tk hk, rfl, q _ b row e1 t1 q1 fun r0 hr0 => ?g⟩
    case g =>
    obtain ⟨j, hj, rfl⟩ := List.getElem_of_mem hr0
    have := argBest_min (bt := fun i j => lexL (T.getD i []) (T.getD j [])) (fun i => lexL_irr _) (fun i j k => lexL_trans) (its.length - 1) j (by omega)
    have e1 : T.getD j [] = T[j] := by rw [List.getD_eq_getElem?_getD, List.getElem?_eq_getElem hj]; rfl
    have e2 : T.getD (argBest (fun i j => lexL (T.getD i []) (T.getD j [])) (its.length - 1)) [] = row := by rw [List.getD_eq_getElem?_getD, t1]; rfl
    have g : lexL (T.getD j []) (T.getD (argBest (fun i j => lexL (T.getD i []) (T.getD j [])) (its.length - 1)) []) = false := this
    rw [e1, e2] at g
    exact g
theorem call_minTK {X : Cx} {K : PySem.W.Frag} {k : Nat} (hK : X.K = K) (hr : Room k X.A) (hc : X.calm = true) : CallR X (.builtin "min") (rMinT K) := by subst hK; exact call_minT hr hc
abbrev rMinA (K : PySem.W.Frag) : List V → Hp → VK → Prop := fun vs H Q => rMin K vs H Q ∨ rMinT K vs H Q
theorem call_minAK {X : Cx} {K : PySem.W.Frag} {k : Nat} (hK : X.K = K) (hr : Room k X.A) (hc : X.calm = true) : CallR X (.builtin "min") (rMinA K) := by
  intro pins s σ H vs us Q I r h
  rcases h with h | h
  · exact call_minK hK hc pins s σ H vs us Q I r h
  · exact call_minTK hK hr hc pins s σ H vs us Q I r h
abbrev rInt1 : List V → Hp → VK → Prop := fun xs H Q => (∃ i, xs = [.int i] ∧ Q (.int i) H) ∨ ∃ k, xs = [.bl k] ∧ Q (.int (if k then 1 else 0)) H
theorem call_int1K {X : Cx} : CallR X (.type "int") rInt1 := call_int1
end L2
namespace L2
open PySem PySem.Spec PyProof.Rows
section
variable {prog : Program} {w : World} {A : Around} {E : Value → Shared → Prop} {s : Shared}
end
structure EZ (e z ti to i1 i2 : Addr) : Prop where
  a1 : e ≠ z
  a2 : e ≠ ti
  a3 : e ≠ to
  a4 : e ≠ i1
  a5 : e ≠ i2
section
variable {prog : Program} {w : World} {A : Around} {E : Value → Shared → Prop} {s : Shared}
end
end L2
namespace L2
open PySem PySem.Spec PyProof.Rows
end L2
namespace L2
open PySem
end L2
namespace L2
open PySem PySem.Spec PyProof.Rows
section
variable {prog : Program} {w : World} {A : Around} {E : Value → Shared → Prop} {s : Shared}
end
section
variable {X : Cx}
end
end L2
namespace L2
open PySem
section
variable {X : Cx}
end
end L2
namespace L2
open PySem PySem.Spec PyProof.Rows
theorem sub_tup_set : isSubtype (.type "tuple") (.type "set") = pure false := by rw [isSubtype_type]; kernel_rfl
theorem sub_tup_fro : isSubtype (.type "tuple") (.type "frozenset") = pure false := by rw [isSubtype_type]; kernel_rfl
section
variable {prog : Program} {w : World} {A : Around} {E : Value → Shared → Prop} {s : Shared}
end
end L2
namespace L2
open PySem PySem.Spec PyProof.Rows
section
variable {X : Cx}
theorem ints_of : ∀ {ns : List Int} {us : List Value}, Vals (ns.map V.int) us → IntsAre us ns
  | [], us, r => by cases r; exact .nil
  | n :: ns, us, r => by
    cases r with
    | cons h t =>
      obtain ⟨tk, rfl⟩ := h
      exact .cons n tk (ints_of t)
end
end L2
namespace L2
open PySem PySem.Spec PyProof.Rows
section
variable {X : Cx}
end
end L2
namespace L2
open PySem
structure Blt3 (mg : Str → Option Value) : Prop extends Blt2 mg where
  set : mg "set" = none
theorem bt_set : bootBuiltins "set" = some (.type "set") := by decide +kernel
section
variable {X : Cx}
def tTru (K : PySem.W.Frag) (ta : TE) : TT := fun σ H Q => ta σ H fun x H' => ∃ k, TruV K x H' k ∧ Q k H'
theorem pt_truK {K : PySem.W.Frag} {a : Expr} {ta : TE} (hK : X.K = K) (ha : PE X a ta) (he : ∀ whole, isTrue a X.env whole = (do let v ← whole; standAt a.pos; holding [v] (truthy v))) : PT X a (tTru K ta) := by
  subst hK
  exact pt_truth ha he
end
end L2
namespace L2
open PySem
structure Blt4 (mg : Str → Option Value) : Prop extends Blt3 mg where
  abs : mg "abs" = none
end L2
namespace L2
open PySem
section
variable {vars : List Nat} {tb : TS} {acc a : Addr} {σ : St} {H : Hp} {j : Nat} {D : Ends} {K : PySem.W.Frag}
end
def EmR (K : PySem.W.Frag) (vars : List Nat) (tb : TS) (acc : Addr) (σ : St) (H : Hp) (L : List (List Int)) : Prop :=
  ∀ (D : Ends) (pre : List V) (R : List (List Int)), H acc = some (.lst pre) → Rows K H pre R → R.length + L.length ≤ 100000 → (∀ σ' H' pre', σ'.length = σ.length → Agree vars σ σ' → SameX acc H H' → H' acc = some (.lst pre') → Rows K H' pre' (R ++ L) → D.nx σ' H') → tb D σ H
section
variable {K : PySem.W.Frag} {vars : List Nat} {tb : TS} {acc : Addr} {σ : St} {H : Hp}
theorem EmR.cast {L L' : List (List Int)} (h : EmR K vars tb acc σ H L) (e : L = L') : EmR K vars tb acc σ H L' := e ▸ h
theorem comp_emr (vars : List Nat) (L : List (List Int)) {g : TG} {J : It} {D : Ends} (ha : H acc = none) (hz : L.length ≤ 100000) (h : EmR K vars (tLoop J g tb) acc σ (upd H acc (.lst [])) L)
    (q : ∀ σ' H' pre, Same H H' → H' acc = some (.lst pre) → Rows K H' pre L → D.nx σ' H') : tLoop J g tb D σ (upd H acc (.lst [])) :=
  h _ [] [] upd_same Rows.nil (by simpa using hz) fun σ' H' pre' _ _ sx h1 h2 => q σ' H' pre' (same_of_x ha sx) h1 (by simpa using h2)
end
end L2
namespace L2
open PySem PySem.Spec PyProof.Rows
open PySem.SeqAt
def LtA (A : Around) (s : Shared) (u v : Value) (b : Bool) : Prop := ∀ (prog : Program) (w : World) (E : Value → Shared → Prop) (Q : Value → Shared → Prop), Q (.bool b) s → wpAny (model prog w) A (richCompare .Lt u v) Q E s
def EqA (A : Around) (s : Shared) (u v : Value) (b : Bool) : Prop := ∀ (prog : Program) (w : World) (E : Value → Shared → Prop) (Q : Bool → Shared → Prop), Q b s → wpAny (model prog w) A (eqBool u v) Q E s
inductive PrsG (A : Around) (s : Shared) : List (Value × Value) → List (Bool × Bool) → Prop
  | nil : PrsG A s [] []
  | cons {u v : Value} {e l : Bool} {r : List (Value × Value)} {zs : List (Bool × Bool)} : EqA A s u v e → (e = false → LtA A s u v l) → PrsG A s r zs → PrsG A s ((u, v) :: r) ((e, l) :: zs)
theorem dep_ints : ∀ r : List Int, depL (r.map Dt.int) = 0
  | [] => rfl
  | a :: r => by rw [List.map_cons, depL, dep_ints r]; rfl
theorem eqL_ints : ∀ {r q : List Int}, eqL (r.map Dt.int) (q.map Dt.int) = true → r = q
  | [], [], _ => rfl
  | [], _ :: _, h => by simp [eqL] at h
  | _ :: _, [], h => by simp [eqL] at h
  | a :: r, b :: q, h => by
    rw [List.map_cons, List.map_cons, eqL, Bool.and_eq_true] at h
    have h1 : a = b := by have := h.1; rw [eqD] at this; exact eq_of_beq this
    rw [h1, eqL_ints h.2]
end L2
namespace L2
open PySem PySem.Spec PyProof.Rows
section
variable {X : Cx} {tg : Expr}
end
end L2
namespace L2
open PySem PySem.Spec PyProof.Rows
section
variable {X : Cx} {pins : List (Addr × Obj)} {σ : St} {H : Hp} {s : Shared}
theorem HOk.swap {P : Program} {w : World} {h : Heap} {d : Addr} {v u : HO} (ok : HOk P w H h) (hd : H d = some v) (hv1 : ∀ xs, v ≠ .tup xs) (hv2 : ∀ y, v ≠ .own y) (new : ObjOk P w (upd H d u) h d u) : HOk P w (upd H d u) h := fun b o e => by
  by_cases hb : b = d
  · subst hb; rw [upd_same] at e; cases e; exact new
  · rw [upd_ne hb] at e
    refine (ok b o e).stay (fun _ _ _ q => q) (fun c q => ?_) fun c xs q => ?_
    · rw [upd_ne (fun z => by subst z; rw [hd] at q; exact hv2 _ (Option.some.inj q))]; exact q
    · rw [upd_ne (fun z => by subst z; rw [hd] at q; exact hv1 _ (Option.some.inj q))]; exact q
end
theorem KV.len {κ : Type} : ∀ {l : List (κ × V)} {m : List (κ × Value)}, KV l m → l.length = m.length
  | _, _, .nil => rfl
  | _, _, .cons _ t => by rw [List.length_cons, List.length_cons, KV.len t]
theorem KV.at {κ : Type} : ∀ {l : List (κ × V)} {m : List (κ × Value)}, KV l m → ∀ {i : Nat} {k : κ} {x : Value}, m[i]? = some (k, x) → ∃ v, l[i]? = some (k, v)
  | _, _, .nil, _, _, _, h => by cases h
  | _, _, .cons (a := p) (b := q) r t, 0, k, x, h => by
    have e : q = (k, x) := by simpa using h
    exact ⟨p.2, by rw [List.getElem?_cons_zero, show p = (k, p.2) from Prod.ext (by rw [r.1, e]) rfl]⟩
  | _, _, .cons _ t, i + 1, k, x, h => KV.at t (i := i) (by simpa using h)
end L2
namespace L2
open PySem PySem.Spec PyProof.Rows
structure XCls (K : PySem.W.Frag) (C : Addr) : Prop where
  ga : PySem.W.findIn K (.ref C) "__getattribute__" = some (some (.builtin "BaseException.__getattribute__"))
  gn : PySem.W.findIn K (.ref C) "__getattr__" = some none
  cl : PySem.W.findIn K (.ref C) "__class__" = some (some (.builtin "object.__class__"))
  gt : PySem.W.specialIn K (.builtin "object.__class__") "__get__" = some (some (.builtin "getset_descriptor.__get__"))
  tk : PySem.W.takesIn K (.builtin "object.__class__") = some true
  ob : PySem.W.mroIn K C (.type "object") = some true
  bx : PySem.W.subIn K (.ref C) (.type "BaseException") = some true
  is : (PySem.W.clsIn K C).isSome = true
def XAt (h : Heap) (x C : Addr) : Prop := ∃ o, h.get? x = some o ∧ o.cls = .ref C
section
open Builtin Builtin.ObjectAttr Builtin.Getset_descriptor
variable {prog : Program} {w : World} {A : Around} {E : Value → Shared → Prop} {s : Shared} {K : PySem.W.Frag} {x C : Addr} {R : Result → Shared → Prop}
theorem XAt.type {M : Model} {h : Heap} (I : XAt h x C) : PySem.W.Looks M h (typeOf (.ref x)) (.ref C) := by
  obtain ⟨o, e, c⟩ := I
  exact c ▸ (PySem.W.Looks.ld e).andThen .now
end
section
variable {X : Cx}
end
section
variable {X : Cx} {x : Str} {np cpos pos p : Pos} {C : Addr} {E : XK} {m : Str} {j : Nat}
end
def lies (P : Program) (w : World) : CXT := fun outer H s E e s' =>
  ∃ (a : Addr) (cls a0 : Value) (H' : Hp) (B : Heap), e = .ref a ∧ s'.os = s.os ∧ AllBare s'.gens ∧ Un (frs outer) [] H H' s.heap s'.heap ∧ HOk P w H' s'.heap ∧
    Heap.FlyingW B outer a cls a0 s'.heap ∧ (∀ b o, s'.heap.get? b = some o → b ∉ frs outer → (H' b ≠ none ∨ ∃ o', s.heap.get? b = some o') → B.get? b = some o) ∧ E cls none H'
section
variable {X : Cx} {pins : List (Addr × Obj)} {σ : St} {H : Hp} {s : Shared} {E : XK} {a : Addr} {cls a0 : Value} {B h2 : Heap}
theorem ObjOk.there {P : Program} {w : World} {H : Hp} {h : Heap} {a : Addr} : ∀ {o : HO}, ObjOk P w H h a o → ∃ u, h.get? a = some u
  | .lst _, ⟨_, _, _, _, e⟩ => ⟨_, e⟩
  | .tup _, ⟨_, _, _, o, e, _⟩ => ⟨_, e⟩
  | .dK _, ⟨_, _, _, _, o, _, _, e, _⟩ => ⟨_, e⟩
  | .dT _, ⟨_, _, _, _, o, _, _, e, _⟩ => ⟨_, e⟩
  | .set _ _, ⟨o, _, _, _, e, _⟩ => ⟨_, e⟩
  | .ins _ _ _, ⟨_, _, _, e, _⟩ => ⟨_, e⟩
  | .own _, ⟨_, e⟩ => ⟨_, e⟩
  | .xd _, ⟨_, ⟨_, _, _, e, _⟩, _⟩ => ⟨_, e⟩
  | .rng _ _, ⟨_, _, _, e⟩ => ⟨_, e⟩
  | .frz _ _, ⟨e, _⟩ => ⟨_, e⟩
  | .tbl _, e => ⟨_, e⟩
  | .met _ _, e => ⟨_, e⟩
  | .ext _, ⟨_, e, _⟩ => e
end
section
variable {P : Program} {w : World} {K : PySem.W.Frag} {mg : Str → Option Value} {base : Heap} {N : List Str} {qual : Str} {scope : Scope} {f : Addr} {cd : Value} {A : Around} {outer : List Env} {s₀ : Shared} {H₀ : Hp} {E : XK}
end
end L2
namespace L2
open PySem PySem.Spec PyProof.Rows
section
variable {X : Cx} {pins : List (Addr × Obj)} {σ : St} {H : Hp} {s : Shared}
end
abbrev Cx.suite (X : Cx) (pn : List (Addr × Obj)) (a : Addr) : Cx := { X with pn := pn, xe := fun _ _ => False, A := X.A.mark (some (.ref a)), calm := false }
section
variable {X : Cx} {pins pn pins' : List (Addr × Obj)} {σ : St} {H H' : Hp} {s s' : Shared} {W : Value → Shared → Prop} {a C : Addr} {cls a0 : Value} {B h2 : Heap}
theorem Inv.suite (I : Inv X pins σ H s) (a : Addr) : Inv (X.suite (X.pn ++ pins) a) [] σ H s :=
  ⟨⟨I.ok.mod, I.ok.kind, I.ok.glob, I.ok.blt, I.ok.above, I.ok.inj, I.ok.has, I.ok.cab, (fun z => by cases z), I.ok.frames, I.ok.stk, I.ok.exf, I.ok.bs, I.ok.bsz, I.ok.noex, I.ok.exfs, I.ok.funs, I.ok.frf⟩, I.os, I.bare, I.base, I.loc, I.cell, I.free, I.freeC,
    fun p hp => I.pin p (by simpa using hp), I.hok, I.len⟩
end
section
variable {X : Cx} {x n : Str} {np pos hpos : Pos} {C0 : Addr} {ie ln : Nat} {tb : XK → TS} {th : TS} {body suite : List Stmt} {b₀ : Stmt}
end
end L2
namespace L2
open PySem PySem.Spec PyProof.Rows
section
variable {X : Cx} {st : Stmt} {t : TS} {x : Str} {np pos hpos cpos p : Pos} {C C0 : Addr} {E : XK} {m : Str} {j : Nat} {K : PySem.W.Frag}
theorem PS.nox (h : PS X.nox st t) : PS X st t := fun pins s σ H D I hw =>
  wpAny_mono (h pins s σ H D (I.wish _) hw) (fun _ _ q => q.unwish) fun _ _ z => False.elim z
theorem PA.nox {es : List Expr} {t : TA} (h : PA X.nox es t) : PA X es t := fun pos pins s σ H Q I hw =>
  wpAny_mono (h pos pins s σ H Q (I.wish _) hw) (fun _ _ ⟨vs, H', I', r, q⟩ => ⟨vs, H', I'.unwish, r, q⟩) fun _ _ z => False.elim z
end
structure DefX (P : Program) (w : World) (K : PySem.W.Frag) (mg : Str → Option Value) (base : Heap) (x : Str) (k : Nat) (ps : List Str) (sp : Sp) : Prop where
  ex : ∃ (f : Addr) (fd : FuncData), FnOk P w K mg base (lies P w) k f fd ps sp ∧ mg x = some (.ref f) ∧ PySem.W.keepIn K (.ref f) = true ∧ Binds K fd ps []
theorem DefX.mono {P : Program} {w : World} {K : PySem.W.Frag} {mg : Str → Option Value} {base : Heap} {x : Str} {j k : Nat} {ps : List Str} {sp : Sp} (D : DefX P w K mg base x j ps sp) (h : j ≤ k) : DefX P w K mg base x k ps sp := by
  obtain ⟨f, fd, F, r⟩ := D.ex
  exact ⟨f, fd, F.mono h, r⟩
section
variable {P : Program} {w : World} {K : PySem.W.Frag} {mg : Str → Option Value} {base : Heap}
end
end L2
namespace L2
open PySem
section
variable {X : Cx}
end
end L2
namespace L2
open PySem
end L2
namespace L2
open PySem
section
variable {P : Program} {w : World}
def IsPairKey (P : Program) (w : World) (h : Heap) (k : List Int × Int) (a : Addr) : Prop := ∃ o n b t, h.get? a = some o ∧ o.cls = .type "tuple" ∧ o.data = .seq #[.ref b, .int k.2 t] n ∧ IsTupleKey (intKind P w) h k.1 b
theorem IsPairKey.typeIs {s : Shared} {k : List Int × Int} {a : Addr} (x : IsPairKey P w s.heap k a) : s.TypeIs (.ref a) "tuple" := let ⟨o, _, _, _, ho, hc, _⟩ := x; ⟨o, ho, hc⟩
theorem IsPairKey.inj {h : Heap} {a : Addr} {x y : List Int × Int} (hx : IsPairKey P w h x a) (hy : IsPairKey P w h y a) : x = y := by
  obtain ⟨o, n, b, t, ho, _, hd, hi⟩ := hx
  obtain ⟨o', n', b', t', ho', _, hd', hi'⟩ := hy
  obtain rfl : o = o' := Option.some.inj (ho.symm.trans ho')
  rw [hd] at hd'
  injection hd' with h1 _
  have h2 : [Value.ref b, .int x.2 t] = [.ref b', .int y.2 t'] := congrArg Array.toList h1
  injection h2 with h3 h4
  injection h4 with h5 _
  injection h3 with h3
  injection h5 with h5 _
  subst h3
  exact Prod.ext (hi.inj hi') h5
theorem IsPairKey.keeps {h h' : Heap} {k : List Int × Int} {a d : Addr} {o : Obj} {es ep} (x : IsPairKey P w h k a) (ho : h.get? d = some o) (hd : o.data = .dict es ep) (hs : Heap.SameBut d h h') : IsPairKey P w h' k a := by
  obtain ⟨o', n, b, t, ho', hc, hd', hi⟩ := x
  have hne : a ≠ d := by
    rintro rfl
    obtain rfl : o' = o := Option.some.inj (ho'.symm.trans ho)
    rw [hd] at hd'; exact nomatch hd'
  exact ⟨o', n, b, t, (hs.2 a hne).trans ho', hc, hd', hi.keeps ho hd hs⟩
def pairHash (P : Program) (w : World) (k : List Int × Int) : Int := reduceHash (Builtin.Tuple.tupleHashOf [tupleKeyHash (intKind P w) k.1, (intKind P w).hash k.2])
variable {A : Around} {E : Value → Shared → Prop} {s : Shared}
theorem pyHash_pair {k : List Int × Int} {a : Addr} {Q : Int → Shared → Prop} (hu : A.units + 5 < cLine) (hk : IsPairKey P w s.heap k a) (h : Q (pairHash P w k) { s with toks := s.toks + (k.1.length + 3) }) :
    wpAny (model P w) A (pyHash (.ref a)) Q E s := by
  have hT := hk.typeIs
  obtain ⟨o, n, b, t, ho, _, hd, hi⟩ := hk
  unfold pyHash
  first | unfold pyHashByItsType | skip
  first | refine wpAny_bind (wpAny_cRoomFor_or (.inr (by omega)) ?_) | skip
  refine wpAny_bind (wpAny_specialOf hT F.slot_tuple_hash.lookup ?_)
  show wpAny _ _ (if (some (Value.builtin "tuple.__hash__") == some Value.none) = true then _ else _) Q E s
  rw [if_neg (by rw [beq_builtin_none]; exact Bool.false_ne_true)]
  refine wpAny_bind (wpAny_specialOf hT F.slot_tuple_hash.lookup ?_)
  show wpAny _ _ (callSpecialIfBoundUnlessNone? (.ref a) "__hash__" _ >>= _) Q E s
  refine wpAny_bind (wpAny_callSpecialIfBoundUnlessNone?_slot hT F.slot_tuple_hash (wpAny_call_entry F.slot_tuple_hash hT F.entry_tuple_hash ?_ (F.args_tuple_hash_1 _)))
  show wpAny _ _ (Builtin.Tuple.tupleItemsOf (.ref a) >>= _) _ _ s
  refine wpAny_bind (wpAny_tupleItemsOf ho hd ?_)
  refine wpAny_bind ?_
  rw [← Array.forIn_toList]
  show wpAny _ _ (forIn [Value.ref b, Value.int k.2 t] #[] _) _ _ s
  rw [List.forIn_cons]
  refine wpAny_bind (wpAny_bind (wpAny_pyHash_tuple (knd := intKind P w) (show A.units + 1 < cLine by omega) hi (wpAny_pure ?_)))
  show wpAny _ _ (forIn [Value.int k.2 t] #[tupleKeyHash (intKind P w) k.1] _) _ _ _
  rw [List.forIn_cons]
  refine wpAny_bind (wpAny_bind ((intKind P w).pyHash (k := k.2) (v := .int k.2 t) (by show Value.isInt k.2 (.int k.2 t) = true; unfold Value.isInt; exact beq_self_eq_true _) (wpAny_pure ?_)))
  show wpAny _ _ (forIn [] #[tupleKeyHash (intKind P w) k.1, (intKind P w).hash k.2] _) _ _ _
  rw [List.forIn_nil]
  refine wpAny_pure ?_
  show wpAny _ _ (retInt (Builtin.Tuple.tupleHashOf [tupleKeyHash (intKind P w) k.1, (intKind P w).hash k.2])) _ _ _
  refine wpAny_ret_mkInt ?_
  show wpAny _ _ (if (decide (-(2 : Int) ^ 63 ≤ Builtin.Tuple.tupleHashOf [tupleKeyHash (intKind P w) k.1, (intKind P w).hash k.2]) && decide (Builtin.Tuple.tupleHashOf [tupleKeyHash (intKind P w) k.1, (intKind P w).hash k.2] < 2 ^ 63)) = true then _ else _) Q E _
  unfold pairHash reduceHash at h
  by_cases hr : (decide (-(2 : Int) ^ 63 ≤ Builtin.Tuple.tupleHashOf [tupleKeyHash (intKind P w) k.1, (intKind P w).hash k.2]) && decide (Builtin.Tuple.tupleHashOf [tupleKeyHash (intKind P w) k.1, (intKind P w).hash k.2] < 2 ^ 63)) = true
  · rw [if_pos hr]
    rw [if_pos hr] at h
    exact wpAny_pure (by simpa [Nat.add_assoc] using h)
  · rw [if_neg hr]
    rw [if_neg hr] at h
    exact wpAny_bind (wpAny_rule (wpAny_pure (by simpa [Nat.add_assoc] using h)))
theorem pair_eq_tree {x y : List Int × Int} {a b : Addr} {Pd : Fin → Shared → Prop} (hu : A.units < cLine) (hx : IsPairKey P w s.heap x a) (hy : IsPairKey P w s.heap y b) (h : Pd (.done (.ret (.bool (decide (x = y))))) s) :
    wpAny (model P w) A (Builtin.«tuple.__eq__» ⟨[.ref a, .ref b], []⟩) Pd E s := by
  have hTb := hy.typeIs
  obtain ⟨oa, na, ia, ta, hoa, _, hda, hia⟩ := hx
  obtain ⟨ob, nb, ib, tb, hob, _, hdb, hib⟩ := hy
  show wpAny _ _ (isInstance (.ref b) (.type "tuple") >>= _) _ _ s
  refine wpAny_bind (wpAny_isInstance hTb isSubtype_tuple_tuple ?_)
  simp only [Bool.not_true, Bool.false_eq_true, if_false]
  refine wpAny_bind (wpAny_tupleItemsOf hoa hda ?_)
  refine wpAny_bind (wpAny_tupleItemsOf hob hdb ?_)
  refine wpAny_bind ?_
  show wpAny _ _ (forIn [(Value.ref ia, Value.ref ib), (Value.int x.2 ta, Value.int y.2 tb)] _ _) _ _ s
  rw [List.forIn_cons]
  refine wpAny_bind (wpAny_bind (wpAny_eqBool_tuple (knd := intKind P w) hu hia hib ?_))
  by_cases h1 : x.1 = y.1
  · rw [decide_eq_true h1]
    simp only [Bool.not_true, Bool.false_eq_true, if_false]
    refine wpAny_pure ?_
    show wpAny _ _ (forIn [(Value.int x.2 ta, Value.int y.2 tb)] _ _) _ _ s
    rw [List.forIn_cons]
    refine wpAny_bind (wpAny_bind (wpAny_eqBool_int ?_))
    by_cases h2 : x.2 = y.2
    · rw [show (x.2 == y.2) = true by rw [h2]; exact beq_self_eq_true _]
      simp only [Bool.not_true, Bool.false_eq_true, if_false]
      refine wpAny_pure ?_
      show wpAny _ _ (forIn [] _ _) _ _ s
      rw [List.forIn_nil]
      refine wpAny_pure (wpAny_pure ?_)
      have e : decide (x = y) = true := decide_eq_true (Prod.ext h1 h2)
      rw [e] at h
      exact h
    · rw [show (x.2 == y.2) = false by exact beq_false_of_ne h2]
      simp only [Bool.not_false, if_true]
      have e : decide (x = y) = false := decide_eq_false fun z => h2 (congrArg Prod.snd z)
      rw [e] at h
      exact wpAny_bind (wpAny_pure (wpAny_pure (wpAny_pure (wpAny_pure h))))
  · rw [decide_eq_false h1]
    simp only [Bool.not_false, if_true]
    have e : decide (x = y) = false := decide_eq_false fun z => h1 (congrArg Prod.fst z)
    rw [e] at h
    exact wpAny_bind (wpAny_pure (wpAny_pure (wpAny_pure (wpAny_pure h))))
theorem eqBool_pair {x y : List Int × Int} {a b : Addr} {Q : Bool → Shared → Prop} (hu : A.units + 5 < cLine) (hx : IsPairKey P w s.heap x a) (hy : IsPairKey P w s.heap y b) (h : Q (decide (x = y)) s) :
    wpAny (model P w) A (eqBool (.ref a) (.ref b)) Q E s := by
  unfold eqBool
  try with_reducible refine wpAny_holding ?_
  show wpAny _ _ (if (Value.ref a == Value.ref b) = true then _ else _) Q E s
  by_cases hab : (Value.ref a == Value.ref b) = true
  · rw [if_pos hab]
    have e : a = b := by have := eq_of_beq hab; injection this
    subst e
    obtain rfl := hx.inj hy
    exact wpAny_bind (wpAny_rule (wpAny_pure (by simpa using h)))
  · rw [if_neg hab]
    exact wpAny_bind (wpAny_richCompare_same_room (op := .Eq) hx.typeIs hy.typeIs F.slot_tuple_eq
      (wpAny_call_entry F.slot_tuple_eq hx.typeIs F.entry_tuple_eq (pair_eq_tree (show A.units + 1 < cLine by omega) hx hy ⟨_, rfl, (fun e => nomatch e), wpAny_truthy_bool h⟩) (F.args_tuple_eq_2 _ _)) (by omega))
theorem quiet_in {ks : List Int} {a : Addr} {m : Nat} {Q : Bool → Shared → Prop} (hk : IsTupleKey (intKind P w) s.heap ks a) (h : Q true s) : wpAny (model P w) A (eqIsQuiet (m + 1) (.ref a)) Q E s := by
  have hT := hk.typeIs
  obtain ⟨o, items, n, ho, _, hd, hi⟩ := hk
  unfold eqIsQuiet
  refine wpAny_bind (wpAny_specialOf hT F.slot_tuple_eq.lookup ?_)
  show wpAny _ _ (isInstance (.ref a) (.type "tuple") >>= _) _ _ s
  refine wpAny_bind (wpAny_isInstance hT isSubtype_tuple_tuple ?_)
  simp only [Bool.not_true, Bool.false_eq_true, if_false]
  refine wpAny_bind (wpAny_seqItems ho hd ?_)
  refine wpAny_bind ?_
  show wpAny _ _ (forIn items _ _) _ _ s
  rw [← Array.forIn_toList]
  refine wpAny_forIn_list _ (fun rest r s' => r.1 = none ∧ s' = s ∧ ∀ v ∈ rest, carriedByValue v = true) _ ?_ ?_ _ _ ⟨rfl, rfl, hi.byValue⟩
  · rintro v rest r s' ⟨hr, rfl, hall⟩
    rw [eqIsQuiet_byValue _ (hall v List.mem_cons_self)]
    refine wpAny_bind (wpAny_pure ?_)
    simp only [Bool.not_true, Bool.false_eq_true, if_false]
    exact wpAny_pure ⟨rfl, rfl, fun u hu' => hall u (List.mem_cons_of_mem _ hu')⟩
  · rintro ⟨r1, r2⟩ s' ⟨hr, rfl, _⟩
    simp only at hr
    subst hr
    exact wpAny_pure h
theorem quiet_pair {k : List Int × Int} {a : Addr} {Q : Bool → Shared → Prop} (hk : IsPairKey P w s.heap k a) (h : Q true s) : wpAny (model P w) A (eqIsQuiet 8 (.ref a)) Q E s := by
  have hT := hk.typeIs
  obtain ⟨o, n, b, t, ho, _, hd, hi⟩ := hk
  unfold eqIsQuiet
  refine wpAny_bind (wpAny_specialOf hT F.slot_tuple_eq.lookup ?_)
  show wpAny _ _ (isInstance (.ref a) (.type "tuple") >>= _) _ _ s
  refine wpAny_bind (wpAny_isInstance hT isSubtype_tuple_tuple ?_)
  simp only [Bool.not_true, Bool.false_eq_true, if_false]
  refine wpAny_bind (wpAny_seqItems ho hd ?_)
  refine wpAny_bind ?_
  show wpAny _ _ (forIn #[Value.ref b, Value.int k.2 t] _ _) _ _ s
  rw [← Array.forIn_toList]
  show wpAny _ _ (forIn [Value.ref b, Value.int k.2 t] _ _) _ _ s
  rw [List.forIn_cons]
  refine wpAny_bind (wpAny_bind (quiet_in hi ?_))
  simp only [Bool.not_true, Bool.false_eq_true, if_false]
  refine wpAny_pure ?_
  show wpAny _ _ (forIn [Value.int k.2 t] _ _) _ _ s
  rw [List.forIn_cons, eqIsQuiet_byValue _ (v := Value.int k.2 t) rfl]
  refine wpAny_bind (wpAny_bind (wpAny_pure ?_))
  simp only [Bool.not_true, Bool.false_eq_true, if_false]
  refine wpAny_pure ?_
  show wpAny _ _ (forIn [] _ _) _ _ s
  rw [List.forIn_nil]
  exact wpAny_pure (wpAny_pure h)
def pairKind (P : Program) (w : World) : HeapKind P w (List Int × Int) where
  is := IsPairKey P w
  hash := pairHash P w
  draws := fun k => k.1.length + 3
  room := fun A => A.units + 5 < cLine
  inj := fun hx hy => hx.inj hy
  keeps := fun x ho hd hs => x.keeps ho hd hs
  pyHash := fun hu hk h => pyHash_pair hu hk h
  eqBool := fun hu hx hy h => eqBool_pair hu hx hy h
  quiet := fun hk h => quiet_pair hk h
end
end L2
namespace L2
open PySem
abbrev PKy := List Int × Int
abbrev PEs := List (PKy × Addr × V)
def pairH (k : PKy) : Int := reduceHash (Builtin.Tuple.tupleHashOf [reduceHash (Builtin.Tuple.tupleHashOf (k.1.map hashInt)), hashInt k.2])
abbrev PRel (p : PKy × Addr × V) (q : PKy × Addr × Value) : Prop := p.1 = q.1 ∧ p.2.1 = q.2.1 ∧ RelV p.2.2 q.2.2
def dpP (a : Addr) (xs : PEs) (ep : Nat) (h : Heap) : Prop := xs.length ≤ sizeLine ∧ (a == sysModules) = false ∧ ∃ ys : List (PKy × Addr × Value), Paired PRel xs ys ∧
  ∃ o es, h.get? a = some o ∧ o.ExactDict ∧ o.data = .dict es ep ∧ es.toList = ys.map (fun y => (⟨pairH y.1, .ref y.2.1, y.2.2⟩ : DictEntry)) ∧ (ys.map (·.1)).Nodup
def dpO (a : Addr) (xs : PEs) (ep : Nat) : HO := .ext (dpP a xs ep)
theorem dpO_ok {P : Program} {w : World} {H : Hp} {h : Heap} {a : Addr} {xs : PEs} {ep : Nat} (x : dpP a xs ep h) : ObjOk P w H h a (dpO a xs ep) :=
  ⟨x, let ⟨_, _, _, _, o, _, e, _⟩ := x; ⟨o, e⟩, fun _ _ ⟨z, y, ys, r, o, es, e, rest⟩ k => ⟨z, y, ys, r, o, es, k o e, rest⟩⟩
def KeyP (H : Hp) (k : PKy) (c : Addr) : Prop := ∃ b, H c = some (.tup [.ref b, .int k.2]) ∧ H b = some (.tup (k.1.map V.int))
def DP (H : Hp) (a : Addr) (xs : PEs) (ep : Nat) : Prop := H a = some (dpO a xs ep) ∧ ∀ x ∈ xs, KeyP H x.1 x.2.1
def valP (xs : PEs) (k : PKy) : Option V := (xs.find? fun x => decide (x.1 = k)).map (·.2.2)
section
variable {P : Program} {w : World} {H : Hp} {h : Heap} {a c : Addr} {k : PKy} {xs : PEs}
theorem ints_items : ∀ {ns : List Int} {its : List Value}, Vals (ns.map V.int) its → ItemsAre (intKind P w) ns its
  | [], _, .nil => .nil
  | n :: ns, _, .cons r t => by
    obtain ⟨tk, rfl⟩ := r
    exact .cons (by show Value.isInt n (.int n tk) = true; unfold Value.isInt; exact beq_self_eq_true _) (ints_items t)
theorem KeyP.is (ok : HOk P w H h) (e : KeyP H k c) : (pairKind P w).is h k c := by
  obtain ⟨b, e1, e2⟩ := e
  obtain ⟨_, its, r, o, h1, h2, ⟨n, h3⟩, _⟩ := (show ObjOk P w H h c (.tup [.ref b, .int k.2]) from ok c _ e1)
  obtain ⟨_, its', r', o', h1', h2', ⟨n', h3'⟩, _⟩ := (show ObjOk P w H h b (.tup (k.1.map V.int)) from ok b _ e2)
  obtain ⟨u, v, rfl, ru, rv⟩ := r.two
  obtain rfl : u = Value.ref b := ru
  obtain ⟨t, rfl⟩ := rv
  exact ⟨o, n, b, t, h1, h2, h3, o', its'.toArray, n', h1', h2', h3', by simpa using ints_items r'⟩
theorem DP.of {ep : Nat} (ok : HOk P w H h) (e : DP H a xs ep) : xs.length ≤ sizeLine ∧ (a == sysModules) = false ∧ ∃ ys, Paired PRel xs ys ∧ h.DictOfH (pairKind P w) a ys := by
  obtain ⟨z, y, ys, r, o, es, h1, h2, h3, h4, h5⟩ := (show dpP a xs ep h from (ok a _ e.1).1)
  refine ⟨z, y, ys, r, o, es, ep, h1, h2, h3, h4, ?_, h5⟩
  have all : ∀ {l : PEs} {m : List (PKy × Addr × Value)}, Paired PRel l m → (∀ x ∈ l, KeyP H x.1 x.2.1) → ∀ x ∈ m, (pairKind P w).is h x.1 x.2.1 := by
    intro l m q
    induction q with
    | nil => intro _ x hx; exact nomatch hx
    | @cons p q ps qs hq t ih =>
      intro hk x hx
      rcases List.mem_cons.mp hx with e | hx
      · subst e
        have := hk p (List.mem_cons_self ..)
        rw [hq.1, hq.2.1] at this
        exact this.is ok
      · exact ih (fun x hx => hk x (List.mem_cons_of_mem _ hx)) x hx
  exact all r e.2
theorem at_val : ∀ {xs : PEs} {ys : List (PKy × Addr × Value)}, Paired PRel xs ys → ∀ {v : V}, valP xs k = some v → ∃ p, atKey ys k = some p ∧ RelV v p.2
  | _, _, .nil, v, e => by cases e
  | x :: xs, y :: ys, .cons r t, v, e => by
    unfold valP at e
    unfold atKey
    rw [List.find?_cons] at e ⊢
    by_cases hk : x.1 = k
    · rw [decide_eq_true hk] at e
      rw [decide_eq_true (by rw [← r.1]; exact hk)]
      cases e
      exact ⟨_, rfl, r.2.2⟩
    · rw [decide_eq_false hk] at e
      rw [decide_eq_false (by rw [← r.1]; exact hk)]
      exact at_val t e
theorem at_none : ∀ {xs : PEs} {ys : List (PKy × Addr × Value)}, Paired PRel xs ys → valP xs k = none → atKey ys k = none
  | _, _, .nil, _ => rfl
  | x :: xs, y :: ys, .cons r t, e => by
    unfold valP at e
    unfold atKey
    rw [List.find?_cons] at e ⊢
    by_cases hk : x.1 = k
    · rw [decide_eq_true hk] at e; cases e
    · rw [decide_eq_false hk] at e
      rw [decide_eq_false (by rw [← r.1]; exact hk)]
      exact at_none t e
theorem rel_snoc : ∀ {xs : PEs} {ys : List (PKy × Addr × Value)}, Paired PRel xs ys → ∀ {p : PKy × Addr × V} {q : PKy × Addr × Value}, PRel p q → Paired PRel (xs ++ [p]) (ys ++ [q])
  | _, _, .nil, _, _, r => .cons r .nil
  | _, _, .cons r0 t, _, _, r => .cons r0 (rel_snoc t r)
end
theorem hu6 {A : Around} {k : Nat} (hr : Room k A) : A.units + 6 < cLine := Nat.lt_of_le_of_lt (Nat.add_le_add_left (by decide : 6 ≤ 64) _) hr.units
def tDNewP : TE := fun _ H Q => ∀ p ep, H p = none → Q (.ref p) (upd H p (dpO p [] ep))
def KeyQ (K : PySem.W.Frag) (H : Hp) (k : PKy) (c : Addr) : Prop := ∃ b, SqT K H c [.ref b, .int k.2] ∧ SqT K H b (k.1.map V.int)
theorem KeyP.q {K : PySem.W.Frag} {H : Hp} {k : PKy} {c : Addr} (e : KeyP H k c) : KeyQ K H k c := let ⟨b, h1, h2⟩ := e; ⟨b, .of h1, .of h2⟩
theorem KeyQ.is {X : Cx} {pins : List (Addr × Obj)} {σ : St} {H : Hp} {s : Shared} {k : PKy} {c : Addr} (I : Inv X pins σ H s) (e : KeyQ X.K H k c) : (pairKind X.prog X.w).is s.heap k c := by
  obtain ⟨b, e1, e2⟩ := e
  obtain ⟨its, r, ⟨o, h1, h2, n, h3⟩, _⟩ := I.tuple e1
  obtain ⟨its', r', ⟨o', h1', h2', n', h3'⟩, _⟩ := I.tuple e2
  obtain ⟨u, v, rfl, ru, rv⟩ := r.two
  obtain rfl : u = Value.ref b := ru
  obtain ⟨t, rfl⟩ := rv
  exact ⟨o, n, b, t, h1, h2, h3, o', its'.toArray, n', h1', h2', h3', by simpa using ints_items r'⟩
def tPGet (K : PySem.W.Frag) (td ty : TE) : TE := fun σ H Q => td σ H fun x H1 => ty σ H1 fun y H2 => ∃ a c xs ep k v, x = .ref a ∧ y = .ref c ∧ DP H2 a xs ep ∧ KeyQ K H2 k c ∧ valP xs k = some v ∧ Q v H2
def sPPut (td ty tv : TE) : TS := fun D σ H => tv σ H fun v H1 => td σ H1 fun x H2 => ty σ H2 fun y H3 => ∃ a c xs ep k, x = .ref a ∧ y = .ref c ∧ DP H3 a xs ep ∧ KeyP H3 k c ∧ valP xs k = none ∧ xs.length < sizeLine ∧ ∀ ep', D.nx σ (upd H3 a (dpO a (xs ++ [(k, c, v)]) ep'))
section
variable {X : Cx} {o i value : Expr} {pos pos' : Pos} {td ty tv : TE}
theorem pe_dnewP : PE X (.Dict [] [] pos) tDNewP := fun pins s σ H Q I h =>
  wpAny_Dict_empty ⟨.ref s.heap.objs.size, _, I.laid (a := s.heap.objs.size) (o := dpO s.heap.objs.size [] 0) (t' := s.toks) (fun _ _ q => Heap.get?_push_of_some _ q) (Nat.le_refl _)
    (dpO_ok ⟨Nat.zero_le _, beq_eq_false_iff_ne.mpr (Ne.symm (Nat.ne_of_lt I.big)), [], .nil, _, #[], Heap.get?_push_size _ rfl, ⟨rfl, rfl, rfl⟩, rfl, rfl, List.nodup_nil⟩), rfl, h _ 0 (I.hok.fresh (Nat.le_refl _))⟩
theorem pe_pget {K : PySem.W.Frag} (hK : X.K = K) (hu : X.A.units + 6 < cLine) (ho : PE X o td) (hi : PE X i ty) (hs : NoSl i) : PE X (.Subscript o i pos) (tPGet K td ty) := by
  subst hK
  intro pins s σ H Q I h
  refine subD_of PySem.F.slot_dict_getitem.lookup hs (thn (ho pins s σ H _ I h) fun u s1 ⟨x, H1, I1, rx, q1⟩ => thn (hi pins s1 σ H1 _ I1 q1) fun iv s2 ⟨y, H2, I2, ry, a, c, xs, ep, k, v, ex, ey, dp, kp, hv, q2⟩ => ?_)
  subst ex ey
  obtain rfl : u = Value.ref a := rx
  obtain rfl : iv = Value.ref c := ry
  obtain ⟨_, _, ys, r, dd⟩ := dp.of I2.hok
  obtain ⟨p, hp, rp⟩ := at_val r hv
  exact ⟨dd.typeIs, wpAny_getItem_heap (knd := pairKind X.prog X.w) (show X.A.units + 1 + 5 < cLine by omega) (kp.is I2) dd hp ⟨v, H2, I2.tok _, rp, q2⟩⟩
theorem ps_pput (hu : X.A.units + 6 < cLine) (ho : PE X o td) (hi : PE X i ty) (hv : PE X value tv) (hs : swapsWith value (some (.Subscript o i pos')) pos.line X.env = pure false) :
    PS X (.Assign [.Subscript o i pos'] value pos) (sPPut td ty tv) := by
  intro pins s σ H D I h
  refine wpAny_Assign_Subscript (thn (hv pins s σ H _ I h) fun r s1 ⟨v, H1, I1, rv, q1⟩ => thn (ho pins s1 σ H1 _ I1 q1) fun u s2 ⟨x, H2, I2, rx, q2⟩ => thn (hi pins s2 σ H2 _ I2 q2) fun iv s3 ⟨y, H3, I3, ry, a, c, xs, ep, k, ex, ey, dp, kp, hn, hz, q3⟩ => ?_) hs
  subst ex ey
  obtain rfl : u = Value.ref a := rx
  obtain rfl : iv = Value.ref c := ry
  obtain ⟨_, hd, ys, rel, dd⟩ := dp.of I3.hok
  have hl : xs.length = ys.length := Paired.length rel
  refine wpAny_setItem_heap (knd := pairKind X.prog X.w) (hsz := by omega) (show X.A.units + 1 + 5 < cLine by omega) (kp.is I3.hok) dd fun h' dd' hsb => ?_
  rw [storedH_new (at_none rel hn)] at dd'
  obtain ⟨q, es, ep', hq, h2, h3, h4, _, h5⟩ := dd'
  exact ⟨σ, _, d_write I3 (by rw [dp.1]; exact True.intro) hsb ⟨q, hq⟩ (dpO_ok ⟨by rw [List.length_append]; exact hz, hd, _, rel_snoc rel ⟨rfl, rfl, rv⟩, q, es, hq, h2, h3, h4, h5⟩), q3 ep'⟩
end
end L2
namespace L2
open PySem PySem.Spec PyProof.Rows
section
variable {prog : Program} {w : World} {A : Around} {E : Value → Shared → Prop} {s : Shared} {d : Addr} {o : Obj} {es : Array DictEntry} {ep : Nat}
abbrev itmV (d : Addr) : Obj := { cls := .type "dict_items", data := .fields #[.ref d] }
abbrev itmI (d : Addr) (n ep : Nat) : Obj := { cls := .type "dict_itemiterator", data := .fields #[.none, .bool false, .ref d, .int 0 0, .int n 0, .int ep 0, .none, .none] }
theorem call_itemsO {Q : Value → Shared → Prop} (hd : (d == sysModules) = false) (hT : s.TypeIs (.ref d) "dict") (h : Q (.ref s.heap.objs.size) { s with heap := s.heap.push (itmV d) }) : wpAny (model prog w) A (call (.builtin "dict.items") [.ref d]) Q E s := by
  refine wpAny_call_entry F.slot_dict_items hT F.entry_dict_items ?_ (F.args_dict_items_1 _)
  unfold Builtin.«dict.items» Builtin.Dict.noArgs
  refine wpAny_bind (wpAny_bind (wpAny_notOrdered_dict hT (wpAny_pure ?_)))
  show wpAny _ _ (Builtin.Dict.showsAll d >>= _) _ _ s
  unfold Builtin.Dict.showsAll; rw [if_neg (by rw [hd]; exact Bool.false_ne_true)]
  refine wpAny_bind (wpAny_pure (wpAny_bind (wpAny_newObj_type (wpAny_pure ⟨_, rfl, h⟩))))
theorem iter_itemsO {v : Addr} {Q : Value → Shared → Prop} (hv : s.heap.IsItemsView v d) (ho : s.heap.get? d = some o) (hd : o.data = .dict es ep) (h : Q (.ref s.heap.objs.size) { s with heap := s.heap.push (itmI d es.size ep) }) : wpAny (model prog w) A (pyIter (.ref v)) Q E s := by
  have hT := hv.typeIs
  obtain ⟨ov, hov, hcv, hdv⟩ := hv
  refine wpAny_pyIter_slot hT F.slot_dict_items_iter (wpAny_call_entry F.slot_dict_items_iter hT F.entry_dict_items_iter ?_ (F.args_dict_items_iter_1 _))
  unfold Builtin.«dict_items.__iter__» Builtin.Dict_items.dictOf
  refine wpAny_bind (wpAny_pure (wpAny_bind (wpAny_bind (wpAny_field hov hdv (x := .ref d) rfl (wpAny_pure (wpAny_bind ?_))))))
  unfold Builtin.Dict_items.newIterator
  refine wpAny_bind (wpAny_dictEntries ho hd (wpAny_bind (wpAny_dictEpoch ho hd ?_)))
  simp only [show Builtin.Dict_items.ownsTuple "dict_itemiterator" = true by decide, if_true]
  refine wpAny_newObj_type (wpAny_pure ⟨_, rfl, "dict_itemiterator", _, ⟨_, Heap.get?_push_size _ rfl, rfl⟩, F.slot_dict_itemiterator_next.lookup, ?_⟩) (by simp only [sizeOk, Builtin.Dict_items.ownedTupleFields, List.size_toArray, List.length_append, List.length_cons, List.length_nil, sizeLine_eq]; omega)
  simpa [rawInt, Builtin.Dict_items.ownedTupleFields] using h
theorem next_itemsO {it : Addr} {i : Nat} {e : DictEntry} {k0 v0 : Value} {Q : Option Value → Shared → Prop} (hit : IsItemIter s.heap it d i es.size ep k0 v0) (ho : s.heap.get? d = some o) (hd : o.data = .dict es ep) (hx : es[i]? = some e)
    (q : ∀ h', IsItemIterOut h' it d (i + 1) es.size ep e.key e.val s.heap.objs.size → h'.get? s.heap.objs.size = some { cls := .type "tuple", data := .seq #[e.key, e.val] } → h'.objs.size = s.heap.objs.size + 1 →
      (∀ b o, b ≠ it → s.heap.get? b = some o → h'.get? b = some o) → Q (some (.ref s.heap.objs.size)) { s with heap := h' }) :
    wpAny (model prog w) A (pyNext (.ref it)) Q E s := by
  obtain ⟨hp, g, dr, tk, os⟩ := s
  have hT : Shared.TypeIs ⟨hp, g, dr, tk, os⟩ (.ref it) "dict_itemiterator" := ⟨_, hit, rfl⟩
  unfold pyNext
  refine wpAny_bind (wpAny_attempt (wpAny_callSpecial?_slot (name := Str.ofString "__next__") hT F.slot_dict_itemiterator_next (wpAny_call_entry F.slot_dict_itemiterator_next hT F.entry_dict_itemiterator_next ?_ (F.args_dict_itemiterator_next_1 _))))
  refine wpAny_bind (wpAny_pure (wpAny_bind (wpAny_bind ?_)))
  first | refine wpAny_bind (wpAny_typeNameOfWhole_itemiter hT (wpAny_pure (wpAny_bind (wpAny_fieldsOf hit rfl ?_)))) | refine wpAny_bind (wpAny_typeNameOf_itemiter hT (wpAny_pure (wpAny_bind (wpAny_fieldsOf hit rfl ?_))))
  simp only [show Builtin.Dict_items.ownsTuple "dict_itemiterator" = true by decide, if_true]
  show wpAny _ _ (if (Value.ref d == Value.none) = true then _ else _) _ _ _
  rw [if_neg (by exact Bool.false_ne_true)]
  refine wpAny_bind (wpAny_pure (wpAny_bind (wpAny_dictEntries ho hd ?_)))
  rw [if_neg (by simp)]
  refine wpAny_bind (wpAny_pure (wpAny_bind (wpAny_dictEpoch ho hd ?_)))
  rw [if_neg (by simp)]
  refine wpAny_pure ?_
  have lt : i < es.size := by
    rcases Nat.lt_or_ge i es.size with h | h
    · exact h
    · rw [Array.getElem?_eq_none h] at hx; cases hx
  rw [Array.getElem?_eq_getElem lt] at hx
  have hx := Option.some.inj hx
  simp only [show ¬ ((i : Int) < 0) from by omega, if_false, Int.toNat_natCast, Array.getElem?_eq_getElem lt, hx]
  refine wpAny_bind ?_
  first | refine wpAny_bind (wpAny_typeNameOfWhole_itemiter hT (wpAny_pure (wpAny_bind (wpAny_isOneOf_itemiter hT ?_)))) | refine wpAny_bind (wpAny_typeNameOf_itemiter hT (wpAny_pure (wpAny_bind (wpAny_isOneOf_itemiter hT ?_))))
  show wpAny _ _ (setField (.ref it) 3 (rawInt ((i : Int) + 1)) >>= _) _ _ _
  refine wpAny_bind (wpAny_setField_rec hit (by simp) fun h1 r1 s1 => ?_)
  replace s1 : Heap.SameBut it hp h1 := s1
  replace r1 : IsItemIter h1 it d (i + 1) es.size ep k0 v0 := by
    unfold IsItemIter; rw [show ((i + 1 : Nat) : Int) = (i : Int) + 1 by omega]; simpa [rawInt] using r1
  have T1 : Shared.TypeIs ⟨h1, g, dr, tk, os⟩ (.ref it) "dict_itemiterator" := ⟨_, r1, rfl⟩
  refine wpAny_bind (wpAny_holding (wpAny_bind (wpAny_isOneOf_itemiter T1 (wpAny_bind (wpAny_isOneOf_itemiter T1 ?_)))))
  show wpAny _ _ (Builtin.Dict_items.pairFromOwner (.ref it) 6 e.key e.val) _ _ ⟨h1, g, dr, tk, os⟩
  unfold Builtin.Dict_items.pairFromOwner
  refine wpAny_bind (wpAny_newTuple ?_)
  have r2 : IsItemIter (h1.push { cls := .type "tuple", data := .seq #[e.key, e.val] }) it d (i + 1) es.size ep k0 v0 := Heap.get?_push_of_some _ r1
  generalize e2 : h1.push { cls := .type "tuple", data := .seq #[e.key, e.val] } = h2 at r2
  have z1 : h1.objs.size = hp.objs.size := s1.1
  have il : it < hp.objs.size := Heap.lt_size hit
  have t2 : h2.get? hp.objs.size = some { cls := .type "tuple", data := .seq #[e.key, e.val] } := by rw [← e2, ← z1]; exact Heap.get?_push_size _ rfl
  have z2 : h2.objs.size = hp.objs.size + 1 := by rw [← e2, Heap.size_push, z1]
  have k2 : ∀ b o, b ≠ it → hp.get? b = some o → h2.get? b = some o := fun b o hb e => by rw [← e2]; exact Heap.get?_push_of_some _ (s1.extBut b o hb e)
  show wpAny _ _ (Builtin.Dict_items.ownedTupleIsFree (.ref it) >>= _) _ _ ⟨h2, g, dr, tk, os⟩
  rw [z1]
  clear e2 r1 s1 T1 z1 h1
  unfold Builtin.Dict_items.ownedTupleIsFree
  refine wpAny_bind (wpAny_bind (wpAny_field r2 rfl (x := .none) rfl (wpAny_pure ?_)))
  simp only [if_true]
  refine wpAny_bind (wpAny_field r2 rfl (x := k0) rfl (wpAny_bind (wpAny_field r2 rfl (x := v0) rfl (wpAny_bind (wpAny_setField_rec r2 (by simp) fun h3 r3 s3 => ?_)))))
  replace s3 : Heap.SameBut it h2 h3 := s3
  replace r3 : IsItemIter h3 it d (i + 1) es.size ep e.key v0 := r3
  refine wpAny_bind (wpAny_setField_rec r3 (by simp) fun h4 r4 s4 => ?_)
  replace s4 : Heap.SameBut it h3 h4 := s4
  replace r4 : IsItemIter h4 it d (i + 1) es.size ep e.key e.val := r4
  refine wpAny_bind (wpAny_setField_rec r4 (by simp) fun h5 r5 s5 => ?_)
  replace s5 : Heap.SameBut it h4 h5 := s5
  replace r5 : IsItemIterOut h5 it d (i + 1) es.size ep e.key e.val hp.objs.size := r5
  refine wpAny_bind (wpAny_setField_rec r5 (by simp) fun h6 r6 s6 => ?_)
  replace s6 : Heap.SameBut it h5 h6 := s6
  replace r6 : IsItemIterOut h6 it d (i + 1) es.size ep e.key e.val hp.objs.size := r6
  have up : ∀ b o, b ≠ it → h2.get? b = some o → h6.get? b = some o := fun b o n e => s6.extBut _ _ n (s5.extBut _ _ n (s4.extBut _ _ n (s3.extBut _ _ n e)))
  refine wpAny_bind (wpAny_letGo (wpAny_pure (wpAny_pure ⟨_, rfl, wpAny_pure (q h6 r6 (up _ _ (Nat.ne_of_gt il) t2) ?_ fun b o n e => up b o n (k2 b o n e))⟩)))
  show h6.objs.size = hp.objs.size + 1
  rw [s6.1, s5.1, s4.1, s3.1, z2]
theorem end_itemsO {it : Addr} {k0 v0 : Value} {Q : Option Value → Shared → Prop} (hh : A.handled = none) (hit : IsItemIter s.heap it d es.size es.size ep k0 v0) (ho : s.heap.get? d = some o) (hd : o.data = .dict es ep)
    (q : ∀ h', Heap.ExtBut it s.heap h' → Q none { s with heap := h' }) : wpAny (model prog w) A (pyNext (.ref it)) Q E s := by
  have hT : s.TypeIs (.ref it) "dict_itemiterator" := ⟨_, hit, rfl⟩
  unfold pyNext
  refine wpAny_bind (wpAny_attempt (wpAny_callSpecial?_slot (name := Str.ofString "__next__") hT F.slot_dict_itemiterator_next (wpAny_call_entry F.slot_dict_itemiterator_next hT F.entry_dict_itemiterator_next ?_ (F.args_dict_itemiterator_next_1 _))))
  refine wpAny_bind (wpAny_pure (wpAny_bind (wpAny_bind ?_)))
  first | refine wpAny_bind (wpAny_typeNameOfWhole_itemiter hT (wpAny_pure (wpAny_bind (wpAny_fieldsOf hit rfl ?_)))) | refine wpAny_bind (wpAny_typeNameOf_itemiter hT (wpAny_pure (wpAny_bind (wpAny_fieldsOf hit rfl ?_))))
  simp only [show Builtin.Dict_items.ownsTuple "dict_itemiterator" = true by decide, if_true]
  show wpAny _ _ (if (Value.ref d == Value.none) = true then _ else _) _ _ _
  rw [if_neg (by exact Bool.false_ne_true)]
  refine wpAny_bind (wpAny_pure (wpAny_bind (wpAny_dictEntries ho hd ?_)))
  rw [if_neg (by simp)]
  refine wpAny_bind (wpAny_pure (wpAny_bind (wpAny_dictEpoch ho hd ?_)))
  rw [if_neg (by simp)]
  refine wpAny_pure ?_
  simp only [show ¬ ((es.size : Int) < 0) from by omega, if_false, Int.toNat_natCast, Array.getElem?_eq_none (Nat.le_refl es.size)]
  refine wpAny_bind ?_
  first | refine wpAny_bind (wpAny_typeNameOfWhole_itemiter hT (wpAny_pure ?_)) | refine wpAny_bind (wpAny_typeNameOf_itemiter hT (wpAny_pure ?_))
  show wpAny _ _ (setField (.ref it) 2 .none >>= _) _ _ s
  refine wpAny_bind (wpAny_setField hit rfl (by simp) ?_)
  show wpAny _ _ (newExc (.type "StopIteration") [] >>= _) _ _ _
  simp only [newExc, newTuple]
  refine wpAny_bind (wpAny_bind (wpAny_newObj_type (wpAny_bind (m := firstArgMember _ _) (wpAny_of_eq (a := Value.none) (by first | rfl | (simp only [firstArgMember]; rfl)) (wpAny_newObj_type ?_ (by size_fits)))) (by size_fits)))
  simp only [raiseNew]
  refine wpAny_bind (wpAny_handled ?_)
  rw [show A.in1.handled = none from hh]
  refine wpAny_bind (wpAny_pure (wpAny_throw ?z))
  case z => refine wpAny_bind (wpAny_isInstance (T := "StopIteration") (b := true) ⟨_, Heap.get?_push_size _ rfl, rfl⟩ isSubtype_stop ?z)
            case z => exact wpAny_pure (q _ (((Heap.SameBut.update ..).extBut.push _).push _))
end
end L2
namespace L2
open PySem PySem.Spec PyProof.Rows
def Iti (d : Addr) (xs : PEs) (ep : Nat) : It :=
  ⟨fun i H => i < xs.length ∧ H d = some (dpO d xs ep), fun i H v H' => ∃ p x, v = .ref p ∧ H p = none ∧ xs[i]? = some x ∧ H' = upd H p (.tup [.ref x.2.1, x.2.2]), fun i H => i = xs.length ∧ H d = some (dpO d xs ep)⟩
theorem rel_at : ∀ {xs : PEs} {ys : List (PKy × Addr × Value)}, Paired PRel xs ys → ∀ {i : Nat} {x : PKy × Addr × V}, xs[i]? = some x → ∃ y, ys[i]? = some y ∧ PRel x y
  | _, _, .nil, _, _, h => by cases h
  | _, _, .cons r t, 0, x, h => by
    simp only [List.getElem?_cons_zero, Option.some.injEq] at h
    subst h
    exact ⟨_, by simp, r⟩
  | _, _, .cons _ t, i + 1, x, h => by
    obtain ⟨y, e, r⟩ := rel_at t (i := i) (by simpa using h)
    exact ⟨y, by simpa using e, r⟩
theorem dp_at {P : Program} {w : World} {H : Hp} {h : Heap} {d : Addr} {xs : PEs} {ep : Nat} (ok : HOk P w H h) (hd : H d = some (dpO d xs ep)) : (d == sysModules) = false ∧ ∃ o es, h.get? d = some o ∧ o.ExactDict ∧ o.data = .dict es ep ∧ es.size = xs.length ∧ ∀ (i : Nat) (x : PKy × Addr × V), xs[i]? = some x → ∃ (e : DictEntry) (v : Value), es[i]? = some e ∧ e.key = .ref x.2.1 ∧ e.val = v ∧ RelV x.2.2 v := by
  obtain ⟨z, y, ys, r, o, es, h1, h2, h3, h4, h5⟩ := (show dpP d xs ep h from (ok d _ hd).1)
  have hl : xs.length = ys.length := Paired.length r
  have hz : es.size = xs.length := by rw [hl, ← Array.length_toList, h4, List.length_map]
  refine ⟨y, o, es, h1, h2, h3, hz, fun i x hx => ?_⟩
  obtain ⟨q, hq, rq⟩ := rel_at r hx
  refine ⟨⟨pairH q.1, .ref q.2.1, q.2.2⟩, q.2.2, ?_, by rw [rq.2.1], rfl, rq.2.2⟩
  rw [← Array.getElem?_toList, h4, List.getElem?_map, hq]; rfl
theorem turn_items {P : Program} {w : World} {K : PySem.W.Frag} {es : List Expr} {k : Nat} {pos : Pos} {d it : Addr} {xs : PEs} {ep : Nat} (hne : d ≠ it) :
    Turn P w K (.Tuple es k pos) (Iti d xs ep) [it] it (fun i h => ∃ k0 v0, IsItemIter h it d i xs.length ep k0 v0) where
  mem := by simp
  obj := fun i h ⟨k0, v0, e⟩ b hb => by
    obtain rfl : b = it := by simpa using hb
    exact ⟨_, e, fun v z => by cases z⟩
  keep := fun i h h' ⟨k0, v0, e⟩ kp => ⟨k0, v0, kp it (by simp) _ e⟩
  item := by
    intro X hP hw hK hc i pins s σ H E I hf st hg
    subst hP hw hK
    obtain ⟨k0, v0, st⟩ := st
    obtain ⟨hi, hd⟩ := hg
    obtain ⟨_, o, es', h1, h2, h3, hz, hat⟩ := dp_at I.hok hd
    obtain ⟨e, v, he, ek, ev, rv⟩ := hat i xs[i] (List.getElem?_eq_getElem hi)
    rw [← hz] at st
    refine next_itemsO st h1 h3 he fun h' g1 g3 g4 kp => ⟨_, rfl, ?_⟩
    refine wpAny_letOwnedTupleGo_items (s := { s with heap := h' }) g1 fun h2' g1' sb => ?_
    have hn : H s.heap.objs.size = none := I.hok.fresh (Nat.le_refl _)
    have lt : it < s.heap.objs.size := Heap.lt_size st
    have I1 : Inv X pins σ (upd H s.heap.objs.size (.tup [.ref xs[i].2.1, xs[i].2.2])) { s with heap := s.heap.push { cls := .type "tuple", data := .seq #[e.key, e.val] } } :=
      I.laid (t' := s.toks) (fun c o e => Heap.get?_push_of_some _ e) (Nat.le_refl _) (show ObjOk X.prog X.w _ _ _ (.tup [.ref xs[i].2.1, xs[i].2.2]) from ⟨show 2 ≤ sizeLine by decide, [e.key, e.val], .cons ek (.cons (by rw [ev]; exact rv) .nil), TupN.new _ _⟩)
    have hf1 : ∀ c ∈ [it], FpOk X pins (upd H s.heap.objs.size (.tup [.ref xs[i].2.1, xs[i].2.2])) c := fun c hb => by
      obtain rfl : c = it := by simpa using hb
      obtain ⟨f0, f⟩ := hf c hb
      exact ⟨by rw [upd_ne (Nat.ne_of_lt lt)]; exact f0, f⟩
    have I2 : Inv X pins σ (upd H s.heap.objs.size (.tup [.ref xs[i].2.1, xs[i].2.2])) { s with heap := h' } := I1.turnedL (t' := s.toks) hf1 fun c o nb e => by
      rcases Heap.get?_push_cases e with ⟨eb, eo⟩ | e
      · subst eb; subst eo
        exact g3
      · exact kp c o (fun q => nb (by simp [q])) e
    have I3 : Inv X pins σ (upd H s.heap.objs.size (.tup [.ref xs[i].2.1, xs[i].2.2])) { s with heap := h2' } := I2.turnedL (t' := s.toks) hf1 fun c o nb e => sb.extBut _ _ (fun q => nb (by simp [q])) e
    rw [hz] at g1'
    exact ⟨.ref s.heap.objs.size, _, I3, rfl, ⟨_, xs[i], rfl, hn, List.getElem?_eq_getElem hi, rfl⟩, ⟨_, _, g1'⟩, fun c hb => (hf1 c hb).1⟩
  done := by
    intro X hP hw hK hc i pins s σ H E I hf st hg
    subst hP hw hK
    obtain ⟨k0, v0, st⟩ := st
    obtain ⟨hi, hd⟩ := hg
    subst hi
    obtain ⟨_, o, es', h1, h2, h3, hz, _⟩ := dp_at I.hok hd
    rw [← hz] at st
    refine end_itemsO (I.ok.hd hc) st h1 h3 fun h' kp => ⟨rfl, ?_⟩
    exact I.turnedL (t' := s.toks) hf fun c o n e => kp c o (fun q => n (by simp [q])) e
  self := fun _ _ s _ _ st q => by
    obtain ⟨k0, v0, st⟩ := st
    exact PySem.W.kcp_self st q
def iItems (td : TE) : TI := fun σ H R => td σ H fun x H1 => ∃ d xs ep, x = .ref d ∧ H1 d = some (dpO d xs ep) ∧ R (Iti d xs ep) H1
theorem pi_items {X : Cx} {es : List Expr} {k : Nat} {po apos cpos : Pos} {o : Expr} {td : TE} (ho : PE X o td)
    (hbase : attributeBase o "items" X.env (eval o X.env) = eval o X.env := by rfl) (hline : (apos.endLine == cpos.line) = true := by rfl) :
    PI X (.Tuple es k po) (.Call (.Attribute o "items" apos) [] [] cpos) (iItems td) := by
  intro pins s σ H R I h
  refine wpAny_Call_method0_late hbase hline (thn (ho pins s σ H _ I h) fun v s1 ⟨x, H1, I1, r1, d, xs, ep, ex, hd, q1⟩ => ?_)
  subst ex
  obtain rfl : v = Value.ref d := r1
  obtain ⟨ysm, ob, es', h1, h2, h3, hz, _⟩ := dp_at I1.hok hd
  have hT : s1.TypeIs (.ref d) "dict" := ⟨ob, h1, h2.1⟩
  refine ⟨"dict", "dict.items", F.plainAttrs_dict, F.slot_dict_items, F.type_dict_items, hT, fun a ea => by cases ea; exact ⟨ob, h1, h2.2.1⟩, Calls.callWith_builtin rfl (PySem.evalArgs_none (call_itemsO ysm hT ?_))⟩
  have hv : (s1.heap.push (itmV d)).IsItemsView s1.heap.objs.size d := ⟨_, Heap.get?_push_size _ rfl, rfl, rfl⟩
  have h1' : (s1.heap.push (itmV d)).get? d = some ob := Heap.get?_push_of_some _ h1
  refine iter_itemsO (s := { s1 with heap := s1.heap.push (itmV d) }) hv h1' h3 ?_
  have I2 : Inv X pins σ H1 { s1 with heap := s1.heap.push (itmV d) } := I1.kept (t' := s1.toks) fun b o e => Heap.get?_push_of_some _ e
  have I3 : Inv X pins σ H1 { s1 with heap := (s1.heap.push (itmV d)).push (itmI d es'.size ep) } := I2.kept (t' := s1.toks) fun b o e => Heap.get?_push_of_some _ e
  have hne : d ≠ (s1.heap.push (itmV d)).objs.size := Nat.ne_of_lt (Heap.lt_size h1')
  refine ⟨_, [(s1.heap.push (itmV d)).objs.size], _, _, H1, rfl, I3, turn_items hne, ⟨_, _, by rw [← hz]; exact Heap.get?_push_size _ rfl⟩, fun c hb => ?_, q1⟩
  obtain rfl : c = (s1.heap.push (itmV d)).objs.size := by simpa using hb
  exact I2.fpOk (Nat.le_refl _) (I2.hok.fresh (Nat.le_refl _))
theorem for_items {d : Addr} {xs : PEs} {ep : Nat} {g : TG} {tb : TS} {D : Ends} {σ : St} {H : Hp} (Pv : Nat → St → Hp → Prop) (h0 : Pv 0 σ H) (hl : ∀ i σ H, i ≤ xs.length → Pv i σ H → H d = some (dpO d xs ep))
    (hs : ∀ i x σ H p, xs[i]? = some x → H p = none → Pv i σ H → g (.ref p) σ (upd H p (.tup [.ref x.2.1, x.2.2])) fun σ2 H2 => tb { D with nx := Pv (i + 1), ct := Pv (i + 1), bk := D.nx } σ2 H2) (hd : ∀ σ H, Pv xs.length σ H → D.nx σ H) :
    tLoop (Iti d xs ep) g tb D σ H := by
  refine ⟨fun i m σ H => m = xs.length - i ∧ i ≤ xs.length ∧ Pv i σ H, ⟨xs.length, by simp, Nat.zero_le _, h0⟩, ?_⟩
  rintro i m σ H ⟨rfl, hi, p⟩
  have q1 := hl i σ H hi p
  by_cases hlt : i < xs.length
  · refine .inr ⟨⟨hlt, q1⟩, Pv (i + 1), fun σ' H' p' => ⟨xs.length - (i + 1), by omega, rfl, hlt, p'⟩, fun v H' ⟨a, x, e1, e2, e3, e4⟩ => ?_⟩
    subst e1; subst e4
    exact hs i x σ H a e3 e2 p
  · obtain rfl : i = xs.length := by omega
    exact .inl ⟨⟨rfl, q1⟩, hd σ H p⟩
def Itv (K : PySem.W.Frag) (l : Addr) (n : Nat) : It :=
  ⟨fun i H => i < n ∧ ∃ xs, SqL K H l xs ∧ xs.length = n, fun i H x H' => H' = H ∧ ∀ xs, SqL K H l xs → xs[n - 1 - i]? = some x, fun i H => i = n ∧ ∃ xs, SqL K H l xs ∧ xs.length = n⟩
theorem turn_rev {P : Program} {w : World} {K : PySem.W.Frag} {tg : Expr} {l it : Addr} {n : Nat} (hne : l ≠ it) : Turn P w K tg (Itv K l n) [it] it (fun i h => h.IsRevIter it l ((n : Int) - 1 - (i : Int))) where
  mem := by simp
  obj := fun i h st b hb => by
    obtain rfl : b = it := by simpa using hb
    obtain ⟨o, e, c, d⟩ := st
    exact ⟨o, e, fun v z => by rw [d] at z; cases z⟩
  keep := fun i h h' st k => st.at fun o e => k it (by simp) o e
  item := by
    intro X hP hw hK hc i pins s σ H E I hf st hg
    subst hP hw hK
    obtain ⟨hi, xs, hq, hn⟩ := hg
    obtain ⟨its, r, pl, hz⟩ := I.list hq
    have hl : its.toArray.size = n := by rw [List.size_toArray, ← r.length, hn]
    obtain ⟨f0, f1, f2, f3, f4, f5⟩ := hf it (by simp)
    have W := Walks.listRev (prog := X.prog) (w := X.w) (I.ok.hd hc) it l hne its.toArray
    rw [hl] at W
    refine W.item i s _ _ hi ⟨by omega, st, pl.isList⟩ fun v h' tk hv st' kk => ?_
    have I1 : Inv X pins σ H { s with heap := h', toks := tk } := I.turned (fun b o hb e => kk b o (by simpa using hb) e) f0 f1 f3 f4 f5
    have st1 := st'.2.1
    obtain ⟨o1, e1, c1, d1⟩ := id st1
    have hx : xs[n - 1 - i]? = some (xs[n - 1 - i]'(by omega)) := List.getElem?_eq_getElem (by omega)
    obtain ⟨u, hu, ru⟩ := r.get hx
    obtain rfl : u = v := by rw [List.getElem?_toArray, hu] at hv; exact Option.some.inj hv
    exact ⟨u, rfl, go_of (s := { s with heap := h', toks := tk }) e1 c1 d1 (by decide) ⟨xs[n - 1 - i]'(by omega), H, I1, ru, ⟨rfl, fun ys hy => by rw [I.list_inj hy hq]; exact hx⟩, st1, fun b hb => (hf b hb).1⟩⟩
  done := by
    intro X hP hw hK hc i pins s σ H E I hf st hg
    subst hP hw hK
    obtain ⟨hi, xs, hq, hn⟩ := hg
    subst hi
    obtain ⟨its, r, pl, hz⟩ := I.list hq
    have hl : its.toArray.size = i := by rw [List.size_toArray, ← r.length, hn]
    obtain ⟨f0, f1, f2, f3, f4, f5⟩ := hf it (by simp)
    have W := Walks.listRev (prog := X.prog) (w := X.w) (I.ok.hd hc) it l hne its.toArray
    rw [hl] at W
    refine W.done s _ _ ⟨Nat.le_refl _, st, pl.isList⟩ fun h' tk kk => ⟨rfl, I.turned (fun b o hb e => kk b o (by simpa using hb) e) f0 f1 f3 f4 f5⟩
  self := fun _ _ _ _ _ st h => wpAny_pyIter_revIter st h
def iRev (K : PySem.W.Frag) (ta : TA) : TI := fun σ H R => ta σ H fun vs H1 => ∃ l xs, vs = [.ref l] ∧ SqL K H1 l xs ∧ R (Itv K l xs.length) H1
theorem bt_reversed : bootBuiltins "reversed" = some (.type "reversed") := by decide +kernel
theorem pi_rev {X : Cx} {K : PySem.W.Frag} {tg a : Expr} {ta : TA} {p pos : Pos} (hK : X.K = K) (hg : Gl X "reversed") (hm : X.mg "reversed" = none) (ha : PA X [a] ta) (hs : starEach [a] X.env = [(false, eval a X.env)] := by rfl) :
    PI X tg (.Call (.Name "reversed" p) [a] [] pos) (iRev K ta) := by
  subst hK
  intro pins s σ H R I h
  refine Call_ (ld_blt I hg hm bt_reversed (PyProof.Rows.callWith_type1 (thn (ha pos pins s σ H _ I h) fun us s1 ⟨vs, H1, I1, r1, q1⟩ => ?_) hs rfl))
  obtain ⟨l, xs, e, q2, q⟩ := q1
  subst e
  obtain ⟨u1, rfl, e1⟩ := vals1 r1
  obtain rfl : u1 = Value.ref l := e1
  obtain ⟨its, rr, pl, hz⟩ := I1.list q2
  have hl : its.toArray.size = xs.length := by rw [List.size_toArray, ← rr.length]
  have hlt : l < s1.heap.objs.size := let ⟨o, e, _⟩ := pl.isList; Heap.lt_size e
  refine call_reversed_list pl.isList ?_
  rw [hl]
  have st : (s1.heap.push (revObj l ((xs.length : Int) - 1))).IsRevIter s1.heap.objs.size l ((xs.length : Int) - 1) := ⟨_, Heap.get?_push_size _ rfl, rfl, rfl⟩
  refine wpAny_pyIter_revIter (s := { s1 with heap := s1.heap.push (revObj l ((xs.length : Int) - 1)) }) st ?_
  refine ⟨_, [s1.heap.objs.size], _, _, H1, rfl, I1.kept (t' := s1.toks) fun b o e => Heap.get?_push_of_some _ e, turn_rev (n := xs.length) (Nat.ne_of_lt hlt), by simpa using st, fun c hb => ?_, q⟩
  obtain rfl : c = s1.heap.objs.size := by simpa using hb
  exact I1.fpOk (Nat.le_refl _) (I1.hok.fresh (Nat.le_refl _))
theorem for_rev {K : PySem.W.Frag} {l : Addr} {xs : List V} {n : Nat} {g : TG} {tb : TS} {D : Ends} {σ : St} {H : Hp} (hn : xs.length = n) (Pv : Nat → St → Hp → Prop) (h0 : Pv 0 σ H) (hl : ∀ i σ H, i ≤ n → Pv i σ H → SqL K H l xs)
    (hs : ∀ i x σ H, i < n → xs[n - 1 - i]? = some x → Pv i σ H → g x σ H fun σ2 H2 => tb { D with nx := Pv (i + 1), ct := Pv (i + 1), bk := D.nx } σ2 H2) (hd : ∀ σ H, Pv n σ H → D.nx σ H) :
    tLoop (Itv K l n) g tb D σ H := by
  refine ⟨fun i m σ H => m = n - i ∧ i ≤ n ∧ Pv i σ H, ⟨n, by simp, Nat.zero_le _, h0⟩, ?_⟩
  rintro i m σ H ⟨rfl, hi, p⟩
  have q1 := hl i σ H hi p
  by_cases hlt : i < n
  · refine .inr ⟨⟨hlt, xs, q1, hn⟩, Pv (i + 1), fun σ' H' p' => ⟨n - (i + 1), by omega, rfl, hlt, p'⟩, fun v H' ⟨e1, e2⟩ => ?_⟩
    subst e1
    exact hs i v σ _ hlt (e2 xs q1) p
  · obtain rfl : i = n := by omega
    exact .inl ⟨⟨rfl, xs, q1, hn⟩, hd σ H p⟩
def tOrT (K : PySem.W.Frag) (ta tb : TE) : TE := fun σ H Q => ta σ H fun x H1 => ∃ c, TruV K x H1 c ∧ if c = true then Q x H1 else tb σ H1 Q
theorem pe_orT {X : Cx} {K : PySem.W.Frag} {a b : Expr} {rest : List Expr} {pos : Pos} {ta tb : TE} (hK : X.K = K) (ha : PE X a ta) (hb : PE X (.BoolOp .Or (b :: rest) pos) tb) : PE X (.BoolOp .Or (a :: b :: rest) pos) (tOrT K ta tb) := by
  subst hK
  intro pins s σ H Q I h
  refine BoolOp_or (thn (ha pins s σ H _ I h) fun v s1 ⟨x, H1, I1, r1, c, tr, q1⟩ => ?_)
  refine thn (tru_ok pins s1 σ H1 x v (fun k H' => k = c ∧ H' = H1) I1 r1 ⟨c, tr, rfl, rfl⟩) fun k s2 ⟨H2, I2, ek, eH⟩ => ?_
  subst ek eH
  cases k with
  | false => exact hb pins s2 σ _ Q I2 (by simpa using q1)
  | true => exact ⟨x, _, I2, r1, by simpa using q1⟩
end L2
namespace L2
open PySem
theorem samePut {H H' : Hp} {p : Addr} {o : HO} (h : H p = none) (s : Same H H') : Same H (upd H' p o) := fun b u e => by rw [upd_ne (ne_of_none e h)]; exact s _ _ e
theorem row_of {T : List (List Int)} {n i : Nat} (q : Quad T n) (hi : i < n) : T.getD i [] = (List.range n).map (at2 T i) := by
  obtain ⟨row, e1, e2, e3⟩ := q.get hi
  rw [e3]
  apply List.ext_getElem?
  intro j
  by_cases hj : j < n
  · rw [List.getElem?_map, List.getElem?_range hj, List.getElem?_eq_getElem (by omega)]
    show _ = some ((T.getD i []).getD j 0)
    rw [e3, List.getD_eq_getElem?_getD, List.getElem?_eq_getElem (by omega)]; rfl
  · rw [List.getElem?_eq_none (by omega), List.getElem?_eq_none (by rw [List.length_map, List.length_range]; omega)]
section
variable {K : PySem.W.Frag}
end
end L2
namespace L2
open PySem
open PySem.SeqAt
section
variable {X : Cx}
end
end L2
namespace L2
open PySem PySem.W PyProof.Rows
section
variable (r : Nat → Int)
variable {r}
theorem rev_perm (p : Array Nat) (i j : Nat) : (kas_rev p i j).Perm p := mirror_perm _ _ _ _
end
end L2
namespace L2
open PySem PySem.W PyProof.Rows
section
variable {N : Nat}
def Bnd (N : Nat) (p : Array Nat) : Prop := ∀ k, p.getD k 0 < N
theorem Bnd.perm {p q : Array Nat} (hN : 0 < N) (h : Bnd N p) (e : q.Perm p) : Bnd N q := fun k => by
  rw [Array.getD_eq_getD_getElem?]
  by_cases c : k < q.size
  · rw [Array.getElem?_eq_getElem c]
    have hm : q[k] ∈ p := e.mem_iff.mp (Array.getElem_mem c)
    obtain ⟨i, hi, e2⟩ := Array.getElem_of_mem hm
    have := h i
    rw [Array.getD_eq_getD_getElem?, Array.getElem?_eq_getElem hi] at this
    show q[k] < N
    rw [← e2]
    exact this
  · rw [Array.getElem?_eq_none (by omega)]
    exact hN
def AskP (N : Nat) {α : Type} (P : α → Prop) : KasT α → Prop
  | .ret a => P a
  | .ask i j k => i < N ∧ j < N ∧ ∀ b, AskP N P (k b)
theorem AskP.bind {α β : Type} {f : α → KasT β} {P : α → Prop} {Q : β → Prop} (hf : ∀ a, P a → AskP N Q (f a)) : ∀ t : KasT α, AskP N P t → AskP N Q (t.bind f)
  | .ret a, h => hf a h
  | .ask i j k, h => ⟨h.1, h.2.1, fun b => AskP.bind hf (k b) (h.2.2 b)⟩
end
end L2
namespace L2
open PySem PySem.W PyProof.Rows
def TupsAt (h : Heap) (vs : List Value) (R : List (List Int)) : Prop := vs.length = R.length ∧ ∀ (i : Nat) (row : List Int), R[i]? = some row → ∃ x us, vs[i]? = some (.ref x) ∧ IsTup h x us.toArray ∧ IntsAre us row
section
variable {prog : Program} {w : World} {A : Around} {E : Value → Shared → Prop} {s : Shared}
theorem TupsAt.keep {h h' : Heap} {vs : List Value} {R : List (List Int)} (hv : TupsAt h vs R) (k : ∀ x us, IsTup h x us → IsTup h' x us) : TupsAt h' vs R :=
  ⟨hv.1, fun i row hr => by obtain ⟨x, us, e1, e2, e3⟩ := hv.2 i row hr; exact ⟨x, us, e1, k _ _ e2, e3⟩⟩
end
end L2
namespace L2
open PySem PySem.W PyProof.Rows
section
variable {prog : Program} {w : World} {A : Around} {E : Value → Shared → Prop} {s : Shared}
end
end L2
namespace L2
open PySem PyProof.Rows
theorem eqD_rows (r q : List Int) : eqD (.tup (r.map Dt.int)) (.tup (q.map Dt.int)) = decide (r = q) := by
  by_cases h : r = q
  · subst h; rw [eqD_refl, decide_eq_true rfl]
  · rw [decide_eq_false h]
    cases e : eqD (.tup (r.map Dt.int)) (.tup (q.map Dt.int)) with
    | false => rfl
    | true => rw [eqD] at e; exact absurd (eqL_ints e) h
def rInT (K : PySem.W.Frag) (neg : Bool) : R2 := fun x y H Q => ∃ (b p : Addr) (r : List Int) (xs : List V) (R : List (List Int)), x = .ref b ∧ y = .ref p ∧ SqT K H b (r.map V.int) ∧ Sq K H p xs ∧ Rows K H xs R ∧ Q (.bl (if neg then !decide (r ∈ R) else decide (r ∈ R))) H
section
variable {X : Cx}
theorem mem_rows {pins : List (Addr × Obj)} {σ : St} {H : Hp} {s : Shared} {b : Addr} {r : List Int} {xs : List V} {R : List (List Int)} {its : List Value} (hu : X.A.units + 103 < cLine) (I : Inv X pins σ H s) (hb : SqT X.K H b (r.map V.int)) (hR : Rows X.K H xs R) (rv : Vals xs its) :
    ∃ e : Value → Bool, (∀ u, u ∈ its → SeqAt.EqAt X.A.in1 s u (.ref b) (e u)) ∧ its.any e = decide (r ∈ R) := by
  classical
  have hl := rv.length
  have row_of : ∀ i (hi : i < its.length), ∃ c, ∃ hR' : i < R.length, its[i] = .ref c ∧ SqT X.K H c (R[i].map V.int) := fun i hi => by
    have hR' : i < R.length := by rw [← hR.1, hl]; exact hi
    obtain ⟨c, e1, e2⟩ := hR.2 i R[i] (List.getElem?_eq_getElem hR')
    obtain ⟨u, eu, rU⟩ := rv.get e1
    rw [List.getElem?_eq_getElem hi] at eu
    cases eu
    exact ⟨c, hR', rU, e2⟩
  refine ⟨fun u => decide (∃ c, u = .ref c ∧ SqT X.K H c (r.map V.int)), fun u hu' => ?_, ?_⟩
  · obtain ⟨i, hi, rfl⟩ := List.getElem_of_mem hu'
    obtain ⟨c, hR', e1, e2⟩ := row_of i hi
    rw [e1]
    have sh : ∀ (q : List Int) (a : Addr), SqT X.K H a (q.map V.int) → Sh X.K H (.tup (q.map Dt.int)) (.ref a) := fun q a h => ⟨a, _, rfl, h, ShL.ints q⟩
    have g := (I.eq_sh 100 X.A.in1 (.tup (R[i].map Dt.int)) (.tup (r.map Dt.int)) (.ref c) (.ref b) (.ref c) (.ref b) (by rw [dep, dep_ints]; decide) (by show X.A.units + 1 + 100 < cLine; omega) rfl rfl (sh _ _ e2) (sh _ _ hb)).2
    rw [eqD_rows] at g
    have ee : decide (R[i] = r) = decide (∃ c', Value.ref c = .ref c' ∧ SqT X.K H c' (r.map V.int)) := by
      by_cases h : R[i] = r
      · rw [decide_eq_true h, decide_eq_true ⟨c, rfl, h ▸ e2⟩]
      · rw [decide_eq_false h, decide_eq_false]
        rintro ⟨c', e, h'⟩
        cases e
        have := I.tuple_inj e2 h'
        exact h ((List.map_inj_right fun a b z => V.int.inj z).mp this)
    show SeqAt.EqAt X.A.in1 s (Value.ref c) (Value.ref b) (decide (∃ c', Value.ref c = .ref c' ∧ SqT X.K H c' (r.map V.int)))
    rw [← ee]
    exact g
  · by_cases h : r ∈ R
    · rw [decide_eq_true h]
      obtain ⟨i, hi, e⟩ := List.getElem_of_mem h
      have hi' : i < its.length := by rw [← hl, hR.1]; exact hi
      obtain ⟨c, _, e1, e2⟩ := row_of i hi'
      rw [List.any_eq_true]
      exact ⟨its[i], List.getElem_mem _, by rw [e1]; exact decide_eq_true ⟨c, rfl, e ▸ e2⟩⟩
    · rw [decide_eq_false h, List.any_eq_false]
      intro u hu'
      obtain ⟨i, hi, rfl⟩ := List.getElem_of_mem hu'
      obtain ⟨c, hR', e1, e2⟩ := row_of i hi
      rw [decide_eq_true_iff]
      rintro ⟨c', e, h'⟩
      rw [e1] at e
      cases e
      have := I.tuple_inj e2 h'
      exact h ((List.map_inj_right fun a b z => V.int.inj z).mp this ▸ List.getElem_mem hR')
theorem op_inT (hu : X.A.units + 103 < cLine) : OpR X (compareOp .In) (rInT X.K false) := by
  intro pins s σ H x y v u Q I rx ry ⟨b, p, r, xs, R, e1, e2, hb, hq, hR, q⟩
  subst e1 e2
  cases rx
  cases ry
  rcases hq with hq | hq
  · obtain ⟨its, rv, pl, _⟩ := I.list hq
    obtain ⟨e, h1, h2⟩ := mem_rows hu I hb hR rv
    refine SeqAt.in_listAt e pl.isList (fun w hw => h1 w (by simpa using hw)) ⟨.bl _, H, I, rfl, ?_⟩
    rw [show its.toArray.any e = its.any e by simp, h2]
    exact q
  · obtain ⟨its, rv, pl, _⟩ := I.tuple hq
    obtain ⟨e, h1, h2⟩ := mem_rows hu I hb hR rv
    refine SeqAt.in_tupleAt e pl (fun w hw => h1 w (by simpa using hw)) ⟨.bl _, H, I, rfl, ?_⟩
    rw [show its.toArray.any e = its.any e by simp, h2]
    exact q
theorem op_notInT (hu : X.A.units + 103 < cLine) : OpR X (compareOp .NotIn) (rInT X.K true) := by
  intro pins s σ H x y v u Q I rx ry ⟨b, p, r, xs, R, e1, e2, hb, hq, hR, q⟩
  subst e1 e2
  cases rx
  cases ry
  rcases hq with hq | hq
  · obtain ⟨its, rv, pl, _⟩ := I.list hq
    obtain ⟨e, h1, h2⟩ := mem_rows hu I hb hR rv
    refine SeqAt.notIn_listAt e pl.isList (fun w hw => h1 w (by simpa using hw)) ⟨.bl _, H, I, rfl, ?_⟩
    rw [show its.toArray.any e = its.any e by simp, h2]
    exact q
  · obtain ⟨its, rv, pl, _⟩ := I.tuple hq
    obtain ⟨e, h1, h2⟩ := mem_rows hu I hb hR rv
    refine SeqAt.notIn_tupleAt e pl (fun w hw => h1 w (by simpa using hw)) ⟨.bl _, H, I, rfl, ?_⟩
    rw [show its.toArray.any e = its.any e by simp, h2]
    exact q
end
def rInB (K : PySem.W.Frag) (neg : Bool) : R2 := fun x y H Q => rIn K neg x y H Q ∨ rInT K neg x y H Q
theorem op_inBK {X : Cx} {K : PySem.W.Frag} {k : Nat} (hK : X.K = K) (hr : Room k X.A) : OpR X (compareOp .In) (rInB K false) := by
  subst hK
  exact OpR.or op_in_seq (op_inT (by have := hr.un; omega))
theorem op_notInBK {X : Cx} {K : PySem.W.Frag} {k : Nat} (hK : X.K = K) (hr : Room k X.A) : OpR X (compareOp .NotIn) (rInB K true) := by
  subst hK
  exact OpR.or op_notIn_seq (op_notInT (by have := hr.un; omega))
end L2
namespace L2
open PySem PyProof.Rows
theorem eqD_rowsL (r q : List Int) : eqD (.lst (r.map Dt.int)) (.lst (q.map Dt.int)) = decide (r = q) := by
  by_cases h : r = q
  · subst h; rw [eqD_refl, decide_eq_true rfl]
  · rw [decide_eq_false h]
    cases e : eqD (.lst (r.map Dt.int)) (.lst (q.map Dt.int)) with
    | false => rfl
    | true => rw [eqD] at e; exact absurd (eqL_ints e) h
def RowsL (K : PySem.W.Frag) (H : Hp) (xs : List V) (T : List (List Int)) : Prop := xs.length = T.length ∧ ∀ (i : Nat) (row : List Int), T[i]? = some row → ∃ b, xs[i]? = some (.ref b) ∧ SqL K H b (row.map V.int)
def rInL (K : PySem.W.Frag) (neg : Bool) : R2 := fun x y H Q => ∃ (b p : Addr) (r : List Int) (xs : List V) (R : List (List Int)), x = .ref b ∧ y = .ref p ∧ SqL K H b (r.map V.int) ∧ Sq K H p xs ∧ RowsL K H xs R ∧ Q (.bl (if neg then !decide (r ∈ R) else decide (r ∈ R))) H
section
variable {X : Cx}
theorem mem_rowsL {pins : List (Addr × Obj)} {σ : St} {H : Hp} {s : Shared} {b : Addr} {r : List Int} {xs : List V} {R : List (List Int)} {its : List Value} (hu : X.A.units + 103 < cLine) (I : Inv X pins σ H s) (hb : SqL X.K H b (r.map V.int)) (hR : RowsL X.K H xs R) (rv : Vals xs its) :
    ∃ e : Value → Bool, (∀ u, u ∈ its → SeqAt.EqAt X.A.in1 s u (.ref b) (e u)) ∧ its.any e = decide (r ∈ R) := by
  classical
  have hl := rv.length
  have row_of : ∀ i (hi : i < its.length), ∃ c, ∃ hR' : i < R.length, its[i] = .ref c ∧ SqL X.K H c (R[i].map V.int) := fun i hi => by
    have hR' : i < R.length := by rw [← hR.1, hl]; exact hi
    obtain ⟨c, e1, e2⟩ := hR.2 i R[i] (List.getElem?_eq_getElem hR')
    obtain ⟨u, eu, rU⟩ := rv.get e1
    rw [List.getElem?_eq_getElem hi] at eu
    cases eu
    exact ⟨c, hR', rU, e2⟩
  refine ⟨fun u => decide (∃ c, u = .ref c ∧ SqL X.K H c (r.map V.int)), fun u hu' => ?_, ?_⟩
  · obtain ⟨i, hi, rfl⟩ := List.getElem_of_mem hu'
    obtain ⟨c, hR', e1, e2⟩ := row_of i hi
    rw [e1]
    have sh : ∀ (q : List Int) (a : Addr), SqL X.K H a (q.map V.int) → Sh X.K H (.lst (q.map Dt.int)) (.ref a) := fun q a h => ⟨a, _, rfl, h, ShL.ints q⟩
    have g := (I.eq_sh 100 X.A.in1 (.lst (R[i].map Dt.int)) (.lst (r.map Dt.int)) (.ref c) (.ref b) (.ref c) (.ref b) (by rw [dep, dep_ints]; decide) (by show X.A.units + 1 + 100 < cLine; omega) rfl rfl (sh _ _ e2) (sh _ _ hb)).2
    rw [eqD_rowsL] at g
    have ee : decide (R[i] = r) = decide (∃ c', Value.ref c = .ref c' ∧ SqL X.K H c' (r.map V.int)) := by
      by_cases h : R[i] = r
      · rw [decide_eq_true h, decide_eq_true ⟨c, rfl, h ▸ e2⟩]
      · rw [decide_eq_false h, decide_eq_false]
        rintro ⟨c', e, h'⟩
        cases e
        have := I.list_inj e2 h'
        exact h ((List.map_inj_right fun a b z => V.int.inj z).mp this)
    show SeqAt.EqAt X.A.in1 s (Value.ref c) (Value.ref b) (decide (∃ c', Value.ref c = .ref c' ∧ SqL X.K H c' (r.map V.int)))
    rw [← ee]
    exact g
  · by_cases h : r ∈ R
    · rw [decide_eq_true h]
      obtain ⟨i, hi, e⟩ := List.getElem_of_mem h
      have hi' : i < its.length := by rw [← hl, hR.1]; exact hi
      obtain ⟨c, _, e1, e2⟩ := row_of i hi'
      rw [List.any_eq_true]
      exact ⟨its[i], List.getElem_mem _, by rw [e1]; exact decide_eq_true ⟨c, rfl, e ▸ e2⟩⟩
    · rw [decide_eq_false h, List.any_eq_false]
      intro u hu'
      obtain ⟨i, hi, rfl⟩ := List.getElem_of_mem hu'
      obtain ⟨c, hR', e1, e2⟩ := row_of i hi
      rw [decide_eq_true_iff]
      rintro ⟨c', e, h'⟩
      rw [e1] at e
      cases e
      have := I.list_inj e2 h'
      exact h ((List.map_inj_right fun a b z => V.int.inj z).mp this ▸ List.getElem_mem hR')
theorem op_inL (hu : X.A.units + 103 < cLine) : OpR X (compareOp .In) (rInL X.K false) := by
  intro pins s σ H x y v u Q I rx ry ⟨b, p, r, xs, R, e1, e2, hb, hq, hR, q⟩
  subst e1 e2
  cases rx
  cases ry
  rcases hq with hq | hq
  · obtain ⟨its, rv, pl, _⟩ := I.list hq
    obtain ⟨e, h1, h2⟩ := mem_rowsL hu I hb hR rv
    refine SeqAt.in_listAt e pl.isList (fun w hw => h1 w (by simpa using hw)) ⟨.bl _, H, I, rfl, ?_⟩
    rw [show its.toArray.any e = its.any e by simp, h2]
    exact q
  · obtain ⟨its, rv, pl, _⟩ := I.tuple hq
    obtain ⟨e, h1, h2⟩ := mem_rowsL hu I hb hR rv
    refine SeqAt.in_tupleAt e pl (fun w hw => h1 w (by simpa using hw)) ⟨.bl _, H, I, rfl, ?_⟩
    rw [show its.toArray.any e = its.any e by simp, h2]
    exact q
theorem op_notInL (hu : X.A.units + 103 < cLine) : OpR X (compareOp .NotIn) (rInL X.K true) := by
  intro pins s σ H x y v u Q I rx ry ⟨b, p, r, xs, R, e1, e2, hb, hq, hR, q⟩
  subst e1 e2
  cases rx
  cases ry
  rcases hq with hq | hq
  · obtain ⟨its, rv, pl, _⟩ := I.list hq
    obtain ⟨e, h1, h2⟩ := mem_rowsL hu I hb hR rv
    refine SeqAt.notIn_listAt e pl.isList (fun w hw => h1 w (by simpa using hw)) ⟨.bl _, H, I, rfl, ?_⟩
    rw [show its.toArray.any e = its.any e by simp, h2]
    exact q
  · obtain ⟨its, rv, pl, _⟩ := I.tuple hq
    obtain ⟨e, h1, h2⟩ := mem_rowsL hu I hb hR rv
    refine SeqAt.notIn_tupleAt e pl (fun w hw => h1 w (by simpa using hw)) ⟨.bl _, H, I, rfl, ?_⟩
    rw [show its.toArray.any e = its.any e by simp, h2]
    exact q
end
def rInC (K : PySem.W.Frag) (neg : Bool) : R2 := fun x y H Q => rInB K neg x y H Q ∨ rInL K neg x y H Q
theorem op_inCK {X : Cx} {K : PySem.W.Frag} {k : Nat} (hK : X.K = K) (hr : Room k X.A) : OpR X (compareOp .In) (rInC K false) := OpR.or (op_inBK hK hr) (by subst hK; exact op_inL (by have := hr.un; omega))
theorem op_notInCK {X : Cx} {K : PySem.W.Frag} {k : Nat} (hK : X.K = K) (hr : Room k X.A) : OpR X (compareOp .NotIn) (rInC K true) := OpR.or (op_notInBK hK hr) (by subst hK; exact op_notInL (by have := hr.un; omega))
end L2
namespace L2
open PySem PySem.Spec PyProof.Rows
section
variable {prog : Program} {w : World} {A : Around} {E : Value → Shared → Prop} {s : Shared} {d : Addr} {o : Obj} {es : Array DictEntry} {ep : Nat}
end
end L2
namespace L2
open PySem PySem.Spec PyProof.Rows
end L2
namespace L2
open PySem PySem.Spec PyProof.Rows
section
variable {prog : Program} {w : World} {K : Type} [DecidableEq K] {knd : HeapKind prog w K} {A : Around} {E : Value → Shared → Prop} {s : Shared} {d a : Addr} {xs : List (K × Addr × Value)} {k : K}
end
end L2
namespace L2
open PySem PySem.Spec PyProof.Rows
section
variable {X : Cx} {pins : List (Addr × Obj)} {σ : St} {H : Hp} {s : Shared} {A : Around} {E : Value → Shared → Prop} {a b : Addr} {kvs : List (List Key × V)} {k : List Key}
end
section
variable {X : Cx} {o e f : Expr} {td ty tx : TE} {apos cpos : Pos}
end
end L2
namespace L2
open PySem PySem.Spec PyProof.Rows
end L2
namespace L2
open PySem PySem.Spec PyProof.Rows
section
variable {prog : Program} {w : World} {A : Around} {E : Value → Shared → Prop} {s : Shared} {d : Addr} {o : Obj} {es : Array DictEntry} {ep : Nat}
end
def putP (xs : PEs) (k : PKy) (c : Addr) (v : V) : PEs := if (xs.any fun x => decide (x.1 = k)) = true then xs.map (fun x => if x.1 = k then (x.1, x.2.1, v) else x) else xs ++ [(k, c, v)]
def sPPutA (td ty tv : TE) : TS := fun D σ H => tv σ H fun v H1 => td σ H1 fun x H2 => ty σ H2 fun y H3 => ∃ a c xs ep k, x = .ref a ∧ y = .ref c ∧ DP H3 a xs ep ∧ KeyP H3 k c ∧ xs.length < sizeLine ∧ ∀ ep', D.nx σ (upd H3 a (dpO a (putP xs k c v) ep'))
end L2
namespace L2
open PySem PySem.Spec PyProof.Rows
section
variable {prog : Program} {w : World} {A : Around} {E : Value → Shared → Prop} {s : Shared}
end
section
variable {X : Cx} {o i value : Expr} {pos pos' : Pos} {td ty tv : TE}
theorem at_some : ∀ {xs : PEs} {ys : List (PKy × Addr × Value)} {k : PKy}, Paired PRel xs ys → (atKey ys k).isSome = xs.any fun x => decide (x.1 = k)
  | _, _, k, .nil => rfl
  | x :: xs, y :: ys, k, .cons r t => by
    have ih := at_some (k := k) t
    unfold atKey at ih ⊢
    rw [List.find?_cons, List.any_cons, ← r.1]
    by_cases hk : x.1 = k
    · rw [decide_eq_true hk]; rfl
    · rw [decide_eq_false hk]; exact ih
theorem rel_put : ∀ {xs : PEs} {ys : List (PKy × Addr × Value)} {k : PKy} {v : V} {u : Value}, Paired PRel xs ys → RelV v u → Paired PRel (xs.map fun x => if x.1 = k then (x.1, x.2.1, v) else x) (ys.map (putAt k u))
  | _, _, _, _, _, .nil, _ => .nil
  | x :: xs, y :: ys, k, v, u, .cons r t, rv => by
    refine .cons ?_ (rel_put t rv)
    unfold putAt
    dsimp only
    by_cases hk : x.1 = k
    · rw [if_pos hk, if_pos (by rw [← r.1]; exact hk)]; exact ⟨r.1, r.2.1, rv⟩
    · rw [if_neg hk, if_neg (by rw [← r.1]; exact hk)]; exact r
theorem rel_putP {xs : PEs} {ys : List (PKy × Addr × Value)} {k : PKy} {c : Addr} {v : V} {u : Value} (r : Paired PRel xs ys) (rv : RelV v u) : Paired PRel (putP xs k c v) (storedH ys k c u) := by
  unfold putP storedH
  rw [at_some r]
  split
  · exact rel_put r rv
  · exact rel_snoc r ⟨rfl, rfl, rv⟩
theorem putP_len {xs : PEs} {k : PKy} {c : Addr} {v : V} : (putP xs k c v).length ≤ xs.length + 1 := by
  unfold putP
  split
  · rw [List.length_map]; omega
  · rw [List.length_append]; exact Nat.le_refl _
theorem ps_pputA (hu : X.A.units + 6 < cLine) (ho : PE X o td) (hi : PE X i ty) (hv : PE X value tv) (hs : swapsWith value (some (.Subscript o i pos')) pos.line X.env = pure false) :
    PS X (.Assign [.Subscript o i pos'] value pos) (sPPutA td ty tv) := by
  intro pins s σ H D I h
  refine wpAny_Assign_Subscript (thn (hv pins s σ H _ I h) fun r s1 ⟨v, H1, I1, rv, q1⟩ => thn (ho pins s1 σ H1 _ I1 q1) fun u s2 ⟨x, H2, I2, rx, q2⟩ => thn (hi pins s2 σ H2 _ I2 q2) fun iv s3 ⟨y, H3, I3, ry, a, c, xs, ep, k, ex, ey, dp, kp, hz, q3⟩ => ?_) hs
  subst ex ey
  obtain rfl : u = Value.ref a := rx
  obtain rfl : iv = Value.ref c := ry
  obtain ⟨_, hd, ys, rel, dd⟩ := dp.of I3.hok
  have hl : xs.length = ys.length := Paired.length rel
  refine wpAny_setItem_heap (knd := pairKind X.prog X.w) (hsz := by omega) (show X.A.units + 1 + 5 < cLine by omega) (kp.is I3.hok) dd fun h' dd' hsb => ?_
  obtain ⟨q, es, ep', hq, h2, h3, h4, _, h5⟩ := dd'
  exact ⟨σ, _, d_write I3 (by rw [dp.1]; exact True.intro) hsb ⟨q, hq⟩ (dpO_ok ⟨Nat.le_trans putP_len hz, hd, _, rel_putP rel rv, q, es, hq, h2, h3, h4, h5⟩), q3 ep'⟩
end
end L2
namespace L2
open PySem PySem.Spec PyProof.Rows
end L2
namespace L2
open PySem PySem.Spec PyProof.Rows
section
variable {X : Cx}
def CMulG (i j : Int) : Prop := i.natAbs < 2 ^ 8000 ∧ j.natAbs < 2 ^ 8000
theorem bits_le {k : Int} (h : k.natAbs < 2 ^ 8000) : Builtin.Int.intBits k ≤ 8000 := by
  unfold Builtin.Int.intBits
  split
  · exact Nat.zero_le _
  · rename_i c
    have hk : k.natAbs ≠ 0 := fun e => c (by simp [Int.natAbs_eq_zero.mp e])
    have := (Nat.log2_lt hk).mpr h
    omega
theorem CMulG.ok {i j : Int} (h : CMulG i j) : IntMulOk i j := by
  unfold IntMulOk Builtin.Int.intTooBig
  have h1 := bits_le h.1
  have h2 := bits_le h.2
  have : ¬ (((Builtin.Int.intBits i + Builtin.Int.intBits j : Nat) : Int) > (bitsLine : Int)) := by
    have : (16000 : Int) ≤ (bitsLine : Int) := by decide
    omega
  intro e
  rw [Bool.and_eq_true] at e
  have := of_decide_eq_true e.2
  omega
end
end L2
namespace L2
open PySem PySem.Spec PyProof.Rows
def subsN : Nat → List (List Nat)
  | 0 => [[]]
  | n + 1 => subsN n ++ (subsN n).map (· ++ [n])
def subs8 : List (List Nat) := subsN 8
theorem mem_subsN : ∀ (n : Nat) (ks : List Nat), ks.Pairwise (· < ·) → (∀ k ∈ ks, k < n) → ks ∈ subsN n
  | 0, ks, _, h => by
    cases ks with
    | nil => exact List.mem_singleton.mpr rfl
    | cons k ks => exact absurd (h k (List.mem_cons_self ..)) (Nat.not_lt_zero _)
  | n + 1, ks, hp, h => by
    rw [subsN, List.mem_append, List.mem_map]
    rcases List.eq_nil_or_concat ks with rfl | ⟨l, x, rfl⟩
    · exact .inl (mem_subsN n [] .nil fun k z => by cases z)
    · rw [List.concat_eq_append] at hp h ⊢
      have hl := (List.pairwise_append.mp hp)
      have hx : x < n + 1 := h x (List.mem_append_right _ (List.mem_singleton.mpr rfl))
      by_cases c : x = n
      · subst c
        exact .inr ⟨l, mem_subsN _ l hl.1 fun k hk => hl.2.2 k hk _ (List.mem_singleton.mpr rfl), rfl⟩
      · refine .inl (mem_subsN n _ hp fun k hk => ?_)
        rcases List.mem_append.mp hk with hk | hk
        · have := hl.2.2 k hk x (List.mem_singleton.mpr rfl); omega
        · rw [List.mem_singleton.mp hk]; omega
def smT (led : Bool) (ks : List Nat) : SetTable := { mask := if ks.length ≤ 4 then 7 else 31, place := ks.toArray, dummies := #[], finger := 0, led := led, moves := if ks.length ≤ 4 then 0 else 1, plain := true }
def smIn (ks : List Nat) (k : Nat) : List Nat := ks.take (SetTable.below ks.toArray k) ++ k :: ks.drop (SetTable.below ks.toArray k)
def smP (led : Bool) (ks : List Nat) (k : Nat) : SetTable := { smT led ks with place := (smIn ks k).toArray }
def smSo (ks : List Nat) : Bool := decide (ks.Pairwise (· < ·)) && ks.all (fun k => decide (k < 8)) && decide (ks.length ≤ 8)
def smOk (led : Bool) (ks : List Nat) (k : Nat) : Bool := ks.contains k || (decide ((smT led ks).freeSlot (Int.ofNat k) = some (k, false)) && decide ((smT led ks).put k = (smP led ks k, SetTable.below ks.toArray k)) && (smP led ks k).fits (ks.length + 1)
  && smSo (smIn ks k) && decide ((smP led ks k).tooFull = (ks.length == 4)) && (if ks.length = 4 then decide ((smP led ks k).relaid ((smIn ks k).map Int.ofNat).toArray (SetTable.grown 5) = some (smT led (smIn ks k), #[0, 1, 2, 3, 4])) else decide (smP led ks k = smT led (smIn ks k))))
theorem sm_all : (subs8.all fun ks => (List.range 8).all fun k => smOk true ks k && smOk false ks k) = true := by decide +kernel
theorem sm_ok {led : Bool} {ks : List Nat} (h : ks ∈ subs8) {k : Nat} (hk : k < 8) (hn : k ∉ ks) : (smT led ks).freeSlot (Int.ofNat k) = some (k, false) ∧ (smT led ks).put k = (smP led ks k, SetTable.below ks.toArray k) ∧ (smP led ks k).fits (ks.length + 1) = true ∧ smIn ks k ∈ subs8 ∧ (smP led ks k).tooFull = (ks.length == 4) ∧
    (ks.length = 4 → (smP led ks k).relaid ((smIn ks k).map Int.ofNat).toArray (SetTable.grown 5) = some (smT led (smIn ks k), #[0, 1, 2, 3, 4])) ∧ (ks.length ≠ 4 → smP led ks k = smT led (smIn ks k)) := by
  have a := List.all_eq_true.mp (List.all_eq_true.mp sm_all ks h) k (List.mem_range.mpr hk)
  have b : smOk led ks k = true := by
    rw [Bool.and_eq_true] at a
    cases led
    · exact a.2
    · exact a.1
  unfold smOk at b
  have c : ks.contains k = false := by rw [← Bool.not_eq_true]; intro z; exact hn (List.contains_iff_mem.mp z)
  rw [c, Bool.false_or] at b
  simp only [Bool.and_eq_true, decide_eq_true_eq] at b
  obtain ⟨⟨⟨⟨⟨b1, b2⟩, b3⟩, b4⟩, b5⟩, b6⟩ := b
  refine ⟨b1, b2, b3, ?_, b5, fun z => ?_, fun z => ?_⟩
  · unfold smSo at b4
    simp only [Bool.and_eq_true, decide_eq_true_eq, List.all_eq_true] at b4
    exact mem_subsN 8 _ b4.1.1 b4.1.2
  · rw [if_pos z] at b6; exact of_decide_eq_true b6
  · rw [if_neg z] at b6; exact of_decide_eq_true b6
def smNx (ks : List Nat) : Bool := decide (SetTable.below ks.toArray 0 = 0) && (List.range ks.length).all fun i => decide (SetTable.below ks.toArray (ks.getD i 0 + 1) = i + 1)
theorem sm_nx : subs8.all smNx = true := by decide +kernel
theorem sm_next {ks : List Nat} (h : ks ∈ subs8) : SetTable.below ks.toArray 0 = 0 ∧ ∀ i < ks.length, SetTable.below ks.toArray (ks.getD i 0 + 1) = i + 1 := by
  have a := List.all_eq_true.mp sm_nx ks h
  unfold smNx at a
  rw [Bool.and_eq_true, List.all_eq_true] at a
  exact ⟨of_decide_eq_true a.1, fun i hi => of_decide_eq_true (a.2 i (List.mem_range.mpr hi))⟩
theorem sm_so : subs8.all smSo = true := by decide +kernel
theorem sm_sort {ks : List Nat} (h : ks ∈ subs8) : ks.Pairwise (· < ·) ∧ (∀ k ∈ ks, k < 8) ∧ ks.length ≤ 8 := by
  have a := List.all_eq_true.mp sm_so ks h
  unfold smSo at a
  simp only [Bool.and_eq_true, decide_eq_true_eq, List.all_eq_true] at a
  exact ⟨a.1.1, fun k hk => a.1.2 k hk, a.2⟩
theorem smIn_perm (ks : List Nat) (k : Nat) : (smIn ks k).Perm (k :: ks) := by
  unfold smIn
  refine List.perm_middle.trans ?_
  rw [List.take_append_drop]
theorem erase_perm {α : Type} : ∀ {l : List α} {i : Nat} (h : i < l.length), ([l[i]] ++ l.eraseIdx i).Perm l
  | x :: l, 0, _ => .refl _
  | x :: l, i + 1, h => by
    have h' : i < l.length := by simpa using h
    have := erase_perm h'
    rw [List.eraseIdx_cons_succ, List.getElem_cons_succ]
    exact (List.Perm.swap _ _ _).trans (List.Perm.cons x this)
theorem pick_go {α : Type} (f : Nat → Nat) : ∀ (n k : Nat) (l : List α) (o : Array α), l.length = n → (pickOrder.go f n k l o).toList.Perm (o.toList ++ l)
  | 0, _, [], o, _ => by rw [pickOrder.go, List.append_nil]
  | n + 1, k, l, o, h => by
    have hl : f k % l.length < l.length := Nat.mod_lt _ (by omega)
    rw [pickOrder.go, List.getElem?_eq_getElem hl]
    refine (pick_go f n (k + 1) _ _ (by rw [List.length_eraseIdx, if_pos hl]; omega)).trans ?_
    rw [Array.toList_push, List.append_assoc]
    exact List.Perm.append_left _ (erase_perm hl)
theorem pick_perm {α : Type} (f : Nat → Nat) (xs : Array α) : (pickOrder f xs).toList.Perm xs.toList := by
  have := pick_go f xs.size 0 xs.toList #[] (Array.length_toList ..)
  simpa [pickOrder] using this
end L2
namespace L2
open PySem PySem.Spec PyProof.Rows
def byT (w : World) : Bool := w.params.followText "set-order"
abbrev smO (w : World) (es : Array (Int × Value)) (ep : Nat) (ks : List Nat) : Obj := { cls := .type "set", dict := none, data := .set es ep (smT (!byT w) ks) }
def SmE (es : Array (Int × Value)) (ks : List Nat) : Prop := ks ∈ subs8 ∧ es.toList.map (·.1) = ks.map Int.ofNat ∧ ∀ e ∈ es.toList, ∃ tk, e.2 = .int e.1 tk
def SmAt (w : World) (a : Addr) (ks : List Nat) (h : Heap) : Prop := ∃ es ep, h.get? a = some (smO w es ep ks) ∧ SmE es ks
theorem smT_fits {ks : List Nat} (h : ks ∈ subs8) (led : Bool) : (smT led ks).fits ks.length = true := by
  have := (sm_sort h).2.2
  simp only [smT, SetTable.fits, SetTable.fill, List.size_toArray, List.length_nil, Nat.add_zero, Bool.and_eq_true, beq_self_eq_true, true_and, decide_eq_true_eq]
  split <;> omega
theorem SmE.size {es : Array (Int × Value)} {ks : List Nat} (h : SmE es ks) : es.size = ks.length := by
  have := congrArg List.length h.2.1
  simpa using this
theorem hash_small : ∀ k : Nat, k < 8 → hashInt (Int.ofNat k) = Int.ofNat k := by decide +kernel
section
variable {prog : Program} {w : World} {A : Around} {E : Value → Shared → Prop} {s : Shared}
theorem SmE.elems {es : Array (Int × Value)} {ks : List Nat} (h : SmE es ks) : ElemsOf (intKind prog w) es.toList := by
  intro e he
  obtain ⟨tk, z⟩ := h.2.2 e he
  have m : e.1 ∈ ks.map Int.ofNat := by rw [← h.2.1]; exact List.mem_map_of_mem he
  obtain ⟨k, hk, ek⟩ := List.mem_map.mp m
  refine ⟨⟨e.1, by rw [z]; exact intKind_is _ _ _ _, ?_⟩, by rw [z]; rfl⟩
  show e.1 = hashInt e.1
  rw [← ek, hash_small k ((sm_sort h.1).2.1 k hk)]
theorem SmE.mem {es : Array (Int × Value)} {ks : List Nat} (h : SmE es ks) (k : Nat) : k ∈ ks ↔ ∃ e ∈ es.toList, (intKind prog w).is (Int.ofNat k) e.2 = true := by
  constructor
  · intro hk
    have m : Int.ofNat k ∈ es.toList.map (·.1) := by rw [h.2.1]; exact List.mem_map_of_mem hk
    obtain ⟨e, he, ee⟩ := List.mem_map.mp m
    obtain ⟨tk, z⟩ := h.2.2 e he
    exact ⟨e, he, by rw [z, ee]; exact intKind_is _ _ _ _⟩
  · rintro ⟨e, he, hi⟩
    obtain ⟨tk, z⟩ := h.2.2 e he
    have q : Int.ofNat k = e.1 := (intKind prog w).inj e.2 _ _ hi (by rw [z]; exact intKind_is _ _ _ _)
    have m : e.1 ∈ ks.map Int.ofNat := by rw [← h.2.1]; exact List.mem_map_of_mem he
    obtain ⟨j, hj, ej⟩ := List.mem_map.mp m
    rw [← q] at ej
    rw [← Int.ofNat.inj ej]; exact hj
theorem SmE.put {es : Array (Int × Value)} {ks : List Nat} (h : SmE es ks) {k : Nat} (hk : k < 8) (hn : k ∉ ks) (t : Tok) : SmE (SetTable.insertAt es (SetTable.below ks.toArray k) (Int.ofNat k, .int (Int.ofNat k) t)) (smIn ks k) := by
  refine ⟨(sm_ok (led := true) h.1 hk hn).2.2.2.1, ?_, ?_⟩
  · rw [SetTable.toList_insertAt, List.map_append, List.map_cons, List.map_take, List.map_drop, h.2.1]
    unfold smIn
    rw [List.map_append, List.map_cons, List.map_take, List.map_drop]
  · intro e he
    rw [(SetTable.insertAt_perm es _ _).mem_iff, Array.toList_push, List.mem_append, List.mem_singleton] at he
    rcases he with he | rfl
    · exact h.2.2 e he
    · exact ⟨t, rfl⟩
theorem lay_sm {es : Array (Int × Value)} {ks : List Nat} (h : SmE es ks) {k : Nat} (hk : k < 8) (hn : k ∉ ks) (led : Bool) (x : Value) : layNew (smT led ks) es (Int.ofNat k) x = (SetTable.insertAt es (SetTable.below ks.toArray k) (Int.ofNat k, x), smP led ks k, false, false) := by
  obtain ⟨a1, a2, a3, _⟩ := sm_ok (led := led) h.1 hk hn
  have sz : (SetTable.insertAt es (SetTable.below ks.toArray k) (Int.ofNat k, x)).size = ks.length + 1 := by
    rw [← Array.length_toList, (SetTable.insertAt_perm es _ _).length_eq, Array.length_toList, Array.size_push, h.size]
  unfold layNew
  rw [a1]
  dsimp only
  rw [a2]
  dsimp only
  rw [sz]
  unfold SetTable.orStandIn
  rw [a3, if_pos rfl]
  rfl
theorem relay_sm {es : Array (Int × Value)} {ks : List Nat} {k : Nat} (h : SmE es (smIn ks k)) (h0 : ks ∈ subs8) (hk : k < 8) (hn : k ∉ ks) (h4 : ks.length = 4) (led : Bool) : relayAll (smP led ks k) es (SetTable.grown es.size) = (es, smT led (smIn ks k), false) := by
  obtain ⟨_, _, _, b1, _, a6, _⟩ := sm_ok (led := led) h0 hk hn
  have l5 : (smIn ks k).length = 5 := by rw [(smIn_perm ks k).length_eq, List.length_cons, h4]
  have sz : es.size = 5 := by rw [h.size, l5]
  have eh : es.map (·.1) = ((smIn ks k).map Int.ofNat).toArray := by
    apply Array.toList_inj.mp
    rw [Array.toList_map, h.2.1]
  have ef : (#[0, 1, 2, 3, 4] : Array Nat).filterMap (es[·]?) = es := by
    apply Array.toList_inj.mp
    rw [Array.toList_filterMap]
    have := filterMap_getElem?_range es
    rw [sz] at this
    exact this
  unfold relayAll
  rw [eh, sz, a6 h4]
  dsimp only
  rw [ef, sz]
  have c1 : coversAll #[0, 1, 2, 3, 4] 5 = true := by decide
  have c2 : (smT led (smIn ks k)).fits 5 = true := by rw [← l5]; exact smT_fits b1 led
  rw [c1, c2]
  rfl
def smAdd (ks : List Nat) (k : Nat) : List Nat := if k ∈ ks then ks else smIn ks k
theorem get_put {h : Heap} {a : Addr} {es es' : Array (Int × Value)} {ep : Nat} {ks : List Nat} {t t' : SetTable} {o : Obj} (ho : h.get? a = some o) (ed : o.data = .set es ep t) : (h.update a (Obj.putSet es' t')).get? a = some { o with data := .set es' (ep + 1) t' } := by
  have := Heap.get?_update_self (Obj.putSet es' t') ho (by rw [putSet_of es' t' ed]; rfl)
  rw [putSet_of es' t' ed] at this
  exact this
theorem add_sm {a : Addr} {ks : List Nat} {k : Nat} {t : Tok} {Q : Bool → Shared → Prop} (hS : SmAt w a ks s.heap) (hk : k < 8)
    (h : ∀ h' b, Heap.SameBut a s.heap h' → SmAt w a (smAdd ks k) h' → Q b { s with heap := h' }) : wpAny (model prog w) A (setAddHashed a (.int (Int.ofNat k) t) (hashInt (Int.ofNat k))) Q E s := by
  obtain ⟨es, ep, ho, hE⟩ := hS
  have hel : ElemsOf (intKind prog w) es.toList := hE.elems
  have l8 := (sm_sort hE.1).2.2
  have hf : (smT (!byT w) ks).fits es.size = true := by rw [hE.size]; exact smT_fits hE.1 _
  have hb : es.size < scanBound := by rw [hE.size]; unfold scanBound; omega
  have hkey := intKind_is prog w (Int.ofNat k) t
  unfold setAddHashed setAddHashedIn
  refine wpAny_holding (wpAny_bind (wpAny_setState_of ho rfl hf ?_))
  dsimp only
  rw [byScan_of (knd := intKind prog w) rfl hb hel]
  simp only [↓reduceIte]
  unfold setAddByScan
  refine wpAny_bind ?_
  refine wpAny_bind (wpAny_rule ?_)
  refine wpAny_bind (wpAny_setScan_of (knd := intKind prog w) hkey ho rfl hf hel ?_)
  cases hr : List.findIdx? (fun e => (intKind prog w).is (Int.ofNat k) e.2) es.toList with
  | some j =>
    dsimp only
    obtain ⟨hj, hpj, _⟩ := List.findIdx?_eq_some_iff_getElem.mp hr
    have hin : k ∈ ks := (hE.mem (prog := prog) (w := w) k).mpr ⟨_, List.getElem_mem hj, hpj⟩
    refine wpAny_pure (wpAny_pure ?_)
    have e : s = { s with heap := s.heap } := by cases s; rfl
    rw [e]
    exact h s.heap _ (Heap.SameBut.refl a s.heap) ⟨es, ep, by rw [smAdd, if_pos hin]; exact ho, by rw [smAdd, if_pos hin]; exact hE⟩
  | none =>
    dsimp only
    have hn : k ∉ ks := fun z => by
      obtain ⟨e, he, hp⟩ := (hE.mem (prog := prog) (w := w) k).mp z
      have := List.findIdx?_eq_none_iff.mp hr e he
      rw [hp] at this; exact Bool.noConfusion this
    rw [hash_small k hk, lay_sm hE hk hn]
    dsimp only
    refine wpAny_bind (wpAny_pure ?_)
    have hE1 := hE.put hk hn t
    generalize he1 : SetTable.insertAt es (SetTable.below ks.toArray k) (Int.ofNat k, Value.int (Int.ofNat k) t) = es1 at hE1 ⊢
    have l5 : (smIn ks k).length = ks.length + 1 := by rw [(smIn_perm ks k).length_eq, List.length_cons]
    have hz : es1.size ≤ sizeLine := by rw [hE1.size, l5, sizeLine_eq]; omega
    obtain ⟨_, _, _, _, a5, _, a7⟩ := sm_ok (led := !byT w) hE.1 hk hn
    rw [if_pos (show (smP (!byT w) ks k).plain = true from rfl), hashByValue_scannable 8 rfl]
    refine wpAny_bind (wpAny_pure ?_)
    rw [if_pos (show plainKind (.int (Int.ofNat k) t) = true from rfl)]
    refine wpAny_bind (wpAny_storeSet_of ho rfl ?_ hz)
    have ho1 := get_put (ks := ks) (es' := es1) (t' := smP (!byT w) ks k) ho rfl
    have sb1 := Heap.SameBut.update s.heap a (Obj.putSet es1 (smP (!byT w) ks k))
    rw [a5]
    by_cases h4 : ks.length = 4
    · rw [if_pos (by rw [h4]; rfl), relay_sm hE1 hE.1 hk hn h4]
      dsimp only
      refine wpAny_bind (wpAny_pure (wpAny_bind (wpAny_storeSet_of ho1 rfl ?_ hz)))
      have ho2 := get_put (ks := ks) (es' := es1) (t' := smT (!byT w) (smIn ks k)) ho1 rfl
      exact wpAny_pure (wpAny_pure (h _ _ (sb1.trans (Heap.SameBut.update _ a _)) ⟨es1, _, by rw [smAdd, if_neg hn]; exact ho2, by rw [smAdd, if_neg hn]; exact hE1⟩))
    · rw [if_neg (by simp [h4])]
      rw [a7 h4] at ho1 sb1 ⊢
      exact wpAny_pure (wpAny_pure (h _ _ sb1 ⟨es1, _, by rw [smAdd, if_neg hn]; exact ho1, by rw [smAdd, if_neg hn]; exact hE1⟩))
end
end L2
namespace L2
open PySem PySem.Spec PyProof.Rows
theorem mem_smAdd {ks : List Nat} {k j : Nat} : j ∈ smAdd ks k ↔ j ∈ ks ∨ j = k := by
  unfold smAdd
  split
  · rename_i h
    exact ⟨.inl, fun z => z.elim id fun e => e ▸ h⟩
  · rw [(smIn_perm ks k).mem_iff, List.mem_cons]
    exact ⟨fun z => z.elim .inr .inl, fun z => z.elim .inr .inl⟩
section
variable {prog : Program} {w : World} {A : Around} {R : Result → Shared → Prop} {I : Addr} {fp wr : List Addr} {G : Array GenState → Array GenState → Prop} {n : Nat} {P : Nat → Value → Prop} {St : Nat → Shared → Prop}
theorem loop_sm (W : WalksS prog w A.in1 I fp wr G n P St) (S : Addr) (hSf : S ∉ fp) (val : Nat → Nat) (hval : ∀ i v, i < n → P i v → ∃ t, v = .int (Int.ofNat (val i)) t) (h8 : ∀ i, i < n → val i < 8) :
    ∀ (k i : Nat) (ks : List Nat) (s : Shared), n - i = k → i ≤ n → St i s → SmAt w S ks s.heap → (∀ j, j ∈ ks ↔ ∃ m, m < i ∧ val m = j) →
      (∀ ks' s', Moved (S :: wr) G s s' → SmAt w S ks' s'.heap → (∀ j, j ∈ ks' ↔ ∃ m, m < n ∧ val m = j) → R (.ok (.ret .none)) s') →
      codeAny (model prog w) A (.builtin "set.update.loop" ⟨[.ref S, .ref I], []⟩) R s := by
  have hSw : S ∉ wr := fun h => hSf (W.sub _ h)
  have hsub : ∀ b ∈ wr, b ∈ S :: wr := fun b hb => List.mem_cons_of_mem _ hb
  have up : ∀ {ks : List Nat} {s s' : Shared}, Moved wr G s s' → SmAt w S ks s.heap → SmAt w S ks s'.heap := fun hm ⟨es, ep, ho, hE⟩ => ⟨es, ep, hm.heap S _ hSw ho, hE⟩
  intro k
  induction k with
  | zero =>
    intro i ks s hk hi hst hS hm hR
    have hin : i = n := by omega
    subst hin
    refine codeAny_builtin F.entry_set_update_loop ?_
    rw [Around.under_plainId F.plain_set_update_loop _]
    show wpAny _ A.in1 (pyNext (.ref I) >>= _) _ _ s
    refine wpAny_bind (W.done s _ _ hst fun s' hmv => ?_)
    show wpAny _ A.in1 (ret Value.none) _ _ s'
    exact wpAny_pure (hR ks s' (hmv.mono hsub) (up hmv hS) hm)
  | succ k ih =>
    intro i ks s hk hi hst hS hm hR
    have hlt : i < n := by omega
    refine codeAny_builtin F.entry_set_update_loop ?_
    rw [Around.under_plainId F.plain_set_update_loop _]
    show wpAny _ A.in1 (pyNext (.ref I) >>= _) _ _ s
    refine wpAny_bind (W.item i s _ _ hlt hst fun v s' hP hst' hmv => ?_)
    obtain ⟨t, rfl⟩ := hval i v hlt hP
    have hS' := up hmv hS
    show wpAny _ A.in1 (holding [Value.int (Int.ofNat (val i)) t] (setAdd S (.int (Int.ofNat (val i)) t)) >>= _) _ _ s'
    refine wpAny_bind (wpAny_holding ?_)
    unfold setAdd
    refine wpAny_holding ?_
    refine wpAny_bind ((intKind prog w).pyHash (k := Int.ofNat (val i)) (intKind_is _ _ _ _) ?_)
    refine add_sm (s := { s' with toks := s'.toks + 1 }) hS' (h8 i hlt) fun h' b hsb hS2 => ?_
    refine wpAny_pure ⟨plainId_quiet F.plain_set_update_loop _, ih (i + 1) _ _ (by omega) hlt (W.frame _ s' _ _ hst' (Nat.le_succ _) fun b hb o e => ?_) hS2 (fun j => ?_) fun ks' s'' hm'' hS'' hks => ?_⟩
    · rw [hsb.2 b (fun h : b = S => hSf (by rw [← h]; exact hb))]; exact e
    · rw [mem_smAdd, hm j]
      constructor
      · rintro (⟨m, h1, h2⟩ | rfl)
        · exact ⟨m, Nat.lt_succ_of_lt h1, h2⟩
        · exact ⟨i, Nat.lt_succ_self i, rfl⟩
      · rintro ⟨m, h1, h2⟩
        rcases Nat.lt_succ_iff_lt_or_eq.mp h1 with h1 | rfl
        · exact .inl ⟨m, h1, h2⟩
        · exact .inr h2.symm
    · refine hR ks' s'' (Moved.trans W.gtrans ((hmv.mono hsub).then_heap (Nat.le_succ _) fun b o hb e => ?_) hm'') hS'' hks
      rw [hsb.2 b (fun h : b = S => hb (by rw [h]; exact List.mem_cons_self))]; exact e
end
section
variable {prog : Program} {w : World} {A : Around} {E : Value → Shared → Prop} {s : Shared}
theorem new_sm (a : Value) {Q₁ : Value → Shared → Prop} (h : Q₁ (.ref s.heap.objs.size) { s with heap := s.heap.push (smO w #[] 0 []) }) :
    codeAny (model prog w) A (.call (.builtin "set.__new__") ⟨[.type "set", a], []⟩) (wants Q₁ E) s := by
  refine codeAny_of_tree ?_
  show wpAny _ A.in1 (do checkBuiltinCall "set.__new__" ⟨[.type "set", a], []⟩; again (.builtin "set.__new__" ⟨[.type "set", a], []⟩)) _ _ s
  refine wpAny_bind (wpAny_of_eq (F.newCall_set_1 a) (wpAny_pure ⟨plainId_quiet F.plain_set_new _, codeAny_builtin F.entry_set_new ?_⟩))
  rw [Around.under_plainId F.plain_set_new _]
  unfold Builtin.«set.__new__» Builtin.Frozenset.newClass
  have hsub := sub_set_self
  obtain ⟨hp, g, d, tk, os⟩ := s
  dsimp only
  wp_walk
  refine wpAny_askSetting (wpAny_pure ?_)
  dsimp only
  simp only [newObj]
  refine wpAny_bind (wpAny_alloc (wpAny_pure ?_))
  exact wpAny_pure h
theorem smAt_new (h : Heap) : SmAt w h.objs.size [] (h.push (smO w #[] 0 [])) := ⟨#[], 0, Heap.get?_push_size _ rfl, mem_subsN 8 [] .nil (fun k z => by cases z), rfl, fun e he => by cases he⟩
theorem call_set_sm {l : Addr} {items : Array Value} {ns : List Nat} {Q : Value → Shared → Prop} (hh : A.handled = none) (hl : s.heap.IsTuple l items) (hi : IntsAre items.toList (ns.map Int.ofNat)) (h8 : ∀ k ∈ ns, k < 8)
    (h : ∀ (h' : Heap) (tk : Nat) (ks : List Nat), SmAt w s.heap.objs.size ks h' → (∀ j, j ∈ ks ↔ j ∈ ns) → (∀ b o, b < s.heap.objs.size → s.heap.get? b = some o → h'.get? b = some o) → Q (.ref s.heap.objs.size) { s with heap := h', toks := tk }) :
    wpAny (model prog w) A (call (.type "set") [.ref l]) Q E s := by
  obtain ⟨c, tl, hmro⟩ := F.called_set.mro
  have hmade := F.called_set.made
  have hsub := F.called_set.sub
  refine wpAny_call (codeAny_of_tree ?_)
  show wpAny _ _ (callAny (.type "set") _) _ _ _
  refine wpAny_pure ⟨Code.quiet_builtin _ (by decide +kernel), codeAny_builtin F.entry_type_call ?_⟩
  rw [Around.under_plain (weight_type_call_type "set" [.ref l] []) rfl]
  have h1 := F.called_set.notType
  have h2 := F.called_set.canCreate
  have hct := F.typeCall_set_1 (.ref l)
  repeat (any_goals (first | assumption | wp_step))
  refine codeAny_mono (new_sm (.ref l) (E := E) (Q₁ := fun obj s1 => obj = .ref s.heap.objs.size ∧ s1 = { s with heap := s.heap.push (smO w #[] 0 []) }) ⟨rfl, rfl⟩) fun r s1 hr => ?_
  cases r with
  | error e => exact hr
  | ok fl =>
    cases fl with
    | ret obj =>
      obtain ⟨rfl, rfl⟩ := hr
      have hS : (s.heap.push (smO w #[] 0 [])).get? s.heap.objs.size = some (smO w #[] 0 []) := Heap.get?_push_size _ rfl
      have hT : Shared.TypeIs { s with heap := s.heap.push (smO w #[] 0 []) } (.ref s.heap.objs.size) "set" := ⟨_, hS, rfl⟩
      have hli := F.called_set.init.lookup
      have hbi := F.called_set.init.bind (.ref s.heap.objs.size)
      repeat (any_goals (first | assumption | wp_step))
      refine codeAny_mono (codeAny_call_builtin (R := wants (fun r s2 => r = .none ∧ ∃ h' tk ks, s2 = { s with heap := h', toks := tk } ∧ SmAt w s.heap.objs.size ks h' ∧ (∀ j, j ∈ ks ↔ j ∈ ns) ∧ ∀ b o, b < s.heap.objs.size → s.heap.get? b = some o → h'.get? b = some o) E) F.called_set.init.plain F.entry_set_init (check_set_init_1 hT ?_)) fun r2 s2 hr2 => ?_
      · obtain ⟨ol, hol, hcl, nl, hdl⟩ := hl
        obtain ⟨ocls, odict, odata, oslots⟩ := ol
        simp only at hcl hdl
        subst hcl; subst hdl
        have hol' : (s.heap.push (smO w #[] 0 [])).get? l = some { cls := .type "tuple", dict := odict, data := .seq items nl, slots := oslots } := Heap.get?_push_of_some _ hol
        have hsls := sub_tup_set
        have hslf := sub_tup_fro
        have hne : (Value.type "tuple" == Value.type "dict") = false := by decide
        have hl1 : (s.heap.push (smO w #[] 0 [])).IsTuple l items := ⟨_, hol', rfl, nl, rfl⟩
        have hlS : l < s.heap.objs.size := Heap.lt_size hol
        unfold Builtin.«set.__init__» noKeywords Builtin.Frozenset.updateFrom
        generalize hPI : pyIter = PI
        wp_walk
        subst hPI
        refine wpAny_pyIter_tuple hl1 ?_
        refine wpAny_bind (wpAny_runValue ?_)
        have hh3 : A.in1.in1.in1.handled = none := by simp [hh]
        have hneI : l ≠ (s.heap.push (smO w #[] 0 [])).objs.size := by
          rw [Heap.size_push]
          exact Nat.ne_of_lt (Nat.lt_succ_of_lt hlS)
        have hlen : items.size = ns.length := by
          have := IntsAre.len hi
          simpa using this
        refine loop_sm ((Walks.tuple hh3 _ l hneI items).toS) s.heap.objs.size ?_ (fun i => ns.getD i 0) (fun i v hlt hv => ?_) (fun i hlt => ?_) (items.size - 0) 0 [] _ (by omega) (Nat.zero_le _) ⟨⟨_, Heap.get?_push_size _ rfl, rfl, rfl⟩, hl1.push _⟩ ?_ (fun j => ⟨fun z => (by cases z), fun ⟨m, z, _⟩ => absurd z (Nat.not_lt_zero m)⟩) ?_
        · rw [Heap.size_push]
          simp only [List.mem_cons, List.not_mem_nil, or_false, not_or]
          exact ⟨Nat.ne_of_lt (Nat.lt_succ_self _), Nat.ne_of_gt hlS⟩
        · obtain ⟨t, e⟩ := IntsAre.int_at hi i v (by rw [Array.getElem?_toList]; exact hv)
          refine ⟨t, ?_⟩
          rw [e]
          rw [hlen] at hlt
          simp [List.getD_eq_getElem?_getD, List.getElem?_eq_getElem hlt]
        · rw [hlen] at hlt
          rw [List.getD_eq_getElem?_getD, List.getElem?_eq_getElem hlt]
          exact h8 _ (List.getElem_mem hlt)
        · obtain ⟨es, ep, a1, a2⟩ := smAt_new (w := w) s.heap
          exact ⟨es, ep, Heap.get?_push_of_some _ a1, a2⟩
        · intro ks' s' hm hS' hks
          obtain ⟨h', g', d', tk', os'⟩ := s'
          have eg : g' = s.gens := hm.gens
          have ed : d' = s.drawn := hm.drawn
          have eo : os' = s.os := hm.os
          subst eg ed eo
          show wpAny _ _ _ _ _ _
          refine wpAny_pure ?_
          show wpAny _ _ (ret Value.none) _ _ _
          refine wpAny_pure ⟨rfl, h', tk', ks', rfl, hS', fun j => ?_, fun b o hb e => hm.heap b o ?_ (Heap.get?_push_of_some _ (Heap.get?_push_of_some _ e))⟩
          · rw [hks j]
            constructor
            · rintro ⟨m, h1, h2⟩
              rw [hlen] at h1
              rw [List.getD_eq_getElem?_getD, List.getElem?_eq_getElem h1] at h2
              rw [← h2]; exact List.getElem_mem h1
            · intro hj
              obtain ⟨m, h1, h2⟩ := List.getElem_of_mem hj
              exact ⟨m, by rw [hlen]; exact h1, by rw [List.getD_eq_getElem?_getD, List.getElem?_eq_getElem h1]; exact h2⟩
          · rw [Heap.size_push]
            simp only [List.mem_cons, List.not_mem_nil, or_false, not_or]
            exact ⟨Nat.ne_of_lt hb, Nat.ne_of_lt (Nat.lt_succ_of_lt hb)⟩
      · cases r2 with
        | error e => exact hr2
        | ok fl2 =>
          cases fl2 with
          | ret r =>
            obtain ⟨rfl, h', tk, ks, rfl, hd⟩ := hr2
            repeat (any_goals (first | assumption | wp_step))
            exact h _ _ _ hd.1 hd.2.1 hd.2.2
          | _ => exact hr2.elim
    | _ => exact hr.elim
end
end L2
namespace L2
open PySem PySem.Spec PyProof.Rows
theorem owner_setit : Manifest.owners.lookup (String.ofList ['r', 'o', 't', 'a', 'r', 'e', 't', 'i', '_', 't', 'e', 's'].reverse) = some Manifest.sig_set_iterator := by kernel_rfl
theorem slot_setit_next : Slot "set_iterator" "__next__" "set_iterator.__next__" :=
  .of (owner := "set_iterator") (n := "__next__") (by rw [typeLookup_type, builtinLookup_eq_fast]; kernel_rfl) (by decide +kernel) (by decide +kernel) (by decide +kernel)
    (by first | exact .inl (by decide +kernel) | exact .inr (by decide +kernel)) (by rw [isSubtype_type]; kernel_rfl)
theorem entry_setit_next : entryFor table "set_iterator.__next__" = some Builtin.«set_iterator.__next__» := entryFor_of_tree (by kernel_rfl)
theorem args_setit_next (a : Value) : argsOk "set_iterator.__next__" ⟨[a], []⟩ := by
  unfold argsOk; rw [signature?_of (id := "set_iterator.__next__") (n := ['_', '_', 't', 'x', 'e', 'n', '_', '_']) (o := ['r', 'o', 't', 'a', 'r', 'e', 't', 'i', '_', 't', 'e', 's']) (by kernel_rfl) owner_setit]; kernel_rfl
theorem entry_set_iter : entryFor table "set.__iter__" = some Builtin.«frozenset.__iter__» :=
  entryFor_alias (id' := "frozenset.__iter__") (by kernel_rfl) rfl (by decide +kernel) (by kernel_rfl)
def SIt (it a : Addr) (slot i n ep : Nat) (h : Heap) : Prop := ∃ o, h.get? it = some o ∧ o.cls = .type "set_iterator" ∧ o.data = .fields #[rawInt slot, rawInt i, .ref a, rawInt n, rawInt ep]
def slotAt (w : World) (ks : List Nat) : Nat → Nat
  | 0 => 0
  | i + 1 => if byT w then 0 else ks.getD i 0 + 1
def walkOf (w : World) (a : Addr) (ep : Nat) (es : Array (Int × Value)) : Array (Int × Value) := if byT w then pickOrder (w.params.setOrder a ep) es else es
theorem walkOf_perm (w : World) (a : Addr) (ep : Nat) (es : Array (Int × Value)) : (walkOf w a ep es).toList.Perm es.toList := by
  unfold walkOf
  split
  · exact pick_perm _ _
  · exact .refl _
section
variable {prog : Program} {w : World} {A : Around} {E : Value → Shared → Prop} {s : Shared} {a : Addr} {es : Array (Int × Value)} {ep : Nat} {ks : List Nat}
theorem drawn_sm {Q : Bool → Shared → Prop} (ho : s.heap.get? a = some (smO w es ep ks)) (hf : (smT (!byT w) ks).fits es.size = true) (h : Q false s) : wpAny (model prog w) A (setDrawn a) Q E s := by
  unfold setDrawn setsByText
  refine wpAny_bind (wpAny_setState_of ho rfl hf (wpAny_bind (wpAny_bind (wpAny_askSetting (wpAny_pure ?_)))))
  refine wpAny_pure ?_
  have : (!(w.params.followText "set-order") && (!(smT (!byT w) ks).plain && decide (es.size > 1))) = false := by
    rw [show (smT (!byT w) ks).plain = true from rfl]; simp
  exact this ▸ h
theorem iter_sm {Q : Value → Shared → Prop} (ho : s.heap.get? a = some (smO w es ep ks)) (hf : (smT (!byT w) ks).fits es.size = true)
    (h : Q (.ref s.heap.objs.size) { s with heap := s.heap.push { cls := .type "set_iterator", data := .fields #[rawInt 0, rawInt 0, .ref a, rawInt es.size, rawInt ep] } }) : wpAny (model prog w) A (pyIter (.ref a)) Q E s := by
  have hT : s.TypeIs (.ref a) "set" := ⟨_, ho, rfl⟩
  refine wpAny_pyIter_slot hT F.slot_set_iter (wpAny_call_entry F.slot_set_iter hT entry_set_iter ?g (F.args_set_iter_1 _))
  case g =>
  unfold Builtin.«frozenset.__iter__» Builtin.Frozenset.slot0 Builtin.Frozenset.sizeOf
  refine wpAny_bind (wpAny_bind (wpAny_pure (wpAny_pure ?_)))
  refine wpAny_bind (wpAny_bind (wpAny_setEntries_of ho rfl hf (wpAny_pure ?_)))
  refine wpAny_bind (drawn_sm ho hf ?_)
  rw [if_neg (by exact Bool.false_ne_true)]
  refine wpAny_bind (wpAny_pure (wpAny_bind (wpAny_setEpoch_of ho rfl hf ?_)))
  unfold newFields
  refine wpAny_bind (wpAny_newObj_type (wpAny_pure ⟨_, rfl, "set_iterator", _, ⟨_, Heap.get?_push_size _ rfl, rfl⟩, slot_setit_next.lookup, ?_⟩))
  exact h
theorem next_set {slot i : Nat} {Q : Option (Value × Nat) → Shared → Prop} (ho : s.heap.get? a = some (smO w es ep ks)) (hE : SmE es ks) (hs : slot = slotAt w ks i) (hi : i ≤ es.size)
    (h : Q (((walkOf w a ep es)[i]?).map fun e => (e.2, slotAt w ks (i + 1))) s) : wpAny (model prog w) A (setNext a slot i ep) Q E s := by
  have hf : (smT (!byT w) ks).fits es.size = true := by rw [hE.size]; exact smT_fits hE.1 _
  unfold setNext setsByText
  refine wpAny_bind (wpAny_setState_of ho rfl hf (wpAny_bind (wpAny_bind (wpAny_askSetting (wpAny_pure ?_)))))
  dsimp only
  show wpAny _ _ (if byT w = true then _ else _) _ _ _
  cases hb : byT w with
  | true =>
    rw [if_pos rfl, if_neg (by simp)]
    unfold setWalk setsByText
    refine wpAny_bind (wpAny_bind (wpAny_setState_of ho rfl hf (wpAny_bind (wpAny_bind (wpAny_askSetting (wpAny_pure ?_))))))
    dsimp only
    show wpAny _ _ (if byT w = true then _ else _) _ _ _
    rw [if_pos hb]
    refine wpAny_bind (wpAny_askSetting (wpAny_pure (wpAny_pure ?_)))
    unfold walkOf at h
    rw [if_pos hb] at h
    have e1 : slotAt w ks (i + 1) = slot := by
      rw [hs]
      cases i with
      | zero => simp [slotAt, hb]
      | succ i => simp [slotAt, hb]
    rw [e1] at h
    exact h
  | false =>
    rw [if_neg (by simp)]
    rw [if_neg]
    rotate_left
    · show ¬ ((!true && decide (es.size > 1)) = true)
      simp
    refine wpAny_bind (wpAny_of_eq (a := ()) rfl ?_)
    refine wpAny_pure ?_
    unfold walkOf at h
    rw [hb, if_neg (by simp)] at h
    obtain ⟨z0, z1⟩ := sm_next hE.1
    have eb : SetTable.below ks.toArray slot = i := by
      rw [hs]
      cases i with
      | zero => exact z0
      | succ i =>
        show SetTable.below ks.toArray (if byT w then 0 else ks.getD i 0 + 1) = i + 1
        rw [hb, if_neg (by simp)]
        exact z1 i (by rw [← hE.size]; omega)
    show Q (match es[SetTable.below ks.toArray slot]?, ks.toArray[SetTable.below ks.toArray slot]? with
          | some (_, x), some j => some (x, j + 1)
          | _, _ => none) s
    rw [eb]
    by_cases c : i < es.size
    · have c' : i < ks.length := by rw [← hE.size]; exact c
      rw [Array.getElem?_eq_getElem c] at h ⊢
      rw [List.getElem?_toArray, List.getElem?_eq_getElem c']
      have e2 : slotAt w ks (i + 1) = ks[i] + 1 := by
        show (if byT w then 0 else ks.getD i 0 + 1) = _
        rw [hb, if_neg (by simp), List.getD_eq_getElem?_getD, List.getElem?_eq_getElem c']
        rfl
      rw [e2] at h
      exact h
    · rw [Array.getElem?_eq_none (by omega)] at h ⊢
      exact h
theorem SIt.step {h : Heap} {it : Addr} {slot i n slot' : Nat} (x : SIt it a slot i n ep h) : SIt it a slot' (i + 1) n ep ((h.update it (Obj.mapFields (·.setIfInBounds 0 (rawInt slot')))).update it (Obj.mapFields (·.setIfInBounds 1 (rawInt ((i : Int) + 1))))) := by
  obtain ⟨o, h1, h2, h3⟩ := x
  have d1 := Obj.data_mapFields h3 (·.setIfInBounds 0 (rawInt slot'))
  have g1 := Heap.get?_update_self (Obj.mapFields (·.setIfInBounds 0 (rawInt slot'))) h1 (Obj.isFreed_of_fields d1)
  have d2 := Obj.data_mapFields d1 (·.setIfInBounds 1 (rawInt ((i : Int) + 1)))
  exact ⟨_, Heap.get?_update_self _ g1 (Obj.isFreed_of_fields d2), (Obj.cls_mapFields ..).trans ((Obj.cls_mapFields ..).trans h2), by rw [d2]; simp [rawInt]⟩
theorem SIt.typeIs {it : Addr} {slot i n : Nat} (x : SIt it a slot i n ep s.heap) : s.TypeIs (.ref it) "set_iterator" := let ⟨o, h1, h2, _⟩ := x; ⟨o, h1, h2⟩
theorem nextI_sm {it : Addr} {i : Nat} {Q : Option Value → Shared → Prop} (hit : SIt it a (slotAt w ks i) i es.size ep s.heap) (ho : s.heap.get? a = some (smO w es ep ks)) (hE : SmE es ks) {e : Int × Value} (hx : (walkOf w a ep es)[i]? = some e) (hi : i < es.size)
    (q : ∀ h', SIt it a (slotAt w ks (i + 1)) (i + 1) es.size ep h' → Heap.SameBut it s.heap h' → Q (some e.2) { s with heap := h' }) : wpAny (model prog w) A (pyNext (.ref it)) Q E s := by
  have hf : (smT (!byT w) ks).fits es.size = true := by rw [hE.size]; exact smT_fits hE.1 _
  have hT := hit.typeIs
  obtain ⟨oi, hi1, hi2, hi3⟩ := id hit
  unfold pyNext
  refine wpAny_bind (wpAny_attempt (wpAny_callSpecial?_slot (name := Str.ofString "__next__") hT slot_setit_next (wpAny_call_entry slot_setit_next hT entry_setit_next ?g (args_setit_next _))))
  case g =>
  unfold Builtin.«set_iterator.__next__» slotArgs
  refine wpAny_bind (wpAny_pure (wpAny_bind (wpAny_fieldsOf hi1 hi3 ?_)))
  refine wpAny_bind (wpAny_setEntries_of ho rfl hf ?_)
  rw [if_neg (by simp)]
  show wpAny _ _ (setNext a (slotAt w ks i : Int).toNat (i : Int).toNat (ep : Int).toNat >>= _) _ _ s
  rw [Int.toNat_natCast, Int.toNat_natCast, Int.toNat_natCast]
  refine wpAny_bind (next_set ho hE rfl (Nat.le_of_lt hi) ?_)
  rw [hx]
  show wpAny _ _ (setField (.ref it) 0 (rawInt (slotAt w ks (i + 1))) >>= _) _ _ s
  refine wpAny_bind (wpAny_setField hi1 hi3 (by simp) ?_)
  have d1 := Obj.data_mapFields hi3 (·.setIfInBounds 0 (rawInt (slotAt w ks (i + 1))))
  have g1 := Heap.get?_update_self (Obj.mapFields (·.setIfInBounds 0 (rawInt (slotAt w ks (i + 1))))) hi1 (Obj.isFreed_of_fields d1)
  refine wpAny_bind (wpAny_setField g1 d1 (by simp) ?_)
  exact wpAny_pure ⟨_, rfl, wpAny_pure (q _ (SIt.step hit) ((Heap.SameBut.update ..).trans (Heap.SameBut.update ..)))⟩
theorem endI_sm {it : Addr} {Q : Option Value → Shared → Prop} (hh : A.handled = none) (hit : SIt it a (slotAt w ks es.size) es.size es.size ep s.heap) (ho : s.heap.get? a = some (smO w es ep ks)) (hE : SmE es ks)
    (q : ∀ h', Heap.ExtBut it s.heap h' → Q none { s with heap := h' }) : wpAny (model prog w) A (pyNext (.ref it)) Q E s := by
  have hf : (smT (!byT w) ks).fits es.size = true := by rw [hE.size]; exact smT_fits hE.1 _
  have hT := hit.typeIs
  obtain ⟨oi, hi1, hi2, hi3⟩ := id hit
  unfold pyNext
  refine wpAny_bind (wpAny_attempt (wpAny_callSpecial?_slot (name := Str.ofString "__next__") hT slot_setit_next (wpAny_call_entry slot_setit_next hT entry_setit_next ?g (args_setit_next _))))
  case g =>
  unfold Builtin.«set_iterator.__next__» slotArgs
  refine wpAny_bind (wpAny_pure (wpAny_bind (wpAny_fieldsOf hi1 hi3 ?_)))
  refine wpAny_bind (wpAny_setEntries_of ho rfl hf ?_)
  rw [if_neg (by simp)]
  show wpAny _ _ (setNext a (slotAt w ks es.size : Int).toNat (es.size : Int).toNat (ep : Int).toNat >>= _) _ _ s
  rw [Int.toNat_natCast, Int.toNat_natCast, Int.toNat_natCast]
  refine wpAny_bind (next_set ho hE rfl (Nat.le_refl _) ?_)
  have hw : (walkOf w a ep es).size = es.size := by rw [← Array.length_toList, (walkOf_perm w a ep es).length_eq, Array.length_toList]
  rw [Array.getElem?_eq_none (by omega)]
  show wpAny _ _ (setField (.ref it) 2 .none >>= _) _ _ s
  refine wpAny_bind (wpAny_setField hi1 hi3 (by simp) ?_)
  show wpAny _ _ (newExc (.type "StopIteration") [] >>= _) _ _ _
  simp only [newExc, newTuple]
  refine wpAny_bind (wpAny_bind (wpAny_newObj_type (wpAny_bind (m := firstArgMember _ _) (wpAny_of_eq (a := Value.none) (by first | rfl | (simp only [firstArgMember]; rfl)) (wpAny_newObj_type ?g (by size_fits)))) (by size_fits)))
  case g =>
  simp only [raiseNew]
  refine wpAny_bind (wpAny_handled ?g)
  case g =>
  rw [show A.in1.handled = none from hh]
  refine wpAny_bind (wpAny_pure (wpAny_throw ?z))
  case z => refine wpAny_bind (wpAny_isInstance (T := "StopIteration") (b := true) ⟨_, Heap.get?_push_size _ rfl, rfl⟩ isSubtype_stop ?z)
            case z => exact wpAny_pure (q _ (((Heap.SameBut.update ..).extBut.push _).push _))
end
end L2
namespace L2
open PySem PySem.Spec PySem.W PyProof.Rows
theorem slot_setit_iter : Slot "set_iterator" "__iter__" "set_iterator.__iter__" :=
  .of (owner := "set_iterator") (n := "__iter__") (by rw [typeLookup_type, builtinLookup_eq_fast]; kernel_rfl) (by decide +kernel) (by decide +kernel) (by decide +kernel)
    (by first | exact .inl (by decide +kernel) | exact .inr (by decide +kernel)) (by rw [isSubtype_type]; kernel_rfl)
theorem entry_setit_iter : entryFor table "set_iterator.__iter__" = some Builtin.«dict_keyiterator.__iter__» :=
  entryFor_alias (id' := "dict_keyiterator.__iter__") (by kernel_rfl) rfl (by decide +kernel) (by kernel_rfl)
theorem args_setit_iter (a : Value) : argsOk "set_iterator.__iter__" ⟨[a], []⟩ := by
  unfold argsOk; rw [signature?_of (id := "set_iterator.__iter__") (n := ['_', '_', 'r', 'e', 't', 'i', '_', '_']) (o := ['r', 'o', 't', 'a', 'r', 'e', 't', 'i', '_', 't', 'e', 's']) (by kernel_rfl) owner_setit]; kernel_rfl
section
variable {prog : Program} {w : World} {A : Around} {E : Value → Shared → Prop} {s : Shared} {a : Addr} {es : Array (Int × Value)} {ep : Nat} {ks : List Nat}
theorem SIt.at {h h' : Heap} {it : Addr} {sl i n : Nat} (x : SIt it a sl i n ep h) (e : ∀ o, h.get? it = some o → h'.get? it = some o) : SIt it a sl i n ep h' := let ⟨o, ho, r⟩ := x; ⟨o, e _ ho, r⟩
theorem walks_sm (hh : A.handled = none) (I a : Addr) (hne : a ≠ I) (ep : Nat) (hE : SmE es ks) :
    Walks prog w A I [I, a] [I] es.size (fun i v => ∃ e, (walkOf w a ep es)[i]? = some e ∧ v = e.2) (fun i h => SIt I a (slotAt w ks i) i es.size ep h ∧ h.get? a = some (smO w es ep ks)) where
  sub := fun b hb => by simp at hb; simp [hb]
  frame := fun _ _ _ st hk => ⟨st.1.at fun o e => hk I (by simp) o e, hk a (by simp) _ st.2⟩
  item := fun i s Q E hi st hQ => by
    have hw : (walkOf w a ep es).size = es.size := by rw [← Array.length_toList, (walkOf_perm w a ep es).length_eq, Array.length_toList]
    refine nextI_sm st.1 st.2 hE (Array.getElem?_eq_getElem (by omega)) hi fun h' hit' hs' => ?_
    exact hQ _ h' s.toks ⟨_, Array.getElem?_eq_getElem (by omega), rfl⟩ ⟨hit', by rw [hs'.2 a hne]; exact st.2⟩ fun b o hb e => hs'.extBut b o (fun h => hb (by simp [h])) e
  done := fun s Q E st hQ => endI_sm hh st.1 st.2 hE fun h' he' => hQ h' s.toks fun b o hb e => he' b o (fun h => hb (by simp [h])) e
  self := fun i s Q E st hQ => by
    have hT : s.TypeIs (.ref I) "set_iterator" := SIt.typeIs st.1
    refine wpAny_pyIter_slot hT slot_setit_iter (wpAny_call_entry slot_setit_iter hT entry_setit_iter ?_ (args_setit_iter _))
    show wpAny _ _ (ret (.ref I)) _ _ s
    exact wpAny_pure ⟨_, rfl, "set_iterator", _, hT, slot_setit_next.lookup, hQ⟩
theorem ints_sm : ∀ {vs : List Value} {ms : List Nat}, vs.length = ms.length → (∀ i (h : i < ms.length), ∃ t, vs[i]? = some (.int (Int.ofNat ms[i]) t)) → IntsAre vs (ms.map Int.ofNat)
  | [], [], _, _ => .nil
  | [], _ :: _, h, _ => by cases h
  | _ :: _, [], h, _ => by cases h
  | v :: vs, m :: ms, h, q => by
    obtain ⟨t, e⟩ := q 0 (Nat.zero_lt_succ _)
    obtain rfl : v = .int (Int.ofNat m) t := by simpa using e
    exact .cons _ t (ints_sm (by simpa using h) fun i hi => by
      obtain ⟨t', e'⟩ := q (i + 1) (Nat.succ_lt_succ hi)
      exact ⟨t', by simpa using e'⟩)
theorem items_sm (hE : SmE es ks) {acc : Array Value} (hA : ItemsOf (fun i v => ∃ e, (walkOf w a ep es)[i]? = some e ∧ v = e.2) acc es.size) : ∃ ms : List Nat, ms.Perm ks ∧ IntsAre acc.toList (ms.map Int.ofNat) := by
  have hp := walkOf_perm w a ep es
  have hw : (walkOf w a ep es).size = es.size := by rw [← Array.length_toList, hp.length_eq, Array.length_toList]
  have hk : ((walkOf w a ep es).toList.map (·.1)).Perm (ks.map Int.ofNat) := by rw [← hE.2.1]; exact hp.map _
  have hm : (((walkOf w a ep es).toList.map (·.1)).map Int.toNat).Perm ks := by
    have := hk.map Int.toNat
    rw [List.map_map (f := Int.ofNat)] at this
    have e : (Int.toNat ∘ Int.ofNat) = (id : Nat → Nat) := by funext k; rfl
    rwa [e, List.map_id] at this
  refine ⟨_, hm, ints_sm ?_ ?_⟩
  · rw [Array.length_toList, hA.1, List.length_map, List.length_map, Array.length_toList, hw]
  · intro i hi
    have hi' : i < (walkOf w a ep es).size := by simpa using hi
    obtain ⟨v, hv⟩ : ∃ v, acc[i]? = some v := ⟨acc[i]'(by rw [hA.1, ← hw]; exact hi'), Array.getElem?_eq_getElem _⟩
    obtain ⟨e, h1, h2⟩ := hA.2 i v hv
    have me : e ∈ es.toList := hp.mem_iff.mp (by rw [Array.getElem?_eq_getElem hi'] at h1; rw [← Option.some.inj h1]; exact Array.getElem_mem_toList _)
    obtain ⟨t, z⟩ := hE.2.2 e me
    have m1 : e.1 ∈ ks.map Int.ofNat := by rw [← hE.2.1]; exact List.mem_map_of_mem me
    obtain ⟨k, _, ek⟩ := List.mem_map.mp m1
    refine ⟨t, ?_⟩
    rw [Array.getElem?_toList, hv, h2, z]
    congr 2
    rw [Array.getElem?_eq_getElem hi'] at h1
    have h1 := Option.some.inj h1
    simp only [List.getElem_map, Array.getElem_toList, h1]
    rw [← ek]; rfl
theorem hint_set {Q : Bool → Shared → Prop} (hT : s.TypeIs (.ref a) "set") (h : Q false s) : wpAny (model prog w) A (Builtin.List.listLengthHint (.ref a)) Q E s := by
  unfold Builtin.List.listLengthHint
  refine wpAny_bind (wpAny_specialOf hT PySem.F.slot_set_len.lookup ?_)
  generalize hid : ("set.__len__" : String) = id0
  wp_delta
  rw [show splitId id0 = some ("set", "__len__") from by subst hid; decide +kernel]
  subst hid
  refine wpAny_bind (wpAny_isInstance (T := "set") (b := true) hT (by rw [isSubtype_type]; kernel_rfl) ?_)
  refine wpAny_ite_split (fun hab => absurd hab (by decide)) (fun _ => ?_)
  refine wpAny_ite_split (fun _ => ?_) (fun hab => absurd (by decide +kernel) hab)
  refine wpAny_bind (wpAny_typeOf hT ?_)
  exact wpAny_pure h
theorem src_sm (hE : SmE es ks) : KdlSrc prog w "set" a a es.size (fun i v => ∃ e, (walkOf w a ep es)[i]? = some e ∧ v = e.2) (fun h => h.get? a = some (smO w es ep ks)) where
  type := fun _ hm => ⟨_, hm, rfl⟩
  there := fun _ hm => ⟨Heap.lt_size hm, Heap.lt_size hm⟩
  keep := fun _ _ hm hk => hk a (.inl rfl) _ hm
  notList := by decide
  notTuple := by decide
  hint := fun _ _ s _ hm hq => hint_set ⟨_, hm, rfl⟩ hq
  iter := fun A s hh hm => ⟨{ cls := .type "set_iterator", data := .fields #[rawInt 0, rawInt 0, .ref a, rawInt es.size, rawInt ep] }, _, (fun _ _ hq => iter_sm hm (by rw [hE.size]; exact smT_fits hE.1 _) hq), walks_sm hh _ a (Nat.ne_of_lt (Heap.lt_size hm)) ep hE, ⟨⟨_, Heap.get?_push_size _ rfl, rfl, rfl⟩, Heap.get?_push_of_some _ hm⟩⟩
theorem collect_sm {Q : List Value → Shared → Prop} (hh : A.handled = none) (hS : SmAt w a ks s.heap)
    (hQ : ∀ (h' : Heap) (tk : Nat) (acc : List Value) (ms : List Nat), ms.Perm ks → IntsAre acc (ms.map Int.ofNat) → (∀ b o, s.heap.get? b = some o → h'.get? b = some o) → s.heap.objs.size < h'.objs.size → Q acc { s with heap := h', toks := tk }) : wpAny (model prog w) A (collect (.ref a)) Q E s := by
  obtain ⟨es, ep, ho, hE⟩ := hS
  have l8 := (sm_sort hE.1).2.2
  have ha : a < s.heap.objs.size := Heap.lt_size ho
  unfold collect
  let R1 : Result → Shared → Prop := fun r s' => ∃ h' tk acc c, r = .ok (.ret (.ref s.heap.objs.size)) ∧ s' = { s with heap := h', toks := tk } ∧ h'.get? s.heap.objs.size = some { cls := .type "list", dict := none, data := .seq acc c, slots := #[] } ∧ (∀ b o, s.heap.get? b = some o → h'.get? b = some o) ∧ ItemsOf (fun i v => ∃ e, (walkOf w a ep es)[i]? = some e ∧ v = e.2) acc es.size
  refine wpAny_bind (wpAny_runValue (codeAny_mono (R := R1) ?_ ?_))
  · refine codeAny_builtin F.entry_proto_collect ?_
    rw [Around.under_plainId F.plain_proto_collect _]
    show wpAny _ A.in1 (newList [] >>= fun l => again (.builtin "list.__iadd__" ⟨[l, .ref a], []⟩)) _ _ s
    refine wpAny_bind (wpAny_newObj_type ?_)
    refine wpAny_pure ⟨plainId_quiet F.plain_list_iadd _, codeAny_builtin F.entry_list_iadd ?_⟩
    rw [Around.under_plainId F.plain_list_iadd _]
    have ho1 : (s.heap.push { cls := .type "list", data := .seq ([] : List Value).toArray }).get? a = some (smO w es ep ks) := Heap.get?_push_of_some _ ho
    have hS₁ : (s.heap.push { cls := .type "list", data := .seq ([] : List Value).toArray }).get? s.heap.objs.size = some { cls := .type "list", data := .seq ([] : List Value).toArray } := Heap.get?_push_size _ rfl
    show wpAny _ A.in1 (Builtin.List.listExtendWith (.ref s.heap.objs.size) (.ref a) (.ref s.heap.objs.size)) _ _ { s with heap := s.heap.push { cls := .type "list", data := .seq ([] : List Value).toArray } }
    exact kdl_extend (R := R1) (s := { s with heap := s.heap.push { cls := .type "list", data := .seq ([] : List Value).toArray } }) (src_sm (prog := prog) (w := w) (a := a) (ep := ep) hE) hh ho1 s.heap.objs.size (Nat.ne_of_gt ha) (Nat.ne_of_gt ha) (.ref s.heap.objs.size) 0 hS₁ (fun h' tk acc c hk hS' hA => ⟨h', tk, acc, c, rfl, rfl, hS', fun b o e => hk b o (Nat.ne_of_lt (Heap.lt_size e)) (Heap.get?_push_of_some _ e), hA⟩) (by rw [hE.size, sizeLine_eq]; omega)
  · rintro r s' ⟨h', tk, acc, c, rfl, rfl, hS', hk, hA⟩
    obtain ⟨ms, hm, hI⟩ := items_sm hE hA
    show wpAny _ A (load s.heap.objs.size >>= _) _ _ _
    refine wpAny_bind (wpAny_load hS' ?_)
    exact wpAny_pure (hQ h' tk acc.toList ms hm hI hk (Heap.lt_size hS'))
theorem sorted_eq {ks : List Nat} {ns : List Int} (h1 : ns.Perm (ks.map Int.ofNat)) (h2 : ns.Pairwise (· ≤ ·)) (h3 : ks.Pairwise (· < ·)) : ns = ks.map Int.ofNat := by
  refine List.Perm.eq_of_pairwise (le := (· ≤ ·)) (fun a b _ _ x y => Int.le_antisymm x y) h2 ?_ h1
  rw [List.pairwise_map]
  exact h3.imp fun x => Int.ofNat_le.mpr (Nat.le_of_lt x)
theorem sorted_sm {Q : Value → Shared → Prop} (hh : A.handled = none) (hS : SmAt w a ks s.heap)
    (q : ∀ (l : Addr) (h' : Heap) (tk : Nat) (out : Array Value) (c : Nat), s.heap.objs.size ≤ l → (∀ b o, s.heap.get? b = some o → h'.get? b = some o) → h'.get? l = some (seqObj "list" out c) → IntsAre out.toList (ks.map Int.ofNat) → Q (.ref l) { s with heap := h', toks := tk }) : wpAny (model prog w) A (call (.builtin "sorted") [.ref a]) Q E s := by
  obtain ⟨_, _, _, hk8, _⟩ := id hS
  obtain ⟨so, _, l8⟩ := sm_sort hk8
  refine Calls.call_function_entry kind_sorted plain_sorted entry_sorted (args_sorted1 _) ?g1
  case g1 =>
    unfold Builtin.«sorted»
    refine wpAny_bind (m := checkCount "sorted" 1 1 _) (wpAny_pure (wpAny_bind (collect_sm hh hS fun h1 tk acc ms hm hI hk hz => ?g2)))
    case g2 =>
      have hl : acc.length = ks.length := by rw [IntsAre.len hI, List.length_map, hm.length_eq]
      refine wpAny_bind (wpAny_newList ?g3 (by rw [hl, sizeLine_eq]; omega))
      case g3 =>
        have e2 : (h1.push (seqObj "list" acc.toArray 0)).get? h1.objs.size = some (seqObj "list" acc.toArray 0) := Heap.get?_push_size _ rfl
        show wpAny _ _ _ _ _ { s with heap := h1.push (seqObj "list" acc.toArray 0), toks := tk }
        refine wpAny_bind (wpAny_holding (wpAny_call_entry slot_list_sort ⟨_, e2, rfl⟩ entry_list_sort (list_sort_tree (s := { s with heap := h1.push (seqObj "list" acc.toArray 0), toks := tk }) e2 hI (by omega) fun out ns' a1 a2 a3 => ⟨_, rfl, wpAny_pure ⟨_, rfl, ?g4⟩⟩) (args_list_sort _)))
        case g4 =>
          obtain ⟨c, he⟩ := sortedHeap_at (vs := acc) (out := out) e2
          have en := sorted_eq (a2.trans (hm.map _)) a3 so
          rw [en] at a1
          refine q h1.objs.size _ tk out c (Nat.le_of_lt hz) (fun b o e => ?_) he a1
          have hb : b < h1.objs.size := Heap.lt_size (hk b o e)
          rw [sortedHeap_old (Nat.ne_of_lt hb) (by rw [Heap.size_push]; exact Nat.lt_succ_of_lt hb)]
          exact Heap.get?_push_of_some _ (hk b o e)
end
section
variable {X : Cx}
def natVs (ks : List Nat) : List V := ks.map fun k => V.int (Int.ofNat k)
def rSetS (w : World) (K : PySem.W.Frag) : List V → Hp → VK → Prop := fun vs H Q => ∃ (a : Addr) (ns : List Nat), vs = [.ref a] ∧ SqT K H a (natVs ns) ∧ (∀ k ∈ ns, k < 8) ∧ ∀ p ks, H p = none → ks ∈ subs8 → (∀ j, j ∈ ks ↔ j ∈ ns) → Q (.ref p) (upd H p (.ext (SmAt w p ks)))
def rSortS (w : World) : List V → Hp → VK → Prop := fun vs H Q => ∃ (a : Addr) (ks : List Nat), vs = [.ref a] ∧ H a = some (.ext (SmAt w a ks)) ∧ ∀ l, H l = none → Q (.ref l) (upd H l (.lst (natVs ks)))
theorem call_setS (hc : X.calm = true) : CallR X (.type "set") (rSetS X.w X.K) := by
  intro pins s σ H xs us Q I r ⟨a, ns, e, ha, h8, q⟩
  subst e
  obtain ⟨u, rfl, ru⟩ := r.one
  obtain rfl : u = Value.ref a := ru
  obtain ⟨its, rv, pl, hz⟩ := I.tuple ha
  have hv : Vals ((ns.map Int.ofNat).map V.int) its := by rw [List.map_map]; exact rv
  refine call_set_sm (items := its.toArray) (ns := ns) (I.ok.hd hc) pl (by simpa using ints_of hv) h8 fun h' tk ks d1 dm d2 => ?_
  obtain ⟨es, ep, o1, o2⟩ := id d1
  exact ⟨.ref s.heap.objs.size, _, I.laid (a := s.heap.objs.size) (o := .ext (SmAt X.w s.heap.objs.size ks)) (fun b u e => d2 b u (Heap.lt_size e) e) (Nat.le_refl _) ⟨d1, ⟨_, o1⟩, fun h1 h2 ⟨es, ep, z1, z2⟩ k => ⟨es, ep, k _ z1, z2⟩⟩, rfl, q _ _ (I.hok.fresh (Nat.le_refl _)) o2.1 dm⟩
theorem call_sortS (hc : X.calm = true) : CallR X (.builtin "sorted") (rSortS X.w) := by
  intro pins s σ H xs us Q I r ⟨a, ks, e, ha, q⟩
  subst e
  obtain ⟨u, rfl, ru⟩ := r.one
  obtain rfl : u = Value.ref a := ru
  have hS : SmAt X.w a ks s.heap := (I.hok a _ ha).1
  obtain ⟨_, _, _, hk8, _⟩ := id hS
  refine sorted_sm (I.ok.hd hc) hS fun l h' tk out c hl hk he hI => ?_
  have hv : Vals (natVs ks) out.toList := by
    have := vals_of_ints hI
    rw [List.map_map] at this
    exact this
  refine ⟨.ref l, _, I.laid (a := l) (t' := tk) (o := .lst (natVs ks)) hk hl ⟨?_, out.toList, c, hv, by simpa using he⟩, rfl, q l (I.hok.fresh hl)⟩
  unfold natVs
  rw [List.length_map, sizeLine_eq]
  have := (sm_sort hk8).2.2
  omega
def rSS (K : PySem.W.Frag) : List V → Hp → VK → Prop := fun vs H Q => ∃ (a : Addr) (ns : List Nat), vs = [.ref a] ∧ SqT K H a (natVs ns) ∧ (∀ k ∈ ns, k < 8) ∧
  ∀ ks : List Nat, ks.Pairwise (· < ·) → (∀ j, j ∈ ks ↔ j ∈ ns) → ∀ H', Same H H' → ∀ l, H' l = none → Q (.ref l) (upd H' l (.lst (natVs ks)))
def tCl (t : TA) : TA := fun σ H Q => ∃ R : List V → Hp → Prop, t σ H R ∧ ∀ vs H1, R vs H1 → Q vs H1
theorem pa_cl {es : List Expr} {t : TA} (h : PA X es t) : PA X es (tCl t) := fun pos pins s σ H Q I ⟨R, h1, h2⟩ => thn (h pos pins s σ H R I h1) fun us s1 ⟨vs, H1, I1, r, q⟩ => ⟨vs, H1, I1, r, h2 vs H1 q⟩
theorem pe_ss {K : PySem.W.Frag} {x y : Str} {p p' pos pos' : Pos} {e : Expr} {es : List Expr} {t : TA} (hK : X.K = K) (hc : X.calm = true) (hg : Gl X x) (hm : X.mg x = none) (hv : bootBuiltins x = some (.builtin "sorted")) (hg' : Gl X y) (hm' : X.mg y = none) (hv' : bootBuiltins y = some (.type "set")) (ha : PA X (e :: es) t)
    (hn : x ≠ "__name__" := by decide) (hdb : (x == ("__debug__" : Str)) = false := by decide) (hn' : y ≠ "__name__" := by decide) (hdb' : (y == ("__debug__" : Str)) = false := by decide)
    (he : starEach (e :: es) X.env = (false, eval e X.env) :: starEach es X.env := by rfl) (hpl : (backTo pos' (starEach es X.env)).any (·.1) = false := by rfl) : PE X (.Call (.Name x p) [.Call (.Name y p') (e :: es) [] pos'] [] pos) (tCB (rSS K) t) := by
  subst hK
  have h1 : PE X (.Call (.Name x p) [.Call (.Name y p') (e :: es) [] pos'] [] pos) (tCB (rSortS X.w) (tCons (tCB (rSetS X.w X.K) (tCl t)) tNil)) := pe_callB (call_sortS hc) hg hm hv (pa_consK (pe_callTy (call_setS hc) hg' hm' hv' (pa_cl ha) hn' hdb' he hpl) pa_nil) hn hdb
  intro pins s σ H Q I h
  refine h1 pins s σ H Q I ⟨_, h, fun vs H1 ⟨a, ns, e1, e2, e3, e4⟩ => ⟨a, ns, e1, e2, e3, fun p ks hp hks hj => ?_⟩⟩
  exact ⟨p, ks, rfl, upd_same, fun l hl => e4 ks (sm_sort hks).1 hj _ (same_new hp _) l hl⟩
end
end L2
namespace L2
open PySem PySem.Spec PyProof.Rows
theorem DP.at {X : Cx} {pins : List (Addr × Obj)} {σ : St} {H : Hp} {s : Shared} {a : Addr} {xs : PEs} {ep : Nat} (I : Inv X pins σ H s) (d : DP H a xs ep) :
    s.TypeIs (.ref a) "dict" ∧ (∀ b, Value.ref a = .ref b → ∃ ob, s.heap.get? b = some ob ∧ ob.dict = none) ∧ (a == sysModules) = false := by
  obtain ⟨_, hd, ys, _, dd⟩ := d.of I.hok
  refine ⟨dd.typeIs, fun b q => ?_, hd⟩
  cases q
  obtain ⟨ob, _, _, h1, h2, _⟩ := dd
  exact ⟨ob, h1, h2.2.1⟩
def tPGet2 (K : PySem.W.Frag) (td ty tx : TE) : TE := fun σ H Q => td σ H fun x H1 => ∃ a xs0 ep0, x = .ref a ∧ DP H1 a xs0 ep0 ∧ ty σ H1 fun y H2 => tx σ H2 fun z H3 => ∃ c xs ep k, y = .ref c ∧ DP H3 a xs ep ∧ KeyQ K H3 k c ∧ Q ((valP xs k).getD z) H3
section
variable {X : Cx} {o e f : Expr} {apos cpos : Pos} {td ty tx : TE}
theorem pe_pget2 {K : PySem.W.Frag} (hK : X.K = K) (hu : X.A.units + 6 < cLine) (ho : PE X o td) (he : PE X e ty) (hf : PE X f tx) (m : M2 X o "get" apos e f cpos) : PE X (.Call (.Attribute o "get" apos) [e, f] [] cpos) (tPGet2 K td ty tx) := by
  subst hK
  intro pins s σ H Q I h
  refine wpAny_Call_method m.base m.few m.line PySem.F.plainAttrs_dict PySem.F.slot_dict_get PySem.F.type_dict_get (thn (ho pins s σ H _ I h) fun u s1 ⟨x, H1, I1, rx, a, xs0, ep0, ex, d, q1⟩ => ?_)
  subst ex
  obtain rfl : u = Value.ref a := rx
  obtain ⟨t1, t2, _⟩ := d.at I1
  refine ⟨t1, t2, ?_⟩
  rw [m.trees]
  refine Calls.callWith_builtin rfl (Calls.evalArgs_plain (Calls.spliced_cons (thn (he pins s1 σ H1 _ I1 q1) fun iv s2 ⟨y, H2, I2, ry, q2⟩ =>
    Calls.spliced_cons (thn (hf pins s2 σ H2 _ I2 q2) fun fv s3 ⟨z, H3, I3, rz, c, xs, ep, k, ey, dp, kq, q3⟩ => Calls.spliced_nil ?_))))
  subst ey
  obtain rfl : iv = Value.ref c := ry
  obtain ⟨_, hd, ys, rel, dd⟩ := dp.of I3.hok
  refine call_meetsIn PySem.F.slot_dict_get dd.typeIs PySem.F.entry_dict_get (PySem.F.args_dict_get_3 _ _ _) (meetsH_dict_get_default (pairKind X.prog X.w) a c hd fv) ⟨show X.A.units + 1 + 5 < cLine by omega, k, ys, kq.is I3, dd, _, H3, I3.tok _, ?_, q3⟩
  cases hv : valP xs k with
  | none => rw [at_none rel hv]; exact rz
  | some v =>
    obtain ⟨p, hp, rp⟩ := at_val rel hv
    rw [hp]; exact rp
def rInP (K : PySem.W.Frag) (neg : Bool) : R2 := fun x y H Q => ∃ a c xs ep k, x = .ref c ∧ y = .ref a ∧ DP H a xs ep ∧ KeyQ K H k c ∧ Q (.bl (if neg then !(valP xs k).isSome else (valP xs k).isSome)) H
theorem val_some {xs : PEs} {ys : List (PKy × Addr × Value)} {k : PKy} (rel : Paired PRel xs ys) : (atKey ys k).isSome = (valP xs k).isSome := by
  cases hv : valP xs k with
  | none => rw [at_none rel hv]; rfl
  | some v =>
    obtain ⟨p, hp, _⟩ := at_val rel hv
    rw [hp]; rfl
theorem op_inP (hu : X.A.units + 6 < cLine) : OpR X (compareOp .In) (rInP X.K false) := by
  intro pins s σ H x y v u Q I rx ry ⟨a, c, xs, ep, k, ex, ey, dp, kq, q⟩
  subst ex ey
  obtain rfl : v = Value.ref c := rx
  obtain rfl : u = Value.ref a := ry
  obtain ⟨_, hd, ys, rel, dd⟩ := dp.of I.hok
  refine wpAny_in_heap (knd := pairKind X.prog X.w) (show X.A.units + 1 + 5 < cLine by omega) (kq.is I) hd dd ?_
  rw [val_some rel]
  exact ⟨.bl _, H, I.tok _, rfl, q⟩
theorem op_notInP (hu : X.A.units + 6 < cLine) : OpR X (compareOp .NotIn) (rInP X.K true) := by
  intro pins s σ H x y v u Q I rx ry ⟨a, c, xs, ep, k, ex, ey, dp, kq, q⟩
  subst ex ey
  obtain rfl : v = Value.ref c := rx
  obtain rfl : u = Value.ref a := ry
  obtain ⟨_, hd, ys, rel, dd⟩ := dp.of I.hok
  refine wpAny_notIn_heap (knd := pairKind X.prog X.w) (show X.A.units + 1 + 5 < cLine by omega) (kq.is I) hd dd ?_
  rw [val_some rel]
  exact ⟨.bl _, H, I.tok _, rfl, q⟩
end
def rInD (K : PySem.W.Frag) (neg : Bool) : R2 := fun x y H Q => rInC K neg x y H Q ∨ rInP K neg x y H Q
theorem op_inDK {X : Cx} {K : PySem.W.Frag} {k : Nat} (hK : X.K = K) (hr : Room k X.A) : OpR X (compareOp .In) (rInD K false) := OpR.or (op_inCK hK hr) (by subst hK; exact op_inP (hu6 hr))
theorem op_notInDK {X : Cx} {K : PySem.W.Frag} {k : Nat} (hK : X.K = K) (hr : Room k X.A) : OpR X (compareOp .NotIn) (rInD K true) := OpR.or (op_notInCK hK hr) (by subst hK; exact op_notInP (hu6 hr))
abbrev rSlW (K : PySem.W.Frag) : V → Option Int → Option Int → Hp → VK → Prop := fun x lo hi H Q => rSlU K x lo hi H Q ∨ rSlT K x lo hi H Q
theorem sl_wK {X : Cx} {K : PySem.W.Frag} (hK : X.K = K) : SlR X (rSlW K) := by subst hK; exact (sl_uK rfl).or sl_tup
end L2
namespace K06
open PySem L2
def top (i : Nat) : Stmt := PySem.Challenge.pw_homeround_k06_shortest_rounds.main.body.getD i (.Pass ⟨0, 0, 0, 0⟩)
section
variable {P : Program} {w : World} {K : PySem.W.Frag} {mg : Str → Option Value} {base : Heap} {f : Addr} {fd : FuncData}
theorem sc_is_whole : FnScope ["thing"] ["thing"] (defScope (top 1)) := ⟨rfl, rfl, rfl, by decide +kernel, rfl, by decide +kernel, by decide +kernel⟩
def T_is_whole (K : PySem.W.Frag)   : TS := (tSeq (tRet (tAndV (tCB (rIsi K) (tCons (tVar 0) (tCons (tC (.ty "int")) tNil))) (tNotV (tCB (rIsi K) (tCons (tVar 0) (tCons (tC (.ty "bool")) tNil)))))) tNext)
theorem ok_is_whole (F : Fun K "is_whole" "is_whole" (top 1) f fd) (B : Blt4 mg)      {sp : Sp} (len : ∀ vs H Q E, sp vs H Q E → vs.length = 1)
    (rd : ∀ vs H Q E, sp vs H Q E → T_is_whole K   { nx := fun _ H' => Q .non H', rt := Q } (start ["thing"] vs) H) : FnOk P w K mg base CX0 1 f fd ["thing"] sp := by
  refine F.ok sc_is_whole len (fun cdv A outer s H vs Q E hr h => ⟨_, ?_, rd vs H Q E h⟩)
  have nd := sc_is_whole.nd
  exact (@pss_cons _ _ _ _ _ (@ps_ret _ _ _ _ (pe_and (pe_callB (call_isiK (K := K) rfl) rfl B.isi bt_isi (@pa_consN _ _ _ _ _ _ (pv 0) (@pa_consN _ _ _ _ _ _ (pe_bltn (v := .ty "int") rfl B.int bt_int rfl) pa_nil))) (pe_one (pe_not (pe_callB (call_isiK (K := K) rfl) rfl B.isi bt_isi (@pa_consN _ _ _ _ _ _ (pv 0) (@pa_consN _ _ _ _ _ _ (pe_bltn (v := .ty "bool") rfl B.bool bt_bool rfl) pa_nil))))))) pss_nil)
theorem sc_are_wholes : FnScope ["thing"] ["thing"] (defScope (top 2)) := ⟨rfl, rfl, rfl, by decide +kernel, rfl, by decide +kernel, by decide +kernel⟩
def T_are_wholes (K : PySem.W.Frag)  (sp_is_whole : Sp) : TS := (tSeq (tRet (tAndV (tCB (rIsi K) (tCons (tVar 0) (tCons (tC (.ty "tuple")) tNil))) (tCB (rAll K) (tCons (tComp [none] (iSeq K (tVar 0)) (gName 0) [] fun acc => (tEmit (tCall sp_is_whole [] E0 (tCons (tVar 0) tNil)) acc)) tNil)))) tNext)
theorem ok_are_wholes (F : Fun K "are_wholes" "are_wholes" (top 2) f fd) (B : Blt4 mg)    {sp_is_whole : Sp} (D_is_whole : Def P w K mg base "is_whole" 1 ["thing"] sp_is_whole)  {sp : Sp} (len : ∀ vs H Q E, sp vs H Q E → vs.length = 1)
    (rd : ∀ vs H Q E, sp vs H Q E → T_are_wholes K  sp_is_whole { nx := fun _ H' => Q .non H', rt := Q } (start ["thing"] vs) H) : FnOk P w K mg base CX0 2 f fd ["thing"] sp := by
  refine F.ok sc_are_wholes len (fun cdv A outer s H vs Q E hr h => ⟨_, ?_, rd vs H Q E h⟩)
  have nd := sc_are_wholes.nd
  exact (@pss_cons _ _ _ _ _ (@ps_ret _ _ _ _ (pe_and (pe_callB (call_isiK (K := K) rfl) rfl B.isi bt_isi (@pa_consN _ _ _ _ _ _ (pv 0) (@pa_consN _ _ _ _ _ _ (pe_bltn (v := .ty "tuple") rfl B.tuple bt_tuple rfl) pa_nil))) (pe_one (pe_callB (call_allK (K := K) rfl rfl) rfl B.all bt_all (pa_cons (pe_comp (N' := ["part"]) (ix := [none]) rfl rfl rfl (pi_seqK (K := K) rfl (pv 0)) (fun _ _ _ => (pg_name (i := 0) (show (["part"] : List Str).Nodup from by decide +kernel) rfl (Or.inl rfl))) (fun _ _ _ => .nil) (fun _ _ _ _ => (pb_emit rfl (pe_def (D_is_whole.mono (by decide)) hr rfl (@pa_consN _ _ _ _ _ _ (pv 0) pa_nil)) rfl))) pa_nil))))) pss_nil)
theorem sc_shortest : FnScope ["table", "rests", "floors"] ["table"] (defScope (top 5)) := ⟨rfl, rfl, rfl, by decide +kernel, rfl, by decide +kernel, by decide +kernel⟩
def T_shortest (K : PySem.W.Frag) (C_START : Addr) (sp_least_rests : Sp) (sp_round_by_rests : Sp) : TS := (tSeq (tAsg (tCall sp_least_rests [] E0 (tCons (tVar 0) tNil)) (gName 1)) (tSeq (tAsg (tComp [none, none, none] (iItems (tVar 1)) (gTup K 2 (gCons (gTup K 2 (gCons (gName 0) (gCons (gName 1) gNil))) (gCons (gName 2) gNil))) [] fun acc => (tEmit (tTup (tCons (tVar 0) (tCons (tVar 1) (tCons (tVar 2) tNil)))) acc)) (gName 2)) (tSeq (tRet (tTup (tCons (tPGet K (tVar 1) (tC (.ref C_START))) (tCons (tCall sp_round_by_rests [] E0 (tCons (tVar 0) (tCons (tVar 1) tNil))) (tCons (tVar 2) tNil))))) tNext)))
theorem ok_shortest (F : Fun K "shortest" "shortest" (top 5) f fd) (B : Blt4 mg)  {C_START : Addr} (GC_START : mg "START" = some (.ref C_START))  {sp_least_rests : Sp} (D_least_rests : Def P w K mg base "least_rests" 3 ["table"] sp_least_rests) {sp_round_by_rests : Sp} (D_round_by_rests : Def P w K mg base "round_by_rests" 3 ["table", "rests"] sp_round_by_rests)  {sp : Sp} (len : ∀ vs H Q E, sp vs H Q E → vs.length = 1)
    (rd : ∀ vs H Q E, sp vs H Q E → T_shortest K C_START sp_least_rests sp_round_by_rests { nx := fun _ H' => Q .non H', rt := Q } (start ["table", "rests", "floors"] vs) H) : FnOk P w K mg base CX0 4 f fd ["table"] sp := by
  refine F.ok sc_shortest len (fun cdv A outer s H vs Q E hr h => ⟨_, ?_, rd vs H Q E h⟩)
  have nd := sc_shortest.nd
  exact (@pss_cons _ _ _ _ _ (@ps_set _ _ 1 _ _ _ _ nd rfl (Or.inl rfl) (pe_def (D_least_rests.mono (by decide)) hr rfl (@pa_consN _ _ _ _ _ _ (pv 0) pa_nil)) (by rfl) (by first | exact .inl rfl | exact .inr rfl | assumption)) (@pss_cons _ _ _ _ _ (ps_setComp (i := 2) nd rfl (Or.inl rfl) (N' := ["some", "last", "rest"]) (ix := [none, none, none]) rfl rfl rfl (pi_items (pv 1)) (fun _ _ _ => (pg_tupK (K := K) rfl rfl (pgs_cons (pg_tupK (K := K) rfl rfl (pgs_cons (pg_name (i := 0) (show (["some", "last", "rest"] : List Str).Nodup from by decide +kernel) rfl (Or.inl rfl)) (pgs_cons (pg_name (i := 1) (show (["some", "last", "rest"] : List Str).Nodup from by decide +kernel) rfl (Or.inl rfl)) pgs_nil))) (pgs_cons (pg_name (i := 2) (show (["some", "last", "rest"] : List Str).Nodup from by decide +kernel) rfl (Or.inl rfl)) pgs_nil)))) (fun _ _ _ => .nil) (fun _ _ _ _ => (pb_emit rfl (@pe_tup _ _ _ _ _ (@pa_consN _ _ _ _ _ _ (pv 0) (@pa_consN _ _ _ _ _ _ (pv 1) (@pa_consN _ _ _ _ _ _ (pv 2) pa_nil)))) rfl))) (@pss_cons _ _ _ _ _ (@ps_ret _ _ _ _ (@pe_tup _ _ _ _ _ (@pa_consS _ _ _ _ _ _ _ (pe_pget (K := K) rfl (hu6 hr) (pv 1) (pe_glob (v := .ref C_START) rfl GC_START rfl) (fun _ _ => rfl)) (@pa_consK _ _ _ _ _ _ _ _ (pe_def (D_round_by_rests.mono (by decide)) hr rfl (@pa_consN _ _ _ _ _ _ (pv 0) (@pa_consN _ _ _ _ _ _ (pv 1) pa_nil))) (@pa_consN _ _ _ _ _ _ (pv 2) pa_nil))))) pss_nil)))
theorem sc_how_many : FnScope ["table", "rests", "counts", "some", "last", "rest", "best"] ["table"] (defScope (top 6)) := ⟨rfl, rfl, rfl, by decide +kernel, rfl, by decide +kernel, by decide +kernel⟩
def T_how_many (K : PySem.W.Frag) (C_START : Addr) (sp_joined : Sp) (sp_least_rests : Sp) (sp_onward : Sp) : TS := (tSeq (tAsg (tCall sp_least_rests [] E0 (tCons (tVar 0) tNil)) (gName 1)) (tSeq (tAsg tDNewP (gName 2)) (tSeq (tFor (iItems (tVar 1)) (gTup K 2 (gCons (gTup K 2 (gCons (gName 3) (gCons (gName 4) gNil))) (gCons (gName 5) gNil))) (tSeq (tIfS (tTest (tOp (rEqD K) (tCB (rLen K) (tCons (tVar 3) tNil)) (tCB (rLen K) (tCons (tVar 0) tNil)))) (tSeq (sPPut (tVar 2) (tTup (tCons (tVar 3) (tCons (tVar 4) tNil))) (tC (.int 1))) tNext) (tSeq (tAsg (tComp [none, none, some 5] (iSeq K (tCall sp_onward [] E0 (tCons (tVar 0) (tCons (tVar 1) (tCons (tVar 3) (tCons (tVar 4) tNil)))))) (gTup K 2 (gCons (gName 0) (gCons (gName 1) gNil))) [(tTest (tOp (rEqD K) (tVar 0) (tVar 2)))] fun acc => (tEmit (tVar 1) acc)) (gName 6)) (tSeq (sPPut (tVar 2) (tTup (tCons (tVar 3) (tCons (tVar 4) tNil))) (tCB (rSum K) (tCons (tComp [none, some 2, some 3] (iSeq K (tVar 6)) (gName 0) [] fun acc => (tEmit (tPGet K (tVar 1) (tTup (tCons (tCall sp_joined [] E0 (tCons (tVar 2) (tCons (tVar 0) tNil))) (tCons (tVar 0) tNil)))) acc)) tNil))) tNext))) tNext)) (tSeq (tRet (tPGet K (tVar 2) (tC (.ref C_START)))) tNext))))
theorem ok_how_many (F : Fun K "how_many" "how_many" (top 6) f fd) (B : Blt4 mg)  {C_START : Addr} (GC_START : mg "START" = some (.ref C_START))  {sp_joined : Sp} (D_joined : Def P w K mg base "joined" 1 ["some", "place"] sp_joined) {sp_least_rests : Sp} (D_least_rests : Def P w K mg base "least_rests" 3 ["table"] sp_least_rests) {sp_onward : Sp} (D_onward : Def P w K mg base "onward" 2 ["table", "rests", "some", "last"] sp_onward)  {sp : Sp} (len : ∀ vs H Q E, sp vs H Q E → vs.length = 1)
    (rd : ∀ vs H Q E, sp vs H Q E → T_how_many K C_START sp_joined sp_least_rests sp_onward { nx := fun _ H' => Q .non H', rt := Q } (start ["table", "rests", "counts", "some", "last", "rest", "best"] vs) H) : FnOk P w K mg base CX0 4 f fd ["table"] sp := by
  refine F.ok sc_how_many len (fun cdv A outer s H vs Q E hr h => ⟨_, ?_, rd vs H Q E h⟩)
  have nd := sc_how_many.nd
  exact (@pss_cons _ _ _ _ _ (@ps_set _ _ 1 _ _ _ _ nd rfl (Or.inl rfl) (pe_def (D_least_rests.mono (by decide)) hr rfl (@pa_consN _ _ _ _ _ _ (pv 0) pa_nil)) (by rfl) (by first | exact .inl rfl | exact .inr rfl | assumption)) (@pss_cons _ _ _ _ _ (@ps_set _ _ 2 _ _ _ _ nd rfl (Or.inr rfl) pe_dnewP (by rfl) (by first | exact .inl rfl | exact .inr rfl | assumption)) (@pss_cons _ _ _ _ _ (ps_for PassesOwn.never rfl (pi_items (pv 1)) (pg_tupK (K := K) rfl rfl (pgs_cons (pg_tupK (K := K) rfl rfl (pgs_cons (pg_name (i := 3) nd rfl (Or.inr rfl)) (pgs_cons (pg_name (i := 4) nd rfl (Or.inl rfl)) pgs_nil))) (pgs_cons (pg_name (i := 5) nd rfl (Or.inr rfl)) pgs_nil))) (@pss_cons _ _ _ _ _ (@ps_if _ _ _ _ _ _ _ _ (pt_cmpR (op_eqK (K := K) rfl hr) (pe_callB (call_lenK (K := K) rfl) rfl B.len bt_len (@pa_consN _ _ _ _ _ _ (pv 3) pa_nil)) (pe_callB (call_lenK (K := K) rfl) rfl B.len bt_len (@pa_consN _ _ _ _ _ _ (pv 0) pa_nil)) (nomark _)) (@pss_cons _ _ _ _ _ (ps_pput (hu6 hr) (pv 2) (@pe_tup _ _ _ _ _ (@pa_consN _ _ _ _ _ _ (pv 3) (@pa_consN _ _ _ _ _ _ (pv 4) pa_nil))) pe_int rfl) pss_nil) (@pss_cons _ _ _ _ _ (ps_setComp (i := 6) nd rfl (Or.inl rfl) (N' := ["whole", "place", "rest"]) (ix := [none, none, some 5]) rfl rfl rfl (pi_seqK (K := K) rfl (pe_def (D_onward.mono (by decide)) hr rfl (@pa_consN _ _ _ _ _ _ (pv 0) (@pa_consN _ _ _ _ _ _ (pv 1) (@pa_consN _ _ _ _ _ _ (pv 3) (@pa_consN _ _ _ _ _ _ (pv 4) pa_nil)))))) (fun _ _ _ => (pg_tupK (K := K) rfl rfl (pgs_cons (pg_name (i := 0) (show (["whole", "place", "rest"] : List Str).Nodup from by decide +kernel) rfl (Or.inl rfl)) (pgs_cons (pg_name (i := 1) (show (["whole", "place", "rest"] : List Str).Nodup from by decide +kernel) rfl (Or.inl rfl)) pgs_nil)))) (fun _ _ _ => (.cons (pt_cmpR (op_eqK (K := K) rfl hr) (pv 0) (pv 2) (nomark _)) .nil)) (fun _ _ _ _ => (pb_emit rfl (pv 1) rfl))) (@pss_cons _ _ _ _ _ (ps_pput (hu6 hr) (pv 2) (@pe_tup _ _ _ _ _ (@pa_consN _ _ _ _ _ _ (pv 3) (@pa_consN _ _ _ _ _ _ (pv 4) pa_nil))) (pe_callB (call_sumK (K := K) rfl rfl) rfl B.sum bt_sum (pa_cons (pe_comp (N' := ["place", "counts", "some"]) (ix := [none, some 2, some 3]) rfl rfl rfl (pi_seqK (K := K) rfl (pv 6)) (fun _ _ _ => (pg_name (i := 0) (show (["place", "counts", "some"] : List Str).Nodup from by decide +kernel) rfl (Or.inl rfl))) (fun _ _ _ => .nil) (fun _ _ _ _ => (pb_emit rfl (pe_pget (K := K) rfl (hu6 hr) (pv 1) (@pe_tup _ _ _ _ _ (@pa_consK _ _ _ _ _ _ _ _ (pe_def (D_joined.mono (by decide)) hr rfl (@pa_consN _ _ _ _ _ _ (pv 2) (@pa_consN _ _ _ _ _ _ (pv 0) pa_nil))) (@pa_consN _ _ _ _ _ _ (pv 0) pa_nil))) (fun _ _ => rfl)) rfl))) pa_nil)) rfl) pss_nil))) pss_nil)) (@pss_cons _ _ _ _ _ (@ps_ret _ _ _ _ (pe_pget (K := K) rfl (hu6 hr) (pv 2) (pe_glob (v := .ref C_START) rfl GC_START rfl) (fun _ _ => rfl))) pss_nil))))
theorem sc_least_rests : FnScope ["table", "rests", "some", "last"] ["table"] (defScope (top 7)) := ⟨rfl, rfl, rfl, by decide +kernel, rfl, by decide +kernel, by decide +kernel⟩
def T_least_rests (K : PySem.W.Frag)  (sp_onward : Sp) (sp_parts_with_home : Sp) : TS := (tSeq (tAsg tDNewP (gName 1)) (tSeq (tFor (iRev K (tCons (tCall sp_parts_with_home [] E0 (tCons (tCB (rLen K) (tCons (tVar 0) tNil)) tNil)) tNil)) (gName 2) (tSeq (tFor (iSeq K (tOrT K (tSl (rSlU K) (tVar 2) (tPart (tC (.int 1))) tNoPart) (tVar 2))) (gName 3) (tSeq (tIfS (tTest (tOp (rEqD K) (tCB (rLen K) (tCons (tVar 2) tNil)) (tCB (rLen K) (tCons (tVar 0) tNil)))) (tSeq (sPPut (tVar 1) (tTup (tCons (tVar 2) (tCons (tVar 3) tNil))) (tOp (rIx2 K) (tOp (rIx2 K) (tVar 0) (tVar 3)) (tC (.int 0)))) tNext) (tSeq (sPPut (tVar 1) (tTup (tCons (tVar 2) (tCons (tVar 3) tNil))) (tOp (rIx2 K) (tCB (rMinA K) (tCons (tCall sp_onward [] E0 (tCons (tVar 0) (tCons (tVar 1) (tCons (tVar 2) (tCons (tVar 3) tNil))))) tNil)) (tC (.int 0)))) tNext)) tNext)) tNext)) (tSeq (tRet (tVar 1)) tNext)))
theorem ok_least_rests (F : Fun K "least_rests" "least_rests" (top 7) f fd) (B : Blt4 mg)    {sp_onward : Sp} (D_onward : Def P w K mg base "onward" 2 ["table", "rests", "some", "last"] sp_onward) {sp_parts_with_home : Sp} (D_parts_with_home : Def P w K mg base "parts_with_home" 1 ["many"] sp_parts_with_home)  {sp : Sp} (len : ∀ vs H Q E, sp vs H Q E → vs.length = 1)
    (rd : ∀ vs H Q E, sp vs H Q E → T_least_rests K  sp_onward sp_parts_with_home { nx := fun _ H' => Q .non H', rt := Q } (start ["table", "rests", "some", "last"] vs) H) : FnOk P w K mg base CX0 3 f fd ["table"] sp := by
  refine F.ok sc_least_rests len (fun cdv A outer s H vs Q E hr h => ⟨_, ?_, rd vs H Q E h⟩)
  have nd := sc_least_rests.nd
  exact (@pss_cons _ _ _ _ _ (@ps_set _ _ 1 _ _ _ _ nd rfl (Or.inl rfl) pe_dnewP (by rfl) (by first | exact .inl rfl | exact .inr rfl | assumption)) (@pss_cons _ _ _ _ _ (ps_for PassesOwn.never rfl (pi_rev (K := K) rfl rfl B.reversed (@pa_consK _ _ _ _ _ _ _ _ (pe_def (D_parts_with_home.mono (by decide)) hr rfl (@pa_consK _ _ _ _ _ _ _ _ (pe_callB (call_lenK (K := K) rfl) rfl B.len bt_len (@pa_consN _ _ _ _ _ _ (pv 0) pa_nil)) pa_nil)) pa_nil)) (pg_name (i := 2) nd rfl (Or.inl rfl)) (@pss_cons _ _ _ _ _ (ps_for PassesOwn.never rfl (pi_seqK (K := K) rfl (pe_orT (K := K) rfl (pe_slice (sl_uK (K := K) rfl) (pv 2) (po_some pe_int) po_none) (pe_one (pv 2)))) (pg_name (i := 3) nd rfl (Or.inl rfl)) (@pss_cons _ _ _ _ _ (@ps_if _ _ _ _ _ _ _ _ (pt_cmpR (op_eqK (K := K) rfl hr) (pe_callB (call_lenK (K := K) rfl) rfl B.len bt_len (@pa_consN _ _ _ _ _ _ (pv 2) pa_nil)) (pe_callB (call_lenK (K := K) rfl) rfl B.len bt_len (@pa_consN _ _ _ _ _ _ (pv 0) pa_nil)) (nomark _)) (@pss_cons _ _ _ _ _ (ps_pput (hu6 hr) (pv 1) (@pe_tup _ _ _ _ _ (@pa_consN _ _ _ _ _ _ (pv 2) (@pa_consN _ _ _ _ _ _ (pv 3) pa_nil))) (@pe_ix _ _ _ _ _ _ _ (ix_sqK (K := K) rfl) (@pe_ix _ _ _ _ _ _ _ (ix_sqK (K := K) rfl) (pv 0) (pv 3) (fun _ _ => rfl)) pe_int (fun _ _ => rfl)) rfl) pss_nil) (@pss_cons _ _ _ _ _ (ps_pput (hu6 hr) (pv 1) (@pe_tup _ _ _ _ _ (@pa_consN _ _ _ _ _ _ (pv 2) (@pa_consN _ _ _ _ _ _ (pv 3) pa_nil))) (@pe_ix _ _ _ _ _ _ _ (ix_sqK (K := K) rfl) (pe_callB (call_minAK (K := K) rfl hr rfl) rfl B.min bt_min (@pa_consK _ _ _ _ _ _ _ _ (pe_def (D_onward.mono (by decide)) hr rfl (@pa_consN _ _ _ _ _ _ (pv 0) (@pa_consN _ _ _ _ _ _ (pv 1) (@pa_consN _ _ _ _ _ _ (pv 2) (@pa_consN _ _ _ _ _ _ (pv 3) pa_nil))))) pa_nil)) pe_int (fun _ _ => rfl)) rfl) pss_nil)) pss_nil)) pss_nil)) (@pss_cons _ _ _ _ _ (@ps_ret _ _ _ _ (pv 1)) pss_nil)))
theorem sc_parts_with_home : FnScope ["many", "parts", "place"] ["many"] (defScope (top 8)) := ⟨rfl, rfl, rfl, by decide +kernel, rfl, by decide +kernel, by decide +kernel⟩
def T_parts_with_home (K : PySem.W.Frag)   : TS := (tSeq (tAsg (tLst (tCons (tTup (tCons (tC (.int 0)) tNil)) tNil)) (gName 1)) (tSeq (tFor (iRng2 (tCons (tC (.int 1)) (tCons (tVar 0) tNil))) (gName 2) (tSeq (tAsg (tOp (rAddA K) (tVar 1) (tComp [none, some 2] (iSeq K (tVar 1)) (gName 0) [] fun acc => (tEmit (tOp (rAddA K) (tVar 0) (tTup (tCons (tVar 1) tNil))) acc))) (gName 1)) tNext)) (tSeq (tRet (tVar 1)) tNext)))
theorem ok_parts_with_home (F : Fun K "parts_with_home" "parts_with_home" (top 8) f fd) (B : Blt4 mg)      {sp : Sp} (len : ∀ vs H Q E, sp vs H Q E → vs.length = 1)
    (rd : ∀ vs H Q E, sp vs H Q E → T_parts_with_home K   { nx := fun _ H' => Q .non H', rt := Q } (start ["many", "parts", "place"] vs) H) : FnOk P w K mg base CX0 1 f fd ["many"] sp := by
  refine F.ok sc_parts_with_home len (fun cdv A outer s H vs Q E hr h => ⟨_, ?_, rd vs H Q E h⟩)
  have nd := sc_parts_with_home.nd
  exact (@pss_cons _ _ _ _ _ (@ps_set _ _ 1 _ _ _ _ nd rfl (Or.inl rfl) (@pe_lst _ _ _ _ (@pa_consT _ _ _ _ _ _ _ (@pe_tup _ _ _ _ _ (@pa_consC _ _ _ _ _ _ _ pe_int pa_nil)) pa_nil)) (by rfl) (by first | exact .inl rfl | exact .inr rfl | assumption)) (@pss_cons _ _ _ _ _ (ps_for PassesOwn.never rfl (pi_range2 rfl B.range (@pa_consC _ _ _ _ _ _ _ pe_int (@pa_consN _ _ _ _ _ _ (pv 0) pa_nil))) (pg_name (i := 2) nd rfl (Or.inr rfl)) (@pss_cons _ _ _ _ _ (@ps_set _ _ 1 _ _ _ _ nd rfl (Or.inl rfl) (@pe_op _ _ _ _ _ _ _ _ (op_addK (K := K) rfl) (pv 1) (pe_comp (N' := ["some", "place"]) (ix := [none, some 2]) rfl rfl rfl (pi_seqK (K := K) rfl (pv 1)) (fun _ _ _ => (pg_name (i := 0) (show (["some", "place"] : List Str).Nodup from by decide +kernel) rfl (Or.inl rfl))) (fun _ _ _ => .nil) (fun _ _ _ _ => (pb_emit rfl (@pe_op _ _ _ _ _ _ _ _ (op_addK (K := K) rfl) (pv 0) (@pe_tup _ _ _ _ _ (@pa_consN _ _ _ _ _ _ (pv 1) pa_nil))) rfl)))) (by rfl) (by first | exact .inl rfl | exact .inr rfl | assumption)) pss_nil)) (@pss_cons _ _ _ _ _ (@ps_ret _ _ _ _ (pv 1)) pss_nil)))
theorem sc_joined : FnScope ["some", "place"] ["some", "place"] (defScope (top 9)) := ⟨rfl, rfl, rfl, by decide +kernel, rfl, by decide +kernel, by decide +kernel⟩
def T_joined (K : PySem.W.Frag)   : TS := (tSeq (tRet (tCB (rTuple K) (tCons (tCB (rSorted K) (tCons (tOp (rAddA K) (tVar 0) (tTup (tCons (tVar 1) tNil))) tNil)) tNil))) tNext)
theorem ok_joined (F : Fun K "joined" "joined" (top 9) f fd) (B : Blt4 mg)      {sp : Sp} (len : ∀ vs H Q E, sp vs H Q E → vs.length = 2)
    (rd : ∀ vs H Q E, sp vs H Q E → T_joined K   { nx := fun _ H' => Q .non H', rt := Q } (start ["some", "place"] vs) H) : FnOk P w K mg base CX0 1 f fd ["some", "place"] sp := by
  refine F.ok sc_joined len (fun cdv A outer s H vs Q E hr h => ⟨_, ?_, rd vs H Q E h⟩)
  have nd := sc_joined.nd
  exact (@pss_cons _ _ _ _ _ (@ps_ret _ _ _ _ (pe_callTy (call_tupleK (K := K) rfl) rfl B.tuple bt_tuple (@pa_consK _ _ _ _ _ _ _ _ (pe_callB (call_sortedK (K := K) rfl) rfl B.sorted bt_sorted (@pa_consB _ _ _ _ _ _ _ _ (@pe_op _ _ _ _ _ _ _ _ (op_addK (K := K) rfl) (pv 0) (@pe_tup _ _ _ _ _ (@pa_consN _ _ _ _ _ _ (pv 1) pa_nil))) pa_nil)) pa_nil))) pss_nil)
theorem sc_places_left : FnScope ["table", "some"] ["table", "some"] (defScope (top 10)) := ⟨rfl, rfl, rfl, by decide +kernel, rfl, by decide +kernel, by decide +kernel⟩
def T_places_left (K : PySem.W.Frag)   : TS := (tSeq (tRet (tComp [none, some 1] (iRng1 (tCons (tCB (rLen K) (tCons (tVar 0) tNil)) tNil)) (gName 0) [(tTest (tOp (rIn K true) (tVar 0) (tVar 1)))] fun acc => (tEmit (tVar 0) acc))) tNext)
theorem ok_places_left (F : Fun K "places_left" "places_left" (top 10) f fd) (B : Blt4 mg)      {sp : Sp} (len : ∀ vs H Q E, sp vs H Q E → vs.length = 2)
    (rd : ∀ vs H Q E, sp vs H Q E → T_places_left K   { nx := fun _ H' => Q .non H', rt := Q } (start ["table", "some"] vs) H) : FnOk P w K mg base CX0 1 f fd ["table", "some"] sp := by
  refine F.ok sc_places_left len (fun cdv A outer s H vs Q E hr h => ⟨_, ?_, rd vs H Q E h⟩)
  have nd := sc_places_left.nd
  exact (@pss_cons _ _ _ _ _ (@ps_ret _ _ _ _ (pe_comp (N' := ["place", "some"]) (ix := [none, some 1]) rfl rfl rfl (pi_range1 rfl B.range (@pa_consK _ _ _ _ _ _ _ _ (pe_callB (call_lenK (K := K) rfl) rfl B.len bt_len (@pa_consN _ _ _ _ _ _ (pv 0) pa_nil)) pa_nil)) (fun _ _ _ => (pg_name (i := 0) (show (["place", "some"] : List Str).Nodup from by decide +kernel) rfl (Or.inl rfl))) (fun _ _ _ => (.cons (pt_cmpR (op_notInK (K := K) rfl) (pv 0) (pv 1) rfl) .nil)) (fun _ _ _ _ => (pb_emit rfl (pv 0) rfl)))) pss_nil)
theorem sc_onward : FnScope ["table", "rests", "some", "last"] ["table", "rests", "some", "last"] (defScope (top 11)) := ⟨rfl, rfl, rfl, by decide +kernel, rfl, by decide +kernel, by decide +kernel⟩
def T_onward (K : PySem.W.Frag)  (sp_joined : Sp) (sp_places_left : Sp) : TS := (tSeq (tRet (tComp [none, some 0, some 3, some 1, some 2] (iSeq K (tCall sp_places_left [] E0 (tCons (tVar 0) (tCons (tVar 2) tNil)))) (gName 0) [] fun acc => (tEmit (tTup (tCons (tOp (rAddA K) (tOp (rIx2 K) (tOp (rIx2 K) (tVar 1) (tVar 2)) (tVar 0)) (tPGet K (tVar 3) (tTup (tCons (tCall sp_joined [] E0 (tCons (tVar 4) (tCons (tVar 0) tNil))) (tCons (tVar 0) tNil))))) (tCons (tVar 0) tNil))) acc))) tNext)
theorem ok_onward (F : Fun K "onward" "onward" (top 11) f fd) (B : Blt4 mg)    {sp_joined : Sp} (D_joined : Def P w K mg base "joined" 1 ["some", "place"] sp_joined) {sp_places_left : Sp} (D_places_left : Def P w K mg base "places_left" 1 ["table", "some"] sp_places_left)  {sp : Sp} (len : ∀ vs H Q E, sp vs H Q E → vs.length = 4)
    (rd : ∀ vs H Q E, sp vs H Q E → T_onward K  sp_joined sp_places_left { nx := fun _ H' => Q .non H', rt := Q } (start ["table", "rests", "some", "last"] vs) H) : FnOk P w K mg base CX0 2 f fd ["table", "rests", "some", "last"] sp := by
  refine F.ok sc_onward len (fun cdv A outer s H vs Q E hr h => ⟨_, ?_, rd vs H Q E h⟩)
  have nd := sc_onward.nd
  exact (@pss_cons _ _ _ _ _ (@ps_ret _ _ _ _ (pe_comp (N' := ["place", "table", "last", "rests", "some"]) (ix := [none, some 0, some 3, some 1, some 2]) rfl rfl rfl (pi_seqK (K := K) rfl (pe_def (D_places_left.mono (by decide)) hr rfl (@pa_consN _ _ _ _ _ _ (pv 0) (@pa_consN _ _ _ _ _ _ (pv 2) pa_nil)))) (fun _ _ _ => (pg_name (i := 0) (show (["place", "table", "last", "rests", "some"] : List Str).Nodup from by decide +kernel) rfl (Or.inl rfl))) (fun _ _ _ => .nil) (fun _ _ _ _ => (pb_emit rfl (@pe_tup _ _ _ _ _ (@pa_consB _ _ _ _ _ _ _ _ (@pe_op _ _ _ _ _ _ _ _ (op_addK (K := K) rfl) (@pe_ix _ _ _ _ _ _ _ (ix_sqK (K := K) rfl) (@pe_ix _ _ _ _ _ _ _ (ix_sqK (K := K) rfl) (pv 1) (pv 2) (fun _ _ => rfl)) (pv 0) (fun _ _ => rfl)) (pe_pget (K := K) rfl (hu6 hr) (pv 3) (@pe_tup _ _ _ _ _ (@pa_consK _ _ _ _ _ _ _ _ (pe_def (D_joined.mono (by decide)) hr rfl (@pa_consN _ _ _ _ _ _ (pv 4) (@pa_consN _ _ _ _ _ _ (pv 0) pa_nil))) (@pa_consN _ _ _ _ _ _ (pv 0) pa_nil))) (fun _ _ => rfl))) (@pa_consN _ _ _ _ _ _ (pv 0) pa_nil))) rfl)))) pss_nil)
theorem sc_round_by_rests : FnScope ["table", "rests", "gone", "some"] ["table", "rests"] (defScope (top 12)) := ⟨rfl, rfl, rfl, by decide +kernel, rfl, by decide +kernel, by decide +kernel⟩
def T_round_by_rests (K : PySem.W.Frag)  (sp_onward : Sp) : TS := (tSeq (tAsg (tTup (tCons (tC (.int 0)) tNil)) (gName 2)) (tSeq (tWhile (tTest (tOp yLt (tCB (rLen K) (tCons (tVar 2) tNil)) (tCB (rLen K) (tCons (tVar 0) tNil)))) (tSeq (tAsg (tCB (rTuple K) (tCons (tCB (rSorted K) (tCons (tVar 2) tNil)) tNil)) (gName 3)) (tSeq (tAsg (tOp (rAddA K) (tVar 2) (tTup (tCons (tOp (rIx2 K) (tCB (rMinA K) (tCons (tCall sp_onward [] E0 (tCons (tVar 0) (tCons (tVar 1) (tCons (tVar 3) (tCons (tOp (rIx2 K) (tVar 2) (tUn yNeg (tC (.int 1)))) tNil))))) tNil)) (tC (.int 1))) tNil))) (gName 2)) tNext))) (tSeq (tRet (tVar 2)) tNext)))
theorem ok_round_by_rests (F : Fun K "round_by_rests" "round_by_rests" (top 12) f fd) (B : Blt4 mg)    {sp_onward : Sp} (D_onward : Def P w K mg base "onward" 2 ["table", "rests", "some", "last"] sp_onward)  {sp : Sp} (len : ∀ vs H Q E, sp vs H Q E → vs.length = 2)
    (rd : ∀ vs H Q E, sp vs H Q E → T_round_by_rests K  sp_onward { nx := fun _ H' => Q .non H', rt := Q } (start ["table", "rests", "gone", "some"] vs) H) : FnOk P w K mg base CX0 3 f fd ["table", "rests"] sp := by
  refine F.ok sc_round_by_rests len (fun cdv A outer s H vs Q E hr h => ⟨_, ?_, rd vs H Q E h⟩)
  have nd := sc_round_by_rests.nd
  exact (@pss_cons _ _ _ _ _ (@ps_set _ _ 2 _ _ _ _ nd rfl (Or.inl rfl) (@pe_tup _ _ _ _ _ (@pa_consC _ _ _ _ _ _ _ pe_int pa_nil)) (by rfl) (by first | exact .inl rfl | exact .inr rfl | assumption)) (@pss_cons _ _ _ _ _ (ps_while PassesOwn.never (pt_cmpR op_lt (pe_callB (call_lenK (K := K) rfl) rfl B.len bt_len (@pa_consN _ _ _ _ _ _ (pv 2) pa_nil)) (pe_callB (call_lenK (K := K) rfl) rfl B.len bt_len (@pa_consN _ _ _ _ _ _ (pv 0) pa_nil)) (nomark _)) (@pss_cons _ _ _ _ _ (@ps_set _ _ 3 _ _ _ _ nd rfl (Or.inl rfl) (pe_callTy (call_tupleK (K := K) rfl) rfl B.tuple bt_tuple (@pa_consK _ _ _ _ _ _ _ _ (pe_callB (call_sortedK (K := K) rfl) rfl B.sorted bt_sorted (@pa_consN _ _ _ _ _ _ (pv 2) pa_nil)) pa_nil)) (by rfl) (by first | exact .inl rfl | exact .inr rfl | assumption)) (@pss_cons _ _ _ _ _ (@ps_set _ _ 2 _ _ _ _ nd rfl (Or.inl rfl) (@pe_op _ _ _ _ _ _ _ _ (op_addK (K := K) rfl) (pv 2) (@pe_tup _ _ _ _ _ (@pa_consS _ _ _ _ _ _ _ (@pe_ix _ _ _ _ _ _ _ (ix_sqK (K := K) rfl) (pe_callB (call_minAK (K := K) rfl hr rfl) rfl B.min bt_min (@pa_consK _ _ _ _ _ _ _ _ (pe_def (D_onward.mono (by decide)) hr rfl (@pa_consN _ _ _ _ _ _ (pv 0) (@pa_consN _ _ _ _ _ _ (pv 1) (@pa_consN _ _ _ _ _ _ (pv 3) (@pa_consS _ _ _ _ _ _ _ (@pe_ix _ _ _ _ _ _ _ (ix_sqK (K := K) rfl) (pv 2) (pe_un un_neg pe_int) (fun _ _ => rfl)) pa_nil))))) pa_nil)) pe_int (fun _ _ => rfl)) pa_nil))) (by rfl) (by first | exact .inl rfl | exact .inr rfl | assumption)) pss_nil))) (@pss_cons _ _ _ _ _ (@ps_ret _ _ _ _ (pv 2)) pss_nil)))
theorem sc_do_show : FnScope ["table", "floors", "number", "highest"] ["table", "floors", "number"] (defScope (top 13)) := ⟨rfl, rfl, rfl, by decide +kernel, rfl, by decide +kernel, by decide +kernel⟩
def T_do_show (K : PySem.W.Frag) (C_START : Addr) (sp_does_hold : Sp) (sp_highest_floors : Sp) (sp_is_floor : Sp) : TS := (tSeq (tIfS (tNot (tB (tCB (rAll K) (tCons (tComp [none, some 0] (iSeq K (tVar 1)) (gName 0) [] fun acc => (tEmit (tCall sp_is_floor [] E0 (tCons (tVar 1) (tCons (tVar 0) tNil))) acc)) tNil)))) (tSeq (tRet (tC (.bl false))) tNext) tNext) (tSeq (tAsg (tCall sp_highest_floors [] E0 (tCons (tVar 1) tNil)) (gName 3)) (tSeq (tIfS (tOr (tTest (tOp (rInD K true) (tC (.ref C_START)) (tVar 3))) (tTest (tOp yLt (tPGet K (tVar 3) (tC (.ref C_START))) (tVar 2)))) (tSeq (tRet (tC (.bl false))) tNext) tNext) (tSeq (tRet (tCB (rAll K) (tCons (tComp [none, none, none, some 0, some 3] (iSeq K (tVar 1)) (gTup K 3 (gCons (gName 0) (gCons (gName 1) (gCons (gName 2) gNil)))) [] fun acc => (tEmit (tCall sp_does_hold [] E0 (tCons (tVar 3) (tCons (tVar 4) (tCons (tVar 0) (tCons (tVar 1) (tCons (tVar 2) tNil)))))) acc)) tNil))) tNext))))
theorem ok_do_show (F : Fun K "do_show" "do_show" (top 13) f fd) (B : Blt4 mg)  {C_START : Addr} (GC_START : mg "START" = some (.ref C_START))  {sp_does_hold : Sp} (D_does_hold : Def P w K mg base "does_hold" 2 ["table", "highest", "some", "last", "height"] sp_does_hold) {sp_highest_floors : Sp} (D_highest_floors : Def P w K mg base "highest_floors" 1 ["floors"] sp_highest_floors) {sp_is_floor : Sp} (D_is_floor : Def P w K mg base "is_floor" 4 ["table", "thing"] sp_is_floor)  {sp : Sp} (len : ∀ vs H Q E, sp vs H Q E → vs.length = 3)
    (rd : ∀ vs H Q E, sp vs H Q E → T_do_show K C_START sp_does_hold sp_highest_floors sp_is_floor { nx := fun _ H' => Q .non H', rt := Q } (start ["table", "floors", "number", "highest"] vs) H) : FnOk P w K mg base CX0 5 f fd ["table", "floors", "number"] sp := by
  refine F.ok sc_do_show len (fun cdv A outer s H vs Q E hr h => ⟨_, ?_, rd vs H Q E h⟩)
  have nd := sc_do_show.nd
  exact (@pss_cons _ _ _ _ _ (@ps_if _ _ _ _ _ _ _ _ (pt_not (pt_val (pe_callB (call_allK (K := K) rfl rfl) rfl B.all bt_all (pa_cons (pe_comp (N' := ["thing", "table"]) (ix := [none, some 0]) rfl rfl rfl (pi_seqK (K := K) rfl (pv 1)) (fun _ _ _ => (pg_name (i := 0) (show (["thing", "table"] : List Str).Nodup from by decide +kernel) rfl (Or.inl rfl))) (fun _ _ _ => .nil) (fun _ _ _ _ => (pb_emit rfl (pe_def (D_is_floor.mono (by decide)) hr rfl (@pa_consN _ _ _ _ _ _ (pv 1) (@pa_consN _ _ _ _ _ _ (pv 0) pa_nil))) rfl))) pa_nil)))) (@pss_cons _ _ _ _ _ (@ps_ret _ _ _ _ pe_bl) pss_nil) pss_nil) (@pss_cons _ _ _ _ _ (@ps_set _ _ 3 _ _ _ _ nd rfl (Or.inr rfl) (pe_def (D_highest_floors.mono (by decide)) hr rfl (@pa_consN _ _ _ _ _ _ (pv 1) pa_nil)) (by rfl) (by first | exact .inl rfl | exact .inr rfl | assumption)) (@pss_cons _ _ _ _ _ (@ps_if _ _ _ _ _ _ _ _ (PW.pt (pw_or (pt_cmpR (op_notInDK (K := K) rfl hr) (pe_glob (v := .ref C_START) rfl GC_START rfl) (pv 3) rfl) (pw_or1 (pt_cmpR op_lt (pe_pget (K := K) rfl (hu6 hr) (pv 3) (pe_glob (v := .ref C_START) rfl GC_START rfl) (fun _ _ => rfl)) (pv 2) (nomark _))))) (@pss_cons _ _ _ _ _ (@ps_ret _ _ _ _ pe_bl) pss_nil) pss_nil) (@pss_cons _ _ _ _ _ (@ps_ret _ _ _ _ (pe_callB (call_allK (K := K) rfl rfl) rfl B.all bt_all (pa_cons (pe_comp (N' := ["some", "last", "height", "table", "highest"]) (ix := [none, none, none, some 0, some 3]) rfl rfl rfl (pi_seqK (K := K) rfl (pv 1)) (fun _ _ _ => (pg_tupK (K := K) rfl rfl (pgs_cons (pg_name (i := 0) (show (["some", "last", "height", "table", "highest"] : List Str).Nodup from by decide +kernel) rfl (Or.inl rfl)) (pgs_cons (pg_name (i := 1) (show (["some", "last", "height", "table", "highest"] : List Str).Nodup from by decide +kernel) rfl (Or.inl rfl)) (pgs_cons (pg_name (i := 2) (show (["some", "last", "height", "table", "highest"] : List Str).Nodup from by decide +kernel) rfl (Or.inl rfl)) pgs_nil))))) (fun _ _ _ => .nil) (fun _ _ _ _ => (pb_emit rfl (pe_def (D_does_hold.mono (by decide)) hr rfl (@pa_consN _ _ _ _ _ _ (pv 3) (@pa_consN _ _ _ _ _ _ (pv 4) (@pa_consN _ _ _ _ _ _ (pv 0) (@pa_consN _ _ _ _ _ _ (pv 1) (@pa_consN _ _ _ _ _ _ (pv 2) pa_nil)))))) rfl))) pa_nil))) pss_nil))))
theorem sc_is_floor : FnScope ["table", "thing", "some", "last", "height"] ["table", "thing"] (defScope (top 14)) := ⟨rfl, rfl, rfl, by decide +kernel, rfl, by decide +kernel, by decide +kernel⟩
def T_is_floor (K : PySem.W.Frag)  (sp_is_part_with_home : Sp) (sp_is_whole : Sp) : TS := (tSeq (tIfS (tOr (tNot (tB (tCB (rIsi K) (tCons (tVar 1) (tCons (tC (.ty "tuple")) tNil))))) (tTest (tOp (rNeD K) (tCB (rLen K) (tCons (tVar 1) tNil)) (tC (.int 3))))) (tSeq (tRet (tC (.bl false))) tNext) tNext) (tSeq (tAsg (tVar 1) (gTup K 3 (gCons (gName 2) (gCons (gName 3) (gCons (gName 4) gNil))))) (tSeq (tRet (tAndV (tCall sp_is_part_with_home [] E0 (tCons (tVar 0) (tCons (tVar 2) tNil))) (tAndV (tCall sp_is_whole [] E0 (tCons (tVar 3) tNil)) (tAndV (tOp (rInD K false) (tVar 3) (tVar 2)) (tCall sp_is_whole [] E0 (tCons (tVar 4) tNil)))))) tNext)))
theorem ok_is_floor (F : Fun K "is_floor" "is_floor" (top 14) f fd) (B : Blt4 mg)    {sp_is_part_with_home : Sp} (D_is_part_with_home : Def P w K mg base "is_part_with_home" 3 ["table", "thing"] sp_is_part_with_home) {sp_is_whole : Sp} (D_is_whole : Def P w K mg base "is_whole" 1 ["thing"] sp_is_whole)  {sp : Sp} (len : ∀ vs H Q E, sp vs H Q E → vs.length = 2)
    (rd : ∀ vs H Q E, sp vs H Q E → T_is_floor K  sp_is_part_with_home sp_is_whole { nx := fun _ H' => Q .non H', rt := Q } (start ["table", "thing", "some", "last", "height"] vs) H) : FnOk P w K mg base CX0 4 f fd ["table", "thing"] sp := by
  refine F.ok sc_is_floor len (fun cdv A outer s H vs Q E hr h => ⟨_, ?_, rd vs H Q E h⟩)
  have nd := sc_is_floor.nd
  exact (@pss_cons _ _ _ _ _ (@ps_if _ _ _ _ _ _ _ _ (PW.pt (pw_or (pt_not (pt_val (pe_callB (call_isiK (K := K) rfl) rfl B.isi bt_isi (@pa_consN _ _ _ _ _ _ (pv 1) (@pa_consN _ _ _ _ _ _ (pe_bltn (v := .ty "tuple") rfl B.tuple bt_tuple rfl) pa_nil))))) (pw_or1 (pt_cmpR (op_neK (K := K) rfl hr) (pe_callB (call_lenK (K := K) rfl) rfl B.len bt_len (@pa_consN _ _ _ _ _ _ (pv 1) pa_nil)) pe_int (nomark _))))) (@pss_cons _ _ _ _ _ (@ps_ret _ _ _ _ pe_bl) pss_nil) pss_nil) (@pss_cons _ _ _ _ _ (ps_asg (pv 1) (pg_tupK (K := K) rfl rfl (pgs_cons (pg_name (i := 2) nd rfl (Or.inl rfl)) (pgs_cons (pg_name (i := 3) nd rfl (Or.inl rfl)) (pgs_cons (pg_name (i := 4) nd rfl (Or.inl rfl)) pgs_nil))))) (@pss_cons _ _ _ _ _ (@ps_ret _ _ _ _ (pe_and (pe_def (D_is_part_with_home.mono (by decide)) hr rfl (@pa_consN _ _ _ _ _ _ (pv 0) (@pa_consN _ _ _ _ _ _ (pv 2) pa_nil))) (pe_and (pe_def (D_is_whole.mono (by decide)) hr rfl (@pa_consN _ _ _ _ _ _ (pv 3) pa_nil)) (pe_and (pe_cmpR (op_inDK (K := K) rfl hr) (pv 3) (pv 2) rfl) (pe_one (pe_def (D_is_whole.mono (by decide)) hr rfl (@pa_consN _ _ _ _ _ _ (pv 4) pa_nil))))))) pss_nil)))
theorem sc_is_part_with_home : FnScope ["table", "thing"] ["table", "thing"] (defScope (top 15)) := ⟨rfl, rfl, rfl, by decide +kernel, rfl, by decide +kernel, by decide +kernel⟩
def T_is_part_with_home (K : PySem.W.Frag)  (sp_are_wholes : Sp) : TS := (tSeq (tIfS (tOr (tNot (tB (tCall sp_are_wholes [] E0 (tCons (tVar 1) tNil)))) (tTest (tOp (rInD K true) (tC (.int 0)) (tVar 1)))) (tSeq (tRet (tC (.bl false))) tNext) tNext) (tSeq (tRet (tOp (rEqD K) (tCB (rList K) (tCons (tVar 1) tNil)) (tComp [none, some 1] (iRng1 (tCons (tCB (rLen K) (tCons (tVar 0) tNil)) tNil)) (gName 0) [(tTest (tOp (rInD K false) (tVar 0) (tVar 1)))] fun acc => (tEmit (tVar 0) acc)))) tNext))
theorem ok_is_part_with_home (F : Fun K "is_part_with_home" "is_part_with_home" (top 15) f fd) (B : Blt4 mg)    {sp_are_wholes : Sp} (D_are_wholes : Def P w K mg base "are_wholes" 2 ["thing"] sp_are_wholes)  {sp : Sp} (len : ∀ vs H Q E, sp vs H Q E → vs.length = 2)
    (rd : ∀ vs H Q E, sp vs H Q E → T_is_part_with_home K  sp_are_wholes { nx := fun _ H' => Q .non H', rt := Q } (start ["table", "thing"] vs) H) : FnOk P w K mg base CX0 3 f fd ["table", "thing"] sp := by
  refine F.ok sc_is_part_with_home len (fun cdv A outer s H vs Q E hr h => ⟨_, ?_, rd vs H Q E h⟩)
  have nd := sc_is_part_with_home.nd
  exact (@pss_cons _ _ _ _ _ (@ps_if _ _ _ _ _ _ _ _ (PW.pt (pw_or (pt_not (pt_val (pe_def (D_are_wholes.mono (by decide)) hr rfl (@pa_consN _ _ _ _ _ _ (pv 1) pa_nil)))) (pw_or1 (pt_cmpR (op_notInDK (K := K) rfl hr) pe_int (pv 1) rfl)))) (@pss_cons _ _ _ _ _ (@ps_ret _ _ _ _ pe_bl) pss_nil) pss_nil) (@pss_cons _ _ _ _ _ (@ps_ret _ _ _ _ (pe_cmpR (op_eqK (K := K) rfl hr) (pe_callTy (call_listK (K := K) rfl rfl) rfl B.list bt_list (@pa_consN _ _ _ _ _ _ (pv 1) pa_nil)) (pe_comp (N' := ["place", "thing"]) (ix := [none, some 1]) rfl rfl rfl (pi_range1 rfl B.range (@pa_consK _ _ _ _ _ _ _ _ (pe_callB (call_lenK (K := K) rfl) rfl B.len bt_len (@pa_consN _ _ _ _ _ _ (pv 0) pa_nil)) pa_nil)) (fun _ _ _ => (pg_name (i := 0) (show (["place", "thing"] : List Str).Nodup from by decide +kernel) rfl (Or.inl rfl))) (fun _ _ _ => (.cons (pt_cmpR (op_inDK (K := K) rfl hr) (pv 0) (pv 1) rfl) .nil)) (fun _ _ _ _ => (pb_emit rfl (pv 0) rfl))) (nomark _))) pss_nil))
theorem sc_highest_floors : FnScope ["floors", "highest", "some", "last", "height"] ["floors"] (defScope (top 16)) := ⟨rfl, rfl, rfl, by decide +kernel, rfl, by decide +kernel, by decide +kernel⟩
def T_highest_floors (K : PySem.W.Frag)   : TS := (tSeq (tAsg tDNewP (gName 1)) (tSeq (tFor (iSeq K (tVar 0)) (gTup K 3 (gCons (gName 2) (gCons (gName 3) (gCons (gName 4) gNil)))) (tSeq (sPPutA (tVar 1) (tTup (tCons (tVar 2) (tCons (tVar 3) tNil))) (tCB rMax2 (tCons (tVar 4) (tCons (tPGet2 K (tVar 1) (tTup (tCons (tVar 2) (tCons (tVar 3) tNil))) (tVar 4)) tNil)))) tNext)) (tSeq (tRet (tVar 1)) tNext)))
theorem ok_highest_floors (F : Fun K "highest_floors" "highest_floors" (top 16) f fd) (B : Blt4 mg)      {sp : Sp} (len : ∀ vs H Q E, sp vs H Q E → vs.length = 1)
    (rd : ∀ vs H Q E, sp vs H Q E → T_highest_floors K   { nx := fun _ H' => Q .non H', rt := Q } (start ["floors", "highest", "some", "last", "height"] vs) H) : FnOk P w K mg base CX0 1 f fd ["floors"] sp := by
  refine F.ok sc_highest_floors len (fun cdv A outer s H vs Q E hr h => ⟨_, ?_, rd vs H Q E h⟩)
  have nd := sc_highest_floors.nd
  exact (@pss_cons _ _ _ _ _ (@ps_set _ _ 1 _ _ _ _ nd rfl (Or.inl rfl) pe_dnewP (by rfl) (by first | exact .inl rfl | exact .inr rfl | assumption)) (@pss_cons _ _ _ _ _ (ps_for PassesOwn.never rfl (pi_seqK (K := K) rfl (pv 0)) (pg_tupK (K := K) rfl rfl (pgs_cons (pg_name (i := 2) nd rfl (Or.inl rfl)) (pgs_cons (pg_name (i := 3) nd rfl (Or.inl rfl)) (pgs_cons (pg_name (i := 4) nd rfl (Or.inl rfl)) pgs_nil)))) (@pss_cons _ _ _ _ _ (ps_pputA (hu6 hr) (pv 1) (@pe_tup _ _ _ _ _ (@pa_consN _ _ _ _ _ _ (pv 2) (@pa_consN _ _ _ _ _ _ (pv 3) pa_nil))) (pe_callB (call_max2K rfl) rfl B.max bt_max (@pa_consN _ _ _ _ _ _ (pv 4) (@pa_consK _ _ _ _ _ _ _ _ (pe_pget2 (K := K) rfl (hu6 hr) (pv 1) (@pe_tup _ _ _ _ _ (@pa_consN _ _ _ _ _ _ (pv 2) (@pa_consN _ _ _ _ _ _ (pv 3) pa_nil))) (pv 4) ⟨rfl, rfl, rfl, rfl⟩) pa_nil))) rfl) pss_nil)) (@pss_cons _ _ _ _ _ (@ps_ret _ _ _ _ (pv 1)) pss_nil)))
theorem sc_does_hold : FnScope ["table", "highest", "some", "last", "height"] ["table", "highest", "some", "last", "height"] (defScope (top 17)) := ⟨rfl, rfl, rfl, by decide +kernel, rfl, by decide +kernel, by decide +kernel⟩
def T_does_hold (K : PySem.W.Frag)  (sp_is_held_at : Sp) (sp_joined : Sp) (sp_places_left : Sp) : TS := (tSeq (tIfS (tTest (tOp yLe (tVar 4) (tC (.int 0)))) (tSeq (tRet (tC (.bl true))) tNext) tNext) (tSeq (tIfS (tTest (tOp (rEqD K) (tCB (rLen K) (tCons (tVar 2) tNil)) (tCB (rLen K) (tCons (tVar 0) tNil)))) (tSeq (tRet (tOp yLe (tVar 4) (tOp (rIx2 K) (tOp (rIx2 K) (tVar 0) (tVar 3)) (tC (.int 0))))) tNext) tNext) (tSeq (tRet (tCB (rAll K) (tCons (tComp [none, some 1, some 2, some 4, some 0, some 3] (iSeq K (tCall sp_places_left [] E0 (tCons (tVar 0) (tCons (tVar 2) tNil)))) (gName 0) [] fun acc => (tEmit (tCall sp_is_held_at [] E0 (tCons (tVar 1) (tCons (tCall sp_joined [] E0 (tCons (tVar 2) (tCons (tVar 0) tNil))) (tCons (tVar 0) (tCons (tOp ySub (tVar 3) (tOp (rIx2 K) (tOp (rIx2 K) (tVar 4) (tVar 5)) (tVar 0))) tNil))))) acc)) tNil))) tNext)))
theorem ok_does_hold (F : Fun K "does_hold" "does_hold" (top 17) f fd) (B : Blt4 mg)    {sp_is_held_at : Sp} (D_is_held_at : Def P w K mg base "is_held_at" 1 ["highest", "some", "last", "height"] sp_is_held_at) {sp_joined : Sp} (D_joined : Def P w K mg base "joined" 1 ["some", "place"] sp_joined) {sp_places_left : Sp} (D_places_left : Def P w K mg base "places_left" 1 ["table", "some"] sp_places_left)  {sp : Sp} (len : ∀ vs H Q E, sp vs H Q E → vs.length = 5)
    (rd : ∀ vs H Q E, sp vs H Q E → T_does_hold K  sp_is_held_at sp_joined sp_places_left { nx := fun _ H' => Q .non H', rt := Q } (start ["table", "highest", "some", "last", "height"] vs) H) : FnOk P w K mg base CX0 2 f fd ["table", "highest", "some", "last", "height"] sp := by
  refine F.ok sc_does_hold len (fun cdv A outer s H vs Q E hr h => ⟨_, ?_, rd vs H Q E h⟩)
  have nd := sc_does_hold.nd
  exact (@pss_cons _ _ _ _ _ (@ps_if _ _ _ _ _ _ _ _ (pt_cmpR op_le (pv 4) pe_int (nomark _)) (@pss_cons _ _ _ _ _ (@ps_ret _ _ _ _ pe_bl) pss_nil) pss_nil) (@pss_cons _ _ _ _ _ (@ps_if _ _ _ _ _ _ _ _ (pt_cmpR (op_eqK (K := K) rfl hr) (pe_callB (call_lenK (K := K) rfl) rfl B.len bt_len (@pa_consN _ _ _ _ _ _ (pv 2) pa_nil)) (pe_callB (call_lenK (K := K) rfl) rfl B.len bt_len (@pa_consN _ _ _ _ _ _ (pv 0) pa_nil)) (nomark _)) (@pss_cons _ _ _ _ _ (@ps_ret _ _ _ _ (pe_cmpR op_le (pv 4) (@pe_ix _ _ _ _ _ _ _ (ix_sqK (K := K) rfl) (@pe_ix _ _ _ _ _ _ _ (ix_sqK (K := K) rfl) (pv 0) (pv 3) (fun _ _ => rfl)) pe_int (fun _ _ => rfl)) (nomark _))) pss_nil) pss_nil) (@pss_cons _ _ _ _ _ (@ps_ret _ _ _ _ (pe_callB (call_allK (K := K) rfl rfl) rfl B.all bt_all (pa_cons (pe_comp (N' := ["place", "highest", "some", "height", "table", "last"]) (ix := [none, some 1, some 2, some 4, some 0, some 3]) rfl rfl rfl (pi_seqK (K := K) rfl (pe_def (D_places_left.mono (by decide)) hr rfl (@pa_consN _ _ _ _ _ _ (pv 0) (@pa_consN _ _ _ _ _ _ (pv 2) pa_nil)))) (fun _ _ _ => (pg_name (i := 0) (show (["place", "highest", "some", "height", "table", "last"] : List Str).Nodup from by decide +kernel) rfl (Or.inl rfl))) (fun _ _ _ => .nil) (fun _ _ _ _ => (pb_emit rfl (pe_def (D_is_held_at.mono (by decide)) hr rfl (@pa_consN _ _ _ _ _ _ (pv 1) (@pa_consK _ _ _ _ _ _ _ _ (pe_def (D_joined.mono (by decide)) hr rfl (@pa_consN _ _ _ _ _ _ (pv 2) (@pa_consN _ _ _ _ _ _ (pv 0) pa_nil))) (@pa_consN _ _ _ _ _ _ (pv 0) (@pa_consB _ _ _ _ _ _ _ _ (@pe_op _ _ _ _ _ _ _ _ op_sub (pv 3) (@pe_ix _ _ _ _ _ _ _ (ix_sqK (K := K) rfl) (@pe_ix _ _ _ _ _ _ _ (ix_sqK (K := K) rfl) (pv 4) (pv 5) (fun _ _ => rfl)) (pv 0) (fun _ _ => rfl))) pa_nil))))) rfl))) pa_nil))) pss_nil)))
theorem sc_is_held_at : FnScope ["highest", "some", "last", "height"] ["highest", "some", "last", "height"] (defScope (top 18)) := ⟨rfl, rfl, rfl, by decide +kernel, rfl, by decide +kernel, by decide +kernel⟩
def T_is_held_at (K : PySem.W.Frag)   : TS := (tSeq (tRet (tOrV (tOp yLe (tVar 3) (tC (.int 0))) (tAndV (tOp (rInD K false) (tTup (tCons (tVar 1) (tCons (tVar 2) tNil))) (tVar 0)) (tOp yGe (tPGet K (tVar 0) (tTup (tCons (tVar 1) (tCons (tVar 2) tNil)))) (tVar 3))))) tNext)
theorem ok_is_held_at (F : Fun K "is_held_at" "is_held_at" (top 18) f fd) (B : Blt4 mg)      {sp : Sp} (len : ∀ vs H Q E, sp vs H Q E → vs.length = 4)
    (rd : ∀ vs H Q E, sp vs H Q E → T_is_held_at K   { nx := fun _ H' => Q .non H', rt := Q } (start ["highest", "some", "last", "height"] vs) H) : FnOk P w K mg base CX0 1 f fd ["highest", "some", "last", "height"] sp := by
  refine F.ok sc_is_held_at len (fun cdv A outer s H vs Q E hr h => ⟨_, ?_, rd vs H Q E h⟩)
  have nd := sc_is_held_at.nd
  exact (@pss_cons _ _ _ _ _ (@ps_ret _ _ _ _ (pe_or (pe_cmpR op_le (pv 3) pe_int (nomark _)) (pe_one (pe_and (pe_cmpR (op_inDK (K := K) rfl hr) (@pe_tup _ _ _ _ _ (@pa_consN _ _ _ _ _ _ (pv 1) (@pa_consN _ _ _ _ _ _ (pv 2) pa_nil))) (pv 0) rfl) (pe_one (pe_cmpR op_ge (pe_pget (K := K) rfl (hu6 hr) (pv 0) (@pe_tup _ _ _ _ _ (@pa_consN _ _ _ _ _ _ (pv 1) (@pa_consN _ _ _ _ _ _ (pv 2) pa_nil))) (fun _ _ => rfl)) (pv 3) (nomark _))))))) pss_nil)
theorem sc__law_acell : FnScope ["state"] ["state"] (defScope (top 20)) := ⟨rfl, rfl, rfl, by decide +kernel, rfl, by decide +kernel, by decide +kernel⟩
def T__law_acell (K : PySem.W.Frag)   : TS := (tSeq (sDPut (tVar 0) (tC (.str "at")) (tOp (rAddA K) (tDGet (tVar 0) (tC (.str "at"))) (tC (.int 1)))) (tSeq (tIfS (tTest (tOp yGt (tDGet (tVar 0) (tC (.str "at"))) (tCB (rLen K) (tCons (tDGet (tVar 0) (tC (.str "script"))) tNil)))) (tSeq (tRet (tC (.int 0))) tNext) tNext) (tSeq (tRet (tOp (rIx2 K) (tDGet (tVar 0) (tC (.str "script"))) (tOp ySub (tDGet (tVar 0) (tC (.str "at"))) (tC (.int 1))))) tNext)))
theorem ok__law_acell (F : Fun K "_law_acell" "_law_acell" (top 20) f fd) (B : Blt4 mg)      {sp : Sp} (len : ∀ vs H Q E, sp vs H Q E → vs.length = 1)
    (rd : ∀ vs H Q E, sp vs H Q E → T__law_acell K   { nx := fun _ H' => Q .non H', rt := Q } (start ["state"] vs) H) : FnOk P w K mg base CX0 1 f fd ["state"] sp := by
  refine F.ok sc__law_acell len (fun cdv A outer s H vs Q E hr h => ⟨_, ?_, rd vs H Q E h⟩)
  have nd := sc__law_acell.nd
  exact (@pss_cons _ _ _ _ _ (ps_dput (hu_of hr) (pv 0) pe_str (@pe_op _ _ _ _ _ _ _ _ (op_addK (K := K) rfl) (pe_dget (hu_of hr) (pv 0) pe_str (fun _ _ => rfl)) pe_int) rfl) (@pss_cons _ _ _ _ _ (@ps_if _ _ _ _ _ _ _ _ (pt_cmpR op_gt (pe_dget (hu_of hr) (pv 0) pe_str (fun _ _ => rfl)) (pe_callB (call_lenK (K := K) rfl) rfl B.len bt_len (@pa_consS _ _ _ _ _ _ _ (pe_dget (hu_of hr) (pv 0) pe_str (fun _ _ => rfl)) pa_nil)) (nomark _)) (@pss_cons _ _ _ _ _ (@ps_ret _ _ _ _ pe_int) pss_nil) pss_nil) (@pss_cons _ _ _ _ _ (@ps_ret _ _ _ _ (@pe_ix _ _ _ _ _ _ _ (ix_sqK (K := K) rfl) (pe_dget (hu_of hr) (pv 0) pe_str (fun _ _ => rfl)) (@pe_op _ _ _ _ _ _ _ _ op_sub (pe_dget (hu_of hr) (pv 0) pe_str (fun _ _ => rfl)) pe_int) (fun _ _ => rfl))) pss_nil)))
theorem sc__law_alength : FnScope ["cell", "top"] ["cell"] (defScope (top 21)) := ⟨rfl, rfl, rfl, by decide +kernel, rfl, by decide +kernel, by decide +kernel⟩
def T__law_alength (K : PySem.W.Frag)   : TS := (tSeq (tAsg (tOp (rIx2 K) (tLst (tCons (tC (.int 4)) (tCons (tC (.int 2)) (tCons (tC (.int 10)) (tCons (tC (.int 1000)) (tCons (tC (.int 1000001)) tNil)))))) (tOp yMod (tVar 0) (tC (.int 5)))) (gName 1)) (tSeq (tRet (tOp yMod (tOp yDiv (tVar 0) (tC (.int 5))) (tVar 1))) tNext))
theorem ok__law_alength (F : Fun K "_law_alength" "_law_alength" (top 21) f fd) (B : Blt4 mg)      {sp : Sp} (len : ∀ vs H Q E, sp vs H Q E → vs.length = 1)
    (rd : ∀ vs H Q E, sp vs H Q E → T__law_alength K   { nx := fun _ H' => Q .non H', rt := Q } (start ["cell", "top"] vs) H) : FnOk P w K mg base CX0 1 f fd ["cell"] sp := by
  refine F.ok sc__law_alength len (fun cdv A outer s H vs Q E hr h => ⟨_, ?_, rd vs H Q E h⟩)
  have nd := sc__law_alength.nd
  exact (@pss_cons _ _ _ _ _ (@ps_set _ _ 1 _ _ _ _ nd rfl (Or.inl rfl) (@pe_ix _ _ _ _ _ _ _ (ix_sqK (K := K) rfl) (@pe_lst _ _ _ _ (@pa_consC _ _ _ _ _ _ _ pe_int (@pa_consC _ _ _ _ _ _ _ pe_int (@pa_consC _ _ _ _ _ _ _ pe_int (@pa_consC _ _ _ _ _ _ _ pe_int (@pa_consC _ _ _ _ _ _ _ pe_int pa_nil)))))) (@pe_op _ _ _ _ _ _ _ _ op_mod (pv 0) pe_int) (fun _ _ => rfl)) (by rfl) (by first | exact .inl rfl | exact .inr rfl | assumption)) (@pss_cons _ _ _ _ _ (@ps_ret _ _ _ _ (@pe_op _ _ _ _ _ _ _ _ op_mod (@pe_op _ _ _ _ _ _ _ _ op_fdiv (pv 0) pe_int) (pv 1))) pss_nil))
theorem sc__law_atable : FnScope ["state", "many", "even", "found", "one", "other"] ["state", "many", "even"] (defScope (top 22)) := ⟨rfl, rfl, rfl, by decide +kernel, rfl, by decide +kernel, by decide +kernel⟩
def T__law_atable (K : PySem.W.Frag)  (sp__law_acell : Sp) (sp__law_alength : Sp) : TS := (tSeq (tAsg (tComp [none, some 1] (iRng1 (tCons (tVar 1) tNil)) (gName 0) [] fun acc => (tEmit (tOp rMulA (tLst (tCons (tC (.int 0)) tNil)) (tVar 1)) acc)) (gName 3)) (tSeq (tFor (iRng1 (tCons (tVar 1) tNil)) (gName 4) (tSeq (tFor (iRng1 (tCons (tVar 1) tNil)) (gName 5) (tSeq (tIfS (tOr (tTest (tOp yLt (tVar 4) (tVar 5))) (tAnd (tTest (tOp yGt (tVar 4) (tVar 5))) (tNot (tTru K (tVar 2))))) (tSeq (tAsg (tCall sp__law_alength [] E0 (tCons (tCall sp__law_acell [] E0 (tCons (tVar 0) tNil)) tNil)) (gSub (tOp (rIx2 K) (tVar 3) (tVar 4)) (tVar 5) rSetL)) tNext) (tSeq (tIfS (tTest (tOp yGt (tVar 4) (tVar 5))) (tSeq (tAsg (tOp (rIx2 K) (tOp (rIx2 K) (tVar 3) (tVar 5)) (tVar 4)) (gSub (tOp (rIx2 K) (tVar 3) (tVar 4)) (tVar 5) rSetL)) tNext) tNext) tNext)) tNext)) tNext)) (tSeq (tRet (tCB (rTuple K) (tCons (tComp [none] (iSeq K (tVar 3)) (gName 0) [] fun acc => (tEmit (tCB (rTuple K) (tCons (tVar 0) tNil)) acc)) tNil))) tNext)))
theorem ok__law_atable (F : Fun K "_law_atable" "_law_atable" (top 22) f fd) (B : Blt4 mg)    {sp__law_acell : Sp} (D__law_acell : Def P w K mg base "_law_acell" 1 ["state"] sp__law_acell) {sp__law_alength : Sp} (D__law_alength : Def P w K mg base "_law_alength" 1 ["cell"] sp__law_alength)  {sp : Sp} (len : ∀ vs H Q E, sp vs H Q E → vs.length = 3)
    (rd : ∀ vs H Q E, sp vs H Q E → T__law_atable K  sp__law_acell sp__law_alength { nx := fun _ H' => Q .non H', rt := Q } (start ["state", "many", "even", "found", "one", "other"] vs) H) : FnOk P w K mg base CX0 2 f fd ["state", "many", "even"] sp := by
  refine F.ok sc__law_atable len (fun cdv A outer s H vs Q E hr h => ⟨_, ?_, rd vs H Q E h⟩)
  have nd := sc__law_atable.nd
  exact (@pss_cons _ _ _ _ _ (ps_setComp (i := 3) nd rfl (Or.inl rfl) (N' := ["k", "many"]) (ix := [none, some 1]) rfl rfl rfl (pi_range1 rfl B.range (@pa_consN _ _ _ _ _ _ (pv 1) pa_nil)) (fun _ _ _ => (pg_name (i := 0) (show (["k", "many"] : List Str).Nodup from by decide +kernel) rfl (Or.inl rfl))) (fun _ _ _ => .nil) (fun _ _ _ _ => (pb_emit rfl (@pe_op _ _ _ _ _ _ _ _ op_mulA (@pe_lst _ _ _ _ (@pa_consC _ _ _ _ _ _ _ pe_int pa_nil)) (pv 1)) rfl))) (@pss_cons _ _ _ _ _ (ps_for PassesOwn.never rfl (pi_range1 rfl B.range (@pa_consN _ _ _ _ _ _ (pv 1) pa_nil)) (pg_name (i := 4) nd rfl (Or.inl rfl)) (@pss_cons _ _ _ _ _ (ps_for PassesOwn.never rfl (pi_range1 rfl B.range (@pa_consN _ _ _ _ _ _ (pv 1) pa_nil)) (pg_name (i := 5) nd rfl (Or.inl rfl)) (@pss_cons _ _ _ _ _ (@ps_if _ _ _ _ _ _ _ _ (PW.pt (pw_or (pt_cmpR op_lt (pv 4) (pv 5) (nomark _)) (pw_or1 (PW.pt (pw_and (pt_cmpR op_gt (pv 4) (pv 5) (nomark _)) (pw_and1 (pt_not (pt_truK (K := K) rfl (pv 2) (fun _ => rfl))))))))) (@pss_cons _ _ _ _ _ (ps_asg (pe_def (D__law_alength.mono (by decide)) hr rfl (@pa_consK _ _ _ _ _ _ _ _ (pe_def (D__law_acell.mono (by decide)) hr rfl (@pa_consN _ _ _ _ _ _ (pv 0) pa_nil)) pa_nil)) (pg_sub (@pe_ix _ _ _ _ _ _ _ (ix_sqK (K := K) rfl) (pv 3) (pv 4) (fun _ _ => rfl)) (pv 5) set_list)) pss_nil) (@pss_cons _ _ _ _ _ (@ps_if _ _ _ _ _ _ _ _ (pt_cmpR op_gt (pv 4) (pv 5) (nomark _)) (@pss_cons _ _ _ _ _ (ps_asg (@pe_ix _ _ _ _ _ _ _ (ix_sqK (K := K) rfl) (@pe_ix _ _ _ _ _ _ _ (ix_sqK (K := K) rfl) (pv 3) (pv 5) (fun _ _ => rfl)) (pv 4) (fun _ _ => rfl)) (pg_sub (@pe_ix _ _ _ _ _ _ _ (ix_sqK (K := K) rfl) (pv 3) (pv 4) (fun _ _ => rfl)) (pv 5) set_list)) pss_nil) pss_nil) pss_nil)) pss_nil)) pss_nil)) (@pss_cons _ _ _ _ _ (@ps_ret _ _ _ _ (pe_callTy (call_tupleK (K := K) rfl) rfl B.tuple bt_tuple (pa_cons (pe_comp (N' := ["line"]) (ix := [none]) rfl rfl rfl (pi_seqK (K := K) rfl (pv 3)) (fun _ _ _ => (pg_name (i := 0) (show (["line"] : List Str).Nodup from by decide +kernel) rfl (Or.inl rfl))) (fun _ _ _ => .nil) (fun _ _ _ _ => (pb_emit rfl (pe_callTy (call_tupleK (K := K) rfl) rfl B.tuple bt_tuple (@pa_consN _ _ _ _ _ _ (pv 0) pa_nil)) rfl))) pa_nil))) pss_nil)))
theorem sc__law_arounds : FnScope ["many", "found", "turn", "more", "some"] ["many"] (defScope (top 23)) := ⟨rfl, rfl, rfl, by decide +kernel, rfl, by decide +kernel, by decide +kernel⟩
def T__law_arounds (K : PySem.W.Frag)   : TS := (tSeq (tAsg (tLst (tCons (tTup (tCons (tC (.int 0)) tNil)) tNil)) (gName 1)) (tSeq (tFor (iRng1 (tCons (tOp ySub (tVar 0) (tC (.int 1))) tNil)) (gName 2) (tSeq (tAsg (tLst tNil) (gName 3)) (tSeq (tFor (iSeq K (tVar 1)) (gName 4) (tSeq (tDrop (tBM K "list" (rExtendA K) (tVar 3) (tCons (tComp [none, some 4] (iRng1 (tCons (tVar 0) tNil)) (gName 0) [(tTest (tOp (rInD K true) (tVar 0) (tVar 1)))] fun acc => (tEmit (tOp (rAddA K) (tVar 1) (tTup (tCons (tVar 0) tNil))) acc)) tNil))) tNext)) (tSeq (tAsg (tVar 3) (gName 1)) tNext)))) (tSeq (tRet (tVar 1)) tNext)))
theorem ok__law_arounds (F : Fun K "_law_arounds" "_law_arounds" (top 23) f fd) (B : Blt4 mg)      {sp : Sp} (len : ∀ vs H Q E, sp vs H Q E → vs.length = 1)
    (rd : ∀ vs H Q E, sp vs H Q E → T__law_arounds K   { nx := fun _ H' => Q .non H', rt := Q } (start ["many", "found", "turn", "more", "some"] vs) H) : FnOk P w K mg base CX0 1 f fd ["many"] sp := by
  refine F.ok sc__law_arounds len (fun cdv A outer s H vs Q E hr h => ⟨_, ?_, rd vs H Q E h⟩)
  have nd := sc__law_arounds.nd
  exact (@pss_cons _ _ _ _ _ (@ps_set _ _ 1 _ _ _ _ nd rfl (Or.inl rfl) (@pe_lst _ _ _ _ (@pa_consT _ _ _ _ _ _ _ (@pe_tup _ _ _ _ _ (@pa_consC _ _ _ _ _ _ _ pe_int pa_nil)) pa_nil)) (by rfl) (by first | exact .inl rfl | exact .inr rfl | assumption)) (@pss_cons _ _ _ _ _ (ps_for PassesOwn.never rfl (pi_range1 rfl B.range (@pa_consB _ _ _ _ _ _ _ _ (@pe_op _ _ _ _ _ _ _ _ op_sub (pv 0) pe_int) pa_nil)) (pg_name (i := 2) nd rfl (Or.inl rfl)) (@pss_cons _ _ _ _ _ (@ps_set _ _ 3 _ _ _ _ nd rfl (Or.inl rfl) (@pe_lst _ _ _ _ pa_nil) (by rfl) (by first | exact .inl rfl | exact .inr rfl | assumption)) (@pss_cons _ _ _ _ _ (ps_for PassesOwn.never rfl (pi_seqK (K := K) rfl (pv 1)) (pg_name (i := 4) nd rfl (Or.inr rfl)) (@pss_cons _ _ _ _ _ (ps_expr (pe_bmK (K := K) rfl PySem.F.plainAttrs_list PySem.F.slot_list_extend PySem.F.type_list_extend (mt_extendA (K := K) rfl) (pv 3) (pa_cons (pe_comp (N' := ["place", "some"]) (ix := [none, some 4]) rfl rfl rfl (pi_range1 rfl B.range (@pa_consN _ _ _ _ _ _ (pv 0) pa_nil)) (fun _ _ _ => (pg_name (i := 0) (show (["place", "some"] : List Str).Nodup from by decide +kernel) rfl (Or.inl rfl))) (fun _ _ _ => (.cons (pt_cmpR (op_notInDK (K := K) rfl hr) (pv 0) (pv 1) rfl) .nil)) (fun _ _ _ _ => (pb_emit rfl (@pe_op _ _ _ _ _ _ _ _ (op_addK (K := K) rfl) (pv 1) (@pe_tup _ _ _ _ _ (@pa_consN _ _ _ _ _ _ (pv 0) pa_nil))) rfl))) pa_nil))) pss_nil)) (@pss_cons _ _ _ _ _ (@ps_set _ _ 1 _ _ _ _ nd rfl (Or.inl rfl) (pv 3) (by rfl) (by first | exact .inl rfl | exact .inr rfl | assumption)) pss_nil)))) (@pss_cons _ _ _ _ _ (@ps_ret _ _ _ _ (pv 1)) pss_nil)))
theorem sc__law_along : FnScope ["table", "some"] ["table", "some"] (defScope (top 24)) := ⟨rfl, rfl, rfl, by decide +kernel, rfl, by decide +kernel, by decide +kernel⟩
def T__law_along (K : PySem.W.Frag)   : TS := (tSeq (tRet (tCB (rSum K) (tCons (tComp [none, some 0, some 1] (iRng1 (tCons (tCB (rLen K) (tCons (tVar 1) tNil)) tNil)) (gName 0) [] fun acc => (tEmit (tOp (rIx2 K) (tOp (rIx2 K) (tVar 1) (tOp (rIx2 K) (tVar 2) (tOp ySub (tVar 0) (tC (.int 1))))) (tOp (rIx2 K) (tVar 2) (tVar 0))) acc)) tNil))) tNext)
theorem ok__law_along (F : Fun K "_law_along" "_law_along" (top 24) f fd) (B : Blt4 mg)      {sp : Sp} (len : ∀ vs H Q E, sp vs H Q E → vs.length = 2)
    (rd : ∀ vs H Q E, sp vs H Q E → T__law_along K   { nx := fun _ H' => Q .non H', rt := Q } (start ["table", "some"] vs) H) : FnOk P w K mg base CX0 1 f fd ["table", "some"] sp := by
  refine F.ok sc__law_along len (fun cdv A outer s H vs Q E hr h => ⟨_, ?_, rd vs H Q E h⟩)
  have nd := sc__law_along.nd
  exact (@pss_cons _ _ _ _ _ (@ps_ret _ _ _ _ (pe_callB (call_sumK (K := K) rfl rfl) rfl B.sum bt_sum (pa_cons (pe_comp (N' := ["k", "table", "some"]) (ix := [none, some 0, some 1]) rfl rfl rfl (pi_range1 rfl B.range (@pa_consK _ _ _ _ _ _ _ _ (pe_callB (call_lenK (K := K) rfl) rfl B.len bt_len (@pa_consN _ _ _ _ _ _ (pv 1) pa_nil)) pa_nil)) (fun _ _ _ => (pg_name (i := 0) (show (["k", "table", "some"] : List Str).Nodup from by decide +kernel) rfl (Or.inl rfl))) (fun _ _ _ => .nil) (fun _ _ _ _ => (pb_emit rfl (@pe_ix _ _ _ _ _ _ _ (ix_sqK (K := K) rfl) (@pe_ix _ _ _ _ _ _ _ (ix_sqK (K := K) rfl) (pv 1) (@pe_ix _ _ _ _ _ _ _ (ix_sqK (K := K) rfl) (pv 2) (@pe_op _ _ _ _ _ _ _ _ op_sub (pv 0) pe_int) (fun _ _ => rfl)) (fun _ _ => rfl)) (@pe_ix _ _ _ _ _ _ _ (ix_sqK (K := K) rfl) (pv 2) (pv 0) (fun _ _ => rfl)) (fun _ _ => rfl)) rfl))) pa_nil))) pss_nil)
theorem sc__law_awhole : FnScope ["thing"] ["thing"] (defScope (top 25)) := ⟨rfl, rfl, rfl, by decide +kernel, rfl, by decide +kernel, by decide +kernel⟩
def T__law_awhole (K : PySem.W.Frag)   : TS := (tSeq (tRet (tAndV (tCB (rIsi K) (tCons (tVar 0) (tCons (tC (.ty "int")) tNil))) (tNotV (tCB (rIsi K) (tCons (tVar 0) (tCons (tC (.ty "bool")) tNil)))))) tNext)
theorem ok__law_awhole (F : Fun K "_law_awhole" "_law_awhole" (top 25) f fd) (B : Blt4 mg)      {sp : Sp} (len : ∀ vs H Q E, sp vs H Q E → vs.length = 1)
    (rd : ∀ vs H Q E, sp vs H Q E → T__law_awhole K   { nx := fun _ H' => Q .non H', rt := Q } (start ["thing"] vs) H) : FnOk P w K mg base CX0 1 f fd ["thing"] sp := by
  refine F.ok sc__law_awhole len (fun cdv A outer s H vs Q E hr h => ⟨_, ?_, rd vs H Q E h⟩)
  have nd := sc__law_awhole.nd
  exact (@pss_cons _ _ _ _ _ (@ps_ret _ _ _ _ (pe_and (pe_callB (call_isiK (K := K) rfl) rfl B.isi bt_isi (@pa_consN _ _ _ _ _ _ (pv 0) (@pa_consN _ _ _ _ _ _ (pe_bltn (v := .ty "int") rfl B.int bt_int rfl) pa_nil))) (pe_one (pe_not (pe_callB (call_isiK (K := K) rfl) rfl B.isi bt_isi (@pa_consN _ _ _ _ _ _ (pv 0) (@pa_consN _ _ _ _ _ _ (pe_bltn (v := .ty "bool") rfl B.bool bt_bool rfl) pa_nil))))))) pss_nil)
theorem sc__law_aheld : FnScope ["table", "known", "some", "last", "number", "place", "key"] ["table", "known", "some", "last", "number"] (defScope (top 26)) := ⟨rfl, rfl, rfl, by decide +kernel, rfl, by decide +kernel, by decide +kernel⟩
def T__law_aheld (K : PySem.W.Frag)   : TS := (tSeq (tIfS (tTest (tOp yLe (tVar 4) (tC (.int 0)))) (tSeq (tRet (tC (.bl true))) tNext) tNext) (tSeq (tIfS (tTest (tOp (rEqD K) (tCB (rLen K) (tCons (tVar 2) tNil)) (tCB (rLen K) (tCons (tVar 0) tNil)))) (tSeq (tRet (tOp yLe (tVar 4) (tOp (rIx2 K) (tOp (rIx2 K) (tVar 0) (tVar 3)) (tC (.int 0))))) tNext) tNext) (tSeq (tFor (iRng1 (tCons (tCB (rLen K) (tCons (tVar 0) tNil)) tNil)) (gName 5) (tSeq (tIfS (tAnd (tTest (tOp (rInD K true) (tVar 5) (tVar 2))) (tTest (tOp yGt (tVar 4) (tOp (rIx2 K) (tOp (rIx2 K) (tVar 0) (tVar 3)) (tVar 5))))) (tSeq (tAsg (tTup (tCons (tCB (rTuple K) (tCons (tCB (rSorted K) (tCons (tOp (rAddA K) (tVar 2) (tTup (tCons (tVar 5) tNil))) tNil)) tNil)) (tCons (tVar 5) tNil))) (gName 6)) (tSeq (tIfS (tOr (tTest (tOp (rInD K true) (tVar 6) (tVar 1))) (tTest (tOp yLt (tPGet K (tVar 1) (tVar 6)) (tOp ySub (tVar 4) (tOp (rIx2 K) (tOp (rIx2 K) (tVar 0) (tVar 3)) (tVar 5)))))) (tSeq (tRet (tC (.bl false))) tNext) tNext) tNext)) tNext) tNext)) (tSeq (tRet (tC (.bl true))) tNext))))
theorem ok__law_aheld (F : Fun K "_law_aheld" "_law_aheld" (top 26) f fd) (B : Blt4 mg)      {sp : Sp} (len : ∀ vs H Q E, sp vs H Q E → vs.length = 5)
    (rd : ∀ vs H Q E, sp vs H Q E → T__law_aheld K   { nx := fun _ H' => Q .non H', rt := Q } (start ["table", "known", "some", "last", "number", "place", "key"] vs) H) : FnOk P w K mg base CX0 1 f fd ["table", "known", "some", "last", "number"] sp := by
  refine F.ok sc__law_aheld len (fun cdv A outer s H vs Q E hr h => ⟨_, ?_, rd vs H Q E h⟩)
  have nd := sc__law_aheld.nd
  exact (@pss_cons _ _ _ _ _ (@ps_if _ _ _ _ _ _ _ _ (pt_cmpR op_le (pv 4) pe_int (nomark _)) (@pss_cons _ _ _ _ _ (@ps_ret _ _ _ _ pe_bl) pss_nil) pss_nil) (@pss_cons _ _ _ _ _ (@ps_if _ _ _ _ _ _ _ _ (pt_cmpR (op_eqK (K := K) rfl hr) (pe_callB (call_lenK (K := K) rfl) rfl B.len bt_len (@pa_consN _ _ _ _ _ _ (pv 2) pa_nil)) (pe_callB (call_lenK (K := K) rfl) rfl B.len bt_len (@pa_consN _ _ _ _ _ _ (pv 0) pa_nil)) (nomark _)) (@pss_cons _ _ _ _ _ (@ps_ret _ _ _ _ (pe_cmpR op_le (pv 4) (@pe_ix _ _ _ _ _ _ _ (ix_sqK (K := K) rfl) (@pe_ix _ _ _ _ _ _ _ (ix_sqK (K := K) rfl) (pv 0) (pv 3) (fun _ _ => rfl)) pe_int (fun _ _ => rfl)) (nomark _))) pss_nil) pss_nil) (@pss_cons _ _ _ _ _ (ps_for PassesOwn.never rfl (pi_range1 rfl B.range (@pa_consK _ _ _ _ _ _ _ _ (pe_callB (call_lenK (K := K) rfl) rfl B.len bt_len (@pa_consN _ _ _ _ _ _ (pv 0) pa_nil)) pa_nil)) (pg_name (i := 5) nd rfl (Or.inl rfl)) (@pss_cons _ _ _ _ _ (@ps_if _ _ _ _ _ _ _ _ (PW.pt (pw_and (pt_cmpR (op_notInDK (K := K) rfl hr) (pv 5) (pv 2) rfl) (pw_and1 (pt_cmpR op_gt (pv 4) (@pe_ix _ _ _ _ _ _ _ (ix_sqK (K := K) rfl) (@pe_ix _ _ _ _ _ _ _ (ix_sqK (K := K) rfl) (pv 0) (pv 3) (fun _ _ => rfl)) (pv 5) (fun _ _ => rfl)) (nomark _))))) (@pss_cons _ _ _ _ _ (@ps_set _ _ 6 _ _ _ _ nd rfl (Or.inl rfl) (@pe_tup _ _ _ _ _ (@pa_consK _ _ _ _ _ _ _ _ (pe_callTy (call_tupleK (K := K) rfl) rfl B.tuple bt_tuple (@pa_consK _ _ _ _ _ _ _ _ (pe_callB (call_sortedK (K := K) rfl) rfl B.sorted bt_sorted (@pa_consB _ _ _ _ _ _ _ _ (@pe_op _ _ _ _ _ _ _ _ (op_addK (K := K) rfl) (pv 2) (@pe_tup _ _ _ _ _ (@pa_consN _ _ _ _ _ _ (pv 5) pa_nil))) pa_nil)) pa_nil)) (@pa_consN _ _ _ _ _ _ (pv 5) pa_nil))) (by rfl) (by first | exact .inl rfl | exact .inr rfl | assumption)) (@pss_cons _ _ _ _ _ (@ps_if _ _ _ _ _ _ _ _ (PW.pt (pw_or (pt_cmpR (op_notInDK (K := K) rfl hr) (pv 6) (pv 1) rfl) (pw_or1 (pt_cmpR op_lt (pe_pget (K := K) rfl (hu6 hr) (pv 1) (pv 6) (fun _ _ => rfl)) (@pe_op _ _ _ _ _ _ _ _ op_sub (pv 4) (@pe_ix _ _ _ _ _ _ _ (ix_sqK (K := K) rfl) (@pe_ix _ _ _ _ _ _ _ (ix_sqK (K := K) rfl) (pv 0) (pv 3) (fun _ _ => rfl)) (pv 5) (fun _ _ => rfl))) (nomark _))))) (@pss_cons _ _ _ _ _ (@ps_ret _ _ _ _ pe_bl) pss_nil) pss_nil) pss_nil)) pss_nil) pss_nil)) (@pss_cons _ _ _ _ _ (@ps_ret _ _ _ _ pe_bl) pss_nil))))
theorem sc__law_afloor : FnScope ["many", "thing", "place", "good"] ["many", "thing"] (defScope (top 27)) := ⟨rfl, rfl, rfl, by decide +kernel, rfl, by decide +kernel, by decide +kernel⟩
def T__law_afloor (K : PySem.W.Frag)  (sp__law_awhole : Sp) : TS := (tSeq (tIfS (tOr (tNot (tB (tCB (rIsi K) (tCons (tVar 1) (tCons (tC (.ty "tuple")) tNil))))) (tOr (tTest (tOp (rNeD K) (tCB (rLen K) (tCons (tVar 1) tNil)) (tC (.int 3)))) (tNot (tB (tCB (rIsi K) (tCons (tOp (rIx2 K) (tVar 1) (tC (.int 0))) (tCons (tC (.ty "tuple")) tNil))))))) (tSeq (tRet (tC (.bl false))) tNext) tNext) (tSeq (tIfS (tOr (tNot (tB (tCall sp__law_awhole [] E0 (tCons (tOp (rIx2 K) (tVar 1) (tC (.int 1))) tNil)))) (tNot (tB (tCall sp__law_awhole [] E0 (tCons (tOp (rIx2 K) (tVar 1) (tC (.int 2))) tNil))))) (tSeq (tRet (tC (.bl false))) tNext) tNext) (tSeq (tFor (iSeq K (tOp (rIx2 K) (tVar 1) (tC (.int 0)))) (gName 2) (tSeq (tIfS (tOr (tNot (tB (tCall sp__law_awhole [] E0 (tCons (tVar 2) tNil)))) (tNot (tTest (tChain yLt yLt (tUn yNeg (tC (.int 1))) (tVar 2) (tVar 0))))) (tSeq (tRet (tC (.bl false))) tNext) tNext) tNext)) (tSeq (tAsg (tAndV (tOp (rEqD K) (tCB (rList K) (tCons (tOp (rIx2 K) (tVar 1) (tC (.int 0))) tNil)) (tCB (rSS K) (tCons (tOp (rIx2 K) (tVar 1) (tC (.int 0))) tNil))) (tOp (rEqD K) (tSl (rSlW K) (tOp (rIx2 K) (tVar 1) (tC (.int 0))) tNoPart (tPart (tC (.int 1)))) (tTup (tCons (tC (.int 0)) tNil)))) (gName 3)) (tSeq (tRet (tAndV (tVar 3) (tOp (rInD K false) (tOp (rIx2 K) (tVar 1) (tC (.int 1))) (tOp (rIx2 K) (tVar 1) (tC (.int 0)))))) tNext)))))
theorem ok__law_afloor (F : Fun K "_law_afloor" "_law_afloor" (top 27) f fd) (B : Blt4 mg)    {sp__law_awhole : Sp} (D__law_awhole : Def P w K mg base "_law_awhole" 1 ["thing"] sp__law_awhole)  {sp : Sp} (len : ∀ vs H Q E, sp vs H Q E → vs.length = 2)
    (rd : ∀ vs H Q E, sp vs H Q E → T__law_afloor K  sp__law_awhole { nx := fun _ H' => Q .non H', rt := Q } (start ["many", "thing", "place", "good"] vs) H) : FnOk P w K mg base CX0 2 f fd ["many", "thing"] sp := by
  refine F.ok sc__law_afloor len (fun cdv A outer s H vs Q E hr h => ⟨_, ?_, rd vs H Q E h⟩)
  have nd := sc__law_afloor.nd
  exact (@pss_cons _ _ _ _ _ (@ps_if _ _ _ _ _ _ _ _ (PW.pt (pw_or (pt_not (pt_val (pe_callB (call_isiK (K := K) rfl) rfl B.isi bt_isi (@pa_consN _ _ _ _ _ _ (pv 1) (@pa_consN _ _ _ _ _ _ (pe_bltn (v := .ty "tuple") rfl B.tuple bt_tuple rfl) pa_nil))))) (pw_or (pt_cmpR (op_neK (K := K) rfl hr) (pe_callB (call_lenK (K := K) rfl) rfl B.len bt_len (@pa_consN _ _ _ _ _ _ (pv 1) pa_nil)) pe_int (nomark _)) (pw_or1 (pt_not (pt_val (pe_callB (call_isiK (K := K) rfl) rfl B.isi bt_isi (@pa_consS _ _ _ _ _ _ _ (@pe_ix _ _ _ _ _ _ _ (ix_sqK (K := K) rfl) (pv 1) pe_int (fun _ _ => rfl)) (@pa_consN _ _ _ _ _ _ (pe_bltn (v := .ty "tuple") rfl B.tuple bt_tuple rfl) pa_nil))))))))) (@pss_cons _ _ _ _ _ (@ps_ret _ _ _ _ pe_bl) pss_nil) pss_nil) (@pss_cons _ _ _ _ _ (@ps_if _ _ _ _ _ _ _ _ (PW.pt (pw_or (pt_not (pt_val (pe_def (D__law_awhole.mono (by decide)) hr rfl (@pa_consS _ _ _ _ _ _ _ (@pe_ix _ _ _ _ _ _ _ (ix_sqK (K := K) rfl) (pv 1) pe_int (fun _ _ => rfl)) pa_nil)))) (pw_or1 (pt_not (pt_val (pe_def (D__law_awhole.mono (by decide)) hr rfl (@pa_consS _ _ _ _ _ _ _ (@pe_ix _ _ _ _ _ _ _ (ix_sqK (K := K) rfl) (pv 1) pe_int (fun _ _ => rfl)) pa_nil))))))) (@pss_cons _ _ _ _ _ (@ps_ret _ _ _ _ pe_bl) pss_nil) pss_nil) (@pss_cons _ _ _ _ _ (ps_for PassesOwn.never rfl (pi_seqK (K := K) rfl (@pe_ix _ _ _ _ _ _ _ (ix_sqK (K := K) rfl) (pv 1) pe_int (fun _ _ => rfl))) (pg_name (i := 2) nd rfl (Or.inl rfl)) (@pss_cons _ _ _ _ _ (@ps_if _ _ _ _ _ _ _ _ (PW.pt (pw_or (pt_not (pt_val (pe_def (D__law_awhole.mono (by decide)) hr rfl (@pa_consN _ _ _ _ _ _ (pv 2) pa_nil)))) (pw_or1 (pt_not (pt_chain op_lt op_lt (pe_un un_neg pe_int) (pv 2) (pv 0)))))) (@pss_cons _ _ _ _ _ (@ps_ret _ _ _ _ pe_bl) pss_nil) pss_nil) pss_nil)) (@pss_cons _ _ _ _ _ (@ps_set _ _ 3 _ _ _ _ nd rfl (Or.inl rfl) (pe_and (pe_cmpR (op_eqK (K := K) rfl hr) (pe_callTy (call_listK (K := K) rfl rfl) rfl B.list bt_list (@pa_consS _ _ _ _ _ _ _ (@pe_ix _ _ _ _ _ _ _ (ix_sqK (K := K) rfl) (pv 1) pe_int (fun _ _ => rfl)) pa_nil)) (pe_ss (K := K) rfl rfl rfl B.sorted bt_sorted rfl B.set bt_set (@pa_consS _ _ _ _ _ _ _ (@pe_ix _ _ _ _ _ _ _ (ix_sqK (K := K) rfl) (pv 1) pe_int (fun _ _ => rfl)) pa_nil)) (nomark _)) (pe_one (pe_cmpR (op_eqK (K := K) rfl hr) (pe_slice (sl_wK (K := K) rfl) (@pe_ix _ _ _ _ _ _ _ (ix_sqK (K := K) rfl) (pv 1) pe_int (fun _ _ => rfl)) po_none (po_some pe_int)) (@pe_tup _ _ _ _ _ (@pa_consC _ _ _ _ _ _ _ pe_int pa_nil)) (nomark _)))) (by rfl) (by first | exact .inl rfl | exact .inr rfl | assumption)) (@pss_cons _ _ _ _ _ (@ps_ret _ _ _ _ (pe_and (pv 3) (pe_one (pe_cmpR (op_inDK (K := K) rfl hr) (@pe_ix _ _ _ _ _ _ _ (ix_sqK (K := K) rfl) (pv 1) pe_int (fun _ _ => rfl)) (@pe_ix _ _ _ _ _ _ _ (ix_sqK (K := K) rfl) (pv 1) pe_int (fun _ _ => rfl)) rfl)))) pss_nil)))))
theorem sc__law_ashown : FnScope ["table", "floors", "number", "known", "one", "some", "last", "worth"] ["table", "floors", "number"] (defScope (top 28)) := ⟨rfl, rfl, rfl, by decide +kernel, rfl, by decide +kernel, by decide +kernel⟩
def T__law_ashown (K : PySem.W.Frag)  (sp__law_afloor : Sp) (sp__law_aheld : Sp) : TS := (tSeq (tAsg tDNewP (gName 3)) (tSeq (tFor (iSeq K (tVar 1)) (gName 4) (tSeq (tIfS (tNot (tB (tCall sp__law_afloor [] E0 (tCons (tCB (rLen K) (tCons (tVar 0) tNil)) (tCons (tVar 4) tNil))))) (tSeq (tRet (tC (.bl false))) tNext) tNext) (tSeq (sPPutA (tVar 3) (tSl (rSlW K) (tVar 4) tNoPart (tPart (tC (.int 2)))) (tCB rMax2 (tCons (tOp (rIx2 K) (tVar 4) (tC (.int 2))) (tCons (tPGet2 K (tVar 3) (tSl (rSlW K) (tVar 4) tNoPart (tPart (tC (.int 2)))) (tOp (rIx2 K) (tVar 4) (tC (.int 2)))) tNil)))) tNext))) (tSeq (tFor (iSeq K (tVar 1)) (gTup K 3 (gCons (gName 5) (gCons (gName 6) (gCons (gName 7) gNil)))) (tSeq (tIfS (tNot (tB (tCall sp__law_aheld [] E0 (tCons (tVar 0) (tCons (tVar 3) (tCons (tVar 5) (tCons (tVar 6) (tCons (tVar 7) tNil)))))))) (tSeq (tRet (tC (.bl false))) tNext) tNext) tNext)) (tSeq (tRet (tOp yGe (tPGet2 K (tVar 3) (tTup (tCons (tTup (tCons (tC (.int 0)) tNil)) (tCons (tC (.int 0)) tNil))) (tOp ySub (tVar 2) (tC (.int 1)))) (tVar 2))) tNext))))
theorem ok__law_ashown (F : Fun K "_law_ashown" "_law_ashown" (top 28) f fd) (B : Blt4 mg)    {sp__law_afloor : Sp} (D__law_afloor : Def P w K mg base "_law_afloor" 2 ["many", "thing"] sp__law_afloor) {sp__law_aheld : Sp} (D__law_aheld : Def P w K mg base "_law_aheld" 1 ["table", "known", "some", "last", "number"] sp__law_aheld)  {sp : Sp} (len : ∀ vs H Q E, sp vs H Q E → vs.length = 3)
    (rd : ∀ vs H Q E, sp vs H Q E → T__law_ashown K  sp__law_afloor sp__law_aheld { nx := fun _ H' => Q .non H', rt := Q } (start ["table", "floors", "number", "known", "one", "some", "last", "worth"] vs) H) : FnOk P w K mg base CX0 3 f fd ["table", "floors", "number"] sp := by
  refine F.ok sc__law_ashown len (fun cdv A outer s H vs Q E hr h => ⟨_, ?_, rd vs H Q E h⟩)
  have nd := sc__law_ashown.nd
  exact (@pss_cons _ _ _ _ _ (@ps_set _ _ 3 _ _ _ _ nd rfl (Or.inl rfl) pe_dnewP (by rfl) (by first | exact .inl rfl | exact .inr rfl | assumption)) (@pss_cons _ _ _ _ _ (ps_for PassesOwn.never rfl (pi_seqK (K := K) rfl (pv 1)) (pg_name (i := 4) nd rfl (Or.inl rfl)) (@pss_cons _ _ _ _ _ (@ps_if _ _ _ _ _ _ _ _ (pt_not (pt_val (pe_def (D__law_afloor.mono (by decide)) hr rfl (@pa_consK _ _ _ _ _ _ _ _ (pe_callB (call_lenK (K := K) rfl) rfl B.len bt_len (@pa_consN _ _ _ _ _ _ (pv 0) pa_nil)) (@pa_consN _ _ _ _ _ _ (pv 4) pa_nil))))) (@pss_cons _ _ _ _ _ (@ps_ret _ _ _ _ pe_bl) pss_nil) pss_nil) (@pss_cons _ _ _ _ _ (ps_pputA (hu6 hr) (pv 3) (pe_slice (sl_wK (K := K) rfl) (pv 4) po_none (po_some pe_int)) (pe_callB (call_max2K rfl) rfl B.max bt_max (@pa_consS _ _ _ _ _ _ _ (@pe_ix _ _ _ _ _ _ _ (ix_sqK (K := K) rfl) (pv 4) pe_int (fun _ _ => rfl)) (@pa_consK _ _ _ _ _ _ _ _ (pe_pget2 (K := K) rfl (hu6 hr) (pv 3) (pe_slice (sl_wK (K := K) rfl) (pv 4) po_none (po_some pe_int)) (@pe_ix _ _ _ _ _ _ _ (ix_sqK (K := K) rfl) (pv 4) pe_int (fun _ _ => rfl)) ⟨rfl, rfl, rfl, rfl⟩) pa_nil))) rfl) pss_nil))) (@pss_cons _ _ _ _ _ (ps_for PassesOwn.never rfl (pi_seqK (K := K) rfl (pv 1)) (pg_tupK (K := K) rfl rfl (pgs_cons (pg_name (i := 5) nd rfl (Or.inl rfl)) (pgs_cons (pg_name (i := 6) nd rfl (Or.inl rfl)) (pgs_cons (pg_name (i := 7) nd rfl (Or.inl rfl)) pgs_nil)))) (@pss_cons _ _ _ _ _ (@ps_if _ _ _ _ _ _ _ _ (pt_not (pt_val (pe_def (D__law_aheld.mono (by decide)) hr rfl (@pa_consN _ _ _ _ _ _ (pv 0) (@pa_consN _ _ _ _ _ _ (pv 3) (@pa_consN _ _ _ _ _ _ (pv 5) (@pa_consN _ _ _ _ _ _ (pv 6) (@pa_consN _ _ _ _ _ _ (pv 7) pa_nil)))))))) (@pss_cons _ _ _ _ _ (@ps_ret _ _ _ _ pe_bl) pss_nil) pss_nil) pss_nil)) (@pss_cons _ _ _ _ _ (@ps_ret _ _ _ _ (pe_cmpR op_ge (pe_pget2 (K := K) rfl (hu6 hr) (pv 3) (@pe_tup _ _ _ _ _ (@pa_consT _ _ _ _ _ _ _ (@pe_tup _ _ _ _ _ (@pa_consC _ _ _ _ _ _ _ pe_int pa_nil)) (@pa_consC _ _ _ _ _ _ _ pe_int pa_nil))) (@pe_op _ _ _ _ _ _ _ _ op_sub (pv 2) pe_int) ⟨rfl, rfl, rfl, rfl⟩) (pv 2) (nomark _))) pss_nil))))
theorem sc__law_aspoilt : FnScope ["floors", "many", "cell", "at", "some", "last", "number", "place", "odd"] ["floors", "many", "cell"] (defScope (top 29)) := ⟨rfl, rfl, rfl, by decide +kernel, rfl, by decide +kernel, by decide +kernel⟩
def T__law_aspoilt (K : PySem.W.Frag)   : TS := (tSeq (tAsg (tOp yMod (tVar 2) (tCB (rLen K) (tCons (tVar 0) tNil))) (gName 3)) (tSeq (tAsg (tOp (rIx2 K) (tVar 0) (tVar 3)) (gTup K 3 (gCons (gName 4) (gCons (gName 5) (gCons (gName 6) gNil))))) (tSeq (tAsg (tOp (rIx2 K) (tVar 4) (tOp yMod (tOp yDiv (tVar 2) (tC (.int 1024))) (tCB (rLen K) (tCons (tVar 4) tNil)))) (gName 7)) (tSeq (tAsg (tLst (tCons (tLst (tCons (tTup (tCons (tVar 4) (tCons (tVar 5) (tCons (tOp (rAddA K) (tVar 6) (tC (.int 1))) tNil)))) tNil)) (tCons (tLst (tCons (tTup (tCons (tVar 4) (tCons (tVar 7) (tCons (tVar 6) tNil)))) tNil)) (tCons (tLst tNil) (tCons (tLst (tCons (tTup (tCons (tVar 4) (tCons (tVar 5) (tCons (tVar 6) tNil)))) (tCons (tTup (tCons (tVar 4) (tCons (tVar 1) (tCons (tVar 6) tNil)))) tNil))) tNil))))) (gName 8)) (tSeq (tRet (tComp [none, some 0, some 3] (iSeq K (tVar 8)) (gName 0) [] fun acc => (tEmit (tOp (rAddA K) (tOp (rAddA K) (tSl (rSlW K) (tVar 1) tNoPart (tPart (tVar 2))) (tVar 0)) (tSl (rSlW K) (tVar 1) (tPart (tOp (rAddA K) (tVar 2) (tC (.int 1)))) tNoPart)) acc))) tNext)))))
theorem ok__law_aspoilt (F : Fun K "_law_aspoilt" "_law_aspoilt" (top 29) f fd) (B : Blt4 mg)      {sp : Sp} (len : ∀ vs H Q E, sp vs H Q E → vs.length = 3)
    (rd : ∀ vs H Q E, sp vs H Q E → T__law_aspoilt K   { nx := fun _ H' => Q .non H', rt := Q } (start ["floors", "many", "cell", "at", "some", "last", "number", "place", "odd"] vs) H) : FnOk P w K mg base CX0 1 f fd ["floors", "many", "cell"] sp := by
  refine F.ok sc__law_aspoilt len (fun cdv A outer s H vs Q E hr h => ⟨_, ?_, rd vs H Q E h⟩)
  have nd := sc__law_aspoilt.nd
  exact (@pss_cons _ _ _ _ _ (@ps_set _ _ 3 _ _ _ _ nd rfl (Or.inr rfl) (@pe_op _ _ _ _ _ _ _ _ op_mod (pv 2) (pe_callB (call_lenK (K := K) rfl) rfl B.len bt_len (@pa_consN _ _ _ _ _ _ (pv 0) pa_nil))) (by rfl) (by first | exact .inl rfl | exact .inr rfl | assumption)) (@pss_cons _ _ _ _ _ (ps_asg (@pe_ix _ _ _ _ _ _ _ (ix_sqK (K := K) rfl) (pv 0) (pv 3) (fun _ _ => rfl)) (pg_tupK (K := K) rfl rfl (pgs_cons (pg_name (i := 4) nd rfl (Or.inl rfl)) (pgs_cons (pg_name (i := 5) nd rfl (Or.inl rfl)) (pgs_cons (pg_name (i := 6) nd rfl (Or.inl rfl)) pgs_nil))))) (@pss_cons _ _ _ _ _ (@ps_set _ _ 7 _ _ _ _ nd rfl (Or.inl rfl) (@pe_ix _ _ _ _ _ _ _ (ix_sqK (K := K) rfl) (pv 4) (@pe_op _ _ _ _ _ _ _ _ op_mod (@pe_op _ _ _ _ _ _ _ _ op_fdiv (pv 2) pe_int) (pe_callB (call_lenK (K := K) rfl) rfl B.len bt_len (@pa_consN _ _ _ _ _ _ (pv 4) pa_nil))) (fun _ _ => rfl)) (by rfl) (by first | exact .inl rfl | exact .inr rfl | assumption)) (@pss_cons _ _ _ _ _ (@ps_set _ _ 8 _ _ _ _ nd rfl (Or.inl rfl) (@pe_lst _ _ _ _ (@pa_consL _ _ _ _ _ _ (@pe_lst _ _ _ _ (@pa_consT _ _ _ _ _ _ _ (@pe_tup _ _ _ _ _ (@pa_consN _ _ _ _ _ _ (pv 4) (@pa_consN _ _ _ _ _ _ (pv 5) (@pa_consB _ _ _ _ _ _ _ _ (@pe_op _ _ _ _ _ _ _ _ (op_addK (K := K) rfl) (pv 6) pe_int) pa_nil)))) pa_nil)) (@pa_consL _ _ _ _ _ _ (@pe_lst _ _ _ _ (@pa_consT _ _ _ _ _ _ _ (@pe_tup _ _ _ _ _ (@pa_consN _ _ _ _ _ _ (pv 4) (@pa_consN _ _ _ _ _ _ (pv 7) (@pa_consN _ _ _ _ _ _ (pv 6) pa_nil)))) pa_nil)) (@pa_consL _ _ _ _ _ _ (@pe_lst _ _ _ _ pa_nil) (@pa_consL _ _ _ _ _ _ (@pe_lst _ _ _ _ (@pa_consT _ _ _ _ _ _ _ (@pe_tup _ _ _ _ _ (@pa_consN _ _ _ _ _ _ (pv 4) (@pa_consN _ _ _ _ _ _ (pv 5) (@pa_consN _ _ _ _ _ _ (pv 6) pa_nil)))) (@pa_consT _ _ _ _ _ _ _ (@pe_tup _ _ _ _ _ (@pa_consN _ _ _ _ _ _ (pv 4) (@pa_consN _ _ _ _ _ _ (pv 1) (@pa_consN _ _ _ _ _ _ (pv 6) pa_nil)))) pa_nil))) pa_nil))))) (by rfl) (by first | exact .inl rfl | exact .inr rfl | assumption)) (@pss_cons _ _ _ _ _ (@ps_ret _ _ _ _ (pe_comp (N' := ["one", "floors", "at"]) (ix := [none, some 0, some 3]) rfl rfl rfl (pi_seqK (K := K) rfl (pv 8)) (fun _ _ _ => (pg_name (i := 0) (show (["one", "floors", "at"] : List Str).Nodup from by decide +kernel) rfl (Or.inl rfl))) (fun _ _ _ => .nil) (fun _ _ _ _ => (pb_emit rfl (@pe_op _ _ _ _ _ _ _ _ (op_addK (K := K) rfl) (@pe_op _ _ _ _ _ _ _ _ (op_addK (K := K) rfl) (pe_slice (sl_wK (K := K) rfl) (pv 1) po_none (po_some (pv 2))) (pv 0)) (pe_slice (sl_wK (K := K) rfl) (pv 1) (po_some (@pe_op _ _ _ _ _ _ _ _ (op_addK (K := K) rfl) (pv 2) pe_int)) po_none)) rfl)))) pss_nil)))))
theorem sc_law : FnScope ["script", "state", "cell", "many", "table", "everyone", "lengths", "due", "turn", "told", "mixed", "spoilt", "thing", "found"] ["script"] (defScope (top 30)) := ⟨rfl, rfl, rfl, by decide +kernel, rfl, by decide +kernel, by decide +kernel⟩
def T_law (K : PySem.W.Frag)  (sp__law_acell : Sp) (sp__law_along : Sp) (sp__law_arounds : Sp) (sp__law_ashown : Sp) (sp__law_aspoilt : Sp) (sp__law_atable : Sp) (sp__law_awhole : Sp) (sp_do_show : Sp) (sp_how_many : Sp) (sp_shortest : Sp) : TS := (tSeq (tAsg (tDisp [((tC (.str "script")), (tVar 0)), ((tC (.str "at")), (tC (.int 0)))]) (gName 1)) (tSeq (tAsg (tCall sp__law_acell [] E0 (tCons (tVar 1) tNil)) (gName 2)) (tSeq (tAsg (tOp (rAddA K) (tOp (rAddA K) (tC (.int 1)) (tOp yMod (tVar 2) (tC (.int 6)))) (tOp rMulA (tOp (rIx2 K) (tLst (tCons (tC (.int 0)) (tCons (tC (.int 1)) (tCons (tC (.int 0)) (tCons (tC (.int 2)) tNil))))) (tOp yMod (tOp yDiv (tVar 2) (tC (.int 12))) (tC (.int 4)))) (tCB rInt1 (tCons (tOp (rEqD K) (tOp yMod (tVar 2) (tC (.int 6))) (tC (.int 5))) tNil)))) (gName 3)) (tSeq (tAsg (tCall sp__law_atable [] E0 (tCons (tVar 1) (tCons (tVar 3) (tCons (tOp (rEqD K) (tOp yMod (tOp yDiv (tVar 2) (tC (.int 6))) (tC (.int 2))) (tC (.int 0))) tNil)))) (gName 4)) (tSeq (tAsg (tCall sp__law_arounds [] E0 (tCons (tVar 3) tNil)) (gName 5)) (tSeq (tAsg (tComp [none, some 4] (iSeq K (tVar 5)) (gName 0) [] fun acc => (tEmit (tCall sp__law_along [] E0 (tCons (tVar 1) (tCons (tVar 0) tNil))) acc)) (gName 6)) (tSeq (tAsg (tCB (rMinA K) (tCons (tVar 6) tNil)) (gName 7)) (tSeq (tFor (iRng1 (tCons (tC (.int 2)) tNil)) (gName 8) (tSeq (tAsg (tCall sp_shortest [] E0 (tCons (tVar 4) tNil)) (gName 9)) (tSeq (tIfS (tOr (tNot (tB (tCB (rIsi K) (tCons (tVar 9) (tCons (tC (.ty "tuple")) tNil))))) (tOr (tTest (tOp (rNeD K) (tCB (rLen K) (tCons (tVar 9) tNil)) (tC (.int 3)))) (tOr (tNot (tB (tCall sp__law_awhole [] E0 (tCons (tOp (rIx2 K) (tVar 9) (tC (.int 0))) tNil)))) (tTest (tOp (rNeD K) (tOp (rIx2 K) (tVar 9) (tC (.int 0))) (tVar 7)))))) (tSeq (tRet (tC (.bl false))) tNext) tNext) (tSeq (tIfS (tOr (tNot (tB (tCB (rIsi K) (tCons (tOp (rIx2 K) (tVar 9) (tC (.int 1))) (tCons (tC (.ty "tuple")) tNil))))) (tTest (tOp (rInD K true) (tOp (rIx2 K) (tVar 9) (tC (.int 1))) (tVar 5)))) (tSeq (tRet (tC (.bl false))) tNext) tNext) (tSeq (tIfS (tTest (tOp yGt (tCB (rLen K) (tCons (tComp [none] (iSeq K (tOp (rIx2 K) (tVar 9) (tC (.int 1)))) (gName 0) [(tNot (tB (tCall sp__law_awhole [] E0 (tCons (tVar 0) tNil))))] fun acc => (tEmit (tVar 0) acc)) tNil)) (tC (.int 0)))) (tSeq (tRet (tC (.bl false))) tNext) tNext) (tSeq (tIfS (tTest (tOp (rNeD K) (tCall sp__law_along [] E0 (tCons (tVar 4) (tCons (tOp (rIx2 K) (tVar 9) (tC (.int 1))) tNil))) (tVar 7))) (tSeq (tRet (tC (.bl false))) tNext) tNext) (tSeq (tIfS (tOr (tNot (tB (tCB (rIsi K) (tCons (tOp (rIx2 K) (tVar 9) (tC (.int 2))) (tCons (tC (.ty "list")) tNil))))) (tNot (tB (tCall sp__law_ashown [] E0 (tCons (tVar 4) (tCons (tOp (rIx2 K) (tVar 9) (tC (.int 2))) (tCons (tVar 7) tNil))))))) (tSeq (tRet (tC (.bl false))) tNext) tNext) (tSeq (tIfS (tOr (tTest (tOp rIsnotB (tCall sp_do_show [] E0 (tCons (tVar 4) (tCons (tOp (rIx2 K) (tVar 9) (tC (.int 2))) (tCons (tVar 7) tNil)))) (tC (.bl true)))) (tTest (tOp rIsnotB (tCall sp_do_show [] E0 (tCons (tVar 4) (tCons (tOp (rIx2 K) (tVar 9) (tC (.int 2))) (tCons (tOp (rAddA K) (tVar 7) (tC (.int 1))) tNil)))) (tC (.bl false))))) (tSeq (tRet (tC (.bl false))) tNext) tNext) (tSeq (tAsg (tOp yDiv (tOp yMod (tOp yPow (tOp (rAddA K) (tOp yMod (tVar 2) (tC (.int 1000003))) (tC (.int 1))) (tC (.int 5))) (tC (.int 2147483647))) (tC (.int 8))) (gName 10)) (tSeq (tAsg (tCall sp__law_aspoilt [] E0 (tCons (tOp (rIx2 K) (tVar 9) (tC (.int 2))) (tCons (tVar 3) (tCons (tVar 10) tNil)))) (gName 11)) (tSeq (tIfS (tTest (tOp yGt (tVar 3) (tC (.int 6)))) (tSeq (tAsg (tSl (rSlW K) (tVar 11) (tPart (tOp yMod (tVar 10) (tC (.int 4)))) (tPart (tOp (rAddA K) (tOp yMod (tVar 10) (tC (.int 4))) (tC (.int 1))))) (gName 11)) tNext) tNext) (tSeq (tFor (iSeq K (tOp rMulA (tVar 11) (tOp ySub (tC (.int 1)) (tVar 8)))) (gName 12) (tSeq (tIfS (tTest (tOp (rNeD K) (tCall sp_do_show [] E0 (tCons (tVar 4) (tCons (tCB (rList K) (tCons (tVar 12) tNil)) (tCons (tVar 7) tNil)))) (tCall sp__law_ashown [] E0 (tCons (tVar 4) (tCons (tVar 12) (tCons (tVar 7) tNil)))))) (tSeq (tRet (tC (.bl false))) tNext) tNext) tNext)) (tSeq (tDrop (tBM K "list" rAppend (tOp (rIx2 K) (tVar 9) (tC (.int 2))) (tCons (tC .non) tNil))) tNext))))))))))))) (tSeq (tAsg (tCall sp_how_many [] E0 (tCons (tVar 4) tNil)) (gName 13)) (tSeq (tRet (tAndV (tCall sp__law_awhole [] E0 (tCons (tVar 13) tNil)) (tOp (rEqD K) (tVar 13) (tCB (rLen K) (tCons (tComp [none, some 7] (iSeq K (tVar 6)) (gName 0) [(tTest (tOp (rEqD K) (tVar 0) (tVar 1)))] fun acc => (tEmit (tVar 0) acc)) tNil))))) tNext))))))))))
theorem ok_law (F : Fun K "law" "law" (top 30) f fd) (B : Blt4 mg)    {sp__law_acell : Sp} (D__law_acell : Def P w K mg base "_law_acell" 1 ["state"] sp__law_acell) {sp__law_along : Sp} (D__law_along : Def P w K mg base "_law_along" 1 ["table", "some"] sp__law_along) {sp__law_arounds : Sp} (D__law_arounds : Def P w K mg base "_law_arounds" 1 ["many"] sp__law_arounds) {sp__law_ashown : Sp} (D__law_ashown : Def P w K mg base "_law_ashown" 3 ["table", "floors", "number"] sp__law_ashown) {sp__law_aspoilt : Sp} (D__law_aspoilt : Def P w K mg base "_law_aspoilt" 1 ["floors", "many", "cell"] sp__law_aspoilt) {sp__law_atable : Sp} (D__law_atable : Def P w K mg base "_law_atable" 2 ["state", "many", "even"] sp__law_atable) {sp__law_awhole : Sp} (D__law_awhole : Def P w K mg base "_law_awhole" 1 ["thing"] sp__law_awhole) {sp_do_show : Sp} (D_do_show : Def P w K mg base "do_show" 5 ["table", "floors", "number"] sp_do_show) {sp_how_many : Sp} (D_how_many : Def P w K mg base "how_many" 4 ["table"] sp_how_many) {sp_shortest : Sp} (D_shortest : Def P w K mg base "shortest" 4 ["table"] sp_shortest)  {sp : Sp} (len : ∀ vs H Q E, sp vs H Q E → vs.length = 1)
    (rd : ∀ vs H Q E, sp vs H Q E → T_law K  sp__law_acell sp__law_along sp__law_arounds sp__law_ashown sp__law_aspoilt sp__law_atable sp__law_awhole sp_do_show sp_how_many sp_shortest { nx := fun _ H' => Q .non H', rt := Q } (start ["script", "state", "cell", "many", "table", "everyone", "lengths", "due", "turn", "told", "mixed", "spoilt", "thing", "found"] vs) H) : FnOk P w K mg base CX0 6 f fd ["script"] sp := by
  refine F.ok sc_law len (fun cdv A outer s H vs Q E hr h => ⟨_, ?_, rd vs H Q E h⟩)
  have nd := sc_law.nd
  exact (@pss_cons _ _ _ _ _ (@ps_set _ _ 1 _ _ _ _ nd rfl (Or.inl rfl) (pe_disp (pps_cons pe_str (pv 0) (pps_cons pe_str pe_int pps_nil)) rfl rfl (by intro h; cases h) (by decide)) (by rfl) (by first | exact .inl rfl | exact .inr rfl | assumption)) (@pss_cons _ _ _ _ _ (@ps_set _ _ 2 _ _ _ _ nd rfl (Or.inl rfl) (pe_def (D__law_acell.mono (by decide)) hr rfl (@pa_consN _ _ _ _ _ _ (pv 1) pa_nil)) (by rfl) (by first | exact .inl rfl | exact .inr rfl | assumption)) (@pss_cons _ _ _ _ _ (@ps_set _ _ 3 _ _ _ _ nd rfl (Or.inl rfl) (@pe_op _ _ _ _ _ _ _ _ (op_addK (K := K) rfl) (@pe_op _ _ _ _ _ _ _ _ (op_addK (K := K) rfl) pe_int (@pe_op _ _ _ _ _ _ _ _ op_mod (pv 2) pe_int)) (@pe_op _ _ _ _ _ _ _ _ op_mulA (@pe_ix _ _ _ _ _ _ _ (ix_sqK (K := K) rfl) (@pe_lst _ _ _ _ (@pa_consC _ _ _ _ _ _ _ pe_int (@pa_consC _ _ _ _ _ _ _ pe_int (@pa_consC _ _ _ _ _ _ _ pe_int (@pa_consC _ _ _ _ _ _ _ pe_int pa_nil))))) (@pe_op _ _ _ _ _ _ _ _ op_mod (@pe_op _ _ _ _ _ _ _ _ op_fdiv (pv 2) pe_int) pe_int) (fun _ _ => rfl)) (pe_callTy call_int1K rfl B.int bt_int (pa_cons (pe_cmpR (op_eqK (K := K) rfl hr) (@pe_op _ _ _ _ _ _ _ _ op_mod (pv 2) pe_int) pe_int (nomark _)) pa_nil)))) (by rfl) (by first | exact .inl rfl | exact .inr rfl | assumption)) (@pss_cons _ _ _ _ _ (@ps_set _ _ 4 _ _ _ _ nd rfl (Or.inr rfl) (pe_def (D__law_atable.mono (by decide)) hr rfl (@pa_consN _ _ _ _ _ _ (pv 1) (@pa_consN _ _ _ _ _ _ (pv 3) (pa_cons (pe_cmpR (op_eqK (K := K) rfl hr) (@pe_op _ _ _ _ _ _ _ _ op_mod (@pe_op _ _ _ _ _ _ _ _ op_fdiv (pv 2) pe_int) pe_int) pe_int (nomark _)) pa_nil)))) (by rfl) (by first | exact .inl rfl | exact .inr rfl | assumption)) (@pss_cons _ _ _ _ _ (@ps_set _ _ 5 _ _ _ _ nd rfl (Or.inl rfl) (pe_def (D__law_arounds.mono (by decide)) hr rfl (@pa_consN _ _ _ _ _ _ (pv 3) pa_nil)) (by rfl) (by first | exact .inl rfl | exact .inr rfl | assumption)) (@pss_cons _ _ _ _ _ (ps_setComp (i := 6) nd rfl (Or.inl rfl) (N' := ["some", "table"]) (ix := [none, some 4]) rfl rfl rfl (pi_seqK (K := K) rfl (pv 5)) (fun _ _ _ => (pg_name (i := 0) (show (["some", "table"] : List Str).Nodup from by decide +kernel) rfl (Or.inl rfl))) (fun _ _ _ => .nil) (fun _ _ _ _ => (pb_emit rfl (pe_def (D__law_along.mono (by decide)) hr rfl (@pa_consN _ _ _ _ _ _ (pv 1) (@pa_consN _ _ _ _ _ _ (pv 0) pa_nil))) rfl))) (@pss_cons _ _ _ _ _ (@ps_set _ _ 7 _ _ _ _ nd rfl (Or.inr rfl) (pe_callB (call_minAK (K := K) rfl hr rfl) rfl B.min bt_min (@pa_consN _ _ _ _ _ _ (pv 6) pa_nil)) (by rfl) (by first | exact .inl rfl | exact .inr rfl | assumption)) (@pss_cons _ _ _ _ _ (ps_for PassesOwn.never rfl (pi_range1 rfl B.range (@pa_consC _ _ _ _ _ _ _ pe_int pa_nil)) (pg_name (i := 8) nd rfl (Or.inl rfl)) (@pss_cons _ _ _ _ _ (@ps_set _ _ 9 _ _ _ _ nd rfl (Or.inl rfl) (pe_def (D_shortest.mono (by decide)) hr rfl (@pa_consN _ _ _ _ _ _ (pv 4) pa_nil)) (by rfl) (by first | exact .inl rfl | exact .inr rfl | assumption)) (@pss_cons _ _ _ _ _ (@ps_if _ _ _ _ _ _ _ _ (PW.pt (pw_or (pt_not (pt_val (pe_callB (call_isiK (K := K) rfl) rfl B.isi bt_isi (@pa_consN _ _ _ _ _ _ (pv 9) (@pa_consN _ _ _ _ _ _ (pe_bltn (v := .ty "tuple") rfl B.tuple bt_tuple rfl) pa_nil))))) (pw_or (pt_cmpR (op_neK (K := K) rfl hr) (pe_callB (call_lenK (K := K) rfl) rfl B.len bt_len (@pa_consN _ _ _ _ _ _ (pv 9) pa_nil)) pe_int (nomark _)) (pw_or (pt_not (pt_val (pe_def (D__law_awhole.mono (by decide)) hr rfl (@pa_consS _ _ _ _ _ _ _ (@pe_ix _ _ _ _ _ _ _ (ix_sqK (K := K) rfl) (pv 9) pe_int (fun _ _ => rfl)) pa_nil)))) (pw_or1 (pt_cmpR (op_neK (K := K) rfl hr) (@pe_ix _ _ _ _ _ _ _ (ix_sqK (K := K) rfl) (pv 9) pe_int (fun _ _ => rfl)) (pv 7) (nomark _))))))) (@pss_cons _ _ _ _ _ (@ps_ret _ _ _ _ pe_bl) pss_nil) pss_nil) (@pss_cons _ _ _ _ _ (@ps_if _ _ _ _ _ _ _ _ (PW.pt (pw_or (pt_not (pt_val (pe_callB (call_isiK (K := K) rfl) rfl B.isi bt_isi (@pa_consS _ _ _ _ _ _ _ (@pe_ix _ _ _ _ _ _ _ (ix_sqK (K := K) rfl) (pv 9) pe_int (fun _ _ => rfl)) (@pa_consN _ _ _ _ _ _ (pe_bltn (v := .ty "tuple") rfl B.tuple bt_tuple rfl) pa_nil))))) (pw_or1 (pt_cmpR (op_notInDK (K := K) rfl hr) (@pe_ix _ _ _ _ _ _ _ (ix_sqK (K := K) rfl) (pv 9) pe_int (fun _ _ => rfl)) (pv 5) rfl)))) (@pss_cons _ _ _ _ _ (@ps_ret _ _ _ _ pe_bl) pss_nil) pss_nil) (@pss_cons _ _ _ _ _ (@ps_if _ _ _ _ _ _ _ _ (pt_cmpR op_gt (pe_callB (call_lenK (K := K) rfl) rfl B.len bt_len (pa_cons (pe_comp (N' := ["one"]) (ix := [none]) rfl rfl rfl (pi_seqK (K := K) rfl (@pe_ix _ _ _ _ _ _ _ (ix_sqK (K := K) rfl) (pv 9) pe_int (fun _ _ => rfl))) (fun _ _ _ => (pg_name (i := 0) (show (["one"] : List Str).Nodup from by decide +kernel) rfl (Or.inl rfl))) (fun _ _ _ => (.cons (pt_not (pt_val (pe_def (D__law_awhole.mono (by decide)) hr rfl (@pa_consN _ _ _ _ _ _ (pv 0) pa_nil)))) .nil)) (fun _ _ _ _ => (pb_emit rfl (pv 0) rfl))) pa_nil)) pe_int (nomark _)) (@pss_cons _ _ _ _ _ (@ps_ret _ _ _ _ pe_bl) pss_nil) pss_nil) (@pss_cons _ _ _ _ _ (@ps_if _ _ _ _ _ _ _ _ (pt_cmpR (op_neK (K := K) rfl hr) (pe_def (D__law_along.mono (by decide)) hr rfl (@pa_consN _ _ _ _ _ _ (pv 4) (@pa_consS _ _ _ _ _ _ _ (@pe_ix _ _ _ _ _ _ _ (ix_sqK (K := K) rfl) (pv 9) pe_int (fun _ _ => rfl)) pa_nil))) (pv 7) (nomark _)) (@pss_cons _ _ _ _ _ (@ps_ret _ _ _ _ pe_bl) pss_nil) pss_nil) (@pss_cons _ _ _ _ _ (@ps_if _ _ _ _ _ _ _ _ (PW.pt (pw_or (pt_not (pt_val (pe_callB (call_isiK (K := K) rfl) rfl B.isi bt_isi (@pa_consS _ _ _ _ _ _ _ (@pe_ix _ _ _ _ _ _ _ (ix_sqK (K := K) rfl) (pv 9) pe_int (fun _ _ => rfl)) (@pa_consN _ _ _ _ _ _ (pe_bltn (v := .ty "list") rfl B.list bt_list rfl) pa_nil))))) (pw_or1 (pt_not (pt_val (pe_def (D__law_ashown.mono (by decide)) hr rfl (@pa_consN _ _ _ _ _ _ (pv 4) (@pa_consS _ _ _ _ _ _ _ (@pe_ix _ _ _ _ _ _ _ (ix_sqK (K := K) rfl) (pv 9) pe_int (fun _ _ => rfl)) (@pa_consN _ _ _ _ _ _ (pv 7) pa_nil))))))))) (@pss_cons _ _ _ _ _ (@ps_ret _ _ _ _ pe_bl) pss_nil) pss_nil) (@pss_cons _ _ _ _ _ (@ps_if _ _ _ _ _ _ _ _ (PW.pt (pw_or (pt_cmpR op_isnotB (pe_def (D_do_show.mono (by decide)) hr rfl (@pa_consN _ _ _ _ _ _ (pv 4) (@pa_consS _ _ _ _ _ _ _ (@pe_ix _ _ _ _ _ _ _ (ix_sqK (K := K) rfl) (pv 9) pe_int (fun _ _ => rfl)) (@pa_consN _ _ _ _ _ _ (pv 7) pa_nil)))) pe_bl (nomark _)) (pw_or1 (pt_cmpR op_isnotB (pe_def (D_do_show.mono (by decide)) hr rfl (@pa_consN _ _ _ _ _ _ (pv 4) (@pa_consS _ _ _ _ _ _ _ (@pe_ix _ _ _ _ _ _ _ (ix_sqK (K := K) rfl) (pv 9) pe_int (fun _ _ => rfl)) (@pa_consB _ _ _ _ _ _ _ _ (@pe_op _ _ _ _ _ _ _ _ (op_addK (K := K) rfl) (pv 7) pe_int) pa_nil)))) pe_bl (nomark _))))) (@pss_cons _ _ _ _ _ (@ps_ret _ _ _ _ pe_bl) pss_nil) pss_nil) (@pss_cons _ _ _ _ _ (@ps_set _ _ 10 _ _ _ _ nd rfl (Or.inl rfl) (@pe_op _ _ _ _ _ _ _ _ op_fdiv (@pe_op _ _ _ _ _ _ _ _ op_mod (@pe_op _ _ _ _ _ _ _ _ op_pow (@pe_op _ _ _ _ _ _ _ _ (op_addK (K := K) rfl) (@pe_op _ _ _ _ _ _ _ _ op_mod (pv 2) pe_int) pe_int) pe_int) pe_int) pe_int) (by rfl) (by first | exact .inl rfl | exact .inr rfl | assumption)) (@pss_cons _ _ _ _ _ (@ps_set _ _ 11 _ _ _ _ nd rfl (Or.inl rfl) (pe_def (D__law_aspoilt.mono (by decide)) hr rfl (@pa_consS _ _ _ _ _ _ _ (@pe_ix _ _ _ _ _ _ _ (ix_sqK (K := K) rfl) (pv 9) pe_int (fun _ _ => rfl)) (@pa_consN _ _ _ _ _ _ (pv 3) (@pa_consN _ _ _ _ _ _ (pv 10) pa_nil)))) (by rfl) (by first | exact .inl rfl | exact .inr rfl | assumption)) (@pss_cons _ _ _ _ _ (@ps_if _ _ _ _ _ _ _ _ (pt_cmpR op_gt (pv 3) pe_int (nomark _)) (@pss_cons _ _ _ _ _ (@ps_set _ _ 11 _ _ _ _ nd rfl (Or.inl rfl) (pe_slice (sl_wK (K := K) rfl) (pv 11) (po_some (@pe_op _ _ _ _ _ _ _ _ op_mod (pv 10) pe_int)) (po_some (@pe_op _ _ _ _ _ _ _ _ (op_addK (K := K) rfl) (@pe_op _ _ _ _ _ _ _ _ op_mod (pv 10) pe_int) pe_int))) (by rfl) (by first | exact .inl rfl | exact .inr rfl | assumption)) pss_nil) pss_nil) (@pss_cons _ _ _ _ _ (ps_for PassesOwn.never rfl (pi_seqK (K := K) rfl (@pe_op _ _ _ _ _ _ _ _ op_mulA (pv 11) (@pe_op _ _ _ _ _ _ _ _ op_sub pe_int (pv 8)))) (pg_name (i := 12) nd rfl (Or.inl rfl)) (@pss_cons _ _ _ _ _ (@ps_if _ _ _ _ _ _ _ _ (pt_cmpR (op_neK (K := K) rfl hr) (pe_def (D_do_show.mono (by decide)) hr rfl (@pa_consN _ _ _ _ _ _ (pv 4) (@pa_consK _ _ _ _ _ _ _ _ (pe_callTy (call_listK (K := K) rfl rfl) rfl B.list bt_list (@pa_consN _ _ _ _ _ _ (pv 12) pa_nil)) (@pa_consN _ _ _ _ _ _ (pv 7) pa_nil)))) (pe_def (D__law_ashown.mono (by decide)) hr rfl (@pa_consN _ _ _ _ _ _ (pv 4) (@pa_consN _ _ _ _ _ _ (pv 12) (@pa_consN _ _ _ _ _ _ (pv 7) pa_nil)))) (nomark _)) (@pss_cons _ _ _ _ _ (@ps_ret _ _ _ _ pe_bl) pss_nil) pss_nil) pss_nil)) (@pss_cons _ _ _ _ _ (ps_expr (pe_bmK (K := K) rfl PySem.F.plainAttrs_list PySem.F.slot_list_append PySem.F.type_list_append mt_append (@pe_ix _ _ _ _ _ _ _ (ix_sqK (K := K) rfl) (pv 9) pe_int (fun _ _ => rfl)) (@pa_consC _ _ _ _ _ _ _ pe_non pa_nil))) pss_nil))))))))))))) (@pss_cons _ _ _ _ _ (@ps_set _ _ 13 _ _ _ _ nd rfl (Or.inl rfl) (pe_def (D_how_many.mono (by decide)) hr rfl (@pa_consN _ _ _ _ _ _ (pv 4) pa_nil)) (by rfl) (by first | exact .inl rfl | exact .inr rfl | assumption)) (@pss_cons _ _ _ _ _ (@ps_ret _ _ _ _ (pe_and (pe_def (D__law_awhole.mono (by decide)) hr rfl (@pa_consN _ _ _ _ _ _ (pv 13) pa_nil)) (pe_one (pe_cmpR (op_eqK (K := K) rfl hr) (pv 13) (pe_callB (call_lenK (K := K) rfl) rfl B.len bt_len (pa_cons (pe_comp (N' := ["one", "due"]) (ix := [none, some 7]) rfl rfl rfl (pi_seqK (K := K) rfl (pv 6)) (fun _ _ _ => (pg_name (i := 0) (show (["one", "due"] : List Str).Nodup from by decide +kernel) rfl (Or.inl rfl))) (fun _ _ _ => (.cons (pt_cmpR (op_eqK (K := K) rfl hr) (pv 0) (pv 1) (nomark _)) .nil)) (fun _ _ _ _ => (pb_emit rfl (pv 0) rfl))) pa_nil)) (nomark _))))) pss_nil))))))))))
end
end K06
namespace K06.S
open PySem L2
def ins (p : Nat) : List Nat → List Nat
  | [] => [p]
  | a :: l => if p < a then p :: a :: l else a :: ins p l
theorem ins_perm {p : Nat} : ∀ {l : List Nat}, (ins p l).Perm (l ++ [p])
  | [] => .refl _
  | a :: l => by
    unfold ins
    split
    · exact (List.perm_append_comm (l₁ := [p]) (l₂ := a :: l))
    · exact (ins_perm (l := l)).cons a
theorem mem_ins {p x : Nat} {l : List Nat} : x ∈ ins p l ↔ x = p ∨ x ∈ l := by
  rw [ins_perm.mem_iff, List.mem_append, List.mem_singleton]; exact Or.comm
theorem ins_len {p : Nat} {l : List Nat} : (ins p l).length = l.length + 1 := by rw [ins_perm.length_eq, List.length_append]; rfl
theorem ins_up {p : Nat} : ∀ {l : List Nat}, l.Pairwise (· < ·) → p ∉ l → (ins p l).Pairwise (· < ·)
  | [], _, _ => List.pairwise_singleton ..
  | a :: l, h, hp => by
    unfold ins
    rw [List.pairwise_cons] at h
    split
    · rename_i c
      exact List.pairwise_cons.mpr ⟨fun b hb => by
        rcases List.mem_cons.mp hb with e | hb
        · omega
        · have := h.1 b hb; omega, List.pairwise_cons.mpr h⟩
    · rename_i c
      have : a ≠ p := fun e => hp (by rw [e]; exact List.mem_cons_self ..)
      refine List.pairwise_cons.mpr ⟨fun b hb => ?_, ins_up h.2 fun q => hp (List.mem_cons_of_mem _ q)⟩
      rcases mem_ins.mp hb with e | hb
      · omega
      · exact h.1 b hb
def parts : Nat → List (List Nat)
  | 0 => [[0]]
  | k + 1 => parts k ++ (parts k).map (· ++ [k + 1])
def left (n : Nat) (s : List Nat) : List Nat := (List.range n).filter fun p => !s.contains p
theorem mem_left {n p : Nat} {s : List Nat} : p ∈ left n s ↔ p < n ∧ p ∉ s := by
  unfold left
  rw [List.mem_filter, List.mem_range]
  simp
def lasts (s : List Nat) : List Nat := if s.tail.isEmpty = true then s else s.tail
def upB : List Nat → Bool
  | [] => true
  | [_] => true
  | a :: b :: l => decide (a < b) && upB (b :: l)
theorem up_of : ∀ {l : List Nat}, upB l = true → l.Pairwise (· < ·)
  | [], _ => .nil
  | [_], _ => List.pairwise_singleton ..
  | a :: b :: l, h => by
    unfold upB at h
    rw [Bool.and_eq_true] at h
    have ih := up_of h.2
    refine List.pairwise_cons.mpr ⟨fun c hc => ?_, ih⟩
    have h1 := of_decide_eq_true h.1
    rcases List.mem_cons.mp hc with e | hc
    · omega
    · have := (List.pairwise_cons.mp ih).1 c hc; omega
def one (n : Nat) (s : List Nat) (rest : List (List Nat)) : Bool :=
  upB s && (s.head? == some 0) && s.all (fun p => decide (p < n)) && (List.range n).all (fun p => s.contains p || rest.contains (ins p s)) && ((s.length == n) == (left n s).isEmpty) && decide (s.length ≤ n) && !rest.contains s
def chk (n : Nat) : List (List Nat) → Bool
  | [] => true
  | s :: rest => one n s rest && chk n rest
theorem chk_ok : ∀ k, k < 8 → chk (k + 1) (parts k) = true := by decide +kernel
theorem chk_at {n : Nat} : ∀ {P : List (List Nat)} {j : Nat} {s : List Nat}, chk n P = true → P[j]? = some s → one n s (P.drop (j + 1)) = true
  | [], _, _, _, h => by cases h
  | q :: P, 0, s, c, h => by
    unfold chk at c
    rw [Bool.and_eq_true] at c
    obtain rfl : q = s := by simpa using h
    simpa using c.1
  | q :: P, j + 1, s, c, h => by
    unfold chk at c
    rw [Bool.and_eq_true] at c
    simpa using chk_at (j := j) c.2 (by simpa using h)
structure PartOk (n : Nat) (s : List Nat) (rest : List (List Nat)) : Prop where
  up : s.Pairwise (· < ·)
  zero : ∃ r, s = 0 :: r
  lt : ∀ p ∈ s, p < n
  next : ∀ p, p < n → p ∉ s → ins p s ∈ rest
  full : s.length = n ↔ left n s = []
  le : s.length ≤ n
  new : s ∉ rest
theorem one_ok {n : Nat} {s : List Nat} {rest : List (List Nat)} (h : one n s rest = true) : PartOk n s rest := by
  unfold one at h
  simp only [Bool.and_eq_true, Bool.not_eq_true', List.all_eq_true, decide_eq_true_eq, beq_iff_eq, Bool.or_eq_true, List.mem_range, List.contains_eq_mem] at h
  obtain ⟨⟨⟨⟨⟨⟨h1, h2⟩, h3⟩, h4⟩, h5⟩, h6⟩, h7⟩ := h
  refine ⟨up_of h1, ?_, h3, fun p hp hs => (h4 p hp).resolve_left hs, ?_, h6, of_decide_eq_false h7⟩
  · cases s with
    | nil => simp at h2
    | cons a r => exact ⟨r, by simpa using h2⟩
  · rw [← List.isEmpty_iff, ← h5]
    simp
theorem part_at {n j : Nat} {s : List Nat} (h1 : 1 ≤ n) (h8 : n ≤ 8) (h : (parts (n - 1))[j]? = some s) : PartOk n s ((parts (n - 1)).drop (j + 1)) := by
  have c := chk_ok (n - 1) (by omega)
  rw [show n - 1 + 1 = n by omega] at c
  exact one_ok (chk_at c h)
theorem lasts_of {n : Nat} {s : List Nat} {rest : List (List Nat)} (ok : PartOk n s rest) : (lasts s).Nodup ∧ (∀ l ∈ lasts s, l ∈ s) ∧ ((∃ r, s = 0 :: r) → (s = [0] ∧ lasts s = [0]) ∨ (∀ l, l ∈ lasts s ↔ l ∈ s ∧ l ≠ 0)) := by
  obtain ⟨r, rfl⟩ := ok.zero
  have nd : (0 :: r).Nodup := ok.up.imp (fun h => Nat.ne_of_lt h)
  unfold lasts
  cases r with
  | nil => exact ⟨by simp, by simp, fun _ => .inl ⟨rfl, by simp⟩⟩
  | cons a r =>
    have e : (0 :: a :: r).tail.isEmpty = false := rfl
    rw [e]
    simp only [Bool.false_eq_true, if_false, List.tail_cons]
    refine ⟨(List.nodup_cons.mp nd).2, fun l hl => List.mem_cons_of_mem _ hl, fun _ => .inr fun l => ⟨fun h => ⟨List.mem_cons_of_mem _ h, fun e => ?_⟩, fun h => ?_⟩⟩
    · subst e; exact (List.nodup_cons.mp nd).1 h
    · rcases List.mem_cons.mp h.1 with e | h'
      · exact absurd e h.2
      · exact h'
abbrev Ky := List Nat × Nat
def keysOf (s : List Nat) : List Ky := (lasts s).map fun l => (s, l)
def keysR (P : List (List Nat)) : List Ky := P.reverse.flatMap keysOf
def keys (n : Nat) : List Ky := keysR (parts (n - 1))
theorem mem_keysR {P : List (List Nat)} {k : Ky} : k ∈ keysR P ↔ k.1 ∈ P ∧ k.2 ∈ lasts k.1 := by
  unfold keysR keysOf
  rw [List.mem_flatMap]
  constructor
  · rintro ⟨s, hs, h⟩
    obtain ⟨l, hl, rfl⟩ := List.mem_map.mp h
    exact ⟨List.mem_reverse.mp hs, hl⟩
  · rintro ⟨h1, h2⟩
    exact ⟨k.1, List.mem_reverse.mpr h1, List.mem_map.mpr ⟨k.2, h2, rfl⟩⟩
theorem keysR_cons {s : List Nat} {P : List (List Nat)} : keysR (s :: P) = keysR P ++ keysOf s := by
  unfold keysR; rw [List.reverse_cons, List.flatMap_append]; simp
theorem next_key {n : Nat} {s : List Nat} {rest : List (List Nat)} {p : Nat} (h1 : 1 ≤ n) (h8 : n ≤ 8) (ok : PartOk n s rest) (hr : ∀ q ∈ rest, q ∈ parts (n - 1)) (hp : p ∈ left n s) : (ins p s, p) ∈ keysR rest := by
  obtain ⟨hn, hs⟩ := mem_left.mp hp
  refine mem_keysR.mpr ⟨ok.next p hn hs, ?_⟩
  obtain ⟨j, hj⟩ := List.mem_iff_getElem?.mp (hr _ (ok.next p hn hs))
  have ok' := part_at h1 h8 hj
  obtain ⟨r, hr0⟩ := ok.zero
  have p0 : p ≠ 0 := fun e => hs (by rw [e, hr0]; exact List.mem_cons_self ..)
  rcases (lasts_of ok').2.2 ok'.zero with ⟨e, _⟩ | h
  · have : p ∈ [0] := by rw [← e]; exact mem_ins.mpr (.inl rfl)
    exact absurd (List.mem_singleton.mp this) p0
  · exact (h p).mpr ⟨mem_ins.mpr (.inl rfl), p0⟩
def minL : List Int → Int
  | [] => 0
  | a :: l => l.foldl min a
theorem minL_spec : ∀ {l : List Int} {a : Int}, (l.foldl min a) ∈ a :: l ∧ ∀ x ∈ a :: l, l.foldl min a ≤ x
  | [], a => ⟨List.mem_cons_self .., fun x hx => by rw [List.mem_singleton.mp hx]; exact Int.le_refl _⟩
  | b :: l, a => by
    obtain ⟨h1, h2⟩ := minL_spec (l := l) (a := min a b)
    rw [List.foldl_cons]
    refine ⟨?_, fun x hx => ?_⟩
    · rcases List.mem_cons.mp h1 with e | h
      · rw [e]
        by_cases c : a ≤ b
        · rw [Int.min_eq_left c]; exact List.mem_cons_self ..
        · rw [Int.min_eq_right (by omega)]; exact List.mem_cons_of_mem _ (List.mem_cons_self ..)
      · exact List.mem_cons_of_mem _ (List.mem_cons_of_mem _ h)
    · have h0 := h2 (min a b) (List.mem_cons_self ..)
      have m1 : min a b ≤ a := Int.min_le_left a b
      have m2 : min a b ≤ b := Int.min_le_right a b
      rcases List.mem_cons.mp hx with e | hx
      · omega
      · rcases List.mem_cons.mp hx with e | hx
        · omega
        · exact h2 x (List.mem_cons_of_mem _ hx)
theorem minL_mem {l : List Int} (h : l ≠ []) : minL l ∈ l := by
  cases l with
  | nil => exact absurd rfl h
  | cons a l => exact minL_spec.1
theorem minL_le {l : List Int} {x : Int} (h : x ∈ l) : minL l ≤ x := by
  cases l with
  | nil => cases h
  | cons a l => exact minL_spec.2 x h
theorem minL_eq {l : List Int} {x : Int} (h : x ∈ l) (hx : ∀ y ∈ l, x ≤ y) : minL l = x := Int.le_antisymm (minL_le h) (hx _ (minL_mem (List.ne_nil_of_mem h)))
def R (t : Nat → Nat → Int) (n : Nat) : Nat → List Nat → Nat → Int
  | 0, _, l => t l 0
  | m + 1, s, l => minL ((left n s).map fun p => t l p + R t n m (ins p s) p)
def rest (t : Nat → Nat → Int) (n : Nat) (k : Ky) : Int := R t n (n - k.1.length) k.1 k.2
def C (t : Nat → Nat → Int) (n : Nat) : Nat → List Nat → Nat → Int
  | 0, _, _ => 1
  | m + 1, s, l => (((left n s).filter fun p => decide (t l p + R t n m (ins p s) p = R t n (m + 1) s l)).map fun p => C t n m (ins p s) p).sum
def count (t : Nat → Nat → Int) (n : Nat) (k : Ky) : Int := C t n (n - k.1.length) k.1 k.2
section
variable {t : Nat → Nat → Int} {n : Nat}
theorem rest_full {s : List Nat} {l : Nat} (h : s.length = n) : rest t n (s, l) = t l 0 := by
  unfold rest; rw [show n - s.length = 0 by omega]; rfl
theorem rest_step {s : List Nat} {l : Nat} (h : s.length < n) : rest t n (s, l) = minL ((left n s).map fun p => t l p + rest t n (ins p s, p)) := by
  unfold rest
  obtain ⟨m, hm⟩ : ∃ m, n - s.length = m + 1 := ⟨n - s.length - 1, by omega⟩
  show R t n (n - s.length) s l = _
  rw [hm]
  show minL _ = _
  congr 1
  apply List.map_congr_left
  intro p _
  show _ = t l p + R t n (n - (ins p s).length) (ins p s) p
  rw [ins_len, show n - (s.length + 1) = m by omega]
theorem count_full {s : List Nat} {l : Nat} (h : s.length = n) : count t n (s, l) = 1 := by
  unfold count; rw [show n - s.length = 0 by omega]; rfl
theorem count_step {s : List Nat} {l : Nat} (h : s.length < n) : count t n (s, l) = (((left n s).filter fun p => decide (t l p + rest t n (ins p s, p) = rest t n (s, l))).map fun p => count t n (ins p s, p)).sum := by
  unfold count rest
  obtain ⟨m, hm⟩ : ∃ m, n - s.length = m + 1 := ⟨n - s.length - 1, by omega⟩
  show C t n (n - s.length) s l = _
  simp only [ins_len]
  rw [hm, show n - (s.length + 1) = m by omega]
  rfl
end
end K06.S
namespace K06.S
open PySem L2
theorem sum_filter {α : Type} {c : α → Bool} {g : α → Int} : ∀ {l : List α}, ((l.filter c).map g).sum = (l.map fun x => if c x = true then g x else 0).sum
  | [] => rfl
  | a :: l => by
    rw [List.map_cons, List.sum_cons, ← sum_filter (l := l), List.filter_cons]
    cases h : c a <;> simp
theorem sum_cong {α : Type} {f g : α → Int} {l : List α} (h : ∀ x ∈ l, f x = g x) : (l.map f).sum = (l.map g).sum := by rw [List.map_congr_left h]
theorem sum_zero {α : Type} {l : List α} : (l.map fun _ => (0 : Int)).sum = 0 := by
  induction l with
  | nil => rfl
  | cons a l ih => rw [List.map_cons, List.sum_cons, ih]; rfl
theorem sum_if {α : Type} {P : Prop} [Decidable P] {g : α → Int} {l : List α} : (if P then (l.map g).sum else 0) = (l.map fun x => if P then g x else 0).sum := by
  by_cases h : P
  · simp only [if_pos h]
  · simp only [if_neg h]; rw [sum_zero]
section
variable {t t' : Nat → Nat → Int} {n : Nat}
end
end K06.S
namespace K06.S
open PySem L2
abbrev ic (s : List Nat) : List Int := s.map fun p : Nat => (p : Int)
theorem ic_app {s : List Nat} {p : Nat} : ic s ++ [(p : Int)] = ic (s ++ [p]) := by unfold ic; rw [List.map_append]; rfl
def kc (k : Ky) : PKy := (ic k.1, (k.2 : Int))
theorem ic_inj {a b : List Nat} (h : ic a = ic b) : a = b := List.map_inj_right (fun x y e => by exact Int.ofNat.inj e) |>.mp h
theorem kc_inj {a b : Ky} (h : kc a = kc b) : a = b := by
  unfold kc at h
  injection h with h1 h2
  exact Prod.ext (ic_inj h1) (by omega)
section
variable {K : PySem.W.Frag} {vars : List Nat} {tb : TS} {acc : Addr} {σ : St} {H : Hp}
theorem emr_tupS {ta : TA} {r : List Int} (hr : r.length ≤ 100) (h : ∀ Q : List V → Hp → Prop, (∀ H', Same H H' → Q (r.map V.int) H') → ta σ H Q) : EmR K vars (tEmit (tTup ta) acc) acc σ H [r] := by
  intro D pre R ha hR hz hd
  refine h _ fun H1 s1 => ⟨by rw [List.length_map]; exact Nat.le_trans hr (by decide), fun t ht => ?_⟩
  have st := same_new ht (.tup (r.map V.int))
  have ha' := st _ _ (s1 _ _ ha)
  refine ⟨pre, ha', Nat.lt_of_le_of_lt (show pre.length ≤ 100000 by rw [hR.1]; omega) (by decide), ?_⟩
  exact hd σ _ _ rfl (Agree.refl _ _) ((s1.trans st).x.trans (SameX.put _)) upd_same (Rows.snoc (Rows.put (hR.same (s1.trans st)) ha') (sqT_put (.of upd_same) ha'))
theorem emr_list {a : Addr} {xs : List V} {j : Nat} {L : Nat → List (List Int)} (hj : j ∈ vars) (hjl : j < σ.length) (hs : ∀ H', SameX acc H H' → SqL K H' a xs)
    (h : ∀ i x σ' H', xs[i]? = some x → σ'.length = σ.length → Agree vars σ σ' → σ'[j]? = some (some x) → SameX acc H H' → EmR K vars tb acc σ' H' (L i)) :
    EmR K vars (tLoop (Itl K a) (gName j) tb) acc σ H ((List.range xs.length).flatMap L) := by
  intro D pre R ha hR hz hd
  refine for_list (K := K) (a := a) (xs := xs) (g := gName j) (D := D) (fun i σ' H' => i ≤ xs.length ∧ σ'.length = σ.length ∧ Agree vars σ σ' ∧ SameX acc H H' ∧ ∃ pre', H' acc = some (.lst pre') ∧ Rows K H' pre' (R ++ (List.range i).flatMap L)) ⟨Nat.zero_le _, rfl, Agree.refl _ _, SameX.refl _ _, pre, ha, by simpa using hR⟩ (fun i σ1 H1 _ ⟨_, _, _, sx, _⟩ => hs H1 sx) (fun i x σ1 H1 hx ⟨_, hl1, ag1, sx1, pre1, h1, r1⟩ => ?_) fun σ1 H1 ⟨_, hl1, ag1, sx1, pre1, h1, r1⟩ => hd σ1 H1 pre1 hl1 ag1 sx1 h1 r1
  have hi : i < xs.length := (List.getElem?_eq_some_iff.mp hx).1
  have hle := flatMap_range_le L (show i + 1 ≤ xs.length from hi)
  rw [flatMap_range_succ, List.length_append] at hle
  refine h i x (σ1.set j (some x)) H1 hx (by rw [List.length_set]; exact hl1) (ag1.trans (Agree.set hj _)) (set_at (by omega)) sx1 _ pre1 _ h1 r1 (by rw [List.length_append]; omega) fun σ' H' pre' hl ag sx h2 r2 => ⟨hi, hl.trans ((List.length_set ..).trans hl1), (ag1.trans (Agree.set hj _)).trans ag, sx1.trans sx, pre', h2, by rw [flatMap_range_succ, ← List.append_assoc]; exact r2⟩
end
theorem flat_if {α : Type} (c : Nat → Bool) (g : Nat → α) (n : Nat) : ((List.range n).flatMap fun i => if c i = true then [g i] else []) = ((List.range n).filter c).map g := by
  induction n with
  | zero => rfl
  | succ n ih =>
    rw [flatMap_range_succ, List.range_succ, List.filter_append, List.map_append, ih]
    congr 1
    cases h : c n <;> simp [List.filter, h]
theorem flat_one {α β : Type} (l : List α) (g : α → β) (L : Nat → List β) (h : ∀ i x, l[i]? = some x → L i = [g x]) : (List.range l.length).flatMap L = l.map g := by
  have key : ∀ k, k ≤ l.length → (List.range k).flatMap L = (l.take k).map g := fun k => by
    induction k with
    | zero => intro _; rfl
    | succ k ih =>
      intro hk
      have e : l[k]? = some l[k] := List.getElem?_eq_getElem (by omega)
      rw [flatMap_range_succ, ih (by omega), h k _ e, List.take_add_one, e, List.map_append]
      rfl
  rw [key _ (Nat.le_refl _), List.take_length]
theorem inV_ic {p : Nat} : ∀ {s : List Nat}, inV (.int (p : Int)) ((ic s).map V.int) = s.contains p
  | [] => rfl
  | a :: s => by
    show (eqV (.int (a : Int)) (.int (p : Int)) || inV (.int (p : Int)) ((ic s).map V.int)) = _
    rw [inV_ic, List.contains_cons]
    congr 1
    show (decide ((a : Int) = (p : Int)) : Bool) = (p == a)
    by_cases h : a = p
    · subst h; simp
    · rw [decide_eq_false (by omega), beq_eq_false_iff_ne.mpr (Ne.symm h)]
theorem flat_ic {s : List Nat} : ((ic s).map V.int).all flatV = true := by
  rw [List.all_eq_true]
  intro x hx
  obtain ⟨n, _, rfl⟩ := List.mem_map.mp hx
  rfl
section
variable {K : PySem.W.Frag}
def spJoin (K : PySem.W.Frag) : Sp := fun vs H Q _ => ∃ (a : Addr) (s : List Nat) (p : Nat), vs = [.ref a, .int (p : Int)] ∧ SqT K H a ((ic s).map V.int) ∧ s.Pairwise (· < ·) ∧ p ∉ s ∧ s ≠ [] ∧ s.length ≤ 20 ∧ ∀ b H', Same H H' → H' b = some (.tup ((ic (ins p s)).map V.int)) → Q (.ref b) H'
theorem up_ic {s : List Nat} (h : s.Pairwise (· < ·)) : (ic s).Pairwise (· ≤ ·) := List.pairwise_map.mpr (h.imp fun q => by omega)
theorem sort_ic {s : List Nat} {ms ns : List Int} (hp : ms.Perm ns) (hs : ms.Pairwise (· ≤ ·)) (hn : ns.Perm (ic s)) (h : s.Pairwise (· < ·)) : ms = ic s :=
  List.Perm.eq_of_pairwise (le := (· ≤ ·)) (fun a b _ _ h1 h2 => Int.le_antisymm h1 h2) hs (up_ic h) (hp.trans hn)
theorem rd_join : ∀ vs H Q E, spJoin K vs H Q E → T_joined K { nx := fun _ H' => Q .non H', rt := Q } (start ["some", "place"] vs) H := by
  intro vs H Q E h
  obtain ⟨a, s, p, rfl, ha, up, hp, hne, hl, q⟩ := h
  refine ⟨_, rfl, _, rfl, by show 1 ≤ sizeLine; decide, fun c hc => ?_⟩
  have s1 := same_new hc (.tup [V.int (p : Int)])
  have hz : ((ic s).map V.int).length = s.length := by rw [List.length_map, List.length_map]
  refine .inr ⟨a, c, _, _, rfl, rfl, s1.tup ha, .of upd_same, by rw [hz]; exact Nat.le_trans (show s.length + 1 ≤ 21 by omega) (by decide), fun r H2 _ hr s2 => ?_⟩
  have e : (ic s).map V.int ++ [V.int (p : Int)] = (ic s ++ [(p : Int)]).map V.int := by rw [List.map_append]; rfl
  rw [e] at hr
  refine ⟨r, _, rfl, .inr hr, by rw [ic_app, List.length_map, List.length_append]; show s.length + 1 < 64; omega, fun ms h1 h2 l hl => ?_⟩
  obtain rfl : ms = ic (ins p s) := sort_ic h1 h2 (by rw [ic_app]; exact (ins_perm.map _).symm) (ins_up up hp)
  refine ⟨l, _, rfl, .inl ⟨.of upd_same, fun b hb => ?_⟩⟩
  exact q b _ (s1.trans (s2.trans ((same_new hl _).trans (same_new hb _)))) upd_same
def spLeft (K : PySem.W.Frag) : Sp := fun vs H Q _ => ∃ (v : V) (T : List (List Int)) (n : Nat) (a : Addr) (s : List Nat), vs = [v, .ref a] ∧ Sh K H (tabD T) v ∧ Quad T n ∧ n ≤ 9 ∧ SqT K H a ((ic s).map V.int) ∧ ∀ l H', Same H H' → H' l = some (.lst ((ic (left n s)).map V.int)) → Q (.ref l) H'
theorem rd_left : ∀ vs H Q E, spLeft K vs H Q E → T_places_left K { nx := fun _ H' => Q .non H', rt := Q } (start ["table", "some"] vs) H := by
  intro vs H Q E h
  obtain ⟨v, T, n, a, s, rfl, hT, qT, h9, ha, q⟩ := h
  obtain ⟨ta, rs, rfl, hta, hrl, _⟩ := hT.tab
  have hrn : rs.length = n := by rw [hrl, qT.len]
  refine ⟨_, rfl, ta, rs, rfl, .inr hta, (n : Int), by rw [hrn], by omega, by omega, fun l hl => ?_⟩
  rw [Int.toNat_natCast]
  refine comp_emitsD [0] ((ic (left n s)).map V.int) hl ?_ (Emits.cast (loop_range (L := fun i => if (!s.contains i) = true then [natV i] else []) (by decide) (by show 0 < 2; decide) fun i σ1 H1 hi hl1 ag1 s1 sx1 _ => ?_) ?_) fun σ1 H1 sm h1 => q l H1 sm h1
  · rw [List.length_map, List.length_map]
    have := List.length_filter_le (fun p => !s.contains p) (List.range n)
    rw [List.length_range] at this
    unfold left
    omega
  · have s0 : σ1[0]? = some (some (.int (i : Int))) := by rw [s1]; simp
    have s2 : σ1[1]? = some (some (.ref a)) := (ag1 1 (by decide)).trans rfl
    have ha1 := (same_of_x hl sx1).tup ha
    refine emits_if (fun _ _ => trivial) (fun Q hq => ⟨_, s0, _, s2, a, _, rfl, .inr ha1, rfl, flat_ic, _, rfl, ?_⟩) fun hc H2 e2 => emits_one fun Q hq => ⟨_, s0, hq _ (Same.refl _)⟩
    show Q (!inV (.int (i : Int)) ((ic s).map V.int)) H1
    rw [inV_ic]
    exact hq _ (Same.refl _)
  · rw [flat_if]
    unfold left ic natV
    rw [List.map_map]; rfl
def DPk (H : Hp) (d : Addr) (xs : PEs) (ep : Nat) (ks : List Ky) (f : Ky → Int) : Prop := DP H d xs ep ∧ xs.map (fun x => (x.1, x.2.2)) = ks.map fun k => (kc k, V.int (f k))
theorem DP.same {H H' : Hp} {d : Addr} {xs : PEs} {ep : Nat} (h : DP H d xs ep) (s : Same H H') : DP H' d xs ep := ⟨s _ _ h.1, fun x hx => let ⟨b, e1, e2⟩ := h.2 x hx; ⟨b, s _ _ e1, s _ _ e2⟩⟩
theorem DPk.same {H H' : Hp} {d : Addr} {xs : PEs} {ep : Nat} {ks : List Ky} {f : Ky → Int} (h : DPk H d xs ep ks f) (s : Same H H') : DPk H' d xs ep ks f := ⟨DP.same h.1 s, h.2⟩
theorem val_ks {f : Ky → Int} {k : Ky} : ∀ {ks : List Ky} {xs : PEs}, xs.map (fun x => (x.1, x.2.2)) = ks.map (fun k => (kc k, V.int (f k))) → k ∈ ks → valP xs (kc k) = some (.int (f k))
  | [], _, _, h => by cases h
  | k' :: ks, [], e, _ => by cases e
  | k' :: ks, x :: xs, e, h => by
    rw [List.map_cons, List.map_cons] at e
    injection e with e1 e2
    injection e1 with e3 e4
    unfold valP
    rw [List.find?_cons]
    by_cases hk : k' = k
    · subst hk
      rw [decide_eq_true e3]
      show some x.2.2 = _
      rw [e4]
    · rw [decide_eq_false (fun z => hk (kc_inj (e3.symm.trans z)))]
      have := val_ks (k := k) e2 ((List.mem_cons.mp h).resolve_left (Ne.symm hk))
      unfold valP at this
      exact this
theorem val_no {f : Ky → Int} {k : Ky} : ∀ {ks : List Ky} {xs : PEs}, xs.map (fun x => (x.1, x.2.2)) = ks.map (fun k => (kc k, V.int (f k))) → k ∉ ks → valP xs (kc k) = none
  | [], [], _, h => rfl
  | [], _ :: _, e, _ => by cases e
  | k' :: ks, [], e, _ => by cases e
  | k' :: ks, x :: xs, e, h => by
    rw [List.map_cons, List.map_cons] at e
    injection e with e1 e2
    injection e1 with e3 e4
    unfold valP
    rw [List.find?_cons, decide_eq_false (fun z => h (by rw [kc_inj (e3.symm.trans z)]; exact List.mem_cons_self ..))]
    have := val_no (k := k) e2 fun z => h (List.mem_cons_of_mem _ z)
    unfold valP at this
    exact this
structure Tb (K : PySem.W.Frag) (H : Hp) (v : V) (T : List (List Int)) (n : Nat) : Prop where
  sh : Sh K H (tabD T) v
  quad : Quad T n
  one : 1 ≤ n
  most : n ≤ 8
theorem Tb.same {H H' : Hp} {v : V} {T : List (List Int)} {n : Nat} (h : Tb K H v T n) (s : Same H H') : Tb K H' v T n := ⟨h.sh.same s, h.quad, h.one, h.most⟩
def spOnw (K : PySem.W.Frag) : Sp := fun vs H Q _ => ∃ (v : V) (T : List (List Int)) (n : Nat) (d a : Addr) (xs : PEs) (ep : Nat) (ks : List Ky) (f : Ky → Int) (s : List Nat) (l : Nat), vs = [v, .ref d, .ref a, .int (l : Int)] ∧ Tb K H v T n ∧ DPk H d xs ep ks f ∧ SqT K H a ((ic s).map V.int) ∧ s.Pairwise (· < ·) ∧ s ≠ [] ∧ s.length ≤ 20 ∧ l < n ∧ (∀ p ∈ left n s, (ins p s, p) ∈ ks) ∧
  ∀ r pre H', Same H H' → H' r = some (.lst pre) → Rows K H' pre ((left n s).map fun p => [at2 T l p + f (ins p s, p), (p : Int)]) → Q (.ref r) H'
theorem rd_onw : ∀ vs H Q E, spOnw K vs H Q E → T_onward K (spJoin K) (spLeft K) { nx := fun _ H' => Q .non H', rt := Q } (start ["table", "rests", "some", "last"] vs) H := by
  intro vs H Q E h
  obtain ⟨v, T, n, d, a, xs, ep, ks, f, s, l, rfl, tb, dp, ha, up, hne, h20, hl, hks, q⟩ := h
  refine ⟨_, rfl, _, rfl, v, T, n, a, s, rfl, tb.sh, tb.quad, by have := tb.most; omega, ha, fun c H1 s1 hc => ⟨c, rfl, .inl ⟨⟨_, .of hc⟩, fun r hr => ?_⟩⟩⟩
  have lz : ((ic (left n s)).map V.int).length = (left n s).length := by rw [List.length_map, List.length_map]
  have ll : (left n s).length ≤ 8 := by
    have := List.length_filter_le (fun p => !s.contains p) (List.range n)
    rw [List.length_range] at this
    have := tb.most
    unfold left
    omega
  refine comp_emr [0] _ hr (by rw [List.length_map]; omega) (EmR.cast (emr_list (xs := (ic (left n s)).map V.int) (L := fun i => [[at2 T l ((left n s).getD i 0) + f (ins ((left n s).getD i 0) s, (left n s).getD i 0), (((left n s).getD i 0 : Nat) : Int)]]) (by decide) (by show 0 < 5; decide) (fun H' sx => (same_of_x hr sx).seq (.of hc)) fun i x σ1 H2 hx hl1 ag1 st sx => ?_) ?_) fun σ1 H2 pre sm h2 h3 => q r pre H2 (s1.trans sm) h2 h3
  · have sm := s1.trans (same_of_x hr sx)
    rw [List.map_map, List.getElem?_map] at hx
    obtain ⟨p, hp, rfl⟩ := Option.map_eq_some_iff.mp hx
    have ep' : (left n s).getD i 0 = p := by rw [List.getD_eq_getElem?_getD, hp]; rfl
    rw [ep']
    obtain ⟨hpn, hps⟩ := mem_left.mp (List.mem_of_getElem? hp)
    have z1 : σ1[1]? = some (some v) := (ag1 1 (by decide)).trans rfl
    have z2 : σ1[2]? = some (some (.int (l : Int))) := (ag1 2 (by decide)).trans rfl
    have z3 : σ1[3]? = some (some (.ref d)) := (ag1 3 (by decide)).trans rfl
    have z4 : σ1[4]? = some (some (.ref a)) := (ag1 4 (by decide)).trans rfl
    refine emr_tupS (by show 2 ≤ 100; decide) fun Q2 hq => ?_
    have tb2 := tb.same sm
    refine tab_at z1 z2 st tb2.sh tb2.quad hl hpn ?_
    refine ⟨_, z3, _, z4, _, st, a, s, p, rfl, sm.tup ha, up, hps, hne, h20, fun b H3 s3 hb => ?_⟩
    refine ⟨_, st, by show 2 ≤ sizeLine; decide, fun g hg => ?_⟩
    have s4 := same_new hg (.tup [V.ref b, V.int (p : Int)])
    refine ⟨d, g, xs, ep, kc (ins p s, p), _, rfl, rfl, (dp.same (sm.trans (s3.trans s4))).1, ⟨b, .of upd_same, .of (s4 _ _ hb)⟩, val_ks dp.2 (hks p (List.mem_of_getElem? hp)), ?_⟩
    dsimp only [rAddA]
    exact ⟨_, st, hq _ (s3.trans s4)⟩
  · rw [lz]
    exact flat_one _ _ _ fun i x hx => by rw [List.getD_eq_getElem?_getD, hx]; rfl
end
end K06.S
namespace K06.S
open PySem L2
def Tups (H : Hp) (pre : List V) (P : List (List Nat)) : Prop := pre.length = P.length ∧ ∀ (i : Nat) (s : List Nat), P[i]? = some s → ∃ b, pre[i]? = some (.ref b) ∧ H b = some (.tup ((ic s).map V.int))
theorem Tups.same {H H' : Hp} {pre : List V} {P : List (List Nat)} (h : Tups H pre P) (s : Same H H') : Tups H' pre P := ⟨h.1, fun i q e => let ⟨b, e1, e2⟩ := h.2 i q e; ⟨b, e1, s _ _ e2⟩⟩
theorem Tups.x {H H' : Hp} {pre : List V} {P : List (List Nat)} {d : Addr} {o : HO} (h : Tups H pre P) (hd : H d = some o) (ho : ∀ xs, o ≠ .tup xs) (s : SameX d H H') : Tups H' pre P :=
  ⟨h.1, fun i q e => let ⟨b, e1, e2⟩ := h.2 i q e; ⟨b, e1, s _ _ (fun z => by subst z; rw [hd] at e2; exact ho _ (Option.some.inj e2)) e2⟩⟩
theorem Tups.nil {H : Hp} : Tups H [] [] := ⟨rfl, fun i s e => by cases e⟩
theorem get_app {α : Type} {l m : List α} {i : Nat} {x : α} (h : (l ++ m)[i]? = some x) : (i < l.length ∧ l[i]? = some x) ∨ (l.length ≤ i ∧ m[i - l.length]? = some x) := by
  by_cases hi : i < l.length
  · exact .inl ⟨hi, by rw [List.getElem?_append_left hi] at h; exact h⟩
  · exact .inr ⟨by omega, by rw [List.getElem?_append_right (by omega)] at h; exact h⟩
theorem Tups.app {H : Hp} {pre pre' : List V} {P P' : List (List Nat)} (h : Tups H pre P) (h' : Tups H pre' P') : Tups H (pre ++ pre') (P ++ P') := by
  refine ⟨by rw [List.length_append, List.length_append, h.1, h'.1], fun i s e => ?_⟩
  rcases get_app e with ⟨hi, e⟩ | ⟨hi, e⟩
  · obtain ⟨b, e1, e2⟩ := h.2 i s e
    exact ⟨b, by rw [List.getElem?_append_left (by rw [h.1]; exact hi)]; exact e1, e2⟩
  · obtain ⟨b, e1, e2⟩ := h'.2 _ s e
    exact ⟨b, by rw [List.getElem?_append_right (by rw [h.1]; exact hi), h.1]; exact e1, e2⟩
theorem Tups.one {H : Hp} {b : Addr} {s : List Nat} (h : H b = some (.tup ((ic s).map V.int))) : Tups H [.ref b] [s] := ⟨rfl, fun i q e => by
  match i, e with
  | 0, e =>
    obtain rfl : s = q := by simpa using e
    exact ⟨b, rfl, h⟩⟩
theorem parts_len : ∀ k, (parts k).length = 2 ^ k
  | 0 => rfl
  | k + 1 => by
    show (parts k ++ (parts k).map (· ++ [k + 1])).length = _
    rw [List.length_append, List.length_map, parts_len k, Nat.pow_succ]; omega
theorem parts_le {k : Nat} (h : k < 8) : (parts k).length ≤ 128 := by
  rw [parts_len]
  exact Nat.le_trans (Nat.pow_le_pow_right (by decide) (show k ≤ 7 by omega)) (by decide)
theorem eqD_int {i j : Int} : eqD (.int i) (.int j) = decide (i = j) := by rw [eqD]; rfl
section
variable {K : PySem.W.Frag}
theorem same_put {H H' : Hp} {p : Addr} {o : HO} (h : H p = none) (s : Same H H') : Same H (upd H' p o) := fun b u e => by rw [upd_ne (ne_of_none e h)]; exact s _ _ e
theorem cat_new {H H' : Hp} {a b p : Addr} {xs ys : List V} (hx : xs ≠ []) (hy : ys ≠ []) (h : (p = a ∧ H' = H ∧ ys = []) ∨ (p = b ∧ H' = H ∧ xs = []) ∨ (H p = none ∧ H' = upd H p (.tup (xs ++ ys)))) : H' p = some (.tup (xs ++ ys)) := by
  rcases h with ⟨_, _, e⟩ | ⟨_, _, e⟩ | ⟨_, e⟩
  · exact absurd e hy
  · exact absurd e hx
  · rw [e]; exact upd_same
def spParts : Sp := fun vs H Q _ => ∃ n : Nat, vs = [.int (n : Int)] ∧ 1 ≤ n ∧ n ≤ 8 ∧ ∀ l pre H', Same H H' → H' l = some (.lst pre) → Tups H' pre (parts (n - 1)) → Q (.ref l) H'
theorem rd_parts : ∀ vs H Q E, spParts vs H Q E → T_parts_with_home K { nx := fun _ H' => Q .non H', rt := Q } (start ["many", "parts", "place"] vs) H := by
  intro vs H Q E h
  obtain ⟨n, rfl, h1, h8, q⟩ := h
  refine ⟨by show 1 ≤ sizeLine; decide, fun c hc => ⟨by show 1 ≤ sizeLine; decide, fun l hl => ?_⟩⟩
  have s0 := (same_new hc (.tup [V.int 0])).trans (same_new hl (.lst [.ref c]))
  have hl0 : upd (upd H c (.tup [V.int 0])) l (.lst [.ref c]) l = some (.lst [.ref c]) := upd_same
  have t0 : Tups (upd (upd H c (.tup [V.int 0])) l (.lst [.ref c])) [.ref c] (parts 0) := Tups.one ((same_new hl _) _ _ upd_same)
  show tSeq _ _ _ _ (upd (upd H c (.tup [V.int 0])) l (.lst [.ref c]))
  generalize upd (upd H c (.tup [V.int 0])) l (.lst [.ref c]) = H0 at s0 hl0 t0 ⊢
  refine ⟨_, rfl, 1, (n : Int), rfl, ⟨by omega, by omega, by omega, by omega⟩, ?_⟩
  rw [show ((n : Int) - 1).toNat = n - 1 by omega]
  refine for_range (lo := 1) (n := n - 1) (fun i σ' H' => ∃ l pre x, σ' = [some (.int (n : Int)), some (.ref l), x] ∧ H' l = some (.lst pre) ∧ Tups H' pre (parts i) ∧ Same H H') ⟨l, _, none, rfl, hl0, t0, s0⟩ (fun i σ1 H1 hi ⟨l, pre, x, e1, hl, ht, s1⟩ => ?_) fun σ1 H1 ⟨l, pre, x, e1, hl, ht, s1⟩ => ?_
  · subst e1
    have hi8 : i < 8 := by omega
    refine ⟨_, rfl, _, rfl, l, rfl, .inl ⟨⟨_, .of hl⟩, fun acc ha => ?_⟩⟩
    refine inv_list (vars := [0]) (xs := pre) (fun i' L H' => Tups H' L (((parts i).take i').map (· ++ [i + 1]))) (by decide) (by show 0 < 2; decide) Tups.nil ha (fun i' L H' sm _ => .of (sm _ _ hl)) (fun i' y σ2 H2 L D hy hl2 ag2 st2 sm2 ha2 r2 hD => ?_) fun σ2 H2 L sm2 ha2 r2 => ?_
    · have hi' : i' < (parts i).length := by rw [← ht.1]; exact (List.getElem?_eq_some_iff.mp hy).1
      obtain ⟨b, e1, e2⟩ := ht.2 i' _ (List.getElem?_eq_getElem hi')
      rw [hy] at e1
      cases e1
      have hb := sm2 _ _ e2
      have ok : PartOk (i + 1) ((parts i)[i']) _ := part_at (n := i + 1) (j := i') (by omega) (by omega) (List.getElem?_eq_getElem hi')
      obtain ⟨r, hr⟩ := ok.zero
      have hle := ok.le
      have es : (parts i)[i']? = some ((parts i)[i']) := List.getElem?_eq_getElem hi'
      generalize (parts i)[i'] = s at hb hr es hle
      have z1 : σ2[1]? = some (some (.int (1 + (i : Int)))) := (ag2 1 (by decide)).trans rfl
      have hn : (ic s).map V.int ≠ [] := by rw [hr]; simp
      refine ⟨_, st2, _, z1, by show 1 ≤ sizeLine; decide, fun c hc => .inr ⟨b, c, _, _, rfl, rfl, .of ((same_new hc _) _ _ hb), .of upd_same, ?_, fun p H3 hcase _ s3 => ?_⟩⟩
      · rw [List.length_map, List.length_map]; exact Nat.le_trans (show s.length + 1 ≤ 10 by omega) (by decide)
      have hp := cat_new hn (by simp) hcase
      have sm3 := (same_new hc (.tup [V.int (1 + (i : Int))])).trans s3
      have ha3 := sm3 _ _ ha2
      refine ⟨L, ha3, ?_, ?_⟩
      · rw [r2.1, List.length_map, List.length_take]
        have := parts_le hi8
        exact Nat.lt_of_le_of_lt (show min i' (parts i).length ≤ 128 by omega) (by decide)
      have e2 : (ic s).map V.int ++ [V.int (1 + (i : Int))] = (ic (s ++ [i + 1])).map V.int := by
        rw [← ic_app, List.map_append]
        show _ ++ [V.int (1 + (i : Int))] = _ ++ [V.int ((i + 1 : Nat) : Int)]
        rw [show (1 : Int) + (i : Int) = ((i + 1 : Nat) : Int) by omega]
      rw [e2] at hp
      refine hD _ _ _ hl2 ag2 (same_put ha (sm2.trans sm3)) upd_same ?_
      have tt : Tups H3 (L ++ [.ref p]) ((((parts i).take (i' + 1)).map (· ++ [i + 1]))) := by
        rw [List.take_add_one, es, List.map_append]
        exact (r2.same sm3).app (Tups.one hp)
      exact tt.x ha3 (fun _ z => by cases z) (SameX.put _)
    · have hl2 := sm2 _ _ hl
      have hz : (parts i).length ≤ 128 := parts_le hi8
      rw [ht.1, List.take_length] at r2
      refine .inl ⟨l, acc, pre, L, rfl, rfl, hl2, ha2, ?_, fun p hp => ?_⟩
      · rw [ht.1, r2.1, List.length_map]
        exact Nat.le_trans (show (parts i).length + (parts i).length ≤ 256 by omega) (by decide)
      · exact ⟨p, _, _, rfl, upd_same, ((ht.same sm2).app r2).same (same_new hp _), s1.trans (sm2.trans (same_new hp _))⟩
  · subst e1
    exact ⟨_, rfl, q l pre H1 s1 hl ht⟩
end
end K06.S
namespace K06.S
open PySem L2
theorem lex_le {a b : Int} {r q : List Int} (h : lexL (a :: r) (b :: q) = false) : b ≤ a := by
  unfold lexL at h
  by_cases e : a = b
  · omega
  · rw [if_neg e] at h
    have := of_decide_eq_false h
    omega
theorem keys_small : ∀ k, k < 8 → (keysR (parts k)).length ≤ 1000 := by decide +kernel
theorem keysR_app {A B : List (List Nat)} : keysR (A ++ B) = keysR B ++ keysR A := by unfold keysR; rw [List.reverse_append, List.flatMap_append]
theorem keysR_drop {P : List (List Nat)} {m : Nat} : (keysR (P.drop m)).length ≤ (keysR P).length := by
  have e : keysR P = keysR (P.drop m) ++ keysR (P.take m) := by rw [← keysR_app, List.take_append_drop]
  rw [e, List.length_append]; omega
section
variable {K : PySem.W.Frag}
theorem sqT_x {H H' : Hp} {a d : Addr} {xs : List V} {o : HO} (h : SqT K H a xs) (hd : H d = some o) (h1 : ∀ ys, o ≠ .tup ys) (h2 : ∀ q u, o ≠ .frz q u) (s : SameX d H H') : SqT K H' a xs := by
  rcases h with (h | ⟨u, h⟩) | h
  · exact .inl (.inl (s _ _ (fun z => by subst z; rw [hd] at h; exact h1 _ (Option.some.inj h)) h))
  · exact .inl (.inr ⟨u, s _ _ (fun z => by subst z; rw [hd] at h; exact h2 _ _ (Option.some.inj h)) h⟩)
  · exact .inr h
theorem DPk.len {H : Hp} {d : Addr} {xs : PEs} {ep : Nat} {ks : List Ky} {f : Ky → Int} (h : DPk H d xs ep ks f) : xs.length = ks.length := by
  have := congrArg List.length h.2
  rw [List.length_map, List.length_map] at this
  exact this
theorem DPk.put {H : Hp} {d g : Addr} {xs : PEs} {ep ep' : Nat} {ks : List Ky} {f : Ky → Int} {k : Ky} (h : DPk H d xs ep ks f) (hk : KeyP H (kc k) g) : DPk (upd H d (dpO d (xs ++ [(kc k, g, V.int (f k))]) ep')) d (xs ++ [(kc k, g, V.int (f k))]) ep' (ks ++ [k]) f := by
  refine ⟨⟨upd_same, fun x hx => ?_⟩, ?_⟩
  · have hx' : KeyP H x.1 x.2.1 := by
      rcases List.mem_append.mp hx with hx | hx
      · exact h.1.2 x hx
      · rw [List.mem_singleton.mp hx]; exact hk
    obtain ⟨b, e1, e2⟩ := hx'
    exact ⟨b, by rw [upd_ne (fun z => by rw [z, h.1.1] at e1; cases e1)]; exact e1, by rw [upd_ne (fun z => by rw [z, h.1.1] at e2; cases e2)]; exact e2⟩
  · rw [List.map_append, List.map_append, h.2]; rfl
theorem or_lasts {H : Hp} {s : List Nat} {p a : Addr} {σ : St} {Q : VK} (hp : SqT K H p ((ic s.tail).map V.int)) (ha : SqT K H a ((ic s).map V.int)) (hs : σ[2]? = some (some (.ref a))) (q : ∀ z, SqT K H z ((ic (lasts s)).map V.int) → Q (.ref z) H) :
    ∃ c, TruV K (.ref p) H c ∧ if c = true then Q (.ref p) H else tVar 2 σ H Q := by
  refine ⟨!((ic s.tail).map V.int).isEmpty, .inr (.inl ⟨_, hp, rfl⟩), ?_⟩
  have e : ((ic s.tail).map V.int).isEmpty = s.tail.isEmpty := by cases s.tail <;> rfl
  rw [e]
  cases h : s.tail.isEmpty with
  | true => exact iteF ⟨_, hs, q a (by unfold lasts; rw [h]; exact ha)⟩
  | false => exact iteT (q p (by unfold lasts; rw [h]; exact hp))
def spRests (K : PySem.W.Frag) : Sp := fun vs H Q _ => ∃ (v : V) (T : List (List Int)) (n : Nat), vs = [v] ∧ Tb K H v T n ∧ ∀ d xs ep H', Same H H' → DPk H' d xs ep (keys n) (rest (at2 T) n) → Q (.ref d) H'
theorem rd_rests : ∀ vs H Q E, spRests K vs H Q E → T_least_rests K (spOnw K) spParts { nx := fun _ H' => Q .non H', rt := Q } (start ["table", "rests", "some", "last"] vs) H := by
  intro vs H Q E h
  obtain ⟨v, T, n, rfl, tb, q⟩ := h
  intro d ep0 hd
  have sd := same_new hd (dpO d [] ep0)
  have hd0 : upd H d (dpO d [] ep0) d = some (dpO d [] ep0) := upd_same
  show tSeq _ _ _ _ (upd H d (dpO d [] ep0))
  generalize upd H d (dpO d [] ep0) = H0 at sd hd0 ⊢
  have tb0 := tb.same sd
  obtain ⟨ta, rs, ev, hta, hrl, _⟩ := tb0.sh.tab
  subst ev
  have hrn : rs.length = n := by rw [hrl, tb.quad.len]
  have h1 := tb.one
  have h8 := tb.most
  refine ⟨_, rfl, ta, rs, rfl, .inr hta, n, by rw [hrn]; rfl, h1, h8, fun pa pre H1 s1 hpa tps => ⟨pa, pre, rfl, .of hpa, ?_⟩⟩
  have hd1 := s1 _ _ hd0
  have hN : pre.length = (parts (n - 1)).length := tps.1
  have s01 := sd.trans s1
  have up1 : ∀ {H' : Hp}, SameX d H1 H' → Same H H' := fun sx b u e => sx b u (ne_of_none e hd) (s01 b u e)
  refine for_rev (xs := pre) rfl (fun i σ' H' => i ≤ (parts (n - 1)).length ∧ ∃ xs ep x2 x3, σ' = [some (.ref ta), some (.ref d), x2, x3] ∧ DPk H' d xs ep (keysR ((parts (n - 1)).drop ((parts (n - 1)).length - i))) (rest (at2 T) n) ∧ SameX d H1 H') ⟨Nat.zero_le _, [], ep0, none, none, rfl, ⟨⟨hd1, fun x hx => by cases hx⟩, by rw [Nat.sub_zero, List.drop_length]; rfl⟩, SameX.refl _ _⟩ (fun i σ1 H2 _ ⟨_, xs, ep, x2, x3, _, _, sx⟩ => .of (sx _ _ (fun z => by subst z; rw [hpa] at hd1; cases hd1) hpa)) ?_ ?_
  · rintro i y σ1 H2 hi hy ⟨_, xs, ep, x2, x3, rfl, dp, sx⟩
    have hi : i < (parts (n - 1)).length := by omega
    have hj : (parts (n - 1)).length - 1 - i < (parts (n - 1)).length := by omega
    have hps : (parts (n - 1))[(parts (n - 1)).length - 1 - i]? = some ((parts (n - 1))[(parts (n - 1)).length - 1 - i]) := List.getElem?_eq_getElem hj
    obtain ⟨b, e1, e2⟩ := tps.2 _ _ hps
    rw [hN, e1] at hy
    cases hy
    have ok := part_at h1 h8 hps
    have edr : (parts (n - 1)).drop ((parts (n - 1)).length - (i + 1)) = (parts (n - 1))[(parts (n - 1)).length - 1 - i] :: (parts (n - 1)).drop ((parts (n - 1)).length - i) := by
      rw [show (parts (n - 1)).length - (i + 1) = (parts (n - 1)).length - 1 - i by omega, List.drop_eq_getElem_cons hj, show (parts (n - 1)).length - 1 - i + 1 = (parts (n - 1)).length - i by omega]
    rw [show (parts (n - 1)).length - 1 - i + 1 = (parts (n - 1)).length - i by omega] at ok
    have hsm := keysR_drop (P := parts (n - 1)) (m := (parts (n - 1)).length - (i + 1))
    have hk8 := keys_small (n - 1) (by omega)
    rw [edr] at hsm ⊢
    have hrest : ∀ q ∈ (parts (n - 1)).drop ((parts (n - 1)).length - i), q ∈ parts (n - 1) := fun q hq => List.mem_of_mem_drop hq
    generalize (parts (n - 1))[(parts (n - 1)).length - 1 - i] = s at e2 ok hsm ⊢
    generalize (parts (n - 1)).drop ((parts (n - 1)).length - i) = rst at dp ok hsm hrest ⊢
    rw [keysR_cons] at hsm ⊢
    obtain ⟨lnd, lin, _⟩ := lasts_of ok
    have hbd : b ≠ d := fun z => by subst z; rw [e2] at hd1; cases hd1
    have hb2 := sx _ _ hbd e2
    refine ⟨_, rfl, 1, rfl, .inr ⟨b, _, rfl, .of hb2, fun p H3 s3 hp => ?_⟩⟩
    have hp' : SqT K H3 p ((ic s.tail).map V.int) := by
      have e := cut_from (xs := (ic s).map V.int) (t := 1) (by obtain ⟨r, rfl⟩ := ok.zero; simp)
      rw [show ((1 : Nat) : Int) = 1 from rfl] at e
      rw [e] at hp
      have e2 : ((ic s).map V.int).drop 1 = (ic s.tail).map V.int := by cases s <;> rfl
      rw [e2] at hp
      exact hp
    have hb3 := s3 _ _ hb2
    have dp3 := dp.same s3
    have hd3 := dp3.1.1
    refine or_lasts hp' (.of hb3) rfl fun z hz => ⟨z, rfl, .inr ⟨⟨_, hz⟩, ?_⟩⟩
    have lz : ((ic (lasts s)).map V.int).length = (lasts s).length := by rw [List.length_map, List.length_map]
    refine for_tup (K := K) (a := z) (xs := (ic (lasts s)).map V.int) (fun j σ' H' => ∃ xs ep x3, σ' = [some (.ref ta), some (.ref d), some (.ref b), x3] ∧ DPk H' d xs ep (keysR rst ++ (keysOf s).take j) (rest (at2 T) n) ∧ SameX d H3 H') ⟨xs, ep, x3, rfl, by rw [List.take_zero, List.append_nil]; exact dp3, SameX.refl _ _⟩ (fun j σ' H' _ ⟨_, _, _, _, _, sx'⟩ => sqT_x hz hd3 (fun _ z => by cases z) (fun _ _ z => by cases z) sx') ?_ ?_
    · rintro j y σ2 H4 hy ⟨xs, ep, x3, rfl, dp4, sx4⟩
      rw [List.map_map, List.getElem?_map] at hy
      obtain ⟨l, hl, rfl⟩ := Option.map_eq_some_iff.mp hy
      have hlm := List.mem_of_getElem? hl
      have hln : l < n := ok.lt l (lin l hlm)
      have hb4 := sx4 _ _ hbd hb3
      have sxx : SameX d H1 H4 := (sx.trans s3.x).trans sx4
      have sm4 := up1 sxx
      have tb4 := tb.same sm4
      obtain ⟨ta', rs', ev, hta4, hrl4, _⟩ := tb4.sh.tab
      cases ev
      have hrn4 : rs'.length = n := by rw [hrl4, tb.quad.len]
      have hkl : (keysOf s)[j]? = some (s, l) := by unfold keysOf; rw [List.getElem?_map, hl]; rfl
      have hknew : (s, l) ∉ keysR rst ++ (keysOf s).take j := by
        rw [List.mem_append]
        rintro (hm | hm)
        · exact ok.new (mem_keysR.mp hm).1
        · unfold keysOf at hm
          rw [← List.map_take] at hm
          obtain ⟨l', hl', e⟩ := List.mem_map.mp hm
          have e : l' = l := (Prod.mk.inj e).2
          subst e
          obtain ⟨m, hm'⟩ := List.mem_iff_getElem?.mp hl'
          rw [List.getElem?_take] at hm'
          split at hm'
          · rename_i hlt
            have hjl := (List.getElem?_eq_some_iff.mp hl)
            have hml := (List.getElem?_eq_some_iff.mp hm')
            have := (List.getElem_inj lnd).mp (hml.2.trans hjl.2.symm)
            omega
          · cases hm'
      have hxl : xs.length < sizeLine := by
        rw [dp4.len, List.length_append, List.length_take]
        rw [List.length_append] at hsm
        exact Nat.lt_of_le_of_lt (show (keysR rst).length + min j (keysOf s).length ≤ 1000 by omega) (by decide)
      have fin : ∀ (g : Addr) (H5 : Hp), Same H4 H5 → H5 g = none → ∀ D : Ends, (∀ σ' H', (∃ xs ep x3, σ' = [some (V.ref ta), some (.ref d), some (.ref b), x3] ∧ DPk H' d xs ep (keysR rst ++ (keysOf s).take (j + 1)) (rest (at2 T) n) ∧ SameX d H3 H') → D.nx σ' H') →
          ∃ a c xs ep k, V.ref d = V.ref a ∧ V.ref g = V.ref c ∧ DP (upd H5 g (.tup [.ref b, .int (l : Int)])) a xs ep ∧ KeyP (upd H5 g (.tup [.ref b, .int (l : Int)])) k c ∧ valP xs k = none ∧ xs.length < sizeLine ∧ ∀ ep', D.nx [some (V.ref ta), some (.ref d), some (.ref b), some (.int (l : Int))] (upd (upd H5 g (.tup [.ref b, .int (l : Int)])) a (dpO a (xs ++ [(k, c, V.int (rest (at2 T) n (s, l)))]) ep')) := fun g H5 s5 hg D hD => by
        have s6 := same_new hg (.tup [V.ref b, .int (l : Int)])
        have dp6 := (dp4.same s5).same s6
        have kp : KeyP (upd H5 g (.tup [.ref b, .int (l : Int)])) (kc (s, l)) g := ⟨b, upd_same, s6 _ _ (s5 _ _ hb4)⟩
        refine ⟨d, g, xs, ep, kc (s, l), rfl, rfl, dp6.1, kp, val_no dp4.2 hknew, hxl, fun ep' => hD _ _ ⟨xs ++ [(kc (s, l), g, V.int (rest (at2 T) n (s, l)))], ep', _, rfl, ?_, (sx4.trans (s5.trans s6).x).trans (SameX.put _)⟩⟩
        have := DPk.put (ep' := ep') dp6 kp
        rw [List.append_assoc] at this
        rw [List.take_add_one, hkl]
        exact this
      by_cases hf : s.length = n
      · refine ⟨_, rfl, b, _, rfl, .inr (.of hb4), _, rfl, ta, rs', rfl, .inr hta4, .int _, .int _, Nat.zero_le _, rfl, rfl, _, rfl, iteT' ?_ ?_⟩
        · rw [eqD_int, List.length_map, List.length_map, hrn4, hf]; exact decide_eq_true rfl
        refine ⟨_, rfl, _, rfl, tab_row tb4.sh tb.quad hln fun c hc => ixT (j := 0) hc (v := .int (at2 T l 0)) ?_ ?_⟩
        · obtain ⟨row, e1, e2, e3⟩ := tb.quad.get hln
          rw [List.getElem?_map, L2.getD_at (by rw [e3]; omega)]; rfl
        refine ⟨_, rfl, _, rfl, _, rfl, by show 2 ≤ sizeLine; decide, fun g hg => ?_⟩
        have := fin g H4 (Same.refl _) hg
        rw [rest_full hf] at this
        exact this _ fun σ' H' z => z
      · have hlt : s.length < n := by have := ok.le; omega
        refine ⟨_, rfl, b, _, rfl, .inr (.of hb4), _, rfl, ta, rs', rfl, .inr hta4, .int _, .int _, Nat.zero_le _, rfl, rfl, _, rfl, iteF' ?_ ?_⟩
        · rw [eqD_int, List.length_map, List.length_map, hrn4]; exact decide_eq_false (by omega)
        refine ⟨_, rfl, _, rfl, _, rfl, _, rfl, .ref ta, T, n, d, b, xs, ep, _, _, s, l, rfl, tb4, dp4, .of hb4, ok.up, ?_, by omega, hln, fun p hp => List.mem_append_left _ (next_key h1 h8 ok hrest hp), fun r pre' H5 s5 hr rows => ?_⟩
        · obtain ⟨r, rfl⟩ := ok.zero; simp
        have hne : left n s ≠ [] := fun e => hf (ok.full.mpr e)
        refine .inr ⟨r, pre', _, rfl, .inl (.of hr), rows, by simpa using hne, fun i' c row hi1 hi2 hc hmin => ?_⟩
        rw [List.getElem?_map] at hi2
        obtain ⟨p, hp, rfl⟩ := Option.map_eq_some_iff.mp hi2
        have hval : at2 T l p + rest (at2 T) n (ins p s, p) = rest (at2 T) n (s, l) := by
          rw [rest_step hlt]
          refine (minL_eq (x := at2 T l p + rest (at2 T) n (ins p s, p)) (List.mem_map.mpr ⟨p, List.mem_of_getElem? hp, rfl⟩) fun y hy => ?_).symm
          obtain ⟨p', hp', rfl⟩ := List.mem_map.mp hy
          exact lex_le (hmin _ (List.mem_map.mpr ⟨p', hp', rfl⟩))
        rw [hval] at hc
        refine ixT (j := 0) hc rfl ?_
        exact ⟨_, rfl, _, rfl, _, rfl, by show 2 ≤ sizeLine; decide, fun g hg => fin g H5 s5 hg _ fun σ' H' z => z⟩
    · rintro σ2 H4 ⟨xs, ep, x3, rfl, dp4, sx4⟩
      refine ⟨by omega, xs, ep, _, x3, rfl, ?_, (sx.trans s3.x).trans sx4⟩
      have e : (keysOf s).take ((ic (lasts s)).map V.int).length = keysOf s := by
        rw [lz]
        exact List.take_of_length_le (by unfold keysOf; rw [List.length_map]; exact Nat.le_refl _)
      rw [e] at dp4
      exact dp4
  · rintro σ1 H2 ⟨_, xs, ep, x2, x3, rfl, dp, sx⟩
    refine ⟨_, rfl, q d xs ep H2 (up1 sx) ?_⟩
    rw [hN, Nat.sub_self, List.drop_zero] at dp
    exact dp
end
end K06.S
namespace K06.S
open PySem L2
def pth (t : Nat → Nat → Int) : List Nat → Int
  | [] => 0
  | [_] => 0
  | a :: b :: l => t a b + pth t (b :: l)
theorem pth_snoc {t : Nat → Nat → Int} {p l : Nat} : ∀ {g : List Nat}, pth t (g ++ [l] ++ [p]) = pth t (g ++ [l]) + t l p
  | [] => by show t l p + 0 = 0 + t l p; omega
  | [a] => by show t a l + (t l p + 0) = t a l + 0 + t l p; omega
  | a :: b :: g => by
    have := pth_snoc (t := t) (p := p) (l := l) (g := b :: g)
    show t a b + pth t (b :: g ++ [l] ++ [p]) = t a b + pth t (b :: g ++ [l]) + t l p
    rw [this]; omega
structure Round (n : Nat) (g : List Nat) : Prop where
  perm : g.Perm (List.range n)
  zero : ∃ r, g = 0 :: r
theorem full_perm {n : Nat} {s : List Nat} {rest : List (List Nat)} (ok : PartOk n s rest) (h : s.length = n) : s.Perm (List.range n) := by
  refine (List.perm_ext_iff_of_nodup (ok.up.imp fun h => Nat.ne_of_lt h) List.nodup_range).mpr fun p => ⟨fun hp => List.mem_range.mpr (ok.lt p hp), fun hp => ?_⟩
  refine Classical.byContradiction fun hn => ?_
  have := mem_left.mpr ⟨List.mem_range.mp hp, hn⟩
  rw [ok.full.mp h] at this
  cases this
section
variable {K : PySem.W.Frag}
theorem keys_next {n j p : Nat} {s : List Nat} (h1 : 1 ≤ n) (h8 : n ≤ 8) (hj : (parts (n - 1))[j]? = some s) (hp : p ∈ left n s) : (ins p s, p) ∈ keys n ∧ ∃ j' : Nat, (parts (n - 1))[j']? = some (ins p s) := by
  have ok := part_at h1 h8 hj
  have := next_key h1 h8 ok (fun q hq => List.mem_of_mem_drop hq) hp
  obtain ⟨m1, m2⟩ := mem_keysR.mp this
  have m3 : ins p s ∈ parts (n - 1) := List.mem_of_mem_drop m1
  exact ⟨mem_keysR.mpr ⟨m3, m2⟩, List.mem_iff_getElem?.mp m3⟩
def spRound (K : PySem.W.Frag) : Sp := fun vs H Q _ => ∃ (v : V) (T : List (List Int)) (n : Nat) (d : Addr) (xs : PEs) (ep : Nat), vs = [v, .ref d] ∧ Tb K H v T n ∧ DPk H d xs ep (keys n) (rest (at2 T) n) ∧
  ∀ b g H', Same H H' → SqT K H' b ((ic g).map V.int) → Round n g → pth (at2 T) (g ++ [0]) = rest (at2 T) n ([0], 0) → Q (.ref b) H'
theorem rd_round : ∀ vs H Q E, spRound K vs H Q E → T_round_by_rests K (spOnw K) { nx := fun _ H' => Q .non H', rt := Q } (start ["table", "rests", "gone", "some"] vs) H := by
  intro vs H Q E h
  obtain ⟨v, T, n, d, xs, ep, rfl, tb, dp, q⟩ := h
  have h1 := tb.one
  have h8 := tb.most
  refine ⟨by show 1 ≤ sizeLine; decide, fun c hc => ?_⟩
  have s0 := same_new hc (.tup [V.int 0])
  have hc0 : upd H c (.tup [V.int 0]) c = some (.tup [V.int 0]) := upd_same
  show tSeq _ _ _ _ (upd H c (.tup [V.int 0]))
  generalize upd H c (.tup [V.int 0]) = H0 at s0 hc0 ⊢
  obtain ⟨j0, hj0⟩ : ∃ j, (parts (n - 1))[j]? = some [0] := ⟨0, by
    have : ∀ k, (parts k)[0]? = some [0] := fun k => by
      induction k with
      | zero => rfl
      | succ k ih =>
        show (parts k ++ (parts k).map (· ++ [k + 1]))[0]? = _
        rw [List.getElem?_append_left (List.getElem?_eq_some_iff.mp ih).1]; exact ih
    exact this _⟩
  refine ⟨fun m σ' H' => ∃ b g0 l s j x3, σ' = [some v, some (.ref d), some (.ref b), x3] ∧ SqT K H' b ((ic (g0 ++ [l])).map V.int) ∧ Same H H' ∧ (g0 ++ [l]).Perm s ∧ (∃ r, g0 ++ [l] = 0 :: r) ∧ (parts (n - 1))[j]? = some s ∧ pth (at2 T) (g0 ++ [l]) + rest (at2 T) n (s, l) = rest (at2 T) n ([0], 0) ∧ m = n - s.length, ⟨n - 1, c, [], 0, [0], j0, none, rfl, .of hc0, s0, .refl _, ⟨[], rfl⟩, hj0, by show 0 + _ = _; omega, rfl⟩, ?_⟩
  rintro m σ1 H1 ⟨b, g0, l, s, j, x3, rfl, hb, s1, hperm, hz, hj, hval, rfl⟩
  have ok := part_at h1 h8 hj
  have hgl : (g0 ++ [l]).length = s.length := hperm.length_eq
  have bl : ((ic (g0 ++ [l])).map V.int).length = s.length := by rw [List.length_map, List.length_map, hgl]
  have tb1 := tb.same s1
  have dp1 := dp.same s1
  obtain ⟨ta, rs, ev, hta, hrl, _⟩ := tb1.sh.tab
  subst ev
  have hrn : rs.length = n := by rw [hrl, tb.quad.len]
  have hls : l ∈ s := hperm.mem_iff.mp (by simp)
  have hln := ok.lt l hls
  have hle := ok.le
  refine ⟨_, rfl, b, _, rfl, .inr hb, _, rfl, ta, rs, rfl, .inr hta, _, _, rfl, rfl, _, rfl, ?_⟩
  rw [bl, hrn]
  by_cases hf : s.length = n
  · refine iteF' (decide_eq_false (by omega)) ?_
    refine ⟨_, rfl, q b _ H1 s1 hb ⟨hperm.trans (full_perm ok hf), hz⟩ ?_⟩
    rw [pth_snoc, ← hval, rest_full hf]
  · have hlt : s.length < n := by omega
    refine iteT' (decide_eq_true (by omega)) ⟨fun σ' H' => ∃ m', m' < n - s.length ∧ ∃ b g0 l s j x3, σ' = [some (.ref ta), some (.ref d), some (.ref b), x3] ∧ SqT K H' b ((ic (g0 ++ [l])).map V.int) ∧ Same H H' ∧ (g0 ++ [l]).Perm s ∧ (∃ r, g0 ++ [l] = 0 :: r) ∧ (parts (n - 1))[j]? = some s ∧ pth (at2 T) (g0 ++ [l]) + rest (at2 T) n (s, l) = rest (at2 T) n ([0], 0) ∧ m' = n - s.length, fun _ _ z => z, ?_⟩
    refine ⟨_, rfl, b, _, rfl, .inr hb, by rw [List.length_map, hgl]; omega, fun ms hp1 hp2 e he => ?_⟩
    obtain rfl : ms = ic s := sort_ic hp1 hp2 (hperm.map _) ok.up
    refine ⟨e, _, rfl, .inl ⟨.of upd_same, fun a ha => ?_⟩⟩
    have s2 := (same_new he (.lst ((ic s).map V.int))).trans (same_new ha (.tup ((ic s).map V.int)))
    have ha2 : upd (upd H1 e (.lst ((ic s).map V.int))) a (.tup ((ic s).map V.int)) a = some (.tup ((ic s).map V.int)) := upd_same
    show tSeq _ _ _ _ (upd (upd H1 e (.lst ((ic s).map V.int))) a (.tup ((ic s).map V.int)))
    generalize upd (upd H1 e (.lst ((ic s).map V.int))) a (.tup ((ic s).map V.int)) = H2 at s2 ha2 ⊢
    have hb2 := s2.tup hb
    have hlast : ((ic (g0 ++ [l])).map V.int)[((ic (g0 ++ [l])).map V.int).length - 1]? = some (.int (l : Int)) := by
      rw [List.length_map, List.length_map, List.length_append, List.map_map, List.getElem?_map]
      simp
    refine ⟨_, rfl, _, rfl, _, rfl, _, rfl, _, rfl, 1, rfl, ixT_last hb2 hlast ?_⟩
    refine ⟨.ref ta, T, n, d, a, xs, ep, keys n, rest (at2 T) n, s, l, rfl, tb1.same s2, dp1.same s2, .of ha2, ok.up, ?_, by omega, hln, fun p hp => (keys_next h1 h8 hj hp).1, fun r pre H3 s3 hr rows => ?_⟩
    · obtain ⟨r, rfl⟩ := ok.zero; simp
    have hne : left n s ≠ [] := fun e => hf (ok.full.mpr e)
    refine .inr ⟨r, pre, _, rfl, .inl (.of hr), rows, by simpa using hne, fun i' c row hi1 hi2 hc hmin => ?_⟩
    rw [List.getElem?_map] at hi2
    obtain ⟨p, hp, rfl⟩ := Option.map_eq_some_iff.mp hi2
    have hpm := List.mem_of_getElem? hp
    have hv2 : at2 T l p + rest (at2 T) n (ins p s, p) = rest (at2 T) n (s, l) := by
      rw [rest_step hlt]
      refine (minL_eq (x := at2 T l p + rest (at2 T) n (ins p s, p)) (List.mem_map.mpr ⟨p, hpm, rfl⟩) fun y hy => ?_).symm
      obtain ⟨p', hp', rfl⟩ := List.mem_map.mp hy
      exact lex_le (hmin _ (List.mem_map.mpr ⟨p', hp', rfl⟩))
    refine ixT (j := 1) hc (v := .int (p : Int)) rfl ?_
    refine ⟨by show 1 ≤ sizeLine; decide, fun u hu => .inr ⟨b, u, _, _, rfl, rfl, ((s3.trans (same_new hu _))).tup hb2, .of upd_same, by rw [bl]; exact Nat.le_trans (show s.length + 1 ≤ 9 by omega) (by decide), fun w H4 _ hw s4 => ?_⟩⟩
    obtain ⟨_, j', hj'⟩ := keys_next h1 h8 hj hpm
    refine ⟨n - (ins p s).length, by rw [ins_len]; omega, w, g0 ++ [l], p, ins p s, j', _, rfl, ?_, s1.trans (s2.trans (s3.trans ((same_new hu _).trans s4))), ?_, ?_, hj', ?_, rfl⟩
    · have e2 : (ic (g0 ++ [l])).map V.int ++ [V.int (p : Int)] = (ic (g0 ++ [l] ++ [p])).map V.int := by
        rw [← ic_app (s := g0 ++ [l]) (p := p), List.map_append (l₁ := ic (g0 ++ [l]))]; rfl
      rw [← e2]; exact hw
    · exact (hperm.append_right [p]).trans ins_perm.symm
    · obtain ⟨r, hr⟩ := hz
      exact ⟨r ++ [p], by rw [hr]; rfl⟩
    · rw [pth_snoc, ← hval, ← hv2]; omega
end
end K06.S
namespace K06.S
open PySem L2
def Flo (H : Hp) (pre : List V) (ks : List Ky) (f : Ky → Int) : Prop := pre.length = ks.length ∧ ∀ (i : Nat) (k : Ky), ks[i]? = some k → ∃ b c, pre[i]? = some (.ref b) ∧ H b = some (.tup [.ref c, .int (k.2 : Int), .int (f k)]) ∧ H c = some (.tup ((ic k.1).map V.int))
theorem Flo.same {H H' : Hp} {pre : List V} {ks : List Ky} {f : Ky → Int} (h : Flo H pre ks f) (s : Same H H') : Flo H' pre ks f := ⟨h.1, fun i k e => let ⟨b, c, e1, e2, e3⟩ := h.2 i k e; ⟨b, c, e1, s _ _ e2, s _ _ e3⟩⟩
theorem Flo.x {H H' : Hp} {pre : List V} {ks : List Ky} {f : Ky → Int} {d : Addr} {o : HO} (h : Flo H pre ks f) (hd : H d = some o) (ho : ∀ xs, o ≠ .tup xs) (s : SameX d H H') : Flo H' pre ks f :=
  ⟨h.1, fun i k e => let ⟨b, c, e1, e2, e3⟩ := h.2 i k e; ⟨b, c, e1, s _ _ (fun z => by subst z; rw [hd] at e2; exact ho _ (Option.some.inj e2)) e2, s _ _ (fun z => by subst z; rw [hd] at e3; exact ho _ (Option.some.inj e3)) e3⟩⟩
theorem Flo.snoc {H : Hp} {pre : List V} {ks : List Ky} {f : Ky → Int} {k : Ky} {b c : Addr} (h : Flo H pre ks f) (h1 : H b = some (.tup [.ref c, .int (k.2 : Int), .int (f k)])) (h2 : H c = some (.tup ((ic k.1).map V.int))) : Flo H (pre ++ [.ref b]) (ks ++ [k]) f := by
  refine ⟨by rw [List.length_append, List.length_append, h.1]; rfl, fun i q e => ?_⟩
  rcases get_app e with ⟨hi, e⟩ | ⟨hi, e⟩
  · obtain ⟨b, c, e1, e2⟩ := h.2 i q e
    exact ⟨b, c, by rw [List.getElem?_append_left (by rw [h.1]; exact hi)]; exact e1, e2⟩
  · have h0 : i - ks.length = 0 := by
      rcases hk : i - ks.length with _ | m
      · rfl
      · rw [hk] at e; cases e
    rw [h0] at e
    obtain rfl : k = q := by simpa using e
    exact ⟨b, c, by rw [List.getElem?_append_right (by rw [h.1]; exact hi), h.1, h0]; rfl, h1, h2⟩
theorem DPk.at {H : Hp} {d : Addr} {xs : PEs} {ep : Nat} {ks : List Ky} {f : Ky → Int} {i : Nat} {x : PKy × Addr × V} (h : DPk H d xs ep ks f) (hx : xs[i]? = some x) : ∃ k b, ks[i]? = some k ∧ x.1 = kc k ∧ x.2.2 = .int (f k) ∧ H x.2.1 = some (.tup [.ref b, .int (k.2 : Int)]) ∧ H b = some (.tup ((ic k.1).map V.int)) := by
  have e := congrArg (fun l => l[i]?) h.2
  simp only [List.getElem?_map, hx, Option.map_some] at e
  obtain ⟨k, hk, e2⟩ := Option.map_eq_some_iff.mp e.symm
  obtain ⟨e3, e4⟩ := Prod.mk.inj e2
  obtain ⟨b, h1, h2⟩ := h.1.2 x (List.mem_of_getElem? hx)
  rw [← e3] at h1 h2
  exact ⟨k, b, hk, e3.symm, e4.symm, h1, h2⟩
theorem keys_len {n : Nat} (h1 : 1 ≤ n) (h8 : n ≤ 8) : (keys n).length ≤ 1000 := keys_small (n - 1) (by omega)
theorem start_key {n : Nat} (h1 : 1 ≤ n) (h8 : n ≤ 8) : (([0], 0) : Ky) ∈ keys n := by
  have : ∀ k, [0] ∈ parts k := fun k => by
    induction k with
    | zero => exact List.mem_cons_self ..
    | succ k ih => exact List.mem_append_left _ ih
  exact mem_keysR.mpr ⟨this _, by decide⟩
section
variable {K : PySem.W.Frag} {S : Addr}
def spShort (K : PySem.W.Frag) : Sp := fun vs H Q _ => ∃ (v : V) (T : List (List Int)) (n : Nat), vs = [v] ∧ Tb K H v T n ∧
  ∀ b gb fa g pre H', Same H H' → H' b = some (.tup [.int (rest (at2 T) n ([0], 0)), .ref gb, .ref fa]) → SqT K H' gb ((ic g).map V.int) → Round n g → pth (at2 T) (g ++ [0]) = rest (at2 T) n ([0], 0) → H' fa = some (.lst pre) → Flo H' pre (keys n) (rest (at2 T) n) → H fa = none → Q (.ref b) H'
theorem rd_short (hS : ∀ H, KeyQ K H (kc ([0], 0)) S) : ∀ vs H Q E, spShort K vs H Q E → T_shortest K S (spRests K) (spRound K) { nx := fun _ H' => Q .non H', rt := Q } (start ["table", "rests", "floors"] vs) H := by
  intro vs H Q E h
  obtain ⟨v, T, n, rfl, tb, q⟩ := h
  have h1 := tb.one
  have h8 := tb.most
  refine ⟨_, rfl, v, T, n, rfl, tb, fun d xs ep H1 s1 dp => ?_⟩
  refine ⟨_, rfl, d, xs, ep, rfl, dp.1.1, fun acc ha => ?_⟩
  refine for_items (d := d) (xs := xs) (ep := ep) (fun i σ' H' => i ≤ xs.length ∧ (∃ x0 x1 x2, σ' = [x0, x1, x2]) ∧ Same H1 H' ∧ ∃ L, H' acc = some (.lst L) ∧ Flo H' L ((keys n).take i) (rest (at2 T) n)) ⟨Nat.zero_le _, ⟨none, none, none, rfl⟩, same_new ha _, [], upd_same, rfl, fun i k e => by cases e⟩ (fun i σ' H' _ ⟨_, _, sm, _⟩ => sm _ _ dp.1.1) ?_ ?_
  · rintro i x σ1 H2 p hx hp ⟨_, ⟨x0, x1, x2, rfl⟩, sm, L, hL, fl⟩
    obtain ⟨k, b, hk, e1, e2, hc, hb⟩ := (dp.same sm).at hx
    have hi : i < xs.length := (List.getElem?_eq_some_iff.mp hx).1
    rw [e2]
    have s2 := same_new hp (.tup [V.ref x.2.1, V.int (rest (at2 T) n k)])
    refine ⟨p, _, rfl, .of upd_same, rfl, .ref x.2.1, [.int _], rfl, x.2.1, [.ref b, .int (k.2 : Int)], rfl, .of (s2 _ _ hc), rfl, .ref b, [.int _], rfl, .int _, [], rfl, rfl, .int _, [], rfl, rfl, ?_⟩
    refine ⟨_, rfl, _, rfl, _, rfl, by show 3 ≤ sizeLine; decide, fun u hu => ?_⟩
    have s3 := s2.trans (same_new hu (.tup [V.ref b, V.int (k.2 : Int), V.int (rest (at2 T) n k)]))
    have hL3 := s3 _ _ hL
    refine ⟨L, hL3, ?_, hi, ⟨_, _, _, rfl⟩, same_put ha (sm.trans s3), _, upd_same, ?_⟩
    · rw [fl.1, List.length_take]
      have := keys_len h1 h8
      exact Nat.lt_of_le_of_lt (show min i (keys n).length ≤ 1000 by omega) (by decide)
    · rw [List.take_add_one, hk]
      exact ((fl.same s3).snoc upd_same (s3 _ _ hb)).x hL3 (fun _ z => by cases z) (SameX.put _)
  · rintro σ1 H2 ⟨_, _, sm, L, hL, fl⟩
    rw [dp.len, List.take_length] at fl
    refine ⟨_, rfl, d, S, xs, ep, kc ([0], 0), _, rfl, rfl, (dp.same sm).1, hS _, val_ks dp.2 (start_key h1 h8), ?_⟩
    refine ⟨_, rfl, _, rfl, v, T, n, d, xs, ep, rfl, tb.same (s1.trans sm), dp.same sm, fun gb g H3 s3 hg hr hv => ?_⟩
    refine ⟨_, rfl, by show 3 ≤ sizeLine; decide, fun b hb => ?_⟩
    have s4 := same_new hb (.tup [V.int (rest (at2 T) n ([0], 0)), .ref gb, .ref acc])
    have s5 := s3.trans s4
    refine q b gb acc g L _ (s1.trans (sm.trans s5)) upd_same (s4.tup hg) hr hv (s5 _ _ hL) (fl.same s5) (s1.free ha)
end
end K06.S
namespace K06.S
open PySem L2
def ways (n : Nat) : Nat → List Nat → List (List Nat)
  | 0, _ => [[]]
  | m + 1, s => (left n s).flatMap fun p => (ways n m (ins p s)).map (p :: ·)
theorem mem_ways {n : Nat} : ∀ {m : Nat} {s w : List Nat}, w ∈ ways n m s ↔ w.length = m ∧ w.Nodup ∧ ∀ x ∈ w, x < n ∧ x ∉ s
  | 0, s, w => by
    unfold ways
    rw [List.mem_singleton]
    constructor
    · rintro rfl; exact ⟨rfl, List.nodup_nil, fun x hx => by cases hx⟩
    · rintro ⟨h, _, _⟩; exact List.length_eq_zero_iff.mp h
  | m + 1, s, w => by
    unfold ways
    rw [List.mem_flatMap]
    constructor
    · rintro ⟨p, hp, h⟩
      obtain ⟨w', hw, rfl⟩ := List.mem_map.mp h
      obtain ⟨h1, h2, h3⟩ := mem_ways.mp hw
      refine ⟨by rw [List.length_cons, h1], List.nodup_cons.mpr ⟨fun z => (h3 p z).2 (mem_ins.mpr (.inl rfl)), h2⟩, fun x hx => ?_⟩
      rcases List.mem_cons.mp hx with e | hx
      · rw [e]; exact mem_left.mp hp
      · exact ⟨(h3 x hx).1, fun z => (h3 x hx).2 (mem_ins.mpr (.inr z))⟩
    · rintro ⟨h1, h2, h3⟩
      cases w with
      | nil => cases h1
      | cons p w =>
        obtain ⟨n1, n2⟩ := List.nodup_cons.mp h2
        refine ⟨p, mem_left.mpr (h3 p (List.mem_cons_self ..)), List.mem_map.mpr ⟨w, mem_ways.mpr ⟨by simpa using h1, n2, fun x hx => ⟨(h3 x (List.mem_cons_of_mem _ hx)).1, fun z => ?_⟩⟩, rfl⟩⟩
        rcases mem_ins.mp z with e | z
        · exact n1 (by rw [← e]; exact hx)
        · exact (h3 x (List.mem_cons_of_mem _ hx)).2 z
theorem ways_nd {n : Nat} : ∀ {m : Nat} {s : List Nat}, (ways n m s).Nodup
  | 0, s => List.nodup_cons.mpr ⟨by simp, List.nodup_nil⟩
  | m + 1, s => by
    unfold ways
    refine List.pairwise_flatMap.mpr ⟨fun p _ => List.pairwise_map.mpr ((ways_nd (m := m)).imp fun h e => h (List.cons.inj e).2), ?_⟩
    have : (left n s).Nodup := List.nodup_range.filter _
    refine this.imp fun hne x hx y hy e => ?_
    obtain ⟨a, _, rfl⟩ := List.mem_map.mp hx
    obtain ⟨b, _, rfl⟩ := List.mem_map.mp hy
    exact hne (List.cons.inj e).1
section
variable {t t' : Nat → Nat → Int} {n : Nat}
theorem R_le : ∀ {m : Nat} {s : List Nat} {l : Nat} {w : List Nat}, w ∈ ways n m s → R t n m s l ≤ pth t (l :: (w ++ [0]))
  | 0, s, l, w, h => by
    unfold ways at h
    rw [List.mem_singleton.mp h]
    show t l 0 ≤ t l 0 + 0
    omega
  | m + 1, s, l, w, h => by
    unfold ways at h
    obtain ⟨p, hp, h⟩ := List.mem_flatMap.mp h
    obtain ⟨w', hw, rfl⟩ := List.mem_map.mp h
    have ih := R_le (l := p) hw
    have : R t n (m + 1) s l ≤ t l p + R t n m (ins p s) p := minL_le (List.mem_map.mpr ⟨p, hp, rfl⟩)
    show _ ≤ t l p + pth t (p :: (w' ++ [0]))
    omega
theorem R_att (h1 : 1 ≤ n) (h8 : n ≤ 8) : ∀ (m : Nat) (s : List Nat) (l j : Nat), (parts (n - 1))[j]? = some s → n - s.length = m → ∃ w ∈ ways n m s, pth t (l :: (w ++ [0])) = R t n m s l
  | 0, s, l, j, _, _ => ⟨[], by unfold ways; exact List.mem_cons_self .., by show t l 0 + 0 = t l 0; omega⟩
  | m + 1, s, l, j, hj, hm => by
    have ok := part_at h1 h8 hj
    have hne : left n s ≠ [] := fun e => by have := ok.full.mpr e; omega
    obtain ⟨p, hp, e⟩ := List.mem_map.mp (minL_mem (l := (left n s).map fun p => t l p + R t n m (ins p s) p) (by simpa using hne))
    obtain ⟨_, j', hj'⟩ := keys_next h1 h8 hj hp
    obtain ⟨w, hw, ew⟩ := R_att h1 h8 m (ins p s) p j' hj' (by rw [ins_len]; omega)
    refine ⟨p :: w, List.mem_flatMap.mpr ⟨p, hp, List.mem_map.mpr ⟨w, hw, rfl⟩⟩, ?_⟩
    show t l p + pth t (p :: (w ++ [0])) = minL _
    rw [ew, ← e]
theorem sum_flat {α β : Type} {f : α → List β} {g : β → Int} : ∀ {l : List α}, ((l.flatMap f).map g).sum = (l.map fun x => ((f x).map g).sum).sum
  | [] => rfl
  | a :: l => by rw [List.flatMap_cons, List.map_append, List.sum_append, sum_flat (l := l), List.map_cons, List.sum_cons]
theorem C_eq : ∀ {m : Nat} {s : List Nat} {l : Nat}, C t n m s l = ((ways n m s).map fun w => if pth t (l :: (w ++ [0])) = R t n m s l then (1 : Int) else 0).sum
  | 0, s, l => by
    show (1 : Int) = (if pth t (l :: ([] ++ [0])) = t l 0 then (1 : Int) else 0) + 0
    rw [if_pos (by show t l 0 + 0 = t l 0; omega)]; rfl
  | m + 1, s, l => by
    show (((left n s).filter fun p => decide (t l p + R t n m (ins p s) p = R t n (m + 1) s l)).map fun p => C t n m (ins p s) p).sum = (((left n s).flatMap fun p => (ways n m (ins p s)).map (p :: ·)).map _).sum
    rw [sum_filter, sum_flat]
    refine sum_cong fun p hp => ?_
    rw [List.map_map, C_eq (m := m), sum_if]
    refine sum_cong fun w hw => ?_
    show _ = if t l p + pth t (p :: (w ++ [0])) = R t n (m + 1) s l then (1 : Int) else 0
    have h1 := R_le (t := t) (l := p) hw
    have h2 : R t n (m + 1) s l ≤ t l p + R t n m (ins p s) p := minL_le (List.mem_map.mpr ⟨p, hp, rfl⟩)
    simp only [decide_eq_true_eq]
    by_cases e : t l p + R t n m (ins p s) p = R t n (m + 1) s l
    · rw [if_pos e]
      by_cases e2 : pth t (p :: (w ++ [0])) = R t n m (ins p s) p
      · rw [if_pos e2, if_pos (by omega)]
      · rw [if_neg e2, if_neg (by omega)]
    · rw [if_neg e, if_neg (by omega)]
def rounds (n : Nat) : List (List Nat) := ways n (n - 1) [0]
def cost (t : Nat → Nat → Int) (w : List Nat) : Int := pth t (0 :: (w ++ [0]))
theorem mem_rounds {w : List Nat} : w ∈ rounds n ↔ w.length = n - 1 ∧ w.Nodup ∧ ∀ x ∈ w, x < n ∧ x ≠ 0 := by
  unfold rounds
  rw [mem_ways]
  simp
theorem rest_le {w : List Nat} (h : w ∈ rounds n) : rest t n ([0], 0) ≤ cost t w := R_le h
theorem rest_att (h1 : 1 ≤ n) (h8 : n ≤ 8) : ∃ w ∈ rounds n, cost t w = rest t n ([0], 0) := by
  obtain ⟨j, hj⟩ : ∃ j : Nat, (parts (n - 1))[j]? = some [0] := List.mem_iff_getElem?.mp (by
    have : ∀ k, [0] ∈ parts k := fun k => by
      induction k with
      | zero => exact List.mem_cons_self ..
      | succ k ih => exact List.mem_append_left _ ih
    exact this _)
  exact R_att h1 h8 (n - 1) [0] 0 j hj rfl
theorem count_eq : count t n ([0], 0) = ((rounds n).map fun w => if cost t w = rest t n ([0], 0) then (1 : Int) else 0).sum := C_eq
theorem perm_sum' {l m : List Int} (h : l.Perm m) : l.sum = m.sum := by
  induction h with
  | nil => rfl
  | cons a _ ih => rw [List.sum_cons, List.sum_cons, ih]
  | swap a b l => simp only [List.sum_cons]; omega
  | trans _ _ ih1 ih2 => exact ih1.trans ih2
theorem alike {a b : Int} {φ : List Nat → List Nat} (h1 : 1 ≤ n) (h8 : n ≤ 8) (ha : 0 < a) (hφ : ((rounds n).map φ).Perm (rounds n)) (hc : ∀ w ∈ rounds n, cost t' (φ w) = a * cost t w + b) :
    rest t' n ([0], 0) = a * rest t n ([0], 0) + b ∧ count t' n ([0], 0) = count t n ([0], 0) := by
  have hr : rest t' n ([0], 0) = a * rest t n ([0], 0) + b := by
    obtain ⟨w, hw, e⟩ := rest_att (t := t) h1 h8
    have u1 : rest t' n ([0], 0) ≤ a * rest t n ([0], 0) + b := by
      rw [← e, ← hc w hw]
      exact rest_le (hφ.mem_iff.mp (List.mem_map.mpr ⟨w, hw, rfl⟩))
    obtain ⟨w', hw', e'⟩ := rest_att (t := t') h1 h8
    obtain ⟨w2, hw2, e2⟩ := List.mem_map.mp (hφ.mem_iff.mpr hw')
    have u2 : a * rest t n ([0], 0) + b ≤ rest t' n ([0], 0) := by
      rw [← e', ← e2, hc w2 hw2]
      have := Int.mul_le_mul_of_nonneg_left (rest_le (t := t) hw2) (Int.le_of_lt ha)
      omega
    omega
  refine ⟨hr, ?_⟩
  rw [count_eq, count_eq, ← perm_sum' (hφ.map fun w => if cost t' w = rest t' n ([0], 0) then (1 : Int) else 0), List.map_map]
  refine sum_cong fun w hw => ?_
  show (if cost t' (φ w) = rest t' n ([0], 0) then (1 : Int) else 0) = _
  rw [hc w hw, hr]
  by_cases e : cost t w = rest t n ([0], 0)
  · rw [if_pos e, if_pos (by rw [e])]
  · rw [if_neg e, if_neg]
    intro z
    have : a * cost t w = a * rest t n ([0], 0) := by omega
    exact e (Int.eq_of_mul_eq_mul_left (by omega) this)
theorem pth_rev : ∀ {g : List Nat}, pth (fun i j => t j i) g.reverse = pth t g
  | [] => rfl
  | [_] => rfl
  | a :: b :: g => by
    have ih := pth_rev (g := b :: g)
    rw [List.reverse_cons, List.reverse_cons] at *
    rw [pth_snoc, ih]
    show pth t (b :: g) + t a b = t a b + pth t (b :: g)
    omega
theorem rev_perm : ((rounds n).map List.reverse).Perm (rounds n) := by
  refine (List.perm_ext_iff_of_nodup (List.pairwise_map.mpr (ways_nd.imp fun h e => h (List.reverse_inj.mp e))) ways_nd).mpr fun w => ?_
  rw [List.mem_map]
  constructor
  · rintro ⟨v, hv, rfl⟩
    obtain ⟨h1, h2, h3⟩ := mem_rounds.mp hv
    exact mem_rounds.mpr ⟨by rw [List.length_reverse]; exact h1, (List.reverse_perm v).nodup_iff.mpr h2, fun x hx => h3 x (List.mem_reverse.mp hx)⟩
  · intro hw
    obtain ⟨h1, h2, h3⟩ := mem_rounds.mp hw
    exact ⟨w.reverse, mem_rounds.mpr ⟨by rw [List.length_reverse]; exact h1, (List.reverse_perm w).nodup_iff.mpr h2, fun x hx => h3 x (List.mem_reverse.mp hx)⟩, List.reverse_reverse _⟩
theorem turned (h1 : 1 ≤ n) (h8 : n ≤ 8) : rest (fun i j => t j i) n ([0], 0) = rest t n ([0], 0) ∧ count (fun i j => t j i) n ([0], 0) = count t n ([0], 0) := by
  have := alike (t := t) (t' := fun i j => t j i) (a := 1) (b := 0) h1 h8 (by decide) rev_perm fun w _ => by
    have e := pth_rev (t := t) (g := 0 :: (w ++ [0]))
    rw [List.reverse_cons, List.reverse_append] at e
    unfold cost
    rw [Int.one_mul, Int.add_zero, ← e]
    rfl
  rw [Int.one_mul, Int.add_zero] at this
  exact this
theorem pth_last {a p : Nat} : ∀ {g : List Nat}, pth t (a :: (g ++ [p])) = pth t (a :: g) + t ((a :: g).getLast (by simp)) p
  | [] => by show t a p + 0 = 0 + t a p; omega
  | b :: g => by
    have := pth_last (a := b) (p := p) (g := g)
    show t a b + pth t (b :: (g ++ [p])) = t a b + pth t (b :: g) + _
    rw [this, List.getLast_cons (l := b :: g) (by simp)]
    omega
end
end K06.S
namespace K06.S
open PySem L2
theorem keysR_at : ∀ {P : List (List Nat)} {i : Nat} {k : Ky}, (keysR P)[i]? = some k → ∃ j : Nat, P[j]? = some k.1 ∧ k.2 ∈ lasts k.1 ∧ ∀ k' ∈ keysR (P.drop (j + 1)), k' ∈ (keysR P).take i
  | [], i, k, h => by cases h
  | q :: P, i, k, h => by
    rw [keysR_cons] at h ⊢
    rcases get_app h with ⟨hi, h⟩ | ⟨hi, h⟩
    · obtain ⟨j, h1, h2, h3⟩ := keysR_at h
      refine ⟨j + 1, by simpa using h1, h2, fun k' hk => ?_⟩
      rw [List.take_append_of_le_length (by omega)]
      exact h3 k' (by simpa using hk)
    · unfold keysOf at h
      rw [List.getElem?_map] at h
      obtain ⟨l, hl, rfl⟩ := Option.map_eq_some_iff.mp h
      refine ⟨0, rfl, List.mem_of_getElem? hl, fun k' hk => ?_⟩
      have hk' : k' ∈ keysR P := by simpa using hk
      rw [List.take_append, List.mem_append]
      exact .inl (by rw [List.take_of_length_le hi]; exact hk')
theorem keysR_nd {n : Nat} : ∀ {P : List (List Nat)}, chk n P = true → (keysR P).Nodup
  | [], _ => List.nodup_nil
  | s :: P, h => by
    unfold chk at h
    rw [Bool.and_eq_true] at h
    have ok := one_ok h.1
    rw [keysR_cons]
    refine List.nodup_append.mpr ⟨keysR_nd h.2, ?_, fun a ha b hb e => ?_⟩
    · unfold keysOf
      exact List.pairwise_map.mpr ((lasts_of ok).1.imp fun hne e => hne (Prod.mk.inj e).2)
    · subst e
      unfold keysOf at hb
      obtain ⟨l, _, rfl⟩ := List.mem_map.mp hb
      exact ok.new (mem_keysR.mp ha).1
theorem keys_nd {n : Nat} (h1 : 1 ≤ n) (h8 : n ≤ 8) : (keys n).Nodup := by
  have c := chk_ok (n - 1) (by omega)
  rw [show n - 1 + 1 = n by omega] at c
  exact keysR_nd c
theorem nd_take {α : Type} {l : List α} {i : Nat} {x : α} (nd : l.Nodup) (h : l[i]? = some x) : x ∉ l.take i := fun hm => by
  obtain ⟨m, hm'⟩ := List.mem_iff_getElem?.mp hm
  rw [List.getElem?_take] at hm'
  split at hm'
  · rename_i hlt
    have hjl := List.getElem?_eq_some_iff.mp h
    have hml := List.getElem?_eq_some_iff.mp hm'
    have := (List.getElem_inj nd).mp (hml.2.trans hjl.2.symm)
    omega
  · cases hm'
section
variable {K : PySem.W.Frag} {S : Addr}
theorem loop_pairs {vars : List Nat} {tb : TS} {acc a : Addr} {σ : St} {H : Hp} {xs : List V} {j k : Nat} {L : Nat → List V} (U : Nat → V → V → Prop) (hj : j ∈ vars) (hk : k ∈ vars) (hjk : k ≠ j) (hjl : j < σ.length) (hkl : k < σ.length) (hs : ∀ H', SameX acc H H' → SqL K H' a xs)
    (hr : ∀ i x H', xs[i]? = some x → SameX acc H H' → ∃ b u w, x = .ref b ∧ SqT K H' b [u, w] ∧ U i u w)
    (h : ∀ (i : Nat) (u w : V) σ' H', i < xs.length → U i u w → σ'.length = σ.length → Agree vars σ σ' → σ'[j]? = some (some u) → σ'[k]? = some (some w) → SameX acc H H' → (∃ pre, H' acc = some (.lst pre)) → Emits vars tb acc σ' H' (L i)) :
    Emits vars (tLoop (Itl K a) (gTup K 2 (gCons (gName j) (gCons (gName k) gNil))) tb) acc σ H ((List.range xs.length).flatMap L) := by
  intro D pre ha hz hd
  refine for_list (K := K) (a := a) (xs := xs) (D := D) (fun i σ' H' => i ≤ xs.length ∧ σ'.length = σ.length ∧ Agree vars σ σ' ∧ SameX acc H H' ∧ H' acc = some (.lst (pre ++ (List.range i).flatMap L))) ⟨Nat.zero_le _, rfl, Agree.refl _ _, SameX.refl _ _, by simpa using ha⟩ (fun i σ1 H1 _ ⟨_, _, _, sx1, _⟩ => hs H1 sx1) (fun i x σ1 H1 hx ⟨_, hl1, ag1, sx1, e1⟩ => ?_) fun σ1 H1 ⟨_, hl1, ag1, sx1, e1⟩ => hd σ1 H1 hl1 ag1 sx1 e1
  have hi : i < xs.length := (List.getElem?_eq_some_iff.mp hx).1
  have hle := flatMap_range_le L (show i + 1 ≤ xs.length from hi)
  rw [flatMap_range_succ, List.length_append] at hle
  obtain ⟨b, u, w, rfl, hb, hU⟩ := hr i x H1 hx sx1
  refine ⟨b, [u, w], rfl, hb, rfl, u, [w], rfl, w, [], rfl, rfl, ?_⟩
  have ag2 : Agree vars σ ((σ1.set j (some u)).set k (some w)) := (ag1.trans (Agree.set hj _)).trans (Agree.set hk _)
  refine h i u w ((σ1.set j (some u)).set k (some w)) H1 hi hU (by rw [List.length_set, List.length_set]; exact hl1) ag2 ?_ (set_at (by rw [List.length_set]; omega)) sx1 ⟨_, e1⟩ _ _ e1 (by rw [List.length_append]; omega) fun σ' H' hl ag sx h2 => ⟨hi, (hl.trans (by rw [List.length_set, List.length_set])).trans hl1, ag2.trans ag, sx1.trans sx, by rw [h2, flatMap_range_succ, List.append_assoc]⟩
  rw [List.getElem?_set_ne hjk]
  exact set_at (by omega)
theorem flat_filter {α β : Type} (l : List α) (c : α → Bool) (g : α → β) (L : Nat → List β) (h : ∀ i x, l[i]? = some x → L i = if c x = true then [g x] else []) : (List.range l.length).flatMap L = (l.filter c).map g := by
  have key : ∀ k, k ≤ l.length → (List.range k).flatMap L = ((l.take k).filter c).map g := fun k => by
    induction k with
    | zero => intro _; rfl
    | succ k ih =>
      intro hk
      have e : l[k]? = some l[k] := List.getElem?_eq_getElem (by omega)
      rw [flatMap_range_succ, ih (by omega), h k _ e, List.take_add_one, e, List.filter_append, List.map_append]
      congr 1
      show _ = (List.filter c [l[k]]).map g
      cases hc : c l[k] <;> simp [List.filter, hc]
  rw [key _ (Nat.le_refl _), List.take_length]
theorem DPk.x {H H' : Hp} {d d2 : Addr} {xs xs2 : PEs} {ep ep2 : Nat} {ks : List Ky} {f : Ky → Int} (h : DPk H d xs ep ks f) (hd : H d2 = some (dpO d2 xs2 ep2)) (hne : d ≠ d2) (s : SameX d2 H H') : DPk H' d xs ep ks f :=
  ⟨⟨s _ _ hne h.1.1, fun x hx => let ⟨b, e1, e2⟩ := h.1.2 x hx; ⟨b, s _ _ (fun z => by rw [z, hd] at e1; cases e1) e1, s _ _ (fun z => by rw [z, hd] at e2; cases e2) e2⟩⟩, h.2⟩
def spMany (K : PySem.W.Frag) : Sp := fun vs H Q _ => ∃ (v : V) (T : List (List Int)) (n : Nat), vs = [v] ∧ Tb K H v T n ∧ ∀ H', Same H H' → Q (.int (count (at2 T) n ([0], 0))) H'
theorem rd_many (hS : ∀ H, KeyQ K H (kc ([0], 0)) S) : ∀ vs H Q E, spMany K vs H Q E → T_how_many K S (spJoin K) (spRests K) (spOnw K) { nx := fun _ H' => Q .non H', rt := Q } (start ["table", "rests", "counts", "some", "last", "rest", "best"] vs) H := by
  intro vs H Q E h
  obtain ⟨v, T, n, rfl, tb, q⟩ := h
  have h1 := tb.one
  have h8 := tb.most
  refine ⟨_, rfl, v, T, n, rfl, tb, fun d xs ep H1 s1 dp => ?_⟩
  intro d2 ep0 hd2
  have hne : d ≠ d2 := fun z => by rw [← z, dp.1.1] at hd2; cases hd2
  have s2 := same_new hd2 (dpO d2 [] ep0)
  have hd0 : upd H1 d2 (dpO d2 [] ep0) d2 = some (dpO d2 [] ep0) := upd_same
  show tSeq _ _ _ _ (upd H1 d2 (dpO d2 [] ep0))
  generalize upd H1 d2 (dpO d2 [] ep0) = H2 at s2 hd0 ⊢
  have dp2 := dp.same s2
  have up2 : ∀ {H' : Hp}, SameX d2 H2 H' → Same H1 H' := fun sx b u e => sx b u (ne_of_none e hd2) (s2 b u e)
  refine ⟨_, rfl, d, xs, ep, rfl, dp2.1.1, ?_⟩
  refine for_items (d := d) (xs := xs) (ep := ep) (fun i σ' H' => i ≤ xs.length ∧ (∃ xs2 ep2 x3 x4 x5 x6, σ' = [some v, some (.ref d), some (.ref d2), x3, x4, x5, x6] ∧ DPk H' d2 xs2 ep2 ((keys n).take i) (count (at2 T) n)) ∧ SameX d2 H2 H') ⟨Nat.zero_le _, ⟨[], ep0, none, none, none, none, rfl, ⟨hd0, fun x hx => by cases hx⟩, rfl⟩, SameX.refl _ _⟩ (fun i σ' H' _ ⟨_, _, sx⟩ => sx _ _ hne dp2.1.1) ?_ ?_
  · rintro i x σ1 H3 p hx hp ⟨_, ⟨xs2, ep2, x3, x4, x5, x6, rfl, dc⟩, sx⟩
    have hi : i < xs.length := (List.getElem?_eq_some_iff.mp hx).1
    have dp3 := dp2.x hd0 hne sx
    obtain ⟨⟨s, l⟩, b, hk, e1, e2, hc, hb⟩ := dp3.at hx
    rw [e2]
    have s3 := same_new hp (.tup [V.ref x.2.1, V.int (rest (at2 T) n (s, l))])
    refine ⟨p, _, rfl, .of upd_same, rfl, .ref x.2.1, [.int _], rfl, x.2.1, [.ref b, .int (l : Int)], rfl, .of (s3 _ _ hc), rfl, .ref b, [.int _], rfl, .int _, [], rfl, rfl, .int _, [], rfl, rfl, ?_⟩
    have hb4 := s3 _ _ hb
    have dp4 := dp3.same s3
    have dc4 := dc.same s3
    have sx4 : SameX d2 H2 (upd H3 p (.tup [V.ref x.2.1, V.int (rest (at2 T) n (s, l))])) := sx.trans s3.x
    show tSeq _ _ _ _ (upd H3 p (.tup [V.ref x.2.1, V.int (rest (at2 T) n (s, l))]))
    generalize upd H3 p (.tup [V.ref x.2.1, V.int (rest (at2 T) n (s, l))]) = H4 at hb4 dp4 dc4 sx4 ⊢
    have sm4 := up2 sx4
    have tb4 := tb.same (s1.trans sm4)
    obtain ⟨ta, rs, ev, hta, hrl, _⟩ := tb4.sh.tab
    subst ev
    have hrn : rs.length = n := by rw [hrl, tb.quad.len]
    obtain ⟨j, hj, hlast, hbefore⟩ := keysR_at (P := parts (n - 1)) hk
    have ok := part_at h1 h8 hj
    have hks : ∀ p ∈ left n s, (ins p s, p) ∈ (keys n).take i := fun p hp => hbefore _ (next_key h1 h8 ok (fun q hq => List.mem_of_mem_drop hq) hp)
    have hls : l ∈ s := (lasts_of ok).2.1 l hlast
    have hln := ok.lt l hls
    have hsl : s.length ≤ n := ok.le
    have hxl : xs2.length < sizeLine := by
      rw [dc.len, List.length_take]
      have := keys_len h1 h8
      exact Nat.lt_of_le_of_lt (show min i (keys n).length ≤ 1000 by omega) (by decide)
    have fin : ∀ (g : Addr) (H5 : Hp) (x6 : Option V), Same H4 H5 → H5 g = none → ∀ D : Ends, (∀ σ' H', (i + 1 ≤ xs.length ∧ (∃ xs2 ep2 x3 x4 x5 x6, σ' = [some (V.ref ta), some (.ref d), some (.ref d2), x3, x4, x5, x6] ∧ DPk H' d2 xs2 ep2 ((keys n).take (i + 1)) (count (at2 T) n)) ∧ SameX d2 H2 H') → D.nx σ' H') →
        ∃ a c xs ep k, V.ref d2 = V.ref a ∧ V.ref g = V.ref c ∧ DP (upd H5 g (.tup [.ref b, .int (l : Int)])) a xs ep ∧ KeyP (upd H5 g (.tup [.ref b, .int (l : Int)])) k c ∧ valP xs k = none ∧ xs.length < sizeLine ∧ ∀ ep', D.nx [some (V.ref ta), some (.ref d), some (.ref d2), some (.ref b), some (.int (l : Int)), some (.int (rest (at2 T) n (s, l))), x6] (upd (upd H5 g (.tup [.ref b, .int (l : Int)])) a (dpO a (xs ++ [(k, c, V.int (count (at2 T) n (s, l)))]) ep')) := fun g H5 x6 s5 hg D hD => by
      have s6 := same_new hg (.tup [V.ref b, .int (l : Int)])
      have dc6 := (dc4.same s5).same s6
      have kp : KeyP (upd H5 g (.tup [.ref b, .int (l : Int)])) (kc (s, l)) g := ⟨b, upd_same, s6 _ _ (s5 _ _ hb4)⟩
      refine ⟨d2, g, xs2, ep2, kc (s, l), rfl, rfl, dc6.1, kp, val_no dc4.2 (nd_take (keys_nd h1 h8) hk), hxl, fun ep' => hD _ _ ⟨hi, ⟨xs2 ++ [(kc (s, l), g, V.int (count (at2 T) n (s, l)))], ep', _, _, _, _, rfl, ?_⟩, (sx4.trans (s5.trans s6).x).trans (SameX.put _)⟩⟩
      have := DPk.put (ep' := ep') dc6 kp
      rw [List.take_add_one, hk]
      exact this
    by_cases hf : s.length = n
    · refine ⟨_, rfl, b, _, rfl, .inr (.of hb4), _, rfl, ta, rs, rfl, .inr hta, .int _, .int _, Nat.zero_le _, rfl, rfl, _, rfl, iteT' ?_ ?_⟩
      · rw [eqD_int, List.length_map, List.length_map, hrn]; exact decide_eq_true (by show (s.length : Int) = n; omega)
      refine ⟨_, rfl, _, rfl, _, rfl, by show 2 ≤ sizeLine; decide, fun g hg => ?_⟩
      have := fin g H4 x6 (Same.refl _) hg
      rw [count_full hf] at this
      exact this _ fun σ' H' z => z
    · have hlt : s.length < n := by omega
      refine ⟨_, rfl, b, _, rfl, .inr (.of hb4), _, rfl, ta, rs, rfl, .inr hta, .int _, .int _, Nat.zero_le _, rfl, rfl, _, rfl, iteF' ?_ ?_⟩
      · rw [eqD_int, List.length_map, List.length_map, hrn]; exact decide_eq_false (by show ¬ (s.length : Int) = n; omega)
      have hn0 : s ≠ [] := by obtain ⟨r, hr⟩ := ok.zero; intro e; rw [show s = 0 :: r from hr] at e; cases e
      have ll : (left n s).length ≤ 8 := by
        have := List.length_filter_le (fun p => !s.contains p) (List.range n)
        rw [List.length_range] at this
        unfold left
        omega
      refine ⟨_, rfl, _, rfl, _, rfl, _, rfl, .ref ta, T, n, d, b, xs, ep, keys n, rest (at2 T) n, s, l, rfl, tb4, dp4, .of hb4, ok.up, hn0, by omega, hln, fun p hp => (keys_next h1 h8 hj hp).1, fun r pre H5 s5 hr rows => ⟨r, rfl, .inl ⟨⟨_, .of hr⟩, fun acc ha => ?_⟩⟩⟩
      have lz : pre.length = (left n s).length := by rw [rows.1, List.length_map]
      refine comp_emitsD [0, 1] (((left n s).filter fun p => decide (at2 T l p + rest (at2 T) n (ins p s, p) = rest (at2 T) n (s, l))).map natV) ha (by
        rw [List.length_map]
        have := List.length_filter_le (fun p => decide (at2 T l p + rest (at2 T) n (ins p s, p) = rest (at2 T) n (s, l))) (left n s)
        omega) (Emits.cast (loop_pairs (K := K) (xs := pre) (L := fun i' => if decide (at2 T l ((left n s).getD i' 0) + rest (at2 T) n (ins ((left n s).getD i' 0) s, (left n s).getD i' 0) = rest (at2 T) n (s, l)) = true then [natV ((left n s).getD i' 0)] else []) (fun i' u w => u = .int (at2 T l ((left n s).getD i' 0) + rest (at2 T) n (ins ((left n s).getD i' 0) s, (left n s).getD i' 0)) ∧ w = natV ((left n s).getD i' 0)) (by decide) (by decide) (by decide) (by show 0 < 3; decide) (by show 1 < 3; decide) (fun H' sx => (same_of_x ha sx).seq (.of hr)) (fun i' y H' hy sx => ?_) fun i' u w σ' H' hi' hU hl' ag' st1 st2 sx' _ => ?_) ?_) fun σ' H6 s6 h6 => ?_
      · have hi' : i' < (left n s).length := by rw [← lz]; exact (List.getElem?_eq_some_iff.mp hy).1
        obtain ⟨c, e1, e2⟩ := rows.2 i' _ (by rw [List.getElem?_map, List.getElem?_eq_getElem hi']; rfl)
        rw [hy] at e1
        cases e1
        have eg : (left n s).getD i' 0 = (left n s)[i'] := by rw [List.getD_eq_getElem?_getD, List.getElem?_eq_getElem hi']; rfl
        rw [eg]
        exact ⟨c, _, _, rfl, (same_of_x ha sx).tup e2, rfl, rfl⟩
      · obtain ⟨rfl, rfl⟩ := hU
        have z2 : σ'[2]? = some (some (.int (rest (at2 T) n (s, l)))) := (ag' 2 (by decide)).trans rfl
        refine emits_if (fun _ _ => trivial) (fun Q hq => ⟨_, st1, _, z2, .int _, .int _, Nat.zero_le _, rfl, rfl, _, rfl, ?_⟩) fun hc H2 e2 => emits_one fun Q hq => ⟨_, st2, hq _ (Same.refl _)⟩
        rw [eqD_int]
        exact hq _ (Same.refl _)
      · rw [lz]
        exact flat_filter _ _ _ _ fun i' y hy => by rw [List.getD_eq_getElem?_getD, hy]; rfl
      · -- counts[some, last] = sum([..])
        have sm6 := s5.trans s6
        have dc6 := dc4.same sm6
        have hb6 := sm6 _ _ hb4
        generalize hbest : (left n s).filter (fun p => decide (at2 T l p + rest (at2 T) n (ins p s, p) = rest (at2 T) n (s, l))) = best at h6
        have hbl : best.length ≤ 8 := by
          have := List.length_filter_le (fun p => decide (at2 T l p + rest (at2 T) n (ins p s, p) = rest (at2 T) n (s, l))) (left n s)
          rw [hbest] at this
          omega
        have hbm : ∀ p ∈ best, p ∈ left n s := fun p hp => by rw [← hbest] at hp; exact (List.mem_filter.mp hp).1
        refine ⟨_, rfl, acc, rfl, .inl ⟨⟨_, .of h6⟩, fun acc2 ha2 => ?_⟩⟩
        refine comp_emitsD [0] ((best.map fun p => count (at2 T) n (ins p s, p)).map V.int) ha2 (by rw [List.length_map, List.length_map]; omega) (Emits.cast (loop_list (K := K) (xs := best.map natV) (L := fun i' => [V.int (count (at2 T) n (ins (best.getD i' 0) s, best.getD i' 0))]) (by decide) (by show 0 < 3; decide) (fun H' sx => (same_of_x ha2 sx).seq (.of h6)) fun i' y σ'' H' hy hl' ag' st1 sx' _ => ?_) ?_) fun σ'' H7 s7 h7 => ?_
        · rw [List.getElem?_map] at hy
          obtain ⟨p, hp, rfl⟩ := Option.map_eq_some_iff.mp hy
          have eg : best.getD i' 0 = p := by rw [List.getD_eq_getElem?_getD, hp]; rfl
          rw [eg]
          have hpl := hbm p (List.mem_of_getElem? hp)
          obtain ⟨hpn, hps⟩ := mem_left.mp hpl
          have z1 : σ''[1]? = some (some (.ref d2)) := (ag' 1 (by decide)).trans rfl
          have z2 : σ''[2]? = some (some (.ref b)) := (ag' 2 (by decide)).trans rfl
          have sm' := same_of_x ha2 sx'
          refine emits_one fun Q hq => ⟨_, z1, _, z2, _, st1, b, s, p, rfl, .of (sm' _ _ hb6), ok.up, hps, hn0, by omega, fun c H8 s8 hc8 => ⟨_, st1, by show 2 ≤ sizeLine; decide, fun g hg => ?_⟩⟩
          have s9 := same_new hg (.tup [V.ref c, natV p])
          exact ⟨d2, g, xs2, ep2, kc (ins p s, p), _, rfl, rfl, (dc6.same (sm'.trans (s8.trans s9))).1, ⟨c, .of upd_same, .of (s9 _ _ hc8)⟩, val_ks dc4.2 (hks p hpl), hq _ (s8.trans s9)⟩
        · rw [List.length_map, List.map_map]
          exact flat_one _ _ _ fun i' y hy => by rw [List.getD_eq_getElem?_getD, hy]; rfl
        · refine ⟨acc2, _, rfl, .inl (.of h7), ?_⟩
          refine ⟨_, rfl, _, rfl, _, rfl, by show 2 ≤ sizeLine; decide, fun g hg => ?_⟩
          have := fin g H7 (some (.ref acc)) (sm6.trans s7) hg
          rw [count_step hlt, hbest] at this
          exact this _ fun σ' H' z => z
  · rintro σ1 H3 ⟨_, ⟨xs2, ep2, x3, x4, x5, x6, rfl, dc⟩, sx⟩
    rw [dp.len, List.take_length] at dc
    exact ⟨_, rfl, d2, S, xs2, ep2, kc ([0], 0), _, rfl, rfl, dc.1, hS _, val_ks dc.2 (start_key h1 h8), q _ (s1.trans (up2 sx))⟩
end
end K06.S
namespace K06
open PySem L2 S
structure Vd (n : Nat) (s : List Nat) : Prop where
  up : s.Pairwise (· < ·)
  home : 0 ∈ s
  lt : ∀ k ∈ s, k < n
theorem Vd.range {n : Nat} {s : List Nat} (h : Vd n s) : (List.range n).filter (fun k => s.contains k) = s := by
  have nd : ∀ {l : List Nat}, l.Pairwise (· < ·) → l.Nodup := fun h => h.imp fun x e => absurd (e ▸ x) (Nat.lt_irrefl _)
  have up : ((List.range n).filter fun k => s.contains k).Pairwise (· < ·) := List.Pairwise.filter _ List.pairwise_lt_range
  refine List.Perm.eq_of_pairwise (le := (· ≤ ·)) (fun _ _ _ _ x y => Nat.le_antisymm x y) (up.imp Nat.le_of_lt) (h.up.imp Nat.le_of_lt) ((List.perm_ext_iff_of_nodup (nd up) (nd h.up)).mpr fun k => ?_)
  rw [List.mem_filter, List.mem_range, List.contains_iff_mem]
  exact ⟨fun z => z.2, fun z => ⟨h.lt k z, z⟩⟩
section
variable {K : PySem.W.Frag}
def Fl (K : PySem.W.Frag) (H : Hp) (pre : List V) (F : List (Ky × Int)) : Prop := pre.length = F.length ∧ ∀ (i : Nat) (f : Ky × Int), F[i]? = some f → ∃ b c, pre[i]? = some (.ref b) ∧ SqT K H b [.ref c, .int (f.1.2 : Int), .int f.2] ∧ H c = some (.tup ((ic f.1.1).map V.int))
theorem Fl.same {H H' : Hp} {pre : List V} {F : List (Ky × Int)} (h : Fl K H pre F) (s : Same H H') : Fl K H' pre F := ⟨h.1, fun i f e => let ⟨b, c, e1, e2, e3⟩ := h.2 i f e; ⟨b, c, e1, s.tup e2, s _ _ e3⟩⟩
theorem Fl.at {H : Hp} {pre : List V} {F : List (Ky × Int)} (h : Fl K H pre F) {i : Nat} {x : V} (hx : pre[i]? = some x) : ∃ f b c, F[i]? = some f ∧ x = .ref b ∧ SqT K H b [.ref c, .int (f.1.2 : Int), .int f.2] ∧ H c = some (.tup ((ic f.1.1).map V.int)) := by
  have hi : i < pre.length := (List.getElem?_eq_some_iff.mp hx).1
  have hl : i < F.length := by rw [← h.1]; exact hi
  obtain ⟨b, c, e1, e2, e3⟩ := h.2 i F[i] (List.getElem?_eq_getElem hl)
  rw [hx] at e1
  exact ⟨F[i], b, c, List.getElem?_eq_getElem hl, Option.some.inj e1, e2, e3⟩
def spWh (K : PySem.W.Frag) : Sp := fun vs H Q _ => ∃ i : Int, vs = [.int i] ∧ Q (.bl true) H
theorem rd_wh : ∀ vs H Q E, spWh K vs H Q E → T_is_whole K { nx := fun _ H' => Q .non H', rt := Q } (start ["thing"] vs) H := by
  intro vs H Q E h
  obtain ⟨i, rfl, q⟩ := h
  exact ⟨_, rfl, .int i, .int i, "int", rfl, .inl rfl, rfl, _, rfl, iteT' rfl ⟨_, rfl, .int i, .int i, "bool", rfl, .inr (.inl rfl), rfl, _, rfl, q⟩⟩
theorem rd_awh : ∀ vs H Q E, spWh K vs H Q E → T__law_awhole K { nx := fun _ H' => Q .non H', rt := Q } (start ["thing"] vs) H := rd_wh
def spWhs (K : PySem.W.Frag) : Sp := fun vs H Q _ => ∃ (a : Addr) (s : List Nat), vs = [.ref a] ∧ SqT K H a ((ic s).map V.int) ∧ s.length ≤ 63 ∧ ∀ H', Same H H' → Q (.bl true) H'
theorem rd_whs : ∀ vs H Q E, spWhs K vs H Q E → T_are_wholes K (spWh K) { nx := fun _ H' => Q .non H', rt := Q } (start ["thing"] vs) H := by
  intro vs H Q E h
  obtain ⟨a, s, rfl, ha, s63, q⟩ := h
  refine ⟨_, rfl, .ref a, .tup ((ic s).map Dt.int), "tuple", rfl, .inr (.inr (.inl rfl)), ⟨a, _, rfl, ha, ShL.ints _⟩, _, rfl, iteT' rfl ?_⟩
  refine ⟨_, rfl, a, rfl, .inr ⟨⟨_, ha⟩, fun A hA => ?_⟩⟩
  refine inv_tup (K := K) (a := a) (vars := [0]) (xs := (ic s).map V.int) (fun i ys H' => i ≤ s.length ∧ ys = (List.replicate i true).map V.bl) (by decide) (by show 0 < 1; decide) ⟨Nat.zero_le _, rfl⟩ hA ha (fun i x σ1 H1 ys D1 hx l1 ag s0 sm ha1 ⟨_, hL⟩ hD => ?_) fun σ1 H1 ys sm ha1 ⟨_, hL⟩ => ?_
  · have hi : i < s.length := by have := (List.getElem?_eq_some_iff.mp hx).1; simpa [ic] using this
    obtain ⟨j, rfl⟩ : ∃ j : Int, x = .int j := by
      rw [List.getElem?_map] at hx
      cases e : (ic s)[i]? with
      | none => rw [e] at hx; cases hx
      | some j => rw [e] at hx; exact ⟨j, (Option.some.inj hx).symm⟩
    refine ⟨_, s0, j, rfl, ys, ha1, ?_, hD σ1 _ (ys ++ [.bl true]) l1 ag (samePut hA sm) upd_same ⟨hi, ?_⟩⟩
    · rw [hL, List.length_map, List.length_replicate]; exact Nat.lt_of_le_of_lt (show i ≤ 63 by omega) (by decide)
    · rw [hL, List.replicate_succ', List.map_append]; rfl
  · refine ⟨A, _, rfl, .inl (.of (by rw [ha1, hL])), ?_⟩
    rw [show (List.replicate ((ic s).map V.int).length true).all id = true by rw [List.all_eq_true]; intro b hb; exact (List.eq_of_mem_replicate hb)]
    exact q H1 sm
def spHome (K : PySem.W.Frag) : Sp := fun vs H Q _ => ∃ (v : V) (T : List (List Int)) (n : Nat) (a : Addr) (s : List Nat), vs = [v, .ref a] ∧ Tb K H v T n ∧ SqT K H a ((ic s).map V.int) ∧ s.length ≤ 63 ∧ Vd n s ∧ ∀ H', Same H H' → Q (.bl true) H'
theorem in_ic {H : Hp} {b : Addr} {x : Nat} {s : List Nat} {neg : Bool} {Q : VK} (hb : SqT K H b ((ic s).map V.int)) (h : Q (.bl (if neg then !s.contains x else s.contains x)) H) : rInD K neg (.int (x : Int)) (.ref b) H Q :=
  .inl (.inl (.inl ⟨b, (ic s).map V.int, rfl, .inr hb, rfl, flat_ic, by rw [inV_ic]; exact h⟩))
end
end K06
namespace K06
open PySem L2 S
theorem val_map {k k' : PKy} {v : V} : ∀ xs : PEs, valP (xs.map fun x => if x.1 = k then (x.1, x.2.1, v) else x) k' = if k' = k then (if (xs.any fun x => decide (x.1 = k)) = true then some v else none) else valP xs k'
  | [] => by
    unfold valP
    by_cases h : k' = k <;> simp [h]
  | x :: xs => by
    have ih := val_map (k := k) (k' := k') (v := v) xs
    unfold valP at ih ⊢
    rw [List.map_cons, List.find?_cons]
    by_cases h : x.1 = k
    · rw [if_pos h]
      by_cases h2 : k' = k
      · subst h2
        simp [h]
      · rw [if_neg h2]
        have h3 : ¬ x.1 = k' := fun e => h2 (e.symm.trans h)
        rw [if_neg h2] at ih
        simp only [h3, decide_false, List.find?_cons]
        exact ih
    · rw [if_neg h]
      by_cases h2 : k' = k
      · subst h2
        rw [if_pos rfl] at ih ⊢
        simp only [h, decide_false, List.any_cons, Bool.false_or]
        exact ih
      · rw [if_neg h2] at ih ⊢
        rw [List.find?_cons]
        by_cases h3 : x.1 = k'
        · simp [h3]
        · simp only [h3, decide_false]
          exact ih
theorem val_putP {xs : PEs} {k k' : PKy} {c : Addr} {v : V} : valP (putP xs k c v) k' = if k' = k then some v else valP xs k' := by
  unfold putP
  by_cases h : (xs.any fun x => decide (x.1 = k)) = true
  · rw [if_pos h, val_map, if_pos h]
  · rw [if_neg h]
    unfold valP
    rw [List.find?_append]
    have hn : xs.find? (fun x => decide (x.1 = k)) = none := by
      rw [List.find?_eq_none]
      intro x hx
      exact fun z => h (List.any_eq_true.mpr ⟨x, hx, z⟩)
    by_cases h2 : k' = k
    · subst h2
      rw [hn, if_pos rfl]; simp
    · rw [if_neg h2]
      have h3 : ¬ k = k' := fun e => h2 e.symm
      simp [h3]
def hiS (F : List (Ky × Int)) (k : Ky) : Option Int := F.foldl (fun o f => if f.1 = k then some (if o.getD f.2 > f.2 then o.getD f.2 else f.2) else o) none
theorem hiS_snoc (F : List (Ky × Int)) (f : Ky × Int) (k : Ky) : hiS (F ++ [f]) k = if f.1 = k then some (if (hiS F k).getD f.2 > f.2 then (hiS F k).getD f.2 else f.2) else hiS F k := by
  unfold hiS
  rw [List.foldl_append]; rfl
section
variable {K : PySem.W.Frag}
theorem rd_home : ∀ vs H Q E, spHome K vs H Q E → T_is_part_with_home K (spWhs K) { nx := fun _ H' => Q .non H', rt := Q } (start ["table", "thing"] vs) H := by
  intro vs H Q E h
  obtain ⟨v, T, n, a, s, rfl, tb, ha, s63, vd, q⟩ := h
  have n8 := tb.most
  refine ⟨_, rfl, a, s, rfl, ha, s63, fun H1 s1 => ⟨_, rfl, iteF' rfl ?_⟩⟩
  refine ⟨_, rfl, in_ic (x := 0) (neg := true) (s1.tup ha) ⟨_, rfl, iteF' (by rw [show s.contains 0 = true from List.contains_iff_mem.mpr vd.home]; rfl) ?_⟩⟩
  refine ⟨_, rfl, .inl ⟨a, _, rfl, .inr (s1.tup ha), fun lf hlf => ?_⟩⟩
  have s2 := same_new hlf (.lst ((ic s).map V.int))
  have m2 := s1.trans s2
  have hlf2 : (upd H1 lf (.lst ((ic s).map V.int))) lf = some (.lst ((ic s).map V.int)) := upd_same
  show tComp _ _ _ _ _ _ (upd H1 lf (.lst ((ic s).map V.int))) _
  generalize upd H1 lf (.lst ((ic s).map V.int)) = H2 at m2 hlf2 ⊢
  obtain ⟨ta, rs, rfl, hta, hrl, _⟩ := (Sh.tab (K := K) (H := H2) (T := T) (v := v) (Sh.same m2 tb.sh))
  refine ⟨_, rfl, ta, rs, rfl, .inr hta, (n : Int), by rw [hrl, tb.quad.len], by omega, by omega, fun A hA => ?_⟩
  rw [Int.toNat_natCast]
  refine inv_range (lo := 0) (n := n) (vars := [0]) (fun i ys H' => i ≤ n ∧ ys = (ic ((List.range i).filter fun k => s.contains k)).map V.int) (by decide) (by show 0 < 2; decide) ⟨Nat.zero_le _, rfl⟩ hA (fun i σ1 H3 ys D1 hi l1 ag s0 sm ha3 ⟨_, hL⟩ hD => ?_) fun σ1 H3 ys sm ha3 ⟨_, hL⟩ => ?_
  · rw [Int.zero_add] at s0
    have u1 : σ1[1]? = some (some (.ref a)) := (ag 1 (by decide)).trans rfl
    refine ⟨_, s0, _, u1, in_ic (x := i) (neg := false) ((m2.trans sm).tup ha) ⟨_, rfl, ?_⟩⟩
    have rs : (List.range (i + 1)).filter (fun k => s.contains k) = (List.range i).filter (fun k => s.contains k) ++ if s.contains i = true then [i] else [] := by
      rw [List.range_succ, List.filter_append]
      congr 1
      by_cases c : s.contains i = true
      · rw [if_pos c, List.filter_cons_of_pos c]; rfl
      · rw [if_neg c, List.filter_cons_of_neg c]; rfl
    by_cases c : s.contains i = true
    · rw [if_pos c] at rs
      refine iteT' c ⟨_, s0, ys, ha3, ?_, hD σ1 _ (ys ++ [.int (i : Int)]) l1 ag (samePut hA sm) upd_same ⟨hi, ?_⟩⟩
      · rw [hL]
        have := List.length_filter_le (fun k => s.contains k) (List.range i)
        rw [List.length_range] at this
        simp only [ic, List.length_map]
        exact Nat.lt_of_le_of_lt (show _ ≤ 8 by omega) (by decide)
      · rw [hL, rs]; simp [ic]
    · rw [if_neg c, List.append_nil] at rs
      exact iteF' (Bool.not_eq_true _ |>.mp c) (hD σ1 H3 ys l1 ag sm ha3 ⟨hi, by rw [hL, rs]⟩)
  · rw [vd.range] at hL
    refine ⟨.lst ((ic s).map Dt.int), .lst ((ic s).map Dt.int), ?_, ⟨lf, _, rfl, .of (sm _ _ hlf2), ShL.ints _⟩, ⟨A, _, rfl, .of (by rw [ha3, hL]), ShL.ints _⟩, ?_⟩
    · have : ∀ ns : List Int, depL (ns.map Dt.int) = 0 := fun ns => by
        induction ns with
        | nil => rfl
        | cons n ns ih => rw [List.map_cons, depL, ih]; rfl
      rw [dep, this]; decide
    · rw [eqD_refl]
      exact q H3 (m2.trans sm)
def spFlr (K : PySem.W.Frag) : Sp := fun vs H Q _ => ∃ (v : V) (T : List (List Int)) (n : Nat) (b c : Addr) (s : List Nat) (l : Nat) (h : Int), vs = [v, .ref b] ∧ Tb K H v T n ∧ SqT K H b [.ref c, .int (l : Int), .int h] ∧ SqT K H c ((ic s).map V.int) ∧ s.length ≤ 63 ∧ Vd n s ∧ ∀ H', Same H H' → Q (.bl (s.contains l)) H'
theorem rd_flr : ∀ vs H Q E, spFlr K vs H Q E → T_is_floor K (spHome K) (spWh K) { nx := fun _ H' => Q .non H', rt := Q } (start ["table", "thing", "some", "last", "height"] vs) H := by
  intro vs H Q E h
  obtain ⟨v, T, n, b, c, s, l, h, rfl, tb, hb, hc, s63, vd, q⟩ := h
  refine ⟨_, rfl, .ref b, .tup [.tup ((ic s).map Dt.int), .int (l : Int), .int h], "tuple", rfl, .inr (.inr (.inl rfl)), ⟨b, _, rfl, hb, .ref c, _, rfl, ⟨c, _, rfl, hc, ShL.ints _⟩, .int (l : Int), _, rfl, rfl, .int h, _, rfl, rfl, rfl⟩, _, rfl, iteF' rfl ?_⟩
  refine ⟨_, rfl, b, _, rfl, .inr hb, .int 3, .int 3, Nat.zero_le _, rfl, rfl, _, rfl, iteF' (by rw [eqD_refl]; rfl) ?_⟩
  refine ⟨_, rfl, b, _, rfl, hb, rfl, .ref c, [.int (l : Int), .int h], rfl, .int (l : Int), [.int h], rfl, .int h, [], rfl, rfl, ?_⟩
  refine ⟨_, rfl, _, rfl, v, T, n, c, s, rfl, tb, hc, s63, vd, fun H1 s1 => ⟨_, rfl, iteT' rfl ⟨_, rfl, (l : Int), rfl, _, rfl, iteT' rfl ⟨_, rfl, _, rfl, in_ic (neg := false) (s1.tup hc) ⟨_, rfl, ?_⟩⟩⟩⟩⟩
  cases cc : s.contains l with
  | true =>
    refine iteT' rfl ⟨_, rfl, h, rfl, ?_⟩
    have := q H1 s1
    rw [cc] at this; exact this
  | false =>
    refine iteF' rfl ?_
    have := q H1 s1
    rw [cc] at this; exact this
end
end K06
namespace K06
open PySem L2 S
theorem mem_putP {xs : PEs} {k : PKy} {c : Addr} {v : V} {x : PKy × Addr × V} (h : x ∈ putP xs k c v) : x ∈ xs ∨ x = (k, c, v) ∨ ∃ y ∈ xs, x = (y.1, y.2.1, v) := by
  unfold putP at h
  split at h
  · obtain ⟨y, hy, rfl⟩ := List.mem_map.mp h
    by_cases c : y.1 = k
    · rw [if_pos c]; exact .inr (.inr ⟨y, hy, rfl⟩)
    · rw [if_neg c]; exact .inl hy
  · rcases List.mem_append.mp h with h | h
    · exact .inl h
    · exact .inr (.inl (List.mem_singleton.mp h))
theorem keyP_x {H H' : Hp} {k : PKy} {c d : Addr} {u : HO} (h : KeyP H k c) (hd : H d = some u) (hu : ∀ ys, u ≠ .tup ys) (s : SameX d H H') : KeyP H' k c := by
  obtain ⟨b, e1, e2⟩ := h
  exact ⟨b, s _ _ (fun e => by rw [e, hd] at e1; exact hu _ (Option.some.inj e1)) e1, s _ _ (fun e => by rw [e, hd] at e2; exact hu _ (Option.some.inj e2)) e2⟩
theorem dp_tup {a : Addr} {xs : PEs} {ep : Nat} : ∀ ys, dpO a xs ep ≠ .tup ys := fun ys e => by cases e
theorem sameX_upd {H : Hp} {d : Addr} {o : HO} : SameX d H (upd H d o) := fun b u hb e => by rw [upd_ne hb]; exact e
theorem dp_put {H : Hp} {d c : Addr} {xs : PEs} {ep ep' : Nat} {k : PKy} {v : V} (h : DP H d xs ep) (hk : KeyP H k c) : DP (upd H d (dpO d (putP xs k c v) ep')) d (putP xs k c v) ep' := by
  refine ⟨upd_same, fun x hx => ?_⟩
  have up : ∀ {k c}, KeyP H k c → KeyP (upd H d (dpO d (putP xs k c v) ep')) k c := fun z => keyP_x z h.1 dp_tup sameX_upd
  have up' : ∀ {k' c'}, KeyP H k' c' → KeyP (upd H d (dpO d (putP xs k c v) ep')) k' c' := fun z => keyP_x z h.1 dp_tup sameX_upd
  rcases mem_putP hx with hx | rfl | ⟨y, hy, rfl⟩
  · exact up' (h.2 x hx)
  · exact up' hk
  · exact up' (h.2 y hy)
section
variable {K : PySem.W.Frag}
def Hd (H : Hp) (d : Addr) (g : Ky → Option Int) : Prop := ∃ xs ep, DP H d xs ep ∧ ∀ k, valP xs (kc k) = (g k).map V.int
theorem Hd.same {H H' : Hp} {d : Addr} {g : Ky → Option Int} (h : Hd H d g) (s : Same H H') : Hd H' d g := let ⟨xs, ep, a, b⟩ := h; ⟨xs, ep, DP.same a s, b⟩
def spHigh (K : PySem.W.Frag) : Sp := fun vs H Q _ => ∃ (fa : Addr) (pre : List V) (F : List (Ky × Int)), vs = [.ref fa] ∧ H fa = some (.lst pre) ∧ Fl K H pre F ∧ F.length ≤ 5000 ∧ ∀ d H', Same H H' → Hd H' d (hiS F) → Q (.ref d) H'
theorem rd_high : ∀ vs H Q E, spHigh K vs H Q E → T_highest_floors K { nx := fun _ H' => Q .non H', rt := Q } (start ["floors", "highest", "some", "last", "height"] vs) H := by
  intro vs H Q E h
  obtain ⟨fa, pre, F, rfl, hfa, fl, fz, q⟩ := h
  intro d ep0 hd
  have s0 := same_new hd (dpO d [] ep0)
  refine ⟨_, rfl, fa, rfl, .inl ⟨⟨_, .of (s0 _ _ hfa)⟩, ?_⟩⟩
  refine for_list (K := K) (a := fa) (xs := pre) (fun i σ' H' => i ≤ pre.length ∧ ∃ x2 x3 x4 xs ep, σ' = [some (.ref fa), some (.ref d), x2, x3, x4] ∧ Same H H' ∧ DP H' d xs ep ∧ xs.length ≤ i ∧ ∀ k, valP xs (kc k) = (hiS (F.take i) k).map V.int) ⟨Nat.zero_le _, _, _, _, [], ep0, rfl, s0, ⟨upd_same, fun x hx => by cases hx⟩, Nat.zero_le _, fun k => rfl⟩ (fun i σ1 H1 _ ⟨_, _, _, _, _, _, _, s1, _⟩ => .of (s1 _ _ hfa)) (fun i x σ1 H1 hx ⟨_, x2, x3, x4, xs, ep, es, s1, dp, xl, hv⟩ => ?_) fun σ1 H1 ⟨_, x2, x3, x4, xs, ep, es, s1, dp, xl, hv⟩ => ?_
  · subst es
    have hi : i < pre.length := (List.getElem?_eq_some_iff.mp hx).1
    obtain ⟨f, b, c, he, rfl, hb, hc⟩ := (fl.same s1).at hx
    have fle : pre.length = F.length := fl.1
    refine ⟨b, _, rfl, hb, rfl, .ref c, [.int (f.1.2 : Int), .int f.2], rfl, .int (f.1.2 : Int), [.int f.2], rfl, .int f.2, [], rfl, rfl, ?_⟩
    refine ⟨_, rfl, _, rfl, d, xs, ep, rfl, dp, _, rfl, _, rfl, show 2 ≤ sizeLine by decide, fun z hz => ?_⟩
    have sz := same_new hz (.tup [V.ref c, .int (f.1.2 : Int)])
    have dpz := DP.same dp sz
    have kz : KeyP (upd H1 z (.tup [V.ref c, .int (f.1.2 : Int)])) (kc f.1) z := ⟨c, upd_same, sz _ _ hc⟩
    refine ⟨_, rfl, z, xs, ep, kc f.1, rfl, dpz, kz.q, ?_⟩
    have eg : (valP xs (kc f.1)).getD (V.int f.2) = V.int ((hiS (F.take i) f.1).getD f.2) := by
      rw [hv]
      cases hiS (F.take i) f.1 <;> rfl
    rw [eg]
    refine ⟨f.2, _, rfl, _, rfl, _, rfl, _, rfl, show 2 ≤ sizeLine by decide, fun y hy => ?_⟩
    have sy := same_new hy (.tup [V.ref c, .int (f.1.2 : Int)])
    have dpy := DP.same dpz sy
    have ky : KeyP (upd (upd H1 z (.tup [V.ref c, .int (f.1.2 : Int)])) y (.tup [V.ref c, .int (f.1.2 : Int)])) (kc f.1) y := ⟨c, upd_same, sy _ _ (sz _ _ hc)⟩
    refine ⟨d, y, xs, ep, kc f.1, rfl, rfl, dpy, ky, Nat.lt_of_le_of_lt (show xs.length ≤ 5000 by omega) (by decide), fun ep' => ?_⟩
    have pz := putP_len (xs := xs) (k := kc f.1) (c := y) (v := V.int (if (hiS (F.take i) f.1).getD f.2 > f.2 then (hiS (F.take i) f.1).getD f.2 else f.2))
    refine ⟨hi, _, _, _, _, ep', rfl, samePut hd (s1.trans (sz.trans sy)), dp_put dpy ky, by omega, fun k => ?_⟩
    rw [val_putP, List.take_add_one, he]
    show _ = (hiS (F.take i ++ [f]) k).map V.int
    rw [hiS_snoc]
    by_cases hk : f.1 = k
    · subst hk
      rw [if_pos rfl, if_pos rfl]; rfl
    · rw [if_neg hk, if_neg fun e => hk (kc_inj e).symm, hv]
  · subst es
    rw [fl.1, List.take_length] at hv
    exact ⟨_, rfl, q d H1 s1 ⟨xs, ep, dp, hv⟩⟩
def heldB (g : Ky → Option Int) (k : Ky) (h : Int) : Bool := decide (h ≤ 0) || (match g k with | some x => decide (x ≥ h) | none => false)
def spHeld (K : PySem.W.Frag) : Sp := fun vs H Q _ => ∃ (d c : Addr) (g : Ky → Option Int) (s : List Nat) (l : Nat) (h : Int), vs = [.ref d, .ref c, .int (l : Int), .int h] ∧ Hd H d g ∧ H c = some (.tup ((ic s).map V.int)) ∧ ∀ H', Same H H' → Q (.bl (heldB g (s, l) h)) H'
theorem rd_held : ∀ vs H Q E, spHeld K vs H Q E → T_is_held_at K { nx := fun _ H' => Q .non H', rt := Q } (start ["highest", "some", "last", "height"] vs) H := by
  intro vs H Q E h
  obtain ⟨d, c, g, s, l, h, rfl, ⟨xs, ep, dp, hv⟩, hc, q⟩ := h
  refine ⟨_, rfl, _, _, rfl, rfl, _, rfl, ?_⟩
  by_cases c0 : h ≤ 0
  · refine iteT' (decide_eq_true c0) ?_
    have := q H (Same.refl _)
    unfold heldB at this
    rw [decide_eq_true c0, Bool.true_or] at this
    exact this
  refine iteF' (decide_eq_false c0) ⟨_, rfl, _, rfl, show 2 ≤ sizeLine by decide, fun z hz => ?_⟩
  have sz := same_new hz (.tup [V.ref c, .int (l : Int)])
  have dpz := DP.same dp sz
  have kz : KeyP (upd H z (.tup [V.ref c, .int (l : Int)])) (kc (s, l)) z := ⟨c, upd_same, sz _ _ hc⟩
  have e1 := hv (s, l)
  refine ⟨_, rfl, .inr ⟨d, z, xs, ep, kc (s, l), rfl, rfl, dpz, kz.q, _, rfl, ?_⟩⟩
  have fin : ∀ H', Same H H' → Q (.bl (match g (s, l) with | some x => decide (x ≥ h) | none => false)) H' := fun H' s' => by
    have := q H' s'
    unfold heldB at this
    rw [decide_eq_false c0, Bool.false_or] at this
    exact this
  cases hg : g (s, l) with
  | none =>
    rw [hg] at e1
    refine iteF' (by rw [e1]; rfl) ?_
    have := fin _ sz
    rw [hg] at this
    exact this
  | some x =>
    rw [hg] at e1
    refine iteT' (by rw [e1]; rfl) ⟨_, rfl, _, rfl, _, rfl, show 2 ≤ sizeLine by decide, fun y hy => ?_⟩
    have sy := same_new hy (.tup [V.ref c, .int (l : Int)])
    have ky : KeyP (upd (upd H z (.tup [V.ref c, .int (l : Int)])) y (.tup [V.ref c, .int (l : Int)])) (kc (s, l)) y := ⟨c, upd_same, sy _ _ (sz _ _ hc)⟩
    refine ⟨d, y, xs, ep, kc (s, l), .int x, rfl, rfl, DP.same dpz sy, ky.q, e1, _, rfl, _, _, rfl, rfl, ?_⟩
    have := fin _ (sz.trans sy)
    rw [hg] at this
    exact this
end
end K06
namespace K06
open PySem L2 S
def holdB (T : List (List Int)) (n : Nat) (g : Ky → Option Int) (s : List Nat) (l : Nat) (h : Int) : Bool := if h ≤ 0 then true else if s.length = n then decide (h ≤ at2 T l 0) else (left n s).all fun p => heldB g (ins p s, p) (h - at2 T l p)
def showB (T : List (List Int)) (n : Nat) (F : List (Ky × Int)) (num : Int) : Bool := if (F.all fun f => f.1.1.contains f.1.2) = true then (match hiS F ([0], 0) with | none => false | some x => if x < num then false else F.all fun f => holdB T n (hiS F) f.1.1 f.1.2 f.2) else false
theorem all_bl {α : Type} (f : α → Bool) (l : List α) : (l.map f).all id = l.all f := by rw [List.all_map]; rfl
theorem Vd.ne {n : Nat} {s : List Nat} (h : Vd n s) : s ≠ [] := fun e => by have := h.home; rw [e] at this; cases this
theorem Vd.len {n : Nat} {s : List Nat} (h : Vd n s) : s.length ≤ n := by
  have e := h.range
  rw [← e]
  exact Nat.le_trans (List.length_filter_le ..) (by rw [List.length_range]; exact Nat.le_refl _)
section
variable {K : PySem.W.Frag}
theorem Tb.same' {H H' : Hp} {v : V} {T : List (List Int)} {n : Nat} (h : Tb K H v T n) (s : Same H H') : Tb K H' v T n := ⟨Sh.same s h.sh, h.quad, h.one, h.most⟩
def spHold (K : PySem.W.Frag) : Sp := fun vs H Q _ => ∃ (v : V) (T : List (List Int)) (n : Nat) (d c : Addr) (g : Ky → Option Int) (s : List Nat) (l : Nat) (h : Int), vs = [v, .ref d, .ref c, .int (l : Int), .int h] ∧ Tb K H v T n ∧ Hd H d g ∧ H c = some (.tup ((ic s).map V.int)) ∧ Vd n s ∧ l < n ∧ ∀ H', Same H H' → Q (.bl (holdB T n g s l h)) H'
theorem rd_hold : ∀ vs H Q E, spHold K vs H Q E → T_does_hold K (spHeld K) (spJoin K) (spLeft K) { nx := fun _ H' => Q .non H', rt := Q } (start ["table", "highest", "some", "last", "height"] vs) H := by
  intro vs H Q E h
  obtain ⟨v, T, n, d, c, g, s, l, h, rfl, tb, hd, hc, vd, hl, q⟩ := h
  have n8 := tb.most
  have n1 := tb.one
  have sl := vd.len
  unfold holdB at q
  refine ⟨_, rfl, _, _, rfl, rfl, _, rfl, ?_⟩
  by_cases c0 : h ≤ 0
  · refine iteT' (decide_eq_true c0) ?_
    have := q H (Same.refl _)
    rw [if_pos c0] at this
    exact this
  rw [if_neg c0] at q
  refine iteF' (decide_eq_false c0) ?_
  obtain ⟨ta, rs, rfl, hta, hrl, _⟩ := tb.sh.tab
  have lenT : rs.length = n := by rw [hrl, tb.quad.len]
  refine ⟨_, rfl, c, _, rfl, .inr (.of hc), _, rfl, ta, rs, rfl, .inr hta, .int _, .int _, Nat.zero_le _, rfl, rfl, _, rfl, ?_⟩
  have ei : eqD (.int (((ic s).map V.int).length : Int)) (.int (rs.length : Int)) = decide (s.length = n) := by
    rw [eqD, lenT]
    simp only [ic, List.length_map]
    by_cases z : s.length = n
    · rw [decide_eq_true z, z]; simp
    · rw [decide_eq_false z]; exact beq_false_of_ne (by omega)
  by_cases c1 : s.length = n
  · refine iteT' (by rw [ei]; exact decide_eq_true c1) ?_
    refine ⟨_, rfl, _, rfl, _, rfl, tab_row tb.sh tb.quad hl fun b hb => ixT (j := 0) (v := .int (at2 T l 0)) hb ?_ ⟨_, _, rfl, rfl, ?_⟩⟩
    · obtain ⟨row, e1, e2, e3⟩ := tb.quad.get hl
      rw [List.getElem?_map, L2.getD_at (j := 0) (by rw [e3, e2]; omega)]; rfl
    · have := q H (Same.refl _)
      rw [if_pos c1] at this
      exact this
  · rw [if_neg c1] at q
    refine iteF' (by rw [ei]; exact decide_eq_false c1) ?_
    refine ⟨_, rfl, _, rfl, .ref ta, T, n, c, s, rfl, tb.sh, tb.quad, by omega, .of hc, fun lf H1 s1 hlf => ⟨lf, rfl, .inl ⟨⟨_, .of hlf⟩, fun A hA => ?_⟩⟩⟩
    have ll : (left n s).length ≤ n := Nat.le_trans (List.length_filter_le ..) (by rw [List.length_range]; exact Nat.le_refl _)
    refine inv_list (K := K) (a := lf) (vars := [0]) (xs := (ic (left n s)).map V.int) (fun i ys H' => ys = (((left n s).take i).map fun p => heldB g (ins p s, p) (h - at2 T l p)).map V.bl) (by decide) (by show 0 < 6; decide) rfl hA (fun i ys H' sm _ => .of (sm _ _ hlf)) (fun i x σ1 H2 ys D1 hx l1 ag s0 sm ha hL hD => ?_) fun σ1 H2 ys sm ha hL => ?_
    · have hi : i < (left n s).length := by have := (List.getElem?_eq_some_iff.mp hx).1; simpa [ic] using this
      obtain rfl : V.int (((left n s)[i] : Nat) : Int) = x := by
        rw [List.getElem?_map] at hx
        unfold ic at hx
        rw [List.getElem?_map, List.getElem?_eq_getElem hi] at hx
        exact Option.some.inj hx
      have pm := mem_left.mp (List.getElem_mem hi)
      have tk := List.take_add_one (l := left n s) (i := i)
      rw [List.getElem?_eq_getElem hi] at tk
      generalize (left n s)[i] = p at s0 pm tk
      have u1 : σ1[1]? = some (some (.ref d)) := (ag 1 (by decide)).trans rfl
      have u2 : σ1[2]? = some (some (.ref c)) := (ag 2 (by decide)).trans rfl
      have u3 : σ1[3]? = some (some (.int h)) := (ag 3 (by decide)).trans rfl
      have u4 : σ1[4]? = some (some (.ref ta)) := (ag 4 (by decide)).trans rfl
      have u5 : σ1[5]? = some (some (.int (l : Int))) := (ag 5 (by decide)).trans rfl
      have m2 := s1.trans sm
      refine ⟨_, u1, _, u2, _, s0, c, s, p, rfl, .of (m2 _ _ hc), vd.up, pm.2, vd.ne, by omega, fun b H3 s3 hb => ⟨_, s0, _, u3, tab_at u4 u5 s0 (Sh.same (m2.trans s3) tb.sh) tb.quad hl pm.1 ⟨_, _, rfl, rfl, ?_⟩⟩⟩
      refine ⟨d, b, g, ins p s, p, _, rfl, hd.same (m2.trans s3), hb, fun H4 s4 => ⟨ys, (s3.trans s4) _ _ ha, ?_, hD σ1 _ _ l1 ag (samePut hA (sm.trans (s3.trans s4))) upd_same ?_⟩⟩
      · rw [hL, List.length_map, List.length_map, List.length_take]; exact Nat.lt_of_le_of_lt (show _ ≤ 8 by omega) (by decide)
      · rw [hL, tk, List.map_append, List.map_append]; rfl
    · have ln : ((ic (left n s)).map V.int).length = (left n s).length := by simp [ic]
      rw [ln, List.take_length] at hL
      refine ⟨A, _, rfl, .inl (.of (by rw [ha, hL])), ?_⟩
      rw [all_bl]
      exact q H2 (s1.trans sm)
def spShow (K : PySem.W.Frag) : Sp := fun vs H Q _ => ∃ (v : V) (T : List (List Int)) (n : Nat) (fa : Addr) (pre : List V) (F : List (Ky × Int)) (num : Int), vs = [v, .ref fa, .int num] ∧ Tb K H v T n ∧ H fa = some (.lst pre) ∧ Fl K H pre F ∧ (∀ f ∈ F, Vd n f.1.1) ∧ F.length ≤ 5000 ∧ ∀ H', Same H H' → Q (.bl (showB T n F num)) H'
theorem rd_show {S : Addr} (hS : ∀ H, KeyQ K H (kc ([0], 0)) S) : ∀ vs H Q E, spShow K vs H Q E → T_do_show K S (spHold K) (spHigh K) (spFlr K) { nx := fun _ H' => Q .non H', rt := Q } (start ["table", "floors", "number", "highest"] vs) H := by
  intro vs H Q E h
  obtain ⟨v, T, n, fa, pre, F, num, rfl, tb, hfa, fl, vd, fz, q⟩ := h
  have n8 := tb.most
  have pl : pre.length = F.length := fl.1
  unfold showB at q
  refine ⟨_, rfl, fa, rfl, .inl ⟨⟨_, .of hfa⟩, fun A hA => ?_⟩⟩
  refine inv_list (K := K) (a := fa) (vars := [0]) (xs := pre) (fun i ys H' => ys = ((F.take i).map fun f => f.1.1.contains f.1.2).map V.bl) (by decide) (by show 0 < 2; decide) rfl hA (fun i ys H' sm _ => .of (sm _ _ hfa)) (fun i x σ1 H2 ys D1 hx l1 ag s0 sm ha hL hD => ?_) fun σ1 H1 ys sm ha hL => ?_
  · obtain ⟨f, b, c, he, rfl, hb, hc⟩ := (fl.same sm).at hx
    have hf := vd f (List.mem_of_getElem? he)
    have hl := hf.len
    have u1 : σ1[1]? = some (some v) := (ag 1 (by decide)).trans rfl
    have hi : i < pre.length := (List.getElem?_eq_some_iff.mp hx).1
    refine ⟨_, u1, _, s0, v, T, n, b, c, f.1.1, f.1.2, f.2, rfl, Tb.same' tb sm, hb, .of hc, by omega, hf, fun H3 s3 => ⟨ys, s3 _ _ ha, ?_, hD σ1 _ _ l1 ag (samePut hA (sm.trans s3)) upd_same ?_⟩⟩
    · rw [hL, List.length_map, List.length_map, List.length_take]; exact Nat.lt_of_le_of_lt (show _ ≤ 5000 by omega) (by decide)
    · rw [hL, List.take_add_one, he, List.map_append, List.map_append]; rfl
  · rw [pl, List.take_length] at hL
    refine ⟨A, _, rfl, .inl (.of (by rw [ha, hL])), _, rfl, ?_⟩
    rw [all_bl]
    by_cases c0 : (F.all fun f => f.1.1.contains f.1.2) = true
    · rw [if_pos c0] at q
      refine iteF' (by rw [c0]; rfl) ?_
      refine ⟨_, rfl, fa, pre, F, rfl, sm _ _ hfa, fl.same sm, fz, fun d H2 s2 hd => ?_⟩
      obtain ⟨xs, ep, dp, hv⟩ := id hd
      have e1 := hv ([0], 0)
      refine ⟨_, rfl, .inr ⟨d, S, xs, ep, kc ([0], 0), rfl, rfl, dp, hS H2, _, rfl, ?_⟩⟩
      cases hg : hiS F ([0], 0) with
      | none =>
        rw [hg] at e1 q
        refine iteT' (by rw [e1]; rfl) (iteT' rfl ?_)
        exact q H2 (sm.trans s2)
      | some x =>
        rw [hg] at e1 q
        refine iteF' (by rw [e1]; rfl) ⟨_, rfl, d, S, xs, ep, kc ([0], 0), .int x, rfl, rfl, dp, hS H2, e1, _, rfl, _, _, rfl, rfl, _, rfl, ?_⟩
        have q : ∀ H', Same H H' → Q (.bl (if x < num then false else F.all fun f => holdB T n (hiS F) f.1.1 f.1.2 f.2)) H' := q
        by_cases c1 : x < num
        · rw [if_pos c1] at q
          exact iteT' (decide_eq_true c1) (q H2 (sm.trans s2))
        · rw [if_neg c1] at q
          refine iteF' (decide_eq_false c1) ⟨_, rfl, fa, rfl, .inl ⟨⟨_, .of ((sm.trans s2) _ _ hfa)⟩, fun B hB => ?_⟩⟩
          refine for_list (K := K) (a := fa) (xs := pre) (fun i σ' H' => i ≤ pre.length ∧ ∃ x0 x1 x2, σ' = [x0, x1, x2, some v, some (.ref d)] ∧ Same H2 H' ∧ H' B = some (.lst (((F.take i).map fun f => holdB T n (hiS F) f.1.1 f.1.2 f.2).map V.bl))) ⟨Nat.zero_le _, _, _, _, rfl, same_new hB _, upd_same⟩ (fun i σ' H' _ ⟨_, _, _, _, _, s', _⟩ => .of (((sm.trans s2).trans s') _ _ hfa)) (fun i y σ3 H3 hy ⟨_, x0, x1, x2, es, s3, hB3⟩ => ?_) fun σ3 H3 ⟨_, x0, x1, x2, es, s3, hB3⟩ => ?_
          · subst es
            have m3 := (sm.trans s2).trans s3
            have hi : i < pre.length := (List.getElem?_eq_some_iff.mp hy).1
            obtain ⟨f, b, c, he, rfl, hb, hc⟩ := (fl.same m3).at hy
            have fm := List.mem_of_getElem? he
            have hf := vd f fm
            have lm : f.1.2 ∈ f.1.1 := List.contains_iff_mem.mp (List.all_eq_true.mp c0 f fm)
            refine ⟨b, _, rfl, hb, rfl, .ref c, [.int (f.1.2 : Int), .int f.2], rfl, .int (f.1.2 : Int), [.int f.2], rfl, .int f.2, [], rfl, rfl, ?_⟩
            refine ⟨_, rfl, _, rfl, _, rfl, _, rfl, _, rfl, v, T, n, d, c, hiS F, f.1.1, f.1.2, f.2, rfl, Tb.same' tb m3, hd.same s3, hc, hf, hf.lt _ lm, fun H4 s4 => ⟨_, s4 _ _ hB3, ?_, hi, _, _, _, rfl, samePut hB (s3.trans s4), ?_⟩⟩
            · rw [List.length_map, List.length_map, List.length_take]; exact Nat.lt_of_le_of_lt (show _ ≤ 5000 by omega) (by decide)
            · rw [upd_same, List.take_add_one, he, List.map_append, List.map_append]; rfl
          · subst es
            rw [pl, List.take_length] at hB3
            refine ⟨B, _, rfl, .inl (.of hB3), ?_⟩
            rw [all_bl]
            exact q H3 ((sm.trans s2).trans s3)
    · rw [if_neg c0] at q
      refine iteT' (by rw [Bool.not_eq_true _ |>.mp c0]; rfl) ?_
      exact q H1 sm
end
end K06
namespace K06
open PySem L2 S
theorem Vd.head {n : Nat} {s : List Nat} (h : Vd n s) : ∃ r, s = 0 :: r := by
  cases s with
  | nil => exact absurd rfl h.ne
  | cons x r =>
    rcases List.mem_cons.mp h.home with e | e
    · exact ⟨r, by rw [← e]⟩
    · exact absurd ((List.pairwise_cons.mp h.up).1 0 e) (Nat.not_lt_zero _)
theorem ic_len (s : List Nat) : ((ic s).map V.int).length = s.length := by simp [ic]
section
variable {K : PySem.W.Frag}
def spAfl (K : PySem.W.Frag) : Sp := fun vs H Q _ => ∃ (n : Nat) (b c : Addr) (s : List Nat) (l : Nat) (h : Int), vs = [.int (n : Int), .ref b] ∧ SqT K H b [.ref c, .int (l : Int), .int h] ∧ SqT K H c ((ic s).map V.int) ∧ n ≤ 8 ∧ Vd n s ∧ ∀ H', Same H H' → Q (.bl (s.contains l)) H'
theorem rd_afl : ∀ vs H Q E, spAfl K vs H Q E → T__law_afloor K (spWh K) { nx := fun _ H' => Q .non H', rt := Q } (start ["many", "thing", "place", "good"] vs) H := by
  intro vs H Q E h
  obtain ⟨n, b, c, s, l, h, rfl, hb, hc, n8, vd, q⟩ := h
  have sl := vd.len
  have shc : ∀ {H'}, Same H H' → Sh K H' (.tup ((ic s).map Dt.int)) (.ref c) := fun s' => ⟨c, _, rfl, s'.tup hc, ShL.ints _⟩
  refine ⟨_, rfl, .ref b, .tup [.tup ((ic s).map Dt.int), .int (l : Int), .int h], "tuple", rfl, .inr (.inr (.inl rfl)), ⟨b, _, rfl, hb, .ref c, _, rfl, ⟨c, _, rfl, hc, ShL.ints _⟩, .int (l : Int), _, rfl, rfl, .int h, _, rfl, rfl, rfl⟩, _, rfl, iteF' rfl ?_⟩
  refine ⟨_, rfl, b, _, rfl, .inr hb, .int 3, .int 3, Nat.zero_le _, rfl, rfl, _, rfl, iteF' (by rw [eqD_refl]; rfl) ?_⟩
  refine ⟨_, rfl, ixT (j := 0) hb rfl ⟨.ref c, _, "tuple", rfl, .inr (.inr (.inl rfl)), shc (Same.refl _), _, rfl, iteF' rfl ?_⟩⟩
  refine ⟨_, rfl, ixT (j := 1) hb rfl ⟨(l : Int), rfl, _, rfl, iteF' rfl ⟨_, rfl, ixT (j := 2) hb rfl ⟨h, rfl, _, rfl, iteF' rfl ?_⟩⟩⟩⟩
  refine ⟨_, rfl, ixT (j := 0) hb rfl ⟨c, rfl, .inr ⟨⟨_, hc⟩, ?_⟩⟩⟩
  refine for_tup (K := K) (a := c) (xs := (ic s).map V.int) (fun i σ' H' => ∃ x2 x3, σ' = [some (.int (n : Int)), some (.ref b), x2, x3] ∧ H' = H) ⟨_, _, rfl, rfl⟩ (fun i σ' H' _ ⟨_, _, _, e⟩ => e ▸ hc) (fun i x σ1 H1 hx ⟨x2, x3, es, eH⟩ => ?_) fun σ1 H1 ⟨x2, x3, es, eH⟩ => ?_
  · subst es eH
    have hi : i < s.length := by have := (List.getElem?_eq_some_iff.mp hx).1; rwa [ic_len] at this
    obtain rfl : V.int ((s[i] : Nat) : Int) = x := by
      rw [List.getElem?_map] at hx
      unfold ic at hx
      rw [List.getElem?_map, List.getElem?_eq_getElem hi] at hx
      exact Option.some.inj hx
    have lt := vd.lt _ (List.getElem_mem hi)
    refine ⟨_, rfl, _, rfl, _, rfl, iteF' rfl ⟨1, rfl, _, rfl, _, _, rfl, rfl, _, rfl, iteT' (decide_eq_true (by omega)) ⟨_, rfl, _, _, rfl, rfl, _, rfl, ?_⟩⟩⟩
    rw [decide_eq_true (show ((s[i] : Nat) : Int) < (n : Int) by omega)]
    exact iteF' rfl ⟨_, _, rfl, rfl⟩
  · subst es eH
    refine ⟨_, rfl, ixT (j := 0) hb rfl (.inl ⟨c, _, rfl, .inr hc, fun lf hlf => ?_⟩)⟩
    have s1 := same_new hlf (.lst ((ic s).map V.int))
    refine ⟨_, rfl, ixT (j := 0) (s1.tup hb) rfl ⟨c, s, rfl, ?_, fun k hk => Nat.lt_of_lt_of_le (vd.lt k hk) n8, fun ks hks hj H2 s2 g hg => ?_⟩⟩
    · have e : natVs s = (ic s).map V.int := by unfold natVs ic; rw [List.map_map]; rfl
      rw [e]; exact s1.tup hc
    have nd : ∀ {l : List Nat}, l.Pairwise (· < ·) → l.Nodup := fun h => h.imp fun x e => absurd (e ▸ x) (Nat.lt_irrefl _)
    obtain rfl : ks = s := List.Perm.eq_of_pairwise (le := (· ≤ ·)) (fun _ _ _ _ x y => Nat.le_antisymm x y) (hks.imp Nat.le_of_lt) (vd.up.imp Nat.le_of_lt) ((List.perm_ext_iff_of_nodup (nd hks) (nd vd.up)).mpr hj)
    have e : natVs ks = (ic ks).map V.int := by unfold natVs ic; rw [List.map_map]; rfl
    rw [e]
    have s3 := same_new hg (.lst ((ic ks).map V.int))
    have m3 := s1.trans (s2.trans s3)
    refine ⟨.lst ((ic ks).map Dt.int), .lst ((ic ks).map Dt.int), ?_, ⟨lf, _, rfl, .of (s3 _ _ (s2 _ _ upd_same)), ShL.ints _⟩, ⟨g, _, rfl, .of upd_same, ShL.ints _⟩, _, rfl, ?_⟩
    · have : ∀ ns : List Int, depL (ns.map Dt.int) = 0 := fun ns => by
        induction ns with
        | nil => rfl
        | cons n ns ih => rw [List.map_cons, depL, ih]; rfl
      rw [dep, this]; decide
    rw [eqD_refl]
    refine iteT' rfl ?_
    generalize upd H2 g (.lst ((ic ks).map V.int)) = H4 at m3 ⊢
    obtain ⟨r, er⟩ := vd.head
    refine ⟨_, rfl, ixT (j := 0) (m3.tup hb) rfl ⟨_, rfl, .inl (.inr ⟨c, _, rfl, m3.tup hc, fun p H5 s5 hp => ?_⟩)⟩⟩
    have ec : cutV ((ic ks).map V.int) none (some ((1 : Nat) : Int)) = [V.int 0] := by
      rw [cut_to (t := 1) (by rw [ic_len, er]; simp), er]; rfl
    have hp : SqT K H5 p [V.int 0] := by rw [← ec]; exact hp
    refine ⟨show 1 ≤ sizeLine by decide, fun u hu => ?_⟩
    have s6 := same_new hu (.tup [V.int 0])
    refine ⟨.tup [.int 0], .tup [.int 0], by decide, ⟨p, _, rfl, s6.tup hp, .int 0, _, rfl, rfl, rfl⟩, ⟨u, _, rfl, .of upd_same, .int 0, _, rfl, rfl, rfl⟩, ?_⟩
    rw [eqD_refl]
    have m6 := m3.trans (s5.trans s6)
    refine ⟨_, rfl, _, rfl, iteT' rfl ?_⟩
    show tOp _ _ _ _ (upd H5 u (.tup [V.int 0])) _
    generalize upd H5 u (.tup [V.int 0]) = H6 at m6 ⊢
    refine ⟨_, rfl, ixT (j := 1) (m6.tup hb) rfl ⟨_, rfl, ixT (j := 0) (m6.tup hb) rfl (in_ic (neg := false) (m6.tup hc) ?_)⟩⟩
    exact q H6 m6
theorem rd_ahd : ∀ vs H Q E, spHold K vs H Q E → T__law_aheld K { nx := fun _ H' => Q .non H', rt := Q } (start ["table", "known", "some", "last", "number", "place", "key"] vs) H := by
  intro vs H Q E h
  obtain ⟨v, T, n, d, c, g, s, l, h, rfl, tb, hd, hc, vd, hl, q⟩ := h
  have n8 := tb.most
  have n1 := tb.one
  have sl := vd.len
  unfold holdB at q
  refine ⟨_, rfl, _, _, rfl, rfl, _, rfl, ?_⟩
  by_cases c0 : h ≤ 0
  · refine iteT' (decide_eq_true c0) ?_
    have := q H (Same.refl _)
    rw [if_pos c0] at this
    exact this
  rw [if_neg c0] at q
  refine iteF' (decide_eq_false c0) ?_
  obtain ⟨ta, rs, rfl, hta, hrl, _⟩ := tb.sh.tab
  have lenT : rs.length = n := by rw [hrl, tb.quad.len]
  refine ⟨_, rfl, c, _, rfl, .inr (.of hc), _, rfl, ta, rs, rfl, .inr hta, .int _, .int _, Nat.zero_le _, rfl, rfl, _, rfl, ?_⟩
  have ei : eqD (.int (((ic s).map V.int).length : Int)) (.int (rs.length : Int)) = decide (s.length = n) := by
    rw [eqD, lenT]
    simp only [ic, List.length_map]
    by_cases z : s.length = n
    · rw [decide_eq_true z, z]; simp
    · rw [decide_eq_false z]; exact beq_false_of_ne (by omega)
  by_cases c1 : s.length = n
  · refine iteT' (by rw [ei]; exact decide_eq_true c1) ?_
    refine ⟨_, rfl, _, rfl, _, rfl, tab_row tb.sh tb.quad hl fun b hb => ixT (j := 0) (v := .int (at2 T l 0)) hb ?_ ⟨_, _, rfl, rfl, ?_⟩⟩
    · obtain ⟨row, e1, e2, e3⟩ := tb.quad.get hl
      rw [List.getElem?_map, L2.getD_at (j := 0) (by rw [e3, e2]; omega)]; rfl
    · have := q H (Same.refl _)
      rw [if_pos c1] at this
      exact this
  rw [if_neg c1] at q
  refine iteF' (by rw [ei]; exact decide_eq_false c1) ?_
  have left_succ : ∀ i, left (i + 1) s = left i s ++ if s.contains i = true then [] else [i] := fun i => by
    unfold left
    rw [List.range_succ, List.filter_append]
    congr 1
    by_cases c : s.contains i = true
    · rw [if_pos c, List.filter_cons_of_neg (by rw [c]; exact Bool.false_ne_true)]; rfl
    · rw [if_neg c, List.filter_cons_of_pos (by rw [Bool.not_eq_true _ |>.mp c]; rfl)]; rfl
  refine ⟨_, rfl, ta, rs, rfl, .inr hta, (n : Int), by rw [lenT], by omega, by omega, ?_⟩
  rw [Int.toNat_natCast]
  refine for_range (lo := 0) (n := n) (fun i σ' H' => i ≤ n ∧ ∃ x5 x6, σ' = [some (.ref ta), some (.ref d), some (.ref c), some (.int (l : Int)), some (.int h), x5, x6] ∧ Same H H' ∧ ((left i s).all fun p => heldB g (ins p s, p) (h - at2 T l p)) = true) ⟨Nat.zero_le _, _, _, rfl, Same.refl _, rfl⟩ (fun i σ1 H1 hi ⟨_, x5, x6, es, s1, hall⟩ => ?_) fun σ1 H1 ⟨_, x5, x6, es, s1, hall⟩ => ?_
  · subst es
    rw [Int.zero_add]
    have ls := left_succ i
    refine ⟨_, rfl, _, rfl, in_ic (x := i) (neg := true) (s1.tup (.of hc)) ⟨_, rfl, ?_⟩⟩
    cases cc : s.contains i with
    | true =>
      rw [cc, if_pos rfl, List.append_nil] at ls
      exact iteF' rfl (iteF' rfl ⟨hi, _, _, rfl, s1, by rw [ls]; exact hall⟩)
    | false =>
      rw [cc, if_neg Bool.false_ne_true] at ls
      have np : i ∉ s := fun z => by rw [List.contains_iff_mem.mpr z] at cc; cases cc
      refine iteT' rfl ⟨_, rfl, tab_at (t := 0) (si := 3) (sj := 5) rfl rfl rfl (Sh.same s1 tb.sh) tb.quad hl hi ⟨_, _, rfl, rfl, _, rfl, ?_⟩⟩
      have allE : ((left (i + 1) s).all fun p => heldB g (ins p s, p) (h - at2 T l p)) = heldB g (ins i s, i) (h - at2 T l i) := by
        rw [ls, List.all_append, hall, Bool.true_and]
        simp
      by_cases c2 : h > at2 T l i
      · refine iteT' (decide_eq_true c2) ?_
        have c3 : ¬ (h - at2 T l i ≤ 0) := by omega
        refine ⟨_, rfl, _, rfl, by show 1 ≤ sizeLine; decide, fun u hu => ?_⟩
        have su := same_new hu (.tup [V.int (i : Int)])
        have m1 := s1.trans su
        refine .inr ⟨c, u, _, _, rfl, rfl, m1.tup (.of hc), .of upd_same, by rw [ic_len]; exact Nat.le_trans (show s.length + 1 ≤ 21 by omega) (by decide), fun r H2 _ hr s2 => ?_⟩
        have e : (ic s).map V.int ++ [V.int (i : Int)] = (ic s ++ [(i : Int)]).map V.int := by rw [List.map_append]; rfl
        rw [e] at hr
        refine ⟨r, _, rfl, .inr hr, by rw [ic_app]; show (List.map _ _).length < 64; rw [List.length_map, List.length_append]; show s.length + 1 < 64; omega, fun ms h1 h2 k hk => ?_⟩
        obtain rfl : ms = ic (ins i s) := sort_ic h1 h2 (by rw [ic_app]; exact (ins_perm.map _).symm) (ins_up vd.up np)
        refine ⟨k, _, rfl, .inl ⟨.of upd_same, fun b hb => ⟨_, rfl, show 2 ≤ sizeLine by decide, fun z hz => ?_⟩⟩⟩
        have s3 := same_new hk (.lst ((ic (ins i s)).map V.int))
        have s4 := same_new hb (.tup ((ic (ins i s)).map V.int))
        have s5 := same_new hz (.tup [V.ref b, .int (i : Int)])
        have m5 := m1.trans (s2.trans (s3.trans (s4.trans s5)))
        have hb5 := s5 _ _ (upd_same (H := upd H2 k (.lst ((ic (ins i s)).map V.int))) (a := b) (o := .tup ((ic (ins i s)).map V.int)))
        have kz : KeyP (upd (upd (upd H2 k (.lst ((ic (ins i s)).map V.int))) b (.tup ((ic (ins i s)).map V.int))) z (.tup [V.ref b, .int (i : Int)])) (kc (ins i s, i)) z := ⟨b, upd_same, hb5⟩
        show tSeq _ _ _ _ (upd (upd (upd H2 k (.lst ((ic (ins i s)).map V.int))) b (.tup ((ic (ins i s)).map V.int))) z (.tup [V.ref b, .int (i : Int)]))
        generalize upd (upd (upd H2 k (.lst ((ic (ins i s)).map V.int))) b (.tup ((ic (ins i s)).map V.int))) z (.tup [V.ref b, .int (i : Int)]) = H5 at m5 kz ⊢
        obtain ⟨xs, ep, dp, hv⟩ := hd.same m5
        have e1 := hv (ins i s, i)
        refine ⟨_, rfl, _, rfl, .inr ⟨d, z, xs, ep, kc (ins i s, i), rfl, rfl, dp, kz.q, _, rfl, ?_⟩⟩
        have bad : heldB g (ins i s, i) (h - at2 T l i) = false → Q (.bl false) H5 := fun hb => by
          have := q H5 m5
          rw [show ((left n s).all fun p => heldB g (ins p s, p) (h - at2 T l p)) = false from ?_] at this
          · exact this
          · rw [← Bool.not_eq_true, List.all_eq_true]
            intro hall'
            have := hall' i (mem_left.mpr ⟨hi, np⟩)
            rw [hb] at this; cases this
        cases hg : g (ins i s, i) with
        | none =>
          rw [hg] at e1
          refine iteT' (by rw [e1]; rfl) (iteT' rfl (bad ?_))
          unfold heldB
          rw [decide_eq_false c3, hg]; rfl
        | some x =>
          rw [hg] at e1
          refine iteF' (by rw [e1]; rfl) ⟨_, rfl, _, rfl, d, z, xs, ep, kc (ins i s, i), .int x, rfl, rfl, dp, kz.q, e1, _, rfl, tab_at (t := 0) (si := 3) (sj := 5) rfl rfl rfl (Sh.same m5 tb.sh) tb.quad hl hi ⟨_, _, rfl, rfl, _, _, rfl, rfl, _, rfl, ?_⟩⟩
          by_cases c4 : x < h - at2 T l i
          · refine iteT' (decide_eq_true c4) (bad ?_)
            unfold heldB
            rw [decide_eq_false c3, hg, Bool.false_or]
            exact decide_eq_false (by omega)
          · refine iteF' (decide_eq_false c4) ⟨hi, _, _, rfl, m5, ?_⟩
            rw [allE]
            unfold heldB
            rw [hg, decide_eq_false c3, Bool.false_or]
            exact decide_eq_true (by omega)
      · refine iteF' (decide_eq_false c2) ⟨hi, _, _, rfl, s1, ?_⟩
        rw [allE]
        unfold heldB
        rw [decide_eq_true (show h - at2 T l i ≤ 0 by omega), Bool.true_or]
  · subst es
    have := q H1 s1
    rw [hall] at this
    exact this
end
end K06
namespace K06
open PySem L2 S
section
variable {K : PySem.W.Frag}
theorem rd_ash : ∀ vs H Q E, spShow K vs H Q E → T__law_ashown K (spAfl K) (spHold K) { nx := fun _ H' => Q .non H', rt := Q } (start ["table", "floors", "number", "known", "one", "some", "last", "worth"] vs) H := by
  intro vs H Q E h
  obtain ⟨v, T, n, fa, pre, F, num, rfl, tb, hfa, fl, vd, fz, q⟩ := h
  have n8 := tb.most
  have pl : pre.length = F.length := fl.1
  unfold showB at q
  obtain ⟨ta, rs, rfl, hta, hrl, _⟩ := tb.sh.tab
  have lenT : rs.length = n := by rw [hrl, tb.quad.len]
  intro d ep0 hd
  have s0 := same_new hd (dpO d [] ep0)
  have bad : (∃ f ∈ F, f.1.1.contains f.1.2 = false) → ∀ H', Same H H' → Q (.bl false) H' := fun ⟨f, hf, e⟩ H' s' => by
    have := q H' s'
    rw [if_neg fun z => by have := List.all_eq_true.mp z f hf; rw [e] at this; cases this] at this
    exact this
  refine ⟨_, rfl, fa, rfl, .inl ⟨⟨_, .of (s0 _ _ hfa)⟩, ?_⟩⟩
  refine for_list (K := K) (a := fa) (xs := pre) (fun i σ' H' => i ≤ pre.length ∧ ∃ x4 x5 x6 x7 xs ep, σ' = [some (.ref ta), some (.ref fa), some (.int num), some (.ref d), x4, x5, x6, x7] ∧ Same H H' ∧ DP H' d xs ep ∧ xs.length ≤ i ∧ (∀ k, valP xs (kc k) = (hiS (F.take i) k).map V.int) ∧ ∀ f ∈ F.take i, f.1.1.contains f.1.2 = true) ⟨Nat.zero_le _, _, _, _, _, [], ep0, rfl, s0, ⟨upd_same, fun x hx => by cases hx⟩, Nat.zero_le _, (fun k => rfl), fun f hf => by cases hf⟩ (fun i σ1 H1 _ ⟨_, _, _, _, _, _, _, _, s1, _⟩ => .of (s1 _ _ hfa)) (fun i x σ1 H1 hx ⟨_, x4, x5, x6, x7, xs, ep, es, s1, dp, xl, hv, hok⟩ => ?_) fun σ1 H1 ⟨_, x4, x5, x6, x7, xs, ep, es, s1, dp, xl, hv, hok⟩ => ?_
  · subst es
    have hi : i < pre.length := (List.getElem?_eq_some_iff.mp hx).1
    obtain ⟨f, b, c, he, rfl, hb, hc⟩ := (fl.same s1).at hx
    have fm := List.mem_of_getElem? he
    refine ⟨_, rfl, ta, rs, rfl, .inr (s1.tup hta), _, rfl, n, b, c, f.1.1, f.1.2, f.2, by rw [lenT]; rfl, hb, .of hc, n8, vd f fm, fun H2 s2 => ⟨_, rfl, ?_⟩⟩
    cases cc : f.1.1.contains f.1.2 with
    | false => exact iteT' rfl (bad ⟨f, fm, cc⟩ H2 (s1.trans s2))
    | true =>
      refine iteF' rfl ?_
      have dp2 := DP.same dp s2
      have hb2 := s2.tup hb
      have hc2 := s2 _ _ hc
      have ct : cutV [V.ref c, .int (f.1.2 : Int), .int f.2] none (some ((2 : Nat) : Int)) = [V.ref c, .int (f.1.2 : Int)] := by rw [cut_to (t := 2) (by show 2 ≤ 3; decide)]; rfl
      refine ⟨_, rfl, ixT (j := 2) hb2 rfl ⟨_, rfl, d, xs, ep, rfl, dp2, _, rfl, _, rfl, .inr ⟨b, _, rfl, hb2, (show ¬ (HT.sIx 3 0 none = 0 ∧ HT.sIx 3 3 (some 2) = 3) by decide), fun z hz => ?_⟩⟩⟩
      rw [show cutV [V.ref c, .int (f.1.2 : Int), .int f.2] none (some 2) = [V.ref c, .int (f.1.2 : Int)] from ct]
      have sz := same_new hz (.tup [V.ref c, .int (f.1.2 : Int)])
      have dpz := DP.same dp2 sz
      have kz : KeyP (upd H2 z (.tup [V.ref c, .int (f.1.2 : Int)])) (kc f.1) z := ⟨c, upd_same, sz _ _ hc2⟩
      refine ⟨_, rfl, ixT (j := 2) (sz.tup hb2) rfl ⟨z, xs, ep, kc f.1, rfl, dpz, kz.q, ?_⟩⟩
      have eg : (valP xs (kc f.1)).getD (V.int f.2) = V.int ((hiS (F.take i) f.1).getD f.2) := by
        rw [hv]
        cases hiS (F.take i) f.1 <;> rfl
      rw [eg]
      refine ⟨f.2, _, rfl, _, rfl, _, rfl, _, rfl, .inr ⟨b, _, rfl, sz.tup hb2, (show ¬ (HT.sIx 3 0 none = 0 ∧ HT.sIx 3 3 (some 2) = 3) by decide), fun y hy => ?_⟩⟩
      rw [show cutV [V.ref c, .int (f.1.2 : Int), .int f.2] none (some 2) = [V.ref c, .int (f.1.2 : Int)] from ct]
      have sy := same_new hy (.tup [V.ref c, .int (f.1.2 : Int)])
      have dpy := DP.same dpz sy
      have ky : KeyP (upd (upd H2 z (.tup [V.ref c, .int (f.1.2 : Int)])) y (.tup [V.ref c, .int (f.1.2 : Int)])) (kc f.1) y := ⟨c, upd_same, sy _ _ (sz _ _ hc2)⟩
      refine ⟨d, y, xs, ep, kc f.1, rfl, rfl, dpy, ky, Nat.lt_of_le_of_lt (show xs.length ≤ 5000 by omega) (by decide), fun ep' => ?_⟩
      have pz := putP_len (xs := xs) (k := kc f.1) (c := y) (v := V.int (if (hiS (F.take i) f.1).getD f.2 > f.2 then (hiS (F.take i) f.1).getD f.2 else f.2))
      refine ⟨hi, _, _, _, _, _, ep', rfl, samePut hd ((s1.trans s2).trans (sz.trans sy)), dp_put dpy ky, by omega, fun k => ?_, fun f' hf' => ?_⟩
      · rw [val_putP, List.take_add_one, he]
        show _ = (hiS (F.take i ++ [f]) k).map V.int
        rw [hiS_snoc]
        by_cases hk : f.1 = k
        · subst hk
          rw [if_pos rfl, if_pos rfl]; rfl
        · rw [if_neg hk, if_neg fun e => hk (kc_inj e).symm, hv]
      · rw [List.take_add_one, he] at hf'
        rcases List.mem_append.mp hf' with z' | z'
        · exact hok f' z'
        · obtain rfl : f' = f := by simpa using z'
          exact cc
  · subst es
    rw [pl, List.take_length] at hv hok
    have c0 : (F.all fun f => f.1.1.contains f.1.2) = true := List.all_eq_true.mpr hok
    rw [if_pos c0] at q
    have hd1 : Hd H1 d (hiS F) := ⟨xs, ep, dp, hv⟩
    refine ⟨_, rfl, fa, rfl, .inl ⟨⟨_, .of (s1 _ _ hfa)⟩, ?_⟩⟩
    refine for_list (K := K) (a := fa) (xs := pre) (fun i σ' H' => i ≤ pre.length ∧ ∃ x4 x5 x6 x7, σ' = [some (.ref ta), some (.ref fa), some (.int num), some (.ref d), x4, x5, x6, x7] ∧ Same H1 H' ∧ ∀ f ∈ F.take i, holdB T n (hiS F) f.1.1 f.1.2 f.2 = true) ⟨Nat.zero_le _, _, _, _, _, rfl, Same.refl _, fun f hf => by cases hf⟩ (fun i σ' H' _ ⟨_, _, _, _, _, _, s', _⟩ => .of ((s1.trans s') _ _ hfa)) (fun i y σ3 H3 hy ⟨_, y4, y5, y6, y7, es, s3, hh⟩ => ?_) fun σ3 H3 ⟨_, y4, y5, y6, y7, es, s3, hh⟩ => ?_
    · subst es
      have m3 := s1.trans s3
      have hi : i < pre.length := (List.getElem?_eq_some_iff.mp hy).1
      obtain ⟨f, b, c, he, rfl, hb, hc⟩ := (fl.same m3).at hy
      have fm := List.mem_of_getElem? he
      have hf := vd f fm
      have lm : f.1.2 ∈ f.1.1 := List.contains_iff_mem.mp (hok f fm)
      refine ⟨b, _, rfl, hb, rfl, .ref c, [.int (f.1.2 : Int), .int f.2], rfl, .int (f.1.2 : Int), [.int f.2], rfl, .int f.2, [], rfl, rfl, ?_⟩
      refine ⟨_, rfl, _, rfl, _, rfl, _, rfl, _, rfl, .ref ta, T, n, d, c, hiS F, f.1.1, f.1.2, f.2, rfl, Tb.same' tb m3, hd1.same s3, hc, hf, hf.lt _ lm, fun H4 s4 => ⟨_, rfl, ?_⟩⟩
      cases ch : holdB T n (hiS F) f.1.1 f.1.2 f.2 with
      | false =>
        refine iteT' rfl ?_
        have := q H4 (m3.trans s4)
        cases hg : hiS F ([0], 0) with
        | none => rw [hg] at this; exact this
        | some x =>
          rw [hg] at this
          have this : Q (.bl (if x < num then false else F.all fun f => holdB T n (hiS F) f.1.1 f.1.2 f.2)) H4 := this
          rw [show (F.all fun f => holdB T n (hiS F) f.1.1 f.1.2 f.2) = false from ?_, ite_self] at this
          · exact this
          · rw [← Bool.not_eq_true, List.all_eq_true]
            intro z
            have := z f fm
            rw [ch] at this; cases this
      | true =>
        refine iteF' rfl ⟨hi, _, _, _, _, rfl, s3.trans s4, fun f' hf' => ?_⟩
        rw [List.take_add_one, he] at hf'
        rcases List.mem_append.mp hf' with z' | z'
        · exact hh f' z'
        · obtain rfl : f' = f := by simpa using z'
          exact ch
    · subst es
      rw [pl, List.take_length] at hh
      have hall : (F.all fun f => holdB T n (hiS F) f.1.1 f.1.2 f.2) = true := List.all_eq_true.mpr hh
      obtain ⟨xs3, ep3, dp3, hv3⟩ := hd1.same s3
      refine ⟨_, rfl, d, xs3, ep3, rfl, dp3, show 1 ≤ sizeLine by decide, fun u hu => ⟨show 2 ≤ sizeLine by decide, fun w hw => ?_⟩⟩
      have su := same_new hu (.tup [V.int 0])
      have sw := same_new hw (.tup [V.ref u, .int 0])
      have kw : KeyP (upd (upd H3 u (.tup [V.int 0])) w (.tup [V.ref u, .int 0])) (kc ([0], 0)) w := ⟨u, upd_same, sw _ _ upd_same⟩
      refine ⟨_, rfl, _, _, rfl, rfl, w, xs3, ep3, kc ([0], 0), rfl, DP.same (DP.same dp3 su) sw, kw.q, ?_⟩
      have e1 := hv3 ([0], 0)
      have fin := q _ ((s1.trans s3).trans (su.trans sw))
      rw [hall] at fin
      cases hg : hiS F ([0], 0) with
      | none =>
        rw [hg] at e1 fin
        rw [e1]
        refine ⟨_, rfl, _, _, rfl, rfl, ?_⟩
        show Q (.bl (decide (num ≤ num - 1))) _
        rw [show decide (num ≤ num - 1) = false from decide_eq_false (by omega)]
        exact fin
      | some x =>
        rw [hg] at e1 fin
        rw [e1]
        refine ⟨_, rfl, _, _, rfl, rfl, ?_⟩
        have fin : Q (.bl (if x < num then false else true)) _ := fin
        by_cases c1 : x < num
        · rw [if_pos c1] at fin
          show Q (.bl (decide (num ≤ x))) _
          rw [show decide (num ≤ x) = false from decide_eq_false (by omega)]
          exact fin
        · rw [if_neg c1] at fin
          show Q (.bl (decide (num ≤ x))) _
          rw [show decide (num ≤ x) = true from decide_eq_true (by omega)]
          exact fin
end
end K06
namespace K06
open PySem L2 S
theorem revI {α : Type} {P : List α → Prop} (h0 : P []) (h1 : ∀ l x, P l → P (l ++ [x])) (l : List α) : P l := by
  have : ∀ m : List α, P m.reverse := by
    intro m
    induction m with
    | nil => exact h0
    | cons x m ih => rw [List.reverse_cons]; exact h1 _ _ ih
  have := this l.reverse
  rwa [List.reverse_reverse] at this
theorem hiS_none (F : List (Ky × Int)) : ∀ k : Ky, k ∉ F.map (·.1) → hiS F k = none := by
  refine revI (P := fun F => ∀ k : Ky, k ∉ F.map (·.1) → hiS F k = none) (fun k _ => rfl) (fun F f ih k hk => ?_) F
  rw [hiS_snoc]
  rw [List.map_append, List.mem_append, not_or] at hk
  rw [if_neg fun e => hk.2 (by rw [← e]; exact List.mem_singleton.mpr rfl), ih k hk.1]
theorem hiS_one (F : List (Ky × Int)) : (F.map (·.1)).Nodup → ∀ f ∈ F, hiS F f.1 = some f.2 := by
  refine revI (P := fun F => (F.map (·.1)).Nodup → ∀ f ∈ F, hiS F f.1 = some f.2) (fun _ f hf => by cases hf) (fun F g ih nd f hf => ?_) F
  rw [List.map_append, List.nodup_append] at nd
  rw [hiS_snoc]
  rcases List.mem_append.mp hf with hf | hf
  · rw [if_neg fun e => nd.2.2 f.1 (List.mem_map_of_mem hf) g.1 (List.mem_singleton.mpr rfl) e.symm]
    exact ih nd.1 f hf
  · obtain rfl := List.mem_singleton.mp hf
    rw [if_pos rfl, hiS_none F f.1 fun hm => nd.2.2 f.1 hm f.1 (List.mem_singleton.mpr rfl) rfl]
    simp
def told (t : Nat → Nat → Int) (n : Nat) : List (Ky × Int) := (keys n).map fun k => (k, rest t n k)
theorem told_keys {t : Nat → Nat → Int} {n : Nat} : (told t n).map (·.1) = keys n := by unfold told; rw [List.map_map]; exact List.map_id _
theorem key_part {n : Nat} (h1 : 1 ≤ n) (h8 : n ≤ 8) {k : Ky} (hk : k ∈ keys n) : ∃ r, PartOk n k.1 r ∧ (∀ q ∈ r, q ∈ parts (n - 1)) ∧ k.2 ∈ k.1 := by
  obtain ⟨a, b⟩ := mem_keysR.mp hk
  obtain ⟨j, hj⟩ := List.mem_iff_getElem?.mp a
  have ok := part_at h1 h8 hj
  exact ⟨_, ok, fun q hq => List.mem_of_mem_drop hq, (lasts_of ok).2.1 _ b⟩
theorem key_vd {n : Nat} (h1 : 1 ≤ n) (h8 : n ≤ 8) {k : Ky} (hk : k ∈ keys n) : Vd n k.1 := by
  obtain ⟨r, ok, _, _⟩ := key_part h1 h8 hk
  exact ⟨ok.up, by obtain ⟨q, e⟩ := ok.zero; rw [e]; exact List.mem_cons_self .., ok.lt⟩
theorem told_hi {t : Nat → Nat → Int} {n : Nat} (h1 : 1 ≤ n) (h8 : n ≤ 8) {k : Ky} (hk : k ∈ keys n) : hiS (told t n) k = some (rest t n k) :=
  hiS_one (told t n) (by rw [told_keys]; exact keys_nd h1 h8) (k, rest t n k) (List.mem_map_of_mem hk)
theorem told_hold {T : List (List Int)} {n : Nat} (h1 : 1 ≤ n) (h8 : n ≤ 8) {k : Ky} (hk : k ∈ keys n) : holdB T n (hiS (told (at2 T) n)) k.1 k.2 (rest (at2 T) n k) = true := by
  obtain ⟨r, ok, hr, _⟩ := key_part h1 h8 hk
  unfold holdB
  by_cases c0 : rest (at2 T) n k ≤ 0
  · rw [if_pos c0]
  rw [if_neg c0]
  by_cases c1 : k.1.length = n
  · rw [if_pos c1]
    exact decide_eq_true (by rw [show rest (at2 T) n k = at2 T k.2 0 from rest_full c1]; exact Int.le_refl _)
  · rw [if_neg c1, List.all_eq_true]
    intro p hp
    have nk : (ins p k.1, p) ∈ keys n := by
      obtain ⟨a, b⟩ := mem_keysR.mp (next_key h1 h8 ok hr hp)
      exact mem_keysR.mpr ⟨hr _ a, b⟩
    unfold heldB
    rw [told_hi h1 h8 nk]
    have le : rest (at2 T) n k ≤ at2 T k.2 p + rest (at2 T) n (ins p k.1, p) := by
      rw [show rest (at2 T) n k = _ from rest_step (s := k.1) (l := k.2) (by have := ok.le; omega)]
      exact minL_le (List.mem_map_of_mem hp)
    rw [Bool.or_eq_true]
    exact .inr (decide_eq_true (by omega))
theorem told_show {T : List (List Int)} {n : Nat} (h1 : 1 ≤ n) (h8 : n ≤ 8) (h0 : (([0], 0) : Ky) ∈ keys n) (num : Int) : showB T n (told (at2 T) n) num = decide (num ≤ rest (at2 T) n ([0], 0)) := by
  unfold showB
  rw [if_pos (List.all_eq_true.mpr fun f hf => ?_), told_hi h1 h8 h0]
  · show (if rest (at2 T) n ([0], 0) < num then false else _) = _
    by_cases c : rest (at2 T) n ([0], 0) < num
    · rw [if_pos c, decide_eq_false (by omega)]
    · rw [if_neg c, decide_eq_true (by omega), List.all_eq_true]
      intro f hf
      obtain ⟨k, hk, rfl⟩ := List.mem_map.mp hf
      exact told_hold h1 h8 hk
  · obtain ⟨k, hk, rfl⟩ := List.mem_map.mp hf
    obtain ⟨_, _, _, hm⟩ := key_part h1 h8 hk
    exact List.contains_iff_mem.mpr hm
end K06
namespace K06
open PySem L2 S
theorem left_succ (i : Nat) (s : List Nat) : left (i + 1) s = left i s ++ if s.contains i = true then [] else [i] := by
  unfold left
  rw [List.range_succ, List.filter_append]
  congr 1
  by_cases c : s.contains i = true
  · rw [if_pos c, List.filter_cons_of_neg (by rw [c]; exact Bool.false_ne_true)]; rfl
  · rw [if_neg c, List.filter_cons_of_pos (by rw [Bool.not_eq_true _ |>.mp c]; rfl)]; rfl
theorem left_le (n : Nat) (s : List Nat) : (left n s).length ≤ n := Nat.le_trans (List.length_filter_le ..) (by rw [List.length_range]; exact Nat.le_refl _)
def E (n : Nat) : Nat → List (List Nat)
  | 0 => [[0]]
  | k + 1 => (E n k).flatMap fun s => (left n s).map fun p => s ++ [p]
theorem E_len {n : Nat} (n8 : n ≤ 8) : ∀ k, k ≤ 7 → (E n k).length ≤ 8 ^ k ∧ ∀ s ∈ E n k, s.length = k + 1
  | 0, _ => ⟨Nat.le_refl _, fun s hs => by rw [List.mem_singleton.mp hs]; rfl⟩
  | k + 1, hk => by
    obtain ⟨a, b⟩ := E_len n8 k (by omega)
    refine ⟨?_, fun s hs => ?_⟩
    · rw [E]
      have : ∀ l : List (List Nat), (l.flatMap fun s => (left n s).map fun p => s ++ [p]).length ≤ l.length * 8 := fun l => by
        induction l with
        | nil => simp
        | cons x l ih =>
          rw [List.flatMap_cons, List.length_append, List.length_cons, List.length_map]
          have := left_le n x
          omega
      have := this (E n k)
      rw [Nat.pow_succ]
      exact Nat.le_trans this (Nat.mul_le_mul_right _ a)
    · rw [E, List.mem_flatMap] at hs
      obtain ⟨r, hr, hs⟩ := hs
      obtain ⟨p, _, rfl⟩ := List.mem_map.mp hs
      rw [List.length_append, b r hr]; rfl
theorem mem_E {n : Nat} : ∀ {k : Nat} {s : List Nat}, s ∈ E n k ↔ ∃ w : List Nat, s = 0 :: w ∧ w.length = k ∧ w.Nodup ∧ ∀ x ∈ w, x < n ∧ x ≠ 0
  | 0, s => by
    rw [E, List.mem_singleton]
    constructor
    · rintro rfl; exact ⟨[], rfl, rfl, List.nodup_nil, fun x z => by cases z⟩
    · rintro ⟨w, rfl, hw, _⟩
      rw [List.length_eq_zero_iff.mp hw]
  | k + 1, s => by
    rw [E, List.mem_flatMap]
    constructor
    · rintro ⟨r, hr, hs⟩
      obtain ⟨p, hp, rfl⟩ := List.mem_map.mp hs
      obtain ⟨w, rfl, hw, nd, lt⟩ := mem_E.mp hr
      obtain ⟨h1, h2⟩ := mem_left.mp hp
      rw [List.mem_cons, not_or] at h2
      refine ⟨w ++ [p], rfl, by rw [List.length_append, hw]; rfl, List.nodup_append.mpr ⟨nd, List.nodup_cons.mpr ⟨(fun z => by cases z), List.nodup_nil⟩, fun a ha b hb e => ?_⟩, fun x hx => ?_⟩
      · rw [List.mem_singleton.mp hb] at e
        exact h2.2 (e ▸ ha)
      · rcases List.mem_append.mp hx with hx | hx
        · exact lt x hx
        · rw [List.mem_singleton.mp hx]; exact ⟨h1, h2.1⟩
    · rintro ⟨w, rfl, hw, nd, lt⟩
      rcases List.eq_nil_or_concat w with rfl | ⟨u, p, rfl⟩
      · cases hw
      · rw [List.concat_eq_append] at *
        have nd' := List.nodup_append.mp nd
        refine ⟨0 :: u, mem_E.mpr ⟨u, rfl, by rw [List.length_append] at hw; simpa using hw, nd'.1, fun x hx => lt x (List.mem_append_left _ hx)⟩, List.mem_map.mpr ⟨p, mem_left.mpr ⟨(lt p (by simp)).1, ?_⟩, rfl⟩⟩
        rw [List.mem_cons, not_or]
        exact ⟨(lt p (by simp)).2, fun z => nd'.2.2 p z p (List.mem_singleton.mpr rfl) rfl⟩
theorem left_nodup (n : Nat) (s : List Nat) : (left n s).Nodup := List.filter_sublist.nodup List.nodup_range
theorem E_nd {n : Nat} : ∀ k, (E n k).Nodup
  | 0 => List.nodup_cons.mpr ⟨(fun z => by cases z), List.nodup_nil⟩
  | k + 1 => by
    rw [E]
    have : ∀ l : List (List Nat), l.Nodup → (l.flatMap fun s => (left n s).map fun p => s ++ [p]).Nodup := fun l => by
      induction l with
      | nil => intro _; exact List.nodup_nil
      | cons x l ih =>
        intro nd
        obtain ⟨h1, h2⟩ := List.nodup_cons.mp nd
        rw [List.flatMap_cons, List.nodup_append]
        refine ⟨?_, ih h2, fun a ha b hb e => ?_⟩
        · rw [List.nodup_iff_pairwise_ne, List.pairwise_map]
          exact (left_nodup n x).imp fun h e => h (List.append_cancel_left e |> List.cons.inj |>.1)
        · obtain ⟨p, _, rfl⟩ := List.mem_map.mp ha
          obtain ⟨r, hr, hb⟩ := List.mem_flatMap.mp hb
          obtain ⟨p', _, rfl⟩ := List.mem_map.mp hb
          have := (List.append_inj' e rfl).1
          exact h1 (this ▸ hr)
    exact this _ (E_nd k)
theorem E_perm {n : Nat} : (E n (n - 1)).Perm ((rounds n).map (0 :: ·)) := by
  refine (List.perm_ext_iff_of_nodup (E_nd _) ?_).mpr fun s => ?_
  · rw [List.nodup_iff_pairwise_ne, List.pairwise_map]
    exact (ways_nd (n := n) (m := n - 1) (s := [0])).imp fun h e => h (List.cons.inj e).2
  · rw [mem_E, List.mem_map]
    constructor
    · rintro ⟨w, rfl, a, b, c⟩; exact ⟨w, mem_rounds.mpr ⟨a, b, c⟩, rfl⟩
    · rintro ⟨w, hw, rfl⟩
      obtain ⟨a, b, c⟩ := mem_rounds.mp hw
      exact ⟨w, rfl, a, b, c⟩
theorem pth_sum {t : Nat → Nat → Int} : ∀ (l : List Nat) (a : Nat), pth t (a :: l) = ((List.range l.length).map fun k => t ((a :: l).getD k 0) ((a :: l).getD (k + 1) 0)).sum
  | [], a => rfl
  | b :: l, a => by
    rw [List.length_cons, List.range_succ_eq_map, List.map_cons, List.map_map, List.sum_cons]
    show t a b + pth t (b :: l) = _
    rw [pth_sum l b]
    rfl
section
variable {K : PySem.W.Frag}
def spAl (K : PySem.W.Frag) : Sp := fun vs H Q _ => ∃ (v : V) (T : List (List Int)) (n : Nat) (b : Addr) (w : List Nat), vs = [v, .ref b] ∧ Tb K H v T n ∧ SqT K H b ((ic (0 :: w)).map V.int) ∧ (∀ x ∈ w, x < n) ∧ w.length ≤ 20 ∧ ∀ H', Same H H' → Q (.int (cost (at2 T) w)) H'
def stp (T : List (List Int)) (g : List Nat) (k : Nat) : Int := at2 T (g.getD (if k = 0 then g.length - 1 else k - 1) 0) (g.getD k 0)
theorem stp_sum {T : List (List Int)} {w : List Nat} : ((List.range (0 :: w).length).map (stp T (0 :: w))).sum = cost (at2 T) w := by
  rw [List.length_cons, List.range_succ_eq_map, List.map_cons, List.map_map, List.sum_cons]
  unfold cost
  rw [pth_last, pth_sum]
  have l1 : stp T (0 :: w) 0 = at2 T ((0 :: w).getLast (by simp)) 0 := by
    unfold stp
    rw [if_pos rfl]
    congr 1
    rw [List.getLast_eq_getElem, List.getD_eq_getElem?_getD, List.getElem?_eq_getElem (by simp)]; rfl
  rw [l1, Int.add_comm]
  rfl
theorem rd_al : ∀ vs H Q E, spAl K vs H Q E → T__law_along K { nx := fun _ H' => Q .non H', rt := Q } (start ["table", "some"] vs) H := by
  intro vs H Q E h
  obtain ⟨v, T, n, b, w, rfl, tb, hb, lt, wl, q⟩ := h
  have n1 := tb.one
  generalize hg : 0 :: w = g at hb
  have gl : g.length = w.length + 1 := by rw [← hg]; rfl
  have glt : ∀ k, k < g.length → g.getD k 0 < n := fun k hk => by
    rw [List.getD_eq_getElem?_getD, List.getElem?_eq_getElem hk]
    show g[k] < n
    rcases List.mem_cons.mp (show g[k] ∈ 0 :: w by rw [hg]; exact List.getElem_mem hk) with e | e
    · rw [e]; omega
    · exact lt _ e
  have gat : ∀ k, k < g.length → ((ic g).map V.int)[k]? = some (V.int ((g.getD k 0 : Nat) : Int)) := fun k hk => by
    unfold ic
    rw [List.getElem?_map, List.getElem?_map, List.getD_eq_getElem?_getD, List.getElem?_eq_getElem hk]; rfl
  refine ⟨_, rfl, b, _, rfl, .inr hb, (g.length : Int), by rw [ic_len], by omega, by omega, fun A hA => ?_⟩
  rw [Int.toNat_natCast]
  refine inv_range (lo := 0) (n := g.length) (vars := [0]) (fun i ys H' => i ≤ g.length ∧ ys = ((List.range i).map (stp T g)).map V.int) (by decide) (by show 0 < 3; decide) ⟨Nat.zero_le _, rfl⟩ hA (fun i σ1 H1 ys D1 hi l1 ag s0 sm ha ⟨_, hL⟩ hD => ?_) fun σ1 H1 ys sm ha ⟨_, hL⟩ => ?_
  · rw [Int.zero_add] at s0
    have u1 : σ1[1]? = some (some v) := (ag 1 (by decide)).trans rfl
    have u2 : σ1[2]? = some (some (.ref b)) := (ag 2 (by decide)).trans rfl
    have hb1 := sm.tup hb
    have j0 : (if i = 0 then g.length - 1 else i - 1) < g.length := by split <;> omega
    have fin : ∀ D2 : Unit, tEmit (tOp (rIx2 K) (tOp (rIx2 K) (tVar 1) (tOp (rIx2 K) (tVar 2) (tOp ySub (tVar 0) (tC (.int 1))))) (tOp (rIx2 K) (tVar 2) (tVar 0))) A D1 σ1 H1 := fun _ => by
      refine ⟨_, u1, _, u2, _, s0, _, _, rfl, rfl, ?_⟩
      have nx : ∀ (Q : VK), Q (.int ((g.getD (if i = 0 then g.length - 1 else i - 1) 0 : Nat) : Int)) H1 → rIx2 K (.ref b) (.int ((i : Int) - 1)) H1 Q := fun Q z => by
        by_cases c : i = 0
        · subst c
          rw [if_pos rfl] at z
          exact ixT_last hb1 (by rw [ic_len]; exact gat _ (by omega)) z
        · rw [if_neg c] at z
          rw [show (i : Int) - 1 = ((i - 1 : Nat) : Int) by omega]
          exact ixT hb1 (gat _ (by omega)) z
      refine nx _ (tab_row (Sh.same sm tb.sh) tb.quad (glt _ j0) fun r hr => ⟨_, u2, _, s0, ixT hb1 (gat i hi) (ixT (v := .int (stp T g i)) hr ?_ ⟨ys, ha, ?_, hD σ1 _ _ l1 ag (samePut hA sm) upd_same ⟨hi, ?_⟩⟩)⟩)
      · obtain ⟨row, e1, e2, e3⟩ := tb.quad.get (glt _ j0)
        rw [List.getElem?_map, L2.getD_at (by rw [e3, e2]; exact glt i hi)]; rfl
      · rw [hL, List.length_map, List.length_map, List.length_range]; exact Nat.lt_of_le_of_lt (show i ≤ 21 by omega) (by decide)
      · rw [hL, List.range_succ, List.map_append, List.map_append]; rfl
    exact fin ()
  · refine ⟨A, _, rfl, .inl (.of (by rw [ha, hL])), ?_⟩
    rw [← hg, stp_sum]
    exact q H1 sm
end
end K06
namespace K06
open PySem L2 S
section
variable {K : PySem.W.Frag}
theorem rowsI_at {H : Hp} {xs : List V} {P : List (List Nat)} (h : Rows K H xs (P.map ic)) {i : Nat} {x : V} (hx : xs[i]? = some x) : ∃ q b, P[i]? = some q ∧ x = .ref b ∧ SqT K H b ((ic q).map V.int) := by
  have hi : i < xs.length := (List.getElem?_eq_some_iff.mp hx).1
  have hl : i < P.length := by rw [h.1, List.length_map] at hi; exact hi
  obtain ⟨b, e1, e2⟩ := h.2 i (ic P[i]) (by rw [List.getElem?_map, List.getElem?_eq_getElem hl]; rfl)
  rw [hx] at e1
  exact ⟨P[i], b, List.getElem?_eq_getElem hl, Option.some.inj e1, e2⟩
theorem rowsI_len {H : Hp} {xs : List V} {P : List (List Nat)} (h : Rows K H xs (P.map ic)) : xs.length = P.length := by rw [h.1, List.length_map]
theorem rows_app' {H : Hp} {xs ys : List V} {T U : List (List Int)} (h : Rows K H xs T) (g : Rows K H ys U) : Rows K H (xs ++ ys) (T ++ U) := by
  refine ⟨by rw [List.length_append, List.length_append, h.1, g.1], fun i row e => ?_⟩
  by_cases c : i < T.length
  · rw [List.getElem?_append_left c] at e
    obtain ⟨b, e1, e2⟩ := h.2 i row e
    exact ⟨b, by rw [List.getElem?_append_left (by rw [h.1]; exact c)]; exact e1, e2⟩
  · rw [List.getElem?_append_right (by omega)] at e
    obtain ⟨b, e1, e2⟩ := g.2 _ row e
    exact ⟨b, by rw [List.getElem?_append_right (by rw [h.1]; omega), h.1]; exact e1, e2⟩
def spArd (K : PySem.W.Frag) : Sp := fun vs H Q _ => ∃ n : Nat, vs = [.int (n : Int)] ∧ 1 ≤ n ∧ n ≤ 8 ∧ ∀ F ys H', Same H H' → H F = none → H' F = some (.lst ys) → Rows K H' ys ((E n (n - 1)).map ic) → Q (.ref F) H'
theorem rd_ard : ∀ vs H Q E', spArd K vs H Q E' → T__law_arounds K { nx := fun _ H' => Q .non H', rt := Q } (start ["many", "found", "turn", "more", "some"] vs) H := by
  intro vs H Q E' h
  obtain ⟨n, rfl, n1, n8, q⟩ := h
  refine ⟨show 1 ≤ sizeLine by decide, fun e he => ⟨show 1 ≤ sizeLine by decide, fun F hF => ?_⟩⟩
  have s1 := same_new he (.tup [V.int 0])
  have s2 := same_new hF (.lst [.ref e])
  have hF1 : (upd (upd H e (.tup [V.int 0])) F (.lst [.ref e])) F = some (.lst [.ref e]) := upd_same
  have he1 : SqT K (upd (upd H e (.tup [V.int 0])) F (.lst [.ref e])) e [V.int 0] := s2.tup (.of upd_same)
  have m0 := s1.trans s2
  have hF0 : H F = none := s1.free hF
  show tSeq _ _ _ _ (upd (upd H e (.tup [V.int 0])) F (.lst [.ref e]))
  generalize upd (upd H e (.tup [V.int 0])) F (.lst [.ref e]) = H0 at hF1 he1 m0 ⊢
  have r0 : Rows K H0 [.ref e] ((E n 0).map ic) := ⟨rfl, fun i row z => by
    cases i with
    | zero =>
      obtain rfl : ic [0] = row := Option.some.inj z
      exact ⟨e, rfl, he1⟩
    | succ i => cases z⟩
  refine ⟨_, rfl, _, _, rfl, rfl, (n : Int) - 1, rfl, by omega, by omega, ?_⟩
  rw [show ((n : Int) - 1).toNat = n - 1 by omega]
  refine for_range (lo := 0) (n := n - 1) (fun i σ' H' => i ≤ n - 1 ∧ ∃ F ys x2 x3 x4, σ' = [some (.int (n : Int)), some (.ref F), x2, x3, x4] ∧ Same H H' ∧ H F = none ∧ H' F = some (.lst ys) ∧ Rows K H' ys ((E n i).map ic)) ⟨Nat.zero_le _, F, _, _, _, _, rfl, m0, hF0, hF1, r0⟩ (fun i σ1 H1 hi ⟨_, F1, ys, x2, x3, x4, es, sm, hF10, hF2, hr⟩ => ?_) fun σ1 H1 ⟨_, F1, ys, x2, x3, x4, es, sm, hF10, hF2, hr⟩ => ?_
  · subst es
    obtain ⟨el, ew⟩ := E_len n8 i (by omega)
    have yl := rowsI_len hr
    have p8 : (8 : Nat) ^ i ≤ 8 ^ 6 := Nat.pow_le_pow_right (by decide) (by omega)
    have p9 : (8 : Nat) ^ 6 = 262144 := by decide
    refine ⟨Nat.zero_le _, fun M hM => ?_⟩
    have sM := same_new hM (.lst [])
    have hM0 : H M = none := sm.free hM
    have hM1 : (upd H1 M (.lst [])) M = some (.lst []) := upd_same
    have hFM : F1 ≠ M := fun z => by rw [z, hM] at hF2; cases hF2
    have hF3 := sM _ _ hF2
    have hr3 := hr.same sM
    have m3 := sm.trans sM
    show tSeq _ _ _ _ (upd H1 M (.lst []))
    generalize upd H1 M (.lst []) = H3 at hM1 hF3 hr3 m3 ⊢
    refine ⟨_, rfl, F1, rfl, .inl ⟨⟨_, .of hF3⟩, ?_⟩⟩
    refine for_list (K := K) (a := F1) (xs := ys) (fun j σ' H' => j ≤ ys.length ∧ ∃ x4 zs, σ' = [some (.int (n : Int)), some (.ref F1), some (.int (0 + (i : Int))), some (.ref M), x4] ∧ Same H H' ∧ H' F1 = some (.lst ys) ∧ H' M = some (.lst zs) ∧ Rows K H' ys ((E n i).map ic) ∧ Rows K H' zs ((((E n i).take j).flatMap fun s => (left n s).map fun p => s ++ [p]).map ic)) ⟨Nat.zero_le _, _, [], rfl, m3, hF3, hM1, hr3, Rows.nil⟩ (fun j σ' H' _ ⟨_, _, _, _, _, z, _⟩ => .of z) (fun j x σ4 H4 hx ⟨_, y4, zs, es, s4, hF4, hM4, hr4, hz4⟩ => ?_) fun σ4 H4 ⟨_, y4, zs, es, s4, hF4, hM4, hr4, hz4⟩ => ?_
    · subst es
      have hj : j < ys.length := (List.getElem?_eq_some_iff.mp hx).1
      obtain ⟨s, b, hs, rfl, hb⟩ := rowsI_at hr4 hx
      have sl := ew s (List.mem_of_getElem? hs)
      refine ⟨_, rfl, .inl ⟨rfl, _, .of hM4⟩, _, rfl, (n : Int), rfl, by omega, by omega, fun G hG => ?_⟩
      rw [Int.toNat_natCast]
      refine inv_range (lo := 0) (n := n) (vars := [0]) (fun k us H' => k ≤ n ∧ Rows K H' us (((left k s).map fun p => s ++ [p]).map ic)) (by decide) (by show 0 < 2; decide) ⟨Nat.zero_le _, Rows.nil⟩ hG (fun k σ5 H5 us D5 hk l5 ag s0 s5 hG5 ⟨_, hr5⟩ hD => ?_) fun σ5 H5 us s5 hG5 ⟨_, hr5⟩ => ?_
      · rw [Int.zero_add] at s0
        have u1 : σ5[1]? = some (some (.ref b)) := (ag 1 (by decide)).trans rfl
        have ls := left_succ k s
        have ll := left_le k s
        refine ⟨_, s0, _, u1, in_ic (x := k) (neg := true) (s5.tup hb) ⟨_, rfl, ?_⟩⟩
        cases c : s.contains k with
        | true =>
          rw [c, if_pos rfl, List.append_nil] at ls
          exact iteF' rfl (hD σ5 H5 us l5 ag s5 hG5 ⟨hk, by rw [ls]; exact hr5⟩)
        | false =>
          rw [c, if_neg Bool.false_ne_true] at ls
          refine iteT' rfl ⟨_, u1, _, s0, show 1 ≤ sizeLine by decide, fun z hz => ?_⟩
          have sz := same_new hz (.tup [V.int (k : Int)])
          refine .inr ⟨b, z, _, _, rfl, rfl, (s5.trans sz).tup hb, .of upd_same, by rw [ic_len]; exact Nat.le_trans (show s.length + 1 ≤ 9 by omega) (by decide), fun p H6 _ hp s6 => ?_⟩
          have hG6 := s6 _ _ (sz _ _ hG5)
          refine ⟨us, hG6, ?_, hD σ5 _ (us ++ [.ref p]) l5 ag (samePut hG (s5.trans (sz.trans s6))) upd_same ⟨hk, ?_⟩⟩
          · rw [rowsI_len hr5, List.length_map]; exact Nat.lt_of_le_of_lt (show _ ≤ 8 by omega) (by decide)
          · rw [ls, List.map_append, List.map_append]
            refine Rows.put (Rows.snoc ((hr5.same sz).same s6) ?_) hG6
            rw [← ic_app, List.map_append]
            exact hp
      · have hM5 := s5 _ _ hM4
        have ul := rowsI_len hr5
        rw [List.length_map] at ul
        have ll := left_le n s
        have hz5 := hz4.same s5
        have zl := rowsI_len hz4
        have zle : (((E n i).take j).flatMap fun s => (left n s).map fun p => s ++ [p]).length ≤ 8 ^ 7 := by
          have : ∀ l : List (List Nat), (l.flatMap fun s => (left n s).map fun p => s ++ [p]).length ≤ l.length * 8 := fun l => by
            induction l with
            | nil => simp
            | cons x l ih =>
              rw [List.flatMap_cons, List.length_append, List.length_cons, List.length_map]
              have := left_le n x
              omega
          have h1 := this ((E n i).take j)
          have h2 : ((E n i).take j).length ≤ 8 ^ i := Nat.le_trans (by rw [List.length_take]; omega) el
          have p10 : (8 : Nat) ^ 7 = 2097152 := by decide
          omega
        have p10 : (8 : Nat) ^ 7 = 2097152 := by decide
        refine .inl ⟨M, G, zs, us, rfl, rfl, hM5, hG5, Nat.le_trans (show zs.length + us.length ≤ 2097160 by omega) (by decide), hj, _, zs ++ us, rfl, samePut hM0 (s4.trans s5), ?_, upd_same, Rows.put (hr4.same s5) hM5, ?_⟩
        · rw [upd_ne hFM]; exact s5 _ _ hF4
        · rw [List.take_add_one, hs, List.flatMap_append, List.map_append]
          refine Rows.put (rows_app' hz5 ?_) hM5
          simpa using hr5
    · subst es
      have : (E n i).take ys.length = E n i := by rw [yl, List.take_length]
      rw [this] at hz4
      exact ⟨_, rfl, hi, M, zs, _, _, _, rfl, s4, hM0, hM4, hz4⟩
  · subst es
    exact ⟨_, rfl, q F1 ys H1 sm hF10 hF2 hr⟩
end
end K06
namespace K06
open PySem L2
section
variable {K : PySem.W.Frag}
def stD (sc : Addr) (k : Nat) : HO := .dK [(.inr "script", .ref sc), (.inr "at", .int (k : Int))]
theorem put_at (x y z : V) : putK [((.inr "script" : Key), x), (.inr "at", y)] (.inr "at") z = [(.inr "script", x), (.inr "at", z)] := by rfl
theorem SqL.updD {H : Hp} {a d : Addr} {xs : List V} {kvs : List (Key × V)} {o : HO} (h : SqL K H a xs) (hd : H d = some (.dK kvs)) : SqL K (upd H d o) a xs := by
  rcases h with (h | ⟨ob, h⟩) | h
  · exact .inl (.inl (by rw [upd_ne (ne_of h hd (fun z => nomatch z))]; exact h))
  · exact .inl (.inr ⟨ob, by rw [upd_ne (ne_of h hd (fun z => nomatch z))]; exact h⟩)
  · exact .inr h
def spCell (K : PySem.W.Frag) : Sp := fun vs H Q _ => ∃ (d sc : Addr) (ns : List Int) (k : Nat), vs = [.ref d] ∧ H d = some (stD sc k) ∧ SqL K H sc (ns.map V.int) ∧ Q (.int (ns.getD k 0)) (upd H d (stD sc (k + 1)))
theorem rd_cell : ∀ vs H Q E, spCell K vs H Q E → T__law_acell K { nx := fun _ H' => Q .non H', rt := Q } (start ["state"] vs) H := by
  intro vs H Q E h
  obtain ⟨d, sc, ns, k, rfl, hd, hs, q⟩ := h
  have g1 : DGet H d (.str "at") (some (.int (k : Int))) := DGet.k (k := .inr "at") hd
  refine ⟨_, rfl, d, _, rfl, g1, _, rfl, d, _, rfl, DPut.k (k := .inr "at") hd (by show 2 < sizeLine; decide), ?_⟩
  rw [put_at]
  have e1 : (k : Int) + 1 = ((k + 1 : Nat) : Int) := by omega
  rw [e1]
  have hd' : upd H d (stD sc (k + 1)) d = some (stD sc (k + 1)) := upd_same
  have hs' := SqL.updD (o := stD sc (k + 1)) hs hd
  have g2 : DGet (upd H d (stD sc (k + 1))) d (.str "at") (some (.int ((k + 1 : Nat) : Int))) := DGet.k (k := .inr "at") hd'
  have g3 : DGet (upd H d (stD sc (k + 1))) d (.str "script") (some (.ref sc)) := DGet.k (k := .inr "script") hd'
  refine ⟨_, rfl, d, _, rfl, g2, _, rfl, d, _, rfl, g3, sc, _, rfl, .inl hs', _, _, rfl, rfl, _, rfl, ?_⟩
  rw [List.length_map]
  by_cases hk : k < ns.length
  · rw [decide_eq_false (by omega)]
    refine iteF ?_
    refine ⟨_, rfl, d, _, rfl, g3, _, rfl, d, _, rfl, g2, _, _, rfl, rfl, ?_⟩
    have e2 : ((k + 1 : Nat) : Int) - 1 = (k : Int) := by omega
    show rIx2 K (.ref sc) (.int (((k + 1 : Nat) : Int) - 1)) _ _
    rw [e2]
    refine ixL hs' (v := .int (ns.getD k 0)) ?_ q
    rw [List.getElem?_map, L2.getD_at hk]; rfl
  · rw [decide_eq_true (by omega)]
    refine iteT ?_
    have e3 : ns.getD k 0 = 0 := by rw [List.getD_eq_getElem?_getD, List.getElem?_eq_none (by omega)]; rfl
    rw [e3] at q
    exact q
def spLen : Sp := fun vs H Q _ => ∃ c : Int, vs = [.int c] ∧ ∀ r : Int, 0 ≤ r → r ≤ 1000000 → ∀ H', Same H H' → Q (.int r) H'
theorem rd_len : ∀ vs H Q E, spLen vs H Q E → T__law_alength K { nx := fun _ H' => Q .non H', rt := Q } (start ["cell", "top"] vs) H := by
  intro vs H Q E h
  obtain ⟨c, rfl, q⟩ := h
  refine ⟨by show 5 ≤ sizeLine; decide, fun p hp => ⟨_, rfl, _, _, rfl, rfl, by show (0 : Int) < 5; decide, ?_⟩⟩
  have h0 : 0 ≤ c % 5 := Int.emod_nonneg _ (by decide)
  have h5 : c % 5 < 5 := Int.emod_lt_of_pos _ (by decide)
  obtain ⟨m, hm⟩ := Int.eq_ofNat_of_zero_le h0
  show rIx2 K (.ref p) (.int (c % 5)) _ _
  rw [hm]
  have hm5 : m < 5 := by omega
  have key : ∀ t : Int, 0 < t → t ≤ 1000001 → ([V.int 4, .int 2, .int 10, .int 1000, .int 1000001] : List V)[m]? = some (.int t) →
      rIx2 K (.ref p) (.int (m : Int)) (upd H p (.lst [V.int 4, .int 2, .int 10, .int 1000, .int 1000001])) (fun x H1 => gName 1 x (start ["cell", "top"] [V.int c]) H1 (tSeq (tRet (tOp yMod (tOp yDiv (tVar 0) (tC (.int 5))) (tVar 1))) tNext { nx := fun _ H' => Q .non H', rt := Q })) := fun t h1 h2 h3 => by
    refine ixL (.of upd_same) h3 ?_
    refine ⟨_, rfl, _, _, rfl, rfl, ⟨by decide, by decide⟩, _, rfl, _, _, rfl, rfl, h1, ?_⟩
    exact q _ (Int.emod_nonneg _ (by omega)) (by have := Int.emod_lt_of_pos (c / 5) h1; omega) _ (same_new hp _)
  match m, hm5 with
  | 0, _ => exact key 4 (by decide) (by decide) rfl
  | 1, _ => exact key 2 (by decide) (by decide) rfl
  | 2, _ => exact key 10 (by decide) (by decide) rfl
  | 3, _ => exact key 1000 (by decide) (by decide) rfl
  | 4, _ => exact key 1000001 (by decide) (by decide) rfl
end
end K06
namespace K06
open PySem L2
def Bnd (M : List (List Int)) (n : Nat) : Prop := ∀ i j, i < n → j < n → 0 ≤ at2 M i j ∧ at2 M i j ≤ 1000000 ∧ at2 M i i = 0
theorem bnd_put {M : List (List Int)} {n i j : Nat} {v : Int} (b : Bnd M n) (q : Quad M n) (hi : i < n) (hj : j < n) (h0 : 0 ≤ v) (h1 : v ≤ 1000000) (hne : i ≠ j) : Bnd (put2 M i j v) n := by
  intro a c ha hc
  rw [put2_at q hi hj, put2_at q hi hj]
  have := b a c ha hc
  refine ⟨?_, ?_, ?_⟩
  · split <;> omega
  · split <;> omega
  · rw [if_neg (by rintro ⟨rfl, rfl⟩; exact hne rfl)]; exact this.2.2
section
variable {K : PySem.W.Frag}
def spTable (K : PySem.W.Frag) (most : Nat) : Sp := fun vs H Q _ => ∃ (d sc : Addr) (ns : List Int) (k n : Nat) (ev : Bool), vs = [.ref d, .int (n : Int), .bl ev] ∧ H d = some (stD sc k) ∧ SqL K H sc (ns.map V.int) ∧ 1 ≤ n ∧ n ≤ most ∧
  ∀ (T : List (List Int)) (v : V) (k' : Nat) (H' : Hp), Quad T n → Bnd T n → Sh K H' (tabD T) v → H' d = some (stD sc k') → SameX d H H' → Q v H'
structure MidT (K : PySem.W.Frag) (H : Hp) (d sc F : Addr) (ls : List Addr) (ns : List Int) (n : Nat) (H' : Hp) : Prop where
  ex : ∃ (M : List (List Int)) (k : Nat), Quad M n ∧ Bnd M n ∧ Mat H' F ls M ∧ H' d = some (stD sc k) ∧ SameX d H H'
theorem SqL.x {H H' : Hp} {a d : Addr} {xs : List V} {kvs : List (Key × V)} (h : SqL K H a xs) (hd : H d = some (.dK kvs)) (sx : SameX d H H') : SqL K H' a xs := by
  rcases h with (h | ⟨ob, h⟩) | h
  · exact .inl (.inl (sx _ _ (ne_of h hd (fun z => nomatch z)) h))
  · exact .inl (.inr ⟨ob, sx _ _ (ne_of h hd (fun z => nomatch z)) h⟩)
  · exact .inr h
theorem rep_at {n a b : Nat} : at2 (List.replicate n (List.replicate n 0)) a b = 0 := by
  unfold at2
  have : (List.replicate n (List.replicate n (0 : Int))).getD a [] = [] ∨ (List.replicate n (List.replicate n (0 : Int))).getD a [] = List.replicate n 0 := by
    rw [List.getD_eq_getElem?_getD, List.getElem?_replicate]
    split
    · exact .inr rfl
    · exact .inl rfl
  rcases this with e | e
  · rw [e]; rfl
  · rw [e, List.getD_eq_getElem?_getD, List.getElem?_replicate]
    split <;> rfl
theorem mat_ne {H : Hp} {F : Addr} {ls : List Addr} {M : List (List Int)} {n : Nat} {d : Addr} {kvs : List (Key × V)} (m : Mat H F ls M) (q : Quad M n) (hd : H d = some (.dK kvs)) : ∀ b, b = F ∨ b ∈ ls → b ≠ d := by
  rintro b (rfl | hb)
  · exact ne_of m.top hd (fun z => nomatch z)
  · obtain ⟨i, hi, rfl⟩ := List.mem_iff_getElem.mp hb
    have h2 : i < M.length := by rw [← m.len]; exact hi
    exact ne_of (m.row i _ _ (List.getElem?_eq_getElem hi) (List.getElem?_eq_getElem h2)) hd (fun z => nomatch z)
theorem rd_table {most : Nat} (hmost : most ≤ 9) : ∀ vs H Q E, spTable K most vs H Q E → T__law_atable K (spCell K) spLen { nx := fun _ H' => Q .non H', rt := Q } (start ["state", "many", "even", "found", "one", "other"] vs) H := by
  intro vs H Q E h
  obtain ⟨d, sc, ns, k, n, ev, rfl, hd, hs, h1, hm, q⟩ := h
  refine ⟨_, rfl, (n : Int), rfl, by omega, by omega, fun F hF => ?_⟩
  rw [Int.toNat_natCast]
  refine inv_range (vars := [0]) (fun i L H' => ∃ ls : List Addr, L = ls.map V.ref ∧ ls.length = i ∧ ls.Nodup ∧ F ∉ ls ∧ (∀ l ∈ ls, H' l = some (.lst (List.replicate n (.int 0)))) ∧ ∀ l ∈ ls, H l = none) (by decide) (by show 0 < 2; decide) ⟨[], rfl, rfl, List.nodup_nil, by simp, by simp, by simp⟩ hF (fun i σ1 H1 L D hi l1 ag1 s1 sm1 ha1 ⟨ls, e1, e2, e3, e4, e5, e6⟩ hD => ?_) fun σ1 H1 L sm1 ha1 ⟨ls, e1, e2, e3, e4, e5, e6⟩ => ?_
  · have m1 : σ1[1]? = some (some (.int (n : Int))) := (ag1 1 (by decide)).trans rfl
    refine ⟨by show 1 ≤ sizeLine; decide, fun p hp => ⟨_, m1, p, (n : Int), _, rfl, rfl, upd_same, by omega, by omega, ?_, fun p2 hp2 => ?_⟩⟩
    · rw [Int.toNat_natCast]
      exact Nat.le_trans (show 1 * n ≤ 9 by omega) (by decide)
    have hpF : p ≠ F := fun e => by rw [e, ha1] at hp; cases hp
    have hF2 : upd H1 p (.lst [V.int 0]) F = some (.lst L) := by rw [upd_ne (Ne.symm hpF)]; exact ha1
    have hp2F : p2 ≠ F := fun e => by rw [e, hF2] at hp2; cases hp2
    rw [Int.toNat_natCast, List.flatten_replicate_singleton]
    refine ⟨L, by rw [upd_ne (Ne.symm hp2F)]; exact hF2, Nat.lt_of_le_of_lt (show L.length ≤ 9 by rw [e1, List.length_map]; omega) (by decide), ?_⟩
    have keep : ∀ b o, b ≠ F → H1 b = some o → upd (upd (upd H1 p (.lst [V.int 0])) p2 (.lst (List.replicate n (V.int 0)))) F (.lst (L ++ [V.ref p2])) b = some o := fun b o hb e => by
      have e' : upd H1 p (.lst [V.int 0]) b = some o := by rw [upd_ne (ne_of_none e hp)]; exact e
      rw [upd_ne hb, upd_ne (ne_of_none e' hp2)]; exact e'
    refine hD σ1 _ (L ++ [.ref p2]) l1 ag1 (fun b o e => keep b o (ne_of_none e hF) (sm1 _ _ e)) upd_same ⟨ls ++ [p2], by rw [e1, List.map_append]; rfl, by rw [List.length_append, e2]; rfl, ?_, ?_, ?_, ?_⟩
    · refine nd_snoc e3 fun hmem => ?_
      have g := e5 p2 hmem
      have g' : upd H1 p (.lst [V.int 0]) p2 = some (.lst (List.replicate n (.int 0))) := by rw [upd_ne (ne_of_none g hp)]; exact g
      rw [g'] at hp2; cases hp2
    · intro hmem
      rcases List.mem_append.mp hmem with z | z
      · exact e4 z
      · exact hp2F (List.mem_singleton.mp z).symm
    · intro l hl
      rcases List.mem_append.mp hl with z | z
      · exact keep l _ (fun e => e4 (e ▸ z)) (e5 l z)
      · rw [List.mem_singleton.mp z, upd_ne hp2F]
        exact upd_same
    · intro l hl
      rcases List.mem_append.mp hl with z | z
      · exact e6 l z
      · rw [List.mem_singleton.mp z]
        exact (sm1.trans (same_new hp _)).free hp2
  have mat0 : Mat H1 F ls (List.replicate n (List.replicate n 0)) := by
    refine ⟨by rw [ha1, e1], by rw [e2, List.length_replicate], fun i l r a b => ?_, e3, e4⟩
    have := e5 l (List.mem_of_getElem? a)
    rw [List.getElem?_replicate] at b
    split at b
    · cases b
      rw [this, List.map_replicate]
    · cases b
  have quad0 : Quad (List.replicate n (List.replicate n (0 : Int))) n := ⟨List.length_replicate, fun r hr => by rw [List.eq_of_mem_replicate hr, List.length_replicate]⟩
  have mid0 : MidT K H d sc F ls ns n H1 := ⟨_, k, quad0, fun i j _ _ => by rw [rep_at, rep_at]; omega, mat0, sm1 _ _ hd, sm1.x⟩
  refine ⟨_, rfl, (n : Int), rfl, by omega, by omega, ?_⟩
  rw [Int.toNat_natCast]
  refine for_range (lo := 0) (n := n) (fun i σ' H' => ∃ a b, σ' = [some (.ref d), some (.int (n : Int)), some (.bl ev), some (.ref F), a, b] ∧ MidT K H d sc F ls ns n H') ⟨none, none, rfl, mid0⟩ (fun i σ2 H2 hi ⟨a, b, es, mid2⟩ => ?_) fun σ2 H2 ⟨a, b, es, mid2⟩ => ?_
  · subst es
    rw [Int.zero_add]
    refine ⟨_, rfl, (n : Int), rfl, by omega, by omega, ?_⟩
    rw [Int.toNat_natCast]
    refine for_range (lo := 0) (n := n) (fun j σ' H' => ∃ b, σ' = [some (.ref d), some (.int (n : Int)), some (.bl ev), some (.ref F), some (.int (i : Int)), b] ∧ MidT K H d sc F ls ns n H') ⟨b, rfl, mid2⟩ (fun j σ3 H3 hj ⟨b3, es3, mid3⟩ => ?_) fun σ3 H3 ⟨b3, es3, mid3⟩ => ⟨_, b3, es3, mid3⟩
    subst es3
    rw [Int.zero_add]
    obtain ⟨M, k3, qM, bM, mM, d3, f3⟩ := mid3.ex
    have s3 := SqL.x hs hd f3
    have drawn : i ≠ j → ∀ N : St → Hp → Prop, (∀ H', MidT K H d sc F ls ns n H' → N [some (.ref d), some (.int (n : Int)), some (.bl ev), some (.ref F), some (.int (i : Int)), some (.int (j : Int))] H') →
        tAsg (tCall spLen [] E0 (tCons (tCall (spCell K) [] E0 (tCons (tVar 0) tNil)) tNil)) (gSub (tOp (rIx2 K) (tVar 3) (tVar 4)) (tVar 5) rSetL) { nx := N, rt := Q } [some (.ref d), some (.int (n : Int)), some (.bl ev), some (.ref F), some (.int (i : Int)), some (.int (j : Int))] H3 := fun hne N hN => by
      refine ⟨_, rfl, d, sc, ns, k3, rfl, d3, s3, _, rfl, fun r r0 r1 H4 sm4 => ?_⟩
      have m4 : Mat (upd H3 d (stD sc (k3 + 1))) F ls M := mM.keep fun b o hb e => by rw [upd_ne (mat_ne mM qM d3 b hb)]; exact e
      have m4' := m4.same sm4
      have d4 : H4 d = some (stD sc (k3 + 1)) := sm4 _ _ upd_same
      refine mat_set m4' qM rfl rfl rfl hi hj fun l H5 hl e5 m5 => hN H5 ⟨_, k3 + 1, put2_quad qM hi, bnd_put bM qM hi hj r0 r1 hne, m5, ?_, fun b o hb e => ?_⟩
      · have : d ≠ l := (mat_ne m4' qM d4 l (.inr hl)).symm
        rw [e5, upd_ne this]; exact d4
      · have hbl : b ≠ l := ne_of_none e (e6 l hl)
        rw [e5, upd_ne hbl]
        exact sm4 _ _ (by rw [upd_ne hb]; exact f3 _ _ hb e)
    refine ⟨_, rfl, _, rfl, _, _, rfl, rfl, _, rfl, ite2 (fun c => ?_) fun c => ?_⟩
    · have c' : (i : Int) < j := of_decide_eq_true c
      exact iteT (drawn (by omega) _ fun H' m' => ⟨_, rfl, m'⟩)
    · have c' : ¬ (i : Int) < j := of_decide_eq_false (Bool.eq_false_iff.mpr c)
      refine ⟨_, rfl, _, rfl, _, _, rfl, rfl, _, rfl, ite2 (fun c2 => ?_) fun c2 => ?_⟩
      · have c2' : (j : Int) < i := of_decide_eq_true c2
        refine ⟨_, rfl, _, rfl, ?_⟩
        cases ev with
        | false => exact iteT (drawn (by omega) _ fun H' m' => ⟨_, rfl, m'⟩)
        | true =>
          refine iteF ⟨_, rfl, _, rfl, _, _, rfl, rfl, _, rfl, ?_⟩
          rw [decide_eq_true c2']
          refine iteT (mat_at mM qM rfl rfl rfl hj hi ?_)
          have bb := bM j i hj hi
          refine mat_set mM qM rfl rfl rfl hi hj fun l H5 hl e5 m5 => ⟨_, rfl, _, k3, put2_quad qM hi, bnd_put bM qM hi hj bb.1 bb.2.1 (by omega), m5, ?_, fun b o hb e => ?_⟩
          · have : d ≠ l := (mat_ne mM qM d3 l (.inr hl)).symm
            rw [e5, upd_ne this]; exact d3
          · rw [e5, upd_ne (ne_of_none e (e6 l hl))]
            exact f3 _ _ hb e
      · have c2' : ¬ (j : Int) < i := of_decide_eq_false (Bool.eq_false_iff.mpr c2)
        refine iteF ⟨_, rfl, _, rfl, _, _, rfl, rfl, _, rfl, ?_⟩
        rw [decide_eq_false c2']
        exact iteF ⟨_, rfl, mid3⟩
  · subst es
    obtain ⟨M, k3, qM, bM, mM, d3, f3⟩ := mid2.ex
    exact rd_freeze (t := 3) rfl mM qM (by omega) fun p H' sm hS => q M _ k3 H' qM bM hS (sm _ _ d3) (f3.trans sm.x)
end
end K06
namespace K06
open PySem L2 S
section
variable {K : PySem.W.Frag}
theorem Fl.put {H : Hp} {pre : List V} {F : List (Ky × Int)} {A : Addr} {zs : List V} {o : HO} (h : Fl K H pre F) (hA : H A = some (.lst zs)) : Fl K (upd H A o) pre F := ⟨h.1, fun i f e => by
  obtain ⟨b, c, e1, e2, e3⟩ := h.2 i f e
  exact ⟨b, c, e1, sqT_put e2 hA, by rw [upd_ne fun z => by rw [z, hA] at e3; cases e3]; exact e3⟩⟩
theorem Fl.app {H : Hp} {pre pre' : List V} {F G : List (Ky × Int)} (h : Fl K H pre F) (g : Fl K H pre' G) : Fl K H (pre ++ pre') (F ++ G) := by
  refine ⟨by rw [List.length_append, List.length_append, h.1, g.1], fun i f e => ?_⟩
  by_cases c : i < F.length
  · rw [List.getElem?_append_left c] at e
    obtain ⟨b, d, e1, e2⟩ := h.2 i f e
    exact ⟨b, d, by rw [List.getElem?_append_left (by rw [h.1]; exact c)]; exact e1, e2⟩
  · rw [List.getElem?_append_right (by omega)] at e
    obtain ⟨b, d, e1, e2⟩ := g.2 _ f e
    exact ⟨b, d, by rw [List.getElem?_append_right (by rw [h.1]; omega), h.1]; exact e1, e2⟩
theorem Fl.take {H : Hp} {pre : List V} {F : List (Ky × Int)} (h : Fl K H pre F) (j : Nat) : Fl K H (pre.take j) (F.take j) := by
  refine ⟨by rw [List.length_take, List.length_take, h.1], fun i f e => ?_⟩
  have hi : i < j := by
    rcases Nat.lt_or_ge i j with z | z
    · exact z
    · rw [List.getElem?_eq_none (by rw [List.length_take]; omega)] at e; cases e
  rw [List.getElem?_take_of_lt hi] at e
  obtain ⟨b, d, e1, e2⟩ := h.2 i f e
  exact ⟨b, d, by rw [List.getElem?_take_of_lt hi]; exact e1, e2⟩
theorem Fl.drop {H : Hp} {pre : List V} {F : List (Ky × Int)} (h : Fl K H pre F) (j : Nat) : Fl K H (pre.drop j) (F.drop j) := by
  refine ⟨by rw [List.length_drop, List.length_drop, h.1], fun i f e => ?_⟩
  rw [List.getElem?_drop] at e
  obtain ⟨b, d, e1, e2⟩ := h.2 _ f e
  exact ⟨b, d, by rw [List.getElem?_drop]; exact e1, e2⟩
theorem Fl.nil {H : Hp} : Fl K H [] [] := ⟨rfl, fun i f e => by cases e⟩
theorem Fl.one {H : Hp} {b c : Addr} {s : List Nat} {l : Nat} {h : Int} (hb : SqT K H b [.ref c, .int (l : Int), .int h]) (hc : H c = some (.tup ((ic s).map V.int))) : Fl K H [.ref b] [((s, l), h)] := ⟨rfl, fun i f e => by
  cases i with
  | zero => obtain rfl := Option.some.inj e; exact ⟨b, c, rfl, hb, hc⟩
  | succ i => cases e⟩
def Good (K : PySem.W.Frag) (H : Hp) (n : Nat) (ys : List V) : Prop := ∀ y ∈ ys, ∃ l pre F, y = .ref l ∧ H l = some (.lst pre) ∧ Fl K H pre F ∧ (∀ f ∈ F, Vd n f.1.1) ∧ F.length ≤ 2000
theorem Good.same {H H' : Hp} {n : Nat} {ys : List V} (h : Good K H n ys) (s : Same H H') : Good K H' n ys := fun y hy => by
  obtain ⟨l, pre, F, a, b, c, d, e⟩ := h y hy
  exact ⟨l, pre, F, a, s _ _ b, c.same s, d, e⟩
def spSpo (K : PySem.W.Frag) : Sp := fun vs H Q _ => ∃ (fa : Addr) (pre : List V) (F : List (Ky × Int)) (n z : Nat), vs = [.ref fa, .int (n : Int), .int (z : Int)] ∧ H fa = some (.lst pre) ∧ Fl K H pre F ∧ 0 < F.length ∧ F.length ≤ 1000 ∧ (∀ f ∈ F, Vd n f.1.1) ∧ ∀ g ys H', Same H H' → H g = none → H' g = some (.lst ys) → Good K H' n ys → ys.length ≤ 4 → Q (.ref g) H'
theorem rd_spo : ∀ vs H Q E, spSpo K vs H Q E → T__law_aspoilt K { nx := fun _ H' => Q .non H', rt := Q } (start ["floors", "many", "cell", "at", "some", "last", "number", "place", "odd"] vs) H := by
  intro vs H Q E h
  obtain ⟨fa, pre, F, n, z, rfl, hfa, fl, f0, f1000, vd, q⟩ := h
  have pl : pre.length = F.length := fl.1
  refine ⟨_, rfl, _, rfl, fa, pre, rfl, .inl (.of hfa), _, _, rfl, rfl, by show (0 : Int) < (pre.length : Int); omega, ?_⟩
  obtain ⟨i, hi, il⟩ := mod_nat (c := (z : Int)) (n := pre.length) (by omega)
  show tSeq _ _ _ (List.set _ 3 (some (.int ((z : Int) % (pre.length : Int))))) H
  rw [hi]
  obtain ⟨f, b, c, he, hx, hb, hc⟩ : ∃ f b c, F[i]? = some f ∧ pre[i]? = some (.ref b) ∧ SqT K H b [.ref c, .int (f.1.2 : Int), .int f.2] ∧ H c = some (.tup ((ic f.1.1).map V.int)) := by
    have hl : i < F.length := by omega
    obtain ⟨b, c, e1, e2, e3⟩ := fl.2 i F[i] (List.getElem?_eq_getElem hl)
    exact ⟨F[i], b, c, List.getElem?_eq_getElem hl, e1, e2, e3⟩
  have hv := vd f (List.mem_of_getElem? he)
  have sne : 0 < f.1.1.length := List.length_pos_iff.mpr hv.ne
  refine ⟨_, rfl, _, rfl, ixL (.of hfa) hx ⟨b, _, rfl, hb, rfl, .ref c, [.int (f.1.2 : Int), .int f.2], rfl, .int (f.1.2 : Int), [.int f.2], rfl, .int f.2, [], rfl, rfl, ?_⟩⟩
  refine ⟨_, rfl, _, rfl, _, _, rfl, rfl, ⟨by decide, by decide⟩, _, rfl, c, _, rfl, .inr (.of hc), _, _, rfl, rfl, by rw [ic_len]; omega, ?_⟩
  rw [ic_len]
  obtain ⟨k, hk, kl⟩ := mod_nat (c := (z : Int) / 1024) (n := f.1.1.length) (by omega)
  show rIx2 K (.ref c) (.int ((z : Int) / 1024 % (f.1.1.length : Int))) _ _
  rw [hk]
  refine ixT (v := .int ((f.1.1[k] : Nat) : Int)) (.of hc) (by unfold ic; rw [List.getElem?_map, List.getElem?_map, List.getElem?_eq_getElem kl]; rfl) ?_
  refine ⟨_, rfl, _, rfl, _, rfl, show 3 ≤ sizeLine by decide, fun t1 g1 => ⟨show 1 ≤ sizeLine by decide, fun l1 g2 => ?_⟩⟩
  have m1 := (same_new g1 (.tup [V.ref c, .int (f.1.2 : Int), .int (f.2 + 1)])).trans (same_new g2 (.lst [.ref t1]))
  have a1 := (same_new g2 (.lst [.ref t1])) _ _ (upd_same (H := H) (a := t1) (o := .tup [V.ref c, .int (f.1.2 : Int), .int (f.2 + 1)]))
  have b1 : (upd (upd H t1 (.tup [V.ref c, .int (f.1.2 : Int), .int (f.2 + 1)])) l1 (.lst [.ref t1])) l1 = some (.lst [.ref t1]) := upd_same
  revert m1 a1 b1
  generalize (upd (upd H t1 (.tup [V.ref c, .int (f.1.2 : Int), .int (f.2 + 1)])) l1 (.lst [.ref t1])) = H1
  intro m1 a1 b1
  refine ⟨_, rfl, _, rfl, _, rfl, show 3 ≤ sizeLine by decide, fun t2 g3 => ⟨show 1 ≤ sizeLine by decide, fun l2 g4 => ⟨Nat.zero_le _, fun l3 g5 => ⟨_, rfl, _, rfl, _, rfl, show 3 ≤ sizeLine by decide, fun t4 g6 => ⟨_, rfl, _, rfl, _, rfl, show 3 ≤ sizeLine by decide, fun t5 g7 => ⟨show 2 ≤ sizeLine by decide, fun l4 g8 => ⟨show 4 ≤ sizeLine by decide, fun O g9 => ?_⟩⟩⟩⟩⟩⟩⟩
  have n3 := same_new g3 (.tup [V.ref c, .int ((f.1.1[k] : Nat) : Int), .int f.2])
  have n4 := same_new g4 (.lst [.ref t2])
  have n5 := same_new g5 (.lst [])
  have n6 := same_new g6 (.tup [V.ref c, .int (f.1.2 : Int), .int f.2])
  have n7 := same_new g7 (.tup [V.ref c, .int (n : Int), .int f.2])
  have n8 := same_new g8 (.lst [.ref t4, .ref t5])
  have n9 := same_new g9 (.lst [.ref l1, .ref l2, .ref l3, .ref l4])
  have u9 := n9
  have u8 := n8.trans u9
  have u7 := n7.trans u8
  have u6 := n6.trans u7
  have u5 := n5.trans u6
  have u4 := n4.trans u5
  have u3 := n3.trans u4
  have m := m1.trans u3
  have A1 := u3 _ _ a1
  have B1 := u3 _ _ b1
  have A2 := u4 _ _ (upd_same (H := H1) (a := t2) (o := .tup [V.ref c, .int ((f.1.1[k] : Nat) : Int), .int f.2]))
  have B2 := u5 _ _ (upd_same (a := l2) (o := .lst [.ref t2]))
  have B3 := u6 _ _ (upd_same (a := l3) (o := .lst []))
  have A4 := u7 _ _ (upd_same (a := t4) (o := .tup [V.ref c, .int (f.1.2 : Int), .int f.2]))
  have A5 := u8 _ _ (upd_same (a := t5) (o := .tup [V.ref c, .int (n : Int), .int f.2]))
  have B4 := u9 _ _ (upd_same (a := l4) (o := .lst [.ref t4, .ref t5]))
  have BO := upd_same (a := O) (o := .lst [.ref l1, .ref l2, .ref l3, .ref l4]) (H := upd (upd (upd (upd (upd (upd H1 t2 (.tup [V.ref c, .int ((f.1.1[k] : Nat) : Int), .int f.2])) l2 (.lst [.ref t2])) l3 (.lst [])) t4 (.tup [V.ref c, .int (f.1.2 : Int), .int f.2])) t5 (.tup [V.ref c, .int (n : Int), .int f.2])) l4 (.lst [.ref t4, .ref t5]))
  show tSeq _ _ _ _ (upd (upd (upd (upd (upd (upd (upd H1 t2 (.tup [V.ref c, .int ((f.1.1[k] : Nat) : Int), .int f.2])) l2 (.lst [.ref t2])) l3 (.lst [])) t4 (.tup [V.ref c, .int (f.1.2 : Int), .int f.2])) t5 (.tup [V.ref c, .int (n : Int), .int f.2])) l4 (.lst [.ref t4, .ref t5])) O (.lst [.ref l1, .ref l2, .ref l3, .ref l4]))
  generalize upd (upd (upd (upd (upd (upd (upd H1 t2 (.tup [V.ref c, .int ((f.1.1[k] : Nat) : Int), .int f.2])) l2 (.lst [.ref t2])) l3 (.lst [])) t4 (.tup [V.ref c, .int (f.1.2 : Int), .int f.2])) t5 (.tup [V.ref c, .int (n : Int), .int f.2])) l4 (.lst [.ref t4, .ref t5])) O (.lst [.ref l1, .ref l2, .ref l3, .ref l4]) = H2 at *
  have C2 := m _ _ hc
  have odd : ∀ y ∈ [V.ref l1, .ref l2, .ref l3, .ref l4], ∃ l ps G, y = .ref l ∧ H2 l = some (.lst ps) ∧ Fl K H2 ps G ∧ (∀ f ∈ G, Vd n f.1.1) ∧ G.length ≤ 2 := by
    intro y hy
    simp only [List.mem_cons, List.not_mem_nil, or_false] at hy
    rcases hy with rfl | rfl | rfl | rfl
    · exact ⟨l1, _, _, rfl, B1, Fl.one (.of A1) C2, fun g hg => by rw [List.mem_singleton.mp hg]; exact hv, by simp⟩
    · exact ⟨l2, _, _, rfl, B2, Fl.one (.of A2) C2, fun g hg => by rw [List.mem_singleton.mp hg]; exact hv, by simp⟩
    · exact ⟨l3, _, _, rfl, B3, Fl.nil, (fun g hg => by cases hg), by simp⟩
    · exact ⟨l4, _, _, rfl, B4, Fl.app (Fl.one (.of A4) C2) (Fl.one (.of A5) C2), fun g hg => by
        rcases List.mem_append.mp hg with z | z
        · rw [List.mem_singleton.mp z]; exact hv
        · rw [List.mem_singleton.mp z]; exact hv, by simp⟩
  refine ⟨_, rfl, O, rfl, .inl ⟨⟨_, .of BO⟩, fun G hG => ?_⟩⟩
  refine inv_list (K := K) (a := O) (vars := [0]) (xs := [.ref l1, .ref l2, .ref l3, .ref l4]) (fun j ys H' => j ≤ 4 ∧ ys.length = j ∧ ∀ y ∈ ys, ∃ l pre F, y = .ref l ∧ l ≠ G ∧ H' l = some (.lst pre) ∧ Fl K H' pre F ∧ (∀ f ∈ F, Vd n f.1.1) ∧ F.length ≤ 2000) (by decide) (by show 0 < 3; decide) ⟨Nat.zero_le _, rfl, fun y hy => by cases hy⟩ hG (fun j ys H' sm _ => .of (sm _ _ BO)) (fun j x σ3 H3 ys D3 hx' l3' ag s0 sm hG3 ⟨_, yl, hy⟩ hD => ?_) fun σ3 H3 ys sm hG3 ⟨_, yl, hy⟩ => ?_
  · obtain ⟨l, ps, Gs, rfl, hl, gl, gv, g2⟩ := odd x (List.mem_of_getElem? hx')
    have hj : j < 4 := (List.getElem?_eq_some_iff.mp hx').1
    have w1 : σ3[1]? = some (some (.ref fa)) := (ag 1 (by decide)).trans rfl
    have w2 : σ3[2]? = some (some (.int (i : Int))) := (ag 2 (by decide)).trans rfl
    have hl3 := sm _ _ hl
    have hfa3 := sm _ _ (m _ _ hfa)
    have psl : ps.length = Gs.length := gl.1
    refine ⟨_, w1, _, w2, _, rfl, .inl (.inl ⟨fa, pre, rfl, .of hfa3, fun p hp => ?_⟩)⟩
    rw [cut_to (by omega)]
    have q1 := same_new hp (.lst (pre.take i))
    refine ⟨_, s0, .inl ⟨p, l, pre.take i, ps, rfl, rfl, upd_same, q1 _ _ hl3, by rw [List.length_take]; exact Nat.le_trans (show min i pre.length + ps.length ≤ 2000 by omega) (by decide), fun r hr => ?_⟩⟩
    have q2 := same_new hr (.lst (pre.take i ++ ps))
    refine ⟨_, w1, _, w2, _, rfl, .inl (.inl ⟨fa, pre, rfl, .of (q2 _ _ (q1 _ _ hfa3)), fun u hu => ?_⟩)⟩
    rw [show cutV pre (some ((i : Int) + 1)) none = pre.drop (i + 1) by rw [show (i : Int) + 1 = ((i + 1 : Nat) : Int) by omega, cut_from (by omega)]]
    have q3 := same_new hu (.lst (pre.drop (i + 1)))
    refine .inl ⟨r, u, _, _, rfl, rfl, q3 _ _ upd_same, upd_same, by rw [List.length_append, List.length_take, List.length_drop]; exact Nat.le_trans (show min i pre.length + ps.length + (pre.length - (i + 1)) ≤ 3000 by omega) (by decide), fun w hw => ?_⟩
    have q4 := same_new hw (.lst (pre.take i ++ ps ++ pre.drop (i + 1)))
    have Q4 := q1.trans (q2.trans (q3.trans q4))
    have hG4 := Q4 _ _ hG3
    have wG : w ≠ G := fun e => by
      have := (q1.trans (q2.trans q3)) _ _ hG3
      rw [← e, hw] at this; cases this
    have hw4 : (upd (upd (upd (upd H3 p (.lst (pre.take i))) r (.lst (pre.take i ++ ps))) u (.lst (pre.drop (i + 1)))) w (.lst (pre.take i ++ ps ++ pre.drop (i + 1)))) w = some (.lst (pre.take i ++ ps ++ pre.drop (i + 1))) := upd_same
    revert Q4 hG4 hw4
    generalize (upd (upd (upd (upd H3 p (.lst (pre.take i))) r (.lst (pre.take i ++ ps))) u (.lst (pre.drop (i + 1)))) w (.lst (pre.take i ++ ps ++ pre.drop (i + 1)))) = H4
    intro Q4 hG4 hw4
    have M4 := sm.trans Q4
    refine ⟨ys, hG4, by rw [yl]; exact Nat.lt_of_lt_of_le hj (by decide), hD σ3 _ (ys ++ [.ref w]) l3' ag (samePut hG M4) upd_same ⟨hj, by rw [List.length_append, yl]; rfl, fun y hy' => ?_⟩⟩
    rcases List.mem_append.mp hy' with hy' | hy'
    · obtain ⟨l', pre', F', e1, e2, e3, e4, e5, e6⟩ := hy y hy'
      exact ⟨l', pre', F', e1, e2, by rw [upd_ne e2]; exact Q4 _ _ e3, Fl.put (e4.same Q4) hG4, e5, e6⟩
    · refine ⟨w, _, F.take i ++ Gs ++ F.drop (i + 1), List.mem_singleton.mp hy', wG, by rw [upd_ne wG]; exact hw4, Fl.put (((((fl.same m).take i).app gl).app ((fl.same m).drop (i + 1))).same M4) hG4, fun g hg => ?_, ?_⟩
      · rcases List.mem_append.mp hg with hg | hg
        · rcases List.mem_append.mp hg with hg | hg
          · exact vd g (List.mem_of_mem_take hg)
          · exact gv g hg
        · exact vd g (List.mem_of_mem_drop hg)
      · rw [List.length_append, List.length_append, List.length_take, List.length_drop]; omega
  · refine q G ys H3 (m.trans sm) (m.free hG) hG3 (fun y hy' => ?_) (by rw [yl]; exact Nat.le_refl _)
    obtain ⟨l, pre', F', e1, _, e3, e4, e5, e6⟩ := hy y hy'
    exact ⟨l, pre', F', e1, e3, e4, e5, e6⟩
end
end K06
namespace K06
open PySem L2 S
def flD (f : Ky × Int) : Dt := .tup [.tup ((ic f.1.1).map Dt.int), .int (f.1.2 : Int), .int f.2]
section
variable {K : PySem.W.Frag}
theorem Fl.tail {H : Hp} {x : V} {pre : List V} {f : Ky × Int} {F : List (Ky × Int)} (h : Fl K H (x :: pre) (f :: F)) : Fl K H pre F := ⟨by simpa using h.1, fun i g e => h.2 (i + 1) g e⟩
theorem sh_fl {H : Hp} : ∀ {pre : List V} {F : List (Ky × Int)}, Fl K H pre F → ShL K H (F.map flD) pre
  | [], [], _ => rfl
  | [], _ :: _, h => by cases h.1
  | _ :: _, [], h => by cases h.1
  | x :: pre, f :: F, h => by
    obtain ⟨b, c, e1, e2, e3⟩ := h.2 0 f rfl
    obtain rfl : x = .ref b := Option.some.inj e1
    exact ⟨.ref b, pre, rfl, ⟨b, _, rfl, e2, .ref c, _, rfl, ⟨c, _, rfl, .of e3, ShL.ints _⟩, .int (f.1.2 : Int), _, rfl, rfl, .int f.2, _, rfl, rfl, rfl⟩, sh_fl h.tail⟩
theorem flo_fl {H : Hp} {pre : List V} {n : Nat} {t : Nat → Nat → Int} (h : Flo H pre (keys n) (rest t n)) : Fl K H pre (told t n) := by
  refine ⟨by unfold told; rw [List.length_map]; exact h.1, fun i f e => ?_⟩
  unfold told at e
  rw [List.getElem?_map] at e
  cases ek : (keys n)[i]? with
  | none => rw [ek] at e; cases e
  | some k =>
    rw [ek] at e
    obtain rfl : (k, rest t n k) = f := Option.some.inj e
    obtain ⟨b, c, e1, e2, e3⟩ := h.2 i k ek
    exact ⟨b, c, e1, .of e2, e3⟩
def lens (T : List (List Int)) (n : Nat) : List Int := (E n (n - 1)).map fun s => cost (at2 T) s.tail
theorem lens_perm {T : List (List Int)} {n : Nat} : (lens T n).Perm ((rounds n).map (cost (at2 T))) := by
  have := (E_perm (n := n)).map fun s => cost (at2 T) s.tail
  rw [List.map_map] at this
  exact this
theorem due_eq {T : List (List Int)} {n : Nat} (h1 : 1 ≤ n) (h8 : n ≤ 8) {m : Int} (hm : m ∈ lens T n) (hl : ∀ k ∈ lens T n, m ≤ k) : m = rest (at2 T) n ([0], 0) := by
  obtain ⟨w, hw, e⟩ := rest_att (t := at2 T) h1 h8
  have a : rest (at2 T) n ([0], 0) ∈ lens T n := lens_perm.mem_iff.mpr (List.mem_map.mpr ⟨w, hw, e⟩)
  obtain ⟨u, hu, e2⟩ := List.mem_map.mp (lens_perm.mem_iff.mp hm)
  have b := rest_le (t := at2 T) hu
  have c := hl _ a
  rw [e2] at b
  omega
theorem many_eq {T : List (List Int)} {n : Nat} {d : Int} (hd : d = rest (at2 T) n ([0], 0)) : count (at2 T) n ([0], 0) = (((lens T n).filter fun x => decide (x = d)).length : Int) := by
  rw [count_eq]
  have p := (lens_perm (T := T) (n := n)).filter fun x => decide (x = d)
  rw [p.length_eq]
  have : ∀ l : List (List Nat), (l.map fun w => if cost (at2 T) w = d then (1 : Int) else 0).sum = (((l.map (cost (at2 T))).filter fun x => decide (x = d)).length : Int) := fun l => by
    induction l with
    | nil => rfl
    | cons w l ih =>
      rw [List.map_cons, List.sum_cons, ih, List.map_cons]
      by_cases c : cost (at2 T) w = d
      · rw [if_pos c, List.filter_cons_of_pos (by simp [c]), List.length_cons]; omega
      · rw [if_neg c, List.filter_cons_of_neg (by simp [c])]; omega
  rw [← hd]
  exact this _
theorem round_E {n : Nat} {g : List Nat} (r : Round n g) : ∃ w, g = 0 :: w ∧ g ∈ E n (n - 1) ∧ (∀ x ∈ w, x < n) ∧ w.length = n - 1 := by
  obtain ⟨w, rfl⟩ := r.zero
  have nd : (0 :: w).Nodup := r.perm.nodup_iff.mpr List.nodup_range
  have nd' := List.nodup_cons.mp nd
  have lt : ∀ x ∈ w, x < n := fun x hx => List.mem_range.mp (r.perm.mem_iff.mp (List.mem_cons_of_mem _ hx))
  have wl : w.length = n - 1 := by have := r.perm.length_eq; rw [List.length_range, List.length_cons] at this; omega
  exact ⟨w, rfl, mem_E.mpr ⟨w, rfl, wl, nd'.2, fun x hx => ⟨lt x hx, fun e => nd'.1 (e ▸ hx)⟩⟩, lt, wl⟩
def spLaw (K : PySem.W.Frag) : Sp := fun vs H Q _ => ∃ (a : Addr) (ns : List Int), vs = [.ref a] ∧ SqL K H a (ns.map V.int) ∧ ns.length ≤ 63 ∧ ∀ H', Q (.bl true) H'
theorem Good.sub {H : Hp} {n : Nat} {ys zs : List V} (h : Good K H n ys) (s : ∀ z ∈ zs, z ∈ ys) : Good K H n zs := fun y hy => h y (s y hy)
theorem four_at (j : Nat) (hj : j < 4) : ∃ m : Nat, ([V.int 0, .int 1, .int 0, .int 2] : List V)[j]? = some (.int (m : Int)) ∧ m ≤ 2 := match j, hj with
  | 0, _ => ⟨0, rfl, by decide⟩
  | 1, _ => ⟨1, rfl, by decide⟩
  | 2, _ => ⟨0, rfl, by decide⟩
  | 3, _ => ⟨2, rfl, by decide⟩
theorem rd_law : ∀ vs H Q E', spLaw K vs H Q E' → T_law K (spCell K) (spAl K) (spArd K) (spShow K) (spSpo K) (spTable K 8) (spWh K) (spShow K) (spMany K) (spShort K) { nx := fun _ H' => Q .non H', rt := Q } (start ["script", "state", "cell", "many", "table", "everyone", "lengths", "due", "turn", "told", "mixed", "spoilt", "thing", "found"] vs) H := by
  intro vs H Q E' h
  obtain ⟨a, ns, rfl, hS, hn, q⟩ := h
  intro d hd
  refine ⟨_, rfl, ?_⟩
  refine ⟨upd_same, [(.inr "script", .ref a), (.inr "at", .int 0)], rfl, by show 2 ≤ 15; decide, ?_⟩
  have em : mergeK [] [((.inr "script" : Key), V.ref a), (.inr "at", .int 0)] = [(.inr "script", .ref a), (.inr "at", .int ((0 : Nat) : Int))] := by rfl
  rw [em]
  have d1 : upd (upd H d (.dK [])) d (stD a 0) d = some (stD a 0) := upd_same
  have S1 : SqL K (upd (upd H d (.dK [])) d (stD a 0)) a (ns.map V.int) := by
    refine Same.seq (fun b o e => ?_) hS
    have hbd : b ≠ d := ne_of_none e hd
    rw [upd_ne hbd, upd_ne hbd]
    exact e
  show tSeq _ _ _ _ (upd (upd H d (.dK [])) d (stD a 0))
  generalize upd (upd H d (.dK [])) d (stD a 0) = H1 at d1 S1 ⊢
  refine ⟨_, rfl, d, a, ns, 0, rfl, d1, S1, ?_⟩
  generalize ns.getD 0 0 = c
  have d2 : upd H1 d (stD a 1) d = some (stD a 1) := upd_same
  have S2 : SqL K (upd H1 d (stD a 1)) a (ns.map V.int) := SqL.x S1 d1 (fun b o hb e => by rw [upd_ne hb]; exact e)
  show tSeq _ _ _ _ (upd H1 d (stD a 1))
  generalize upd H1 d (stD a 1) = H2 at d2 S2 ⊢
  obtain ⟨k, hk, kl⟩ := mod_nat (c := c) (n := 6) (by decide)
  obtain ⟨j, hj, jl⟩ := mod_nat (c := c / 12) (n := 4) (by decide)
  obtain ⟨m, hm, m2⟩ := four_at j jl
  refine ⟨_, rfl, _, _, rfl, rfl, by show (0 : Int) < 6; decide, ?_⟩
  dsimp only [rAddA]
  refine ⟨show 4 ≤ sizeLine by decide, fun p hp => ⟨_, rfl, _, _, rfl, rfl, ⟨by decide, by decide⟩, _, _, rfl, rfl, by show (0 : Int) < 4; decide, ?_⟩⟩
  have sp := same_new hp (.lst [V.int 0, .int 1, .int 0, .int 2])
  show rIx2 K (.ref p) (.int (c / 12 % 4)) _ _
  rw [show c / 12 % 4 = (j : Int) from hj]
  refine ixL (.of upd_same) hm ⟨_, rfl, _, _, rfl, rfl, by show (0 : Int) < 6; decide, .int _, .int _, Nat.zero_le _, rfl, rfl, .inr ⟨_, rfl, ?_⟩⟩
  have d3 := sp _ _ d2
  have S3 := sp.seq S2
  generalize upd H2 p (.lst [V.int 0, .int 1, .int 0, .int 2]) = H3 at d3 S3 ⊢
  obtain ⟨e5, he5, e5l, e5k⟩ : ∃ e5 : Nat, (if eqD (.int (c % 6)) (.int 5) = true then (1 : Int) else 0) = (e5 : Int) ∧ e5 ≤ 1 ∧ (e5 = 1 → k = 5) := by
    rw [show c % 6 = (k : Int) from hk, eqD]
    by_cases z : k = 5
    · subst z; exact ⟨1, by simp, by decide, fun _ => rfl⟩
    · exact ⟨0, by rw [if_neg]; rfl; simp; omega, by decide, fun h => by cases h⟩
  show rMulA (.int (m : Int)) (.int (if eqD (.int (c % 6)) (.int 5) = true then 1 else 0)) H3 _
  rw [he5]
  refine ⟨.inl ⟨by omega, by omega⟩, ?_⟩
  obtain ⟨n, hnn⟩ : ∃ n : Nat, n = 1 + k + m * e5 := ⟨_, rfl⟩
  have n1 : 1 ≤ n := by omega
  have n8 : n ≤ 8 := by
    rcases Nat.lt_or_ge e5 1 with z | z
    · have : e5 = 0 := by omega
      rw [this] at hnn; omega
    · have : e5 = 1 := by omega
      have := e5k this
      rw [‹e5 = 1›] at hnn; omega
  show tSeq _ _ _ (List.set _ 3 (some (.int (1 + c % 6 + (m : Int) * (e5 : Int))))) H3
  rw [show (1 : Int) + c % 6 + (m : Int) * (e5 : Int) = (n : Int) by rw [show c % 6 = (k : Int) from hk, hnn]; push_cast; rfl]
  refine ⟨_, rfl, _, rfl, _, rfl, _, _, rfl, rfl, ⟨by decide, by decide⟩, _, _, rfl, rfl, by show (0 : Int) < 2; decide, .int _, .int _, Nat.zero_le _, rfl, rfl, d, a, ns, 1, n, _, rfl, d3, S3, n1, n8, fun T v k3 H4 qT bT hT d4 sx4 => ?_⟩
  have tb4 : Tb K H4 v T n := ⟨hT, qT, n1, n8⟩
  refine ⟨_, rfl, n, rfl, n1, n8, fun F1 ys H5 s5 _ hF5 hr5 => ?_⟩
  obtain ⟨el, ew⟩ := E_len n8 (n - 1) (by omega)
  have p8 : (8 : Nat) ^ (n - 1) ≤ 8 ^ 7 := Nat.pow_le_pow_right (by decide) (by omega)
  have p9 : (8 : Nat) ^ 7 = 2097152 := by decide
  have yl := rowsI_len hr5
  refine ⟨_, rfl, F1, rfl, .inl ⟨⟨_, .of hF5⟩, fun Ln hLn => ?_⟩⟩
  have tb5 := Tb.same' tb4 s5
  refine inv_list (K := K) (a := F1) (vars := [0]) (xs := ys) (fun i zs H' => zs = (((E n (n - 1)).take i).map fun s => cost (at2 T) s.tail).map V.int) (by decide) (by show 0 < 2; decide) rfl hLn (fun i zs H' sm _ => .of (sm _ _ hF5)) (fun i x σ6 H6 zs D6 hx l6 ag s0 sm ha hL hD => ?_) fun σ6 H6 zs s6 hLn6 hL => ?_
  · obtain ⟨s, b, hs, rfl, hb⟩ := rowsI_at (hr5.same sm) hx
    obtain ⟨w, rfl, wl, _, wlt⟩ := mem_E.mp (List.mem_of_getElem? hs)
    have u1 : σ6[1]? = some (some v) := (ag 1 (by decide)).trans rfl
    refine ⟨_, u1, _, s0, v, T, n, b, w, rfl, Tb.same' tb5 sm, hb, fun x hx => (wlt x hx).1, by omega, fun H7 s7 => ⟨zs, s7 _ _ ha, ?_, hD σ6 _ _ l6 ag (samePut hLn (sm.trans s7)) upd_same ?_⟩⟩
    · rw [hL, List.length_map, List.length_map, List.length_take]; exact Nat.lt_of_le_of_lt (show _ ≤ 2097152 by omega) (by decide)
    · rw [hL, List.take_add_one, hs, List.map_append, List.map_append]; rfl
  have eL : zs = (lens T n).map V.int := by rw [hL, yl, List.take_length]; rfl
  rw [eL] at hLn6
  clear hL eL
  have ne : lens T n ≠ [] := fun e => by
    obtain ⟨w, hw, e2⟩ := rest_att (t := at2 T) n1 n8
    have := lens_perm.mem_iff.mpr (List.mem_map.mpr ⟨w, hw, e2⟩)
    rw [e] at this; cases this
  refine ⟨_, rfl, .inl ⟨Ln, lens T n, rfl, .inl (.of hLn6), ne, fun dd hdd hle => ?_⟩⟩
  have ed := due_eq n1 n8 hdd hle
  subst ed
  have tb6 := Tb.same' tb5 s6
  have hF6 := s6 _ _ hF5
  have hr6 := hr5.same s6
  refine ⟨2, rfl, by decide, by decide, ?_⟩
  refine for_range (lo := 0) (n := 2) (fun i σ' H' => ∃ x8 x9 x10 x11 x12 x13, σ' = [some (.ref a), some (.ref d), some (.int c), some (.int (n : Int)), some v, some (.ref F1), some (.ref Ln), some (.int (rest (at2 T) n ([0], 0))), x8, x9, x10, x11, x12, x13] ∧ Same H6 H') ⟨_, _, _, _, _, _, rfl, Same.refl _⟩ (fun i σ7 H7 hi ⟨x8, x9, x10, x11, x12, x13, es, s7⟩ => ?_) fun σ7 H7 ⟨x8, x9, x10, x11, x12, x13, es, s7⟩ => ?_
  · subst es
    have tb7 := Tb.same' tb6 s7
    refine ⟨_, rfl, v, T, n, rfl, tb7, fun b gb fa g pre H8 s8 hb hgb rnd hpt hfa flo hfa0 => ?_⟩
    have tb8 := Tb.same' tb7 s8
    have m8 := s7.trans s8
    have fl8 : Fl K H8 pre (told (at2 T) n) := flo_fl flo
    obtain ⟨w, rfl, gE, wlt, wl⟩ := round_E rnd
    have tlen : (told (at2 T) n).length ≤ 1000 := by unfold told; rw [List.length_map]; exact keys_len n1 n8
    have tvd : ∀ f ∈ told (at2 T) n, Vd n f.1.1 := fun f hf => by
      obtain ⟨k', hk', rfl⟩ := List.mem_map.mp hf
      exact key_vd n1 n8 hk'
    have t0 : 0 < (told (at2 T) n).length := List.length_pos_iff.mpr fun e => by
      have : (([0], 0) : Ky) ∈ (told (at2 T) n).map (·.1) := by rw [told_keys]; exact start_key n1 n8
      rw [e] at this; cases this
    have hgs : Sh K H8 (.tup ((ic (0 :: w)).map Dt.int)) (.ref gb) := ⟨gb, _, rfl, hgb, ShL.ints _⟩
    have hfs : Sh K H8 (.lst ((told (at2 T) n).map flD)) (.ref fa) := ⟨fa, _, rfl, .of hfa, sh_fl fl8⟩
    refine ⟨_, rfl, .ref b, .tup [.int (rest (at2 T) n ([0], 0)), .tup ((ic (0 :: w)).map Dt.int), .lst ((told (at2 T) n).map flD)], "tuple", rfl, .inr (.inr (.inl rfl)), ⟨b, _, rfl, .of hb, .int _, _, rfl, rfl, .ref gb, _, rfl, hgs, .ref fa, _, rfl, hfs, rfl⟩, _, rfl, iteF' rfl ?_⟩
    refine ⟨_, rfl, b, _, rfl, .inr (.of hb), .int 3, .int 3, Nat.zero_le _, rfl, rfl, _, rfl, iteF' (by rw [eqD_refl]; rfl) ?_⟩
    refine ⟨_, rfl, ixT (j := 0) (.of hb) rfl ⟨_, rfl, _, rfl, iteF' rfl ⟨_, rfl, ixT (j := 0) (.of hb) rfl ⟨_, rfl, .int _, .int _, Nat.zero_le _, rfl, rfl, _, rfl, ?_⟩⟩⟩⟩
    refine iteF' (by rw [eqD_refl]; rfl) ?_
    refine ⟨_, rfl, ixT (j := 1) (.of hb) rfl ⟨.ref gb, _, "tuple", rfl, .inr (.inr (.inl rfl)), hgs, _, rfl, iteF' rfl ?_⟩⟩
    refine ⟨_, rfl, ixT (j := 1) (.of hb) rfl ⟨_, rfl, .inl (.inl (.inr ⟨gb, F1, ic (0 :: w), ys, (E n (n - 1)).map ic, rfl, rfl, hgb, .inl (.of (m8 _ _ hF6)), hr6.same m8, _, rfl, ?_⟩))⟩⟩
    refine iteF' (by show (!decide (ic (0 :: w) ∈ (E n (n - 1)).map ic)) = false; rw [decide_eq_true (List.mem_map_of_mem gE)]; rfl) ?_
    have wl20 : w.length ≤ 20 := by omega
    refine ⟨_, rfl, ixT (j := 1) (.of hb) rfl ⟨gb, rfl, .inr ⟨⟨_, hgb⟩, fun A hA => ?_⟩⟩⟩
    refine inv_tup (K := K) (a := gb) (vars := [0]) (xs := (ic (0 :: w)).map V.int) (fun i zs H' => zs = []) (by decide) (by show 0 < 1; decide) rfl hA hgb (fun i x σ9 H9 zs D9 hx l9 ag s0 sm ha hL hD => ?_) fun σ9 H9 zs s9 hA9 hz => ?_
    · obtain ⟨j', rfl⟩ : ∃ j' : Int, x = .int j' := by
        rw [List.getElem?_map] at hx
        cases e : (ic (0 :: w))[i]? with
        | none => rw [e] at hx; cases hx
        | some j' => rw [e] at hx; exact ⟨j', (Option.some.inj hx).symm⟩
      exact ⟨_, s0, j', rfl, _, rfl, iteF' rfl (hD σ9 H9 zs l9 ag sm ha hL)⟩
    subst hz
    refine ⟨A, [], rfl, .inl (.of hA9), _, _, rfl, rfl, _, rfl, iteF' (by decide) ?_⟩
    have hb9 : SqT K H9 b _ := .of (s9 _ _ hb)
    refine ⟨_, rfl, _, rfl, ixT (j := 1) hb9 rfl ⟨v, T, n, gb, w, rfl, Tb.same' tb8 s9, s9.tup hgb, wlt, wl20, fun H10 s10 => ⟨_, rfl, .int _, .int _, Nat.zero_le _, rfl, rfl, _, rfl, ?_⟩⟩⟩
    rw [show cost (at2 T) w = rest (at2 T) n ([0], 0) from hpt]
    refine iteF' (by rw [eqD_refl]; rfl) ?_
    have r10 := s9.trans s10
    have hb10 : SqT K H10 b _ := .of (r10 _ _ hb)
    have hfs10 : Sh K H10 (.lst ((told (at2 T) n).map flD)) (.ref fa) := Sh.same r10 hfs
    have shw : ∀ num, showB T n (told (at2 T) n) num = decide (num ≤ rest (at2 T) n ([0], 0)) := fun num => told_show n1 n8 (start_key n1 n8) num
    refine ⟨_, rfl, ixT (j := 2) hb10 rfl ⟨.ref fa, _, "list", rfl, .inr (.inr (.inr (.inl rfl))), hfs10, _, rfl, iteF' rfl ?_⟩⟩
    refine ⟨_, rfl, _, rfl, ixT (j := 2) hb10 rfl ⟨_, rfl, v, T, n, fa, pre, told (at2 T) n, _, rfl, Tb.same' tb8 r10, r10 _ _ hfa, fl8.same r10, tvd, by omega, fun H11 s11 => ⟨_, rfl, iteF' (by rw [shw, decide_eq_true (Int.le_refl _)]; rfl) ?_⟩⟩⟩
    have r11 := r10.trans s11
    have hb11 : SqT K H11 b _ := .of (r11 _ _ hb)
    refine ⟨_, rfl, _, rfl, ixT (j := 2) hb11 rfl ⟨_, rfl, v, T, n, fa, pre, told (at2 T) n, _, rfl, Tb.same' tb8 r11, r11 _ _ hfa, fl8.same r11, tvd, by omega, fun H12 s12 => .inl ⟨_, _, rfl, rfl, _, rfl, iteF' (by rw [shw, decide_eq_true (Int.le_refl _)]; rfl) ?_⟩⟩⟩
    have r12 := r11.trans s12
    have hb12 : SqT K H12 b _ := .of (r12 _ _ hb)
    refine ⟨_, rfl, _, rfl, ixT (j := 2) hb12 rfl ⟨_, rfl, ?_⟩⟩
    dsimp only [rAddA]
    refine ⟨v, T, n, fa, pre, told (at2 T) n, _, rfl, Tb.same' tb8 r12, r12 _ _ hfa, fl8.same r12, tvd, by omega, fun H13 s13 => .inl ⟨_, _, rfl, rfl, _, rfl, iteF' (by rw [shw, decide_eq_false (by omega)]; rfl) ?_⟩⟩
    have r13 := r12.trans s13
    have hb13 : SqT K H13 b _ := .of (r13 _ _ hb)
    have cm0 := Int.emod_nonneg c (show (1000003 : Int) ≠ 0 by decide)
    have cm1 := Int.emod_lt_of_pos c (show (0 : Int) < 1000003 by decide)
    refine ⟨_, rfl, _, _, rfl, rfl, by show (0 : Int) < 1000003; decide, ?_⟩
    dsimp only [rAddA]
    refine ⟨_, _, rfl, rfl, ⟨by decide, by decide, by omega⟩, _, _, rfl, rfl, by show (0 : Int) < 2147483647; decide, _, _, rfl, rfl, ⟨by decide, by decide⟩, ?_⟩
    obtain ⟨z, hz⟩ := nat_of (x := (c % 1000003 + 1) ^ (5 : Int).toNat % 2147483647 / 8) (Int.ediv_nonneg (Int.emod_nonneg _ (by decide)) (by decide))
    show tSeq _ _ _ (List.set _ 10 (some (.int ((c % 1000003 + 1) ^ (5 : Int).toNat % 2147483647 / 8)))) H13
    rw [hz]
    refine ⟨_, rfl, ixT (j := 2) hb13 rfl ⟨_, rfl, _, rfl, fa, pre, told (at2 T) n, n, z, rfl, r13 _ _ hfa, fl8.same r13, t0, tlen, tvd, fun g ys' H14 s14 _ hg good gl => ?_⟩⟩
    have r14 := r13.trans s14
    have fin : ∀ (g : Addr) (ys' : List V) (H15 : Hp), Same H14 H15 → H15 g = some (.lst ys') → Good K H15 n ys' → ys'.length ≤ 4 → tSeq (tFor (iSeq K (tOp rMulA (tVar 11) (tOp ySub (tC (.int 1)) (tVar 8)))) (gName 12) (tSeq (tIfS (tTest (tOp (rNeD K) (tCall (spShow K) [] E0 (tCons (tVar 4) (tCons (tCB (rList K) (tCons (tVar 12) tNil)) (tCons (tVar 7) tNil)))) (tCall (spShow K) [] E0 (tCons (tVar 4) (tCons (tVar 12) (tCons (tVar 7) tNil)))))) (tSeq (tRet (tC (.bl false))) tNext) tNext) tNext)) (tSeq (tDrop (tBM K "list" rAppend (tOp (rIx2 K) (tVar 9) (tC (.int 2))) (tCons (tC .non) tNil))) tNext) { nx := fun σ' H' => ∃ x8 x9 x10 x11 x12 x13, σ' = [some (.ref a), some (.ref d), some (.int c), some (.int (n : Int)), some v, some (.ref F1), some (.ref Ln), some (.int (rest (at2 T) n ([0], 0))), x8, x9, x10, x11, x12, x13] ∧ Same H6 H', rt := Q, ct := fun σ' H' => ∃ x8 x9 x10 x11 x12 x13, σ' = [some (.ref a), some (.ref d), some (.int c), some (.int (n : Int)), some v, some (.ref F1), some (.ref Ln), some (.int (rest (at2 T) n ([0], 0))), x8, x9, x10, x11, x12, x13] ∧ Same H6 H', bk := fun _ _ => False } [some (.ref a), some (.ref d), some (.int c), some (.int (n : Int)), some v, some (.ref F1), some (.ref Ln), some (.int (rest (at2 T) n ([0], 0))), some (.int (0 + (i : Int))), some (.ref b), some (.int (z : Int)), some (.ref g), x12, x13] H15 := fun g ys' H15 s15 hg good gl => by
      refine ⟨_, rfl, _, rfl, _, _, rfl, rfl, g, 1 - (0 + (i : Int)), ys', rfl, rfl, hg, by omega, by omega, ?_, fun p hp => ⟨p, rfl, .inl ⟨⟨_, .of upd_same⟩, ?_⟩⟩⟩
      · have : (1 - (0 + (i : Int))).toNat ≤ 1 := by omega
        exact Nat.le_trans (Nat.mul_le_mul gl this) (by decide)
      have sp15 := same_new hp (.lst (List.replicate (1 - (0 + (i : Int))).toNat ys').flatten)
      have hp15 : (upd H15 p (.lst (List.replicate (1 - (0 + (i : Int))).toNat ys').flatten)) p = some (.lst (List.replicate (1 - (0 + (i : Int))).toNat ys').flatten) := upd_same
      have gs : Good K (upd H15 p (.lst (List.replicate (1 - (0 + (i : Int))).toNat ys').flatten)) n (List.replicate (1 - (0 + (i : Int))).toNat ys').flatten := (good.same sp15).sub fun y hy => by
        obtain ⟨l, hl, hy⟩ := List.mem_flatten.mp hy
        rw [List.eq_of_mem_replicate hl] at hy; exact hy
      revert sp15 hp15 gs
      generalize (List.replicate (1 - (0 + (i : Int))).toNat ys').flatten = ws
      generalize upd H15 p (.lst ws) = H16
      intro sp15 hp15 gs
      have r16 := (r14.trans s15).trans sp15
      refine for_list (K := K) (a := p) (xs := ws) (fun j σ' H' => ∃ x12, σ' = [some (.ref a), some (.ref d), some (.int c), some (.int (n : Int)), some v, some (.ref F1), some (.ref Ln), some (.int (rest (at2 T) n ([0], 0))), some (.int (0 + (i : Int))), some (.ref b), some (.int (z : Int)), some (.ref g), x12, x13] ∧ Same H16 H') ⟨_, rfl, Same.refl _⟩ (fun j σ' H' _ ⟨_, _, s'⟩ => .of (s' _ _ hp15)) (fun j y σ17 H17 hy ⟨y12, es, s17⟩ => ?_) fun σ17 H17 ⟨y12, es, s17⟩ => ?_
      · subst es
        obtain ⟨l, pre', F', rfl, hl, fl', vd', fz'⟩ := (gs.same s17) y (List.mem_of_getElem? hy)
        have r17 := r16.trans s17
        refine ⟨_, rfl, _, rfl, .inl ⟨l, pre', rfl, .inl (.of hl), fun lf hlf => ?_⟩⟩
        have slf := same_new hlf (.lst pre')
        refine ⟨_, rfl, v, T, n, lf, pre', F', _, rfl, Tb.same' tb8 (r17.trans slf), upd_same, fl'.same slf, vd', by omega, fun Ha sa => ⟨_, rfl, _, rfl, _, rfl, v, T, n, l, pre', F', _, rfl, Tb.same' tb8 ((r17.trans slf).trans sa), (slf.trans sa) _ _ hl, fl'.same (slf.trans sa), vd', by omega, fun Hb sb => ⟨.bl _, .bl _, Nat.zero_le _, rfl, rfl, _, rfl, iteF' (by rw [eqD_refl]; rfl) ⟨_, rfl, s17.trans (slf.trans (sa.trans sb))⟩⟩⟩⟩
      · subst es
        have r17 := r16.trans s17
        have hb17 : SqT K H17 b _ := .of (r17 _ _ hb)
        have hfa17 := r17 _ _ hfa
        refine ⟨_, rfl, ixT (j := 2) hb17 rfl ⟨.inl ⟨rfl, _, .of hfa17⟩, fa, pre, .non, rfl, rfl, hfa17, ?_, _, _, _, _, _, _, rfl, samePut (s7.free hfa0) (m8.trans r17)⟩⟩
        rw [fl8.1]; exact Nat.lt_of_le_of_lt tlen (by decide)
    refine ⟨_, rfl, _, _, rfl, rfl, _, rfl, ?_⟩
    by_cases c6 : (n : Int) > 6
    · refine iteT' (decide_eq_true c6) ⟨_, rfl, _, rfl, _, _, rfl, rfl, by show (0 : Int) < 4; decide, _, rfl, _, rfl, _, _, rfl, rfl, by show (0 : Int) < 4; decide, ?_⟩
      dsimp only [rAddA]
      refine ⟨_, rfl, .inl (.inl ⟨g, ys', rfl, .of hg, fun p hp => ?_⟩)⟩
      exact fin p _ _ (same_new hp _) upd_same ((good.same (same_new hp _)).sub fun y hy => List.mem_of_mem_drop (List.mem_of_mem_take hy)) (Nat.le_trans (cutV_length _ _ _) gl)
    · exact iteF' (decide_eq_false c6) (fin g ys' H14 (Same.refl _) hg good gl)
  · subst es
    have tb7 := Tb.same' tb6 s7
    refine ⟨_, rfl, v, T, n, rfl, tb7, fun H8 s8 => ?_⟩
    have m8 := s7.trans s8
    refine ⟨_, rfl, _, rfl, _, rfl, iteT' rfl ⟨_, rfl, _, rfl, Ln, rfl, .inl ⟨⟨_, .of (m8 _ _ hLn6)⟩, fun A hA => ?_⟩⟩⟩
    have ll : (lens T n).length ≤ 2097152 := by unfold lens; rw [List.length_map]; omega
    refine inv_list (K := K) (a := Ln) (vars := [0]) (xs := (lens T n).map V.int) (fun i zs H' => zs = (((lens T n).take i).filter fun x => decide (x = rest (at2 T) n ([0], 0))).map V.int) (by decide) (by show 0 < 2; decide) rfl hA (fun i zs H' sm _ => .of ((m8.trans sm) _ _ hLn6)) (fun i x σ9 H9 zs D9 hx l9 ag s0 sm ha hL hD => ?_) fun σ9 H9 zs s9 hA9 hz => ?_
    · have hi : i < (lens T n).length := by have := (List.getElem?_eq_some_iff.mp hx).1; simpa using this
      obtain rfl : V.int (lens T n)[i] = x := by rw [List.getElem?_map, List.getElem?_eq_getElem hi] at hx; exact Option.some.inj hx
      have u1 : σ9[1]? = some (some (.int (rest (at2 T) n ([0], 0)))) := (ag 1 (by decide)).trans rfl
      have tk := List.take_add_one (l := lens T n) (i := i)
      rw [List.getElem?_eq_getElem hi] at tk
      generalize (lens T n)[i] = x at s0 tk
      refine ⟨_, s0, _, u1, .int _, .int _, Nat.zero_le _, rfl, rfl, _, rfl, ?_⟩
      rw [eqD]
      by_cases cx : x = rest (at2 T) n ([0], 0)
      · refine iteT' (by rw [cx]; exact beq_self_eq_true _) ⟨_, s0, zs, ha, ?_, hD σ9 _ _ l9 ag (samePut hA sm) upd_same ?_⟩
        · rw [hL, List.length_map]
          exact Nat.lt_of_le_of_lt (show _ ≤ 2097152 from Nat.le_trans (List.length_filter_le ..) (by rw [List.length_take]; omega)) (by decide)
        · rw [hL, tk, List.filter_append, List.map_append]
          show _ = _ ++ (List.filter _ [x]).map V.int
          rw [List.filter_cons_of_pos (by simp [cx])]; rfl
      · refine iteF' (beq_false_of_ne cx) (hD σ9 H9 zs l9 ag sm ha ?_)
        rw [hL, tk, List.filter_append]
        show _ = (_ ++ List.filter _ [x]).map V.int
        rw [List.filter_cons_of_neg (by simp [cx])]
        simp
    · rw [List.length_map, List.take_length] at hz
      refine ⟨A, _, rfl, .inl (.of hA9), .int _, .int _, Nat.zero_le _, rfl, rfl, ?_⟩
      rw [hz, List.length_map, ← many_eq rfl, eqD_refl]
      exact q H9
end
end K06
namespace K06
open PySem L2
section
variable {K : PySem.W.Frag}
theorem ln_joined : ∀ vs H Q E, (S.spJoin K) vs H Q E → vs.length = 2 := fun vs H Q E ⟨_, _, _, e, _⟩ => by rw [e]; rfl
theorem ln_places_left : ∀ vs H Q E, (S.spLeft K) vs H Q E → vs.length = 2 := fun vs H Q E ⟨_, _, _, _, _, e, _⟩ => by rw [e]; rfl
theorem ln_parts_with_home : ∀ vs H Q E, S.spParts vs H Q E → vs.length = 1 := fun vs H Q E ⟨_, e, _⟩ => by rw [e]; rfl
theorem ln_onward : ∀ vs H Q E, (S.spOnw K) vs H Q E → vs.length = 4 := fun vs H Q E ⟨_, _, _, _, _, _, _, _, _, _, _, e, _⟩ => by rw [e]; rfl
theorem ln_least_rests : ∀ vs H Q E, (S.spRests K) vs H Q E → vs.length = 1 := fun vs H Q E ⟨_, _, _, e, _⟩ => by rw [e]; rfl
theorem ln_round_by_rests : ∀ vs H Q E, (S.spRound K) vs H Q E → vs.length = 2 := fun vs H Q E ⟨_, _, _, _, _, _, e, _⟩ => by rw [e]; rfl
theorem ln_shortest : ∀ vs H Q E, (S.spShort K) vs H Q E → vs.length = 1 := fun vs H Q E ⟨_, _, _, e, _⟩ => by rw [e]; rfl
theorem ln_how_many : ∀ vs H Q E, (S.spMany K) vs H Q E → vs.length = 1 := fun vs H Q E ⟨_, _, _, e, _⟩ => by rw [e]; rfl
theorem ln_is_whole : ∀ vs H Q E, (spWh K) vs H Q E → vs.length = 1 := fun vs H Q E ⟨_, e, _⟩ => by rw [e]; rfl
theorem ln_are_wholes : ∀ vs H Q E, (spWhs K) vs H Q E → vs.length = 1 := fun vs H Q E ⟨_, _, e, _⟩ => by rw [e]; rfl
theorem ln_is_part_with_home : ∀ vs H Q E, (spHome K) vs H Q E → vs.length = 2 := fun vs H Q E ⟨_, _, _, _, _, e, _⟩ => by rw [e]; rfl
theorem ln_is_floor : ∀ vs H Q E, (spFlr K) vs H Q E → vs.length = 2 := fun vs H Q E ⟨_, _, _, _, _, _, _, _, e, _⟩ => by rw [e]; rfl
theorem ln_highest_floors : ∀ vs H Q E, (spHigh K) vs H Q E → vs.length = 1 := fun vs H Q E ⟨_, _, _, e, _⟩ => by rw [e]; rfl
theorem ln_is_held_at : ∀ vs H Q E, (spHeld K) vs H Q E → vs.length = 4 := fun vs H Q E ⟨_, _, _, _, _, _, e, _⟩ => by rw [e]; rfl
theorem ln_does_hold : ∀ vs H Q E, (spHold K) vs H Q E → vs.length = 5 := fun vs H Q E ⟨_, _, _, _, _, _, _, _, _, e, _⟩ => by rw [e]; rfl
theorem ln_do_show : ∀ vs H Q E, (spShow K) vs H Q E → vs.length = 3 := fun vs H Q E ⟨_, _, _, _, _, _, _, e, _⟩ => by rw [e]; rfl
theorem ln__law_acell : ∀ vs H Q E, (spCell K) vs H Q E → vs.length = 1 := fun vs H Q E ⟨_, _, _, _, e, _⟩ => by rw [e]; rfl
theorem ln__law_alength : ∀ vs H Q E, spLen vs H Q E → vs.length = 1 := fun vs H Q E ⟨_, e, _⟩ => by rw [e]; rfl
theorem ln__law_atable : ∀ vs H Q E, (spTable K 8) vs H Q E → vs.length = 3 := fun vs H Q E ⟨_, _, _, _, _, _, e, _⟩ => by rw [e]; rfl
theorem ln__law_arounds : ∀ vs H Q E, (spArd K) vs H Q E → vs.length = 1 := fun vs H Q E ⟨_, e, _⟩ => by rw [e]; rfl
theorem ln__law_along : ∀ vs H Q E, (spAl K) vs H Q E → vs.length = 2 := fun vs H Q E ⟨_, _, _, _, _, e, _⟩ => by rw [e]; rfl
theorem ln__law_awhole : ∀ vs H Q E, (spWh K) vs H Q E → vs.length = 1 := fun vs H Q E ⟨_, e, _⟩ => by rw [e]; rfl
theorem ln__law_aheld : ∀ vs H Q E, (spHold K) vs H Q E → vs.length = 5 := fun vs H Q E ⟨_, _, _, _, _, _, _, _, _, e, _⟩ => by rw [e]; rfl
theorem ln__law_afloor : ∀ vs H Q E, (spAfl K) vs H Q E → vs.length = 2 := fun vs H Q E ⟨_, _, _, _, _, _, e, _⟩ => by rw [e]; rfl
theorem ln__law_ashown : ∀ vs H Q E, (spShow K) vs H Q E → vs.length = 3 := fun vs H Q E ⟨_, _, _, _, _, _, _, e, _⟩ => by rw [e]; rfl
theorem ln__law_aspoilt : ∀ vs H Q E, (spSpo K) vs H Q E → vs.length = 3 := fun vs H Q E ⟨_, _, _, _, _, e, _⟩ => by rw [e]; rfl
theorem ln_law : ∀ vs H Q E, spLaw K vs H Q E → vs.length = 1 := fun vs H Q E ⟨a, ns, e, _⟩ => by rw [e]; rfl
end
theorem all_mk {l : PySem.W.OpenLaw} {w : World} {K : PySem.W.Frag} {h : Heap} {mg : Str → Option Value} {fa : Addr} (X : K.In h) (G : h.Ns mainGlobals mg) (hfa : mg "law" = some (.ref fa))
    {f0 : Addr} {od0 an0 : Option Addr} {sl0 : Array (Option Value)} {oc0 kV0 dc0 pm0 cd0 ct0 : Value} (a0 : PySem.W.nsIn K mainGlobals "is_whole" = some (some (.ref f0))) (l0 : K.lookup f0 = some ⟨oc0, od0, .func (PySem.W.fnOf "is_whole" "is_whole" (defArgs (top 1)) (defBody (top 1)) (defScope (top 1)) .none kV0 dc0 pm0 an0 cd0 ct0), sl0⟩) (c0 : PySem.W.codeIn K cd0 "is_whole" = true) (k0 : PySem.W.keepIn K (.ref f0) = true)
    {f1 : Addr} {od1 an1 : Option Addr} {sl1 : Array (Option Value)} {oc1 kV1 dc1 pm1 cd1 ct1 : Value} (a1 : PySem.W.nsIn K mainGlobals "are_wholes" = some (some (.ref f1))) (l1 : K.lookup f1 = some ⟨oc1, od1, .func (PySem.W.fnOf "are_wholes" "are_wholes" (defArgs (top 2)) (defBody (top 2)) (defScope (top 2)) .none kV1 dc1 pm1 an1 cd1 ct1), sl1⟩) (c1 : PySem.W.codeIn K cd1 "are_wholes" = true) (k1 : PySem.W.keepIn K (.ref f1) = true)
    {f2 : Addr} {od2 an2 : Option Addr} {sl2 : Array (Option Value)} {oc2 kV2 dc2 pm2 cd2 ct2 : Value} (a2 : PySem.W.nsIn K mainGlobals "shortest" = some (some (.ref f2))) (l2 : K.lookup f2 = some ⟨oc2, od2, .func (PySem.W.fnOf "shortest" "shortest" (defArgs (top 5)) (defBody (top 5)) (defScope (top 5)) .none kV2 dc2 pm2 an2 cd2 ct2), sl2⟩) (c2 : PySem.W.codeIn K cd2 "shortest" = true) (k2 : PySem.W.keepIn K (.ref f2) = true)
    {f3 : Addr} {od3 an3 : Option Addr} {sl3 : Array (Option Value)} {oc3 kV3 dc3 pm3 cd3 ct3 : Value} (a3 : PySem.W.nsIn K mainGlobals "how_many" = some (some (.ref f3))) (l3 : K.lookup f3 = some ⟨oc3, od3, .func (PySem.W.fnOf "how_many" "how_many" (defArgs (top 6)) (defBody (top 6)) (defScope (top 6)) .none kV3 dc3 pm3 an3 cd3 ct3), sl3⟩) (c3 : PySem.W.codeIn K cd3 "how_many" = true) (k3 : PySem.W.keepIn K (.ref f3) = true)
    {f4 : Addr} {od4 an4 : Option Addr} {sl4 : Array (Option Value)} {oc4 kV4 dc4 pm4 cd4 ct4 : Value} (a4 : PySem.W.nsIn K mainGlobals "least_rests" = some (some (.ref f4))) (l4 : K.lookup f4 = some ⟨oc4, od4, .func (PySem.W.fnOf "least_rests" "least_rests" (defArgs (top 7)) (defBody (top 7)) (defScope (top 7)) .none kV4 dc4 pm4 an4 cd4 ct4), sl4⟩) (c4 : PySem.W.codeIn K cd4 "least_rests" = true) (k4 : PySem.W.keepIn K (.ref f4) = true)
    {f5 : Addr} {od5 an5 : Option Addr} {sl5 : Array (Option Value)} {oc5 kV5 dc5 pm5 cd5 ct5 : Value} (a5 : PySem.W.nsIn K mainGlobals "parts_with_home" = some (some (.ref f5))) (l5 : K.lookup f5 = some ⟨oc5, od5, .func (PySem.W.fnOf "parts_with_home" "parts_with_home" (defArgs (top 8)) (defBody (top 8)) (defScope (top 8)) .none kV5 dc5 pm5 an5 cd5 ct5), sl5⟩) (c5 : PySem.W.codeIn K cd5 "parts_with_home" = true) (k5 : PySem.W.keepIn K (.ref f5) = true)
    {f6 : Addr} {od6 an6 : Option Addr} {sl6 : Array (Option Value)} {oc6 kV6 dc6 pm6 cd6 ct6 : Value} (a6 : PySem.W.nsIn K mainGlobals "joined" = some (some (.ref f6))) (l6 : K.lookup f6 = some ⟨oc6, od6, .func (PySem.W.fnOf "joined" "joined" (defArgs (top 9)) (defBody (top 9)) (defScope (top 9)) .none kV6 dc6 pm6 an6 cd6 ct6), sl6⟩) (c6 : PySem.W.codeIn K cd6 "joined" = true) (k6 : PySem.W.keepIn K (.ref f6) = true)
    {f7 : Addr} {od7 an7 : Option Addr} {sl7 : Array (Option Value)} {oc7 kV7 dc7 pm7 cd7 ct7 : Value} (a7 : PySem.W.nsIn K mainGlobals "places_left" = some (some (.ref f7))) (l7 : K.lookup f7 = some ⟨oc7, od7, .func (PySem.W.fnOf "places_left" "places_left" (defArgs (top 10)) (defBody (top 10)) (defScope (top 10)) .none kV7 dc7 pm7 an7 cd7 ct7), sl7⟩) (c7 : PySem.W.codeIn K cd7 "places_left" = true) (k7 : PySem.W.keepIn K (.ref f7) = true)
    {f8 : Addr} {od8 an8 : Option Addr} {sl8 : Array (Option Value)} {oc8 kV8 dc8 pm8 cd8 ct8 : Value} (a8 : PySem.W.nsIn K mainGlobals "onward" = some (some (.ref f8))) (l8 : K.lookup f8 = some ⟨oc8, od8, .func (PySem.W.fnOf "onward" "onward" (defArgs (top 11)) (defBody (top 11)) (defScope (top 11)) .none kV8 dc8 pm8 an8 cd8 ct8), sl8⟩) (c8 : PySem.W.codeIn K cd8 "onward" = true) (k8 : PySem.W.keepIn K (.ref f8) = true)
    {f9 : Addr} {od9 an9 : Option Addr} {sl9 : Array (Option Value)} {oc9 kV9 dc9 pm9 cd9 ct9 : Value} (a9 : PySem.W.nsIn K mainGlobals "round_by_rests" = some (some (.ref f9))) (l9 : K.lookup f9 = some ⟨oc9, od9, .func (PySem.W.fnOf "round_by_rests" "round_by_rests" (defArgs (top 12)) (defBody (top 12)) (defScope (top 12)) .none kV9 dc9 pm9 an9 cd9 ct9), sl9⟩) (c9 : PySem.W.codeIn K cd9 "round_by_rests" = true) (k9 : PySem.W.keepIn K (.ref f9) = true)
    {f10 : Addr} {od10 an10 : Option Addr} {sl10 : Array (Option Value)} {oc10 kV10 dc10 pm10 cd10 ct10 : Value} (a10 : PySem.W.nsIn K mainGlobals "do_show" = some (some (.ref f10))) (l10 : K.lookup f10 = some ⟨oc10, od10, .func (PySem.W.fnOf "do_show" "do_show" (defArgs (top 13)) (defBody (top 13)) (defScope (top 13)) .none kV10 dc10 pm10 an10 cd10 ct10), sl10⟩) (c10 : PySem.W.codeIn K cd10 "do_show" = true) (k10 : PySem.W.keepIn K (.ref f10) = true)
    {f11 : Addr} {od11 an11 : Option Addr} {sl11 : Array (Option Value)} {oc11 kV11 dc11 pm11 cd11 ct11 : Value} (a11 : PySem.W.nsIn K mainGlobals "is_floor" = some (some (.ref f11))) (l11 : K.lookup f11 = some ⟨oc11, od11, .func (PySem.W.fnOf "is_floor" "is_floor" (defArgs (top 14)) (defBody (top 14)) (defScope (top 14)) .none kV11 dc11 pm11 an11 cd11 ct11), sl11⟩) (c11 : PySem.W.codeIn K cd11 "is_floor" = true) (k11 : PySem.W.keepIn K (.ref f11) = true)
    {f12 : Addr} {od12 an12 : Option Addr} {sl12 : Array (Option Value)} {oc12 kV12 dc12 pm12 cd12 ct12 : Value} (a12 : PySem.W.nsIn K mainGlobals "is_part_with_home" = some (some (.ref f12))) (l12 : K.lookup f12 = some ⟨oc12, od12, .func (PySem.W.fnOf "is_part_with_home" "is_part_with_home" (defArgs (top 15)) (defBody (top 15)) (defScope (top 15)) .none kV12 dc12 pm12 an12 cd12 ct12), sl12⟩) (c12 : PySem.W.codeIn K cd12 "is_part_with_home" = true) (k12 : PySem.W.keepIn K (.ref f12) = true)
    {f13 : Addr} {od13 an13 : Option Addr} {sl13 : Array (Option Value)} {oc13 kV13 dc13 pm13 cd13 ct13 : Value} (a13 : PySem.W.nsIn K mainGlobals "highest_floors" = some (some (.ref f13))) (l13 : K.lookup f13 = some ⟨oc13, od13, .func (PySem.W.fnOf "highest_floors" "highest_floors" (defArgs (top 16)) (defBody (top 16)) (defScope (top 16)) .none kV13 dc13 pm13 an13 cd13 ct13), sl13⟩) (c13 : PySem.W.codeIn K cd13 "highest_floors" = true) (k13 : PySem.W.keepIn K (.ref f13) = true)
    {f14 : Addr} {od14 an14 : Option Addr} {sl14 : Array (Option Value)} {oc14 kV14 dc14 pm14 cd14 ct14 : Value} (a14 : PySem.W.nsIn K mainGlobals "does_hold" = some (some (.ref f14))) (l14 : K.lookup f14 = some ⟨oc14, od14, .func (PySem.W.fnOf "does_hold" "does_hold" (defArgs (top 17)) (defBody (top 17)) (defScope (top 17)) .none kV14 dc14 pm14 an14 cd14 ct14), sl14⟩) (c14 : PySem.W.codeIn K cd14 "does_hold" = true) (k14 : PySem.W.keepIn K (.ref f14) = true)
    {f15 : Addr} {od15 an15 : Option Addr} {sl15 : Array (Option Value)} {oc15 kV15 dc15 pm15 cd15 ct15 : Value} (a15 : PySem.W.nsIn K mainGlobals "is_held_at" = some (some (.ref f15))) (l15 : K.lookup f15 = some ⟨oc15, od15, .func (PySem.W.fnOf "is_held_at" "is_held_at" (defArgs (top 18)) (defBody (top 18)) (defScope (top 18)) .none kV15 dc15 pm15 an15 cd15 ct15), sl15⟩) (c15 : PySem.W.codeIn K cd15 "is_held_at" = true) (k15 : PySem.W.keepIn K (.ref f15) = true)
    {f16 : Addr} {od16 an16 : Option Addr} {sl16 : Array (Option Value)} {oc16 kV16 dc16 pm16 cd16 ct16 : Value} (a16 : PySem.W.nsIn K mainGlobals "_law_acell" = some (some (.ref f16))) (l16 : K.lookup f16 = some ⟨oc16, od16, .func (PySem.W.fnOf "_law_acell" "_law_acell" (defArgs (top 20)) (defBody (top 20)) (defScope (top 20)) .none kV16 dc16 pm16 an16 cd16 ct16), sl16⟩) (c16 : PySem.W.codeIn K cd16 "_law_acell" = true) (k16 : PySem.W.keepIn K (.ref f16) = true)
    {f17 : Addr} {od17 an17 : Option Addr} {sl17 : Array (Option Value)} {oc17 kV17 dc17 pm17 cd17 ct17 : Value} (a17 : PySem.W.nsIn K mainGlobals "_law_alength" = some (some (.ref f17))) (l17 : K.lookup f17 = some ⟨oc17, od17, .func (PySem.W.fnOf "_law_alength" "_law_alength" (defArgs (top 21)) (defBody (top 21)) (defScope (top 21)) .none kV17 dc17 pm17 an17 cd17 ct17), sl17⟩) (c17 : PySem.W.codeIn K cd17 "_law_alength" = true) (k17 : PySem.W.keepIn K (.ref f17) = true)
    {f18 : Addr} {od18 an18 : Option Addr} {sl18 : Array (Option Value)} {oc18 kV18 dc18 pm18 cd18 ct18 : Value} (a18 : PySem.W.nsIn K mainGlobals "_law_atable" = some (some (.ref f18))) (l18 : K.lookup f18 = some ⟨oc18, od18, .func (PySem.W.fnOf "_law_atable" "_law_atable" (defArgs (top 22)) (defBody (top 22)) (defScope (top 22)) .none kV18 dc18 pm18 an18 cd18 ct18), sl18⟩) (c18 : PySem.W.codeIn K cd18 "_law_atable" = true) (k18 : PySem.W.keepIn K (.ref f18) = true)
    {f19 : Addr} {od19 an19 : Option Addr} {sl19 : Array (Option Value)} {oc19 kV19 dc19 pm19 cd19 ct19 : Value} (a19 : PySem.W.nsIn K mainGlobals "_law_arounds" = some (some (.ref f19))) (l19 : K.lookup f19 = some ⟨oc19, od19, .func (PySem.W.fnOf "_law_arounds" "_law_arounds" (defArgs (top 23)) (defBody (top 23)) (defScope (top 23)) .none kV19 dc19 pm19 an19 cd19 ct19), sl19⟩) (c19 : PySem.W.codeIn K cd19 "_law_arounds" = true) (k19 : PySem.W.keepIn K (.ref f19) = true)
    {f20 : Addr} {od20 an20 : Option Addr} {sl20 : Array (Option Value)} {oc20 kV20 dc20 pm20 cd20 ct20 : Value} (a20 : PySem.W.nsIn K mainGlobals "_law_along" = some (some (.ref f20))) (l20 : K.lookup f20 = some ⟨oc20, od20, .func (PySem.W.fnOf "_law_along" "_law_along" (defArgs (top 24)) (defBody (top 24)) (defScope (top 24)) .none kV20 dc20 pm20 an20 cd20 ct20), sl20⟩) (c20 : PySem.W.codeIn K cd20 "_law_along" = true) (k20 : PySem.W.keepIn K (.ref f20) = true)
    {f21 : Addr} {od21 an21 : Option Addr} {sl21 : Array (Option Value)} {oc21 kV21 dc21 pm21 cd21 ct21 : Value} (a21 : PySem.W.nsIn K mainGlobals "_law_awhole" = some (some (.ref f21))) (l21 : K.lookup f21 = some ⟨oc21, od21, .func (PySem.W.fnOf "_law_awhole" "_law_awhole" (defArgs (top 25)) (defBody (top 25)) (defScope (top 25)) .none kV21 dc21 pm21 an21 cd21 ct21), sl21⟩) (c21 : PySem.W.codeIn K cd21 "_law_awhole" = true) (k21 : PySem.W.keepIn K (.ref f21) = true)
    {f22 : Addr} {od22 an22 : Option Addr} {sl22 : Array (Option Value)} {oc22 kV22 dc22 pm22 cd22 ct22 : Value} (a22 : PySem.W.nsIn K mainGlobals "_law_aheld" = some (some (.ref f22))) (l22 : K.lookup f22 = some ⟨oc22, od22, .func (PySem.W.fnOf "_law_aheld" "_law_aheld" (defArgs (top 26)) (defBody (top 26)) (defScope (top 26)) .none kV22 dc22 pm22 an22 cd22 ct22), sl22⟩) (c22 : PySem.W.codeIn K cd22 "_law_aheld" = true) (k22 : PySem.W.keepIn K (.ref f22) = true)
    {f23 : Addr} {od23 an23 : Option Addr} {sl23 : Array (Option Value)} {oc23 kV23 dc23 pm23 cd23 ct23 : Value} (a23 : PySem.W.nsIn K mainGlobals "_law_afloor" = some (some (.ref f23))) (l23 : K.lookup f23 = some ⟨oc23, od23, .func (PySem.W.fnOf "_law_afloor" "_law_afloor" (defArgs (top 27)) (defBody (top 27)) (defScope (top 27)) .none kV23 dc23 pm23 an23 cd23 ct23), sl23⟩) (c23 : PySem.W.codeIn K cd23 "_law_afloor" = true) (k23 : PySem.W.keepIn K (.ref f23) = true)
    {f24 : Addr} {od24 an24 : Option Addr} {sl24 : Array (Option Value)} {oc24 kV24 dc24 pm24 cd24 ct24 : Value} (a24 : PySem.W.nsIn K mainGlobals "_law_ashown" = some (some (.ref f24))) (l24 : K.lookup f24 = some ⟨oc24, od24, .func (PySem.W.fnOf "_law_ashown" "_law_ashown" (defArgs (top 28)) (defBody (top 28)) (defScope (top 28)) .none kV24 dc24 pm24 an24 cd24 ct24), sl24⟩) (c24 : PySem.W.codeIn K cd24 "_law_ashown" = true) (k24 : PySem.W.keepIn K (.ref f24) = true)
    {f25 : Addr} {od25 an25 : Option Addr} {sl25 : Array (Option Value)} {oc25 kV25 dc25 pm25 cd25 ct25 : Value} (a25 : PySem.W.nsIn K mainGlobals "_law_aspoilt" = some (some (.ref f25))) (l25 : K.lookup f25 = some ⟨oc25, od25, .func (PySem.W.fnOf "_law_aspoilt" "_law_aspoilt" (defArgs (top 29)) (defBody (top 29)) (defScope (top 29)) .none kV25 dc25 pm25 an25 cd25 ct25), sl25⟩) (c25 : PySem.W.codeIn K cd25 "_law_aspoilt" = true) (k25 : PySem.W.keepIn K (.ref f25) = true)
    {f26 : Addr} {od26 an26 : Option Addr} {sl26 : Array (Option Value)} {oc26 kV26 dc26 pm26 cd26 ct26 : Value} (a26 : PySem.W.nsIn K mainGlobals "law" = some (some (.ref f26))) (l26 : K.lookup f26 = some ⟨oc26, od26, .func (PySem.W.fnOf "law" "law" (defArgs (top 30)) (defBody (top 30)) (defScope (top 30)) .none kV26 dc26 pm26 an26 cd26 ct26), sl26⟩) (c26 : PySem.W.codeIn K cd26 "law" = true) (k26 : PySem.W.keepIn K (.ref f26) = true)
    (z_len : PySem.W.nsIn K mainGlobals "len" = some none)
    (z_all : PySem.W.nsIn K mainGlobals "all" = some none)
    (z_min : PySem.W.nsIn K mainGlobals "min" = some none)
    (z_max : PySem.W.nsIn K mainGlobals "max" = some none)
    (z_sum : PySem.W.nsIn K mainGlobals "sum" = some none)
    (z_isinstance : PySem.W.nsIn K mainGlobals "isinstance" = some none)
    (z_sorted : PySem.W.nsIn K mainGlobals "sorted" = some none)
    (z_tuple : PySem.W.nsIn K mainGlobals "tuple" = some none)
    (z_list : PySem.W.nsIn K mainGlobals "list" = some none)
    (z_range : PySem.W.nsIn K mainGlobals "range" = some none)
    (z_int : PySem.W.nsIn K mainGlobals "int" = some none)
    (z_bool : PySem.W.nsIn K mainGlobals "bool" = some none)
    (z_zip : PySem.W.nsIn K mainGlobals "zip" = some none)
    (z_repr : PySem.W.nsIn K mainGlobals "repr" = some none)
    (z_enumerate : PySem.W.nsIn K mainGlobals "enumerate" = some none)
    (z_reversed : PySem.W.nsIn K mainGlobals "reversed" = some none)
    (z_str : PySem.W.nsIn K mainGlobals "str" = some none)
    (z_set : PySem.W.nsIn K mainGlobals "set" = some none)
    (z_abs : PySem.W.nsIn K mainGlobals "abs" = some none)
    {C_START : Addr} (ac_START : PySem.W.nsIn K mainGlobals "START" = some (some (.ref C_START)))
    {bS : Addr} {nS nT : Nat} {slS slT : Array (Option Value)} {tS tT : Tok}
    (lS : K.lookup C_START = some ⟨.type "tuple", none, .seq #[.ref bS, .int 0 tS] nS, slS⟩)
    (lT : K.lookup bS = some ⟨.type "tuple", none, .seq #[.int 0 tT] nT, slT⟩) :
    ∃ fd : FuncData, (∀ (s : Shared) (v : Value), BindsTo s fd ⟨[v], []⟩ [("script", v)]) ∧ ∀ base : Heap, K.In base → base.Ns mainGlobals mg → FnOk l.prog w K mg base CX0 6 fa fd ["script"] (spLaw K) := by
  have e := hfa.symm.trans (PySem.W.mg_of X G a26)
  cases e
  have B : Blt4 mg := ⟨⟨⟨⟨PySem.W.mg_none_of X G z_len, PySem.W.mg_none_of X G z_all, PySem.W.mg_none_of X G z_min, PySem.W.mg_none_of X G z_max, PySem.W.mg_none_of X G z_sum, PySem.W.mg_none_of X G z_isinstance, PySem.W.mg_none_of X G z_sorted, PySem.W.mg_none_of X G z_tuple, PySem.W.mg_none_of X G z_list, PySem.W.mg_none_of X G z_range, PySem.W.mg_none_of X G z_int, PySem.W.mg_none_of X G z_bool⟩, PySem.W.mg_none_of X G z_zip, PySem.W.mg_none_of X G z_repr, PySem.W.mg_none_of X G z_enumerate, PySem.W.mg_none_of X G z_reversed, PySem.W.mg_none_of X G z_str⟩, PySem.W.mg_none_of X G z_set⟩, PySem.W.mg_none_of X G z_abs⟩
  have GC_START := PySem.W.mg_of X G ac_START
  have hS : ∀ H, KeyQ K H (S.kc ([0], 0)) C_START := fun H => ⟨bS, .inr ⟨_, _, _, lS, rfl, rfl, rfl, by show 2 ≤ sizeLine; decide, .cons rfl (.cons ⟨_, rfl⟩ .nil)⟩, .inr ⟨_, _, _, lT, rfl, rfl, rfl, by show 1 ≤ sizeLine; decide, .cons ⟨_, rfl⟩ .nil⟩⟩
  have F0 := fun_mk (st := top 1) l0 c0 k0
  have b0 := F0.binds (ps := ["thing"]) fun _ _ _ _ _ _ us hl => match us, hl with | [_], _ => rfl
  have F1 := fun_mk (st := top 2) l1 c1 k1
  have b1 := F1.binds (ps := ["thing"]) fun _ _ _ _ _ _ us hl => match us, hl with | [_], _ => rfl
  have F2 := fun_mk (st := top 5) l2 c2 k2
  have b2 := F2.binds (ps := ["table"]) fun _ _ _ _ _ _ us hl => match us, hl with | [_], _ => rfl
  have F3 := fun_mk (st := top 6) l3 c3 k3
  have b3 := F3.binds (ps := ["table"]) fun _ _ _ _ _ _ us hl => match us, hl with | [_], _ => rfl
  have F4 := fun_mk (st := top 7) l4 c4 k4
  have b4 := F4.binds (ps := ["table"]) fun _ _ _ _ _ _ us hl => match us, hl with | [_], _ => rfl
  have F5 := fun_mk (st := top 8) l5 c5 k5
  have b5 := F5.binds (ps := ["many"]) fun _ _ _ _ _ _ us hl => match us, hl with | [_], _ => rfl
  have F6 := fun_mk (st := top 9) l6 c6 k6
  have b6 := F6.binds (ps := ["some", "place"]) fun _ _ _ _ _ _ us hl => match us, hl with | [_, _], _ => rfl
  have F7 := fun_mk (st := top 10) l7 c7 k7
  have b7 := F7.binds (ps := ["table", "some"]) fun _ _ _ _ _ _ us hl => match us, hl with | [_, _], _ => rfl
  have F8 := fun_mk (st := top 11) l8 c8 k8
  have b8 := F8.binds (ps := ["table", "rests", "some", "last"]) fun _ _ _ _ _ _ us hl => match us, hl with | [_, _, _, _], _ => rfl
  have F9 := fun_mk (st := top 12) l9 c9 k9
  have b9 := F9.binds (ps := ["table", "rests"]) fun _ _ _ _ _ _ us hl => match us, hl with | [_, _], _ => rfl
  have F10 := fun_mk (st := top 13) l10 c10 k10
  have b10 := F10.binds (ps := ["table", "floors", "number"]) fun _ _ _ _ _ _ us hl => match us, hl with | [_, _, _], _ => rfl
  have F11 := fun_mk (st := top 14) l11 c11 k11
  have b11 := F11.binds (ps := ["table", "thing"]) fun _ _ _ _ _ _ us hl => match us, hl with | [_, _], _ => rfl
  have F12 := fun_mk (st := top 15) l12 c12 k12
  have b12 := F12.binds (ps := ["table", "thing"]) fun _ _ _ _ _ _ us hl => match us, hl with | [_, _], _ => rfl
  have F13 := fun_mk (st := top 16) l13 c13 k13
  have b13 := F13.binds (ps := ["floors"]) fun _ _ _ _ _ _ us hl => match us, hl with | [_], _ => rfl
  have F14 := fun_mk (st := top 17) l14 c14 k14
  have b14 := F14.binds (ps := ["table", "highest", "some", "last", "height"]) fun _ _ _ _ _ _ us hl => match us, hl with | [_, _, _, _, _], _ => rfl
  have F15 := fun_mk (st := top 18) l15 c15 k15
  have b15 := F15.binds (ps := ["highest", "some", "last", "height"]) fun _ _ _ _ _ _ us hl => match us, hl with | [_, _, _, _], _ => rfl
  have F16 := fun_mk (st := top 20) l16 c16 k16
  have b16 := F16.binds (ps := ["state"]) fun _ _ _ _ _ _ us hl => match us, hl with | [_], _ => rfl
  have F17 := fun_mk (st := top 21) l17 c17 k17
  have b17 := F17.binds (ps := ["cell"]) fun _ _ _ _ _ _ us hl => match us, hl with | [_], _ => rfl
  have F18 := fun_mk (st := top 22) l18 c18 k18
  have b18 := F18.binds (ps := ["state", "many", "even"]) fun _ _ _ _ _ _ us hl => match us, hl with | [_, _, _], _ => rfl
  have F19 := fun_mk (st := top 23) l19 c19 k19
  have b19 := F19.binds (ps := ["many"]) fun _ _ _ _ _ _ us hl => match us, hl with | [_], _ => rfl
  have F20 := fun_mk (st := top 24) l20 c20 k20
  have b20 := F20.binds (ps := ["table", "some"]) fun _ _ _ _ _ _ us hl => match us, hl with | [_, _], _ => rfl
  have F21 := fun_mk (st := top 25) l21 c21 k21
  have b21 := F21.binds (ps := ["thing"]) fun _ _ _ _ _ _ us hl => match us, hl with | [_], _ => rfl
  have F22 := fun_mk (st := top 26) l22 c22 k22
  have b22 := F22.binds (ps := ["table", "known", "some", "last", "number"]) fun _ _ _ _ _ _ us hl => match us, hl with | [_, _, _, _, _], _ => rfl
  have F23 := fun_mk (st := top 27) l23 c23 k23
  have b23 := F23.binds (ps := ["many", "thing"]) fun _ _ _ _ _ _ us hl => match us, hl with | [_, _], _ => rfl
  have F24 := fun_mk (st := top 28) l24 c24 k24
  have b24 := F24.binds (ps := ["table", "floors", "number"]) fun _ _ _ _ _ _ us hl => match us, hl with | [_, _, _], _ => rfl
  have F25 := fun_mk (st := top 29) l25 c25 k25
  have b25 := F25.binds (ps := ["floors", "many", "cell"]) fun _ _ _ _ _ _ us hl => match us, hl with | [_, _, _], _ => rfl
  have F26 := fun_mk (st := top 30) l26 c26 k26
  refine ⟨PySem.W.fnOf "law" "law" (defArgs (top 30)) (defBody (top 30)) (defScope (top 30)) .none kV26 dc26 pm26 an26 cd26 ct26, fun s v => .of_eq rfl, fun base _ _ => ?_⟩
  have D_is_whole : Def l.prog w K mg base "is_whole" 1 ["thing"] (spWh K) := ⟨f0, _, ok_is_whole (P := l.prog) (w := w) (base := base) F0 B   ln_is_whole (rd_wh), PySem.W.mg_of X G a0, k0, b0⟩
  have D_parts_with_home : Def l.prog w K mg base "parts_with_home" 1 ["many"] (S.spParts) := ⟨f5, _, ok_parts_with_home (P := l.prog) (w := w) (base := base) F5 B   ln_parts_with_home (S.rd_parts), PySem.W.mg_of X G a5, k5, b5⟩
  have D_joined : Def l.prog w K mg base "joined" 1 ["some", "place"] (S.spJoin K) := ⟨f6, _, ok_joined (P := l.prog) (w := w) (base := base) F6 B   ln_joined (S.rd_join), PySem.W.mg_of X G a6, k6, b6⟩
  have D_places_left : Def l.prog w K mg base "places_left" 1 ["table", "some"] (S.spLeft K) := ⟨f7, _, ok_places_left (P := l.prog) (w := w) (base := base) F7 B   ln_places_left (S.rd_left), PySem.W.mg_of X G a7, k7, b7⟩
  have D_highest_floors : Def l.prog w K mg base "highest_floors" 1 ["floors"] (spHigh K) := ⟨f13, _, ok_highest_floors (P := l.prog) (w := w) (base := base) F13 B   ln_highest_floors (rd_high), PySem.W.mg_of X G a13, k13, b13⟩
  have D_is_held_at : Def l.prog w K mg base "is_held_at" 1 ["highest", "some", "last", "height"] (spHeld K) := ⟨f15, _, ok_is_held_at (P := l.prog) (w := w) (base := base) F15 B   ln_is_held_at (rd_held), PySem.W.mg_of X G a15, k15, b15⟩
  have D__law_acell : Def l.prog w K mg base "_law_acell" 1 ["state"] (spCell K) := ⟨f16, _, ok__law_acell (P := l.prog) (w := w) (base := base) F16 B   ln__law_acell (rd_cell), PySem.W.mg_of X G a16, k16, b16⟩
  have D__law_alength : Def l.prog w K mg base "_law_alength" 1 ["cell"] (spLen) := ⟨f17, _, ok__law_alength (P := l.prog) (w := w) (base := base) F17 B   ln__law_alength (rd_len), PySem.W.mg_of X G a17, k17, b17⟩
  have D__law_arounds : Def l.prog w K mg base "_law_arounds" 1 ["many"] (spArd K) := ⟨f19, _, ok__law_arounds (P := l.prog) (w := w) (base := base) F19 B   ln__law_arounds (rd_ard), PySem.W.mg_of X G a19, k19, b19⟩
  have D__law_along : Def l.prog w K mg base "_law_along" 1 ["table", "some"] (spAl K) := ⟨f20, _, ok__law_along (P := l.prog) (w := w) (base := base) F20 B   ln__law_along (rd_al), PySem.W.mg_of X G a20, k20, b20⟩
  have D__law_awhole : Def l.prog w K mg base "_law_awhole" 1 ["thing"] (spWh K) := ⟨f21, _, ok__law_awhole (P := l.prog) (w := w) (base := base) F21 B   ln__law_awhole (rd_awh), PySem.W.mg_of X G a21, k21, b21⟩
  have D__law_aheld : Def l.prog w K mg base "_law_aheld" 1 ["table", "known", "some", "last", "number"] (spHold K) := ⟨f22, _, ok__law_aheld (P := l.prog) (w := w) (base := base) F22 B   ln__law_aheld (rd_ahd), PySem.W.mg_of X G a22, k22, b22⟩
  have D__law_aspoilt : Def l.prog w K mg base "_law_aspoilt" 1 ["floors", "many", "cell"] (spSpo K) := ⟨f25, _, ok__law_aspoilt (P := l.prog) (w := w) (base := base) F25 B   ln__law_aspoilt (rd_spo), PySem.W.mg_of X G a25, k25, b25⟩
  have D_are_wholes : Def l.prog w K mg base "are_wholes" 2 ["thing"] (spWhs K) := ⟨f1, _, ok_are_wholes (P := l.prog) (w := w) (base := base) F1 B  D_is_whole ln_are_wholes (rd_whs), PySem.W.mg_of X G a1, k1, b1⟩
  have D_onward : Def l.prog w K mg base "onward" 2 ["table", "rests", "some", "last"] (S.spOnw K) := ⟨f8, _, ok_onward (P := l.prog) (w := w) (base := base) F8 B  D_joined D_places_left ln_onward (S.rd_onw), PySem.W.mg_of X G a8, k8, b8⟩
  have D_does_hold : Def l.prog w K mg base "does_hold" 2 ["table", "highest", "some", "last", "height"] (spHold K) := ⟨f14, _, ok_does_hold (P := l.prog) (w := w) (base := base) F14 B  D_is_held_at D_joined D_places_left ln_does_hold (rd_hold), PySem.W.mg_of X G a14, k14, b14⟩
  have D__law_atable : Def l.prog w K mg base "_law_atable" 2 ["state", "many", "even"] (spTable K 8) := ⟨f18, _, ok__law_atable (P := l.prog) (w := w) (base := base) F18 B  D__law_acell D__law_alength ln__law_atable (rd_table (by decide)), PySem.W.mg_of X G a18, k18, b18⟩
  have D__law_afloor : Def l.prog w K mg base "_law_afloor" 2 ["many", "thing"] (spAfl K) := ⟨f23, _, ok__law_afloor (P := l.prog) (w := w) (base := base) F23 B  D__law_awhole ln__law_afloor (rd_afl), PySem.W.mg_of X G a23, k23, b23⟩
  have D_least_rests : Def l.prog w K mg base "least_rests" 3 ["table"] (S.spRests K) := ⟨f4, _, ok_least_rests (P := l.prog) (w := w) (base := base) F4 B  D_onward D_parts_with_home ln_least_rests (S.rd_rests), PySem.W.mg_of X G a4, k4, b4⟩
  have D_round_by_rests : Def l.prog w K mg base "round_by_rests" 3 ["table", "rests"] (S.spRound K) := ⟨f9, _, ok_round_by_rests (P := l.prog) (w := w) (base := base) F9 B  D_onward ln_round_by_rests (S.rd_round), PySem.W.mg_of X G a9, k9, b9⟩
  have D_is_part_with_home : Def l.prog w K mg base "is_part_with_home" 3 ["table", "thing"] (spHome K) := ⟨f12, _, ok_is_part_with_home (P := l.prog) (w := w) (base := base) F12 B  D_are_wholes ln_is_part_with_home (rd_home), PySem.W.mg_of X G a12, k12, b12⟩
  have D__law_ashown : Def l.prog w K mg base "_law_ashown" 3 ["table", "floors", "number"] (spShow K) := ⟨f24, _, ok__law_ashown (P := l.prog) (w := w) (base := base) F24 B  D__law_afloor D__law_aheld ln__law_ashown (rd_ash), PySem.W.mg_of X G a24, k24, b24⟩
  have D_shortest : Def l.prog w K mg base "shortest" 4 ["table"] (S.spShort K) := ⟨f2, _, ok_shortest (P := l.prog) (w := w) (base := base) F2 B GC_START D_least_rests D_round_by_rests ln_shortest (S.rd_short hS), PySem.W.mg_of X G a2, k2, b2⟩
  have D_how_many : Def l.prog w K mg base "how_many" 4 ["table"] (S.spMany K) := ⟨f3, _, ok_how_many (P := l.prog) (w := w) (base := base) F3 B GC_START D_joined D_least_rests D_onward ln_how_many (S.rd_many hS), PySem.W.mg_of X G a3, k3, b3⟩
  have D_is_floor : Def l.prog w K mg base "is_floor" 4 ["table", "thing"] (spFlr K) := ⟨f11, _, ok_is_floor (P := l.prog) (w := w) (base := base) F11 B  D_is_part_with_home D_is_whole ln_is_floor (rd_flr), PySem.W.mg_of X G a11, k11, b11⟩
  have D_do_show : Def l.prog w K mg base "do_show" 5 ["table", "floors", "number"] (spShow K) := ⟨f10, _, ok_do_show (P := l.prog) (w := w) (base := base) F10 B GC_START D_does_hold D_highest_floors D_is_floor ln_do_show (rd_show hS), PySem.W.mg_of X G a10, k10, b10⟩
  exact ok_law (P := l.prog) (w := w) (base := base) F26 B  D__law_acell D__law_along D__law_arounds D__law_ashown D__law_aspoilt D__law_atable D__law_awhole D_do_show D_how_many D_shortest ln_law (rd_law)
theorem walk {l : PySem.W.OpenLaw} {q : Program} {loose : List Str} {XP : (Str → Option Value) → Heap → Prop} {YP : World → Heap → Prop} {d : DefRec} {K : Params → PySem.W.Frag} (hn : l.most = some 63) (hdf : d.params.defaults = [])
    (hY : ∀ (w : World) (h : Heap), YP w h → (K w.params).In h)
    (F : ∀ (w : World) (mg : Str → Option Value) (fa : Addr) (h : Heap), (K w.params).In h → h.Ns mainGlobals mg → mg d.name = some (.ref fa) →
      ∃ fd : FuncData, (∀ (s : Shared) (u : Value), BindsTo s fd ⟨[u], []⟩ [("script", u)]) ∧ ∀ base : Heap, (K w.params).In base → base.Ns mainGlobals mg → FnOk l.prog w (K w.params) mg base CX0 6 fa fd ["script"] (spLaw (K w.params))) :
    PySem.W.WalkO q loose XP YP l.row.toRowW d [] (fun f vs => PySem.call f vs) :=
  L2.walk_of (n := 63) (k := 6) (x := "script") (CX := fun _ => CX0) (sp := fun w => spLaw (K w.params)) hn (by decide) hdf ⟨rfl, by decide, by decide, rfl⟩ hY F (fun _ _ a ns hl _ hS => ⟨a, ns, rfl, hS, hl, fun _ => rfl⟩) fun _ _ _ _ _ z => z
end K06
open PySem PySem.W PyProof.Rows
set_option maxRecDepth 100000 in
set_option maxHeartbeats 0 in
theorem PySem.Challenge.cw_homeround_k06_shortest_rounds_holds : PySem.Challenge.rw_homeround_k06_shortest_rounds.Holds := by
  w_on; o_law; k_head; (case hw => w_witness2)
  k_fill
  refine K06.walk (l := PySem.Challenge.rw_homeround_k06_shortest_rounds) rfl rfl (fun w h Y => PySem.W.kIn_of Y) ?F
  case F =>
    intro w mg fa h KX G hmg
    refine' K06.all_mk KX G hmg ?a0 ?l0 ?c0 ?k0 ?a1 ?l1 ?c1 ?k1 ?a2 ?l2 ?c2 ?k2 ?a3 ?l3 ?c3 ?k3 ?a4 ?l4 ?c4 ?k4 ?a5 ?l5 ?c5 ?k5 ?a6 ?l6 ?c6 ?k6 ?a7 ?l7 ?c7 ?k7 ?a8 ?l8 ?c8 ?k8 ?a9 ?l9 ?c9 ?k9 ?a10 ?l10 ?c10 ?k10 ?a11 ?l11 ?c11 ?k11 ?a12 ?l12 ?c12 ?k12 ?a13 ?l13 ?c13 ?k13 ?a14 ?l14 ?c14 ?k14 ?a15 ?l15 ?c15 ?k15 ?a16 ?l16 ?c16 ?k16 ?a17 ?l17 ?c17 ?k17 ?a18 ?l18 ?c18 ?k18 ?a19 ?l19 ?c19 ?k19 ?a20 ?l20 ?c20 ?k20 ?a21 ?l21 ?c21 ?k21 ?a22 ?l22 ?c22 ?k22 ?a23 ?l23 ?c23 ?k23 ?a24 ?l24 ?c24 ?k24 ?a25 ?l25 ?c25 ?k25 ?a26 ?l26 ?c26 ?k26 ?z_len ?z_all ?z_min ?z_max ?z_sum ?z_isinstance ?z_sorted ?z_tuple ?z_list ?z_range ?z_int ?z_bool ?z_zip ?z_repr ?z_enumerate ?z_reversed ?z_str ?z_set ?z_abs ?ac_START ?lS ?lT
    (case a0 => k_is)
    (case l0 => k_is)
    (case c0 => k_is)
    (case k0 => k_is)
    (case a1 => k_is)
    (case l1 => k_is)
    (case c1 => k_is)
    (case k1 => k_is)
    (case a2 => k_is)
    (case l2 => k_is)
    (case c2 => k_is)
    (case k2 => k_is)
    (case a3 => k_is)
    (case l3 => k_is)
    (case c3 => k_is)
    (case k3 => k_is)
    (case a4 => k_is)
    (case l4 => k_is)
    (case c4 => k_is)
    (case k4 => k_is)
    (case a5 => k_is)
    (case l5 => k_is)
    (case c5 => k_is)
    (case k5 => k_is)
    (case a6 => k_is)
    (case l6 => k_is)
    (case c6 => k_is)
    (case k6 => k_is)
    (case a7 => k_is)
    (case l7 => k_is)
    (case c7 => k_is)
    (case k7 => k_is)
    (case a8 => k_is)
    (case l8 => k_is)
    (case c8 => k_is)
    (case k8 => k_is)
    (case a9 => k_is)
    (case l9 => k_is)
    (case c9 => k_is)
    (case k9 => k_is)
    (case a10 => k_is)
    (case l10 => k_is)
    (case c10 => k_is)
    (case k10 => k_is)
    (case a11 => k_is)
    (case l11 => k_is)
    (case c11 => k_is)
    (case k11 => k_is)
    (case a12 => k_is)
    (case l12 => k_is)
    (case c12 => k_is)
    (case k12 => k_is)
    (case a13 => k_is)
    (case l13 => k_is)
    (case c13 => k_is)
    (case k13 => k_is)
    (case a14 => k_is)
    (case l14 => k_is)
    (case c14 => k_is)
    (case k14 => k_is)
    (case a15 => k_is)
    (case l15 => k_is)
    (case c15 => k_is)
    (case k15 => k_is)
    (case a16 => k_is)
    (case l16 => k_is)
    (case c16 => k_is)
    (case k16 => k_is)
    (case a17 => k_is)
    (case l17 => k_is)
    (case c17 => k_is)
    (case k17 => k_is)
    (case a18 => k_is)
    (case l18 => k_is)
    (case c18 => k_is)
    (case k18 => k_is)
    (case a19 => k_is)
    (case l19 => k_is)
    (case c19 => k_is)
    (case k19 => k_is)
    (case a20 => k_is)
    (case l20 => k_is)
    (case c20 => k_is)
    (case k20 => k_is)
    (case a21 => k_is)
    (case l21 => k_is)
    (case c21 => k_is)
    (case k21 => k_is)
    (case a22 => k_is)
    (case l22 => k_is)
    (case c22 => k_is)
    (case k22 => k_is)
    (case a23 => k_is)
    (case l23 => k_is)
    (case c23 => k_is)
    (case k23 => k_is)
    (case a24 => k_is)
    (case l24 => k_is)
    (case c24 => k_is)
    (case k24 => k_is)
    (case a25 => k_is)
    (case l25 => k_is)
    (case c25 => k_is)
    (case k25 => k_is)
    (case a26 => k_is)
    (case l26 => k_is)
    (case c26 => k_is)
    (case k26 => k_is)
    (case z_len => k_is)
    (case z_all => k_is)
    (case z_min => k_is)
    (case z_max => k_is)
    (case z_sum => k_is)
    (case z_isinstance => k_is)
    (case z_sorted => k_is)
    (case z_tuple => k_is)
    (case z_list => k_is)
    (case z_range => k_is)
    (case z_int => k_is)
    (case z_bool => k_is)
    (case z_zip => k_is)
    (case z_repr => k_is)
    (case z_enumerate => k_is)
    (case z_reversed => k_is)
    (case z_str => k_is)
    (case z_set => k_is)
    (case z_abs => k_is)
    (case ac_START => k_is)
    (case lS => first | k_is | kernel_rfl)
    (case lT => first | k_is | kernel_rfl)
