import PyProof.Rows.All
import Wide.All
import OpenK.AllK
import Wide.FinOn
import Lean
import PyProof.EqAt
import PyProof.EqKinds
import PyProof.TupleCall
import PyProof.Rows.SetFrom
import PyProof.ExcAttrAll.ValueError
import KE.KDictList
import KE.KRevIter
import KE.KPairComp
import PyProof.EqAt
import KE.KSortTup
import PyProof.DictValues
import KE.KIsAll
import KE.KIntText
import PyProof.StrCalls2
import PyProof.CallStr
import PyProof.StrLawsTight
import PyProof.StrLawsChain
import KE.KItemsList
import PySem.Challenge.RW_homeround_k63_trees_or_four_that_break
set_option Elab.async false
set_option linter.all false
set_option maxRecDepth 100000
set_option maxHeartbeats 4000000
namespace L2
open PySem PySem.Spec PyProof.Rows
noncomputable abbrev Key:=Sum Int Str
noncomputable def wF:Key→Value→Bool
 | .inl k,v=>Value.isInt k v
 | .inr x,v=>Value.isStrOf x v
noncomputable def aGf (w:World):Key→Int
 | .inl k=>hashInt k
 | .inr x=>hashStr w x
theorem cI:∀ {k:Key} {v:Value},wF k v=true→(∃ i t,k=Sum.inl i∧v=Value.int i t)∨(∃ x t,k=Sum.inr x∧v=Value.str x t)
 | .inl i,v,h=>by
  obtain ⟨t,e⟩:=Value.isInt_shape (k:=i) (v:=v) h
  exact .inl ⟨i,t,rfl,e⟩
 | .inr x,v,h=>by
  obtain ⟨t,e⟩:=Value.isStrOf_shape (x:=x) (v:=v) h
  exact .inr ⟨x,t,rfl,e⟩
theorem xO (i:Int)(t:Tok):wF (.inl i) (.int i t)=true:=by simp [wF,Value.isInt]
theorem xZ (x:Str)(t:Tok):wF (.inr x) (.str x t)=true:=by simp [wF,Value.isStrOf]
theorem aCN (a b:Int):decide ((Sum.inl a:Key)=Sum.inl b)=(a == b):=by
 by_cases e:a=b
 ·subst e;simp
 ·have h:¬ (Sum.inl a:Key)=Sum.inl b:=fun q=>e (Sum.inl.inj q)
  rw [decide_eq_false h]
  exact (beq_eq_false_iff_ne.mpr e).symm
theorem aDs (a b:Str):decide ((Sum.inr a:Key)=Sum.inr b)=decide (a=b):=by
 by_cases e:a=b
 ·subst e;simp
 ·have h:¬ (Sum.inr a:Key)=Sum.inr b:=fun q=>e (Sum.inr.inj q)
  rw [decide_eq_false h,decide_eq_false e]
theorem aCY (a:Int)(b:Str):decide ((Sum.inl a:Key)=Sum.inr b)=false:=decide_eq_false (fun q=>nomatch q)
theorem aDJ (a:Str)(b:Int):decide ((Sum.inr a:Key)=Sum.inl b)=false:=decide_eq_false (fun q=>nomatch q)
noncomputable def cO (prog:Program) (w:World):PySem.KeyKind prog w Key where
 is:=wF
 hash:=aGf w
 inj:=fun v a b ha hb=>by
  rcases cI ha with ⟨i,t,rfl,rfl⟩ | ⟨x,t,rfl,rfl⟩
  ·rcases cI hb with ⟨j,u,rfl,e⟩ | ⟨y,u,rfl,e⟩
   ·injection e with e1 _;rw [e1]
   ·exact nomatch e
  ·rcases cI hb with ⟨j,u,rfl,e⟩ | ⟨y,u,rfl,e⟩
   ·exact nomatch e
   ·injection e with e1 _;rw [e1]
 byValue:=fun k v h=>by
  rcases cI h with ⟨i,t,rfl,rfl⟩ | ⟨x,t,rfl,rfl⟩ <;> rfl
 pyHash:=fun hv h=>by
  rcases cI hv with ⟨i,t,rfl,rfl⟩ | ⟨x,t,rfl,rfl⟩
  ·exact wpAny_pyHash_int h
  ·exact wpAny_pyHash_str h
 eqBool:=fun hu hv h=>by
  rcases cI hu with ⟨i,t,rfl,rfl⟩ | ⟨x,t,rfl,rfl⟩
  ·rcases cI hv with ⟨j,u,rfl,rfl⟩ | ⟨y,u,rfl,rfl⟩
   ·rw [aCN] at h;exact wpAny_eqBool_int h
   ·rw [aCY] at h;exact SeqAt.EqAt.int_str i t y u _ _ _ _ h
  ·rcases cI hv with ⟨j,u,rfl,rfl⟩ | ⟨y,u,rfl,rfl⟩
   ·rw [aDJ] at h;exact SeqAt.EqAt.str_int x t j u _ _ _ _ h
   ·rw [aDs] at h;exact wpAny_eqBool_str h
 «strs»:=fun k x t v h=>by
  rcases cI h with ⟨i,u,rfl,e⟩ | ⟨y,u,rfl,e⟩
  ·exact nomatch e
  ·injection e with e1 _
   subst e1
   cases v <;> rfl
theorem tT (prog:Program)(w:World)(i:Int)(t:Tok):(cO prog w).is (.inl i) (.int i t)=true:=xO i t
theorem sW (prog:Program)(w:World)(x:Str)(t:Tok):(cO prog w).is (.inr x) (.str x t)=true:=xZ x t
end L2
namespace L2
open PySem PySem.Spec PyProof.Rows
inductive V where
 | non | bl (b:Bool) | int (i:Int) | str (x:Str) | byt (b:Array UInt8) | flt (b:UInt64) | ref (a:Addr) | ty (n:String)
 deriving DecidableEq
noncomputable def RelV:V→Value→Prop
 | .non,u=>u=Value.none
 | .bl b,u=>u=Value.bool b
 | .int i,u=>∃ t,u=Value.int i t
 | .str x,u=>∃ t,u=Value.str x t
 | .byt b,u=>∃ t,u=Value.bytes b t
 | .flt b,u=>∃ t,u=Value.float b t
 | .ref a,u=>u=Value.ref a
 | .ty n,u=>u=Value.type n
noncomputable abbrev Vals:List V→List Value→Prop:=Paired RelV
theorem Vals.length {xs:List V}{us:List Value}(r:Vals xs us):xs.length=us.length:=Paired.length r
theorem Vals.get:∀ {xs:List V} {us:List Value} {i:Nat} {x:V},Vals xs us→xs[i]?=some x→∃ u,us[i]?=some u∧RelV x u
 | _,_,_,_, .nil,e=>by simp at e
 | _,_,0,_, .cons r _,e=>by simp at e;subst e;exact ⟨_,rfl,r⟩
 | _,_,i+1,x, .cons _ t,e=>by
  obtain ⟨u,h1,h2⟩:=Vals.get (i:=i) (x:=x) t (by simpa using e)
  exact ⟨u,by simpa using h1,h2⟩
theorem Vals.set {x:V}{u:Value}(r:RelV x u):∀ {xs:List V} {us:List Value} (i:Nat),Vals xs us→Vals (xs.set i x) (us.set i u)
 | _,_,_, .nil => .nil
 | _,_,0, .cons _ t => .cons r t
 | _,_,i+1, .cons q t => .cons q (Vals.set r i t)
theorem Vals.append:∀ {xs ys:List V} {us ws:List Value},Vals xs us→Vals ys ws→Vals (xs++ys) (us++ws)
 | _,_,_,_, .nil,s=>s
 | _,_,_,_, .cons r t,s => .cons r (Vals.append t s)
theorem Vals.take:∀ {xs:List V} {us:List Value} (n:Nat),Vals xs us→Vals (xs.take n) (us.take n)
 | _,_,0,_ => .nil
 | _,_,_+1, .nil => .nil
 | _,_,n+1, .cons r t => .cons r (Vals.take n t)
theorem Vals.drop:∀ {xs:List V} {us:List Value} (n:Nat),Vals xs us→Vals (xs.drop n) (us.drop n)
 | _,_,0,r=>r
 | _,_,_+1, .nil => .nil
 | _,_,n+1, .cons _ t=>Vals.drop n t
noncomputable def RelO:Option V→Option Value→Prop
 | some v,some u=>RelV v u
 | none,none=>True
 | _,_=>False
noncomputable def KV {κ:Type}:List (κ × V)→List (κ × Value)→Prop:=Paired fun (p:κ × V) (q:κ × Value)=>p.1=q.1∧RelV p.2 q.2
noncomputable def kV:Key→V
 | .inl i => .int i
 | .inr x => .str x
inductive HO where
 | lst (xs:List V)
 | tup (xs:List V)
 | dK (kvs:List (Key × V)) | dT (kvs:List (List Key × V))
 | set (S:Int→Bool) (n:Nat)
 | ins (C dx:Addr) (fs:List (Str × V))
 | own (x:Addr)
 | xd (fs:List (Str × V))
 | met (f x:Addr)
 | rng (lo hi:Int)
 | frz (o:Obj) (u:HO)
 | tbl (ps:Array Value)
 | ext (φ:Heap→Prop)
noncomputable abbrev Hp:=Addr→Option HO
noncomputable def upd (H:Hp) (a:Addr) (o:HO):Hp:=fun b=>if b=a then some o else H b
theorem aE {H:Hp}{a:Addr}{o:HO}:upd H a o a=some o:=by unfold upd;rw [if_pos rfl]
theorem aO {H:Hp}{a b:Addr}{o:HO}(h:b≠a):upd H a o b=H b:=by unfold upd;rw [if_neg h]
theorem ne_of {H:Hp}{a b:Addr}{o u:HO}(h:H a=some o)(h':H b=some u)(d:o≠u):a≠b:=by
 intro e;subst e;rw [h] at h';exact d (Option.some.inj h')
theorem aL {H:Hp}{a b:Addr}{o:HO}(h:H a=some o)(h':H b=none):a≠b:=by
 intro e;subst e;rw [h] at h';cases h'
noncomputable def TupN (h:Heap) (a:Addr) (items:Array Value):Prop:=∃ o,h.get? a=some o∧o.cls = .type "tuple"∧(∃ n,o.data = .seq items n)∧o.dict=none
theorem TupN.tup {h:Heap}{a:Addr}{items:Array Value}(p:TupN h a items):IsTup h a items:=let ⟨o,e,c,n,_⟩:=p;⟨o,e,c,n⟩
theorem TupN.new (h:Heap)(items:Array Value):TupN (h.push { cls := .type "tuple",data := .seq items }) h.objs.size items:=⟨_,Heap.get?_push_size _ rfl,rfl,⟨_,rfl⟩,rfl⟩
section
variable (P:Program)(w:World)
noncomputable def ObjOk (H:Hp) (h:Heap) (a:Addr):HO→Prop
 | .lst xs=>xs.length≤sizeLine∧∃ (its:List Value) (n:Nat),Vals xs its∧h.get? a=some { cls := .type "list",data := .seq its.toArray n }
 | .tup xs=>xs.length≤sizeLine∧∃ its:List Value,Vals xs its∧TupN h a its.toArray
 | .dK kvs=>kvs.length≤sizeLine∧(a == sysModules)=false∧∃ vs,KV kvs vs∧h.DictOf (cO P w) a vs
 | .dT kvs=>kvs.length≤sizeLine∧(a == sysModules)=false∧∃ xs:List (List Key × Addr × Value),
   Paired (fun (p:List Key × V) (q:List Key × Addr × Value)=>p.1=q.1∧H q.2.1=some (.tup (p.1.map kV))∧RelV p.2 q.2.2) kvs xs ∧
   ∃ o es ep,h.get? a=some o∧o.ExactDict∧o.data = .dict es ep∧es.toList=xs.map (entryOfKey (tupleKind (cO P w)))∧(xs.map (·.1)).Nodup
 | .set S n=>h.SetOf (intKind P w) a S n
 | .ins C dx fs=>H dx=some (.own a)∧fs.length≤1000∧dx≠a∧h.get? a=some (PySem.W.instObj C dx) ∧
   ∃ mA,h.Ns1 dx mA∧(∀ f,RelO (fs.lookup f) (mA f))∧PySem.Within mA (fs.map (·.1))
 | .own _=>∃ o,h.get? a=some o
 | .xd fs=>∃ mA,h.Ns1 a mA∧∀ f,RelO (fs.lookup f) (mA f)
 | .rng lo hi=>∃ t u v,h.get? a=some { cls := .type "range",data := .fields #[.int lo t, .int hi u, .int 1 v] }
 | .frz o u=>h.get? a=some o∧ObjOk H h a u
 | .tbl ps=>h.get? a=some { cls := .none,data := .fields ps }
 | .met f x=>h.get? a=some (PySem.W.methodObj (.ref f) (.ref x))
 | .ext φ=>φ h∧(∃ o,h.get? a=some o)∧∀ h1 h2:Heap,φ h1→(∀ o,h1.get? a=some o→h2.get? a=some o)→φ h2
noncomputable def HOk (H:Hp) (h:Heap):Prop:=∀ a o,H a=some o→ObjOk P w H h a o
end
section
variable {P:Program}{w:World}{H H':Hp}{h h':Heap}{a:Addr}{o:HO}
theorem ObjOk.lt (x:ObjOk P w H h a o):a<h.objs.size:=by
 cases o with
 | lst xs=>obtain ⟨_,_,_,_,e⟩:=x;exact Heap.lt_size e
 | tup xs=>obtain ⟨_,_,_,p⟩:=x;exact p.tup.lt
 | dK kvs=>obtain ⟨_,_,_,_,o,_,_,e,_⟩:=x;exact Heap.lt_size e
 | dT kvs=>obtain ⟨_,_,_,_,o,_,_,e,_⟩:=x;exact Heap.lt_size e
 | set S n=>obtain ⟨o,_,_,_,e,_⟩:=x;exact Heap.lt_size e
 | ins C dx fs=>obtain ⟨_,_,_,e,_⟩:=x;exact Heap.lt_size e
 | own y=>obtain ⟨_,e⟩:=x;exact Heap.lt_size e
 | xd fs=>obtain ⟨_,⟨_,_,_,e,_⟩,_⟩:=x;exact Heap.lt_size e
 | rng lo hi=>obtain ⟨_,_,_,e⟩:=x;exact Heap.lt_size e
 | frz ob u=>obtain ⟨e,_⟩:=x;exact Heap.lt_size e
 | tbl ps=>exact Heap.lt_size (show h.get? a=some _ from x)
 | met f y=>exact Heap.lt_size (show h.get? a=some _ from x)
 | ext φ=>obtain ⟨_,⟨_,e⟩,_⟩:=x;exact Heap.lt_size e
theorem Paired.mapP {α β:Type}{F G:α→β→Prop}:∀ {l₁:List α} {l₂:List β},Paired F l₁ l₂→(∀ a b,F a b→G a b)→Paired G l₁ l₂
 | _,_, .nil,_ => .nil
 | _,_, .cons r t,f => .cons (f _ _ r) (Paired.mapP t f)
theorem ObjOk.stay (x:ObjOk P w H h a o)(k:∀ b u,(b=a∨H b=some (.own a))→h.get? b=some u→h'.get? b=some u)
  (ho:∀ b,H b=some (.own a)→H' b=some (.own a)) (ht:∀ b xs,H b=some (.tup xs)→H' b=some (.tup xs)):ObjOk P w H' h' a o:=by
 induction o with
 | lst xs=>obtain ⟨z,its,n,r,e⟩:=x;exact ⟨z,its,n,r,k _ _ (.inl rfl) e⟩
 | tup xs=>obtain ⟨z,its,r,ob,e,c⟩:=x;exact ⟨z,its,r,ob,k _ _ (.inl rfl) e,c⟩
 | dK kvs=>obtain ⟨z,y,vs,r,ob,es,ep,e,c⟩:=x;exact ⟨z,y,vs,r,ob,es,ep,k _ _ (.inl rfl) e,c⟩
 | dT kvs=>
  obtain ⟨z,y,xs,r,ob,es,ep,e,c⟩:=x
  exact ⟨z,y,xs,Paired.mapP r fun p q z=>⟨z.1,ht _ _ z.2.1,z.2.2⟩,ob,es,ep,k _ _ (.inl rfl) e,c⟩
 | set S n=>obtain ⟨ob,es,ep,t,e,c⟩:=x;exact ⟨ob,es,ep,t,k _ _ (.inl rfl) e,c⟩
 | ins C dx fs=>
  obtain ⟨d,z,ne,e,mA,⟨od,es,ep,e2,c⟩,r⟩:=x
  exact ⟨ho _ d,z,ne,k _ _ (.inl rfl) e,mA,⟨od,es,ep,k _ _ (.inr d) e2,c⟩,r⟩
 | own y=>obtain ⟨ob,e⟩:=x;exact ⟨ob,k _ _ (.inl rfl) e⟩
 | xd fs=>obtain ⟨mA,⟨od,es,ep,e,c⟩,r⟩:=x;exact ⟨mA,⟨od,es,ep,k _ _ (.inl rfl) e,c⟩,r⟩
 | rng lo hi=>obtain ⟨t,u,v,e⟩:=x;exact ⟨t,u,v,k _ _ (.inl rfl) e⟩
 | frz ob u ih=>obtain ⟨e,q⟩:=x;exact ⟨k _ _ (.inl rfl) e,ih q⟩
 | tbl ps=>
  have e:h.get? a=some { cls := .none,data := .fields ps }:=x
  show h'.get? a=some { cls := .none,data := .fields ps }
  exact k a _ (.inl rfl) e
 | met f y=>
  have e:h.get? a=some (PySem.W.methodObj (.ref f) (.ref y)):=x
  show h'.get? a=some (PySem.W.methodObj (.ref f) (.ref y))
  exact k a _ (.inl rfl) e
 | ext φ=>obtain ⟨p,⟨o,e⟩,st⟩:=x;exact ⟨st _ _ p fun o q=>k _ _ (.inl rfl) q,⟨o,k _ _ (.inl rfl) e⟩,st⟩
theorem HOk.lt (x:HOk P w H h)(e:H a=some o):a<h.objs.size:=(x a o e).lt
theorem HOk.fresh (x:HOk P w H h)(e:h.objs.size≤a):H a=none:=by
 cases q:H a with
 | none=>rfl
 | some u=>exact absurd (Nat.lt_of_lt_of_le (x.lt q) e) (Nat.lt_irrefl _)
theorem HOk.kept (x:HOk P w H h)(k:∀ b u,h.get? b=some u→h'.get? b=some u):HOk P w H h':=fun a o e=>
 (x a o e).stay (fun b u _ q=>k b u q) (fun _ q=>q) fun _ _ q=>q
theorem HOk.laid (x:HOk P w H h)(k:∀ b u,h.get? b=some u→h'.get? b=some u)(hp:h.objs.size≤a)(new:ObjOk P w (upd H a o) h' a o):HOk P w (upd H a o) h':=fun b u e=>by
 have hn:=x.fresh hp
 by_cases hb:b=a
 ·subst hb;rw [aE] at e;cases e;exact new
 ·rw [aO hb] at e
  exact (x b u e).stay (fun c v _ q=>k c v q) (fun c q=>by rw [aO (aL q hn)];exact q) fun c xs q=>by rw [aO (aL q hn)];exact q
end
noncomputable def Rd (H:Hp) (a:Addr) (u:HO):Prop:=H a=some u∨∃ o,H a=some (.frz o u)
theorem Rd.ok {P:Program}{w:World}{H:Hp}{h:Heap}{a:Addr}{u:HO}(r:Rd H a u)(x:HOk P w H h):ObjOk P w H h a u:=by
 rcases r with r | ⟨o,r⟩
 ·exact x a u r
 ·obtain ⟨_,q⟩:=x a _ r
  exact q
noncomputable def Mut:Option HO→Prop
 | some (.lst _)=>True
 | some (.dK _)=>True
 | some (.dT _)=>True
 | some (.set _ _)=>True
 | some (.ins _ _ _)=>True
 | some (.ext _)=>True
 | _=>False
section
variable {P:Program}{w:World}{H:Hp}{h h':Heap}{x e:Addr}{o':HO}
theorem HOk.write (ok:HOk P w H h)(mu:Mut (H x))(he:e=x∨H e=some (.own x))(k:∀ b u,b≠e→h.get? b=some u→h'.get? b=some u)(heo:∃ u,h'.get? e=some u)
  (new:ObjOk P w (upd H x o') h' x o'):HOk P w (upd H x o') h':=fun b u q=>by
 have nown:∀ c y,H c=some (.own y)→c≠x:=fun c y r z=>by subst z;rw [r] at mu;exact mu
 have ntup:∀ c xs,H c=some (.tup xs)→c≠x:=fun c xs r z=>by subst z;rw [r] at mu;exact mu
 by_cases hb:b=x
 ·subst hb;rw [aE] at q;cases q;exact new
 ·rw [aO hb] at q
  by_cases hbe:b=e
  ·have q':H b=some (.own x):=by
    rcases he with z | z
    ·exact absurd (hbe.trans z) hb
    ·rw [hbe];exact z
   rw [q] at q';cases q'
   obtain ⟨v,hv⟩:=heo
   exact ⟨v,by rw [hbe];exact hv⟩
  ·refine (ok b u q).stay (fun c v hc r=>k c v ?_ r) (fun c r=>by rw [aO (nown c b r)];exact r) fun c xs r=>by rw [aO (ntup c xs r)];exact r
   rcases hc with rfl | hc
   ·exact hbe
   ·rintro rfl
    rcases he with z | z
    ·exact nown c b hc z
    ·rw [hc] at z;cases z;exact hb rfl
end
structure Un (fs ex:List Addr)(H H':Hp)(h h':Heap):Prop where
 keep:∀ b o,h.get? b=some o→H b=none→b∉fs→b∉ex→h'.get? b=some o
 slot:∀ b o,h.get? b=some o→H b=none→b∈fs→b∉ex→∃ sl,h'.get? b=some { o with slots:=sl }
 free:∀ b o,h.get? b=some o→H b=none→b∉ex→H' b=none
 there:∀ b o,h.get? b=some o→b∉ex→∃ o',h'.get? b=some o'
 tups:∀ b xs,H b=some (.tup xs)→H' b=some (.tup xs)
 frzs:∀ b o u,H b=some (.frz o u)→H' b=some (.frz o u)
 tbls:∀ b ps,H b=some (.tbl ps)→∃ more,H' b=some (.tbl (ps++more))
section
variable {fs fs' ex ex':List Addr}{H H1 H2:Hp}{h h1 h2 h':Heap}{a x e:Addr}{o:HO}
theorem Un.any (u:Un fs ex H H1 h h1){b:Addr}{ob:Obj}(q:h.get? b=some ob)(n:H b=none)(hx:b∉ex):∃ sl,h1.get? b=some { ob with slots:=sl }:=by
 by_cases hb:b∈fs
 ·exact u.slot b ob q n hb hx
 ·exact ⟨ob.slots,u.keep b ob q n hb hx⟩
theorem Un.trans (a:Un fs ex H H1 h h1)(b:Un fs ex H1 H2 h1 h2):Un fs ex H H2 h h2 where
 keep:=fun c ob q n hc hx=>b.keep c ob (a.keep c ob q n hc hx) (a.free c ob q n hx) hc hx
 slot:=fun c ob q n hc hx=>by
  obtain ⟨sl,e1⟩:=a.slot c ob q n hc hx
  obtain ⟨sl',e2⟩:=b.slot c _ e1 (a.free c ob q n hx) hc hx
  exact ⟨sl',e2⟩
 free:=fun c ob q n hx=>by
  obtain ⟨o',e1⟩:=a.there c ob q hx
  exact b.free c o' e1 (a.free c ob q n hx) hx
 there:=fun c ob q hx=>by
  obtain ⟨o',e1⟩:=a.there c ob q hx
  exact b.there c o' e1 hx
 tups:=fun c xs q=>b.tups c xs (a.tups c xs q)
 frzs:=fun c ob xs q=>b.frzs c ob xs (a.frzs c ob xs q)
 tbls:=fun c ps q=>by
  obtain ⟨m1,e1⟩:=a.tbls c ps q
  obtain ⟨m2,e2⟩:=b.tbls c _ e1
  exact ⟨m1++m2,by rw [e2,Array.append_assoc]⟩
theorem Un.kept (k:∀ b u,h.get? b=some u→h'.get? b=some u):Un fs ex H H h h':=
 ⟨fun b ob q _ _ _=>k b ob q,fun b ob q _ _ _=>⟨ob.slots,k b ob q⟩,fun _ _ _ n _=>n,fun b ob q _=>⟨ob,k b ob q⟩,fun _ _ q=>q,fun _ _ _ q=>q,fun _ ps q=>⟨#[],by rw [q];simp⟩⟩
theorem Un.refl:Un fs ex H H h h:=Un.kept fun _ _ q=>q
theorem Un.laid (k:∀ b u,h.get? b=some u→h'.get? b=some u)(hp:h.objs.size≤a)(hn:H a=none):Un fs ex H (upd H a o) h h' where
 keep:=fun b u q _ _ _=>k b u q
 slot:=fun b u q _ _ _=>⟨u.slots,k b u q⟩
 free:=fun b u q n _=>by rw [aO (Nat.ne_of_lt (Nat.lt_of_lt_of_le (Heap.lt_size q) hp))];exact n
 there:=fun b u q _=>⟨u,k b u q⟩
 tups:=fun b xs q=>by rw [aO (aL q hn)];exact q
 frzs:=fun b u xs q=>by rw [aO (aL q hn)];exact q
 tbls:=fun b ps q=>⟨#[],by rw [aO (aL q hn),q];simp⟩
theorem Un.write (mu:Mut (H x))(he:e=x∨H e=some (.own x))(k:∀ b u,b≠e→h.get? b=some u→h'.get? b=some u)(heo:∃ u,h'.get? e=some u):Un fs ex H (upd H x o) h h':=by
 have hx:∀ b,H b=none→b≠x:=fun b n z=>by subst z;rw [n] at mu;exact mu
 have hb:∀ b,H b=none→b≠e:=fun b n z=>by
  subst z
  rcases he with r | r
  ·exact hx b n r
  ·rw [n] at r;cases r
 have hm:∀ b u,H b=some u→¬ Mut (some u)→b≠x:=fun b u q nm z=>by subst z;rw [q] at mu;exact nm mu
 refine ⟨fun b u q n _ _=>k b u (hb b n) q,fun b u q n _ _=>⟨u.slots,k b u (hb b n) q⟩,fun b u q n _=>by rw [aO (hx b n)];exact n,fun b u q _=>?_,
  fun b xs q=>by rw [aO (hm b _ q fun z=>z)];exact q,fun b u xs q=>by rw [aO (hm b _ q fun z=>z)];exact q,fun b ps q=>⟨#[],by rw [aO (hm b _ q fun z=>z),q];simp⟩⟩
 by_cases hbe:b=e
 ·subst hbe;exact heo
 ·exact ⟨u,k b u hbe q⟩
end
noncomputable def trk (h:Heap) (H:Hp):List Addr:=(List.range h.objs.size).filter fun a=>(H a).isSome
noncomputable def aAZ (h:Heap) (H:Hp):Heap:=PySem.W.hideAll h (trk h H)
theorem yE (h:Heap)(H:Hp):(aAZ h H).objs.size=h.objs.size:=PySem.W.hideAll_size _ _
theorem aAz {h:Heap}{H:Hp}{b:Addr}{o:Obj}(e:h.get? b=some o)(n:H b=none):(aAZ h H).get? b=some o:=
 PySem.W.hideAll_get _ e fun hm=>by
  have q:(H b).isSome=true:=(List.mem_filter.mp hm).2
  rw [n] at q;simp at q
theorem aCh {h:Heap}{H:Hp}{b:Addr}{o:Obj}(e:(aAZ h H).get? b=some o):h.get? b=some o∧H b=none:=by
 have e':h.get? b=some o:=PySem.W.of_hideAll (trk h H) e
 refine ⟨e',?_⟩
 cases q:H b with
 | none=>rfl
 | some x=>
  have hm:b∈trk h H:=List.mem_filter.mpr ⟨List.mem_range.mpr (Heap.lt_size e'),by simp [q]⟩
  have z:(aAZ h H).get? b=none:=PySem.W.hideAll_none (trk h H) hm
  rw [z] at e;cases e
end L2
namespace L2
open PySem PySem.Spec PyProof.Rows
structure Mod (K:PySem.W.Frag)(mg:Str→Option Value)(base:Heap):Prop where
 kin:K.In base
 glob:base.Ns mainGlobals mg
 blt:∃ mb,base.Ns builtinsNs mb∧∀ x:Str,x≠"__name__"→mb x=bootBuiltins x
 nolimit:base.NoLimit
structure Cx where
 prog:Program
 w:World
 K:PySem.W.Frag
 mg:Str→Option Value
 base:Heap
 A:Around
 N:List Str
 s₀:Shared
 H₀:Hp
 env:Env
 outer:List Env
 stack:List Env
 ex:List Addr
 fn:Str→Bool
 calm:Bool
 pn:List (Addr × Obj)
 xe:Value→Shared→Prop
noncomputable def frs (l:List Env):List Addr:=l.filterMap (·.frame)
noncomputable abbrev Cx.fs (X:Cx):List Addr:=frs X.outer
noncomputable def Vis (sc:Scope) (x:Str):Prop:=sc.names.lookup x=some .local∨sc.names.lookup x=some .cell∨sc.names.lookup x=some .free
noncomputable def Loc (sc:Scope) (x:Str):Prop:=sc.names.lookup x=some .local∨sc.names.lookup x=some .cell
noncomputable def aFY (env:Env) (h:Heap) (m:Str→Option Value) (x:Str) (u:Value):Prop:=
 (env.kindOf x=some .local∧m x=some u)∨((env.kindOf x=some .cell∨env.kindOf x=some .free)∧∃ c,env.cells.lookup x=some c∧h.IsCell c (some u))
structure Cx.Ok (X:Cx):Prop where
 mod:Mod X.K X.mg X.base
 kind:X.env.scope.kind = .function
 glob:X.env.globals=mainGlobals
 blt:X.env.builtins=builtinsNs
 above:X.s₀.heap.objs.size≤X.env.locals
 inj:∀ x y c,X.env.cells.lookup x=some c→X.env.cells.lookup y=some c→x=y
 has:∀ x,(X.env.kindOf x=some .cell∨X.env.kindOf x=some .free)→∃ c,X.env.cells.lookup x=some c
 cab:∀ x c,X.fn x=true→X.env.cells.lookup x=some c→X.s₀.heap.objs.size≤c
 hd:X.calm=true→X.A.handled=none
 frames:X.A.frames=some X.stack
 stk:X.stack=X.outer∨(X.stack=X.env :: X.outer∧X.env.frame=some X.env.locals)
 exf:∀ b∈X.ex,b≠X.env.locals∧∀ x c,X.env.cells.lookup x=some c→c≠b
 bs:∀ b o,X.base.get? b=some o→X.s₀.heap.get? b=some o∧X.H₀ b=none
 bsz:X.base.objs.size≤X.s₀.heap.objs.size
 noex:∀ b o,X.base.get? b=some o→b∉X.ex
 exfs:∀ b∈X.ex,b∉X.fs
 funs:X.s₀.heap.FunFrames X.base X.outer
 frf:∀ b∈X.fs,X.H₀ b=none
structure Inv (X:Cx)(pins:List (Addr × Obj))(σ:List (Option V))(H:Hp)(s:Shared):Prop where
 ok:X.Ok
 os:s.os=X.s₀.os
 bare:AllBare s.gens
 base:Un X.fs X.ex X.H₀ H X.s₀.heap s.heap
 loc:∃ m,s.heap.Ns X.env.locals m∧∀ (i:Nat) (x:Str) (v:V),X.N[i]?=some x→σ[i]?=some (some v)→Vis X.env.scope x→∃ u,RelV v u∧aFY X.env s.heap m x u
 cell:∀ x c,X.env.cells.lookup x=some c→∃ v,s.heap.IsCell c v
 free:H X.env.locals=none
 freeC:∀ x c,X.env.cells.lookup x=some c→H c=none
 pin:∀ p∈X.pn++pins,s.heap.get? p.1=some p.2∧H p.1=none∧p.1≠X.env.locals∧p.1∉X.fs∧∀ v,p.2.data ≠ .cell v
 hok:HOk X.prog X.w H s.heap
 len:σ.length=X.N.length
section
variable {X:Cx}{pins:List (Addr × Obj)}{σ:List (Option V)}{H H':Hp}{s:Shared}{h':Heap}
theorem Cx.Ok.nofr (ok:X.Ok){b:Addr}{o:Obj}(e:X.base.get? b=some o):b∉X.fs:=fun hb=>by
 have:=(ok.funs.mem hb).1
 rw [e] at this;cases this
theorem Inv.bs (I:Inv X pins σ H s):∀ b o,X.base.get? b=some o→s.heap.get? b=some o∧H b=none:=fun b o e=>
 ⟨I.base.keep b o (I.ok.bs b o e).1 (I.ok.bs b o e).2 (I.ok.nofr e) (I.ok.noex b o e),I.base.free b o (I.ok.bs b o e).1 (I.ok.bs b o e).2 (I.ok.noex b o e)⟩
theorem Inv.bk (I:Inv X pins σ H s):∀ b o,X.base.get? b=some o→s.heap.get? b=some o:=fun b o e=>(I.bs b o e).1
theorem Inv.mod (I:Inv X pins σ H s):Mod X.K X.mg X.base:=I.ok.mod
theorem Inv.kIn (I:Inv X pins σ H s):X.K.In s.heap:=I.ok.mod.kin.keeps I.bk
theorem Inv.lt (I:Inv X pins σ H s):X.env.locals<s.heap.objs.size:=let ⟨_,hn,_⟩:=I.loc;hn.lt
theorem Inv.sz (I:Inv X pins σ H s):X.s₀.heap.objs.size≤s.heap.objs.size:=Nat.le_trans I.ok.above (Nat.le_of_lt I.lt)
theorem Inv.nofs (I:Inv X pins σ H s){a:Addr}(h:s.heap.objs.size≤a):a∉X.fs:=fun hb=>by
 obtain ⟨_,o,ho,_⟩:=I.ok.funs.mem hb
 exact absurd (Nat.lt_of_lt_of_le (Heap.lt_size ho) (Nat.le_trans I.sz h)) (Nat.lt_irrefl _)
theorem Inv.cne (I:Inv X pins σ H s):∀ x c,X.env.cells.lookup x=some c→c≠X.env.locals:=fun x c e z=>by
 obtain ⟨v,o,ho,hd⟩:=I.cell x c e
 obtain ⟨m,⟨o',es,ep,ho',hd',_⟩,_⟩:=I.loc
 rw [z,ho'] at ho;cases ho;rw [hd'] at hd;cases hd
theorem Inv.funs (I:Inv X pins σ H s):s.heap.FunFrames X.base X.outer:=by
 have all:∀ (l:List Env),(∀ b∈frs l,b∈X.fs)→X.s₀.heap.FunFrames X.base l→s.heap.FunFrames X.base l:=by
  intro l
  induction l with
  | nil=>intro _ _;trivial
  | cons env r ih=>
   intro hs hl
   obtain ⟨hk,⟨L,o,hf,hn,ho,hd⟩,hr⟩:=hl
   have hL:L∈X.fs:=hs L (by unfold frs;rw [List.filterMap_cons,hf];exact List.mem_cons_self)
   obtain ⟨sl,e⟩:=I.base.slot L o ho (I.ok.frf L hL) hL fun z=>I.ok.exfs L z hL
   exact ⟨hk,⟨L,_,hf,hn,e,hd⟩,ih (fun b hb=>hs b (by unfold frs;rw [List.filterMap_cons,hf];exact List.mem_cons_of_mem _ hb)) hr⟩
 exact all X.outer (fun _ hb=>hb) I.ok.funs
theorem Inv.stack (I:Inv X pins σ H s):s.heap.FunFrames X.base X.stack:=by
 rcases I.ok.stk with e | ⟨e,hf⟩
 ·rw [e];exact I.funs
 ·rw [e]
  obtain ⟨m,hn,_⟩:=I.loc
  refine .cons (by rw [I.ok.kind];decide) hf hn ?_ I.funs
  exact Heap.get?_none_of_le (Nat.le_trans I.ok.bsz I.ok.above)
theorem Inv.stkSub (I:Inv X pins σ H s):∀ b∈frs X.stack,b∈X.env.locals :: X.fs:=fun b hb=>by
 rcases I.ok.stk with e | ⟨e,hf⟩
 ·rw [e] at hb;exact List.mem_cons_of_mem _ hb
 ·rw [e] at hb
  unfold frs at hb
  rw [List.filterMap_cons,hf] at hb
  exact hb
theorem Inv.stkFree (I:Inv X pins σ H s):∀ b∈frs X.stack,H b=none:=fun b hb=>by
 rcases List.mem_cons.mp (I.stkSub b hb) with e | hb
 ·rw [e];exact I.free
 ·obtain ⟨_,o,ho,_⟩:=I.ok.funs.mem hb
  exact I.base.free b o ho (I.ok.frf b hb) fun z=>I.ok.exfs b z hb
theorem Inv.step {g':Array GenState}{t':Nat}{d':Drawn}{ch:List Addr}(I:Inv X pins σ H s)
  (hch:∀ b∈ch,(b∈X.ex∨X.s₀.heap.objs.size≤b)∧b≠X.env.locals∧(∀ x c,X.env.cells.lookup x=some c→c≠b)∧∀ p∈X.pn++pins,p.1≠b)
  (keep:∀ b o,b≠X.env.locals→b∉X.fs→b∉ch→s.heap.get? b=some o→H b=none→h'.get? b=some o)
  (slot:∀ b o,b≠X.env.locals→b∈X.fs→b∉ch→s.heap.get? b=some o→H b=none→∃ sl,h'.get? b=some { o with slots:=sl }) (free:∀ b o,b∉ch→s.heap.get? b=some o→H b=none→H' b=none)
  (there:∀ b o,b∉ch→s.heap.get? b=some o→∃ o',h'.get? b=some o')
  (tups:∀ b xs,H b=some (.tup xs)→H' b=some (.tup xs)) (frzs:∀ b o u,H b=some (.frz o u)→H' b=some (.frz o u)) (tbls:∀ b ps,H b=some (.tbl ps)→∃ more,H' b=some (.tbl (ps++more)))
  (ns:∀ m,s.heap.Ns X.env.locals m→h'.Ns X.env.locals m) (hok:HOk X.prog X.w H' h') (hg:AllBare g') :
  Inv X pins σ H' { s with heap:=h',gens:=g',drawn:=d',toks:=t' }:=by
 have neL:∀ b o,X.s₀.heap.get? b=some o→b≠X.env.locals:=fun b o e=>Nat.ne_of_lt (Nat.lt_of_lt_of_le (Heap.lt_size e) I.ok.above)
 have neC:∀ b o,X.s₀.heap.get? b=some o→b∉X.ex→b∉ch:=fun b o e hx hb=>by
  rcases (hch b hb).1 with z | z
  ·exact hx z
  ·exact absurd (Nat.lt_of_lt_of_le (Heap.lt_size e) z) (Nat.lt_irrefl _)
 have cellK:∀ x c,X.env.cells.lookup x=some c→∀ v,s.heap.IsCell c v→h'.IsCell c v:=fun x c e v ⟨o,ho,hd⟩=>by
  have nch:c∉ch:=fun z=>(hch c z).2.2.1 x c e rfl
  by_cases hc:c∈X.fs
  ·obtain ⟨sl,q⟩:=slot c o (I.cne x c e) hc nch ho (I.freeC x c e)
   exact ⟨_,q,hd⟩
  ·exact ⟨o,keep c o (I.cne x c e) hc nch ho (I.freeC x c e),hd⟩
 refine ⟨I.ok,I.os,hg,⟨fun b o e n hb hx=>?_,fun b o e n hb hx=>?_,fun b o e n hx=>?_,fun b o e hx=>?_,fun b xs e=>tups b xs (I.base.tups b xs e),fun b o xs e=>frzs b o xs (I.base.frzs b o xs e),fun b ps e=>?_⟩,?_,fun x c e=>?_,?_,fun x c e=>?_,fun p hp=>?_,hok,I.len⟩
 ·exact keep b o (neL b o e) hb (neC b o e hx) (I.base.keep b o e n hb hx) (I.base.free b o e n hx)
 ·obtain ⟨sl,e1⟩:=I.base.slot b o e n hb hx
  obtain ⟨sl',e2⟩:=slot b _ (neL b o e) hb (neC b o e hx) e1 (I.base.free b o e n hx)
  exact ⟨sl',e2⟩
 ·obtain ⟨o',e1⟩:=I.base.there b o e hx
  exact free b o' (neC b o e hx) e1 (I.base.free b o e n hx)
 ·obtain ⟨o',e1⟩:=I.base.there b o e hx
  exact there b o' (neC b o e hx) e1
 ·obtain ⟨m1,e1⟩:=I.base.tbls b ps e
  obtain ⟨m2,e2⟩:=tbls b _ e1
  exact ⟨m1++m2,by rw [e2,Array.append_assoc]⟩
 ·obtain ⟨m,hn,hl⟩:=I.loc
  refine ⟨m,ns m hn,fun i x v e1 e2 e3=>?_⟩
  obtain ⟨u,r,l⟩:=hl i x v e1 e2 e3
  refine ⟨u,r,?_⟩
  rcases l with l | ⟨k,c,e,z⟩
  ·exact .inl l
  ·exact .inr ⟨k,c,e,cellK x c e _ z⟩
 ·obtain ⟨v,z⟩:=I.cell x c e
  exact ⟨v,cellK x c e v z⟩
 ·obtain ⟨m,⟨o,_,_,ho,_⟩,_⟩:=I.loc
  exact free _ o (fun z=>(hch _ z).2.1 rfl) ho I.free
 ·obtain ⟨v,o,ho,hd⟩:=I.cell x c e
  exact free c o (fun z=>(hch c z).2.2.1 x c e rfl) ho (I.freeC x c e)
 ·obtain ⟨e,n,ne,nf,d⟩:=I.pin p hp
  have nch:p.1∉ch:=fun z=>(hch p.1 z).2.2.2 p hp rfl
  exact ⟨keep p.1 p.2 ne nf nch e n,free p.1 p.2 nch e n,ne,nf,d⟩
theorem Inv.un {t':Nat}(I:Inv X pins σ H s)(u:Un X.fs [] H H' s.heap h')(hok:HOk X.prog X.w H' h'):Inv X pins σ H' { s with heap:=h',toks:=t' }:=by
 obtain ⟨m,⟨o,es,ep,ho,r⟩,_⟩:=id I.loc
 obtain ⟨sl,hL⟩:=u.any ho I.free (by simp)
 exact I.step (g':=s.gens) (d':=s.drawn) (ch:=[]) (fun _ z=>nomatch z) (fun b o _ hb _ e n=>u.keep b o e n hb (by simp)) (fun b o _ hb _ e n=>u.slot b o e n hb (by simp)) (fun b o _ e n=>u.free b o e n (by simp)) (fun b o _ e=>u.there b o e (by simp)) u.tups u.frzs u.tbls (fun m' hm=>by
  obtain ⟨o',es',ep',ho',r'⟩:=hm
  rw [ho] at ho';cases ho'
  exact ⟨_,es',ep',hL,r'⟩) hok I.bare
theorem Inv.call {g':Array GenState}{t':Nat}{d':Drawn}{ch:List Addr}(I:Inv X pins σ H s)(u:Un (frs X.stack) ch H H' s.heap h')(hok:HOk X.prog X.w H' h')(hg:AllBare g')
  (hch:∀ b∈ch,(b∈X.ex∨X.s₀.heap.objs.size≤b)∧b≠X.env.locals∧(∀ x c,X.env.cells.lookup x=some c→c≠b)∧∀ p∈X.pn++pins,p.1≠b) :
  Inv X pins σ H' { s with heap:=h',gens:=g',drawn:=d',toks:=t' }:=by
 obtain ⟨m,⟨o,es,ep,ho,r⟩,_⟩:=id I.loc
 obtain ⟨sl,hL⟩:=u.any ho I.free fun z=>(hch _ z).2.1 rfl
 exact I.step (ch:=ch) hch (fun b o hL hb hc e n=>u.keep b o e n (fun z=>(List.mem_cons.mp (I.stkSub b z)).elim hL hb) hc) (fun b o _ _ hc e n=>u.any e n hc) (fun b o hc e n=>u.free b o e n hc) (fun b o hc e=>u.there b o e hc) u.tups u.frzs u.tbls (fun m' hm=>by
  obtain ⟨o',es',ep',ho',r'⟩:=hm
  rw [ho] at ho';cases ho'
  exact ⟨_,es',ep',hL,r'⟩) hok hg
theorem Inv.turned {t':Nat}{it:Addr}(I:Inv X pins σ H s)(k:∀ b o,b≠it→s.heap.get? b=some o→h'.get? b=some o)(hn:H it=none)(hL:it≠X.env.locals)
  (h1:it∈X.ex∨X.s₀.heap.objs.size≤it) (h2:∀ x c,X.env.cells.lookup x=some c→c≠it) (h3:∀ p∈X.pn++pins,p.1≠it):Inv X pins σ H { s with heap:=h',toks:=t' }:=by
 have nit:∀ b u,H b=some u→b≠it:=fun b u e z=>by rw [z,hn] at e;cases e
 refine I.step (g':=s.gens) (d':=s.drawn) (ch:=[it]) (fun b hb=>?_) (fun b o _ _ hc e _=>k b o (fun z=>hc (by simp [z])) e) (fun b o _ _ hc e _=>⟨o.slots,k b o (fun z=>hc (by simp [z])) e⟩) (fun _ _ _ _ n=>n)
  (fun b o hc e=>⟨o,k b o (fun z=>hc (by simp [z])) e⟩) (fun _ _ e=>e) (fun _ _ _ e=>e) (fun b ps e=>⟨#[],by rw [e];simp⟩) (fun m hm=>?_) (fun b u e=>?_) I.bare
 ·have e:b=it:=by simpa using hb
  subst e
  exact ⟨h1,hL,h2,h3⟩
 ·obtain ⟨o,es,ep,ho,r⟩:=hm
  exact ⟨o,es,ep,k _ o (Ne.symm hL) ho,r⟩
 ·refine (I.hok b u e).stay (fun c v hc q=>k c v ?_ q) (fun _ q=>q) fun _ _ q=>q
  rcases hc with z | z
  ·rw [z];exact nit b u e
  ·exact nit c _ z
theorem Inv.tok (I:Inv X pins σ H s)(t:Nat):Inv X pins σ H { s with toks:=t }:=I.un (h':=s.heap) (t':=t) Un.refl I.hok
theorem Inv.kept {t':Nat}(I:Inv X pins σ H s)(k:∀ b u,s.heap.get? b=some u→h'.get? b=some u):Inv X pins σ H { s with heap:=h',toks:=t' }:=I.un (Un.kept k) (I.hok.kept k)
theorem Inv.laid {a:Addr}{o:HO}{t':Nat}(I:Inv X pins σ H s)(k:∀ b u,s.heap.get? b=some u→h'.get? b=some u)(hp:s.heap.objs.size≤a)(new:ObjOk X.prog X.w (upd H a o) h' a o) :
  Inv X pins σ (upd H a o) { s with heap:=h',toks:=t' }:=I.un (Un.laid k hp (I.hok.fresh hp)) (I.hok.laid k hp new)
theorem Inv.write {x e:Addr}{o:HO}{t':Nat}(I:Inv X pins σ H s)(mu:Mut (H x))(he:e=x∨H e=some (.own x))(k:∀ b u,b≠e→s.heap.get? b=some u→h'.get? b=some u)(heo:∃ u,h'.get? e=some u)
  (new:ObjOk X.prog X.w (upd H x o) h' x o):Inv X pins σ (upd H x o) { s with heap:=h',toks:=t' }:=I.un (Un.write mu he k heo) (I.hok.write mu he k heo new)
theorem Inv.pins_of {pins':List (Addr × Obj)}(I:Inv X pins σ H s)(h:∀ p∈pins',s.heap.get? p.1=some p.2∧H p.1=none∧p.1≠X.env.locals∧p.1∉X.fs∧∀ v,p.2.data ≠ .cell v):Inv X pins' σ H s:=
 ⟨I.ok,I.os,I.bare,I.base,I.loc,I.cell,I.free,I.freeC,fun p hp=>(List.mem_append.mp hp).elim (fun z=>I.pin p (List.mem_append_left _ z)) (h p),I.hok,I.len⟩
theorem uW {N:List Str}(hN:N.Nodup){i j:Nat}{x:Str}(a:N[i]?=some x)(b:N[j]?=some x):i=j:=by
 obtain ⟨h1,e1⟩:=List.getElem?_eq_some_iff.mp a
 obtain ⟨h2,e2⟩:=List.getElem?_eq_some_iff.mp b
 exact (List.getElem_inj hN).mp (e1.trans e2.symm)
theorem rK {M:Model}{A:Around}{E:Value→Shared→Prop}{i:Nat}{x:Str}{v:V}{u:Value}{Q:Unit→Shared→Prop}(I:Inv X pins σ H s)(hN:X.N.Nodup)(hi:X.N[i]?=some x)(hx:Loc X.env.scope x)(r:RelV v u)
  (h:∀ s',Inv X pins (σ.set i (some v)) H s'→(∃ a,Heap.SameBut a s.heap s'.heap∧(a=X.env.locals∨X.env.cells.lookup x=some a))→Q () s') (hf:X.fn x=true∨X.env.scope.names.lookup x=some .local:=by first | exact .inl rfl | exact .inr rfl | assumption):wpAny M A (storeName X.env x u) Q E s:=by
 obtain ⟨m,hn,hl⟩:=id I.loc
 have hcls:(X.env.scope.kind == .class || (X.env.scope.kind == .module && X.env.locals != X.env.globals))=false:=by rw [I.ok.kind];rfl
 have hiσ:i<σ.length:=by rw [I.len];exact (List.getElem?_eq_some_iff.mp hi).1
 have cne:=I.cne
 have tracked:∀ {a:Addr} {h':Heap},(∃ o,s.heap.get? a=some o∧H a=none)→Heap.SameBut a s.heap h'→HOk X.prog X.w H h':=fun {a h'} ha hs b ob e=>by
  obtain ⟨_,_,hfree⟩:=ha
  refine (I.hok b ob e).stay (fun c w' hc q=>(hs.2 c ?_).trans q) (fun _ q=>q) fun _ _ q=>q
  rintro rfl
  rcases hc with rfl | hc
  ·rw [hfree] at e;cases e
  ·rw [hfree] at hc;cases hc
 rcases hx with hk | hk
 ·refine wpAny_storeName_local hk hn (fun h' hn' hs=>?_) hcls
  obtain ⟨oL,_,_,hoL,_⟩:=id hn
  refine h _ ⟨I.ok,I.os,I.bare,⟨fun b o e n hb hx=>?_,fun b o e n hb hx=>?_,I.base.free,fun b o e hx=>?_,I.base.tups,I.base.frzs,I.base.tbls⟩,⟨_,hn',fun j y v' e1 e2 e3=>?_⟩,fun y c e=>?_,I.free,I.freeC,fun p hp=>?_,tracked ⟨oL,hoL,I.free⟩ hs,by simpa using I.len⟩ ⟨_,hs, .inl rfl⟩
  ·exact (hs.2 b (Nat.ne_of_lt (Nat.lt_of_lt_of_le (Heap.lt_size e) I.ok.above))).trans (I.base.keep b o e n hb hx)
  ·obtain ⟨sl,e1⟩:=I.base.slot b o e n hb hx
   exact ⟨sl,(hs.2 b (Nat.ne_of_lt (Nat.lt_of_lt_of_le (Heap.lt_size e) I.ok.above))).trans e1⟩
  ·obtain ⟨o',e1⟩:=I.base.there b o e hx
   exact ⟨o',(hs.2 b (Nat.ne_of_lt (Nat.lt_of_lt_of_le (Heap.lt_size e) I.ok.above))).trans e1⟩
  ·by_cases hj:j=i
   ·subst hj
    rw [hi] at e1;cases e1
    rw [List.getElem?_set_self hiσ] at e2
    cases e2
    exact ⟨u,r, .inl ⟨hk,by simp⟩⟩
   ·rw [List.getElem?_set_ne (Ne.symm hj)] at e2
    obtain ⟨u',r',q⟩:=hl j y v' e1 e2 e3
    refine ⟨u',r',?_⟩
    rcases q with ⟨k,e⟩ | ⟨k,c,e,z⟩
    ·refine .inl ⟨k,?_⟩
     have:y≠x:=fun e=>hj (uW hN e1 (e ▸ hi))
     simp [this,e]
    ·exact .inr ⟨k,c,e,z.sameBut hs (cne y c e)⟩
  ·obtain ⟨w',z⟩:=I.cell y c e
   exact ⟨w',z.sameBut hs (cne y c e)⟩
  ·obtain ⟨e,n,ne,nf,d⟩:=I.pin p hp
   exact ⟨(hs.2 p.1 ne).trans e,n,ne,nf,d⟩
 ·have hfn:X.fn x=true:=by
   rcases hf with z | z
   ·exact z
   ·rw [z] at hk;cases hk
  obtain ⟨c,hc⟩:=I.ok.has x (.inl hk)
  obtain ⟨w',z⟩:=I.cell x c hc
  refine wpAny_storeName_cell I.ok.kind hk hc z (fun h' hc' hs=>?_)
  obtain ⟨oc,hoc,hocd⟩:=id z
  refine h { s with heap:=h' } ⟨I.ok,I.os,I.bare,⟨fun b o e n hb hx=>?_,fun b o e n hb hx=>?_,I.base.free,fun b o e hx=>?_,I.base.tups,I.base.frzs,I.base.tbls⟩,⟨m,hn.sameBut hs (Ne.symm (cne x c hc)),fun j y v' e1 e2 e3=>?_⟩,fun y c' e=>?_,I.free,I.freeC,fun p hp=>?_,tracked ⟨oc,hoc,I.freeC x c hc⟩ hs,by simpa using I.len⟩ ⟨c,hs, .inr hc⟩
  ·exact (hs.2 b (Nat.ne_of_lt (Nat.lt_of_lt_of_le (Heap.lt_size e) (I.ok.cab x c hfn hc)))).trans (I.base.keep b o e n hb hx)
  ·obtain ⟨sl,e1⟩:=I.base.slot b o e n hb hx
   exact ⟨sl,(hs.2 b (Nat.ne_of_lt (Nat.lt_of_lt_of_le (Heap.lt_size e) (I.ok.cab x c hfn hc)))).trans e1⟩
  ·obtain ⟨o',e1⟩:=I.base.there b o e hx
   exact ⟨o',(hs.2 b (Nat.ne_of_lt (Nat.lt_of_lt_of_le (Heap.lt_size e) (I.ok.cab x c hfn hc)))).trans e1⟩
  ·by_cases hj:j=i
   ·subst hj
    rw [hi] at e1;cases e1
    rw [List.getElem?_set_self hiσ] at e2
    cases e2
    exact ⟨u,r, .inr ⟨.inl hk,c,hc,hc'⟩⟩
   ·rw [List.getElem?_set_ne (Ne.symm hj)] at e2
    obtain ⟨u',r',q⟩:=hl j y v' e1 e2 e3
    refine ⟨u',r',?_⟩
    rcases q with q | ⟨k,c',e,z'⟩
    ·exact .inl q
    ·refine .inr ⟨k,c',e,z'.sameBut hs ?_⟩
     rintro rfl
     exact hj (uW hN e1 (I.ok.inj _ _ _ e hc ▸ hi))
  ·by_cases hcc:c'=c
   ·subst hcc;exact ⟨_,hc'⟩
   ·obtain ⟨w2,z2⟩:=I.cell y c' e
    exact ⟨w2,z2.sameBut hs hcc⟩
  ·obtain ⟨e,n,ne,nf,d⟩:=I.pin p hp
   refine ⟨(hs.2 p.1 ?_).trans e,n,ne,nf,d⟩
   intro q
   rw [q,hoc] at e
   have q':oc=p.2:=Option.some.inj e
   exact d w' (by rw [← q'];exact hocd)
theorem mT {M:Model}{A:Around}{E:Value→Shared→Prop}{i:Nat}{x:Str}{v:V}{u:Value}{Q:Unit→Shared→Prop}(I:Inv X pins σ H s)(hN:X.N.Nodup)(hi:X.N[i]?=some x)(hx:Loc X.env.scope x)(r:RelV v u)
  (h:∀ s',Inv X pins (σ.set i (some v)) H s'→Q () s') (hf:X.fn x=true∨X.env.scope.names.lookup x=some .local:=by first | exact .inl rfl | exact .inr rfl | assumption):wpAny M A (storeName X.env x u) Q E s:=
 rK I hN hi hx r (fun s' I' _=>h s' I') hf
theorem Inv.call' {s':Shared}{ch:List Addr}(I:Inv X pins σ H s)(ho:s'.os=s.os)(u:Un (frs X.stack) ch H H' s.heap s'.heap)(hok:HOk X.prog X.w H' s'.heap)(hg:AllBare s'.gens)
  (hch:∀ b∈ch,(b∈X.ex∨X.s₀.heap.objs.size≤b)∧b≠X.env.locals∧(∀ x c,X.env.cells.lookup x=some c→c≠b)∧∀ p∈X.pn++pins,p.1≠b):Inv X pins σ H' s':=by
 obtain ⟨h',g',d',t',o'⟩:=s'
 have e:o'=s.os:=ho
 subst e
 exact I.call (g':=g') (t':=t') (d':=d') u hok hg hch
end
noncomputable abbrev XK:=Value→Option Addr→Hp→Prop
noncomputable abbrev St:=List (Option V)
noncomputable abbrev VK:=V→Hp→Prop
noncomputable abbrev TE:=St→Hp→VK→Prop
noncomputable abbrev TT:=St→Hp→(Bool→Hp→Prop)→Prop
noncomputable abbrev TA:=St→Hp→(List V→Hp→Prop)→Prop
structure lG where
 nx:St→Hp→Prop
 rt:VK
 bk:St→Hp→Prop:=fun _ _=>False
 ct:St→Hp→Prop:=fun _ _=>False
noncomputable abbrev TS:=lG→St→Hp→Prop
noncomputable def EP (X:Cx) (pins:List (Addr × Obj)) (σ:St) (Q:VK) (u:Value) (s':Shared):Prop:=∃ v H',Inv X pins σ H' s'∧RelV v u∧Q v H'
noncomputable def TP (X:Cx) (pins:List (Addr × Obj)) (σ:St) (Q:Bool→Hp→Prop) (b:Bool) (s':Shared):Prop:=∃ H',Inv X pins σ H' s'∧Q b H'
noncomputable def AP (X:Cx) (pins:List (Addr × Obj)) (σ:St) (Q:List V→Hp→Prop) (us:List Value) (s':Shared):Prop:=∃ vs H',Inv X pins σ H' s'∧Vals vs us∧Q vs H'
noncomputable def SP (X:Cx) (pins:List (Addr × Obj)) (D:lG) (f:Flow) (s':Shared):Prop:=
 match f with
 | .next=>∃ σ' H',Inv X pins σ' H' s'∧D.nx σ' H'
 | .brk=>∃ σ' H',Inv X pins σ' H' s'∧D.bk σ' H'
 | .cont=>∃ σ' H',Inv X pins σ' H' s'∧D.ct σ' H'
 | .ret u=>∃ v σ' H',Inv X pins σ' H' s'∧RelV v u∧D.rt v H'
noncomputable def PE (X:Cx) (e:Expr) (t:TE):Prop:=
 ∀ (pins:List (Addr × Obj)) (s:Shared) (σ:St) (H:Hp) (Q:VK),Inv X pins σ H s→t σ H Q→wpAny (model X.prog X.w) X.A (eval e X.env) (EP X pins σ Q) X.xe s
noncomputable def PT (X:Cx) (e:Expr) (t:TT):Prop:=
 ∀ (pins:List (Addr × Obj)) (s:Shared) (σ:St) (H:Hp) (Q:Bool→Hp→Prop),Inv X pins σ H s→t σ H Q→wpAny (model X.prog X.w) X.A (isTrue e X.env (eval e X.env)) (TP X pins σ Q) X.xe s
noncomputable def PW (X:Cx) (e:Expr) (t:TT):Prop:=
 ∀ (whole:Sem Value) (pins:List (Addr × Obj)) (s:Shared) (σ:St) (H:Hp) (Q:Bool→Hp→Prop),Inv X pins σ H s→t σ H Q→wpAny (model X.prog X.w) X.A (isTrue e X.env whole) (TP X pins σ Q) X.xe s
theorem PW.pt {X:Cx}{e:Expr}{t:TT}(h:PW X e t):PT X e t:=h _
noncomputable def PA (X:Cx) (es:List Expr) (t:TA):Prop:=
 ∀ (pos:Pos) (pins:List (Addr × Obj)) (s:Shared) (σ:St) (H:Hp) (Q:List V→Hp→Prop),Inv X pins σ H s→t σ H Q→wpAny (model X.prog X.w) X.A (spliced (backTo pos (starEach es X.env))) (AP X pins σ Q) X.xe s
noncomputable def PS (X:Cx) (st:Stmt) (t:TS):Prop:=
 ∀ (pins:List (Addr × Obj)) (s:Shared) (σ:St) (H:Hp) (D:lG),Inv X pins σ H s→t D σ H→wpAny (model X.prog X.w) X.A (exec st X.env) (SP X pins D) X.xe s
noncomputable def PSs (X:Cx) (st:List Stmt) (t:TS):Prop:=
 ∀ (pins:List (Addr × Obj)) (s:Shared) (σ:St) (H:Hp) (D:lG),Inv X pins σ H s→t D σ H→wpAny (model X.prog X.w) X.A (execs st X.env) (SP X pins D) X.xe s
theorem thn {α:Type}{t:Sem α}{Q Q':α→Shared→Prop}{M:Model}{A:Around}{E:Value→Shared→Prop}{s:Shared}(h:wpAny M A t Q E s)(hQ:∀ a s,Q a s→Q' a s):wpAny M A t Q' E s:=wpAny_mono h hQ fun _ _ x=>x
end L2
namespace L2
open PySem PySem.Spec PyProof.Rows
section
variable {X:Cx}
inductive aDa (i:Nat) (σ:St) (H:Hp) (Q:VK):Prop
 | mk (v:V) (h:σ[i]?=some (some v)) (q:Q v H):aDa i σ H Q
noncomputable def aD (i:Nat):TE:=fun σ H Q=>aDa i σ H Q
noncomputable def tC (v:V):TE:=fun _ H Q=>Q v H
theorem aDf {i:Nat}{x:Str}{pos:Pos}(hN:X.N[i]?=some x)(hv:Vis X.env.scope x)(hd:(x == ("__debug__" : Str))=false:=by decide)(hcd:(x == ("__classdict__" : Str))=false:=by decide):PE X (.Name x pos) (aD i):=by
 intro pins s σ H Q I h
 obtain ⟨v,e,h⟩:=h
 obtain ⟨m,hn,hl⟩:=I.loc
 obtain ⟨u,r,l⟩:=hl i x v hN e hv
 have fin:EP X pins σ Q u s:=⟨v,H,I,r,h⟩
 rcases l with ⟨hk,hm⟩ | ⟨hk,c,hc,hcell⟩
 ·exact wpAny_Name (wpAny_loadName_local I.ok.kind hk hn hm fin) hd
 ·rcases hk with hk | hk
  ·exact wpAny_Name (wpAny_loadName_cell I.ok.kind hk hc hcell fin) hd
  ·exact wpAny_Name (wpAny_loadName_free I.ok.kind hk hc hcell fin hcd) hd
theorem aH {i j pos}:PE X (.Constant (.int i) j pos) (tC (.int i)):=fun _ _ _ H _ I h=>wpAny_Constant_int ⟨.int i,H,I.tok _,⟨_,rfl⟩,h⟩
theorem lA {b j pos}:PE X (.Constant (.bool b) j pos) (tC (.bl b)):=fun _ _ _ H _ I h=>Constant_bool ⟨.bl b,H,I,rfl,h⟩
theorem zO {j pos}:PE X (.Constant .none j pos) (tC .non):=fun _ _ _ H _ I h=>Constant_none ⟨.non,H,I,rfl,h⟩
theorem uI {x j pos}:PE X (.Constant (.str x) j pos) (tC (.str x)):=fun _ _ _ H _ I h=>Calls.Constant_str ⟨.str x,H,I.tok _,⟨_,rfl⟩,h⟩
noncomputable def Gl (X:Cx) (x:Str):Prop:=X.env.kindOf x=some .globalImplicit
theorem aCx {E:Value→Shared→Prop}{pins:List (Addr × Obj)}{s:Shared}{σ:St}{H:Hp}{x:Str}{u:Value}{pos:Pos}{Q:Value→Shared→Prop}(I:Inv X pins σ H s)(hg:Gl X x)(hm:X.mg x=some u)(h:Q u s)
  (hd:(x == ("__debug__" : Str))=false:=by decide):wpAny (model X.prog X.w) X.A (eval (.Name x pos) X.env) Q E s:=
 Calls.Name_function_global I.ok.kind hg (Calls.loadGlobal_global (by rw [I.ok.glob];exact I.mod.glob.keeps I.bk) hm h) hd
theorem sD {E:Value→Shared→Prop}{pins:List (Addr × Obj)}{s:Shared}{σ:St}{H:Hp}{x:Str}{u:Value}{pos:Pos}{Q:Value→Shared→Prop}(I:Inv X pins σ H s)(hg:Gl X x)(hm:X.mg x=none)(hv:bootBuiltins x=some u)(h:Q u s)
  (hn:x≠"__name__":=by decide) (hd:(x == ("__debug__" : Str))=false:=by decide):wpAny (model X.prog X.w) X.A (eval (.Name x pos) X.env) Q E s:=by
 obtain ⟨mb,h1,h2⟩:=I.mod.blt
 exact Calls.Name_function_global I.ok.kind hg (Calls.loadGlobal_builtin (by rw [I.ok.glob];exact I.mod.glob.keeps I.bk) hm (by rw [I.ok.blt];exact h1.keeps I.bk) ((h2 x hn).trans hv) h) hd
theorem jU {x:Str}{v:V}{u:Value}{pos:Pos}(hg:Gl X x)(hm:X.mg x=none)(hv:bootBuiltins x=some u)(r:RelV v u)(hn:x≠"__name__":=by decide)(hd:(x == ("__debug__" : Str))=false:=by decide):PE X (.Name x pos) (tC v):=
 fun _ _ _ H _ I h=>sD I hg hm hv ⟨v,H,I,r,h⟩ hn hd
variable {a b:Expr}{ta tb:TE}{pos:Pos}
noncomputable def PC (X:Cx) (op:CmpOp) (a b:Expr) (t:TE):Prop:=
 ∀ (pins:List (Addr × Obj)) (s:Shared) (σ:St) (H:Hp) (Q:VK),Inv X pins σ H s→t σ H Q →
  wpAny (model X.prog X.w) X.A (eval a X.env) (fun v s₁=>wpAny (model X.prog X.w) X.A (eval b X.env) (fun u s₂=>wpAny (model X.prog X.w) X.A (compareOp op v u) (EP X pins σ Q) X.xe s₂) X.xe s₁) X.xe s
noncomputable def tB (t:TE):TT:=fun σ H Q=>t σ H fun x H1=>∃ c,x = .bl c∧Q c H1
theorem aDO {op:CmpOp}{t:TE}(h:PC X op a b t)(h1:behindInMarks op b=false:=by first | exact nobehind _ (by decide) (by decide) | rfl):PT X (.Compare a [op] [b] pos) (tB t):=by
 intro pins s σ H Q I hw
 refine wpAny_isTrue_Compare1 (thn (h pins s σ H _ I hw) fun v s1 h1=>thn h1 fun u s2 h2=>thn h2 fun c s3 ⟨x,H1,I1,r1,q1⟩=>?_) h1
 obtain ⟨d,rfl,q⟩:=q1
 cases r1
 exact wpAny_truthy_bool ⟨H1,I1,q⟩
theorem eZ {e:Expr}{t:TE}(h:PE X e t)(he:∀ whole,isTrue e X.env whole=(do let v ← whole;standAt e.pos;holding [v] (truthy v)):=by intro _;rfl):PT X e (tB t):=by
 intro pins s σ H Q I hw
 refine isTrue_plain (thn (h pins s σ H _ I hw) fun v s1 ⟨x,H1,I1,r1,q1⟩=>?_) (he _)
 obtain ⟨d,rfl,q⟩:=q1
 cases r1
 exact wpAny_truthy_bool ⟨H1,I1,q⟩
variable {tA tB':TT}{rest:List Expr}
noncomputable def aEH (t u:TT):TT:=fun σ H Q=>t σ H fun c H1=>if c=true then u σ H1 Q else Q false H1
noncomputable def tOr (t u:TT):TT:=fun σ H Q=>t σ H fun c H1=>if c=true then Q true H1 else u σ H1 Q
noncomputable def qR (t:TT):TT:=fun σ H Q=>t σ H fun c H1=>Q (!c) H1
theorem tY (ha:PT X a tA):PW X (.BoolOp .And [a] pos) tA:=by
 intro wh pins s σ H Q I h
 refine isTrue_and (thn (ha pins s σ H Q I h) fun c s1 e=>?_)
 cases c with
 | true=>exact isTrue_and_nil e
 | false=>exact e
theorem lR (ha:PT X a tA):PW X (.BoolOp .Or [a] pos) tA:=by
 intro wh pins s σ H Q I h
 refine isTrue_or (thn (ha pins s σ H Q I h) fun c s1 e=>?_)
 cases c with
 | false=>exact isTrue_or_nil e
 | true=>exact e
theorem zM (ha:PT X a tA)(hb:PW X (.BoolOp .And (b :: rest) pos) tB'):PW X (.BoolOp .And (a :: b :: rest) pos) (aEH tA tB'):=by
 intro wh pins s σ H Q I h
 refine isTrue_and (thn (ha pins s σ H _ I h) fun c s1 ⟨H1,I1,q1⟩=>?_)
 cases c with
 | true=>exact hb wh pins s1 σ H1 Q I1 q1
 | false=>exact ⟨H1,I1,q1⟩
theorem lZ (ha:PT X a tA)(hb:PW X (.BoolOp .Or (b :: rest) pos) tB'):PW X (.BoolOp .Or (a :: b :: rest) pos) (tOr tA tB'):=by
 intro wh pins s σ H Q I h
 refine isTrue_or (thn (ha pins s σ H _ I h) fun c s1 ⟨H1,I1,q1⟩=>?_)
 cases c with
 | true=>exact ⟨H1,I1,q1⟩
 | false=>exact hb wh pins s1 σ H1 Q I1 q1
theorem eJ (ha:PT X a tA):PT X (.UnaryOp .Not a pos) (qR tA):=by
 intro pins s σ H Q I h
 exact isTrue_not (ha pins s σ H (fun c H1=>Q (!c) H1) I h)
noncomputable def tK (ta tb:TE):TE:=fun σ H Q=>ta σ H fun x H1=>∃ c,x = .bl c∧if c=true then tb σ H1 Q else Q (.bl false) H1
noncomputable def aCb (ta:TE):TE:=fun σ H Q=>ta σ H fun x H1=>∃ c,x = .bl c∧Q (.bl (!c)) H1
theorem sH {op}{t:TE}(h:PE X a t):PE X (.BoolOp op [a] pos) t:=fun pins s σ H Q I hw=>BoolOp_one (h pins s σ H Q I hw)
theorem oQ (ha:PE X a ta)(hb:PE X (.BoolOp .And (b :: rest) pos) tb):PE X (.BoolOp .And (a :: b :: rest) pos) (tK ta tb):=by
 intro pins s σ H Q I h
 refine BoolOp_and (thn (ha pins s σ H _ I h) fun v s1 ⟨x,H1,I1,r1,q1⟩=>?_)
 obtain ⟨c,rfl,q1⟩:=q1
 cases r1
 refine wpAny_truthy_bool ?_
 cases c with
 | true=>exact hb pins s1 σ H1 Q I1 q1
 | false=>exact ⟨.bl false,H1,I1,rfl,q1⟩
theorem aBk (ha:PE X a ta):PE X (.UnaryOp .Not a pos) (aCb ta):=by
 intro pins s σ H Q I h
 refine UnaryOp_ (thn (ha pins s σ H _ I h) fun v s1 ⟨x,H1,I1,r1,q1⟩=>?_)
 obtain ⟨c,rfl,q1⟩:=q1
 cases r1
 exact not_of (wpAny_truthy_bool ⟨.bl (!c),H1,I1,rfl,q1⟩)
noncomputable def tIf (t:TT) (ta tb:TE):TE:=fun σ H Q=>t σ H fun c H1=>if c=true then ta σ H1 Q else tb σ H1 Q
theorem mP {c:Expr}(hc:PT X c tA)(ha:PE X a ta)(hb:PE X b tb):PE X (.IfExp c a b pos) (tIf tA ta tb):=by
 intro pins s σ H Q I h
 refine wpAny_IfExp (thn (hc pins s σ H _ I h) fun d s1 ⟨H1,I1,q1⟩=>?_)
 cases d with
 | true=>exact ha pins s1 σ H1 Q I1 q1
 | false=>exact hb pins s1 σ H1 Q I1 q1
end
end L2
namespace L2
open PySem PySem.Spec PyProof.Rows
noncomputable def SqL (K:PySem.W.Frag) (H:Hp) (a:Addr) (xs:List V):Prop:=
 Rd H a (.lst xs) ∨
  ∃ (o:Obj) (its:Array Value) (n:Nat),K.lookup a=some o∧o.cls = .type "list"∧o.dict=none∧o.data = .seq its n∧its.size≤sizeLine∧Vals xs its.toList
noncomputable def SqT (K:PySem.W.Frag) (H:Hp) (a:Addr) (xs:List V):Prop:=
 Rd H a (.tup xs) ∨
  ∃ (o:Obj) (its:Array Value) (n:Nat),K.lookup a=some o∧o.cls = .type "tuple"∧o.dict=none∧o.data = .seq its n∧its.size≤sizeLine∧Vals xs its.toList
noncomputable def aFZ:Value→Option V
 | .none=>some .non
 | .bool b=>some (.bl b)
 | .int i _=>some (.int i)
 | .str x _=>some (.str x)
 | .bytes b _=>some (.byt b)
 | .float b _=>some (.flt b)
 | .ref a=>some (.ref a)
 | .type n=>some (.ty n)
 | _=>none
theorem RelV.abs {x:V}{u:Value}(r:RelV x u):aFZ u=some x:=by
 cases x with
 | non=>cases r;rfl
 | bl _=>cases r;rfl
 | int _=>obtain ⟨t,rfl⟩:=r;rfl
 | str _=>obtain ⟨t,rfl⟩:=r;rfl
 | byt _=>obtain ⟨t,rfl⟩:=r;rfl
 | flt _=>obtain ⟨t,rfl⟩:=r;rfl
 | ref _=>cases r;rfl
 | ty _=>cases r;rfl
theorem RelV.inj {x y:V}{u:Value}(r:RelV x u)(q:RelV y u):x=y:=Option.some.inj (r.abs.symm.trans q.abs)
theorem Vals.inj:∀ {xs ys:List V} {us:List Value},Vals xs us→Vals ys us→xs=ys
 | _,_,_, .nil, .nil=>rfl
 | _,_,_, .cons r t, .cons r' t'=>by rw [r.inj r',Vals.inj t t']
section
variable {X:Cx}{pins:List (Addr × Obj)}{σ:St}{H:Hp}{s:Shared}{a:Addr}{xs ys:List V}
theorem SqL.of {K:PySem.W.Frag}(h:H a=some (.lst xs)):SqL K H a xs := .inl (.inl h)
theorem SqT.of {K:PySem.W.Frag}(h:H a=some (.tup xs)):SqT K H a xs := .inl (.inl h)
theorem Inv.list (I:Inv X pins σ H s)(h:SqL X.K H a xs):∃ its:List Value,Vals xs its∧PlainL s.heap a its.toArray∧xs.length≤sizeLine:=by
 rcases h with h | ⟨o,its,n,hk,hc,hd,hs,hz,r⟩
 ·obtain ⟨z,its,n,r,e⟩:=h.ok I.hok
  exact ⟨its,r,⟨_,n,e,rfl,rfl,rfl⟩,z⟩
 ·refine ⟨its.toList,r,⟨o,n,I.kIn a o hk,hc,hd,by simpa using hs⟩,?_⟩
  have e:=r.length
  simp only [Array.length_toList] at e
  omega
theorem Inv.tuple (I:Inv X pins σ H s)(h:SqT X.K H a xs):∃ its:List Value,Vals xs its∧IsTup s.heap a its.toArray∧xs.length≤sizeLine:=by
 rcases h with h | ⟨o,its,n,hk,hc,_,hs,hz,r⟩
 ·obtain ⟨z,its,r,p⟩:=h.ok I.hok
  exact ⟨its,r,p.tup,z⟩
 ·refine ⟨its.toList,r,⟨o,I.kIn a o hk,hc,n,by simpa using hs⟩,?_⟩
  have e:=r.length
  simp only [Array.length_toList] at e
  omega
theorem Inv.list_inj (I:Inv X pins σ H s)(h:SqL X.K H a xs)(h':SqL X.K H a ys):xs=ys:=by
 obtain ⟨its,r,⟨o,n,e,_,_,d⟩,_⟩:=I.list h
 obtain ⟨its',r',⟨o',n',e',_,_,d'⟩,_⟩:=I.list h'
 rw [e] at e';cases e'
 rw [d] at d'
 injection d' with d1 _
 have:its=its':=by simpa using congrArg Array.toList d1
 subst this
 exact r.inj r'
theorem Inv.tuple_inj (I:Inv X pins σ H s)(h:SqT X.K H a xs)(h':SqT X.K H a ys):xs=ys:=by
 obtain ⟨its,r,⟨o,e,_,n,d⟩,_⟩:=I.tuple h
 obtain ⟨its',r',⟨o',e',_,n',d'⟩,_⟩:=I.tuple h'
 rw [e] at e';cases e'
 rw [d] at d'
 injection d' with d1 _
 have:its=its':=by simpa using congrArg Array.toList d1
 subst this
 exact r.inj r'
end
noncomputable abbrev Cx.wish (X:Cx) (E:Value→Shared→Prop):Cx:={ X with xe:=E }
noncomputable abbrev Cx.nox (X:Cx):Cx:=X.wish fun _ _=>False
theorem Cx.Ok.wish {X:Cx}(ok:X.Ok)(E:Value→Shared→Prop):(X.wish E).Ok:=
 ⟨ok.mod,ok.kind,ok.glob,ok.blt,ok.above,ok.inj,ok.has,ok.cab,ok.hd,ok.frames,ok.stk,ok.exf,ok.bs,ok.bsz,ok.noex,ok.exfs,ok.funs,ok.frf⟩
theorem Cx.Ok.unwish {X:Cx}{E:Value→Shared→Prop}(ok:(X.wish E).Ok):X.Ok:=
 ⟨ok.mod,ok.kind,ok.glob,ok.blt,ok.above,ok.inj,ok.has,ok.cab,ok.hd,ok.frames,ok.stk,ok.exf,ok.bs,ok.bsz,ok.noex,ok.exfs,ok.funs,ok.frf⟩
section
variable {X:Cx}{pins:List (Addr × Obj)}{σ:St}{H:Hp}{s:Shared}{E:Value→Shared→Prop}
theorem Inv.wish (I:Inv X pins σ H s)(E:Value→Shared→Prop):Inv (X.wish E) pins σ H s:=⟨I.ok.wish E,I.os,I.bare,I.base,I.loc,I.cell,I.free,I.freeC,I.pin,I.hok,I.len⟩
theorem Inv.unwish (I:Inv (X.wish E) pins σ H s):Inv X pins σ H s:=⟨I.ok.unwish,I.os,I.bare,I.base,I.loc,I.cell,I.free,I.freeC,I.pin,I.hok,I.len⟩
theorem SP.unwish {D:lG}{f:Flow}{s':Shared}(h:SP (X.wish E) pins D f s'):SP X pins D f s':=by
 cases f with
 | next=>obtain ⟨σ',H',I,q⟩:=h;exact ⟨σ',H',I.unwish,q⟩
 | brk=>obtain ⟨σ',H',I,q⟩:=h;exact ⟨σ',H',I.unwish,q⟩
 | cont=>obtain ⟨σ',H',I,q⟩:=h;exact ⟨σ',H',I.unwish,q⟩
 | ret u=>obtain ⟨v,σ',H',I,r,q⟩:=h;exact ⟨v,σ',H',I.unwish,r,q⟩
theorem PSs.nox {st:List Stmt}{t:TS}(h:PSs X.nox st t):PSs X st t:=fun pins s σ H D I hw=>
 wpAny_mono (h pins s σ H D (I.wish _) hw) (fun _ _ q=>q.unwish) fun _ _ z=>False.elim z
end
section
variable {X:Cx}{st:Stmt}{rest:List Stmt}{t u:TS}{e:Expr}{te:TE}{pos:Pos}
noncomputable def aR:TS:=fun D σ H=>D.nx σ H
noncomputable def aX (t u:TS):TS:=fun D σ H=>t { D with nx:=u D } σ H
theorem aI:PSs X [] aR:=fun _ _ σ H _ I h=>wpAny_execs_nil ⟨σ,H,I,h⟩
theorem aA (h1:PS X st t)(h2:PSs X rest u):PSs X (st :: rest) (aX t u):=by
 intro pins s σ H D I h
 refine wpAny_execs_cons (thn (h1 pins s σ H { D with nx:=u D } I h) fun f s1 q=>?_)
 cases f with
 | next=>
  obtain ⟨σ',H',I',q⟩:=q
  exact h2 pins s1 σ' H' D I' q
 | ret v=>exact q
 | brk=>exact q
 | cont=>exact q
theorem Inv.quiet {pins:List (Addr × Obj)}{σ:St}{H:Hp}{s:Shared}(I:Inv X pins σ H s):interactive X.env=false:=by simp [interactive,I.ok.kind]
noncomputable def sI (te:TE):TS:=fun D σ H=>te σ H fun _ H1=>D.nx σ H1
theorem lM (he:PE X e te)(hs:swapsWith e none pos.line X.env=pure false:=by rfl):PS X (.Expr e pos) (sI te):=by
 intro pins s σ H D I h
 exact wpAny_Expr_any (thn (he pins s σ H _ I h) fun v s1 ⟨x,H1,I1,r1,q1⟩=>⟨σ,H1,I1,q1⟩) I.quiet hs
noncomputable def fI (te:TE):TS:=fun D σ H=>te σ H D.rt
theorem bQ (he:PE X e te):PS X (.Return (some e) pos) (fI te):=by
 intro pins s σ H D I h
 exact wpAny_Return_some (thn (he pins s σ H _ I h) fun v s1 ⟨x,H1,I1,r1,q1⟩=>⟨x,σ,H1,I1,r1,q1⟩)
noncomputable def iU (c:TT) (t u:TS):TS:=fun D σ H=>c σ H fun b H1=>if b=true then t D σ H1 else u D σ H1
theorem dY {c:Expr}{a b:List Stmt}{tc:TT}(hc:PT X c tc)(ha:PSs X a t)(hb:PSs X b u):PS X (.If c a b pos) (iU tc t u):=by
 intro pins s σ H D I h
 refine wpAny_If (thn (hc pins s σ H _ I h) fun d s1 ⟨H1,I1,q1⟩=>?_)
 cases d with
 | true=>exact ha pins s1 σ H1 D I1 q1
 | false=>exact hb pins s1 σ H1 D I1 q1
noncomputable def aBr:TS:=fun _ _ _=>False
theorem aAM:PS X st aBr:=fun _ _ _ _ _ _ h=>h.elim
end
noncomputable abbrev TG:=V→St→Hp→(St→Hp→Prop)→Prop
noncomputable abbrev TGs:=List V→St→Hp→(St→Hp→Prop)→Prop
noncomputable def PG (X:Cx) (target:Expr) (t:TG):Prop:=
 ∀ (pins:List (Addr × Obj)) (s:Shared) (σ:St) (H:Hp) (v:V) (u:Value) (Q:St→Hp→Prop),Inv X pins σ H s→RelV v u→t v σ H Q →
  wpAny (model X.prog X.w) X.A (assign target X.env u) (fun _ s'=>∃ σ' H',Inv X pins σ' H' s'∧Q σ' H') X.xe s
noncomputable def PGs (X:Cx) (ts:List Expr) (t:TGs):Prop:=
 ∀ (pins:List (Addr × Obj)) (s:Shared) (σ:St) (H:Hp) (vs:List V) (us:List Value) (Q:St→Hp→Prop),Inv X pins σ H s→Vals vs us→t vs σ H Q →
  wpAny (model X.prog X.w) X.A (assignInOrder ((assignEach ts X.env).map (·.2)) us) (fun _ s'=>∃ σ' H',Inv X pins σ' H' s'∧Q σ' H') X.xe s
noncomputable abbrev aFs:=V→V→V→Hp→(Hp→Prop)→Prop
noncomputable def aFF (X:Cx) (t:aFs):Prop:=
 ∀ (pins:List (Addr × Obj)) (s:Shared) (σ:St) (H:Hp) (o i v:V) (ov iv u:Value) (Q:Hp→Prop),Inv X pins σ H s→RelV o ov→RelV i iv→RelV v u→t o i v H Q →
  wpAny (model X.prog X.w) X.A (setItem ov iv u) (fun _ s'=>∃ H',Inv X pins σ H' s'∧Q H') X.xe s
section
variable {X:Cx}{pos:Pos}
noncomputable def aJ (i:Nat):TG:=fun v σ H Q=>Q (σ.set i (some v)) H
theorem aS {i:Nat}{x:Str}(hN:X.N.Nodup)(hi:X.N[i]?=some x)(hx:Loc X.env.scope x)(hf:X.fn x=true∨X.env.scope.names.lookup x=some .local:=by first | exact .inl rfl | exact .inr rfl | assumption):PG X (.Name x pos) (aJ i):=by
 intro pins s σ H v u Q I r h
 exact wpAny_assign_Name (mT I hN hi hx r (fun s' I'=>⟨_,H,I',h⟩) hf)
noncomputable def aAf:TGs:=fun vs σ H Q=>vs=[]∧Q σ H
noncomputable def eA (t:TG) (u:TGs):TGs:=fun vs σ H Q=>∃ v r,vs=v :: r∧t v σ H fun σ' H'=>u r σ' H' Q
theorem gC:PGs X [] aAf:=by
 intro pins s σ H vs us Q I r h
 obtain ⟨e,h⟩:=h
 subst e
 cases r
 exact assignInOrder_nil ⟨σ,H,I,h⟩
theorem bL {e:Expr}{es:List Expr}{t:TG}{u:TGs}(h1:PG X e t)(h2:PGs X es u)
  (hs:(assignEach (e :: es) X.env).map (·.2)=assign e X.env :: (assignEach es X.env).map (·.2):=by rfl):PGs X (e :: es) (eA t u):=by
 intro pins s σ H vs us Q I r h
 obtain ⟨v,vr,e1,h⟩:=h
 subst e1
 cases r with
 | cons r rr=>
  rw [hs]
  refine assignInOrder_cons (thn (h1 pins s σ H _ _ _ I r h) fun _ s1 ⟨σ1,H1,I1,q1⟩=>?_)
  exact h2 pins s1 σ1 H1 _ _ Q I1 rr q1
noncomputable def yO (K:PySem.W.Frag) (n:Nat) (t:TGs):TG:=fun v σ H Q=>∃ a xs,v = .ref a∧SqT K H a xs∧xs.length=n∧t xs σ H Q
theorem aDZ {es:List Expr}{k:Nat}{t:TGs}{n:Nat}(hc:X.calm=true)(h:PGs X es t)
  (hn:(assignEach es X.env).length=n:=by rfl) (hst:(assignEach es X.env).findIdx? (·.1)=none:=by rfl):PG X (.Tuple es k pos) (yO X.K n t):=by
 intro pins s σ H v u Q I r hw
 obtain ⟨a,xs,e1,hq,hl,hw⟩:=hw
 subst e1
 cases r
 obtain ⟨its,rv,ht,hz⟩:=I.tuple hq
 refine assign_Tuple_tuple (I.ok.hd hc) ht (by simp [hn,← hl,rv.length]) hst fun h' hx=>?_
 have I1:Inv X pins σ H { s with heap:=h' }:=I.kept (t':=s.toks) fun b o e=>hx b o (Nat.ne_of_lt (Heap.lt_size e)) e
 exact h pins _ σ H xs _ Q I1 (by simpa using rv) hw
noncomputable def qP (to ti:TE) (t:aFs):TG:=fun v σ H Q=>to σ H fun o H1=>ti σ H1 fun i H2=>t o i v H2 fun H3=>Q σ H3
theorem kR {o i:Expr}{to ti:TE}{t:aFs}(ho:PE X o to)(hi:PE X i ti)(hs:aFF X t)
  (ha:∀ v,assign (.Subscript o i pos) X.env v=(do
   let ov ← holding [v] (eval o X.env)
   let iv ← holding [v,ov] (eval i X.env)
   standAt pos
   holding [v,ov,iv] (setItem ov iv v)
   release [v,ov,iv] []):=by intro _;rfl):PG X (.Subscript o i pos) (qP to ti t):=by
 intro pins s σ H v u Q I r h
 rw [ha]
 refine wpAny_bind (wpAny_holding (thn (ho pins s σ H _ I h) fun ov s1 ⟨x,H1,I1,r1,q1⟩=>?_))
 refine wpAny_bind (wpAny_holding (thn (hi pins s1 σ H1 _ I1 q1) fun iv s2 ⟨y,H2,I2,r2,q2⟩=>?_))
 refine wpAny_bind (wpAny_standAt (wpAny_bind (wpAny_holding (thn (hs pins s2 σ H2 x y v ov iv u _ I2 r1 r2 r q2) fun _ s3 ⟨H3,I3,q3⟩=>?_))))
 exact wpAny_release ⟨σ,H3,I3,q3⟩
noncomputable def cF (te:TE) (g:TG):TS:=fun D σ H=>te σ H fun x H1=>g x σ H1 D.nx
theorem gA {tg e:Expr}{te:TE}{g:TG}(he:PE X e te)(hg:PG X tg g)(hs:swapsWithSole [tg] e pos.line X.env=pure false:=by rfl)(hw:swappedStores [tg] e X.env=pure none:=by rfl)
  (h1:(assignEach [tg] X.env).map (·.2)=[assign tg X.env]:=by rfl):PS X (.Assign [tg] e pos) (cF te g):=by
 intro pins s σ H D I h
 refine wpAny_Assign_stores (thn (he pins s σ H _ I h) fun v s1 ⟨x,H1,I1,r1,q1⟩=>?_) hs hw
 rw [h1]
 exact thn (hg pins s1 σ H1 x v _ I1 r1 q1) fun _ s2 q=>q
theorem bC {i:Nat}{x:Str}{e:Expr}{te:TE}{pos':Pos}(hN:X.N.Nodup)(hi:X.N[i]?=some x)(hx:Loc X.env.scope x)(he:PE X e te)(hs:swapsWith e (some (.Name x pos')) pos.line X.env=pure false:=by rfl)(hf:X.fn x=true∨X.env.scope.names.lookup x=some .local:=by first | exact .inl rfl | exact .inr rfl | assumption) :
  PS X (.Assign [.Name x pos'] e pos) (cF te (aJ i)):=by
 intro pins s σ H D I h
 refine wpAny_Assign_Name (thn (he pins s σ H _ I h) fun v s1 ⟨y,H1,I1,r1,q1⟩=>?_) hs
 exact mT I1 hN hi hx r1 (fun s2 I2=>⟨_,H1,I2,q1⟩) hf
noncomputable def aEm (i j:Nat) (ta:TA):TS:=fun D σ H=>ta σ H fun vs H1=>∃ v w,vs=[v,w]∧D.nx ((σ.set i (some v)).set j (some w)) H1
theorem xE {i j:Nat}{x y:Str}{a b:Expr}{ta:TA}{px py pt:Pos}{kt k2 pt2}(hc:X.calm=true)(hN:X.N.Nodup)(hi:X.N[i]?=some x)(hj:X.N[j]?=some y)(hij:i≠j)
  (hx:X.env.scope.names.lookup x=some .local) (hy:X.env.scope.names.lookup y=some .local) (ha:PA X [a,b] ta)
  (hw:swappedStores [.Tuple [.Name x px, .Name y py] kt pt] (.Tuple [a,b] k2 pt2) X.env=pure (some [x,y]))
  (hs:swapsWithSole [.Tuple [.Name x px, .Name y py] kt pt] (.Tuple [a,b] k2 pt2) pos.line X.env=pure false:=by rfl) :
  PS X (.Assign [.Tuple [.Name x px, .Name y py] kt pt] (.Tuple [a,b] k2 pt2) pos) (aEm i j ta):=by
 intro pins s σ H D I h
 rw [exec_Assign_arm]
 refine wpAny_bind (wpAny_standAt ?_)
 rw [hs]
 refine wpAny_bind (wpAny_pure ?_)
 rw [if_neg (by decide)]
 refine wpAny_bind (Tuple_ (thn (ha _ pins s σ H _ I h) fun us s1 ⟨vs,H1,I1,r1,q1⟩=>?_))
 obtain ⟨v,w,e1,q1⟩:=q1
 subst e1
 obtain ⟨u1,u2,rfl,rv,rw'⟩:∃ u1 u2,us=[u1,u2]∧RelV v u1∧RelV w u2:=by
  cases r1 with
  | cons p q=>
   cases q with
   | cons p' q'=>
    cases q'
    exact ⟨_,_,rfl,p,p'⟩
 refine wpAny_newObj_type ?_ (by show 2≤sizeLine;decide)
 have I2:Inv X pins σ H1 { s1 with heap:=s1.heap.push { cls := .type "tuple",data := .seq [u1,u2].toArray } }:=I1.kept (t':=s1.toks) fun b o e=>Heap.get?_push_of_some _ e
 rw [hw]
 refine wpAny_bind (wpAny_pure ?_)
 show wpAny (model X.prog X.w) X.A (do rule "assign.swapped-stores";let items ← unpackItems (.ref s1.heap.objs.size) 2 none;assignInOrder [fun v=>bindName X.env y v,fun v=>bindName X.env x v] items.reverse;pure Flow.next) _ _ _
 refine wpAny_bind (wpAny_rule (wpAny_bind (unpackItems_tuple (items:=#[u1,u2]) (I.ok.hd hc) (IsTup.new s1.heap _) fun h' hx'=>?_)))
 have I3:=I2.kept (h':=h') (t':=s1.toks) fun b o e=>hx' b o (Nat.ne_of_lt (Heap.lt_size e)) e
 show wpAny _ _ (assignInOrder [fun v=>bindName X.env y v,fun v=>bindName X.env x v] [u2,u1] >>= fun _=>pure Flow.next) _ _ _
 refine wpAny_bind (assignInOrder_cons (wpAny_bindName (mT I3 hN hj (.inl hy) rw' (fun s2 I4=>?_) (.inr hy))))
 refine assignInOrder_cons (wpAny_bindName (mT I4 hN hi (.inl hx) rv (fun s3 I5=>assignInOrder_nil (wpAny_pure ?_)) (.inr hx)))
 rw [List.set_comm _ _ (Ne.symm hij)] at I5
 exact ⟨_,H1,I5,q1⟩
end
section
variable {X:Cx}{pos:Pos}
noncomputable def oU (c:TT) (tb:TS):TS:=fun D σ H=>∃ W:Nat→St→Hp→Prop,(∃ m,W m σ H)∧∀ m σ H,W m σ H →
 c σ H fun b H1=>if b=true then ∃ N:St→Hp→Prop,(∀ σ' H',N σ' H'→∃ m',m'<m∧W m' σ' H')∧tb { D with nx:=N,ct:=N,bk:=D.nx } σ H1 else D.nx σ H1
theorem jX {c:Expr}{body:List Stmt}{tc:TT}{tb:TS}(hp:PassesOwn (model X.prog X.w) X.A X.env X.xe)(hc:PT X c tc)(hb:PSs X body tb):PS X (.While c body [] pos) (oU tc tb):=by
 intro pins s σ H D I h
 obtain ⟨W,⟨m0,w0⟩,turn⟩:=h
 refine wpAny_While (codeAny_whileLoop (fun n s'=>∃ σ' H',Inv X pins σ' H' s'∧W n σ' H') ?_ m0 ⟨σ,H,I,w0⟩)
 rintro n s1 ⟨σ1,H1,I1,w1⟩
 refine wpAny_passesOwn hp (thn (hc pins s1 σ1 H1 _ I1 (turn n σ1 H1 w1)) fun b s2 ⟨H2,I2,q2⟩=>?_)
 cases b with
 | true=>
  obtain ⟨N,hN,q2⟩:=q2
  rw [if_pos rfl]
  refine wpAny_passesOwn hp (thn (hb pins s2 σ1 H2 _ I2 q2) fun f s3 q3=>?_)
  cases f with
  | next=>
   obtain ⟨σ3,H3,I3,n3⟩:=q3
   obtain ⟨m',hm,w3⟩:=hN σ3 H3 n3
   exact ⟨m',hm,σ3,H3,I3,w3⟩
  | cont=>
   obtain ⟨σ3,H3,I3,n3⟩:=q3
   obtain ⟨m',hm,w3⟩:=hN σ3 H3 n3
   exact ⟨m',hm,σ3,H3,I3,w3⟩
  | brk=>exact q3
  | ret v=>exact q3
 | false=>
  rw [if_neg Bool.false_ne_true]
  exact wpAny_execs_nil ⟨σ1,H2,I2,q2⟩
end
structure It where
 go:Nat→Hp→Prop
 yld:Nat→Hp→V→Hp→Prop
 stop:Nat→Hp→Prop
noncomputable def sS (X:Cx) (pins:List (Addr × Obj)) (H:Hp) (b:Addr):Prop:=
 H b=none∧b≠X.env.locals∧b∉X.fs∧(b∈X.ex∨X.s₀.heap.objs.size≤b)∧(∀ x c,X.env.cells.lookup x=some c→c≠b)∧∀ p∈X.pn++pins,p.1≠b
theorem Inv.fpOk {X:Cx}{pins:List (Addr × Obj)}{σ:St}{H H':Hp}{s:Shared}{b:Addr}(I:Inv X pins σ H s)(hb:s.heap.objs.size≤b)(hn:H' b=none):sS X pins H' b:=by
 refine ⟨hn,Nat.ne_of_gt (Nat.lt_of_lt_of_le I.lt hb),I.nofs hb, .inr (Nat.le_trans I.sz hb),fun x c e z=>?_,fun p hp z=>?_⟩
 ·obtain ⟨v,q⟩:=I.cell x c e
  exact absurd (Nat.lt_of_lt_of_le q.lt (by rw [z];exact hb)) (Nat.lt_irrefl _)
 ·exact absurd (Nat.lt_of_lt_of_le (Heap.lt_size (I.pin p hp).1) (by rw [z];exact hb)) (Nat.lt_irrefl _)
structure aBH (P:Program)(w:World)(K:PySem.W.Frag)(tg:Expr)(J:It)(fp:List Addr)(it:Addr)(tn:Nat→Heap→Prop):Prop where
 mem:it∈fp
 obj:∀ i h,tn i h→∀ b∈fp,∃ o,h.get? b=some o∧∀ v,o.data ≠ .cell v
 keep:∀ i h h',tn i h→(∀ b∈fp,∀ o,h.get? b=some o→h'.get? b=some o)→tn i h'
 item:∀ (X:Cx),X.prog=P→X.w=w→X.K=K→X.calm=true→∀ (i:Nat) (pins:List (Addr × Obj)) (s:Shared) (σ:St) (H:Hp) (E:Value→Shared→Prop),Inv X pins σ H s→(∀ b∈fp,sS X pins H b)→tn i s.heap→J.go i H →
  wpAny (model P w) X.A (pyNext (.ref it)) (fun r s1=>∃ u,r=some u ∧
   wpAny (model P w) X.A (letOwnedTupleGo tg (.ref it) u) (fun _ s2=>∃ x H',Inv X pins σ H' s2∧RelV x u∧J.yld i H x H'∧tn (i+1) s2.heap∧∀ b∈fp,H' b=none) E s1) E s
 done:∀ (X:Cx),X.prog=P→X.w=w→X.K=K→X.calm=true→∀ (i:Nat) (pins:List (Addr × Obj)) (s:Shared) (σ:St) (H:Hp) (E:Value→Shared→Prop),Inv X pins σ H s→(∀ b∈fp,sS X pins H b)→tn i s.heap→J.stop i H →
  wpAny (model P w) X.A (pyNext (.ref it)) (fun r s1=>r=none∧Inv X pins σ H s1) E s
 self:∀ (A:Around) (i:Nat) (s:Shared) (Q:Value→Shared→Prop) (E:Value→Shared→Prop),tn i s.heap→Q (.ref it) s→wpAny (model P w) A (pyIter (.ref it)) Q E s
noncomputable abbrev TI:=St→Hp→(It→Hp→Prop)→Prop
noncomputable def PIE (X:Cx) (pins:List (Addr × Obj)) (σ:St) (tg:Expr) (R:It→Hp→Prop) (itv:Value) (s2:Shared):Prop:=
 ∃ (it:Addr) (fp:List Addr) (tn:Nat→Heap→Prop) (J:It) (H':Hp),itv = .ref it∧Inv X pins σ H' s2∧aBH X.prog X.w X.K tg J fp it tn∧tn 0 s2.heap∧(∀ b∈fp,sS X pins H' b)∧R J H'
noncomputable def PI (X:Cx) (tg iter:Expr) (wi:TI):Prop:=
 ∀ (pins:List (Addr × Obj)) (s:Shared) (σ:St) (H:Hp) (R:It→Hp→Prop),Inv X pins σ H s→wi σ H R →
  wpAny (model X.prog X.w) X.A (eval iter X.env) (fun v s1=>wpAny (model X.prog X.w) X.A (pyIter v) (PIE X pins σ tg R) X.xe s1) X.xe s
theorem aCc {M : Model} {A : Around} {E : Value → Shared → Prop} {s : Shared} {tg : Expr} {it : Addr} {u : Value} {o : Obj} {n : String} {vs : Array Value} {Q : Unit → Shared → Prop} (ho : s.heap.get? it = some o) (hc : o.cls = .type n) (hd : o.data = .fields vs)
    (hn : ["enumerate", "zip", "dict_itemiterator", "dict_reverseitemiterator", "odict_iterator", "itertools.zip_longest", "itertools.pairwise"].contains n = false) (hQ : Q () s) : wpAny M A (letOwnedTupleGo tg (.ref it) u) Q E s := by
  unfold letOwnedTupleGo
  cases tg <;> first
    | exact wpAny_pure hQ
    | (cases u <;> first
        | exact wpAny_pure hQ
        | (refine wpAny_bind (wpAny_load ho ?_)
           rw [hc, hd]
           show wpAny M A (if (["enumerate", "zip", "dict_itemiterator", "dict_reverseitemiterator", "odict_iterator", "itertools.zip_longest", "itertools.pairwise"].contains n && vs[0]? == some (rawInt _)) = true then _ else _) Q E s
           rw [if_neg (by intro h; rw [hn, Bool.false_and] at h; cases h)]
           exact wpAny_pure hQ))
noncomputable def Itl (K:PySem.W.Frag) (a:Addr):It:=
 ⟨fun i H=>∃ xs x,SqL K H a xs∧xs[i]?=some x,fun i H x H'=>H'=H∧∀ xs,SqL K H a xs→xs[i]?=some x,fun i H=>∃ xs,SqL K H a xs∧xs.length≤i⟩
noncomputable def Itt (K:PySem.W.Frag) (a:Addr):It:=
 ⟨fun i H=>∃ xs x,SqT K H a xs∧xs[i]?=some x,fun i H x H'=>H'=H∧∀ xs,SqT K H a xs→xs[i]?=some x,fun i H=>∃ xs,SqT K H a xs∧xs.length≤i⟩
noncomputable def Itr (lo:Int) (n:Nat):It:=⟨fun i _=>i<n,fun i H x H'=>H'=H∧x = .int (lo+i),fun i _=>n≤i⟩
theorem yY {P:Program}{w:World}{K:PySem.W.Frag}{tg:Expr}(a it:Addr):aBH P w K tg (Itl K a) [it] it (fun i h=>h.IsListIter it a i) where
 mem:=by simp
 obj:=fun i h st b hb=>by
  have e:b=it:=by simpa using hb
  subst e
  obtain ⟨o,e,c,d⟩:=st
  exact ⟨o,e,fun v z=>by rw [d] at z;cases z⟩
 keep:=fun i h h' st k=>st.at fun o e=>k it (by simp) o e
 item:=by
  intro X hP hw hK hc i pins s σ H E I hf st hg
  subst hP hw hK
  obtain ⟨xs,x,hq,hx⟩:=hg
  obtain ⟨its,rv,p,hz⟩:=I.list hq
  obtain ⟨u,hu,ru⟩:=rv.get hx
  obtain ⟨f0,f1,f2,f3,f4,f5⟩:=hf it (by simp)
  refine wpAny_pyNext_list_item st p.isList (x:=u) (by simpa using hu) fun h' st' sb=>?_
  have I1:Inv X pins σ H { s with heap:=h' }:=I.turned (t':=s.toks) (fun b o hb e=>(sb.2 b hb).trans e) f0 f1 f3 f4 f5
  obtain ⟨o,e,c,d⟩:=id st'
  exact ⟨u,rfl,aCc (s:={ s with heap:=h' }) e c d (by decide) ⟨x,H,I1,ru,⟨rfl,fun ys hy=>by rw [I.list_inj hy hq];exact hx⟩,st',fun b hb=>(hf b hb).1⟩⟩
 done:=by
  intro X hP hw hK hc i pins s σ H E I hf st hg
  subst hP hw hK
  obtain ⟨xs,hq,hx⟩:=hg
  obtain ⟨its,rv,p,hz⟩:=I.list hq
  obtain ⟨f0,f1,f2,f3,f4,f5⟩:=hf it (by simp)
  have hl:=rv.length
  exact wpAny_pyNext_list_end (I.ok.hd hc) st p.isList (by simp;omega) fun h' eb=>⟨rfl,I.turned (t':=s.toks) (fun b o hb e=>eb b o hb e) f0 f1 f3 f4 f5⟩
 self:=fun _ _ _ _ _ st h=>wpAny_pyIter_listiter st h
theorem wN {P:Program}{w:World}{K:PySem.W.Frag}{tg:Expr}(a it:Addr):aBH P w K tg (Itt K a) [it] it (fun i h=>h.IsTupleIter it a i) where
 mem:=by simp
 obj:=fun i h st b hb=>by
  have e:b=it:=by simpa using hb
  subst e
  obtain ⟨o,e,c,d⟩:=st
  exact ⟨o,e,fun v z=>by rw [d] at z;cases z⟩
 keep:=fun i h h' st k=>st.at fun o e=>k it (by simp) o e
 item:=by
  intro X hP hw hK hc i pins s σ H E I hf st hg
  subst hP hw hK
  obtain ⟨xs,x,hq,hx⟩:=hg
  obtain ⟨its,rv,p,hz⟩:=I.tuple hq
  obtain ⟨u,hu,ru⟩:=rv.get hx
  obtain ⟨f0,f1,f2,f3,f4,f5⟩:=hf it (by simp)
  refine wpAny_pyNext_tuple_item st (show s.heap.IsTuple a its.toArray from p) (x:=u) (by simpa using hu) fun h' st' sb=>?_
  have I1:Inv X pins σ H { s with heap:=h' }:=I.turned (t':=s.toks) (fun b o hb e=>(sb.2 b hb).trans e) f0 f1 f3 f4 f5
  obtain ⟨o,e,c,d⟩:=id st'
  exact ⟨u,rfl,aCc (s:={ s with heap:=h' }) e c d (by decide) ⟨x,H,I1,ru,⟨rfl,fun ys hy=>by rw [I.tuple_inj hy hq];exact hx⟩,st',fun b hb=>(hf b hb).1⟩⟩
 done:=by
  intro X hP hw hK hc i pins s σ H E I hf st hg
  subst hP hw hK
  obtain ⟨xs,hq,hx⟩:=hg
  obtain ⟨its,rv,p,hz⟩:=I.tuple hq
  obtain ⟨f0,f1,f2,f3,f4,f5⟩:=hf it (by simp)
  have hl:=rv.length
  exact wpAny_pyNext_tuple_end (I.ok.hd hc) st (show s.heap.IsTuple a its.toArray from p) (by simp;omega) fun h' eb=>⟨rfl,I.turned (t':=s.toks) (fun b o hb e=>eb b o hb e) f0 f1 f3 f4 f5⟩
 self:=fun _ _ _ _ _ st h=>wpAny_pyIter_tupleiter st h
theorem wG {P:Program}{w:World}{K:PySem.W.Frag}{tg:Expr}(it:Addr)(lo:Int)(n:Nat):aBH P w K tg (Itr lo n) [it] it (fun i h=>IsRangeIter h it (lo+(i:Nat)*1) ((n:Int) - (i:Nat)) 1) where
 mem:=by simp
 obj:=fun i h st b hb=>by
  have e:b=it:=by simpa using hb
  subst e
  exact ⟨_,st,fun v z=>by
   have z':Data.fields _=Data.cell v:=z
   cases z'⟩
 keep:=fun i h h' st k=>k it (by simp) _ st
 item:=by
  intro X hP hw hK hc i pins s σ H E I hf st hg
  subst hP hw hK
  obtain ⟨f0,f1,f2,f3,f4,f5⟩:=hf it (by simp)
  have W:=Walks.range (prog:=X.prog) (w:=X.w) (I.ok.hd hc) it lo 1 n
  refine W.item i s _ _ hg st fun v h' tk hv st' kk=>?_
  obtain ⟨t,rfl⟩:=hv
  have I1:Inv X pins σ H { s with heap:=h',toks:=tk }:=I.turned (fun b o hb e=>kk b o (by simpa using hb) e) f0 f1 f3 f4 f5
  refine ⟨_,rfl,aCc (s:={ s with heap:=h',toks:=tk }) (n:="range_iterator") st' rfl rfl (by decide) ⟨.int (lo+i),H,I1,⟨t,?_⟩,⟨rfl,rfl⟩,st',fun b hb=>(hf b hb).1⟩⟩
  rw [Int.mul_one]
 done:=by
  intro X hP hw hK hc i pins s σ H E I hf st hg
  subst hP hw hK
  obtain ⟨f0,f1,f2,f3,f4,f5⟩:=hf it (by simp)
  exact wpAny_pyNext_range_end (I.ok.hd hc) st (by have:n≤i:=hg;omega) fun h' eb=>⟨rfl,I.turned (t':=s.toks) (fun b o hb e=>eb b o hb e) f0 f1 f3 f4 f5⟩
 self:=fun _ _ _ _ _ st h=>wpAny_pyIter_rangeiter st h
end L2
namespace L2
open PySem PySem.Spec PyProof.Rows
section
variable {X:Cx}{tg:Expr}
theorem uT {pins:List (Addr × Obj)}{σ:St}{H:Hp}{s:Shared}{R:It→Hp→Prop}{E:Value→Shared→Prop}{lo hi:Int}{t u v:Tok}{tk:Nat}(I:Inv X pins σ H s)(h1:-(2 ^ 62)≤lo)(h2:lo<2 ^ 62)(h3:-(2 ^ 62)≤hi)(h4:hi<2 ^ 62)
  (q:R (Itr lo (hi - lo).toNat) H):wpAny (model X.prog X.w) X.A (pyIter (.ref s.heap.objs.size)) (PIE X pins σ tg R) E { s with heap:=s.heap.push { cls := .type "range",data := .fields #[.int lo t, .int hi u, .int 1 v] },toks:=tk }:=by
 refine wpAny_pyIter_range (IsRange.new ..) (small_one h1 h2 h3 h4) ?_
 have I1:Inv X pins σ H { s with heap:=s.heap.push { cls := .type "range",data := .fields #[.int lo t, .int hi u, .int 1 v] },toks:=tk }:=I.kept fun b o e=>Heap.get?_push_of_some _ e
 refine ⟨(s.heap.push { cls := .type "range",data := .fields #[.int lo t, .int hi u, .int 1 v] }).objs.size,[(s.heap.push { cls := .type "range",data := .fields #[.int lo t, .int hi u, .int 1 v] }).objs.size],_,_,H,rfl,
  I1.kept (t':=tk) fun b o e=>Heap.get?_push_of_some _ e,wG _ lo (hi - lo).toNat,?_,fun b hb=>?_,q⟩
 ·have e1:lo+((0:Nat):Int)*1=lo:=by simp
  have e2:(((hi - lo).toNat:Nat):Int) - ((0:Nat):Int)=Builtin.Range.rangeSize lo hi 1:=by rw [rangeSize_one];split <;> omega
  show IsRangeIter _ _ (lo+((0:Nat):Int)*1) ((((hi - lo).toNat:Nat):Int) - ((0:Nat):Int)) 1
  rw [e1,e2]
  exact Heap.get?_push_size _ rfl
 ·have e:b=(s.heap.push { cls := .type "range",data := .fields #[.int lo t, .int hi u, .int 1 v] }).objs.size:=by simpa using hb
  subst e
  exact I1.fpOk (Nat.le_refl _) (I1.hok.fresh (Nat.le_refl _))
noncomputable def dM (ta:TA):TI:=fun σ H R=>ta σ H fun vs H1=>∃ j:Int,vs=[.int j]∧-(2 ^ 62)≤j∧j<2 ^ 62∧R (Itr 0 j.toNat) H1
noncomputable def wD (ta:TA):TI:=fun σ H R=>ta σ H fun vs H1=>∃ i j:Int,vs=[.int i, .int j]∧(-(2 ^ 62)≤i∧i<2 ^ 62∧-(2 ^ 62)≤j∧j<2 ^ 62)∧R (Itr i (j - i).toNat) H1
theorem bK {a:Expr}{ta:TA}{p pos:Pos}(hg:Gl X "range")(hm:X.mg "range" = none)(ha:PA X [a] ta)(hs:starEach [a] X.env=[(false,eval a X.env)]:=by rfl):PI X tg (.Call (.Name "range" p) [a] [] pos) (dM ta):=by
 intro pins s σ H R I h
 refine Call_ (sD I hg hm boot_range (PyProof.Rows.callWith_type1 (thn (ha pos pins s σ H _ I h) fun us s1 ⟨vs,H1,I1,r1,q1⟩=>?_) hs rfl))
 obtain ⟨j,e,q1,q2,q⟩:=q1
 subst e
 cases r1 with
 | cons r rr=>
  cases rr
  obtain ⟨t,rfl⟩:=r
  exact call_range_1 (uT I1 (by omega) (by omega) q1 q2 (by simpa using q))
theorem iF {a b:Expr}{ta:TA}{p pos:Pos}(hg:Gl X "range")(hm:X.mg "range" = none)(ha:PA X [a,b] ta)(hs:starEach [a,b] X.env=[(false,eval a X.env),(false,eval b X.env)]:=by rfl)(hs2:starEach [b] X.env=[(false,eval b X.env)]:=by rfl) :
  PI X tg (.Call (.Name "range" p) [a,b] [] pos) (wD ta):=by
 intro pins s σ H R I h
 refine Call_ (sD I hg hm boot_range (PyProof.Rows.callWith_type1 (thn (ha pos pins s σ H _ I h) fun us s1 ⟨vs,H1,I1,r1,q1⟩=>?_) (by rw [hs,hs2]) (by rw [hs2];rfl)))
 obtain ⟨i,j,e,⟨q1,q2,q3,q4⟩,q⟩:=q1
 subst e
 cases r1 with
 | cons r rr=>
  cases rr with
  | cons r' rr=>
   cases rr
   obtain ⟨t,rfl⟩:=r
   obtain ⟨t',rfl⟩:=r'
   exact call_range_2 (uT I1 q1 q2 q3 q4 q)
noncomputable def kU (wi:TI) (g:TG) (tb:TS):TS:=fun D σ H=>wi σ H fun J H1=>∃ W:Nat→Nat→St→Hp→Prop,(∃ m,W 0 m σ H1)∧∀ i m σ H,W i m σ H →
 (J.stop i H∧D.nx σ H)∨(J.go i H∧∃ N:St→Hp→Prop,(∀ σ' H',N σ' H'→∃ m',m'<m∧W (i+1) m' σ' H')∧∀ x H',J.yld i H x H'→g x σ H' fun σ2 H2=>tb { D with nx:=N,ct:=N,bk:=D.nx } σ2 H2)
noncomputable def rN (fp:List Addr) (h:Heap):List (Addr × Obj):=fp.filterMap fun b=>(h.get? b).map fun o=>(b,o)
theorem iQ {fp:List Addr}{h:Heap}{b:Addr}{o:Obj}(hb:b∈fp)(e:h.get? b=some o):(b,o)∈rN fp h:=List.mem_filterMap.mpr ⟨b,hb,by rw [e];rfl⟩
theorem xF {fp:List Addr}{h:Heap}{p:Addr × Obj}(hp:p∈rN fp h):p.1∈fp∧h.get? p.1=some p.2:=by
 obtain ⟨b,hb,e⟩:=List.mem_filterMap.mp hp
 cases q:h.get? b with
 | none=>rw [q] at e;cases e
 | some o=>
  rw [q] at e
  have e':(b,o)=p:=Option.some.inj e
  subst e'
  exact ⟨hb,q⟩
theorem Inv.pinned {pins:List (Addr × Obj)}{σ:St}{H:Hp}{s:Shared}{fp:List Addr}(I:Inv X pins σ H s)(hf:∀ b∈fp,sS X pins H b)(ho:∀ b∈fp,∃ o,s.heap.get? b=some o∧∀ v,o.data ≠ .cell v):Inv X (pins++rN fp s.heap) σ H s:=
 I.pins_of fun p hp=>(List.mem_append.mp hp).elim (fun z=>I.pin p (List.mem_append_right _ z)) fun z=>by
  obtain ⟨hb,e⟩:=xF z
  obtain ⟨f0,f1,f2,_⟩:=hf p.1 hb
  obtain ⟨o,e',d⟩:=ho p.1 hb
  rw [e] at e';cases e'
  exact ⟨e,f0,f1,f2,d⟩
theorem Inv.unpinned {pins pl:List (Addr × Obj)}{σ:St}{H:Hp}{s:Shared}(I:Inv X (pins++pl) σ H s):Inv X pins σ H s:=I.pins_of fun p hp=>I.pin p (List.mem_append_right _ (List.mem_append_left _ hp))
theorem dN {iter:Expr}{body:List Stmt}{wi:TI}{g:TG}{tb:TS}{pos:Pos}(hp:PassesOwn (model X.prog X.w) X.A X.env X.xe)(hc:X.calm=true)(hi:PI X tg iter wi)(hg:PG X tg g)(hb:PSs X body tb)
  (hs:∀ x,foldedSetIterable iter X.env x=pure x:=by intro _;rfl):PS X (.For tg iter body [] pos) (kU wi g tb):=by
 intro pins s σ H D I h
 refine wpAny_For (thn (hi pins s σ H _ I h) fun v s1 h1=>thn h1 fun itv s2 h2=>?_) hs
 obtain ⟨it,fp,tn,J,H2,e,I2,T,st2,f2,W,⟨m0,w0⟩,turn⟩:=h2
 subst e
 have stat:∀ {H':Hp},(∀ b∈fp,H' b=none)→∀ b∈fp,sS X pins H' b:=fun hn b hb=>⟨hn b hb,(f2 b hb).2⟩
 refine codeAny_forLoop_any (fun n s'=>∃ i σ' H',Inv X pins σ' H' s'∧tn i s'.heap∧(∀ b∈fp,H' b=none)∧W i n σ' H') ?_ m0 ⟨0,σ,H2,I2,st2,fun b hb=>(f2 b hb).1,w0⟩
 rintro n s3 ⟨i,σ3,H3,I3,st3,fr3,w3⟩
 rcases turn i n σ3 H3 w3 with ⟨stop,qn⟩ | ⟨go,N,hN,step⟩
 ·refine wpAny_passesOwn hp (thn (T.done X rfl rfl rfl hc i pins s3 σ3 H3 X.xe I3 (stat fr3) st3 stop) fun r s4 ⟨hr,I4⟩=>?_)
  subst hr
  exact wpAny_execs_nil ⟨σ3,H3,I4,qn⟩
 ·refine wpAny_passesOwn hp (thn (T.item X rfl rfl rfl hc i pins s3 σ3 H3 X.xe I3 (stat fr3) st3 go) fun r s4 ⟨u,hr,h4⟩=>?_)
  subst hr
  refine wpAny_passesOwn hp (thn h4 fun _ s5 ⟨x,H5,I5,r5,y5,st5,fr5⟩=>?_)
  have I5':=I5.pinned (stat fr5) (T.obj _ _ st5)
  refine wpAny_passesOwn hp (thn (hg _ s5 σ3 H5 x u _ I5' r5 (step x H5 y5)) fun _ s6 ⟨σ6,H6,I6,q6⟩=>?_)
  refine wpAny_passesOwn hp (thn (hb _ s6 σ6 H6 _ I6 q6) fun f s7 q7=>?_)
  have again:∀ {σ7:St} {H7:Hp},Inv X (pins++rN fp s5.heap) σ7 H7 s7→N σ7 H7→∃ m,m<n∧∃ i σ' H',Inv X pins σ' H' s7∧tn i s7.heap∧(∀ b∈fp,H' b=none)∧W i m σ' H':=fun {σ7 H7} I7 n7=>by
   obtain ⟨m',hm,w7⟩:=hN σ7 H7 n7
   refine ⟨m',hm,i+1,σ7,H7,I7.unpinned,T.keep _ _ _ st5 fun b hb o e=>(I7.pin (b,o) (List.mem_append_right _ (List.mem_append_right _ (iQ hb e)))).1,fun b hb=>?_,w7⟩
   obtain ⟨o,e,d⟩:=T.obj _ _ st5 b hb
   exact (I7.pin (b,o) (List.mem_append_right _ (List.mem_append_right _ (iQ hb e)))).2.1
  cases f with
  | next=>obtain ⟨σ7,H7,I7,n7⟩:=q7;exact again I7 n7
  | cont=>obtain ⟨σ7,H7,I7,n7⟩:=q7;exact again I7 n7
  | brk=>obtain ⟨σ7,H7,I7,q7⟩:=q7;exact ⟨σ7,H7,I7.unpinned,q7⟩
  | ret v=>obtain ⟨x7,σ7,H7,I7,r7,q7⟩:=q7;exact ⟨x7,σ7,H7,I7.unpinned,r7,q7⟩
end
theorem uF {K:PySem.W.Frag}{a:Addr}{xs:List V}{g:TG}{tb:TS}{D:lG}{σ:St}{H:Hp}(Pv:Nat→St→Hp→Prop)(h0:Pv 0 σ H)(hl:∀ i σ H,i≤xs.length→Pv i σ H→SqL K H a xs)
  (hs:∀ i x σ H,xs[i]?=some x→Pv i σ H→g x σ H fun σ2 H2=>tb { D with nx:=Pv (i+1),ct:=Pv (i+1),bk:=D.nx } σ2 H2) (hd:∀ σ H,Pv xs.length σ H→D.nx σ H) :
  ∃ W:Nat→Nat→St→Hp→Prop,(∃ m,W 0 m σ H)∧∀ i m σ H,W i m σ H →
   ((Itl K a).stop i H∧D.nx σ H)∨((Itl K a).go i H∧∃ N:St→Hp→Prop,(∀ σ' H',N σ' H'→∃ m',m'<m∧W (i+1) m' σ' H')∧∀ x H',(Itl K a).yld i H x H'→g x σ H' fun σ2 H2=>tb { D with nx:=N,ct:=N,bk:=D.nx } σ2 H2):=by
 refine ⟨fun i m σ H=>m=xs.length - i∧i≤xs.length∧Pv i σ H,⟨xs.length,by simp,Nat.zero_le _,h0⟩,?_⟩
 rintro i m σ H ⟨rfl,hi,p⟩
 have q:=hl i σ H hi p
 by_cases hlt:i<xs.length
 ·refine .inr ⟨⟨xs,xs[i],q,by simp [hlt]⟩,Pv (i+1),fun σ' H' p'=>⟨xs.length - (i+1),by omega,rfl,hlt,p'⟩,fun x H' y=>?_⟩
  obtain ⟨e,y⟩:=y
  subst e
  exact hs i x σ _ (y xs q) p
 ·have e:i=xs.length:=by omega
  subst e
  exact .inl ⟨⟨xs,q,Nat.le_refl _⟩,hd σ H p⟩
theorem nD {K:PySem.W.Frag}{a:Addr}{xs:List V}{g:TG}{tb:TS}{D:lG}{σ:St}{H:Hp}(Pv:Nat→St→Hp→Prop)(h0:Pv 0 σ H)(hl:∀ i σ H,i≤xs.length→Pv i σ H→SqT K H a xs)
  (hs:∀ i x σ H,xs[i]?=some x→Pv i σ H→g x σ H fun σ2 H2=>tb { D with nx:=Pv (i+1),ct:=Pv (i+1),bk:=D.nx } σ2 H2) (hd:∀ σ H,Pv xs.length σ H→D.nx σ H) :
  ∃ W:Nat→Nat→St→Hp→Prop,(∃ m,W 0 m σ H)∧∀ i m σ H,W i m σ H →
   ((Itt K a).stop i H∧D.nx σ H)∨((Itt K a).go i H∧∃ N:St→Hp→Prop,(∀ σ' H',N σ' H'→∃ m',m'<m∧W (i+1) m' σ' H')∧∀ x H',(Itt K a).yld i H x H'→g x σ H' fun σ2 H2=>tb { D with nx:=N,ct:=N,bk:=D.nx } σ2 H2):=by
 refine ⟨fun i m σ H=>m=xs.length - i∧i≤xs.length∧Pv i σ H,⟨xs.length,by simp,Nat.zero_le _,h0⟩,?_⟩
 rintro i m σ H ⟨rfl,hi,p⟩
 have q:=hl i σ H hi p
 by_cases hlt:i<xs.length
 ·refine .inr ⟨⟨xs,xs[i],q,by simp [hlt]⟩,Pv (i+1),fun σ' H' p'=>⟨xs.length - (i+1),by omega,rfl,hlt,p'⟩,fun x H' y=>?_⟩
  obtain ⟨e,y⟩:=y
  subst e
  exact hs i x σ _ (y xs q) p
 ·have e:i=xs.length:=by omega
  subst e
  exact .inl ⟨⟨xs,q,Nat.le_refl _⟩,hd σ H p⟩
theorem bV {lo:Int}{n:Nat}{g:TG}{tb:TS}{D:lG}{σ:St}{H:Hp}(Pv:Nat→St→Hp→Prop)(h0:Pv 0 σ H)
  (hs:∀ i σ H,i<n→Pv i σ H→g (.int (lo+i)) σ H fun σ2 H2=>tb { D with nx:=Pv (i+1),ct:=Pv (i+1),bk:=D.nx } σ2 H2) (hd:∀ σ H,Pv n σ H→D.nx σ H) :
  ∃ W:Nat→Nat→St→Hp→Prop,(∃ m,W 0 m σ H)∧∀ i m σ H,W i m σ H →
   ((Itr lo n).stop i H∧D.nx σ H)∨((Itr lo n).go i H∧∃ N:St→Hp→Prop,(∀ σ' H',N σ' H'→∃ m',m'<m∧W (i+1) m' σ' H')∧∀ x H',(Itr lo n).yld i H x H'→g x σ H' fun σ2 H2=>tb { D with nx:=N,ct:=N,bk:=D.nx } σ2 H2):=by
 refine ⟨fun i m σ H=>m=n - i∧i≤n∧Pv i σ H,⟨n,by simp,Nat.zero_le _,h0⟩,?_⟩
 rintro i m σ H ⟨rfl,hi,p⟩
 by_cases hlt:i<n
 ·refine .inr ⟨hlt,Pv (i+1),fun σ' H' p'=>⟨n - (i+1),by omega,rfl,hlt,p'⟩,fun x H' y=>?_⟩
  obtain ⟨e,y⟩:=y
  subst e y
  exact hs i σ _ hlt p
 ·have e:i=n:=by omega
  subst e
  exact .inl ⟨Nat.le_refl _,hd σ H p⟩
end L2
namespace L2
open PySem PySem.Spec PyProof.Rows
noncomputable abbrev R2:=V→V→Hp→VK→Prop
noncomputable def OpR (X:Cx) (f:Value→Value→Sem Value) (r:R2):Prop:=
 ∀ (pins:List (Addr × Obj)) (s:Shared) (σ:St) (H:Hp) (x y:V) (v u:Value) (Q:VK),Inv X pins σ H s→RelV x v→RelV y u→r x y H Q →
  wpAny (model X.prog X.w) X.A (f v u) (EP X pins σ Q) X.xe s
noncomputable def UnR (X:Cx) (f:Value→Sem Value) (r:V→Hp→VK→Prop):Prop:=
 ∀ (pins:List (Addr × Obj)) (s:Shared) (σ:St) (H:Hp) (x:V) (v:Value) (Q:VK),Inv X pins σ H s→RelV x v→r x H Q →
  wpAny (model X.prog X.w) X.A (f v) (EP X pins σ Q) X.xe s
noncomputable def CallR (X:Cx) (f:Value) (r:List V→Hp→VK→Prop):Prop:=
 ∀ (pins:List (Addr × Obj)) (s:Shared) (σ:St) (H:Hp) (xs:List V) (us:List Value) (Q:VK),Inv X pins σ H s→Vals xs us→r xs H Q →
  wpAny (model X.prog X.w) X.A (call f us) (EP X pins σ Q) X.xe s
noncomputable def aGk (X:Cx) (r:V→Hp→(Bool→Hp→Prop)→Prop):Prop:=
 ∀ (pins:List (Addr × Obj)) (s:Shared) (σ:St) (H:Hp) (x:V) (v:Value) (Q:Bool→Hp→Prop),Inv X pins σ H s→RelV x v→r x H Q →
  wpAny (model X.prog X.w) X.A (truthy v) (TP X pins σ Q) X.xe s
noncomputable def tOp (r:R2) (ta tb:TE):TE:=fun σ H Q=>ta σ H fun x H1=>tb σ H1 fun y H2=>r x y H2 Q
noncomputable def tUn (r:V→Hp→VK→Prop) (ta:TE):TE:=fun σ H Q=>ta σ H fun x H1=>r x H1 Q
noncomputable def rI (C:Int→Int→Prop) (g:Int→Int→V):R2:=fun x y H Q=>∃ i j,x = .int i∧y = .int j∧C i j∧Q (g i j) H
inductive aFE (g:Int→Int→V) (x y:V) (H:Hp) (Q:VK):Prop
 | mk (i j:Int) (hx:x = .int i) (hy:y = .int j) (q:Q (g i j) H):aFE g x y H Q
noncomputable def rI0 (g:Int→Int→V):R2:=fun x y H Q=>aFE g x y H Q
noncomputable def rU (g:Int→V):V→Hp→VK→Prop:=fun x H Q=>∃ i,x = .int i∧Q (g i) H
section
variable {X:Cx}{a b c:Expr}{ta tb tc:TE}{pos:Pos}
theorem aFu (ha:PE X a ta)(hb:PE X b tb){pins:List (Addr × Obj)}{s:Shared}{σ:St}{H:Hp}{R:V→V→Hp→Prop}(I:Inv X pins σ H s)
  (h:ta σ H fun x H1=>tb σ H1 fun y H2=>R x y H2) {Q:Value→Shared→Prop} {f:Value→Value→Sem Value}
  (hf:∀ v u s2 x y H2,Inv X pins σ H2 s2→RelV x v→RelV y u→R x y H2→wpAny (model X.prog X.w) X.A (f v u) Q X.xe s2) :
  wpAny (model X.prog X.w) X.A (eval a X.env) (fun v s₁=>wpAny (model X.prog X.w) X.A (eval b X.env) (fun u s₂=>wpAny (model X.prog X.w) X.A (f v u) Q X.xe s₂) X.xe s₁) X.xe s:=by
 refine thn (ha pins s σ H _ I h) fun v s1 ⟨x,H1,I1,r1,q1⟩=>?_
 refine thn (hb pins s1 σ H1 _ I1 q1) fun u s2 ⟨y,H2,I2,r2,q2⟩=>?_
 exact hf v u s2 x y H2 I2 r1 r2 q2
theorem aZ {op:Operator}{r:R2}(ho:OpR X (binaryOp op) r)(ha:PE X a ta)(hb:PE X b tb):PE X (.BinOp a op b pos) (tOp r ta tb):=by
 intro pins s σ H Q I h
 exact wpAny_BinOp (aFu ha hb I h fun v u s2 x y H2 I2 rx ry q=>ho pins s2 σ H2 x y v u Q I2 rx ry q)
theorem aBL {op:UnaryOp}{r:V→Hp→VK→Prop}(ho:UnR X (unaryOp op) r)(ha:PE X a ta):PE X (.UnaryOp op a pos) (tUn r ta):=by
 intro pins s σ H Q I h
 exact UnaryOp_ (thn (ha pins s σ H _ I h) fun v s1 ⟨x,H1,I1,r1,q1⟩=>ho pins s1 σ H1 x v Q I1 r1 q1)
theorem opI {f:Value→Value→Sem Value}{C:Int→Int→Prop}{g:Int→Int→Int}
  (rule:∀ (i j:Int) (t u:Tok) (s:Shared) (Q:Value→Shared→Prop) (E:Value→Shared→Prop),C i j→Q (.int (g i j) s.toks) { s with toks:=s.toks+1 }→wpAny (model X.prog X.w) X.A (f (.int i t) (.int j u)) Q E s) :
  OpR X f (rI C fun i j => .int (g i j)):=by
 intro pins s σ H x y v u Q I rx ry h
 obtain ⟨i,j,rfl,rfl,hc,q⟩:=h
 obtain ⟨t,rfl⟩:=rx
 obtain ⟨t',rfl⟩:=ry
 exact rule i j t t' s _ _ hc ⟨.int (g i j),H,I.tok _,⟨_,rfl⟩,q⟩
theorem aFJ {f:Value→Value→Sem Value}{g:Int→Int→Int}
  (rule:∀ (i j:Int) (t u:Tok) (s:Shared) (Q:Value→Shared→Prop) (E:Value→Shared→Prop),Q (.int (g i j) s.toks) { s with toks:=s.toks+1 }→wpAny (model X.prog X.w) X.A (f (.int i t) (.int j u)) Q E s) :
  OpR X f (rI0 fun i j => .int (g i j)):=by
 intro pins s σ H x y v u Q I rx ry h
 obtain ⟨i,j,rfl,rfl,q⟩:=h
 obtain ⟨t,rfl⟩:=rx
 obtain ⟨t',rfl⟩:=ry
 exact rule i j t t' s _ _ ⟨.int (g i j),H,I.tok _,⟨_,rfl⟩,q⟩
theorem aEk {f:Value→Value→Sem Value}{g:Int→Int→Bool}
  (rule:∀ (i j:Int) (t u:Tok) (s:Shared) (Q:Value→Shared→Prop) (E:Value→Shared→Prop),Q (.bool (g i j)) s→wpAny (model X.prog X.w) X.A (f (.int i t) (.int j u)) Q E s) :
  OpR X f (rI0 fun i j => .bl (g i j)):=by
 intro pins s σ H x y v u Q I rx ry h
 obtain ⟨i,j,rfl,rfl,q⟩:=h
 obtain ⟨t,rfl⟩:=rx
 obtain ⟨t',rfl⟩:=ry
 exact rule i j t t' s _ _ ⟨.bl (g i j),H,I,rfl,q⟩
noncomputable def aFQ (i j:Int):Prop:=0<j∧j<1073741824
noncomputable def aFN (i j:Int):Prop:=0≤j∧j≤1000000∧i.natAbs<2 ^ 64
noncomputable def CMul (i j:Int):Prop:=(-(2 ^ 64)<i∧i<2 ^ 64)∨(-(2 ^ 64)<j∧j<2 ^ 64)
theorem CMul.ok {i j:Int}(h:CMul i j):IntMulOk i j:=by
 rcases h with ⟨h1,h2⟩ | ⟨h1,h2⟩
 ·exact .of_left (intBits_le_64 h1 h2)
 ·exact .of_right (intBits_le_64 h1 h2)
theorem aDc:OpR X (binaryOp .Add) (rI0 fun i j => .int (i+j)):=aFJ fun _ _ _ _ _ _ _ q=>add_int q
theorem kE:OpR X (binaryOp .Sub) (rI0 fun i j => .int (i - j)):=aFJ fun _ _ _ _ _ _ _ q=>sub_int q
theorem aBi:OpR X (binaryOp .Mult) (rI CMul fun i j => .int (i*j)):=opI fun _ _ _ _ _ _ _ hc q=>mul_int q hc.ok
theorem yC:OpR X (binaryOp .FloorDiv) (rI aFQ fun i j => .int (i / j)):=opI fun i j _ _ _ _ _ hc q=>by
 have h1:(0:Int)<j:=hc.1
 have h2:j<1073741824:=hc.2
 exact floordiv_int (by omega) (by rw [Int.fdiv_eq_ediv_of_nonneg i (by omega)];exact q) (.inl (PyProof.noPylong_small (by omega)))
theorem gO:OpR X (binaryOp .Mod) (rI (fun _ j=>0<j) fun i j => .int (i % j)):=opI fun i j _ _ _ _ _ hc q=>by
 have h1:(0:Int)<j:=hc
 exact mod_int' (by omega) (by rw [Int.fmod_eq_emod_of_nonneg i (by omega)];exact q)
theorem aDN:OpR X (binaryOp .Pow) (rI aFN fun i j => .int (i ^ j.toNat)):=opI fun _ _ _ _ _ _ _ hc q=>pow_int_small hc.1 hc.2.1 hc.2.2 q
theorem unI {f:Value→Sem Value}{g:Int→Int}
  (rule:∀ (i:Int) (t:Tok) (s:Shared) (Q:Value→Shared→Prop) (E:Value→Shared→Prop),Q (.int (g i) s.toks) { s with toks:=s.toks+1 }→wpAny (model X.prog X.w) X.A (f (.int i t)) Q E s) :
  UnR X f (rU fun i => .int (g i)):=by
 intro pins s σ H x v Q I rx h
 obtain ⟨i,rfl,q⟩:=h
 obtain ⟨t,rfl⟩:=rx
 exact rule i t s _ _ ⟨.int (g i),H,I.tok _,⟨_,rfl⟩,q⟩
theorem wZ:UnR X (unaryOp .USub) (rU fun i => .int (-i)):=unI fun _ _ _ _ _ q=>neg_int q
end
section
variable {X:Cx}{a b c:Expr}{ta tb tc:TE}{pos:Pos}
theorem aBo {pins:List (Addr × Obj)}{σ:St}{H:Hp}{s:Shared}{Q:VK}{k k':Bool}(I:Inv X pins σ H s)(q:Q (.bl k) H)(e:k=k'):EP X pins σ Q (.bool k') s:=by
 subst e
 exact ⟨.bl k,H,I,rfl,q⟩
theorem rV:OpR X (compareOp .Lt) (rI0 fun i j => .bl (decide (i<j))):=aEk fun _ _ _ _ _ _ _ q=>lt_int q
theorem aAX:OpR X (compareOp .LtE) (rI0 fun i j => .bl (decide (i≤j))):=aEk fun _ _ _ _ _ _ _ q=>le_int q
theorem lJ:OpR X (compareOp .Gt) (rI0 fun i j => .bl (decide (j<i))):=aEk fun _ _ _ _ _ _ _ q=>gt_int q
theorem aBV:OpR X (compareOp .GtE) (rI0 fun i j => .bl (decide (j≤i))):=aEk fun _ _ _ _ _ _ _ q=>ge_int q
theorem aBE:OpR X (compareOp .IsNot) (fun x y H Q=>y = .non∧Q (.bl (!decide (x = .non))) H):=by
 intro pins s σ H x y v u Q I rx ry h
 obtain ⟨rfl,q⟩:=h
 cases ry
 refine isnot_none_gen (aBo I q ?_)
 cases x <;> first
  | (cases rx;rfl)
  | (obtain ⟨t,rfl⟩:=rx;rfl)
theorem OpR.or {f:Value→Value→Sem Value}{r r':R2}(h:OpR X f r)(h':OpR X f r'):OpR X f (fun x y H Q=>r x y H Q∨r' x y H Q):=by
 intro pins s σ H x y v u Q I rx ry q
 rcases q with q | q
 ·exact h pins s σ H x y v u Q I rx ry q
 ·exact h' pins s σ H x y v u Q I rx ry q
theorem bN (b:Expr){op:CmpOp}(h:op ≠ .In:=by decide)(h2:op ≠ .NotIn:=by decide):behindInMarks op b=false:=by
 have e1:(op == CmpOp.In)=false:=by cases op <;> first | rfl | exact absurd rfl h
 have e2:(op == CmpOp.NotIn)=false:=by cases op <;> first | rfl | exact absurd rfl h2
 cases b <;> simp [behindInMarks,e1,e2]
theorem eE {op:CmpOp}{r:R2}(ho:OpR X (compareOp op) r)(ha:PE X a ta)(hb:PE X b tb)(hm:behindInMarks op b=false):PE X (.Compare a [op] [b] pos) (tOp r ta tb):=by
 intro pins s σ H Q I h
 exact wpAny_Compare1 (aFu ha hb I h fun v u s2 x y H2 I2 rx ry q=>ho pins s2 σ H2 x y v u Q I2 rx ry q) hm
inductive TBP (x:V) (H:Hp) (Q:Bool→Hp→Prop):Prop
 | mk (k:Bool) (e:x = .bl k) (q:Q k H):TBP x H Q
noncomputable def cM (t:TE):TT:=fun σ H Q=>t σ H fun x H'=>TBP x H' Q
theorem bO {op:CmpOp}{r:R2}(ho:OpR X (compareOp op) r)(ha:PE X a ta)(hb:PE X b tb)(hm:behindInMarks op b=false):PT X (.Compare a [op] [b] pos) (cM (tOp r ta tb)):=by
 intro pins s σ H Q I h
 refine wpAny_isTrue_Compare1 (thn (ha pins s σ H _ I h) fun v s1 ⟨x,H1,I1,r1,q1⟩=>thn (hb pins s1 σ H1 _ I1 q1) fun u s2 ⟨y,H2,I2,r2,q2⟩=>
  thn (ho pins s2 σ H2 x y v u _ I2 r1 r2 q2) fun c s3 ⟨z,H3,I3,r3,k,e,q3⟩=>?_) hm
 subst e
 cases r3
 exact wpAny_truthy_bool ⟨H3,I3,q3⟩
noncomputable def uH (r r':R2) (ta tb tc:TE):TE:=fun σ H Q=>ta σ H fun x H1=>tb σ H1 fun y H2=>r x y H2 fun z H3=>∃ k,z = .bl k ∧
 (if k=true then tc σ H3 fun w' H4=>r' y w' H4 Q else Q (.bl false) H3)
theorem aAD {op op':CmpOp}{r r':R2}(ho:OpR X (compareOp op) r)(ho':OpR X (compareOp op') r')(ha:PE X a ta)(hb:PE X b tb)(hc:PE X c tc)
  (hm:lastMarks [op,op'] [b,c]=false:=by with_unfolding_all rfl):PE X (.Compare a [op,op'] [b,c] pos) (uH r r' ta tb tc):=by
 intro pins s σ H Q I h
 refine Compare_chain (thn (ha pins s σ H _ I h) fun v s1 ⟨x,H1,I1,r1,q1⟩=>chain_link (thn (hb pins s1 σ H1 _ I1 q1) fun u s2 ⟨y,H2,I2,r2,q2⟩=>
  thn (ho pins s2 σ H2 x y v u _ I2 r1 r2 q2) fun d s3 ⟨z,H3,I3,r3,k,e,q3⟩=>?_)) hm
 subst e
 cases r3
 refine wpAny_truthy_bool ?_
 cases k with
 | false=>exact ite_ff ⟨.bl false,H3,I3,rfl,q3⟩
 | true=>exact ite_tt (chain_last (thn (hc pins s3 σ H3 _ I3 q3) fun w' s4 ⟨z',H4,I4,r4,q4⟩=>ho' pins s4 σ H4 y z' u w' Q I4 r2 r4 q4))
theorem aAp {op op':CmpOp}{r r':R2}(ho:OpR X (compareOp op) r)(ho':OpR X (compareOp op') r')(ha:PE X a ta)(hb:PE X b tb)(hc:PE X c tc)
  (hm:lastMarks [op,op'] [b,c]=false:=by with_unfolding_all rfl):PT X (.Compare a [op,op'] [b,c] pos) (cM (uH r r' ta tb tc)):=by
 intro pins s σ H Q I h
 refine isTrue_chain (thn (ha pins s σ H _ I h) fun v s1 ⟨x,H1,I1,r1,q1⟩=>test_link (thn (hb pins s1 σ H1 _ I1 q1) fun u s2 ⟨y,H2,I2,r2,q2⟩=>
  thn (ho pins s2 σ H2 x y v u _ I2 r1 r2 q2) fun d s3 ⟨z,H3,I3,r3,k,e,q3⟩=>?_)) hm
 subst e
 cases r3
 refine wpAny_truthy_bool ?_
 cases k with
 | false=>
  obtain ⟨k',e',q'⟩:=q3
  cases e'
  exact ite_ff ⟨H3,I3,q'⟩
 | true=>
  refine ite_tt (test_last (thn (hc pins s3 σ H3 _ I3 q3) fun w' s4 ⟨z',H4,I4,r4,q4⟩=>thn (ho' pins s4 σ H4 y z' u w' _ I4 r2 r4 q4) fun d' s5 ⟨z2,H5,I5,r5,k2,e2,q5⟩=>?_))
  subst e2
  cases r5
  exact wpAny_truthy_bool ⟨H5,I5,q5⟩
noncomputable def aFy (K:PySem.W.Frag) (x:V) (H:Hp) (k:Bool):Prop:=
 match x with
 | .non=>k=false
 | .bl b=>k=b
 | .int i=>k=(i != 0)
 | .str y=>y.length≤sizeLine∧k=((y.length:Int) != 0)
 | .byt y=>y.size≤sizeLine∧k=((y.size:Int) != 0)
 | .ref p=>(∃ xs,SqL K H p xs∧k = !xs.isEmpty)∨(∃ xs,SqT K H p xs∧k = !xs.isEmpty)∨∃ kvs,H p=some (.dK kvs)∧k = !kvs.isEmpty
 | _=>False
theorem wP {κ:Type}{kvs:List (κ × V)}{vs:List (κ × Value)}(r:KV kvs vs):(!vs.isEmpty) = !kvs.isEmpty:=by
 cases r <;> rfl
theorem pB {xs:List V}{its:List Value}(r:Vals xs its):(!its.toArray.isEmpty) = !xs.isEmpty:=by
 cases r <;> simp
theorem qZ:(sizeLine:Nat)<2 ^ 63:=by rw [sizeLine_eq];decide
theorem aCT:aGk X (fun x H Q=>∃ k,aFy X.K x H k∧Q k H):=by
 intro pins s σ H x v Q I rx h
 obtain ⟨k,e,q⟩:=h
 have hl:=qZ
 have hs:sizeLine=16777216:=sizeLine_eq
 cases x with
 | non=>
  cases rx
  have e':k=false:=e
  subst e'
  exact truthy_none ⟨H,I,q⟩
 | bl b=>
  cases rx
  have e':k=b:=e
  subst e'
  exact wpAny_truthy_bool ⟨H,I,q⟩
 | int i=>
  obtain ⟨t,rfl⟩:=rx
  have e':k=(i != 0):=e
  subst e'
  exact PySem.P.truthy_int ⟨H,I,q⟩
 | str y=>
  obtain ⟨t,rfl⟩:=rx
  obtain ⟨hy,e'⟩:y.length≤sizeLine∧k=((y.length:Int) != 0):=e
  subst e'
  exact PySem.P.truthy_str (by omega) ⟨H,I.tok _,q⟩
 | byt y=>
  obtain ⟨t,rfl⟩:=rx
  obtain ⟨hy,e'⟩:y.size≤sizeLine∧k=((y.size:Int) != 0):=e
  subst e'
  exact PySem.W.truthy_bytes (by omega) ⟨H,I.tok _,q⟩
 | ref p=>
  cases rx
  have e':(∃ xs,SqL X.K H p xs∧k = !xs.isEmpty)∨(∃ xs,SqT X.K H p xs∧k = !xs.isEmpty)∨∃ kvs,H p=some (.dK kvs)∧k = !kvs.isEmpty:=e
  rcases e' with ⟨xs,hx,e'⟩ | ⟨xs,hx,e'⟩ | ⟨kvs,hx,e'⟩
  ·subst e'
   obtain ⟨its,r,pl,hz⟩:=I.list hx
   have hlen:=r.length
   exact wpAny_truthy_list pl.isList (by simp only [List.size_toArray];omega) ⟨H,I.tok _,by rw [pB r];exact q⟩
  ·subst e'
   obtain ⟨its,r,pl,hz⟩:=I.tuple hx
   have hlen:=r.length
   exact truthy_tuple pl (by simp only [List.size_toArray];omega) ⟨H,I.tok _,by rw [pB r];exact q⟩
  ·subst e'
   obtain ⟨hz,hS,vs,r,m⟩:kvs.length≤sizeLine∧(p == sysModules)=false∧∃ vs,KV kvs vs∧s.heap.DictOf (cO X.prog X.w) p vs:=I.hok p _ hx
   have hlen:kvs.length=vs.length:=Paired.length r
   exact wpAny_truthy_dict hS m (by omega) ⟨H,I.tok _,by rw [wP r];exact q⟩
 | _=>exact (show False from e).elim
theorem aAC (ha:PE X a ta)(he:∀ whole,isTrue a X.env whole=(do let v ← whole;standAt a.pos;holding [v] (truthy v))) :
  PT X a (fun σ H Q=>ta σ H fun x H'=>∃ k,aFy X.K x H' k∧Q k H'):=by
 intro pins s σ H Q I h
 exact isTrue_plain (thn (ha pins s σ H _ I h) fun v s1 ⟨x,H1,I1,r1,q1⟩=>aCT pins s1 σ H1 x v Q I1 r1 q1) (he _)
theorem vW:OpR X (binaryOp .Add) (fun x y H Q=>∃ i j,x = .str i∧y = .str j∧i.length+j.length≤sizeLine∧Q (.str (i++j)) H):=by
 intro pins s σ H x y v u Q I rx ry h
 obtain ⟨i,j,rfl,rfl,hz,q⟩:=h
 obtain ⟨t,rfl⟩:=rx
 obtain ⟨t',rfl⟩:=ry
 exact add_str (fun t' tk=>⟨.str (i++j),H,I.tok _,⟨_,rfl⟩,q⟩) hz
theorem rF {x:V}{us:List Value}(r:Vals [x] us):∃ u,us=[u]∧RelV x u:=by
 cases r with
 | cons r1 r2=>cases r2;exact ⟨_,rfl,r1⟩
theorem aDY {x y:V}{us:List Value}(r:Vals [x,y] us):∃ u w',us=[u,w']∧RelV x u∧RelV y w':=by
 cases r with
 | cons r1 r2=>
  cases r2 with
  | cons r3 r4=>cases r4;exact ⟨_,_,rfl,r1,r3⟩
theorem aBa:CallR X (.builtin "abs") (fun xs H Q=>∃ i,xs=[.int i]∧Q (.int (if i<0 then -i else i)) H):=by
 intro pins s σ H xs us Q I r h
 obtain ⟨i,rfl,q⟩:=h
 obtain ⟨u,rfl,t,rfl⟩:=rF r
 exact call_abs_int fun u tk=>⟨.int (if i<0 then -i else i),H,I.tok _,⟨_,rfl⟩,q⟩
theorem yK (hc:X.calm=true):CallR X (.builtin "max") (fun xs H Q=>∃ i j,xs=[.int i, .int j]∧Q (.int (if j > i then j else i)) H):=by
 intro pins s σ H xs us Q I r h
 obtain ⟨i,j,rfl,q⟩:=h
 obtain ⟨u,w',rfl,⟨t,rfl⟩,⟨t',rfl⟩⟩:=aDY r
 refine max_two_ints (I.ok.hd hc) fun h' tk k=>⟨_,H,I.kept k,?_,q⟩
 by_cases hj:j > i
 ·rw [if_pos hj,if_pos hj];exact ⟨_,rfl⟩
 ·rw [if_neg hj,if_neg hj];exact ⟨_,rfl⟩
theorem wU (hc:X.calm=true):CallR X (.builtin "min") (fun xs H Q=>∃ i j,xs=[.int i, .int j]∧Q (.int (if j<i then j else i)) H):=by
 intro pins s σ H xs us Q I r h
 obtain ⟨i,j,rfl,q⟩:=h
 obtain ⟨u,w',rfl,⟨t,rfl⟩,⟨t',rfl⟩⟩:=aDY r
 refine min_two_ints (I.ok.hd hc) fun h' tk k=>⟨_,H,I.kept k,?_,q⟩
 by_cases hj:j<i
 ·rw [if_pos hj,if_pos hj];exact ⟨_,rfl⟩
 ·rw [if_neg hj,if_neg hj];exact ⟨_,rfl⟩
theorem yV:CallR X (.type "int") (fun xs H Q=>(∃ i,xs=[.int i]∧Q (.int i) H)∨∃ k,xs=[.bl k]∧Q (.int (if k then 1 else 0)) H):=by
 intro pins s σ H xs us Q I r h
 rcases h with ⟨i,rfl,q⟩ | ⟨k,rfl,q⟩
 ·obtain ⟨u,rfl,t,rfl⟩:=rF r
  exact call_int_int ⟨.int i,H,I,⟨_,rfl⟩,q⟩
 ·obtain ⟨u,rfl,r1⟩:=rF r
  cases r1
  exact call_int_bool ⟨.int (if k then 1 else 0),H,I.tok _,⟨_,rfl⟩,q⟩
end
end L2
namespace L2
open PySem PySem.Spec PyProof.Rows
section
variable {prog:Program}{w:World}{A:Around}{E:Value→Shared→Prop}{s:Shared}{K:PySem.W.Frag}{x dx C f:Addr}{mA:Str→Option Value}{name:Str}{v:Value}
end
theorem RelO.some_of {v:V}{o:Option Value}(r:RelO (some v) o):∃ u,o=some u∧RelV v u:=by
 cases o with
 | none=>exact (show False from r).elim
 | some u=>exact ⟨u,rfl,r⟩
section
variable {P:Program}{w:World}{H H':Hp}{h h':Heap}{a C dx:Addr}{fs fs':List (Str × V)}
end
section
variable {X:Cx}{pins:List (Addr × Obj)}{σ:St}{H:Hp}{s:Shared}{a C dx:Addr}{fs:List (Str × V)}{f:Str}{v:V}{A:Around}{E:Value→Shared→Prop}
end
section
variable {X:Cx}{o e value:Expr}{f:Str}{pos pos' tpos:Pos}{ta tv:TE}
end
section
variable {X:Cx}{pins:List (Addr × Obj)}{σ:St}{H:Hp}{s:Shared}{A:Around}{E:Value→Shared→Prop}{Q:Value→Shared→Prop}{c:Value}{b:Bool}
end
end L2
namespace L2
open PySem PySem.Spec PyProof.Rows
structure Room (k:Nat)(A:Around):Prop where
 hd:A.handled=none
 dp:A.depth+3*k+5<recursionLimit
 un:A.units+16*k+200<cLine
 gd:A.guards=some []
theorem Room.mono {j k:Nat}{A:Around}(r:Room k A)(h:j≤k):Room j A:=⟨r.hd,by have:=r.dp;omega,by have:=r.un;omega,r.gd⟩
theorem Room.deeper {k:Nat}{A:Around}(r:Room (k+1) A)(env:Env):Room k (A.deeper env):=
 ⟨r.hd,by have:=r.dp;show A.depth+1+3*k+5<_;omega,by have:=r.un;show A.units+3+16*k+200<_;omega,r.gd⟩
theorem Room.depth {k:Nat}{A:Around}(r:Room k A):A.depth<recursionLimit:=by have:=r.dp;omega
theorem Room.units {k:Nat}{A:Around}(r:Room k A):A.units+64<cLine:=by have:=r.un;omega
noncomputable def aU:TA:=fun _ H Q=>Q [] H
noncomputable def aC (ta:TE) (tr:TA):TA:=fun σ H Q=>ta σ H fun x H1=>tr σ H1 fun xs H2=>Q (x :: xs) H2
section
variable {X:Cx}{e:Expr}{es:List Expr}{te:TE}{t:TA}{pos:Pos}
theorem aF:PA X [] aU:=fun _ _ _ _ H Q I h=>Calls.spliced_nil ⟨[],H,I, .nil,h⟩
theorem cL (ha:PE X e te)(hr:PA X es t)(hs:starEach (e :: es) X.env=(false,eval e X.env) :: starEach es X.env:=by rfl):PA X (e :: es) (aC te t):=by
 intro pos pins s σ H Q I h
 rw [hs]
 show wpAny _ _ (spliced ((false,eval e X.env) :: backTo pos (starEach es X.env))) _ _ s
 refine Calls.spliced_cons (thn (ha pins s σ H _ I h) fun u s1 ⟨x,H1,I1,r1,q1⟩=>?_)
 exact thn (hr pos pins s1 σ H1 _ I1 q1) fun us s2 ⟨xs,H2,I2,r2,q2⟩=>⟨x :: xs,H2,I2, .cons r1 r2,q2⟩
noncomputable def oJ (t:TA):TE:=fun σ H Q=>t σ H fun xs H1=>xs.length≤sizeLine∧∀ p,H1 p=none→Q (.ref p) (upd H1 p (.tup xs))
noncomputable def vB (t:TA):TE:=fun σ H Q=>t σ H fun xs H1=>xs.length≤sizeLine∧∀ p,H1 p=none→Q (.ref p) (upd H1 p (.lst xs))
theorem dP {x1}(h:PA X es t):PE X (.Tuple es x1 pos) (oJ t):=by
 intro pins s σ H Q I hq
 refine wpAny_Tuple_spliced (thn (h pos pins s σ H _ I hq) fun us s1 ⟨xs,H1,I1,r,z,q⟩=>⟨by rw [← r.length];exact z,?_⟩)
 have hf:H1 s1.heap.objs.size=none:=I1.hok.fresh (Nat.le_refl _)
 refine ⟨.ref s1.heap.objs.size,upd H1 s1.heap.objs.size (.tup xs),I1.laid (t':=s1.toks) (fun b u e=>Heap.get?_push_of_some _ e) (Nat.le_refl _) ?_,rfl,q _ hf⟩
 exact ⟨z,us,r,TupN.new _ _⟩
theorem gS (h:PA X es t):PE X (.List es pos) (vB t):=by
 intro pins s σ H Q I hq
 refine wpAny_List_spliced (thn (h pos pins s σ H _ I hq) fun us s1 ⟨xs,H1,I1,r,z,q⟩=>⟨by rw [← r.length];exact z,?_⟩)
 have hf:H1 s1.heap.objs.size=none:=I1.hok.fresh (Nat.le_refl _)
 refine ⟨.ref s1.heap.objs.size,upd H1 s1.heap.objs.size (.lst xs),I1.laid (t':=s1.toks) (fun b u e=>Heap.get?_push_of_some _ e) (Nat.le_refl _) ?_,rfl,q _ hf⟩
 exact ⟨z,us,0,r,Heap.get?_push_size _ rfl⟩
end
noncomputable abbrev Sp:=List V→Hp→VK→XK→Prop
noncomputable abbrev CXT:=List Env→Hp→Shared→XK→Value→Shared→Prop
structure aEp (P:Program)(w:World)(K:PySem.W.Frag)(mg:Str→Option Value)(base:Heap)(A:Around)(outer:List Env)(s:Shared)(H:Hp):Prop where
 frames:A.frames=some outer
 mod:Mod K mg base
 bs:∀ b o,base.get? b=some o→s.heap.get? b=some o∧H b=none
 bsz:base.objs.size≤s.heap.objs.size
 funs:s.heap.FunFrames base outer
 frf:∀ b∈frs outer,H b=none
 hok:HOk P w H s.heap
 bare:AllBare s.gens
noncomputable def CE (outer:List Env) (P:Program) (w:World) (H:Hp) (s:Shared) (Q:VK) (u:Value) (s':Shared):Prop:=
 ∃ v H',s'.os=s.os∧AllBare s'.gens∧Un (frs outer) [] H H' s.heap s'.heap∧HOk P w H' s'.heap∧RelV v u∧Q v H'
noncomputable def CR (CX:CXT) (outer:List Env) (P:Program) (w:World) (H:Hp) (s:Shared) (Q:VK) (E:XK) (r:Result) (s':Shared):Prop:=
 match r with
 | .ok (.ret u)=>CE outer P w H s Q u s'
 | .ok _=>False
 | .error e=>CX outer H s E e s'
structure FnOk (P:Program)(w:World)(K:PySem.W.Frag)(mg:Str→Option Value)(base:Heap)(CX:CXT)(k:Nat)(f:Addr)(fd:FuncData)(ps:List Str)(sp:Sp):Prop where
 len:∀ vs H Q E,sp vs H Q E→vs.length=ps.length
 run:∀ (A:Around) (outer:List Env) (s:Shared) (H:Hp) (args:Args) (us:List Value) (vs:List V) (Q:VK) (E:XK),Room k A→aEp P w K mg base A outer s H→BindsTo s fd args (ps.zip us)→Vals vs us→sp vs H Q E →
  codeAny (model P w) A (.call (.ref f) args) (CR CX outer P w H s Q E) s
theorem FnOk.mono {P:Program}{w:World}{K:PySem.W.Frag}{mg:Str→Option Value}{base:Heap}{CX:CXT}{j k:Nat}{f:Addr}{fd:FuncData}{ps:List Str}{sp:Sp}(F:FnOk P w K mg base CX j f fd ps sp)(h:j≤k) :
  FnOk P w K mg base CX k f fd ps sp:=⟨F.len,fun A outer s H args us vs Q E hr=>F.run A outer s H args us vs Q E (hr.mono h)⟩
section
variable {X:Cx}{pins:List (Addr × Obj)}{σ:St}{H:Hp}{s s':Shared}
theorem Inv.env0 (I:Inv X pins σ H s):aEp X.prog X.w X.K X.mg X.base X.A X.stack s H:=
 ⟨I.ok.frames,I.ok.mod,I.bs,Nat.le_trans I.ok.bsz I.sz,I.stack,I.stkFree,I.hok,I.bare⟩
theorem Inv.after {Q:VK}{u:Value}(I:Inv X pins σ H s)(h:CE X.stack X.prog X.w H s Q u s'):EP X pins σ Q u s':=by
 obtain ⟨v,H',os,bare,un,hok,r,q⟩:=h
 obtain ⟨hh,g,d,t,os'⟩:=s'
 obtain rfl:os'=s.os:=os
 exact ⟨v,H',I.call (h':=hh) (g':=g) (d':=d) (t':=t) (ch:=[]) un hok bare (fun b z=>absurd z (by simp)),r,q⟩
end
noncomputable def bY (sp:Sp) (dvs:List V) (E:XK) (t:TA):TE:=fun σ H Q=>t σ H fun vs H1=>sp (vs++dvs) H1 Q E
noncomputable def Binds (K:PySem.W.Frag) (fd:FuncData) (ps:List Str) (ds:List Value):Prop:=
 ∀ (s:Shared) (us:List Value),K.In s.heap→(us++ds).length=ps.length→BindsTo s fd ⟨us,[]⟩ (ps.zip (us++ds))
theorem Binds.all {K:PySem.W.Frag}{fd:FuncData}{ps:List Str}(h:∀ us:List Value,us.length=ps.length→bindArgs fd ⟨us,[]⟩=pure (ps.zip us)):Binds K fd ps []:=fun s us _ hl=>by
 rw [List.append_nil] at hl ⊢
 exact .of_eq (h us hl)
noncomputable def wW (CX:CXT) (X:Cx) (E:XK):Prop:=∀ (pins:List (Addr × Obj)) (σ:St) (H:Hp) (s:Shared) (e:Value) (s':Shared),Inv X pins σ H s→CX X.stack H s E e s'→X.xe e s'
section
variable {X:Cx}{CX:CXT}{k:Nat}{f C:Addr}{fd:FuncData}{ps:List Str}{sp:Sp}{dvs:List V}{ds:List Value}{E:XK}{x m:Str}{p pos apos:Pos}{e o:Expr}{es:List Expr}{ta:TE}{t:TA}
theorem aDz {pins:List (Addr × Obj)}{σ:St}{H:Hp}{s:Shared}{Q:VK}{us:List Value}{vs:List V}(F:FnOk X.prog X.w X.K X.mg X.base CX k f fd ps sp)(hr:Room k X.A)(hb:Binds X.K fd ps ds)(hd:Vals dvs ds)(hx:wW CX X E)
  (I:Inv X pins σ H s) (r:Vals vs us) (h:sp (vs++dvs) H Q E):wpAny (model X.prog X.w) X.A (call (.ref f) us) (EP X pins σ Q) X.xe s:=by
 have r2:Vals (vs++dvs) (us++ds):=r.append hd
 have hl:(us++ds).length=ps.length:=by rw [← r2.length];exact F.len _ _ _ _ h
 refine wpAny_call (codeAny_mono (F.run X.A X.stack s H ⟨us,[]⟩ (us++ds) (vs++dvs) Q E hr I.env0 (hb s us I.kIn hl) r2 h) fun r s' hq=>?_)
 cases r with
 | error e=>exact hx pins σ H s e s' I hq
 | ok fl=>
  cases fl with
  | ret u=>exact I.after hq
  | next=>exact False.elim hq
  | brk=>exact False.elim hq
  | cont=>exact False.elim hq
theorem aCn (F:FnOk X.prog X.w X.K X.mg X.base CX k f fd ps sp)(hr:Room k X.A)(hg:Gl X x)(hm:X.mg x=some (.ref f))(hk:PySem.W.keepIn X.K (.ref f)=true)(hb:Binds X.K fd ps ds)(hd:Vals dvs ds)(hx:wW CX X E)
  (ha:PA X (e :: es) t) (hdb:(x == ("__debug__" : Str))=false:=by decide) (he:starEach (e :: es) X.env=(false,eval e X.env) :: starEach es X.env:=by rfl) (hpl:(backTo pos (starEach es X.env)).any (·.1)=false:=by rfl) :
  PE X (.Call (.Name x p) (e :: es) [] pos) (bY sp dvs E t):=by
 intro pins s σ H Q I h
 refine wpAny_Call_Name_kw (aCx I hg hm ?_ hdb)
 refine PySem.W.callWith_K (h₀:=X.base) I.ok.mod.kin hk (thn (ha pos pins s σ H _ I h) fun us s1 ⟨vs,H1,I1,r,q⟩=>⟨I1.kIn,?_⟩) he hpl
 exact aDz F hr hb hd hx I1 r q
end
section
variable {X:Cx}{CX:CXT}{k:Nat}{f C:Addr}{fd:FuncData}{ps ks:List Str}{sp:Sp}{E:XK}{x m:Str}{p pos apos kpos:Pos}{e o:Expr}{es:List Expr}{kws:List Keyword}{te ta:TE}{t tk:TA}{nm:Option Str}
variable {g:List Value→List Value→List Value}{gV:List V→List V→List V}
end
structure bU (N P:List Str)(sc:Scope):Prop where
 kind:sc.kind = .function
 co:sc.isCoroutine=false
 gen:sc.isGenerator=false
 nd:N.Nodup
 pre:N.take P.length=P
 par:∀ x∈P,sc.names.lookup x=some .local∨sc.names.lookup x=some .cell
 nofree:∀ y∈sc.names,y.2 ≠ .free
theorem sJ {kindOf:Str→Option NameKind}{x:Str}:∀ {binds:List (Str × Value)} {m:Str→Option Value},(∀ v,(x,v)∉binds)→bindL kindOf binds m x=m x
 | [],_,_=>rfl
 | (n,v) :: r,m,h=>by
  unfold bindL
  rw [sJ fun w hw=>h w (List.mem_cons_of_mem _ hw)]
  split
  ·have:x≠n:=by rintro rfl;exact h v List.mem_cons_self
   simp [this]
  ·rfl
theorem rB {kindOf:Str→Option NameKind}{x:Str}:∀ {binds:List (Str × Value)} {m:Str→Option Value},(∀ v,(x,v)∉binds)→bindC kindOf binds m x=m x
 | [],_,_=>rfl
 | (n,v) :: r,m,h=>by
  unfold bindC
  rw [rB fun w hw=>h w (List.mem_cons_of_mem _ hw)]
  split
  ·rfl
  ·have:x≠n:=by rintro rfl;exact h v List.mem_cons_self
   simp [this]
theorem rA {kindOf:Str→Option NameKind}{x:Str}{v:Value}:∀ {P:List Str} {vs:List Value} {i:Nat} {m:Str→Option Value},P.Nodup→P[i]?=some x→vs[i]?=some v→kindOf x=some .local →
  bindL kindOf (P.zip vs) m x=some v
 | [],_,_,_,_,h,_,_=>by simp at h
 | _ :: _,[],_,_,_,_,h,_=>by simp at h
 | p :: P,w :: vs,0,m,nd,h1,h2,hk=>by
  simp at h1 h2;subst h1;subst h2
  show bindL kindOf ((p,w) :: P.zip vs) m p=_
  unfold bindL
  rw [sJ fun v hv=>(List.nodup_cons.mp nd).1 (List.of_mem_zip hv).1,if_pos hk]
  simp
 | p :: P,w :: vs,i+1,m,nd,h1,h2,hk=>by
  show bindL kindOf ((p,w) :: P.zip vs) m x=_
  unfold bindL
  exact rA (i:=i) (List.nodup_cons.mp nd).2 (by simpa using h1) (by simpa using h2) hk
theorem rH {kindOf:Str→Option NameKind}{x:Str}{v:Value}:∀ {P:List Str} {vs:List Value} {i:Nat} {m:Str→Option Value},P.Nodup→P[i]?=some x→vs[i]?=some v→kindOf x≠some .local →
  bindC kindOf (P.zip vs) m x=some v
 | [],_,_,_,_,h,_,_=>by simp at h
 | _ :: _,[],_,_,_,_,h,_=>by simp at h
 | p :: P,w :: vs,0,m,nd,h1,h2,hk=>by
  simp at h1 h2;subst h1;subst h2
  show bindC kindOf ((p,w) :: P.zip vs) m p=_
  unfold bindC
  rw [rB fun v hv=>(List.nodup_cons.mp nd).1 (List.of_mem_zip hv).1,if_neg hk]
  simp
 | p :: P,w :: vs,i+1,m,nd,h1,h2,hk=>by
  show bindC kindOf ((p,w) :: P.zip vs) m x=_
  unfold bindC
  exact rH (i:=i) (List.nodup_cons.mp nd).2 (by simpa using h1) (by simpa using h2) hk
noncomputable def start (N:List Str) (vs:List V):St:=vs.map some++List.replicate (N.length - vs.length) none
noncomputable def aCK (CX:CXT) (P:Program) (w:World) (K:PySem.W.Frag) (mg:Str→Option Value) (base:Heap) (N:List Str) (qual:Str) (scope:Scope) (f:Addr) (cd:Value) (A:Around) (outer:List Env) (s:Shared) (H:Hp) (E:XK):Cx where
 prog:=P
 w:=w
 K:=K
 mg:=mg
 base:=base
 A:=A.deeper (envOfC qual scope s.heap.objs.size f cd)
 N:=N
 s₀:=s
 H₀:=H
 env:=envOfC qual scope s.heap.objs.size f cd
 outer:=outer
 stack:=envOfC qual scope s.heap.objs.size f cd :: outer
 ex:=[]
 calm:=true
 fn:=fun _=>true
 pn:=[]
 xe:=fun e s'=>wpAny (model P w) (A.deeper (envOfC qual scope s.heap.objs.size f cd)) (leaving (envOfC qual scope s.heap.objs.size f cd) e) (fun _ s''=>CX outer H s E e s'') (fun e' s''=>CX outer H s E e' s'') s'
theorem uS {sc:Scope}{n:Nat}{x:Str}(h:sc.names.lookup x=some .cell):∃ c,(cellsFrom n sc.names []).lookup x=some c:=by
 have q:=PySem.W.cellsFrom_some sc.names n [] (.inl h)
 exact Option.isSome_iff_exists.mp q
theorem xB {CX:CXT}{P:Program}{w:World}{K:PySem.W.Frag}{mg:Str→Option Value}{base:Heap}{N ps:List Str}{qual:Str}{scope:Scope}{f:Addr}{cd:Value}{A:Around}{outer:List Env}{s s1:Shared}{H:Hp}{E:XK}{us:List Value}{vs:List V}
  (S:bU N ps scope) (hd:A.handled=none) (e0:aEp P w K mg base A outer s H) (hl:vs.length=ps.length) (r:Vals vs us)
  (x:InCallC s s.heap.objs.size (bindL (envOfC qual scope s.heap.objs.size f cd).kindOf (ps.zip us) fun _=>none) (cellsFrom (s.heap.objs.size+1) scope.names []) (bindC (envOfC qual scope s.heap.objs.size f cd).kindOf (ps.zip us) fun _=>none) s1) :
  Inv (aCK CX P w K mg base N qual scope f cd A outer s H E) [] (start N vs) H s1:=by
 have hpl:ps.length≤N.length:=by have:=congrArg List.length S.pre;rw [List.length_take] at this;omega
 obtain ⟨h1,tk,rfl,hk⟩:=x.done
 have noA:∀ b:Addr,b∉(aCK CX P w K mg base N qual scope f cd A outer s H E).ex:=fun b z=>absurd (show b∈([]:List Addr) from z) (by simp)
 refine ⟨⟨e0.mod,S.kind,rfl,rfl,Nat.le_refl _,fun y z c h1 h2=>?_,fun y hy=>?_,fun y c _ h=>?_,fun _=>hd,Around.frames_deeper e0.frames, .inr ⟨rfl,rfl⟩,fun b z=>absurd z (noA b),e0.bs,e0.bsz,fun b _ _=>noA b,fun b z=>absurd z (noA b),e0.funs,e0.frf⟩,
  rfl,e0.bare,Un.kept hk,⟨_,x.toInCall.ns,fun i y v h1 h2 h3=>?_⟩,fun y c h=>⟨_,x.cell y c h⟩,e0.hok.fresh (Nat.le_refl _),fun y c h=>?_,fun p hp=>absurd (show p∈([]:List (Addr × Obj)) from hp) (by simp),e0.hok.kept hk,?_⟩
 ·exact name_of_addr x.apart (PySem.mem_of_lookup h1) (PySem.mem_of_lookup h2)
 ·have hy:scope.names.lookup y=some .cell∨scope.names.lookup y=some .free:=hy
  rcases hy with hy | hy
  ·exact uS hy
  ·exact absurd rfl (S.nofree _ (PySem.mem_of_lookup hy))
 ·exact Nat.le_of_lt (x.above y c (PySem.mem_of_lookup h))
 ·have hi:i<vs.length:=by
   unfold start at h2
   by_cases hi:i<vs.length
   ·exact hi
   ·rw [List.getElem?_append_right (by simpa using hi)] at h2
    rw [List.getElem?_replicate] at h2
    split at h2 <;> cases h2
  have ha:vs[i]?=some v:=by
   unfold start at h2
   rw [List.getElem?_append_left (by simpa using hi),List.getElem?_map] at h2
   cases e:vs[i]? with
   | none=>rw [e] at h2;cases h2
   | some a=>rw [e] at h2;cases h2;rfl
  obtain ⟨u,hu,rv⟩:=r.get ha
  have hp:ps[i]?=some y:=by
   rw [← S.pre,List.getElem?_take_of_lt (by omega)];exact h1
  have ndP:ps.Nodup:=by rw [← S.pre];exact S.nd.sublist (List.take_sublist _ _)
  refine ⟨u,rv,?_⟩
  rcases S.par y (List.mem_of_getElem? hp) with k | k
  ·exact .inl ⟨k,rA ndP hp hu k⟩
  ·obtain ⟨c,e⟩:=uS (n:=s.heap.objs.size+1) k
   refine .inr ⟨.inl k,c,e,?_⟩
   have q:=x.cell y c e
   rw [rH ndP hp hu (by show scope.names.lookup y≠_;rw [k];decide)] at q
   exact q
 ·exact e0.hok.fresh (Nat.le_of_lt (x.above y c (PySem.mem_of_lookup h)))
 ·unfold start
  show _=N.length
  rw [List.length_append,List.length_map,List.length_replicate]
  omega
theorem aFh {CX:CXT}{P:Program}{w:World}{K:PySem.W.Frag}{mg:Str→Option Value}{base:Heap}{k:Nat}{f:Addr}{name qual:Str}{params:Arguments}{body:List Stmt}{scope:Scope}{dV kV doc pm cdv ct oc:Value}{an od:Option Addr}
  {osl:Array (Option Value)} {N ps:List Str} {sp:Sp} (lk:K.lookup f=some ⟨oc,od, .func (PySem.W.fnOf name qual params body scope dV kV doc pm an cdv ct),osl⟩) (hcd:PySem.W.codeIn K cdv qual=true) (S:bU N ps scope)
  (len:∀ vs H Q E,sp vs H Q E→vs.length=ps.length)
  (hbody:∀ (A:Around) (outer:List Env) (s:Shared) (H:Hp) (vs:List V) (Q:VK) (E:XK),Room k (A.deeper (envOfC qual scope s.heap.objs.size f cdv))→sp vs H Q E →
   ∃ t,PSs (aCK CX P w K mg base N qual scope f cdv A outer s H E) body t∧t { nx:=fun _ H'=>Q .non H',rt:=Q } (start N vs) H) :
  FnOk P w K mg base CX (k+1) f (PySem.W.fnOf name qual params body scope dV kV doc pm an cdv ct) ps sp:=by
 refine ⟨len,fun A outer s H args us vs Q E hr e0 hb r hsp=>?_⟩
 have hl:=len _ _ _ _ hsp
 have KX:K.In s.heap:=e0.mod.kin.keeps fun b o e=>(e0.bs b o e).1
 have lim:s.heap.NoLimit:=e0.mod.nolimit.keeps fun b o e=>(e0.bs b o e).1
 have hkind:∀ y∈ps.zip us,scope.names.lookup y.1=some .local∨(scope.names.lookup y.1=some .cell∧((cellsFrom (s.heap.objs.size+1) scope.names []).lookup y.1).isSome=true):=fun ⟨n,v⟩ hy=>by
  rcases S.par n (List.of_mem_zip hy).1 with q | q
  ·exact .inl q
  ·exact .inr ⟨q,PySem.W.cellsFrom_some _ _ _ (.inl q)⟩
 refine codeAny_call_function hr.depth (KX _ _ lk) rfl S.co S.gen rfl (PySem.W.codeRec_of KX hcd) (hb _ _ _ _ ?_)
 refine wpAny_newFunctionEnv_cells S.kind hkind fun env he s1 x=>?_
 subst he
 refine ⟨lim.keeps x.toInCall.keep,codeAny_func ?_⟩
 obtain ⟨t,ht,hq⟩:=hbody A outer s H vs Q E (hr.deeper _) hsp
 have I:Inv (aCK CX P w K mg base N qual scope f cdv A outer s H E) [] (start N vs) H s1:=xB S hr.hd e0 hl r x
 refine wpAny_mono (ht [] s1 (start N vs) H _ I hq) (fun fl s' hs=>?_) fun e s' hs=>hs
 have fin:∀ {σ':St} {H':Hp} {v:V} {u:Value},Inv (aCK CX P w K mg base N qual scope f cdv A outer s H E) [] σ' H' s'→RelV v u→Q v H'→CE outer P w H s Q u s':=
  fun {σ' H' v u} J rv q=>⟨v,H',J.os,J.bare,J.base,J.hok,rv,q⟩
 cases fl with
 | ret u=>
  obtain ⟨v,σ',H',J,rv,q⟩:=hs
  exact fin J rv q
 | next=>
  obtain ⟨σ',H',J,q⟩:=hs
  exact fin (v:=V.non) (u:=Value.none) J rfl q
 | brk=>
  obtain ⟨_,_,_,q⟩:=hs
  exact False.elim q
 | cont=>
  obtain ⟨_,_,_,q⟩:=hs
  exact False.elim q
end L2
namespace L2
open PySem PySem.Spec PyProof.Rows
section
variable {X:Cx}{x:Str}{p pos:Pos}{e:Expr}{es:List Expr}{t:TA}{id T:String}{r:List V→Hp→VK→Prop}
noncomputable def tCB (r:List V→Hp→VK→Prop) (t:TA):TE:=fun σ H Q=>t σ H fun vs H1=>r vs H1 Q
theorem aT (hc:CallR X (.builtin id) r)(hg:Gl X x)(hm:X.mg x=none)(hv:bootBuiltins x=some (.builtin id))(ha:PA X (e :: es) t)(hn:x≠"__name__":=by decide)(hdb:(x == ("__debug__" : Str))=false:=by decide)
  (he:starEach (e :: es) X.env=(false,eval e X.env) :: starEach es X.env:=by rfl) (hpl:(backTo pos (starEach es X.env)).any (·.1)=false:=by rfl):PE X (.Call (.Name x p) (e :: es) [] pos) (tCB r t):=by
 intro pins s σ H Q I h
 refine wpAny_Call_Name_kw (sD I hg hm hv ?_ hn hdb)
 exact PyProof.Rows.callWith_builtin1 (thn (ha pos pins s σ H _ I h) fun us s1 ⟨vs,H1,I1,r1,q1⟩=>hc pins s1 σ H1 vs us Q I1 r1 q1) he hpl
theorem bX (hc:CallR X (.type T) r)(hg:Gl X x)(hm:X.mg x=none)(hv:bootBuiltins x=some (.type T))(ha:PA X (e :: es) t)(hn:x≠"__name__":=by decide)(hdb:(x == ("__debug__" : Str))=false:=by decide)
  (he:starEach (e :: es) X.env=(false,eval e X.env) :: starEach es X.env:=by rfl) (hpl:(backTo pos (starEach es X.env)).any (·.1)=false:=by rfl):PE X (.Call (.Name x p) (e :: es) [] pos) (tCB r t):=by
 intro pins s σ H Q I h
 refine wpAny_Call_Name_kw (sD I hg hm hv ?_ hn hdb)
 exact PyProof.Rows.callWith_type1 (thn (ha pos pins s σ H _ I h) fun us s1 ⟨vs,H1,I1,r1,q1⟩=>hc pins s1 σ H1 vs us Q I1 r1 q1) he hpl
end
end L2
namespace HT
open PySem PyProof.Rows
section
open PySem.SeqAt
open PySem.AutoSeq1 (wpAny_loadPart')
open PySem.MeetsSeq PySem.MeetsSeq2 PySem.MeetsSeq3
end
section
variable {prog:Program}{w:World}{A:Around}{E:Value→Shared→Prop}{s:Shared}
theorem cat_tup {t b:Addr}{vs ws:List Value}{Q:Value→Shared→Prop}(ht:IsTup s.heap t vs.toArray)(hb:IsTup s.heap b ws.toArray)(hv:vs≠[])
  (h1:ws=[]→Q (.ref t) s) (h2:ws≠[]→Q (.ref s.heap.objs.size) { s with heap:=s.heap.push { cls := .type "tuple",data := .seq (vs++ws).toArray } })
  (hsz:vs.length+ws.length≤sizeLine):wpAny (model prog w) A (binaryOp .Add (.ref t) (.ref b)) Q E s:=by
 obtain ⟨⟨cls,dd,data,sl⟩,ho,hc,n,hd⟩:=id ht
 obtain ⟨⟨cls2,dd2,data2,sl2⟩,ho2,hc2,n2,hd2⟩:=id hb
 simp only at hc hd hc2 hd2
 subst hc hd hc2 hd2
 have e:vs.toArray++ws.toArray=(vs++ws).toArray:=by simp
 by_cases hw:ws=[]
 ·exact concat_meets ⟨_,ho,rfl⟩ ⟨_,ho2,rfl⟩ noFill_tuple_add seq_tuple_add PySem.F.slot_tuple_add PySem.F.entry_tuple_add (PySem.F.args_tuple_add_2 _ _)
   (tuple_addW1 t b vs.toArray ws.toArray n n2 dd dd2 sl sl2 (by simpa using hv) (by simp [hw])) ⟨ho,ho2,h1 hw⟩
 ·refine concat_meets ⟨_,ho,rfl⟩ ⟨_,ho2,rfl⟩ noFill_tuple_add seq_tuple_add PySem.F.slot_tuple_add PySem.F.entry_tuple_add (PySem.F.args_tuple_add_2 _ _)
   (tuple_addW2 t b vs.toArray ws.toArray n n2 dd dd2 sl sl2 (by simpa using hv) (by simpa using hw) (by rw [List.size_toArray,List.size_toArray];exact hsz)) ⟨ho,ho2,?_⟩
  rw [e]
  exact h2 hw
noncomputable def sIx (n d:Nat):Option Int→Nat
 | none=>d
 | some v=>if v<0 then (v+(n:Int)).toNat else min v.toNat n
theorem aCM (n d:Nat)(hd:d≤n)(o:Option Int):sIx n d o≤n:=by
 cases o with
 | none=>exact hd
 | some v=>
  show (if v<0 then (v+(n:Int)).toNat else min v.toNat n)≤n
  by_cases hv:v<0
  ·rw [if_pos hv];omega
  ·rw [if_neg hv];exact Nat.min_le_right _ _
theorem yS (v:Int)(n d:Nat):(if v<0 then max (v+(n:Int)) 0 else min v (n:Int))=((sIx n d (some v):Nat):Int):=by
 show (if v<0 then max (v+(n:Int)) 0 else min v (n:Int))=(((if v<0 then (v+(n:Int)).toNat else min v.toNat n):Nat):Int)
 by_cases hv:v<0
 ·simp only [if_pos hv];omega
 ·simp only [if_neg hv];omega
theorem vO (lo hi:Option Int)(n:Nat):Builtin.Slice.sliceAdjust lo hi 1 (n:Int)=(((sIx n 0 lo:Nat):Int),((sIx n n hi:Nat):Int)):=by
 have h1:¬ ((1:Int)<0):=by omega
 unfold Builtin.Slice.sliceAdjust
 simp only [h1,if_false]
 refine Prod.ext ?_ ?_
 ·cases lo with
  | none=>rfl
  | some v=>exact yS v n 0
 ·cases hi with
  | none=>rfl
  | some v=>exact yS v n n
theorem wJ (i j:Nat):Builtin.Slice.slicePlaces (i:Int) (j:Int) 1=j - i:=by
 unfold Builtin.Slice.slicePlaces
 have h1:(1:Int) > 0:=by omega
 simp only [h1,if_true,Int.ediv_one]
 split <;> omega
theorem oY {v:Value}{o:Option Int}{Q:Option Int→Shared→Prop}(p:IsPart v o)(h:Q o s):wpAny (model prog w) A (Builtin.Slice.slicePartIndex v) Q E s:=by
 cases p with
 | none=>exact slicePart_none h
 | int i t=>exact slicePart_int h
theorem sliceApplied_gen {sl:Addr}{vl vu:Value}{lo hi:Option Int}{n:Nat}{Q:Int × Int × Nat→Shared→Prop}(hs:s.heap.IsSliceOf sl vl vu .none)(pl:IsPart vl lo)(pu:IsPart vu hi)
  (h:Q (((sIx n 0 lo:Nat):Int),1,sIx n n hi - sIx n 0 lo) s):wpAny (model prog w) A (Builtin.Slice.sliceApplied (.ref sl) (pure (n:Int))) Q E s:=by
 obtain ⟨os,hos,hcs,hds⟩:=id hs
 unfold Builtin.Slice.sliceApplied Builtin.Slice.sliceFields
 refine wpAny_bind (wpAny_bind (wpAny_field hos hds (x:=vl) rfl (wpAny_bind (wpAny_field hos hds (x:=vu) rfl (wpAny_bind (wpAny_field hos hds (x := .none) rfl (wpAny_pure ?_)))))))
 refine wpAny_bind (slicePart_none ?_)
 show wpAny _ _ (if ((1:Int) == 0)=true then _ else _) _ _ s
 rw [if_neg (by decide)]
 refine wpAny_bind (oY pl (wpAny_bind (oY pu (wpAny_bind (wpAny_pure ?_)))))
 show wpAny _ _ (match Builtin.Slice.sliceAdjust lo hi 1 (n:Int) with | (lo,hi)=>pure (lo,(1:Int),Builtin.Slice.slicePlaces lo hi 1)) _ _ s
 rw [vO lo hi n]
 show wpAny _ _ (pure (((sIx n 0 lo:Nat):Int),(1:Int),Builtin.Slice.slicePlaces ((sIx n 0 lo:Nat):Int) ((sIx n n hi:Nat):Int) 1)) _ _ s
 rw [wJ]
 exact wpAny_pure h
theorem aAt (xs:Array Value)(i k:Nat):((List.range k).filterMap fun (m:Nat)=>xs[((i:Int)+(m:Int)*1).toNat]?).toArray=((xs.toList.drop i).take k).toArray:=by
 have e:(fun (m:Nat)=>xs[((i:Int)+(m:Int)*1).toNat]?)=fun m=>xs[i+m]?:=by
  funext m
  have:((i:Int)+(m:Int)*1).toNat=i+m:=by omega
  rw [this]
 rw [e]
 have:=pick_run xs i k
 rw [List.filterMap_map] at this
 have e2:((fun x=>xs[x]?)∘fun x=>i+x)=fun m=>xs[i+m]?:=rfl
 rw [e2] at this
 rw [this]
theorem getItem_tuple_cut {t sl:Addr}{items:Array Value}{vl vu:Value}{lo hi:Option Int}{Q:Value→Shared→Prop}(ht:IsTup s.heap t items)(hs:s.heap.IsSliceOf sl vl vu .none)(pl:IsPart vl lo)(pu:IsPart vu hi)
  (hw:¬ (sIx items.size 0 lo=0∧sIx items.size items.size hi=items.size))
  (h:Q (.ref s.heap.objs.size) { s with heap:=s.heap.push { cls := .type "tuple",data := .seq ((items.toList.drop (sIx items.size 0 lo)).take (sIx items.size items.size hi - sIx items.size 0 lo)).toArray } })
  (hsz:items.size≤sizeLine):wpAny (model prog w) A (getItem (.ref t) (.ref sl)) Q E s:=by
 have htake:sizeOk (.seq ((items.toList.drop (sIx items.size 0 lo)).take (sIx items.size items.size hi - sIx items.size 0 lo)).toArray):=by
  show ((items.toList.drop (sIx items.size 0 lo)).take (sIx items.size items.size hi - sIx items.size 0 lo)).toArray.size≤sizeLine
  rw [List.size_toArray,List.length_take,List.length_drop,Array.length_toList]
  omega
 have hj:sIx items.size items.size hi≤items.size:=aCM _ _ (Nat.le_refl _) hi
 obtain ⟨os,hos,hcs,hds⟩:=id hs
 have hTs:s.TypeIs (.ref sl) "slice":=⟨os,hos,hcs⟩
 unfold getItem
 try with_reducible refine wpAny_holding ?_
 first | refine wpAny_bind (wpAny_pure ?_) | skip
 refine wpAny_bind (wpAny_sequenceKey ht.typeIs (by decide) ?_)
 refine wpAny_bind (wpAny_callSpecial?_slot (name:=Str.ofString "__getitem__") ht.typeIs PyProof.Rows.slot_tuple_getitem
  (wpAny_call_entry PyProof.Rows.slot_tuple_getitem ht.typeIs entry_tuple_getitem ?_ (args_tuple_getitem _ _)))
 show wpAny _ _ (Builtin.Tuple.tupleItemsOf (.ref t) >>= _) _ _ s
 refine wpAny_bind (tupleItemsOf_ ht ?_)
 refine wpAny_bind (wpAny_typeOf hTs ?_)
 rw [if_pos (by decide)]
 refine wpAny_bind (sliceApplied_gen hs pl pu ?_)
 have hno:¬ ((((sIx items.size 0 lo:Nat):Int) == 0 && (1:Int) == 1 && (sIx items.size items.size hi - sIx items.size 0 lo) == items.size)=true):=by
  intro q
  rw [Bool.and_eq_true,Bool.and_eq_true] at q
  have q1:((sIx items.size 0 lo:Nat):Int)=0:=eq_of_beq q.1.1
  have q2:sIx items.size items.size hi - sIx items.size 0 lo=items.size:=eq_of_beq q.2
  exact hw ⟨by omega,by omega⟩
 show wpAny _ _ (if (((sIx items.size 0 lo:Nat):Int) == 0 && (1:Int) == 1 && (sIx items.size items.size hi - sIx items.size 0 lo) == items.size)=true then _ else _) _ _ s
 rw [if_neg hno,aAt]
 first
  | exact wpAny_bind (m:=Builtin.Tuple.tupleExact _) (wpAny_newObj_type (wpAny_pure ⟨_,rfl,wpAny_pure h⟩) htake)
  | exact wpAny_bind (m:=Builtin.Tuple.tupleExact _) (wpAny_newObj_type (wpAny_bind (wpAny_pure (wpAny_pure ⟨_,rfl,wpAny_pure h⟩))) htake)
  | exact wpAny_bind (wpAny_bind (m:=Builtin.Tuple.tupleExact _) (wpAny_newObj_type (wpAny_pure (wpAny_pure ⟨_,rfl,wpAny_pure h⟩)) htake))
  | exact wpAny_bind (wpAny_bind (m:=Builtin.Tuple.tupleExact _) (wpAny_newObj_type (wpAny_pure ⟨_,rfl,wpAny_pure h⟩) htake))
end
end HT
namespace L2
open PySem PySem.Spec PyProof.Rows
noncomputable abbrev TO:=St→Hp→(Option Int→Hp→Prop)→Prop
noncomputable def PO (X:Cx) (e:Option Expr) (t:TO):Prop:=
 ∀ (pins:List (Addr × Obj)) (s:Shared) (σ:St) (H:Hp) (Q:Option Int→Hp→Prop),Inv X pins σ H s→t σ H Q →
  wpAny (model X.prog X.w) X.A (evalPart e X.env) (fun u s'=>∃ o H',Inv X pins σ H' s'∧IsPart u o∧Q o H') X.xe s
noncomputable def sU:TO:=fun _ H Q=>Q none H
noncomputable def aCi (t:TE):TO:=fun σ H Q=>t σ H fun x H1=>∃ i,x = .int i∧Q (some i) H1
theorem kY {ns:List Int}:∀ {us:List Value},Vals (ns.map V.int) us→IntsAre us ns:=by
 induction ns with
 | nil=>intro us r;rw [List.map_nil] at r;cases r;exact .nil
 | cons n ns ih=>
  intro us r
  rw [List.map_cons] at r
  cases r with
  | cons r1 r2=>
   obtain ⟨t,e⟩:=r1
   subst e
   exact .cons n t (ih r2)
section
variable {X:Cx}{e:Expr}{te:TE}{lo hi:Option Expr}{tl th:TO}{pos p2:Pos}
theorem zB:PO X none sU:=by
 intro pins s σ H Q I h
 rw [evalPart_none]
 exact wpAny_pure ⟨none,H,I, .none,h⟩
theorem yR (h:PE X e te):PO X (some e) (aCi te):=by
 intro pins s σ H Q I hw
 rw [evalPart_some]
 refine thn (h pins s σ H _ I hw) fun u s1 ⟨x,H1,I1,r1,q1⟩=>?_
 obtain ⟨i,rfl,q⟩:=q1
 obtain ⟨t,rfl⟩:=r1
 exact ⟨some i,H1,I1, .int i t,q⟩
noncomputable def SlR (X:Cx) (r:V→Option Int→Option Int→Hp→VK→Prop):Prop:=
 ∀ (pins:List (Addr × Obj)) (s:Shared) (σ:St) (H:Hp) (x:V) (v vl vu:Value) (lo hi:Option Int) (sl:Addr) (Q:VK),Inv X pins σ H s→RelV x v→s.heap.IsSliceOf sl vl vu .none→IsPart vl lo→IsPart vu hi→r x lo hi H Q →
  ∃ T id,typeLookup (.type T) "__getitem__" = pure (some (.builtin id))∧s.TypeIs v T∧wpAny (model X.prog X.w) X.A (getItem v (.ref sl)) (EP X pins σ Q) X.xe s
theorem SlR.or {r r':V→Option Int→Option Int→Hp→VK→Prop}(h:SlR X r)(h':SlR X r'):SlR X (fun x lo hi H Q=>r x lo hi H Q∨r' x lo hi H Q):=by
 intro pins s σ H x v vl vu lo hi sl Q I rx hs pl pu q
 rcases q with q | q
 ·exact h pins s σ H x v vl vu lo hi sl Q I rx hs pl pu q
 ·exact h' pins s σ H x v vl vu lo hi sl Q I rx hs pl pu q
noncomputable def tSl (r:V→Option Int→Option Int→Hp→VK→Prop) (te:TE) (tl th:TO):TE:=fun σ H Q=>te σ H fun x H1=>tl σ H1 fun l H2=>th σ H2 fun u H3=>r x l u H3 Q
theorem uY {r:V→Option Int→Option Int→Hp→VK→Prop}(hr:SlR X r)(he:PE X e te)(hl:PO X lo tl)(hu:PO X hi th):PE X (.Subscript e (.Slice lo hi none p2) pos) (tSl r te tl th):=by
 intro pins s σ H Q I h
 refine Subscript_ (thn (he pins s σ H _ I h) fun v s1 ⟨x,H1,I1,r1,q1⟩=>?_)
 refine wpAny_Slice (thn (hl pins s1 σ H1 _ I1 q1) fun vl s2 ⟨l,H2,I2,pl,q2⟩=>thn (hu pins s2 σ H2 _ I2 q2) fun vu s3 ⟨u,H3,I3,pu,q3⟩=>?_)
 rw [evalPart_none]
 refine wpAny_pure ?_
 have I4:Inv X pins σ H3 { s3 with heap:=s3.heap.push { cls := .type "slice",data := .fields #[vl,vu, .none] } }:=I3.kept (t':=s3.toks) fun b ob q=>Heap.get?_push_of_some _ q
 obtain ⟨T,id,hT,ht,hg⟩:=hr pins { s3 with heap:=s3.heap.push { cls := .type "slice",data := .fields #[vl,vu, .none] } } σ H3 x v vl vu l u s3.heap.objs.size Q I4 r1 (Heap.IsSliceOf.new ..) pl pu q3
 show wpAny (model X.prog X.w) X.A (subscriptTail e (.Slice lo hi none p2) v (.ref s3.heap.objs.size)) (EP X pins σ Q) X.xe { s3 with heap:=s3.heap.push { cls := .type "slice",data := .fields #[vl,vu, .none] } }
 exact tail_any (ops:=[.ref s3.heap.objs.size,v]) ht hT hg (by with_unfolding_all rfl)
noncomputable def mO (xs:List V) (lo hi:Option Int):List V:=(xs.drop (HT.sIx xs.length 0 lo)).take (HT.sIx xs.length xs.length hi - HT.sIx xs.length 0 lo)
theorem jO (xs:List V)(lo hi:Option Int):(mO xs lo hi).length≤xs.length:=by
 unfold mO
 rw [List.length_take,List.length_drop]
 omega
noncomputable def aGe (K:PySem.W.Frag):V→Option Int→Option Int→Hp→VK→Prop:=fun x lo hi H Q=>∃ a xs,x = .ref a∧SqT K H a xs ∧
 ¬ (HT.sIx xs.length 0 lo=0∧HT.sIx xs.length xs.length hi=xs.length)∧∀ p,H p=none→Q (.ref p) (upd H p (.tup (mO xs lo hi)))
theorem aCQ:SlR X (aGe X.K):=by
 intro pins s σ H x v vl vu lo hi sl Q I rx hs pl pu h
 obtain ⟨a,xs,rfl,hx,hw,q⟩:=h
 cases rx
 obtain ⟨its,r,ht,hz⟩:=I.tuple hx
 have hlen:its.toArray.size=xs.length:=by rw [List.size_toArray];exact r.length.symm
 refine ⟨"tuple",_,PyProof.Rows.slot_tuple_getitem.lookup,ht.typeIs,?_⟩
 refine HT.getItem_tuple_cut ht hs pl pu (by rw [hlen];exact hw) ?_ (by rw [hlen];exact hz)
 rw [hlen]
 refine ⟨.ref s.heap.objs.size,_,I.laid (t':=s.toks) (o := .tup (mO xs lo hi)) (fun b ob q=>Heap.get?_push_of_some _ q) (Nat.le_refl _) ?_,rfl,q _ (I.hok.fresh (Nat.le_refl _))⟩
 exact ⟨Nat.le_trans (jO xs lo hi) hz,_,(r.drop (HT.sIx xs.length 0 lo)).take (HT.sIx xs.length xs.length hi - HT.sIx xs.length 0 lo),TupN.new _ _⟩
noncomputable def aFb (K:PySem.W.Frag):R2:=fun x y H Q=>∃ a b xs ys,x = .ref a∧y = .ref b∧SqT K H a xs∧SqT K H b ys∧xs≠[]∧xs.length+ys.length≤sizeLine ∧
 (ys=[]→Q (.ref a) H)∧(ys≠[]→∀ p,H p=none→Q (.ref p) (upd H p (.tup (xs++ys))))
theorem Vals.nil_iff {xs:List V}{us:List Value}(r:Vals xs us):us=[]↔xs=[]:=by
 cases r with
 | nil=>simp
 | cons _ _=>simp
theorem aCz:OpR X (binaryOp .Add) (aFb X.K):=by
 intro pins s σ H x y v u Q I rx ry h
 obtain ⟨a,b,xs,ys,rfl,rfl,ha,hb,hx,hz,q1,q2⟩:=h
 cases rx
 cases ry
 obtain ⟨its,r1,p1,_⟩:=I.tuple ha
 obtain ⟨its2,r2,p2,_⟩:=I.tuple hb
 refine HT.cat_tup p1 p2 (fun z=>hx (r1.nil_iff.mp z)) (fun z=>⟨.ref a,H,I,rfl,q1 (r2.nil_iff.mp z)⟩) (fun z=>?_) (by rw [← r1.length,← r2.length];exact hz)
 refine ⟨.ref s.heap.objs.size,_,I.laid (t':=s.toks) (o := .tup (xs++ys)) (fun b ob q=>Heap.get?_push_of_some _ q) (Nat.le_refl _) ?_,rfl,q2 (fun w=>z (r2.nil_iff.mpr w)) _ (I.hok.fresh (Nat.le_refl _))⟩
 exact ⟨by rw [List.length_append];exact hz,_,r1.append r2,TupN.new _ _⟩
end
end L2
namespace L2
open PySem PySem.Spec PyProof.Rows
noncomputable def ixN (n:Nat) (i:Int):Option Nat:=if 0≤i then (if i<n then some i.toNat else none) else if -(n:Int)≤i then some (i+n).toNat else none
noncomputable def atI {α:Type} (xs:List α) (i:Int):Option α:=(ixN xs.length i).bind fun j=>xs[j]?
theorem wY {n:Nat}{i:Int}{j:Nat}(h:ixN n i=some j):seqIndex? i n=some j∧j<n∧-(n:Int)≤i∧i<n:=by
 unfold ixN at h
 by_cases h0:0≤i
 ·rw [if_pos h0] at h
  by_cases h1:i<n
  ·rw [if_pos h1] at h
   have e:i.toNat=j:=Option.some.inj h
   exact ⟨by rw [seqIndex_of h0 h1,e],by omega,by omega,h1⟩
  ·rw [if_neg h1] at h;cases h
 ·rw [if_neg h0] at h
  by_cases h1:-(n:Int)≤i
  ·rw [if_pos h1] at h
   have e:(i+n).toNat=j:=Option.some.inj h
   exact ⟨by rw [seqIndex_neg (by omega) h1,e],by omega,h1,by omega⟩
  ·rw [if_neg h1] at h;cases h
theorem zU {α:Type}{xs:List α}{i:Int}{v:α}(h:atI xs i=some v):∃ j,seqIndex? i xs.length=some j∧xs[j]?=some v∧j<xs.length∧-(xs.length:Int)≤i∧i<xs.length:=by
 unfold atI at h
 cases e:ixN xs.length i with
 | none=>rw [e] at h;cases h
 | some j=>
  rw [e] at h
  obtain ⟨h1,h2,h3,h4⟩:=wY e
  exact ⟨j,h1,h,h2,h3,h4⟩
theorem yZ {α:Type}{xs:List α}{j:Nat}{v:α}(h:xs[j]?=some v):atI xs (j:Int)=some v:=by
 have hj:j<xs.length:=(List.getElem?_eq_some_iff.mp h).1
 have e:ixN xs.length (j:Int)=some j:=by
  unfold ixN
  rw [if_pos (by omega),if_pos (by omega)];simp
 unfold atI;rw [e];exact h
noncomputable def aBU (b:Expr):Prop:=∀ o i,subscripted b false o i=operate [o,i] (getItem o i)
noncomputable def IxR (X:Cx) (r:R2):Prop:=
 ∀ (value slice:Expr) (pins:List (Addr × Obj)) (s:Shared) (σ:St) (H:Hp) (x y:V) (v u:Value) (Q:VK),Inv X pins σ H s→RelV x v→RelV y u→r x y H Q →
  subscripted slice false v u=operate [v,u] (getItem v u)→wpAny (model X.prog X.w) X.A (subscriptTail value slice v u) (EP X pins σ Q) X.xe s
noncomputable def MtR (X:Cx) (id:String) (r:V→List V→Hp→VK→Prop):Prop:=
 ∀ (pins:List (Addr × Obj)) (s:Shared) (σ:St) (H:Hp) (x:V) (xs:List V) (v:Value) (us:List Value) (Q:VK),Inv X pins σ H s→RelV x v→Vals xs us→r x xs H Q →
  wpAny (model X.prog X.w) X.A (call (.builtin id) (v :: us)) (EP X pins σ Q) X.xe s
section
variable {X:Cx}{a b:Expr}{ta tb:TE}{pos:Pos}
theorem IxR.or {r r':R2}(h:IxR X r)(h':IxR X r'):IxR X (fun x y H Q=>r x y H Q∨r' x y H Q):=by
 intro value slice pins s σ H x y v u Q I rx ry q hs
 rcases q with q | q
 ·exact h value slice pins s σ H x y v u Q I rx ry q hs
 ·exact h' value slice pins s σ H x y v u Q I rx ry q hs
theorem aY {r:R2}(hr:IxR X r)(ha:PE X a ta)(hb:PE X b tb)(hs:aBU b):PE X (.Subscript a b pos) (tOp r ta tb):=by
 intro pins s σ H Q I h
 exact Subscript_ (aFu ha hb I h fun v u s2 x y H2 I2 rx ry q=>hr a b pins s2 σ H2 x y v u Q I2 rx ry q (hs _ _))
noncomputable def aEC (K:PySem.W.Frag):R2:=fun x y H Q=>∃ p xs i v,x = .ref p∧y = .int i∧SqL K H p xs∧atI xs i=some v∧Q v H
noncomputable def aED (K:PySem.W.Frag):R2:=fun x y H Q=>∃ p xs i v,x = .ref p∧y = .int i∧SqT K H p xs∧atI xs i=some v∧Q v H
theorem aCq:IxR X (aEC X.K):=by
 intro value slice pins s σ H x y v u Q I rx ry h hs
 obtain ⟨p,xs,i,z,rfl,rfl,hq,he,q⟩:=h
 cases rx
 obtain ⟨t,rfl⟩:=ry
 obtain ⟨its,r,pl,hz⟩:=I.list hq
 obtain ⟨j,h1,h2,h3,h4,h5⟩:=zU he
 obtain ⟨w,ew,rw'⟩:=r.get h2
 have hl:=r.length
 have hn:=qZ
 have fin:EP X pins σ Q w s:=⟨z,H,I,rw',q⟩
 by_cases h0:0≤i
 ·have hj:i.toNat=j:=by
   rw [seqIndex_of h0 h5] at h1
   exact Option.some.inj h1
  exact item_listR pl.isList h0 (by omega) (by rw [hj];simpa using ew) fin hs
 ·have hj:(i+(its.toArray.size:Int)).toNat=j:=by
   rw [seqIndex_neg (by omega) h4] at h1
   rw [List.size_toArray,← hl]
   exact Option.some.inj h1
  exact subscriptTail_builtinR (x:=w) pl.isList.typeIs slot_list_getitem.lookup
   (wpAny_getItem_list_neg (Q:=fun r s'=>r=w∧EP X pins σ Q r s') pl.isList (by omega) (by rw [List.size_toArray] <;> omega) (by omega) (by rw [hj];simpa using ew) ⟨rfl,fin⟩) hs
theorem aDq:IxR X (aED X.K):=by
 intro value slice pins s σ H x y v u Q I rx ry h hs
 obtain ⟨p,xs,i,z,rfl,rfl,hq,he,q⟩:=h
 cases rx
 obtain ⟨t,rfl⟩:=ry
 obtain ⟨its,r,pl,hz⟩:=I.tuple hq
 obtain ⟨j,h1,h2,h3,h4,h5⟩:=zU he
 obtain ⟨w,ew,rw'⟩:=r.get h2
 have hl:=r.length
 have hn:=qZ
 have fin:EP X pins σ Q w s:=⟨z,H,I,rw',q⟩
 exact subscriptTail_builtinR (x:=w) pl.typeIs slot_tuple_getitem.lookup
  (getItem_tuple (j:=j) (Q:=fun r s'=>r=w∧EP X pins σ Q r s') pl (by omega) (by omega) (by rw [List.size_toArray,← hl];exact h1) (by simpa using ew) ⟨rfl,fin⟩) hs
theorem vQ (its:List Value)(n j:Nat)(u:Value):Obj.mapSeq (·.setIfInBounds j u) { cls := .type "list",data := .seq its.toArray n }={ cls := .type "list",data := .seq (its.set j u).toArray n }:=by
 simp [Obj.mapSeq]
theorem Inv.lst {pins:List (Addr × Obj)}{σ:St}{H:Hp}{s:Shared}{p:Addr}{xs:List V}(I:Inv X pins σ H s)(h:H p=some (.lst xs)) :
  ∃ (its:List Value) (n:Nat),Vals xs its∧s.heap.get? p=some { cls := .type "list",data := .seq its.toArray n }∧xs.length≤sizeLine:=by
 obtain ⟨z,its,n,r,e⟩:=I.hok p _ h
 exact ⟨its,n,r,e,z⟩
theorem Inv.lstUpd {pins:List (Addr × Obj)}{σ:St}{H:Hp}{s:Shared}{p:Addr}{xs ys:List V}{its its':List Value}{n n':Nat}{f:Obj→Obj}(I:Inv X pins σ H s)(h:H p=some (.lst xs))
  (ho:s.heap.get? p=some { cls := .type "list",data := .seq its.toArray n }) (hf:f { cls := .type "list",data := .seq its.toArray n }={ cls := .type "list",data := .seq its'.toArray n' }) (r:Vals ys its') (hz:ys.length≤sizeLine) (t:Nat) :
  Inv X pins σ (upd H p (.lst ys)) { s with heap:=s.heap.update p f,toks:=t }:=by
 have e:(s.heap.update p f).get? p=some { cls := .type "list",data := .seq its'.toArray n' }:=by
  rw [Heap.get?_update_self f ho (by rw [hf] <;> rfl),hf]
 refine I.write (x:=p) (e:=p) (by rw [h];trivial) (.inl rfl) (fun b u hb q=>(Heap.get?_update_other _ _ (Ne.symm hb)).trans q) ⟨_,e⟩ ?_
 exact ⟨hz,its',n',r,e⟩
noncomputable def gR:V→V→V→Hp→(Hp→Prop)→Prop:=fun o i v H Q=>∃ p xs k j,o = .ref p∧i = .int k∧H p=some (.lst xs)∧ixN xs.length k=some j∧Q (upd H p (.lst (xs.set j v)))
theorem eL:aFF X gR:=by
 intro pins s σ H o i v ov iv u Q I ro ri rv h
 obtain ⟨p,xs,k,j,rfl,rfl,hp,hj,q⟩:=h
 cases ro
 obtain ⟨t,rfl⟩:=ri
 obtain ⟨its,n,r,ho,hz⟩:=I.lst hp
 obtain ⟨h1,h2,h3,h4⟩:=wY hj
 have hl:=r.length
 have hn:=qZ
 have I':Inv X pins σ (upd H p (.lst (xs.set j v))) { s with heap:=s.heap.update p (Obj.mapSeq (·.setIfInBounds j u)) }:=
  I.lstUpd hp ho (vQ its n j u) (r.set rv j) (by rw [List.length_set];exact hz) s.toks
 by_cases h0:0≤k
 ·have hk:k.toNat=j:=by
   rw [seqIndex_of h0 h4] at h1
   exact Option.some.inj h1
  exact PySem.W.ki_setAt ho h0 (by omega) (by rw [List.size_toArray,← hl];exact h4) (by rw [hk];exact ⟨_,I',q⟩)
 ·have hk:(k+(its.toArray.size:Int)).toNat=j:=by
   rw [seqIndex_neg (by omega) h3] at h1
   rw [List.size_toArray,← hl]
   exact Option.some.inj h1
  exact PySem.W.ki_setBack ho (by omega) (by rw [List.size_toArray,← hl];exact h3) (by omega) (by rw [hk];exact ⟨_,I',q⟩)
theorem rM (lo hi:Option Int)(n:Nat):(sliceBounds lo hi none n).1=((HT.sIx n 0 lo:Nat):Int)∧(sliceBounds lo hi none n).2.1=((HT.sIx n n hi:Nat):Int)∧(sliceBounds lo hi none n).2.2=1:=by
 refine ⟨?_,?_,rfl⟩
 ·cases lo with
  | none=>simp [sliceBounds,HT.sIx]
  | some i=>
   simp only [sliceBounds,HT.sIx,Option.getD_none,show (1:Int) > 0 by decide,if_true]
   by_cases h:i<0
   ·simp only [h,if_true] <;> omega
   ·simp only [h,if_false] <;> omega
 ·cases hi with
  | none=>simp [sliceBounds,HT.sIx]
  | some i=>
   simp only [sliceBounds,HT.sIx,Option.getD_none,show (1:Int) > 0 by decide,if_true]
   by_cases h:i<0
   ·simp only [h,if_true] <;> omega
   ·simp only [h,if_false] <;> omega
theorem qI (its:List Value)(lo hi:Option Int):slicePick its.toArray lo hi none=((its.drop (HT.sIx its.length 0 lo)).take (HT.sIx its.length its.length hi - HT.sIx its.length 0 lo)).toArray:=by
 obtain ⟨h1,h2,h3⟩:=rM lo hi its.toArray.size
 unfold slicePick
 rw [h1,h2,h3]
 simp only [sliceRange_one,pick_run,List.size_toArray] <;> rfl
noncomputable def aFW (K:PySem.W.Frag):V→Option Int→Option Int→Hp→VK→Prop:=fun x lo hi H Q=>∃ a xs,x = .ref a∧SqL K H a xs∧∀ p,H p=none→Q (.ref p) (upd H p (.lst (mO xs lo hi)))
theorem aBF:SlR X (aFW X.K):=by
 intro pins s σ H x v vl vu lo hi sl Q I rx hs pl pu h
 obtain ⟨a,xs,rfl,hx,q⟩:=h
 cases rx
 obtain ⟨its,r,ht,hz⟩:=I.list hx
 have hlen:=r.length
 refine ⟨"list",_,slot_list_getitem.lookup,ht.isList.typeIs,?_⟩
 refine wpAny_getItem_list_slice ht.isList hs pl pu .none (by simp) ?_ (by rw [List.size_toArray] <;> omega)
 rw [qI,← hlen]
 refine ⟨.ref s.heap.objs.size,_,I.laid (t':=s.toks) (o := .lst (mO xs lo hi)) (fun b ob q=>Heap.get?_push_of_some _ q) (Nat.le_refl _) ?_,rfl,q _ (I.hok.fresh (Nat.le_refl _))⟩
 exact ⟨Nat.le_trans (jO xs lo hi) hz,_,0,(r.drop (HT.sIx xs.length 0 lo)).take (HT.sIx xs.length xs.length hi - HT.sIx xs.length 0 lo),Heap.get?_push_size _ rfl⟩
noncomputable def pR:V→Bool
 | .non=>true
 | .bl _=>true
 | .int _=>true
 | .str _=>true
 | _=>false
noncomputable def eqV:V→V→Bool
 | .non, .non=>true
 | .bl a, .bl b=>a == b
 | .bl a, .int b=>(if a then 1 else 0) == b
 | .int a, .bl b=>a == (if b then 1 else 0)
 | .int a, .int b=>a == b
 | .str a, .str b=>a == b
 | _,_=>false
theorem aDo {A:Around}{s:Shared}{y x:V}{u v:Value}(ry:RelV y u)(rx:RelV x v)(fy:pR y=true)(fx:pR x=true):SeqAt.EqAt A s u v (eqV y x):=by
 cases y with
 | non=>
  cases ry
  cases x with
  | non=>cases rx;exact SeqAt.EqAt.same _
  | bl b=>cases rx;exact SeqAt.EqAt.none_bool b
  | int b=>obtain ⟨t,rfl⟩:=rx;exact SeqAt.EqAt.none_int b t
  | str b=>obtain ⟨t,rfl⟩:=rx;exact SeqAt.EqAt.none_str b t
  | _=>exact absurd (show false=true from fx) Bool.false_ne_true
 | bl a=>
  cases ry
  cases x with
  | non=>cases rx;exact SeqAt.EqAt.bool_none a
  | bl b=>cases rx;exact SeqAt.EqAt.bool_bool a b
  | int b=>obtain ⟨t,rfl⟩:=rx;exact SeqAt.EqAt.bool_int a b t
  | str b=>obtain ⟨t,rfl⟩:=rx;exact SeqAt.EqAt.bool_str a b t
  | _=>exact absurd (show false=true from fx) Bool.false_ne_true
 | int a=>
  obtain ⟨t',rfl⟩:=ry
  cases x with
  | non=>cases rx;exact SeqAt.EqAt.int_none a t'
  | bl b=>cases rx;exact SeqAt.EqAt.int_bool a t' b
  | int b=>obtain ⟨t,rfl⟩:=rx;exact SeqAt.EqAt.int_int a t' b t
  | str b=>obtain ⟨t,rfl⟩:=rx;exact SeqAt.EqAt.int_str a t' b t
  | _=>exact absurd (show false=true from fx) Bool.false_ne_true
 | str a=>
  obtain ⟨t',rfl⟩:=ry
  cases x with
  | non=>cases rx;exact SeqAt.EqAt.str_none a t'
  | bl b=>cases rx;exact SeqAt.EqAt.str_bool a t' b
  | int b=>obtain ⟨t,rfl⟩:=rx;exact SeqAt.EqAt.str_int a t' b t
  | str b=>obtain ⟨t,rfl⟩:=rx;exact SeqAt.EqAt.str_str a t' b t
  | _=>exact absurd (show false=true from fx) Bool.false_ne_true
 | _=>exact absurd (show false=true from fy) Bool.false_ne_true
noncomputable def eqU (x:V) (u:Value):Bool:=match u with
 | .none=>eqV .non x
 | .bool b=>eqV (.bl b) x
 | .int i _=>eqV (.int i) x
 | .str z _=>eqV (.str z) x
 | _=>false
theorem aBw {x y:V}{u:Value}(r:RelV y u)(f:pR y=true):eqU x u=eqV y x:=by
 cases y with
 | non=>cases r;rfl
 | bl b=>cases r;rfl
 | int i=>obtain ⟨t,rfl⟩:=r;rfl
 | str z=>obtain ⟨t,rfl⟩:=r;rfl
 | _=>exact absurd (show false=true from f) Bool.false_ne_true
theorem tX {x:V}:∀ {xs:List V} {us:List Value},Vals xs us→xs.all pR=true→us.any (eqU x)=xs.any fun y=>eqV y x
 | _,_, .nil,_=>rfl
 | y :: xs,u :: us, .cons r t,f=>by
  rw [List.all_cons,Bool.and_eq_true] at f
  rw [List.any_cons,List.any_cons,aBw r f.1,tX t f.2]
theorem pU {A:Around}{s:Shared}{x:V}{v:Value}(rx:RelV x v)(fx:pR x=true):∀ {xs:List V} {us:List Value},Vals xs us→xs.all pR=true→∀ u∈us,SeqAt.EqAt A s u v (eqU x u)
 | _,_, .nil,_=>fun u hu=>by cases hu
 | y :: xs,u :: us, .cons r t,f=>fun u' hu=>by
  rw [List.all_cons,Bool.and_eq_true] at f
  rcases List.mem_cons.mp hu with rfl | hu
  ·rw [aBw r f.1];exact aDo r rx f.1 fx
  ·exact pU rx fx t f.2 u' hu
noncomputable def inV (x:V) (xs:List V):Bool:=xs.any fun y=>eqV y x
noncomputable def rIn (K:PySem.W.Frag) (neg:Bool):R2:=fun x y H Q=>∃ p xs,y = .ref p∧(SqL K H p xs∨SqT K H p xs)∧pR x=true∧xs.all pR=true∧Q (.bl (if neg then !inV x xs else inV x xs)) H
theorem wX:OpR X (compareOp .In) (rIn X.K false):=by
 intro pins s σ H x y v u Q I rx ry h
 obtain ⟨p,xs,rfl,hq,fx,fs,q⟩:=h
 cases ry
 rcases hq with hq | hq
 ·obtain ⟨its,r,pl,hz⟩:=I.list hq
  refine SeqAt.in_listAt (eqU x) pl.isList (fun w hw=>pU rx fx r fs w (by simpa using hw)) ⟨.bl _,H,I,rfl,?_⟩
  rw [show its.toArray.any (eqU x)=its.any (eqU x) by simp,tX r fs]
  exact q
 ·obtain ⟨its,r,pl,hz⟩:=I.tuple hq
  refine SeqAt.in_tupleAt (eqU x) pl (fun w hw=>pU rx fx r fs w (by simpa using hw)) ⟨.bl _,H,I,rfl,?_⟩
  rw [show its.toArray.any (eqU x)=its.any (eqU x) by simp,tX r fs]
  exact q
theorem qX:CallR X (.builtin "len") (fun xs H Q=>∃ p ys,xs=[.ref p]∧(SqL X.K H p ys∨SqT X.K H p ys)∧Q (.int ys.length) H):=by
 intro pins s σ H xs us Q I r h
 obtain ⟨p,ys,rfl,hq,q⟩:=h
 obtain ⟨u,rfl,rx⟩:=rF r
 cases rx
 have hn:=qZ
 rcases hq with hq | hq
 ·obtain ⟨its,r',pl,hz⟩:=I.list hq
  have hlen:=r'.length
  exact Calls.call_len_list pl.isList (by simp only [List.size_toArray] <;> omega) ⟨.int ys.length,H,I.tok _,⟨s.toks+1,by rw [List.size_toArray,hlen]⟩,q⟩
 ·obtain ⟨its,r',pl,hz⟩:=I.tuple hq
  have hlen:=r'.length
  exact len_tuple pl (by simp only [List.size_toArray] <;> omega) ⟨.int ys.length,H,I.tok _,⟨s.toks+1,by rw [List.size_toArray,hlen]⟩,q⟩
theorem CallR.or {f:Value}{r r':List V→Hp→VK→Prop}(h:CallR X f r)(h':CallR X f r'):CallR X f (fun xs H Q=>r xs H Q∨r' xs H Q):=by
 intro pins s σ H xs us Q I rs q
 rcases q with q | q
 ·exact h pins s σ H xs us Q I rs q
 ·exact h' pins s σ H xs us Q I rs q
theorem rT:CallR X (.type "list") (fun xs H Q=>∃ p ys,xs=[.ref p]∧(SqL X.K H p ys∨SqT X.K H p ys)∧∀ l,H l=none→Q (.ref l) (upd H l (.lst ys))):=by
 intro pins s σ H xs us Q I r h
 obtain ⟨p,ys,rfl,hq,q⟩:=h
 obtain ⟨u,rfl,rx⟩:=rF r
 cases rx
 have fin:∀ (its:List Value),Vals ys its→ys.length≤sizeLine→∀ (h':Heap) (c':Nat),(∀ b o',s.heap.get? b=some o'→h'.get? b=some o') →
   h'.get? s.heap.objs.size=some { cls := .type "list",dict:=none,data := .seq its.toArray c',slots:=#[] }→EP X pins σ Q (.ref s.heap.objs.size) { s with heap:=h' }:=fun its r' hz h' c' kp e=>
  ⟨.ref s.heap.objs.size,_,I.laid (t':=s.toks) kp (Nat.le_refl _) (show ObjOk X.prog X.w _ h' _ (.lst ys) from ⟨hz,its,c',r',e⟩),rfl,q _ (I.hok.fresh (Nat.le_refl _))⟩
 rcases hq with hq | hq
 ·obtain ⟨its,r',pl,hz⟩:=I.list hq
  have hlen:=r'.length
  obtain ⟨o,ho,hc,n,hd⟩:=pl.isList
  exact call_list_seq p (.inl rfl) ho hc hd (fun h' c' kp e=>fin its r' hz h' c' kp e) (by simp only [List.size_toArray] <;> omega)
 ·obtain ⟨its,r',pl,hz⟩:=I.tuple hq
  have hlen:=r'.length
  obtain ⟨o,ho,hc,n,hd⟩:=pl
  exact call_list_seq p (.inr rfl) ho hc hd (fun h' c' kp e=>fin its r' hz h' c' kp e) (by simp only [List.size_toArray] <;> omega)
theorem qK:CallR X (.type "tuple") (fun xs H Q=>∃ p ys,xs=[.ref p]∧((SqL X.K H p ys∧∀ l,H l=none→Q (.ref l) (upd H l (.tup ys)))∨(SqT X.K H p ys∧Q (.ref p) H))):=by
 intro pins s σ H xs us Q I r h
 obtain ⟨p,ys,rfl,h⟩:=h
 obtain ⟨u,rfl,rx⟩:=rF r
 cases rx
 rcases h with ⟨hq,q⟩ | ⟨hq,q⟩
 ·obtain ⟨its,r',pl,hz⟩:=I.list hq
  have hlen:=r'.length
  refine call_tuple_list pl.isList (fun h' kp=>?_) (by simp only [List.size_toArray] <;> omega)
  have I1:Inv X pins σ H { s with heap:=h' }:=I.kept (t':=s.toks) kp
  have I2:Inv X pins σ (upd H h'.objs.size (.tup ys)) { s with heap:=h'.push { cls := .type "tuple",data := .seq its.toArray } }:=
   I1.laid (t':=s.toks) (fun b o e=>Heap.get?_push_of_some _ e) (Nat.le_refl _) (show ObjOk X.prog X.w _ _ _ (.tup ys) from ⟨hz,its,r',TupN.new _ _⟩)
  exact ⟨.ref h'.objs.size,_,I2,rfl,q _ (I1.hok.fresh (Nat.le_refl _))⟩
 ·obtain ⟨its,r',pl,hz⟩:=I.tuple hq
  exact call_tuple_same pl ⟨.ref p,H,I,rfl,q⟩
noncomputable def tyV (K:PySem.W.Frag) (T:String) (x:V) (H:Hp):Prop:=match x with
 | .str _=>T="str"
 | .int _=>T="int"
 | .ref p=>(T="list"∧∃ xs,SqL K H p xs)∨(T="tuple"∧∃ o,K.lookup p=some o∧o.cls = .type "tuple"∧o.dict=none) ∨
   (T="dict"∧((∃ kvs,H p=some (.dK kvs))∨∃ kvs,H p=some (.dT kvs)))∨(T="set"∧∃ S n,H p=some (.set S n))
 | _=>False
theorem aBh {pins:List (Addr × Obj)}{σ:St}{H:Hp}{s:Shared}{T:String}{x:V}{v:Value}(I:Inv X pins σ H s)(r:RelV x v)(ty:tyV X.K T x H) :
  s.TypeIs v T∧∀ a,v = .ref a→∃ ob,s.heap.get? a=some ob∧ob.dict=none:=by
 cases x with
 | str z=>
  obtain ⟨t,rfl⟩:=r
  cases (show T="str" from ty)
  exact ⟨typeIs_str s z t,fun _ e=>nomatch e⟩
 | int i=>
  obtain ⟨t,rfl⟩:=r
  cases (show T="int" from ty)
  exact ⟨typeIs_int s i t,fun _ e=>nomatch e⟩
 | ref p=>
  cases r
  rcases ty with ⟨rfl,xs,hq⟩ | ⟨rfl,o,hk,hc,hd⟩ | ⟨rfl,hk⟩ | ⟨rfl,S,n,hk⟩
  ·obtain ⟨its,_,pl,_⟩:=I.list hq
   refine ⟨pl.isList.typeIs,fun a e=>?_⟩
   cases e
   obtain ⟨o,n,e,c,hd,_⟩:=pl
   exact ⟨o,e,hd⟩
  ·refine ⟨⟨o,I.kIn p o hk,hc⟩,fun a e=>?_⟩
   cases e
   exact ⟨o,I.kIn _ o hk,hd⟩
  ·have z:∃ o,s.heap.get? p=some o∧o.ExactDict:=by
    rcases hk with ⟨kvs,hk⟩ | ⟨kvs,hk⟩
    ·obtain ⟨_,_,_,_,o,_,_,e,ex,_⟩:=I.hok p _ hk
     exact ⟨o,e,ex⟩
    ·obtain ⟨_,_,_,_,o,_,_,e,ex,_⟩:=I.hok p _ hk
     exact ⟨o,e,ex⟩
   obtain ⟨o,e,ex⟩:=z
   refine ⟨⟨o,e,ex.1⟩,fun a e2=>?_⟩
   cases e2
   exact ⟨o,e,ex.2.1⟩
  ·obtain ⟨o,_,_,_,e,ex,_⟩:=I.hok p _ hk
   refine ⟨⟨o,e,ex.1⟩,fun a e2=>?_⟩
   cases e2
   exact ⟨o,e,ex.2.1⟩
 | _=>exact False.elim ty
noncomputable def aFt (K:PySem.W.Frag) (T:String) (r:V→List V→Hp→VK→Prop) (to:TE):TE:=fun σ H Q=>to σ H fun x H1=>tyV K T x H1∧r x [] H1 Q
noncomputable def tBM (K:PySem.W.Frag) (T:String) (r:V→List V→Hp→VK→Prop) (to:TE) (t:TA):TE:=fun σ H Q=>to σ H fun x H1=>tyV K T x H1∧t σ H1 fun xs H2=>r x xs H2 Q
variable {o e:Expr}{es:List Expr}{to:TE}{t:TA}{name:Str}{apos cpos:Pos}{T id:String}{r:V→List V→Hp→VK→Prop}
theorem aDx (pa:PlainAttrs T)(slot:Slot T name id)(hty:typeOf (.builtin id)=pure (.type "method_descriptor"))(hm:MtR X id r)(ho:PE X o to)
  (hbase:attributeBase o name X.env (eval o X.env)=eval o X.env:=by rfl) (hline:(apos.endLine == cpos.line)=true:=by rfl):PE X (.Call (.Attribute o name apos) [] [] cpos) (aFt X.K T r to):=by
 intro pins s σ H Q I h
 refine wpAny_Call_method0_late hbase hline (thn (ho pins s σ H _ I h) fun v s1 ⟨x,H1,I1,r1,ty,q1⟩=>?_)
 obtain ⟨h1,h2⟩:=aBh I1 r1 ty
 exact ⟨T,id,pa,slot,hty,h1,h2,Calls.callWith_builtin rfl (PySem.evalArgs_none (hm pins s1 σ H1 x [] v [] Q I1 r1 .nil q1))⟩
theorem aEM (pa:PlainAttrs T)(slot:Slot T name id)(hty:typeOf (.builtin id)=pure (.type "method_descriptor"))(hm:MtR X id r)(ho:PE X o to)(ha:PA X (e :: es) t)
  (hbase:attributeBase o name X.env (eval o X.env)=eval o X.env:=by rfl)
  (hfew:((backTo cpos (starEach (e :: es) X.env)).all (fun x=>!x.1) && (backToKw cpos (keywordEach [] X.env)).all (fun x=>x.1.isSome)
   && decide ((e :: es).length+([]:List Keyword).length+(if ([]:List Keyword).isEmpty then 0 else 1)<30))=true:=by rfl)
  (hline:(apos.endLine == cpos.line)=true:=by rfl) (hs:starEach (e :: es) X.env=(false,eval e X.env) :: starEach es X.env:=by rfl) (hplain:(backTo cpos (starEach es X.env)).any (·.1)=false:=by rfl) :
  PE X (.Call (.Attribute o name apos) (e :: es) [] cpos) (tBM X.K T r to t):=by
 intro pins s σ H Q I h
 refine wpAny_Call_method_late hbase hfew hline rfl (thn (ho pins s σ H _ I h) fun v s1 ⟨x,H1,I1,r1,ty,q1⟩=>?_)
 obtain ⟨h1,h2⟩:=aBh I1 r1 ty
 refine ⟨T,id,pa,slot,hty,h1,h2,?_⟩
 have hA:=ha cpos pins s1 σ H1 _ I1 q1
 rw [hs] at hA ⊢
 refine Calls.callWith_builtin (by show (false || (backTo cpos (starEach es X.env)).any (·.1))=false;rw [hplain] <;> rfl) (Calls.evalArgs_plain ?_)
 exact thn hA fun us s2 ⟨vs,H2,I2,r2,q2⟩=>hm pins s2 σ H2 x vs v us Q I2 r1 r2 q2
end
end L2
namespace L2
open PySem PySem.Spec PyProof.Rows
noncomputable def MtM (X:Cx) (id:String) (r:V→List V→Hp→VK→Prop):Prop:=
 ∀ (pins:List (Addr × Obj)) (s:Shared) (σ:St) (H:Hp) (x:V) (xs:List V) (v:Value) (us:List Value) (Q:VK),Inv X pins σ H s→RelV x v→Vals xs us→r x xs H Q →
  wpAny (model X.prog X.w) X.A (call (.builtin id) (v :: us)) (EP X pins σ Q) X.xe s
theorem Vals.one:∀ {x:V} {us:List Value},Vals [x] us→∃ u,us=[u]∧RelV x u
 | _,_, .cons r .nil=>⟨_,rfl,r⟩
theorem Vals.two:∀ {x y:V} {us:List Value},Vals [x,y] us→∃ u v,us=[u,v]∧RelV x u∧RelV y v
 | _,_,_, .cons r (.cons q .nil)=>⟨_,_,rfl,r,q⟩
theorem Vals.zero:∀ {us:List Value},Vals [] us→us=[]
 | _, .nil=>rfl
theorem Vals.dropLast {xs:List V}{us:List Value}(h:Vals xs us):Vals xs.dropLast us.dropLast:=by
 induction h with
 | nil=>exact .nil
 | cons r t ih=>
  cases t with
  | nil=>exact .nil
  | cons q t'=>exact .cons r ih
theorem Vals.eraseIdx:∀ {xs:List V} {us:List Value} (i:Nat),Vals xs us→Vals (xs.eraseIdx i) (us.eraseIdx i)
 | _,_,_, .nil => .nil
 | _,_,0, .cons _ t=>t
 | _,_,i+1, .cons r t => .cons r (Vals.eraseIdx i t)
theorem Vals.rep {xs:List V}{us:List Value}(h:Vals xs us):∀ k:Nat,Vals (List.replicate k xs).flatten (List.replicate k us).flatten
 | 0 => .nil
 | k+1=>by
  rw [List.replicate_succ,List.replicate_succ,List.flatten_cons,List.flatten_cons]
  exact Vals.append h (Vals.rep h k)
theorem wO {α:Type}(l:List α):l.eraseIdx (l.length - 1)=l.dropLast:=by
 induction l with
 | nil=>rfl
 | cons a r ih=>
  cases r with
  | nil=>rfl
  | cons b r=>
   have e:(a :: b :: r).length - 1=((b :: r).length - 1)+1:=by
    have h1:(a :: b :: r).length=r.length+2:=rfl
    have h2:(b :: r).length=r.length+1:=rfl
    omega
   rw [e,List.eraseIdx_cons_succ,ih]
   all_goals rfl
theorem rP {α:Type}:∀ (l:List α) (i:Nat),(l.eraseIdx i).length≤l.length
 | [],_=>Nat.le_refl _
 | _ :: _,0=>Nat.le_succ _
 | _ :: r,i+1=>Nat.succ_le_succ (rP r i)
theorem sN (its:List Value):∀ (k:Nat) (acc:List Value),
  List.foldl (fun x1 x2=>x1++x2) acc.toArray (List.replicate k its.toArray)=(acc++(List.replicate k its).flatten).toArray
 | 0,acc=>by simp
 | k+1,acc=>by
  have e:acc.toArray++its.toArray=(acc++its).toArray:=by simp
  have e2:(acc++its)++(List.replicate k its).flatten=acc++(List.replicate (k+1) its).flatten:=by
   rw [List.replicate_succ,List.flatten_cons,List.append_assoc]
  rw [← e2,← sN its k (acc++its),← e,List.replicate_succ,List.foldl_cons]
section
variable {X:Cx}{pins:List (Addr × Obj)}{σ:St}{H:Hp}{s:Shared}{l b:Addr}{xs ys zs:List V}
theorem Inv.lset {its its':List Value}{n:Nat}{f:Array Value→Array Value}{t':Nat}(I:Inv X pins σ H s)(hH:H l=some (.lst xs))
  (e:s.heap.get? l=some { cls := .type "list",data := .seq its.toArray n }) (hf:f its.toArray=its'.toArray) (hv:Vals ys its') (hz:ys.length≤sizeLine) :
  Inv X pins σ (upd H l (.lst ys)) { s with heap:=s.heap.update l (Obj.mapSeq f),toks:=t' }:=by
 have q:=PySem.IsL.update e f
 rw [hf] at q
 refine I.write (x:=l) (e:=l) (by rw [hH];exact trivial) (.inl rfl) (fun b' u hb hu=>(Heap.get?_update_other s.heap (Obj.mapSeq f) (Ne.symm hb)).trans hu) ⟨_,q⟩ ?_
 exact ⟨hz,its',_,hv,q⟩
theorem Inv.lnew {its:List Value}{t':Nat}(I:Inv X pins σ H s)(hv:Vals ys its)(hz:ys.length≤sizeLine) :
  Inv X pins σ (upd H s.heap.objs.size (.lst ys)) { s with heap:=s.heap.push { cls := .type "list",data := .seq its.toArray },toks:=t' }:=
 I.laid (fun _ _ q=>Heap.get?_push_of_some _ q) (Nat.le_refl _) ⟨hz,its,0,hv,Heap.get?_push_size _ rfl⟩
theorem Inv.fresh (I:Inv X pins σ H s):H s.heap.objs.size=none:=I.hok.fresh (Nat.le_refl _)
theorem Inv.lstM (I:Inv X pins σ H s)(hH:H l=some (.lst xs)):xs.length≤sizeLine∧∃ (its:List Value) (n:Nat),Vals xs its∧xs.length=its.length∧s.heap.get? l=some { cls := .type "list",data := .seq its.toArray n }:=by
 obtain ⟨z,its,n,r,e⟩:=I.hok l _ hH
 exact ⟨z,its,n,r,r.length,e⟩
theorem aAm {n:Nat}(h:n≤sizeLine):Builtin.List.listTooLong n=false:=by
 unfold Builtin.List.listTooLong
 exact decide_eq_false (by omega)
end
section
variable {X:Cx}
noncomputable def jW:V→List V→Hp→VK→Prop:=fun x vs H Q=>∃ l xs y,x = .ref l∧vs=[y]∧H l=some (.lst xs)∧xs.length<sizeLine∧Q .non (upd H l (.lst (xs++[y])))
theorem fZ:MtM X "list.append" jW:=by
 intro pins s σ H x vs v us Q I rx rv h
 obtain ⟨l,xs,y,rfl,rfl,hH,hz,q⟩:=h
 cases rx
 obtain ⟨u,rfl,ru⟩:=rv.one
 obtain ⟨z,its,n,r,hl,e⟩:=I.lstM hH
 refine call_meets F.slot_list_append ⟨_,e,rfl⟩ F.entry_list_append (F.args_list_append_2 _ _) (PySem.list_append l its.toArray n u (by rw [List.size_toArray];omega)) ⟨e,?_⟩
 refine ⟨.non,_,I.lset (its':=its++[u]) hH e (by simp) (r.append (.cons ru .nil)) ?_,rfl,q⟩
 rw [List.length_append,List.length_singleton]
 omega
noncomputable def aFD:V→List V→Hp→VK→Prop:=fun x vs H Q=>∃ l xs y,x = .ref l∧vs=[]∧H l=some (.lst xs)∧xs[xs.length - 1]?=some y∧Q y (upd H l (.lst xs.dropLast))
theorem aDv:MtM X "list.pop" aFD:=by
 intro pins s σ H x vs v us Q I rx rv h
 obtain ⟨l,xs,y,rfl,rfl,hH,hy,q⟩:=h
 cases rx
 have hus:=rv.zero
 subst hus
 obtain ⟨z,its,n,r,hl,e⟩:=I.lstM hH
 obtain ⟨u,hu,ru⟩:=r.get hy
 have hy':its.toArray[its.toArray.size - 1]?=some u:=by
  show its.toArray[its.length - 1]?=some u
  rw [← Array.getElem?_toList,← hl]
  exact hu
 refine call_meets F.slot_list_pop ⟨_,e,rfl⟩ F.entry_list_pop (F.args_list_pop_1 _) (MeetsSeq.list_pop_last l its.toArray n u hy' (by rw [List.size_toArray];omega)) ⟨e,?_⟩
 refine ⟨y,_,I.lset (its':=its.dropLast) hH e ?_ r.dropLast ?_,ru,q⟩
 ·show its.toArray.eraseIdxIfInBounds (its.toArray.size - 1)=its.dropLast.toArray
  rw [List.size_toArray,List.eraseIdxIfInBounds_toArray,wO]
 ·rw [List.length_dropLast]
  omega
noncomputable def aBv:V→List V→Hp→VK→Prop:=fun x vs H Q=>∃ l xs i k y,x = .ref l∧vs=[.int i]∧H l=some (.lst xs)∧-(2 ^ 63)≤i∧i<2 ^ 63∧seqIndex? i xs.length=some k∧xs[k]?=some y∧Q y (upd H l (.lst (xs.eraseIdx k)))
theorem aAv:MtM X "list.pop" aBv:=by
 intro pins s σ H x vs v us Q I rx rv h
 obtain ⟨l,xs,i,k,y,rfl,rfl,hH,h1,h2,hk,hy,q⟩:=h
 cases rx
 obtain ⟨u,rfl,ru⟩:=rv.one
 obtain ⟨t,rfl⟩:=ru
 obtain ⟨z,its,n,r,hl,e⟩:=I.lstM hH
 obtain ⟨w,hw,rw'⟩:=r.get hy
 refine call_meets F.slot_list_pop ⟨_,e,rfl⟩ F.entry_list_pop (F.args_list_pop_2 _ _)
  (MeetsSeq.list_pop_at l its.toArray n i t k w (fitsIndex_both h1 h2) (by rw [List.size_toArray,← hl];exact hk) (by rw [← Array.getElem?_toList];exact hw) (by rw [List.size_toArray];omega)) ⟨e,?_⟩
 refine ⟨y,_,I.lset (its':=its.eraseIdx k) hH e ?_ (r.eraseIdx k) ?_,rw',q⟩
 ·show its.toArray.eraseIdxIfInBounds k=(its.eraseIdx k).toArray
  rw [List.eraseIdxIfInBounds_toArray]
 ·have:=rP xs k
  omega
noncomputable def aFP:R2:=fun x y H Q=>∃ l b xs zs,x = .ref l∧y = .ref b∧H l=some (.lst xs)∧H b=some (.lst zs)∧xs.length+zs.length≤sizeLine∧∀ p,H p=none→Q (.ref p) (upd H p (.lst (xs++zs)))
theorem aCL:OpR X (binaryOp .Add) aFP:=by
 intro pins s σ H x y v u Q I rx ry h
 obtain ⟨l,b,xs,zs,rfl,rfl,hH,hB,hz,q⟩:=h
 cases rx
 cases ry
 obtain ⟨z,its,n,r,hl,e⟩:=I.lstM hH
 obtain ⟨z2,its2,n2,r2,hl2,e2⟩:=I.lstM hB
 refine PySem.P.add_list e e2 ?_ (by rw [List.size_toArray,List.size_toArray];omega)
 have ea:its.toArray++its2.toArray=(its++its2).toArray:=by simp
 rw [ea]
 exact ⟨.ref _,_,I.lnew (t':=s.toks) (r.append r2) (by rw [List.length_append];omega),rfl,q _ I.fresh⟩
noncomputable def aFx:R2:=fun x y H Q=>∃ l k xs,x = .ref l∧y = .int k∧H l=some (.lst xs)∧-(2 ^ 63)≤k∧k<2 ^ 63∧xs.length*k.toNat≤sizeLine ∧
 ∀ p,H p=none→Q (.ref p) (upd H p (.lst (List.replicate k.toNat xs).flatten))
theorem aCw {α:Type}(xs:List α)(k:Nat):(List.replicate k xs).flatten.length=k*xs.length:=by
 induction k with
 | zero=>simp
 | succ k ih=>rw [List.replicate_succ,List.flatten_cons,List.length_append,ih,Nat.succ_mul,Nat.add_comm]
theorem aBq:OpR X (binaryOp .Mult) aFx:=by
 intro pins s σ H x y v u Q I rx ry h
 obtain ⟨l,k,xs,rfl,rfl,hH,h1,h2,hz,q⟩:=h
 cases rx
 obtain ⟨t,rfl⟩:=ry
 obtain ⟨z,its,n,r,hl,e⟩:=I.lstM hH
 have hlen:its.toArray.size*k.toNat≤sizeLine:=by rw [List.size_toArray,← hl];exact hz
 have hcap:¬ its.toArray.size*k.toNat > (2 ^ 63 - 1) / 8:=by
  have:(sizeLine:Nat)≤(2 ^ 63 - 1) / 8:=by decide
  omega
 have hfit:¬ (!Builtin.List.listFitsIndex k)=true:=by
  rw [fitsIndex_both h1 h2]
  exact Bool.false_ne_true
 have hlong:¬ Builtin.List.listTooLong (its.toArray.size*k.toNat)=true:=by
  rw [aAm hlen]
  exact Bool.false_ne_true
 have hnew:List.foldl (fun x1 x2=>x1++x2) #[] (List.replicate (if its.toArray.isEmpty=true then 0 else k.toNat) its.toArray)=(List.replicate k.toNat its).flatten.toArray:=by
  have f0:∀ m:Nat,List.foldl (fun x1 x2=>x1++x2) #[] (List.replicate m its.toArray)=(List.replicate m its).flatten.toArray:=fun m=>by
   have:=sN its m []
   rw [List.nil_append] at this
   exact this
  rw [f0]
  cases its with
  | nil=>simp
  | cons a r'=>rw [if_neg (by simp)]
 refine wpAny_binaryOp_repeat_ref (T:="list") (U:="int") (by decide) ⟨_,e,rfl⟩ (fun s'=>typeIs_int s' k t) noFill_list_mul F.fills_int_mul F.slot_int_rmul repeat_list F.slot_int_index.lookup
  (call_meets F.slot_int_rmul (typeIs_int s k t) F.entry_int_rmul (F.args_int_rmul_2 _ _) (int___rmul___int_list k t l its.toArray n)
   ⟨e,rfl,⟨_,e,rfl⟩,call_meets F.slot_list_mul ⟨_,e,rfl⟩ F.entry_list_mul (F.args_list_mul_2 _ _) (AutoListH.list___mul___list_int_3 l its.toArray n k t hfit hcap hlong) ⟨e,?_⟩⟩)
 rw [hnew]
 exact ⟨.ref _,_,I.lnew (t':=s.toks) (r.rep k.toNat) (by rw [aCw,Nat.mul_comm];exact hz),rfl,q _ I.fresh⟩
end
section
variable {prog:Program}{w:World}{A:Around}{E:Value→Shared→Prop}{s:Shared}
end
section
variable {X:Cx}
end
end L2
namespace Att
open PySem PySem.W PySem.Calls PyProof.Rows
theorem mX {P:Params}{h:Heap}:∀ (ns:List Int) (vs:List Value),WellAll P h vs (ns.map WData.int)→IntsAre vs ns:=by
 intro ns
 induction ns with
 | nil=>
  intro vs w
  rw [List.map_nil] at w
  cases w
  exact .nil
 | cons n ns ih=>
  intro vs w
  rw [List.map_cons] at w
  cases w with
  | cons a b=>
   cases a
   exact .cons _ _ (ih _ b)
theorem xC {l:OpenLaw}{n:Nat}(hn:l.most=some n){P:Params}{h:Heap}{args:List WData}{vals:List Value}
  (hpre:l.row.toRowW.claim.pre args=true) (hwl:WellAll P h vals args) :
  ∃ a vs ns,vals=[Value.ref a]∧args=[WData.list (ns.map WData.int)]∧h.get? a=some { cls := .type "list",data := .seq vs.toArray }∧IntsAre vs ns∧ns.length≤n:=by
 have hsh:WShape.hasAll [] args [.list .int]=true:=(pre_splitW hpre).1
 have hc:l.pre.holds [] { args:=args }=true:=(pre_splitW hpre).2
 obtain ⟨d,r,rfl,h1,h2⟩:=hasAllW_cons hsh
 obtain rfl:=hasAllW_nil h2
 obtain ⟨xs,rfl,h3⟩:=hasW_list h1
 obtain ⟨ns,rfl⟩:=items_int h3
 have hlen:ns.length≤n:=by
  unfold OpenLaw.pre at hc
  have h4:(WTm.not (.lt (.lit (.int (n:Int))) (.len (.arg 0)))).holds [] { args:=[.list (ns.map .int)] }=true:=by
   have h4:=(holds_andW hc).1
   rw [hn] at h4
   exact h4
  have h5:=condW_of h4 (w_not (w_lt w_lit (w_len_list (w_arg rfl))))
  rw [List.length_map] at h5
  refine Nat.le_of_not_lt fun q=>?_
  have q':(n:Int)<((ns.length:Nat):Int):=by omega
  first
   | (rw [decide_eq_true q'] at h5;exact absurd h5 (by decide))
   | (simp at h5;omega)
 cases hwl with
 | cons w1 w2=>
  cases w2
  cases w1 with
  | list ho hall=>exact ⟨_,_,ns,rfl,rfl,ho,mX ns _ hall,hlen⟩
theorem zY (l:OpenLaw)(args:List WData):l.row.toRowW.claim.post args (.bool true) args=true:=
 postW_of (r:=l.row.toRowW) (X:=(true == true))
  (show WShape.has [] (.bool true) .bool=true by first | rfl | decide | simp [WShape.has,WShape.arms,WShape.armsAll])
  (show (WTm.eq .res (.lit (.bool true))).value [] { args:=args,res:=some (.bool true),after:=args }=some (.bool (true == true)) from w_eq_bool (w_res rfl) w_lit) rfl
theorem attach_call {l:OpenLaw}{n:Nat}{q:Program}{loose:List Str}{XP:(Str→Option Value)→Heap→Prop}{YP:World→Heap→Prop}{d:DefRec}
  (hn:l.most=some n) (hdf:d.params.defaults=[])
  (call:∀ (w:World) (s₀ s₁:Shared) (mg mb:Str→Option Value) (fa:Addr) (o:Obj) (pm cd doc:Value) (a:Addr) (vs:List Value) (ns:List Int),
   Ground q loose [] XP w s₀ mg mb s₁.heap→YP w s₁.heap →
   s₁.heap.get? fa=some o→o.data = .func (docDef d.name d.params d.body d.scope pm cd doc)→s₁.heap.CodeRec cd d.name→mg d.name=some (.ref fa) →
   s₁.heap.get? a=some { cls := .type "list",data := .seq vs.toArray }→IntsAre vs ns→ns.length≤n→s₁.gens=#[] →
   codeAny (model l.prog w) callerA (.call (.ref fa) ⟨[.ref a],[]⟩) (fun r s'=>r = .ok (.ret (.bool true))∧OldK s₁.heap s'.heap∧s'.os=s₁.os∧AllBare s'.gens) s₁) :
  WalkO q loose XP YP l.row.toRowW d [] (fun f vs=>PySem.call f vs):=by
 intro w s₀ s₁ mg mb G Y fa o pm cd doc dV kV ho hd hcd hD hmg hg args vals as hpre hlay hrd hwl hlo
 obtain rfl:dV = .none:=Dflts.none hD hdf
 obtain rfl:kV = .none:=Dflts.noKw hD
 obtain ⟨a,vs,ns,rfl,rfl,hobj,hints,hlen⟩:=xC hn hpre hwl
 refine enter_call (codeAny_mono (call w s₀ s₁ mg mb fa o pm cd doc a vs ns G Y ho (fd_plain hd) hcd hmg hobj hints hlen hg) fun r s' hq=>?_)
 obtain ⟨rfl,h2,h3,h4⟩:=hq
 exact ⟨.inl ⟨.bool true, .bool true,[],rfl,fun _=>rfl, .bool true,zY l _,fun _=>⟨List.Pairwise.nil,fun _ hm=>(nomatch hm)⟩⟩,h2,h3,h4⟩
section
variable {prog:Program}{w:World}{A:Around}{E:Value→Shared→Prop}{s:Shared}{K:Frag}
end
end Att
namespace L2
open PySem PySem.Spec PyProof.Rows
theorem rD:∀ {vs:List Value} {ns:List Int},IntsAre vs ns→Vals (ns.map V.int) vs
 | _,_, .nil => .nil
 | _,_, .cons n t h => .cons ⟨t,rfl⟩ (rD h)
noncomputable def aFw (H:Hp):Prop:=∀ b,H b=none∨∃ o xs,H b=some (.frz o (.lst xs))
theorem aAY {P:Program}{w:World}{K:PySem.W.Frag}{mg mb:Str→Option Value}{CX:CXT}{k:Nat}{fa a:Addr}{fd:FuncData}{x:Str}{sp:Sp}{s₁:Shared}{vs:List Value}{ns:List Int}
  (KX:K.In s₁.heap) (hns:s₁.heap.Ns mainGlobals mg) (hb:s₁.heap.Ns builtinsNs mb) (hbb:∀ x:Str,x≠"__name__"→mb x=bootBuiltins x) (hlim:s₁.heap.NoLimit) (hg:s₁.gens=#[])
  (ha:s₁.heap.get? a=some { cls := .type "list",data := .seq vs.toArray }) (hi:IntsAre vs ns) (hl:ns.length≤sizeLine) (hr:Room k callerA)
  (F:∀ base:Heap,K.In base→base.Ns mainGlobals mg→FnOk P w K mg base CX k fa fd [x] sp) (hbind:∀ (s:Shared) (u:Value),BindsTo s fd ⟨[u],[]⟩ [(x,u)])
  (hsp:∀ H:Hp,aFw H→SqL K H a (ns.map V.int)→sp [.ref a] H (fun v _=>v = .bl true) fun _ _ _=>False)
  (hCX:∀ H e s',CX [] H s₁ (fun _ _ _=>False) e s'→False) :
  codeAny (model P w) callerA (.call (.ref fa) ⟨[.ref a],[]⟩) (fun r s'=>r = .ok (.ret (.bool true))∧OldK s₁.heap s'.heap∧s'.os=s₁.os∧AllBare s'.gens) s₁:=by
 have rv:=rD hi
 have lenV:=hi.length
 have core:∀ H:Hp,aFw H→SqL K H a (ns.map V.int)→HOk P w H s₁.heap→(∀ b,H b≠none→b=a)→(H a≠none→K.lookup a=none) →
   codeAny (model P w) callerA (.call (.ref fa) ⟨[.ref a],[]⟩) (fun r s'=>r = .ok (.ret (.bool true))∧OldK s₁.heap s'.heap∧s'.os=s₁.os∧AllBare s'.gens) s₁:=by
  intro H hO hS hok hA hK
  have base_of:∀ {b:Addr} {o:Obj},s₁.heap.get? b=some o→H b=none→(aAZ s₁.heap H).get? b=some o:=fun e n=>aAz e n
  have noA:∀ {b:Addr} {o:Obj} {es:Array DictEntry} {ep:Nat},s₁.heap.get? b=some o→o.data = .dict es ep→H b=none:=fun {b o es ep} e d=>by
   cases q:H b with
   | none=>rfl
   | some u=>
    have e':b=a:=hA b (by rw [q];simp)
    subst e'
    rw [ha] at e;cases e
    have d':Data.seq vs.toArray _=Data.dict es ep:=d
    cases d'
  have nsK:∀ {b:Addr} {m:Str→Option Value},s₁.heap.Ns b m→(aAZ s₁.heap H).Ns b m:=fun {b m} ⟨o,es,ep,e,d,r⟩=>⟨o,es,ep,base_of e (noA e d),d,r⟩
  have hKb:K.In (aAZ s₁.heap H):=fun b o e=>base_of (KX b o e) (by
   cases q:H b with
   | none=>rfl
   | some u=>
    have e':b=a:=hA b (by rw [q];simp)
    subst e'
    rw [hK (by rw [q];simp)] at e;cases e)
  have hM:Mod K mg (aAZ s₁.heap H):=⟨hKb,nsK hns,⟨mb,nsK hb,hbb⟩,let ⟨mc,h1,h2⟩:=hlim;⟨mc,nsK h1,h2⟩⟩
  have e0:aEp P w K mg (aAZ s₁.heap H) callerA [] s₁ H:=⟨rfl,hM,fun b o e=>aCh e,Nat.le_of_eq (yE _ _),trivial,fun b hb=>absurd (show b∈([]:List Addr) from hb) (by simp),hok, .of_eq hg⟩
  refine codeAny_mono ((F _ hKb (nsK hns)).run callerA [] s₁ H ⟨[.ref a],[]⟩ [.ref a] [.ref a] _ _ hr e0 (hbind s₁ (.ref a)) (.cons rfl .nil) (hsp H hO hS)) fun r s' h=>?_
  cases r with
  | error e=>exact (hCX H e s' h).elim
  | ok fl=>
   cases fl with
   | next=>exact False.elim h
   | brk=>exact False.elim h
   | cont=>exact False.elim h
   | ret u=>
    obtain ⟨v,H',os,bare,un,hok',r',q⟩:=h
    have q':v = .bl true:=q
    subst q'
    obtain rfl:u=Value.bool true:=r'
    refine ⟨rfl,OldK.of_keep fun b o e=>?_,os,bare⟩
    cases q:H b with
    | none=>exact un.keep b o e q (by intro z;exact absurd (show b∈([]:List Addr) from z) (by simp)) (by simp)
    | some u=>
     rcases hO b with z | ⟨ob,xs,z⟩
     ·rw [q] at z;cases z
     ·have z2:=un.frzs b ob _ z
      obtain ⟨e1,_⟩:=hok b _ z
      obtain ⟨e2,_⟩:=hok' b _ z2
      rw [e] at e1;cases e1
      exact e2
 cases hk:K.lookup a with
 | some o=>
  have e:=KX a o hk
  rw [ha] at e
  cases e
  refine core (fun _=>none) (fun _ => .inl rfl) (.inr ⟨_,vs.toArray,_,hk,rfl,rfl,rfl,by rw [List.size_toArray,lenV];exact hl,by simpa using rv⟩) (fun b u z=>by have z':(none:Option HO)=some u:=z;cases z') (fun b z=>absurd rfl z) fun z=>absurd rfl z
 | none=>
  refine core (fun b=>if b=a then some (.frz { cls := .type "list",data := .seq vs.toArray } (.lst (ns.map V.int))) else none) (fun b=>?_) (.inl (.inr ⟨{ cls := .type "list",data := .seq vs.toArray },if_pos rfl⟩)) (fun b u z=>?_) (fun b z=>?_) fun _=>hk
  ·by_cases hb:b=a
   ·exact .inr ⟨_,_,if_pos hb⟩
   ·exact .inl (if_neg hb)
  ·by_cases hb:b=a
   ·have z':=(if_pos hb).symm.trans z
    cases z'
    subst hb
    exact ⟨ha,by rw [List.length_map];exact hl,vs,_,rv,ha⟩
   ·have z':=(if_neg hb).symm.trans z
    cases z'
  ·by_cases hb:b=a
   ·exact hb
   ·exact absurd (if_neg hb) z
end L2
namespace L2
open PySem PySem.Spec PyProof.Rows
theorem aCy {l:PySem.W.OpenLaw}{n k:Nat}{q:Program}{loose:List Str}{XP:(Str→Option Value)→Heap→Prop}{YP:World→Heap→Prop}{d:DefRec}{K:Params→PySem.W.Frag}{CX:World→CXT}{sp:World→Sp}{x:Str}
  (hn:l.most=some n) (hn2:n≤sizeLine) (hdf:d.params.defaults=[]) (hr:Room k callerA)
  (hY:∀ (w:World) (h:Heap),YP w h→(K w.params).In h)
  (F:∀ (w:World) (mg:Str→Option Value) (fa:Addr) (h:Heap),(K w.params).In h→h.Ns mainGlobals mg→mg d.name=some (.ref fa) →
   ∃ fd:FuncData,(∀ (s:Shared) (u:Value),BindsTo s fd ⟨[u],[]⟩ [(x,u)]) ∧
    ∀ base:Heap,(K w.params).In base→base.Ns mainGlobals mg→FnOk l.prog w (K w.params) mg base (CX w) k fa fd [x] (sp w))
  (hsp:∀ (w:World) (H:Hp) (a:Addr) (ns:List Int),ns.length≤n→aFw H→SqL (K w.params) H a (ns.map V.int)→sp w [.ref a] H (fun v _=>v = .bl true) fun _ _ _=>False)
  (hCX:∀ (w:World) (H:Hp) (s:Shared) (e:Value) (s':Shared),CX w [] H s (fun _ _ _=>False) e s'→False) :
  PySem.W.WalkO q loose XP YP l.row.toRowW d [] (fun f vs=>PySem.call f vs):=by
 refine Att.attach_call hn hdf fun w s₀ s₁ mg mb fa o pm cd doc a vs ns G Y ho hd hcd hmg hobj hints hlen hg=>?_
 have KX:=hY w _ Y
 obtain ⟨fd,hb,hF⟩:=F w mg fa _ KX G.T.g hmg
 exact aAY KX G.T.g G.T.b G.T.builtins G.T.nolimit hg hobj hints (Nat.le_trans hlen hn2) hr hF hb (fun H hO hS=>hsp w H a ns hlen hO hS) fun H e s'=>hCX w H s₁ e s'
end L2
namespace L2
open PySem PySem.Spec PyProof.Rows
noncomputable def bP (s:Stmt):Arguments:=match s with
 | .FunctionDef _ a _ _ _ _ _ _ _ _=>a
 | _=>{ posonlyargs:=[],args:=[],vararg:=none,kwonlyargs:=[],kw_defaults:=[],kwarg:=none,defaults:=[] }
noncomputable def bI (s:Stmt):List Stmt:=match s with
 | .FunctionDef _ _ b _ _ _ _ _ _ _=>b
 | _=>[]
noncomputable def aK (s:Stmt):Scope:=match s with
 | .FunctionDef _ _ _ _ _ _ sc _ _ _=>sc
 | _=>{ kind := .function,names:=[],isGenerator:=false,isCoroutine:=false }
noncomputable abbrev CX0:CXT:=fun _ _ _ _ _ _=>False
noncomputable abbrev E0:XK:=fun _ _ _=>False
theorem aFi {X:Cx}:wW CX0 X E0:=fun _ _ _ _ _ _ _ h=>h.elim
structure Fun (K:PySem.W.Frag)(x qual:Str)(st:Stmt)(f:Addr)(fd:FuncData):Prop where
 ex:∃ (oc:Value) (od:Option Addr) (kV doc pm:Value) (an:Option Addr) (cdv ct:Value) (osl:Array (Option Value)),
  fd=PySem.W.fnOf x qual (bP st) (bI st) (aK st) .none kV doc pm an cdv ct∧K.lookup f=some ⟨oc,od, .func fd,osl⟩∧PySem.W.codeIn K cdv qual=true
 kp:PySem.W.keepIn K (.ref f)=true
section
variable {P:Program}{w:World}{K:PySem.W.Frag}{mg:Str→Option Value}{base:Heap}
theorem Fun.ok {x qual:Str}{st:Stmt}{f:Addr}{fd:FuncData}{N ps:List Str}{k:Nat}{sp:Sp}(F:Fun K x qual st f fd)(S:bU N ps (aK st))(len:∀ vs H Q E,sp vs H Q E→vs.length=ps.length)
  (hbody:∀ (cdv:Value) (A:Around) (outer:List Env) (s:Shared) (H:Hp) (vs:List V) (Q:VK) (E:XK),Room k (A.deeper (envOfC qual (aK st) s.heap.objs.size f cdv))→sp vs H Q E →
   ∃ t,PSs (aCK CX0 P w K mg base N qual (aK st) f cdv A outer s H E).nox (bI st) t∧t { nx:=fun _ H'=>Q .non H',rt:=Q } (start N vs) H):FnOk P w K mg base CX0 (k+1) f fd ps sp:=by
 obtain ⟨oc,od,kV,doc,pm,an,cdv,ct,osl,rfl,lk,hcd⟩:=F.ex
 refine aFh lk hcd S len fun A outer s H vs Q E hr hsp=>?_
 obtain ⟨t,h,q⟩:=hbody cdv A outer s H vs Q E hr hsp
 exact ⟨t,h.nox,q⟩
theorem Fun.binds {x qual:Str}{st:Stmt}{f:Addr}{fd:FuncData}{ps:List Str}(F:Fun K x qual st f fd)
  (h:∀ (kV doc pm:Value) (an:Option Addr) (cdv ct:Value) (us:List Value),us.length=ps.length→bindArgs (PySem.W.fnOf x qual (bP st) (bI st) (aK st) .none kV doc pm an cdv ct) ⟨us,[]⟩=pure (ps.zip us)):Binds K fd ps []:=by
 obtain ⟨oc,od,kV,doc,pm,an,cdv,ct,osl,rfl,lk,hcd⟩:=F.ex
 exact .all (h kV doc pm an cdv ct)
theorem cN {x qual:Str}{st:Stmt}{f:Addr}{oc:Value}{od an:Option Addr}{osl:Array (Option Value)}{kV doc pm cdv ct:Value}(l:K.lookup f=some ⟨oc,od, .func (PySem.W.fnOf x qual (bP st) (bI st) (aK st) .none kV doc pm an cdv ct),osl⟩)
  (c:PySem.W.codeIn K cdv qual=true) (k:PySem.W.keepIn K (.ref f)=true):Fun K x qual st f (PySem.W.fnOf x qual (bP st) (bI st) (aK st) .none kV doc pm an cdv ct):=⟨⟨oc,od,kV,doc,pm,an,cdv,ct,osl,rfl,l,c⟩,k⟩
end
theorem gE {A:Around}{k:Nat}(hr:Room k A):A.units+1<cLine:=Nat.lt_of_le_of_lt (Nat.add_le_add_left (by decide:1≤64) _) hr.units
section
variable {X:Cx}
theorem pv (i:Nat){x:Str}{pos:Pos}(hN:X.N[i]?=some x:=by rfl)(hv:Vis X.env.scope x:=by first | exact Or.inl rfl | exact Or.inr (Or.inl rfl) | exact Or.inr (Or.inr rfl))(hd:(x == ("__debug__" : Str))=false:=by decide)
  (hcd:(x == ("__classdict__" : Str))=false:=by decide):PE X (.Name x pos) (aD i):=aDf hN hv hd hcd
end
theorem aFr {A B:Prop}(h:B):if false=true then A else B:=by
 rw [if_neg Bool.false_ne_true]
 exact h
theorem aFH {A B:Prop}(h:A):if true=true then A else B:=by
 rw [if_pos rfl]
 exact h
theorem aFO {c A B:Prop}[Decidable c](h1:c→A)(h2:¬ c→B):if c then A else B:=by
 by_cases h:c
 ·rw [if_pos h]
  exact h1 h
 ·rw [if_neg h]
  exact h2 h
noncomputable def Same (H H':Hp):Prop:=∀ b o,H b=some o→H' b=some o
theorem Same.refl (H:Hp):Same H H:=fun _ _ h=>h
theorem Same.trans {H H1 H2:Hp}(a:Same H H1)(b:Same H1 H2):Same H H2:=fun c o h=>b c o (a c o h)
theorem Same.free {H H':Hp}(e:Same H H'){l:Addr}(h:H' l=Option.none):H l=Option.none:=by
 cases q:H l with
 | none=>rfl
 | some o=>
  rw [e l o q] at h
  cases h
theorem Same.seq {K:PySem.W.Frag}{H H':Hp}{a:Addr}{xs:List V}(e:Same H H')(h:SqL K H a xs):SqL K H' a xs:=by
 rcases h with (h | ⟨o,h⟩) | h
 ·exact .inl (.inl (e _ _ h))
 ·exact .inl (.inr ⟨o,e _ _ h⟩)
 ·exact .inr h
end L2
namespace L2
open PySem PySem.Spec PyProof.Rows
section
variable {κ:Type}[DecidableEq κ]
noncomputable def qQ (kvs:List (κ × V)) (k:κ):Option V:=(kvs.find? fun kv=>decide (kv.1=k)).map (·.2)
noncomputable def oM (kvs:List (κ × V)) (k:κ) (v:V):List (κ × V):=
 if (kvs.any fun kv=>decide (kv.1=k))=true then kvs.map (fun kv=>if kv.1=k then (kv.1,v) else kv) else kvs++[(k,v)]
theorem kQ {p:κ × V}{r:List (κ × V)}{k:κ}(e:p.1=k):qQ (p :: r) k=some p.2:=by simp [qQ,List.find?_cons,e]
theorem kB {p:κ × V}{r:List (κ × V)}{k:κ}(e:¬ p.1=k):qQ (p :: r) k=qQ r k:=by simp [qQ,List.find?_cons,e]
theorem vA (k:κ):∀ kvs:List (κ × V),(kvs.any fun kv=>decide (kv.1=k))=(qQ kvs k).isSome
 | []=>rfl
 | p :: r=>by
  rw [List.any_cons]
  by_cases e:p.1=k
  ·simp only [kQ e,decide_eq_true e,Bool.true_or,Option.isSome_some]
  ·rw [kB e,decide_eq_false e,Bool.false_or];exact vA k r
theorem jN (kvs:List (κ × V))(k:κ)(v:V):(oM kvs k v).length≤kvs.length+1:=by
 unfold oM
 split
 ·rw [List.length_map];omega
 ·rw [List.length_append,List.length_cons,List.length_nil];omega
theorem RelO.isSome_eq {o:Option V}{u:Option Value}(r:RelO o u):o.isSome=u.isSome:=by
 cases o with
 | none=>cases u with
  | none=>rfl
  | some _=>exact (show False from r).elim
 | some _=>cases u with
  | none=>exact (show False from r).elim
  | some _=>rfl
theorem KV.val {kvs:List (κ × V)}{vs:List (κ × Value)}(r:KV kvs vs)(k:κ):RelO (qQ kvs k) (valueAt vs k):=by
 unfold KV at r
 induction r with
 | nil=>exact True.intro
 | @cons p q ps qs h t ih=>
  obtain ⟨h1,h2⟩:=h
  by_cases e:p.1=k
  ·have e':q.1=k:=h1.symm.trans e
   have b:valueAt (q :: qs) k=some q.2:=by simp [valueAt,List.find?_cons,e']
   rw [kQ e,b];exact h2
  ·have e':¬ q.1=k:=fun z=>e (h1.trans z)
   have b:valueAt (q :: qs) k=valueAt qs k:=by simp [valueAt,List.find?_cons,e']
   rw [kB e,b];exact ih
theorem KV.any {kvs:List (κ × V)}{vs:List (κ × Value)}(r:KV kvs vs)(k:κ):(kvs.any fun kv=>decide (kv.1=k))=vs.any fun kv=>decide (kv.1=k):=by
 unfold KV at r
 induction r with
 | nil=>rfl
 | cons h t ih=>rw [List.any_cons,List.any_cons,ih,h.1]
theorem KV.repl {kvs:List (κ × V)}{vs:List (κ × Value)}(r:KV kvs vs)(k:κ){y:V}{u:Value}(ry:RelV y u) :
  KV (kvs.map fun kv=>if kv.1=k then (kv.1,y) else kv) (vs.map fun kv=>if kv.1=k then (kv.1,u) else kv):=by
 unfold KV at r ⊢
 induction r with
 | nil=>exact .nil
 | @cons p q ps qs h t ih=>
  rw [List.map_cons,List.map_cons]
  refine .cons ?_ ih
  obtain ⟨h1,h2⟩:=h
  by_cases e:p.1=k
  ·rw [if_pos e,if_pos (h1.symm.trans e)];exact ⟨h1,ry⟩
  ·rw [if_neg e,if_neg (fun z=>e (h1.trans z))];exact ⟨h1,h2⟩
theorem KV.put {kvs:List (κ × V)}{vs:List (κ × Value)}(r:KV kvs vs)(k:κ){y:V}{u:Value}(ry:RelV y u):KV (oM kvs k y) (stored vs k u):=by
 unfold oM stored
 rw [r.any k]
 by_cases e:(vs.any fun kv=>decide (kv.1=k))=true
 ·rw [if_pos e,if_pos e];exact r.repl k ry
 ·rw [if_neg e,if_neg e];exact Paired.snoc r ⟨rfl,ry⟩
theorem KV.length {kvs:List (κ × V)}{vs:List (κ × Value)}(r:KV kvs vs):kvs.length=vs.length:=Paired.length r
end
theorem xM {P:Program}{w:World}{k:Key}{u:Value}(r:RelV (kV k) u):(cO P w).is k u=true:=by
 cases k with
 | inl i=>obtain ⟨t,e⟩:=(show ∃ t,u=Value.int i t from r);subst e;exact tT P w i t
 | inr x=>obtain ⟨t,e⟩:=(show ∃ t,u=Value.str x t from r);subst e;exact sW P w x t
theorem sK {P:Program}{w:World}:∀ {ks:List Key} {us:List Value},Vals (ks.map kV) us→ItemsAre (cO P w) ks us
 | [],_,r=>by rw [List.map_nil] at r;cases r;exact .nil
 | k :: ks,_,r=>by
  rw [List.map_cons] at r
  cases r with
  | cons h t=>exact .cons (xM h) (sK t)
noncomputable abbrev KT (H:Hp):List (List Key × V)→List (List Key × Addr × Value)→Prop:=Paired fun p q=>p.1=q.1∧H q.2.1=some (.tup (p.1.map kV))∧RelV p.2 q.2.2
theorem KT.val {H:Hp}{kvs:List (List Key × V)}{xs:List (List Key × Addr × Value)}(r:KT H kvs xs)(k:List Key):RelO (qQ kvs k) ((atKey xs k).map (·.2)):=by
 induction r with
 | nil=>exact True.intro
 | @cons p q ps qs h t ih=>
  obtain ⟨h1,_,h2⟩:=h
  by_cases e:p.1=k
  ·have e':q.1=k:=h1.symm.trans e
   have b:atKey (q :: qs) k=some q.2:=by simp [atKey,List.find?_cons,e']
   rw [kQ e,b];exact h2
  ·have e':¬ q.1=k:=fun z=>e (h1.trans z)
   have b:atKey (q :: qs) k=atKey qs k:=by simp [atKey,List.find?_cons,e']
   rw [kB e,b];exact ih
theorem KT.repl {H:Hp}{kvs:List (List Key × V)}{xs:List (List Key × Addr × Value)}(r:KT H kvs xs)(k:List Key){y:V}{u:Value}(ry:RelV y u) :
  KT H (kvs.map fun kv=>if kv.1=k then (kv.1,y) else kv) (xs.map (putAt k u)):=by
 induction r with
 | nil=>exact .nil
 | @cons p q ps qs h t ih=>
  rw [List.map_cons,List.map_cons]
  refine .cons ?_ ih
  obtain ⟨h1,h2,h3⟩:=h
  unfold putAt
  by_cases e:p.1=k
  ·rw [if_pos e,if_pos (h1.symm.trans e)];exact ⟨h1,h2,ry⟩
  ·rw [if_neg e,if_neg (fun z=>e (h1.trans z))];exact ⟨h1,h2,h3⟩
theorem KT.put {H:Hp}{kvs:List (List Key × V)}{xs:List (List Key × Addr × Value)}(r:KT H kvs xs)(k:List Key){b:Addr}{y:V}{u:Value}(hb:H b=some (.tup (k.map kV)))(ry:RelV y u) :
  KT H (oM kvs k y) (storedH xs k b u):=by
 have e:(kvs.any fun kv=>decide (kv.1=k))=(atKey xs k).isSome:=by
  rw [vA,(r.val k).isSome_eq,Option.isSome_map]
 unfold oM storedH
 rw [e]
 by_cases q:(atKey xs k).isSome=true
 ·rw [if_pos q,if_pos q];exact r.repl k ry
 ·rw [if_neg q,if_neg q];exact Paired.snoc r ⟨rfl,hb,ry⟩
theorem KT.keeps {H H':Hp}{kvs:List (List Key × V)}{xs:List (List Key × Addr × Value)}(r:KT H kvs xs)(ht:∀ b ys,H b=some (.tup ys)→H' b=some (.tup ys)):KT H' kvs xs:=
 Paired.mapP r fun _ _ z=>⟨z.1,ht _ _ z.2.1,z.2.2⟩
section
variable {P:Program}{w:World}{H:Hp}{h:Heap}{a:Addr}
theorem aDj {u:HO}(ok:HOk P w H h)(e:Rd H a u):ObjOk P w H h a u:=e.ok ok
theorem zJ {kvs:List (Key × V)}(ok:HOk P w H h)(e:Rd H a (.dK kvs)):kvs.length≤sizeLine∧(a == sysModules)=false∧∃ vs,KV kvs vs∧h.DictOf (cO P w) a vs:=
 show ObjOk P w H h a (.dK kvs) from aDj ok e
theorem aDT {kvs:List (Key × V)}(ok:HOk P w H h)(e:H a=some (.dK kvs)):kvs.length≤sizeLine∧(a == sysModules)=false∧∃ vs,KV kvs vs∧h.DictOf (cO P w) a vs:=zJ ok (.inl e)
theorem vJ {ks:List Key}(ok:HOk P w H h)(e:H a=some (.tup (ks.map kV))):(tupleKind (cO P w)).is h ks a:=by
 obtain ⟨_,its,r,o,h1,h2,⟨n,h3⟩,_⟩:=(show ObjOk P w H h a (.tup (ks.map kV)) from ok a _ e)
 exact ⟨o,its.toArray,n,h1,h2,h3,by simpa using sK r⟩
theorem aAA {kvs:List (List Key × V)}(ok:HOk P w H h)(e:Rd H a (.dT kvs)):kvs.length≤sizeLine∧(a == sysModules)=false ∧
  ∃ xs,KT H kvs xs∧h.DictOfH (tupleKind (cO P w)) a xs:=by
 obtain ⟨z,y,xs,r,o,es,ep,h1,h2,h3,h4,h5⟩:=(show ObjOk P w H h a (.dT kvs) from aDj ok e)
 refine ⟨z,y,xs,r,o,es,ep,h1,h2,h3,h4,fun x hx=>?_,h5⟩
 have all:∀ {l:List (List Key × V)} {m:List (List Key × Addr × Value)},KT H l m→∀ x∈m,(tupleKind (cO P w)).is h x.1 x.2.1:=by
  intro l m q
  induction q with
  | nil=>intro x hx;exact nomatch hx
  | @cons p q ps qs hq t ih=>
   intro x hx
   rcases List.mem_cons.mp hx with e | hx
   ·subst e
    exact vJ ok (by rw [← hq.1];exact hq.2.1)
   ·exact ih x hx
 exact all r x hx
theorem aFp {kvs:List (List Key × V)}(ok:HOk P w H h)(e:H a=some (.dT kvs)):kvs.length≤sizeLine∧(a == sysModules)=false ∧
  ∃ xs,KT H kvs xs∧h.DictOfH (tupleKind (cO P w)) a xs:=aAA ok (.inl e)
end
noncomputable def DGet (H:Hp) (a:Addr) (y:V) (r:Option V):Prop:=
 (∃ kvs k,Rd H a (.dK kvs)∧y=kV k∧r=qQ kvs k)∨∃ kvs k b,Rd H a (.dT kvs)∧y = .ref b∧H b=some (.tup (k.map kV))∧r=qQ kvs k
noncomputable def DPut (H:Hp) (a:Addr) (y v:V) (H':Hp):Prop:=
 (∃ kvs k,H a=some (.dK kvs)∧y=kV k∧kvs.length<sizeLine∧H'=upd H a (.dK (oM kvs k v))) ∨
 ∃ kvs k b,H a=some (.dT kvs)∧y = .ref b∧H b=some (.tup (k.map kV))∧kvs.length<sizeLine∧H'=upd H a (.dT (oM kvs k v))
theorem DGet.k {H:Hp}{a:Addr}{kvs:List (Key × V)}{k:Key}(e:H a=some (.dK kvs)):DGet H a (kV k) (qQ kvs k) := .inl ⟨kvs,k, .inl e,rfl,rfl⟩
theorem DGet.t {H:Hp}{a b:Addr}{kvs:List (List Key × V)}{k:List Key}(e:H a=some (.dT kvs))(eb:H b=some (.tup (k.map kV))):DGet H a (.ref b) (qQ kvs k) := .inr ⟨kvs,k,b, .inl e,rfl,eb,rfl⟩
theorem DPut.k {H:Hp}{a:Addr}{kvs:List (Key × V)}{k:Key}{v:V}(e:H a=some (.dK kvs))(hl:kvs.length<sizeLine):DPut H a (kV k) v (upd H a (.dK (oM kvs k v))) := .inl ⟨kvs,k,e,rfl,hl,rfl⟩
theorem DPut.t {H:Hp}{a b:Addr}{kvs:List (List Key × V)}{k:List Key}{v:V}(e:H a=some (.dT kvs))(eb:H b=some (.tup (k.map kV)))(hl:kvs.length<sizeLine) :
  DPut H a (.ref b) v (upd H a (.dT (oM kvs k v))) := .inr ⟨kvs,k,b,e,rfl,eb,hl,rfl⟩
section
variable {X:Cx}{pins:List (Addr × Obj)}{σ:St}{H:Hp}{s:Shared}{a:Addr}{y v:V}{u r:Value}{o:Option V}{A:Around}{E:Value→Shared→Prop}
theorem Inv.big (I:Inv X pins σ H s):sysModules<s.heap.objs.size:=by
 have h:mainGlobals<s.heap.objs.size:=(I.mod.glob.keeps I.bk).lt
 exact Nat.lt_trans (by decide) h
theorem zS {Q:Value→Shared→Prop}(hu:A.units+1<cLine)(I:Inv X pins σ H s)(g:DGet H a y (some v))(ry:RelV y u)(h:∀ w' s',Inv X pins σ H s'→RelV v w'→Q w' s') :
  wpAny (model X.prog X.w) A (getItem (.ref a) u) Q E s:=by
 rcases g with ⟨kvs,k,e,ey,l⟩ | ⟨kvs,k,b,e,ey,eb,l⟩
 ·subst ey
  obtain ⟨z,hd,vs,rel,dd⟩:=zJ I.hok e
  obtain ⟨w',hw,rw'⟩:=RelO.some_of (v:=v) (o:=valueAt vs k) (by rw [l];exact rel.val k)
  exact wpAny_getItem_of (xM ry) dd.mapOf hw (h w' _ (I.tok _) rw')
 ·subst ey
  cases (show u=Value.ref b from ry)
  obtain ⟨z,hd,xs,rel,dd⟩:=aAA I.hok e
  obtain ⟨w',hw,rw'⟩:=RelO.some_of (v:=v) (o:=(atKey xs k).map (·.2)) (by rw [l];exact rel.val k)
  obtain ⟨p,hp,hp2⟩:=Option.map_eq_some_iff.mp hw
  refine wpAny_getItem_heap (tupleKind_room_in1 hu) (vJ I.hok eb) dd hp ?_
  rw [hp2]
  exact h w' _ (I.tok _) rw'
theorem aCI {Q:Value→Shared→Prop}(hu:A.units+1<cLine)(I:Inv X pins σ H s)(g:DGet H a y o)(ry:RelV y u)(h:∀ s',Inv X pins σ H s'→Q (.bool (!o.isSome)) s') :
  wpAny (model X.prog X.w) A (compareOp .NotIn u (.ref a)) Q E s:=by
 rcases g with ⟨kvs,k,e,ey,l⟩ | ⟨kvs,k,b,e,ey,eb,l⟩
 ·subst ey
  obtain ⟨z,hd,vs,rel,dd⟩:=zJ I.hok e
  refine wpAny_notIn_of (xM ry) hd dd.mapOf ?_
  rw [← (rel.val k).isSome_eq,← l]
  exact h _ (I.tok _)
 ·subst ey
  cases (show u=Value.ref b from ry)
  obtain ⟨z,hd,xs,rel,dd⟩:=aAA I.hok e
  refine wpAny_notIn_heap (tupleKind_room_in1 hu) (vJ I.hok eb) hd dd ?_
  have q:=(rel.val k).isSome_eq
  rw [Option.isSome_map] at q
  rw [← q,← l]
  exact h _ (I.tok _)
theorem sP {h':Heap}{t':Nat}{ob:HO}(I:Inv X pins σ H s)(mu:Mut (H a))(hs:Heap.SameBut a s.heap h')(he:∃ q,h'.get? a=some q)(new:ObjOk X.prog X.w (upd H a ob) h' a ob) :
  Inv X pins σ (upd H a ob) { s with heap:=h',toks:=t' }:=
 I.write (x:=a) (e:=a) mu (.inl rfl) (fun b q hb z=>(hs.2 b hb).trans z) he new
theorem aBx {P:Program}{w:World}{H':Hp}{h':Heap}{kvs:List (Key × V)}{vs:List (Key × Value)}(z:kvs.length≤sizeLine)(hd:(a == sysModules)=false)(rel:KV kvs vs)(dd:h'.DictOf (cO P w) a vs) :
  ObjOk P w H' h' a (.dK kvs):=⟨z,hd,vs,rel,dd⟩
theorem zP {H':Hp}{Q:Unit→Shared→Prop}(hu:A.units+1<cLine)(I:Inv X pins σ H s)(g:DPut H a y v H')(ry:RelV y u)(rv:RelV v r)(h:∀ s',Inv X pins σ H' s'→Q () s') :
  wpAny (model X.prog X.w) A (setItem (.ref a) u r) Q E s:=by
 rcases g with ⟨kvs,k,e,ey,l,eH⟩ | ⟨kvs,k,b,e,ey,eb,l,eH⟩
 ·subst ey eH
  obtain ⟨z,hd,vs,rel,dd⟩:=aDT I.hok e
  have hz:vs.length≤sizeLine:=by rw [← rel.length];exact z
  have hl:(oM kvs k v).length≤sizeLine:=by have:=jN kvs k v;omega
  refine wpAny_setItem_pairs (hsz:=hz) (xM ry) dd fun h' dd' hs=>h _ ?_
  have he:∃ q,h'.get? a=some q:=let ⟨q,_,_,hq,_⟩:=dd';⟨q,hq⟩
  exact sP I (by rw [e];exact True.intro) hs he (aBx hl hd (rel.put k rv) dd')
 ·subst ey eH
  cases (show u=Value.ref b from ry)
  obtain ⟨z,hd,xs,rel,dd⟩:=aFp I.hok e
  have hz:xs.length≤sizeLine:=by rw [← Paired.length rel];exact z
  have hl:(oM kvs k v).length≤sizeLine:=by have:=jN kvs k v;omega
  refine wpAny_setItem_heap (hsz:=hz) (tupleKind_room_in1 hu) (vJ I.hok eb) dd fun h' dd' hs=>h _ ?_
  obtain ⟨q,es,ep,hq,h2,h3,h4,_,h5⟩:=dd'
  refine sP I (by rw [e];exact True.intro) hs ⟨q,hq⟩ ⟨hl,hd,_,(rel.put k eb rv).keeps fun c ys ec=>?_,q,es,ep,hq,h2,h3,h4,h5⟩
  rw [aO (ne_of ec e (fun z=>nomatch z))]
  exact ec
end
section
variable {X:Cx}{pins:List (Addr × Obj)}{σ:St}{H:Hp}{s:Shared}{a:Addr}{kvs:List (Key × V)}{k:Key}{u:Value}{A:Around}{E:Value→Shared→Prop}
theorem aEW {Q:Value→Shared→Prop}(I:Inv X pins σ H s)(e:Rd H a (.dK kvs))(h:∀ t s',Inv X pins σ H s'→Q (.int kvs.length t) s'):wpAny (model X.prog X.w) A (call (.builtin "len") [.ref a]) Q E s:=by
 obtain ⟨z,hd,vs,rel,dd⟩:=zJ I.hok e
 refine call_len_dict hd dd (by rw [← rel.length];rw [sizeLine_eq] at z;omega) ?_
 rw [← rel.length]
 exact h _ _ (I.tok _)
end
noncomputable def aFS (i:Expr):Prop:=∀ ov iv,subscripted i false ov iv=operate [ov,iv] (getItem ov iv)
theorem aCE {prog:Program}{w:World}{A:Around}{E:Value→Shared→Prop}{s:Shared}{env:Env}{value slice:Expr}{pos:Pos}{T id:String}{Q:Value→Shared→Prop}
  (hl:typeLookup (.type T) "__getitem__" = pure (some (.builtin id))) (hs:aFS slice)
  (h:wpAny (model prog w) A (eval value env) (fun o s₁=>wpAny (model prog w) A (eval slice env) (fun i s₂=>s₂.TypeIs o T∧wpAny (model prog w) A (getItem o i) Q E s₂) E s₁) E s) :
  wpAny (model prog w) A (eval (.Subscript value slice pos) env) Q E s:=by
 refine Subscript_ (wpAny_mono h (fun o s₁ h₁=>wpAny_mono h₁ (fun i s₂ h₂=>?_) fun _ _ x=>x) fun _ _ x=>x)
 obtain ⟨hT,h₂⟩:=h₂
 unfold subscriptTail
 refine wpAny_bind ?_
 rw [getitemInPython_of_ne hT.not_modules]
 refine wpAny_bind (wpAny_specialOf hT hl ?_)
 have fin:wpAny (model prog w) A (subscripted slice false o i) (fun r s₃=>wpAny (model prog w) A (letTemporaryGo value o r >>= fun _=>pure r) Q E s₃) E s₂:=by
  rw [hs o i]
  exact wpAny_operating (wpAny_mono h₂ (fun r s₃ h₃=>wpAny_bind (wpAny_letTemporaryGo (wpAny_pure h₃))) fun _ _ x=>x)
 first
  | exact wpAny_pure (wpAny_bind fin)
  | exact wpAny_bind (wpAny_pure (wpAny_bind fin))
  | exact wpAny_bind fin
theorem tF {X:Cx}{pins:List (Addr × Obj)}{σ:St}{H:Hp}{s:Shared}{a:Addr}{y:V}{o:Option V}(I:Inv X pins σ H s)(g:DGet H a y o):s.TypeIs (.ref a) "dict":=by
 rcases g with ⟨kvs,k,e,_,_⟩ | ⟨kvs,k,b,e,_,_,_⟩
 ·obtain ⟨_,_,vs,_,dd⟩:=zJ I.hok e
  exact dd.typeIs
 ·obtain ⟨_,_,xs,_,dd⟩:=aAA I.hok e
  exact dd.typeIs
noncomputable def jK (td ty:TE):TE:=fun σ H Q=>td σ H fun x H1=>ty σ H1 fun y H2=>∃ a v,x = .ref a∧DGet H2 a y (some v)∧Q v H2
noncomputable def xJ (ty td:TE):TE:=fun σ H Q=>ty σ H fun y H1=>td σ H1 fun x H2=>∃ a o,x = .ref a∧DGet H2 a y o∧Q (.bl (!o.isSome)) H2
noncomputable def lX (td ty tv:TE):TS:=fun D σ H=>tv σ H fun v H1=>td σ H1 fun x H2=>ty σ H2 fun y H3=>∃ a H4,x = .ref a∧DPut H3 a y v H4∧D.nx σ H4
section
variable {X:Cx}{o i e value:Expr}{pos pos' tpos:Pos}{td ty tv:TE}
theorem eB (hu:X.A.units+1<cLine)(ho:PE X o td)(hi:PE X i ty)(hs:aFS i):PE X (.Subscript o i pos) (jK td ty):=by
 intro pins s σ H Q I h
 refine aCE PySem.F.slot_dict_getitem.lookup hs (thn (ho pins s σ H _ I h) fun u s1 ⟨x,H1,I1,rx,q1⟩=>thn (hi pins s1 σ H1 _ I1 q1) fun iv s2 ⟨y,H2,I2,ry,a,v,ex,g,q2⟩=>?_)
 subst ex
 obtain rfl:u=Value.ref a:=rx
 exact ⟨tF I2 g,zS hu I2 g ry fun w' s3 I3 rw'=>⟨v,H2,I3,rw',q2⟩⟩
theorem xV (hu:X.A.units+1<cLine)(hi:PE X i ty)(ho:PE X o td):PC X .NotIn i o (xJ ty td):=by
 intro pins s σ H Q I h
 refine thn (hi pins s σ H _ I h) fun iv s1 ⟨y,H1,I1,ry,q1⟩=>thn (ho pins s1 σ H1 _ I1 q1) fun u s2 ⟨x,H2,I2,rx,a,ov,ex,g,q2⟩=>?_
 subst ex
 obtain rfl:u=Value.ref a:=rx
 exact aCI hu I2 g ry fun s3 I3=>⟨.bl (!ov.isSome),H2,I3,rfl,q2⟩
theorem lL (hu:X.A.units+1<cLine)(ho:PE X o td)(hi:PE X i ty)(hv:PE X value tv)(hs:swapsWith value (some (.Subscript o i pos')) pos.line X.env=pure false) :
  PS X (.Assign [.Subscript o i pos'] value pos) (lX td ty tv):=by
 intro pins s σ H D I h
 refine wpAny_Assign_Subscript (thn (hv pins s σ H _ I h) fun r s1 ⟨v,H1,I1,rv,q1⟩=>thn (ho pins s1 σ H1 _ I1 q1) fun u s2 ⟨x,H2,I2,rx,q2⟩=>thn (hi pins s2 σ H2 _ I2 q2) fun iv s3 ⟨y,H3,I3,ry,a,H4,ex,g,q3⟩=>?_) hs
 subst ex
 obtain rfl:u=Value.ref a:=rx
 exact zP hu I3 g ry rv fun s4 I4=>⟨σ,H4,I4,q3⟩
end
theorem uM {P:Program}{w:World}{H:Hp}(h:Heap)(hb:sysModules<h.objs.size):ObjOk P w H (h.push { cls := .type "dict",data := .dict #[] }) h.objs.size (.dK []):=
 ⟨Nat.zero_le _,beq_eq_false_iff_ne.mpr (Ne.symm (Nat.ne_of_lt hb)),[], .nil,Heap.DictOf.new h⟩
noncomputable def aBy:TE:=fun _ H Q=>∀ p,H p=none→Q (.ref p) (upd H p (.dK []))
section
variable {X:Cx}{pos:Pos}
theorem aAK:PE X (.Dict [] [] pos) aBy:=fun pins s σ H Q I h=>
 wpAny_Dict_empty ⟨.ref s.heap.objs.size,_,I.laid (a:=s.heap.objs.size) (o := .dK []) (t':=s.toks) (fun _ _ q=>Heap.get?_push_of_some _ q) (Nat.le_refl _) (uM s.heap I.big),rfl,h _ (I.hok.fresh (Nat.le_refl _))⟩
end
noncomputable def yU:List (TE × TE)→St→Hp→(List (V × V)→Hp→Prop)→Prop
 | [],_,H,Q=>Q [] H
 | (tk,tv) :: r,σ,H,Q=>tk σ H fun x H1=>tv σ H1 fun y H2=>yU r σ H2 fun ps H3=>Q ((x,y) :: ps) H3
noncomputable abbrev VV:List (V × V)→List (Value × Value)→Prop:=Paired fun p q=>RelV p.1 q.1∧RelV p.2 q.2
noncomputable def PPs (X:Cx) (pos:Pos) (keys:List (Option Expr)) (values:List Expr) (trs:List (TE × TE)):Prop:=
 ∀ (pins:List (Addr × Obj)) (s:Shared) (σ:St) (H:Hp) (Q:List (V × V)→Hp→Prop),Inv X pins σ H s→yU trs σ H Q →
  wpAny (model X.prog X.w) X.A (evalPairs (pairTrees keys values X.env pos)) (fun vs s'=>∃ ps H',Inv X pins σ H' s'∧VV ps vs∧Q ps H') X.xe s
theorem yI {X:Cx}{pos:Pos}:PPs X pos [] [] []:=fun pins s σ H Q I h=>pairTrees_nil_walk ⟨[],H,I, .nil,h⟩
theorem vH {X:Cx}{pos:Pos}{k v:Expr}{ks:List (Option Expr)}{vs:List Expr}{tk tv:TE}{trs:List (TE × TE)}(hk:PE X k tk)(hv:PE X v tv)(hr:PPs X pos ks vs trs) :
  PPs X pos (some k :: ks) (v :: vs) ((tk,tv) :: trs):=fun pins s σ H Q I h=>
 pairTrees_cons_walk (thn (hk pins s σ H _ I h) fun u s1 ⟨x,H1,I1,rx,q1⟩=>thn (hv pins s1 σ H1 _ I1 q1) fun w2 s2 ⟨y,H2,I2,ry,q2⟩=>
  thn (hr pins s2 σ H2 _ I2 q2) fun ws s3 ⟨ps,H3,I3,rel,q3⟩=>⟨(x,y) :: ps,H3,I3, .cons ⟨rx,ry⟩ rel,q3⟩)
noncomputable def nJ (kvs more:List (Key × V)):List (Key × V):=more.foldl (fun acc kv=>oM acc kv.1 kv.2) kvs
theorem KV.merge:∀ {more:List (Key × V)} {rs:List (Key × Value)} {kvs:List (Key × V)} {vs:List (Key × Value)},KV more rs→KV kvs vs→KV (nJ kvs more) (merged vs rs):=by
 intro more rs kvs vs r
 unfold KV at r
 induction r generalizing kvs vs with
 | nil=>intro q;exact q
 | @cons p q ps qs h t ih=>
  intro r0
  have e:KV (oM kvs p.1 p.2) (stored vs q.1 q.2):=by
   have:=r0.put p.1 h.2
   rw [← h.1];exact this
  exact ih e
theorem kI:∀ (more kvs:List (Key × V)),(nJ kvs more).length≤kvs.length+more.length
 | [],kvs=>by show kvs.length≤kvs.length+0;omega
 | p :: r,kvs=>by
  have h1:=kI r (oM kvs p.1 p.2)
  have h2:=jN kvs p.1 p.2
  show (nJ (oM kvs p.1 p.2) r).length≤_
  rw [List.length_cons];omega
theorem oR {P:Program}{w:World}:∀ {kvs:List (Key × V)} {ws:List (Value × Value)},VV (kvs.map fun kv=>(kV kv.1,kv.2)) ws→∃ rs,Carries (cO P w) ws rs∧KV kvs rs
 | [],_,r=>by rw [List.map_nil] at r;cases r;exact ⟨[],True.intro, .nil⟩
 | p :: kvs,_,r=>by
  rw [List.map_cons] at r
  cases r with
  | @cons a b as bs h t=>
   obtain ⟨rs,c,q⟩:=oR (P:=P) (w:=w) t
   obtain ⟨b1,b2⟩:=b
   exact ⟨(p.1,b2) :: rs,⟨xM h.1,rfl,c⟩, .cons ⟨rfl,h.2⟩ q⟩
noncomputable def aBI (trs:List (TE × TE)):TE:=fun σ H Q=>∀ p,H p=none→yU trs σ (upd H p (.dK [])) fun ps H2=>H2 p=some (.dK [])∧∃ kvs:List (Key × V),ps=kvs.map (fun kv=>(kV kv.1,kv.2))∧kvs.length≤15∧Q (.ref p) (upd H2 p (.dK (nJ [] kvs)))
theorem zC {X:Cx}{pos:Pos}{keys:List (Option Expr)}{values:List Expr}{trs:List (TE × TE)}(h:PPs X pos keys values trs)(hall:keys.all (·.isSome)=true)(hl:keys.length=values.length)(h0:keys≠[])
  (h15:keys.length≤15):PE X (.Dict keys values pos) (aBI trs):=by
 intro pins s σ H Q I q
 have hn:=I.hok.fresh (Nat.le_refl s.heap.objs.size)
 have I1:=I.laid (a:=s.heap.objs.size) (o := .dK []) (h':=s.heap.push { cls := .type "dict",data := .dict #[] }) (t':=s.toks) (fun _ _ q=>Heap.get?_push_of_some _ q) (Nat.le_refl _) (uM s.heap I.big)
 refine wpAny_Dict_walk (knd:=cO X.prog X.w) hall hl h0 h15 (thn (h pins _ σ _ _ I1 (q _ hn)) fun ws s2 ⟨ps,H2,I2,rel,e,kvs,ep,lk,q2⟩=>?_)
 subst ep
 obtain ⟨rs,c,rk⟩:=oR (P:=X.prog) (w:=X.w) rel
 obtain ⟨z,hd,vs0,r0,dd⟩:=aDT I2.hok e
 cases r0
 refine ⟨rs,c,dd,fun h' dd' hs=>⟨.ref s.heap.objs.size,_,?_,rfl,q2⟩⟩
 have hz:(nJ [] kvs).length≤sizeLine:=by
  have h1:=kI kvs []
  rw [List.length_nil] at h1
  rw [sizeLine_eq];omega
 have he:∃ q,h'.get? s.heap.objs.size=some q:=let ⟨q,_,_,hq,_⟩:=dd';⟨q,hq⟩
 exact sP I2 (by rw [e];exact True.intro) hs he (aBx hz hd (rk.merge .nil) dd')
section
variable {X:Cx}{pins:List (Addr × Obj)}{σ:St}{H:Hp}{s:Shared}{a:Addr}{y d:V}{u r:Value}{o:Option V}{A:Around}{E:Value→Shared→Prop}
end
section
variable {X:Cx}{o e f:Expr}{apos cpos:Pos}{td ty tx:TE}
end
section
variable {X:Cx}{pins:List (Addr × Obj)}{σ:St}{H:Hp}{s:Shared}{a:Addr}{kvs:List (Key × V)}{A:Around}{E:Value→Shared→Prop}
end
section
variable {X:Cx}{pins:List (Addr × Obj)}{σ:St}{H:Hp}{s:Shared}{a:Addr}{y:V}{u:Value}{A:Around}{E:Value→Shared→Prop}
end
end L2
namespace L2
open PySem PySem.Spec PyProof.Rows
section
variable {X:Cx}
theorem rJ:CallR X (.builtin "len") (fun xs H Q=>∃ a kvs,xs=[V.ref a]∧H a=some (.dK kvs)∧Q (.int kvs.length) H):=by
 intro pins s σ H xs us Q I r h
 obtain ⟨a,kvs,rfl,ha,q⟩:=h
 obtain ⟨u,rfl,ru⟩:=rF r
 cases ru
 exact aEW I (.inl ha) fun t s' I'=>⟨.int kvs.length,H,I',⟨t,rfl⟩,q⟩
end
end L2
namespace L2
open PySem PySem.Spec PyProof.Rows
section
variable {κ:Type}[DecidableEq κ]
theorem pO:∀ {l:List κ} {k:κ},l.Nodup→¬ k∈l→(l++[k]).Nodup
 | [],k,_,_=>by simp
 | a :: r,k,h,hk=>by
  obtain ⟨h1,h2⟩:=List.nodup_cons.mp h
  show (a :: (r++[k])).Nodup
  refine List.nodup_cons.mpr ⟨fun m=>?_,pO h2 fun m=>hk (List.mem_cons.mpr (Or.inr m))⟩
  rcases List.mem_append.mp m with q | q
  ·exact h1 q
  ·exact hk (List.mem_cons.mpr (Or.inl (List.mem_singleton.mp q).symm))
end
end L2
namespace L2
open PySem PySem.Spec PyProof.Rows
noncomputable def jM (J:It) (g:TG) (tb:TS):TS:=fun D σ H=>∃ W:Nat→Nat→St→Hp→Prop,(∃ m,W 0 m σ H)∧∀ i m σ H,W i m σ H →
 (J.stop i H∧D.nx σ H)∨(J.go i H∧∃ N:St→Hp→Prop,(∀ σ' H',N σ' H'→∃ m',m'<m∧W (i+1) m' σ' H')∧∀ x H',J.yld i H x H'→g x σ H' fun σ2 H2=>tb { D with nx:=N,ct:=N,bk:=D.nx } σ2 H2)
noncomputable def sL (elt:Expr) (gens:List Comprehension) (scope:Scope) (pos:Pos) (d:Nat) (acc:Value) (env:Env) (k:Sem Fin):Sem Fin:=
 match gens[d+1]? with
 | some g'=>eval g'.iter env >>= fun x=>standAt g'.iter.pos >>= fun _=>foldedSetIterable g'.iter env x >>= fun x=>holding [x] (pyIter x) >>= fun i=>
   runOwn (.compStart (.ListComp elt gens scope pos) (d+1) i acc env) env >>= fun _=>k
 | none=>(eval elt env >>= fun x=>call (.builtin "list.append") [acc,x] >>= fun _=>pure ()) >>= fun _=>k
theorem tI {elt target iter:Expr}{ifs:List Expr}{gens:List Comprehension}{scope:Scope}{pos:Pos}{d:Nat}(it acc:Value)(env:Env)(hg:gens[d]?=some ⟨target,iter,ifs,0⟩)
  (hn:∀ g',gens[d+1]?=some g'→g'.is_async=0) :
  compTurn (.ListComp elt gens scope pos) d it acc env=(standAt iter.pos >>= fun _=>pyNext it >>= fun r=>match r with
   | none=>pure (.done .next)
   | some v=>letOwnedTupleGo target it v >>= fun _=>assign target env v >>= fun _=>
    (forIn ifs true fun c r=>if r=true then do let ok ← isTrue c env (eval c env);pure (ForInStep.yield ok) else pure (ForInStep.yield r)) >>= fun ok=>
     if ok=true then sL elt gens scope pos d acc env (again (.compLoop (.ListComp elt gens scope pos) d it acc env))
     else again (.compLoop (.ListComp elt gens scope pos) d it acc env)):=by
 unfold compTurn sL
 simp only [hg]
 cases h:gens[d+1]? with
 | none=>rfl
 | some g'=>
  obtain ⟨t',i',f',a'⟩:=g'
  have e:a'=0:=hn _ h
  subst e
  rfl
noncomputable def iB:List TT→TS→TS
 | [],tb=>tb
 | c :: r,tb=>iU c (iB r tb) aR
inductive PTs (X:Cx):List Expr→List TT→Prop
 | nil:PTs X [] []
 | cons {c:Expr} {cs:List Expr} {t:TT} {ts:List TT}:PT X c t→PTs X cs ts→PTs X (c :: cs) (t :: ts)
section
variable {X:Cx}
theorem tG {cs:List Expr}{s:Shared}{Q:Bool→Shared→Prop}{E:Value→Shared→Prop}(h:Q false s) :
  wpAny (model X.prog X.w) X.A (forIn cs false fun c r=>if r=true then do let ok ← isTrue c X.env (eval c X.env);pure (ForInStep.yield ok) else pure (ForInStep.yield r)) Q E s:=by
 induction cs with
 | nil=>rw [List.forIn_nil];exact wpAny_pure h
 | cons c cs ih=>
  rw [List.forIn_cons,if_neg Bool.false_ne_true]
  exact wpAny_bind (wpAny_pure ih)
theorem sE {tb:TS}{D:lG}{pins:List (Addr × Obj)}:∀ {cs:List Expr} {ts:List TT},PTs X cs ts→∀ {s:Shared} {σ:St} {H:Hp},Inv X pins σ H s→iB ts tb D σ H →
  wpAny (model X.prog X.w) X.A (forIn cs true fun c r=>if r=true then do let ok ← isTrue c X.env (eval c X.env);pure (ForInStep.yield ok) else pure (ForInStep.yield r))
   (fun ok s'=>∃ H',Inv X pins σ H' s'∧if ok=true then tb D σ H' else D.nx σ H') X.xe s
 | _,_, .nil,s,σ,H,I,h=>by rw [List.forIn_nil];exact wpAny_pure ⟨H,I,by rw [if_pos rfl];exact h⟩
 | _,_, .cons (cs:=cs) hc hr,s,σ,H,I,h=>by
  rw [List.forIn_cons,if_pos rfl]
  refine wpAny_bind (wpAny_bind (thn (hc pins s σ H _ I h) fun b s1 ⟨H1,I1,q1⟩=>wpAny_pure ?_))
  cases b with
  | true=>
   rw [if_pos rfl] at q1
   exact sE hr I1 q1
  | false=>
   rw [if_neg Bool.false_ne_true] at q1
   exact tG ⟨H1,I1,by rw [if_neg Bool.false_ne_true];exact q1⟩
end
noncomputable def PB (X:Cx) (elt:Expr) (gens:List Comprehension) (scope:Scope) (pos:Pos) (d:Nat) (acc:Addr) (t:TS):Prop:=
 ∀ (pins:List (Addr × Obj)) (s:Shared) (σ:St) (H:Hp) (D:lG) (k:Sem Fin) (Q:Fin→Shared→Prop) (E:Value→Shared→Prop),Inv X pins σ H s→t D σ H →
  (∀ s' σ' H',Inv X pins σ' H' s'→D.nx σ' H'→wpAny (model X.prog X.w) X.A k Q E s')→wpAny (model X.prog X.w) X.A (sL elt gens scope pos d (.ref acc) X.env k) Q E s
noncomputable def dX (te:TE) (acc:Addr):TS:=fun D σ H=>te σ H fun x H1=>∃ xs,H1 acc=some (.lst xs)∧xs.length<sizeLine∧D.nx σ (upd H1 acc (.lst (xs++[x])))
section
variable {X:Cx}
theorem cT {elt:Expr}{gens:List Comprehension}{scope:Scope}{pos:Pos}{d:Nat}{acc:Addr}{te:TE}(hx:X.xe=fun _ _=>False)(he:PE X elt te)(hl:gens[d+1]?=none):PB X elt gens scope pos d acc (dX te acc):=by
 intro pins s σ H D k Q E I h hk
 unfold sL
 rw [hl]
 refine wpAny_bind (wpAny_bind (wpAny_mono (he pins s σ H _ I h) (fun v s1 ⟨x,H1,I1,r1,xs,ha,hz,q⟩=>?_) fun _ _ z=>by rw [hx] at z;exact z.elim))
 have hm:=fZ (X:=X) pins s1 σ H1 (.ref acc) [x] (.ref acc) [v] (fun v H'=>v = .non∧D.nx σ H') I1 rfl (.cons r1 .nil) ⟨acc,xs,x,rfl,rfl,ha,hz,rfl,q⟩
 refine wpAny_bind (wpAny_mono hm (fun _ s2 ⟨x2,H2,I2,r2,_,q2⟩=>wpAny_pure (hk s2 σ H2 I2 q2)) fun _ _ z=>by rw [hx] at z;exact z.elim)
theorem rQ {elt target iter:Expr}{ifs:List Expr}{gens:List Comprehension}{scope:Scope}{pos:Pos}{d:Nat}{acc it:Addr}{fp:List Addr}{tn:Nat→Heap→Prop}{J:It}{g:TG}{ts:List TT}{tb:TS}{D:lG}{pins:List (Addr × Obj)}{s:Shared}{σ:St}{H:Hp}
  (hx:X.xe=fun _ _=>False) (hc:X.calm=true) (hgd:gens[d]?=some ⟨target,iter,ifs,0⟩) (hn:∀ g',gens[d+1]?=some g'→g'.is_async=0)
  (hg:PG X target g) (hts:PTs X ifs ts) (hb:PB X elt gens scope pos d acc tb)
  (T:aBH X.prog X.w X.K target J fp it tn) (I:Inv X pins σ H s) (st:tn 0 s.heap) (hf:∀ b∈fp,sS X pins H b) (h:jM J g (iB ts tb) D σ H) :
  codeAny (model X.prog X.w) X.A (.compStart (.ListComp elt gens scope pos) d (.ref it) (.ref acc) X.env) (fun r s'=>∃ f,r = .ok f∧∃ σ' H',Inv X pins σ' H' s'∧D.nx σ' H') s:=by
 have stat:∀ {H':Hp},(∀ b∈fp,H' b=none)→∀ b∈fp,sS X pins H' b:=fun hn b hb=>⟨hn b hb,(hf b hb).2⟩
 obtain ⟨W,⟨m0,w0⟩,turn⟩:=h
 have E0:∀ (e:Value) (s':Shared),X.xe e s'→notedBy (model X.prog X.w) X.A X.env (fun e s'=>∃ f,(Except.error e:Result) = .ok f∧∃ σ' H',Inv X pins σ' H' s'∧D.nx σ' H') e s':=fun e s' z=>by rw [hx] at z;exact z.elim
 have loop:codeAny (model X.prog X.w) X.A (.compLoop (.ListComp elt gens scope pos) d (.ref it) (.ref acc) X.env) (fun r s'=>∃ f,r = .ok f∧∃ σ' H',Inv X pins σ' H' s'∧D.nx σ' H') s:=by
  refine codeAny_loop rfl (fun n s'=>∃ i σ' H',Inv X pins σ' H' s'∧tn i s'.heap∧(∀ b∈fp,H' b=none)∧W i n σ' H') ?_ m0 ⟨0,σ,H,I,st,fun b hb=>(hf b hb).1,w0⟩
  rintro n s3 ⟨i,σ3,H3,I3,st3,fr3,w3⟩
  show wpAny _ X.A ((compTurn (.ListComp elt gens scope pos) d (.ref it) (.ref acc) X.env).onRaise (fun x=>do noteFrame x X.env;theTreesLotGoes x)) _ _ s3
  refine wpAny_noted ?_
  rw [tI _ _ _ hgd hn]
  refine wpAny_bind (wpAny_standAt (wpAny_bind ?_))
  rcases turn i n σ3 H3 w3 with ⟨stop,qn⟩ | ⟨go,N,hN,step⟩
  ·refine wpAny_mono (T.done X rfl rfl rfl hc i pins s3 σ3 H3 (fun _ _=>False) I3 (stat fr3) st3 stop) (fun r s4 ⟨hr,I4⟩=>?_) (fun _ _ z=>z.elim)
   subst hr
   exact wpAny_pure ⟨.next,rfl,σ3,H3,I4,qn⟩
  ·refine wpAny_mono (T.item X rfl rfl rfl hc i pins s3 σ3 H3 (fun _ _=>False) I3 (stat fr3) st3 go) (fun r s4 ⟨u,hr,h4⟩=>?_) (fun _ _ z=>z.elim)
   subst hr
   refine wpAny_bind (wpAny_mono h4 (fun _ s5 ⟨x,H5,I5,r5,y5,st5,fr5⟩=>?_) (fun _ _ z=>z.elim))
   have I5':=I5.pinned (stat fr5) (T.obj _ _ st5)
   refine wpAny_bind (wpAny_mono (hg _ s5 σ3 H5 x u _ I5' r5 (step x H5 y5)) (fun _ s6 ⟨σ6,H6,I6,q6⟩=>?_) E0)
   refine wpAny_bind (wpAny_mono (sE hts I6 q6) (fun ok s7 ⟨H7,I7,q7⟩=>?_) E0)
   have again:∀ {σ7:St} {H7:Hp} {s7:Shared},Inv X (pins++rN fp s5.heap) σ7 H7 s7→N σ7 H7→∃ m,m<n∧∃ i σ' H',Inv X pins σ' H' s7∧tn i s7.heap∧(∀ b∈fp,H' b=none)∧W i m σ' H':=fun {σ7 H7 s7} I7 n7=>by
    obtain ⟨m',hm,w7⟩:=hN σ7 H7 n7
    refine ⟨m',hm,i+1,σ7,H7,I7.unpinned,T.keep _ _ _ st5 fun b hb o e=>(I7.pin (b,o) (List.mem_append_right _ (List.mem_append_right _ (iQ hb e)))).1,fun b hb=>?_,w7⟩
    obtain ⟨o,e,d⟩:=T.obj _ _ st5 b hb
    exact (I7.pin (b,o) (List.mem_append_right _ (List.mem_append_right _ (iQ hb e)))).2.1
   cases ok with
   | false=>
    rw [if_neg Bool.false_ne_true] at q7 ⊢
    exact wpAny_pure ⟨rfl,again I7 q7⟩
   | true=>
    rw [if_pos rfl] at q7 ⊢
    exact hb _ s7 σ6 H7 _ _ _ _ I7 q7 fun s8 σ8 H8 I8 q8=>wpAny_pure ⟨rfl,again I8 q8⟩
 refine codeAny_of_tree ?_
 show wpAny _ _ ((compStart (.ListComp elt gens scope pos) d (.ref it) (.ref acc) X.env).onRaise (fun x=>do noteFrame x X.env;standAt theWindowsPlace)) _ _ s
 refine wpAny_notedAt ?_
 have hcl:clausesOf (.ListComp elt gens scope pos)=gens:=rfl
 unfold compStart
 rw [hcl,hgd]
 show wpAny _ _ (ask >>= _) _ _ s
 refine wpAny_bind (wpAny_askSetting (wpAny_ite ?_))
 split
 ·first
   | exact wpAny_bind (wpAny_pure (wpAny_pure (And.intro rfl loop)))
   | exact wpAny_pure (And.intro rfl loop)
 ·refine wpAny_bind (wpAny_rule ?_)
  show wpAny _ _ (standAt iter.pos >>= _) _ _ s
  exact wpAny_bind (wpAny_standAt (wpAny_bind (T.self X.A 0 s _ _ st (wpAny_pure (And.intro rfl loop)))))
theorem pZ {elt target iter:Expr}{ifs:List Expr}{gens:List Comprehension}{scope:Scope}{pos:Pos}{d:Nat}{acc:Addr}{wi:TI}{g:TG}{ts:List TT}{tb:TS}
  (hx:X.xe=fun _ _=>False) (hc:X.calm=true) (hgd:gens[d+1]?=some ⟨target,iter,ifs,0⟩) (hn:∀ g',gens[d+2]?=some g'→g'.is_async=0)
  (hi:PI X target iter wi) (hg:PG X target g) (hts:PTs X ifs ts) (hb:PB X elt gens scope pos (d+1) acc tb) (hs:∀ x,foldedSetIterable iter X.env x=pure x:=by intro _;rfl) :
  PB X elt gens scope pos d acc (kU wi g (iB ts tb)):=by
 intro pins s σ H D k Q E I h hk
 unfold sL
 rw [hgd]
 have EX:∀ (e:Value) (s':Shared),X.xe e s'→E e s':=fun e s' z=>by rw [hx] at z;exact z.elim
 refine wpAny_bind (wpAny_mono (hi pins s σ H (fun J H1=>jM J g (iB ts tb) D σ H1) I h) (fun v s1 h1=>?_) EX)
 refine wpAny_bind (wpAny_standAt (wpAny_bind (wpAny_of_eq (hs v) (wpAny_bind (wpAny_holding (wpAny_mono h1 (fun itv s2 h2=>?_) EX))))))
 obtain ⟨it,fp,tn,J,H2,e,I2,T,st2,f2,q2⟩:=h2
 subst e
 refine wpAny_bind (wpAny_runOwn (codeAny_mono (rQ hx hc hgd hn hg hts hb T I2 st2 f2 q2) fun r s3 ⟨f,hr,σ3,H3,I3,q3⟩=>?_))
 subst hr
 exact hk s3 σ3 H3 I3 q3
end
end L2
namespace L2
open PySem PySem.Spec PyProof.Rows
noncomputable def eV (cells:List (Str × Addr)):List (Str × NameKind)→List (Str × Addr)→List (Str × Addr)
 | [],acc=>acc
 | (n,k) :: r,acc=>if k == .free then eV cells r ((n,(cells.lookup n).getD 0) :: acc) else eV cells r acc
theorem oK {scope:Scope}{env:Env}(h:∀ x∈scope.names,x.2 = .free→(env.cells.lookup x.1).isSome=true):closureFor scope env=pure (eV env.cells scope.names []):=by
 have go:∀ (names:List (Str × NameKind)) (acc:List (Str × Addr)),(∀ x∈names,x.2 = .free→(env.cells.lookup x.1).isSome=true) →
   (forIn names acc fun x (r:List (Str × Addr))=>if x.2 == NameKind.free then (do let c ← cellOf env x.1;pure (ForInStep.yield ((x.1,c) :: r))) else pure (ForInStep.yield r):Sem (List (Str × Addr)))=pure (eV env.cells names acc):=by
  intro names
  induction names with
  | nil=>intro acc _;rw [List.forIn_nil];rfl
  | cons x r ih=>
   intro acc hh
   obtain ⟨n,k⟩:=x
   rw [List.forIn_cons]
   unfold eV
   cases hk:k == NameKind.free with
   | false=>
    rw [if_neg Bool.false_ne_true,if_neg Bool.false_ne_true]
    exact ih acc fun y hy=>hh y (List.mem_cons_of_mem _ hy)
   | true=>
    rw [if_pos rfl,if_pos rfl]
    obtain ⟨c,hc⟩:=Option.isSome_iff_exists.mp (hh (n,k) List.mem_cons_self (by simpa using hk))
    have e:cellOf env n=pure c:=by
     unfold cellOf
     rw [show env.cells.lookup n=some c from hc]
    show (do let x ← (do let c ← cellOf env n;pure (ForInStep.yield ((n,c) :: acc)));_)=_
    rw [e]
    rw [show ((env.cells.lookup n).getD 0)=c by rw [show env.cells.lookup n=some c from hc];rfl]
    exact ih ((n,c) :: acc) fun y hy=>hh y (List.mem_cons_of_mem _ hy)
 have:=go scope.names [] h
 unfold closureFor
 refine Eq.trans ?_ (congrArg (fun m=>m >>= fun r=>pure r) this |>.trans rfl)
 rfl
theorem nU {cells:List (Str × Addr)}{x:Str}:∀ (names:List (Str × NameKind)) (acc:List (Str × Addr)),(x,NameKind.free)∉names→(eV cells names acc).lookup x=acc.lookup x
 | [],_,_=>rfl
 | (n,k) :: r,acc,h=>by
  unfold eV
  have hr:(x,NameKind.free)∉r:=fun z=>h (List.mem_cons_of_mem _ z)
  cases hk:k == NameKind.free with
  | false=>rw [if_neg Bool.false_ne_true];exact nU r acc hr
  | true=>
   rw [if_pos rfl,nU r _ hr,List.lookup_cons]
   have e:k = .free:=by simpa using hk
   have ne:(x == n)=false:=by
    cases q:x == n with
    | false=>rfl
    | true=>exact absurd (by rw [beq_iff_eq.mp q,e];exact List.mem_cons_self) h
   rw [ne]
theorem mS {cells:List (Str × Addr)}{x:Str}{c:Addr}(hc:cells.lookup x=some c):∀ (names:List (Str × NameKind)) (acc:List (Str × Addr)),(x,NameKind.free)∈names→(eV cells names acc).lookup x=some c
 | [],_,h=>by simp at h
 | (n,k) :: r,acc,h=>by
  unfold eV
  by_cases hr:(x,NameKind.free)∈r
  ·cases hk:k == NameKind.free with
   | false=>rw [if_neg Bool.false_ne_true];exact mS hc r acc hr
   | true=>rw [if_pos rfl];exact mS hc r _ hr
  ·rcases List.mem_cons.mp h with e | e
   ·cases e
    rw [if_pos (by decide),nU r _ hr,List.lookup_cons]
    simp [hc]
   ·exact absurd e hr
theorem lE {cells:List (Str × Addr)}{x:Str}{c:Addr}:∀ (names:List (Str × NameKind)) (acc:List (Str × Addr)),(∀ y∈names,y.2 = .free→(cells.lookup y.1).isSome=true)→(x,c)∈eV cells names acc →
  (x,c)∈acc∨((x,NameKind.free)∈names∧cells.lookup x=some c)
 | [],_,_,h => .inl h
 | (n,k) :: r,acc,hh,h=>by
  unfold eV at h
  have hr:∀ y∈r,y.2 = .free→(cells.lookup y.1).isSome=true:=fun y hy=>hh y (List.mem_cons_of_mem _ hy)
  cases hk:k == NameKind.free with
  | false=>
   rw [hk,if_neg Bool.false_ne_true] at h
   exact (lE r acc hr h).imp id fun z=>⟨List.mem_cons_of_mem _ z.1,z.2⟩
  | true=>
   rw [hk,if_pos rfl] at h
   have ek:k = .free:=by simpa using hk
   rcases lE r _ hr h with z | z
   ·rcases List.mem_cons.mp z with z | z
    ·cases z
     obtain ⟨d,hd⟩:=Option.isSome_iff_exists.mp (hh (x,k) List.mem_cons_self ek)
     exact .inr ⟨by rw [ek];exact List.mem_cons_self,by rw [hd];rfl⟩
    ·exact .inl z
   ·exact .inr ⟨List.mem_cons_of_mem _ z.1,z.2⟩
theorem jS {cells:List (Str × Addr)}(inj:∀ x y c,cells.lookup x=some c→cells.lookup y=some c→x=y):∀ (names:List (Str × NameKind)) (acc:List (Str × Addr)),(names.map (·.1)).Nodup →
  (∀ y∈names,y.2 = .free→(cells.lookup y.1).isSome=true)→(∀ p∈acc,cells.lookup p.1=some p.2∧p.1∉names.map (·.1))→(acc.Pairwise fun x y=>x.2≠y.2)→(eV cells names acc).Pairwise fun x y=>x.2≠y.2
 | [],_,_,_,_,h=>h
 | (n,k) :: r,acc,nd,hh,ha,h=>by
  unfold eV
  have hr:∀ y∈r,y.2 = .free→(cells.lookup y.1).isSome=true:=fun y hy=>hh y (List.mem_cons_of_mem _ hy)
  obtain ⟨n1,n2⟩:=List.nodup_cons.mp nd
  cases hk:k == NameKind.free with
  | false=>
   rw [if_neg Bool.false_ne_true]
   exact jS inj r acc n2 hr (fun p hp=>⟨(ha p hp).1,fun z=>(ha p hp).2 (List.mem_cons_of_mem _ z)⟩) h
  | true=>
   rw [if_pos rfl]
   have ek:k = .free:=by simpa using hk
   obtain ⟨d,hd⟩:=Option.isSome_iff_exists.mp (hh (n,k) List.mem_cons_self ek)
   have hd':cells.lookup n=some d:=hd
   refine jS inj r _ n2 hr (fun p hp=>?_) (List.pairwise_cons.mpr ⟨fun p hp e=>?_,h⟩)
   ·rcases List.mem_cons.mp hp with e | hp
    ·subst e;exact ⟨by rw [hd'];rfl,n1⟩
    ·exact ⟨(ha p hp).1,fun z=>(ha p hp).2 (List.mem_cons_of_mem _ z)⟩
   ·rw [hd'] at e
    have e':d=p.2:=e
    have:n=p.1:=inj n p.1 d hd' (by rw [e'];exact (ha p hp).1)
    exact (ha p hp).2 (by rw [← this];exact List.mem_cons_self)
theorem fP {x:Str}{c:Addr}:∀ (names:List (Str × NameKind)) (n:Nat) (acc:List (Str × Addr)),(x,c)∈cellsFrom n names acc→(n≤c∧(x,NameKind.cell)∈names)∨(x,c)∈acc
 | [],_,_,h => .inr h
 | (y,k) :: r,n,acc,h=>by
  unfold cellsFrom at h
  cases hk:k == NameKind.cell with
  | false=>
   rw [hk,if_neg Bool.false_ne_true] at h
   exact (fP r n acc h).imp (fun z=>⟨z.1,List.mem_cons_of_mem _ z.2⟩) id
  | true=>
   rw [hk,if_pos rfl] at h
   have ek:k = .cell:=by simpa using hk
   rcases fP r (n+1) _ h with z | z
   ·exact .inl ⟨by omega,List.mem_cons_of_mem _ z.2⟩
   ·rcases List.mem_cons.mp z with z | z
    ·cases z
     exact .inl ⟨Nat.le_refl _,by rw [ek];exact List.mem_cons_self⟩
    ·exact .inr z
theorem eU:∀ (names:List (Str × NameKind)) (n:Nat) (acc:List (Str × Addr)),(∀ p∈acc,p.2<n)→(acc.Pairwise fun x y=>x.2≠y.2)→(cellsFrom n names acc).Pairwise fun x y=>x.2≠y.2
 | [],_,_,_,h=>h
 | (y,k) :: r,n,acc,hl,h=>by
  unfold cellsFrom
  cases hk:k == NameKind.cell with
  | false=>rw [if_neg Bool.false_ne_true];exact eU r n acc hl h
  | true=>
   rw [if_pos rfl]
   refine eU r (n+1) _ (fun p hp=>?_) (List.pairwise_cons.mpr ⟨fun p hp e=>?_,h⟩)
   ·rcases List.mem_cons.mp hp with e | hp
    ·subst e;exact Nat.lt_succ_self _
    ·exact Nat.lt_succ_of_lt (hl p hp)
   ·have e':n=p.2:=e
    exact Nat.lt_irrefl _ (e' ▸ hl p hp)
theorem gD {x:Str}:∀ (names:List (Str × NameKind)) (n:Nat) (acc:List (Str × Addr)),(x,NameKind.cell)∉names→(cellsFrom n names acc).lookup x=acc.lookup x
 | [],_,_,_=>rfl
 | (y,k) :: r,n,acc,h=>by
  unfold cellsFrom
  have hr:(x,NameKind.cell)∉r:=fun z=>h (List.mem_cons_of_mem _ z)
  cases hk:k == NameKind.cell with
  | false=>rw [if_neg Bool.false_ne_true];exact gD r n acc hr
  | true=>
   rw [if_pos rfl,gD r _ _ hr,List.lookup_cons]
   have e:k = .cell:=by simpa using hk
   have ne:(x == y)=false:=by
    cases q:x == y with
    | false=>rfl
    | true=>exact absurd (by rw [beq_iff_eq.mp q,e];exact List.mem_cons_self) h
   rw [ne]
theorem eX {x:Str}{c:Addr}:∀ (names:List (Str × NameKind)) (h:Heap) (acc:List (Str × Addr)),(x,c)∈cellsFrom h.objs.size names acc→(x,c)∈acc∨(pushCells h names).IsCell c none
 | [],_,_,hm => .inl hm
 | (y,k) :: r,h,acc,hm=>by
  unfold cellsFrom at hm
  unfold pushCells
  cases hk:k == NameKind.cell with
  | false=>
   rw [hk,if_neg Bool.false_ne_true] at hm
   rw [if_neg Bool.false_ne_true]
   exact eX r h acc hm
  | true=>
   rw [hk,if_pos rfl] at hm
   rw [if_pos rfl]
   have:=eX (x:=x) (c:=c) r (h.push { cls := .type "cell",data := .cell none }) ((y,h.objs.size) :: acc) (by rw [Heap.size_push];exact hm)
   rcases this with z | z
   ·rcases List.mem_cons.mp z with z | z
    ·cases z
     exact .inr ⟨_,pushCells_keeps r _ _ _ (Heap.get?_push_size _ rfl),rfl⟩
    ·exact .inl z
   ·exact .inr z
theorem cX {x:Str}{k:NameKind}:∀ {names:List (Str × NameKind)},(names.map (·.1)).Nodup→(x,k)∈names→names.lookup x=some k
 | [],_,h=>by simp at h
 | (y,j) :: r,nd,h=>by
  obtain ⟨n1,n2⟩:=List.nodup_cons.mp nd
  rw [List.lookup_cons]
  rcases List.mem_cons.mp h with e | e
  ·cases e;simp
  ·have ne:(x == y)=false:=by
    cases q:x == y with
    | false=>rfl
    | true=>exact absurd (List.mem_map.mpr ⟨(x,k),e,beq_iff_eq.mp q⟩) n1
   rw [ne]
   exact cX n2 e
theorem kS {scope:Scope}{env:Env}{x:Str}{k:NameKind}:(relabel scope env).names.lookup x=some k→(k = .cell∨k = .free)→scope.names.lookup x=some .cell∨scope.names.lookup x=some .free:=by
 unfold relabel
 show (scope.names.map _).lookup x=some k→_
 induction scope.names with
 | nil=>intro h;simp at h
 | cons p r ih=>
  obtain ⟨n,j⟩:=p
  intro h hk
  rw [List.map_cons] at h
  rw [List.lookup_cons]
  by_cases hc:(j == NameKind.free && env.scope.kind == .function && env.kindOf n == some .cell)=true
  ·simp only [hc,if_true] at h
   rw [List.lookup_cons] at h
   cases q:x == n with
   | true=>
    have:j = .free:=by
     have:=(Bool.and_eq_true_iff.mp (Bool.and_eq_true_iff.mp hc).1).1
     simpa using this
    simp [this]
   | false=>rw [q] at h;simpa using ih h hk
  ·simp only [hc,Bool.false_eq_true,if_false] at h
   rw [List.lookup_cons] at h
   cases q:x == n with
   | true=>
    rw [q] at h
    simp only [Option.some.injEq] at h
    subst h
    rcases hk with e | e <;> simp [e]
   | false=>rw [q] at h;simpa using ih h hk
theorem qV {scope:Scope}{env:Env}{x:Str}(hf:env.scope.kind = .function):scope.names.lookup x=some .free→(relabel scope env).names.lookup x=some .cell∨(relabel scope env).names.lookup x=some .free:=by
 unfold relabel
 show _→(scope.names.map _).lookup x=_∨(scope.names.map _).lookup x=_
 induction scope.names with
 | nil=>intro h;simp at h
 | cons p r ih=>
  obtain ⟨n,j⟩:=p
  intro h
  rw [List.lookup_cons] at h
  rw [List.map_cons]
  cases q:x == n with
  | true=>
   rw [q] at h
   simp only [Option.some.injEq] at h
   subst h
   by_cases hc:(NameKind.free == NameKind.free && env.scope.kind == .function && env.kindOf n == some .cell)=true
   ·left;simp only [hc,if_true];rw [List.lookup_cons,q]
   ·right;simp only [hc,Bool.false_eq_true,if_false];rw [List.lookup_cons,q]
  | false=>
   rw [q] at h
   by_cases hc:(j == NameKind.free && env.scope.kind == .function && env.kindOf n == some .cell)=true
   ·simp only [hc,if_true];rw [List.lookup_cons,q];exact ih h
   ·simp only [hc,Bool.false_eq_true,if_false];rw [List.lookup_cons,q];exact ih h
end L2
namespace L2
open PySem PySem.Spec PyProof.Rows
noncomputable def fN (X:Cx) (N:List Str) (scope:Scope) (s:Shared) (H:Hp) (fp:List Addr):Cx where
 prog:=X.prog
 w:=X.w
 K:=X.K
 mg:=X.mg
 base:=X.base
 A:=X.A
 N:=N
 s₀:=s
 H₀:=H
 env:=compEnvC scope (cellsFrom (s.heap.objs.size+1) scope.names (eV X.env.cells scope.names [])) s.heap.objs.size X.env
 outer:=X.stack
 stack:=X.stack
 ex:=fp
 fn:=fun x=>scope.names.lookup x == some .cell
 calm:=X.calm
 pn:=[]
 xe:=fun _ _=>False
noncomputable def aEE (σ:St):Option Nat→Option V
 | none=>none
 | some j=>(σ[j]?).join
noncomputable def kD (N:List Str) (names encl:List (Str × NameKind)) (N':List Str) (ix:List (Option Nat)):Bool:=
 decide ((names.map (·.1)).Nodup) && names.all (fun p=>!(p.2 == NameKind.free) || (encl.lookup p.1 == some NameKind.cell || encl.lookup p.1 == some NameKind.free)) && ix.length == N'.length &&
  ((N'.zip ix).all fun p=>match p.2 with
   | none=>true
   | some j=>N[j]? == some p.1 && names.lookup p.1 == some NameKind.free)
noncomputable def eC (ix:List (Option Nat)) (wi:TI) (g:TG) (ts:List TT) (tb:Addr→TS):TE:=fun σ H Q=>wi σ H fun J H1=>∀ acc,H1 acc=none →
 jM J g (iB ts (tb acc)) { nx:=fun _ H'=>Q (.ref acc) H',rt:=fun _ _=>False } (ix.map (aEE σ)) (upd H1 acc (.lst []))
section
variable {X:Cx}{elt target iter:Expr}{ifs:List Expr}{rest:List Comprehension}{scope:Scope}{pos:Pos}{N':List Str}{ix:List (Option Nat)}{wi:TI}{g:TG}{ts:List TT}{tb:Addr→TS}
theorem vY {pins:List (Addr × Obj)}{σ:St}{H:Hp}{s:Shared}{fp:List Addr}{Q:Env→Shared→Prop}{E:Value→Shared→Prop}(I:Inv X pins σ H s)(hok:kD X.N scope.names X.env.scope.names N' ix=true)(hk:scope.kind = .function)
  (hf:∀ b∈fp,sS X pins H b) (hfo:∀ b∈fp,∃ o,s.heap.get? b=some o)
  (h:∀ s',(∀ b o,s.heap.get? b=some o→s'.heap.get? b=some o)→Inv (fN X N' scope s H fp) [] (ix.map (aEE σ)) H s'→Q (newEnv scope s.heap.objs.size X.env.globals (cellsFrom (s.heap.objs.size+1) scope.names (eV X.env.cells scope.names [])) X.env.qual none .none (some X.env) builtinsNs) s') :
  wpAny (model X.prog X.w) X.A (newFunctionEnv scope X.env.globals (eV X.env.cells scope.names []) [] X.env.qual none .none (some X.env)) Q E s:=by
 have hok2:=hok
 simp only [kD,Bool.and_eq_true,decide_eq_true_eq,List.all_eq_true] at hok
 obtain ⟨⟨⟨nd,hfr⟩,hlen⟩,hix⟩:=hok
 have hlen:ix.length=N'.length:=by simpa using hlen
 have isF:∀ y∈scope.names,y.2 = .free→X.env.kindOf y.1=some .cell∨X.env.kindOf y.1=some .free:=fun y hy e=>by
  have:=hfr y hy
  have:X.env.scope.names.lookup y.1=some .cell∨X.env.scope.names.lookup y.1=some .free:=by simpa [e] using this
  exact this
 have hasC:∀ y∈scope.names,y.2 = .free→(X.env.cells.lookup y.1).isSome=true:=fun y hy e=>by
  obtain ⟨c,hc⟩:=I.ok.has y.1 (isF y hy e)
  rw [hc];rfl
 have oldC:∀ x c,(x,c)∈eV X.env.cells scope.names []→(x,NameKind.free)∈scope.names∧X.env.cells.lookup x=some c:=fun x c hm=>(lE _ _ hasC hm).resolve_left (by simp)
 have ltC:∀ x c,X.env.cells.lookup x=some c→c<s.heap.objs.size:=fun x c e=>by obtain ⟨v,q⟩:=I.cell x c e;exact q.lt
 have apart:(cellsFrom (s.heap.objs.size+1) scope.names (eV X.env.cells scope.names [])).Pairwise fun x y=>x.2≠y.2:=
  eU _ _ _ (fun p hp=>Nat.lt_succ_of_lt (ltC p.1 p.2 (oldC p.1 p.2 hp).2)) (jS I.ok.inj _ _ nd hasC (by simp) List.Pairwise.nil)
 have fromC:∀ x c,(cellsFrom (s.heap.objs.size+1) scope.names (eV X.env.cells scope.names [])).lookup x=some c→(s.heap.objs.size+1≤c∧(x,NameKind.cell)∈scope.names)∨((x,NameKind.free)∈scope.names∧X.env.cells.lookup x=some c):=fun x c e=>
  (fP _ _ _ (PySem.mem_of_lookup e)).imp id fun z=>oldC x c z
 have sz1:(s.heap.push { cls := .type "dict",data := .dict #[] }).objs.size=s.heap.objs.size+1:=Heap.size_push ..
 simp only [newFunctionEnv,Option.isSome_some,if_true]
 refine wpAny_bind (wpAny_alloc ?_)
 refine wpAny_bind (wpAny_layCells _ (fun name kind cells=>by cases hkc:kind == NameKind.cell <;> simp [hkc]) _ _ _ _ ?_)
 rw [show ({ s with heap:=s.heap.push { cls := .type "dict",data := .dict #[] } }:Shared).heap.objs.size=s.heap.objs.size+1 from sz1]
 refine wpAny_bind ?_
 rw [List.forIn_nil]
 refine wpAny_pure (wpAny_pure ?_)
 have keep:∀ b o,s.heap.get? b=some o→(pushCells (s.heap.push { cls := .type "dict",data := .dict #[] }) scope.names).get? b=some o:=fun b o e=>pushCells_keeps _ _ b o (Heap.get?_push_of_some _ e)
 refine h _ keep ?_
 have kk:∀ x:Str,(fN X N' scope s H fp).env.kindOf x=(relabel scope X.env).names.lookup x:=fun _=>rfl
 have emptyC:∀ x c,(cellsFrom (s.heap.objs.size+1) scope.names (eV X.env.cells scope.names [])).lookup x=some c→∃ v,(pushCells (s.heap.push { cls := .type "dict",data := .dict #[] }) scope.names).IsCell c v:=fun x c e=>by
  have:=eX (x:=x) (c:=c) scope.names (s.heap.push { cls := .type "dict",data := .dict #[] }) (eV X.env.cells scope.names []) (by rw [sz1];exact PySem.mem_of_lookup e)
  rcases this with z | z
  ·obtain ⟨v,q⟩:=I.cell x c (oldC x c z).2
   exact ⟨v,q.keeps keep⟩
  ·exact ⟨none,z⟩
 refine ⟨⟨I.ok.mod,hk,I.ok.glob,I.ok.blt,Nat.le_refl _,fun y z c h1 h2=>?_,fun y hy=>?_,fun y c hy e=>?_,I.ok.hd,I.ok.frames, .inl rfl,fun b hb=>⟨?_,fun x c e=>?_⟩,I.bs,Nat.le_trans I.ok.bsz I.sz,fun b o e hb=>?_,fun b hb hs=>?_,I.stack,I.stkFree⟩,
  rfl,I.bare,Un.kept keep,⟨fun _=>none,(Heap.Ns.new s.heap (.type "dict")).keeps (pushCells_keeps _ _),fun i x v e1 e2 e3=>?_⟩,emptyC,I.hok.fresh (Nat.le_refl _),fun y c e=>?_,fun p hp=>absurd (show p∈([]:List (Addr × Obj)) from hp) (by simp),I.hok.kept keep,by rw [List.length_map];exact hlen⟩
 ·exact name_of_addr apart (PySem.mem_of_lookup h1) (PySem.mem_of_lookup h2)
 ·rw [kk] at hy
  have hy':scope.names.lookup y=some .cell∨scope.names.lookup y=some .free:=by
   rcases hy with q | q
   ·exact kS q (.inl rfl)
   ·exact kS q (.inr rfl)
  refine Option.isSome_iff_exists.mp (PySem.W.cellsFrom_some _ _ _ ?_)
  rcases hy' with q | q
  ·exact .inl q
  ·have hm:=PySem.mem_of_lookup q
   obtain ⟨c,hc⟩:=Option.isSome_iff_exists.mp (hasC _ hm rfl)
   exact .inr (by rw [mS hc _ _ hm];rfl)
 ·have hy:scope.names.lookup y=some .cell:=by simpa using (show (scope.names.lookup y == some NameKind.cell)=true from hy)
  rcases fromC y c e with z | z
  ·exact Nat.le_of_succ_le z.1
  ·have:=cX nd z.1
   rw [hy] at this;cases this
 ·obtain ⟨o,ho⟩:=hfo b hb
  exact Nat.ne_of_lt (Heap.lt_size ho)
 ·rcases fromC x c e with z | z
  ·obtain ⟨o,ho⟩:=hfo b hb
   exact Nat.ne_of_gt (Nat.lt_of_lt_of_le (Heap.lt_size ho) (Nat.le_of_succ_le z.1))
  ·exact (hf b hb).2.2.2.2.1 x c z.2
 ·rcases (hf b hb).2.2.2.1 with z | z
  ·exact I.ok.noex b o e z
  ·exact absurd (Nat.lt_of_lt_of_le (Heap.lt_size (I.ok.bs b o e).1) z) (Nat.lt_irrefl _)
 ·rcases List.mem_cons.mp (I.stkSub b hs) with z | z
  ·exact (hf b hb).2.1 z
  ·exact (hf b hb).2.2.1 z
 ·rw [List.getElem?_map] at e2
  cases hj:ix[i]? with
  | none=>rw [hj] at e2;cases e2
  | some oj=>
   rw [hj] at e2
   have e2:aEE σ oj=some v:=by simpa using e2
   cases oj with
   | none=>cases e2
   | some j=>
    have hv:σ[j]?=some (some v):=by
     have e2':(σ[j]?).join=some v:=e2
     cases q:σ[j]? with
     | none=>rw [q] at e2';cases e2'
     | some w=>rw [q] at e2';have:w=some v:=e2';rw [this]
    have hz:(x,some j)∈N'.zip ix:=by
     refine List.mem_of_getElem? (i:=i) ?_
     rw [List.getElem?_zip_eq_some]
     exact ⟨e1,hj⟩
    have:=hix _ hz
    simp only [Bool.and_eq_true,beq_iff_eq] at this
    obtain ⟨n1,n2⟩:=this
    have hm:=PySem.mem_of_lookup n2
    obtain ⟨m,hn,hl⟩:=I.loc
    have kf:=isF (x, .free) hm rfl
    have vis:Vis X.env.scope x:=by
     rcases kf with q | q
     ·exact .inr (.inl q)
     ·exact .inr (.inr q)
    obtain ⟨u,r,l⟩:=hl j x v n1 hv vis
    refine ⟨u,r, .inr ?_⟩
    rcases l with ⟨k1,_⟩ | ⟨_,c,hc,hcell⟩
    ·rcases kf with q | q <;> (rw [show X.env.kindOf x=some NameKind.local from k1] at q;cases q)
    ·refine ⟨?_,c,?_,hcell.keeps keep⟩
     ·rw [kk];exact qV I.ok.kind n2
     ·show (cellsFrom _ _ _).lookup x=some c
      rw [gD,mS hc _ _ hm]
      intro z
      have:=cX nd z
      rw [n2] at this;cases this
 ·rcases fromC y c e with z | z
  ·exact I.hok.fresh (Nat.le_of_succ_le z.1)
  ·exact I.freeC y c z.2
theorem oN {pins:List (Addr × Obj)}{σ:St}{H:Hp}{s:Shared}{it:Addr}{fp:List Addr}{tn:Nat→Heap→Prop}{J:It}{RR:Value→Addr→Result→Shared→Prop}{E:Value→Shared→Prop}{D:Addr→lG}
  (hc:X.calm=true) (hok:kD X.N scope.names X.env.scope.names N' ix=true) (hk:scope.kind = .function) (hn:∀ g',rest[0]?=some g'→g'.is_async=0)
  (hg:∀ s H fp,PG (fN X N' scope s H fp) target g) (hts:∀ s H fp,PTs (fN X N' scope s H fp) ifs ts)
  (hb:∀ s H fp acc,PB (fN X N' scope s H fp) elt (⟨target,iter,ifs,0⟩ :: rest) scope pos 0 acc (tb acc))
  (I:Inv X pins σ H s) (T:aBH X.prog X.w X.K target J fp it tn) (st:tn 0 s.heap) (hf:∀ b∈fp,sS X pins H b)
  (h:∀ acc,H acc=none→jM J g (iB ts (tb acc)) (D acc) (ix.map (aEE σ)) (upd H acc (.lst [])))
  (hR:∀ acc C s' H' σ',H acc=none→s.heap.objs.size≤C→Inv X pins σ H' s'→sS X pins H' C→(∃ m,s'.heap.Ns C m)→(D acc).nx σ' H'→RR (.ref acc) C (.ok .next) s') :
  wpAny (model X.prog X.w) X.A (newList []) (fun acc s₃=>wpAny (model X.prog X.w) X.A (newFunctionEnv scope X.env.globals (eV X.env.cells scope.names []) [] X.env.qual none .none (some X.env)) (fun cenv s₄=>
   codeAny (model X.prog X.w) X.A (.compStart (.ListComp elt (⟨target,iter,ifs,0⟩ :: rest) scope pos) 0 (.ref it) acc { cenv with scope:=relabel scope X.env }) (fun r s'=>∃ f,r = .ok f∧RR acc cenv.locals (.ok .next) s') s₄) E s₃) E s:=by
 refine wpAny_newObj_type ?_
 have hnone:H s.heap.objs.size=none:=I.hok.fresh (Nat.le_refl _)
 have I3:Inv X pins σ (upd H s.heap.objs.size (.lst [])) { s with heap:=s.heap.push { cls := .type "list",data := .seq ([]:List Value).toArray } }:=
  I.laid (t':=s.toks) (fun b u e=>Heap.get?_push_of_some _ e) (Nat.le_refl _) ⟨Nat.zero_le _,[],0, .nil,Heap.get?_push_size _ rfl⟩
 have hlt:∀ b∈fp,b<s.heap.objs.size:=fun b hb=>by obtain ⟨o,ho,_⟩:=T.obj 0 _ st b hb;exact Heap.lt_size ho
 have hf3:∀ b∈fp,sS X pins (upd H s.heap.objs.size (.lst [])) b:=fun b hb=>⟨by rw [aO (Nat.ne_of_lt (hlt b hb))];exact (hf b hb).1,(hf b hb).2⟩
 refine vY (fp:=fp) I3 hok hk hf3 (fun b hb=>?_) fun s4 keep I4=>?_
 ·obtain ⟨o,ho,_⟩:=T.obj 0 _ st b hb
  exact ⟨o,Heap.get?_push_of_some _ ho⟩
 have st4:tn 0 s4.heap:=T.keep 0 _ _ st fun b hb o e=>keep b o (Heap.get?_push_of_some _ e)
 have size3:({ s with heap:=s.heap.push { cls := .type "list",data := .seq ([]:List Value).toArray } }:Shared).heap.objs.size=s.heap.objs.size+1:=Heap.size_push ..
 have hf4:∀ b∈fp,sS (fN X N' scope { s with heap:=s.heap.push { cls := .type "list",data := .seq ([]:List Value).toArray } } (upd H s.heap.objs.size (.lst [])) fp) [] (upd H s.heap.objs.size (.lst [])) b:=fun b hb=>
  ⟨(hf3 b hb).1,(I4.ok.exf b hb).1,I4.ok.exfs b hb, .inl hb,(I4.ok.exf b hb).2,fun p hp=>absurd (show p∈([]:List (Addr × Obj)) from hp) (by simp)⟩
 refine codeAny_mono (rQ (X:=fN X N' scope { s with heap:=s.heap.push { cls := .type "list",data := .seq ([]:List Value).toArray } } (upd H s.heap.objs.size (.lst [])) fp) rfl hc (d:=0) (gens:=⟨target,iter,ifs,0⟩ :: rest) rfl hn (hg _ _ _) (hts _ _ _) (hb _ _ _ _) T I4 st4 hf4 (h _ hnone)) fun r s5 ⟨f,hr,σ5,H5,I5,q5⟩=>⟨f,hr,?_⟩
 have I6:Inv X pins σ H5 s5:=I3.call' (ch:=fp) (I5.os.trans rfl) I5.base I5.hok I5.bare fun b hb=>⟨(hf3 b hb).2.2.2.1,(hf3 b hb).2.1,(hf3 b hb).2.2.2.2.1,(hf3 b hb).2.2.2.2.2⟩
 have hC:s.heap.objs.size≤(fN X N' scope { s with heap:=s.heap.push { cls := .type "list",data := .seq ([]:List Value).toArray } } (upd H s.heap.objs.size (.lst [])) fp).env.locals:=by
  show s.heap.objs.size≤_
  exact Nat.le_trans (Nat.le_succ _) (Nat.le_of_eq size3.symm)
 refine hR _ _ s5 H5 σ5 hnone hC I6 (I3.fpOk (Nat.le_refl _) I5.free) ?_ q5
 obtain ⟨m,hm,_⟩:=I5.loc
 exact ⟨m,hm⟩
theorem lS (hok:kD X.N scope.names X.env.scope.names N' ix=true):∀ x∈scope.names,x.2 = .local→scope.names.lookup x.1=some .local:=by
 simp only [kD,Bool.and_eq_true,decide_eq_true_eq,List.all_eq_true] at hok
 intro x hx e
 obtain ⟨n,k⟩:=x
 have e:k = .local:=e
 subst e
 exact cX hok.1.1.1 hx
theorem nC {pins:List (Addr × Obj)}{σ:St}{H:Hp}{s:Shared}(I:Inv X pins σ H s)(hok:kD X.N scope.names X.env.scope.names N' ix=true):closureFor scope X.env=pure (eV X.env.cells scope.names []):=by
 refine oK fun y hy e=>?_
 simp only [kD,Bool.and_eq_true,decide_eq_true_eq,List.all_eq_true] at hok
 have:=hok.1.1.2 y hy
 have:X.env.scope.names.lookup y.1=some .cell∨X.env.scope.names.lookup y.1=some .free:=by simpa [e] using this
 obtain ⟨c,hc⟩:=I.ok.has y.1 this
 rw [hc];rfl
theorem fO (hok:kD X.N scope.names X.env.scope.names N' ix=true)(hk:scope.kind = .function)(hc:X.calm=true)(hi:PI X target iter wi)
  (hg:∀ s H fp,PG (fN X N' scope s H fp) target g) (hts:∀ s H fp,PTs (fN X N' scope s H fp) ifs ts)
  (hb:∀ s H fp acc,PB (fN X N' scope s H fp) elt (⟨target,iter,ifs,0⟩ :: rest) scope pos 0 acc (tb acc))
  (hn:∀ g',rest[0]?=some g'→g'.is_async=0:=by intro _ h;first | cases h;rfl | cases h) (hs:∀ x,foldedSetIterable iter X.env x=pure x:=by intro _;rfl) :
  PE X (.ListComp elt (⟨target,iter,ifs,0⟩ :: rest) scope pos) (eC ix wi g ts tb):=by
 intro pins s σ H Q I h
 rw [eval_ListComp]
 refine wpAny_comprehension_free (use:=none) rfl hs (nC I hok) hk (lS hok) (thn (hi pins s σ H _ I h) fun xv s₁ h₁=>thn h₁ fun itv s₂ h₂=>?_)
 obtain ⟨it,fp,tn,J,H2,e,I2,T,st2,f2,q2⟩:=h₂
 subst e
 refine thn (oN (RR:=fun acc C r s'=>compPost (model X.prog X.w) X.A X.xe none (EP X pins σ Q) acc C r s') hc hok hk hn hg hts hb I2 T st2 f2 q2 fun acc C s' H' σ' ha hC I' fC hns q=>?_) fun acc s3 h3=>thn h3 fun cenv s4 h4=>codeAny_mono h4 fun r s5 ⟨f,hr,h5⟩=>?_
 ·obtain ⟨m,hm⟩:=hns
  refine ⟨m,hm,fun h' hs'=>⟨.ref acc,H',I'.turned (t':=s'.toks) (fun b o hb e=>(hs'.2 b hb).trans e) fC.1 fC.2.1 fC.2.2.2.1 fC.2.2.2.2.1 fC.2.2.2.2.2,rfl,q⟩⟩
 ·subst hr
  exact h5
theorem dR {i:Nat}{x:Str}{pos' spos:Pos}(hN:X.N.Nodup)(hix:X.N[i]?=some x)(hx:Loc X.env.scope x)(hok:kD X.N scope.names X.env.scope.names N' ix=true)(hk:scope.kind = .function)(hc:X.calm=true)(hi:PI X target iter wi)
  (hg:∀ s H fp,PG (fN X N' scope s H fp) target g) (hts:∀ s H fp,PTs (fN X N' scope s H fp) ifs ts)
  (hb:∀ s H fp acc,PB (fN X N' scope s H fp) elt (⟨target,iter,ifs,0⟩ :: rest) scope pos 0 acc (tb acc))
  (hsw:swapsWith (.ListComp elt (⟨target,iter,ifs,0⟩ :: rest) scope pos) (some (.Name x pos')) spos.line X.env=pure true:=by rfl)
  (hf:X.fn x=true∨X.env.scope.names.lookup x=some .local:=by first | exact .inl rfl | exact .inr rfl | assumption)
  (hn:∀ g',rest[0]?=some g'→g'.is_async=0:=by intro _ h;first | cases h;rfl | cases h) (hs:∀ x,foldedSetIterable iter X.env x=pure x:=by intro _;rfl) :
  PS X (.Assign [.Name x pos'] (.ListComp elt (⟨target,iter,ifs,0⟩ :: rest) scope pos) spos) (cF (eC ix wi g ts tb) (aJ i)):=by
 intro pins s σ H D I h
 rw [exec_Assign_Name_used _ _ _ _ hsw]
 refine wpAny_bind (wpAny_standAt (wpAny_bind ?_))
 show wpAny _ X.A (do let _ ← comprehension (.ListComp elt (⟨target,iter,ifs,0⟩ :: rest) scope pos) scope X.env _ (newList []) false (eval iter X.env) (some (assign (.Name x pos') X.env))) _ _ s
 refine wpAny_bind (wpAny_mono (wpAny_comprehension_free (use:=some (assign (.Name x pos') X.env)) (Q:=fun _ s'=>SP X pins D .next s') rfl hs (nC I hok) hk (lS hok) (thn (hi pins s σ H _ I h) fun xv s₁ h₁=>thn h₁ fun itv s₂ h₂=>?_)) (fun _ s' hq=>wpAny_pure (wpAny_pure hq)) fun _ _ e=>e)
 obtain ⟨it,fp,tn,J,H2,e,I2,T,st2,f2,q2⟩:=h₂
 subst e
 refine thn (oN (RR:=fun acc C r s'=>compPost (model X.prog X.w) X.A X.xe (some (assign (.Name x pos') X.env)) (fun _ s'=>SP X pins D .next s') acc C r s') hc hok hk hn hg hts hb I2 T st2 f2 q2 fun acc C s' H' σ' ha hC I' fC hns q=>?_) fun acc s3 h3=>thn h3 fun cenv s4 h4=>codeAny_mono h4 fun r s5 ⟨f,hr,h5⟩=>?_
 ·obtain ⟨m,hm⟩:=hns
  show wpAny _ X.A (assign (.Name x pos') X.env (.ref acc)) _ _ _
  refine wpAny_assign_Name (rK I' hN hix hx (v := .ref acc) rfl (fun s6 I6 ⟨a,hsb,ha6⟩=>?_) hf)
  have hCa:C≠a:=by
   rcases ha6 with z | z
   ·rw [z];exact fC.2.1
   ·exact (fC.2.2.2.2.1 x a z).symm
  refine ⟨m,hm.sameBut hsb hCa,fun h' hs'=>⟨_,H',I6.turned (t':=s6.toks) (fun b o hb e=>(hs'.2 b hb).trans e) fC.1 fC.2.1 fC.2.2.2.1 fC.2.2.2.2.1 fC.2.2.2.2.2,q⟩⟩
 ·subst hr
  exact h5
end
end L2
namespace L2
open PySem PySem.Spec PyProof.Rows
theorem Same.tup {K:PySem.W.Frag}{H H':Hp}{a:Addr}{xs:List V}(e:Same H H')(h:SqT K H a xs):SqT K H' a xs:=by
 rcases h with (h | ⟨o,h⟩) | h
 ·exact .inl (.inl (e _ _ h))
 ·exact .inl (.inr ⟨o,e _ _ h⟩)
 ·exact .inr h
inductive Dt where
 | non | bl (b:Bool) | int (i:Int) | str (x:Str) | tup (ds:List Dt) | lst (ds:List Dt)
mutual
noncomputable def Sh (K:PySem.W.Frag) (H:Hp):Dt→V→Prop
 | .non,v=>v = .non
 | .bl b,v=>v = .bl b
 | .int i,v=>v = .int i
 | .str x,v=>v = .str x
 | .tup ds,v=>∃ a xs,v = .ref a∧SqT K H a xs∧ShL K H ds xs
 | .lst ds,v=>∃ a xs,v = .ref a∧SqL K H a xs∧ShL K H ds xs
noncomputable def ShL (K:PySem.W.Frag) (H:Hp):List Dt→List V→Prop
 | [],xs=>xs=[]
 | d :: ds,xs=>∃ x r,xs=x :: r∧Sh K H d x∧ShL K H ds r
end
mutual
noncomputable def eqD:Dt→Dt→Bool
 | .non, .non=>true
 | .bl a, .bl b=>a == b
 | .int a, .int b=>a == b
 | .str a, .str b=>a == b
 | .bl a, .int b=>(if a then 1 else 0) == b
 | .int a, .bl b=>a == (if b then 1 else 0)
 | .tup ds, .tup es=>eqL ds es
 | .lst ds, .lst es=>eqL ds es
 | _,_=>false
noncomputable def eqL:List Dt→List Dt→Bool
 | [],[]=>true
 | d :: ds,e :: es=>eqD d e && eqL ds es
 | _,_=>false
end
mutual
noncomputable def dep:Dt→Nat
 | .tup ds=>oH ds+1
 | .lst ds=>oH ds+1
 | _=>0
noncomputable def oH:List Dt→Nat
 | []=>0
 | d :: ds=>max (dep d) (oH ds)
end
section
variable {K:PySem.W.Frag}{H H':Hp}
mutual
theorem Sh.same (e:Same H H'):∀ {d:Dt} {v:V},Sh K H d v→Sh K H' d v
 | .non,_,h=>h
 | .bl _,_,h=>h
 | .int _,_,h=>h
 | .str _,_,h=>h
 | .tup ds,_,⟨a,xs,h1,h2,h3⟩=>⟨a,xs,h1,e.tup h2,ShL.same e h3⟩
 | .lst ds,_,⟨a,xs,h1,h2,h3⟩=>⟨a,xs,h1,e.seq h2,ShL.same e h3⟩
theorem ShL.same (e:Same H H'):∀ {ds:List Dt} {xs:List V},ShL K H ds xs→ShL K H' ds xs
 | [],_,h=>h
 | d :: ds,_,⟨x,r,h1,h2,h3⟩=>⟨x,r,h1,Sh.same e h2,ShL.same e h3⟩
end
theorem ShL.length:∀ {ds:List Dt} {xs:List V},ShL K H ds xs→ds.length=xs.length
 | [],_,h=>by rw [show _=[] from h];rfl
 | d :: ds,_,⟨x,r,h1,h2,h3⟩=>by rw [h1,List.length_cons,List.length_cons,ShL.length h3]
theorem ShL.get:∀ {ds:List Dt} {xs:List V} {j:Nat} {d:Dt},ShL K H ds xs→ds[j]?=some d→∃ x,xs[j]?=some x∧Sh K H d x
 | [],_,_,_,_,h=>by simp at h
 | d :: ds,_,0,e,⟨x,r,h1,h2,h3⟩,h=>by
  have:d=e:=by simpa using h
  subst this
  exact ⟨x,by rw [h1];rfl,h2⟩
 | d :: ds,_,j+1,e,⟨x,r,h1,h2,h3⟩,h=>by
  obtain ⟨y,h4,h5⟩:=ShL.get (j:=j) h3 (by simpa using h)
  exact ⟨y,by rw [h1];simpa using h4,h5⟩
theorem ShL.ints:∀ (ns:List Int),ShL K H (ns.map Dt.int) (ns.map V.int)
 | []=>rfl
 | n :: ns=>⟨.int n,ns.map V.int,rfl,rfl,ShL.ints ns⟩
theorem ShL.of_ints:∀ {ns:List Int} {xs:List V},ShL K H (ns.map Dt.int) xs→xs=ns.map V.int
 | [],_,h=>h
 | n :: ns,_,⟨x,r,h1,h2,h3⟩=>by rw [h1,ShL.of_ints h3,show x=V.int n from h2];rfl
end
mutual
theorem iN:∀ d:Dt,eqD d d=true
 | .non=>by unfold eqD;rfl
 | .bl b=>by unfold eqD;simp
 | .int b=>by unfold eqD;simp
 | .str b=>by unfold eqD;simp
 | .tup ds=>by unfold eqD;exact iO ds
 | .lst ds=>by unfold eqD;exact iO ds
theorem iO:∀ ds:List Dt,eqL ds ds=true
 | []=>by unfold eqL;rfl
 | d :: ds=>by unfold eqL;rw [iN d,iO ds];rfl
end
theorem lO:∀ {ds es:List Dt},eqL ds es=true→ds.length=es.length
 | [],[],_=>rfl
 | [],_ :: _,h=>by unfold eqL at h;cases h
 | _ :: _,[],h=>by unfold eqL at h;cases h
 | d :: ds,e :: es,h=>by
  unfold eqL at h
  rw [List.length_cons,List.length_cons,lO (Bool.and_eq_true_iff.mp h).2]
theorem jE (n:Nat)(f:Nat→Bool):(List.range (n+1)).all f=(f 0 && (List.range n).all fun j=>f (j+1)):=by
 rw [List.range_succ_eq_map,List.all_cons,List.all_map]
 rfl
theorem lK:∀ (ds es:List Dt),((List.range (min ds.length es.length)).all (fun j=>eqD (ds.getD j .non) (es.getD j .non)) && ds.length == es.length)=eqL ds es
 | [],[]=>by unfold eqL;rfl
 | [],e :: es=>by unfold eqL;simp
 | d :: ds,[]=>by unfold eqL;simp
 | d :: ds,e :: es=>by
  have ih:=lK ds es
  unfold eqL
  rw [← ih,List.length_cons,List.length_cons,Nat.succ_min_succ,jE,Bool.and_assoc]
  congr 1
  congr 1
  simp
theorem pG {ds:List Dt}{j:Nat}{d:Dt}(h:ds[j]?=some d):dep d≤oH ds:=by
 induction ds generalizing j with
 | nil=>simp at h
 | cons e es ih=>
  unfold oH
  cases j with
  | zero=>
   have:e=d:=by simpa using h
   subst this
   exact Nat.le_max_left _ _
  | succ j=>exact Nat.le_trans (ih (by simpa using h)) (Nat.le_max_right _ _)
section
variable {X:Cx}{pins:List (Addr × Obj)}{σ:St}{H:Hp}{s:Shared}
theorem Inv.tl_ne (I:Inv X pins σ H s){a:Addr}{xs ys:List V}(h:SqT X.K H a xs)(h':SqL X.K H a ys):False:=by
 obtain ⟨its,r,⟨o,e,c,n,d⟩,_⟩:=I.tuple h
 obtain ⟨its',r',⟨o',n',e',c',_,d'⟩,_⟩:=I.list h'
 rw [e] at e';cases e'
 rw [c] at c';simp at c'
mutual
theorem Inv.sh_inj (I:Inv X pins σ H s):∀ {d e:Dt} {v:V},Sh X.K H d v→Sh X.K H e v→d=e
 | .non,e,v,h,h'=>by
  have h:v = .non:=h
  subst h
  cases e <;> first | rfl | (exact absurd (show V.non=_ from h') (fun z=>nomatch z)) | (obtain ⟨_,_,z,_⟩:=h';cases z)
 | .bl b,e,v,h,h'=>by
  have h:v = .bl b:=h
  subst h
  cases e <;> first | (cases (show V.bl b=V.bl _ from h');rfl) | (exact absurd (show V.bl b=_ from h') (fun z=>nomatch z)) | (obtain ⟨_,_,z,_⟩:=h';cases z)
 | .int b,e,v,h,h'=>by
  have h:v = .int b:=h
  subst h
  cases e <;> first | (cases (show V.int b=V.int _ from h');rfl) | (exact absurd (show V.int b=_ from h') (fun z=>nomatch z)) | (obtain ⟨_,_,z,_⟩:=h';cases z)
 | .str b,e,v,h,h'=>by
  have h:v = .str b:=h
  subst h
  cases e <;> first | (cases (show V.str b=V.str _ from h');rfl) | (exact absurd (show V.str b=_ from h') (fun z=>nomatch z)) | (obtain ⟨_,_,z,_⟩:=h';cases z)
 | .tup ds,e,v,⟨a,xs,h1,h2,h3⟩,h'=>by
  subst h1
  cases e with
  | tup es=>
   obtain ⟨a',xs',z,h2',h3'⟩:=h'
   cases z
   rw [I.tuple_inj h2' h2] at h3'
   rw [Inv.shL_inj I h3 h3']
  | lst es=>
   obtain ⟨a',xs',z,h2',h3'⟩:=h'
   cases z
   exact (I.tl_ne h2 h2').elim
  | _=>exact absurd (show V.ref a=_ from h') (fun z=>nomatch z)
 | .lst ds,e,v,⟨a,xs,h1,h2,h3⟩,h'=>by
  subst h1
  cases e with
  | lst es=>
   obtain ⟨a',xs',z,h2',h3'⟩:=h'
   cases z
   rw [I.list_inj h2' h2] at h3'
   rw [Inv.shL_inj I h3 h3']
  | tup es=>
   obtain ⟨a',xs',z,h2',h3'⟩:=h'
   cases z
   exact (I.tl_ne h2' h2).elim
  | _=>exact absurd (show V.ref a=_ from h') (fun z=>nomatch z)
theorem Inv.shL_inj (I:Inv X pins σ H s):∀ {ds es:List Dt} {xs:List V},ShL X.K H ds xs→ShL X.K H es xs→ds=es
 | [],[],_,_,_=>rfl
 | [],e :: es,_,h,⟨x,r,h1,_⟩=>by rw [show _=[] from h] at h1;cases h1
 | d :: ds,[],_,⟨x,r,h1,_⟩,h=>by rw [show _=[] from h] at h1;cases h1
 | d :: ds,e :: es,_,⟨x,r,h1,h2,h3⟩,⟨x',r',h1',h2',h3'⟩=>by
  rw [h1] at h1'
  cases h1'
  rw [Inv.sh_inj I h2 h2',Inv.shL_inj I h3 h3']
end
end
end L2
namespace L2
open PySem PySem.Spec PyProof.Rows
section
variable {X:Cx}{pins:List (Addr × Obj)}{σ:St}{H:Hp}{s:Shared}
open PySem.SeqAt
theorem mU {ds es:List Dt}{xs ys:List V}{us vs:List Value}(hs:ShL X.K H ds xs)(hr:Vals xs us)(hs':ShL X.K H es ys)(hr':Vals ys vs){A:Around}
  (h:∀ (d e:Dt) (x y:V) (u v:Value),(∃ j:Nat,ds[j]?=some d)→RelV x u→RelV y v→Sh X.K H d x→Sh X.K H e y→EqAt A s u v (eqD d e)) :
  ∀ j (h1:j<us.toArray.size) (h2:j<vs.toArray.size),EqAt A s us.toArray[j] vs.toArray[j] (eqD (ds.getD j .non) (es.getD j .non)):=by
 intro j h1 h2
 have l1:=hs.length
 have l2:=hr.length
 have l3:=hs'.length
 have l4:=hr'.length
 have g1:j<us.length:=by simpa using h1
 have g2:j<vs.length:=by simpa using h2
 have e1:ds[j]?=some (ds.getD j .non):=by rw [List.getD_eq_getElem?_getD,List.getElem?_eq_getElem (by omega)];rfl
 have e2:es[j]?=some (es.getD j .non):=by rw [List.getD_eq_getElem?_getD,List.getElem?_eq_getElem (by omega)];rfl
 obtain ⟨x,hx,sx⟩:=hs.get e1
 obtain ⟨y,hy,sy⟩:=hs'.get e2
 obtain ⟨u,hu,ru⟩:=hr.get hx
 obtain ⟨v,hv,rv⟩:=hr'.get hy
 have q1:us.toArray[j]=u:=by
  rw [List.getElem?_eq_getElem g1] at hu
  simpa using hu
 have q2:vs.toArray[j]=v:=by
  rw [List.getElem?_eq_getElem g2] at hv
  simpa using hv
 rw [q1,q2]
 exact h _ _ x y u v ⟨j,e1⟩ ru rv sx sy
theorem Inv.eq_sh (I:Inv X pins σ H s):∀ (n:Nat) (A:Around) (d e:Dt) (x y:V) (u v:Value),dep d≤n→A.units+n<cLine→RelV x u→RelV y v→Sh X.K H d x→Sh X.K H e y→RcAt A s u v (eqD d e)∧EqAt A s u v (eqD d e):=by
 intro n
 induction n with
 | zero=>
  intro A d e x y u v hd hu rx ry hx hy
  have hu0:A.units<cLine:=by omega
  cases d with
  | tup ds=>unfold dep at hd;omega
  | lst ds=>unfold dep at hd;omega
  | non=>
   obtain rfl:x = .non:=hx
   obtain rfl:u=Value.none:=rx
   cases e with
   | non=>obtain rfl:y = .non:=hy;obtain rfl:v=Value.none:=ry;unfold eqD;exact ⟨RcAt.none_none,EqAt.same _⟩
   | bl b=>obtain rfl:y = .bl b:=hy;obtain rfl:v=Value.bool b:=ry;unfold eqD;exact ⟨RcAt.none_bool b,EqAt.none_bool b⟩
   | int b=>obtain rfl:y = .int b:=hy;obtain ⟨t,rfl⟩:=ry;unfold eqD;exact ⟨RcAt.none_int b t,EqAt.none_int b t⟩
   | str b=>obtain rfl:y = .str b:=hy;obtain ⟨t,rfl⟩:=ry;unfold eqD;exact ⟨RcAt.none_str b t,EqAt.none_str b t⟩
   | tup es=>obtain ⟨b,ys,rfl,hq,_⟩:=hy;obtain rfl:v=Value.ref b:=ry;obtain ⟨its,_,p,_⟩:=I.tuple hq;unfold eqD;exact ⟨RcAt.none_tuple (show s.heap.IsTuple b its.toArray from p) hu0,EqAt.none_tuple (show s.heap.IsTuple b its.toArray from p) hu0⟩
   | lst es=>obtain ⟨b,ys,rfl,hq,_⟩:=hy;obtain rfl:v=Value.ref b:=ry;obtain ⟨its,_,p,_⟩:=I.list hq;unfold eqD;exact ⟨RcAt.none_list p.isList hu0,EqAt.none_list p.isList hu0⟩
  | bl a=>
   obtain rfl:x = .bl a:=hx
   obtain rfl:u=Value.bool a:=rx
   cases e with
   | non=>obtain rfl:y = .non:=hy;obtain rfl:v=Value.none:=ry;unfold eqD;exact ⟨RcAt.bool_none a,EqAt.bool_none a⟩
   | bl b=>obtain rfl:y = .bl b:=hy;obtain rfl:v=Value.bool b:=ry;unfold eqD;exact ⟨RcAt.bool_bool a b,EqAt.bool_bool a b⟩
   | int b=>obtain rfl:y = .int b:=hy;obtain ⟨t,rfl⟩:=ry;unfold eqD;exact ⟨RcAt.bool_int a b t,EqAt.bool_int a b t⟩
   | str b=>obtain rfl:y = .str b:=hy;obtain ⟨t,rfl⟩:=ry;unfold eqD;exact ⟨RcAt.bool_str a b t,EqAt.bool_str a b t⟩
   | tup es=>obtain ⟨b,ys,rfl,hq,_⟩:=hy;obtain rfl:v=Value.ref b:=ry;obtain ⟨its,_,p,_⟩:=I.tuple hq;unfold eqD;exact ⟨RcAt.bool_tuple a (show s.heap.IsTuple b its.toArray from p) hu0,EqAt.bool_tuple a (show s.heap.IsTuple b its.toArray from p) hu0⟩
   | lst es=>obtain ⟨b,ys,rfl,hq,_⟩:=hy;obtain rfl:v=Value.ref b:=ry;obtain ⟨its,_,p,_⟩:=I.list hq;unfold eqD;exact ⟨RcAt.bool_list a p.isList hu0,EqAt.bool_list a p.isList hu0⟩
  | int a=>
   obtain rfl:x = .int a:=hx
   obtain ⟨t0,rfl⟩:=rx
   cases e with
   | non=>obtain rfl:y = .non:=hy;obtain rfl:v=Value.none:=ry;unfold eqD;exact ⟨RcAt.int_none a t0,EqAt.int_none a t0⟩
   | bl b=>obtain rfl:y = .bl b:=hy;obtain rfl:v=Value.bool b:=ry;unfold eqD;exact ⟨RcAt.int_bool a t0 b,EqAt.int_bool a t0 b⟩
   | int b=>obtain rfl:y = .int b:=hy;obtain ⟨t,rfl⟩:=ry;unfold eqD;exact ⟨RcAt.int_int a t0 b t,EqAt.int_int a t0 b t⟩
   | str b=>obtain rfl:y = .str b:=hy;obtain ⟨t,rfl⟩:=ry;unfold eqD;exact ⟨RcAt.int_str a t0 b t,EqAt.int_str a t0 b t⟩
   | tup es=>obtain ⟨b,ys,rfl,hq,_⟩:=hy;obtain rfl:v=Value.ref b:=ry;obtain ⟨its,_,p,_⟩:=I.tuple hq;unfold eqD;exact ⟨RcAt.int_tuple a t0 (show s.heap.IsTuple b its.toArray from p) hu0,EqAt.int_tuple a t0 (show s.heap.IsTuple b its.toArray from p) hu0⟩
   | lst es=>obtain ⟨b,ys,rfl,hq,_⟩:=hy;obtain rfl:v=Value.ref b:=ry;obtain ⟨its,_,p,_⟩:=I.list hq;unfold eqD;exact ⟨RcAt.int_list a t0 p.isList hu0,EqAt.int_list a t0 p.isList hu0⟩
  | str a=>
   obtain rfl:x = .str a:=hx
   obtain ⟨t0,rfl⟩:=rx
   cases e with
   | non=>obtain rfl:y = .non:=hy;obtain rfl:v=Value.none:=ry;unfold eqD;exact ⟨RcAt.str_none a t0,EqAt.str_none a t0⟩
   | bl b=>obtain rfl:y = .bl b:=hy;obtain rfl:v=Value.bool b:=ry;unfold eqD;exact ⟨RcAt.str_bool a t0 b,EqAt.str_bool a t0 b⟩
   | int b=>obtain rfl:y = .int b:=hy;obtain ⟨t,rfl⟩:=ry;unfold eqD;exact ⟨RcAt.str_int a t0 b t,EqAt.str_int a t0 b t⟩
   | str b=>obtain rfl:y = .str b:=hy;obtain ⟨t,rfl⟩:=ry;unfold eqD;exact ⟨RcAt.str_str a t0 b t,EqAt.str_str a t0 b t⟩
   | tup es=>obtain ⟨b,ys,rfl,hq,_⟩:=hy;obtain rfl:v=Value.ref b:=ry;obtain ⟨its,_,p,_⟩:=I.tuple hq;unfold eqD;exact ⟨RcAt.str_tuple a t0 (show s.heap.IsTuple b its.toArray from p) hu0,EqAt.str_tuple a t0 (show s.heap.IsTuple b its.toArray from p) hu0⟩
   | lst es=>obtain ⟨b,ys,rfl,hq,_⟩:=hy;obtain rfl:v=Value.ref b:=ry;obtain ⟨its,_,p,_⟩:=I.list hq;unfold eqD;exact ⟨RcAt.str_list a t0 p.isList hu0,EqAt.str_list a t0 p.isList hu0⟩
 | succ n ih=>
  intro A d e x y u v hd hu rx ry hx hy
  have hu0:A.units<cLine:=by omega
  by_cases hd0:dep d≤n
  ·exact ih A d e x y u v hd0 (by omega) rx ry hx hy
  cases d with
  | non=>exact absurd (Nat.zero_le _) hd0
  | bl a=>exact absurd (Nat.zero_le _) hd0
  | int a=>exact absurd (Nat.zero_le _) hd0
  | str a=>exact absurd (Nat.zero_le _) hd0
  | tup ds=>
   have hdd:oH ds≤n:=by unfold dep at hd;omega
   have hx0:=hx
   obtain ⟨a,xs,rfl,hq,hl⟩:=hx
   obtain rfl:u=Value.ref a:=rx
   obtain ⟨its,rv,p,_⟩:=I.tuple hq
   have p:s.heap.IsTuple a its.toArray:=p
   cases e with
   | non=>obtain rfl:y = .non:=hy;obtain rfl:v=Value.none:=ry;unfold eqD;exact ⟨RcAt.tuple_none p hu0,EqAt.tuple_none p hu0⟩
   | bl b=>obtain rfl:y = .bl b:=hy;obtain rfl:v=Value.bool b:=ry;unfold eqD;exact ⟨RcAt.tuple_bool b p hu0,EqAt.tuple_bool b p hu0⟩
   | int b=>obtain rfl:y = .int b:=hy;obtain ⟨t,rfl⟩:=ry;unfold eqD;exact ⟨RcAt.tuple_int b t p hu0,EqAt.tuple_int b t p hu0⟩
   | str b=>obtain rfl:y = .str b:=hy;obtain ⟨t,rfl⟩:=ry;unfold eqD;exact ⟨RcAt.tuple_str b t p hu0,EqAt.tuple_str b t p hu0⟩
   | lst es=>obtain ⟨b,ys,rfl,hq',_⟩:=hy;obtain rfl:v=Value.ref b:=ry;obtain ⟨its',_,p',_⟩:=I.list hq';unfold eqD;exact ⟨RcAt.tuple_list p p'.isList hu0,EqAt.tuple_list p p'.isList hu0⟩
   | tup es=>
    have hy0:=hy
    obtain ⟨b,ys,rfl,hq',hl'⟩:=hy
    obtain rfl:v=Value.ref b:=ry
    obtain ⟨its',rv',p',_⟩:=I.tuple hq'
    have p':s.heap.IsTuple b its'.toArray:=p'
    have he:=mU (A:=A.in1) (s:=s) hl rv hl' rv' (fun d e x y u v ⟨j,hj⟩ r1 r2 s1 s2=>(ih A.in1 d e x y u v (Nat.le_trans (pG hj) hdd) (by show A.units+1+n<cLine;omega) r1 r2 s1 s2).2)
    have rc:=RcAt.tuples p p' hu0 he
    have l1:=hl.length
    have l2:=rv.length
    have l3:=hl'.length
    have l4:=rv'.length
    rw [List.size_toArray,List.size_toArray,← l2,← l4,← l1,← l3,lK] at rc
    unfold eqD
    refine ⟨rc,?_⟩
    by_cases hab:a=b
    ·subst hab
     have:=I.sh_inj hx0 hy0
     cases this
     rw [iO]
     exact EqAt.same _
    ·exact EqAt.of_refs hab rc
  | lst ds=>
   have hdd:oH ds≤n:=by unfold dep at hd;omega
   have hx0:=hx
   obtain ⟨a,xs,rfl,hq,hl⟩:=hx
   obtain rfl:u=Value.ref a:=rx
   obtain ⟨its,rv,p,_⟩:=I.list hq
   have p:=p.isList
   cases e with
   | non=>obtain rfl:y = .non:=hy;obtain rfl:v=Value.none:=ry;unfold eqD;exact ⟨RcAt.list_none p hu0,EqAt.list_none p hu0⟩
   | bl b=>obtain rfl:y = .bl b:=hy;obtain rfl:v=Value.bool b:=ry;unfold eqD;exact ⟨RcAt.list_bool b p hu0,EqAt.list_bool b p hu0⟩
   | int b=>obtain rfl:y = .int b:=hy;obtain ⟨t,rfl⟩:=ry;unfold eqD;exact ⟨RcAt.list_int b t p hu0,EqAt.list_int b t p hu0⟩
   | str b=>obtain rfl:y = .str b:=hy;obtain ⟨t,rfl⟩:=ry;unfold eqD;exact ⟨RcAt.list_str b t p hu0,EqAt.list_str b t p hu0⟩
   | tup es=>obtain ⟨b,ys,rfl,hq',_⟩:=hy;obtain rfl:v=Value.ref b:=ry;obtain ⟨its',_,p',_⟩:=I.tuple hq';unfold eqD;exact ⟨RcAt.list_tuple p (show s.heap.IsTuple b its'.toArray from p') hu0,EqAt.list_tuple p (show s.heap.IsTuple b its'.toArray from p') hu0⟩
   | lst es=>
    have hy0:=hy
    obtain ⟨b,ys,rfl,hq',hl'⟩:=hy
    obtain rfl:v=Value.ref b:=ry
    obtain ⟨its',rv',p',_⟩:=I.list hq'
    have p':=p'.isList
    have l1:=hl.length
    have l2:=rv.length
    have l3:=hl'.length
    have l4:=rv'.length
    have rc:RcAt A s (.ref a) (.ref b) (eqL ds es):=by
     by_cases hz:ds.length=es.length
     ·have he:=mU (A:=A.in1) (s:=s) hl rv hl' rv' (fun d e x y u v ⟨j,hj⟩ r1 r2 s1 s2=>(ih A.in1 d e x y u v (Nat.le_trans (pG hj) hdd) (by show A.units+1+n<cLine;omega) r1 r2 s1 s2).2)
      have rc:=RcAt.lists p p' (by rw [List.size_toArray,List.size_toArray];omega) hu0 he
      rw [List.size_toArray,← l2,← l1] at rc
      have q:=lK ds es
      rw [← hz,Nat.min_self,beq_self_eq_true,Bool.and_true] at q
      rw [← q]
      exact rc
     ·have q:eqL ds es=false:=by
       cases q:eqL ds es with
       | false=>rfl
       | true=>exact absurd (lO q) hz
      rw [q]
      exact RcAt.lists_lengths p p' (by rw [List.size_toArray,List.size_toArray];simp;omega) hu0
    unfold eqD
    refine ⟨rc,?_⟩
    by_cases hab:a=b
    ·subst hab
     have:=I.sh_inj hx0 hy0
     cases this
     rw [iO]
     exact EqAt.same _
    ·exact EqAt.of_refs hab rc
noncomputable def vT (K:PySem.W.Frag):R2:=fun x y H Q=>∃ d e,dep d≤100∧Sh K H d x∧Sh K H e y∧Q (.bl (eqD d e)) H
theorem aDg (hu:X.A.units+100<cLine):OpR X (compareOp .Eq) (vT X.K):=by
 intro pins s σ H x y v u Q I rx ry ⟨d,e,hd,hx,hy,q⟩
 exact (I.eq_sh 100 X.A d e x y v u hd hu rx ry hx hy).1 X.prog X.w X.xe _ ⟨.bl _,H,I,rfl,q⟩
end
end L2
namespace L2
open PySem PySem.Spec PyProof.Rows
section
variable {X:Cx}{pins:List (Addr × Obj)}{σ:St}{H:Hp}{s:Shared}
open PySem.SeqAt
theorem Inv.ne_sh (I:Inv X pins σ H s){A:Around}(d e:Dt)(x y:V)(u v:Value)(hd:dep d≤100)(hu:A.units+101<cLine)(rx:RelV x u)(ry:RelV y v)(hx:Sh X.K H d x)(hy:Sh X.K H e y):RcNeAt A s u v (!eqD d e):=by
 have hu0:A.units<cLine:=by omega
 cases d with
 | non=>
  obtain rfl:x = .non:=hx
  obtain rfl:u=Value.none:=rx
  cases e with
  | non=>obtain rfl:y = .non:=hy;obtain rfl:v=Value.none:=ry;unfold eqD;exact RcNeAt.none_none
  | bl b=>obtain rfl:y = .bl b:=hy;obtain rfl:v=Value.bool b:=ry;unfold eqD;exact RcNeAt.none_bool b
  | int b=>obtain rfl:y = .int b:=hy;obtain ⟨t,rfl⟩:=ry;unfold eqD;exact RcNeAt.none_int b t
  | str b=>obtain rfl:y = .str b:=hy;obtain ⟨t,rfl⟩:=ry;unfold eqD;exact RcNeAt.none_str b t
  | tup es=>obtain ⟨b,ys,rfl,hq,_⟩:=hy;obtain rfl:v=Value.ref b:=ry;obtain ⟨its,_,p,_⟩:=I.tuple hq;unfold eqD;exact RcNeAt.none_tuple (show s.heap.IsTuple b its.toArray from p) hu0
  | lst es=>obtain ⟨b,ys,rfl,hq,_⟩:=hy;obtain rfl:v=Value.ref b:=ry;obtain ⟨its,_,p,_⟩:=I.list hq;unfold eqD;exact RcNeAt.none_list p.isList hu0
 | bl a=>
  obtain rfl:x = .bl a:=hx
  obtain rfl:u=Value.bool a:=rx
  cases e with
  | non=>obtain rfl:y = .non:=hy;obtain rfl:v=Value.none:=ry;unfold eqD;exact RcNeAt.bool_none a
  | bl b=>obtain rfl:y = .bl b:=hy;obtain rfl:v=Value.bool b:=ry;unfold eqD;exact RcNeAt.bool_bool a b
  | int b=>obtain rfl:y = .int b:=hy;obtain ⟨t,rfl⟩:=ry;unfold eqD;exact RcNeAt.bool_int a b t
  | str b=>obtain rfl:y = .str b:=hy;obtain ⟨t,rfl⟩:=ry;unfold eqD;exact RcNeAt.bool_str a b t
  | tup es=>obtain ⟨b,ys,rfl,hq,_⟩:=hy;obtain rfl:v=Value.ref b:=ry;obtain ⟨its,_,p,_⟩:=I.tuple hq;unfold eqD;exact RcNeAt.bool_tuple a (show s.heap.IsTuple b its.toArray from p) hu0
  | lst es=>obtain ⟨b,ys,rfl,hq,_⟩:=hy;obtain rfl:v=Value.ref b:=ry;obtain ⟨its,_,p,_⟩:=I.list hq;unfold eqD;exact RcNeAt.bool_list a p.isList hu0
 | int a=>
  obtain rfl:x = .int a:=hx
  obtain ⟨t0,rfl⟩:=rx
  cases e with
  | non=>obtain rfl:y = .non:=hy;obtain rfl:v=Value.none:=ry;unfold eqD;exact RcNeAt.int_none a t0
  | bl b=>obtain rfl:y = .bl b:=hy;obtain rfl:v=Value.bool b:=ry;unfold eqD;exact RcNeAt.int_bool a t0 b
  | int b=>obtain rfl:y = .int b:=hy;obtain ⟨t,rfl⟩:=ry;unfold eqD;exact RcNeAt.int_int a t0 b t
  | str b=>obtain rfl:y = .str b:=hy;obtain ⟨t,rfl⟩:=ry;unfold eqD;exact RcNeAt.int_str a t0 b t
  | tup es=>obtain ⟨b,ys,rfl,hq,_⟩:=hy;obtain rfl:v=Value.ref b:=ry;obtain ⟨its,_,p,_⟩:=I.tuple hq;unfold eqD;exact RcNeAt.int_tuple a t0 (show s.heap.IsTuple b its.toArray from p) hu0
  | lst es=>obtain ⟨b,ys,rfl,hq,_⟩:=hy;obtain rfl:v=Value.ref b:=ry;obtain ⟨its,_,p,_⟩:=I.list hq;unfold eqD;exact RcNeAt.int_list a t0 p.isList hu0
 | str a=>
  obtain rfl:x = .str a:=hx
  obtain ⟨t0,rfl⟩:=rx
  cases e with
  | non=>obtain rfl:y = .non:=hy;obtain rfl:v=Value.none:=ry;unfold eqD;exact RcNeAt.str_none a t0
  | bl b=>obtain rfl:y = .bl b:=hy;obtain rfl:v=Value.bool b:=ry;unfold eqD;exact RcNeAt.str_bool a t0 b
  | int b=>obtain rfl:y = .int b:=hy;obtain ⟨t,rfl⟩:=ry;unfold eqD;exact RcNeAt.str_int a t0 b t
  | str b=>obtain rfl:y = .str b:=hy;obtain ⟨t,rfl⟩:=ry;unfold eqD;exact RcNeAt.str_str a t0 b t
  | tup es=>obtain ⟨b,ys,rfl,hq,_⟩:=hy;obtain rfl:v=Value.ref b:=ry;obtain ⟨its,_,p,_⟩:=I.tuple hq;unfold eqD;exact RcNeAt.str_tuple a t0 (show s.heap.IsTuple b its.toArray from p) hu0
  | lst es=>obtain ⟨b,ys,rfl,hq,_⟩:=hy;obtain rfl:v=Value.ref b:=ry;obtain ⟨its,_,p,_⟩:=I.list hq;unfold eqD;exact RcNeAt.str_list a t0 p.isList hu0
 | tup ds=>
  have hdd:oH ds≤100:=by unfold dep at hd;omega
  obtain ⟨a,xs,rfl,hq,hl⟩:=hx
  obtain rfl:u=Value.ref a:=rx
  obtain ⟨its,rv,p,_⟩:=I.tuple hq
  have p:s.heap.IsTuple a its.toArray:=p
  cases e with
  | non=>obtain rfl:y = .non:=hy;obtain rfl:v=Value.none:=ry;unfold eqD;exact RcNeAt.tuple_none p hu0
  | bl b=>obtain rfl:y = .bl b:=hy;obtain rfl:v=Value.bool b:=ry;unfold eqD;exact RcNeAt.tuple_bool b p hu0
  | int b=>obtain rfl:y = .int b:=hy;obtain ⟨t,rfl⟩:=ry;unfold eqD;exact RcNeAt.tuple_int b t p hu0
  | str b=>obtain rfl:y = .str b:=hy;obtain ⟨t,rfl⟩:=ry;unfold eqD;exact RcNeAt.tuple_str b t p hu0
  | lst es=>obtain ⟨b,ys,rfl,hq',_⟩:=hy;obtain rfl:v=Value.ref b:=ry;obtain ⟨its',_,p',_⟩:=I.list hq';unfold eqD;exact RcNeAt.tuple_list p p'.isList hu0
  | tup es=>
   obtain ⟨b,ys,rfl,hq',hl'⟩:=hy
   obtain rfl:v=Value.ref b:=ry
   obtain ⟨its',rv',p',_⟩:=I.tuple hq'
   have p':s.heap.IsTuple b its'.toArray:=p'
   have he:=mU (A:=A.in1) (s:=s) hl rv hl' rv' (fun d e x y u v ⟨j,hj⟩ r1 r2 s1 s2=>(I.eq_sh 100 A.in1 d e x y u v (Nat.le_trans (pG hj) hdd) (by show A.units+1+100<cLine;omega) r1 r2 s1 s2).2)
   have rc:=RcNeAt.tuples p p' hu0 he
   have l1:=hl.length
   have l2:=rv.length
   have l3:=hl'.length
   have l4:=rv'.length
   rw [List.size_toArray,List.size_toArray,← l2,← l4,← l1,← l3,lK] at rc
   unfold eqD
   exact rc
 | lst ds=>
  have hdd:oH ds≤100:=by unfold dep at hd;omega
  obtain ⟨a,xs,rfl,hq,hl⟩:=hx
  obtain rfl:u=Value.ref a:=rx
  obtain ⟨its,rv,p,_⟩:=I.list hq
  have p:=p.isList
  cases e with
  | non=>obtain rfl:y = .non:=hy;obtain rfl:v=Value.none:=ry;unfold eqD;exact RcNeAt.list_none p hu0
  | bl b=>obtain rfl:y = .bl b:=hy;obtain rfl:v=Value.bool b:=ry;unfold eqD;exact RcNeAt.list_bool b p hu0
  | int b=>obtain rfl:y = .int b:=hy;obtain ⟨t,rfl⟩:=ry;unfold eqD;exact RcNeAt.list_int b t p hu0
  | str b=>obtain rfl:y = .str b:=hy;obtain ⟨t,rfl⟩:=ry;unfold eqD;exact RcNeAt.list_str b t p hu0
  | tup es=>obtain ⟨b,ys,rfl,hq',_⟩:=hy;obtain rfl:v=Value.ref b:=ry;obtain ⟨its',_,p',_⟩:=I.tuple hq';unfold eqD;exact RcNeAt.list_tuple p (show s.heap.IsTuple b its'.toArray from p') hu0
  | lst es=>
   obtain ⟨b,ys,rfl,hq',hl'⟩:=hy
   obtain rfl:v=Value.ref b:=ry
   obtain ⟨its',rv',p',_⟩:=I.list hq'
   have p':=p'.isList
   have l1:=hl.length
   have l2:=rv.length
   have l3:=hl'.length
   have l4:=rv'.length
   unfold eqD
   by_cases hz:ds.length=es.length
   ·have he:=mU (A:=A.in1) (s:=s) hl rv hl' rv' (fun d e x y u v ⟨j,hj⟩ r1 r2 s1 s2=>(I.eq_sh 100 A.in1 d e x y u v (Nat.le_trans (pG hj) hdd) (by show A.units+1+100<cLine;omega) r1 r2 s1 s2).2)
    have rc:=RcNeAt.lists p p' (by rw [List.size_toArray,List.size_toArray];omega) hu0 he
    rw [List.size_toArray,← l2,← l1] at rc
    have q:=lK ds es
    rw [← hz,Nat.min_self,beq_self_eq_true,Bool.and_true] at q
    rw [← q]
    exact rc
   ·have q:eqL ds es=false:=by
     cases q:eqL ds es with
     | false=>rfl
     | true=>exact absurd (lO q) hz
    rw [q]
    exact RcNeAt.lists_lengths p p' (by rw [List.size_toArray,List.size_toArray];simp;omega) hu0
noncomputable def vX (K:PySem.W.Frag):R2:=fun x y H Q=>∃ d e,dep d≤100∧Sh K H d x∧Sh K H e y∧Q (.bl (!eqD d e)) H
theorem aDQ (hu:X.A.units+101<cLine):OpR X (compareOp .NotEq) (vX X.K):=by
 intro pins s σ H x y v u Q I rx ry ⟨d,e,hd,hx,hy,q⟩
 exact (I.ne_sh d e x y v u hd hu rx ry hx hy) X.prog X.w X.xe _ ⟨.bl _,H,I,rfl,q⟩
noncomputable def aEf:Dt→String→Bool
 | .non,_=>false
 | .bl _,T=>T == "bool" || T == "int"
 | .int _,T=>T == "int"
 | .str _,T=>T == "str"
 | .tup _,T=>T == "tuple"
 | .lst _,T=>T == "list"
noncomputable def aBd (K:PySem.W.Frag):List V→Hp→VK→Prop:=fun vs H Q=>∃ x d T,vs=[x, .ty T]∧(T="int"∨T="bool"∨T="tuple"∨T="list"∨T="str")∧Sh K H d x∧Q (.bl (aEf d T)) H
theorem aAr:CallR X (.builtin "isinstance") (aBd X.K):=by
 intro pins s σ H xs us Q I r ⟨x,d,T,e,hT,hx,q⟩
 subst e
 obtain ⟨u,w',rfl,rx,rt⟩:=r.two
 obtain rfl:w'=Value.type T:=rt
 have fin:∀ (b:Bool) (t:Nat),aEf d T=b→EP X pins σ Q (.bool b) { s with toks:=t }:=fun b t e=>⟨.bl b,H,I.tok t,rfl,by rw [← e];exact q⟩
 have fin0:∀ (b:Bool),aEf d T=b→EP X pins σ Q (.bool b) s:=fun b e=>⟨.bl b,H,I,rfl,by rw [← e];exact q⟩
 cases d with
 | non=>
  obtain rfl:x = .non:=hx
  obtain rfl:u=Value.none:=rx
  rcases hT with rfl | rfl | rfl | rfl | rfl
  ·exact IsiPair.NoneType_int (fin _ _ rfl)
  ·exact IsiPair.NoneType_bool (fin _ _ rfl)
  ·exact IsiPair.NoneType_tuple (fin _ _ rfl)
  ·exact IsiPair.NoneType_list (fin _ _ rfl)
  ·exact IsiPair.NoneType_str (fin _ _ rfl)
 | bl b=>
  obtain rfl:x = .bl b:=hx
  obtain rfl:u=Value.bool b:=rx
  rcases hT with rfl | rfl | rfl | rfl | rfl
  ·exact IsiPair.bool_int (fin0 _ rfl)
  ·exact IsiPair.bool_bool (fin0 _ rfl)
  ·exact IsiPair.bool_tuple (fin _ _ rfl)
  ·exact IsiPair.bool_list (fin _ _ rfl)
  ·exact IsiPair.bool_str (fin _ _ rfl)
 | int b=>
  obtain rfl:x = .int b:=hx
  obtain ⟨t,rfl⟩:=rx
  rcases hT with rfl | rfl | rfl | rfl | rfl
  ·exact IsiPair.int_int (fin0 _ rfl)
  ·exact IsiPair.int_bool (fin _ _ rfl)
  ·exact IsiPair.int_tuple (fin _ _ rfl)
  ·exact IsiPair.int_list (fin _ _ rfl)
  ·exact IsiPair.int_str (fin _ _ rfl)
 | str b=>
  obtain rfl:x = .str b:=hx
  obtain ⟨t,rfl⟩:=rx
  rcases hT with rfl | rfl | rfl | rfl | rfl
  ·exact IsiPair.str_int (fin _ _ rfl)
  ·exact IsiPair.str_bool (fin _ _ rfl)
  ·exact IsiPair.str_tuple (fin _ _ rfl)
  ·exact IsiPair.str_list (fin _ _ rfl)
  ·exact IsiPair.str_str (fin0 _ rfl)
 | tup ds=>
  obtain ⟨a,ys,rfl,hq,_⟩:=hx
  obtain rfl:u=Value.ref a:=rx
  obtain ⟨its,_,⟨o,ho,hc,_⟩,_⟩:=I.tuple hq
  rcases hT with rfl | rfl | rfl | rfl | rfl
  ·exact IsiPair.tuple_int ho hc (fin _ _ rfl)
  ·exact IsiPair.tuple_bool ho hc (fin _ _ rfl)
  ·exact IsiPair.tuple_tuple ho hc (fin0 _ rfl)
  ·exact IsiPair.tuple_list ho hc (fin _ _ rfl)
  ·exact IsiPair.tuple_str ho hc (fin _ _ rfl)
 | lst ds=>
  obtain ⟨a,ys,rfl,hq,_⟩:=hx
  obtain rfl:u=Value.ref a:=rx
  obtain ⟨its,_,p,_⟩:=I.list hq
  obtain ⟨o,ho,hc,_⟩:=p.isList
  rcases hT with rfl | rfl | rfl | rfl | rfl
  ·exact IsiPair.list_int ho hc (fin _ _ rfl)
  ·exact IsiPair.list_bool ho hc (fin _ _ rfl)
  ·exact IsiPair.list_tuple ho hc (fin _ _ rfl)
  ·exact IsiPair.list_list ho hc (fin0 _ rfl)
  ·exact IsiPair.list_str ho hc (fin _ _ rfl)
theorem tE {prog:Program}{w:World}{A:Around}(hh:A.handled=none)(It ax:Addr)(hne:ax≠It)(items:Array Value) :
  Walks prog w A It [It,ax] [It] items.size (fun i v=>items[i]?=some v) (fun i h=>h.IsTupleIter It ax i∧h.IsTuple ax items) where
 sub:=fun b hb=>by simp at hb;simp [hb]
 frame:=fun _ _ _ st hk=>⟨st.1.at fun o e=>hk It (by simp) o e,let ⟨o,e,r⟩:=st.2;⟨o,hk ax (by simp) o e,r⟩⟩
 item:=fun i s Q E hi st hQ=>by
  refine wpAny_pyNext_tuple_item st.1 st.2 (x:=items[i]) (by simp [hi]) fun h' hit' hs'=>?_
  refine hQ _ h' s.toks (by simp [hi]) ⟨hit',?_⟩ fun b o hb e=>hs'.extBut b o (fun h=>hb (by simp [h])) e
  obtain ⟨o,e,r⟩:=st.2
  exact ⟨o,hs'.extBut _ _ hne e,r⟩
 done:=fun s Q E st hQ=>wpAny_pyNext_tuple_end hh st.1 st.2 (by simp) fun h' he'=>hQ h' s.toks fun b o hb e=>he' b o (fun h=>hb (by simp [h])) e
 self:=fun _ _ _ _ st hQ=>wpAny_pyIter_tupleiter st.1 hQ
noncomputable def Sq (K:PySem.W.Frag) (H:Hp) (a:Addr) (xs:List V):Prop:=SqL K H a xs∨SqT K H a xs
theorem vL {A:Around}{a:Addr}{xs:List V}{Q:Value→Shared→Prop}{E:Value→Shared→Prop}(hh:A.handled=none)(I:Inv X pins σ H s)(h:Sq X.K H a xs)
  (hq:∀ (its:List Value) (It:Addr) (fp wr:List Addr) (S:Nat→Heap→Prop) (s2:Shared),Vals xs its→xs.length≤sizeLine→Walks X.prog X.w A It fp wr its.length (fun i v=>its[i]?=some v) S→S 0 s2.heap→(∀ b∈fp,b<s2.heap.objs.size) →
   (∀ h' tk,(∀ b o,b∉wr→s2.heap.get? b=some o→h'.get? b=some o)→Inv X pins σ H { s2 with heap:=h',toks:=tk })→Q (.ref It) s2):wpAny (model X.prog X.w) A (pyIter (.ref a)) Q E s:=by
 rcases h with h | h
 ·obtain ⟨its,rv,p,hz⟩:=I.list h
  refine wpAny_pyIter_list p.isList ?_
  have ha:a<s.heap.objs.size:=by obtain ⟨o,e,_⟩:=p.isList;exact Heap.lt_size e
  refine hq its s.heap.objs.size [s.heap.objs.size,a] [s.heap.objs.size] (fun i h=>h.IsListIter s.heap.objs.size a i∧h.IsList a its.toArray) _ rv hz (by simpa using Walks.list (prog:=X.prog) (w:=X.w) hh s.heap.objs.size a (Nat.ne_of_lt ha) its.toArray) ⟨⟨_,Heap.get?_push_size _ rfl,rfl,rfl⟩,?_⟩ (fun b hb=>?_) fun h' tk hk=>?_
  ·obtain ⟨o,e,r⟩:=p.isList
   exact ⟨o,Heap.get?_push_of_some _ e,r⟩
  ·simp at hb
   show b<(s.heap.push _).objs.size
   rw [Heap.size_push]
   rcases hb with rfl | rfl
   ·exact Nat.lt_succ_self _
   ·exact Nat.lt_succ_of_lt ha
  ·exact I.kept fun b o e=>hk b o (by simpa using Nat.ne_of_lt (Heap.lt_size e)) (Heap.get?_push_of_some _ e)
 ·obtain ⟨its,rv,p,hz⟩:=I.tuple h
  have p:s.heap.IsTuple a its.toArray:=p
  refine wpAny_pyIter_tuple p ?_
  have ha:a<s.heap.objs.size:=by obtain ⟨o,e,_⟩:=p;exact Heap.lt_size e
  refine hq its s.heap.objs.size [s.heap.objs.size,a] [s.heap.objs.size] (fun i h=>h.IsTupleIter s.heap.objs.size a i∧h.IsTuple a its.toArray) _ rv hz (by simpa using tE (prog:=X.prog) (w:=X.w) hh s.heap.objs.size a (Nat.ne_of_lt ha) its.toArray) ⟨⟨_,Heap.get?_push_size _ rfl,rfl,rfl⟩,?_⟩ (fun b hb=>?_) fun h' tk hk=>?_
  ·obtain ⟨o,e,r⟩:=p
   exact ⟨o,Heap.get?_push_of_some _ e,r⟩
  ·simp at hb
   show b<(s.heap.push _).objs.size
   rw [Heap.size_push]
   rcases hb with rfl | rfl
   ·exact Nat.lt_succ_self _
   ·exact Nat.lt_succ_of_lt ha
  ·exact I.kept fun b o e=>hk b o (by simpa using Nat.ne_of_lt (Heap.lt_size e)) (Heap.get?_push_of_some _ e)
theorem Vals.getR:∀ {xs:List V} {us:List Value} {i:Nat} {u:Value},Vals xs us→us[i]?=some u→∃ x,xs[i]?=some x∧RelV x u
 | _,_,_,_, .nil,e=>by simp at e
 | _,_,0,_, .cons r _,e=>by simp at e;subst e;exact ⟨_,rfl,r⟩
 | _,_,i+1,u, .cons _ t,e=>by
  obtain ⟨x,h1,h2⟩:=Vals.getR (i:=i) (u:=u) t (by simpa using e)
  exact ⟨x,by simpa using h1,h2⟩
theorem aBc (hc:X.calm=true):CallR X (.builtin "all") (fun vs H Q=>∃ (a:Addr) (bs:List Bool),vs=[.ref a]∧Sq X.K H a (bs.map V.bl)∧Q (.bl (bs.all id)) H):=by
 intro pins s σ H xs us Q I r ⟨a,bs,e,hq,q⟩
 subst e
 obtain ⟨u,rfl,ru⟩:=r.one
 obtain rfl:u=Value.ref a:=ru
 refine call_all_walk (vL (I.ok.hd hc) I hq fun its It fp wr S s2 rv hz W st hf hI=>?_)
 refine ⟨It,fp,wr,its.length,_,S,fun j=>bs.getD j false,rfl,W,st,fun i v s' Q' E' hv hQ'=>?_,fun h' tk hk=>?_⟩
 ·obtain ⟨x,hx,rx⟩:=rv.getR hv
  rw [List.getElem?_map] at hx
  cases hb:bs[i]? with
  | none=>rw [hb] at hx;cases hx
  | some b=>
   rw [hb] at hx
   obtain rfl:V.bl b=x:=by simpa using hx
   obtain rfl:v=Value.bool b:=rx
   have:bs.getD i false=b:=by rw [List.getD_eq_getElem?_getD,hb];rfl
   have hQ':Q' (bs.getD i false) s':=hQ'
   rw [this] at hQ'
   exact wpAny_truthy_bool hQ'
 ·refine ⟨.bl (bs.all id),H,hI h' tk hk,?_,q⟩
  show Value.bool _=Value.bool _
  congr 1
  have hl:its.length=bs.length:=by rw [← rv.length,List.length_map]
  rw [hl]
  clear q hq rv hl hz
  induction bs with
  | nil=>rfl
  | cons b bs ih=>rw [List.length_cons,jE,List.all_cons];exact congrArg (fun z=>b && z) ih
end
end L2
namespace L2
open PySem PySem.Spec PyProof.Rows
section
variable {X:Cx}
noncomputable def aDn (K:PySem.W.Frag):R2:=fun x y H Q=>∃ a b xs ys,x = .ref a∧y = .ref b∧SqT K H a xs∧SqT K H b ys∧xs.length+ys.length≤sizeLine ∧
 ∀ p H',((p=a∧H'=H∧ys=[])∨(p=b∧H'=H∧xs=[])∨(H p=none∧H'=upd H p (.tup (xs++ys))))→SqT K H' p (xs++ys)→Same H H'→Q (.ref p) H'
theorem aM {H:Hp}{p:Addr}(h:H p=none)(o:HO):Same H (upd H p o):=fun b u q=>by rw [aO (aL q h)];exact q
theorem aBX:OpR X (binaryOp .Add) (aDn X.K):=by
 intro pins s σ H x y v u Q I rx ry ⟨a,b,xs,ys,ex,ey,ha,hb,hz,q⟩
 subst ex ey
 obtain rfl:v=Value.ref a:=rx
 obtain rfl:u=Value.ref b:=ry
 by_cases hx:xs=[]
 ·obtain ⟨its,r1,p1,_⟩:=I.tuple ha
  obtain ⟨its2,r2,p2,_⟩:=I.tuple hb
  have he:its=[]:=r1.nil_iff.mpr hx
  obtain ⟨⟨cls,dd,data,sl⟩,ho,hc,n,hd⟩:=id p1
  obtain ⟨⟨cls2,dd2,data2,sl2⟩,ho2,hc2,n2,hd2⟩:=id p2
  simp only at hc hd hc2 hd2
  subst hc hd hc2 hd2
  refine concat_meets ⟨_,ho,rfl⟩ ⟨_,ho2,rfl⟩ noFill_tuple_add seq_tuple_add PySem.F.slot_tuple_add PySem.F.entry_tuple_add (PySem.F.args_tuple_add_2 _ _)
   (tuple_addW0 a b its.toArray its2.toArray n n2 dd dd2 sl sl2 (by simp [he])) ⟨ho,ho2,?_⟩
  exact ⟨.ref b,H,I,rfl,q b H (.inr (.inl ⟨rfl,rfl,hx⟩)) (by rw [hx];exact hb) (Same.refl H)⟩
 ·refine aCz (X:=X) pins s σ H (.ref a) (.ref b) (.ref a) (.ref b) Q I rfl rfl ⟨a,b,xs,ys,rfl,rfl,ha,hb,hx,hz,fun hy=>?_,fun hy p hp=>?_⟩
  ·exact q a H (.inl ⟨rfl,rfl,hy⟩) (by rw [hy,List.append_nil];exact ha) (Same.refl H)
  ·exact q p _ (.inr (.inr ⟨hp,rfl⟩)) (.of aE) (aM hp _)
noncomputable def bH (K:PySem.W.Frag):R2:=fun x y H Q=>match x,y with
 | .int i, .int j=>Q (.int (i+j)) H
 | .str i, .str j=>i.length+j.length≤sizeLine∧Q (.str (i++j)) H
 | .ref a, .ref b=>aFP (.ref a) (.ref b) H Q∨aDn K (.ref a) (.ref b) H Q
 | _,_=>False
theorem aCf:OpR X (binaryOp .Add) (bH X.K):=by
 intro pins s σ H x y v u Q I rx ry h
 unfold bH at h
 split at h
 ·exact aDc (X:=X) pins s σ H _ _ v u Q I rx ry ⟨_,_,rfl,rfl,h⟩
 ·exact vW (X:=X) pins s σ H _ _ v u Q I rx ry ⟨_,_,rfl,rfl,h.1,h.2⟩
 ·rcases h with h | h
  ·exact aCL (X:=X) pins s σ H _ _ v u Q I rx ry h
  ·exact aBX (X:=X) pins s σ H _ _ v u Q I rx ry h
 ·exact h.elim
noncomputable def eY:R2:=fun x y H Q=>match x,y with
 | .int i, .int j=>CMul i j∧Q (.int (i*j)) H
 | .ref a, .int k=>aFx (.ref a) (.int k) H Q
 | _,_=>False
theorem dS:OpR X (binaryOp .Mult) eY:=by
 intro pins s σ H x y v u Q I rx ry h
 unfold eY at h
 split at h
 ·exact aBi (X:=X) pins s σ H _ _ v u Q I rx ry ⟨_,_,rfl,rfl,h.1,h.2⟩
 ·exact aBq (X:=X) pins s σ H _ _ v u Q I rx ry h
 ·exact h.elim
theorem aEU:IxR X (fun x y H Q=>aEC X.K x y H Q∨aED X.K x y H Q):=aCq.or aDq
theorem Vals.of_get:∀ {xs:List V} {us:List Value},xs.length=us.length→(∀ (i:Nat) x u,xs[i]?=some x→us[i]?=some u→RelV x u)→Vals xs us
 | [],[],_,_ => .nil
 | [],_ :: _,h,_=>by simp at h
 | _ :: _,[],h,_=>by simp at h
 | x :: xs,u :: us,h,hr => .cons (hr 0 x u rfl rfl) (Vals.of_get (by simpa using h) fun i y w h1 h2=>hr (i+1) y w (by simpa using h1) (by simpa using h2))
theorem yW:CallR X (.type "range") (fun vs H Q=>∃ n:Int,vs=[.int n]∧∀ p,H p=none→Q (.ref p) (upd H p (.rng 0 n))):=by
 intro pins s σ H xs us Q I r ⟨n,e,q⟩
 subst e
 obtain ⟨u,rfl,ru⟩:=r.one
 obtain ⟨t,rfl⟩:=ru
 refine call_range_1 ⟨.ref s.heap.objs.size,_,I.laid (a:=s.heap.objs.size) (o := .rng 0 n) (fun b o e=>Heap.get?_push_of_some _ e) (Nat.le_refl _) ⟨_,_,_,Heap.get?_push_size _ rfl⟩,rfl,q _ (I.hok.fresh (Nat.le_refl _))⟩
theorem yJ:CallR X (.type "range") (fun vs H Q=>∃ m n:Int,vs=[.int m, .int n]∧∀ p,H p=none→Q (.ref p) (upd H p (.rng m n))):=by
 intro pins s σ H xs us Q I r ⟨m,n,e,q⟩
 subst e
 obtain ⟨u,u',rfl,ru,ru'⟩:=r.two
 obtain ⟨t,rfl⟩:=ru
 obtain ⟨t',rfl⟩:=ru'
 refine call_range_2 ⟨.ref s.heap.objs.size,_,I.laid (a:=s.heap.objs.size) (o := .rng m n) (fun b o e=>Heap.get?_push_of_some _ e) (Nat.le_refl _) ⟨_,_,_,Heap.get?_push_size _ rfl⟩,rfl,q _ (I.hok.fresh (Nat.le_refl _))⟩
theorem aAH:CallR X (.type "range") (fun vs H Q=>(∃ n:Int,vs=[.int n]∧∀ p,H p=none→Q (.ref p) (upd H p (.rng 0 n)))∨∃ m n:Int,vs=[.int m, .int n]∧∀ p,H p=none→Q (.ref p) (upd H p (.rng m n))):=yW.or yJ
noncomputable def aAE (lo hi:Int):List Int:=(List.range (hi - lo).toNat).map fun i:Nat=>lo+(i:Int)
theorem pY (hc:X.calm=true):CallR X (.type "list") (fun vs H Q=>∃ (a:Addr) (lo hi:Int),vs=[.ref a]∧H a=some (.rng lo hi)∧(-(2 ^ 62)≤lo∧lo<2 ^ 62∧-(2 ^ 62)≤hi∧hi<2 ^ 62∧hi - lo≤1000000) ∧
  ∀ p,H p=none→Q (.ref p) (upd H p (.lst ((aAE lo hi).map V.int)))):=by
 intro pins s σ H xs us Q I r ⟨a,lo,hi,e,ha,⟨b1,b2,b3,b4,b5⟩,q⟩
 subst e
 obtain ⟨u,rfl,ru⟩:=r.one
 obtain rfl:u=Value.ref a:=ru
 obtain ⟨t,u,v,hr⟩:=I.hok a _ ha
 refine call_list_range (a:=lo) (b:=hi) (c:=1) (n:=(hi - lo).toNat) (I.ok.hd hc) hr (small_one b1 b2 b3 b4) (by rw [rangeSize_one];split <;> omega) (by omega) fun h' tk acc' c' hk hS hI=>?_
 refine ⟨.ref s.heap.objs.size,_,I.laid (a:=s.heap.objs.size) (o := .lst ((aAE lo hi).map V.int)) hk (Nat.le_refl _) ⟨?_,acc'.toList,c',?_,by simpa using hS⟩,rfl,q _ (I.hok.fresh (Nat.le_refl _))⟩
 ·rw [List.length_map];unfold aAE;rw [List.length_map,List.length_range]
  exact Nat.le_trans (show (hi - lo).toNat≤1000000 by omega) (by decide)
 ·refine Vals.of_get ?_ fun i x u hx hu=>?_
  ·have el:acc'.toList.length=(hi - lo).toNat:=by rw [← hI.1];simp
   rw [List.length_map,el];unfold aAE;rw [List.length_map,List.length_range]
  ·obtain ⟨t,rfl⟩:=hI.2 i u (by simpa using hu)
   rw [List.getElem?_map] at hx
   unfold aAE at hx
   rw [List.getElem?_map] at hx
   cases hi':(List.range (hi - lo).toNat)[i]? with
   | none=>rw [hi'] at hx;cases hx
   | some j=>
    rw [hi'] at hx
    have:j=i:=by
     obtain ⟨h1,h2⟩:=List.getElem?_eq_some_iff.mp hi'
     simpa using h2.symm
    subst this
    obtain rfl:V.int (lo+(j:Int))=x:=by simpa using hx
    exact ⟨t,by rw [Int.mul_one]⟩
theorem pH (hc:X.calm=true):CallR X (.type "list") (fun vs H Q=>(∃ p ys,vs=[.ref p]∧(SqL X.K H p ys∨SqT X.K H p ys)∧∀ l,H l=none→Q (.ref l) (upd H l (.lst ys))) ∨
  ∃ (a:Addr) (lo hi:Int),vs=[.ref a]∧H a=some (.rng lo hi)∧(-(2 ^ 62)≤lo∧lo<2 ^ 62∧-(2 ^ 62)≤hi∧hi<2 ^ 62∧hi - lo≤1000000)∧∀ p,H p=none→Q (.ref p) (upd H p (.lst ((aAE lo hi).map V.int)))):=rT.or (pY hc)
noncomputable def pQ (K:PySem.W.Frag) (tl:TE):TI:=fun σ H R=>tl σ H fun x H1=>∃ a,x = .ref a∧(((∃ xs,SqL K H1 a xs)∧R (Itl K a) H1)∨((∃ xs,SqT K H1 a xs)∧R (Itt K a) H1))
theorem aDl {tg l:Expr}{tl:TE}(hl:PE X l tl):PI X tg l (pQ X.K tl):=by
 intro pins s σ H R I h
 refine thn (hl pins s σ H _ I h) fun v s1 ⟨x,H1,I1,r1,q1⟩=>?_
 obtain ⟨a,e,q⟩:=q1
 subst e
 cases r1
 rcases q with ⟨⟨xs,hq⟩,q⟩ | ⟨⟨xs,hq⟩,q⟩
 ·obtain ⟨its,rv,p,hz⟩:=I1.list hq
  refine wpAny_pyIter_list p.isList ?_
  refine ⟨s1.heap.objs.size,[s1.heap.objs.size],_,_,H1,rfl,I1.kept (t':=s1.toks) fun b o e=>Heap.get?_push_of_some _ e,yY a _,⟨_,Heap.get?_push_size _ rfl,rfl,rfl⟩,fun b hb=>?_,q⟩
  have e:b=s1.heap.objs.size:=by simpa using hb
  subst e
  exact I1.fpOk (Nat.le_refl _) (I1.hok.fresh (Nat.le_refl _))
 ·obtain ⟨its,rv,p,hz⟩:=I1.tuple hq
  refine wpAny_pyIter_tuple (show s1.heap.IsTuple a its.toArray from p) ?_
  refine ⟨s1.heap.objs.size,[s1.heap.objs.size],_,_,H1,rfl,I1.kept (t':=s1.toks) fun b o e=>Heap.get?_push_of_some _ e,wN a _,⟨_,Heap.get?_push_size _ rfl,rfl,rfl⟩,fun b hb=>?_,q⟩
  have e:b=s1.heap.objs.size:=by simpa using hb
  subst e
  exact I1.fpOk (Nat.le_refl _) (I1.hok.fresh (Nat.le_refl _))
end
structure Def (P:Program)(w:World)(K:PySem.W.Frag)(mg:Str→Option Value)(base:Heap)(x:Str)(k:Nat)(ps:List Str)(sp:Sp):Prop where
 ex:∃ (f:Addr) (fd:FuncData),FnOk P w K mg base CX0 k f fd ps sp∧mg x=some (.ref f)∧PySem.W.keepIn K (.ref f)=true∧Binds K fd ps []
theorem Def.mono {P:Program}{w:World}{K:PySem.W.Frag}{mg:Str→Option Value}{base:Heap}{x:Str}{j k:Nat}{ps:List Str}{sp:Sp}(D:Def P w K mg base x j ps sp)(h:j≤k):Def P w K mg base x k ps sp:=by
 obtain ⟨f,fd,F,r⟩:=D.ex
 exact ⟨f,fd,F.mono h,r⟩
theorem bG {X:Cx}{x:Str}{k:Nat}{ps:List Str}{sp:Sp}{p pos:Pos}{e:Expr}{es:List Expr}{t:TA}(D:Def X.prog X.w X.K X.mg X.base x k ps sp)(hr:Room k X.A)(hg:Gl X x)(ha:PA X (e :: es) t)
  (hdb:(x == ("__debug__" : Str))=false:=by decide) (he:starEach (e :: es) X.env=(false,eval e X.env) :: starEach es X.env:=by rfl) (hpl:(backTo pos (starEach es X.env)).any (·.1)=false:=by rfl) :
  PE X (.Call (.Name x p) (e :: es) [] pos) (bY sp [] E0 t):=by
 obtain ⟨f,fd,F,hm,hk,hb⟩:=D.ex
 exact aCn F hr hg hm hk hb .nil aFi ha hdb he hpl
end L2
namespace L2
open PySem PySem.Spec PyProof.Rows
noncomputable def SameX (acc:Addr) (H H':Hp):Prop:=∀ b o,b≠acc→H b=some o→H' b=some o
theorem SameX.refl (acc:Addr)(H:Hp):SameX acc H H:=fun _ _ _ h=>h
theorem SameX.trans {acc:Addr}{H H1 H2:Hp}(a:SameX acc H H1)(b:SameX acc H1 H2):SameX acc H H2:=fun c o n h=>b c o n (a c o n h)
theorem Same.x {acc:Addr}{H H':Hp}(e:Same H H'):SameX acc H H':=fun b o _ h=>e b o h
theorem SameX.put {acc:Addr}{H:Hp}(o:HO):SameX acc H (upd H acc o):=fun b u n h=>by rw [aO n];exact h
noncomputable def Agree (vars:List Nat) (σ σ':St):Prop:=∀ k,k∉vars→σ'[k]?=σ[k]?
theorem Agree.refl (vars:List Nat)(σ:St):Agree vars σ σ:=fun _ _=>rfl
theorem Agree.trans {vars:List Nat}{σ σ1 σ2:St}(a:Agree vars σ σ1)(b:Agree vars σ1 σ2):Agree vars σ σ2:=fun k h=>(b k h).trans (a k h)
theorem Agree.set {vars:List Nat}{σ:St}{j:Nat}(h:j∈vars)(v:Option V):Agree vars σ (σ.set j v):=fun k hk=>List.getElem?_set_ne (fun e:j=k=>hk (by rw [← e];exact h))
theorem oS {σ:St}{j:Nat}{v:Option V}(h:j<σ.length):(σ.set j v)[j]?=some v:=List.getElem?_set_self h
noncomputable def Emits (vars:List Nat) (tb:TS) (acc:Addr) (σ:St) (H:Hp) (L:List V):Prop:=
 ∀ (D:lG) (pre:List V),H acc=some (.lst pre)→pre.length+L.length≤1000000→(∀ σ' H',σ'.length=σ.length→Agree vars σ σ'→SameX acc H H'→H' acc=some (.lst (pre++L))→D.nx σ' H')→tb D σ H
theorem zL {vars:List Nat}{te:TE}{acc:Addr}{σ:St}{H:Hp}{x:V}(h:∀ Q:VK,(∀ H',Same H H'→Q x H')→te σ H Q):Emits vars (dX te acc) acc σ H [x]:=by
 intro D pre ha hz hd
 refine h _ fun H' e=>⟨pre,e _ _ ha,?_,hd σ _ rfl (Agree.refl _ _) (e.x.trans (SameX.put _)) aE⟩
 exact Nat.lt_of_le_of_lt (show pre.length≤1000000 by simp at hz;omega) (by decide)
theorem cC {α:Type}(f:Nat→List α)(i:Nat):(List.range (i+1)).flatMap f=(List.range i).flatMap f++f i:=by
 rw [List.range_succ,List.flatMap_append]
 simp
theorem gI {α:Type}(f:Nat→List α){i n:Nat}(h:i≤n):((List.range i).flatMap f).length≤((List.range n).flatMap f).length:=by
 induction h with
 | refl=>exact Nat.le_refl _
 | step _ ih=>rw [cC,List.length_append];omega
theorem oP {vars:List Nat}{tb:TS}{acc:Addr}{σ:St}{H:Hp}{lo:Int}{n j:Nat}{L:Nat→List V}(hj:j∈vars)(hjl:j<σ.length)
  (h:∀ i σ' H',i<n→σ'.length=σ.length→Agree vars σ σ'→σ'[j]?=some (some (.int (lo+(i:Int))))→SameX acc H H'→(∃ pre,H' acc=some (.lst pre))→Emits vars tb acc σ' H' (L i)) :
  Emits vars (jM (Itr lo n) (aJ j) tb) acc σ H ((List.range n).flatMap L):=by
 intro D pre ha hz hd
 refine bV (lo:=lo) (n:=n) (g:=aJ j) (D:=D) (fun i σ' H'=>i≤n∧σ'.length=σ.length∧Agree vars σ σ'∧SameX acc H H'∧H' acc=some (.lst (pre++(List.range i).flatMap L))) ⟨Nat.zero_le _,rfl,Agree.refl _ _,SameX.refl _ _,by simpa using ha⟩ (fun i σ1 H1 hi ⟨_,hl1,ag1,sx1,h1⟩=>?_) fun σ1 H1 ⟨_,hl1,ag1,sx1,h1⟩=>hd σ1 H1 hl1 ag1 sx1 h1
 have hle:=gI L (show i+1≤n from hi)
 rw [cC,List.length_append] at hle
 have fin:∀ σ' H',σ'.length=σ1.length→Agree vars (σ1.set j (some (.int (lo+(i:Int))))) σ'→SameX acc H1 H'→H' acc=some (.lst ((pre++(List.range i).flatMap L)++L i)) →
   (i+1≤n∧σ'.length=σ.length∧Agree vars σ σ'∧SameX acc H H'∧H' acc=some (.lst (pre++(List.range (i+1)).flatMap L))):=fun σ' H' hl ag sx h2=>
  ⟨hi,hl.trans hl1,(ag1.trans (Agree.set hj _)).trans ag,sx1.trans sx,by rw [h2,cC,List.append_assoc]⟩
 refine h i (σ1.set j (some (.int (lo+(i:Int))))) H1 hi (by rw [List.length_set];exact hl1) (ag1.trans (Agree.set hj _)) (oS (by omega)) sx1 ⟨_,h1⟩ _ _ h1 (by rw [List.length_append];omega) fun σ' H' hl ag sx h2=>fin σ' H' (hl.trans (List.length_set ..)) ag sx h2
theorem sM {vars:List Nat}{ta:TA}{tb:TS}{acc:Addr}{σ:St}{H:Hp}{n j:Nat}{L:Nat→List V}(hj:j∈vars)(hjl:j<σ.length)(hn:n≤1000000)
  (hta:∀ Q:List V→Hp→Prop,(∀ H',Same H H'→Q [.int (n:Int)] H')→ta σ H Q)
  (h:∀ i σ' H',i<n→σ'.length=σ.length→Agree vars σ σ'→σ'[j]?=some (some (.int (i:Int)))→SameX acc H H'→(∃ pre,H' acc=some (.lst pre))→Emits vars tb acc σ' H' (L i)) :
  Emits vars (kU (dM ta) (aJ j) tb) acc σ H ((List.range n).flatMap L):=by
 intro D pre ha hz hd
 refine hta _ fun H' e=>⟨(n:Int),rfl,by omega,by omega,?_⟩
 rw [Int.toNat_natCast]
 refine oP (L:=L) hj hjl (fun i σ' H2 hi hl ag hs sx hp=>h i σ' H2 hi hl ag (by rw [hs];simp) (e.x.trans sx) hp) D pre (e _ _ ha) hz fun σ' H2 hl ag sx h2=>hd σ' H2 hl ag (e.x.trans sx) h2
end L2
namespace L2
open PySem PySem.Spec PyProof.Rows
theorem cU:bootBuiltins "len" = some (.builtin "len"):=by decide +kernel
theorem zA:bootBuiltins "all" = some (.builtin "all"):=by decide +kernel
theorem uQ:bootBuiltins "min" = some (.builtin "min"):=by decide +kernel
theorem vF:bootBuiltins "max" = some (.builtin "max"):=by decide +kernel
theorem nX:bootBuiltins "isinstance" = some (.builtin "isinstance"):=by decide +kernel
theorem qW:bootBuiltins "sorted" = some (.builtin "sorted"):=by decide +kernel
theorem cP:bootBuiltins "tuple" = some (.type "tuple"):=by decide +kernel
theorem pP:bootBuiltins "list" = some (.type "list"):=by decide +kernel
theorem aAI:bootBuiltins "range" = some (.type "range"):=by decide +kernel
theorem uG:bootBuiltins "int" = some (.type "int"):=by decide +kernel
theorem aCu:bootBuiltins "bool" = some (.type "bool"):=by decide +kernel
structure Blt (mg:Str→Option Value):Prop where
 len:mg "len" = none
 all:mg "all" = none
 min:mg "min" = none
 max:mg "max" = none
 sum:mg "sum" = none
 isi:mg "isinstance" = none
 sorted:mg "sorted" = none
 tuple:mg "tuple" = none
 list:mg "list" = none
 range:mg "range" = none
 int:mg "int" = none
 bool:mg "bool" = none
end L2
namespace L2
open PySem
theorem aFo {A:Around}{k:Nat}(hr:Room k A):A.units+100<cLine:=by have:=hr.un;omega
theorem aEO {A:Around}{k:Nat}(hr:Room k A):A.units+101<cLine:=by have:=hr.un;omega
end L2
namespace L2
open PySem PySem.Spec PyProof.Rows
section
variable {X:Cx}{K:PySem.W.Frag}
theorem aN (hK:X.K=K):IxR X (fun x y H Q=>aEC K x y H Q∨aED K x y H Q):=by subst hK;exact aEU
theorem bA (hK:X.K=K):OpR X (binaryOp .Add) (bH K):=by subst hK;exact aCf
theorem kN {k:Nat}(hK:X.K=K)(hr:Room k X.A):OpR X (compareOp .Eq) (vT K):=by subst hK;exact aDg (aFo hr)
theorem jC {k:Nat}(hK:X.K=K)(hr:Room k X.A):OpR X (compareOp .NotEq) (vX K):=by subst hK;exact aDQ (aEO hr)
theorem eP (hK:X.K=K):CallR X (.builtin "isinstance") (aBd K):=by subst hK;exact aAr
noncomputable def oB (K:PySem.W.Frag):List V→Hp→VK→Prop:=fun xs H Q=>∃ p ys,xs=[.ref p]∧(SqL K H p ys∨SqT K H p ys)∧Q (.int ys.length) H
theorem bJ (hK:X.K=K):CallR X (.builtin "len") (oB K):=by subst hK;exact qX
noncomputable def aEx (K:PySem.W.Frag):List V→Hp→VK→Prop:=fun vs H Q=>∃ (a:Addr) (bs:List Bool),vs=[.ref a]∧Sq K H a (bs.map V.bl)∧Q (.bl (bs.all id)) H
theorem nH (hK:X.K=K)(hc:X.calm=true):CallR X (.builtin "all") (aEx K):=by subst hK;exact aBc hc
noncomputable def rC:List V→Hp→VK→Prop:=fun xs H Q=>∃ i j:Int,xs=[.int i, .int j]∧Q (.int (if j<i then j else i)) H
theorem iM (hc:X.calm=true):CallR X (.builtin "min") rC:=wU hc
noncomputable def tD:List V→Hp→VK→Prop:=fun xs H Q=>∃ i j:Int,xs=[.int i, .int j]∧Q (.int (if j > i then j else i)) H
theorem lD (hc:X.calm=true):CallR X (.builtin "max") tD:=yK hc
noncomputable def dZ (K:PySem.W.Frag):List V→Hp→VK→Prop:=fun xs H Q=>∃ p ys,xs=[.ref p]∧((SqL K H p ys∧∀ l,H l=none→Q (.ref l) (upd H l (.tup ys)))∨(SqT K H p ys∧Q (.ref p) H))
theorem cH (hK:X.K=K):CallR X (.type "tuple") (dZ K):=by subst hK;exact qK
noncomputable def tS (K:PySem.W.Frag):List V→Hp→VK→Prop:=fun vs H Q=>(∃ p ys,vs=[.ref p]∧(SqL K H p ys∨SqT K H p ys)∧∀ l,H l=none→Q (.ref l) (upd H l (.lst ys))) ∨
  ∃ (a:Addr) (lo hi:Int),vs=[.ref a]∧H a=some (.rng lo hi)∧(-(2 ^ 62)≤lo∧lo<2 ^ 62∧-(2 ^ 62)≤hi∧hi<2 ^ 62∧hi - lo≤1000000)∧∀ p,H p=none→Q (.ref p) (upd H p (.lst ((aAE lo hi).map V.int)))
theorem iL (hK:X.K=K)(hc:X.calm=true):CallR X (.type "list") (tS K):=by subst hK;exact pH hc
theorem eG {tg l:Expr}{tl:TE}(hK:X.K=K)(hl:PE X l tl):PI X tg l (pQ K tl):=by subst hK;exact aDl hl
theorem gF {es:List Expr}{k:Nat}{t:TGs}{n:Nat}{pos:Pos}(hK:X.K=K)(hc:X.calm=true)(h:PGs X es t)(hn:(assignEach es X.env).length=n:=by rfl)(hst:(assignEach es X.env).findIdx? (·.1)=none:=by rfl):PG X (.Tuple es k pos) (yO K n t):=by
 subst hK;exact aDZ hc h hn hst
end
end L2
namespace L2
open PySem PySem.Spec PyProof.Rows
noncomputable abbrev yLt:R2:=rI0 fun i j => .bl (decide (i<j))
noncomputable abbrev yLe:R2:=rI0 fun i j => .bl (decide (i≤j))
noncomputable abbrev yGt:R2:=rI0 fun i j => .bl (decide (j<i))
noncomputable abbrev yGe:R2:=rI0 fun i j => .bl (decide (j≤i))
noncomputable abbrev uE:R2:=rI0 fun i j => .int (i - j)
noncomputable abbrev aER:R2:=rI aFQ fun i j => .int (i / j)
noncomputable abbrev pS:R2:=rI (fun _ j=>0<j) fun i j => .int (i % j)
noncomputable abbrev aFM:R2:=rI aFN fun i j => .int (i ^ j.toNat)
noncomputable abbrev aCW:V→Hp→VK→Prop:=rU fun i => .int (-i)
noncomputable abbrev bS (K:PySem.W.Frag):R2:=fun x y H Q=>aEC K x y H Q∨aED K x y H Q
noncomputable def aFT:List V→Hp→VK→Prop:=fun vs H Q=>(∃ n:Int,vs=[.int n]∧∀ p,H p=none→Q (.ref p) (upd H p (.rng 0 n)))∨∃ m n:Int,vs=[.int m, .int n]∧∀ p,H p=none→Q (.ref p) (upd H p (.rng m n))
theorem xP {X:Cx}:CallR X (.type "range") aFT:=aAH
end L2
namespace L2
open PySem
noncomputable def jD (T:List (List Int)):Dt := .tup (T.map fun r => .tup (r.map .int))
structure Quad (T:List (List Int))(n:Nat):Prop where
 len:T.length=n
 row:∀ r∈T,r.length=n
noncomputable def at2 (T:List (List Int)) (i j:Nat):Int:=(T.getD i []).getD j 0
section
variable {K:PySem.W.Frag}{H:Hp}{T:List (List Int)}{n:Nat}
theorem ShL.rows:∀ {T:List (List Int)} {rs:List V},ShL K H (T.map fun r=>Dt.tup (r.map Dt.int)) rs→rs.length=T.length∧∀ (i:Nat) (row:List Int),T[i]?=some row→∃ b,rs[i]?=some (.ref b)∧SqT K H b (row.map V.int)
 | [],rs,h=>by
  have h:rs=[]:=h
  subst h
  exact ⟨rfl,fun i row e=>by simp at e⟩
 | r :: T,rs,⟨x,rr,h1,⟨b,xs,h2,h3,h4⟩,h5⟩=>by
  obtain ⟨e,g⟩:=ShL.rows h5
  subst h1
  refine ⟨by rw [List.length_cons,List.length_cons,e],fun i row er=>?_⟩
  cases i with
  | zero=>
   have:r=row:=by simpa using er
   subst this
   exact ⟨b,by rw [h2];rfl,by rw [← ShL.of_ints h4];exact h3⟩
  | succ i=>exact g i row (by simpa using er)
theorem Sh.tab {v:V}(h:Sh K H (jD T) v):∃ a rs,v = .ref a∧SqT K H a rs∧rs.length=T.length∧∀ (i:Nat) (row:List Int),T[i]?=some row→∃ b,rs[i]?=some (.ref b)∧SqT K H b (row.map V.int):=by
 obtain ⟨a,rs,e,hq,hl⟩:=h
 obtain ⟨e2,g⟩:=ShL.rows hl
 exact ⟨a,rs,e,hq,e2,g⟩
theorem ShL.of_rows:∀ {T:List (List Int)} {rs:List V},rs.length=T.length→(∀ (i:Nat) (row:List Int),T[i]?=some row→∃ b,rs[i]?=some (.ref b)∧SqT K H b (row.map V.int))→ShL K H (T.map fun r=>Dt.tup (r.map Dt.int)) rs
 | [],rs,h,_=>List.length_eq_zero_iff.mp h
 | r :: T,[],h,_=>by simp at h
 | r :: T,x :: rs,h,g=>by
  obtain ⟨b,e,hq⟩:=g 0 r rfl
  have e:x = .ref b:=by simpa using e
  exact ⟨x,rs,rfl,⟨b,_,e,hq,ShL.ints r⟩,ShL.of_rows (by simpa using h) fun i row er=>by
   obtain ⟨c,e2,q2⟩:=g (i+1) row (by simpa using er)
   exact ⟨c,by simpa using e2,q2⟩⟩
theorem Quad.get (q:Quad T n){i:Nat}(h:i<n):∃ row,T[i]?=some row∧row.length=n∧T.getD i []=row:=by
 have hi:i<T.length:=by rw [q.len];exact h
 refine ⟨T[i],List.getElem?_eq_getElem hi,q.row _ (List.getElem_mem hi),?_⟩
 rw [List.getD_eq_getElem?_getD,List.getElem?_eq_getElem hi];rfl
theorem jL {xs:List Int}{j:Nat}(h:j<xs.length):xs[j]?=some (xs.getD j 0):=by
 rw [List.getD_eq_getElem?_getD,List.getElem?_eq_getElem h];rfl
theorem ixT {p:Addr}{xs:List V}{j:Nat}{v:V}{Q:VK}(h:SqT K H p xs)(hj:xs[j]?=some v)(q:Q v H):bS K (.ref p) (.int (j:Int)) H Q := .inr ⟨p,xs,j,v,rfl,rfl,h,yZ hj,q⟩
theorem ixL {p:Addr}{xs:List V}{j:Nat}{v:V}{Q:VK}(h:SqL K H p xs)(hj:xs[j]?=some v)(q:Q v H):bS K (.ref p) (.int (j:Int)) H Q := .inl ⟨p,xs,j,v,rfl,rfl,h,yZ hj,q⟩
theorem zH {v:V}{i:Nat}{Q:VK}(hS:Sh K H (jD T) v)(hq:Quad T n)(hi:i<n)(q:∀ b,SqT K H b ((T.getD i []).map V.int)→Q (.ref b) H):bS K v (.int (i:Int)) H Q:=by
 obtain ⟨a,rs,rfl,ha,hl,g⟩:=hS.tab
 obtain ⟨row,e1,e2,e3⟩:=hq.get hi
 obtain ⟨b,hb,hs⟩:=g i row e1
 exact ixT ha hb (q b (by rw [e3];exact hs))
theorem fA {σ:St}{t si sj:Nat}{v:V}{i j:Nat}{Q:VK}(ht:σ[t]?=some (some v))(hi:σ[si]?=some (some (.int (i:Int))))(hj:σ[sj]?=some (some (.int (j:Int))))(hS:Sh K H (jD T) v)(hq:Quad T n)(li:i<n)(lj:j<n)
  (q:Q (.int (at2 T i j)) H):tOp (bS K) (tOp (bS K) (aD t) (aD si)) (aD sj) σ H Q:=by
 refine ⟨_,ht,_,hi,zH hS hq li fun b hb=>⟨_,hj,ixT hb ?_ q⟩⟩
 obtain ⟨row,e1,e2,e3⟩:=hq.get li
 rw [List.getElem?_map,jL (by rw [e3];omega)]
 rfl
end
theorem kH {acc:Addr}{H H2:Hp}{o:HO}(hacc:H acc=none)(sx:SameX acc (upd H acc o) H2):Same H H2:=fun b u e=>sx b u (aL e hacc) (by rw [aO (aL e hacc)];exact e)
theorem Emits.mono {vars vars':List Nat}{tb:TS}{acc:Addr}{σ:St}{H:Hp}{L:List V}(h:Emits vars tb acc σ H L)(hs:∀ k∈vars,k∈vars'):Emits vars' tb acc σ H L:=
 fun D pre ha hz hd=>h D pre ha hz fun σ' H' hl ag sx h2=>hd σ' H' hl (fun k hk=>ag k fun z=>hk (hs k z)) sx h2
theorem Emits.cast {vars:List Nat}{tb:TS}{acc:Addr}{σ:St}{H:Hp}{L L':List V}(h:Emits vars tb acc σ H L)(e:L=L'):Emits vars tb acc σ H L':=e ▸ h
theorem sV (vars:List Nat)(L:List V){g:TG}{J:It}{tb:TS}{acc:Addr}{σ:St}{H:Hp}{D:lG}(ha:H acc=none)(hz:L.length≤1000000)(h:Emits vars (jM J g tb) acc σ (upd H acc (.lst [])) L)
  (q:∀ σ' H',Same H H'→H' acc=some (.lst L)→D.nx σ' H'):jM J g tb D σ (upd H acc (.lst [])):=
 h _ [] aE (by simpa using hz) fun σ' H' _ _ sx h2=>q σ' H' (kH ha sx) (by simpa using h2)
theorem cJ {α:Type}(f:Nat→List α)(c:Nat):∀ n,(∀ i,i<n→(f i).length≤c)→((List.range n).flatMap f).length≤n*c
 | 0,_=>by simp
 | n+1,h=>by
  rw [cC,List.length_append,Nat.add_mul,Nat.one_mul]
  have:=cJ f c n fun i hi=>h i (by omega)
  have:=h n (by omega)
  omega
theorem rY {α β:Type}(g:α→β)(f:Nat→List α)(l:List Nat):(l.flatMap f).map g=l.flatMap fun i=>(f i).map g:=by
 induction l with
 | nil=>rfl
 | cons x r ih=>rw [List.flatMap_cons,List.map_append,ih,List.flatMap_cons]
theorem mV {α:Type}(p:α→Bool)(f:Nat→List α)(l:List Nat):(l.flatMap f).all p=l.all fun i=>(f i).all p:=by
 induction l with
 | nil=>rfl
 | cons x r ih=>rw [List.flatMap_cons,List.all_append,ih,List.all_cons]
end L2
namespace L2
open PySem
section
variable {vars:List Nat}{tb:TS}{acc a:Addr}{σ:St}{H:Hp}{j:Nat}{D:lG}{K:PySem.W.Frag}
theorem nY {lo:Int}{n:Nat}(R:Nat→List V→Hp→Prop)(hj:j∈vars)(hjl:j<σ.length)(h0:R 0 [] (upd H acc (.lst [])))(ha:H acc=none)
  (h:∀ i σ' H' L (D:lG),i<n→σ'.length=σ.length→Agree vars σ σ'→σ'[j]?=some (some (.int (lo+(i:Int))))→Same H H'→H' acc=some (.lst L)→R i L H' →
   (∀ σ'' H'' L',σ''.length=σ.length→Agree vars σ σ''→Same H H''→H'' acc=some (.lst L')→R (i+1) L' H''→D.nx σ'' H'')→tb D σ' H')
  (q:∀ σ' H' L,Same H H'→H' acc=some (.lst L)→R n L H'→D.nx σ' H'):jM (Itr lo n) (aJ j) tb D σ (upd H acc (.lst [])):=by
 refine bV (lo:=lo) (n:=n) (g:=aJ j) (D:=D) (fun i σ' H'=>i≤n∧σ'.length=σ.length∧Agree vars σ σ'∧Same H H'∧∃ L,H' acc=some (.lst L)∧R i L H') ⟨Nat.zero_le _,rfl,Agree.refl _ _,aM ha _,[],aE,h0⟩ (fun i σ1 H1 hi ⟨_,hl1,ag1,sx1,L,h1,r1⟩=>?_) fun σ1 H1 ⟨_,_,_,sm,L,h1,r1⟩=>q σ1 H1 L sm h1 r1
 exact h i (σ1.set j (some (.int (lo+(i:Int))))) H1 L _ hi (by rw [List.length_set];exact hl1) (ag1.trans (Agree.set hj _)) (oS (by omega)) sx1 h1 r1 fun σ2 H2 L' hl2 ag2 sm2 h2 r2=>⟨hi,hl2,ag2,sm2,L',h2,r2⟩
theorem uB {xs:List V}(R:Nat→List V→Hp→Prop)(hj:j∈vars)(hjl:j<σ.length)(h0:R 0 [] (upd H acc (.lst [])))(ha:H acc=none)(hs:∀ i L H',Same H H'→R i L H'→SqL K H' a xs)
  (h:∀ i x σ' H' L (D:lG),xs[i]?=some x→σ'.length=σ.length→Agree vars σ σ'→σ'[j]?=some (some x)→Same H H'→H' acc=some (.lst L)→R i L H' →
   (∀ σ'' H'' L',σ''.length=σ.length→Agree vars σ σ''→Same H H''→H'' acc=some (.lst L')→R (i+1) L' H''→D.nx σ'' H'')→tb D σ' H')
  (q:∀ σ' H' L,Same H H'→H' acc=some (.lst L)→R xs.length L H'→D.nx σ' H'):jM (Itl K a) (aJ j) tb D σ (upd H acc (.lst [])):=by
 refine uF (K:=K) (a:=a) (xs:=xs) (g:=aJ j) (D:=D) (fun i σ' H'=>i≤xs.length∧σ'.length=σ.length∧Agree vars σ σ'∧Same H H'∧∃ L,H' acc=some (.lst L)∧R i L H') ⟨Nat.zero_le _,rfl,Agree.refl _ _,aM ha _,[],aE,h0⟩ (fun i σ1 H1 _ ⟨_,_,_,sm,L,_,r1⟩=>hs i L H1 sm r1) (fun i x σ1 H1 hx ⟨_,hl1,ag1,sx1,L,h1,r1⟩=>?_) fun σ1 H1 ⟨_,_,_,sm,L,h1,r1⟩=>q σ1 H1 L sm h1 r1
 have hi:i<xs.length:=(List.getElem?_eq_some_iff.mp hx).1
 exact h i x (σ1.set j (some x)) H1 L _ hx (by rw [List.length_set];exact hl1) (ag1.trans (Agree.set hj _)) (oS (by omega)) sx1 h1 r1 fun σ2 H2 L' hl2 ag2 sm2 h2 r2=>⟨hi,hl2,ag2,sm2,L',h2,r2⟩
theorem sZ {xs:List V}(R:Nat→List V→Hp→Prop)(hj:j∈vars)(hjl:j<σ.length)(h0:R 0 [] (upd H acc (.lst [])))(ha:H acc=none)(hs:SqT K H a xs)
  (h:∀ i x σ' H' L (D:lG),xs[i]?=some x→σ'.length=σ.length→Agree vars σ σ'→σ'[j]?=some (some x)→Same H H'→H' acc=some (.lst L)→R i L H' →
   (∀ σ'' H'' L',σ''.length=σ.length→Agree vars σ σ''→Same H H''→H'' acc=some (.lst L')→R (i+1) L' H''→D.nx σ'' H'')→tb D σ' H')
  (q:∀ σ' H' L,Same H H'→H' acc=some (.lst L)→R xs.length L H'→D.nx σ' H'):jM (Itt K a) (aJ j) tb D σ (upd H acc (.lst [])):=by
 refine nD (K:=K) (a:=a) (xs:=xs) (g:=aJ j) (D:=D) (fun i σ' H'=>i≤xs.length∧σ'.length=σ.length∧Agree vars σ σ'∧Same H H'∧∃ L,H' acc=some (.lst L)∧R i L H') ⟨Nat.zero_le _,rfl,Agree.refl _ _,aM ha _,[],aE,h0⟩ (fun i σ1 H1 _ ⟨_,_,_,sm,L,_,r1⟩=>sm.tup hs) (fun i x σ1 H1 hx ⟨_,hl1,ag1,sx1,L,h1,r1⟩=>?_) fun σ1 H1 ⟨_,_,_,sm,L,h1,r1⟩=>q σ1 H1 L sm h1 r1
 have hi:i<xs.length:=(List.getElem?_eq_some_iff.mp hx).1
 exact h i x (σ1.set j (some x)) H1 L _ hx (by rw [List.length_set];exact hl1) (ag1.trans (Agree.set hj _)) (oS (by omega)) sx1 h1 r1 fun σ2 H2 L' hl2 ag2 sm2 h2 r2=>⟨hi,hl2,ag2,sm2,L',h2,r2⟩
end
structure Mat (H:Hp)(F:Addr)(ls:List Addr)(M:List (List Int)):Prop where
 top:H F=some (.lst (ls.map V.ref))
 len:ls.length=M.length
 row:∀ (i:Nat) (l:Addr) (r:List Int),ls[i]?=some l→M[i]?=some r→H l=some (.lst (r.map V.int))
 nd:ls.Nodup
 out:F∉ls
theorem Mat.same {H H':Hp}{F:Addr}{ls:List Addr}{M:List (List Int)}(m:Mat H F ls M)(e:Same H H'):Mat H' F ls M:=⟨e _ _ m.top,m.len,fun i l r a b=>e _ _ (m.row i l r a b),m.nd,m.out⟩
theorem Mat.keep {H H':Hp}{F:Addr}{ls:List Addr}{M:List (List Int)}(m:Mat H F ls M)(e:∀ b o,(b=F∨b∈ls)→H b=some o→H' b=some o):Mat H' F ls M:=
 ⟨e _ _ (.inl rfl) m.top,m.len,fun i l r a b=>e _ _ (.inr (List.mem_of_getElem? a)) (m.row i l r a b),m.nd,m.out⟩
noncomputable def sO (M:List (List Int)) (i j:Nat) (v:Int):List (List Int):=M.set i ((M.getD i []).set j v)
theorem iH {M:List (List Int)}{n i j:Nat}{v:Int}(q:Quad M n)(hi:i<n):Quad (sO M i j v) n:=by
 refine ⟨by unfold sO;rw [List.length_set];exact q.len,fun r hr=>?_⟩
 unfold sO at hr
 rcases List.mem_or_eq_of_mem_set hr with h | h
 ·exact q.row r h
 ·obtain ⟨row,e1,e2,e3⟩:=q.get hi
  rw [h,List.length_set,e3];exact e2
theorem eW {M:List (List Int)}{n i j:Nat}{v:Int}(q:Quad M n)(hi:i<n)(hj:j<n)(a b:Nat):at2 (sO M i j v) a b=if a=i∧b=j then v else at2 M a b:=by
 obtain ⟨row,e1,e2,e3⟩:=q.get hi
 unfold at2 sO
 by_cases ha:a=i
 ·subst ha
  have:(M.set a ((M.getD a []).set j v)).getD a []=(M.getD a []).set j v:=by
   rw [List.getD_eq_getElem?_getD,List.getElem?_set_self (by rw [q.len];exact hi)];rfl
  rw [this,e3]
  by_cases hb:b=j
  ·subst hb
   rw [if_pos ⟨rfl,rfl⟩,List.getD_eq_getElem?_getD,List.getElem?_set_self (by omega)];rfl
  ·rw [if_neg (fun z=>hb z.2),List.getD_eq_getElem?_getD,List.getElem?_set_ne (Ne.symm hb),← List.getD_eq_getElem?_getD]
 ·have:(M.set i ((M.getD i []).set j v)).getD a []=M.getD a []:=by
   rw [List.getD_eq_getElem?_getD,List.getElem?_set_ne (Ne.symm ha),← List.getD_eq_getElem?_getD]
  rw [this,if_neg (fun z=>ha z.1)]
theorem Mat.at {K:PySem.W.Frag}{H:Hp}{F:Addr}{ls:List Addr}{M:List (List Int)}{n i:Nat}(m:Mat H F ls M)(q:Quad M n)(hi:i<n):∃ l,ls[i]?=some l∧(ls.map V.ref)[i]?=some (.ref l)∧H l=some (.lst ((M.getD i []).map V.int)):=by
 obtain ⟨row,e1,e2,e3⟩:=q.get hi
 have hl:i<ls.length:=by rw [m.len,q.len];exact hi
 refine ⟨ls[i],List.getElem?_eq_getElem hl,by rw [List.getElem?_map,List.getElem?_eq_getElem hl];rfl,?_⟩
 rw [e3]
 exact m.row i _ row (List.getElem?_eq_getElem hl) e1
theorem Mat.put {H:Hp}{F:Addr}{ls:List Addr}{M:List (List Int)}{n i j:Nat}{v:Int}{l:Addr}(m:Mat H F ls M)(q:Quad M n)(hi:i<n)(hl:ls[i]?=some l):Mat (upd H l (.lst (((M.getD i []).set j v).map V.int))) F ls (sO M i j v):=by
 have hm:l∈ls:=List.mem_of_getElem? hl
 have hF:F≠l:=fun e=>m.out (e ▸ hm)
 refine ⟨by rw [aO hF];exact m.top,by unfold sO;rw [List.length_set];exact m.len,fun a b r h1 h2=>?_,m.nd,m.out⟩
 by_cases ha:a=i
 ·subst ha
  rw [hl] at h1
  cases h1
  rw [aE]
  unfold sO at h2
  rw [List.getElem?_set_self (by rw [q.len];exact hi)] at h2
  cases h2
  rfl
 ·have hne:b≠l:=by
   intro e
   subst e
   obtain ⟨i1,z1⟩:=List.getElem?_eq_some_iff.mp h1
   obtain ⟨i2,z2⟩:=List.getElem?_eq_some_iff.mp hl
   exact ha ((List.getElem_inj m.nd).mp (z1.trans z2.symm))
  rw [aO hne]
  unfold sO at h2
  rw [List.getElem?_set_ne (Ne.symm ha)] at h2
  exact m.row a b r h1 h2
theorem oV {K:PySem.W.Frag}{H:Hp}{F:Addr}{ls:List Addr}{M:List (List Int)}{n i j t si sj:Nat}{σ:St}{Q:VK}(m:Mat H F ls M)(q:Quad M n)(ht:σ[t]?=some (some (.ref F)))(hi:σ[si]?=some (some (.int (i:Int))))(hj:σ[sj]?=some (some (.int (j:Int))))(li:i<n)(lj:j<n)
  (h:Q (.int (at2 M i j)) H):tOp (bS K) (tOp (bS K) (aD t) (aD si)) (aD sj) σ H Q:=by
 obtain ⟨l,h1,h2,h3⟩:=m.at (K:=K) q li
 refine ⟨_,ht,_,hi,ixL (.of m.top) h2 ⟨_,hj,ixL (.of h3) ?_ h⟩⟩
 obtain ⟨row,e1,e2,e3⟩:=q.get li
 rw [List.getElem?_map,jL (by rw [e3];omega)]
 rfl
theorem pJ {K:PySem.W.Frag}{H:Hp}{F:Addr}{ls:List Addr}{M:List (List Int)}{n i j t si sj:Nat}{σ:St}{v:Int}{N:St→Hp→Prop}(m:Mat H F ls M)(q:Quad M n)(ht:σ[t]?=some (some (.ref F)))(hi:σ[si]?=some (some (.int (i:Int))))(hj:σ[sj]?=some (some (.int (j:Int))))(li:i<n)(lj:j<n)
  (h:∀ l H',l∈ls→H'=upd H l (.lst (((M.getD i []).set j v).map V.int))→Mat H' F ls (sO M i j v)→N σ H'):qP (tOp (bS K) (aD t) (aD si)) (aD sj) gR (.int v) σ H N:=by
 obtain ⟨l,h1,h2,h3⟩:=m.at (K:=K) q li
 obtain ⟨row,e1,e2,e3⟩:=q.get li
 refine ⟨_,ht,_,hi,ixL (.of m.top) h2 ⟨_,hj,l,_,(j:Int),j,rfl,rfl,h3,?_,?_⟩⟩
 rotate_left
 ·rw [← List.map_set]
  exact h l _ (List.mem_of_getElem? h1) rfl (m.put q li h1)
 rw [List.length_map,e3,e2]
 unfold ixN
 rw [if_pos (by omega),if_pos (by omega),Int.toNat_natCast]
end L2
namespace L2
open PySem
theorem nR {K:PySem.W.Frag}{σ:St}{H:Hp}{t n:Nat}{F:Addr}{ls:List Addr}{M:List (List Int)}{Q:VK}(ht:σ[t]?=some (some (.ref F)))(m:Mat H F ls M)(q:Quad M n)(hn:n≤100)(h:∀ p H',Same H H'→Sh K H' (jD M) (.ref p)→Q (.ref p) H') :
  tCB (dZ K) (aC (eC [none] (pQ K (aD t)) (aJ 0) [] fun acc=>dX (tCB (dZ K) (aC (aD 0) aU)) acc) aU) σ H Q:=by
 refine ⟨_,ht,F,rfl, .inl ⟨⟨_, .of m.top⟩,fun acc hacc=>?_⟩⟩
 have hlen:(ls.map V.ref).length=n:=by rw [List.length_map,m.len,q.len]
 refine uB (vars:=[0]) (K:=K) (a:=F) (xs:=ls.map V.ref) (fun i L H'=>L.length=i∧∀ (j:Nat) (row:List Int),j<i→M[j]?=some row→∃ b,L[j]?=some (.ref b)∧H' b=some (.tup (row.map V.int))) (by decide) (by show 0<1;decide) ⟨rfl,fun j row hj=>absurd hj (Nat.not_lt_zero _)⟩ hacc (fun i L H' sm _ => .of (sm _ _ m.top)) (fun i x σ1 H1 L D hx l1 ag1 s1 sm1 ha1 ⟨r1,r2⟩ hD=>?_) fun σ1 H1 L sm1 ha1 ⟨r1,r2⟩=>?_
 ·have hi:i<n:=by rw [← hlen];exact (List.getElem?_eq_some_iff.mp hx).1
  have hil:i<ls.length:=by rw [m.len,q.len];exact hi
  obtain ⟨row,e1,e2,e3⟩:=q.get hi
  have ex:x = .ref ls[i]:=by
   rw [List.getElem?_map,List.getElem?_eq_getElem hil] at hx
   simpa using hx.symm
  subst ex
  have hrow:=m.row i _ row (List.getElem?_eq_getElem hil) e1
  refine ⟨_,s1,ls[i],row.map V.int,rfl, .inl ⟨.of (sm1 _ _ hrow),fun p hp=>?_⟩⟩
  have hpa:p≠acc:=fun e=>by rw [e,ha1] at hp;cases hp
  refine ⟨L,by rw [aO (Ne.symm hpa)];exact ha1,Nat.lt_of_le_of_lt (show L.length≤100 by omega) (by decide),?_⟩
  refine hD σ1 _ (L++[.ref p]) l1 ag1 (fun b o e=>?_) aE ⟨by rw [List.length_append,r1];rfl,fun j row' hj e=>?_⟩
  ·have hb:b≠acc:=aL e hacc
   rw [aO hb,aO (aL (sm1 _ _ e) hp)]
   exact sm1 _ _ e
  ·by_cases hji:j<i
   ·obtain ⟨b,g1,g2⟩:=r2 j row' hji e
    refine ⟨b,by rw [List.getElem?_append_left (by omega)];exact g1,?_⟩
    have hb:b≠acc:=ne_of g2 ha1 (fun z=>nomatch z)
    rw [aO hb,aO (aL g2 hp)]
    exact g2
   ·have:j=i:=by omega
    subst this
    rw [e1] at e
    cases e
    refine ⟨p,by rw [List.getElem?_append_right (by omega),r1];simp,?_⟩
    rw [aO hpa]
    exact aE
 ·refine ⟨acc,L,rfl, .inl ⟨.of ha1,fun p hp=>?_⟩⟩
  have sm2:Same H (upd H1 p (.tup L)):=sm1.trans (aM hp _)
  refine h p _ sm2 ⟨p,L,rfl, .of aE,ShL.of_rows (by rw [r1,hlen,q.len]) fun i row e=>?_⟩
  have hi:i<n:=by rw [← q.len];exact (List.getElem?_eq_some_iff.mp e).1
  obtain ⟨b,g1,g2⟩:=r2 i row (by omega) e
  exact ⟨b,g1, .of (by rw [aO (aL g2 hp)];exact g2)⟩
end L2
namespace L2
open PySem
section
variable {K:PySem.W.Frag}{H:Hp}
end
theorem aAG (ns:List Int)(lo hi:Option Int):∃ ms:List Int,mO (ns.map V.int) lo hi=ms.map V.int∧ms.length≤ns.length:=by
 refine ⟨(ns.drop (HT.sIx ns.length 0 lo)).take (HT.sIx ns.length ns.length hi - HT.sIx ns.length 0 lo),?_,?_⟩
 ·unfold mO
  rw [List.length_map,List.map_take,List.map_drop]
 ·rw [List.length_take,List.length_drop];omega
end L2
namespace L2
open PySem
end L2
namespace L2
open PySem PySem.Spec PyProof.Rows
section
variable {X:Cx}
theorem kW {prog:Program}{w:World}{A:Around}{E:Value→Shared→Prop}{s:Shared}{t sl:Addr}{items:Array Value}{vl vu:Value}{lo hi:Option Int}{Q:Value→Shared→Prop}(ht:IsTup s.heap t items)(hs:s.heap.IsSliceOf sl vl vu .none)(pl:IsPart vl lo)(pu:IsPart vu hi)
  (hw:HT.sIx items.size 0 lo=0∧HT.sIx items.size items.size hi=items.size) (h:Q (.ref t) s):wpAny (model prog w) A (getItem (.ref t) (.ref sl)) Q E s:=by
 obtain ⟨os,hos,hcs,hds⟩:=id hs
 have hTs:s.TypeIs (.ref sl) "slice":=⟨os,hos,hcs⟩
 unfold getItem
 try with_reducible refine wpAny_holding ?_
 first | refine wpAny_bind (wpAny_pure ?_) | skip
 refine wpAny_bind (wpAny_sequenceKey ht.typeIs (by decide) ?_)
 refine wpAny_bind (wpAny_callSpecial?_slot (name:=Str.ofString "__getitem__") ht.typeIs PyProof.Rows.slot_tuple_getitem
  (wpAny_call_entry PyProof.Rows.slot_tuple_getitem ht.typeIs entry_tuple_getitem ?_ (args_tuple_getitem _ _)))
 show wpAny _ _ (Builtin.Tuple.tupleItemsOf (.ref t) >>= _) _ _ s
 refine wpAny_bind (tupleItemsOf_ ht ?_)
 refine wpAny_bind (wpAny_typeOf hTs ?_)
 rw [if_pos (by decide)]
 refine wpAny_bind (HT.sliceApplied_gen hs pl pu ?_)
 rw [hw.1,hw.2]
 have hyes:((((0:Nat):Int) == 0 && (1:Int) == 1 && (items.size - 0) == items.size)=true):=by simp
 show wpAny _ _ (if (((0:Nat):Int) == 0 && (1:Int) == 1 && (items.size - 0) == items.size)=true then _ else _) _ _ s
 rw [if_pos hyes]
 unfold Builtin.Tuple.tupleIsExact
 refine wpAny_bind (wpAny_bind (wpAny_typeOf ht.typeIs (wpAny_pure ?_)))
 rw [if_pos (show (Value.type "tuple" == Value.type "tuple")=true by rfl)]
 exact wpAny_bind (wpAny_rule (wpAny_pure ⟨_,rfl,wpAny_pure h⟩))
noncomputable def aFL (K:PySem.W.Frag):V→Option Int→Option Int→Hp→VK→Prop:=fun x lo hi H Q=>∃ a xs,x = .ref a∧SqT K H a xs∧∀ p H',Same H H'→SqT K H' p (mO xs lo hi)→Q (.ref p) H'
theorem aBD:SlR X (aFL X.K):=by
 intro pins s σ H x v vl vu lo hi sl Q I rx hs pl pu h
 obtain ⟨a,xs,rfl,hx,q⟩:=h
 by_cases hw:HT.sIx xs.length 0 lo=0∧HT.sIx xs.length xs.length hi=xs.length
 ·obtain rfl:v=Value.ref a:=rx
  obtain ⟨its,rv,p,hz⟩:=I.tuple hx
  have hl:=rv.length
  have ec:mO xs lo hi=xs:=by unfold mO;rw [hw.1,hw.2,List.drop_zero,Nat.sub_zero,List.take_length]
  refine ⟨"tuple",_,PyProof.Rows.slot_tuple_getitem.lookup,p.typeIs,?_⟩
  refine kW p hs pl pu (by simp only [List.size_toArray,← hl];exact hw) ?_
  exact ⟨.ref a,H,I,rfl,q a H (Same.refl H) (by rw [ec];exact hx)⟩
 ·exact aCQ (X:=X) pins s σ H (.ref a) v vl vu lo hi sl Q I rx hs pl pu ⟨a,xs,rfl,hx,hw,fun p hp=>q p _ (aM hp _) (.of aE)⟩
noncomputable abbrev aEV (K:PySem.W.Frag):V→Option Int→Option Int→Hp→VK→Prop:=fun x lo hi H Q=>aFW K x lo hi H Q∨aFL K x lo hi H Q
theorem aDR {K:PySem.W.Frag}(hK:X.K=K):SlR X (aEV K):=by subst hK;exact aBF.or aBD
end
section
variable {prog:Program}{w:World}{A:Around}{E:Value→Shared→Prop}{s:Shared}
theorem wL {l:Addr}{ob:Obj}{n:Nat}{T:String}{us:List Value}{Q:List Value→Shared→Prop}(e0:s.heap.get? l=some ob)(ec:ob.cls = .type T)(eT:T="list"∨T="tuple")(ed:ob.data = .seq us.toArray n)
  (q:Q us { s with heap:=(s.heap.push (seqObj "list" #[] 0)).update s.heap.objs.size (Obj.mapSeq (· ++ us.toArray)) }) (z:us.length≤sizeLine):wpAny (model prog w) A (collect (.ref l)) Q E s:=by
 unfold collect
 refine wpAny_bind (wpAny_runValue (codeAny_builtin entry_proto_collect' ?g1))
 case g1=>
  show wpAny _ _ (do again (.builtin "list.__iadd__" ⟨[← newList [],Value.ref l],[]⟩)) _ _ s
  refine wpAny_bind (wpAny_newList (wpAny_pure ⟨Code.quiet_builtin _ (by decide +kernel),codeAny_builtin entry_list_iadd' ?g2⟩))
  case g2=>
   have e1:(s.heap.push (seqObj "list" #[] 0)).get? l=some ob:=Heap.get?_push_of_some _ e0
   show wpAny _ _ (Builtin.List.listExtendWith (Value.ref s.heap.objs.size) (Value.ref l) (Value.ref s.heap.objs.size)) _ _ { s with heap:=s.heap.push (seqObj "list" #[] 0) }
   unfold Builtin.List.listExtendWith
   refine wpAny_bind (wpAny_typeOf (T:=T) ⟨ob,e1,ec⟩ ?g3)
   case g3=>
    have ht:((Value.type T == Value.type "list") || (Value.type T == Value.type "tuple"))=true:=by rcases eT with rfl | rfl <;> rfl
    rw [if_pos (by first | exact ht | (rcases eT with rfl | rfl <;> simp))]
    refine wpAny_bind (listItems_at e1 ed (wpAny_bind (listItems_at (xs:=#[]) (n:=0) (Heap.get?_push_size _ rfl) rfl ?g4)))
    case g4=>
     rw [if_neg (by simp)]
     refine wpAny_bind (listUpdate_at (xs:=#[]) (n:=0) (Heap.get?_push_size _ rfl) rfl ?g5 (Nat.zero_le _) (by show (#[]++us.toArray).size≤sizeLine+1;simp only [Array.size_append,List.size_toArray,List.length_nil];omega))
     case g5=>
      refine wpAny_pure ?g6
      case g6=>
       show wpAny (model prog w) A (load s.heap.objs.size >>= fun o=>match o.data with | .seq xs _=>pure xs.toList | _=>unsupported "internal:collect") Q E { s with heap:=(s.heap.push (seqObj "list" #[] 0)).update s.heap.objs.size (Obj.mapSeq (· ++ us.toArray)) }
       refine wpAny_bind (wpAny_load (get?_update_seq (Heap.get?_push_size _ rfl) _) ?g7)
       case g7=>
        show wpAny _ _ (pure ((#[]:Array Value)++us.toArray).toList) Q E _
        rw [show ((#[]:Array Value)++us.toArray).toList=us by simp]
        exact wpAny_pure q
end
end L2
namespace L2
open PySem PySem.Spec PyProof.Rows
theorem IntsAre.len:∀ {ns:List Int} {us:List Value},IntsAre us ns→us.length=ns.length
 | [],_,h=>by cases h;rfl
 | n :: ns,_,h=>by
  cases h with
  | cons _ t h=>rw [List.length_cons,List.length_cons,IntsAre.len h]
mutual
noncomputable def toP:Dt→PyData
 | .non => .none
 | .bl b => .bool b
 | .int i => .int i
 | .str x => .str x
 | .tup ds => .tuple (wT ds)
 | .lst ds => .list (wT ds)
noncomputable def wT:List Dt→List PyData
 | []=>[]
 | d :: ds=>toP d :: wT ds
end
mutual
theorem aCj:∀ d,(toP d).depth=dep d
 | .non=>rfl
 | .bl b=>rfl
 | .int i=>rfl
 | .str x=>rfl
 | .tup ds=>by show (PyData.tuple (wT ds)).depth=_;unfold PyData.depth dep;rw [qB]
 | .lst ds=>by show (PyData.list (wT ds)).depth=_;unfold PyData.depth dep;rw [qB]
theorem qB:∀ ds,PyData.depthAll (wT ds)=oH ds
 | []=>by unfold wT oH PyData.depthAll;rfl
 | d :: ds=>by unfold wT oH PyData.depthAll;rw [aCj,qB]
end
mutual
theorem vU:∀ d,(toP d).hasDict=false
 | .non=>by unfold toP PyData.hasDict;rfl
 | .bl b=>by unfold toP PyData.hasDict;rfl
 | .int i=>by unfold toP PyData.hasDict;rfl
 | .str x=>by unfold toP PyData.hasDict;rfl
 | .tup ds=>by unfold toP PyData.hasDict;exact jR ds
 | .lst ds=>by unfold toP PyData.hasDict;exact jR ds
theorem jR:∀ ds,PyData.hasDictAll (wT ds)=false
 | []=>by unfold wT PyData.hasDictAll;rfl
 | d :: ds=>by unfold wT PyData.hasDictAll;rw [vU,jR];rfl
end
section
variable {X:Cx}{pins:List (Addr × Obj)}{σ:St}{H:Hp}{s:Shared}
mutual
theorem Inv.reads (I:Inv X pins σ H s):∀ {d:Dt} {x:V} {v:Value},RelV x v→Sh X.K H d x→∃ as,Reads s.heap v (toP d) as
 | .non,x,v,r,h=>by obtain rfl:x = .non:=h;obtain rfl:v = .none:=r;exact ⟨_, .none⟩
 | .bl b,x,v,r,h=>by obtain rfl:x = .bl b:=h;obtain rfl:v = .bool b:=r;exact ⟨_, .bool b⟩
 | .int i,x,v,r,h=>by obtain rfl:x = .int i:=h;obtain ⟨t,rfl⟩:=r;exact ⟨_, .int i t⟩
 | .str y,x,v,r,h=>by obtain rfl:x = .str y:=h;obtain ⟨t,rfl⟩:=r;exact ⟨_, .str y t⟩
 | .tup ds,x,v,r,⟨a,xs,h1,h2,h3⟩=>by
  subst h1
  obtain rfl:v=Value.ref a:=r
  obtain ⟨its,rv,⟨o,ho,hc,n,hd⟩,_⟩:=I.tuple h2
  obtain ⟨as,ha⟩:=Inv.readsAll I rv h3
  exact ⟨_, .tuple ho hc hd ha⟩
 | .lst ds,x,v,r,⟨a,xs,h1,h2,h3⟩=>by
  subst h1
  obtain rfl:v=Value.ref a:=r
  obtain ⟨its,rv,pl,_⟩:=I.list h2
  obtain ⟨o,ho,hc,n,hd⟩:=pl.isList
  obtain ⟨as,ha⟩:=Inv.readsAll I rv h3
  exact ⟨_, .list ho hc hd ha⟩
theorem Inv.readsAll (I:Inv X pins σ H s):∀ {ds:List Dt} {xs:List V} {us:List Value},Vals xs us→ShL X.K H ds xs→∃ as,ReadsAll s.heap us (wT ds) as
 | [],xs,us,r,h=>by obtain rfl:xs=[]:=h;cases r;exact ⟨_, .nil⟩
 | d :: ds,xs,us,r,⟨x,t,h1,h2,h3⟩=>by
  subst h1
  cases r with
  | cons r1 r2=>
   obtain ⟨as,h4⟩:=Inv.reads I r1 h2
   obtain ⟨bs,h5⟩:=Inv.readsAll I r2 h3
   exact ⟨_, .cons h4 h5⟩
end
end
noncomputable def okR (d:Dt):Prop:=(toP d).showable=true∧(toP d).leavesShort 1930=true∧(toP d).bulk≤4000∧dep d≤100
end L2
namespace L2
open PySem PySem.Spec PyProof.Rows
noncomputable def ItAt (b:Bool) (h:Heap) (it l:Addr) (i:Nat):Prop:=∃ o,h.get? it=some o∧o.cls = .type (if b then "list_iterator" else "tuple_iterator")∧o.data = .fields #[.ref l, .int i 0]
theorem ItAt.lt {b:Bool}{h:Heap}{it l:Addr}{i:Nat}(x:ItAt b h it l i):it<h.objs.size:=let ⟨_,ho,_⟩:=x;Heap.lt_size ho
section
variable {prog:Program}{w:World}{A:Around}{E:Value→Shared→Prop}{s:Shared}
end
end L2
namespace L2
open PySem PySem.Spec PyProof.Rows
section
variable {X:Cx}{pins:List (Addr × Obj)}{σ:St}{H:Hp}{s:Shared}{h':Heap}
theorem Inv.turnedL {t':Nat}{ch:List Addr}(I:Inv X pins σ H s)(hf:∀ b∈ch,sS X pins H b)(k:∀ b o,b∉ch→s.heap.get? b=some o→h'.get? b=some o):Inv X pins σ H { s with heap:=h',toks:=t' }:=by
 have nit:∀ b u,H b=some u→b∉ch:=fun b u e z=>by rw [(hf b z).1] at e;cases e
 refine I.step (g':=s.gens) (d':=s.drawn) (ch:=ch) (fun b hb=>?_) (fun b o _ _ hc e _=>k b o hc e) (fun b o _ _ hc e _=>⟨o.slots,k b o hc e⟩) (fun _ _ _ _ n=>n) (fun b o hc e=>⟨o,k b o hc e⟩) (fun _ _ e=>e) (fun _ _ _ e=>e) (fun b ps e=>⟨#[],by rw [e];simp⟩) (fun m hm=>?_) (fun b u e=>?_) I.bare
 ·obtain ⟨_,f1,_,f3,f4,f5⟩:=hf b hb
  exact ⟨f3,f1,f4,f5⟩
 ·obtain ⟨o,es,ep,ho,r⟩:=hm
  exact ⟨o,es,ep,k _ o (fun z=>(hf _ z).2.1 rfl) ho,r⟩
 ·refine (I.hok b u e).stay (fun c v hc q=>k c v ?_ q) (fun _ q=>q) fun _ _ q=>q
  rcases hc with z | z
  ·rw [z];exact nit b u e
  ·exact nit c _ z
end
section
variable {X:Cx}{pins:List (Addr × Obj)}{σ:St}{H:Hp}{s:Shared}
end
structure aGb (mg:Str→Option Value):Prop extends Blt mg where
 zip:mg "zip" = none
 repr:mg "repr" = none
 enumerate:mg "enumerate" = none
 reversed:mg "reversed" = none
 str:mg "str" = none
end L2
namespace L2
open PySem PySem.Spec PyProof.Rows
section
variable {prog:Program}{w:World}{A:Around}{E:Value→Shared→Prop}{s:Shared}
end
theorem pC {X:Cx}{K:PySem.W.Frag}{o e:Expr}{es:List Expr}{to:TE}{t:TA}{name:Str}{apos cpos:Pos}{T id:String}{r:V→List V→Hp→VK→Prop}(hK:X.K=K)(pa:PlainAttrs T)(slot:Slot T name id)(hty:typeOf (.builtin id)=pure (.type "method_descriptor"))(hm:MtM X id r)(ho:PE X o to)(ha:PA X (e :: es) t)
  (b1:attributeBase o name X.env (eval o X.env)=eval o X.env:=by rfl)
  (b2:((backTo cpos (starEach (e :: es) X.env)).all (fun x=>!x.1) && (backToKw cpos (keywordEach [] X.env)).all (fun x=>x.1.isSome) && decide ((e :: es).length+([]:List Keyword).length+(if ([]:List Keyword).isEmpty then 0 else 1)<30))=true:=by rfl)
  (b3:(apos.endLine == cpos.line)=true:=by rfl) (b4:starEach (e :: es) X.env=(false,eval e X.env) :: starEach es X.env:=by rfl) (b5:(backTo cpos (starEach es X.env)).any (·.1)=false:=by rfl) :
  PE X (.Call (.Attribute o name apos) (e :: es) [] cpos) (tBM K T r to t):=by subst hK;exact aEM pa slot hty hm ho ha b1 b2 b3 b4 b5
noncomputable def zX:R2:=fun x y H Q=>(∃ a b,x = .bl a∧y = .bl b∧Q (.bl (!(a == b))) H)∨(y = .non∧Q (.bl (!decide (x = .non))) H)
theorem xX {X:Cx}:OpR X (compareOp .IsNot) zX:=by
 refine OpR.or (fun pins s σ H x y v u Q I rx ry h=>?g) aBE
 case g=>
 obtain ⟨a,b,rfl,rfl,q⟩:=h
 obtain rfl:v=Value.bool a:=rx
 obtain rfl:u=Value.bool b:=ry
 exact wpAny_isNot_plain (by cases a <;> cases b <;> rfl) (aBo I q (by cases a <;> cases b <;> rfl))
end L2
namespace L2
open PySem PySem.Spec PyProof.Rows
end L2
namespace L2
open PySem
noncomputable def fW (p:Nat):V := .int (p:Int)
theorem uU (ps:List Nat):ps.map fW=(ps.map fun p:Nat=>(p:Int)).map V.int:=by rw [List.map_map];rfl
theorem cE {c:Bool}{A B:Prop}(e:c=true)(h:A):if c=true then A else B:=by rw [if_pos e];exact h
theorem bW {c:Bool}{A B:Prop}(e:c=false)(h:B):if c=true then A else B:=by subst e;exact aFr h
theorem eD {K:PySem.W.Frag}{H:Hp}{a l:Addr}{xs ys:List V}{o:HO}(h:SqT K H a xs)(hl:H l=some (.lst ys)):SqT K (upd H l o) a xs:=by
 have key:∀ u,H a=some u→(∀ zs,u ≠ .lst zs)→upd H l o a=some u:=fun u e n=>by
  rw [aO]
  ·exact e
  ·intro z
   rw [z,hl] at e
   cases e
   exact n _ rfl
 rcases h with (h | ⟨u,h⟩) | h
 ·exact .inl (.inl (key _ h fun _ z=>by cases z))
 ·exact .inl (.inr ⟨u,key _ h fun _ z=>by cases z⟩)
 ·exact .inr h
theorem wA {fs ls:List Nat}{k:Nat}(hk:k<ls.length):((fs++[ls[k]])++ls.eraseIdx k).Perm (fs++ls):=by
 rw [List.append_assoc]
 refine List.Perm.append_left _ ?_
 have e:ls=ls.take k++ls[k] :: ls.drop (k+1):=by simp
 have e2:ls.eraseIdx k=ls.take k++ls.drop (k+1):=List.eraseIdx_eq_take_drop_succ _ _
 rw [e2]
 refine List.Perm.trans ?_ (List.Perm.of_eq e.symm)
 show (ls[k] :: (ls.take k++ls.drop (k+1))).Perm _
 exact List.perm_middle.symm
theorem aEP {k n:Nat}(h:k<n):seqIndex? (k:Int) n=some k:=by
 have e:seqIndex? (k:Int) n=if (decide (0≤(if (k:Int)<0 then (k:Int)+(n:Int) else (k:Int))) && decide ((if (k:Int)<0 then (k:Int)+(n:Int) else (k:Int))<(n:Int)))=true then some (if (k:Int)<0 then (k:Int)+(n:Int) else (k:Int)).toNat else none:=rfl
 rw [e]
 simp only [show ¬ (k:Int)<0 by omega,if_false]
 rw [if_pos (by simp;omega)]
 rfl
theorem qS {α β:Type}(f:α→β):∀ (l:List α) (k:Nat),(l.map f).eraseIdx k=(l.eraseIdx k).map f
 | [],_=>rfl
 | _ :: _,0=>rfl
 | a :: l,k+1=>by
  show f a :: (l.map f).eraseIdx k=f a :: (l.eraseIdx k).map f
  rw [qS f l k]
section
variable {K:PySem.W.Frag}{H:Hp}
end
theorem xR {c:Int}{n:Nat}(h:1≤n):∃ k:Nat,c % (n:Int)=(k:Int)∧k<n:=by
 have g0:=Int.emod_nonneg c (show (n:Int)≠0 by omega)
 have g1:=Int.emod_lt_of_pos c (show (0:Int)<(n:Int) by omega)
 obtain ⟨k,hk⟩:=Int.eq_ofNat_of_zero_le g0
 exact ⟨k,hk,by omega⟩
theorem lH {i j:Int}:(!eqD (.int i) (.int j)) = !decide (i=j):=by rw [eqD];rfl
noncomputable def Rows (K:PySem.W.Frag) (H:Hp) (xs:List V) (T:List (List Int)):Prop:=xs.length=T.length∧∀ (i:Nat) (row:List Int),T[i]?=some row→∃ b,xs[i]?=some (.ref b)∧SqT K H b (row.map V.int)
section
variable {K:PySem.W.Frag}{H H':Hp}{xs:List V}{T:List (List Int)}
theorem Rows.map (h:Rows K H xs T)(f:∀ b row,SqT K H b row→SqT K H' b row):Rows K H' xs T:=⟨h.1,fun i row e=>by
 obtain ⟨b,e1,e2⟩:=h.2 i row e
 exact ⟨b,e1,f _ _ e2⟩⟩
theorem Rows.same (h:Rows K H xs T)(e:Same H H'):Rows K H' xs T:=h.map fun _ _ s=>e.tup s
theorem Rows.put (h:Rows K H xs T){l:Addr}{ys:List V}{o:HO}(hl:H l=some (.lst ys)):Rows K (upd H l o) xs T:=h.map fun _ _ s=>eD s hl
theorem Rows.nil:Rows K H [] []:=⟨rfl,fun i row e=>by cases e⟩
theorem Rows.snoc (h:Rows K H xs T){b:Addr}{r:List Int}(hb:SqT K H b (r.map V.int)):Rows K H (xs++[.ref b]) (T++[r]):=by
 refine ⟨by rw [List.length_append,List.length_append,h.1];rfl,fun i row e=>?_⟩
 by_cases hi:i<T.length
 ·rw [List.getElem?_append_left hi] at e
  obtain ⟨b',e1,e2⟩:=h.2 i row e
  exact ⟨b',by rw [List.getElem?_append_left (by rw [h.1];exact hi)];exact e1,e2⟩
 ·rw [List.getElem?_append_right (by omega)] at e
  have:i - T.length=0:=by
   rcases hk:i - T.length with _ | k
   ·rfl
   ·rw [hk] at e;cases e
  rw [this] at e
  cases e
  exact ⟨b,by rw [List.getElem?_append_right (by rw [h.1];omega),h.1,this];rfl,hb⟩
end
end L2
namespace L2
open PySem PySem.Spec PyProof.Rows
section
variable {prog:Program}{w:World}{A:Around}{E:Value→Shared→Prop}{s:Shared}
end
end L2
namespace L2
open PySem
section
variable {X:Cx}{es:List Expr}{te:TE}{t:TA}
theorem aV {c:Const}{k:Nat}{p:Pos}(ha:PE X (.Constant c k p) te)(hr:PA X es t):PA X (.Constant c k p :: es) (aC te t):=cL ha hr
theorem aB {n:Str}{p:Pos}(ha:PE X (.Name n p) te)(hr:PA X es t):PA X (.Name n p :: es) (aC te t):=cL ha hr
theorem iR {l:List Expr}{k:Nat}{p:Pos}(ha:PE X (.Tuple l k p) te)(hr:PA X es t):PA X (.Tuple l k p :: es) (aC te t):=cL ha hr
theorem cG {a b:Expr}{o:Operator}{p:Pos}(ha:PE X (.BinOp a o b p) te)(hr:PA X es t):PA X (.BinOp a o b p :: es) (aC te t):=cL ha hr
theorem vE {a:Expr}{o:UnaryOp}{p:Pos}(ha:PE X (.UnaryOp o a p) te)(hr:PA X es t):PA X (.UnaryOp o a p :: es) (aC te t):=cL ha hr
theorem cK {a b:Expr}{p:Pos}(ha:PE X (.Subscript a b p) te)(hr:PA X es t):PA X (.Subscript a b p :: es) (aC te t):=cL ha hr
theorem bR {a:Expr}{l:List Expr}{kw:List Keyword}{p:Pos}(ha:PE X (.Call a l kw p) te)(hr:PA X es t):PA X (.Call a l kw p :: es) (aC te t):=cL ha hr
end
end L2
namespace L2
open PySem
mutual
noncomputable def zF:Dt→Bool
 | .tup ds=>decide (ds.length<64) && wH ds
 | .lst ds=>wH ds
 | _=>true
noncomputable def wH:List Dt→Bool
 | []=>true
 | d :: ds=>zF d && wH ds
end
noncomputable def okM (m e:Nat) (d:Dt):Prop:=(toP d).showable=true∧(toP d).leavesShort 1930=true∧(toP d).bulk≤m∧dep d≤e∧zF d=true
noncomputable def Am (K:PySem.W.Frag) (H:Hp) (m e:Nat) (x:V):Prop:=∃ d,Sh K H d x∧okM m e d
noncomputable def Goo (K:PySem.W.Frag) (H:Hp) (v:V):Prop:=∃ d,Sh K H d v∧okR d∧zF d=true
section
variable {K:PySem.W.Frag}{H H':Hp}
theorem Am.same {m e:Nat}{x:V}(s:Same H H'):Am K H m e x→Am K H' m e x:=fun ⟨d,h,o⟩=>⟨d,h.same s,o⟩
theorem Goo.same {v:V}(s:Same H H'):Goo K H v→Goo K H' v:=fun ⟨d,h,o⟩=>⟨d,h.same s,o⟩
noncomputable def Tu (K:PySem.W.Frag) (H:Hp) (m e k:Nat) (v:V):Prop:=∃ a xs,v = .ref a∧SqT K H a xs∧xs.length≤k∧∀ x∈xs,Am K H m e x
theorem Tu.same {m e k:Nat}{v:V}(s:Same H H'):Tu K H m e k v→Tu K H' m e k v:=fun ⟨a,xs,h1,h2,h3,h4⟩=>⟨a,xs,h1,s.tup h2,h3,fun x hx=>(h4 x hx).same s⟩
theorem aCA {xs:List V}{lo hi:Option Int}{x:V}(h:x∈mO xs lo hi):x∈xs:=List.mem_of_mem_drop (List.mem_of_mem_take h)
end
theorem uJ {c:Int}{n k:Nat}{H:Hp}{Q:VK}(h:1≤n)(e:c % (n:Int)=(k:Int))(q:Q (.int (k:Int)) H):pS (.int c) (.int (n:Int)) H Q:=⟨_,_,rfl,rfl,by omega,by show Q (.int (c % (n:Int))) H;rw [e];exact q⟩
end L2
namespace L2
open PySem PySem.Spec PyProof.Rows
inductive lU:List (Value × Value)→List (Int × Int)→Prop
 | nil:lU [] []
 | cons (a b:Int) (t u:Tok) {r:List (Value × Value)} {zs:List (Int × Int)}:lU r zs→lU ((.int a t, .int b u) :: r) ((a,b) :: zs)
noncomputable def aAJ (f:Bool):List (Int × Int)→Bool
 | []=>f
 | (a,b) :: r=>if a=b then aAJ f r else decide (a<b)
theorem qU {prog:Program}{w:World}{A:Around}{E:Value→Shared→Prop}{s:Shared}{a b:Int}{t u:Tok}{Q:Value→Shared→Prop}(h:Q (.bool (decide (a<b))) s):wpAny (model prog w) A (richCompare .Lt (.int a t) (.int b u)) Q E s:=lt_int h
theorem xD (l b:Addr)(us vs:Array Value)(n n2:Nat)(dd dd2:Option Addr)(sl sl2:Array (Option Value))(zs:List (Int × Int))(hz:lU (us.toList.zip vs.toList) zs) :
  Meets (Builtin.«tuple.__lt__» ⟨[.ref l, .ref b],[]⟩)
   (fun _ R s=>s.heap.get? l=some { cls := .type "tuple",dict:=dd,data := .seq us n,slots:=sl }∧s.heap.get? b=some { cls := .type "tuple",dict:=dd2,data := .seq vs n2,slots:=sl2 }∧R (.ok (.ret (.bool (aAJ (decide (us.size<vs.size)) zs)))) s):=
 .of_wp fun prog w A R s h=>by
  obtain ⟨s1,s2,s3,s4,s5⟩:=s
  obtain ⟨gl,gb,h⟩:=h
  have f2:=AutoSeq1.sub_tuple_tuple
  wp_walk using AutoSeq1.wpAny_loadPart' gl,AutoSeq1.wpAny_loadPart' gb,wpAny_forIn_list _ (fun rest b s'=>b.1=none∧s'=⟨s1,s2,s3,s4,s5⟩∧∃ ys,lU rest ys∧R (.ok (.ret (.bool (aAJ (decide (us.size<vs.size)) ys)))) ⟨s1,s2,s3,s4,s5⟩) _
  case turn=>
   rintro ⟨y,x⟩ rest b s' ⟨hb',rfl,ys,hy,hR⟩
   cases hy with
   | cons p q t u hr=>
    refine wpAny_bind (wpAny_eqBool_int ?_)
    by_cases e:p=q
    ·rw [show (p == q)=true by simpa using e]
     rw [aAJ,if_pos e] at hR
     wp_walk
     exact ⟨rfl,rfl,_,hr,hR⟩
    ·rw [show (p == q)=false by simpa using e]
     rw [aAJ,if_neg e] at hR
     wp_walk using qU
     exact ⟨_,rfl,hR⟩
  case fin=>
   rintro ⟨b1,b2⟩ s' ⟨hb',rfl,ys,hy,hR⟩
   simp only at hb'
   subst hb'
   cases hy
   wp_walk
   exact ⟨_,rfl,hR⟩
  case h=>
   exact ⟨rfl,rfl,zs,hz,h⟩
section
variable {prog:Program}{w:World}{A:Around}{R:Result→Shared→Prop}{It:Addr}{fp wr:List Addr}{n:Nat}{P:Nat→Value→Prop}{St:Nat→Heap→Prop}
noncomputable def Kp (kp:Heap→Prop) (wr:List Addr) (z:Addr):Prop:=∀ h h',kp h→(∀ b o,b∉wr→b≠z→h.get? b=some o→h'.get? b=some o)→kp h'
end
section
variable {prog:Program}{w:World}{A:Around}{E:Value→Shared→Prop}{s:Shared}
end
end L2
namespace L2
open PySem PySem.Spec PyProof.Rows
noncomputable def dD:List Int→List Int→Bool
 | [],[]=>false
 | [],_ :: _=>true
 | _ :: _,[]=>false
 | a :: r,b :: q=>if a=b then dD r q else decide (a<b)
theorem yX:∀ (ns ms:List Int),aAJ (decide (ns.length<ms.length)) (ns.zip ms)=dD ns ms
 | [],[]=>rfl
 | [],m :: ms=>by simp [aAJ,dD]
 | n :: ns,[]=>by simp [aAJ,dD]
 | n :: ns,m :: ms=>by
  rw [List.zip_cons_cons,aAJ,dD,← yX ns ms]
  have:decide ((n :: ns).length<(m :: ms).length)=decide (ns.length<ms.length):=by
   by_cases h:ns.length<ms.length <;> simp [h]
  rw [this]
theorem iP:∀ ns:List Int,dD ns ns=false
 | []=>rfl
 | n :: ns=>by rw [dD,if_pos rfl];exact iP ns
theorem iK:∀ {a b c:List Int},dD a b=true→dD b c=true→dD a c=true
 | [],[],_,h,_=>by cases h
 | [],_ :: _,[],_,h=>by cases h
 | [],_ :: _,_ :: _,_,_=>rfl
 | _ :: _,[],_,h,_=>by cases h
 | _ :: _,_ :: _,[],_,h=>by cases h
 | x :: a,y :: b,z :: c,h1,h2=>by
  rw [dD] at h1 h2 ⊢
  by_cases e1:x=y <;> by_cases e2:y=z
  ·subst e1 e2
   rw [if_pos rfl] at h1 h2 ⊢
   exact iK h1 h2
  ·subst e1
   rw [if_neg e2] at h2 ⊢
   exact h2
  ·subst e2
   rw [if_neg e1] at h1 ⊢
   exact h1
  ·rw [if_neg e1] at h1
   rw [if_neg e2] at h2
   have g1:=of_decide_eq_true h1
   have g2:=of_decide_eq_true h2
   rw [if_neg (by omega)]
   exact decide_eq_true (by omega)
theorem jT {bt:Nat→Nat→Bool}(irr:∀ i,bt i i=false)(tr:∀ i j k,bt i j=true→bt j k=true→bt i k=true):∀ k j,j≤k→bt j (argBest bt k)=false
 | 0,j,h=>by
  obtain rfl:j=0:=by omega
  exact irr 0
 | k+1,j,h=>by
  unfold argBest
  by_cases c:bt (k+1) (argBest bt k)=true
  ·rw [if_pos c]
   by_cases e:j=k+1
   ·subst e;exact irr _
   ·refine Bool.eq_false_iff.mpr fun q=>?_
    have:=jT irr tr k j (by omega)
    rw [tr _ _ _ q c] at this
    cases this
  ·rw [if_neg c]
   by_cases e:j=k+1
   ·subst e;simpa using c
   ·exact jT irr tr k j (by omega)
theorem xY:∀ {ns ms:List Int} {us vs:List Value},IntsAre us ns→IntsAre vs ms→lU (us.zip vs) (ns.zip ms)
 | [],_,_,_,h,_=>by cases h;exact .nil
 | _ :: _,[],_,_,h,g=>by cases g;cases h;exact .nil
 | n :: ns,m :: ms,_,_,h,g=>by
  cases h with
  | cons _ t h=>
   cases g with
   | cons _ u g=>exact .cons n m t u (xY h g)
theorem aCk {prog:Program}{w:World}{A:Around}{E:Value→Shared→Prop}{s:Shared}{a b:Addr}{us vs:List Value}{ns ms:List Int}{Q:Value→Shared→Prop}(hu:A.units<cLine)(ha:IsTup s.heap a us.toArray)(hb:IsTup s.heap b vs.toArray)(h1:IntsAre us ns)(h2:IntsAre vs ms)(q:Q (.bool (dD ns ms)) s) :
  wpAny (model prog w) A (richCompare .Lt (.ref a) (.ref b)) Q E s:=by
 obtain ⟨⟨oc,od,odt,osl⟩,e1,c1,n1,d1⟩:=ha
 obtain ⟨⟨pc,pd,pdt,psl⟩,e2,c2,n2,d2⟩:=hb
 subst c1 d1 c2 d2
 refine richCompare_meets_room (op := .Lt) ⟨_,e1,rfl⟩ ⟨_,e2,rfl⟩ F.slot_tuple_lt F.entry_tuple_lt (F.args_tuple_lt_2 _ _) (xD a b us.toArray vs.toArray n1 n2 od pd osl psl (ns.zip ms) (xY h1 h2)) ⟨e1,e2,?g⟩ hu
 case g=>
 have l1:=IntsAre.len h1
 have l2:=IntsAre.len h2
 rw [List.size_toArray,List.size_toArray,l1,l2,yX]
 exact ⟨fun z=>(by cases z),q⟩
noncomputable abbrev zT:List V→Hp→VK→Prop:=fun xs H Q=>(∃ i,xs=[.int i]∧Q (.int i) H)∨∃ k,xs=[.bl k]∧Q (.int (if k then 1 else 0)) H
theorem kX {X:Cx}:CallR X (.type "int") zT:=yV
end L2
namespace L2
open PySem PySem.Spec PyProof.Rows
section
variable {prog:Program}{w:World}{A:Around}{E:Value→Shared→Prop}{s:Shared}
end
section
variable {prog:Program}{w:World}{A:Around}{E:Value→Shared→Prop}{s:Shared}
end
end L2
namespace L2
open PySem PySem.Spec PyProof.Rows
end L2
namespace L2
open PySem
theorem aCB {X:Cx}{K:PySem.W.Frag}{o:Expr}{to:TE}{name:Str}{apos cpos:Pos}{T id:String}{r:V→List V→Hp→VK→Prop}(hK:X.K=K)(pa:PlainAttrs T)(slot:Slot T name id)(hty:typeOf (.builtin id)=pure (.type "method_descriptor"))(hm:MtM X id r)(ho:PE X o to)
  (b1:attributeBase o name X.env (eval o X.env)=eval o X.env:=by rfl) (b2:(apos.endLine == cpos.line)=true:=by rfl) :
  PE X (.Call (.Attribute o name apos) [] [] cpos) (aFt K T r to):=by subst hK;exact aDx pa slot hty hm ho b1 b2
end L2
namespace L2
open PySem PySem.Spec PyProof.Rows
section
variable {prog:Program}{w:World}{A:Around}{E:Value→Shared→Prop}{s:Shared}
end
section
variable {X:Cx}
end
end L2
namespace L2
open PySem
section
variable {X:Cx}
end
end L2
namespace L2
open PySem PySem.Spec PyProof.Rows
section
variable {prog:Program}{w:World}{A:Around}{E:Value→Shared→Prop}{s:Shared}
end
end L2
namespace L2
open PySem PySem.Spec PyProof.Rows
section
variable {X:Cx}
end
end L2
namespace L2
open PySem PySem.Spec PyProof.Rows
section
variable {X:Cx}
end
end L2
namespace L2
open PySem
structure aGd (mg:Str→Option Value):Prop extends aGb mg where
 set:mg "set" = none
section
variable {X:Cx}
noncomputable def aEv (K:PySem.W.Frag) (ta:TE):TT:=fun σ H Q=>ta σ H fun x H'=>∃ k,aFy K x H' k∧Q k H'
theorem zQ {K:PySem.W.Frag}{a:Expr}{ta:TE}(hK:X.K=K)(ha:PE X a ta)(he:∀ whole,isTrue a X.env whole=(do let v ← whole;standAt a.pos;holding [v] (truthy v))):PT X a (aEv K ta):=by
 subst hK
 exact aAC ha he
end
end L2
namespace L2
open PySem
structure kZ (mg:Str→Option Value):Prop extends aGd mg where
 abs:mg "abs" = none
theorem aBm:bootBuiltins "abs" = some (.builtin "abs"):=by decide +kernel
noncomputable def aEL:List V→Hp→VK→Prop:=fun xs H Q=>∃ i:Int,xs=[.int i]∧Q (.int (if i<0 then -i else i)) H
theorem sF {X:Cx}:CallR X (.builtin "abs") aEL:=aBa
end L2
namespace L2
open PySem
section
variable {vars:List Nat}{tb:TS}{acc a:Addr}{σ:St}{H:Hp}{j:Nat}{D:lG}{K:PySem.W.Frag}
theorem oO {lo:Int}{n:Nat}(p:Addr)(R:Nat→List V→Hp→Prop)(hj:j∈vars)(hjl:j<σ.length)(h0:R 0 [] (upd H acc (.lst [])))(ha:H acc=none)
  (h:∀ i σ' H' L (D:lG),i<n→σ'.length=σ.length→Agree vars σ σ'→σ'[j]?=some (some (.int (lo+(i:Int))))→SameX p H H'→H' acc=some (.lst L)→R i L H' →
   (∀ σ'' H'' L',σ''.length=σ.length→Agree vars σ σ''→SameX p H H''→H'' acc=some (.lst L')→R (i+1) L' H''→D.nx σ'' H'')→tb D σ' H')
  (q:∀ σ' H' L,SameX p H H'→H' acc=some (.lst L)→R n L H'→D.nx σ' H'):jM (Itr lo n) (aJ j) tb D σ (upd H acc (.lst [])):=by
 refine bV (lo:=lo) (n:=n) (g:=aJ j) (D:=D) (fun i σ' H'=>i≤n∧σ'.length=σ.length∧Agree vars σ σ'∧SameX p H H'∧∃ L,H' acc=some (.lst L)∧R i L H') ⟨Nat.zero_le _,rfl,Agree.refl _ _,(aM ha _).x,[],aE,h0⟩ (fun i σ1 H1 hi ⟨_,hl1,ag1,sx1,L,h1,r1⟩=>?_) fun σ1 H1 ⟨_,_,_,sm,L,h1,r1⟩=>q σ1 H1 L sm h1 r1
 exact h i (σ1.set j (some (.int (lo+(i:Int))))) H1 L _ hi (by rw [List.length_set];exact hl1) (ag1.trans (Agree.set hj _)) (oS (by omega)) sx1 h1 r1 fun σ2 H2 L' hl2 ag2 sm2 h2 r2=>⟨hi,hl2,ag2,sm2,L',h2,r2⟩
end
noncomputable def EmR (K:PySem.W.Frag) (vars:List Nat) (tb:TS) (acc:Addr) (σ:St) (H:Hp) (L:List (List Int)):Prop:=
 ∀ (D:lG) (pre:List V) (R:List (List Int)),H acc=some (.lst pre)→Rows K H pre R→R.length+L.length≤100000→(∀ σ' H' pre',σ'.length=σ.length→Agree vars σ σ'→SameX acc H H'→H' acc=some (.lst pre')→Rows K H' pre' (R++L)→D.nx σ' H')→tb D σ H
section
variable {K:PySem.W.Frag}{vars:List Nat}{tb:TS}{acc:Addr}{σ:St}{H:Hp}
theorem aCC {ta:TA}{r:List Int}(hr:r.length≤100)(h:∀ Q:List V→Hp→Prop,Q (r.map V.int) H→ta σ H Q):EmR K vars (dX (oJ ta) acc) acc σ H [r]:=by
 intro D pre R ha hR hz hd
 refine h _ ⟨by rw [List.length_map];exact Nat.le_trans hr (by decide),fun t ht=>?_⟩
 have st:=aM ht (.tup (r.map V.int))
 have ha':=st _ _ ha
 refine ⟨pre,ha',Nat.lt_of_le_of_lt (show pre.length≤100000 by rw [hR.1];omega) (by decide),?_⟩
 exact hd σ _ _ rfl (Agree.refl _ _) (st.x.trans (SameX.put _)) aE (Rows.snoc (Rows.put (hR.same st) ha') (eD (.of aE) ha'))
theorem aAF:EmR K vars aR acc σ H []:=by
 intro D pre R ha hR hz hd
 exact hd σ H pre rfl (Agree.refl _ _) (SameX.refl _ _) ha (by rw [List.append_nil];exact hR)
theorem aDB {tc:TT}{c:Bool}{L:List (List Int)}(h:∀ Q:Bool→Hp→Prop,Q c H→tc σ H Q)(hb:c=true→EmR K vars tb acc σ H L):EmR K vars (iU tc tb aR) acc σ H (if c=true then L else []):=by
 intro D pre R ha hR hz hd
 refine h _ ?_
 cases c with
 | true=>exact aFH (hb rfl D pre R ha hR hz hd)
 | false=>exact aFr (aAF D pre R ha hR hz hd)
theorem uR {lo:Int}{n j:Nat}{L:Nat→List (List Int)}(hj:j∈vars)(hjl:j<σ.length)
  (h:∀ i σ' H',i<n→σ'.length=σ.length→Agree vars σ σ'→σ'[j]?=some (some (.int (lo+(i:Int))))→SameX acc H H'→EmR K vars tb acc σ' H' (L i)) :
  EmR K vars (jM (Itr lo n) (aJ j) tb) acc σ H ((List.range n).flatMap L):=by
 intro D pre R ha hR hz hd
 refine bV (lo:=lo) (n:=n) (g:=aJ j) (D:=D) (fun i σ' H'=>i≤n∧σ'.length=σ.length∧Agree vars σ σ'∧SameX acc H H'∧∃ pre',H' acc=some (.lst pre')∧Rows K H' pre' (R++(List.range i).flatMap L)) ⟨Nat.zero_le _,rfl,Agree.refl _ _,SameX.refl _ _,pre,ha,by simpa using hR⟩ (fun i σ1 H1 hi ⟨_,hl1,ag1,sx1,pre1,h1,r1⟩=>?_) fun σ1 H1 ⟨_,hl1,ag1,sx1,pre1,h1,r1⟩=>hd σ1 H1 pre1 hl1 ag1 sx1 h1 r1
 have hle:=gI L (show i+1≤n from hi)
 rw [cC,List.length_append] at hle
 refine h i (σ1.set j (some (.int (lo+(i:Int))))) H1 hi (by rw [List.length_set];exact hl1) (ag1.trans (Agree.set hj _)) (oS (by omega)) sx1 _ pre1 _ h1 r1 (by rw [List.length_append];omega) fun σ' H' pre' hl ag sx h2 r2=>⟨hi,hl.trans ((List.length_set ..).trans hl1),(ag1.trans (Agree.set hj _)).trans ag,sx1.trans sx,pre',h2,by rw [cC,← List.append_assoc];exact r2⟩
theorem tZ {ti:TI}{lo:Int}{n j:Nat}{L:Nat→List (List Int)}(hti:∀ R:It→Hp→Prop,R (Itr lo n) H→ti σ H R)(hj:j∈vars)(hjl:j<σ.length)
  (h:∀ i σ' H',i<n→σ'.length=σ.length→Agree vars σ σ'→σ'[j]?=some (some (.int (lo+(i:Int))))→SameX acc H H'→EmR K vars tb acc σ' H' (L i)) :
  EmR K vars (kU ti (aJ j) tb) acc σ H ((List.range n).flatMap L):=by
 intro D pre R ha hR hz hd
 exact hti _ (uR hj hjl h D pre R ha hR hz hd)
theorem aAU (vars:List Nat)(L:List (List Int)){g:TG}{J:It}{D:lG}(ha:H acc=none)(hz:L.length≤100000)(h:EmR K vars (jM J g tb) acc σ (upd H acc (.lst [])) L)
  (q:∀ σ' H' pre,Same H H'→H' acc=some (.lst pre)→Rows K H' pre L→D.nx σ' H'):jM J g tb D σ (upd H acc (.lst [])):=
 h _ [] [] aE Rows.nil (by simpa using hz) fun σ' H' pre' _ _ sx h1 h2=>q σ' H' pre' (kH ha sx) h1 (by simpa using h2)
end
end L2
namespace L2
open PySem PySem.Spec PyProof.Rows
open PySem.SeqAt
noncomputable def EqA (A:Around) (s:Shared) (u v:Value) (b:Bool):Prop:=∀ (prog:Program) (w:World) (E:Value→Shared→Prop) (Q:Bool→Shared→Prop),Q b s→wpAny (model prog w) A (eqBool u v) Q E s
noncomputable def vM (f:Bool):List (Bool × Bool)→Bool
 | []=>f
 | (e,l) :: r=>if e=true then vM f r else l
theorem qA:∀ r:List Int,oH (r.map Dt.int)=0
 | []=>rfl
 | a :: r=>by rw [List.map_cons,oH,qA r];rfl
theorem kG:∀ {r q:List Int},eqL (r.map Dt.int) (q.map Dt.int)=true→r=q
 | [],[],_=>rfl
 | [],_ :: _,h=>by simp [eqL] at h
 | _ :: _,[],h=>by simp [eqL] at h
 | a :: r,b :: q,h=>by
  rw [List.map_cons,List.map_cons,eqL,Bool.and_eq_true] at h
  have h1:a=b:=by have:=h.1;rw [eqD] at this;exact eq_of_beq this
  rw [h1,kG h.2]
theorem uA:∀ {us:List Value} {ns:List Int},IntsAre us ns→∀ j (h:j<us.length),∃ t,us[j] = .int (ns.getD j 0) t
 | _,_, .nil,j,h=>absurd h (Nat.not_lt_zero _)
 | _,_, .cons n t h,0,_=>⟨t,rfl⟩
 | _,_, .cons n t h,j+1,hj=>by
  obtain ⟨t',e⟩:=uA h j (by simpa using hj)
  exact ⟨t',by simpa using e⟩
theorem vI:∀ {us:List Value} {ns ms:List Int},IntsAre us ns→IntsAre us ms→ns=ms
 | _,_,_, .nil, .nil=>rfl
 | _,_,_, .cons n t h, .cons _ _ g=>by rw [vI h g]
theorem aAb {A:Around}{s:Shared}{c d:Addr}{us vs:List Value}{r q:List Int}(hu:A.units<cLine)(hc:IsTup s.heap c us.toArray)(hd:IsTup s.heap d vs.toArray)(h1:IntsAre us r)(h2:IntsAre vs q):EqA A s (.ref c) (.ref d) (eqL (r.map Dt.int) (q.map Dt.int)):=by
 by_cases hcd:c=d
 ·subst hcd
  have e:us=vs:=by
   obtain ⟨o,e1,_,n,e2⟩:=hc
   obtain ⟨o',e3,_,m,e4⟩:=hd
   rw [e1] at e3
   cases e3
   rw [e2] at e4
   have e5:us=vs∧n=m:=by simpa using e4
   exact e5.1
  subst e
  rw [vI h1 h2,iO]
  exact EqAt.same _
 ·have l1:=IntsAre.len h1
  have l2:=IntsAre.len h2
  have he:∀ (j:Nat) (h1:j<us.toArray.size) (h2:j<vs.toArray.size),EqAt A.in1 s us.toArray[j] vs.toArray[j] (eqD ((r.map Dt.int).getD j .non) ((q.map Dt.int).getD j .non)):=fun j g1 g2=>by
   have g1:j<us.length:=by simpa using g1
   have g2:j<vs.length:=by simpa using g2
   obtain ⟨t1,e1⟩:=uA h1 j g1
   obtain ⟨t2,e2⟩:=uA h2 j g2
   have q1:(r.map Dt.int).getD j .non = .int (r.getD j 0):=by
    rw [List.getD_eq_getElem?_getD,List.getElem?_map,List.getD_eq_getElem?_getD,List.getElem?_eq_getElem (by omega)]
    rfl
   have q2:(q.map Dt.int).getD j .non = .int (q.getD j 0):=by
    rw [List.getD_eq_getElem?_getD,List.getElem?_map,List.getD_eq_getElem?_getD,List.getElem?_eq_getElem (by omega)]
    rfl
   have e1':us.toArray[j] = .int (r.getD j 0) t1:=by simpa using e1
   have e2':vs.toArray[j] = .int (q.getD j 0) t2:=by simpa using e2
   rw [q1,q2,e1',e2',eqD]
   exact EqAt.int_int _ _ _ _
  have rc:=RcAt.tuples (A:=A) hc hd hu he
  rw [List.size_toArray,List.size_toArray,l1,l2] at rc
  have:=lK (r.map Dt.int) (q.map Dt.int)
  rw [List.length_map,List.length_map] at this
  rw [this] at rc
  exact EqAt.of_refs hcd rc
end L2
namespace L2
open PySem PySem.Spec PyProof.Rows
section
variable {X:Cx}{tg:Expr}
end
end L2
namespace L2
open PySem PySem.Spec PyProof.Rows
section
variable {X:Cx}{pins:List (Addr × Obj)}{σ:St}{H:Hp}{s:Shared}
theorem HOk.swap {P:Program}{w:World}{h:Heap}{d:Addr}{v u:HO}(ok:HOk P w H h)(hd:H d=some v)(hv1:∀ xs,v ≠ .tup xs)(hv2:∀ y,v ≠ .own y)(new:ObjOk P w (upd H d u) h d u):HOk P w (upd H d u) h:=fun b o e=>by
 by_cases hb:b=d
 ·subst hb;rw [aE] at e;cases e;exact new
 ·rw [aO hb] at e
  refine (ok b o e).stay (fun _ _ _ q=>q) (fun c q=>?_) fun c xs q=>?_
  ·rw [aO (fun z=>by subst z;rw [hd] at q;exact hv2 _ (Option.some.inj q))];exact q
  ·rw [aO (fun z=>by subst z;rw [hd] at q;exact hv1 _ (Option.some.inj q))];exact q
theorem Inv.freeze {d:Addr}{kvs:List (Key × V)}{o:Obj}(I:Inv X pins σ H s)(hd:H d=some (.dK kvs))(ho:s.heap.get? d=some o):Inv X pins σ (upd H d (.frz o (.dK kvs))) s:=by
 have ne:∀ b,H b=none→b≠d:=fun b e z=>by subst z;rw [hd] at e;cases e
 refine I.step (h':=s.heap) (g':=s.gens) (d':=s.drawn) (t':=s.toks) (ch:=[]) (fun _ z=>nomatch z) (fun b o _ _ _ e _=>e) (fun b o _ _ _ e _=>⟨o.slots,e⟩) (fun b o _ _ e=>by rw [aO (ne b e)];exact e) (fun b o _ e=>⟨o,e⟩) (fun b xs e=>?_) (fun b o u e=>?_) (fun b ps e=>?_) (fun m hm=>hm) ?_ I.bare
 ·rw [aO (fun z=>by subst z;rw [hd] at e;cases e)];exact e
 ·rw [aO (fun z=>by subst z;rw [hd] at e;cases e)];exact e
 ·exact ⟨#[],by rw [aO (fun z=>by subst z;rw [hd] at e;cases e),e];simp⟩
 ·exact I.hok.swap hd (fun _ z=>by cases z) (fun _ z=>by cases z) ⟨ho,I.hok d _ hd⟩
end
theorem KV.len {κ:Type}:∀ {l:List (κ × V)} {m:List (κ × Value)},KV l m→l.length=m.length
 | _,_, .nil=>rfl
 | _,_, .cons _ t=>by rw [List.length_cons,List.length_cons,KV.len t]
theorem KV.at {κ:Type}:∀ {l:List (κ × V)} {m:List (κ × Value)},KV l m→∀ {i:Nat} {k:κ} {x:Value},m[i]?=some (k,x)→∃ v,l[i]?=some (k,v)
 | _,_, .nil,_,_,_,h=>by cases h
 | _,_, .cons (a:=p) (b:=q) r t,0,k,x,h=>by
  have e:q=(k,x):=by simpa using h
  exact ⟨p.2,by rw [List.getElem?_cons_zero,show p=(k,p.2) from Prod.ext (by rw [r.1,e]) rfl]⟩
 | _,_, .cons _ t,i+1,k,x,h=>KV.at t (i:=i) (by simpa using h)
theorem aBT {P:Program}{w:World}{k:Key}{u:Value}(h:(cO P w).is k u=true):RelV (kV k) u:=by
 rcases cI h with ⟨i,t,rfl,rfl⟩ | ⟨x,t,rfl,rfl⟩
 ·exact ⟨_,rfl⟩
 ·exact ⟨_,rfl⟩
end L2
namespace L2
open PySem PySem.Spec PyProof.Rows
section
open Builtin Builtin.ObjectAttr Builtin.Getset_descriptor
variable {prog:Program}{w:World}{A:Around}{E:Value→Shared→Prop}{s:Shared}{K:PySem.W.Frag}{x C:Addr}{R:Result→Shared→Prop}
end
section
variable {X:Cx}
end
section
variable {X:Cx}{x:Str}{np cpos pos p:Pos}{C:Addr}{E:XK}{m:Str}{j:Nat}
end
section
variable {X:Cx}{pins:List (Addr × Obj)}{σ:St}{H:Hp}{s:Shared}{E:XK}{a:Addr}{cls a0:Value}{B h2:Heap}
end
section
variable {P:Program}{w:World}{K:PySem.W.Frag}{mg:Str→Option Value}{base:Heap}{N:List Str}{qual:Str}{scope:Scope}{f:Addr}{cd:Value}{A:Around}{outer:List Env}{s₀:Shared}{H₀:Hp}{E:XK}
end
end L2
namespace L2
open PySem PySem.Spec PyProof.Rows
section
variable {X:Cx}{pins:List (Addr × Obj)}{σ:St}{H:Hp}{s:Shared}
end
section
variable {X:Cx}{pins pn pins':List (Addr × Obj)}{σ:St}{H H':Hp}{s s':Shared}{W:Value→Shared→Prop}{a C:Addr}{cls a0:Value}{B h2:Heap}
end
section
variable {X:Cx}{x n:Str}{np pos hpos:Pos}{C0:Addr}{ie ln:Nat}{tb:XK→TS}{th:TS}{body suite:List Stmt}{b₀:Stmt}
end
end L2
namespace L2
open PySem PySem.Spec PyProof.Rows
section
variable {X:Cx}{st:Stmt}{t:TS}{x:Str}{np pos hpos cpos p:Pos}{C C0:Addr}{E:XK}{m:Str}{j:Nat}{K:PySem.W.Frag}
end
section
variable {P:Program}{w:World}{K:PySem.W.Frag}{mg:Str→Option Value}{base:Heap}
end
end L2
namespace L2
open PySem
section
variable {X:Cx}
end
end L2
namespace L2
open PySem
end L2
namespace L2
open PySem
section
variable {P:Program}{w:World}
noncomputable def IsPairKey (P:Program) (w:World) (h:Heap) (k:List Int × Int) (a:Addr):Prop:=∃ o n b t,h.get? a=some o∧o.cls = .type "tuple"∧o.data = .seq #[.ref b, .int k.2 t] n∧IsTupleKey (intKind P w) h k.1 b
theorem IsPairKey.typeIs {s:Shared}{k:List Int × Int}{a:Addr}(x:IsPairKey P w s.heap k a):s.TypeIs (.ref a) "tuple":=let ⟨o,_,_,_,ho,hc,_⟩:=x;⟨o,ho,hc⟩
theorem IsPairKey.inj {h:Heap}{a:Addr}{x y:List Int × Int}(hx:IsPairKey P w h x a)(hy:IsPairKey P w h y a):x=y:=by
 obtain ⟨o,n,b,t,ho,_,hd,hi⟩:=hx
 obtain ⟨o',n',b',t',ho',_,hd',hi'⟩:=hy
 obtain rfl:o=o':=Option.some.inj (ho.symm.trans ho')
 rw [hd] at hd'
 injection hd' with h1 _
 have h2:[Value.ref b, .int x.2 t]=[.ref b', .int y.2 t']:=congrArg Array.toList h1
 injection h2 with h3 h4
 injection h4 with h5 _
 injection h3 with h3
 injection h5 with h5 _
 subst h3
 exact Prod.ext (hi.inj hi') h5
theorem IsPairKey.keeps {h h':Heap}{k:List Int × Int}{a d:Addr}{o:Obj}{es ep}(x:IsPairKey P w h k a)(ho:h.get? d=some o)(hd:o.data = .dict es ep)(hs:Heap.SameBut d h h'):IsPairKey P w h' k a:=by
 obtain ⟨o',n,b,t,ho',hc,hd',hi⟩:=x
 have hne:a≠d:=by
  rintro rfl
  obtain rfl:o'=o:=Option.some.inj (ho'.symm.trans ho)
  rw [hd] at hd';exact nomatch hd'
 exact ⟨o',n,b,t,(hs.2 a hne).trans ho',hc,hd',hi.keeps ho hd hs⟩
noncomputable def qD (P:Program) (w:World) (k:List Int × Int):Int:=reduceHash (Builtin.Tuple.tupleHashOf [tupleKeyHash (intKind P w) k.1,(intKind P w).hash k.2])
variable {A:Around}{E:Value→Shared→Prop}{s:Shared}
theorem sR {k:List Int × Int}{a:Addr}{Q:Int→Shared→Prop}(hu:A.units+5<cLine)(hk:IsPairKey P w s.heap k a)(h:Q (qD P w k) { s with toks:=s.toks+(k.1.length+3) }) :
  wpAny (model P w) A (pyHash (.ref a)) Q E s:=by
 have hT:=hk.typeIs
 obtain ⟨o,n,b,t,ho,_,hd,hi⟩:=hk
 unfold pyHash
 first | unfold pyHashByItsType | skip
 first | refine wpAny_bind (wpAny_cRoomFor_or (.inr (by omega)) ?_) | skip
 refine wpAny_bind (wpAny_specialOf hT F.slot_tuple_hash.lookup ?_)
 show wpAny _ _ (if (some (Value.builtin "tuple.__hash__") == some Value.none)=true then _ else _) Q E s
 rw [if_neg (by rw [beq_builtin_none];exact Bool.false_ne_true)]
 refine wpAny_bind (wpAny_specialOf hT F.slot_tuple_hash.lookup ?_)
 show wpAny _ _ (callSpecialIfBoundUnlessNone? (.ref a) "__hash__" _ >>= _) Q E s
 refine wpAny_bind (wpAny_callSpecialIfBoundUnlessNone?_slot hT F.slot_tuple_hash (wpAny_call_entry F.slot_tuple_hash hT F.entry_tuple_hash ?_ (F.args_tuple_hash_1 _)))
 show wpAny _ _ (Builtin.Tuple.tupleItemsOf (.ref a) >>= _) _ _ s
 refine wpAny_bind (wpAny_tupleItemsOf ho hd ?_)
 refine wpAny_bind ?_
 rw [← Array.forIn_toList]
 show wpAny _ _ (forIn [Value.ref b,Value.int k.2 t] #[] _) _ _ s
 rw [List.forIn_cons]
 refine wpAny_bind (wpAny_bind (wpAny_pyHash_tuple (knd:=intKind P w) (show A.units+1<cLine by omega) hi (wpAny_pure ?_)))
 show wpAny _ _ (forIn [Value.int k.2 t] #[tupleKeyHash (intKind P w) k.1] _) _ _ _
 rw [List.forIn_cons]
 refine wpAny_bind (wpAny_bind ((intKind P w).pyHash (k:=k.2) (v := .int k.2 t) (by show Value.isInt k.2 (.int k.2 t)=true;unfold Value.isInt;exact beq_self_eq_true _) (wpAny_pure ?_)))
 show wpAny _ _ (forIn [] #[tupleKeyHash (intKind P w) k.1,(intKind P w).hash k.2] _) _ _ _
 rw [List.forIn_nil]
 refine wpAny_pure ?_
 show wpAny _ _ (retInt (Builtin.Tuple.tupleHashOf [tupleKeyHash (intKind P w) k.1,(intKind P w).hash k.2])) _ _ _
 refine wpAny_ret_mkInt ?_
 show wpAny _ _ (if (decide (-(2:Int) ^ 63≤Builtin.Tuple.tupleHashOf [tupleKeyHash (intKind P w) k.1,(intKind P w).hash k.2]) && decide (Builtin.Tuple.tupleHashOf [tupleKeyHash (intKind P w) k.1,(intKind P w).hash k.2]<2 ^ 63))=true then _ else _) Q E _
 unfold qD reduceHash at h
 by_cases hr:(decide (-(2:Int) ^ 63≤Builtin.Tuple.tupleHashOf [tupleKeyHash (intKind P w) k.1,(intKind P w).hash k.2]) && decide (Builtin.Tuple.tupleHashOf [tupleKeyHash (intKind P w) k.1,(intKind P w).hash k.2]<2 ^ 63))=true
 ·rw [if_pos hr]
  rw [if_pos hr] at h
  exact wpAny_pure (by simpa [Nat.add_assoc] using h)
 ·rw [if_neg hr]
  rw [if_neg hr] at h
  exact wpAny_bind (wpAny_rule (wpAny_pure (by simpa [Nat.add_assoc] using h)))
theorem rZ {x y:List Int × Int}{a b:Addr}{Pd:Fin→Shared→Prop}(hu:A.units<cLine)(hx:IsPairKey P w s.heap x a)(hy:IsPairKey P w s.heap y b)(h:Pd (.done (.ret (.bool (decide (x=y))))) s) :
  wpAny (model P w) A (Builtin.«tuple.__eq__» ⟨[.ref a, .ref b],[]⟩) Pd E s:=by
 have hTb:=hy.typeIs
 obtain ⟨oa,na,ia,ta,hoa,_,hda,hia⟩:=hx
 obtain ⟨ob,nb,ib,tb,hob,_,hdb,hib⟩:=hy
 show wpAny _ _ (isInstance (.ref b) (.type "tuple") >>= _) _ _ s
 refine wpAny_bind (wpAny_isInstance hTb isSubtype_tuple_tuple ?_)
 simp only [Bool.not_true,Bool.false_eq_true,if_false]
 refine wpAny_bind (wpAny_tupleItemsOf hoa hda ?_)
 refine wpAny_bind (wpAny_tupleItemsOf hob hdb ?_)
 refine wpAny_bind ?_
 show wpAny _ _ (forIn [(Value.ref ia,Value.ref ib),(Value.int x.2 ta,Value.int y.2 tb)] _ _) _ _ s
 rw [List.forIn_cons]
 refine wpAny_bind (wpAny_bind (wpAny_eqBool_tuple (knd:=intKind P w) hu hia hib ?_))
 by_cases h1:x.1=y.1
 ·rw [decide_eq_true h1]
  simp only [Bool.not_true,Bool.false_eq_true,if_false]
  refine wpAny_pure ?_
  show wpAny _ _ (forIn [(Value.int x.2 ta,Value.int y.2 tb)] _ _) _ _ s
  rw [List.forIn_cons]
  refine wpAny_bind (wpAny_bind (wpAny_eqBool_int ?_))
  by_cases h2:x.2=y.2
  ·rw [show (x.2 == y.2)=true by rw [h2];exact beq_self_eq_true _]
   simp only [Bool.not_true,Bool.false_eq_true,if_false]
   refine wpAny_pure ?_
   show wpAny _ _ (forIn [] _ _) _ _ s
   rw [List.forIn_nil]
   refine wpAny_pure (wpAny_pure ?_)
   have e:decide (x=y)=true:=decide_eq_true (Prod.ext h1 h2)
   rw [e] at h
   exact h
  ·rw [show (x.2 == y.2)=false by exact beq_false_of_ne h2]
   simp only [Bool.not_false,if_true]
   have e:decide (x=y)=false:=decide_eq_false fun z=>h2 (congrArg Prod.snd z)
   rw [e] at h
   exact wpAny_bind (wpAny_pure (wpAny_pure (wpAny_pure (wpAny_pure h))))
 ·rw [decide_eq_false h1]
  simp only [Bool.not_false,if_true]
  have e:decide (x=y)=false:=decide_eq_false fun z=>h1 (congrArg Prod.fst z)
  rw [e] at h
  exact wpAny_bind (wpAny_pure (wpAny_pure (wpAny_pure (wpAny_pure h))))
theorem tV {x y:List Int × Int}{a b:Addr}{Q:Bool→Shared→Prop}(hu:A.units+5<cLine)(hx:IsPairKey P w s.heap x a)(hy:IsPairKey P w s.heap y b)(h:Q (decide (x=y)) s) :
  wpAny (model P w) A (eqBool (.ref a) (.ref b)) Q E s:=by
 unfold eqBool
 try with_reducible refine wpAny_holding ?_
 show wpAny _ _ (if (Value.ref a == Value.ref b)=true then _ else _) Q E s
 by_cases hab:(Value.ref a == Value.ref b)=true
 ·rw [if_pos hab]
  have e:a=b:=by have:=eq_of_beq hab;injection this
  subst e
  obtain rfl:=hx.inj hy
  exact wpAny_bind (wpAny_rule (wpAny_pure (by simpa using h)))
 ·rw [if_neg hab]
  exact wpAny_bind (wpAny_richCompare_same_room (op := .Eq) hx.typeIs hy.typeIs F.slot_tuple_eq
   (wpAny_call_entry F.slot_tuple_eq hx.typeIs F.entry_tuple_eq (rZ (show A.units+1<cLine by omega) hx hy ⟨_,rfl,(fun e=>nomatch e),wpAny_truthy_bool h⟩) (F.args_tuple_eq_2 _ _)) (by omega))
theorem aAw {ks:List Int}{a:Addr}{m:Nat}{Q:Bool→Shared→Prop}(hk:IsTupleKey (intKind P w) s.heap ks a)(h:Q true s):wpAny (model P w) A (eqIsQuiet (m+1) (.ref a)) Q E s:=by
 have hT:=hk.typeIs
 obtain ⟨o,items,n,ho,_,hd,hi⟩:=hk
 unfold eqIsQuiet
 refine wpAny_bind (wpAny_specialOf hT F.slot_tuple_eq.lookup ?_)
 show wpAny _ _ (isInstance (.ref a) (.type "tuple") >>= _) _ _ s
 refine wpAny_bind (wpAny_isInstance hT isSubtype_tuple_tuple ?_)
 simp only [Bool.not_true,Bool.false_eq_true,if_false]
 refine wpAny_bind (wpAny_seqItems ho hd ?_)
 refine wpAny_bind ?_
 show wpAny _ _ (forIn items _ _) _ _ s
 rw [← Array.forIn_toList]
 refine wpAny_forIn_list _ (fun rest r s'=>r.1=none∧s'=s∧∀ v∈rest,carriedByValue v=true) _ ?_ ?_ _ _ ⟨rfl,rfl,hi.byValue⟩
 ·rintro v rest r s' ⟨hr,rfl,hall⟩
  rw [eqIsQuiet_byValue _ (hall v List.mem_cons_self)]
  refine wpAny_bind (wpAny_pure ?_)
  simp only [Bool.not_true,Bool.false_eq_true,if_false]
  exact wpAny_pure ⟨rfl,rfl,fun u hu'=>hall u (List.mem_cons_of_mem _ hu')⟩
 ·rintro ⟨r1,r2⟩ s' ⟨hr,rfl,_⟩
  simp only at hr
  subst hr
  exact wpAny_pure h
theorem vR {k:List Int × Int}{a:Addr}{Q:Bool→Shared→Prop}(hk:IsPairKey P w s.heap k a)(h:Q true s):wpAny (model P w) A (eqIsQuiet 8 (.ref a)) Q E s:=by
 have hT:=hk.typeIs
 obtain ⟨o,n,b,t,ho,_,hd,hi⟩:=hk
 unfold eqIsQuiet
 refine wpAny_bind (wpAny_specialOf hT F.slot_tuple_eq.lookup ?_)
 show wpAny _ _ (isInstance (.ref a) (.type "tuple") >>= _) _ _ s
 refine wpAny_bind (wpAny_isInstance hT isSubtype_tuple_tuple ?_)
 simp only [Bool.not_true,Bool.false_eq_true,if_false]
 refine wpAny_bind (wpAny_seqItems ho hd ?_)
 refine wpAny_bind ?_
 show wpAny _ _ (forIn #[Value.ref b,Value.int k.2 t] _ _) _ _ s
 rw [← Array.forIn_toList]
 show wpAny _ _ (forIn [Value.ref b,Value.int k.2 t] _ _) _ _ s
 rw [List.forIn_cons]
 refine wpAny_bind (wpAny_bind (aAw hi ?_))
 simp only [Bool.not_true,Bool.false_eq_true,if_false]
 refine wpAny_pure ?_
 show wpAny _ _ (forIn [Value.int k.2 t] _ _) _ _ s
 rw [List.forIn_cons,eqIsQuiet_byValue _ (v:=Value.int k.2 t) rfl]
 refine wpAny_bind (wpAny_bind (wpAny_pure ?_))
 simp only [Bool.not_true,Bool.false_eq_true,if_false]
 refine wpAny_pure ?_
 show wpAny _ _ (forIn [] _ _) _ _ s
 rw [List.forIn_nil]
 exact wpAny_pure (wpAny_pure h)
noncomputable def qJ (P:Program) (w:World):HeapKind P w (List Int × Int) where
 is:=IsPairKey P w
 hash:=qD P w
 draws:=fun k=>k.1.length+3
 room:=fun A=>A.units+5<cLine
 inj:=fun hx hy=>hx.inj hy
 keeps:=fun x ho hd hs=>x.keeps ho hd hs
 pyHash:=fun hu hk h=>sR hu hk h
 eqBool:=fun hu hx hy h=>tV hu hx hy h
 quiet:=fun hk h=>vR hk h
end
end L2
namespace L2
open PySem
noncomputable abbrev PKy:=List Int × Int
noncomputable abbrev PEs:=List (PKy × Addr × V)
noncomputable def aFj (k:PKy):Int:=reduceHash (Builtin.Tuple.tupleHashOf [reduceHash (Builtin.Tuple.tupleHashOf (k.1.map hashInt)),hashInt k.2])
noncomputable abbrev aFv (p:PKy × Addr × V) (q:PKy × Addr × Value):Prop:=p.1=q.1∧p.2.1=q.2.1∧RelV p.2.2 q.2.2
noncomputable def dpP (a:Addr) (xs:PEs) (ep:Nat) (h:Heap):Prop:=xs.length≤sizeLine∧(a == sysModules)=false∧∃ ys:List (PKy × Addr × Value),Paired aFv xs ys ∧
 ∃ o es,h.get? a=some o∧o.ExactDict∧o.data = .dict es ep∧es.toList=ys.map (fun y=>(⟨aFj y.1, .ref y.2.1,y.2.2⟩:DictEntry))∧(ys.map (·.1)).Nodup
noncomputable def dpO (a:Addr) (xs:PEs) (ep:Nat):HO := .ext (dpP a xs ep)
noncomputable def KeyP (H:Hp) (k:PKy) (c:Addr):Prop:=∃ b,H c=some (.tup [.ref b, .int k.2])∧H b=some (.tup (k.1.map V.int))
noncomputable def DP (H:Hp) (a:Addr) (xs:PEs) (ep:Nat):Prop:=H a=some (dpO a xs ep)∧∀ x∈xs,KeyP H x.1 x.2.1
section
variable {P:Program}{w:World}{H:Hp}{h:Heap}{a c:Addr}{k:PKy}{xs:PEs}
theorem pD:∀ {ns:List Int} {its:List Value},Vals (ns.map V.int) its→ItemsAre (intKind P w) ns its
 | [],_, .nil => .nil
 | n :: ns,_, .cons r t=>by
  obtain ⟨tk,rfl⟩:=r
  exact .cons (by show Value.isInt n (.int n tk)=true;unfold Value.isInt;exact beq_self_eq_true _) (pD t)
theorem KeyP.is (ok:HOk P w H h)(e:KeyP H k c):(qJ P w).is h k c:=by
 obtain ⟨b,e1,e2⟩:=e
 obtain ⟨_,its,r,o,h1,h2,⟨n,h3⟩,_⟩:=(show ObjOk P w H h c (.tup [.ref b, .int k.2]) from ok c _ e1)
 obtain ⟨_,its',r',o',h1',h2',⟨n',h3'⟩,_⟩:=(show ObjOk P w H h b (.tup (k.1.map V.int)) from ok b _ e2)
 obtain ⟨u,v,rfl,ru,rv⟩:=r.two
 obtain rfl:u=Value.ref b:=ru
 obtain ⟨t,rfl⟩:=rv
 exact ⟨o,n,b,t,h1,h2,h3,o',its'.toArray,n',h1',h2',h3',by simpa using pD r'⟩
theorem DP.of {ep:Nat}(ok:HOk P w H h)(e:DP H a xs ep):xs.length≤sizeLine∧(a == sysModules)=false∧∃ ys,Paired aFv xs ys∧h.DictOfH (qJ P w) a ys:=by
 obtain ⟨z,y,ys,r,o,es,h1,h2,h3,h4,h5⟩:=(show dpP a xs ep h from (ok a _ e.1).1)
 refine ⟨z,y,ys,r,o,es,ep,h1,h2,h3,h4,?_,h5⟩
 have all:∀ {l:PEs} {m:List (PKy × Addr × Value)},Paired aFv l m→(∀ x∈l,KeyP H x.1 x.2.1)→∀ x∈m,(qJ P w).is h x.1 x.2.1:=by
  intro l m q
  induction q with
  | nil=>intro _ x hx;exact nomatch hx
  | @cons p q ps qs hq t ih=>
   intro hk x hx
   rcases List.mem_cons.mp hx with e | hx
   ·subst e
    have:=hk p (List.mem_cons_self ..)
    rw [hq.1,hq.2.1] at this
    exact this.is ok
   ·exact ih (fun x hx=>hk x (List.mem_cons_of_mem _ hx)) x hx
 exact all r e.2
end
noncomputable def aGl (K:PySem.W.Frag) (H:Hp) (k:PKy) (c:Addr):Prop:=∃ b,SqT K H c [.ref b, .int k.2]∧SqT K H b (k.1.map V.int)
theorem KeyP.q {K:PySem.W.Frag}{H:Hp}{k:PKy}{c:Addr}(e:KeyP H k c):aGl K H k c:=let ⟨b,h1,h2⟩:=e;⟨b, .of h1, .of h2⟩
section
variable {X:Cx}{o i value:Expr}{pos pos':Pos}{td ty tv:TE}
end
end L2
namespace L2
open PySem PySem.Spec PyProof.Rows
section
variable {prog:Program}{w:World}{A:Around}{E:Value→Shared→Prop}{s:Shared}{d:Addr}{o:Obj}{es:Array DictEntry}{ep:Nat}
noncomputable abbrev aAn (d:Addr):Obj:={ cls := .type "dict_items",data := .fields #[.ref d] }
noncomputable abbrev aFG (d:Addr) (n ep:Nat):Obj:={ cls := .type "dict_itemiterator",data := .fields #[.none, .bool false, .ref d, .int 0 0, .int n 0, .int ep 0, .none, .none] }
theorem tQ {Q:Value→Shared→Prop}(hd:(d == sysModules)=false)(hT:s.TypeIs (.ref d) "dict")(h:Q (.ref s.heap.objs.size) { s with heap:=s.heap.push (aAn d) }):wpAny (model prog w) A (call (.builtin "dict.items") [.ref d]) Q E s:=by
 refine wpAny_call_entry F.slot_dict_items hT F.entry_dict_items ?_ (F.args_dict_items_1 _)
 unfold Builtin.«dict.items» Builtin.Dict.noArgs
 refine wpAny_bind (wpAny_bind (wpAny_notOrdered_dict hT (wpAny_pure ?_)))
 show wpAny _ _ (Builtin.Dict.showsAll d >>= _) _ _ s
 unfold Builtin.Dict.showsAll;rw [if_neg (by rw [hd];exact Bool.false_ne_true)]
 refine wpAny_bind (wpAny_pure (wpAny_bind (wpAny_newObj_type (wpAny_pure ⟨_,rfl,h⟩))))
theorem tW {v:Addr}{Q:Value→Shared→Prop}(hv:s.heap.IsItemsView v d)(ho:s.heap.get? d=some o)(hd:o.data = .dict es ep)(h:Q (.ref s.heap.objs.size) { s with heap:=s.heap.push (aFG d es.size ep) }):wpAny (model prog w) A (pyIter (.ref v)) Q E s:=by
 have hT:=hv.typeIs
 obtain ⟨ov,hov,hcv,hdv⟩:=hv
 refine wpAny_pyIter_slot hT F.slot_dict_items_iter (wpAny_call_entry F.slot_dict_items_iter hT F.entry_dict_items_iter ?_ (F.args_dict_items_iter_1 _))
 unfold Builtin.«dict_items.__iter__» Builtin.Dict_items.dictOf
 refine wpAny_bind (wpAny_pure (wpAny_bind (wpAny_bind (wpAny_field hov hdv (x := .ref d) rfl (wpAny_pure (wpAny_bind ?_))))))
 unfold Builtin.Dict_items.newIterator
 refine wpAny_bind (wpAny_dictEntries ho hd (wpAny_bind (wpAny_dictEpoch ho hd ?_)))
 simp only [show Builtin.Dict_items.ownsTuple "dict_itemiterator" = true by decide,if_true]
 refine wpAny_newObj_type (wpAny_pure ⟨_,rfl,"dict_itemiterator",_,⟨_,Heap.get?_push_size _ rfl,rfl⟩,F.slot_dict_itemiterator_next.lookup,?_⟩) (by simp only [sizeOk,Builtin.Dict_items.ownedTupleFields,List.size_toArray,List.length_append,List.length_cons,List.length_nil,sizeLine_eq];omega)
 simpa [rawInt,Builtin.Dict_items.ownedTupleFields] using h
theorem sY {it:Addr}{i:Nat}{e:DictEntry}{k0 v0:Value}{Q:Option Value→Shared→Prop}(hit:IsItemIter s.heap it d i es.size ep k0 v0)(ho:s.heap.get? d=some o)(hd:o.data = .dict es ep)(hx:es[i]?=some e)
  (q:∀ h',IsItemIterOut h' it d (i+1) es.size ep e.key e.val s.heap.objs.size→h'.get? s.heap.objs.size=some { cls := .type "tuple",data := .seq #[e.key,e.val] }→h'.objs.size=s.heap.objs.size+1 →
   (∀ b o,b≠it→s.heap.get? b=some o→h'.get? b=some o)→Q (some (.ref s.heap.objs.size)) { s with heap:=h' }) :
  wpAny (model prog w) A (pyNext (.ref it)) Q E s:=by
 obtain ⟨hp,g,dr,tk,os⟩:=s
 have hT:Shared.TypeIs ⟨hp,g,dr,tk,os⟩ (.ref it) "dict_itemiterator":=⟨_,hit,rfl⟩
 unfold pyNext
 refine wpAny_bind (wpAny_attempt (wpAny_callSpecial?_slot (name:=Str.ofString "__next__") hT F.slot_dict_itemiterator_next (wpAny_call_entry F.slot_dict_itemiterator_next hT F.entry_dict_itemiterator_next ?_ (F.args_dict_itemiterator_next_1 _))))
 refine wpAny_bind (wpAny_pure (wpAny_bind (wpAny_bind ?_)))
 first | refine wpAny_bind (wpAny_typeNameOfWhole_itemiter hT (wpAny_pure (wpAny_bind (wpAny_fieldsOf hit rfl ?_)))) | refine wpAny_bind (wpAny_typeNameOf_itemiter hT (wpAny_pure (wpAny_bind (wpAny_fieldsOf hit rfl ?_))))
 simp only [show Builtin.Dict_items.ownsTuple "dict_itemiterator" = true by decide,if_true]
 show wpAny _ _ (if (Value.ref d == Value.none)=true then _ else _) _ _ _
 rw [if_neg (by exact Bool.false_ne_true)]
 refine wpAny_bind (wpAny_pure (wpAny_bind (wpAny_dictEntries ho hd ?_)))
 rw [if_neg (by simp)]
 refine wpAny_bind (wpAny_pure (wpAny_bind (wpAny_dictEpoch ho hd ?_)))
 rw [if_neg (by simp)]
 refine wpAny_pure ?_
 have lt:i<es.size:=by
  rcases Nat.lt_or_ge i es.size with h | h
  ·exact h
  ·rw [Array.getElem?_eq_none h] at hx;cases hx
 rw [Array.getElem?_eq_getElem lt] at hx
 have hx:=Option.some.inj hx
 simp only [show ¬ ((i:Int)<0) from by omega,if_false,Int.toNat_natCast,Array.getElem?_eq_getElem lt,hx]
 refine wpAny_bind ?_
 first | refine wpAny_bind (wpAny_typeNameOfWhole_itemiter hT (wpAny_pure (wpAny_bind (wpAny_isOneOf_itemiter hT ?_)))) | refine wpAny_bind (wpAny_typeNameOf_itemiter hT (wpAny_pure (wpAny_bind (wpAny_isOneOf_itemiter hT ?_))))
 show wpAny _ _ (setField (.ref it) 3 (rawInt ((i:Int)+1)) >>= _) _ _ _
 refine wpAny_bind (wpAny_setField_rec hit (by simp) fun h1 r1 s1=>?_)
 replace s1:Heap.SameBut it hp h1:=s1
 replace r1:IsItemIter h1 it d (i+1) es.size ep k0 v0:=by
  unfold IsItemIter;rw [show ((i+1:Nat):Int)=(i:Int)+1 by omega];simpa [rawInt] using r1
 have T1:Shared.TypeIs ⟨h1,g,dr,tk,os⟩ (.ref it) "dict_itemiterator":=⟨_,r1,rfl⟩
 refine wpAny_bind (wpAny_holding (wpAny_bind (wpAny_isOneOf_itemiter T1 (wpAny_bind (wpAny_isOneOf_itemiter T1 ?_)))))
 show wpAny _ _ (Builtin.Dict_items.pairFromOwner (.ref it) 6 e.key e.val) _ _ ⟨h1,g,dr,tk,os⟩
 unfold Builtin.Dict_items.pairFromOwner
 refine wpAny_bind (wpAny_newTuple ?_)
 have r2:IsItemIter (h1.push { cls := .type "tuple",data := .seq #[e.key,e.val] }) it d (i+1) es.size ep k0 v0:=Heap.get?_push_of_some _ r1
 generalize e2:h1.push { cls := .type "tuple",data := .seq #[e.key,e.val] }=h2 at r2
 have z1:h1.objs.size=hp.objs.size:=s1.1
 have il:it<hp.objs.size:=Heap.lt_size hit
 have t2:h2.get? hp.objs.size=some { cls := .type "tuple",data := .seq #[e.key,e.val] }:=by rw [← e2,← z1];exact Heap.get?_push_size _ rfl
 have z2:h2.objs.size=hp.objs.size+1:=by rw [← e2,Heap.size_push,z1]
 have k2:∀ b o,b≠it→hp.get? b=some o→h2.get? b=some o:=fun b o hb e=>by rw [← e2];exact Heap.get?_push_of_some _ (s1.extBut b o hb e)
 show wpAny _ _ (Builtin.Dict_items.ownedTupleIsFree (.ref it) >>= _) _ _ ⟨h2,g,dr,tk,os⟩
 rw [z1]
 clear e2 r1 s1 T1 z1 h1
 unfold Builtin.Dict_items.ownedTupleIsFree
 refine wpAny_bind (wpAny_bind (wpAny_field r2 rfl (x := .none) rfl (wpAny_pure ?_)))
 simp only [if_true]
 refine wpAny_bind (wpAny_field r2 rfl (x:=k0) rfl (wpAny_bind (wpAny_field r2 rfl (x:=v0) rfl (wpAny_bind (wpAny_setField_rec r2 (by simp) fun h3 r3 s3=>?_)))))
 replace s3:Heap.SameBut it h2 h3:=s3
 replace r3:IsItemIter h3 it d (i+1) es.size ep e.key v0:=r3
 refine wpAny_bind (wpAny_setField_rec r3 (by simp) fun h4 r4 s4=>?_)
 replace s4:Heap.SameBut it h3 h4:=s4
 replace r4:IsItemIter h4 it d (i+1) es.size ep e.key e.val:=r4
 refine wpAny_bind (wpAny_setField_rec r4 (by simp) fun h5 r5 s5=>?_)
 replace s5:Heap.SameBut it h4 h5:=s5
 replace r5:IsItemIterOut h5 it d (i+1) es.size ep e.key e.val hp.objs.size:=r5
 refine wpAny_bind (wpAny_setField_rec r5 (by simp) fun h6 r6 s6=>?_)
 replace s6:Heap.SameBut it h5 h6:=s6
 replace r6:IsItemIterOut h6 it d (i+1) es.size ep e.key e.val hp.objs.size:=r6
 have up:∀ b o,b≠it→h2.get? b=some o→h6.get? b=some o:=fun b o n e=>s6.extBut _ _ n (s5.extBut _ _ n (s4.extBut _ _ n (s3.extBut _ _ n e)))
 refine wpAny_bind (wpAny_letGo (wpAny_pure (wpAny_pure ⟨_,rfl,wpAny_pure (q h6 r6 (up _ _ (Nat.ne_of_gt il) t2) ?_ fun b o n e=>up b o n (k2 b o n e))⟩)))
 show h6.objs.size=hp.objs.size+1
 rw [s6.1,s5.1,s4.1,s3.1,z2]
theorem vS {it : Addr} {k0 v0 : Value} {Q : Option Value → Shared → Prop} (hh : A.handled = none) (hit : IsItemIter s.heap it d es.size es.size ep k0 v0) (ho : s.heap.get? d = some o) (hd : o.data = .dict es ep)
    (q : ∀ h', Heap.ExtBut it s.heap h' → Q none { s with heap := h' }) : wpAny (model prog w) A (pyNext (.ref it)) Q E s := by
  have hT : s.TypeIs (.ref it) "dict_itemiterator" := ⟨_, hit, rfl⟩
  unfold pyNext
  refine wpAny_bind (wpAny_attempt (wpAny_callSpecial?_slot (name := Str.ofString "__next__") hT F.slot_dict_itemiterator_next (wpAny_call_entry F.slot_dict_itemiterator_next hT F.entry_dict_itemiterator_next ?_ (F.args_dict_itemiterator_next_1 _))))
  refine wpAny_bind (wpAny_pure (wpAny_bind (wpAny_bind ?_)))
  first | refine wpAny_bind (wpAny_typeNameOfWhole_itemiter hT (wpAny_pure (wpAny_bind (wpAny_fieldsOf hit rfl ?_)))) | refine wpAny_bind (wpAny_typeNameOf_itemiter hT (wpAny_pure (wpAny_bind (wpAny_fieldsOf hit rfl ?_))))
  simp only [show Builtin.Dict_items.ownsTuple "dict_itemiterator" = true by decide, if_true]
  show wpAny _ _ (if (Value.ref d == Value.none) = true then _ else _) _ _ _
  rw [if_neg (by exact Bool.false_ne_true)]
  refine wpAny_bind (wpAny_pure (wpAny_bind (wpAny_dictEntries ho hd ?_)))
  rw [if_neg (by simp)]
  refine wpAny_bind (wpAny_pure (wpAny_bind (wpAny_dictEpoch ho hd ?_)))
  rw [if_neg (by simp)]
  refine wpAny_pure ?_
  simp only [show ¬ ((es.size : Int) < 0) from by omega, if_false, Int.toNat_natCast, Array.getElem?_eq_none (Nat.le_refl es.size)]
  refine wpAny_bind ?_
  first | refine wpAny_bind (wpAny_typeNameOfWhole_itemiter hT (wpAny_pure ?_)) | refine wpAny_bind (wpAny_typeNameOf_itemiter hT (wpAny_pure ?_))
  show wpAny _ _ (setField (.ref it) 2 .none >>= _) _ _ s
  refine wpAny_bind (wpAny_setField hit rfl (by simp) ?_)
  show wpAny _ _ (newExc (.type "StopIteration") [] >>= _) _ _ _
  simp only [newExc, newTuple]
  refine wpAny_bind (wpAny_bind (wpAny_newObj_type (wpAny_bind (m := firstArgMember _ _) (wpAny_of_eq (a := Value.none) (by first | rfl | (simp only [firstArgMember]; rfl)) (wpAny_newObj_type ?_ (by size_fits)))) (by size_fits)))
  simp only [raiseNew]
  refine wpAny_bind (wpAny_handled ?_)
  rw [show A.in1.handled = none from hh]
  refine wpAny_bind (wpAny_pure (wpAny_throw ?z))
  case z => refine wpAny_bind (wpAny_isInstance (T := "StopIteration") (b := true) ⟨_, Heap.get?_push_size _ rfl, rfl⟩ isSubtype_stop ?z)
            case z => exact wpAny_pure (q _ (((Heap.SameBut.update ..).extBut.push _).push _))
end
end L2
namespace L2
open PySem PySem.Spec PyProof.Rows
end L2
namespace L2
open PySem
theorem dE {H H':Hp}{p:Addr}{o:HO}(h:H p=none)(s:Same H H'):Same H (upd H' p o):=fun b u e=>by rw [aO (aL e h)];exact s _ _ e
section
variable {K:PySem.W.Frag}
theorem xK {H:Hp}{a:Addr}{rs:List V}{T:List (List Int)}(h:SqT K H a rs)(r:Rows K H rs T):Sh K H (jD T) (.ref a):=⟨a,rs,rfl,h,ShL.of_rows r.1 r.2⟩
end
end L2
namespace L2
open PySem
open PySem.SeqAt
section
variable {X:Cx}
end
end L2
namespace L2
open PySem PySem.W PyProof.Rows
section
variable (r:Nat→Int)
noncomputable def rlt (i j:Nat):Bool:=decide (r i<r j)
noncomputable def bF {α:Type}:KasT α→α
 | .ret a=>a
 | .ask i j k=>bF (k (rlt r i j))
theorem dQ {α β:Type}{f:α→KasT β}:∀ t:KasT α,bF r (t.bind f)=bF r (f (bF r t))
 | .ret _=>rfl
 | .ask i j k=>by
  show bF r ((k (rlt r i j)).bind f)=_
  exact dQ (k (rlt r i j))
noncomputable def Kr (p:Array Nat) (i:Nat):Int:=r (p.getD i 0)
noncomputable def Srt (p:Array Nat) (n:Nat):Prop:=∀ i j,i≤j→j<n→Kr r p i≤Kr r p j
noncomputable def Dsc (p:Array Nat) (n:Nat):Prop:=∀ i j,i≤j→j<n→Kr r p j≤Kr r p i
variable {r}
theorem kM {p q:Array Nat}{i j:Nat}(h:p[i]?=q[j]?):Kr r p i=Kr r q j:=by
 unfold Kr
 rw [Array.getD_eq_getD_getElem?,Array.getD_eq_getD_getElem?,h]
theorem zK {p:Array Nat}{a b:Nat}(h:Kr r p a<Kr r p b):rlt r (p.getD a 0) (p.getD b 0)=true:=decide_eq_true h
theorem zR {p:Array Nat}{a b:Nat}(h:¬ Kr r p a<Kr r p b):¬ rlt r (p.getD a 0) (p.getD b 0)=true:=fun e=>h (of_decide_eq_true e)
theorem aBJ {p:Array Nat}{i j:Nat}(hj:j≤p.size)(k:Nat):Kr r (kas_rev p i j) k=if i≤k∧k<j then Kr r p (i+j - 1 - k) else Kr r p k:=by
 have:=getElem?_mirror_all (i:=i) hj k
 by_cases c:i≤k∧k<j
 ·rw [if_pos c] at this ⊢;exact kM this
 ·rw [if_neg c] at this ⊢;exact kM this
theorem aFc {p:Array Nat}{src d:Nat}(hs:src<p.size)(hd:d≤src)(k:Nat):Kr r (bubble p src d) k=if k=src - d then Kr r p src else if src - d<k∧k≤src then Kr r p (k - 1) else Kr r p k:=by
 have:=getElem?_bubble hs d hd k
 by_cases c:k=src - d
 ·rw [if_pos c] at this ⊢;exact kM this
 ·rw [if_neg c] at this ⊢
  by_cases e:src - d<k∧k≤src
  ·rw [if_pos e] at this ⊢;exact kM this
  ·rw [if_neg e] at this ⊢;exact kM this
theorem eM (p:Array Nat)(i j:Nat):(kas_rev p i j).Perm p:=mirror_perm _ _ _ _
theorem tH {p:Array Nat}:∀ f n,1≤n→Srt r p n→n≤bF r (kas_asc p f n)∧bF r (kas_asc p f n)≤n+f∧Srt r p (bF r (kas_asc p f n))∧(bF r (kas_asc p f n)<n+f→Kr r p (bF r (kas_asc p f n))<Kr r p (bF r (kas_asc p f n) - 1))
 | 0,n,h1,hs=>⟨Nat.le_refl _,Nat.le_refl _,hs,fun h=>absurd h (Nat.lt_irrefl _)⟩
 | f+1,n,h1,hs=>by
  have e:bF r (kas_asc p (f+1) n)=bF r (if rlt r (p.getD n 0) (p.getD (n - 1) 0)=true then .ret n else kas_asc p f (n+1)):=rfl
  rw [e]
  by_cases c:Kr r p n<Kr r p (n - 1)
  ·rw [if_pos (zK c)]
   exact ⟨Nat.le_refl _,Nat.le_add_right _ _,hs,fun _=>c⟩
  ·rw [if_neg (zR c)]
   obtain ⟨a1,a2,a3,a4⟩:=tH (p:=p) f (n+1) (by omega) fun i j hij hj=>by
    by_cases e1:j=n
    ·subst e1
     by_cases e2:i=j
     ·subst e2;omega
     ·have:=hs i (j - 1) (by omega) (by omega);omega
    ·exact hs i j hij (by omega)
   exact ⟨by omega,by omega,a3,fun h=>a4 (by omega)⟩
theorem qC {p:Array Nat}{i j:Nat}(hj:j≤p.size)(h:∀ k,i≤k→k<j→Kr r p k=Kr r p (j - 1))(k:Nat):Kr r (kas_rev p i j) k=Kr r p k:=by
 rw [aBJ hj]
 split
 ·next c=>rw [h _ (by omega) (by omega),h k c.1 c.2]
 ·rfl
theorem mR:∀ f (p:Array Nat) n q,1≤n→n+f≤p.size→q<n→Dsc r p n→(∀ i,n - (q+1)≤i→i<n→Kr r p i=Kr r p (n - 1))→∀ R,R=bF r (kas_desc f p n q) →
  R.1.size=p.size∧R.1.Perm p∧n≤R.2.1∧R.2.1≤n+f∧R.2.2<R.2.1∧Dsc r R.1 R.2.1∧∀ i,R.2.1 - (R.2.2+1)≤i→i<R.2.1→Kr r R.1 i=Kr r R.1 (R.2.1 - 1)
 | 0,p,n,q,h1,hz,hq,hd,he,R,hR=>by subst hR;exact ⟨rfl,Array.Perm.refl _,Nat.le_refl _,Nat.le_refl _,hq,hd,he⟩
 | f+1,p,n,q,h1,hz,hq,hd,he,R,hR=>by
  have e:bF r (kas_desc (f+1) p n q)=bF r (if rlt r (p.getD n 0) (p.getD (n - 1) 0)=true then (if q > 0 then kas_desc f (kas_rev p (n - (q+1)) n) (n+1) 0 else kas_desc f p (n+1) 0) else .ask (p.getD (n - 1) 0) (p.getD n 0) fun d=>if d=true then .ret (p,n,q) else kas_desc f p (n+1) (q+1)):=rfl
  rw [e] at hR
  by_cases c:Kr r p n<Kr r p (n - 1)
  ·rw [if_pos (zK c)] at hR
   have hd1:Dsc r p (n+1):=fun i j hij hj=>by
    by_cases e1:j=n
    ·subst e1
     by_cases e2:i=j
     ·subst e2;omega
     ·have:=hd i (j - 1) (by omega) (by omega);omega
    ·exact hd i j hij (by omega)
   by_cases c2:q > 0
   ·rw [if_pos c2] at hR
    have kk:=fun k=>qC (r:=r) (p:=p) (i:=n - (q+1)) (j:=n) (by omega) he k
    have sz:(kas_rev p (n - (q+1)) n).size=p.size:=mirror_size _ _ _ _
    obtain ⟨a1,a2,a3,a4,a5,a6,a7⟩:=mR f (kas_rev p (n - (q+1)) n) (n+1) 0 (by omega) (by rw [sz];omega) (by omega) (fun i j hij hj=>by rw [kk,kk];exact hd1 i j hij hj) (fun i h2 h3=>by rw [show i=n by omega];rfl) R hR
    exact ⟨a1.trans sz,a2.trans (eM _ _ _),by omega,by omega,a5,a6,a7⟩
   ·rw [if_neg c2] at hR
    obtain ⟨a1,a2,a3,a4,a5,a6,a7⟩:=mR f p (n+1) 0 (by omega) (by omega) (by omega) hd1 (fun i h2 h3=>by rw [show i=n by omega];rfl) R hR
    exact ⟨a1,a2,by omega,by omega,a5,a6,a7⟩
  ·rw [if_neg (zR c)] at hR
   have e2:bF r (KasT.ask (p.getD (n - 1) 0) (p.getD n 0) fun d=>if d=true then .ret (p,n,q) else kas_desc f p (n+1) (q+1))=bF r (if rlt r (p.getD (n - 1) 0) (p.getD n 0)=true then .ret (p,n,q) else kas_desc f p (n+1) (q+1)):=rfl
   rw [e2] at hR
   by_cases d:Kr r p (n - 1)<Kr r p n
   ·rw [if_pos (zK d)] at hR
    subst hR
    exact ⟨rfl,Array.Perm.refl _,Nat.le_refl _,Nat.le_add_right _ _,hq,hd,he⟩
   ·rw [if_neg (zR d)] at hR
    obtain ⟨a1,a2,a3,a4,a5,a6,a7⟩:=mR f p (n+1) (q+1) (by omega) (by omega) (by omega) (fun i j hij hj=>by
     by_cases e1:j=n
     ·subst e1
      by_cases e2:i=j
      ·subst e2;omega
      ·have:=hd i (j - 1) (by omega) (by omega);omega
     ·exact hd i j hij (by omega)) (fun i h2 h3=>by
     show Kr r p i=Kr r p n
     by_cases e1:i=n
     ·rw [e1]
     ·have:=he i (by omega) (by omega);omega) R hR
    exact ⟨a1,a2,by omega,by omega,a5,a6,a7⟩
noncomputable def aAT (r:Nat→Int) (nrem n:Nat) (p:Array Nat) (R:Nat × Array Nat):Prop:=R.2.size=p.size∧R.2.Perm p∧n≤R.1∧R.1≤nrem∧Srt r R.2 R.1
theorem rE {n nrem:Nat}{p:Array Nat}(h1:1≤n)(hn:n≤nrem)(hz:nrem≤p.size)(hd:Dsc r p n):aAT r nrem n p (bF r (kas_tail3 n nrem p)):=by
 unfold kas_tail3
 rw [dQ]
 have hs:Srt r (kas_rev p 0 n) n:=fun i j hij hj=>by
  rw [aBJ (by omega),aBJ (by omega),if_pos ⟨by omega,by omega⟩,if_pos ⟨by omega,hj⟩]
  exact hd _ _ (by omega) (by omega)
 obtain ⟨a1,a2,a3,_⟩:=tH (p:=kas_rev p 0 n) (nrem - n) n h1 hs
 exact ⟨mirror_size _ _ _ _,eM _ _ _,a1,by show bF r _≤_;omega,a3⟩
theorem lT {n nrem:Nat}{p:Array Nat}(hn:n+1≤nrem)(hz:nrem≤p.size)(hd:Dsc r p (n+1)):aAT r nrem 1 p (bF r (kas_descPart n nrem p)):=by
 unfold kas_descPart
 rw [dQ]
 obtain ⟨a1,a2,a3,a4,a5,a6,a7⟩:=mR (nrem - (n+1)) p (n+1) 0 (by omega) (by omega) (by omega) hd (fun i h2 h3=>by rw [show i=n by omega];rfl) _ rfl
 generalize bF r (kas_desc (nrem - (n+1)) p (n+1) 0)=R at a1 a2 a3 a4 a5 a6 a7 ⊢
 by_cases c:R.2.2 > 0
 ·rw [if_pos c]
  have kk:=fun k=>qC (r:=r) (p:=R.1) (i:=R.2.1 - (R.2.2+1)) (j:=R.2.1) (by omega) a7 k
  have sz:(kas_rev R.1 (R.2.1 - (R.2.2+1)) R.2.1).size=R.1.size:=mirror_size _ _ _ _
  obtain ⟨b1,b2,b3,b4,b5⟩:=rE (r:=r) (n:=R.2.1) (nrem:=nrem) (p:=kas_rev R.1 (R.2.1 - (R.2.2+1)) R.2.1) (by omega) (by omega) (by rw [sz];omega) fun i j hij hj=>by rw [kk,kk];exact a6 i j hij hj
  exact ⟨b1.trans (sz.trans a1),b2.trans ((eM _ _ _).trans a2),by omega,b4,b5⟩
 ·rw [if_neg c]
  obtain ⟨b1,b2,b3,b4,b5⟩:=rE (r:=r) (n:=R.2.1) (nrem:=nrem) (p:=R.1) (by omega) (by omega) (by omega) a6
  exact ⟨b1.trans a1,b2.trans a2,by omega,b4,b5⟩
theorem xL {nrem:Nat}{p:Array Nat}(h1:1≤nrem)(hz:nrem≤p.size):aAT r nrem 1 p (bF r (kas_count nrem p)):=by
 unfold kas_count
 rw [dQ]
 obtain ⟨a1,a2,a3,a4⟩:=tH (r:=r) (p:=p) (nrem - 1) 1 (Nat.le_refl _) fun i j hij hj=>by rw [show i=j by omega];omega
 generalize bF r (kas_asc p (nrem - 1) 1)=n at a1 a2 a3 a4 ⊢
 by_cases c:(n == nrem)=true
 ·rw [if_pos c]
  exact ⟨rfl,Array.Perm.refl _,a1,by show n≤nrem;omega,a3⟩
 ·rw [if_neg c]
  have cn:n≠nrem:=fun e=>c (by rw [e];exact beq_self_eq_true _)
  have lt:=a4 (by omega)
  by_cases d:n > 1
  ·rw [if_pos d]
   show aAT r nrem 1 p (bF r (if rlt r (p.getD 0 0) (p.getD (n - 1) 0)=true then .ret (n,p) else kas_descPart n nrem (kas_rev p 0 n)))
   by_cases e:Kr r p 0<Kr r p (n - 1)
   ·rw [if_pos (zK e)]
    exact ⟨rfl,Array.Perm.refl _,a1,by show n≤nrem;omega,a3⟩
   ·rw [if_neg (zR e)]
    have eq:∀ k,0≤k→k<n→Kr r p k=Kr r p (n - 1):=fun k _ hk=>by
     have g1:=a3 0 k (by omega) hk
     have g2:=a3 k (n - 1) (by omega) (by omega)
     omega
    have kk:=fun k=>qC (r:=r) (p:=p) (i:=0) (j:=n) (by omega) eq k
    have sz:(kas_rev p 0 n).size=p.size:=mirror_size _ _ _ _
    obtain ⟨b1,b2,b3,b4,b5⟩:=lT (r:=r) (n:=n) (nrem:=nrem) (p:=kas_rev p 0 n) (by omega) (by rw [sz];omega) fun i j hij hj=>by
     rw [kk,kk]
     by_cases e1:j=n
     ·subst e1
      by_cases e2:i=j
      ·subst e2;omega
      ·have:=eq i (by omega) (by omega);omega
     ·have g1:=eq i (by omega) (by omega)
      have g2:=eq j (by omega) (by omega)
      omega
    exact ⟨b1.trans sz,b2.trans (eM _ _ _),b3,b4,b5⟩
  ·rw [if_neg d]
   refine lT (by omega) hz fun i j hij hj=>?_
   have:n=1:=by omega
   subst this
   by_cases e2:i=j
   ·subst e2;omega
   ·rw [show i=0 by omega,show j=1 by omega]
    exact Int.le_of_lt lt
theorem nN {p:Array Nat}{k:Nat}(hs:Srt r p k):∀ f l q,l≤q→q≤k→q - l≤f→(∀ i,i<l→Kr r p i≤Kr r p k)→(∀ i,q≤i→i<k→Kr r p k<Kr r p i) →
  ∀ m,m=bF r (kas_place p k f l q)→m≤k∧(∀ i,i<m→Kr r p i≤Kr r p k)∧∀ i,m≤i→i<k→Kr r p k<Kr r p i
 | 0,l,q,h1,h2,h3,ha,hb,m,hm=>by
  obtain rfl:m=l:=hm
  exact ⟨by omega,ha,fun i hi hk=>hb i (by omega) hk⟩
 | f+1,l,q,h1,h2,h3,ha,hb,m,hm=>by
  have e:bF r (kas_place p k (f+1) l q)=bF r (if l≥q then .ret l else .ask (p.getD k 0) (p.getD ((l+q) / 2) 0) fun c=>if c=true then kas_place p k f l ((l+q) / 2) else kas_place p k f ((l+q) / 2+1) q):=rfl
  rw [e] at hm
  by_cases c:l≥q
  ·rw [if_pos c] at hm
   obtain rfl:m=l:=hm
   exact ⟨by omega,ha,fun i hi hk=>hb i (by omega) hk⟩
  ·rw [if_neg c] at hm
   have e2:bF r (KasT.ask (p.getD k 0) (p.getD ((l+q) / 2) 0) fun c=>if c=true then kas_place p k f l ((l+q) / 2) else kas_place p k f ((l+q) / 2+1) q)=bF r (if rlt r (p.getD k 0) (p.getD ((l+q) / 2) 0)=true then kas_place p k f l ((l+q) / 2) else kas_place p k f ((l+q) / 2+1) q):=rfl
   rw [e2] at hm
   by_cases d:Kr r p k<Kr r p ((l+q) / 2)
   ·rw [if_pos (zK d)] at hm
    exact nN hs f l ((l+q) / 2) (by omega) (by omega) (by omega) ha (fun i hi hk=>by have:=hs ((l+q) / 2) i hi hk;omega) m hm
   ·rw [if_neg (zR d)] at hm
    exact nN hs f ((l+q) / 2+1) q (by omega) h2 (by omega) (fun i hi=>by have:=hs i ((l+q) / 2) (by omega) (by omega);omega) hb m hm
theorem yF:∀ f (p:Array Nat) k,k+f≤p.size→Srt r p k→(bF r (kas_bin f p k)).Perm p∧(bF r (kas_bin f p k)).size=p.size∧Srt r (bF r (kas_bin f p k)) (k+f)
 | 0,p,k,hz,hs=>⟨Array.Perm.refl _,rfl,hs⟩
 | f+1,p,k,hz,hs=>by
  have e:bF r (kas_bin (f+1) p k)=bF r (kas_bin f (bubble p k (k - bF r (kas_place p k k 0 k))) (k+1)):=dQ (r:=r) _
  rw [e]
  obtain ⟨a1,a2,a3⟩:=nN hs k 0 k (by omega) (by omega) (by omega) (fun i hi=>by omega) (fun i h1 h2=>by omega) _ rfl
  generalize bF r (kas_place p k k 0 k)=l at a1 a2 a3 ⊢
  have sz:(bubble p k (k - l)).size=p.size:=bubble_size _ _ _
  have kb:=fun i=>aFc (r:=r) (p:=p) (src:=k) (d:=k - l) (by omega) (by omega) i
  obtain ⟨b1,b2,b3⟩:=yF f (bubble p k (k - l)) (k+1) (by rw [sz];omega) fun i j hij hj=>by
   rw [kb,kb]
   have g1:∀ i,i<l→Kr r p i≤Kr r p k:=a2
   have g2:∀ i,l≤i→i<k→Kr r p k<Kr r p i:=a3
   by_cases i1:i=k - (k - l) <;> by_cases j1:j=k - (k - l)
   ·rw [if_pos i1,if_pos j1];omega
   ·rw [if_pos i1,if_neg j1,if_pos ⟨by omega,by omega⟩]
    exact Int.le_of_lt (g2 _ (by omega) (by omega))
   ·rw [if_neg i1,if_pos j1,if_neg (by omega)]
    exact g1 i (by omega)
   ·rw [if_neg i1,if_neg j1]
    by_cases i2:k - (k - l)<i∧i≤k
    ·rw [if_pos i2,if_pos ⟨by omega,by omega⟩]
     exact hs _ _ (by omega) (by omega)
    ·rw [if_neg i2]
     by_cases j2:k - (k - l)<j∧j≤k
     ·rw [if_pos j2]
      exact hs _ _ (by omega) (by omega)
     ·rw [if_neg j2]
      exact hs _ _ hij (by omega)
  exact ⟨b1.trans (bubble_perm _ _ _),b2.trans sz,by rw [show k+(f+1)=k+1+f by omega];exact b3⟩
theorem aAB {n:Nat}(h1:1≤n):(bF r (kas_sort n)).Perm (List.toArray (List.range n))∧(bF r (kas_sort n)).size=n∧Srt r (bF r (kas_sort n)) n:=by
 unfold kas_sort
 rw [dQ]
 have hz:(List.toArray (List.range n)).size=n:=by simp
 obtain ⟨a1,a2,a3,a4,a5⟩:=xL (r:=r) (nrem:=n) (p:=List.toArray (List.range n)) h1 (by omega)
 generalize bF r (kas_count n (List.toArray (List.range n)))=R at a1 a2 a3 a4 a5 ⊢
 by_cases c:R.1<n
 ·rw [if_pos c]
  obtain ⟨b1,b2,b3⟩:=yF (r:=r) (n - max R.1 1) R.2 (max R.1 1) (by omega) (by rw [show max R.1 1=R.1 by omega];exact a5)
  exact ⟨b1.trans a2,by omega,by rw [show max R.1 1+(n - max R.1 1)=n by omega] at b3;exact b3⟩
 ·rw [if_neg c]
  exact ⟨a2,by show R.2.size=n;omega,by rw [show R.1=n by omega] at a5;exact a5⟩
end
end L2
namespace L2
open PySem PySem.W PyProof.Rows
section
variable {N:Nat}
noncomputable def Bnd (N:Nat) (p:Array Nat):Prop:=∀ k,p.getD k 0<N
theorem Bnd.perm {p q:Array Nat}(hN:0<N)(h:Bnd N p)(e:q.Perm p):Bnd N q:=fun k=>by
 rw [Array.getD_eq_getD_getElem?]
 by_cases c:k<q.size
 ·rw [Array.getElem?_eq_getElem c]
  have hm:q[k]∈p:=e.mem_iff.mp (Array.getElem_mem c)
  obtain ⟨i,hi,e2⟩:=Array.getElem_of_mem hm
  have:=h i
  rw [Array.getD_eq_getD_getElem?,Array.getElem?_eq_getElem hi] at this
  show q[k]<N
  rw [← e2]
  exact this
 ·rw [Array.getElem?_eq_none (by omega)]
  exact hN
noncomputable def AskP (N:Nat) {α:Type} (P:α→Prop):KasT α→Prop
 | .ret a=>P a
 | .ask i j k=>i<N∧j<N∧∀ b,AskP N P (k b)
theorem AskP.bind {α β:Type}{f:α→KasT β}{P:α→Prop}{Q:β→Prop}(hf:∀ a,P a→AskP N Q (f a)):∀ t:KasT α,AskP N P t→AskP N Q (t.bind f)
 | .ret a,h=>hf a h
 | .ask i j k,h=>⟨h.1,h.2.1,fun b=>AskP.bind hf (k b) (h.2.2 b)⟩
theorem AskP.ite {α:Type}{P:α→Prop}{c:Prop}[Decidable c]{t u:KasT α}(h1:c→AskP N P t)(h2:¬ c→AskP N P u):AskP N P (if c then t else u):=by
 by_cases h:c
 ·rw [if_pos h];exact h1 h
 ·rw [if_neg h];exact h2 h
theorem sX {p:Array Nat}(hb:Bnd N p):∀ f n,AskP N (fun _=>True) (kas_asc p f n)
 | 0,n=>trivial
 | f+1,n=>⟨hb _,hb _,fun b=>AskP.ite (fun _=>trivial) fun _=>sX hb f (n+1)⟩
theorem mQ (hN:0<N):∀ f (p:Array Nat) n q,Bnd N p→AskP N (fun R=>Bnd N R.1) (kas_desc f p n q)
 | 0,p,n,q,hb=>hb
 | f+1,p,n,q,hb=>⟨hb _,hb _,fun b=>AskP.ite (fun _=>AskP.ite (fun _=>mQ hN f _ _ _ (hb.perm hN (eM _ _ _))) fun _=>mQ hN f _ _ _ hb) fun _=>⟨hb _,hb _,fun d=>AskP.ite (fun _=>hb) fun _=>mQ hN f _ _ _ hb⟩⟩
theorem rL (hN:0<N){n nrem:Nat}{p:Array Nat}(hb:Bnd N p):AskP N (fun R:Nat × Array Nat=>Bnd N R.2) (kas_tail3 n nrem p):=by
 unfold kas_tail3
 refine AskP.bind (P:=fun _=>True) (fun a _=>?_) _ (sX (hb.perm hN (eM _ _ _)) _ _)
 exact hb.perm hN (eM _ _ _)
theorem lW (hN:0<N){n nrem:Nat}{p:Array Nat}(hb:Bnd N p):AskP N (fun R:Nat × Array Nat=>Bnd N R.2) (kas_descPart n nrem p):=by
 unfold kas_descPart
 refine AskP.bind (fun R hR=>?_) _ (mQ hN _ _ _ _ hb)
 exact AskP.ite (fun _=>rL hN (Bnd.perm hN hR (eM _ _ _))) fun _=>rL hN hR
theorem yB (hN:0<N){nrem:Nat}{p:Array Nat}(hb:Bnd N p):AskP N (fun R:Nat × Array Nat=>Bnd N R.2) (kas_count nrem p):=by
 unfold kas_count
 refine AskP.bind (P:=fun _=>True) (fun n _=>?_) _ (sX hb _ _)
 refine AskP.ite (fun _=>?_) fun _=>AskP.ite (fun _=>⟨hb _,hb _,fun c=>AskP.ite (fun _=>?_) fun _=>lW hN (hb.perm hN (eM _ _ _))⟩) fun _=>lW hN hb
 ·exact hb
 ·exact hb
theorem nG {p:Array Nat}{k:Nat}(hb:Bnd N p):∀ f l q,AskP N (fun _=>True) (kas_place p k f l q)
 | 0,l,q=>trivial
 | f+1,l,q=>AskP.ite (fun _=>trivial) fun _=>⟨hb _,hb _,fun c=>AskP.ite (fun _=>nG hb f _ _) fun _=>nG hb f _ _⟩
theorem xS (hN:0<N):∀ f (p:Array Nat) k,Bnd N p→AskP N (fun _=>True) (kas_bin f p k)
 | 0,p,k,hb=>trivial
 | f+1,p,k,hb=>AskP.bind (fun l _=>xS hN f _ _ (hb.perm hN (bubble_perm _ _ _))) _ (nG hb _ _ _)
theorem aAl (hN:0<N):AskP N (fun _=>True) (kas_sort N):=by
 have hb:Bnd N (List.toArray (List.range N)):=fun k=>by
  rw [Array.getD_eq_getD_getElem?]
  by_cases c:k<N
  ·simp [c]
  ·simp [c,hN]
 unfold kas_sort
 refine AskP.bind (fun R hR=>?_) _ (yB hN hb)
 refine AskP.ite (fun _=>xS hN _ _ _ hR) fun _=>?_
 exact trivial
theorem aBg {r:Nat→Int}{cmp:Nat→Nat→(Bool→Shared→Prop)→Shared→Prop}{s:Shared}(hc:∀ i j C,i<N→j<N→C (rlt r i j) s→cmp i j C s){α:Type}{P:α→Prop}{Q:α→Shared→Prop}:∀ t:KasT α,AskP N P t→Q (bF r t) s→t.kasWp cmp Q s
 | .ret a,_,h=>h
 | .ask i j k,ha,h=>hc i j _ ha.1 ha.2.1 (aBg hc (k (rlt r i j)) (ha.2.2 _) h)
end
theorem vD:∀ {a b:List Int},dD a b=false→dD b a=false→a=b
 | [],[],_,_=>rfl
 | [],_ :: _,h,_=>by cases h
 | _ :: _,[],_,h=>by cases h
 | x :: a,y :: b,h1,h2=>by
  rw [dD] at h1 h2
  by_cases e:x=y
  ·subst e
   rw [if_pos rfl] at h1 h2
   rw [vD h1 h2]
  ·rw [if_neg e] at h1
   rw [if_neg (Ne.symm e)] at h2
   have g1:=of_decide_eq_false h1
   have g2:=of_decide_eq_false h2
   omega
noncomputable def rank (R:List (List Int)) (i:Nat):Int:=((R.countP fun q=>dD q (R.getD i [])):Nat)
theorem rX {p q:List Int→Bool}:∀ {l:List (List Int)},(∀ x∈l,p x=true→q x=true)→(∃ x∈l,p x=false∧q x=true)→l.countP p<l.countP q
 | [],_,⟨_,h,_⟩=>by cases h
 | a :: l,h,⟨x,hx,h1,h2⟩=>by
  have mono:l.countP p≤l.countP q:=List.countP_mono_left fun x hx=>h x (List.mem_cons_of_mem _ hx)
  rw [List.countP_cons,List.countP_cons]
  rcases List.mem_cons.mp hx with e | hx
  ·subst e
   rw [h1,h2]
   simp
   omega
  ·have ih:=rX (fun x hx=>h x (List.mem_cons_of_mem _ hx)) ⟨x,hx,h1,h2⟩
   have ha:=h a (List.mem_cons_self ..)
   cases e1:p a with
   | false=>simp;split <;> omega
   | true=>rw [ha e1];simp;omega
theorem tN {R:List (List Int)}{i j:Nat}(hi:i<R.length)(hj:j<R.length):(rank R i<rank R j)↔dD (R.getD i []) (R.getD j [])=true:=by
 have mem:∀ k,k<R.length→R.getD k []∈R:=fun k hk=>by
  rw [List.getD_eq_getElem?_getD,List.getElem?_eq_getElem hk];exact List.getElem_mem hk
 unfold rank
 constructor
 ·intro h
  cases e:dD (R.getD i []) (R.getD j []) with
  | true=>rfl
  | false=>
   exfalso
   have:R.countP (fun q=>dD q (R.getD j []))≤R.countP (fun q=>dD q (R.getD i [])):=List.countP_mono_left fun x _ hx=>by
    cases e2:dD (R.getD j []) (R.getD i []) with
    | true=>exact iK hx e2
    | false=>rw [vD e e2];exact hx
   omega
 ·intro h
  have:=rX (l:=R) (p:=fun q=>dD q (R.getD i [])) (q:=fun q=>dD q (R.getD j [])) (fun x _ hx=>iK hx h) ⟨_,mem i hi,iP _,h⟩
  omega
end L2
namespace L2
open PySem PySem.W PyProof.Rows
section
variable {prog:Program}{w:World}{A:Around}{E:Value→Shared→Prop}{s:Shared}
noncomputable def Put (R:List (List Int)) (p:Array Nat):Prop:=p.Perm (List.toArray (List.range R.length))∧∀ i j,i≤j→j<R.length→dD (R.getD (p.getD j 0) []) (R.getD (p.getD i 0) [])=false
end
end L2
namespace L2
open PySem PySem.W PyProof.Rows
section
variable {prog:Program}{w:World}{A:Around}{E:Value→Shared→Prop}{s:Shared}
end
theorem aBb {R:List (List Int)}{p:Array Nat}(h:Put R p):(p.toList.map fun i=>R.getD i []).Perm R∧(p.toList.map fun i=>R.getD i []).Pairwise (fun a b=>dD b a=false):=by
 have pl:p.toList.Perm (List.range R.length):=by simpa using Array.perm_iff_toList_perm.mp h.1
 have e:(List.range R.length).map (fun i=>R.getD i [])=R:=by
  apply List.ext_getElem
  ·simp
  ·intro i h1 h2
   rw [List.getElem_map,List.getElem_range,List.getD_eq_getElem?_getD,List.getElem?_eq_getElem h2];rfl
 have hl:p.size=R.length:=by rw [← Array.length_toList,pl.length_eq,List.length_range]
 refine ⟨by have:=pl.map fun i=>R.getD i [];rw [e] at this;exact this,?_⟩
 rw [List.pairwise_iff_getElem]
 intro i j hi hj hij
 rw [List.length_map,Array.length_toList] at hi hj
 have:=h.2 i j (by omega) (by omega)
 rw [Array.getD_eq_getD_getElem?,Array.getElem?_eq_getElem hj,Array.getD_eq_getD_getElem?,Array.getElem?_eq_getElem hi] at this
 rw [List.getElem_map,List.getElem_map,Array.getElem_toList,Array.getElem_toList]
 exact this
end L2
namespace L2
open PySem PyProof.Rows
theorem aAg (r q:List Int):eqD (.tup (r.map Dt.int)) (.tup (q.map Dt.int))=decide (r=q):=by
 by_cases h:r=q
 ·subst h;rw [iN,decide_eq_true rfl]
 ·rw [decide_eq_false h]
  cases e:eqD (.tup (r.map Dt.int)) (.tup (q.map Dt.int)) with
  | false=>rfl
  | true=>rw [eqD] at e;exact absurd (kG e) h
noncomputable def aFI (K:PySem.W.Frag) (neg:Bool):R2:=fun x y H Q=>∃ (b p:Addr) (r:List Int) (xs:List V) (R:List (List Int)),x = .ref b∧y = .ref p∧SqT K H b (r.map V.int)∧Sq K H p xs∧Rows K H xs R∧Q (.bl (if neg then !decide (r∈R) else decide (r∈R))) H
section
variable {X:Cx}
theorem uL {pins:List (Addr × Obj)}{σ:St}{H:Hp}{s:Shared}{b:Addr}{r:List Int}{xs:List V}{R:List (List Int)}{its:List Value}(hu:X.A.units+103<cLine)(I:Inv X pins σ H s)(hb:SqT X.K H b (r.map V.int))(hR:Rows X.K H xs R)(rv:Vals xs its) :
  ∃ e:Value→Bool,(∀ u,u∈its→SeqAt.EqAt X.A.in1 s u (.ref b) (e u))∧its.any e=decide (r∈R):=by
 classical
 have hl:=rv.length
 have row_of:∀ i (hi:i<its.length),∃ c,∃ hR':i<R.length,its[i] = .ref c∧SqT X.K H c (R[i].map V.int):=fun i hi=>by
  have hR':i<R.length:=by rw [← hR.1,hl];exact hi
  obtain ⟨c,e1,e2⟩:=hR.2 i R[i] (List.getElem?_eq_getElem hR')
  obtain ⟨u,eu,rU⟩:=rv.get e1
  rw [List.getElem?_eq_getElem hi] at eu
  cases eu
  exact ⟨c,hR',rU,e2⟩
 refine ⟨fun u=>decide (∃ c,u = .ref c∧SqT X.K H c (r.map V.int)),fun u hu'=>?_,?_⟩
 ·obtain ⟨i,hi,rfl⟩:=List.getElem_of_mem hu'
  obtain ⟨c,hR',e1,e2⟩:=row_of i hi
  rw [e1]
  have sh:∀ (q:List Int) (a:Addr),SqT X.K H a (q.map V.int)→Sh X.K H (.tup (q.map Dt.int)) (.ref a):=fun q a h=>⟨a,_,rfl,h,ShL.ints q⟩
  have g:=(I.eq_sh 100 X.A.in1 (.tup (R[i].map Dt.int)) (.tup (r.map Dt.int)) (.ref c) (.ref b) (.ref c) (.ref b) (by rw [dep,qA];decide) (by show X.A.units+1+100<cLine;omega) rfl rfl (sh _ _ e2) (sh _ _ hb)).2
  rw [aAg] at g
  have ee:decide (R[i]=r)=decide (∃ c',Value.ref c = .ref c'∧SqT X.K H c' (r.map V.int)):=by
   by_cases h:R[i]=r
   ·rw [decide_eq_true h,decide_eq_true ⟨c,rfl,h ▸ e2⟩]
   ·rw [decide_eq_false h,decide_eq_false]
    rintro ⟨c',e,h'⟩
    cases e
    have:=I.tuple_inj e2 h'
    exact h ((List.map_inj_right fun a b z=>V.int.inj z).mp this)
  show SeqAt.EqAt X.A.in1 s (Value.ref c) (Value.ref b) (decide (∃ c',Value.ref c = .ref c'∧SqT X.K H c' (r.map V.int)))
  rw [← ee]
  exact g
 ·by_cases h:r∈R
  ·rw [decide_eq_true h]
   obtain ⟨i,hi,e⟩:=List.getElem_of_mem h
   have hi':i<its.length:=by rw [← hl,hR.1];exact hi
   obtain ⟨c,_,e1,e2⟩:=row_of i hi'
   rw [List.any_eq_true]
   exact ⟨its[i],List.getElem_mem _,by rw [e1];exact decide_eq_true ⟨c,rfl,e ▸ e2⟩⟩
  ·rw [decide_eq_false h,List.any_eq_false]
   intro u hu'
   obtain ⟨i,hi,rfl⟩:=List.getElem_of_mem hu'
   obtain ⟨c,hR',e1,e2⟩:=row_of i hi
   rw [decide_eq_true_iff]
   rintro ⟨c',e,h'⟩
   rw [e1] at e
   cases e
   have:=I.tuple_inj e2 h'
   exact h ((List.map_inj_right fun a b z=>V.int.inj z).mp this ▸ List.getElem_mem hR')
theorem aDk (hu:X.A.units+103<cLine):OpR X (compareOp .In) (aFI X.K false):=by
 intro pins s σ H x y v u Q I rx ry ⟨b,p,r,xs,R,e1,e2,hb,hq,hR,q⟩
 subst e1 e2
 cases rx
 cases ry
 rcases hq with hq | hq
 ·obtain ⟨its,rv,pl,_⟩:=I.list hq
  obtain ⟨e,h1,h2⟩:=uL hu I hb hR rv
  refine SeqAt.in_listAt e pl.isList (fun w hw=>h1 w (by simpa using hw)) ⟨.bl _,H,I,rfl,?_⟩
  rw [show its.toArray.any e=its.any e by simp,h2]
  exact q
 ·obtain ⟨its,rv,pl,_⟩:=I.tuple hq
  obtain ⟨e,h1,h2⟩:=uL hu I hb hR rv
  refine SeqAt.in_tupleAt e pl (fun w hw=>h1 w (by simpa using hw)) ⟨.bl _,H,I,rfl,?_⟩
  rw [show its.toArray.any e=its.any e by simp,h2]
  exact q
end
noncomputable def aFR (K:PySem.W.Frag) (neg:Bool):R2:=fun x y H Q=>rIn K neg x y H Q∨aFI K neg x y H Q
theorem aCl {X:Cx}{K:PySem.W.Frag}{k:Nat}(hK:X.K=K)(hr:Room k X.A):OpR X (compareOp .In) (aFR K false):=by
 subst hK
 exact OpR.or wX (aDk (by have:=hr.un;omega))
end L2
namespace L2
open PySem PyProof.Rows
theorem xU (r q:List Int):eqD (.lst (r.map Dt.int)) (.lst (q.map Dt.int))=decide (r=q):=by
 by_cases h:r=q
 ·subst h;rw [iN,decide_eq_true rfl]
 ·rw [decide_eq_false h]
  cases e:eqD (.lst (r.map Dt.int)) (.lst (q.map Dt.int)) with
  | false=>rfl
  | true=>rw [eqD] at e;exact absurd (kG e) h
noncomputable def aDb (K:PySem.W.Frag) (H:Hp) (xs:List V) (T:List (List Int)):Prop:=xs.length=T.length∧∀ (i:Nat) (row:List Int),T[i]?=some row→∃ b,xs[i]?=some (.ref b)∧SqL K H b (row.map V.int)
noncomputable def aFK (K:PySem.W.Frag) (neg:Bool):R2:=fun x y H Q=>∃ (b p:Addr) (r:List Int) (xs:List V) (R:List (List Int)),x = .ref b∧y = .ref p∧SqL K H b (r.map V.int)∧Sq K H p xs∧aDb K H xs R∧Q (.bl (if neg then !decide (r∈R) else decide (r∈R))) H
section
variable {X:Cx}
theorem qY {pins:List (Addr × Obj)}{σ:St}{H:Hp}{s:Shared}{b:Addr}{r:List Int}{xs:List V}{R:List (List Int)}{its:List Value}(hu:X.A.units+103<cLine)(I:Inv X pins σ H s)(hb:SqL X.K H b (r.map V.int))(hR:aDb X.K H xs R)(rv:Vals xs its) :
  ∃ e:Value→Bool,(∀ u,u∈its→SeqAt.EqAt X.A.in1 s u (.ref b) (e u))∧its.any e=decide (r∈R):=by
 classical
 have hl:=rv.length
 have row_of:∀ i (hi:i<its.length),∃ c,∃ hR':i<R.length,its[i] = .ref c∧SqL X.K H c (R[i].map V.int):=fun i hi=>by
  have hR':i<R.length:=by rw [← hR.1,hl];exact hi
  obtain ⟨c,e1,e2⟩:=hR.2 i R[i] (List.getElem?_eq_getElem hR')
  obtain ⟨u,eu,rU⟩:=rv.get e1
  rw [List.getElem?_eq_getElem hi] at eu
  cases eu
  exact ⟨c,hR',rU,e2⟩
 refine ⟨fun u=>decide (∃ c,u = .ref c∧SqL X.K H c (r.map V.int)),fun u hu'=>?_,?_⟩
 ·obtain ⟨i,hi,rfl⟩:=List.getElem_of_mem hu'
  obtain ⟨c,hR',e1,e2⟩:=row_of i hi
  rw [e1]
  have sh:∀ (q:List Int) (a:Addr),SqL X.K H a (q.map V.int)→Sh X.K H (.lst (q.map Dt.int)) (.ref a):=fun q a h=>⟨a,_,rfl,h,ShL.ints q⟩
  have g:=(I.eq_sh 100 X.A.in1 (.lst (R[i].map Dt.int)) (.lst (r.map Dt.int)) (.ref c) (.ref b) (.ref c) (.ref b) (by rw [dep,qA];decide) (by show X.A.units+1+100<cLine;omega) rfl rfl (sh _ _ e2) (sh _ _ hb)).2
  rw [xU] at g
  have ee:decide (R[i]=r)=decide (∃ c',Value.ref c = .ref c'∧SqL X.K H c' (r.map V.int)):=by
   by_cases h:R[i]=r
   ·rw [decide_eq_true h,decide_eq_true ⟨c,rfl,h ▸ e2⟩]
   ·rw [decide_eq_false h,decide_eq_false]
    rintro ⟨c',e,h'⟩
    cases e
    have:=I.list_inj e2 h'
    exact h ((List.map_inj_right fun a b z=>V.int.inj z).mp this)
  show SeqAt.EqAt X.A.in1 s (Value.ref c) (Value.ref b) (decide (∃ c',Value.ref c = .ref c'∧SqL X.K H c' (r.map V.int)))
  rw [← ee]
  exact g
 ·by_cases h:r∈R
  ·rw [decide_eq_true h]
   obtain ⟨i,hi,e⟩:=List.getElem_of_mem h
   have hi':i<its.length:=by rw [← hl,hR.1];exact hi
   obtain ⟨c,_,e1,e2⟩:=row_of i hi'
   rw [List.any_eq_true]
   exact ⟨its[i],List.getElem_mem _,by rw [e1];exact decide_eq_true ⟨c,rfl,e ▸ e2⟩⟩
  ·rw [decide_eq_false h,List.any_eq_false]
   intro u hu'
   obtain ⟨i,hi,rfl⟩:=List.getElem_of_mem hu'
   obtain ⟨c,hR',e1,e2⟩:=row_of i hi
   rw [decide_eq_true_iff]
   rintro ⟨c',e,h'⟩
   rw [e1] at e
   cases e
   have:=I.list_inj e2 h'
   exact h ((List.map_inj_right fun a b z=>V.int.inj z).mp this ▸ List.getElem_mem hR')
theorem aDp (hu:X.A.units+103<cLine):OpR X (compareOp .In) (aFK X.K false):=by
 intro pins s σ H x y v u Q I rx ry ⟨b,p,r,xs,R,e1,e2,hb,hq,hR,q⟩
 subst e1 e2
 cases rx
 cases ry
 rcases hq with hq | hq
 ·obtain ⟨its,rv,pl,_⟩:=I.list hq
  obtain ⟨e,h1,h2⟩:=qY hu I hb hR rv
  refine SeqAt.in_listAt e pl.isList (fun w hw=>h1 w (by simpa using hw)) ⟨.bl _,H,I,rfl,?_⟩
  rw [show its.toArray.any e=its.any e by simp,h2]
  exact q
 ·obtain ⟨its,rv,pl,_⟩:=I.tuple hq
  obtain ⟨e,h1,h2⟩:=qY hu I hb hR rv
  refine SeqAt.in_tupleAt e pl (fun w hw=>h1 w (by simpa using hw)) ⟨.bl _,H,I,rfl,?_⟩
  rw [show its.toArray.any e=its.any e by simp,h2]
  exact q
end
noncomputable def aEt (K:PySem.W.Frag) (neg:Bool):R2:=fun x y H Q=>aFR K neg x y H Q∨aFK K neg x y H Q
theorem aBB {X:Cx}{K:PySem.W.Frag}{k:Nat}(hK:X.K=K)(hr:Room k X.A):OpR X (compareOp .In) (aEt K false):=OpR.or (aCl hK hr) (by subst hK;exact aDp (by have:=hr.un;omega))
end L2
namespace L2
open PySem PySem.Spec PyProof.Rows
section
variable {prog:Program}{w:World}{A:Around}{E:Value→Shared→Prop}{s:Shared}{d:Addr}{o:Obj}{es:Array DictEntry}{ep:Nat}
end
end L2
namespace L2
open PySem PySem.Spec PyProof.Rows
end L2
namespace L2
open PySem PySem.Spec PyProof.Rows
section
variable {prog:Program}{w:World}{K:Type}[DecidableEq K]{knd:HeapKind prog w K}{A:Around}{E:Value→Shared→Prop}{s:Shared}{d a:Addr}{xs:List (K × Addr × Value)}{k:K}
end
end L2
namespace L2
open PySem PySem.Spec PyProof.Rows
section
variable {X:Cx}{pins:List (Addr × Obj)}{σ:St}{H:Hp}{s:Shared}{A:Around}{E:Value→Shared→Prop}{a b:Addr}{kvs:List (List Key × V)}{k:List Key}
end
section
variable {X:Cx}{o e f:Expr}{td ty tx:TE}{apos cpos:Pos}
end
end L2
namespace L2
open PySem PySem.Spec PyProof.Rows
end L2
namespace L2
open PySem PySem.Spec PyProof.Rows
section
variable {prog:Program}{w:World}{A:Around}{E:Value→Shared→Prop}{s:Shared}{d:Addr}{o:Obj}{es:Array DictEntry}{ep:Nat}
end
end L2
namespace L2
open PySem PySem.Spec PyProof.Rows
section
variable {prog:Program}{w:World}{A:Around}{E:Value→Shared→Prop}{s:Shared}
end
section
variable {X:Cx}{o i value:Expr}{pos pos':Pos}{td ty tv:TE}
end
end L2
namespace L2
open PySem PySem.Spec PyProof.Rows
end L2
namespace L2
open PySem PySem.Spec PyProof.Rows
section
variable {X:Cx}
noncomputable def CMulG (i j:Int):Prop:=i.natAbs<2 ^ 8000∧j.natAbs<2 ^ 8000
theorem zG {k:Int}(h:k.natAbs<2 ^ 8000):Builtin.Int.intBits k≤8000:=by
 unfold Builtin.Int.intBits
 split
 ·exact Nat.zero_le _
 ·rename_i c
  have hk:k.natAbs≠0:=fun e=>c (by simp [Int.natAbs_eq_zero.mp e])
  have:=(Nat.log2_lt hk).mpr h
  omega
theorem CMulG.ok {i j:Int}(h:CMulG i j):IntMulOk i j:=by
 unfold IntMulOk Builtin.Int.intTooBig
 have h1:=zG h.1
 have h2:=zG h.2
 have:¬ (((Builtin.Int.intBits i+Builtin.Int.intBits j:Nat):Int) > (bitsLine:Int)):=by
  have:(16000:Int)≤(bitsLine:Int):=by decide
  omega
 intro e
 rw [Bool.and_eq_true] at e
 have:=of_decide_eq_true e.2
 omega
noncomputable def wE:R2:=fun x y H Q=>match x,y with
 | .int i, .int j=>(CMul i j∨CMulG i j)∧Q (.int (i*j)) H
 | .ref a, .int k=>aFx (.ref a) (.int k) H Q
 | _,_=>False
theorem pT:OpR X (binaryOp .Mult) wE:=by
 intro pins s σ H x y v u Q I rx ry h
 unfold wE at h
 split at h
 ·rcases h with ⟨h | h,q⟩
  ·exact aBi (X:=X) pins s σ H _ _ v u Q I rx ry ⟨_,_,rfl,rfl,h,q⟩
  ·exact (opI fun _ _ _ _ _ _ _ hc q=>mul_int q hc.ok:OpR X (binaryOp .Mult) (rI CMulG fun i j => .int (i*j))) pins s σ H _ _ v u Q I rx ry ⟨_,_,rfl,rfl,h,q⟩
 ·exact aBq (X:=X) pins s σ H _ _ v u Q I rx ry h
 ·exact h.elim
noncomputable def aDI (i j:Int):Prop:=0<j∧j.natAbs<2 ^ 8000
noncomputable abbrev xA:R2:=rI aDI fun i j => .int (i / j)
theorem mN:OpR X (binaryOp .FloorDiv) xA:=opI fun i j _ _ _ _ _ hc q=>by
 have h1:(0:Int)<j:=hc.1
 refine floordiv_int (by omega) (by rw [Int.fdiv_eq_ediv_of_nonneg i (by omega)];exact q) (.inl (PyProof.noPylong_of_log2 ?_))
 have:=(Nat.log2_lt (show j.natAbs≠0 by omega)).mpr hc.2
 omega
end
end L2
namespace L2
open PySem PySem.Spec PyProof.Rows
noncomputable def aBO:Nat→List (List Nat)
 | 0=>[[]]
 | n+1=>aBO n++(aBO n).map (· ++ [n])
noncomputable def aFB:List (List Nat):=aBO 8
end L2
namespace L2
open PySem PySem.Spec PyProof.Rows
noncomputable def SmE (es:Array (Int × Value)) (ks:List Nat):Prop:=ks∈aFB∧es.toList.map (·.1)=ks.map Int.ofNat∧∀ e∈es.toList,∃ tk,e.2 = .int e.1 tk
theorem SmE.size {es:Array (Int × Value)}{ks:List Nat}(h:SmE es ks):es.size=ks.length:=by
 have:=congrArg List.length h.2.1
 simpa using this
section
variable {prog:Program}{w:World}{A:Around}{E:Value→Shared→Prop}{s:Shared}
end
end L2
namespace L2
open PySem PySem.Spec PyProof.Rows
section
variable {prog:Program}{w:World}{A:Around}{R:Result→Shared→Prop}{I:Addr}{fp wr:List Addr}{G:Array GenState→Array GenState→Prop}{n:Nat}{P:Nat→Value→Prop}{St:Nat→Shared→Prop}
end
section
variable {prog:Program}{w:World}{A:Around}{E:Value→Shared→Prop}{s:Shared}
end
end L2
namespace L2
open PySem PySem.Spec PyProof.Rows
noncomputable def SIt (it a:Addr) (slot i n ep:Nat) (h:Heap):Prop:=∃ o,h.get? it=some o∧o.cls = .type "set_iterator"∧o.data = .fields #[rawInt slot,rawInt i, .ref a,rawInt n,rawInt ep]
section
variable {prog:Program}{w:World}{A:Around}{E:Value→Shared→Prop}{s:Shared}{a:Addr}{es:Array (Int × Value)}{ep:Nat}{ks:List Nat}
end
end L2
namespace L2
open PySem PySem.Spec PySem.W PyProof.Rows
section
variable {prog:Program}{w:World}{A:Around}{E:Value→Shared→Prop}{s:Shared}{a:Addr}{es:Array (Int × Value)}{ep:Nat}{ks:List Nat}
theorem SIt.at {h h':Heap}{it:Addr}{sl i n:Nat}(x:SIt it a sl i n ep h)(e:∀ o,h.get? it=some o→h'.get? it=some o):SIt it a sl i n ep h':=let ⟨o,ho,r⟩:=x;⟨o,e _ ho,r⟩
end
section
variable {X:Cx}
end
end L2
namespace L2
open PySem PySem.Spec PyProof.Rows
theorem DP.at {X:Cx}{pins:List (Addr × Obj)}{σ:St}{H:Hp}{s:Shared}{a:Addr}{xs:PEs}{ep:Nat}(I:Inv X pins σ H s)(d:DP H a xs ep) :
  s.TypeIs (.ref a) "dict"∧(∀ b,Value.ref a = .ref b→∃ ob,s.heap.get? b=some ob∧ob.dict=none)∧(a == sysModules)=false:=by
 obtain ⟨_,hd,ys,_,dd⟩:=d.of I.hok
 refine ⟨dd.typeIs,fun b q=>?_,hd⟩
 cases q
 obtain ⟨ob,_,_,h1,h2,_⟩:=dd
 exact ⟨ob,h1,h2.2.1⟩
section
variable {X:Cx}{o e f:Expr}{apos cpos:Pos}{td ty tx:TE}
end
end L2
namespace L2
open PySem PySem.Spec PyProof.Rows
section
variable {X:Cx}
noncomputable def yL (r r' r'':R2) (ta tb tc td:TE):TE:=fun σ H Q=>ta σ H fun x H1=>tb σ H1 fun y H2=>r x y H2 fun z H3=>∃ k,z = .bl k ∧
 (if k=true then tc σ H3 fun w' H4=>r' y w' H4 fun z2 H5=>∃ k2,z2 = .bl k2∧(if k2=true then td σ H5 fun u' H6=>r'' w' u' H6 Q else Q (.bl false) H5) else Q (.bl false) H3)
noncomputable def aBP:List V→Hp→VK→Prop:=fun xs H Q=>∃ a kvs,xs=[V.ref a]∧H a=some (.dK kvs)∧Q (.int kvs.length) H
end
end L2
namespace L2
open PySem PySem.Spec PyProof.Rows
open PySem.SeqAt PySem.MeetsSeq3
section
variable {A:Around}{s:Shared}{l b:Addr}{us vs:List Value}{R S:List (List Int)}
end
end L2
namespace L2
open PySem PySem.Spec PyProof.Rows
open PySem.SeqAt PySem.MeetsSeq
open AutoSeq1 (wpAny_loadPart')
section
variable {X:Cx}
end
end L2
namespace L2
open PySem
section
variable {X:Cx}
end
end L2
namespace L2
open PySem PySem.Spec PyProof.Rows
section
variable {X:Cx}
end
end L2
namespace L2
open PySem PySem.Spec PyProof.Rows
section
variable {X:Cx}
end
end L2
namespace L2
open PySem PySem.W PyProof.Rows
open PySem.SeqAt
noncomputable def GtA (A:Around) (s:Shared) (u v:Value) (b:Bool):Prop:=∀ (prog:Program) (w:World) (E:Value→Shared→Prop) (Q:Value→Shared→Prop),Q (.bool b) s→wpAny (model prog w) A (richCompare .Gt u v) Q E s
inductive aDw (A:Around) (s:Shared):List (Value × Value)→List (Bool × Bool)→Prop
 | nil:aDw A s [] []
 | cons {u v:Value} {e l:Bool} {r:List (Value × Value)} {zs:List (Bool × Bool)}:EqA A s u v e→(e=false→GtA A s u v l)→aDw A s r zs→aDw A s ((u,v) :: r) ((e,l) :: zs)
theorem sA (l b:Addr)(us vs:Array Value)(n n2:Nat)(dd dd2:Option Addr)(sl sl2:Array (Option Value))(zs:List (Bool × Bool)) :
  Meets (Builtin.«tuple.__gt__» ⟨[.ref l, .ref b],[]⟩)
   (fun A R s=>s.heap.get? l=some { cls := .type "tuple",dict:=dd,data := .seq us n,slots:=sl }∧s.heap.get? b=some { cls := .type "tuple",dict:=dd2,data := .seq vs n2,slots:=sl2 }∧aDw A.in1 s (us.toList.zip vs.toList) zs∧R (.ok (.ret (.bool (vM (decide (us.size > vs.size)) zs)))) s):=
 .of_wp fun prog w A R s h=>by
  obtain ⟨s1,s2,s3,s4,s5⟩:=s
  obtain ⟨gl,gb,hz,h⟩:=h
  have f2:=AutoSeq1.sub_tuple_tuple
  wp_walk using AutoSeq1.wpAny_loadPart' gl,AutoSeq1.wpAny_loadPart' gb,wpAny_forIn_list _ (fun rest b s'=>b.1=none∧s'=⟨s1,s2,s3,s4,s5⟩∧∃ ys,aDw A.in1 ⟨s1,s2,s3,s4,s5⟩ rest ys∧R (.ok (.ret (.bool (vM (decide (us.size > vs.size)) ys)))) ⟨s1,s2,s3,s4,s5⟩) _
  case turn=>
   rintro ⟨y,x⟩ rest b s' ⟨hb',rfl,ys,hy,hR⟩
   cases hy with
   | @cons _ _ e l _ _ he hl hr=>
    refine wpAny_bind (he _ _ _ _ ?_)
    cases e with
    | true=>
     rw [vM,if_pos rfl] at hR
     wp_walk
     exact ⟨rfl,rfl,_,hr,hR⟩
    | false=>
     rw [vM,if_neg Bool.false_ne_true] at hR
     have hl':∀ {E:Value→Shared→Prop} {Q:Value→Shared→Prop},Q (.bool l) ⟨s1,s2,s3,s4,s5⟩→wpAny (model prog w) A.in1 (richCompare .Gt y x) Q E ⟨s1,s2,s3,s4,s5⟩:=fun {E Q}=>hl rfl prog w E Q
     wp_walk using hl'
     exact ⟨_,rfl,hR⟩
  case fin=>
   rintro ⟨b1,b2⟩ s' ⟨hb',rfl,ys,hy,hR⟩
   simp only at hb'
   subst hb'
   cases hy
   wp_walk
   exact ⟨_,rfl,hR⟩
  case h=>
   exact ⟨rfl,rfl,zs,hz,h⟩
theorem kL {prog:Program}{w:World}{A:Around}{E:Value→Shared→Prop}{s:Shared}{a b:Int}{t u:Tok}{Q:Value→Shared→Prop}(h:Q (.bool (decide (b<a))) s):wpAny (model prog w) A (richCompare .Gt (.int a t) (.int b u)) Q E s:=PyProof.Rows.gt_int h
theorem aAO {a a' b b':Int}{f:Bool}(hf:f=false):vM f [((a == a'),decide (a'<a)),((b == b'),decide (b'<b))]=dD [a',b'] [a,b]:=by
 subst hf
 rw [vM,vM,vM,dD,dD,dD]
 by_cases c:a=a'
 ·rw [if_pos (by simpa using c),if_pos c.symm]
  by_cases d:b=b'
  ·rw [if_pos (by simpa using d),if_pos d.symm]
  ·rw [if_neg (by simpa using d),if_neg fun e=>d e.symm]
 ·rw [if_neg (by simpa using c),if_neg fun e=>c e.symm]
theorem aEc {A:Around}{s:Shared}{p q:Addr}{a b a' b':Int}{t1 t2 t3 t4:Tok}(hu:A.units+10<cLine)(h1:IsTup s.heap p [Value.int a t1, .int b t2].toArray)(h2:IsTup s.heap q [Value.int a' t3, .int b' t4].toArray):GtA A s (.ref p) (.ref q) (dD [a',b'] [a,b]):=by
 intro prog w E Q h
 obtain ⟨⟨oc,od,odt,osl⟩,e1,c1,n1,d1⟩:=h1
 obtain ⟨⟨pc,pd,pdt,psl⟩,e2,c2,n2,d2⟩:=h2
 subst c1 d1 c2 d2
 refine richCompare_meets_room (op := .Gt) ⟨_,e1,rfl⟩ ⟨_,e2,rfl⟩ F.slot_tuple_gt F.entry_tuple_gt (F.args_tuple_gt_2 _ _) (sA p q _ _ n1 n2 od pd osl psl [((a == a'),decide (a'<a)),((b == b'),decide (b'<b))]) ⟨e1,e2,?p,?g⟩ (by omega)
 case p=>exact .cons (fun prog w E Q h=>wpAny_eqBool_int h) (fun _ prog w E Q h=>kL h) (.cons (fun prog w E Q h=>wpAny_eqBool_int h) (fun _ prog w E Q h=>kL h) .nil)
 case g=>
  refine ⟨fun z=>(by cases z),?_⟩
  rw [aAO (by rfl)]
  exact h
theorem aEi {A:Around}{s:Shared}{p q c d:Addr}{a b a' b' t z t' z':Int}{t1 t2 t3 t4 t5 t6 t7 t8:Tok}(hu:A.units+20<cLine)(h1:IsTup s.heap p [Value.int a t1, .int b t2, .ref c].toArray)(h2:IsTup s.heap q [Value.int a' t3, .int b' t4, .ref d].toArray)(g1:IsTup s.heap c [Value.int t t5, .int z t6].toArray)(g2:IsTup s.heap d [Value.int t' t7, .int z' t8].toArray):GtA A s (.ref p) (.ref q) (dD [a',b',t',z'] [a,b,t,z]):=by
 intro prog w E Q h
 obtain ⟨⟨oc,od,odt,osl⟩,e1,c1,n1,d1⟩:=h1
 obtain ⟨⟨pc,pd,pdt,psl⟩,e2,c2,n2,d2⟩:=h2
 subst c1 d1 c2 d2
 refine richCompare_meets_room (op := .Gt) ⟨_,e1,rfl⟩ ⟨_,e2,rfl⟩ F.slot_tuple_gt F.entry_tuple_gt (F.args_tuple_gt_2 _ _) (sA p q _ _ n1 n2 od pd osl psl [((a == a'),decide (a'<a)),((b == b'),decide (b'<b)),(eqL ([t,z].map Dt.int) ([t',z'].map Dt.int),dD [t',z'] [t,z])]) ⟨e1,e2,?p,?g⟩ (by omega)
 case p=>exact .cons (fun prog w E Q h=>wpAny_eqBool_int h) (fun _ prog w E Q h=>kL h) (.cons (fun prog w E Q h=>wpAny_eqBool_int h) (fun _ prog w E Q h=>kL h) (.cons (aAb (us:=[Value.int t t5, .int z t6]) (vs:=[Value.int t' t7, .int z' t8]) (by show A.units+1<cLine;omega) g1 g2 (.cons _ _ (.cons _ _ .nil)) (.cons _ _ (.cons _ _ .nil))) (fun _=>aEc (by show A.units+1+10<cLine;omega) g1 g2) .nil))
 case g=>
  refine ⟨fun z=>(by cases z),?_⟩
  have e:vM (decide (([Value.int a t1, .int b t2, .ref c].toArray).size > ([Value.int a' t3, .int b' t4, .ref d].toArray).size)) [((a == a'),decide (a'<a)),((b == b'),decide (b'<b)),(eqL ([t,z].map Dt.int) ([t',z'].map Dt.int),dD [t',z'] [t,z])]=dD [a',b',t',z'] [a,b,t,z]:=by
   rw [vM,vM,vM,vM,show dD [a',b',t',z'] [a,b,t,z]=if a'=a then (if b'=b then dD [t',z'] [t,z] else decide (b'<b)) else decide (a'<a) from rfl]
   by_cases c:a=a'
   ·rw [if_pos (by simpa using c),if_pos c.symm]
    by_cases d:b=b'
    ·rw [if_pos (by simpa using d),if_pos d.symm]
     by_cases hq:eqL ([t,z].map Dt.int) ([t',z'].map Dt.int)=true
     ·have:=kG hq
      rw [if_pos hq,this,iP]
      rfl
     ·rw [if_neg hq]
    ·rw [if_neg (by simpa using d),if_neg fun e=>d e.symm]
   ·rw [if_neg (by simpa using c),if_neg fun e=>c e.symm]
  rw [e]
  exact h
section
variable {prog:Program}{w:World}{A:Around}{E:Value→Shared→Prop}{s:Shared}
theorem pW {a:Addr}{vs:List Value}{n:Nat}{R:List (List Int)}{P:Fin→Shared→Prop}(ho:s.heap.get? a=some (seqObj "list" vs.toArray n))(hlen:vs.length=R.length){PP:Heap→Prop}(hP:PP s.heap)(kp:∀ h h':Heap,PP h→(∀ x us,IsTup h x us→IsTup h' x us)→PP h')(fst:∀ h,PP h→∃ fs,KatTups h vs fs∧fs.length=R.length∧∀ v∈fs,∃ i t,v = .int i t)(ask:∀ (s:Shared) (i j:Nat) (C:Bool→Shared→Prop),PP s.heap→i<R.length→j<R.length→C (rlt (rank R) i j) s→kas_ask prog w A (tuples' true) vs i j C s)(h64:vs.length<64)
  (h:∀ p,Put R p→P (.done (.ret .none)) { s with heap:=sortedHeap s.heap a vs (List.toArray (p.toList.map fun i=>vs.getD i Value.none)) }):wpAny (model prog w) A (Builtin.«list.sort» ⟨[.ref a],[]⟩) P E s:=by
 have ha:=Heap.lt_size ho
 have hz:vs.length≤sizeLine:=by rw [sizeLine_eq];omega
 obtain ⟨e1,ho1⟩:∃ e1,(s.heap.update a (Obj.mapSeq fun _=>#[])).get? a=some (seqObj "list" #[] e1):=⟨_,get?_update_seq ho fun _=>#[]⟩
 rw [list_sort_plain]
 refine wpAny_bind (listItems_at ho rfl (wpAny_bind (listUpdate_at ho rfl ?g1 (by rw [List.size_toArray];exact hz) (Nat.zero_le _))))
 case g1=>
 refine wpAny_bind (seqEpoch_at ho1 rfl (wpAny_bind (wpAny_newTuple ?g2 (by show vs.length≤_;exact hz))))
 case g2=>
 refine wpAny_bind (wpAny_newList (wpAny_holding ?g3) (Nat.zero_le _))
 case g3=>
 obtain ⟨h3,eh⟩:∃ h3,h3=((s.heap.update a (Obj.mapSeq fun _=>(#[]:Array Value))).push (seqObj "tuple" vs.toArray 0)).push (seqObj "list" #[] 0):=⟨_,rfl⟩
 show wpAny (model prog w) A _ P E { s with heap:=((s.heap.update a (Obj.mapSeq fun _=>#[])).push (seqObj "tuple" vs.toArray 0)).push (seqObj "list" #[] 0) }
 rw [← eh]
 have ho3:h3.get? a=some (seqObj "list" #[] e1):=by
  rw [eh]
  exact Heap.get?_push_of_some _ (Heap.get?_push_of_some _ ho1)
 have hv3:PP h3:=kp _ _ hP fun x us ⟨o,b1,b2,b3⟩=>by
  have hx:x≠a:=fun e=>by
   subst e
   rw [ho] at b1
   cases b1
   exact absurd (Value.type.inj (show Value.type "list" = Value.type "tuple" from b2)) (by decide)
  refine ⟨o,?_,b2,b3⟩
  rw [eh]
  exact Heap.get?_push_of_some _ (Heap.get?_push_of_some _ (by rw [Heap.get?_update_ne _ _ _ _ hx];exact b1))
 dsimp only
 have fin:∀ (p:Array Nat) (st':SortSt),Put R p→p.size=vs.length→arrOf st'=p.map (kas_item (vs.toArray.zip vs.toArray))→failedOf st'=none→wpAny (model prog w) A (do
   let touched:=(← seqEpoch a) != e1
   Builtin.List.listUpdate (.ref a) fun _=>(arrOf st').map (·.2)
   if let some e:=failedOf st' then rule "list.sort.comparison-raised";throw e
   if touched then rule "list.sort.modified";raiseError "ValueError" "list modified during sort"
   ret .none) P E { s with heap:=h3 }:=fun p st' hp hsz har hf=>by
  rw [kat_snds rfl har,hf]
  refine wpAny_bind (seqEpoch_at ho3 rfl (wpAny_bind (listUpdate_at ho3 rfl ?g4 (Nat.zero_le _) ?g5)))
  case g5=>
   show (List.toArray _).size≤_
   rw [List.size_toArray,List.length_map,Array.length_toList];omega
  case g4=>
   simp only [bne_self_eq_false,Bool.false_eq_true,if_false]
   have:=h p hp
   unfold sortedHeap at this
   rw [← eh] at this
   exact wpAny_pure this
 by_cases c:vs.toArray.size<2
 ·rw [if_pos c,if_pos c]
  refine wpAny_bind (wpAny_pure ?g6)
  case g6=>
  rw [StateT.run_pure]
  refine wpAny_bind (wpAny_pure ?g7)
  case g7=>
  have e2:(vs.toArray.zip vs.toArray).size=vs.length:=by simp
  refine fin (List.toArray (List.range vs.length)) (SortSt.mk' general' (vs.toArray.zip vs.toArray) #[] 7 none) ⟨by rw [hlen],fun i j hij hj=>?_⟩ (by simp) ?_ rfl
  ·have hl:R.length<2:=by rw [← hlen];simpa using c
   rw [show i=j by omega]
   exact iP _
  ·have:=kas_range (vs.toArray.zip vs.toArray)
   rw [e2] at this
   exact this.symm
 ·rw [if_neg c,if_neg c]
  have h2:2≤vs.length:=by simpa using c
  obtain ⟨fs,k1,k2,k3⟩:=fst _ hv3
  refine wpAny_bind (kat_kind (s:={ s with heap:=h3 }) (T := .type "int") k1 (by have:=hlen;omega) (fun v hv'=>?g8) (by decide) ?g9)
  case g8=>
   obtain ⟨i,t,rfl⟩:=k3 v hv'
   exact Looks.of_pure rfl
  case g9=>
  obtain ⟨q1,q2,q3⟩:=aAB (r:=rank R) (n:=vs.length) (by omega)
  refine wpAny_bind (wpAny_mono (kat_run (ks:=vs) (vs:=vs) (s:={ s with heap:=h3 }) (κ:=tuples' true) (Q:=fun st' s'=>s'={ s with heap:=h3 }∧arrOf st'=(bF (rank R) (kas_sort vs.length)).map (kas_item (vs.toArray.zip vs.toArray))∧failedOf st'=none) (G:=fun p' s'=>p'=bF (rank R) (kas_sort vs.length)∧s'={ s with heap:=h3 }) rfl h2 h64 (fun p' st' s' a1 a2 a3 a4=>⟨a4.2,by rw [← a4.1];exact a2,a3⟩)
   (aBg (N:=vs.length) (r:=rank R) (fun i j C hi hj hC=>ask { s with heap:=h3 } i j C hv3 (by rw [← hlen];exact hi) (by rw [← hlen];exact hj) hC) _ (aAl (by omega)) ⟨rfl,rfl⟩)) ?_ fun _ _ e=>e)
  rintro ⟨⟨⟩,st'⟩ s' ⟨rfl,har,hf⟩
  refine fin _ st' ⟨by rw [← hlen];exact q1,fun i j hij hj=>?_⟩ q2 har hf
  have hle:=q3 i j hij (by rw [hlen];exact hj)
  have bd:∀ k,k<vs.length→(bF (rank R) (kas_sort vs.length)).getD k 0<R.length:=fun k hk=>by
   rw [Array.getD_eq_getD_getElem?,Array.getElem?_eq_getElem (by omega)]
   have:=q1.mem_iff.mp (Array.getElem_mem (show k<(bF (rank R) (kas_sort vs.length)).size by omega))
   rw [← hlen]
   simpa using this
  have hlt:=tN (R:=R) (bd j (by rw [hlen];exact hj)) (bd i (by rw [hlen];omega))
  cases z:dD (R.getD ((bF (rank R) (kas_sort vs.length)).getD j 0) []) (R.getD ((bF (rank R) (kas_sort vs.length)).getD i 0) []) with
  | false=>rfl
  | true=>
   have:=hlt.mpr z
   unfold Kr at hle
   omega
theorem wI {l:Addr}{ob:Obj}{n:Nat}{T:String}{us:List Value}{R:List (List Int)}{Q:Value→Shared→Prop}(e0:s.heap.get? l=some ob)(ec:ob.cls = .type T)(eT:T="list"∨T="tuple")(ed:ob.data = .seq us.toArray n)(hlen:us.length=R.length){PP:Heap→Prop}(hP:PP s.heap)(kp:∀ h h':Heap,PP h→(∀ x us,IsTup h x us→IsTup h' x us)→PP h')(fst:∀ h,PP h→∃ fs,KatTups h us fs∧fs.length=R.length∧∀ v∈fs,∃ i t,v = .int i t)(ask:∀ (s:Shared) (i j:Nat) (C:Bool→Shared→Prop),PP s.heap→i<R.length→j<R.length→C (rlt (rank R) i j) s→kas_ask prog w A.in1.in1 (tuples' true) us i j C s)(h64:us.length<64)
  (q:∀ p,Put R p→Q (.ref (s.heap.objs.size+1)) { s with heap:=sortedAll s.heap us (List.toArray (p.toList.map fun i=>us.getD i Value.none)) }):wpAny (model prog w) A (call (.builtin "sorted") [.ref l]) Q E s:=by
 refine Calls.call_function_entry kind_sorted plain_sorted entry_sorted (args_sorted1 _) ?g1
 case g1=>
 unfold Builtin.«sorted»
 refine wpAny_bind (m:=checkCount "sorted" 1 1 _) (wpAny_pure (wpAny_bind (wL e0 ec eT ed (wpAny_bind (wpAny_newList ?g2)) (Nat.le_trans (Nat.le_of_lt h64) (by decide)))))
 case g2=>
 obtain ⟨h1,eh1⟩:∃ h1,h1=(s.heap.push (seqObj "list" #[] 0)).update s.heap.objs.size (Obj.mapSeq (· ++ us.toArray)):=⟨_,rfl⟩
 have z1:h1.objs.size=s.heap.objs.size+1:=by rw [eh1,Heap.size_update,size_push']
 have old:∀ x o,s.heap.get? x=some o→(h1.push (seqObj "list" us.toArray 0)).get? x=some o:=fun x o e=>by
  have hx:=Heap.lt_size e
  refine Heap.get?_push_of_some _ ?_
  rw [eh1,Heap.get?_update_ne _ _ _ _ (Nat.ne_of_lt hx)]
  exact Heap.get?_push_of_some _ e
 have e2:(h1.push (seqObj "list" us.toArray 0)).get? (s.heap.objs.size+1)=some (seqObj "list" us.toArray 0):=by rw [← z1];exact Heap.get?_push_size _ rfl
 have hv2:PP (h1.push (seqObj "list" us.toArray 0)):=kp _ _ hP fun x vs ⟨o,b1,b2,b3⟩=>⟨o,old x o b1,b2,b3⟩
 show wpAny _ _ _ _ _ { s with heap:=((s.heap.push (seqObj "list" #[] 0)).update s.heap.objs.size (Obj.mapSeq (· ++ us.toArray))).push (seqObj "list" us.toArray 0) }
 rw [← eh1,z1]
 refine wpAny_bind (wpAny_holding (wpAny_call_entry slot_list_sort ⟨_,e2,rfl⟩ entry_list_sort (pW (s:={ s with heap:=h1.push (seqObj "list" us.toArray 0) }) e2 hlen hv2 kp fst ask h64 fun p hp=>⟨_,rfl,wpAny_pure ⟨_,rfl,?g3⟩⟩) (args_list_sort _)))
 case g3=>
  have:=q p hp
  unfold sortedAll at this
  rw [← eh1] at this
  exact this
noncomputable def TriAt (h:Heap) (vs:List Value) (R:List (List Int)):Prop:=vs.length=R.length∧∀ (i:Nat) (row:List Int),R[i]?=some row→∃ (x q:Addr) (a b:Int) (ta tb:Tok) (us:List Value) (r:List Int),row=a :: b :: r∧r.length=2∧vs[i]?=some (.ref x)∧IsTup h x [Value.int a ta, .int b tb, .ref q].toArray∧IsTup h q us.toArray∧IntsAre us r
theorem TriAt.keep {h h':Heap}{vs:List Value}{R:List (List Int)}(hv:TriAt h vs R)(k:∀ x us,IsTup h x us→IsTup h' x us):TriAt h' vs R:=
 ⟨hv.1,fun i row hr=>by obtain ⟨x,q,a,b,ta,tb,us,r,e0,e1,e2,e3,e4,e5⟩:=hv.2 i row hr;exact ⟨x,q,a,b,ta,tb,us,r,e0,e1,e2,k _ _ e3,k _ _ e4,e5⟩⟩
theorem oZ {h:Heap}:∀ {vs:List Value} {R:List (List Int)},TriAt h vs R→∃ fs,KatTups h vs fs∧fs.length=R.length∧∀ v∈fs,∃ i t,v = .int i t
 | [],[],_=>⟨[],trivial,rfl,fun _ z=>by cases z⟩
 | [],_ :: _,hv=>by cases hv.1
 | _ :: _,[],hv=>by cases hv.1
 | v :: vs,q :: R,hv=>by
  obtain ⟨x,q',a,b,ta,tb,us,r,e0,er,e1,⟨o,a1,a2,n,a3⟩,_,_⟩:=hv.2 0 q rfl
  obtain ⟨fs,k,l,f⟩:=oZ (vs:=vs) (R:=R) ⟨by simpa using hv.1,fun i row hr=>hv.2 (i+1) row hr⟩
  obtain rfl:v = .ref x:=by simpa using e1
  exact ⟨.int a ta :: fs,⟨⟨x,o,_,n,rfl,a1,a2,a3,rfl⟩,k⟩,by simp [l],fun v hv'=>by
   rcases List.mem_cons.mp hv' with e | hv'
   ·exact ⟨a,ta,e⟩
   ·exact f v hv'⟩
theorem aCs (hu:A.units+10<cLine){vs:List Value}{R:List (List Int)}(hv:TriAt s.heap vs R){i j:Nat}{C:Bool→Shared→Prop}(hi:i<R.length)(hj:j<R.length)(h:C (rlt (rank R) i j) s):kas_ask prog w A (tuples' true) vs i j C s:=by
 have at':∀ k,k<R.length→∃ (x q:Addr) (a b:Int) (ta tb:Tok) (us:List Value) (r:List Int),R.getD k []=a :: b :: r∧vs.getD k Value.none = .ref x∧IsTup s.heap x [Value.int a ta, .int b tb, .ref q].toArray∧IsTup s.heap q us.toArray∧IntsAre us r:=fun k hk=>by
  obtain ⟨x,q,a,b,ta,tb,us,r,e0,er,e1,e2,e3,e4⟩:=hv.2 k R[k] (List.getElem?_eq_getElem hk)
  refine ⟨x,q,a,b,ta,tb,us,r,?_,by rw [List.getD_eq_getElem?_getD,e1];rfl,e2,e3,e4⟩
  rw [List.getD_eq_getElem?_getD,List.getElem?_eq_getElem hk]
  exact e0
 obtain ⟨x,q,a,b,ta,tb,us,r,er,e1,⟨ox,a1,_,n1,d1⟩,o1,w1⟩:=at' i hi
 obtain ⟨x',q',a',b',ta',tb',us',r',er',e2,⟨oy,a2,_,n2,d2⟩,o2,w2⟩:=at' j hj
 have e:rlt (rank R) i j=dD (R.getD i []) (R.getD j []):=by
  unfold rlt
  by_cases c:dD (R.getD i []) (R.getD j [])=true
  ·rw [c];exact decide_eq_true ((tN hi hj).mpr c)
  ·rw [Bool.not_eq_true _ |>.mp c];exact decide_eq_false fun z=>c ((tN hi hj).mp z)
 rw [e,er,er',dD,dD] at h
 show wpAny (model prog w) A (keyLt' (tuples' true) (vs.getD i Value.none) (vs.getD j Value.none)) C (fun _ _=>False) s
 rw [e1,e2]
 refine kat_lt a1 d1 a2 d2 ?_
 refine kat_cons (SeqAt.EqAt.int_int a ta a' ta' prog w _ _ ?_)
 by_cases c:a=a'
 ·rw [if_pos c] at h
  rw [show (a == a')=true from by rw [c];exact beq_self_eq_true _]
  refine kat_yes (kat_cons (SeqAt.EqAt.int_int b tb b' tb' prog w _ _ ?_))
  by_cases c2:b=b'
  ·rw [if_pos c2] at h
   rw [show (b == b')=true from by rw [c2];exact beq_self_eq_true _]
   refine kat_yes (kat_cons (aAb (by omega) o1 o2 w1 w2 prog w _ _ ?_))
   by_cases c3:eqL (r.map Dt.int) (r'.map Dt.int)=true
   ·rw [c3]
    rw [kG c3,iP] at h
    exact kat_yes (kat_nil h)
   ·rw [Bool.not_eq_true _ |>.mp c3]
    exact kat_no (kat_one _ _ (aCk (by omega) o1 o2 w1 w2 h))
  ·rw [if_neg c2] at h
   rw [show (b == b')=false from beq_false_of_ne c2]
   exact kat_no (kat_one _ _ (qU h))
 ·rw [if_neg c] at h
  rw [show (a == a')=false from beq_false_of_ne c]
  exact kat_no (oneLt_int h)
end
section
variable {X:Cx}
noncomputable def Tri (K:PySem.W.Frag) (H:Hp) (b:Addr) (row:List Int):Prop:=∃ (q:Addr) (x y t z:Int),row=[x,y,t,z]∧SqT K H b [.int x, .int y, .ref q]∧SqT K H q ([t,z].map V.int)
noncomputable def jP (K:PySem.W.Frag) (H:Hp) (xs:List V) (T:List (List Int)):Prop:=xs.length=T.length∧∀ (i:Nat) (row:List Int),T[i]?=some row→∃ b,xs[i]?=some (.ref b)∧Tri K H b row
noncomputable def uD (K:PySem.W.Frag):List V→Hp→VK→Prop:=fun vs H Q=>∃ (a:Addr) (xs:List V) (R:List (List Int)),vs=[.ref a]∧Sq K H a xs∧jP K H xs R∧R.length<64 ∧
 ∀ (ys:List V) (R':List (List Int)),R'.Perm R→R'.Pairwise (fun a b=>dD b a=false)→ys.Perm xs→jP K H ys R'→∀ l,H l=none→Q (.ref l) (upd H l (.lst ys))
theorem vV {X:Cx}{k:Nat}(hr:Room k X.A):CallR X (.builtin "sorted") (uD X.K):=by
 intro pins s σ H vs us Q I r ⟨a,xs,R,e,hq,hR,h64,q⟩
 subst e
 obtain ⟨u,rfl,ru⟩:=rF r
 obtain rfl:u=Value.ref a:=ru
 have go:∀ (its:List Value) (ob:Obj) (n:Nat) (T:String),Vals xs its→s.heap.get? a=some ob→ob.cls = .type T→(T="list"∨T="tuple")→ob.data = .seq its.toArray n→wpAny (model X.prog X.w) X.A (call (.builtin "sorted") [.ref a]) (EP X pins σ Q) X.xe s:=by
  intro its ob n T rv e0 ec eT ed
  have hl:=rv.length
  have hv:TriAt s.heap its R:=⟨by rw [← hl];exact hR.1,fun i row hr=>by
   obtain ⟨b,e1,q,x,y,t,z,er,e2,e3⟩:=hR.2 i row hr
   obtain ⟨u,eu,rU⟩:=rv.get e1
   obtain rfl:u=Value.ref b:=rU
   obtain ⟨vs,rvs,pl,_⟩:=I.tuple e2
   obtain ⟨ws,rws,pq,_⟩:=I.tuple e3
   cases rvs with
   | cons r1 rvs=>
    cases rvs with
    | cons r2 rvs=>
     cases rvs with
     | cons r3 rvs=>
      cases rvs
      obtain ⟨t1,rfl⟩:=r1
      obtain ⟨t2,rfl⟩:=r2
      obtain rfl:=(show _=Value.ref q from r3)
      exact ⟨b,q,x,y,t1,t2,ws,[t,z],er,rfl,eu,pl,pq,kY rws⟩⟩
  refine wI e0 ec eT ed hv.1 hv (fun h h' hv k=>hv.keep k) (fun h hv=>oZ hv) (fun s i j C hv hi hj hC=>aCs (by have:=hr.un;show X.A.units+1+1+10<cLine;omega) hv hi hj hC) (by rw [← hl,hR.1];exact h64) fun p hp=>?_
  obtain ⟨f1,f2⟩:=aBb hp
  have pl:p.toList.Perm (List.range R.length):=by simpa using Array.perm_iff_toList_perm.mp hp.1
  have hb:∀ i∈p.toList,i<R.length:=fun i hi=>List.mem_range.mp (pl.mem_iff.mp hi)
  obtain ⟨c,he⟩:=sortedAll_at s.heap its (List.toArray (p.toList.map fun i=>its.getD i Value.none))
  have ex:(List.range R.length).map (fun i=>xs.getD i V.non)=xs:=by
   apply List.ext_getElem
   ·simp [hR.1]
   ·intro i h1 h2
    rw [List.getElem_map,List.getElem_range,List.getD_eq_getElem?_getD,List.getElem?_eq_getElem h2];rfl
  have py:(p.toList.map fun i=>xs.getD i V.non).Perm xs:=by have:=pl.map fun i=>xs.getD i V.non;rw [ex] at this;exact this
  refine ⟨.ref (s.heap.objs.size+1),_,I.laid (t':=s.toks) (o := .lst (p.toList.map fun i=>xs.getD i V.non)) (fun b ob q=>sortedAll_old q) (Nat.le_succ _) ?_,rfl,q _ _ f1 f2 py ?_ _ (I.hok.fresh (Nat.le_succ _))⟩
  ·refine ⟨?_,p.toList.map fun i=>its.getD i Value.none,c,?_,by simpa using he⟩
   ·rw [List.length_map,pl.length_eq,List.length_range]
    exact Nat.le_trans (Nat.le_of_lt h64) (by decide)
   ·have all:∀ l:List Nat,(∀ i∈l,i<R.length)→Vals (l.map fun i=>xs.getD i V.non) (l.map fun i=>its.getD i Value.none):=by
     intro l
     induction l with
     | nil=>intro _;exact .nil
     | cons i l ih=>
      intro h
      have hi:i<xs.length:=by rw [hR.1];exact h i (List.mem_cons_self ..)
      obtain ⟨u,eu,rU⟩:=rv.get (List.getElem?_eq_getElem hi)
      refine .cons ?_ (ih fun j hj=>h j (List.mem_cons_of_mem _ hj))
      show RelV (xs.getD i V.non) (its.getD i Value.none)
      rw [List.getD_eq_getElem?_getD,List.getD_eq_getElem?_getD,eu,List.getElem?_eq_getElem hi]
      exact rU
    exact all _ hb
  ·refine ⟨by rw [List.length_map,List.length_map],fun i row hr=>?_⟩
   rw [List.getElem?_map] at hr
   cases ep:p.toList[i]? with
   | none=>rw [ep] at hr;cases hr
   | some k=>
    rw [ep] at hr
    obtain rfl:R.getD k []=row:=Option.some.inj hr
    have hk:=hb k (List.mem_of_getElem? ep)
    obtain ⟨b,e1,e2⟩:=hR.2 k R[k] (List.getElem?_eq_getElem hk)
    refine ⟨b,?_,?_⟩
    ·rw [List.getElem?_map,ep]
     show some (xs.getD k V.non)=_
     rw [List.getD_eq_getElem?_getD,e1];rfl
    ·rw [List.getD_eq_getElem?_getD,List.getElem?_eq_getElem hk];exact e2
 rcases hq with hq | hq
 ·obtain ⟨its,rv,pl,hz⟩:=I.list hq
  obtain ⟨o,ho,hc,n,hd⟩:=pl.isList
  exact go its o n "list" rv ho hc (.inl rfl) hd
 ·obtain ⟨its,rv,pl,hz⟩:=I.tuple hq
  obtain ⟨o,ho,hc,n,hd⟩:=pl
  exact go its o n "tuple" rv ho hc (.inr rfl) hd
noncomputable def aFA (K:PySem.W.Frag):R2:=fun x y H Q=>∃ (a b:Addr) (r r':List Int),x = .ref a∧y = .ref b∧Tri K H a r∧Tri K H b r'∧Q (.bl (dD r' r)) H
theorem aBj {pins:List (Addr × Obj)}{σ:St}{H:Hp}{s:Shared}{a:Addr}{r:List Int}(I:Inv X pins σ H s)(h:Tri X.K H a r):∃ (c:Addr) (x y t z:Int) (t1 t2 t3 t4:Tok),r=[x,y,t,z]∧IsTup s.heap a [Value.int x t1, .int y t2, .ref c].toArray∧IsTup s.heap c [Value.int t t3, .int z t4].toArray:=by
 obtain ⟨q,x,y,t,z,er,e2,e3⟩:=h
 obtain ⟨vs,rvs,pl,_⟩:=I.tuple e2
 obtain ⟨ws,rws,pq,_⟩:=I.tuple e3
 cases rvs with
 | cons r1 rvs=>
  cases rvs with
  | cons r2 rvs=>
   cases rvs with
   | cons r3 rvs=>
    cases rvs
    obtain ⟨t1,rfl⟩:=r1
    obtain ⟨t2,rfl⟩:=r2
    obtain rfl:=(show _=Value.ref q from r3)
    cases rws with
    | cons r4 rws=>
     cases rws with
     | cons r5 rws=>
      cases rws
      obtain ⟨t3,rfl⟩:=r4
      obtain ⟨t4,rfl⟩:=r5
      exact ⟨q,x,y,t,z,t1,t2,t3,t4,er,pl,pq⟩
theorem aEb {k:Nat}(hr:Room k X.A):OpR X (compareOp .Gt) (aFA X.K):=by
 intro pins s σ H x y v u Q I rx ry h
 obtain ⟨a,b,r,r',rfl,rfl,ta,tb,q⟩:=h
 obtain rfl:v=Value.ref a:=rx
 obtain rfl:u=Value.ref b:=ry
 obtain ⟨c,x1,y1,t1,z1,_,_,_,_,rfl,p1,p2⟩:=aBj I ta
 obtain ⟨c',x2,y2,t2,z2,_,_,_,_,rfl,q1,q2⟩:=aBj I tb
 exact aEi (by have:=hr.un;omega) p1 q1 p2 q2 _ _ _ _ ⟨.bl _,H,I,rfl,q⟩
theorem aCo {K:PySem.W.Frag}{k:Nat}(hK:X.K=K)(hr:Room k X.A):OpR X (compareOp .Gt) (aFA K):=by subst hK;exact aEb hr
theorem nB {K:PySem.W.Frag}{k:Nat}(hK:X.K=K)(hr:Room k X.A):CallR X (.builtin "sorted") (uD K):=by subst hK;exact vV hr
end
section
variable {X:Cx}{a b c d:Expr}{ta tb tc td:TE}{pos:Pos}
theorem zV {op op' op'':CmpOp}{r r' r'':R2}(ho:OpR X (compareOp op) r)(ho':OpR X (compareOp op') r')(ho'':OpR X (compareOp op'') r'')(ha:PE X a ta)(hb:PE X b tb)(hc:PE X c tc)(hd:PE X d td)
  (hm:lastMarks [op,op',op''] [b,c,d]=false:=by with_unfolding_all rfl):PT X (.Compare a [op,op',op''] [b,c,d] pos) (cM (yL r r' r'' ta tb tc td)):=by
 intro pins s σ H Q I h
 refine isTrue_chain (thn (ha pins s σ H _ I h) fun v s1 ⟨x,H1,I1,r1,q1⟩=>test_link (thn (hb pins s1 σ H1 _ I1 q1) fun u s2 ⟨y,H2,I2,r2,q2⟩=>
  thn (ho pins s2 σ H2 x y v u _ I2 r1 r2 q2) fun d s3 ⟨z,H3,I3,r3,k,e,q3⟩=>?_)) hm
 subst e
 cases r3
 refine wpAny_truthy_bool ?_
 cases k with
 | false=>
  obtain ⟨k',e',q'⟩:=q3
  cases e'
  exact ite_ff ⟨H3,I3,q'⟩
 | true=>
  refine ite_tt (test_link (thn (hc pins s3 σ H3 _ I3 q3) fun w' s4 ⟨z',H4,I4,r4,q4⟩=>thn (ho' pins s4 σ H4 y z' u w' _ I4 r2 r4 q4) fun d' s5 ⟨z2,H5,I5,r5,k2,e2,q5⟩=>?_))
  subst e2
  cases r5
  refine wpAny_truthy_bool ?_
  cases k2 with
  | false=>
   obtain ⟨k',e',q'⟩:=q5
   cases e'
   exact ite_ff ⟨H5,I5,q'⟩
  | true=>exact ite_tt (test_last (thn (hd pins s5 σ H5 _ I5 q5) fun w2 s6 ⟨z3,H6,I6,r6,q6⟩=>thn (ho'' pins s6 σ H6 z' z3 w' w2 _ I6 r4 r6 q6) fun d2 s7 ⟨z4,H7,I7,r7,k3,e3,q7⟩=>by
    subst e3
    cases r7
    exact wpAny_truthy_bool ⟨H7,I7,q7⟩))
end
end L2
namespace L2
open PySem PySem.Spec PyProof.Rows
section
variable {M:Model}{A:Around}{E:Value→Shared→Prop}{s:Shared}
end
section
variable {X:Cx}{pins:List (Addr × Obj)}{σ:St}{H:Hp}{s:Shared}{E:XK}{a:Addr}{cls a0:Value}{B h2:Heap}
end
section
variable {P:Program}{w:World}{K:PySem.W.Frag}{mg:Str→Option Value}{base:Heap}{N:List Str}{qual:Str}{scope:Scope}{f:Addr}{cd:Value}{A:Around}{outer:List Env}{s₀:Shared}{H₀:Hp}{E:XK}
end
section
variable {X:Cx}
end
section
variable {X:Cx}{elt target iter:Expr}{ifs:List Expr}{rest:List Comprehension}{scope:Scope}{pos:Pos}{N':List Str}{ix:List (Option Nat)}{wi:TI}{g:TG}{ts:List TT}{tb:Addr→TS}{E:XK}
end
end L2
namespace L2
open PySem PySem.Spec PyProof.Rows
section
variable {prog:Program}{w:World}{A:Around}{E:Value→Shared→Prop}{s:Shared}
end
section
variable {prog:Program}{w:World}{A:Around}{s:Shared}{R:Result→Shared→Prop}
end
section
variable {prog:Program}{w:World}{A:Around}{E:Value→Shared→Prop}{s:Shared}
end
section
variable {X:Cx}{pins:List (Addr × Obj)}{σ:St}{H H2:Hp}{s:Shared}{h':Heap}
end
end L2
namespace L2
open PySem PySem.Spec PyProof.Rows
end L2
namespace L2
open PySem PySem.Spec PyProof.Rows
noncomputable def aAV (f:Bool):List (Int × Int)→Bool
 | []=>f
 | (a,b) :: r=>if a=b then aAV f r else decide (a > b)
theorem zI:∀ (ns ms:List Int),aAV (decide (ns.length > ms.length)) (ns.zip ms)=dD ms ns
 | [],[]=>rfl
 | [],m :: ms=>by simp [aAV,dD]
 | n :: ns,[]=>by simp [aAV,dD]
 | n :: ns,m :: ms=>by
  rw [List.zip_cons_cons,aAV,dD,← zI ns ms]
  have:decide ((n :: ns).length > (m :: ms).length)=decide (ns.length > ms.length):=by
   by_cases h:ns.length > ms.length <;> simp [h]
  rw [this]
  by_cases e:n=m
  ·rw [if_pos e,if_pos e.symm]
  ·rw [if_neg e,if_neg (fun z=>e z.symm)]
theorem wK {prog:Program}{w:World}{A:Around}{E:Value→Shared→Prop}{s:Shared}{a b:Int}{t u:Tok}{Q:Value→Shared→Prop}(h:Q (.bool (decide (a > b))) s):wpAny (model prog w) A (richCompare .Gt (.int a t) (.int b u)) Q E s:=gt_int h
theorem yG (l b:Addr)(us vs:Array Value)(n n2:Nat)(dd dd2:Option Addr)(sl sl2:Array (Option Value))(zs:List (Int × Int))(hz:lU (us.toList.zip vs.toList) zs) :
  Meets (Builtin.«tuple.__gt__» ⟨[.ref l, .ref b],[]⟩)
   (fun _ R s=>s.heap.get? l=some { cls := .type "tuple",dict:=dd,data := .seq us n,slots:=sl }∧s.heap.get? b=some { cls := .type "tuple",dict:=dd2,data := .seq vs n2,slots:=sl2 }∧R (.ok (.ret (.bool (aAV (decide (us.size > vs.size)) zs)))) s):=
 .of_wp fun prog w A R s h=>by
  obtain ⟨s1,s2,s3,s4,s5⟩:=s
  obtain ⟨gl,gb,h⟩:=h
  have f2:=AutoSeq1.sub_tuple_tuple
  wp_walk using AutoSeq1.wpAny_loadPart' gl,AutoSeq1.wpAny_loadPart' gb,wpAny_forIn_list _ (fun rest b s'=>b.1=none∧s'=⟨s1,s2,s3,s4,s5⟩∧∃ ys,lU rest ys∧R (.ok (.ret (.bool (aAV (decide (us.size > vs.size)) ys)))) ⟨s1,s2,s3,s4,s5⟩) _
  case turn=>
   rintro ⟨y,x⟩ rest b s' ⟨hb',rfl,ys,hy,hR⟩
   cases hy with
   | cons p q t u hr=>
    refine wpAny_bind (wpAny_eqBool_int ?_)
    by_cases e:p=q
    ·rw [show (p == q)=true by simpa using e]
     rw [aAV,if_pos e] at hR
     wp_walk
     exact ⟨rfl,rfl,_,hr,hR⟩
    ·rw [show (p == q)=false by simpa using e]
     rw [aAV,if_neg e] at hR
     wp_walk using wK
     exact ⟨_,rfl,hR⟩
  case fin=>
   rintro ⟨b1,b2⟩ s' ⟨hb',rfl,ys,hy,hR⟩
   simp only at hb'
   subst hb'
   cases hy
   wp_walk
   exact ⟨_,rfl,hR⟩
  case h=>
   exact ⟨rfl,rfl,zs,hz,h⟩
section
variable {prog:Program}{w:World}{A:Around}{R:Result→Shared→Prop}{It:Addr}{fp wr:List Addr}{n:Nat}{P:Nat→Value→Prop}{St:Nat→Heap→Prop}
noncomputable def aFk (prog:Program) (w:World) (A:Around) (kp:Heap→Prop) (P:Nat→Value→Prop) (bt:Nat→Nat→Bool):Prop:=
 ∀ i j x y (s:Shared) (Q:Value→Shared→Prop) (E:Value→Shared→Prop),kp s.heap→P i x→P j y→Q (.bool (bt i j)) s→wpAny (model prog w) A (richCompare .Gt x y) Q E s
theorem aGi (W:Walks prog w A.in1 It fp wr n P St)(bt:Nat→Nat→Bool){kp:Heap→Prop}(z:Addr)(hz:z∉fp)(kk:Kp kp wr z)(hc:aFk prog w A.in1 kp P bt) :
  ∀ (k j:Nat) (s:Shared) (x:Value) (c:Nat),n - (j+1)=k→j+1≤n→kp s.heap→St (j+1) s.heap→P (argBest bt j) x→s.heap.get? z=some { cls := .type "list",dict:=none,data := .seq #[x,x] c,slots:=#[] } →
  (∀ v h' tk,P (argBest bt (n - 1)) v→(∀ b o,b∉wr→b≠z→s.heap.get? b=some o→h'.get? b=some o)→R (.ok (.ret v)) { s with heap:=h',toks:=tk }) →
  codeAny (model prog w) A (.builtin "max.loop" ⟨[.ref It, .none, .ref z],[]⟩) R s:=by
 have zw:z∉wr:=fun h=>hz (W.sub _ h)
 have nm:(toString "max" ++ toString ".loop" : String)="max.loop":=by decide
 intro k
 induction k with
 | zero=>
  intro j s x c hk hj kp0 st px gz hR
  have en:j+1=n:=by omega
  refine codeAny_builtin F.entry_max_loop ?g
  case g=>
  rw [Around.under_plainId F.plain_max_loop _];show wpAny _ A.in1 (seqItems? (.ref z) >>= _) _ _ s;refine wpAny_bind (wpAny_seqItems gz rfl ?g)
  case g=>
  show wpAny _ A.in1 (tryCatch (pyNext (.ref It)) _ >>= _) _ _ s;refine wpAny_bind (wpAny_tryCatch (W.done s _ _ (en ▸ st) fun h' tk kh=>?g))
  case g=>
  show wpAny _ A.in1 (updateSeq z (fun _=>#[]) >>= _) _ _ _;refine wpAny_bind (wpAny_updateSeq (kh z _ zw gz) rfl (wpAny_bind (wpAny_letGo (wpAny_pure ?g))))
  case g=>
  exact hR x _ tk (by rw [← en];exact px) fun b o bw bz e=>(Heap.get?_update_other _ _ (Ne.symm bz)).trans (kh b o bw e)
 | succ k ih=>
  intro j s x c hk hj kp0 st px gz hR
  have lt:j+1<n:=by omega
  refine codeAny_builtin F.entry_max_loop ?g
  case g=>
  rw [Around.under_plainId F.plain_max_loop _];show wpAny _ A.in1 (seqItems? (.ref z) >>= _) _ _ s;refine wpAny_bind (wpAny_seqItems gz rfl ?g)
  case g=>
  show wpAny _ A.in1 (tryCatch (pyNext (.ref It)) _ >>= _) _ _ s;refine wpAny_bind (wpAny_tryCatch (W.item (j+1) s _ _ lt st fun v h' tk pv st' kh=>?g))
  case g=>
  have gz':=kh z _ zw gz
  have kp1:kp h':=kk _ _ kp0 fun b o bw _ e=>kh b o bw e
  show wpAny _ A.in1 (tryCatch (holding [v,v] (richCompare .Gt v x >>= _)) _ >>= _) _ _ _;refine wpAny_bind (wpAny_tryCatch (wpAny_holding (wpAny_bind (hc (j+1) (argBest bt j) v x _ _ _ kp1 pv px ?g))))
  case g=>
  refine wpAny_bind (wpAny_holding (wpAny_truthy_bool (wpAny_bind (wpAny_letGo (wpAny_pure ?g)))))
  case g=>
  cases hb:bt (j+1) (argBest bt j) with
  | true=>
   simp only [if_true];refine wpAny_bind (wpAny_updateSeq gz' rfl (wpAny_bind (wpAny_letGo ?g)))
   case g=>
   have up:∀ b o,b≠z→h'.get? b=some o→(h'.update z (Obj.mapSeq fun _=>#[v,v])).get? b=some o:=fun b o bz e=>(Heap.get?_update_other _ _ (Ne.symm bz)).trans e
   rw [nm];refine wpAny_pure ⟨plainId_quiet F.plain_max_loop _,ih (j+1) _ v _ (by omega) lt (kk _ _ kp1 fun b o _ bz e=>up b o bz e) (W.frame _ _ _ st' fun b bf o e=>up b o (fun q=>hz (by rw [← q];exact bf)) e) (by simp only [argBest,hb,if_true];exact pv) (Heap.get?_update_self _ gz' rfl) fun v' h2 tk2 pv' kh2=>?g⟩
   case g=>
   exact hR v' h2 tk2 pv' fun b o bw bz e=>kh2 b o bw bz (up b o bz (kh b o bw e))
  | false=>
   simp only [Bool.false_eq_true,if_false];refine wpAny_bind (wpAny_letGo ?g)
   case g=>
   rw [nm];refine wpAny_pure ⟨plainId_quiet F.plain_max_loop _,ih (j+1) _ x c (by omega) lt kp1 st' (by simp only [argBest,hb,Bool.false_eq_true,if_false];exact px) gz' fun v' h2 tk2 pv' kh2=>?g⟩
   case g=>
   exact hR v' h2 tk2 pv' fun b o bw bz e=>kh2 b o bw bz (kh b o bw e)
theorem aGa (W:Walks prog w A.in1 It fp wr n P St)(bt:Nat→Nat→Bool){kp:Heap→Prop}(z:Addr)(hz:z∉fp)(kk:Kp kp wr z)(hc:aFk prog w A.in1 kp P bt)(hn:0<n){s:Shared}{c:Nat}(kp0:kp s.heap)(st:St 0 s.heap)(gz:s.heap.get? z=some { cls := .type "list",dict:=none,data := .seq #[] c,slots:=#[] })
  (hR:∀ v h' tk,P (argBest bt (n - 1)) v→(∀ b o,b∉wr→b≠z→s.heap.get? b=some o→h'.get? b=some o)→R (.ok (.ret v)) { s with heap:=h',toks:=tk }) :
  codeAny (model prog w) A (.builtin "max.loop" ⟨[.ref It, .none, .ref z],[]⟩) R s:=by
 have zw:z∉wr:=fun h=>hz (W.sub _ h)
 have nm:(toString "max" ++ toString ".loop" : String)="max.loop":=by decide
 refine codeAny_builtin F.entry_max_loop ?g
 case g=>
 rw [Around.under_plainId F.plain_max_loop _];show wpAny _ A.in1 (seqItems? (.ref z) >>= _) _ _ s;refine wpAny_bind (wpAny_seqItems gz rfl ?g)
 case g=>
 show wpAny _ A.in1 (tryCatch (pyNext (.ref It)) _ >>= _) _ _ s;refine wpAny_bind (wpAny_tryCatch (W.item 0 s _ _ hn st fun v h' tk pv st' kh=>?g))
 case g=>
 have gz':=kh z _ zw gz
 have kp1:kp h':=kk _ _ kp0 fun b o bw _ e=>kh b o bw e
 have up:∀ b o,b≠z→h'.get? b=some o→(h'.update z (Obj.mapSeq fun _=>#[v,v])).get? b=some o:=fun b o bz e=>(Heap.get?_update_other _ _ (Ne.symm bz)).trans e
 show wpAny _ A.in1 (updateSeq z (fun _=>#[v,v]) >>= _) _ _ _;refine wpAny_bind (wpAny_updateSeq gz' rfl ?g)
 case g=>
 rw [nm];refine wpAny_pure ⟨plainId_quiet F.plain_max_loop _,aGi W bt z hz kk hc _ 0 _ v _ rfl hn (kk _ _ kp1 fun b o _ bz e=>up b o bz e) (W.frame _ _ _ st' fun b bf o e=>up b o (fun q=>hz (by rw [← q];exact bf)) e) pv (Heap.get?_update_self _ gz' rfl) fun v' h2 tk2 pv' kh2=>?g⟩
 case g=>
 exact hR v' h2 tk2 pv' fun b o bw bz e=>kh2 b o bw bz (up b o bz (kh b o bw e))
end
section
variable {prog:Program}{w:World}{A:Around}{E:Value→Shared→Prop}{s:Shared}
theorem wC {x:Value}{Q:Value→Shared→Prop}
  (h:wpAny (model prog w) A.in1 (pyIter x) (fun it s₂=>∃ It fp wr n P St bt,∃ kp:Heap→Prop,it = .ref It∧Walks prog w A.in1 It fp wr n P St∧St 0 s₂.heap∧(∀ b∈fp,b<s₂.heap.objs.size)∧0<n∧kp s₂.heap∧(∀ z,s₂.heap.objs.size≤z→Kp kp wr z)∧aFk prog w A.in1 kp P bt ∧
   ∀ v h' tk,P (argBest bt (n - 1)) v→(∀ b o,b∉wr→s₂.heap.get? b=some o→h'.get? b=some o)→Q v { s₂ with heap:=h',toks:=tk }) E s) :
  wpAny (model prog w) A (call (.builtin "max") [x]) Q E s:=by
 have nm:(toString "max" ++ toString ".loop" : String)="max.loop":=by decide
 refine call_function_tree F.kind_max F.plain_max F.entry_max (F.args_max1 _) ?g
 case g=>
 show wpAny _ A.in1 (Builtin.Builtins.bindParams "max" ["key","default"] 0 ⟨[],[]⟩ >>= _) _ _ s;refine wpAny_bind (wpAny_of_eq (show Builtin.Builtins.bindParams "max" ["key","default"] 0 ⟨[],[]⟩=pure [none,none] from rfl) (wpAny_bind (wpAny_pure (wpAny_bind (wpAny_mono h (fun it s2 h2=>?g) fun _ _ e=>e)))))
 case g=>
 obtain ⟨It,fp,wr,n,P,St,bt,kp,rfl,W,st,hf,hn,kp0,kk,hc,hQ⟩:=h2
 refine wpAny_bind (wpAny_newObj_type ?g)
 case g=>
 have zf:s2.heap.objs.size∉fp:=fun m=>Nat.lt_irrefl _ (hf _ m)
 have kz:=kk s2.heap.objs.size (Nat.le_refl _)
 rw [nm];refine wpAny_pure ⟨plainId_quiet F.plain_max_loop _,aGa W bt s2.heap.objs.size zf kz hc hn (kz _ _ kp0 fun b o _ _ e=>Heap.get?_push_of_some _ e) (W.frame _ _ _ st fun b _ o e=>Heap.get?_push_of_some _ e) (Heap.get?_push_size _ rfl) fun v h' tk pv kh=>?g⟩
 case g=>
 exact hQ v h' tk pv fun b o bw e=>kh b o bw (Nat.ne_of_lt (Heap.lt_size e)) (Heap.get?_push_of_some _ e)
end
theorem aBS {prog:Program}{w:World}{A:Around}{E:Value→Shared→Prop}{s:Shared}{a b:Addr}{us vs:List Value}{ns ms:List Int}{Q:Value→Shared→Prop}(hu:A.units<cLine)(ha:IsTup s.heap a us.toArray)(hb:IsTup s.heap b vs.toArray)(h1:IntsAre us ns)(h2:IntsAre vs ms)(q:Q (.bool (dD ms ns)) s) :
  wpAny (model prog w) A (richCompare .Gt (.ref a) (.ref b)) Q E s:=by
 obtain ⟨⟨oc,od,odt,osl⟩,e1,c1,n1,d1⟩:=ha
 obtain ⟨⟨pc,pd,pdt,psl⟩,e2,c2,n2,d2⟩:=hb
 subst c1 d1 c2 d2
 refine richCompare_meets_room (op := .Gt) ⟨_,e1,rfl⟩ ⟨_,e2,rfl⟩ F.slot_tuple_gt F.entry_tuple_gt (F.args_tuple_gt_2 _ _) (yG a b us.toArray vs.toArray n1 n2 od pd osl psl (ns.zip ms) (xY h1 h2)) ⟨e1,e2,?g⟩ hu
 case g=>
 have l1:=IntsAre.len h1
 have l2:=IntsAre.len h2
 rw [List.size_toArray,List.size_toArray,l1,l2,zI]
 exact ⟨fun z=>(by cases z),q⟩
noncomputable def aCv (K:PySem.W.Frag):List V→Hp→VK→Prop:=fun vs H Q=>∃ (a:Addr) (xs:List V) (T:List (List Int)),vs=[.ref a]∧Sq K H a xs∧Rows K H xs T∧T≠[]∧∀ (i:Nat) (b:Addr) (row:List Int),xs[i]?=some (.ref b)→T[i]?=some row→SqT K H b (row.map V.int)→(∀ r∈T,dD row r=false)→Q (.ref b) H
theorem yH {X:Cx}{k:Nat}(hr:Room k X.A)(hc:X.calm=true):CallR X (.builtin "max") (aCv X.K):=by
 intro pins s σ H vs us Q I r ⟨a,xs,T,e,hq,hR,hne,q⟩
 subst e
 obtain ⟨u,rfl,ru⟩:=r.one
 obtain rfl:u=Value.ref a:=ru
 refine wC (vL (I.ok.hd hc) I hq fun its It fp wr S s2 rv hz W st hf hI=>?g)
 case g=>
 have hl:its.length=T.length:=by rw [← rv.length,hR.1]
 have hpos:0<T.length:=List.length_pos_iff.mpr hne
 have item:∀ (i:Nat) (v:Value),its[i]?=some v→∃ b row,v = .ref b∧T[i]?=some row∧xs[i]?=some (.ref b)∧SqT X.K H b (row.map V.int):=fun i v hv=>by
  obtain ⟨x,hx,rx⟩:=rv.getR hv
  have hi:i<T.length:=by rw [← hR.1];exact (List.getElem?_eq_some_iff.mp hx).1
  obtain ⟨b,e1,e2⟩:=hR.2 i _ (List.getElem?_eq_getElem hi)
  rw [e1] at hx
  cases hx
  exact ⟨b,_,rx,List.getElem?_eq_getElem hi,e1,e2⟩
 refine ⟨It,fp,wr,its.length,_,S,fun i j=>dD (T.getD j []) (T.getD i []),fun h=>∀ b o,b∉wr→s2.heap.get? b=some o→h.get? b=some o,rfl,W,st,hf,by omega,fun b o _ e=>e,fun z hz0 h h' k1 k2 b o bw e=>k2 b o bw (fun q0=>Nat.not_lt.mpr hz0 (q0 ▸ Heap.lt_size e)) (k1 b o bw e),fun i j vi vj s' Q' E' kp hi hj hQ'=>?g,fun v h' tk hv hk=>?h⟩
 case g=>
  obtain ⟨b1,r1,rfl,t1,_,q1⟩:=item i vi hi
  obtain ⟨b2,r2,rfl,t2,_,q2⟩:=item j vj hj
  have I':=hI s'.heap s'.toks kp
  obtain ⟨us1,v1,p1,_⟩:=I'.tuple q1
  obtain ⟨us2,v2,p2,_⟩:=I'.tuple q2
  refine aBS (ns:=r1) (ms:=r2) (us:=us1) (vs:=us2) (by have:=hr.un;show X.A.units+1<cLine;omega) p1 p2 (kY v1) (kY v2) ?g
  case g=>
  have e1:T.getD i []=r1:=by rw [List.getD_eq_getElem?_getD,t1];rfl
  have e2:T.getD j []=r2:=by rw [List.getD_eq_getElem?_getD,t2];rfl
  have hQ2:Q' (Value.bool (dD (T.getD j []) (T.getD i []))) s':=hQ'
  rw [e1,e2] at hQ2
  exact hQ2
 case h=>
  obtain ⟨b,row,rfl,t1,e1,q1⟩:=item _ v hv
  refine ⟨.ref b,H,hI h' tk hk,rfl,q _ b row e1 t1 q1 fun r0 hr0=>?g⟩
  case g=>
  obtain ⟨j,hj,rfl⟩:=List.getElem_of_mem hr0
  have:=jT (bt:=fun i j=>dD (T.getD j []) (T.getD i [])) (fun i=>iP _) (fun i j k h1 h2=>iK h2 h1) (its.length - 1) j (by omega)
  have e1:T.getD j []=T[j]:=by rw [List.getD_eq_getElem?_getD,List.getElem?_eq_getElem hj];rfl
  have e2:T.getD (argBest (fun i j=>dD (T.getD j []) (T.getD i [])) (its.length - 1)) []=row:=by rw [List.getD_eq_getElem?_getD,t1];rfl
  have g:dD (T.getD (argBest (fun i j=>dD (T.getD j []) (T.getD i [])) (its.length - 1)) []) (T.getD j [])=false:=this
  rw [e1,e2] at g
  exact g
theorem wB {X:Cx}{K:PySem.W.Frag}{k:Nat}(hK:X.K=K)(hr:Room k X.A)(hc:X.calm=true):CallR X (.builtin "max") (aCv K):=by subst hK;exact yH hr hc
noncomputable def aFl (d:Addr) (o:Obj) (kvs:List (Key × V)):It:=
 ⟨fun i H=>i<kvs.length∧H d=some (.frz o (.dK kvs)),fun i H v H'=>∃ p k x,v = .ref p∧H p=none∧kvs[i]?=some (k,x)∧H'=upd H p (.tup [kV k,x]),fun i H=>i=kvs.length∧H d=some (.frz o (.dK kvs))⟩
theorem uX {P:Program}{w:World}:∀ {es:List DictEntry} {vs:List (Key × Value)},Pairs (cO P w) es vs→∀ {i:Nat} {k:Key} {x:Value},vs[i]?=some (k,x)→∃ e,es[i]?=some e∧(cO P w).is k e.key=true∧e.val=x
 | _,_, .nil,_,_,_,h=>by cases h
 | _,_, .cons h1 h2 t,0,k,x,h=>by
  simp only [List.getElem?_cons_zero,Option.some.injEq] at h
  subst h
  exact ⟨_,by simp,h1,h2⟩
 | _,_, .cons _ _ t,i+1,k,x,h=>by
  obtain ⟨e,a,b,c⟩:=uX t (i:=i) (by simpa using h)
  exact ⟨e,by simpa using a,b,c⟩
theorem aDX {κ:Type}:∀ {l:List (κ × V)} {m:List (κ × Value)},KV l m→∀ {i:Nat} {k:κ} {v:V},l[i]?=some (k,v)→∃ x,m[i]?=some (k,x)∧RelV v x
 | _,_, .nil,_,_,_,h=>by cases h
 | _,_, .cons (a:=p) (b:=q) r t,0,k,v,h=>by
  have e:p=(k,v):=by simpa using h
  subst e
  exact ⟨q.2,by rw [List.getElem?_cons_zero,show q=(k,q.2) from Prod.ext r.1.symm rfl],r.2⟩
 | _,_, .cons _ t,i+1,k,v,h=>by
  obtain ⟨x,a,b⟩:=aDX t (i:=i) (by simpa using h)
  exact ⟨x,by simpa using a,b⟩
theorem aCV {P:Program}{w:World}{H:Hp}{h:Heap}{d:Addr}{o:Obj}{kvs:List (Key × V)}(ok:HOk P w H h)(hd:H d=some (.frz o (.dK kvs))):(d == sysModules)=false∧h.get? d=some o∧o.ExactDict∧∃ es ep,o.data = .dict es ep∧es.size=kvs.length∧∀ (i:Nat) (k:Key) (x:V),kvs[i]?=some (k,x)→∃ e,es[i]?=some e∧RelV (kV k) e.key∧RelV x e.val:=by
 obtain ⟨e1,z,y,vs,r,o',es,ep,h1,h2,h3,h4,h5,h6⟩:=ok d _ hd
 rw [e1] at h1
 cases h1
 have hl:=KV.len r
 have hp:=h5.length
 refine ⟨y,e1,h2,es,ep,h3,by rw [hl,← hp,Array.length_toList],fun i k x hx=>?_⟩
 obtain ⟨u,hu,ru⟩:=aDX r hx
 obtain ⟨e,he,hk,hv⟩:=uX h5 hu
 exact ⟨e,by rw [← Array.getElem?_toList];exact he,aBT hk,by rw [hv];exact ru⟩
theorem tU {P:Program}{w:World}{K:PySem.W.Frag}{es:List Expr}{k:Nat}{pos:Pos}{d it:Addr}{o:Obj}{kvs:List (Key × V)}{des:Array DictEntry}{ep:Nat}(hne:d≠it)(hdat:o.data = .dict des ep)(hz:des.size=kvs.length) :
  aBH P w K (.Tuple es k pos) (aFl d o kvs) [it] it (fun i h=>∃ k0 v0,IsItemIter h it d i kvs.length ep k0 v0) where
 mem:=by simp
 obj:=fun i h ⟨k0,v0,e⟩ b hb=>by
  obtain rfl:b=it:=by simpa using hb
  exact ⟨_,e,fun v z=>by cases z⟩
 keep:=fun i h h' ⟨k0,v0,e⟩ kp=>⟨k0,v0,kp it (by simp) _ e⟩
 item:=by
  intro X hP hw hK hc i pins s σ H E I hf st hg
  subst hP hw hK
  obtain ⟨k0,v0,st⟩:=st
  obtain ⟨hi,hd⟩:=hg
  obtain ⟨_,h1,h2,es',ep',h3,_,hat⟩:=aCV I.hok hd
  rw [hdat] at h3
  cases h3
  obtain ⟨⟨ky,x⟩,hkx⟩:∃ p,kvs[i]=p:=⟨_,rfl⟩
  have hki:kvs[i]?=some (ky,x):=by rw [List.getElem?_eq_getElem hi,hkx]
  obtain ⟨e,he,ek,ev⟩:=hat i ky x hki
  rw [← hz] at st
  refine sY st h1 hdat he fun h' g1 g3 g4 kp=>⟨_,rfl,?_⟩
  refine wpAny_letOwnedTupleGo_items (s:={ s with heap:=h' }) g1 fun h2' g1' sb=>?_
  have hn:H s.heap.objs.size=none:=I.hok.fresh (Nat.le_refl _)
  have lt:it<s.heap.objs.size:=Heap.lt_size st
  have I1:Inv X pins σ (upd H s.heap.objs.size (.tup [kV ky,x])) { s with heap:=s.heap.push { cls := .type "tuple",data := .seq #[e.key,e.val] } }:=
   I.laid (t':=s.toks) (fun c o e=>Heap.get?_push_of_some _ e) (Nat.le_refl _) (show ObjOk X.prog X.w _ _ _ (.tup [kV ky,x]) from ⟨show 2≤sizeLine by decide,[e.key,e.val], .cons ek (.cons ev .nil),TupN.new _ _⟩)
  have hf1:∀ c∈[it],sS X pins (upd H s.heap.objs.size (.tup [kV ky,x])) c:=fun c hb=>by
   obtain rfl:c=it:=by simpa using hb
   obtain ⟨f0,f⟩:=hf c hb
   exact ⟨by rw [aO (Nat.ne_of_lt lt)];exact f0,f⟩
  have I2:Inv X pins σ (upd H s.heap.objs.size (.tup [kV ky,x])) { s with heap:=h' }:=I1.turnedL (t':=s.toks) hf1 fun c o nb e=>by
   rcases Heap.get?_push_cases e with ⟨eb,eo⟩ | e
   ·subst eb;subst eo
    exact g3
   ·exact kp c o (fun q=>nb (by simp [q])) e
  have I3:Inv X pins σ (upd H s.heap.objs.size (.tup [kV ky,x])) { s with heap:=h2' }:=I2.turnedL (t':=s.toks) hf1 fun c o nb e=>sb.extBut _ _ (fun q=>nb (by simp [q])) e
  rw [hz] at g1'
  exact ⟨.ref s.heap.objs.size,_,I3,rfl,⟨_,ky,x,rfl,hn,hki,rfl⟩,⟨_,_,g1'⟩,fun c hb=>(hf1 c hb).1⟩
 done:=by
  intro X hP hw hK hc i pins s σ H E I hf st hg
  subst hP hw hK
  obtain ⟨k0,v0,st⟩:=st
  obtain ⟨hi,hd⟩:=hg
  subst hi
  obtain ⟨_,h1,h2,es',ep',h3,_,_⟩:=aCV I.hok hd
  rw [hdat] at h3
  cases h3
  rw [← hz] at st
  refine vS (I.ok.hd hc) st h1 hdat fun h' kp=>⟨rfl,?_⟩
  exact I.turnedL (t':=s.toks) hf fun c o n e=>kp c o (fun q=>n (by simp [q])) e
 self:=fun _ _ s _ _ st q=>by
  obtain ⟨k0,v0,st⟩:=st
  exact PySem.W.kcp_self st q
noncomputable def xW (td:TE):TI:=fun σ H R=>td σ H fun x H1=>∃ d kvs,x = .ref d∧H1 d=some (.dK kvs)∧∀ o,R (aFl d o kvs) (upd H1 d (.frz o (.dK kvs)))
theorem zE {X:Cx}{es:List Expr}{k:Nat}{po apos cpos:Pos}{o:Expr}{td:TE}(ho:PE X o td)
  (hbase:attributeBase o "items" X.env (eval o X.env)=eval o X.env:=by rfl) (hline:(apos.endLine == cpos.line)=true:=by rfl) :
  PI X (.Tuple es k po) (.Call (.Attribute o "items" apos) [] [] cpos) (xW td):=by
 intro pins s σ H R I h
 refine wpAny_Call_method0_late hbase hline (thn (ho pins s σ H _ I h) fun v s1 ⟨x,H1,I1,r1,d,kvs,ex,hd,q1⟩=>?_)
 subst ex
 obtain rfl:v=Value.ref d:=r1
 obtain ⟨_,ysm,vs,r,ob,des,ep,eo,ex,edt,rest⟩:=I1.hok d _ hd
 have hT:s1.TypeIs (.ref d) "dict":=⟨ob,eo,ex.1⟩
 have hz:des.size=kvs.length:=by rw [KV.len r,← rest.2.1.length,Array.length_toList]
 refine ⟨"dict","dict.items",F.plainAttrs_dict,F.slot_dict_items,F.type_dict_items,hT,fun a ea=>by cases ea;exact ⟨ob,eo,ex.2.1⟩,Calls.callWith_builtin rfl (PySem.evalArgs_none (tQ ysm hT ?_))⟩
 have hv:(s1.heap.push (aAn d)).IsItemsView s1.heap.objs.size d:=⟨_,Heap.get?_push_size _ rfl,rfl,rfl⟩
 have h1':(s1.heap.push (aAn d)).get? d=some ob:=Heap.get?_push_of_some _ eo
 refine tW (s:={ s1 with heap:=s1.heap.push (aAn d) }) hv h1' edt ?_
 have I1':=I1.freeze hd eo
 have I2:Inv X pins σ (upd H1 d (.frz ob (.dK kvs))) { s1 with heap:=s1.heap.push (aAn d) }:=I1'.kept (t':=s1.toks) fun b o e=>Heap.get?_push_of_some _ e
 have I3:Inv X pins σ (upd H1 d (.frz ob (.dK kvs))) { s1 with heap:=(s1.heap.push (aAn d)).push (aFG d des.size ep) }:=I2.kept (t':=s1.toks) fun b o e=>Heap.get?_push_of_some _ e
 have hne:d≠(s1.heap.push (aAn d)).objs.size:=Nat.ne_of_lt (Heap.lt_size h1')
 refine ⟨_,[(s1.heap.push (aAn d)).objs.size],_,_,_,rfl,I3,tU hne edt hz,⟨_,_,by rw [← hz];exact Heap.get?_push_size _ rfl⟩,fun c hb=>?_,q1 ob⟩
 obtain rfl:c=(s1.heap.push (aAn d)).objs.size:=by simpa using hb
 exact I2.fpOk (Nat.le_refl _) (I2.hok.fresh (Nat.le_refl _))
theorem vP {d:Addr}{o:Obj}{kvs:List (Key × V)}{g:TG}{tb:TS}{D:lG}{σ:St}{H:Hp}(Pv:Nat→St→Hp→Prop)(h0:Pv 0 σ H)(hl:∀ i σ H,i≤kvs.length→Pv i σ H→H d=some (.frz o (.dK kvs)))
  (hs:∀ i k x σ H p,kvs[i]?=some (k,x)→H p=none→Pv i σ H→g (.ref p) σ (upd H p (.tup [kV k,x])) fun σ2 H2=>tb { D with nx:=Pv (i+1),ct:=Pv (i+1),bk:=D.nx } σ2 H2) (hd:∀ σ H,Pv kvs.length σ H→D.nx σ H) :
  jM (aFl d o kvs) g tb D σ H:=by
 refine ⟨fun i m σ H=>m=kvs.length - i∧i≤kvs.length∧Pv i σ H,⟨kvs.length,by simp,Nat.zero_le _,h0⟩,?_⟩
 rintro i m σ H ⟨rfl,hi,p⟩
 have q1:=hl i σ H hi p
 by_cases hlt:i<kvs.length
 ·refine .inr ⟨⟨hlt,q1⟩,Pv (i+1),fun σ' H' p'=>⟨kvs.length - (i+1),by omega,rfl,hlt,p'⟩,fun v H' ⟨a,k,x,e1,e2,e3,e4⟩=>?_⟩
  subst e1;subst e4
  exact hs i k x σ H a e3 e2 p
 ·obtain rfl:i=kvs.length:=by omega
  exact .inl ⟨⟨rfl,q1⟩,hd σ H p⟩
end L2
namespace K63
open PySem L2
noncomputable def top (i:Nat):Stmt:=PySem.Challenge.pw_homeround_k63_trees_or_four_that_break.main.body.getD i (.Pass ⟨0,0,0,0⟩)
section
variable {P:Program}{w:World}{K:PySem.W.Frag}{mg:Str→Option Value}{base:Heap}{f:Addr}{fd:FuncData}
theorem rR:bU ["top","bottom","measure"] ["top","bottom"] (aK (top 4)):=⟨rfl,rfl,rfl,by decide +kernel,rfl,by decide +kernel,by decide +kernel⟩
noncomputable def uV (K:PySem.W.Frag)  (cV:Sp):TS:=(aX (cF (bY cV [] E0 (aC (aD 0) (aC (aD 1) aU))) (aJ 2)) (aX (iU (cM (tOp yLt (aD 1) (tC (.int 0)))) (aX (cF (tUn aCW (aD 2)) (aJ 2)) aR) aR) (aX (fI (oJ (aC (tOp xA (aD 0) (aD 2)) (aC (tOp xA (aD 1) (aD 2)) aU)))) aR)))
theorem yN (F:Fun K "lowest" "lowest" (top 4) f fd)(B:kZ mg)    {cV:Sp}(eI:Def P w K mg base "common_measure" 1 ["one","other"] cV)  {sp:Sp}(len:∀ vs H Q E,sp vs H Q E→vs.length=2)
  (rd:∀ vs H Q E,sp vs H Q E→uV K  cV { nx:=fun _ H'=>Q .non H',rt:=Q } (start ["top","bottom","measure"] vs) H):FnOk P w K mg base CX0 2 f fd ["top","bottom"] sp:=by
 refine F.ok rR len (fun cdv A outer s H vs Q E hr h=>⟨_,?_,rd vs H Q E h⟩)
 have nd:=rR.nd
 exact (@aA _ _ _ _ _ (@bC _ _ 2 _ _ _ _ nd rfl (Or.inl rfl) (bG (eI.mono (by decide)) hr rfl (@aB _ _ _ _ _ _ (pv 0) (@aB _ _ _ _ _ _ (pv 1) aF))) (by rfl) (by first | exact .inl rfl | exact .inr rfl | assumption)) (@aA _ _ _ _ _ (@dY _ _ _ _ _ _ _ _ (bO rV (pv 1) aH (bN _)) (@aA _ _ _ _ _ (@bC _ _ 2 _ _ _ _ nd rfl (Or.inl rfl) (aBL wZ (pv 2)) (by rfl) (by first | exact .inl rfl | exact .inr rfl | assumption)) aI) aI) (@aA _ _ _ _ _ (@bQ _ _ _ _ (@dP _ _ _ _ _ (@cG _ _ _ _ _ _ _ _ (@aZ _ _ _ _ _ _ _ _ mN (pv 0) (pv 2)) (@cG _ _ _ _ _ _ _ _ (@aZ _ _ _ _ _ _ _ _ mN (pv 1) (pv 2)) aF)))) aI)))
theorem fY:bU ["one","other","left"] ["one","other"] (aK (top 5)):=⟨rfl,rfl,rfl,by decide +kernel,rfl,by decide +kernel,by decide +kernel⟩
noncomputable def gL (K:PySem.W.Frag)   : TS:=(aX (cF (tCB aEL (aC (aD 0) aU)) (aJ 0)) (aX (cF (tCB aEL (aC (aD 1) aU)) (aJ 1)) (aX (oU (cM (tOp yGt (aD 1) (tC (.int 0)))) (aX (cF (tOp pS (aD 0) (aD 1)) (aJ 2)) (aX (cF (aD 1) (aJ 0)) (aX (cF (aD 2) (aJ 1)) aR)))) (aX (fI (aD 0)) aR))))
theorem lI (F:Fun K "common_measure" "common_measure" (top 5) f fd)(B:kZ mg)      {sp:Sp}(len:∀ vs H Q E,sp vs H Q E→vs.length=2)
  (rd:∀ vs H Q E,sp vs H Q E→gL K   { nx:=fun _ H'=>Q .non H',rt:=Q } (start ["one","other","left"] vs) H):FnOk P w K mg base CX0 1 f fd ["one","other"] sp:=by
 refine F.ok fY len (fun cdv A outer s H vs Q E hr h=>⟨_,?_,rd vs H Q E h⟩)
 have nd:=fY.nd
 exact (@aA _ _ _ _ _ (@bC _ _ 0 _ _ _ _ nd rfl (Or.inl rfl) (aT sF rfl B.abs aBm (@aB _ _ _ _ _ _ (pv 0) aF)) (by rfl) (by first | exact .inl rfl | exact .inr rfl | assumption)) (@aA _ _ _ _ _ (@bC _ _ 1 _ _ _ _ nd rfl (Or.inl rfl) (aT sF rfl B.abs aBm (@aB _ _ _ _ _ _ (pv 1) aF)) (by rfl) (by first | exact .inl rfl | exact .inr rfl | assumption)) (@aA _ _ _ _ _ (jX PassesOwn.never (bO lJ (pv 1) aH (bN _)) (@aA _ _ _ _ _ (@bC _ _ 2 _ _ _ _ nd rfl (Or.inl rfl) (@aZ _ _ _ _ _ _ _ _ gO (pv 0) (pv 1)) (by rfl) (by first | exact .inl rfl | exact .inr rfl | assumption)) (@aA _ _ _ _ _ (@bC _ _ 0 _ _ _ _ nd rfl (Or.inl rfl) (pv 1) (by rfl) (by first | exact .inl rfl | exact .inr rfl | assumption)) (@aA _ _ _ _ _ (@bC _ _ 1 _ _ _ _ nd rfl (Or.inl rfl) (pv 2) (by rfl) (by first | exact .inl rfl | exact .inr rfl | assumption)) aI)))) (@aA _ _ _ _ _ (@bQ _ _ _ _ (pv 0)) aI))))
theorem pA:bU ["table","many"] ["table"] (aK (top 7)):=⟨rfl,rfl,rfl,by decide +kernel,rfl,by decide +kernel,by decide +kernel⟩
noncomputable def rG (K:PySem.W.Frag)   : TS:=(aX (cF (tCB (oB K) (aC (aD 0) aU)) (aJ 1)) (aX (fI (tCB (aEx K) (aC (eC [none,none,some 0] (dM (aC (aD 1) aU)) (aJ 0) [] fun acc=>(kU (dM (aC (aD 0) aU)) (aJ 1) (iB [] (dX (tOp (vT K) (tOp (bS K) (tOp (bS K) (aD 2) (aD 0)) (aD 1)) (tOp (bS K) (tOp (bS K) (aD 2) (aD 1)) (aD 0))) acc)))) aU))) aR))
theorem vZ (F:Fun K "is_even" "is_even" (top 7) f fd)(B:kZ mg)      {sp:Sp}(len:∀ vs H Q E,sp vs H Q E→vs.length=1)
  (rd:∀ vs H Q E,sp vs H Q E→rG K   { nx:=fun _ H'=>Q .non H',rt:=Q } (start ["table","many"] vs) H):FnOk P w K mg base CX0 1 f fd ["table"] sp:=by
 refine F.ok pA len (fun cdv A outer s H vs Q E hr h=>⟨_,?_,rd vs H Q E h⟩)
 have nd:=pA.nd
 exact (@aA _ _ _ _ _ (@bC _ _ 1 _ _ _ _ nd rfl (Or.inl rfl) (aT (bJ (K:=K) rfl) rfl B.len cU (@aB _ _ _ _ _ _ (pv 0) aF)) (by rfl) (by first | exact .inl rfl | exact .inr rfl | assumption)) (@aA _ _ _ _ _ (@bQ _ _ _ _ (aT (nH (K:=K) rfl rfl) rfl B.all zA (cL (fO (N':=["i","j","table"]) (ix:=[none,none,some 0]) rfl rfl rfl (bK rfl B.range (@aB _ _ _ _ _ _ (pv 1) aF)) (fun _ _ _=>(aS (i:=0) (show (["i","j","table"]:List Str).Nodup from by decide +kernel) rfl (Or.inl rfl))) (fun _ _ _ => .nil) (fun _ _ _ _=>(pZ rfl rfl rfl (fun _ h=>by first | (cases h;rfl) | cases h) (bK rfl B.range (@aB _ _ _ _ _ _ (pv 0) aF)) (aS (i:=1) (show (["i","j","table"]:List Str).Nodup from by decide +kernel) rfl (Or.inl rfl)) .nil (cT rfl (eE (kN (K:=K) rfl hr) (@aY _ _ _ _ _ _ _ (aN (K:=K) rfl) (@aY _ _ _ _ _ _ _ (aN (K:=K) rfl) (pv 2) (pv 0) (fun _ _=>rfl)) (pv 1) (fun _ _=>rfl)) (@aY _ _ _ _ _ _ _ (aN (K:=K) rfl) (@aY _ _ _ _ _ _ _ (aN (K:=K) rfl) (pv 2) (pv 1) (fun _ _=>rfl)) (pv 0) (fun _ _=>rfl)) (bN _)) rfl)))) aF))) aI))
theorem gY:bU ["table","four"] ["table"] (aK (top 9)):=⟨rfl,rfl,rfl,by decide +kernel,rfl,by decide +kernel,by decide +kernel⟩
noncomputable def jG (K:PySem.W.Frag)  (cY:Sp) (qL:Sp) (iS:Sp):TS:=(aX (iU (qR (tB (bY iS [] E0 (aC (aD 0) aU)))) (aX aBr aR) aR) (aX (cF (bY cY [] E0 (aC (aD 0) aU)) (aJ 1)) (aX (iU (cM (tOp zX (aD 1) (tC .non))) (aX (fI (oJ (aC (tC (.str "four")) (aC (aD 1) aU)))) aR) aR) (aX (fI (oJ (aC (tC (.str "tree")) (aC (bY qL [] E0 (aC (aD 0) aU)) aU)))) aR))))
theorem nK (F:Fun K "tree_or_four" "tree_or_four" (top 9) f fd)(B:kZ mg)    {cY:Sp}(fD:Def P w K mg base "breaking_four" 2 ["table"] cY){qL:Sp}(aAc:Def P w K mg base "draw" 3 ["table"] qL){iS:Sp}(oD:Def P w K mg base "is_even" 1 ["table"] iS)  {sp:Sp}(len:∀ vs H Q E,sp vs H Q E→vs.length=1)
  (rd:∀ vs H Q E,sp vs H Q E→jG K  cY qL iS { nx:=fun _ H'=>Q .non H',rt:=Q } (start ["table","four"] vs) H):FnOk P w K mg base CX0 4 f fd ["table"] sp:=by
 refine F.ok gY len (fun cdv A outer s H vs Q E hr h=>⟨_,?_,rd vs H Q E h⟩)
 have nd:=gY.nd
 exact (@aA _ _ _ _ _ (@dY _ _ _ _ _ _ _ _ (eJ (eZ (bG (oD.mono (by decide)) hr rfl (@aB _ _ _ _ _ _ (pv 0) aF)))) (@aA _ _ _ _ _ aAM aI) aI) (@aA _ _ _ _ _ (@bC _ _ 1 _ _ _ _ nd rfl (Or.inl rfl) (bG (fD.mono (by decide)) hr rfl (@aB _ _ _ _ _ _ (pv 0) aF)) (by rfl) (by first | exact .inl rfl | exact .inr rfl | assumption)) (@aA _ _ _ _ _ (@dY _ _ _ _ _ _ _ _ (bO xX (pv 1) zO (bN _)) (@aA _ _ _ _ _ (@bQ _ _ _ _ (@dP _ _ _ _ _ (@aV _ _ _ _ _ _ _ uI (@aB _ _ _ _ _ _ (pv 1) aF)))) aI) aI) (@aA _ _ _ _ _ (@bQ _ _ _ _ (@dP _ _ _ _ _ (@aV _ _ _ _ _ _ _ uI (@bR _ _ _ _ _ _ _ _ (bG (aAc.mono (by decide)) hr rfl (@aB _ _ _ _ _ _ (pv 0) aF)) aF)))) aI))))
theorem gN:bU ["table","many","found"] ["table"] (aK (top 10)):=⟨rfl,rfl,rfl,by decide +kernel,rfl,by decide +kernel,by decide +kernel⟩
noncomputable def gX (K:PySem.W.Frag)  (eN:Sp):TS:=(aX (cF (tCB (oB K) (aC (aD 0) aU)) (aJ 1)) (aX (cF (eC [none,none,none,none,some 1,some 0] (dM (aC (aD 1) aU)) (aJ 0) [] fun acc=>(kU (dM (aC (aD 0) aU)) (aJ 1) (iB [] (kU (dM (aC (aD 4) aU)) (aJ 2) (iB [] (kU (dM (aC (tOp (bH K) (aD 2) (tC (.int 1))) aU)) (aJ 3) (iB [(tB (bY eN [] E0 (aC (aD 5) (aC (aD 0) (aC (aD 1) (aC (aD 2) (aC (aD 3) aU)))))))] (dX (oJ (aC (aD 0) (aC (aD 1) (aC (aD 2) (aC (aD 3) aU))))) acc)))))))) (aJ 2)) (aX (fI (tIf (aEv K (aD 2)) (tOp (bS K) (aD 2) (tC (.int 0))) (tC .non))) aR)))
theorem mL (F:Fun K "breaking_four" "breaking_four" (top 10) f fd)(B:kZ mg)    {eN:Sp}(iI:Def P w K mg base "does_break" 1 ["table","i","j","k","l"] eN)  {sp:Sp}(len:∀ vs H Q E,sp vs H Q E→vs.length=1)
  (rd:∀ vs H Q E,sp vs H Q E→gX K  eN { nx:=fun _ H'=>Q .non H',rt:=Q } (start ["table","many","found"] vs) H):FnOk P w K mg base CX0 2 f fd ["table"] sp:=by
 refine F.ok gN len (fun cdv A outer s H vs Q E hr h=>⟨_,?_,rd vs H Q E h⟩)
 have nd:=gN.nd
 exact (@aA _ _ _ _ _ (@bC _ _ 1 _ _ _ _ nd rfl (Or.inr rfl) (aT (bJ (K:=K) rfl) rfl B.len cU (@aB _ _ _ _ _ _ (pv 0) aF)) (by rfl) (by first | exact .inl rfl | exact .inr rfl | assumption)) (@aA _ _ _ _ _ (dR (i:=2) nd rfl (Or.inl rfl) (N':=["i","j","k","l","many","table"]) (ix:=[none,none,none,none,some 1,some 0]) rfl rfl rfl (bK rfl B.range (@aB _ _ _ _ _ _ (pv 1) aF)) (fun _ _ _=>(aS (i:=0) (show (["i","j","k","l","many","table"]:List Str).Nodup from by decide +kernel) rfl (Or.inl rfl))) (fun _ _ _ => .nil) (fun _ _ _ _=>(pZ rfl rfl rfl (fun _ h=>by first | (cases h;rfl) | cases h) (bK rfl B.range (@aB _ _ _ _ _ _ (pv 0) aF)) (aS (i:=1) (show (["i","j","k","l","many","table"]:List Str).Nodup from by decide +kernel) rfl (Or.inl rfl)) .nil (pZ rfl rfl rfl (fun _ h=>by first | (cases h;rfl) | cases h) (bK rfl B.range (@aB _ _ _ _ _ _ (pv 4) aF)) (aS (i:=2) (show (["i","j","k","l","many","table"]:List Str).Nodup from by decide +kernel) rfl (Or.inl rfl)) .nil (pZ rfl rfl rfl (fun _ h=>by first | (cases h;rfl) | cases h) (bK rfl B.range (@cG _ _ _ _ _ _ _ _ (@aZ _ _ _ _ _ _ _ _ (bA (K:=K) rfl) (pv 2) aH) aF)) (aS (i:=3) (show (["i","j","k","l","many","table"]:List Str).Nodup from by decide +kernel) rfl (Or.inl rfl)) (.cons (eZ (bG (iI.mono (by decide)) hr rfl (@aB _ _ _ _ _ _ (pv 5) (@aB _ _ _ _ _ _ (pv 0) (@aB _ _ _ _ _ _ (pv 1) (@aB _ _ _ _ _ _ (pv 2) (@aB _ _ _ _ _ _ (pv 3) aF))))))) .nil) (cT rfl (@dP _ _ _ _ _ (@aB _ _ _ _ _ _ (pv 0) (@aB _ _ _ _ _ _ (pv 1) (@aB _ _ _ _ _ _ (pv 2) (@aB _ _ _ _ _ _ (pv 3) aF))))) rfl)))))) (@aA _ _ _ _ _ (@bQ _ _ _ _ (mP (zQ (K:=K) rfl (pv 2) (fun _=>rfl)) (@aY _ _ _ _ _ _ _ (aN (K:=K) rfl) (pv 2) aH (fun _ _=>rfl)) zO)) aI)))
theorem jY:bU ["table","i","j","k","l","both"] ["table","i","j","k","l"] (aK (top 11)):=⟨rfl,rfl,rfl,by decide +kernel,rfl,by decide +kernel,by decide +kernel⟩
noncomputable def iD (K:PySem.W.Frag)   : TS:=(aX (cF (tOp (bH K) (tOp (bS K) (tOp (bS K) (aD 0) (aD 1)) (aD 2)) (tOp (bS K) (tOp (bS K) (aD 0) (aD 3)) (aD 4))) (aJ 5)) (aX (fI (tK (tOp yGt (aD 5) (tOp (bH K) (tOp (bS K) (tOp (bS K) (aD 0) (aD 1)) (aD 3)) (tOp (bS K) (tOp (bS K) (aD 0) (aD 2)) (aD 4)))) (tOp yGt (aD 5) (tOp (bH K) (tOp (bS K) (tOp (bS K) (aD 0) (aD 1)) (aD 4)) (tOp (bS K) (tOp (bS K) (aD 0) (aD 2)) (aD 3)))))) aR))
theorem pX (F:Fun K "does_break" "does_break" (top 11) f fd)(B:kZ mg)      {sp:Sp}(len:∀ vs H Q E,sp vs H Q E→vs.length=5)
  (rd:∀ vs H Q E,sp vs H Q E→iD K   { nx:=fun _ H'=>Q .non H',rt:=Q } (start ["table","i","j","k","l","both"] vs) H):FnOk P w K mg base CX0 1 f fd ["table","i","j","k","l"] sp:=by
 refine F.ok jY len (fun cdv A outer s H vs Q E hr h=>⟨_,?_,rd vs H Q E h⟩)
 have nd:=jY.nd
 exact (@aA _ _ _ _ _ (@bC _ _ 5 _ _ _ _ nd rfl (Or.inl rfl) (@aZ _ _ _ _ _ _ _ _ (bA (K:=K) rfl) (@aY _ _ _ _ _ _ _ (aN (K:=K) rfl) (@aY _ _ _ _ _ _ _ (aN (K:=K) rfl) (pv 0) (pv 1) (fun _ _=>rfl)) (pv 2) (fun _ _=>rfl)) (@aY _ _ _ _ _ _ _ (aN (K:=K) rfl) (@aY _ _ _ _ _ _ _ (aN (K:=K) rfl) (pv 0) (pv 3) (fun _ _=>rfl)) (pv 4) (fun _ _=>rfl))) (by rfl) (by first | exact .inl rfl | exact .inr rfl | assumption)) (@aA _ _ _ _ _ (@bQ _ _ _ _ (oQ (eE lJ (pv 5) (@aZ _ _ _ _ _ _ _ _ (bA (K:=K) rfl) (@aY _ _ _ _ _ _ _ (aN (K:=K) rfl) (@aY _ _ _ _ _ _ _ (aN (K:=K) rfl) (pv 0) (pv 1) (fun _ _=>rfl)) (pv 3) (fun _ _=>rfl)) (@aY _ _ _ _ _ _ _ (aN (K:=K) rfl) (@aY _ _ _ _ _ _ _ (aN (K:=K) rfl) (pv 0) (pv 2) (fun _ _=>rfl)) (pv 4) (fun _ _=>rfl))) (bN _)) (sH (eE lJ (pv 5) (@aZ _ _ _ _ _ _ _ _ (bA (K:=K) rfl) (@aY _ _ _ _ _ _ _ (aN (K:=K) rfl) (@aY _ _ _ _ _ _ _ (aN (K:=K) rfl) (pv 0) (pv 1) (fun _ _=>rfl)) (pv 4) (fun _ _=>rfl)) (@aY _ _ _ _ _ _ _ (aN (K:=K) rfl) (@aY _ _ _ _ _ _ _ (aN (K:=K) rfl) (pv 0) (pv 2) (fun _ _=>rfl)) (pv 3) (fun _ _=>rfl))) (bN _))))) aI))
theorem xG:bU ["table","above","depths","place","ties"] ["table"] (aK (top 12)):=⟨rfl,rfl,rfl,by decide +kernel,rfl,by decide +kernel,by decide +kernel⟩
noncomputable def xT (K:PySem.W.Frag)  (qN:Sp) (kT:Sp):TS:=(aX (cF aBy (aJ 1)) (aX (cF (aBI [((tC (.int 0)),(tC (.int 0)))]) (aJ 2)) (aX (kU (wD (aC (tC (.int 1)) (aC (tCB (oB K) (aC (aD 0) aU)) aU))) (aJ 3) (aX (sI (bY qN [] E0 (aC (aD 0) (aC (aD 1) (aC (aD 2) (aC (aD 3) aU)))))) aR)) (aX (cF (eC [none,none,some 2] (xW (aD 1)) (yO K 2 (eA (aJ 0) (eA (aJ 1) aAf))) [] fun acc=>(dX (oJ (aC (tCB rC (aC (aD 0) (aC (aD 1) aU))) (aC (tCB tD (aC (aD 0) (aC (aD 1) aU))) (aC (bY kT [] E0 (aC (tOp uE (jK (aD 2) (aD 0)) (jK (aD 2) (aD 1))) (aC (tC (.int 2)) aU))) aU)))) acc)) (aJ 4)) (aX (fI (tCB (dZ K) (aC (tCB (uD K) (aC (aD 4) aU)) aU))) aR)))))
theorem aCt (F:Fun K "draw" "draw" (top 12) f fd)(B:kZ mg)    {qN:Sp}(aAd:Def P w K mg base "hang" 1 ["table","above","depths","place"] qN){kT:Sp}(qO:Def P w K mg base "lowest" 2 ["top","bottom"] kT)  {sp:Sp}(len:∀ vs H Q E,sp vs H Q E→vs.length=1)
  (rd:∀ vs H Q E,sp vs H Q E→xT K  qN kT { nx:=fun _ H'=>Q .non H',rt:=Q } (start ["table","above","depths","place","ties"] vs) H):FnOk P w K mg base CX0 3 f fd ["table"] sp:=by
 refine F.ok xG len (fun cdv A outer s H vs Q E hr h=>⟨_,?_,rd vs H Q E h⟩)
 have nd:=xG.nd
 exact (@aA _ _ _ _ _ (@bC _ _ 1 _ _ _ _ nd rfl (Or.inl rfl) aAK (by rfl) (by first | exact .inl rfl | exact .inr rfl | assumption)) (@aA _ _ _ _ _ (@bC _ _ 2 _ _ _ _ nd rfl (Or.inr rfl) (zC (vH aH aH yI) rfl rfl (by intro h;cases h) (by decide)) (by rfl) (by first | exact .inl rfl | exact .inr rfl | assumption)) (@aA _ _ _ _ _ (dN PassesOwn.never rfl (iF rfl B.range (@aV _ _ _ _ _ _ _ aH (@bR _ _ _ _ _ _ _ _ (aT (bJ (K:=K) rfl) rfl B.len cU (@aB _ _ _ _ _ _ (pv 0) aF)) aF))) (aS (i:=3) nd rfl (Or.inl rfl)) (@aA _ _ _ _ _ (lM (bG (aAd.mono (by decide)) hr rfl (@aB _ _ _ _ _ _ (pv 0) (@aB _ _ _ _ _ _ (pv 1) (@aB _ _ _ _ _ _ (pv 2) (@aB _ _ _ _ _ _ (pv 3) aF)))))) aI)) (@aA _ _ _ _ _ (dR (i:=4) nd rfl (Or.inl rfl) (N':=["place","over","depths"]) (ix:=[none,none,some 2]) rfl rfl rfl (zE (pv 1)) (fun _ _ _=>(gF (K:=K) rfl rfl (bL (aS (i:=0) (show (["place","over","depths"]:List Str).Nodup from by decide +kernel) rfl (Or.inl rfl)) (bL (aS (i:=1) (show (["place","over","depths"]:List Str).Nodup from by decide +kernel) rfl (Or.inl rfl)) gC)))) (fun _ _ _ => .nil) (fun _ _ _ _=>(cT rfl (@dP _ _ _ _ _ (@bR _ _ _ _ _ _ _ _ (aT (iM rfl) rfl B.min uQ (@aB _ _ _ _ _ _ (pv 0) (@aB _ _ _ _ _ _ (pv 1) aF))) (@bR _ _ _ _ _ _ _ _ (aT (lD rfl) rfl B.max vF (@aB _ _ _ _ _ _ (pv 0) (@aB _ _ _ _ _ _ (pv 1) aF))) (@bR _ _ _ _ _ _ _ _ (bG (qO.mono (by decide)) hr rfl (@cG _ _ _ _ _ _ _ _ (@aZ _ _ _ _ _ _ _ _ kE (eB (gE hr) (pv 2) (pv 0) (fun _ _=>rfl)) (eB (gE hr) (pv 2) (pv 1) (fun _ _=>rfl))) (@aV _ _ _ _ _ _ _ aH aF))) aF)))) rfl))) (@aA _ _ _ _ _ (@bQ _ _ _ _ (bX (cH (K:=K) rfl) rfl B.tuple cP (@bR _ _ _ _ _ _ _ _ (aT (nB (K:=K) rfl hr) rfl B.sorted qW (@aB _ _ _ _ _ _ (pv 4) aF)) aF))) aI)))))
theorem zZ:bU ["table","above","depths","place","fork","spot","depth","joint"] ["table","above","depths","place"] (aK (top 13)):=⟨rfl,rfl,rfl,by decide +kernel,rfl,by decide +kernel,by decide +kernel⟩
noncomputable def aBp (K:PySem.W.Frag)   : TS:=(aX (cF (tCB (aCv K) (aC (eC [none,some 0,some 3] (dM (aC (aD 3) aU)) (aJ 0) [] fun acc=>(dX (oJ (aC (tOp uE (tOp (bH K) (tOp (bS K) (tOp (bS K) (aD 1) (tC (.int 0))) (aD 2)) (tOp (bS K) (tOp (bS K) (aD 1) (tC (.int 0))) (aD 0))) (tOp (bS K) (tOp (bS K) (aD 1) (aD 0)) (aD 2))) (aC (aD 0) aU))) acc)) aU)) (yO K 2 (eA (aJ 4) (eA (aJ 5) aAf)))) (aX (cF (tOp wE (tC (.int 2)) (tOp (bS K) (tOp (bS K) (aD 0) (tC (.int 0))) (aD 3))) (aJ 6)) (aX (oU (aEH (cM (tOp yGt (jK (aD 2) (aD 5)) (aD 4))) (cM (tOp yGe (jK (aD 2) (jK (aD 1) (aD 5))) (aD 4)))) (aX (cF (jK (aD 1) (aD 5)) (aJ 5)) aR)) (aX (iU (cM (tOp yGt (jK (aD 2) (aD 5)) (aD 4))) (aX (cF (tIf (cM (tOp (vT K) (aD 6) (aD 4))) (aD 3) (tOp uE (tOp (bH K) (tCB (oB K) (aC (aD 0) aU)) (tCB aBP (aC (aD 2) aU))) (aD 3))) (aJ 7)) (aX (lX (aD 1) (aD 7) (jK (aD 1) (aD 5))) (aX (lX (aD 2) (aD 7) (aD 4)) (aX (lX (aD 1) (aD 5) (aD 7)) (aX (cF (aD 7) (aJ 5)) aR))))) aR) (aX (iU (cM (tOp (vX K) (aD 5) (aD 3))) (aX (lX (aD 1) (aD 3) (aD 5)) (aX (lX (aD 2) (aD 3) (aD 6)) aR)) aR) aR)))))
theorem aCg (F:Fun K "hang" "hang" (top 13) f fd)(B:kZ mg)      {sp:Sp}(len:∀ vs H Q E,sp vs H Q E→vs.length=4)
  (rd:∀ vs H Q E,sp vs H Q E→aBp K   { nx:=fun _ H'=>Q .non H',rt:=Q } (start ["table","above","depths","place","fork","spot","depth","joint"] vs) H):FnOk P w K mg base CX0 1 f fd ["table","above","depths","place"] sp:=by
 refine F.ok zZ len (fun cdv A outer s H vs Q E hr h=>⟨_,?_,rd vs H Q E h⟩)
 have nd:=zZ.nd
 exact (@aA _ _ _ _ _ (gA (aT (wB (K:=K) rfl hr rfl) rfl B.max vF (cL (fO (N':=["other","table","place"]) (ix:=[none,some 0,some 3]) rfl rfl rfl (bK rfl B.range (@aB _ _ _ _ _ _ (pv 3) aF)) (fun _ _ _=>(aS (i:=0) (show (["other","table","place"]:List Str).Nodup from by decide +kernel) rfl (Or.inl rfl))) (fun _ _ _ => .nil) (fun _ _ _ _=>(cT rfl (@dP _ _ _ _ _ (@cG _ _ _ _ _ _ _ _ (@aZ _ _ _ _ _ _ _ _ kE (@aZ _ _ _ _ _ _ _ _ (bA (K:=K) rfl) (@aY _ _ _ _ _ _ _ (aN (K:=K) rfl) (@aY _ _ _ _ _ _ _ (aN (K:=K) rfl) (pv 1) aH (fun _ _=>rfl)) (pv 2) (fun _ _=>rfl)) (@aY _ _ _ _ _ _ _ (aN (K:=K) rfl) (@aY _ _ _ _ _ _ _ (aN (K:=K) rfl) (pv 1) aH (fun _ _=>rfl)) (pv 0) (fun _ _=>rfl))) (@aY _ _ _ _ _ _ _ (aN (K:=K) rfl) (@aY _ _ _ _ _ _ _ (aN (K:=K) rfl) (pv 1) (pv 0) (fun _ _=>rfl)) (pv 2) (fun _ _=>rfl))) (@aB _ _ _ _ _ _ (pv 0) aF))) rfl))) aF)) (gF (K:=K) rfl rfl (bL (aS (i:=4) nd rfl (Or.inl rfl)) (bL (aS (i:=5) nd rfl (Or.inl rfl)) gC)))) (@aA _ _ _ _ _ (@bC _ _ 6 _ _ _ _ nd rfl (Or.inl rfl) (@aZ _ _ _ _ _ _ _ _ pT aH (@aY _ _ _ _ _ _ _ (aN (K:=K) rfl) (@aY _ _ _ _ _ _ _ (aN (K:=K) rfl) (pv 0) aH (fun _ _=>rfl)) (pv 3) (fun _ _=>rfl))) (by rfl) (by first | exact .inl rfl | exact .inr rfl | assumption)) (@aA _ _ _ _ _ (jX PassesOwn.never (PW.pt (zM (bO lJ (eB (gE hr) (pv 2) (pv 5) (fun _ _=>rfl)) (pv 4) (bN _)) (tY (bO aBV (eB (gE hr) (pv 2) (eB (gE hr) (pv 1) (pv 5) (fun _ _=>rfl)) (fun _ _=>rfl)) (pv 4) (bN _))))) (@aA _ _ _ _ _ (@bC _ _ 5 _ _ _ _ nd rfl (Or.inl rfl) (eB (gE hr) (pv 1) (pv 5) (fun _ _=>rfl)) (by rfl) (by first | exact .inl rfl | exact .inr rfl | assumption)) aI)) (@aA _ _ _ _ _ (@dY _ _ _ _ _ _ _ _ (bO lJ (eB (gE hr) (pv 2) (pv 5) (fun _ _=>rfl)) (pv 4) (bN _)) (@aA _ _ _ _ _ (@bC _ _ 7 _ _ _ _ nd rfl (Or.inl rfl) (mP (bO (kN (K:=K) rfl hr) (pv 6) (pv 4) (bN _)) (pv 3) (@aZ _ _ _ _ _ _ _ _ kE (@aZ _ _ _ _ _ _ _ _ (bA (K:=K) rfl) (aT (bJ (K:=K) rfl) rfl B.len cU (@aB _ _ _ _ _ _ (pv 0) aF)) (aT rJ rfl B.len cU (@aB _ _ _ _ _ _ (pv 2) aF))) (pv 3))) (by rfl) (by first | exact .inl rfl | exact .inr rfl | assumption)) (@aA _ _ _ _ _ (lL (gE hr) (pv 1) (pv 7) (eB (gE hr) (pv 1) (pv 5) (fun _ _=>rfl)) rfl) (@aA _ _ _ _ _ (lL (gE hr) (pv 2) (pv 7) (pv 4) rfl) (@aA _ _ _ _ _ (lL (gE hr) (pv 1) (pv 5) (pv 7) rfl) (@aA _ _ _ _ _ (@bC _ _ 5 _ _ _ _ nd rfl (Or.inl rfl) (pv 7) (by rfl) (by first | exact .inl rfl | exact .inr rfl | assumption)) aI))))) aI) (@aA _ _ _ _ _ (@dY _ _ _ _ _ _ _ _ (bO (jC (K:=K) rfl hr) (pv 5) (pv 3) (bN _)) (@aA _ _ _ _ _ (lL (gE hr) (pv 1) (pv 3) (pv 5) rfl) (@aA _ _ _ _ _ (lL (gE hr) (pv 2) (pv 3) (pv 6) rfl) aI)) aI) aI)))))
theorem kP:bU ["script"] ["script"] (aK (top 15)):=⟨rfl,rfl,rfl,by decide +kernel,rfl,by decide +kernel,by decide +kernel⟩
noncomputable def lQ (K:PySem.W.Frag)   : TS:=(aX (fI (vB (aC (tCB (tS K) (aC (tSl (aEV K) (aD 0) sU (aCi (tC (.int 63)))) aU)) (aC (tC (.int 0)) (aC (tC (.int 0)) aU))))) aR)
theorem pV (F:Fun K "_law_e_pen" "_law_e_pen" (top 15) f fd)(B:kZ mg)      {sp:Sp}(len:∀ vs H Q E,sp vs H Q E→vs.length=1)
  (rd:∀ vs H Q E,sp vs H Q E→lQ K   { nx:=fun _ H'=>Q .non H',rt:=Q } (start ["script"] vs) H):FnOk P w K mg base CX0 1 f fd ["script"] sp:=by
 refine F.ok kP len (fun cdv A outer s H vs Q E hr h=>⟨_,?_,rd vs H Q E h⟩)
 have nd:=kP.nd
 exact (@aA _ _ _ _ _ (@bQ _ _ _ _ (@gS _ _ _ _ (@bR _ _ _ _ _ _ _ _ (bX (iL (K:=K) rfl rfl) rfl B.list pP (@cK _ _ _ _ _ _ _ (uY (aDR (K:=K) rfl) (pv 0) zB (yR aH)) aF)) (@aV _ _ _ _ _ _ _ aH (@aV _ _ _ _ _ _ _ aH aF))))) aI)
theorem hW:bU ["pen","at","cell","one","two"] ["pen"] (aK (top 16)):=⟨rfl,rfl,rfl,by decide +kernel,rfl,by decide +kernel,by decide +kernel⟩
noncomputable def jF (K:PySem.W.Frag)   : TS:=(aX (cF (tOp (bS K) (aD 0) (tC (.int 1))) (aJ 1)) (aX (cF (tOp (bH K) (aD 1) (tC (.int 1))) (qP (aD 0) (tC (.int 1)) gR)) (aX (cF (tOp (bH K) (tOp eY (aD 1) (aD 1)) (tC (.int 5))) (aJ 2)) (aX (iU (cM (tOp yLt (aD 1) (tCB (oB K) (aC (tOp (bS K) (aD 0) (tC (.int 0))) aU)))) (aX (cF (tOp (bS K) (tOp (bS K) (aD 0) (tC (.int 0))) (aD 1)) (aJ 2)) aR) (aX (iU (cM (tOp yGt (tCB (oB K) (aC (tOp (bS K) (aD 0) (tC (.int 0))) aU)) (tC (.int 0)))) (aX (cF (tOp (bH K) (aD 2) (tOp eY (tOp pS (tOp (bS K) (tOp (bS K) (aD 0) (tC (.int 0))) (tOp pS (tOp eY (aD 1) (tC (.int 3))) (tCB (oB K) (aC (tOp (bS K) (aD 0) (tC (.int 0))) aU)))) (tC (.int 1000003))) (tOp (bH K) (aD 1) (tC (.int 1))))) (aJ 2)) aR) aR) aR)) (aX (iU (cM (tOp yGe (aD 2) (tOp aFM (tC (.int 10)) (tC (.int 18))))) (aX (fI (aD 2)) aR) aR) (aX (cF (tOp pS (tOp (bH K) (tOp (bH K) (tOp eY (tOp pS (aD 2) (tC (.int 2147483423))) (tC (.int 60013))) (tOp eY (aD 1) (tC (.int 40692)))) (tC (.int 17))) (tC (.int 2147483399))) (aJ 3)) (aX (cF (tOp pS (tOp (bH K) (tOp (bH K) (tOp eY (aD 3) (aD 3)) (tOp eY (aD 1) (tC (.int 811)))) (tC (.int 3))) (tC (.int 2147483353))) (aJ 4)) (aX (fI (tOp (bH K) (tOp eY (tOp (bH K) (aD 4) (tC (.int 2147483353))) (tC (.int 2147483353))) (tOp pS (tOp (bH K) (tOp eY (aD 4) (aD 4)) (aD 3)) (tC (.int 2147483353))))) aR))))))))
theorem nI (F:Fun K "_law_e_fresh" "_law_e_fresh" (top 16) f fd)(B:kZ mg)      {sp:Sp}(len:∀ vs H Q E,sp vs H Q E→vs.length=1)
  (rd:∀ vs H Q E,sp vs H Q E→jF K   { nx:=fun _ H'=>Q .non H',rt:=Q } (start ["pen","at","cell","one","two"] vs) H):FnOk P w K mg base CX0 1 f fd ["pen"] sp:=by
 refine F.ok hW len (fun cdv A outer s H vs Q E hr h=>⟨_,?_,rd vs H Q E h⟩)
 have nd:=hW.nd
 exact (@aA _ _ _ _ _ (@bC _ _ 1 _ _ _ _ nd rfl (Or.inl rfl) (@aY _ _ _ _ _ _ _ (aN (K:=K) rfl) (pv 0) aH (fun _ _=>rfl)) (by rfl) (by first | exact .inl rfl | exact .inr rfl | assumption)) (@aA _ _ _ _ _ (gA (@aZ _ _ _ _ _ _ _ _ (bA (K:=K) rfl) (pv 1) aH) (kR (pv 0) aH eL)) (@aA _ _ _ _ _ (@bC _ _ 2 _ _ _ _ nd rfl (Or.inl rfl) (@aZ _ _ _ _ _ _ _ _ (bA (K:=K) rfl) (@aZ _ _ _ _ _ _ _ _ dS (pv 1) (pv 1)) aH) (by rfl) (by first | exact .inl rfl | exact .inr rfl | assumption)) (@aA _ _ _ _ _ (@dY _ _ _ _ _ _ _ _ (bO rV (pv 1) (aT (bJ (K:=K) rfl) rfl B.len cU (@cK _ _ _ _ _ _ _ (@aY _ _ _ _ _ _ _ (aN (K:=K) rfl) (pv 0) aH (fun _ _=>rfl)) aF)) (bN _)) (@aA _ _ _ _ _ (@bC _ _ 2 _ _ _ _ nd rfl (Or.inl rfl) (@aY _ _ _ _ _ _ _ (aN (K:=K) rfl) (@aY _ _ _ _ _ _ _ (aN (K:=K) rfl) (pv 0) aH (fun _ _=>rfl)) (pv 1) (fun _ _=>rfl)) (by rfl) (by first | exact .inl rfl | exact .inr rfl | assumption)) aI) (@aA _ _ _ _ _ (@dY _ _ _ _ _ _ _ _ (bO lJ (aT (bJ (K:=K) rfl) rfl B.len cU (@cK _ _ _ _ _ _ _ (@aY _ _ _ _ _ _ _ (aN (K:=K) rfl) (pv 0) aH (fun _ _=>rfl)) aF)) aH (bN _)) (@aA _ _ _ _ _ (@bC _ _ 2 _ _ _ _ nd rfl (Or.inl rfl) (@aZ _ _ _ _ _ _ _ _ (bA (K:=K) rfl) (pv 2) (@aZ _ _ _ _ _ _ _ _ dS (@aZ _ _ _ _ _ _ _ _ gO (@aY _ _ _ _ _ _ _ (aN (K:=K) rfl) (@aY _ _ _ _ _ _ _ (aN (K:=K) rfl) (pv 0) aH (fun _ _=>rfl)) (@aZ _ _ _ _ _ _ _ _ gO (@aZ _ _ _ _ _ _ _ _ dS (pv 1) aH) (aT (bJ (K:=K) rfl) rfl B.len cU (@cK _ _ _ _ _ _ _ (@aY _ _ _ _ _ _ _ (aN (K:=K) rfl) (pv 0) aH (fun _ _=>rfl)) aF))) (fun _ _=>rfl)) aH) (@aZ _ _ _ _ _ _ _ _ (bA (K:=K) rfl) (pv 1) aH))) (by rfl) (by first | exact .inl rfl | exact .inr rfl | assumption)) aI) aI) aI)) (@aA _ _ _ _ _ (@dY _ _ _ _ _ _ _ _ (bO aBV (pv 2) (@aZ _ _ _ _ _ _ _ _ aDN aH aH) (bN _)) (@aA _ _ _ _ _ (@bQ _ _ _ _ (pv 2)) aI) aI) (@aA _ _ _ _ _ (@bC _ _ 3 _ _ _ _ nd rfl (Or.inl rfl) (@aZ _ _ _ _ _ _ _ _ gO (@aZ _ _ _ _ _ _ _ _ (bA (K:=K) rfl) (@aZ _ _ _ _ _ _ _ _ (bA (K:=K) rfl) (@aZ _ _ _ _ _ _ _ _ dS (@aZ _ _ _ _ _ _ _ _ gO (pv 2) aH) aH) (@aZ _ _ _ _ _ _ _ _ dS (pv 1) aH)) aH) aH) (by rfl) (by first | exact .inl rfl | exact .inr rfl | assumption)) (@aA _ _ _ _ _ (@bC _ _ 4 _ _ _ _ nd rfl (Or.inl rfl) (@aZ _ _ _ _ _ _ _ _ gO (@aZ _ _ _ _ _ _ _ _ (bA (K:=K) rfl) (@aZ _ _ _ _ _ _ _ _ (bA (K:=K) rfl) (@aZ _ _ _ _ _ _ _ _ dS (pv 3) (pv 3)) (@aZ _ _ _ _ _ _ _ _ dS (pv 1) aH)) aH) aH) (by rfl) (by first | exact .inl rfl | exact .inr rfl | assumption)) (@aA _ _ _ _ _ (@bQ _ _ _ _ (@aZ _ _ _ _ _ _ _ _ (bA (K:=K) rfl) (@aZ _ _ _ _ _ _ _ _ dS (@aZ _ _ _ _ _ _ _ _ (bA (K:=K) rfl) (pv 4) aH) aH) (@aZ _ _ _ _ _ _ _ _ gO (@aZ _ _ _ _ _ _ _ _ (bA (K:=K) rfl) (@aZ _ _ _ _ _ _ _ _ dS (pv 4) (pv 4)) (pv 3)) aH))) aI))))))))
theorem jB:bU ["pen","many","found"] ["pen","many"] (aK (top 17)):=⟨rfl,rfl,rfl,by decide +kernel,rfl,by decide +kernel,by decide +kernel⟩
noncomputable def jZ (K:PySem.W.Frag)  (dF:Sp):TS:=(aX (iU (cM (tOp yLt (tOp (bS K) (aD 0) (tC (.int 2))) (aD 1))) (aX (cF (bY dF [] E0 (aC (aD 0) aU)) (qP (aD 0) (tC (.int 2)) gR)) aR) aR) (aX (cF (tOp pS (tOp (bS K) (aD 0) (tC (.int 2))) (aD 1)) (aJ 2)) (aX (cF (tOp aER (tOp (bS K) (aD 0) (tC (.int 2))) (aD 1)) (qP (aD 0) (tC (.int 2)) gR)) (aX (fI (aD 2)) aR))))
theorem oG (F:Fun K "_law_e_take" "_law_e_take" (top 17) f fd)(B:kZ mg)    {dF:Sp}(fQ:Def P w K mg base "_law_e_fresh" 1 ["pen"] dF)  {sp:Sp}(len:∀ vs H Q E,sp vs H Q E→vs.length=2)
  (rd:∀ vs H Q E,sp vs H Q E→jZ K  dF { nx:=fun _ H'=>Q .non H',rt:=Q } (start ["pen","many","found"] vs) H):FnOk P w K mg base CX0 2 f fd ["pen","many"] sp:=by
 refine F.ok jB len (fun cdv A outer s H vs Q E hr h=>⟨_,?_,rd vs H Q E h⟩)
 have nd:=jB.nd
 exact (@aA _ _ _ _ _ (@dY _ _ _ _ _ _ _ _ (bO rV (@aY _ _ _ _ _ _ _ (aN (K:=K) rfl) (pv 0) aH (fun _ _=>rfl)) (pv 1) (bN _)) (@aA _ _ _ _ _ (gA (bG (fQ.mono (by decide)) hr rfl (@aB _ _ _ _ _ _ (pv 0) aF)) (kR (pv 0) aH eL)) aI) aI) (@aA _ _ _ _ _ (@bC _ _ 2 _ _ _ _ nd rfl (Or.inl rfl) (@aZ _ _ _ _ _ _ _ _ gO (@aY _ _ _ _ _ _ _ (aN (K:=K) rfl) (pv 0) aH (fun _ _=>rfl)) (pv 1)) (by rfl) (by first | exact .inl rfl | exact .inr rfl | assumption)) (@aA _ _ _ _ _ (gA (@aZ _ _ _ _ _ _ _ _ yC (@aY _ _ _ _ _ _ _ (aN (K:=K) rfl) (pv 0) aH (fun _ _=>rfl)) (pv 1)) (kR (pv 0) aH eL)) (@aA _ _ _ _ _ (@bQ _ _ _ _ (pv 2)) aI))))
theorem hU:bU ["pen","many","even","top","low","lines","i","j"] ["pen","many","even"] (aK (top 18)):=⟨rfl,rfl,rfl,by decide +kernel,rfl,by decide +kernel,by decide +kernel⟩
noncomputable def iZ (K:PySem.W.Frag)  (aG:Sp):TS:=(aX (cF (tOp (bS K) (vB (aC (tC (.int 10)) (aC (tC (.int 1000001)) (aC (tC (.int 3)) (aC (tC (.int 60)) (aC (tC (.int 1001)) (aC (tC (.int 2)) aU))))))) (bY aG [] E0 (aC (aD 0) (aC (tC (.int 6)) aU)))) (aJ 3)) (aX (cF (tOp eY (tC (.int 999999)) (tCB zT (aC (tOp (vT K) (aD 3) (tC (.int 2))) aU))) (aJ 4)) (aX (cF (eC [none,some 1] (dM (aC (aD 1) aU)) (aJ 0) [] fun acc=>(dX (tOp eY (vB (aC (tC (.int 0)) aU)) (aD 1)) acc)) (aJ 5)) (aX (kU (dM (aC (aD 1) aU)) (aJ 6) (aX (kU (dM (aC (aD 6) aU)) (aJ 7) (aX (cF (tOp (bH K) (aD 4) (bY aG [] E0 (aC (aD 0) (aC (aD 3) aU)))) (qP (tOp (bS K) (aD 5) (aD 6)) (aD 7) gR)) (aX (cF (tOp (bS K) (tOp (bS K) (aD 5) (aD 6)) (aD 7)) (qP (tOp (bS K) (aD 5) (aD 7)) (aD 6) gR)) (aX (iU (qR (aEv K (aD 2))) (aX (cF (tOp (bH K) (aD 4) (bY aG [] E0 (aC (aD 0) (aC (aD 3) aU)))) (qP (tOp (bS K) (aD 5) (aD 7)) (aD 6) gR)) aR) aR) aR)))) aR)) (aX (fI (tCB (dZ K) (aC (eC [none] (pQ K (aD 5)) (aJ 0) [] fun acc=>(dX (tCB (dZ K) (aC (aD 0) aU)) acc)) aU))) aR)))))
theorem nV (F:Fun K "_law_e_table" "_law_e_table" (top 18) f fd)(B:kZ mg)    {aG:Sp}(aQ:Def P w K mg base "_law_e_take" 2 ["pen","many"] aG)  {sp:Sp}(len:∀ vs H Q E,sp vs H Q E→vs.length=3)
  (rd:∀ vs H Q E,sp vs H Q E→iZ K  aG { nx:=fun _ H'=>Q .non H',rt:=Q } (start ["pen","many","even","top","low","lines","i","j"] vs) H):FnOk P w K mg base CX0 3 f fd ["pen","many","even"] sp:=by
 refine F.ok hU len (fun cdv A outer s H vs Q E hr h=>⟨_,?_,rd vs H Q E h⟩)
 have nd:=hU.nd
 exact (@aA _ _ _ _ _ (@bC _ _ 3 _ _ _ _ nd rfl (Or.inl rfl) (@aY _ _ _ _ _ _ _ (aN (K:=K) rfl) (@gS _ _ _ _ (@aV _ _ _ _ _ _ _ aH (@aV _ _ _ _ _ _ _ aH (@aV _ _ _ _ _ _ _ aH (@aV _ _ _ _ _ _ _ aH (@aV _ _ _ _ _ _ _ aH (@aV _ _ _ _ _ _ _ aH aF))))))) (bG (aQ.mono (by decide)) hr rfl (@aB _ _ _ _ _ _ (pv 0) (@aV _ _ _ _ _ _ _ aH aF))) (fun _ _=>rfl)) (by rfl) (by first | exact .inl rfl | exact .inr rfl | assumption)) (@aA _ _ _ _ _ (@bC _ _ 4 _ _ _ _ nd rfl (Or.inl rfl) (@aZ _ _ _ _ _ _ _ _ dS aH (bX kX rfl B.int uG (cL (eE (kN (K:=K) rfl hr) (pv 3) aH (bN _)) aF))) (by rfl) (by first | exact .inl rfl | exact .inr rfl | assumption)) (@aA _ _ _ _ _ (dR (i:=5) nd rfl (Or.inl rfl) (N':=["k","many"]) (ix:=[none,some 1]) rfl rfl rfl (bK rfl B.range (@aB _ _ _ _ _ _ (pv 1) aF)) (fun _ _ _=>(aS (i:=0) (show (["k","many"]:List Str).Nodup from by decide +kernel) rfl (Or.inl rfl))) (fun _ _ _ => .nil) (fun _ _ _ _=>(cT rfl (@aZ _ _ _ _ _ _ _ _ dS (@gS _ _ _ _ (@aV _ _ _ _ _ _ _ aH aF)) (pv 1)) rfl))) (@aA _ _ _ _ _ (dN PassesOwn.never rfl (bK rfl B.range (@aB _ _ _ _ _ _ (pv 1) aF)) (aS (i:=6) nd rfl (Or.inl rfl)) (@aA _ _ _ _ _ (dN PassesOwn.never rfl (bK rfl B.range (@aB _ _ _ _ _ _ (pv 6) aF)) (aS (i:=7) nd rfl (Or.inl rfl)) (@aA _ _ _ _ _ (gA (@aZ _ _ _ _ _ _ _ _ (bA (K:=K) rfl) (pv 4) (bG (aQ.mono (by decide)) hr rfl (@aB _ _ _ _ _ _ (pv 0) (@aB _ _ _ _ _ _ (pv 3) aF)))) (kR (@aY _ _ _ _ _ _ _ (aN (K:=K) rfl) (pv 5) (pv 6) (fun _ _=>rfl)) (pv 7) eL)) (@aA _ _ _ _ _ (gA (@aY _ _ _ _ _ _ _ (aN (K:=K) rfl) (@aY _ _ _ _ _ _ _ (aN (K:=K) rfl) (pv 5) (pv 6) (fun _ _=>rfl)) (pv 7) (fun _ _=>rfl)) (kR (@aY _ _ _ _ _ _ _ (aN (K:=K) rfl) (pv 5) (pv 7) (fun _ _=>rfl)) (pv 6) eL)) (@aA _ _ _ _ _ (@dY _ _ _ _ _ _ _ _ (eJ (zQ (K:=K) rfl (pv 2) (fun _=>rfl))) (@aA _ _ _ _ _ (gA (@aZ _ _ _ _ _ _ _ _ (bA (K:=K) rfl) (pv 4) (bG (aQ.mono (by decide)) hr rfl (@aB _ _ _ _ _ _ (pv 0) (@aB _ _ _ _ _ _ (pv 3) aF)))) (kR (@aY _ _ _ _ _ _ _ (aN (K:=K) rfl) (pv 5) (pv 7) (fun _ _=>rfl)) (pv 6) eL)) aI) aI) aI)))) aI)) (@aA _ _ _ _ _ (@bQ _ _ _ _ (bX (cH (K:=K) rfl) rfl B.tuple cP (cL (fO (N':=["line"]) (ix:=[none]) rfl rfl rfl (eG (K:=K) rfl (pv 5)) (fun _ _ _=>(aS (i:=0) (show (["line"]:List Str).Nodup from by decide +kernel) rfl (Or.inl rfl))) (fun _ _ _ => .nil) (fun _ _ _ _=>(cT rfl (bX (cH (K:=K) rfl) rfl B.tuple cP (@aB _ _ _ _ _ _ (pv 0) aF)) rfl))) aF))) aI)))))
theorem fM:bU ["table","lines","k","i","j"] ["table"] (aK (top 19)):=⟨rfl,rfl,rfl,by decide +kernel,rfl,by decide +kernel,by decide +kernel⟩
noncomputable def fV (K:PySem.W.Frag)   : TS:=(aX (cF (eC [none] (pQ K (aD 0)) (aJ 0) [] fun acc=>(dX (tCB (tS K) (aC (aD 0) aU)) acc)) (aJ 1)) (aX (kU (dM (aC (tCB (oB K) (aC (aD 1) aU)) aU)) (aJ 2) (aX (kU (dM (aC (tCB (oB K) (aC (aD 1) aU)) aU)) (aJ 3) (aX (kU (dM (aC (tCB (oB K) (aC (aD 1) aU)) aU)) (aJ 4) (aX (cF (tCB rC (aC (tOp (bS K) (tOp (bS K) (aD 1) (aD 3)) (aD 4)) (aC (tOp (bH K) (tOp (bS K) (tOp (bS K) (aD 1) (aD 3)) (aD 2)) (tOp (bS K) (tOp (bS K) (aD 1) (aD 2)) (aD 4))) aU))) (qP (tOp (bS K) (aD 1) (aD 3)) (aD 4) gR)) aR)) aR)) aR)) (aX (fI (tCB (dZ K) (aC (eC [none] (pQ K (aD 1)) (aJ 0) [] fun acc=>(dX (tCB (dZ K) (aC (aD 0) aU)) acc)) aU))) aR)))
theorem kF (F:Fun K "_law_e_straight" "_law_e_straight" (top 19) f fd)(B:kZ mg)      {sp:Sp}(len:∀ vs H Q E,sp vs H Q E→vs.length=1)
  (rd:∀ vs H Q E,sp vs H Q E→fV K   { nx:=fun _ H'=>Q .non H',rt:=Q } (start ["table","lines","k","i","j"] vs) H):FnOk P w K mg base CX0 1 f fd ["table"] sp:=by
 refine F.ok fM len (fun cdv A outer s H vs Q E hr h=>⟨_,?_,rd vs H Q E h⟩)
 have nd:=fM.nd
 exact (@aA _ _ _ _ _ (dR (i:=1) nd rfl (Or.inl rfl) (N':=["line"]) (ix:=[none]) rfl rfl rfl (eG (K:=K) rfl (pv 0)) (fun _ _ _=>(aS (i:=0) (show (["line"]:List Str).Nodup from by decide +kernel) rfl (Or.inl rfl))) (fun _ _ _ => .nil) (fun _ _ _ _=>(cT rfl (bX (iL (K:=K) rfl rfl) rfl B.list pP (@aB _ _ _ _ _ _ (pv 0) aF)) rfl))) (@aA _ _ _ _ _ (dN PassesOwn.never rfl (bK rfl B.range (@bR _ _ _ _ _ _ _ _ (aT (bJ (K:=K) rfl) rfl B.len cU (@aB _ _ _ _ _ _ (pv 1) aF)) aF)) (aS (i:=2) nd rfl (Or.inl rfl)) (@aA _ _ _ _ _ (dN PassesOwn.never rfl (bK rfl B.range (@bR _ _ _ _ _ _ _ _ (aT (bJ (K:=K) rfl) rfl B.len cU (@aB _ _ _ _ _ _ (pv 1) aF)) aF)) (aS (i:=3) nd rfl (Or.inl rfl)) (@aA _ _ _ _ _ (dN PassesOwn.never rfl (bK rfl B.range (@bR _ _ _ _ _ _ _ _ (aT (bJ (K:=K) rfl) rfl B.len cU (@aB _ _ _ _ _ _ (pv 1) aF)) aF)) (aS (i:=4) nd rfl (Or.inl rfl)) (@aA _ _ _ _ _ (gA (aT (iM rfl) rfl B.min uQ (@cK _ _ _ _ _ _ _ (@aY _ _ _ _ _ _ _ (aN (K:=K) rfl) (@aY _ _ _ _ _ _ _ (aN (K:=K) rfl) (pv 1) (pv 3) (fun _ _=>rfl)) (pv 4) (fun _ _=>rfl)) (@cG _ _ _ _ _ _ _ _ (@aZ _ _ _ _ _ _ _ _ (bA (K:=K) rfl) (@aY _ _ _ _ _ _ _ (aN (K:=K) rfl) (@aY _ _ _ _ _ _ _ (aN (K:=K) rfl) (pv 1) (pv 3) (fun _ _=>rfl)) (pv 2) (fun _ _=>rfl)) (@aY _ _ _ _ _ _ _ (aN (K:=K) rfl) (@aY _ _ _ _ _ _ _ (aN (K:=K) rfl) (pv 1) (pv 2) (fun _ _=>rfl)) (pv 4) (fun _ _=>rfl))) aF))) (kR (@aY _ _ _ _ _ _ _ (aN (K:=K) rfl) (pv 1) (pv 3) (fun _ _=>rfl)) (pv 4) eL)) aI)) aI)) aI)) (@aA _ _ _ _ _ (@bQ _ _ _ _ (bX (cH (K:=K) rfl) rfl B.tuple cP (cL (fO (N':=["line"]) (ix:=[none]) rfl rfl rfl (eG (K:=K) rfl (pv 1)) (fun _ _ _=>(aS (i:=0) (show (["line"]:List Str).Nodup from by decide +kernel) rfl (Or.inl rfl))) (fun _ _ _ => .nil) (fun _ _ _ _=>(cT rfl (bX (cH (K:=K) rfl) rfl B.tuple cP (@aB _ _ _ _ _ _ (pv 0) aF)) rfl))) aF))) aI)))
theorem gU:bU ["pen","many","size","names","mixed","odd","top","ties","k","one","other","halves","far_off"] ["pen","many"] (aK (top 20)):=⟨rfl,rfl,rfl,by decide +kernel,rfl,by decide +kernel,by decide +kernel⟩
noncomputable def iX (K:PySem.W.Frag)  (aG:Sp):TS:=(aX (cF (tOp (bH K) (aD 1) (bY aG [] E0 (aC (aD 0) (aC (tOp uE (tC (.int 15)) (aD 1)) aU)))) (aJ 2)) (aX (cF (tCB (tS K) (aC (tCB aFT (aC (aD 2) aU)) aU)) (aJ 3)) (aX (cF (vB aU) (aJ 4)) (aX (oU (cM (tOp (vX K) (aD 3) (vB aU))) (aX (sI (tBM K "list" jW (aD 4) (aC (tBM K "list" aBv (aD 3) (aC (bY aG [] E0 (aC (aD 0) (aC (tCB (oB K) (aC (aD 3) aU)) aU))) aU)) aU))) aR)) (aX (cF (eC [none,some 1,some 0] (dM (aC (aD 2) aU)) (aJ 0) [] fun acc=>(dX (tOp eY (tCB zT (aC (tOp yGe (aD 0) (aD 1)) aU)) (bY aG [] E0 (aC (aD 2) (aC (tC (.int 2)) aU)))) acc)) (aJ 5)) (aX (cF (tOp (bS K) (vB (aC (tC (.int 1)) (aC (tC (.int 4)) (aC (tC (.int 30)) (aC (tC (.int 70000)) aU))))) (bY aG [] E0 (aC (aD 0) (aC (tC (.int 4)) aU)))) (aJ 6)) (aX (cF (vB aU) (aJ 7)) (aX (kU (wD (aC (tC (.int 1)) (aC (aD 2) aU))) (aJ 8) (aX (aEm 9 10 (aC (tOp (bS K) (aD 4) (aD 8)) (aC (tOp (bS K) (aD 4) (bY aG [] E0 (aC (aD 0) (aC (aD 8) aU)))) aU))) (aX (cF (tOp (bH K) (tOp eY (tC (.int 2)) (bY aG [] E0 (aC (aD 0) (aC (tOp (bH K) (aD 6) (tC (.int 1))) aU)))) (tCB zT (aC (tOp (vX K) (tOp (bS K) (aD 5) (aD 9)) (tOp (bS K) (aD 5) (aD 10))) aU))) (aJ 11)) (aX (cF (tIf (cM (tOp (vT K) (tOp pS (aD 11) (tC (.int 2))) (tC (.int 0)))) (oJ (aC (tOp aER (aD 11) (tC (.int 2))) (aC (tC (.int 1)) aU))) (oJ (aC (aD 11) (aC (tC (.int 2)) aU)))) (aJ 12)) (aX (sI (tBM K "list" jW (aD 7) (aC (oJ (aC (tCB rC (aC (aD 9) (aC (aD 10) aU))) (aC (tCB tD (aC (aD 9) (aC (aD 10) aU))) (aC (aD 12) aU)))) aU))) aR))))) (aX (fI (tCB (dZ K) (aC (tCB (uD K) (aC (aD 7) aU)) aU))) aR)))))))))
theorem nE (F:Fun K "_law_e_drawn" "_law_e_drawn" (top 20) f fd)(B:kZ mg)    {aG:Sp}(aQ:Def P w K mg base "_law_e_take" 2 ["pen","many"] aG)  {sp:Sp}(len:∀ vs H Q E,sp vs H Q E→vs.length=2)
  (rd:∀ vs H Q E,sp vs H Q E→iX K  aG { nx:=fun _ H'=>Q .non H',rt:=Q } (start ["pen","many","size","names","mixed","odd","top","ties","k","one","other","halves","far_off"] vs) H):FnOk P w K mg base CX0 3 f fd ["pen","many"] sp:=by
 refine F.ok gU len (fun cdv A outer s H vs Q E hr h=>⟨_,?_,rd vs H Q E h⟩)
 have nd:=gU.nd
 exact (@aA _ _ _ _ _ (@bC _ _ 2 _ _ _ _ nd rfl (Or.inl rfl) (@aZ _ _ _ _ _ _ _ _ (bA (K:=K) rfl) (pv 1) (bG (aQ.mono (by decide)) hr rfl (@aB _ _ _ _ _ _ (pv 0) (@cG _ _ _ _ _ _ _ _ (@aZ _ _ _ _ _ _ _ _ kE aH (pv 1)) aF)))) (by rfl) (by first | exact .inl rfl | exact .inr rfl | assumption)) (@aA _ _ _ _ _ (@bC _ _ 3 _ _ _ _ nd rfl (Or.inl rfl) (bX (iL (K:=K) rfl rfl) rfl B.list pP (@bR _ _ _ _ _ _ _ _ (bX xP rfl B.range aAI (@aB _ _ _ _ _ _ (pv 2) aF)) aF)) (by rfl) (by first | exact .inl rfl | exact .inr rfl | assumption)) (@aA _ _ _ _ _ (@bC _ _ 4 _ _ _ _ nd rfl (Or.inl rfl) (@gS _ _ _ _ aF) (by rfl) (by first | exact .inl rfl | exact .inr rfl | assumption)) (@aA _ _ _ _ _ (jX PassesOwn.never (bO (jC (K:=K) rfl hr) (pv 3) (@gS _ _ _ _ aF) (bN _)) (@aA _ _ _ _ _ (lM (pC (K:=K) rfl PySem.F.plainAttrs_list PySem.F.slot_list_append PySem.F.type_list_append fZ (pv 4) (@bR _ _ _ _ _ _ _ _ (pC (K:=K) rfl PySem.F.plainAttrs_list PySem.F.slot_list_pop PySem.F.type_list_pop aAv (pv 3) (@bR _ _ _ _ _ _ _ _ (bG (aQ.mono (by decide)) hr rfl (@aB _ _ _ _ _ _ (pv 0) (@bR _ _ _ _ _ _ _ _ (aT (bJ (K:=K) rfl) rfl B.len cU (@aB _ _ _ _ _ _ (pv 3) aF)) aF))) aF)) aF))) aI)) (@aA _ _ _ _ _ (dR (i:=5) nd rfl (Or.inl rfl) (N':=["place","many","pen"]) (ix:=[none,some 1,some 0]) rfl rfl rfl (bK rfl B.range (@aB _ _ _ _ _ _ (pv 2) aF)) (fun _ _ _=>(aS (i:=0) (show (["place","many","pen"]:List Str).Nodup from by decide +kernel) rfl (Or.inl rfl))) (fun _ _ _ => .nil) (fun _ _ _ _=>(cT rfl (@aZ _ _ _ _ _ _ _ _ dS (bX kX rfl B.int uG (cL (eE aBV (pv 0) (pv 1) (bN _)) aF)) (bG (aQ.mono (by decide)) hr rfl (@aB _ _ _ _ _ _ (pv 2) (@aV _ _ _ _ _ _ _ aH aF)))) rfl))) (@aA _ _ _ _ _ (@bC _ _ 6 _ _ _ _ nd rfl (Or.inl rfl) (@aY _ _ _ _ _ _ _ (aN (K:=K) rfl) (@gS _ _ _ _ (@aV _ _ _ _ _ _ _ aH (@aV _ _ _ _ _ _ _ aH (@aV _ _ _ _ _ _ _ aH (@aV _ _ _ _ _ _ _ aH aF))))) (bG (aQ.mono (by decide)) hr rfl (@aB _ _ _ _ _ _ (pv 0) (@aV _ _ _ _ _ _ _ aH aF))) (fun _ _=>rfl)) (by rfl) (by first | exact .inl rfl | exact .inr rfl | assumption)) (@aA _ _ _ _ _ (@bC _ _ 7 _ _ _ _ nd rfl (Or.inl rfl) (@gS _ _ _ _ aF) (by rfl) (by first | exact .inl rfl | exact .inr rfl | assumption)) (@aA _ _ _ _ _ (dN PassesOwn.never rfl (iF rfl B.range (@aV _ _ _ _ _ _ _ aH (@aB _ _ _ _ _ _ (pv 2) aF))) (aS (i:=8) nd rfl (Or.inl rfl)) (@aA _ _ _ _ _ (xE (i:=9) (j:=10) rfl nd rfl rfl (by decide) rfl rfl (@cK _ _ _ _ _ _ _ (@aY _ _ _ _ _ _ _ (aN (K:=K) rfl) (pv 4) (pv 8) (fun _ _=>rfl)) (@cK _ _ _ _ _ _ _ (@aY _ _ _ _ _ _ _ (aN (K:=K) rfl) (pv 4) (bG (aQ.mono (by decide)) hr rfl (@aB _ _ _ _ _ _ (pv 0) (@aB _ _ _ _ _ _ (pv 8) aF))) (fun _ _=>rfl)) aF)) rfl) (@aA _ _ _ _ _ (@bC _ _ 11 _ _ _ _ nd rfl (Or.inl rfl) (@aZ _ _ _ _ _ _ _ _ (bA (K:=K) rfl) (@aZ _ _ _ _ _ _ _ _ dS aH (bG (aQ.mono (by decide)) hr rfl (@aB _ _ _ _ _ _ (pv 0) (@cG _ _ _ _ _ _ _ _ (@aZ _ _ _ _ _ _ _ _ (bA (K:=K) rfl) (pv 6) aH) aF)))) (bX kX rfl B.int uG (cL (eE (jC (K:=K) rfl hr) (@aY _ _ _ _ _ _ _ (aN (K:=K) rfl) (pv 5) (pv 9) (fun _ _=>rfl)) (@aY _ _ _ _ _ _ _ (aN (K:=K) rfl) (pv 5) (pv 10) (fun _ _=>rfl)) (bN _)) aF))) (by rfl) (by first | exact .inl rfl | exact .inr rfl | assumption)) (@aA _ _ _ _ _ (@bC _ _ 12 _ _ _ _ nd rfl (Or.inl rfl) (mP (bO (kN (K:=K) rfl hr) (@aZ _ _ _ _ _ _ _ _ gO (pv 11) aH) aH (bN _)) (@dP _ _ _ _ _ (@cG _ _ _ _ _ _ _ _ (@aZ _ _ _ _ _ _ _ _ yC (pv 11) aH) (@aV _ _ _ _ _ _ _ aH aF))) (@dP _ _ _ _ _ (@aB _ _ _ _ _ _ (pv 11) (@aV _ _ _ _ _ _ _ aH aF)))) (by rfl) (by first | exact .inl rfl | exact .inr rfl | assumption)) (@aA _ _ _ _ _ (lM (pC (K:=K) rfl PySem.F.plainAttrs_list PySem.F.slot_list_append PySem.F.type_list_append fZ (pv 7) (@iR _ _ _ _ _ _ _ (@dP _ _ _ _ _ (@bR _ _ _ _ _ _ _ _ (aT (iM rfl) rfl B.min uQ (@aB _ _ _ _ _ _ (pv 9) (@aB _ _ _ _ _ _ (pv 10) aF))) (@bR _ _ _ _ _ _ _ _ (aT (lD rfl) rfl B.max vF (@aB _ _ _ _ _ _ (pv 9) (@aB _ _ _ _ _ _ (pv 10) aF))) (@aB _ _ _ _ _ _ (pv 12) aF)))) aF))) aI))))) (@aA _ _ _ _ _ (@bQ _ _ _ _ (bX (cH (K:=K) rfl) rfl B.tuple cP (@bR _ _ _ _ _ _ _ _ (aT (nB (K:=K) rfl hr) rfl B.sorted qW (@aB _ _ _ _ _ _ (pv 7) aF)) aF))) aI)))))))))
theorem iY:bU ["ties","place","found","waiting","here","one","other","more"] ["ties","place"] (aK (top 21)):=⟨rfl,rfl,rfl,by decide +kernel,rfl,by decide +kernel,by decide +kernel⟩
noncomputable def gB (K:PySem.W.Frag)   : TS:=(aX (cF (aBI [((aD 1),(tC (.int 0)))]) (aJ 2)) (aX (cF (vB (aC (aD 1) aU)) (aJ 3)) (aX (oU (cM (tOp (vX K) (aD 3) (vB aU))) (aX (cF (aFt K "list" aFD (aD 3)) (aJ 4)) (aX (kU (pQ K (aD 0)) (yO K 3 (eA (aJ 5) (eA (aJ 6) (eA (aJ 7) aAf)))) (aX (iU (aEH (cM (tOp (aEt K false) (aD 4) (oJ (aC (aD 5) (aC (aD 6) aU))))) (tB (xJ (tOp uE (tOp (bH K) (aD 5) (aD 6)) (aD 4)) (aD 2)))) (aX (lX (aD 2) (tOp uE (tOp (bH K) (aD 5) (aD 6)) (aD 4)) (tOp (bH K) (jK (aD 2) (aD 4)) (aD 7))) (aX (sI (tBM K "list" jW (aD 3) (aC (tOp uE (tOp (bH K) (aD 5) (aD 6)) (aD 4)) aU))) aR)) aR) aR)) aR))) (aX (fI (aD 2)) aR))))
theorem oI (F:Fun K "_law_e_ways" "_law_e_ways" (top 21) f fd)(B:kZ mg)      {sp:Sp}(len:∀ vs H Q E,sp vs H Q E→vs.length=2)
  (rd:∀ vs H Q E,sp vs H Q E→gB K   { nx:=fun _ H'=>Q .non H',rt:=Q } (start ["ties","place","found","waiting","here","one","other","more"] vs) H):FnOk P w K mg base CX0 1 f fd ["ties","place"] sp:=by
 refine F.ok iY len (fun cdv A outer s H vs Q E hr h=>⟨_,?_,rd vs H Q E h⟩)
 have nd:=iY.nd
 exact (@aA _ _ _ _ _ (@bC _ _ 2 _ _ _ _ nd rfl (Or.inl rfl) (zC (vH (pv 1) aH yI) rfl rfl (by intro h;cases h) (by decide)) (by rfl) (by first | exact .inl rfl | exact .inr rfl | assumption)) (@aA _ _ _ _ _ (@bC _ _ 3 _ _ _ _ nd rfl (Or.inl rfl) (@gS _ _ _ _ (@aB _ _ _ _ _ _ (pv 1) aF)) (by rfl) (by first | exact .inl rfl | exact .inr rfl | assumption)) (@aA _ _ _ _ _ (jX PassesOwn.never (bO (jC (K:=K) rfl hr) (pv 3) (@gS _ _ _ _ aF) (bN _)) (@aA _ _ _ _ _ (@bC _ _ 4 _ _ _ _ nd rfl (Or.inl rfl) (aCB (K:=K) rfl PySem.F.plainAttrs_list PySem.F.slot_list_pop PySem.F.type_list_pop aDv (pv 3)) (by rfl) (by first | exact .inl rfl | exact .inr rfl | assumption)) (@aA _ _ _ _ _ (dN PassesOwn.never rfl (eG (K:=K) rfl (pv 0)) (gF (K:=K) rfl rfl (bL (aS (i:=5) nd rfl (Or.inl rfl)) (bL (aS (i:=6) nd rfl (Or.inl rfl)) (bL (aS (i:=7) nd rfl (Or.inl rfl)) gC)))) (@aA _ _ _ _ _ (@dY _ _ _ _ _ _ _ _ (PW.pt (zM (bO (aBB (K:=K) rfl hr) (pv 4) (@dP _ _ _ _ _ (@aB _ _ _ _ _ _ (pv 5) (@aB _ _ _ _ _ _ (pv 6) aF))) rfl) (tY (aDO (xV (gE hr) (@aZ _ _ _ _ _ _ _ _ kE (@aZ _ _ _ _ _ _ _ _ (bA (K:=K) rfl) (pv 5) (pv 6)) (pv 4)) (pv 2)))))) (@aA _ _ _ _ _ (lL (gE hr) (pv 2) (@aZ _ _ _ _ _ _ _ _ kE (@aZ _ _ _ _ _ _ _ _ (bA (K:=K) rfl) (pv 5) (pv 6)) (pv 4)) (@aZ _ _ _ _ _ _ _ _ (bA (K:=K) rfl) (eB (gE hr) (pv 2) (pv 4) (fun _ _=>rfl)) (pv 7)) rfl) (@aA _ _ _ _ _ (lM (pC (K:=K) rfl PySem.F.plainAttrs_list PySem.F.slot_list_append PySem.F.type_list_append fZ (pv 3) (@cG _ _ _ _ _ _ _ _ (@aZ _ _ _ _ _ _ _ _ kE (@aZ _ _ _ _ _ _ _ _ (bA (K:=K) rfl) (pv 5) (pv 6)) (pv 4)) aF))) aI)) aI) aI)) aI))) (@aA _ _ _ _ _ (@bQ _ _ _ _ (pv 2)) aI))))
theorem gK:bU ["drawn","scale","one","other","far_off"] ["drawn"] (aK (top 22)):=⟨rfl,rfl,rfl,by decide +kernel,rfl,by decide +kernel,by decide +kernel⟩
noncomputable def iE (K:PySem.W.Frag)   : TS:=(aX (cF (tC (.int 1)) (aJ 1)) (aX (kU (pQ K (aD 0)) (yO K 3 (eA (aJ 2) (eA (aJ 3) (eA (aJ 4) aAf)))) (aX (cF (tOp wE (aD 1) (tOp (bS K) (aD 4) (tC (.int 1)))) (aJ 1)) aR)) (aX (fI (oJ (aC (aD 1) (aC (eC [none,none,none,some 1] (pQ K (aD 0)) (yO K 3 (eA (aJ 0) (eA (aJ 1) (eA (aJ 2) aAf)))) [] fun acc=>(dX (oJ (aC (aD 0) (aC (aD 1) (aC (tOp xA (tOp wE (tOp (bS K) (aD 2) (tC (.int 0))) (aD 3)) (tOp (bS K) (aD 2) (tC (.int 1)))) aU)))) acc)) aU)))) aR)))
theorem mD (F:Fun K "_law_e_scaled" "_law_e_scaled" (top 22) f fd)(B:kZ mg)      {sp:Sp}(len:∀ vs H Q E,sp vs H Q E→vs.length=1)
  (rd:∀ vs H Q E,sp vs H Q E→iE K   { nx:=fun _ H'=>Q .non H',rt:=Q } (start ["drawn","scale","one","other","far_off"] vs) H):FnOk P w K mg base CX0 1 f fd ["drawn"] sp:=by
 refine F.ok gK len (fun cdv A outer s H vs Q E hr h=>⟨_,?_,rd vs H Q E h⟩)
 have nd:=gK.nd
 exact (@aA _ _ _ _ _ (@bC _ _ 1 _ _ _ _ nd rfl (Or.inr rfl) aH (by rfl) (by first | exact .inl rfl | exact .inr rfl | assumption)) (@aA _ _ _ _ _ (dN PassesOwn.never rfl (eG (K:=K) rfl (pv 0)) (gF (K:=K) rfl rfl (bL (aS (i:=2) nd rfl (Or.inl rfl)) (bL (aS (i:=3) nd rfl (Or.inl rfl)) (bL (aS (i:=4) nd rfl (Or.inl rfl)) gC)))) (@aA _ _ _ _ _ (@bC _ _ 1 _ _ _ _ nd rfl (Or.inr rfl) (@aZ _ _ _ _ _ _ _ _ pT (pv 1) (@aY _ _ _ _ _ _ _ (aN (K:=K) rfl) (pv 4) aH (fun _ _=>rfl))) (by rfl) (by first | exact .inl rfl | exact .inr rfl | assumption)) aI)) (@aA _ _ _ _ _ (@bQ _ _ _ _ (@dP _ _ _ _ _ (@aB _ _ _ _ _ _ (pv 1) (cL (fO (N':=["one","other","far_off","scale"]) (ix:=[none,none,none,some 1]) rfl rfl rfl (eG (K:=K) rfl (pv 0)) (fun _ _ _=>(gF (K:=K) rfl rfl (bL (aS (i:=0) (show (["one","other","far_off","scale"]:List Str).Nodup from by decide +kernel) rfl (Or.inl rfl)) (bL (aS (i:=1) (show (["one","other","far_off","scale"]:List Str).Nodup from by decide +kernel) rfl (Or.inl rfl)) (bL (aS (i:=2) (show (["one","other","far_off","scale"]:List Str).Nodup from by decide +kernel) rfl (Or.inl rfl)) gC))))) (fun _ _ _ => .nil) (fun _ _ _ _=>(cT rfl (@dP _ _ _ _ _ (@aB _ _ _ _ _ _ (pv 0) (@aB _ _ _ _ _ _ (pv 1) (@cG _ _ _ _ _ _ _ _ (@aZ _ _ _ _ _ _ _ _ mN (@aZ _ _ _ _ _ _ _ _ pT (@aY _ _ _ _ _ _ _ (aN (K:=K) rfl) (pv 2) aH (fun _ _=>rfl)) (pv 3)) (@aY _ _ _ _ _ _ _ (aN (K:=K) rfl) (pv 2) aH (fun _ _=>rfl))) aF)))) rfl))) aF)))) aI)))
theorem gZ:bU ["thing"] ["thing"] (aK (top 23)):=⟨rfl,rfl,rfl,by decide +kernel,rfl,by decide +kernel,by decide +kernel⟩
noncomputable def jA (K:PySem.W.Frag)   : TS:=(aX (fI (tK (tCB (aBd K) (aC (aD 0) (aC (tC (.ty "int")) aU))) (aCb (tCB (aBd K) (aC (aD 0) (aC (tC (.ty "bool")) aU)))))) aR)
theorem nO (F:Fun K "_law_e_whole" "_law_e_whole" (top 23) f fd)(B:kZ mg)      {sp:Sp}(len:∀ vs H Q E,sp vs H Q E→vs.length=1)
  (rd:∀ vs H Q E,sp vs H Q E→jA K   { nx:=fun _ H'=>Q .non H',rt:=Q } (start ["thing"] vs) H):FnOk P w K mg base CX0 1 f fd ["thing"] sp:=by
 refine F.ok gZ len (fun cdv A outer s H vs Q E hr h=>⟨_,?_,rd vs H Q E h⟩)
 have nd:=gZ.nd
 exact (@aA _ _ _ _ _ (@bQ _ _ _ _ (oQ (aT (eP (K:=K) rfl) rfl B.isi nX (@aB _ _ _ _ _ _ (pv 0) (@aB _ _ _ _ _ _ (jU (v := .ty "int") rfl B.int uG rfl) aF))) (sH (aBk (aT (eP (K:=K) rfl) rfl B.isi nX (@aB _ _ _ _ _ _ (pv 0) (@aB _ _ _ _ _ _ (jU (v := .ty "bool") rfl B.bool aCu rfl) aF))))))) aI)
theorem gP:bU ["one","other"] ["one","other"] (aK (top 24)):=⟨rfl,rfl,rfl,by decide +kernel,rfl,by decide +kernel,by decide +kernel⟩
noncomputable def hZ (K:PySem.W.Frag)   : TS:=(aX (oU (cM (tOp yGt (aD 1) (tC (.int 0)))) (aX (aEm 0 1 (aC (aD 1) (aC (tOp pS (aD 0) (aD 1)) aU))) aR)) (aX (fI (tOp (vX K) (aD 0) (tC (.int 1)))) aR))
theorem mI (F:Fun K "_law_e_shared" "_law_e_shared" (top 24) f fd)(B:kZ mg)      {sp:Sp}(len:∀ vs H Q E,sp vs H Q E→vs.length=2)
  (rd:∀ vs H Q E,sp vs H Q E→hZ K   { nx:=fun _ H'=>Q .non H',rt:=Q } (start ["one","other"] vs) H):FnOk P w K mg base CX0 1 f fd ["one","other"] sp:=by
 refine F.ok gP len (fun cdv A outer s H vs Q E hr h=>⟨_,?_,rd vs H Q E h⟩)
 have nd:=gP.nd
 exact (@aA _ _ _ _ _ (jX PassesOwn.never (bO lJ (pv 1) aH (bN _)) (@aA _ _ _ _ _ (xE (i:=0) (j:=1) rfl nd rfl rfl (by decide) rfl rfl (@aB _ _ _ _ _ _ (pv 1) (@cG _ _ _ _ _ _ _ _ (@aZ _ _ _ _ _ _ _ _ gO (pv 0) (pv 1)) aF)) rfl) aI)) (@aA _ _ _ _ _ (@bQ _ _ _ _ (eE (jC (K:=K) rfl hr) (pv 0) aH (bN _))) aI))
theorem gJ:bU ["thing","size","one","other","far_off"] ["thing","size"] (aK (top 25)):=⟨rfl,rfl,rfl,by decide +kernel,rfl,by decide +kernel,by decide +kernel⟩
noncomputable def iG (K:PySem.W.Frag)  (cZ:Sp) (bE:Sp):TS:=(aX (iU (tOr (qR (tB (tCB (aBd K) (aC (aD 0) (aC (tC (.ty "tuple")) aU))))) (cM (tOp (vX K) (tCB (oB K) (aC (aD 0) aU)) (tC (.int 3))))) (aX (fI (tC (.bl false))) aR) aR) (aX (cF (aD 0) (yO K 3 (eA (aJ 2) (eA (aJ 3) (eA (aJ 4) aAf))))) (aX (iU (tOr (qR (tB (bY bE [] E0 (aC (aD 2) aU)))) (tOr (qR (tB (bY bE [] E0 (aC (aD 3) aU)))) (qR (cM (yL yLe yLt yLt (tC (.int 0)) (aD 2) (aD 3) (aD 1)))))) (aX (fI (tC (.bl false))) aR) aR) (aX (iU (tOr (qR (tB (tCB (aBd K) (aC (aD 4) (aC (tC (.ty "tuple")) aU))))) (cM (tOp (vX K) (tCB (oB K) (aC (aD 4) aU)) (tC (.int 2))))) (aX (fI (tC (.bl false))) aR) aR) (aX (iU (tOr (qR (tB (bY bE [] E0 (aC (tOp (bS K) (aD 4) (tC (.int 0))) aU)))) (tOr (qR (tB (bY bE [] E0 (aC (tOp (bS K) (aD 4) (tC (.int 1))) aU)))) (tOr (cM (tOp yLt (tOp (bS K) (aD 4) (tC (.int 0))) (tC (.int 0)))) (cM (tOp yLt (tOp (bS K) (aD 4) (tC (.int 1))) (tC (.int 1))))))) (aX (fI (tC (.bl false))) aR) aR) (aX (fI (aCb (bY cZ [] E0 (aC (tOp (bS K) (aD 4) (tC (.int 0))) (aC (tOp (bS K) (aD 4) (tC (.int 1))) aU))))) aR))))))
theorem mG (F:Fun K "_law_e_is_tie" "_law_e_is_tie" (top 25) f fd)(B:kZ mg)    {cZ:Sp}(fE:Def P w K mg base "_law_e_shared" 1 ["one","other"] cZ){bE:Sp}(cA:Def P w K mg base "_law_e_whole" 1 ["thing"] bE)  {sp:Sp}(len:∀ vs H Q E,sp vs H Q E→vs.length=2)
  (rd:∀ vs H Q E,sp vs H Q E→iG K  cZ bE { nx:=fun _ H'=>Q .non H',rt:=Q } (start ["thing","size","one","other","far_off"] vs) H):FnOk P w K mg base CX0 2 f fd ["thing","size"] sp:=by
 refine F.ok gJ len (fun cdv A outer s H vs Q E hr h=>⟨_,?_,rd vs H Q E h⟩)
 have nd:=gJ.nd
 exact (@aA _ _ _ _ _ (@dY _ _ _ _ _ _ _ _ (PW.pt (lZ (eJ (eZ (aT (eP (K:=K) rfl) rfl B.isi nX (@aB _ _ _ _ _ _ (pv 0) (@aB _ _ _ _ _ _ (jU (v := .ty "tuple") rfl B.tuple cP rfl) aF))))) (lR (bO (jC (K:=K) rfl hr) (aT (bJ (K:=K) rfl) rfl B.len cU (@aB _ _ _ _ _ _ (pv 0) aF)) aH (bN _))))) (@aA _ _ _ _ _ (@bQ _ _ _ _ lA) aI) aI) (@aA _ _ _ _ _ (gA (pv 0) (gF (K:=K) rfl rfl (bL (aS (i:=2) nd rfl (Or.inl rfl)) (bL (aS (i:=3) nd rfl (Or.inl rfl)) (bL (aS (i:=4) nd rfl (Or.inl rfl)) gC))))) (@aA _ _ _ _ _ (@dY _ _ _ _ _ _ _ _ (PW.pt (lZ (eJ (eZ (bG (cA.mono (by decide)) hr rfl (@aB _ _ _ _ _ _ (pv 2) aF)))) (lZ (eJ (eZ (bG (cA.mono (by decide)) hr rfl (@aB _ _ _ _ _ _ (pv 3) aF)))) (lR (eJ (zV aAX rV rV aH (pv 2) (pv 3) (pv 1))))))) (@aA _ _ _ _ _ (@bQ _ _ _ _ lA) aI) aI) (@aA _ _ _ _ _ (@dY _ _ _ _ _ _ _ _ (PW.pt (lZ (eJ (eZ (aT (eP (K:=K) rfl) rfl B.isi nX (@aB _ _ _ _ _ _ (pv 4) (@aB _ _ _ _ _ _ (jU (v := .ty "tuple") rfl B.tuple cP rfl) aF))))) (lR (bO (jC (K:=K) rfl hr) (aT (bJ (K:=K) rfl) rfl B.len cU (@aB _ _ _ _ _ _ (pv 4) aF)) aH (bN _))))) (@aA _ _ _ _ _ (@bQ _ _ _ _ lA) aI) aI) (@aA _ _ _ _ _ (@dY _ _ _ _ _ _ _ _ (PW.pt (lZ (eJ (eZ (bG (cA.mono (by decide)) hr rfl (@cK _ _ _ _ _ _ _ (@aY _ _ _ _ _ _ _ (aN (K:=K) rfl) (pv 4) aH (fun _ _=>rfl)) aF)))) (lZ (eJ (eZ (bG (cA.mono (by decide)) hr rfl (@cK _ _ _ _ _ _ _ (@aY _ _ _ _ _ _ _ (aN (K:=K) rfl) (pv 4) aH (fun _ _=>rfl)) aF)))) (lZ (bO rV (@aY _ _ _ _ _ _ _ (aN (K:=K) rfl) (pv 4) aH (fun _ _=>rfl)) aH (bN _)) (lR (bO rV (@aY _ _ _ _ _ _ _ (aN (K:=K) rfl) (pv 4) aH (fun _ _=>rfl)) aH (bN _))))))) (@aA _ _ _ _ _ (@bQ _ _ _ _ lA) aI) aI) (@aA _ _ _ _ _ (@bQ _ _ _ _ (aBk (bG (fE.mono (by decide)) hr rfl (@cK _ _ _ _ _ _ _ (@aY _ _ _ _ _ _ _ (aN (K:=K) rfl) (pv 4) aH (fun _ _=>rfl)) (@cK _ _ _ _ _ _ _ (@aY _ _ _ _ _ _ _ (aN (K:=K) rfl) (pv 4) aH (fun _ _=>rfl)) aF))))) aI))))))
theorem fJ:bU ["thing","many","tie","k"] ["thing","many"] (aK (top 26)):=⟨rfl,rfl,rfl,by decide +kernel,rfl,by decide +kernel,by decide +kernel⟩
noncomputable def fX (K:PySem.W.Frag)  (dA:Sp) (cB:Sp):TS:=(aX (iU (tOr (qR (tB (tCB (aBd K) (aC (aD 0) (aC (tC (.ty "tuple")) aU))))) (qR (cM (uH yLe yLe (aD 1) (tOp (bH K) (tCB (oB K) (aC (aD 0) aU)) (tC (.int 1))) (tC (.int 14)))))) (aX (fI (tC (.bl false))) aR) aR) (aX (kU (pQ K (aD 0)) (aJ 2) (aX (iU (qR (tB (bY dA [] E0 (aC (aD 2) (aC (tOp (bH K) (tCB (oB K) (aC (aD 0) aU)) (tC (.int 1))) aU))))) (aX (fI (tC (.bl false))) aR) aR) aR)) (aX (kU (wD (aC (tC (.int 1)) (aC (tCB (oB K) (aC (aD 0) aU)) aU))) (aJ 3) (aX (iU (cM (tOp (aFA K) (tOp (bS K) (aD 0) (tOp uE (aD 3) (tC (.int 1)))) (tOp (bS K) (aD 0) (aD 3)))) (aX (fI (tC (.bl false))) aR) aR) aR)) (aX (fI (tOp (vT K) (tCB aBP (aC (bY cB [] E0 (aC (eC [none,none,none] (pQ K (aD 0)) (yO K 3 (eA (aJ 0) (eA (aJ 1) (eA (aJ 2) aAf)))) [] fun acc=>(dX (oJ (aC (aD 0) (aC (aD 1) (aC (tC (.int 1)) aU)))) acc)) (aC (tC (.int 0)) aU))) aU)) (tOp (bH K) (tCB (oB K) (aC (aD 0) aU)) (tC (.int 1))))) aR))))
theorem kJ (F:Fun K "_law_e_is_drawn" "_law_e_is_drawn" (top 26) f fd)(B:kZ mg)    {dA:Sp}(fF:Def P w K mg base "_law_e_is_tie" 2 ["thing","size"] dA){cB:Sp}(cW:Def P w K mg base "_law_e_ways" 1 ["ties","place"] cB)  {sp:Sp}(len:∀ vs H Q E,sp vs H Q E→vs.length=2)
  (rd:∀ vs H Q E,sp vs H Q E→fX K  dA cB { nx:=fun _ H'=>Q .non H',rt:=Q } (start ["thing","many","tie","k"] vs) H):FnOk P w K mg base CX0 3 f fd ["thing","many"] sp:=by
 refine F.ok fJ len (fun cdv A outer s H vs Q E hr h=>⟨_,?_,rd vs H Q E h⟩)
 have nd:=fJ.nd
 exact (@aA _ _ _ _ _ (@dY _ _ _ _ _ _ _ _ (PW.pt (lZ (eJ (eZ (aT (eP (K:=K) rfl) rfl B.isi nX (@aB _ _ _ _ _ _ (pv 0) (@aB _ _ _ _ _ _ (jU (v := .ty "tuple") rfl B.tuple cP rfl) aF))))) (lR (eJ (aAp aAX aAX (pv 1) (@aZ _ _ _ _ _ _ _ _ (bA (K:=K) rfl) (aT (bJ (K:=K) rfl) rfl B.len cU (@aB _ _ _ _ _ _ (pv 0) aF)) aH) aH))))) (@aA _ _ _ _ _ (@bQ _ _ _ _ lA) aI) aI) (@aA _ _ _ _ _ (dN PassesOwn.never rfl (eG (K:=K) rfl (pv 0)) (aS (i:=2) nd rfl (Or.inl rfl)) (@aA _ _ _ _ _ (@dY _ _ _ _ _ _ _ _ (eJ (eZ (bG (fF.mono (by decide)) hr rfl (@aB _ _ _ _ _ _ (pv 2) (@cG _ _ _ _ _ _ _ _ (@aZ _ _ _ _ _ _ _ _ (bA (K:=K) rfl) (aT (bJ (K:=K) rfl) rfl B.len cU (@aB _ _ _ _ _ _ (pv 0) aF)) aH) aF))))) (@aA _ _ _ _ _ (@bQ _ _ _ _ lA) aI) aI) aI)) (@aA _ _ _ _ _ (dN PassesOwn.never rfl (iF rfl B.range (@aV _ _ _ _ _ _ _ aH (@bR _ _ _ _ _ _ _ _ (aT (bJ (K:=K) rfl) rfl B.len cU (@aB _ _ _ _ _ _ (pv 0) aF)) aF))) (aS (i:=3) nd rfl (Or.inl rfl)) (@aA _ _ _ _ _ (@dY _ _ _ _ _ _ _ _ (bO (aCo (K:=K) rfl hr) (@aY _ _ _ _ _ _ _ (aN (K:=K) rfl) (pv 0) (@aZ _ _ _ _ _ _ _ _ kE (pv 3) aH) (fun _ _=>rfl)) (@aY _ _ _ _ _ _ _ (aN (K:=K) rfl) (pv 0) (pv 3) (fun _ _=>rfl)) (bN _)) (@aA _ _ _ _ _ (@bQ _ _ _ _ lA) aI) aI) aI)) (@aA _ _ _ _ _ (@bQ _ _ _ _ (eE (kN (K:=K) rfl hr) (aT rJ rfl B.len cU (@bR _ _ _ _ _ _ _ _ (bG (cW.mono (by decide)) hr rfl (cL (fO (N':=["one","other","far_off"]) (ix:=[none,none,none]) rfl rfl rfl (eG (K:=K) rfl (pv 0)) (fun _ _ _=>(gF (K:=K) rfl rfl (bL (aS (i:=0) (show (["one","other","far_off"]:List Str).Nodup from by decide +kernel) rfl (Or.inl rfl)) (bL (aS (i:=1) (show (["one","other","far_off"]:List Str).Nodup from by decide +kernel) rfl (Or.inl rfl)) (bL (aS (i:=2) (show (["one","other","far_off"]:List Str).Nodup from by decide +kernel) rfl (Or.inl rfl)) gC))))) (fun _ _ _ => .nil) (fun _ _ _ _=>(cT rfl (@dP _ _ _ _ _ (@aB _ _ _ _ _ _ (pv 0) (@aB _ _ _ _ _ _ (pv 1) (@aV _ _ _ _ _ _ _ aH aF)))) rfl))) (@aV _ _ _ _ _ _ _ aH aF))) aF)) (@aZ _ _ _ _ _ _ _ _ (bA (K:=K) rfl) (aT (bJ (K:=K) rfl) rfl B.len cU (@aB _ _ _ _ _ _ (pv 0) aF)) aH) (bN _))) aI))))
theorem eK:bU ["drawn","many","scale","ties","lines","place","found","other"] ["drawn","many"] (aK (top 27)):=⟨rfl,rfl,rfl,by decide +kernel,rfl,by decide +kernel,by decide +kernel⟩
noncomputable def eS (K:PySem.W.Frag)  (dB:Sp) (cB:Sp):TS:=(aX (cF (bY dB [] E0 (aC (aD 0) aU)) (yO K 2 (eA (aJ 2) (eA (aJ 3) aAf)))) (aX (cF (vB aU) (aJ 4)) (aX (kU (dM (aC (aD 1) aU)) (aJ 5) (aX (cF (bY cB [] E0 (aC (aD 3) (aC (aD 5) aU))) (aJ 6)) (aX (kU (dM (aC (aD 1) aU)) (aJ 7) (aX (iU (tOr (cM (tOp yGt (tOp pS (jK (aD 6) (aD 7)) (aD 2)) (tC (.int 0)))) (cM (tOp yGt (jK (aD 6) (aD 7)) (tOp wE (tC (.int 1000000)) (aD 2))))) (aX (fI (tC .non)) aR) aR) aR)) (aX (sI (tBM K "list" jW (aD 4) (aC (tCB (dZ K) (aC (eC [none,some 6,some 2] (dM (aC (aD 1) aU)) (aJ 0) [] fun acc=>(dX (tOp xA (jK (aD 1) (aD 0)) (aD 2)) acc)) aU)) aU))) aR)))) (aX (fI (tCB (dZ K) (aC (aD 4) aU))) aR))))
theorem iT (F:Fun K "_law_e_tree_table" "_law_e_tree_table" (top 27) f fd)(B:kZ mg)    {dB:Sp}(fG:Def P w K mg base "_law_e_scaled" 1 ["drawn"] dB){cB:Sp}(cW:Def P w K mg base "_law_e_ways" 1 ["ties","place"] cB)  {sp:Sp}(len:∀ vs H Q E,sp vs H Q E→vs.length=2)
  (rd:∀ vs H Q E,sp vs H Q E→eS K  dB cB { nx:=fun _ H'=>Q .non H',rt:=Q } (start ["drawn","many","scale","ties","lines","place","found","other"] vs) H):FnOk P w K mg base CX0 2 f fd ["drawn","many"] sp:=by
 refine F.ok eK len (fun cdv A outer s H vs Q E hr h=>⟨_,?_,rd vs H Q E h⟩)
 have nd:=eK.nd
 exact (@aA _ _ _ _ _ (gA (bG (fG.mono (by decide)) hr rfl (@aB _ _ _ _ _ _ (pv 0) aF)) (gF (K:=K) rfl rfl (bL (aS (i:=2) nd rfl (Or.inr rfl)) (bL (aS (i:=3) nd rfl (Or.inl rfl)) gC)))) (@aA _ _ _ _ _ (@bC _ _ 4 _ _ _ _ nd rfl (Or.inl rfl) (@gS _ _ _ _ aF) (by rfl) (by first | exact .inl rfl | exact .inr rfl | assumption)) (@aA _ _ _ _ _ (dN PassesOwn.never rfl (bK rfl B.range (@aB _ _ _ _ _ _ (pv 1) aF)) (aS (i:=5) nd rfl (Or.inl rfl)) (@aA _ _ _ _ _ (@bC _ _ 6 _ _ _ _ nd rfl (Or.inr rfl) (bG (cW.mono (by decide)) hr rfl (@aB _ _ _ _ _ _ (pv 3) (@aB _ _ _ _ _ _ (pv 5) aF))) (by rfl) (by first | exact .inl rfl | exact .inr rfl | assumption)) (@aA _ _ _ _ _ (dN PassesOwn.never rfl (bK rfl B.range (@aB _ _ _ _ _ _ (pv 1) aF)) (aS (i:=7) nd rfl (Or.inl rfl)) (@aA _ _ _ _ _ (@dY _ _ _ _ _ _ _ _ (PW.pt (lZ (bO lJ (@aZ _ _ _ _ _ _ _ _ gO (eB (gE hr) (pv 6) (pv 7) (fun _ _=>rfl)) (pv 2)) aH (bN _)) (lR (bO lJ (eB (gE hr) (pv 6) (pv 7) (fun _ _=>rfl)) (@aZ _ _ _ _ _ _ _ _ pT aH (pv 2)) (bN _))))) (@aA _ _ _ _ _ (@bQ _ _ _ _ zO) aI) aI) aI)) (@aA _ _ _ _ _ (lM (pC (K:=K) rfl PySem.F.plainAttrs_list PySem.F.slot_list_append PySem.F.type_list_append fZ (pv 4) (@bR _ _ _ _ _ _ _ _ (bX (cH (K:=K) rfl) rfl B.tuple cP (cL (fO (N':=["other","found","scale"]) (ix:=[none,some 6,some 2]) rfl rfl rfl (bK rfl B.range (@aB _ _ _ _ _ _ (pv 1) aF)) (fun _ _ _=>(aS (i:=0) (show (["other","found","scale"]:List Str).Nodup from by decide +kernel) rfl (Or.inl rfl))) (fun _ _ _ => .nil) (fun _ _ _ _=>(cT rfl (@aZ _ _ _ _ _ _ _ _ mN (eB (gE hr) (pv 1) (pv 0) (fun _ _=>rfl)) (pv 2)) rfl))) aF)) aF))) aI)))) (@aA _ _ _ _ _ (@bQ _ _ _ _ (bX (cH (K:=K) rfl) rfl B.tuple cP (@aB _ _ _ _ _ _ (pv 4) aF))) aI))))
theorem eQ:bU ["table","four","i","j","k","l","two"] ["table","four"] (aK (top 28)):=⟨rfl,rfl,rfl,by decide +kernel,rfl,by decide +kernel,by decide +kernel⟩
noncomputable def fK (K:PySem.W.Frag)   : TS:=(aX (cF (aD 1) (yO K 4 (eA (aJ 2) (eA (aJ 3) (eA (aJ 4) (eA (aJ 5) aAf)))))) (aX (cF (tOp (bH K) (tOp (bS K) (tOp (bS K) (aD 0) (aD 2)) (aD 3)) (tOp (bS K) (tOp (bS K) (aD 0) (aD 4)) (aD 5))) (aJ 6)) (aX (fI (tK (tOp yGt (aD 6) (tOp (bH K) (tOp (bS K) (tOp (bS K) (aD 0) (aD 2)) (aD 4)) (tOp (bS K) (tOp (bS K) (aD 0) (aD 3)) (aD 5)))) (tOp yGt (aD 6) (tOp (bH K) (tOp (bS K) (tOp (bS K) (aD 0) (aD 2)) (aD 5)) (tOp (bS K) (tOp (bS K) (aD 0) (aD 3)) (aD 4)))))) aR)))
theorem jQ (F:Fun K "_law_e_is_broken" "_law_e_is_broken" (top 28) f fd)(B:kZ mg)      {sp:Sp}(len:∀ vs H Q E,sp vs H Q E→vs.length=2)
  (rd:∀ vs H Q E,sp vs H Q E→fK K   { nx:=fun _ H'=>Q .non H',rt:=Q } (start ["table","four","i","j","k","l","two"] vs) H):FnOk P w K mg base CX0 1 f fd ["table","four"] sp:=by
 refine F.ok eQ len (fun cdv A outer s H vs Q E hr h=>⟨_,?_,rd vs H Q E h⟩)
 have nd:=eQ.nd
 exact (@aA _ _ _ _ _ (gA (pv 1) (gF (K:=K) rfl rfl (bL (aS (i:=2) nd rfl (Or.inl rfl)) (bL (aS (i:=3) nd rfl (Or.inl rfl)) (bL (aS (i:=4) nd rfl (Or.inl rfl)) (bL (aS (i:=5) nd rfl (Or.inl rfl)) gC)))))) (@aA _ _ _ _ _ (@bC _ _ 6 _ _ _ _ nd rfl (Or.inl rfl) (@aZ _ _ _ _ _ _ _ _ (bA (K:=K) rfl) (@aY _ _ _ _ _ _ _ (aN (K:=K) rfl) (@aY _ _ _ _ _ _ _ (aN (K:=K) rfl) (pv 0) (pv 2) (fun _ _=>rfl)) (pv 3) (fun _ _=>rfl)) (@aY _ _ _ _ _ _ _ (aN (K:=K) rfl) (@aY _ _ _ _ _ _ _ (aN (K:=K) rfl) (pv 0) (pv 4) (fun _ _=>rfl)) (pv 5) (fun _ _=>rfl))) (by rfl) (by first | exact .inl rfl | exact .inr rfl | assumption)) (@aA _ _ _ _ _ (@bQ _ _ _ _ (oQ (eE lJ (pv 6) (@aZ _ _ _ _ _ _ _ _ (bA (K:=K) rfl) (@aY _ _ _ _ _ _ _ (aN (K:=K) rfl) (@aY _ _ _ _ _ _ _ (aN (K:=K) rfl) (pv 0) (pv 2) (fun _ _=>rfl)) (pv 4) (fun _ _=>rfl)) (@aY _ _ _ _ _ _ _ (aN (K:=K) rfl) (@aY _ _ _ _ _ _ _ (aN (K:=K) rfl) (pv 0) (pv 3) (fun _ _=>rfl)) (pv 5) (fun _ _=>rfl))) (bN _)) (sH (eE lJ (pv 6) (@aZ _ _ _ _ _ _ _ _ (bA (K:=K) rfl) (@aY _ _ _ _ _ _ _ (aN (K:=K) rfl) (@aY _ _ _ _ _ _ _ (aN (K:=K) rfl) (pv 0) (pv 2) (fun _ _=>rfl)) (pv 5) (fun _ _=>rfl)) (@aY _ _ _ _ _ _ _ (aN (K:=K) rfl) (@aY _ _ _ _ _ _ _ (aN (K:=K) rfl) (pv 0) (pv 3) (fun _ _=>rfl)) (pv 4) (fun _ _=>rfl))) (bN _))))) aI)))
theorem gQ:bU ["table","many","i","j","k","l"] ["table"] (aK (top 29)):=⟨rfl,rfl,rfl,by decide +kernel,rfl,by decide +kernel,by decide +kernel⟩
noncomputable def iC (K:PySem.W.Frag)  (bD:Sp):TS:=(aX (cF (tCB (oB K) (aC (aD 0) aU)) (aJ 1)) (aX (kU (dM (aC (aD 1) aU)) (aJ 2) (aX (kU (wD (aC (aD 2) (aC (aD 1) aU))) (aJ 3) (aX (kU (dM (aC (aD 1) aU)) (aJ 4) (aX (kU (wD (aC (aD 4) (aC (aD 1) aU))) (aJ 5) (aX (iU (tB (bY bD [] E0 (aC (aD 0) (aC (oJ (aC (aD 2) (aC (aD 3) (aC (aD 4) (aC (aD 5) aU))))) aU)))) (aX (fI (tC (.bl true))) aR) aR) aR)) aR)) aR)) aR)) (aX (fI (tC (.bl false))) aR)))
theorem mJ (F:Fun K "_law_e_breaks" "_law_e_breaks" (top 29) f fd)(B:kZ mg)    {bD:Sp}(cD:Def P w K mg base "_law_e_is_broken" 1 ["table","four"] bD)  {sp:Sp}(len:∀ vs H Q E,sp vs H Q E→vs.length=1)
  (rd:∀ vs H Q E,sp vs H Q E→iC K  bD { nx:=fun _ H'=>Q .non H',rt:=Q } (start ["table","many","i","j","k","l"] vs) H):FnOk P w K mg base CX0 2 f fd ["table"] sp:=by
 refine F.ok gQ len (fun cdv A outer s H vs Q E hr h=>⟨_,?_,rd vs H Q E h⟩)
 have nd:=gQ.nd
 exact (@aA _ _ _ _ _ (@bC _ _ 1 _ _ _ _ nd rfl (Or.inl rfl) (aT (bJ (K:=K) rfl) rfl B.len cU (@aB _ _ _ _ _ _ (pv 0) aF)) (by rfl) (by first | exact .inl rfl | exact .inr rfl | assumption)) (@aA _ _ _ _ _ (dN PassesOwn.never rfl (bK rfl B.range (@aB _ _ _ _ _ _ (pv 1) aF)) (aS (i:=2) nd rfl (Or.inl rfl)) (@aA _ _ _ _ _ (dN PassesOwn.never rfl (iF rfl B.range (@aB _ _ _ _ _ _ (pv 2) (@aB _ _ _ _ _ _ (pv 1) aF))) (aS (i:=3) nd rfl (Or.inl rfl)) (@aA _ _ _ _ _ (dN PassesOwn.never rfl (bK rfl B.range (@aB _ _ _ _ _ _ (pv 1) aF)) (aS (i:=4) nd rfl (Or.inl rfl)) (@aA _ _ _ _ _ (dN PassesOwn.never rfl (iF rfl B.range (@aB _ _ _ _ _ _ (pv 4) (@aB _ _ _ _ _ _ (pv 1) aF))) (aS (i:=5) nd rfl (Or.inl rfl)) (@aA _ _ _ _ _ (@dY _ _ _ _ _ _ _ _ (eZ (bG (cD.mono (by decide)) hr rfl (@aB _ _ _ _ _ _ (pv 0) (@iR _ _ _ _ _ _ _ (@dP _ _ _ _ _ (@aB _ _ _ _ _ _ (pv 2) (@aB _ _ _ _ _ _ (pv 3) (@aB _ _ _ _ _ _ (pv 4) (@aB _ _ _ _ _ _ (pv 5) aF))))) aF)))) (@aA _ _ _ _ _ (@bQ _ _ _ _ lA) aI) aI) aI)) aI)) aI)) aI)) (@aA _ _ _ _ _ (@bQ _ _ _ _ lA) aI)))
theorem fB:bU ["pen","many","way","table","i","j","more","lines"] ["pen"] (aK (top 30)):=⟨rfl,rfl,rfl,by decide +kernel,rfl,by decide +kernel,by decide +kernel⟩
noncomputable def fL (K:PySem.W.Frag)  (dG:Sp) (cR:Sp) (dH:Sp) (aG:Sp) (bB:Sp):TS:=(aX (cF (tOp (bH K) (tC (.int 1)) (bY aG [] E0 (aC (aD 0) (aC (tC (.int 8)) aU)))) (aJ 1)) (aX (cF (bY aG [] E0 (aC (aD 0) (aC (tC (.int 5)) aU))) (aJ 2)) (aX (iU (cM (tOp yGt (aD 2) (tC (.int 2)))) (aX (cF (bY dH [] E0 (aC (aD 0) (aC (aD 1) (aC (tC (.bl true)) aU)))) (aJ 3)) (aX (fI (tIf (cM (tOp (vT K) (aD 2) (tC (.int 3)))) (bY cR [] E0 (aC (aD 3) aU)) (aD 3))) aR)) aR) (aX (cF (bY bB [] E0 (aC (bY dG [] E0 (aC (aD 0) (aC (aD 1) aU))) (aC (aD 1) aU))) (aJ 3)) (aX (iU (aEH (cM (tOp (vT K) (aD 2) (tC (.int 2)))) (cM (tOp yGt (aD 1) (tC (.int 1))))) (aX (cF (bY aG [] E0 (aC (aD 0) (aC (aD 1) aU))) (aJ 4)) (aX (cF (tOp pS (tOp (bH K) (tOp (bH K) (aD 4) (tC (.int 1))) (bY aG [] E0 (aC (aD 0) (aC (tOp uE (aD 1) (tC (.int 1))) aU)))) (aD 1)) (aJ 5)) (aX (cF (tOp (bS K) (vB (aC (tC (.int 1)) (aC (tC (.int 2)) (aC (tUn aCW (tC (.int 1))) (aC (tUn aCW (tC (.int 2))) (aC (tC (.int 5)) (aC (tC (.int 1000)) aU))))))) (bY aG [] E0 (aC (aD 0) (aC (tC (.int 6)) aU)))) (aJ 6)) (aX (cF (eC [none] (pQ K (aD 3)) (aJ 0) [] fun acc=>(dX (tCB (tS K) (aC (aD 0) aU)) acc)) (aJ 7)) (aX (cF (tCB rC (aC (tC (.int 1000000)) (aC (tCB tD (aC (tC (.int 0)) (aC (tOp (bH K) (tOp (bS K) (tOp (bS K) (aD 7) (aD 4)) (aD 5)) (aD 6)) aU))) aU))) (qP (tOp (bS K) (aD 7) (aD 4)) (aD 5) gR)) (aX (cF (tOp (bS K) (tOp (bS K) (aD 7) (aD 4)) (aD 5)) (qP (tOp (bS K) (aD 7) (aD 5)) (aD 4) gR)) (aX (cF (tCB (dZ K) (aC (eC [none] (pQ K (aD 7)) (aJ 0) [] fun acc=>(dX (tCB (dZ K) (aC (aD 0) aU)) acc)) aU)) (aJ 3)) aR))))))) aR) (aX (fI (aD 3)) aR))))))
theorem jV (F:Fun K "_law_e_near_tree" "_law_e_near_tree" (top 30) f fd)(B:kZ mg)    {dG:Sp}(fR:Def P w K mg base "_law_e_drawn" 3 ["pen","many"] dG){cR:Sp}(dU:Def P w K mg base "_law_e_straight" 1 ["table"] cR){dH:Sp}(fS:Def P w K mg base "_law_e_table" 3 ["pen","many","even"] dH){aG:Sp}(aQ:Def P w K mg base "_law_e_take" 2 ["pen","many"] aG){bB:Sp}(bZ:Def P w K mg base "_law_e_tree_table" 2 ["drawn","many"] bB)  {sp:Sp}(len:∀ vs H Q E,sp vs H Q E→vs.length=1)
  (rd:∀ vs H Q E,sp vs H Q E→fL K  dG cR dH aG bB { nx:=fun _ H'=>Q .non H',rt:=Q } (start ["pen","many","way","table","i","j","more","lines"] vs) H):FnOk P w K mg base CX0 4 f fd ["pen"] sp:=by
 refine F.ok fB len (fun cdv A outer s H vs Q E hr h=>⟨_,?_,rd vs H Q E h⟩)
 have nd:=fB.nd
 exact (@aA _ _ _ _ _ (@bC _ _ 1 _ _ _ _ nd rfl (Or.inl rfl) (@aZ _ _ _ _ _ _ _ _ (bA (K:=K) rfl) aH (bG (aQ.mono (by decide)) hr rfl (@aB _ _ _ _ _ _ (pv 0) (@aV _ _ _ _ _ _ _ aH aF)))) (by rfl) (by first | exact .inl rfl | exact .inr rfl | assumption)) (@aA _ _ _ _ _ (@bC _ _ 2 _ _ _ _ nd rfl (Or.inl rfl) (bG (aQ.mono (by decide)) hr rfl (@aB _ _ _ _ _ _ (pv 0) (@aV _ _ _ _ _ _ _ aH aF))) (by rfl) (by first | exact .inl rfl | exact .inr rfl | assumption)) (@aA _ _ _ _ _ (@dY _ _ _ _ _ _ _ _ (bO lJ (pv 2) aH (bN _)) (@aA _ _ _ _ _ (@bC _ _ 3 _ _ _ _ nd rfl (Or.inl rfl) (bG (fS.mono (by decide)) hr rfl (@aB _ _ _ _ _ _ (pv 0) (@aB _ _ _ _ _ _ (pv 1) (@aV _ _ _ _ _ _ _ lA aF)))) (by rfl) (by first | exact .inl rfl | exact .inr rfl | assumption)) (@aA _ _ _ _ _ (@bQ _ _ _ _ (mP (bO (kN (K:=K) rfl hr) (pv 2) aH (bN _)) (bG (dU.mono (by decide)) hr rfl (@aB _ _ _ _ _ _ (pv 3) aF)) (pv 3))) aI)) aI) (@aA _ _ _ _ _ (@bC _ _ 3 _ _ _ _ nd rfl (Or.inl rfl) (bG (bZ.mono (by decide)) hr rfl (@bR _ _ _ _ _ _ _ _ (bG (fR.mono (by decide)) hr rfl (@aB _ _ _ _ _ _ (pv 0) (@aB _ _ _ _ _ _ (pv 1) aF))) (@aB _ _ _ _ _ _ (pv 1) aF))) (by rfl) (by first | exact .inl rfl | exact .inr rfl | assumption)) (@aA _ _ _ _ _ (@dY _ _ _ _ _ _ _ _ (PW.pt (zM (bO (kN (K:=K) rfl hr) (pv 2) aH (bN _)) (tY (bO lJ (pv 1) aH (bN _))))) (@aA _ _ _ _ _ (@bC _ _ 4 _ _ _ _ nd rfl (Or.inl rfl) (bG (aQ.mono (by decide)) hr rfl (@aB _ _ _ _ _ _ (pv 0) (@aB _ _ _ _ _ _ (pv 1) aF))) (by rfl) (by first | exact .inl rfl | exact .inr rfl | assumption)) (@aA _ _ _ _ _ (@bC _ _ 5 _ _ _ _ nd rfl (Or.inl rfl) (@aZ _ _ _ _ _ _ _ _ gO (@aZ _ _ _ _ _ _ _ _ (bA (K:=K) rfl) (@aZ _ _ _ _ _ _ _ _ (bA (K:=K) rfl) (pv 4) aH) (bG (aQ.mono (by decide)) hr rfl (@aB _ _ _ _ _ _ (pv 0) (@cG _ _ _ _ _ _ _ _ (@aZ _ _ _ _ _ _ _ _ kE (pv 1) aH) aF)))) (pv 1)) (by rfl) (by first | exact .inl rfl | exact .inr rfl | assumption)) (@aA _ _ _ _ _ (@bC _ _ 6 _ _ _ _ nd rfl (Or.inl rfl) (@aY _ _ _ _ _ _ _ (aN (K:=K) rfl) (@gS _ _ _ _ (@aV _ _ _ _ _ _ _ aH (@aV _ _ _ _ _ _ _ aH (@vE _ _ _ _ _ _ _ (aBL wZ aH) (@vE _ _ _ _ _ _ _ (aBL wZ aH) (@aV _ _ _ _ _ _ _ aH (@aV _ _ _ _ _ _ _ aH aF))))))) (bG (aQ.mono (by decide)) hr rfl (@aB _ _ _ _ _ _ (pv 0) (@aV _ _ _ _ _ _ _ aH aF))) (fun _ _=>rfl)) (by rfl) (by first | exact .inl rfl | exact .inr rfl | assumption)) (@aA _ _ _ _ _ (dR (i:=7) nd rfl (Or.inl rfl) (N':=["line"]) (ix:=[none]) rfl rfl rfl (eG (K:=K) rfl (pv 3)) (fun _ _ _=>(aS (i:=0) (show (["line"]:List Str).Nodup from by decide +kernel) rfl (Or.inl rfl))) (fun _ _ _ => .nil) (fun _ _ _ _=>(cT rfl (bX (iL (K:=K) rfl rfl) rfl B.list pP (@aB _ _ _ _ _ _ (pv 0) aF)) rfl))) (@aA _ _ _ _ _ (gA (aT (iM rfl) rfl B.min uQ (@aV _ _ _ _ _ _ _ aH (@bR _ _ _ _ _ _ _ _ (aT (lD rfl) rfl B.max vF (@aV _ _ _ _ _ _ _ aH (@cG _ _ _ _ _ _ _ _ (@aZ _ _ _ _ _ _ _ _ (bA (K:=K) rfl) (@aY _ _ _ _ _ _ _ (aN (K:=K) rfl) (@aY _ _ _ _ _ _ _ (aN (K:=K) rfl) (pv 7) (pv 4) (fun _ _=>rfl)) (pv 5) (fun _ _=>rfl)) (pv 6)) aF))) aF))) (kR (@aY _ _ _ _ _ _ _ (aN (K:=K) rfl) (pv 7) (pv 4) (fun _ _=>rfl)) (pv 5) eL)) (@aA _ _ _ _ _ (gA (@aY _ _ _ _ _ _ _ (aN (K:=K) rfl) (@aY _ _ _ _ _ _ _ (aN (K:=K) rfl) (pv 7) (pv 4) (fun _ _=>rfl)) (pv 5) (fun _ _=>rfl)) (kR (@aY _ _ _ _ _ _ _ (aN (K:=K) rfl) (pv 7) (pv 5) (fun _ _=>rfl)) (pv 4) eL)) (@aA _ _ _ _ _ (@bC _ _ 3 _ _ _ _ nd rfl (Or.inl rfl) (bX (cH (K:=K) rfl) rfl B.tuple cP (cL (fO (N':=["line"]) (ix:=[none]) rfl rfl rfl (eG (K:=K) rfl (pv 7)) (fun _ _ _=>(aS (i:=0) (show (["line"]:List Str).Nodup from by decide +kernel) rfl (Or.inl rfl))) (fun _ _ _ => .nil) (fun _ _ _ _=>(cT rfl (bX (cH (K:=K) rfl) rfl B.tuple cP (@aB _ _ _ _ _ _ (pv 0) aF)) rfl))) aF)) (by rfl) (by first | exact .inl rfl | exact .inr rfl | assumption)) aI))))))) aI) (@aA _ _ _ _ _ (@bQ _ _ _ _ (pv 3)) aI))))))
theorem gW:bU ["table","told","many"] ["table"] (aK (top 31)):=⟨rfl,rfl,rfl,by decide +kernel,rfl,by decide +kernel,by decide +kernel⟩
noncomputable def iW (K:PySem.W.Frag)  (dC:Sp) (bD:Sp) (cS:Sp) (bB:Sp) (bE:Sp) (dI:Sp):TS:=(aX (cF (bY dI [] E0 (aC (aD 0) aU)) (aJ 1)) (aX (cF (tCB (oB K) (aC (aD 0) aU)) (aJ 2)) (aX (iU (tOr (qR (tB (tCB (aBd K) (aC (aD 1) (aC (tC (.ty "tuple")) aU))))) (cM (tOp (vX K) (tCB (oB K) (aC (aD 1) aU)) (tC (.int 2))))) (aX (fI (tC (.bl false))) aR) aR) (aX (iU (qR (tB (bY dC [] E0 (aC (aD 0) aU)))) (aX (fI (tK (tOp (vT K) (tOp (bS K) (aD 1) (tC (.int 0))) (tC (.str "tree"))) (tK (bY cS [] E0 (aC (tOp (bS K) (aD 1) (tC (.int 1))) (aC (aD 2) aU))) (tOp (vT K) (bY bB [] E0 (aC (tOp (bS K) (aD 1) (tC (.int 1))) (aC (aD 2) aU))) (aD 0))))) aR) aR) (aX (iU (tOr (cM (tOp (vX K) (tOp (bS K) (aD 1) (tC (.int 0))) (tC (.str "four")))) (tOr (qR (tB (tCB (aBd K) (aC (tOp (bS K) (aD 1) (tC (.int 1))) (aC (tC (.ty "tuple")) aU))))) (cM (tOp (vX K) (tCB (oB K) (aC (tOp (bS K) (aD 1) (tC (.int 1))) aU)) (tC (.int 4)))))) (aX (fI (tC (.bl false))) aR) aR) (aX (iU (qR (tB (tCB (aEx K) (aC (eC [none,some 2] (pQ K (tOp (bS K) (aD 1) (tC (.int 1)))) (aJ 0) [] fun acc=>(dX (tK (bY bE [] E0 (aC (aD 0) aU)) (uH yLe yLt (tC (.int 0)) (aD 0) (aD 1))) acc)) aU)))) (aX (fI (tC (.bl false))) aR) aR) (aX (fI (bY bD [] E0 (aC (aD 0) (aC (tOp (bS K) (aD 1) (tC (.int 1))) aU)))) aR)))))))
theorem nP (F:Fun K "_law_e_right" "_law_e_right" (top 31) f fd)(B:kZ mg)    {dC:Sp}(fH:Def P w K mg base "_law_e_breaks" 2 ["table"] dC){bD:Sp}(cD:Def P w K mg base "_law_e_is_broken" 1 ["table","four"] bD){cS:Sp}(dW:Def P w K mg base "_law_e_is_drawn" 3 ["thing","many"] cS){bB:Sp}(bZ:Def P w K mg base "_law_e_tree_table" 2 ["drawn","many"] bB){bE:Sp}(cA:Def P w K mg base "_law_e_whole" 1 ["thing"] bE){dI:Sp}(fT:Def P w K mg base "tree_or_four" 4 ["table"] dI)  {sp:Sp}(len:∀ vs H Q E,sp vs H Q E→vs.length=1)
  (rd:∀ vs H Q E,sp vs H Q E→iW K  dC bD cS bB bE dI { nx:=fun _ H'=>Q .non H',rt:=Q } (start ["table","told","many"] vs) H):FnOk P w K mg base CX0 5 f fd ["table"] sp:=by
 refine F.ok gW len (fun cdv A outer s H vs Q E hr h=>⟨_,?_,rd vs H Q E h⟩)
 have nd:=gW.nd
 exact (@aA _ _ _ _ _ (@bC _ _ 1 _ _ _ _ nd rfl (Or.inl rfl) (bG (fT.mono (by decide)) hr rfl (@aB _ _ _ _ _ _ (pv 0) aF)) (by rfl) (by first | exact .inl rfl | exact .inr rfl | assumption)) (@aA _ _ _ _ _ (@bC _ _ 2 _ _ _ _ nd rfl (Or.inr rfl) (aT (bJ (K:=K) rfl) rfl B.len cU (@aB _ _ _ _ _ _ (pv 0) aF)) (by rfl) (by first | exact .inl rfl | exact .inr rfl | assumption)) (@aA _ _ _ _ _ (@dY _ _ _ _ _ _ _ _ (PW.pt (lZ (eJ (eZ (aT (eP (K:=K) rfl) rfl B.isi nX (@aB _ _ _ _ _ _ (pv 1) (@aB _ _ _ _ _ _ (jU (v := .ty "tuple") rfl B.tuple cP rfl) aF))))) (lR (bO (jC (K:=K) rfl hr) (aT (bJ (K:=K) rfl) rfl B.len cU (@aB _ _ _ _ _ _ (pv 1) aF)) aH (bN _))))) (@aA _ _ _ _ _ (@bQ _ _ _ _ lA) aI) aI) (@aA _ _ _ _ _ (@dY _ _ _ _ _ _ _ _ (eJ (eZ (bG (fH.mono (by decide)) hr rfl (@aB _ _ _ _ _ _ (pv 0) aF)))) (@aA _ _ _ _ _ (@bQ _ _ _ _ (oQ (eE (kN (K:=K) rfl hr) (@aY _ _ _ _ _ _ _ (aN (K:=K) rfl) (pv 1) aH (fun _ _=>rfl)) uI (bN _)) (oQ (bG (dW.mono (by decide)) hr rfl (@cK _ _ _ _ _ _ _ (@aY _ _ _ _ _ _ _ (aN (K:=K) rfl) (pv 1) aH (fun _ _=>rfl)) (@aB _ _ _ _ _ _ (pv 2) aF))) (sH (eE (kN (K:=K) rfl hr) (bG (bZ.mono (by decide)) hr rfl (@cK _ _ _ _ _ _ _ (@aY _ _ _ _ _ _ _ (aN (K:=K) rfl) (pv 1) aH (fun _ _=>rfl)) (@aB _ _ _ _ _ _ (pv 2) aF))) (pv 0) (bN _)))))) aI) aI) (@aA _ _ _ _ _ (@dY _ _ _ _ _ _ _ _ (PW.pt (lZ (bO (jC (K:=K) rfl hr) (@aY _ _ _ _ _ _ _ (aN (K:=K) rfl) (pv 1) aH (fun _ _=>rfl)) uI (bN _)) (lZ (eJ (eZ (aT (eP (K:=K) rfl) rfl B.isi nX (@cK _ _ _ _ _ _ _ (@aY _ _ _ _ _ _ _ (aN (K:=K) rfl) (pv 1) aH (fun _ _=>rfl)) (@aB _ _ _ _ _ _ (jU (v := .ty "tuple") rfl B.tuple cP rfl) aF))))) (lR (bO (jC (K:=K) rfl hr) (aT (bJ (K:=K) rfl) rfl B.len cU (@cK _ _ _ _ _ _ _ (@aY _ _ _ _ _ _ _ (aN (K:=K) rfl) (pv 1) aH (fun _ _=>rfl)) aF)) aH (bN _)))))) (@aA _ _ _ _ _ (@bQ _ _ _ _ lA) aI) aI) (@aA _ _ _ _ _ (@dY _ _ _ _ _ _ _ _ (eJ (eZ (aT (nH (K:=K) rfl rfl) rfl B.all zA (cL (fO (N':=["place","many"]) (ix:=[none,some 2]) rfl rfl rfl (eG (K:=K) rfl (@aY _ _ _ _ _ _ _ (aN (K:=K) rfl) (pv 1) aH (fun _ _=>rfl))) (fun _ _ _=>(aS (i:=0) (show (["place","many"]:List Str).Nodup from by decide +kernel) rfl (Or.inl rfl))) (fun _ _ _ => .nil) (fun _ _ _ _=>(cT rfl (oQ (bG (cA.mono (by decide)) hr rfl (@aB _ _ _ _ _ _ (pv 0) aF)) (sH (aAD aAX rV aH (pv 0) (pv 1)))) rfl))) aF)))) (@aA _ _ _ _ _ (@bQ _ _ _ _ lA) aI) aI) (@aA _ _ _ _ _ (@bQ _ _ _ _ (bG (cD.mono (by decide)) hr rfl (@aB _ _ _ _ _ _ (pv 0) (@cK _ _ _ _ _ _ _ (@aY _ _ _ _ _ _ _ (aN (K:=K) rfl) (pv 1) aH (fun _ _=>rfl)) aF)))) aI)))))))
theorem aBl:bU ["script","pen","some","one","two","more"] ["script"] (aK (top 32)):=⟨rfl,rfl,rfl,by decide +kernel,rfl,by decide +kernel,by decide +kernel⟩
noncomputable def aCO (K:PySem.W.Frag)  (cQ:Sp) (eO:Sp) (dJ:Sp) (aG:Sp):TS:=(aX (cF (bY eO [] E0 (aC (aD 0) aU)) (aJ 1)) (aX (cF (eC [none,some 1] (dM (aC (tC (.int 4)) aU)) (aJ 0) [] fun acc=>(dX (bY cQ [] E0 (aC (aD 1) aU)) acc)) (aJ 2)) (aX (aEm 3 4 (aC (bY aG [] E0 (aC (aD 1) (aC (tC (.int 1000)) aU))) (aC (bY aG [] E0 (aC (aD 1) (aC (tC (.int 1000)) aU))) aU))) (aX (kU (dM (aC (tC (.int 2)) aU)) (aJ 5) (aX (sI (tBM K "list" jW (aD 2) (aC (oJ (aC (oJ (aC (tC (.int 0)) (aC (aD 3) (aC (aD 4) aU)))) (aC (oJ (aC (aD 3) (aC (tC (.int 0)) (aC (tOp (bH K) (tOp (bH K) (aD 3) (aD 4)) (aD 5)) aU)))) (aC (oJ (aC (aD 4) (aC (tOp (bH K) (tOp (bH K) (aD 3) (aD 4)) (aD 5)) (aC (tC (.int 0)) aU)))) aU)))) aU))) aR)) (aX (fI (tCB (aEx K) (aC (eC [none] (pQ K (tOp (bH K) (aD 2) (tSl (aEV K) (aD 2) sU (aCi (tC (.int 2)))))) (aJ 0) [] fun acc=>(dX (bY dJ [] E0 (aC (aD 0) aU)) acc)) aU))) aR)))))
theorem aDe (F:Fun K "law" "law" (top 32) f fd)(B:kZ mg)    {cQ:Sp}(dL:Def P w K mg base "_law_e_near_tree" 4 ["pen"] cQ){eO:Sp}(iJ:Def P w K mg base "_law_e_pen" 1 ["script"] eO){dJ:Sp}(fU:Def P w K mg base "_law_e_right" 5 ["table"] dJ){aG:Sp}(aQ:Def P w K mg base "_law_e_take" 2 ["pen","many"] aG)  {sp:Sp}(len:∀ vs H Q E,sp vs H Q E→vs.length=1)
  (rd:∀ vs H Q E,sp vs H Q E→aCO K  cQ eO dJ aG { nx:=fun _ H'=>Q .non H',rt:=Q } (start ["script","pen","some","one","two","more"] vs) H):FnOk P w K mg base CX0 6 f fd ["script"] sp:=by
 refine F.ok aBl len (fun cdv A outer s H vs Q E hr h=>⟨_,?_,rd vs H Q E h⟩)
 have nd:=aBl.nd
 exact (@aA _ _ _ _ _ (@bC _ _ 1 _ _ _ _ nd rfl (Or.inr rfl) (bG (iJ.mono (by decide)) hr rfl (@aB _ _ _ _ _ _ (pv 0) aF)) (by rfl) (by first | exact .inl rfl | exact .inr rfl | assumption)) (@aA _ _ _ _ _ (dR (i:=2) nd rfl (Or.inl rfl) (N':=["turn","pen"]) (ix:=[none,some 1]) rfl rfl rfl (bK rfl B.range (@aV _ _ _ _ _ _ _ aH aF)) (fun _ _ _=>(aS (i:=0) (show (["turn","pen"]:List Str).Nodup from by decide +kernel) rfl (Or.inl rfl))) (fun _ _ _ => .nil) (fun _ _ _ _=>(cT rfl (bG (dL.mono (by decide)) hr rfl (@aB _ _ _ _ _ _ (pv 1) aF)) rfl))) (@aA _ _ _ _ _ (xE (i:=3) (j:=4) rfl nd rfl rfl (by decide) rfl rfl (@bR _ _ _ _ _ _ _ _ (bG (aQ.mono (by decide)) hr rfl (@aB _ _ _ _ _ _ (pv 1) (@aV _ _ _ _ _ _ _ aH aF))) (@bR _ _ _ _ _ _ _ _ (bG (aQ.mono (by decide)) hr rfl (@aB _ _ _ _ _ _ (pv 1) (@aV _ _ _ _ _ _ _ aH aF))) aF)) rfl) (@aA _ _ _ _ _ (dN PassesOwn.never rfl (bK rfl B.range (@aV _ _ _ _ _ _ _ aH aF)) (aS (i:=5) nd rfl (Or.inl rfl)) (@aA _ _ _ _ _ (lM (pC (K:=K) rfl PySem.F.plainAttrs_list PySem.F.slot_list_append PySem.F.type_list_append fZ (pv 2) (@iR _ _ _ _ _ _ _ (@dP _ _ _ _ _ (@iR _ _ _ _ _ _ _ (@dP _ _ _ _ _ (@aV _ _ _ _ _ _ _ aH (@aB _ _ _ _ _ _ (pv 3) (@aB _ _ _ _ _ _ (pv 4) aF)))) (@iR _ _ _ _ _ _ _ (@dP _ _ _ _ _ (@aB _ _ _ _ _ _ (pv 3) (@aV _ _ _ _ _ _ _ aH (@cG _ _ _ _ _ _ _ _ (@aZ _ _ _ _ _ _ _ _ (bA (K:=K) rfl) (@aZ _ _ _ _ _ _ _ _ (bA (K:=K) rfl) (pv 3) (pv 4)) (pv 5)) aF)))) (@iR _ _ _ _ _ _ _ (@dP _ _ _ _ _ (@aB _ _ _ _ _ _ (pv 4) (@cG _ _ _ _ _ _ _ _ (@aZ _ _ _ _ _ _ _ _ (bA (K:=K) rfl) (@aZ _ _ _ _ _ _ _ _ (bA (K:=K) rfl) (pv 3) (pv 4)) (pv 5)) (@aV _ _ _ _ _ _ _ aH aF)))) aF)))) aF))) aI)) (@aA _ _ _ _ _ (@bQ _ _ _ _ (aT (nH (K:=K) rfl rfl) rfl B.all zA (cL (fO (N':=["table"]) (ix:=[none]) rfl rfl rfl (eG (K:=K) rfl (@aZ _ _ _ _ _ _ _ _ (bA (K:=K) rfl) (pv 2) (uY (aDR (K:=K) rfl) (pv 2) zB (yR aH)))) (fun _ _ _=>(aS (i:=0) (show (["table"]:List Str).Nodup from by decide +kernel) rfl (Or.inl rfl))) (fun _ _ _ => .nil) (fun _ _ _ _=>(cT rfl (bG (fU.mono (by decide)) hr rfl (@aB _ _ _ _ _ _ (pv 0) aF)) rfl))) aF))) aI)))))
end
end K63
namespace K63
open PySem L2
noncomputable def whD:Dt→Bool
 | .int _=>true
 | _=>false
noncomputable def spW (K:PySem.W.Frag):Sp:=fun vs H Q _=>∃ (v:V) (d:Dt),vs=[v]∧Sh K H d v∧∀ H',Same H H'→Q (.bl (whD d)) H'
section
variable {K:PySem.W.Frag}
end
theorem mW:∀ ns:List Int,oH (ns.map Dt.int)=0
 | []=>rfl
 | n :: ns=>by rw [List.map_cons,oH,mW ns];rfl
theorem aBC (ns:List Int):dep (.lst (ns.map Dt.int))≤100:=by rw [dep,mW];decide
noncomputable def gd (i j:Int):Int:=((i.gcd j:Nat):Int)
section
variable {K:PySem.W.Frag}
noncomputable def aEF:Sp:=fun vs H Q _=>∃ i j:Int,vs=[.int i, .int j]∧Q (.int (gd i j)) H
theorem aFV (i:Int):(if i<0 then -i else i)=((i.natAbs:Nat):Int):=by split <;> omega
theorem aFe {a b:Nat}:((a:Int) % (b:Int))=((a % b:Nat):Int):=(Int.natCast_emod a b).symm
theorem aEX:∀ vs H Q E,aEF vs H Q E→gL K { nx:=fun _ H'=>Q .non H',rt:=Q } (start ["one","other","left"] vs) H:=by
 intro vs H Q E h
 obtain ⟨i,j,rfl,q⟩:=h
 refine ⟨_,rfl,i,rfl,?_⟩
 refine ⟨_,rfl,j,rfl,?_⟩
 refine ⟨fun m σ' H'=>H'=H∧∃ (a b:Nat) (x2:Option V),σ'=[some (.int (a:Int)),some (.int (b:Int)),x2]∧b=m∧Nat.gcd a b=i.gcd j,⟨j.natAbs,rfl,i.natAbs,j.natAbs,none,by rw [aFV,aFV];rfl,rfl,rfl⟩,?_⟩
 rintro m σ' H' ⟨rfl,a,b,x2,rfl,rfl,hg⟩
 refine ⟨_,rfl,_,_,rfl,rfl,_,rfl,?_⟩
 by_cases c:0<b
 ·refine cE (decide_eq_true (by omega)) ⟨fun σ2 H2=>H2=H'∧∃ (a' b':Nat) (x2:Option V),σ2=[some (.int (a':Int)),some (.int (b':Int)),x2]∧b'<b∧Nat.gcd a' b'=i.gcd j,fun σ2 H2 ⟨e,a',b',x2,e1,e2,e3⟩=>⟨b',e2,e,a',b',x2,e1,rfl,e3⟩,?_⟩
  refine ⟨_,rfl,_,rfl,_,_,rfl,rfl,by show (0:Int)<(b:Int);omega,_,rfl,_,rfl,rfl,b,a % b,some (.int ((a % b:Nat):Int)),?_,Nat.mod_lt _ c,?_⟩
  ·show [some (V.int (b:Int)),some (V.int ((a:Int) % (b:Int))),some (V.int ((a:Int) % (b:Int)))]=_
   rw [aFe]
  ·rw [Nat.gcd_comm,← Nat.gcd_rec,Nat.gcd_comm];exact hg
 ·refine bW (decide_eq_false (by omega)) ⟨_,rfl,?_⟩
  have:b=0:=by omega
  subst this
  rw [Nat.gcd_zero_right] at hg
  rw [hg]
  exact q
end
section
variable {K:PySem.W.Frag}
noncomputable def prN (L:List (Nat × Nat)):List (List Int):=L.map fun e=>[(e.1:Int),(e.2:Int)]
theorem aBZ {L:List (Nat × Nat)}:(prN L).length=L.length:=by unfold prN;rw [List.length_map]
end
end K63
namespace K63.Q
noncomputable abbrev Tie:=Nat × Nat
noncomputable def adj (T:List Tie) (x y:Nat):Prop:=(min x y,max x y)∈T
inductive Cn (T:List Tie) (S:List Nat):Nat→Nat→Prop
 | refl (x:Nat):Cn T S x x
 | step {x y z:Nat}:Cn T S x y→y∈S→z∈S→adj T y z→Cn T S x z
variable {T:List Tie}{S:List Nat}
theorem aAS {x y:Nat}(h:adj T x y):adj T y x:=by
 unfold adj at h ⊢
 rw [Nat.min_comm,Nat.max_comm];exact h
theorem Cn.trans {x y z:Nat}(h:Cn T S x y)(g:Cn T S y z):Cn T S x z:=by
 induction g with
 | refl=>exact h
 | step _ a b c ih=>exact .step ih a b c
theorem Cn.symm {x y:Nat}(h:Cn T S x y):Cn T S y x:=by
 induction h with
 | refl=>exact .refl _
 | step _ a b c ih=>exact (Cn.step (.refl _) b a (aAS c)).trans ih
theorem Cn.mono {T':List Tie}{S':List Nat}(ht:∀ e∈T,e∈T')(hs:∀ x∈S,x∈S'){x y:Nat}(h:Cn T S x y):Cn T' S' x y:=by
 induction h with
 | refl=>exact .refl _
 | step _ a b c ih=>exact .step ih (hs _ a) (hs _ b) (ht _ c)
noncomputable def ncn (T:List Tie) (S0:List Nat) (x y:Nat):Bool:=@decide (¬ Cn T S0 x y) (Classical.propDecidable _)
theorem aCp {S0:List Nat}{x y:Nat}:ncn T S0 x y=true↔¬ Cn T S0 x y:=by
 unfold ncn
 exact @decide_eq_true_iff _ (Classical.propDecidable _)
noncomputable def cls (T:List Tie) (S0:List Nat):Nat→List Nat→Nat
 | 0,_=>0
 | _+1,[]=>0
 | k+1,x :: l=>1+cls T S0 k (l.filter (ncn T S0 x))
structure Pt (T:List Tie)(S0 S:List Nat)(P:List (List Nat)):Prop where
 perm:P.flatten.Perm S
 ne:∀ q∈P,q≠[]
 cn:∀ q∈P,∀ x∈q,∀ y∈S,y∈q↔Cn T S0 x y
theorem Pt.len {S0:List Nat}:∀ (k:Nat) (S:List Nat) (P:List (List Nat)),S.length≤k→S.Nodup→Pt T S0 S P→P.length=cls T S0 k S
 | k,[],P,_,_,h=>by
  have:P=[]:=by
   cases P with
   | nil=>rfl
   | cons q P=>
    have e:=List.perm_nil.mp h.perm
    rw [List.flatten_cons] at e
    exact absurd (List.append_eq_nil_iff.mp e).1 (h.ne q (List.mem_cons_self ..))
  subst this
  cases k <;> rfl
 | 0,x :: l,P,hk,_,_=>by simp at hk
 | k+1,x :: l,P,hk,nd,h=>by
  have hx:x∈P.flatten:=h.perm.mem_iff.mpr (List.mem_cons_self ..)
  obtain ⟨q,hq,hxq⟩:=List.mem_flatten.mp hx
  obtain ⟨P1,P2,rfl⟩:=List.append_of_mem hq
  have hp:(q++(P1++P2).flatten).Perm (x :: l):=by
   refine List.Perm.trans ?_ h.perm
   rw [List.flatten_append,List.flatten_append,List.flatten_cons]
   exact List.perm_append_comm_assoc _ _ _
  have nd2:(q++(P1++P2).flatten).Nodup:=hp.nodup_iff.mpr nd
  have nd3:=List.nodup_append.mp nd2
  have ndf:(l.filter (ncn T S0 x)).Nodup:=List.filter_sublist.nodup (List.nodup_cons.mp nd).2
  have key:((P1++P2).flatten).Perm (l.filter (ncn T S0 x)):=by
   refine (List.perm_ext_iff_of_nodup nd3.2.1 ndf).mpr fun y=>?_
   rw [List.mem_filter,aCp]
   constructor
   ·intro hy
    have hm:y∈x :: l:=hp.mem_iff.mp (List.mem_append_right _ hy)
    have hnq:y∉q:=fun z=>nd3.2.2 y z y hy rfl
    refine ⟨?_,fun c=>hnq ((h.cn q hq x hxq y hm).mpr c)⟩
    rcases List.mem_cons.mp hm with e | hm
    ·subst e;exact absurd hxq hnq
    ·exact hm
   ·rintro ⟨hy,hc⟩
    have hm:y∈q++(P1++P2).flatten:=hp.mem_iff.mpr (List.mem_cons_of_mem _ hy)
    rcases List.mem_append.mp hm with z | z
    ·exact absurd ((h.cn q hq x hxq y (List.mem_cons_of_mem _ hy)).mp z) hc
    ·exact z
  have hl:(l.filter (ncn T S0 x)).length≤k:=by
   have:=List.length_filter_le (ncn T S0 x) l
   rw [List.length_cons] at hk
   omega
  have hsub:∀ r,r∈P1++P2→r∈P1++q :: P2:=fun r hr=>by
   rcases List.mem_append.mp hr with z | z
   ·exact List.mem_append_left _ z
   ·exact List.mem_append_right _ (List.mem_cons_of_mem _ z)
  have:=Pt.len k (l.filter (ncn T S0 x)) (P1++P2) hl ndf ⟨key,fun r hr=>h.ne r (hsub r hr),fun r hr z hz y hy=>h.cn r (hsub r hr) z hz y (List.mem_cons_of_mem _ (List.mem_filter.mp hy).1)⟩
  rw [cls,← this,List.length_append,List.length_append,List.length_cons]
  omega
end K63.Q
namespace K63
open PySem L2
noncomputable abbrev Tq:=Nat × Nat × Int × Int
noncomputable def kK (q:Tq):Dt := .tup [.int (q.1:Int), .int (q.2.1:Int), .tup [.int q.2.2.1, .int q.2.2.2]]
noncomputable def tJ (m:Nat) (q:Tq):Prop:=q.1<q.2.1∧q.2.1<m∧0≤q.2.2.1∧1≤q.2.2.2∧q.2.2.1.gcd q.2.2.2=1
theorem iA {i j:Int}:eqD (.int i) (.int j)=decide (i=j):=by rw [eqD];rfl
theorem aAQ {p q:Tq}(h:kK p=kK q):p=q:=by
 obtain ⟨a,b,c,d⟩:=p
 obtain ⟨a',b',c',d'⟩:=q
 unfold kK at h
 simp only [Dt.tup.injEq,List.cons.injEq,Dt.int.injEq,and_true] at h
 obtain ⟨h1,h2,h3,h4⟩:=h
 have e1:a=a':=by omega
 have e2:b=b':=by omega
 rw [e1,e2,h3,h4]
section
variable {K:PySem.W.Frag}
noncomputable def aAh (m:Nat) (d:Dt):Prop:=∃ i j:Nat,d = .tup [.int (i:Int), .int (j:Int)]∧i<j∧j<m
noncomputable def aFg (m:Nat) (d:Dt):Prop:=∃ q,d=kK q∧tJ m q
theorem idt {m:Nat}{d0 d1 d2:Dt}:aFg m (.tup [d0,d1,d2])↔aAh m (.tup [d0,d1])∧∃ t c:Int,d2 = .tup [.int t, .int c]∧1≤c∧t.gcd c=1∧0≤t:=by
 constructor
 ·rintro ⟨⟨i,j,t,c⟩,e,o1,o2,o3,o4,o5⟩
  unfold kK at e
  simp only [Dt.tup.injEq,List.cons.injEq,and_true] at e
  exact ⟨⟨i,j,by rw [e.1,e.2.1],o1,o2⟩,t,c,e.2.2,o4,o5,o3⟩
 ·rintro ⟨⟨i,j,e,h1,h2⟩,t,c,e2,h3,h4,h5⟩
  simp only [Dt.tup.injEq,List.cons.injEq,and_true] at e
  exact ⟨(i,j,t,c),by unfold kK;rw [e.1,e.2,e2],h1,h2,h5,h3,h4⟩
end
end K63
namespace K63
open PySem L2
noncomputable def pr (q:Tq):Nat × Nat:=(q.1,q.2.1)
section
variable {K:PySem.W.Frag}
theorem aBs {H:Hp}{q:Tq}{x:V}(h:Sh K H (kK q) x):∃ b g,x = .ref b∧SqT K H b [.int (q.1:Int), .int (q.2.1:Int), .ref g]∧SqT K H g [.int q.2.2.1, .int q.2.2.2]:=by
 obtain ⟨b,xs,rfl,hb,x0,t0,rfl,h0,x1,t1,rfl,h1,x2,t2,rfl,h2,rfl⟩:=h
 obtain ⟨g,zs,rfl,hg,y0,u0,rfl,k0,y1,u1,rfl,k1,rfl⟩:=h2
 obtain rfl:x0 = .int (q.1:Int):=h0
 obtain rfl:x1 = .int (q.2.1:Int):=h1
 obtain rfl:y0 = .int q.2.2.1:=k0
 obtain rfl:y1 = .int q.2.2.2:=k1
 exact ⟨b,g,rfl,hb,hg⟩
theorem aDu {H:Hp}{qs:List Tq}{xs:List V}(hL:ShL K H (qs.map kK) xs){i:Nat}{x:V}(hx:xs[i]?=some x):∃ q,qs[i]?=some q∧Sh K H (kK q) x:=by
 have hl:(qs.map kK).length=xs.length:=hL.length
 have hi:i<xs.length:=(List.getElem?_eq_some_iff.mp hx).1
 have hq:i<qs.length:=by rw [List.length_map] at hl;omega
 obtain ⟨y,hy,sy⟩:=hL.get (j:=i) (d:=kK qs[i]) (by rw [List.getElem?_map,List.getElem?_eq_getElem hq];rfl)
 rw [hx] at hy
 cases hy
 exact ⟨qs[i],List.getElem?_eq_getElem hq,sy⟩
noncomputable def aEs:Sp:=fun vs H Q _=>∃ (a b:Nat),vs=[.int (a:Int), .int (b:Int)]∧Q (.bl (!decide (a.gcd b=1))) H
theorem aEa:∀ vs H Q E,aEs vs H Q E→hZ K { nx:=fun _ H'=>Q .non H',rt:=Q } (start ["one","other"] vs) H:=by
 intro vs H Q E h
 obtain ⟨i,j,rfl,q⟩:=h
 refine ⟨fun m σ' H'=>H'=H∧∃ (a b:Nat),σ'=[some (.int (a:Int)),some (.int (b:Int))]∧b=m∧Nat.gcd a b=i.gcd j,⟨j,rfl,i,j,rfl,rfl,rfl⟩,?_⟩
 rintro m σ' H' ⟨rfl,a,b,rfl,rfl,hg⟩
 refine ⟨_,rfl,_,_,rfl,rfl,_,rfl,?_⟩
 by_cases c:0<b
 ·refine cE (decide_eq_true (by omega)) ⟨fun σ2 H2=>H2=H'∧∃ (a' b':Nat),σ2=[some (.int (a':Int)),some (.int (b':Int))]∧b'<b∧Nat.gcd a' b'=i.gcd j,fun σ2 H2 ⟨e,a',b',e1,e2,e3⟩=>⟨b',e2,e,a',b',e1,rfl,e3⟩,?_⟩
  refine ⟨_,rfl,_,rfl,_,rfl,_,_,rfl,rfl,by show (0:Int)<(b:Int);omega,_,_,rfl,rfl,b,a % b,?_,Nat.mod_lt _ c,?_⟩
  ·show [some (V.int (b:Int)),some (V.int ((a:Int) % (b:Int)))]=_
   rw [aFe]
  ·rw [Nat.gcd_comm,← Nat.gcd_rec,Nat.gcd_comm];exact hg
 ·refine bW (decide_eq_false (by omega)) ?_
  have:b=0:=by omega
  subst this
  rw [Nat.gcd_zero_right] at hg
  refine ⟨_,rfl, .int _, .int _,Nat.zero_le _,rfl,rfl,?_⟩
  rw [lH,show decide ((a:Int)=1)=decide (i.gcd j=1) from decide_eq_decide.mpr (by rw [hg];omega)]
  exact q
noncomputable def aEw (K:PySem.W.Frag):Sp:=fun vs H Q _=>∃ (m:Nat) (x:V) (d:Dt),vs=[x, .int (m:Int)]∧Sh K H d x∧zF d=true∧∀ b,(b=true↔aFg m d)→∀ H',Same H H'→Q (.bl b) H'
theorem aES:∀ vs H Q E,aEw K vs H Q E→iG K aEs (spW K) { nx:=fun _ H'=>Q .non H',rt:=Q } (start ["thing","size","one","other","far_off"] vs) H:=by
 intro vs H Q E h
 obtain ⟨m,x,d,rfl,hx,th,q⟩:=h
 have no:∀ H',Same H H'→¬ aFg m d→Q (.bl false) H':=fun H' s' g=>q false ⟨(fun z=>by cases z),fun z=>absurd z g⟩ H' s'
 refine ⟨_,rfl,x,d,"tuple",rfl, .inr (.inr (.inl rfl)),hx,_,rfl,?_⟩
 cases d with
 | tup ds=>
  refine bW rfl ?_
  obtain ⟨b,xs,rfl,hb,hL⟩:=id hx
  refine ⟨_,rfl,b,xs,rfl, .inr hb, .int _, .int _,Nat.zero_le _,rfl,rfl,_,rfl,?_⟩
  have hl:ds.length=xs.length:=hL.length
  rw [lH]
  by_cases c3:xs.length=3
  ·refine bW (by rw [decide_eq_true (by omega)];rfl) ?_
   match ds,hL,hl,th,q,no with
   | [d0,d1,d2],hL,hl,th,q,no=>
    obtain ⟨x0,t0,rfl,h0,x1,t1,rfl,h1,x2,t2,rfl,h2,rfl⟩:=hL
    have no':∀ H',Same H H'→(¬ aAh m (.tup [d0,d1])∨¬ ∃ t c:Int,d2 = .tup [.int t, .int c]∧1≤c∧t.gcd c=1∧0≤t)→Q (.bl false) H':=fun H' s' g=>no H' s' fun z=>by
     obtain ⟨a1,a2⟩:=idt.mp z
     rcases g with g | g
     ·exact g a1
     ·exact g a2
    refine ⟨_,rfl,b,_,rfl,hb,rfl,x0,[x1,x2],rfl,x1,[x2],rfl,x2,[],rfl,rfl,?_⟩
    refine ⟨_,rfl,x0,d0,rfl,h0,fun H1 s1=>⟨_,rfl,?_⟩⟩
    cases hw0:whD d0 with
    | false=>
     refine cE rfl (no' H1 s1 (.inl ?_))
     rintro ⟨i,j,e,_⟩
     simp only [Dt.tup.injEq,List.cons.injEq,and_true] at e
     rw [e.1] at hw0
     cases hw0
    | true=>
    obtain ⟨i,rfl⟩:∃ l,d0 = .int l:=by cases d0 <;> first | exact ⟨_,rfl⟩ | cases hw0
    obtain rfl:x0 = .int i:=h0
    refine bW rfl ⟨_,rfl,x1,d1,rfl,h1.same s1,fun H2 s2=>⟨_,rfl,?_⟩⟩
    have m2:=s1.trans s2
    cases hw1:whD d1 with
    | false=>
     refine cE rfl (no' H2 m2 (.inl ?_))
     rintro ⟨i,j,e,_⟩
     simp only [Dt.tup.injEq,List.cons.injEq,and_true] at e
     rw [e.2] at hw1
     cases hw1
    | true=>
    obtain ⟨j,rfl⟩:∃ l,d1 = .int l:=by cases d1 <;> first | exact ⟨_,rfl⟩ | cases hw1
    obtain rfl:x1 = .int j:=h1
    have nt:¬ (0≤i∧i<j∧j<(m:Int))→¬ aAh m (.tup [.int i, .int j]):=fun g=>by
     rintro ⟨i',j',e,h1,h2⟩
     simp only [Dt.tup.injEq,List.cons.injEq,Dt.int.injEq,and_true] at e
     omega
    refine bW rfl ⟨_,rfl,_,_,rfl,rfl,_,rfl,?_⟩
    by_cases ci:0≤i
    ·refine cE (decide_eq_true ci) ⟨_,rfl,_,_,rfl,rfl,_,rfl,?_⟩
     by_cases cj:i<j
     ·refine cE (decide_eq_true cj) ⟨_,rfl,_,_,rfl,rfl,_,rfl,?_⟩
      by_cases cm:j<(m:Int)
      ·refine bW (by rw [decide_eq_true cm];rfl) ?_
       have htie:aAh m (.tup [.int i, .int j]):=⟨i.toNat,j.toNat,by rw [Int.toNat_of_nonneg ci,Int.toNat_of_nonneg (by omega)],by omega,by omega⟩
       refine ⟨_,rfl,x2,d2,"tuple",rfl, .inr (.inr (.inl rfl)),h2.same m2,_,rfl,?_⟩
       cases d2 with
       | tup es=>
        refine bW rfl ?_
        obtain ⟨g,zs,rfl,hg,hz⟩:=h2
        have hg2:=m2.tup hg
        refine ⟨_,rfl,g,zs,rfl, .inr hg2, .int _, .int _,Nat.zero_le _,rfl,rfl,_,rfl,?_⟩
        have hel:es.length=zs.length:=hz.length
        rw [lH]
        by_cases c2:zs.length=2
        ·refine bW (by rw [decide_eq_true (by omega)];rfl) ?_
         match es,hz,hel,no',q with
         | [f0,f1],hz,hel,no',q=>
          obtain ⟨y0,u0,rfl,k0,y1,u1,rfl,k1,rfl⟩:=hz
          refine ⟨_,rfl,ixT (j:=0) hg2 rfl ⟨y0,f0,rfl,k0.same m2,fun H3 s3=>⟨_,rfl,?_⟩⟩⟩
          have m3:=m2.trans s3
          cases v0:whD f0 with
          | false=>
           refine cE rfl (no' H3 m3 (.inr ?_))
           rintro ⟨t,c,e,_⟩
           simp only [Dt.tup.injEq,List.cons.injEq,and_true] at e
           rw [e.1] at v0
           cases v0
          | true=>
          obtain ⟨t,rfl⟩:∃ l,f0 = .int l:=by cases f0 <;> first | exact ⟨_,rfl⟩ | cases v0
          obtain rfl:y0 = .int t:=k0
          refine bW rfl ⟨_,rfl,ixT (j:=1) (m3.tup hg) rfl ⟨y1,f1,rfl,k1.same m3,fun H4 s4=>⟨_,rfl,?_⟩⟩⟩
          have m4:=m3.trans s4
          cases v1:whD f1 with
          | false=>
           refine cE rfl (no' H4 m4 (.inr ?_))
           rintro ⟨t,c,e,_⟩
           simp only [Dt.tup.injEq,List.cons.injEq,and_true] at e
           rw [e.2] at v1
           cases v1
          | true=>
          obtain ⟨c,rfl⟩:∃ l,f1 = .int l:=by cases f1 <;> first | exact ⟨_,rfl⟩ | cases v1
          obtain rfl:y1 = .int c:=k1
          have hg4:=m4.tup hg
          refine bW rfl ⟨_,rfl,ixT (j:=0) hg4 rfl ⟨_,_,rfl,rfl,_,rfl,?_⟩⟩
          by_cases ct:t<0
          ·refine cE (decide_eq_true ct) (no' H4 m4 (.inr ?_))
           rintro ⟨t',c',e,_,_,h⟩
           simp only [Dt.tup.injEq,List.cons.injEq,Dt.int.injEq,and_true] at e
           omega
          ·refine bW (decide_eq_false ct) ⟨_,rfl,ixT (j:=1) hg4 rfl ⟨_,_,rfl,rfl,_,rfl,?_⟩⟩
           by_cases cc:c<1
           ·refine cE (decide_eq_true cc) (no' H4 m4 (.inr ?_))
            rintro ⟨t',c',e,h,_⟩
            simp only [Dt.tup.injEq,List.cons.injEq,Dt.int.injEq,and_true] at e
            omega
           ·refine bW (decide_eq_false cc) ?_
            obtain ⟨tn,rfl⟩:=Int.eq_ofNat_of_zero_le (show 0≤t by omega)
            obtain ⟨cn,rfl⟩:=Int.eq_ofNat_of_zero_le (show 0≤c by omega)
            refine ⟨_,rfl,ixT (j:=0) hg4 rfl ⟨_,rfl,ixT (j:=1) hg4 rfl ⟨tn,cn,rfl,_,rfl,?_⟩⟩⟩
            rw [Bool.not_not]
            refine q _ ?_ H4 m4
            rw [decide_eq_true_iff,idt]
            constructor
            ·intro h
             exact ⟨htie,_,_,rfl,by omega,h,by omega⟩
            ·rintro ⟨_,t',c',e,_,h,_⟩
             simp only [Dt.tup.injEq,List.cons.injEq,Dt.int.injEq,and_true] at e
             rw [← e.1,← e.2] at h
             exact h
         | [],hz,hel,no',q=>exfalso;simp at hel;omega
         | [_],hz,hel,no',q=>exfalso;simp at hel;omega
         | _ :: _ :: _ :: _,hz,hel,no',q=>exfalso;simp at hel;omega
        ·refine cE (by rw [decide_eq_false (by omega)];rfl) (no' H2 m2 (.inr ?_))
         rintro ⟨t,c,e,_⟩
         simp only [Dt.tup.injEq] at e
         rw [e] at hel
         simp at hel
         omega
       | _=>
        refine cE rfl (no' H2 m2 (.inr ?_))
        rintro ⟨t,c,e,_⟩
        cases e
      ·exact cE (by rw [decide_eq_false cm];rfl) (no' H2 m2 (.inl (nt fun z=>cm z.2.2)))
     ·exact bW (decide_eq_false cj) ⟨_,rfl,cE rfl (no' H2 m2 (.inl (nt fun z=>cj z.2.1)))⟩
    ·exact bW (decide_eq_false ci) ⟨_,rfl,cE rfl (no' H2 m2 (.inl (nt fun z=>ci z.1)))⟩
   | [],hL,hl,th,q,no=>exfalso;simp at hl;omega
   | [_],hL,hl,th,q,no=>exfalso;simp at hl;omega
   | [_,_],hL,hl,th,q,no=>exfalso;simp at hl;omega
   | _ :: _ :: _ :: _ :: _,hL,hl,th,q,no=>exfalso;simp at hl;omega
  ·refine cE (by rw [decide_eq_false (by omega)];rfl) (no H (Same.refl _) ?_)
   rintro ⟨q',e,_⟩
   unfold kK at e
   simp only [Dt.tup.injEq] at e
   rw [e] at hl
   simp at hl
   omega
 | _=>exact cE rfl (no H (Same.refl _) fun ⟨q',e,_⟩=>by unfold kK at e;cases e)
end
end K63
namespace K63.Q
open PySem L2
theorem aCG {x:Nat}{gs:List Nat}:inV (.int (x:Int)) (gs.map fW)=decide (x∈gs):=by
 unfold inV
 rw [List.any_map]
 by_cases h:x∈gs
 ·rw [decide_eq_true h]
  exact List.any_eq_true.mpr ⟨x,h,by show ((x:Int) == (x:Int))=true;simp⟩
 ·rw [decide_eq_false h]
  refine List.any_eq_false.mpr fun y hy=>?_
  show ¬ ((y:Int) == (x:Int))=true
  intro e
  have:(y:Int)=(x:Int):=by simpa using e
  exact h (by rw [show x=y by omega];exact hy)
theorem xQ (gs:List Nat):(gs.map fW).all pR=true:=by
 rw [List.all_map]
 exact List.all_eq_true.mpr fun _ _=>rfl
section
variable {K:PySem.W.Frag}
noncomputable def RowsM (H:Hp) (xs:List V) (P:List (List Nat)):Prop:=xs.length=P.length∧∀ (i:Nat) (q:List Nat),P[i]?=some q→∃ b,xs[i]?=some (.ref b)∧H b=some (.lst (q.map fW))
theorem RowsM.same {H H':Hp}{xs:List V}{P:List (List Nat)}(h:RowsM H xs P)(e:Same H H'):RowsM H' xs P:=⟨h.1,fun i row z=>by
 obtain ⟨b,e1,e2⟩:=h.2 i row z
 exact ⟨b,e1,e _ _ e2⟩⟩
theorem RowsM.at {H:Hp}{xs:List V}{P:List (List Nat)}(h:RowsM H xs P){i:Nat}{x:V}(hx:xs[i]?=some x):∃ q b,P[i]?=some q∧x = .ref b∧H b=some (.lst (q.map fW)):=by
 have hi:i<xs.length:=(List.getElem?_eq_some_iff.mp hx).1
 have hl:i<P.length:=by rw [h.1] at hi;exact hi
 obtain ⟨b,e1,e2⟩:=h.2 i P[i] (List.getElem?_eq_getElem hl)
 rw [hx] at e1
 exact ⟨P[i],b,List.getElem?_eq_getElem hl,Option.some.inj e1,e2⟩
section
variable {H:Hp}{A t:Addr}{xs:List V}{P:List (List Nat)}{f:List Nat→Bool}{tc:TT}{σ:St}{D:lG}
end
theorem in_list {K:PySem.W.Frag}{H:Hp}{b:Addr}{x:Nat}{q:List Nat}{neg:Bool}{Q:VK}(hb:Sq K H b (q.map fW))(h:Q (.bl (if neg then !decide (x∈q) else decide (x∈q))) H):aEt K neg (.int (x:Int)) (.ref b) H Q:=
 .inl (.inl ⟨b,q.map fW,rfl,hb,rfl,xQ q,by rw [aCG];exact h⟩)
structure Ts (K:PySem.W.Frag)(H:Hp)(a:Addr)(xs:List V)(L:List Tie):Prop where
 sq:H a=some (.lst xs)
 rows:Rows K H xs (prN L)
theorem Ts.same {H H':Hp}{a:Addr}{xs:List V}{L:List Tie}(h:Ts K H a xs L)(s:Same H H'):Ts K H' a xs L:=⟨s _ _ h.sq,h.rows.same s⟩
theorem Ts.len {H:Hp}{a:Addr}{xs:List V}{L:List Tie}(h:Ts K H a xs L):xs.length=L.length:=by rw [h.rows.1,aBZ]
end
end K63.Q
namespace K63
open PySem L2
noncomputable abbrev Ed:=Nat × Nat × Int
noncomputable def vs (f:List (Nat × Int)):List Nat:=f.map Prod.fst
noncomputable def Jo (e:Ed) (x y:Nat):Prop:=(e.1=x∧e.2.1=y)∨(e.1=y∧e.2.1=x)
inductive Gr (L:List Ed) (s:Nat):List (Nat × Int)→List (Nat × Nat)→Prop
 | one:Gr L s [(s,0)] []
 | add {f:List (Nat × Int)} {m:List (Nat × Nat)} {x y k:Nat} {d:Int} {e:Ed}:Gr L s f m→(x,d)∈f→y∉vs f→L[k]?=some e→Jo e x y→Gr L s (f++[(y,d+e.2.2)]) (m++[(y,k)])
variable {L:List Ed}{s:Nat}{f g:List (Nat × Int)}{m m':List (Nat × Nat)}
theorem kO {p:Nat × Int}:vs (f++[p])=vs f++[p.1]:=by unfold vs;rw [List.map_append];rfl
theorem gM {x:Nat}{d:Int}(h:(x,d)∈f):x∈vs f:=List.mem_map.mpr ⟨_,h,rfl⟩
theorem Gr.keys (h:Gr L s f m):vs f=s :: m.map Prod.fst:=by
 induction h with
 | one=>rfl
 | add _ _ _ _ _ ih=>rw [kO,ih,List.map_append];rfl
theorem Gr.nd (h:Gr L s f m):(vs f).Nodup:=by
 induction h with
 | one=>exact List.nodup_cons.mpr ⟨by simp,List.nodup_nil⟩
 | add _ _ hy _ _ ih=>
  rw [kO,List.nodup_append]
  exact ⟨ih,by simp,fun a ha b hb e=>hy (by rw [List.mem_singleton.mp hb] at e;have e:a=_:=e;subst e;exact ha)⟩
theorem Gr.len (h:Gr L s f m):f.length=m.length+1:=by
 have:=congrArg List.length h.keys
 unfold vs at this
 simpa using this
theorem Gr.zero (h:Gr L s f m):(s,0)∈f:=by
 induction h with
 | one=>simp
 | add _ _ _ _ _ ih=>exact List.mem_append_left _ ih
theorem Gr.step (h:Gr L s f m):∀ y k,(y,k)∈m→∃ e x d,L[k]?=some e∧Jo e x y∧x≠y∧(x,d)∈f∧(y,d+e.2.2)∈f:=by
 induction h with
 | one=>exact fun y k h=>by cases h
 | add _ hx hy he hj ih=>
  intro y' k' hm
  rcases List.mem_append.mp hm with hm | hm
  ·obtain ⟨e,x,d,h1,h2,h3,h4,h5⟩:=ih y' k' hm
   exact ⟨e,x,d,h1,h2,h3,List.mem_append_left _ h4,List.mem_append_left _ h5⟩
  ·cases List.mem_singleton.mp hm
   exact ⟨_,_,_,he,hj,fun e=>hy (e ▸ gM hx),List.mem_append_left _ hx,List.mem_append_right _ (by simp)⟩
theorem Gr.edges (h:Gr L s f m):(m.map Prod.snd).Nodup:=by
 induction h with
 | one=>exact List.nodup_nil
 | @add f m x y k d e h0 hx hy he hj ih=>
  rw [List.map_append,List.nodup_append]
  refine ⟨ih,by simp,fun a ha b hb ab=>?_⟩
  obtain ⟨⟨y',k'⟩,hm,rfl⟩:=List.mem_map.mp ha
  have kk:k'=k:=by simpa using ab.trans (by simpa using hb)
  subst kk
  obtain ⟨e',x',d',h1,h2,_,h4,h5⟩:=h0.step y' k' hm
  rw [he] at h1
  cases h1
  have u1:=gM h4
  have u2:=gM h5
  rcases hj with ⟨_,a2⟩ | ⟨a1,_⟩ <;> rcases h2 with ⟨b1,b2⟩ | ⟨b1,b2⟩ <;> first | exact hy (by rw [← a2,b2];assumption) | exact hy (by rw [← a1,b1];assumption)
theorem Gr.bd (h:Gr L s f m):∀ k∈m.map Prod.snd,k<L.length:=fun k hk=>by
 obtain ⟨⟨y,k'⟩,hm,rfl⟩:=List.mem_map.mp hk
 obtain ⟨e,x,d,h1,_⟩:=h.step y k' hm
 exact (List.getElem?_eq_some_iff.mp h1).1
theorem jJ:∀ (L M:List Nat),L.Nodup→(∀ x∈L,x∈M)→L.length≤M.length
 | [],_,_,_=>Nat.zero_le _
 | a :: L,M,nd,h=>by
  have ha:=h a (by simp)
  have nd':=List.nodup_cons.mp nd
  have:=jJ L (M.erase a) nd'.2 fun x hx=>by
   have hne:x≠a:=fun e=>nd'.1 (by subst e;exact hx)
   exact (List.mem_erase_of_ne hne).mpr (h x (List.mem_cons_of_mem _ hx))
  rw [List.length_erase_of_mem ha] at this
  have hp:0<M.length:=List.length_pos_of_mem ha
  rw [List.length_cons]
  omega
theorem Gr.all (h:Gr L s f m)(hl:f.length=L.length+1){k:Nat}(hk:k<L.length):∃ y,(y,k)∈m:=by
 apply Classical.byContradiction
 intro c
 have nk:k∉m.map Prod.snd:=fun z=>by
  obtain ⟨⟨y,k'⟩,hm,rfl⟩:=List.mem_map.mp z
  exact c ⟨y,hm⟩
 have:=jJ (k :: m.map Prod.snd) (List.range L.length) (List.nodup_cons.mpr ⟨nk,h.edges⟩) fun x hx=>by
  rcases List.mem_cons.mp hx with rfl | hx
  ·exact List.mem_range.mpr hk
  ·exact List.mem_range.mpr (h.bd x hx)
 rw [List.length_cons,List.length_map,List.length_range] at this
 have:=h.len
 omega
theorem lN {α β:Type}:∀ {l:List (α × β)},(l.map Prod.fst).Nodup→∀ {x:α} {a b:β},(x,a)∈l→(x,b)∈l→a=b
 | [],_,_,_,_,h,_=>by cases h
 | p :: l,nd,x,a,b,h1,h2=>by
  rw [List.map_cons,List.nodup_cons] at nd
  rcases List.mem_cons.mp h1 with e1 | h1 <;> rcases List.mem_cons.mp h2 with e2 | h2
  ·rw [← e1] at e2;cases e2;rfl
  ·exact absurd (by rw [← e1];exact List.mem_map.mpr ⟨_,h2,rfl⟩) nd.1
  ·exact absurd (by rw [← e2];exact List.mem_map.mpr ⟨_,h1,rfl⟩) nd.1
  ·exact lN nd.2 h1 h2
theorem xI (hf:Gr L s f m)(hg:Gr L s g m')(lg:g.length=L.length+1):(∀ p∈f,p∈g)∧∀ q∈m,q∈m':=by
 have ndg:(g.map Prod.fst).Nodup:=hg.nd
 have ndm:(m'.map Prod.fst).Nodup:=by
  have:=hg.nd
  rw [hg.keys,List.nodup_cons] at this
  exact this.2
 have sm:∀ k,(s,k)∉m':=fun k hk=>by
  have:=hg.nd
  rw [hg.keys,List.nodup_cons] at this
  exact this.1 (List.mem_map.mpr ⟨_,hk,rfl⟩)
 induction hf with
 | one=>exact ⟨fun p hp=>by rw [List.mem_singleton.mp hp];exact hg.zero,fun q hq=>by cases hq⟩
 | @add f m x y k d e h0 hx hy he hj ih=>
  have hk:k<L.length:=(List.getElem?_eq_some_iff.mp he).1
  obtain ⟨v,hv⟩:=hg.all lg hk
  obtain ⟨e',x',d',h1,h2,h3,h4,h5⟩:=hg.step v k hv
  rw [he] at h1
  cases h1
  have xy:x≠y:=fun z=>hy (z ▸ gM hx)
  have key:(v=y∧x'=x)∨v=x:=by
   rcases hj with ⟨a1,a2⟩ | ⟨a1,a2⟩ <;> rcases h2 with ⟨b1,b2⟩ | ⟨b1,b2⟩
   ·exact .inl ⟨by omega,by omega⟩
   ·exact .inr (by omega)
   ·exact .inr (by omega)
   ·exact .inl ⟨by omega,by omega⟩
  rcases key with ⟨rfl,rfl⟩ | rfl
  ·have dd:d'=d:=lN ndg h4 (ih.1 _ hx)
   subst dd
   refine ⟨fun p hp=>?_,fun q hq=>?_⟩
   ·rcases List.mem_append.mp hp with hp | hp
    ·exact ih.1 p hp
    ·rw [List.mem_singleton.mp hp];exact h5
   ·rcases List.mem_append.mp hq with hq | hq
    ·exact ih.2 q hq
    ·rw [List.mem_singleton.mp hq];exact hv
  ·exfalso
   have hxs:v∈s :: m.map Prod.fst:=by rw [← h0.keys];exact gM hx
   rcases List.mem_cons.mp hxs with rfl | hxm
   ·exact sm k hv
   ·obtain ⟨⟨v',k'⟩,hm,ev⟩:=List.mem_map.mp hxm
    have ev:v'=v:=ev
    subst ev
    have:=lN ndm hv (ih.2 _ hm)
    subst this
    have nd:=(Gr.add h0 hx hy he hj).edges
    rw [List.map_append,List.nodup_append] at nd
    exact nd.2.2 k (List.mem_map.mpr ⟨_,hm,rfl⟩) k (by simp) rfl
noncomputable def scl (c:Int) (L:List Ed):List Ed:=L.map fun e=>(e.1,e.2.1,e.2.2*c)
theorem Gr.scl {c:Int}(h:Gr L s f m):Gr (scl c L) s (f.map fun p=>(p.1,p.2*c)) m:=by
 induction h with
 | one=>rw [show ([(s,(0:Int))].map fun p:Nat × Int=>(p.1,p.2*c))=[(s,0)] by simp];exact .one
 | @add f m x y k d e h0 hx hy he hj ih=>
  rw [List.map_append]
  have:([(y,d+e.2.2)].map fun p:Nat × Int=>(p.1,p.2*c))=[(y,d*c+e.2.2*c)]:=by simp [Int.add_mul]
  rw [this]
  refine .add (e:=(e.1,e.2.1,e.2.2*c)) ih (List.mem_map.mpr ⟨_,hx,rfl⟩) (fun z=>hy ?_) (by unfold K63.scl;rw [List.getElem?_map,he];rfl) hj
  unfold vs at z ⊢
  rw [List.map_map] at z
  exact z
theorem aDF {L':List Ed}{a b:Int}(hf:Gr L s f m)(hg:Gr L' s g m')(e:scl a L=scl b L')(lg:g.length=L'.length+1){x:Nat}{d d':Int}(h1:(x,d)∈f)(h2:(x,d')∈g):d*a=d'*b:=by
 have hf':=hf.scl (c:=a)
 rw [e] at hf'
 have hg':=hg.scl (c:=b)
 have:=(xI hf' hg' (by rw [List.length_map,lg];unfold scl;rw [List.length_map])).1 (x,d*a) (List.mem_map.mpr ⟨_,h1,rfl⟩)
 exact lN (show ((g.map fun p=>(p.1,p.2*b)).map Prod.fst).Nodup from hg'.nd) this (List.mem_map.mpr ⟨_,h2,rfl⟩)
end K63
namespace K63
open PySem L2
noncomputable def aEB (L:List (Nat × Nat)) (n:Nat):Prop:=∀ x,x<n→Q.Cn L (List.range n) 0 x
noncomputable abbrev Fw:=List (Nat × Int)
noncomputable def ks (f:Fw):List Nat:=f.map Prod.fst
noncomputable def kvI (f:Fw):List (Key × V):=f.map fun e=>(.inl (e.1:Int), .int e.2)
theorem lB {f:Fw}:(kvI f).length=f.length:=List.length_map ..
theorem uK {x:Nat}:∀ {f:Fw},(qQ (kvI f) (.inl (x:Int))).isSome=decide (x∈ks f)
 | []=>rfl
 | (y,o) :: f=>by
  by_cases e:y=x
  ·subst e
   rw [show kvI ((y,o) :: f)=(.inl (y:Int), .int o) :: kvI f from rfl,kQ rfl]
   simp [ks]
  ·rw [show kvI ((y,o) :: f)=(.inl (y:Int), .int o) :: kvI f from rfl,kB (fun h=>e (by have:=Sum.inl.inj h;omega)),uK (f:=f)]
   have:(x∈ks ((y,o) :: f))↔x∈ks f:=by
    unfold ks
    rw [List.map_cons,List.mem_cons]
    exact ⟨fun h=>h.resolve_left (fun z=>e z.symm), .inr⟩
   exact decide_eq_decide.mpr this.symm
theorem gG {x:Nat}{p:Int}{f:Fw}(h:x∉ks f):oM (kvI f) (.inl (x:Int)) (.int p)=kvI (f++[(x,p)]):=by
 have:¬ ((kvI f).any fun kv=>decide (kv.1=(.inl (x:Int):Key)))=true:=by
  intro c
  obtain ⟨kv,hk,e⟩:=List.any_eq_true.mp c
  obtain ⟨⟨y,o⟩,hy,rfl⟩:=List.mem_map.mp hk
  have e:(Sum.inl (y:Int):Key) = .inl (x:Int):=of_decide_eq_true e
  have:=Sum.inl.inj e
  exact h (List.mem_map.mpr ⟨_,hy,by show y=x;omega⟩)
 unfold oM
 rw [if_neg this]
 unfold kvI
 rw [List.map_append]
 rfl
theorem lV {f:Fw}{x:Nat}{p:Int}:ks (f++[(x,p)])=ks f++[x]:=by unfold ks;rw [List.map_append];rfl
structure Di (L:List (Nat × Nat))(n:Nat)(f:Fw)(ws:List Nat)(u:Option (Nat × Nat)):Prop where
 nd:(ks f).Nodup
 lt:∀ x∈ks f,x<n
 cn:∀ x∈ks f,Q.Cn L (List.range n) 0 x
 zero:0∈ks f
 sub:∀ w∈ws,w∈ks f
 cl:∀ x∈ks f,x∉ws→(∀ p,u=some p→x≠p.1)→∀ e∈L,(e.1=x→e.2∈ks f)∧(e.2=x→e.1∈ks f)
 own:∀ p,u=some p→p.1∈ks f∧∀ e∈L.take p.2,(e.1=p.1→e.2∈ks f)∧(e.2=p.1→e.1∈ks f)
section
variable {L:List (Nat × Nat)}{n:Nat}{f:Fw}{ws:List Nat}
theorem Di.len (h:Di L n f ws none):f.length≤n:=by
 have:=jJ (ks f) (List.range n) h.nd fun x hx=>List.mem_range.mpr (h.lt x hx)
 unfold ks at this
 rwa [List.length_map,List.length_range] at this
theorem Di.start (h0:0<n){p:Int}:Di L n [(0,p)] [0] none:=by
 refine ⟨by simp [ks],fun x hx=>?_,fun x hx=>?_,by simp [ks],fun w hw=>by simpa [ks] using hw,fun x hx hw=>?_,fun p e=>by cases e⟩
 ·have:x=0:=by simpa [ks] using hx
  omega
 ·have:x=0:=by simpa [ks] using hx
  rw [this]
  exact .refl _
 ·have:x=0:=by simpa [ks] using hx
  exact absurd (by simp [this]) hw
end
section
variable {K:PySem.W.Frag}
theorem lY {te:TE}{i:Nat}{rest:TS}{D:lG}{σ:St}{H:Hp}(h:te σ H (fun v H2=>rest D (σ.set i (some v)) H2)):aX (cF te (aJ i)) rest D σ H:=h
end
end K63
namespace K63
open PySem L2
noncomputable def mE (q:Tq):List Int:=[(q.1:Int),(q.2.1:Int),q.2.2.1,q.2.2.2]
noncomputable def aFU:List Int→Dt
 | [a,b,c,d] => .tup [.int a, .int b, .tup [.int c, .int d]]
 | _ => .non
noncomputable abbrev Srt (R:List (List Int)):Prop:=R.Pairwise (fun a b=>dD b a=false)
theorem aEe {R:List (List Int)}(h:Srt R){k:Nat}(hk:k+1<R.length):dD (R.getD (k+1) []) (R.getD k [])=false:=by
 rw [List.getD_eq_getElem?_getD,List.getD_eq_getElem?_getD,List.getElem?_eq_getElem hk,List.getElem?_eq_getElem (show k<R.length by omega)]
 exact List.pairwise_iff_getElem.mp h k (k+1) (by omega) hk (by omega)
noncomputable def Dn (k:Nat) (d:Dt):Prop:=∃ qs:List Tq,d = .tup (qs.map kK)∧k≤qs.length+1∧qs.length+1≤14∧(∀ q∈qs,tJ (qs.length+1) q)∧Srt (qs.map mE)∧aEB (qs.map pr) (qs.length+1)
theorem uN:∀ {p q:List Tq},p.map kK=q.map kK→p=q
 | [],[],_=>rfl
 | [],_ :: _,h=>by simp at h
 | _ :: _,[],h=>by simp at h
 | a :: p,b :: q,h=>by
  rw [List.map_cons,List.map_cons,List.cons.injEq] at h
  rw [aAQ h.1,uN h.2]
theorem aBn {k:Nat}{qs:List Tq}:Dn k (.tup (qs.map kK))↔k≤qs.length+1∧qs.length+1≤14∧(∀ q∈qs,tJ (qs.length+1) q)∧Srt (qs.map mE)∧aEB (qs.map pr) (qs.length+1):=by
 constructor
 ·rintro ⟨qs',e,h⟩
  simp only [Dt.tup.injEq] at e
  obtain rfl:=uN e
  exact h
 ·intro h
  exact ⟨qs,rfl,h⟩
theorem aGj (n:Nat):(aAE 0 (n:Int)).map V.int=(List.range n).map fW:=by
 unfold aAE
 rw [show ((n:Int) - 0).toNat=n by omega,List.map_map]
 refine List.map_congr_left fun i _=>?_
 show V.int (0+(i:Int))=V.int (i:Int)
 congr 1;omega
section
variable {K:PySem.W.Frag}
theorem rW {H:Hp}:∀ {xs:List V} {R:List (List Int)},jP K H xs R→ShL K H (R.map aFU) xs
 | [],[],_=>rfl
 | [],_ :: _,h=>by cases h.1
 | _ :: _,[],h=>by cases h.1
 | x :: xs,r :: R,h=>by
  obtain ⟨b,e,g,a,c,t,z,rfl,hb,hg⟩:=h.2 0 r rfl
  obtain rfl:x = .ref b:=by simpa using e
  exact ⟨.ref b,xs,rfl,⟨b,_,rfl,hb, .int a,_,rfl,rfl, .int c,_,rfl,rfl, .ref g,_,rfl,⟨g,_,rfl,hg, .int t,_,rfl,rfl, .int z,_,rfl,rfl,rfl⟩,rfl⟩,rW ⟨by simpa using h.1,fun i row hr=>h.2 (i+1) row hr⟩⟩
theorem gT {H H':Hp}{xs:List V}{R:List (List Int)}(h:jP K H xs R)(s:Same H H'):jP K H' xs R:=⟨h.1,fun i row hr=>let ⟨b,e,g,a,c,t,z,er,hb,hg⟩:=h.2 i row hr;⟨b,e,g,a,c,t,z,er,s.tup hb,s.tup hg⟩⟩
end
end K63
namespace K63
open PySem L2
noncomputable def pE (L:List Ed):List (Nat × Nat):=L.map fun e=>(e.1,e.2.1)
structure Tre (L:List Ed):Prop where
 ok:∀ e∈L,e.1<e.2.1∧e.2.1≤L.length
 cn:aEB (pE L) (L.length+1)
section
variable {L L':List Ed}{s:Nat}{f g:List (Nat × Int)}{m m':List (Nat × Nat)}
theorem Gr.lt (t:Tre L)(hs:s≤L.length)(h:Gr L s f m):∀ x∈vs f,x<L.length+1:=by
 induction h with
 | one=>
  intro x hx
  have:x=s:=by simpa [vs] using hx
  omega
 | @add f m x y k d e h0 hx hy he hj ih=>
  intro z hz
  rw [kO] at hz
  rcases List.mem_append.mp hz with hz | hz
  ·exact ih z hz
  ·have hz:z=y:=by simpa using hz
   have:=t.ok e (List.mem_of_getElem? he)
   rcases hj with ⟨a1,a2⟩ | ⟨a1,a2⟩ <;> omega
theorem oT (t:Tre L)(hs:s≤L.length)(h:Gr L s f m)(cl:∀ e∈L,e.1∈vs f↔e.2.1∈vs f):f.length=L.length+1:=by
 have ad:∀ x y,Q.adj (pE L) x y→(x∈vs f↔y∈vs f):=fun x y ha=>by
  have ha:(min x y,max x y)∈pE L:=ha
  obtain ⟨e,he,ee⟩:=List.mem_map.mp ha
  have e1:e.1=min x y:=congrArg Prod.fst ee
  have e2:e.2.1=max x y:=congrArg Prod.snd ee
  have c:=cl e he
  rw [e1,e2] at c
  by_cases hxy:x≤y
  ·rwa [Nat.min_eq_left hxy,Nat.max_eq_right hxy] at c
  ·rw [Nat.min_eq_right (by omega),Nat.max_eq_left (by omega)] at c
   exact c.symm
 have cc:∀ x y,Q.Cn (pE L) (List.range (L.length+1)) x y→(x∈vs f↔y∈vs f):=fun x y hc=>by
  induction hc with
  | refl=>exact Iff.rfl
  | step _ _ _ c ih=>exact ih.trans (ad _ _ c)
 have s0:s∈vs f:=gM h.zero
 have z0:=(cc 0 s (t.cn s (by omega))).mpr s0
 have al:∀ x,x<L.length+1→x∈vs f:=fun x hx=>(cc 0 x (t.cn x hx)).mp z0
 have l1:=jJ (List.range (L.length+1)) (vs f) List.nodup_range fun x hx=>al x (List.mem_range.mp hx)
 have l2:=jJ (vs f) (List.range (L.length+1)) h.nd fun x hx=>List.mem_range.mpr (h.lt t hs x hx)
 have l3:(vs f).length=f.length:=List.length_map ..
 rw [List.length_range] at l1 l2
 omega
theorem Gr.has (t:Tre L)(hs:s≤L.length)(h:Gr L s f m)(hl:f.length=L.length+1){x:Nat}(hx:x<L.length+1):x∈vs f:=by
 apply Classical.byContradiction
 intro c
 have:=jJ (x :: vs f) (List.range (L.length+1)) (List.nodup_cons.mpr ⟨c,h.nd⟩) fun y hy=>by
  rcases List.mem_cons.mp hy with rfl | hy
  ·exact List.mem_range.mpr hx
  ·exact List.mem_range.mpr (h.lt t hs y hy)
 have l3:(vs f).length=f.length:=List.length_map ..
 rw [List.length_cons,List.length_range] at this
 omega
theorem lP (t:Tre L)(hs:s≤L.length):∃ f m,Gr L s f m∧f.length=L.length+1:=by
 have key:∀ k,k≤L.length→∃ f m,Gr L s f m∧f.length=k+1:=by
  intro k
  induction k with
  | zero=>exact fun _=>⟨_,_, .one,rfl⟩
  | succ k ih=>
   intro hk
   obtain ⟨f,m,h,hl⟩:=ih (by omega)
   apply Classical.byContradiction
   intro c
   have:f.length=L.length+1:=oT t hs h fun e he=>by
    obtain ⟨j,hj⟩:=List.mem_iff_getElem?.mp he
    constructor
    ·intro h1
     apply Classical.byContradiction
     intro h2
     obtain ⟨⟨x,d⟩,hd,ex⟩:=List.mem_map.mp h1
     have ex:x=e.1:=ex
     exact c ⟨_,_,h.add hd h2 hj (.inl ⟨ex.symm,rfl⟩),by rw [List.length_append,hl];rfl⟩
    ·intro h1
     apply Classical.byContradiction
     intro h2
     obtain ⟨⟨x,d⟩,hd,ex⟩:=List.mem_map.mp h1
     have ex:x=e.2.1:=ex
     exact c ⟨_,_,h.add hd h2 hj (.inr ⟨rfl,ex.symm⟩),by rw [List.length_append,hl];rfl⟩
   omega
 exact key L.length (Nat.le_refl _)
open Classical in
noncomputable def wy (L:List Ed) (s x:Nat):Int:=if h:∃ (d:Int) (f:List (Nat × Int)) (m:List (Nat × Nat)),Gr L s f m∧f.length=L.length+1∧(x,d)∈f then h.choose else 0
theorem vN {x:Nat}{d:Int}(h:Gr L s f m)(hl:f.length=L.length+1)(hx:(x,d)∈f):d=wy L s x:=by
 have e:∃ (d:Int) (f:List (Nat × Int)) (m:List (Nat × Nat)),Gr L s f m∧f.length=L.length+1∧(x,d)∈f:=⟨d,f,m,h,hl,hx⟩
 unfold wy
 rw [dif_pos e]
 obtain ⟨f',m',h',hl',hx'⟩:=e.choose_spec
 exact lN h.nd hx ((xI h' h hl).1 _ hx')
theorem aBu {a b:Int}{x:Nat}(t:Tre L)(t':Tre L')(hl:L'.length=L.length)(hs:s≤L.length)(hx:x≤L.length)(e:scl a L=scl b L'):wy L s x*a=wy L' s x*b:=by
 obtain ⟨f,m,h,l⟩:=lP t hs
 obtain ⟨g,m',h',l'⟩:=lP (s:=s) t' (by omega)
 obtain ⟨⟨x1,d⟩,hd,ex⟩:=List.mem_map.mp (h.has t hs l (x:=x) (by omega))
 obtain ⟨⟨x2,d'⟩,hd',ex'⟩:=List.mem_map.mp (h'.has t' (by omega) l' (x:=x) (by omega))
 have ex:x1=x:=ex
 have ex':x2=x:=ex'
 subst ex ex'
 rw [← vN h l hd,← vN h' l' hd']
 exact aDF h h' e l' hd hd'
end
noncomputable def bdw (d c:Int):Prop:=d % c≠0∨1000000*c<d
noncomputable def wb (q:Tq):Int:=q.2.2.2
noncomputable def wt (q:Tq):Int:=q.2.2.1
noncomputable def sc (qs:List Tq):Int:=qs.foldl (fun c q=>c*wb q) 1
theorem yP {g:Int→Tq→Int}(hg:∀ c q,0<c→1≤wb q→c ∣ g c q∧wb q ∣ g c q∧0<g c q∧g c q≤c*wb q):∀ (qs:List Tq) (c:Int),0<c→(∀ q∈qs,1≤wb q∧wb q<2 ^ 104)→c ∣ qs.foldl g c∧0<qs.foldl g c∧qs.foldl g c≤c*(2 ^ 104) ^ qs.length∧∀ q∈qs,wb q ∣ qs.foldl g c
 | [],c,hc,_=>⟨Int.dvd_refl _,hc,by simp,by simp⟩
 | q :: qs,c,hc,h=>by
  obtain ⟨h1,h2⟩:=h q (by simp)
  obtain ⟨g1,g2,g3,g4⟩:=hg c q hc h1
  obtain ⟨i1,i2,i3,i4⟩:=yP hg qs (g c q) g3 fun x hx=>h x (List.mem_cons_of_mem _ hx)
  rw [List.foldl_cons]
  refine ⟨Int.dvd_trans g1 i1,i2,?_,fun x hx=>?_⟩
  ·have a1:g c q≤c*2 ^ 104:=Int.le_trans g4 (Int.mul_le_mul_of_nonneg_left (by omega) (by omega))
   rw [List.length_cons,Int.pow_succ]
   have a2:(0:Int)≤(2 ^ 104) ^ qs.length:=Int.le_of_lt (Int.pow_pos (by decide))
   have:=Int.mul_le_mul_of_nonneg_right a1 a2
   rw [Int.mul_comm ((2 ^ 104) ^ qs.length) (2 ^ 104),← Int.mul_assoc]
   exact Int.le_trans i3 this
  ·rcases List.mem_cons.mp hx with rfl | hx
   ·exact Int.dvd_trans g2 i1
   ·exact i4 x hx
theorem aCJ (c:Int)(q:Tq)(hc:0<c)(hq:1≤wb q):c ∣ c*wb q∧wb q ∣ c*wb q∧0<c*wb q∧c*wb q≤c*wb q:=
 ⟨Int.dvd_mul_right _ _,Int.dvd_mul_left _ _,Int.mul_pos hc (by omega),Int.le_refl _⟩
structure Wq (qs:List Tq):Prop where
 len:qs.length≤13
 ok:∀ q∈qs,0≤wt q∧wt q<2 ^ 104∧1≤wb q∧wb q<2 ^ 104
theorem Wq.take {qs:List Tq}(h:Wq qs)(i:Nat):Wq (qs.take i):=⟨by have:=h.len;rw [List.length_take];omega,fun q hq=>h.ok q (List.mem_of_mem_take hq)⟩
theorem big {c:Int}{k:Nat}(h:c≤1*(2 ^ 104) ^ k)(hk:k≤13):c<2 ^ 1400:=by
 rw [Int.one_mul,← Int.pow_mul] at h
 have:(2:Int) ^ (104*k)≤2 ^ 1352:=by
  have:(2:Nat) ^ (104*k)≤2 ^ 1352:=Nat.pow_le_pow_right (by decide) (by omega)
  exact_mod_cast this
 have h2:(2:Int) ^ 1352<2 ^ 1400:=by decide
 omega
theorem tL {qs:List Tq}(h:Wq qs):0<sc qs∧sc qs<2 ^ 1400∧∀ q∈qs,wb q ∣ sc qs:=by
 obtain ⟨_,a,b,c⟩:=yP aCJ qs 1 (by decide) fun q hq=>(h.ok q hq).2.2
 exact ⟨a,big b h.len,c⟩
theorem aBz {qs:List Tq}{q:Tq}:sc (qs++[q])=sc qs*wb q:=by unfold sc;rw [List.foldl_append];rfl
noncomputable def Ll (qs:List Tq):List Ed:=qs.map fun q=>(q.1,q.2.1,wt q*sc qs / wb q)
structure Tr (qs:List Tq):Prop extends Wq qs where
 tie:∀ q∈qs,q.1<q.2.1∧q.2.1≤qs.length
 cn:aEB (qs.map pr) (qs.length+1)
theorem oC {qs:List Tq}(h:Tr qs)(g:Tq→Int):Tre (qs.map fun q=>(q.1,q.2.1,g q)):=by
 constructor
 ·intro e he
  obtain ⟨q,hq,rfl⟩:=List.mem_map.mp he
  rw [List.length_map]
  exact h.tie q hq
 ·have:pE (qs.map fun q=>(q.1,q.2.1,g q))=qs.map pr:=by unfold pE;rw [List.map_map];rfl
  rw [this,List.length_map]
  exact h.cn
end K63
namespace K63
open PySem L2
section
variable {K:PySem.W.Frag}
theorem nb {c:Int}(h0:0≤c)(h:c<2 ^ 1400):c.natAbs<2 ^ 8000:=by
 obtain ⟨n,rfl⟩:=Int.eq_ofNat_of_zero_le h0
 rw [Int.natAbs_natCast]
 have h1:n<2 ^ 1400:=by exact_mod_cast h
 exact Nat.lt_of_lt_of_le h1 (Nat.pow_le_pow_right (by decide) (by decide))
theorem nb1 {c:Int}(h0:0≤c)(h:c<2 ^ 104):c.natAbs<2 ^ 8000:=nb h0 (Int.lt_trans h (by exact_mod_cast Nat.pow_lt_pow_right (show 1<2 by decide) (show 104<1400 by decide)))
theorem Gr.le {L:List Ed}{s:Nat}{f:List (Nat × Int)}{m:List (Nat × Nat)}(t:Tre L)(hs:s≤L.length)(h:Gr L s f m):f.length≤L.length+1:=by
 have l2:=jJ (vs f) (List.range (L.length+1)) h.nd fun x hx=>List.mem_range.mpr (h.lt t hs x hx)
 have l3:(vs f).length=f.length:=List.length_map ..
 rw [List.length_range] at l2
 omega
theorem pK {x:Nat}{f:Fw}(h:x∈ks f):∃ o:Int,qQ (kvI f) (.inl (x:Int))=some (.int o)∧(x,o)∈f:=by
 induction f with
 | nil=>cases h
 | cons p f ih=>
  obtain ⟨y,o⟩:=p
  by_cases e:y=x
  ·subst e
   exact ⟨o,by rw [show kvI ((y,o) :: f)=(.inl (y:Int), .int o) :: kvI f from rfl,kQ rfl],by simp⟩
  ·have h':x∈ks f:=by
    unfold ks at h ⊢
    rw [List.map_cons,List.mem_cons] at h
    exact h.resolve_left (fun z=>e z.symm)
   obtain ⟨o',h1,h2⟩:=ih h'
   exact ⟨o',by rw [show kvI ((y,o) :: f)=(.inl (y:Int), .int o) :: kvI f from rfl,kB (fun h=>e (by have:=Sum.inl.inj h;omega))];exact h1,List.mem_cons_of_mem _ h2⟩
theorem wQ {H:Hp}{d:Addr}{f:Fw}{x:Nat}{o:Int}(h:H d=some (.dK (kvI f)))(e:qQ (kvI f) (.inl (x:Int))=some (.int o)):DGet H d (.int (x:Int)) (some (.int o)):=by
 have:=DGet.k (k := .inl (x:Int)) h
 rw [e] at this
 exact this
theorem oW {x y:Int}:(!eqD (.int x) (.int y)) = !decide (x=y):=by rw [iA]
noncomputable def aAq (L:List Ed) (s:Nat) (c:Int) (n:Nat):List Int:=(List.range n).map fun x=>wy L s x / c
theorem yQ:∀ vs H Q E,spW K vs H Q E→jA K { nx:=fun _ H'=>Q .non H',rt:=Q } (start ["thing"] vs) H:=by
 intro vs H Q E h
 obtain ⟨v,d,rfl,hS,q⟩:=h
 have q0:=q H (Same.refl _)
 refine ⟨_,rfl,v,d,"int",rfl,by decide,hS,_,rfl,?_⟩
 by_cases hi:aEf d "int" = true
 ·rw [if_pos hi]
  refine ⟨_,rfl,v,d,"bool",rfl,by decide,hS,_,rfl,?_⟩
  cases d <;> first | exact q0 | (exact absurd hi (by simp [aEf]))
 ·rw [if_neg hi]
  cases d <;> first | exact q0 | (exact absurd (by rfl) hi)
end
end K63
namespace K63
open PySem L2
noncomputable def rwL (L:List Ed):List (List Int):=L.map fun e=>[(e.1:Int),(e.2.1:Int),e.2.2]
theorem tP {L:List Ed}:(rwL L).length=L.length:=List.length_map ..
structure Dj (L:List Ed)(s:Nat)(f:Fw)(ws:List Nat)(u:Option (Nat × Nat)):Prop where
 gr:∃ m,Gr L s f m
 sub:∀ w∈ws,w∈ks f
 cl:∀ x∈ks f,x∉ws→(∀ p,u=some p→x≠p.1)→∀ e∈L,(e.1=x→e.2.1∈ks f)∧(e.2.1=x→e.1∈ks f)
 own:∀ p,u=some p→p.1∈ks f∧∀ e∈L.take p.2,(e.1=p.1→e.2.1∈ks f)∧(e.2.1=p.1→e.1∈ks f)
section
variable {L:List Ed}{s:Nat}{f:Fw}{ws:List Nat}
theorem Dj.start:Dj L s [(s,0)] [s] none:=by
 refine ⟨⟨_, .one⟩,fun w hw=>by simpa [ks] using hw,fun x hx hw=>?_,fun p e=>by cases e⟩
 have:x=s:=by simpa [ks] using hx
 exact absurd (by simp [this]) hw
theorem Dj.pop {u:Nat}(h:Dj L s f (ws++[u]) none):Dj L s f ws (some (u,0)):=by
 refine ⟨h.gr,fun w hw=>h.sub w (List.mem_append_left _ hw),fun x hx hw hp=>h.cl x hx (fun hm=>?_) (fun p e=>by cases e),fun p e=>?_⟩
 ·rcases List.mem_append.mp hm with hm | hm
  ·exact hw hm
  ·exact hp _ rfl (List.mem_singleton.mp hm)
 ·cases e
  exact ⟨h.sub u (by simp),fun e he=>by simp at he⟩
theorem Dj.next {u i:Nat}{e:Ed}(h:Dj L s f ws (some (u,i)))(he:L[i]?=some e)(h1:e.1=u→e.2.1∈ks f)(h2:e.2.1=u→e.1∈ks f):Dj L s f ws (some (u,i+1)):=by
 refine ⟨h.gr,h.sub,fun x hx hw hp=>h.cl x hx hw fun p e=>by cases e;exact hp (u,i+1) rfl,fun p e'=>?_⟩
 cases e'
 obtain ⟨a,b⟩:=h.own _ rfl
 refine ⟨a,fun e2 he2=>?_⟩
 rw [List.take_add_one,he] at he2
 rcases List.mem_append.mp he2 with he2 | he2
 ·exact b e2 he2
 ·obtain rfl:e2=e:=by simpa using he2
  exact ⟨h1,h2⟩
theorem Dj.add {u i w:Nat}{o:Int}{e:Ed}(h:Dj L s f ws (some (u,i)))(hm:(u,o)∈f)(hw:w∉ks f)(he:L[i]?=some e)(hj:Jo e u w):Dj L s (f++[(w,o+e.2.2)]) (ws++[w]) (some (u,i)):=by
 obtain ⟨o1,o2⟩:=h.own _ rfl
 obtain ⟨m,gr⟩:=h.gr
 have mono:∀ x,x∈ks f→x∈ks (f++[(w,o+e.2.2)]):=fun x hx=>by rw [lV];exact List.mem_append_left _ hx
 refine ⟨⟨_,gr.add hm hw he hj⟩,fun y hy=>?_,fun x hx hnw hp=>?_,fun q e=>?_⟩
 ·rcases List.mem_append.mp hy with hy | hy
  ·exact mono _ (h.sub y hy)
  ·rw [lV];exact List.mem_append_right _ hy
 ·rw [lV] at hx
  rcases List.mem_append.mp hx with hx | hx
  ·intro e he
   obtain ⟨a,b⟩:=h.cl x hx (fun z=>hnw (List.mem_append_left _ z)) hp e he
   exact ⟨fun z=>mono _ (a z),fun z=>mono _ (b z)⟩
  ·exact absurd (List.mem_append_right _ hx) hnw
 ·cases e
  refine ⟨mono _ o1,fun e he=>?_⟩
  obtain ⟨a,b⟩:=o2 e he
  exact ⟨fun z=>mono _ (a z),fun z=>mono _ (b z)⟩
theorem Dj.done {u:Nat}(h:Dj L s f ws (some (u,L.length))):Dj L s f ws none:=by
 obtain ⟨o1,o2⟩:=h.own _ rfl
 refine ⟨h.gr,h.sub,fun x hx hw _=>?_,fun p e=>by cases e⟩
 by_cases c:x=u
 ·subst c
  intro e he
  exact o2 e (by rw [List.take_length];exact he)
 ·exact h.cl x hx hw fun p e=>by cases e;exact c
theorem Dj.len {u:Option (Nat × Nat)}(h:Dj L s f ws u)(t:Tre L)(hs:s≤L.length):f.length≤L.length+1:=let ⟨_,g⟩:=h.gr;g.le t hs
theorem Dj.all (h:Dj L s f [] none)(t:Tre L)(hs:s≤L.length):f.length=L.length+1:=by
 obtain ⟨m,gr⟩:=h.gr
 refine oT t hs gr fun e he=>⟨fun h1=>?_,fun h1=>?_⟩
 ·exact (h.cl e.1 h1 (by simp) (fun p e=>by cases e) e he).1 rfl
 ·exact (h.cl e.2.1 h1 (by simp) (fun p e=>by cases e) e he).2 rfl
end
section
variable {K:PySem.W.Frag}
noncomputable def aCR (K:PySem.W.Frag):Sp:=fun vs H Q _=>∃ (t:Addr) (ys:List V) (L:List Ed) (s:Nat),vs=[.ref t, .int (s:Int)]∧H t=some (.lst ys)∧Rows K H ys (rwL L)∧Tre L∧L.length≤13∧s≤L.length∧∀ d f m H',Same H H'→H' d=some (.dK (kvI f))→Gr L s f m→f.length=L.length+1→Q (.ref d) H'
theorem aDC:∀ vs H Q E,aCR K vs H Q E→gB K { nx:=fun _ H'=>Q .non H',rt:=Q } (start ["ties","place","found","waiting","here","one","other","more"] vs) H:=by
 intro vs H Q E h
 obtain ⟨t,ys,L,s,rfl,ht,hR,tre,l13,hs,q⟩:=h
 have yl:ys.length=L.length:=by rw [hR.1,tP]
 unfold gB
 refine lY ?_
 intro d hd0
 refine ⟨_,rfl,aE,[(.inl (s:Int), .int 0)],rfl,show 1≤15 by decide,?_⟩
 have e9:nJ [] [((.inl (s:Int):Key),V.int 0)]=kvI [(s,0)]:=by rfl
 rw [e9]
 have s0:Same H (upd (upd H d (.dK [])) d (.dK (kvI [(s,0)]))):=dE hd0 (aM hd0 _)
 have g0:(upd (upd H d (.dK [])) d (.dK (kvI [(s,0)]))) d=some (.dK (kvI [(s,0)])):=aE
 generalize upd (upd H d (.dK [])) d (.dK (kvI [(s,0)]))=G at s0 g0 ⊢
 refine lY ?_
 refine ⟨_,rfl,show 1≤sizeLine by decide,fun w hw=>?_⟩
 have hw0:H w=none:=by
  cases e:H w with
  | none=>rfl
  | some o=>rw [s0 _ _ e] at hw;cases hw
 have hdw:d≠w:=aL g0 hw
 refine ⟨fun m σ' H'=>∃ (f:Fw) (ws:List Nat) (x4 x5 x6 x7:Option V),m=2*((L.length+1) - f.length)+ws.length∧σ'=[some (.ref t),some (.int (s:Int)),some (.ref d),some (.ref w),x4,x5,x6,x7]∧Same H H'∧H' d=some (.dK (kvI f))∧H' w=some (.lst (ws.map fW))∧Dj L s f ws none∧ws.length≤f.length,⟨_,[(s,0)],[s],none,none,none,none,rfl,rfl,s0.trans (aM hw _),by rw [aO hdw];exact g0,aE,Dj.start,Nat.le_refl _⟩,?_⟩
 rintro m σ1 H1 ⟨f,ws,x4,x5,x6,x7,rfl,rfl,s1,g1,w1,di,wfl⟩
 refine ⟨_,rfl,Nat.zero_le _,fun z hz=>?_⟩
 have sz:=aM hz (.lst [])
 refine ⟨.lst ((ws.map fun p:Nat=>(p:Int)).map Dt.int), .lst [],aBC _,⟨w,_,rfl, .of (sz _ _ w1),by rw [uU];exact ShL.ints _⟩,⟨z,_,rfl, .of aE,rfl⟩,_,rfl,?_⟩
 have en:(!eqD (.lst ((ws.map fun p:Nat=>(p:Int)).map Dt.int)) (.lst [])) = !ws.isEmpty:=by
  rw [eqD]
  cases ws with
  | nil=>rfl
  | cons a ws=>simp [eqL]
 rw [en]
 have s1z:=s1.trans sz
 have g1z:=sz _ _ g1
 have w1z:=sz _ _ w1
 generalize upd H1 z (.lst [])=H2 at s1z g1z w1z ⊢
 by_cases c:ws=[]
 ·subst c
  obtain ⟨m,gr⟩:=di.gr
  exact bW rfl ⟨_,rfl,q d _ m H2 s1z g1z gr (di.all tre hs)⟩
 ·obtain ⟨ws',u,rfl⟩:∃ ws' u,ws=ws'++[u]:=⟨ws.dropLast,ws.getLast c,(List.dropLast_concat_getLast c).symm⟩
  have fl:=di.len tre hs
  rw [List.length_append] at wfl
  simp only [List.length_cons,List.length_nil] at wfl
  refine cE (by simp) ⟨fun σ' H'=>∃ m',m'<2*((L.length+1) - f.length)+(ws'++[u]).length∧∃ (f:Fw) (ws:List Nat) (x4 x5 x6 x7:Option V),m'=2*((L.length+1) - f.length)+ws.length∧σ'=[some (.ref t),some (.int (s:Int)),some (.ref d),some (.ref w),x4,x5,x6,x7]∧Same H H'∧H' d=some (.dK (kvI f))∧H' w=some (.lst (ws.map fW))∧Dj L s f ws none∧ws.length≤f.length,fun _ _ h=>h,?_⟩
  refine lY ?_
  refine ⟨_,rfl, .inl ⟨rfl,_, .of w1z⟩,w,_,fW u,rfl,rfl,w1z,by rw [List.map_append];simp,?_⟩
  have dl:((ws'++[u]).map fW).dropLast=ws'.map fW:=by rw [List.map_append];exact List.dropLast_concat
  rw [dl]
  have s3:Same H (upd H2 w (.lst (ws'.map fW))):=dE hw0 s1z
  have g3:(upd H2 w (.lst (ws'.map fW))) d=some (.dK (kvI f)):=by rw [aO hdw];exact g1z
  have w3:(upd H2 w (.lst (ws'.map fW))) w=some (.lst (ws'.map fW)):=aE
  generalize upd H2 w (.lst (ws'.map fW))=H3 at s3 g3 w3 ⊢
  refine ⟨_,rfl,t,rfl, .inl ⟨⟨_, .of (s3 _ _ ht)⟩,?_⟩⟩
  refine uF (K:=K) (a:=t) (xs:=ys) (fun i σ' H'=>i≤L.length∧∃ (f':Fw) (ws2:List Nat) (x5 x6 x7:Option V),σ'=[some (.ref t),some (.int (s:Int)),some (.ref d),some (.ref w),some (fW u),x5,x6,x7]∧Same H H'∧H' d=some (.dK (kvI f'))∧H' w=some (.lst (ws2.map fW))∧Dj L s f' ws2 (some (u,i))∧f.length≤f'.length∧ws2.length+f.length=ws'.length+f'.length) ⟨Nat.zero_le _,f,ws',_,_,_,rfl,s3,g3,w3,di.pop,Nat.le_refl _,rfl⟩ (fun i σ' H' _ ⟨_,_,_,_,_,_,_,s,_⟩ => .of (s _ _ ht)) (fun i x σ4 H4 hx ⟨_,f',ws2,y5,y6,y7,es,s4,g4,w4,d4,f1,f2⟩=>?_) fun σ4 H4 ⟨_,f',ws2,y5,y6,y7,es,s4,g4,w4,d4,f1,f2⟩=>?_
  ·subst es
   have hi:i<L.length:=by rw [← yl];exact (List.getElem?_eq_some_iff.mp hx).1
   have he:L[i]?=some L[i]:=List.getElem?_eq_getElem hi
   obtain ⟨b,e1,e2⟩:=(hR.same s4).2 i [(L[i].1:Int),(L[i].2.1:Int),L[i].2.2] (by unfold rwL;rw [List.getElem?_map,he];rfl)
   rw [hx] at e1
   cases e1
   have hok:=tre.ok L[i] (List.getElem_mem hi)
   generalize L[i]=e at he e2 hok
   obtain ⟨p,r,wy⟩:=e
   have hok:p<r∧r≤L.length:=hok
   refine ⟨b,_,rfl,e2,rfl, .int (p:Int),[.int (r:Int), .int wy],rfl, .int (r:Int),[.int wy],rfl, .int wy,[],rfl,rfl,?_⟩
   refine ⟨_,rfl,_,rfl,_,rfl,show 2≤sizeLine by decide,fun tt htt=>?_⟩
   have st:=aM htt (.tup [V.int (p:Int), .int (r:Int)])
   have hin:∀ P:VK,P (.bl (decide (u=p∨u=r))) (upd H4 tt (.tup [V.int (p:Int), .int (r:Int)]))→aEt K false (fW u) (.ref tt) (upd H4 tt (.tup [V.int (p:Int), .int (r:Int)])) P:=fun P hP=>K63.Q.in_list (q:=[p,r]) (.inr (.of aE)) (by
    show P (.bl (decide (u∈[p,r]))) _
    rw [show decide (u∈[p,r])=decide (u=p∨u=r) from decide_eq_decide.mpr (by simp)]
    exact hP)
   refine hin _ ⟨_,rfl,?_⟩
   have s5:=s4.trans st
   have g5:=st _ _ g4
   have w5:=st _ _ w4
   generalize upd H4 tt (.tup [V.int (p:Int), .int (r:Int)])=H5 at s5 g5 w5 ⊢
   by_cases cu:u=p∨u=r
   ·refine cE (decide_eq_true cu) ?_
    obtain ⟨v,ev,hv,hjo⟩:∃ v:Nat,(p:Int)+(r:Int) - (u:Int)=(v:Int)∧((u=p∧v=r)∨(u=r∧v=p))∧Jo (p,r,wy) u v:=by
     rcases cu with rfl | rfl
     ·exact ⟨r,by omega, .inl ⟨rfl,rfl⟩, .inl ⟨rfl,rfl⟩⟩
     ·exact ⟨p,by omega, .inr ⟨rfl,rfl⟩, .inr ⟨rfl,rfl⟩⟩
    have fl':=d4.len tre hs
    refine ⟨_,rfl,_,rfl,_,rfl,?_⟩
    show uE (.int ((p:Int)+(r:Int))) (fW u) H5 _
    refine ⟨_,_,rfl,rfl,?_⟩
    rw [ev]
    refine ⟨_,rfl,d,_,rfl,DGet.k (k := .inl (v:Int)) g5,_,rfl,?_⟩
    rw [uK]
    by_cases cv:v∈ks f'
    ·refine bW (by rw [decide_eq_true cv];rfl) ⟨hi,f',ws2,_,_,_,rfl,s5,g5,w5,d4.next he (fun e=>?_) (fun e=>?_),f1,f2⟩
     ·have e:p=u:=e
      rcases hv with ⟨_,rfl⟩ | ⟨h1,_⟩
      ·exact cv
      ·omega
     ·have e:r=u:=e
      rcases hv with ⟨h1,_⟩ | ⟨_,rfl⟩
      ·omega
      ·exact cv
    ·refine cE (by rw [decide_eq_false cv];rfl) ?_
     obtain ⟨ou,hou,hom⟩:=pK (d4.own _ rfl).1
     refine ⟨_,rfl,_,rfl,d,_,rfl,(by have:=DGet.k (k := .inl (u:Int)) g5;rw [hou] at this;exact this),_,rfl,?_⟩
     show aD 2 _ H5 _
     refine ⟨_,rfl,_,rfl,_,rfl,_,rfl,?_⟩
     show uE (.int ((p:Int)+(r:Int))) (fW u) H5 _
     refine ⟨_,_,rfl,rfl,?_⟩
     rw [ev]
     refine ⟨d,_,rfl,DPut.k (k := .inl (v:Int)) g5 (Nat.lt_of_le_of_lt (show (kvI f').length≤14 by rw [lB];omega) (by decide)),?_⟩
     rw [gG cv]
     have hwd:=hdw.symm
     have w6:(upd H5 d (.dK (kvI (f'++[(v,ou+wy)])))) w=some (.lst (ws2.map fW)):=by rw [aO hwd];exact w5
     have s6:Same H (upd H5 d (.dK (kvI (f'++[(v,ou+wy)])))):=dE hd0 s5
     have g6:(upd H5 d (.dK (kvI (f'++[(v,ou+wy)])))) d=some (.dK (kvI (f'++[(v,ou+wy)]))):=aE
     dsimp only
     generalize upd H5 d (.dK (kvI (f'++[(v,ou+wy)])))=H6 at w6 s6 g6 ⊢
     refine ⟨_,rfl, .inl ⟨rfl,_, .of w6⟩,_,rfl,_,rfl,_,rfl,?_⟩
     show uE (.int ((p:Int)+(r:Int))) (fW u) H6 _
     refine ⟨_,_,rfl,rfl,?_⟩
     rw [ev]
     have wl:ws2.length≤100:=by omega
     refine ⟨w,_,_,rfl,rfl,w6,by rw [List.length_map];exact Nat.lt_of_le_of_lt wl (by decide),?_⟩
     have d5:=d4.add (e:=(p,r,wy)) hom cv he hjo
     have hvin:v∈ks (f'++[(v,ou+wy)]):=by rw [lV];simp
     refine ⟨hi,f'++[(v,ou+wy)],ws2++[v],_,_,_,rfl,dE hw0 s6,by rw [aO hdw];exact g6,by rw [aE,List.map_append];rfl,d5.next he (fun e=>?_) (fun e=>?_),by rw [List.length_append];omega,by rw [List.length_append,List.length_append];simp;omega⟩
     ·have e:p=u:=e
      rcases hv with ⟨_,rfl⟩ | ⟨h1,_⟩
      ·exact hvin
      ·omega
     ·have e:r=u:=e
      rcases hv with ⟨h1,_⟩ | ⟨_,rfl⟩
      ·omega
      ·exact hvin
   ·refine bW (decide_eq_false cu) ?_
    refine bW rfl ⟨hi,f',ws2,_,_,_,rfl,s5,g5,w5,d4.next he (fun e=>absurd (.inl e.symm) cu) (fun e=>absurd (.inr e.symm) cu),f1,f2⟩
  ·subst es
   rw [yl] at d4
   have dd:=d4.done
   have fl':=dd.len tre hs
   refine ⟨2*((L.length+1) - f'.length)+ws2.length,?_,f',ws2,_,_,_,_,rfl,rfl,s4,g4,w4,dd,by omega⟩
   rw [List.length_append]
   simp
   omega
noncomputable def aEG (K:PySem.W.Frag):Sp:=fun vs H Q _=>∃ (x:V) (qs:List Tq),vs=[x]∧Sh K H (.tup (qs.map kK)) x∧Wq qs∧∀ p l ys H',Same H H'→SqT K H' p [.int (sc qs), .ref l]→H' l=some (.lst ys)→Rows K H' ys (rwL (Ll qs))→Q (.ref p) H'
theorem aFf:∀ vs H Q E,aEG K vs H Q E→iE K { nx:=fun _ H'=>Q .non H',rt:=Q } (start ["drawn","scale","one","other","far_off"] vs) H:=by
 intro vs H Q E h
 obtain ⟨x,qs,rfl,hx,w,q⟩:=h
 obtain ⟨a,xs,rfl,ha,hL⟩:=id hx
 have l13:=w.len
 have hl:(qs.map kK).length=xs.length:=hL.length
 rw [List.length_map] at hl
 refine ⟨_,rfl,a,rfl, .inr ⟨⟨xs,ha⟩,?_⟩⟩
 refine nD (K:=K) (a:=a) (xs:=xs) (fun i σ' H'=>i≤xs.length∧H'=H∧∃ x2 x3 x4,σ'=[some (.ref a),some (.int (sc (qs.take i))),x2,x3,x4]) ⟨Nat.zero_le _,rfl,_,_,_,rfl⟩ (fun i σ' H' _ ⟨_,e,_⟩=>by rw [e];exact ha) (fun i y σ1 H1 hy ⟨_,e1,x2,x3,x4,es⟩=>?_) fun σ1 H1 ⟨_,e1,x2,x3,x4,es⟩=>?_
 ·subst es;subst e1
  have hi:i<xs.length:=(List.getElem?_eq_some_iff.mp hy).1
  obtain ⟨t,ht,st⟩:=aDu hL hy
  obtain ⟨b,g,rfl,hb,hg⟩:=aBs st
  obtain ⟨_,_,b1,b2⟩:=w.ok t (List.mem_of_getElem? ht)
  obtain ⟨c0,c1,_⟩:=tL (w.take i)
  refine ⟨b,_,rfl,hb,rfl, .int (t.1:Int),[.int (t.2.1:Int), .ref g],rfl, .int (t.2.1:Int),[.ref g],rfl, .ref g,[],rfl,rfl,?_⟩
  refine ⟨_,rfl,_,rfl,ixT (j:=1) hg rfl ⟨.inr ⟨nb (Int.le_of_lt c0) c1,nb1 (c:=wb t) (by omega) b2⟩,hi,rfl,some (.int (t.1:Int)),some (.int (t.2.1:Int)),some (.ref g),?_⟩⟩
  rw [List.take_add_one,ht]
  show _=[_,some (V.int (sc (qs.take i++[t]))),_,_,_]
  rw [aBz]
  rfl
 subst es;subst e1
 rw [List.take_of_length_le (by omega)]
 obtain ⟨c0,c1,_⟩:=tL w
 refine ⟨_,rfl,_,rfl,a,rfl, .inr ⟨⟨xs,ha⟩,fun A hA=>?_⟩⟩
 refine nD (K:=K) (a:=a) (xs:=xs) (fun i σ' H'=>i≤xs.length∧(∃ x0 x1 x2,σ'=[x0,x1,x2,some (.int (sc qs))])∧Same H1 H'∧∃ ys,H' A=some (.lst ys)∧Rows K H' ys (rwL ((qs.take i).map fun q=>(q.1,q.2.1,wt q*sc qs / wb q)))) ⟨Nat.zero_le _,⟨_,_,_,rfl⟩,aM hA _,[],aE,Rows.nil⟩ (fun i σ' H' _ ⟨_,_,s,_⟩=>s.tup ha) (fun i y σ2 H2 hy ⟨_,⟨x0,x1,x2,es⟩,s2,ys,hA2,hR⟩=>?_) fun σ2 H2 ⟨_,⟨x0,x1,x2,es⟩,s2,ys,hA2,hR⟩=>?_
 ·subst es
  have hi:i<xs.length:=(List.getElem?_eq_some_iff.mp hy).1
  obtain ⟨t,ht,st⟩:=aDu hL hy
  obtain ⟨b,g,rfl,hb,hg⟩:=aBs (st.same s2)
  obtain ⟨t1,t2,b1,b2⟩:=w.ok t (List.mem_of_getElem? ht)
  refine ⟨b,_,rfl,hb,rfl, .int (t.1:Int),[.int (t.2.1:Int), .ref g],rfl, .int (t.2.1:Int),[.ref g],rfl, .ref g,[],rfl,rfl,?_⟩
  refine ⟨_,rfl,_,rfl,_,rfl,ixT (j:=0) hg rfl ⟨_,rfl, .inr ⟨nb1 (c:=wt t) t1 t2,nb (Int.le_of_lt c0) c1⟩,_,rfl,ixT (j:=1) hg rfl ⟨_,_,rfl,rfl,⟨b1,nb1 (c:=wb t) (by omega) b2⟩,show 3≤sizeLine by decide,fun z hz=>?_⟩⟩⟩
  have sz:=aM hz (.tup [V.int (t.1:Int), .int (t.2.1:Int), .int (wt t*sc qs / wb t)])
  have hAz:=sz _ _ hA2
  refine ⟨ys,hAz,?_,hi,⟨_,_,_,rfl⟩,dE hA (s2.trans sz),ys++[.ref z],aE,?_⟩
  ·rw [hR.1,tP,List.length_map,List.length_take]
   exact Nat.lt_of_le_of_lt (show _≤13 by omega) (by decide)
  ·rw [List.take_add_one,ht,List.map_append]
   unfold rwL
   rw [List.map_append]
   exact Rows.snoc (Rows.put (hR.same sz) hAz) (eD (.of aE) hAz)
 ·subst es
  rw [List.take_of_length_le (by omega)] at hR
  refine ⟨show 2≤sizeLine by decide,fun z hz=>?_⟩
  have sz:=aM hz (.tup [V.int (sc qs), .ref A])
  exact q z A ys _ (s2.trans sz) (.of aE) (sz _ _ hA2) (hR.same sz)
noncomputable def tbL (qs:List Tq) (n:Nat):List (List Int):=(List.range n).map fun s=>aAq (Ll qs) s (sc qs) n
noncomputable def aEy (qs:List Tq) (n:Nat):Prop:=∃ s x,s<n∧x<n∧bdw (wy (Ll qs) s x) (sc qs)
noncomputable def aDP (K:PySem.W.Frag):Sp:=fun vs H Q _=>∃ (x:V) (qs:List Tq) (n:Nat),vs=[x, .int (n:Int)]∧Sh K H (.tup (qs.map kK)) x∧Tr qs∧n≤qs.length+1 ∧
 (aEy qs n→∀ H',Same H H'→Q .non H')∧(¬ aEy qs n→∀ v H',Same H H'→Sh K H' (jD (tbL qs n)) v→Q v H')
theorem aEY:∀ vs H Q E,aDP K vs H Q E→eS K (aEG K) (aCR K) { nx:=fun _ H'=>Q .non H',rt:=Q } (start ["drawn","many","scale","ties","lines","place","found","other"] vs) H:=by
 intro vs H Q E h
 obtain ⟨x,qs,n,rfl,hx,tr,hn,q1,q2⟩:=h
 have l13:=tr.len
 have w:=tr.toWq
 obtain ⟨c0,c1,_⟩:=tL w
 have ll:(Ll qs).length=qs.length:=List.length_map ..
 have tre:Tre (Ll qs):=oC tr _
 refine ⟨_,rfl,x,qs,rfl,hx,w,fun p l ys H1 s1 hp hl hR=>?_⟩
 refine ⟨p,_,rfl,hp,rfl, .int (sc qs),[.ref l],rfl, .ref l,[],rfl,rfl,?_⟩
 refine ⟨show 0≤sizeLine by decide,fun A hA=>?_⟩
 refine ⟨_,rfl,(n:Int),rfl,by omega,by omega,?_⟩
 rw [Int.toNat_natCast]
 refine bV (lo:=0) (n:=n) (fun i σ' H'=>i≤n∧(∃ x5 x6 x7,σ'=[some x,some (.int (n:Int)),some (.int (sc qs)),some (.ref l),some (.ref A),x5,x6,x7])∧Same H1 H'∧∃ zs,H' A=some (.lst zs)∧Rows K H' zs ((List.range i).map fun s=>aAq (Ll qs) s (sc qs) n)∧∀ s x,s<i→x<n→¬ bdw (wy (Ll qs) s x) (sc qs)) ⟨Nat.zero_le _,⟨_,_,_,rfl⟩,aM hA _,[],aE,Rows.nil,fun s x hs=>by omega⟩ (fun i σ2 H2 hi ⟨_,⟨x5,x6,x7,es⟩,s2,zs,hA2,rz,nbd⟩=>?_) fun σ2 H2 ⟨_,⟨x5,x6,x7,es⟩,s2,zs,hA2,rz,nbd⟩=>?_
 ·subst es
  rw [Int.zero_add]
  refine ⟨_,rfl,_,rfl,l,ys,Ll qs,i,rfl,s2 _ _ hl,hR.same s2,tre,by omega,by omega,fun d f m H3 s3 g3 gr fl=>?_⟩
  refine ⟨_,rfl,(n:Int),rfl,by omega,by omega,?_⟩
  rw [Int.toNat_natCast]
  refine bV (lo:=0) (n:=n) (fun j σ' H'=>H'=H3∧(∃ x7,σ'=[some x,some (.int (n:Int)),some (.int (sc qs)),some (.ref l),some (.ref A),some (.int (i:Int)),some (.ref d),x7])∧∀ x,x<j→¬ bdw (wy (Ll qs) i x) (sc qs)) ⟨rfl,⟨_,rfl⟩,fun x hx=>by omega⟩ (fun j σ4 H4 hj ⟨e4,⟨y7,es⟩,nbi⟩=>?_) fun σ4 H4 ⟨e4,⟨y7,es⟩,nbi⟩=>?_
  ·subst es;subst e4
   rw [Int.zero_add]
   obtain ⟨o,ho,hm⟩:=pK (show j∈ks f from gr.has tre (by omega) fl (by omega))
   obtain rfl:=vN gr fl hm
   refine ⟨_,rfl,_,rfl,d,_,rfl,wQ g3 ho,_,rfl,_,_,rfl,rfl,c0,_,_,rfl,rfl,_,rfl,?_⟩
   have mn:0≤wy (Ll qs) i j % sc qs:=Int.emod_nonneg _ (by omega)
   by_cases h1:wy (Ll qs) i j % sc qs > 0
   ·exact cE (decide_eq_true h1) (cE rfl (q1 ⟨i,j,hi,hj, .inl (by omega)⟩ _ ((s1.trans s2).trans s3)))
   ·refine bW (decide_eq_false h1) ⟨_,rfl,_,rfl,d,_,rfl,wQ g3 ho,_,rfl, .inl (.inl ⟨by decide,by decide⟩),_,_,rfl,rfl,_,rfl,?_⟩
    by_cases h2:wy (Ll qs) i j > 1000000*sc qs
    ·exact cE (decide_eq_true h2) (q1 ⟨i,j,hi,hj, .inr h2⟩ _ ((s1.trans s2).trans s3))
    ·refine bW (decide_eq_false h2) ⟨rfl,⟨_,rfl⟩,fun x hx=>?_⟩
     by_cases hx':x<j
     ·exact nbi x hx'
     ·obtain rfl:x=j:=by omega
      rintro (h | h)
      ·omega
      ·exact h2 h
  ·subst es;subst e4
   have hA4:=s3 _ _ hA2
   refine ⟨_,rfl, .inl ⟨rfl,_, .of hA4⟩,_,rfl,(n:Int),rfl,by omega,by omega,fun B hB=>?_⟩
   rw [Int.toNat_natCast]
   refine nY (lo:=0) (n:=n) (vars:=[0]) (fun k L' H'=>L'=(aAq (Ll qs) i (sc qs) k).map V.int) (by decide) (by show 0<3;decide) rfl hB (fun k σ5 H5 L5 D hk l5 ag g0 sm hB5 e hD=>?_) fun σ5 H5 L5 sm hB5 e=>?_
   ·have t1:σ5[1]?=some (some (.ref d)):=(ag 1 (by decide)).trans rfl
    have t2:σ5[2]?=some (some (.int (sc qs))):=(ag 2 (by decide)).trans rfl
    rw [Int.zero_add] at g0
    obtain ⟨o,ho,hm⟩:=pK (show k∈ks f from gr.has tre (by omega) fl (by omega))
    obtain rfl:=vN gr fl hm
    refine ⟨_,t1,_,g0,d,_,rfl,wQ (sm _ _ g3) ho,_,t2,_,_,rfl,rfl,⟨c0,nb (Int.le_of_lt c0) c1⟩,?_⟩
    refine ⟨L5,hB5,?_,hD σ5 _ _ l5 ag (dE hB sm) aE ?_⟩
    ·rw [e,List.length_map]
     unfold aAq
     rw [List.length_map,List.length_range]
     exact Nat.lt_of_le_of_lt (show k≤14 by omega) (by decide)
    ·rw [e]
     unfold aAq
     rw [List.range_succ,List.map_append,List.map_append]
     rfl
   ·subst e
    refine ⟨B,_,rfl, .inl ⟨.of hB5,fun tp htp=>?_⟩⟩
    have st:=aM htp (.tup ((aAq (Ll qs) i (sc qs) n).map V.int))
    have hAt:=st _ _ (sm _ _ hA4)
    refine ⟨A,zs,_,rfl,rfl,hAt,?_,hi,⟨_,_,_,rfl⟩,dE hA (((s2.trans s3).trans sm).trans st),zs++[.ref tp],aE,?_,fun s x hs hx=>?_⟩
    ·rw [rz.1,List.length_map,List.length_range]
     exact Nat.lt_of_le_of_lt (show i≤14 by omega) (by decide)
    ·rw [List.range_succ,List.map_append]
     exact Rows.snoc (Rows.put (((rz.same s3).same sm).same st) hAt) (eD (.of aE) hAt)
    ·by_cases hs':s<i
     ·exact nbd s x hs' hx
     ·obtain rfl:s=i:=by omega
      exact nbi x hx
 ·subst es
  refine ⟨_,rfl,A,zs,rfl, .inl ⟨.of hA2,fun tp htp=>?_⟩⟩
  have st:=aM htp (.tup zs)
  exact q2 (fun ⟨s,x,h1,h2,b⟩=>nbd s x h1 h2 b) _ _ ((s1.trans s2).trans st) (xK (.of aE) (rz.same st))
end
end K63
namespace K63
open PySem L2
theorem qH {a m j:Int}(h0:0<m)(h1:m≤4611686018427387904):CMul (a % m) j := .inl ⟨by have:=Int.emod_nonneg a (show m≠0 by omega);omega,by have:=Int.emod_lt_of_pos a h0;omega⟩
noncomputable def aEo (l:Addr) (k:Nat) (z:Int):HO := .lst [.ref l, .int (k:Int), .int z]
noncomputable def PenAt (H:Hp) (p l:Addr) (ns:List Int) (k:Nat) (z:Int):Prop:=H p=some (aEo l k z)∧H l=some (.lst (ns.map V.int))∧l≠p
noncomputable def aDt (K:PySem.W.Frag):TS:=(aX (iU (cM (tOp yGe (aD 2) (tOp aFM (tC (.int 10)) (tC (.int 18))))) (aX (fI (aD 2)) aR) aR) (aX (cF (tOp pS (tOp (bH K) (tOp (bH K) (tOp eY (tOp pS (aD 2) (tC (.int 2147483423))) (tC (.int 60013))) (tOp eY (aD 1) (tC (.int 40692)))) (tC (.int 17))) (tC (.int 2147483399))) (aJ 3)) (aX (cF (tOp pS (tOp (bH K) (tOp (bH K) (tOp eY (aD 3) (aD 3)) (tOp eY (aD 1) (tC (.int 811)))) (tC (.int 3))) (tC (.int 2147483353))) (aJ 4)) (aX (fI (tOp (bH K) (tOp eY (tOp (bH K) (aD 4) (tC (.int 2147483353))) (tC (.int 2147483353))) (tOp pS (tOp (bH K) (tOp eY (aD 4) (aD 4)) (aD 3)) (tC (.int 2147483353))))) aR))))
section
variable {K:PySem.W.Frag}
noncomputable def qG:Sp:=fun vs H Q _=>∃ (p l:Addr) (ns:List Int) (k:Nat) (z:Int),vs=[.ref p]∧PenAt H p l ns k z∧k≤100000∧∀ v:Int,Q (.int v) (upd H p (aEo l (k+1) z))
theorem nW {G:Hp}{p:Addr}{k:Nat}{c:Int}{Q:VK}(hk:k≤100000)(q:∀ v:Int,Q (.int v) G):aDt K { nx:=fun _ H'=>Q .non H',rt:=Q } [some (.ref p),some (.int (k:Int)),some (.int c),none,none] G:=by
 refine ⟨_,rfl,10,18,rfl,rfl,⟨by decide,by decide,by decide⟩,_,_,rfl,rfl,_,rfl,aFO (fun c1=>⟨_,rfl,q c⟩) fun c1=>?_⟩
 refine ⟨_,rfl,_,_,rfl,rfl,by show (0:Int)<2147483423;decide, .inr ⟨by decide,by decide⟩,_,rfl, .inr ⟨by decide,by decide⟩,_,_,rfl,rfl,by show (0:Int)<2147483399;decide,?_⟩
 refine ⟨_,rfl,_,rfl,qH (by decide) (by decide),_,rfl, .inr ⟨by decide,by decide⟩,_,_,rfl,rfl,by show (0:Int)<2147483353;decide,?_⟩
 exact ⟨_,rfl, .inr ⟨by decide,by decide⟩,_,rfl,_,rfl,qH (by decide) (by decide),_,rfl,_,_,rfl,rfl,by show (0:Int)<2147483353;decide,q _⟩
theorem aAN:∀ vs H Q E,qG vs H Q E→jF K { nx:=fun _ H'=>Q .non H',rt:=Q } (start ["pen","at","cell","one","two"] vs) H:=by
 intro vs H Q E h
 obtain ⟨p,l,ns,k,z,rfl,⟨hp,hl,hlp⟩,hk,q⟩:=h
 refine ⟨_,rfl,ixL (j:=1) (.of hp) rfl ?_⟩
 refine ⟨_,rfl,_,rfl,p,_,1,1,rfl,rfl,hp,rfl,?_⟩
 have hG:(upd H p (.lst ([.ref l, .int (k:Int), .int z].set 1 (.int ((k:Int)+1))))) p=some (aEo l (k+1) z):=by rw [aE];rfl
 have hlG:(upd H p (.lst ([.ref l, .int (k:Int), .int z].set 1 (.int ((k:Int)+1))))) l=some (.lst (ns.map V.int)):=by rw [aO hlp];exact hl
 have q':∀ v:Int,Q (.int v) (upd H p (.lst ([.ref l, .int (k:Int), .int z].set 1 (.int ((k:Int)+1))))):=q
 generalize upd H p (.lst ([.ref l, .int (k:Int), .int z].set 1 (.int ((k:Int)+1))))=G at *
 refine ⟨_,rfl,_,rfl, .inl ⟨by omega,by omega⟩,?_⟩
 refine ⟨_,rfl,_,rfl,ixL (j:=0) (.of hG) rfl ⟨l,_,rfl, .inl (.of hlG),_,_,rfl,rfl,_,rfl,?_⟩⟩
 rw [List.length_map]
 by_cases c1:k<ns.length
 ·refine cE (decide_eq_true (by omega)) ?_
  refine ⟨_,rfl,ixL (j:=0) (.of hG) rfl ⟨_,rfl,ixL (j:=k) (v := .int (ns.getD k 0)) (.of hlG) (by rw [List.getElem?_map,L2.jL c1];rfl) ?_⟩⟩
  exact nW hk q'
 ·refine bW (decide_eq_false (by omega)) ?_
  refine ⟨_,rfl,ixL (j:=0) (.of hG) rfl ⟨l,_,rfl, .inl (.of hlG),_,_,rfl,rfl,_,rfl,?_⟩⟩
  rw [List.length_map]
  by_cases c2:0<ns.length
  ·refine cE (decide_eq_true (by omega)) ?_
   obtain ⟨j,ej,hj⟩:=xR (c:=(k:Int)*3) (n:=ns.length) c2
   refine ⟨_,rfl,_,rfl,ixL (j:=0) (.of hG) rfl ⟨_,rfl, .inr ⟨by decide,by decide⟩,_,rfl,ixL (j:=0) (.of hG) rfl ⟨l,_,rfl, .inl (.of hlG),?_⟩⟩⟩
   rw [List.length_map]
   refine uJ c2 ej ?_
   refine ixL (j:=j) (v := .int (ns.getD j 0)) (.of hlG) (by rw [List.getElem?_map,L2.jL hj];rfl) ⟨_,_,rfl,rfl,by show (0:Int)<1000003;decide,_,rfl,qH (by decide) (by decide),?_⟩
   exact nW hk q'
  ·refine bW (decide_eq_false (by omega)) ?_
   exact nW hk q'
noncomputable def hX:Sp:=fun vs H Q _=>∃ (p l:Addr) (ns:List Int) (k:Nat) (z:Int) (m:Nat),vs=[.ref p, .int (m:Int)]∧PenAt H p l ns k z∧k≤100000∧1≤m∧m≤1000001∧∀ (r k':Nat) (z':Int) H',r<m→k'≤k+1→PenAt H' p l ns k' z'→SameX p H H'→Q (.int (r:Int)) H'
theorem PenAt.put {H:Hp}{p l:Addr}{ns:List Int}{k k':Nat}{z z':Int}(h:PenAt H p l ns k z):PenAt (upd H p (aEo l k' z')) p l ns k' z':=⟨aE,by rw [aO h.2.2];exact h.2.1,h.2.2⟩
theorem PenAt.x {H H':Hp}{p l:Addr}{ns:List Int}{k:Nat}{z:Int}(h:PenAt H p l ns k z)(s:Same H H'):PenAt H' p l ns k z:=⟨s _ _ h.1,s _ _ h.2.1,h.2.2⟩
theorem aBK:∀ vs H Q E,hX vs H Q E→jZ K qG { nx:=fun _ H'=>Q .non H',rt:=Q } (start ["pen","many","found"] vs) H:=by
 intro vs H Q E h
 obtain ⟨p,l,ns,k,z,m,rfl,hP,hk,h1,hm,q⟩:=h
 have rest:∀ (G:Hp) (k':Nat) (z':Int),PenAt G p l ns k' z'→k'≤k+1→SameX p H G→aX (cF (tOp pS (tOp (bS K) (aD 0) (tC (.int 2))) (aD 1)) (aJ 2)) (aX (cF (tOp aER (tOp (bS K) (aD 0) (tC (.int 2))) (aD 1)) (qP (aD 0) (tC (.int 2)) gR)) (aX (fI (aD 2)) aR)) { nx:=fun _ H'=>Q .non H',rt:=Q } [some (.ref p),some (.int (m:Int)),none] G:=fun G k' z' hG hk' sx=>by
  obtain ⟨r,er,hr⟩:=xR (c:=z') (n:=m) h1
  refine ⟨_,rfl,ixL (j:=2) (.of hG.1) rfl ⟨_,rfl,uJ h1 er ?_⟩⟩
  refine ⟨_,rfl,ixL (j:=2) (.of hG.1) rfl ⟨_,rfl,_,_,rfl,rfl,⟨by omega,by omega⟩,_,rfl,p,_,2,2,rfl,rfl,hG.1,rfl,?_⟩⟩
  exact ⟨_,rfl,q r k' (z' / (m:Int)) _ hr hk' hG.put (sx.trans (SameX.put _))⟩
 refine ⟨_,rfl,ixL (j:=2) (.of hP.1) rfl ⟨_,rfl,_,_,rfl,rfl,_,rfl,aFO (fun c1=>?_) fun c1=>?_⟩⟩
 ·refine ⟨_,rfl,p,l,ns,k,z,rfl,hP,hk,fun v=>⟨_,rfl,p,_,2,2,rfl,rfl,aE,rfl,?_⟩⟩
  exact rest _ (k+1) v hP.put.put (by omega) ((SameX.put _).trans (SameX.put _))
 ·exact rest H k z hP (by omega) (SameX.refl _ _)
end
end K63
namespace K63
open PySem L2
noncomputable def PenN (H:Hp) (p l:Addr) (ns:List Int) (b:Nat):Prop:=∃ k z,PenAt H p l ns k z∧k≤b
theorem PenN.x {H H':Hp}{p l:Addr}{ns:List Int}{b:Nat}(h:PenN H p l ns b)(s:Same H H'):PenN H' p l ns b:=let ⟨k,z,a,c⟩:=h;⟨k,z,a.x s,c⟩
theorem PenN.le {H:Hp}{p l:Addr}{ns:List Int}{b c:Nat}(h:PenN H p l ns b)(e:b≤c):PenN H p l ns c:=let ⟨k,z,a,d⟩:=h;⟨k,z,a,Nat.le_trans d e⟩
theorem PenN.lst {H:Hp}{p l:Addr}{ns:List Int}{b:Nat}(h:PenN H p l ns b):∃ L,H p=some (.lst L):=let ⟨_,_,a,_⟩:=h;⟨_,a.1⟩
theorem PenN.ne {H:Hp}{p l:Addr}{ns:List Int}{b:Nat}(h:PenN H p l ns b){a:Addr}(e:H a=none):a≠p∧a≠l:=by
 obtain ⟨k,z,⟨h1,h2,_⟩,_⟩:=h
 exact ⟨(fun c=>by rw [c,h1] at e;cases e),(fun c=>by rw [c,h2] at e;cases e)⟩
theorem PenN.upd {H:Hp}{p l:Addr}{ns:List Int}{b:Nat}(h:PenN H p l ns b){a:Addr}{o:HO}(e1:a≠p)(e2:a≠l):PenN (upd H a o) p l ns b:=by
 obtain ⟨k,z,⟨h1,h2,h3⟩,h4⟩:=h
 exact ⟨k,z,⟨by rw [aO (Ne.symm e1)];exact h1,by rw [aO (Ne.symm e2)];exact h2,h3⟩,h4⟩
theorem tkN {H:Hp}{p l:Addr}{ns:List Int}{b m:Nat}{Q:VK}{E:XK}(h:PenN H p l ns b)(hb:b≤90000)(m1:1≤m)(mm:m≤1000001)(q:∀ (r:Nat) H',r<m→PenN H' p l ns (b+1)→SameX p H H'→Q (.int (r:Int)) H'):hX [.ref p, .int (m:Int)] H Q E:=by
 obtain ⟨k,z,hP,hk⟩:=h
 exact ⟨p,l,ns,k,z,m,rfl,hP,by omega,m1,mm,fun r k' z' H' hr hk' hP' sx=>q r H' hr ⟨k',z',hP',by omega⟩ sx⟩
theorem okD:∀ ns:List Int,oH (ns.map Dt.int)=0
 | []=>rfl
 | n :: ns=>by rw [List.map_cons,oH,okD ns];rfl
theorem uP {α β:Type}{f:α→β}{R' R:List β}(h:R'.Perm R):∀ qs:List α,R=qs.map f→∃ qs':List α,qs'.Perm qs∧R'=qs'.map f:=by
 induction h with
 | nil=>exact fun qs e=>⟨[],by cases qs with | nil=>exact .nil | cons _ _=>simp at e,rfl⟩
 | cons x _ ih=>
  intro qs e
  cases qs with
  | nil=>simp at e
  | cons q qs=>
   rw [List.map_cons,List.cons.injEq] at e
   obtain ⟨qs',p,e'⟩:=ih qs e.2
   exact ⟨q :: qs',p.cons q,by rw [List.map_cons,e.1,e']⟩
 | swap x y _=>
  intro qs e
  cases qs with
  | nil=>simp at e
  | cons q qs=>
   cases qs with
   | nil=>simp at e
   | cons r qs=>
    simp only [List.map_cons,List.cons.injEq] at e
    exact ⟨r :: q :: qs, .swap q r qs,by simp only [List.map_cons];rw [e.1,e.2.1,e.2.2]⟩
 | trans _ _ ih1 ih2=>
  intro qs e
  obtain ⟨q2,p2,e2⟩:=ih2 qs e
  obtain ⟨q1,p1,e1⟩:=ih1 q2 e2
  exact ⟨q1,p1.trans p2,e1⟩
section
variable {K:PySem.W.Frag}
theorem aDS {x y:Nat}{H:Hp}{Q:VK}(q:Q (.int ((x+y:Nat):Int)) H):bH K (.int (x:Int)) (.int (y:Int)) H Q:=by
 show Q (.int ((x:Int)+(y:Int))) H
 rw [← Int.natCast_add]
 exact q
theorem aBQ {P:Nat→Int→Prop}{r2:List Int}{i:Nat}{y:Int}(f2:r2.length=i)(f4:∀ x,x<i→P x (r2.getD x 0))(hy:P i y){x:Nat}(hx:x<i+1):P x ((r2++[y]).getD x 0):=by
 by_cases c:x<i
 ·rw [List.getD_eq_getElem?_getD,List.getElem?_append_left (by omega),← List.getD_eq_getElem?_getD]
  exact f4 x c
 ·obtain rfl:x=i:=by omega
  rw [List.getD_eq_getElem?_getD,List.getElem?_append_right (by omega),f2,Nat.sub_self]
  exact hy
theorem aDV {hs:List Int}{u w:Nat}:(if (!decide (hs.getD u 0=hs.getD w 0))=true then 1 else 0)=if hs.getD (min u w) 0=hs.getD (max u w) 0 then 0 else 1:=by
 have key:∀ x y:Int,(if (!decide (x=y))=true then 1 else 0)=if x=y then 0 else 1:=fun x y=>by by_cases e:x=y <;> simp [e]
 by_cases c:u≤w
 ·rw [Nat.min_eq_left c,Nat.max_eq_right c]
  exact key _ _
 ·rw [Nat.min_eq_right (by omega),Nat.max_eq_left (by omega),key]
  by_cases e:hs.getD u 0=hs.getD w 0
  ·rw [if_pos e,if_pos e.symm]
  ·rw [if_neg e,if_neg (fun z=>e z.symm)]
theorem aCe {r:Nat}{c:Bool}{H:Hp}{Q:VK}(q:∀ tw:Nat,tw≤2*r+1→tw % 2=(if c=true then 1 else 0)→Q (.int (tw:Int)) H):bH K (.int (2*(r:Int))) (.int (if c then 1 else 0)) H Q:=by
 cases c with
 | true=>
  show Q (.int (2*(r:Int)+1)) H
  rw [show 2*(r:Int)+1=((2*r+1:Nat):Int) by omega]
  exact q _ (Nat.le_refl _) (by show (2*r+1) % 2=1;omega)
 | false=>
  show Q (.int (2*(r:Int)+0)) H
  rw [show 2*(r:Int)+0=((2*r:Nat):Int) by omega]
  exact q _ (by omega) (by show (2*r) % 2=0;omega)
theorem aDW {x y:Nat}{H:Hp}{Q:VK}(q:Q (.int ((min x y:Nat):Int)) H):rC [.int (x:Int), .int (y:Int)] H Q:=⟨_,_,rfl,by
 rw [show (if (y:Int)<(x:Int) then (y:Int) else (x:Int))=((min x y:Nat):Int) by split <;> omega]
 exact q⟩
theorem aDH {x y:Nat}{H:Hp}{Q:VK}(q:Q (.int ((max x y:Nat):Int)) H):tD [.int (x:Int), .int (y:Int)] H Q:=⟨_,_,rfl,by
 rw [show (if (y:Int) > (x:Int) then (y:Int) else (x:Int))=((max x y:Nat):Int) by split <;> omega]
 exact q⟩
theorem yD {H H':Hp}{p b:Addr}{L xs:List V}(h:SqT K H b xs)(hp:H p=some (.lst L))(s:SameX p H H'):SqT K H' b xs:=by
 rcases h with (h | ⟨o,h⟩) | h
 ·exact .inl (.inl (s _ _ (ne_of h hp fun e=>by cases e) h))
 ·exact .inl (.inr ⟨o,s _ _ (ne_of h hp fun e=>by cases e) h⟩)
 ·exact .inr h
theorem vG {H H':Hp}{xs:List V}{R:List (List Int)}(h:jP K H xs R)(f:∀ b ys,SqT K H b ys→SqT K H' b ys):jP K H' xs R:=⟨h.1,fun i row hr=>let ⟨b,e,g,a,c,t,z,er,hb,hg⟩:=h.2 i row hr;⟨b,e,g,a,c,t,z,er,f _ _ hb,f _ _ hg⟩⟩
theorem zN {H:Hp}{xs:List V}{R:List (List Int)}{b:Addr}{r:List Int}(h:jP K H xs R)(hb:Tri K H b r):jP K H (xs++[.ref b]) (R++[r]):=by
 refine ⟨by rw [List.length_append,List.length_append,h.1];rfl,fun i row e=>?_⟩
 by_cases hi:i<R.length
 ·rw [List.getElem?_append_left hi] at e
  rw [List.getElem?_append_left (by rw [h.1];exact hi)]
  exact h.2 i row e
 ·have hj:i<(R++[r]).length:=(List.getElem?_eq_some_iff.mp e).1
  obtain rfl:i=R.length:=by rw [List.length_append] at hj;simp at hj;omega
  rw [List.getElem?_append_right (Nat.le_refl _),Nat.sub_self] at e
  cases e
  exact ⟨b,by rw [List.getElem?_append_right (by rw [h.1];exact Nat.le_refl _),h.1,Nat.sub_self];rfl,hb⟩
noncomputable def Dz (n:Nat) (q:Tq):Prop:=tJ n q∧q.2.2.1≤200000∧q.2.2.2≤2
noncomputable def Hv (hs:List Int) (q:Tq):Prop:=∃ tw:Nat,tw≤140001∧wt q*2=(tw:Int)*wb q∧(tw % 2=if hs.getD q.1 0=hs.getD q.2.1 0 then 0 else 1)
noncomputable def drE (K:PySem.W.Frag):TS:=aX (sI (tBM K "list" jW (aD 7) (aC (oJ (aC (tCB rC (aC (aD 9) (aC (aD 10) aU))) (aC (tCB tD (aC (aD 9) (aC (aD 10) aU))) (aC (aD 12) aU)))) aU))) aR
noncomputable def pF (K:PySem.W.Frag):Sp:=fun vs H Q _=>∃ (p l:Addr) (ns:List Int) (b n:Nat),vs=[.ref p, .int (n:Int)]∧PenN H p l ns b∧b≤80000∧1≤n∧n≤8∧∀ (a:Addr) (xs:List V) (qs:List Tq) H',PenN H' p l ns (b+100)→SameX p H H'→SqT K H' a xs→jP K H' xs (qs.map mE)→Dn n (.tup (qs.map kK))→(∀ q∈qs,Dz (qs.length+1) q)→(∃ hs:List Int,(∀ x,x<n→hs.getD x 0=0)∧(∀ x,hs.getD x 0=0∨hs.getD x 0=1)∧∀ q∈qs,Hv hs q)→Q (.ref a) H'
theorem aAu:∀ vs H Q E,pF K vs H Q E→iX K hX { nx:=fun _ H'=>Q .non H',rt:=Q } (start ["pen","many","size","names","mixed","odd","top","ties","k","one","other","halves","far_off"] vs) H:=by
 intro vs H Q E h
 obtain ⟨p,lp,ns,b,m,rfl,hP,hb,m1,m8,q⟩:=h
 refine ⟨_,rfl,_,rfl,_,rfl,_,_,rfl,rfl,?_⟩
 dsimp only [aU,tC,List.cons_append,List.nil_append]
 rw [show ((15:Int) - (m:Int))=((15 - m:Nat):Int) by omega]
 refine tkN hP (by omega) (by omega) (by omega) fun r H1 hr hP1 sx1=>?_
 refine aDS ?_
 obtain ⟨n,hn⟩:∃ n,n=m+r:=⟨_,rfl⟩
 rw [← hn]
 have n1:m≤n:=by omega
 have n14:n≤14:=by omega
 refine ⟨_,rfl, .inl ⟨_,rfl,fun rg hrg => .inr ⟨rg,0,(n:Int),rfl,aE,⟨by decide,by decide,by omega,by omega,by omega⟩,fun l hl=>?_⟩⟩⟩
 rw [aGj]
 refine ⟨show 0≤sizeLine by decide,fun F hF=>?_⟩
 have s1:=aM hrg (.rng 0 (n:Int))
 have s2:=aM hl (.lst ((List.range n).map fW))
 have s3:=aM hF (.lst [])
 have nl:=(hP1.x s1).ne hl
 have nF:=((hP1.x s1).x s2).ne hF
 have hl1:=s1.free hl
 have hF1:=s1.free (s2.free hF)
 have lF:l≠F:=aL (show upd (upd H1 rg (.rng 0 (n:Int))) l (.lst ((List.range n).map fW)) l=some (.lst ((List.range n).map fW)) from aE) hF
 refine ⟨fun m' σ' H'=>∃ (ls fs:List Nat),σ'=[some (.ref p),some (.int (m:Int)),some (.int (n:Int)),some (.ref l),some (.ref F),none,none,none,none,none,none,none,none]∧PenN H' p lp ns (b+1+fs.length)∧H' l=some (.lst (ls.map fW))∧H' F=some (.lst (fs.map fW))∧SameX p H1 H'∧ls.length=m'∧(fs++ls).Perm (List.range n),
  ⟨n,List.range n,[],rfl,((hP1.x s1).x s2).x s3,s3 _ _ aE,aE,((s1.trans s2).trans s3).x,List.length_range, .refl _⟩,?_⟩
 rintro m' σ' H' ⟨ls,fs,rfl,hP',el,eF,sx,rfl,pm⟩
 have le:fs.length+ls.length=n:=by rw [← List.length_append,pm.length_eq,List.length_range]
 refine ⟨_,rfl,show 0≤sizeLine by decide,fun pe hpe=>?_⟩
 have se:=aM hpe (.lst [])
 refine ⟨.lst ((ls.map fun x:Nat=>(x:Int)).map Dt.int), .lst [],by rw [dep];have:oH ((ls.map fun x:Nat=>(x:Int)).map Dt.int)=0:=okD _;omega,⟨l,_,rfl, .of (se _ _ el),by rw [uU];exact ShL.ints _⟩,⟨pe,[],rfl, .of aE,rfl⟩,_,rfl,?_⟩
 cases ls with
 | cons a ls=>
  refine cE (by simp [eqD,eqL]) ?_
  have hPe:=hP'.x se
  have ele:=se _ _ el
  have eFe:=se _ _ eF
  have sxe:=sx.trans se.x
  generalize upd H' pe (.lst [])=G1 at *
  rw [List.length_cons] at le
  refine ⟨fun σ2 H2=>∃ m',m'<(a :: ls).length∧∃ (ls fs:List Nat),σ2=[some (.ref p),some (.int (m:Int)),some (.int (n:Int)),some (.ref l),some (.ref F),none,none,none,none,none,none,none,none]∧PenN H2 p lp ns (b+1+fs.length)∧H2 l=some (.lst (ls.map fW))∧H2 F=some (.lst (fs.map fW))∧SameX p H1 H2∧ls.length=m'∧(fs++ls).Perm (List.range n),fun _ _ h=>h,?_⟩
  refine ⟨_,rfl, .inl ⟨rfl,_, .of eFe⟩,_,rfl, .inl ⟨rfl,_, .of ele⟩,_,rfl,_,rfl,l,_,rfl, .inl (.of ele),?_⟩
  rw [List.length_map]
  dsimp only [aU,tC,List.cons_append,List.nil_append]
  refine tkN hPe (by omega) (by simp) (by rw [List.length_cons];omega) fun r H2 hr hP2 sx2=>?_
  have el2:H2 l=some (.lst ((a :: ls).map fW)):=sx2 _ _ nl.1 ele
  have eF2:H2 F=some (.lst (fs.map fW)):=sx2 _ _ nF.1 eFe
  have rl:(r:Int)<2 ^ 63:=by rw [List.length_cons] at hr;omega
  refine ⟨l,_,_,r,fW (a :: ls)[r],rfl,rfl,el2,by omega,rl,by rw [List.length_map];exact aEP hr,by rw [List.getElem?_map,List.getElem?_eq_getElem hr];rfl,?_⟩
  rw [qS]
  refine ⟨F,fs.map fW,_,rfl,rfl,by rw [aO (Ne.symm lF)];exact eF2,Nat.lt_of_le_of_lt (show (fs.map fW).length≤14 by rw [List.length_map];omega) (by decide),?_⟩
  refine ⟨ls.length,by rw [List.length_cons];omega,(a :: ls).eraseIdx r,fs++[(a :: ls)[r]],rfl,((hP2.upd nl.1 nl.2).upd nF.1 nF.2).le (by rw [List.length_append];simp;omega),by rw [aO lF];exact aE,by rw [aE,List.map_append];rfl,fun c o hc e=>?_,by rw [List.length_eraseIdx_of_lt hr];rfl,(wA hr).trans pm⟩
  rw [aO (aL e hF1),aO (aL e hl1)]
  exact sx2 _ _ hc (sxe _ _ hc e)
 | nil=>
  refine bW (by simp [eqD,eqL]) ?_
  rw [List.append_nil] at pm
  have hPe:=hP'.x se
  have eFe:=se _ _ eF
  have sxe:=sx.trans se.x
  generalize upd H' pe (.lst [])=G1 at *
  have fl:fs.length=n:=by simpa using le
  rw [fl] at hPe
  have f14:∀ x∈fs,x<n:=fun x hx=>List.mem_range.mp (pm.mem_iff.mp hx)
  have fnd:fs.Nodup:=pm.nodup_iff.mpr List.nodup_range
  refine ⟨_,rfl,(n:Int),rfl,by omega,by omega,fun A hA=>?_⟩
  rw [Int.toNat_natCast]
  have nA:=hPe.ne hA
  have AF:F≠A:=aL eFe hA
  refine oO (lo:=0) (n:=n) (vars:=[0]) p (fun i L H'=>∃ r:List Int,L=r.map V.int∧r.length=i∧PenN H' p lp ns (b+1+n+i)∧∀ x,x<i→(x<m→r.getD x 0=0)∧(r.getD x 0=0∨r.getD x 0=1)) (by decide) (by show 0<3;decide) ⟨[],rfl,rfl,hPe.x (aM hA _),fun x hx=>by omega⟩ hA (fun i σ2 H2 L2 D hi l2 ag2 g0 sx2 ha2 ⟨r2,f1,f2,hP2,f4⟩ hD=>?_) fun σ2 H2 L2 sx2 ha2 ⟨hs,f1,f2,hP2,f4⟩=>?_
  ·have t1:σ2[1]?=some (some (.int (m:Int))):=(ag2 1 (by decide)).trans rfl
   have t2:σ2[2]?=some (some (.ref p)):=(ag2 2 (by decide)).trans rfl
   refine ⟨_,g0,_,t1,_,_,rfl,rfl, .inr ⟨_,rfl,_,t2,?_⟩⟩
   dsimp only [aC,aU,tC,List.cons_append,List.nil_append]
   refine tkN (m:=2) hP2 (by omega) (by decide) (by decide) fun r H3 hr hP3 sx3=>?_
   refine ⟨.inr ⟨by omega,by omega⟩,?_⟩
   have ha3:=sx3 _ _ nA.1 ha2
   refine ⟨L2,ha3,by rw [f1,List.length_map];exact Nat.lt_of_le_of_lt (show r2.length≤14 by omega) (by decide),?_⟩
   refine hD σ2 _ _ l2 ag2 (fun c o hc e=>?_) aE ⟨r2++[(if decide ((0:Int)+(i:Int)≥(m:Int))=true then 1 else 0)*(r:Int)],by rw [f1,List.map_append];rfl,by rw [List.length_append,f2];rfl,(hP3.upd nA.1 nA.2).le (by omega),fun x hx=>aBQ (P:=fun x v=>(x<m→v=0)∧(v=0∨v=1)) f2 f4 ⟨fun e=>by rw [decide_eq_false (by omega)];simp,by split <;> omega⟩ hx⟩
   rw [aO (aL e hA)]
   exact sx3 _ _ hc (sx2 _ _ hc e)
  ·subst f1
   have eF2:=sx2 _ _ nF.1 eFe
   have sxb:=sxe.trans sx2
   refine ⟨show 4≤sizeLine by decide,fun lq hlq=>⟨_,rfl,?_⟩⟩
   have sq:=aM hlq (.lst [V.int 1, .int 4, .int 30, .int 70000])
   have nq:=hP2.ne hlq
   dsimp only [aC,aU,tC,List.cons_append,List.nil_append]
   refine tkN (m:=4) (hP2.x sq) (by omega) (by decide) (by decide) fun r3 H3 hr3 hP3 sx3=>?_
   obtain ⟨mo,hmo,mo1⟩:∃ mo:Nat,([V.int 1, .int 4, .int 30, .int 70000])[r3]?=some (.int (mo:Int))∧mo≤70000:=by
    match r3,hr3 with
    | 0,_=>exact ⟨1,rfl,by decide⟩
    | 1,_=>exact ⟨4,rfl,by decide⟩
    | 2,_=>exact ⟨30,rfl,by decide⟩
    | 3,_=>exact ⟨70000,rfl,by decide⟩
   refine ixL (j:=r3) (v := .int (mo:Int)) (.of (sx3 _ _ nq.1 aE)) hmo ?_
   have sxc:SameX p H1 H3:=(sxb.trans sq.x).trans sx3
   have eF3:=sx3 _ _ nF.1 (sq _ _ eF2)
   have eA3:=sx3 _ _ nA.1 (sq _ _ ha2)
   refine ⟨show 0≤sizeLine by decide,fun T hT=>?_⟩
   have sT:=aM hT (.lst [])
   have nT:=hP3.ne hT
   have TF:F≠T:=aL eF3 hT
   have TA:A≠T:=aL eA3 hT
   refine ⟨_,rfl,1,(n:Int),rfl,⟨by decide,by decide,by omega,by omega⟩,?_⟩
   refine bV (lo:=1) (n:=((n:Int) - 1).toNat) (fun i σ' H'=>(∃ x8 x9 x10 x11 x12,σ'=[some (.ref p),some (.int (m:Int)),some (.int (n:Int)),some (.ref l),some (.ref F),some (.ref A),some (.int (mo:Int)),some (.ref T),x8,x9,x10,x11,x12])∧PenN H' p lp ns (b+30+2*i)∧SameX p H3 H'∧∃ (xs:List V) (qs:List Tq),H' T=some (.lst xs)∧jP K H' xs (qs.map mE)∧qs.length=i∧(∀ t∈qs,Dz n t∧Hv hs t)∧∀ j,j≤i→∀ x y,fs[0]?=some x→fs[j]?=some y→K63.Q.Cn (qs.map pr) (List.range n) x y) ⟨⟨_,_,_,_,_,rfl⟩,(hP3.x sT).le (by omega),sT.x,[],[],aE,⟨rfl,fun i row h=>by cases h⟩,rfl,by simp,fun j hj x y h0 hy=>?_⟩ (fun i σ4 H4 hi ⟨⟨x8,x9,x10,x11,x12,es⟩,hP4,sx4,xs,qs,eT,rq,ql,hqs,hcn⟩=>?_) fun σ4 H4 ⟨⟨x8,x9,x10,x11,x12,es⟩,hP4,sx4,xs,qs,eT,rq,ql,hqs,hcn⟩=>?_
   ·obtain rfl:j=0:=by omega
    rw [h0] at hy
    cases hy
    exact .refl _
   ·subst es
    rw [show ((1:Int)+(i:Int))=((i+1:Nat):Int) by omega]
    have i1:i+1<fs.length:=by omega
    have eF4:=sx4 _ _ nF.1 eF3
    have eA4:=sx4 _ _ nA.1 eA3
    refine ⟨_,rfl,_,rfl,ixL (j:=i+1) (v:=fW fs[i+1]) (.of eF4) (by rw [List.getElem?_map,List.getElem?_eq_getElem i1];rfl) ⟨_,rfl,_,rfl,_,rfl,?_⟩⟩
    dsimp only [aU,tC,List.cons_append,List.nil_append]
    refine tkN hP4 (by omega) (by omega) (by omega) fun r H5 hr hP5 sx5=>?_
    have hr':r<fs.length:=by omega
    have eF5:=sx5 _ _ nF.1 eF4
    have eA5:=sx5 _ _ nA.1 eA4
    refine ixL (j:=r) (v:=fW fs[r]) (.of eF5) (by rw [List.getElem?_map,List.getElem?_eq_getElem hr'];rfl) ⟨_,_,rfl,?_⟩
    have o1:=f14 _ (List.getElem_mem i1)
    have o2:=f14 _ (List.getElem_mem hr')
    have one:fs[i+1]≠fs[r]:=Ne.symm ((List.pairwise_iff_getElem.mp fnd) r (i+1) hr' i1 (by omega))
    have c1:K63.Q.Cn (qs.map pr) (List.range n) fs[0] fs[r]:=hcn r (by omega) _ _ (List.getElem?_eq_getElem (by omega)) (List.getElem?_eq_getElem hr')
    obtain ⟨u,hu⟩:∃ u,u=fs[i+1]:=⟨_,rfl⟩
    obtain ⟨w,hw⟩:∃ w,w=fs[r]:=⟨_,rfl⟩
    rw [← hu] at o1 one
    rw [← hw] at o2 one c1
    rw [← hu,← hw]
    refine ⟨_,rfl,_,rfl,?_⟩
    dsimp only [tC]
    refine aDS (x:=mo) (y:=1) ?_
    dsimp only [aU,tC,List.cons_append,List.nil_append]
    refine tkN hP5 (by omega) (by omega) (by omega) fun r2 H6 hr2 hP6 sx6=>?_
    refine ⟨.inr ⟨by omega,by omega⟩,?_⟩
    have eA6:=sx6 _ _ nA.1 eA5
    refine ⟨_,rfl,_,rfl,ixL (j:=u) (v := .int (hs.getD u 0)) (.of eA6) (by rw [List.getElem?_map,L2.jL (by omega)];rfl) ⟨_,rfl,_,rfl,ixL (j:=w) (v := .int (hs.getD w 0)) (.of eA6) (by rw [List.getElem?_map,L2.jL (by omega)];rfl) ⟨.int _, .int _,Nat.zero_le _,rfl,rfl, .inr ⟨_,rfl,?_⟩⟩⟩⟩
    refine aCe fun tw htw hpar=>?_
    have pL:=hP4.lst
    obtain ⟨PL,pL⟩:=pL
    have sx46:=sx5.trans sx6
    have eT6:H6 T=some (.lst xs):=sx46 _ _ nT.1 eT
    have rq6:jP K H6 xs (qs.map mE):=vG rq fun _ _ hb=>yD hb pL sx46
    have fin:∀ (t z:Nat) (g:Addr) (G:Hp),t≤200000→1≤z→z≤2→t.gcd z=1→t*2=tw*z→Same H6 G→SqT K G g ([(t:Int),(z:Int)].map V.int)→drE K { nx:=fun σ' H'=>(∃ x8 x9 x10 x11 x12,σ'=[some (.ref p),some (.int (m:Int)),some (.int (n:Int)),some (.ref l),some (.ref F),some (.ref A),some (.int (mo:Int)),some (.ref T),x8,x9,x10,x11,x12])∧PenN H' p lp ns (b+30+2*(i+1))∧SameX p H3 H'∧∃ (xs:List V) (qs:List Tq),H' T=some (.lst xs)∧jP K H' xs (qs.map mE)∧qs.length=i+1∧(∀ t∈qs,Dz n t∧Hv hs t)∧∀ j,j≤i+1→∀ x y,fs[0]?=some x→fs[j]?=some y→K63.Q.Cn (qs.map pr) (List.range n) x y,rt:=Q } [some (.ref p),some (.int (m:Int)),some (.int (n:Int)),some (.ref l),some (.ref F),some (.ref A),some (.int (mo:Int)),some (.ref T),some (.int ((i+1:Nat):Int)),some (fW u),some (fW w),some (.int (tw:Int)),some (.ref g)] G:=fun t z g G t2 z1 z2 tz h2 sG hg=>by
     refine ⟨_,rfl, .inl ⟨rfl,_, .of (sG _ _ eT6)⟩,_,rfl,_,rfl,?_⟩
     dsimp only [aU]
     refine aDW (x:=u) (y:=w) ?_
     refine ⟨_,rfl,_,rfl,?_⟩
     dsimp only [aU]
     refine aDH (x:=u) (y:=w) ?_
     refine ⟨_,rfl,show 3≤sizeLine by decide,fun c hc=>?_⟩
     have sc:=aM hc (.tup [V.int ((min u w:Nat):Int), .int ((max u w:Nat):Int), .ref g])
     have eTc:=sc _ _ (sG _ _ eT6)
     refine ⟨T,xs,_,rfl,rfl,eTc,?_,⟨_,_,_,_,_,rfl⟩,(((hP6.x sG).x sc).upd nT.1 nT.2).le (by omega),fun d o hd e=>?_,xs++[.ref c],qs++[(min u w,max u w,(t:Int),(z:Int))],aE,?_,by rw [List.length_append,ql];rfl,fun t' ht=>?_,fun j hj x y h0 hy=>?_⟩
     ·rw [rq.1,List.length_map,ql]
      exact Nat.lt_of_le_of_lt (show i≤14 by omega) (by decide)
     ·rw [aO (aL e hT)]
      exact sc _ _ (sG _ _ (sx46 _ _ hd (sx4 _ _ hd e)))
     ·rw [List.map_append]
      refine zN (vG rq6 fun _ _ hb=>eD (sc.tup (sG.tup hb)) eTc) ⟨g,_,_,_,_,rfl,eD (.of aE) eTc,eD (sc.tup hg) eTc⟩
     ·rcases List.mem_append.mp ht with ht | ht
      ·exact hqs t' ht
      ·rw [List.mem_singleton.mp ht]
       refine ⟨⟨⟨by show min u w<max u w;omega,by show max u w<n;omega,by show (0:Int)≤(t:Int);omega,by show (1:Int)≤(z:Int);omega,by show Int.gcd (t:Int) (z:Int)=1;exact tz⟩,by show (t:Int)≤200000;omega,by show (z:Int)≤2;omega⟩,tw,by omega,by show (t:Int)*2=(tw:Int)*(z:Int);exact_mod_cast h2,?_⟩
       show tw % 2=if hs.getD (min u w) 0=hs.getD (max u w) 0 then 0 else 1
       rw [hpar,iA]
       exact aDV
     ·have mono:∀ {x y},K63.Q.Cn (qs.map pr) (List.range n) x y→K63.Q.Cn ((qs++[(min u w,max u w,(t:Int),(z:Int))]).map pr) (List.range n) x y:=fun h=>h.mono (fun e he=>by rw [List.map_append];exact List.mem_append_left _ he) fun _ h=>h
      by_cases cj:j≤i
      ·exact mono (hcn j cj x y h0 hy)
      ·obtain rfl:j=i+1:=by omega
       rw [List.getElem?_eq_getElem i1,← hu] at hy
       cases hy
       rw [List.getElem?_eq_getElem (by omega)] at h0
       cases h0
       refine .step (mono c1) (List.mem_range.mpr o2) (List.mem_range.mpr o1) ?_
       show (min w u,max w u)∈_
       rw [List.map_append,Nat.min_comm,Nat.max_comm]
       exact List.mem_append_right _ (by simp [pr])
    refine ⟨_,rfl,_,_,rfl,rfl,by show (0:Int)<2;decide, .int _, .int _,Nat.zero_le _,rfl,rfl,_,rfl,?_⟩
    by_cases ce:tw % 2=0
    ·refine cE (by rw [iA];exact decide_eq_true (by show (tw:Int) % 2=0;omega)) ⟨_,rfl,_,_,rfl,rfl,⟨by decide,by decide⟩,show 2≤sizeLine by decide,fun g hg=>?_⟩
     have sg:=aM hg (.tup [V.int ((tw:Int) / 2), .int 1])
     refine fin (tw / 2) 1 g _ (by omega) (by decide) (by decide) (Nat.gcd_one_right _) (by omega) sg (.of ?_)
     rw [aE]
     show some (HO.tup [V.int ((tw:Int) / 2), .int 1])=some (.tup [.int ((tw / 2:Nat):Int), .int 1])
     rw [show ((tw:Int) / 2)=((tw / 2:Nat):Int) by omega]
    ·refine bW (by rw [iA];exact decide_eq_false (by show ¬ (tw:Int) % 2=0;omega)) ⟨_,rfl,show 2≤sizeLine by decide,fun g hg=>?_⟩
     have sg:=aM hg (.tup [V.int (tw:Int), .int 2])
     refine fin tw 2 g _ (by omega) (by decide) (by decide) ?_ rfl sg (.of aE)
     have hd:Nat.gcd tw 2 ∣ 2:=Nat.gcd_dvd_right _ _
     have hd1:Nat.gcd tw 2 ∣ tw:=Nat.gcd_dvd_left _ _
     have hle:Nat.gcd tw 2≤2:=Nat.le_of_dvd (by decide) hd
     have hpos:0<Nat.gcd tw 2:=Nat.gcd_pos_of_pos_right _ (by decide)
     rcases (show Nat.gcd tw 2=1∨Nat.gcd tw 2=2 by omega) with h | h
     ·exact h
     ·rw [h] at hd1
      omega
   ·subst es
    have qn:qs.length+1=n:=by omega
    refine ⟨_,rfl,T,xs,qs.map mE,rfl, .inl (.of eT),rq,by rw [List.length_map];omega,fun ys' R' pm' pw py rq' sl hsl=>?_⟩
    obtain ⟨qs',pq,eR⟩:=uP pm' qs rfl
    subst eR
    have ss:=aM hsl (.lst ys')
    refine ⟨sl,ys',rfl, .inl ⟨.of aE,fun a ha=>?_⟩⟩
    have sa:=aM ha (.tup ys')
    have ql':qs'.length=qs.length:=pq.length_eq
    have hdz:∀ t∈qs',Dz (qs'.length+1) t:=fun t ht=>by rw [ql',qn];exact (hqs t (pq.mem_iff.mp ht)).1
    refine q a ys' qs' _ (((hP4.x ss).x sa).le (by omega)) (((sx1.trans sxc).trans sx4).trans (ss.trans sa).x) (.of aE) (gT (gT rq' ss) sa) (aBn.mpr ⟨by omega,by omega,fun t ht=>(hdz t ht).1,pw,?_⟩) hdz ⟨hs,fun x hx=>(f4 x (by omega)).1 hx,fun x=>by by_cases hx:x<n;exact (f4 x hx).2;rw [List.getD_eq_getElem?_getD,List.getElem?_eq_none (by omega)];exact .inl rfl,fun t ht=>(hqs t (pq.mem_iff.mp ht)).2⟩
    have f0:0<fs.length:=by omega
    have cn0:∀ x,x<n→K63.Q.Cn (qs.map pr) (List.range n) fs[0] x:=fun x hx=>by
     obtain ⟨j,hj,e⟩:=List.getElem_of_mem (pm.mem_iff.mpr (List.mem_range.mpr hx))
     exact hcn j (by omega) _ _ (List.getElem?_eq_getElem f0) (by rw [List.getElem?_eq_getElem hj,e])
    rw [ql',qn]
    intro x hx
    exact ((cn0 0 (by omega)).symm.trans (cn0 x hx)).mono (fun e he=>(pq.map pr).mem_iff.mpr he) fun _ h=>h
end
end K63
namespace K63
open PySem L2
structure Fp (D:Nat→Nat→Int)(n:Nat):Prop where
 pos:0<n
 z:∀ i,i<n→D i i=0
 sy:∀ i j,i<n→j<n→D i j=D j i
 fp:∀ i j k l,i<n→j<n→k<n→l<n→D i j+D k l≤D i k+D j l∨D i j+D k l≤D i l+D j k
noncomputable def gp (D:Nat→Nat→Int) (p q:Nat):Int:=D 0 p+D 0 q - D p q
noncomputable def hp (D:Nat→Nat→Int) (p:Nat):Int:=2*D 0 p
section
variable {D:Nat→Nat→Int}{n:Nat}
theorem Fp.um (F:Fp D n){p q r:Nat}(h1:p<n)(h2:q<n)(h3:r<n):gp D p r≤gp D p q∨gp D q r≤gp D p q:=by
 have a:=F.fp p q r 0 h1 h2 h3 F.pos
 have b:=F.sy r 0 h3 F.pos
 have c:=F.sy q 0 h2 F.pos
 have d:=F.sy p 0 h1 F.pos
 unfold gp
 omega
theorem Fp.gs (F:Fp D n){p q:Nat}(h1:p<n)(h2:q<n):gp D p q=gp D q p:=by
 have:=F.sy p q h1 h2
 unfold gp
 omega
theorem Fp.gg (F:Fp D n){p:Nat}(h1:p<n):gp D p p=hp D p:=by
 have:=F.z p h1
 unfold gp hp
 omega
theorem Fp.gn (F:Fp D n){p q:Nat}(h1:p<n)(h2:q<n):0≤gp D p q:=by
 have a:=F.fp p q 0 0 h1 h2 F.pos F.pos
 have:=F.z 0 F.pos
 have b:=F.sy p 0 h1 F.pos
 have c:=F.sy q 0 h2 F.pos
 unfold gp
 omega
theorem Fp.gh (F:Fp D n){p q:Nat}(h1:p<n)(h2:q<n):gp D p q≤hp D p:=by
 have a:=F.fp 0 q p p F.pos h2 h1 h1
 have:=F.z p h1
 have b:=F.sy q p h2 h1
 unfold gp hp
 omega
theorem Fp.hn (F:Fp D n){p:Nat}(h1:p<n):0≤hp D p:=by
 have:=F.gn h1 h1
 rwa [F.gg h1] at this
theorem Fp.cut (F:Fp D n){p q r:Nat}{t:Int}(h1:p<n)(h2:q<n)(h3:r<n)(ht:t≤gp D p q):min t (gp D p r)=min t (gp D q r):=by
 have a:=F.um h1 h3 h2
 have b:=F.um h2 h3 h1
 have c:=F.gs h1 h2
 have d:=F.gs h2 h3
 have e:=F.gs h1 h3
 omega
end
noncomputable def upF {α:Type} (f:Nat→α) (a:Nat) (b:α):Nat→α:=fun x=>if x=a then b else f x
theorem aP {α:Type}{f:Nat→α}{a:Nat}{b:α}:upF f a b a=b:=by simp [upF]
theorem aW {α:Type}{f:Nat→α}{a x:Nat}{b:α}(h:x≠a):upF f a b x=f x:=by simp [upF,h]
noncomputable def mt (D:Nat→Nat→Int) (r:Nat→Nat) (δ:Nat→Int) (s v:Nat):Int:=min (δ s) (min (δ v) (gp D (r s) (r v)))
structure Tv (D:Nat→Nat→Int)(n:Nat)(V:Nat→Prop)(r:Nat→Nat)(δ:Nat→Int)(par:Nat→Nat)(rk:Nat→Nat):Prop where
 root:V 0
 zero:δ 0=0
 rep:∀ v,V v→r v<n∧0≤δ v∧δ v≤hp D (r v)
 pin:∀ v,V v→v≠0→V (par v)
 A:∀ v,V v→v≠0→δ (par v)≤δ v∧δ (par v)≤gp D (r (par v)) (r v)
 B:∀ s v,V s→V v→v≠0→mt D r δ s v≤δ (par v)∨mt D r δ s v=δ v
 E:∀ v v',V v→V v'→v≠v'→v≠0→v'≠0→δ v=δ v'→δ v≤gp D (r v) (r v')→δ (par v)=δ v∨δ (par v')=δ v'
 rkd:∀ v,V v→v≠0→rk (par v)<rk v
section
variable {D:Nat→Nat→Int}{n:Nat}{V:Nat→Prop}{r:Nat→Nat}{δ:Nat→Int}{par rk:Nat→Nat}
theorem aDd (F:Fp D n):Tv D n (fun v=>v=0) (fun _=>0) (fun _=>0) (fun _=>0) (fun _=>0) where
 root:=rfl
 zero:=rfl
 rep:=fun v _=>⟨F.pos,Int.le_refl _,F.hn F.pos⟩
 pin:=fun v h1 h2=>absurd h1 h2
 A:=fun v h1 h2=>absurd h1 h2
 B:=fun s v _ h1 h2=>absurd h1 h2
 E:=fun v v' h1 _ _ h2=>absurd h1 h2
 rkd:=fun v h1 h2=>absurd h1 h2
theorem Tv.leaf (T:Tv D n V r δ par rk)(F:Fp D n){w p:Nat}(hw:V w)(hpn:p<n)(hp0:¬ V p)(h1:δ w≤hp D p)(h2:δ w≤gp D (r w) p)(h3:∀ s,V s→gp D p (r s)≤δ w) :
  Tv D n (fun v=>V v∨v=p) (upF r p p) (upF δ p (hp D p)) (upF par p w) (upF rk p (rk w+1)):=by
 have ne:∀ {v},V v→v≠p:=fun h e=>hp0 (e ▸ h)
 have hz:(0:Nat)≠p:=ne T.root
 obtain ⟨rw1,_,_⟩:=T.rep w hw
 have mp:∀ v',V v'→mt D (upF r p p) (upF δ p (hp D p)) p v'=mt D r δ w v':=fun v' hv'=>by
  obtain ⟨r1,_,_⟩:=T.rep v' hv'
  unfold mt
  rw [aP,aP,aW (ne hv'),aW (ne hv')]
  have a:=h3 v' hv'
  have b:=F.cut (r:=r v') rw1 hpn r1 h2
  omega
 have mo:∀ s v,V s→V v→mt D (upF r p p) (upF δ p (hp D p)) s v=mt D r δ s v:=fun s v hs hv=>by
  unfold mt
  rw [aW (ne hs),aW (ne hs),aW (ne hv),aW (ne hv)]
 refine ⟨.inl T.root,by rw [aW hz];exact T.zero,fun v hv=>?_,fun v hv h0=>?_,fun v hv h0=>?_,fun s v hs hv h0=>?_,fun v v' hv hv' hne h0 h0' e1 e2=>?_,fun v hv h0=>?_⟩
 ·rcases hv with hv | rfl
  ·rw [aW (ne hv),aW (ne hv)];exact T.rep v hv
  ·rw [aP,aP];exact ⟨hpn,F.hn hpn,Int.le_refl _⟩
 ·rcases hv with hv | rfl
  ·rw [aW (ne hv)];exact .inl (T.pin v hv h0)
  ·rw [aP];exact .inl hw
 ·rcases hv with hv | rfl
  ·have hq:=T.pin v hv h0
   rw [aW (ne hv),aW (ne hv),aW (ne hv),aW (ne hq),aW (ne hq)]
   exact T.A v hv h0
  ·rw [aP,aP,aP,aW (ne hw),aW (ne hw)]
   exact ⟨h1,h2⟩
 ·rcases hv with hv | rfl
  ·have hq:=T.pin v hv h0
   rw [aW (ne hv) (f:=par),aW (ne hq),aW (ne hv) (f:=δ)]
   rcases hs with hs | rfl
   ·rw [mo s v hs hv];exact T.B s v hs hv h0
   ·rw [mp v hv];exact T.B w v hw hv h0
  ·rw [aP (f:=par),aP (f:=δ),aW (ne hw)]
   rcases hs with hs | rfl
   ·left
    have a:=h3 s hs
    have b:=F.gs hpn (T.rep s hs).1
    unfold mt
    rw [aP,aP,aW (ne hs),aW (ne hs)]
    omega
   ·right
    unfold mt
    rw [aP,aP,F.gg hpn]
    omega
 ·rcases hv with hv | rfl
  ·have hq:=T.pin v hv h0
   rcases hv' with hv' | rfl
   ·have hq':=T.pin v' hv' h0'
    rw [aW (ne hv),aW (ne hv')] at e1
    rw [aW (ne hv),aW (ne hv),aW (ne hv')] at e2
    rw [aW (ne hv),aW (ne hv'),aW (ne hv),aW (ne hv'),aW (ne hq),aW (ne hq')]
    exact T.E v v' hv hv' hne h0 h0' e1 e2
   ·right
    rw [aW (ne hv),aP] at e1
    rw [aW (ne hv),aW (ne hv),aP] at e2
    rw [aP,aP,aW (ne hw)]
    have a:=h3 v hv
    have b:=F.gs hpn (T.rep v hv).1
    omega
  ·rcases hv' with hv' | rfl
   ·left
    rw [aW (ne hv'),aP] at e1
    rw [aP,aP,aW (ne hv')] at e2
    rw [aP,aP,aW (ne hw)]
    have a:=h3 v' hv'
    omega
   ·exact absurd rfl hne
 ·rcases hv with hv | rfl
  ·rw [aW (ne hv),aW (ne hv),aW (ne (T.pin v hv h0))];exact T.rkd v hv h0
  ·rw [aP,aP,aW (ne hw)];exact Nat.lt_succ_self _
theorem Tv.ins (T:Tv D n V r δ par rk)(F:Fp D n){v j q:Nat}{t:Int}(hv:V v)(hv0:v≠0)(hj:¬ V j)(hq:q<n)(h1:δ (par v)<t)(h2:t<δ v)(h3:t≤hp D q)(h4:t≤gp D q (r v)) :
  Tv D n (fun x=>V x∨x=j) (upF r j q) (upF δ j t) (upF (upF par j (par v)) v j) (fun x=>if x=j then 2*rk v - 1 else 2*rk x):=by
 have ne:∀ {x},V x→x≠j:=fun h e=>hj (e ▸ h)
 have hz:(0:Nat)≠j:=ne T.root
 have hu:=T.pin v hv hv0
 have pv:upF (upF par j (par v)) v j v=j:=aP
 have pj:upF (upF par j (par v)) v j j=par v:=by rw [aW (ne hv).symm,aP]
 have po:∀ x,V x→x≠v→upF (upF par j (par v)) v j x=par x:=fun x hx e=>by rw [aW e,aW (ne hx)]
 have dj:upF δ j t j=t:=aP
 have dO:∀ x,V x→upF δ j t x=δ x:=fun x hx=>aW (ne hx)
 have rj:upF r j q j=q:=aP
 have rO:∀ x,V x→upF r j q x=r x:=fun x hx=>aW (ne hx)
 obtain ⟨rv,_,_⟩:=T.rep v hv
 obtain ⟨ru,u0,_⟩:=T.rep _ hu
 have mo:∀ s x,V s→V x→mt D (upF r j q) (upF δ j t) s x=mt D r δ s x:=fun s x hs hx=>by
  unfold mt;rw [dO s hs,dO x hx,rO s hs,rO x hx]
 have mj:∀ x,V x→mt D (upF r j q) (upF δ j t) j x=min t (mt D r δ v x):=fun x hx=>by
  unfold mt
  rw [dj,dO x hx,rj,rO x hx]
  have:=F.cut (r:=r x) hq rv (T.rep x hx).1 h4
  omega
 have mj':∀ x,V x→mt D (upF r j q) (upF δ j t) x j=min t (mt D r δ x v):=fun x hx=>by
  unfold mt
  rw [dj,dO x hx,rj,rO x hx]
  have:=F.cut (r:=r x) hq rv (T.rep x hx).1 h4
  have e1:=F.gs hq (T.rep x hx).1
  have e2:=F.gs rv (T.rep x hx).1
  omega
 refine ⟨.inl T.root,by rw [dO 0 T.root];exact T.zero,fun x hx=>?_,fun x hx h0=>?_,fun x hx h0=>?_,fun s x hs hx h0=>?_,fun x y hx hy hne hx0 hy0 e1 e2=>?_,fun x hx h0=>?_⟩
 ·rcases hx with hx | rfl
  ·rw [rO x hx,dO x hx];exact T.rep x hx
  ·rw [rj,dj];exact ⟨hq,by omega,h3⟩
 ·rcases hx with hx | rfl
  ·by_cases e:x=v
   ·rw [e,pv];exact .inr rfl
   ·rw [po x hx e];exact .inl (T.pin x hx h0)
  ·rw [pj];exact .inl hu
 ·rcases hx with hx | rfl
  ·by_cases e:x=v
   ·rw [e,pv,dj,rj,dO v hv,rO v hv];exact ⟨by omega,h4⟩
   ·have hp:=T.pin x hx h0
    rw [po x hx e,dO _ hp,dO x hx,rO _ hp,rO x hx]
    exact T.A x hx h0
  ·rw [pj,dO _ hu,dj,rO _ hu,rj]
   refine ⟨by omega,?_⟩
   have a:=(T.A v hv hv0).2
   have b:=F.um ru hq rv
   omega
 ·rcases hx with hx | rfl
  ·by_cases e:x=v
   ·subst e
    rw [pv,dj,dO x hx]
    rcases hs with hs | rfl
    ·rw [mo s x hs hx]
     rcases T.B s x hs hx h0 with b | b
     ·left;omega
     ·exact .inr b
    ·left
     rw [mj x hx]
     omega
   ·have hp:=T.pin x hx h0
    rw [po x hx e,dO _ hp,dO x hx]
    rcases hs with hs | rfl
    ·rw [mo s x hs hx];exact T.B s x hs hx h0
    ·rw [mj x hx]
     rcases T.B v x hv hx h0 with b | b
     ·left;omega
     ·by_cases c:δ x≤t
      ·right;omega
      ·left
       have b2:=T.B x v hx hv hv0
       have eq:mt D r δ x v=mt D r δ v x:=by
        unfold mt
        have:=F.gs (T.rep x hx).1 rv
        omega
       have hvx:δ v=δ x:=by
        rcases b2 with b2 | b2
        ·omega
        ·omega
       have gx:δ v≤gp D (r v) (r x):=by unfold mt at b;omega
       rcases T.E v x hv hx (fun z=>e z.symm) hv0 h0 hvx gx with z | z
       ·omega
       ·omega
  ·rw [pj,dj,dO _ hu]
   rcases hs with hs | rfl
   ·rw [mj' s hs]
    rcases T.B s v hs hv hv0 with b | b
    ·left;omega
    ·right;omega
   ·right
    unfold mt
    rw [dj,rj,F.gg hq]
    omega
 ·have key:∀ x,V x→δ x=t→t≤gp D q (r x)→False:=fun x hx e g=>by
   have a:=F.um rv (T.rep x hx).1 hq
   have c:=F.gs rv hq
   have d:=F.gs (T.rep x hx).1 hq
   have f:=F.gs (T.rep x hx).1 rv
   have b:=T.B x v hx hv hv0
   unfold mt at b
   omega
  rcases hx with hx | rfl
  ·rcases hy with hy | rfl
   ·rw [dO x hx,dO y hy] at e1
    rw [dO x hx,rO x hx,rO y hy] at e2
    have E:=T.E x y hx hy hne hx0 hy0 e1 e2
    by_cases ex:x=v
    ·subst ex
     right
     rw [po y hy (fun z=>hne z.symm),dO _ (T.pin y hy hy0),dO y hy]
     rcases E with E | E
     ·omega
     ·exact E
    ·by_cases ey:y=v
     ·subst ey
      left
      rw [po x hx ex,dO _ (T.pin x hx hx0),dO x hx]
      rcases E with E | E
      ·exact E
      ·omega
     ·rw [po x hx ex,po y hy ey,dO _ (T.pin x hx hx0),dO x hx,dO _ (T.pin y hy hy0),dO y hy]
      exact E
   ·rw [dO x hx,dj] at e1
    rw [dO x hx,rO x hx,rj] at e2
    exact (key x hx e1 (by have:=F.gs (T.rep x hx).1 hq;omega)).elim
  ·rcases hy with hy | rfl
   ·rw [dO y hy,dj] at e1
    rw [dj,rO y hy,rj] at e2
    exact (key y hy e1.symm e2).elim
   ·exact absurd rfl hne
 ·have h5:=T.rkd v hv hv0
  rcases hx with hx | rfl
  ·by_cases e:x=v
   ·subst e
    rw [pv,if_pos rfl,if_neg (ne hx)]
    omega
   ·rw [po x hx e,if_neg (ne hx),if_neg (ne (T.pin x hx h0))]
    have:=T.rkd x hx h0
    omega
  ·rw [pj,if_neg (ne hu),if_pos rfl]
   omega
end
end K63
namespace K63
open PySem L2
inductive An (par:Nat→Nat) (y:Nat):Nat→Prop
 | refl:An par y y
 | up {v:Nat}:v≠0→An par y (par v)→An par y v
section
variable {D:Nat→Nat→Int}{n:Nat}{V:Nat→Prop}{r:Nat→Nat}{δ:Nat→Int}{par rk:Nat→Nat}
theorem An.inV (T:Tv D n V r δ par rk){y s:Nat}(h:An par y s)(hs:V s):V y:=by
 induction h with
 | refl=>exact hs
 | up h0 _ ih=>exact ih (T.pin _ hs h0)
theorem An.geo (T:Tv D n V r δ par rk)(F:Fp D n){y s:Nat}(h:An par y s)(hs:V s):δ y≤δ s∧δ y≤gp D (r y) (r s):=by
 induction h with
 | refl=>
  obtain ⟨a,b,c⟩:=T.rep y hs
  rw [F.gg a]
  exact ⟨Int.le_refl _,c⟩
 | @up v h0 h ih=>
  have hq:=T.pin v hs h0
  obtain ⟨a,b⟩:=ih hq
  obtain ⟨c,d⟩:=T.A v hs h0
  have hy:=h.inV T hq
  have e:=F.um (T.rep y hy).1 (T.rep v hs).1 (T.rep _ hq).1
  have f:=F.gs (T.rep v hs).1 (T.rep _ hq).1
  omega
theorem An.rank (T:Tv D n V r δ par rk){y s:Nat}(h:An par y s)(hs:V s):rk y≤rk s:=by
 induction h with
 | refl=>exact Nat.le_refl _
 | up h0 _ ih=>
  have:=ih (T.pin _ hs h0)
  have:=T.rkd _ hs h0
  omega
theorem aCS (T:Tv D n V r δ par rk)(F:Fp D n){y:Nat}(hy:V y)(hy0:y≠0)(hd:δ (par y)<δ y):∀ (k s:Nat),rk s≤k→V s→δ y≤δ s→δ y≤gp D (r y) (r s)→An par y s:=by
 intro k
 induction k with
 | zero=>
  intro s hk hs h1 h2
  by_cases e:s=y
  ·rw [e];exact .refl
  ·by_cases e0:s=0
   ·subst e0
    have a:=T.zero
    have b:=(T.rep _ (T.pin y hy hy0)).2.1
    omega
   ·have:=T.rkd s hs e0
    omega
 | succ k ih=>
  intro s hk hs h1 h2
  by_cases e:s=y
  ·rw [e];exact .refl
  ·by_cases e0:s=0
   ·subst e0
    have a:=T.zero
    have b:=(T.rep _ (T.pin y hy hy0)).2.1
    omega
   ·have hq:=T.pin s hs e0
    have b:=T.B y s hy hs e0
    have hm:mt D r δ y s=δ y:=by unfold mt;omega
    have le:δ y≤δ (par s):=by
     rcases b with b | b
     ·omega
     ·rcases T.E y s hy hs (fun z=>e z.symm) hy0 e0 (by omega) h2 with z | z
      ·omega
      ·omega
    have rkd:=T.rkd s hs e0
    refine .up e0 (ih (par s) (by omega) hq le ?_)
    have c:=F.um (T.rep y hy).1 (T.rep _ hq).1 (T.rep s hs).1
    have d:=(T.A s hs e0).2
    omega
noncomputable def TL (L:List Ed) (V:Nat→Prop) (δ:Nat→Int) (par:Nat→Nat):Prop:=∀ e∈L,∃ v,V v∧v≠0∧Jo e v (par v)∧e.2.2=δ v - δ (par v)
theorem zW {e:Ed}{x y v u:Nat}(h:Jo e x y)(g:Jo e v u):(x=v∧y=u)∨(x=u∧y=v):=by
 unfold Jo at h g
 omega
theorem An.edge {y v:Nat}(h:An par y v)(hn:¬ An par y (par v)):y=v:=by
 cases h with
 | refl=>rfl
 | up _ h=>exact absurd h hn
variable {L:List Ed}{s:Nat}{f:List (Nat × Int)}{m:List (Nat × Nat)}
theorem aFC (tl:TL L V δ par){y:Nat}(hs:An par y s)(g:Gr L s f m):∀ z∈vs f,¬ An par y z→y∈vs f:=by
 induction g with
 | one=>
  intro z hz hn
  obtain rfl:z=s:=by simpa [vs] using hz
  exact absurd hs hn
 | @add f m x y' k d e h0 hx hy he hj ih=>
  intro z hz hn
  rw [kO]
  rw [kO] at hz
  refine List.mem_append_left _ ?_
  rcases List.mem_append.mp hz with hz | hz
  ·exact ih z hz hn
  ·obtain rfl:z=y':=by simpa using hz
   by_cases c:An par y x
   ·obtain ⟨v,hv,v0,jv,_⟩:=tl e (List.mem_of_getElem? he)
    rcases zW hj jv with ⟨rfl,rfl⟩ | ⟨rfl,rfl⟩
    ·rw [c.edge hn];exact gM hx
    ·exact absurd (.up v0 c) hn
   ·exact ih x (gM hx) c
theorem aDD (tl:TL L V δ par){y:Nat}(hs:¬ An par y s)(g:Gr L s f m):∀ z∈vs f,An par y z→par y∈vs f:=by
 induction g with
 | one=>
  intro z hz hn
  obtain rfl:z=s:=by simpa [vs] using hz
  exact absurd hn hs
 | @add f m x y' k d e h0 hx hy he hj ih=>
  intro z hz hn
  rw [kO]
  rw [kO] at hz
  refine List.mem_append_left _ ?_
  rcases List.mem_append.mp hz with hz | hz
  ·exact ih z hz hn
  ·obtain rfl:z=y':=by simpa using hz
   by_cases c:An par y x
   ·exact ih x (gM hx) c
   ·obtain ⟨v,hv,v0,jv,_⟩:=tl e (List.mem_of_getElem? he)
    rcases zW hj jv with ⟨rfl,rfl⟩ | ⟨rfl,rfl⟩
    ·exact absurd (.up v0 hn) c
    ·rw [hn.edge c];exact gM hx
noncomputable def ds (D:Nat→Nat→Int) (r:Nat→Nat) (δ:Nat→Int) (s x:Nat):Int:=δ s+δ x - 2*mt D r δ s x
theorem aEZ (T:Tv D n V r δ par rk)(F:Fp D n)(tl:TL L V δ par)(hs:V s)(g:Gr L s f m):∀ p∈f,V p.1∧p.2=ds D r δ s p.1:=by
 induction g with
 | one=>
  intro p hp
  rw [List.mem_singleton.mp hp]
  refine ⟨hs,?_⟩
  obtain ⟨a,b,c⟩:=T.rep s hs
  show 0=ds D r δ s s
  unfold ds mt
  rw [F.gg a]
  omega
 | @add f m x y k d e h0 hx hy he hj ih=>
  intro p hp
  rcases List.mem_append.mp hp with hp | hp
  ·exact ih p hp
  ·rw [List.mem_singleton.mp hp]
   obtain ⟨v,hv,v0,jv,we⟩:=tl e (List.mem_of_getElem? he)
   have hu:=T.pin v hv v0
   obtain ⟨a1,a2⟩:=T.A v hv v0
   have cu:=F.cut (r:=r s) (T.rep _ hu).1 (T.rep v hv).1 (T.rep s hs).1 a2
   have g1:=F.gs (T.rep s hs).1 (T.rep v hv).1
   have g2:=F.gs (T.rep s hs).1 (T.rep _ hu).1
   have mp:mt D r δ s (par v)=min (δ (par v)) (mt D r δ s v):=by unfold mt;omega
   have b:=T.B s v hs hv v0
   have dx:d=ds D r δ s x:=(ih _ hx).2
   show V y∧d+e.2.2=ds D r δ s y
   rcases zW hj jv with ⟨rfl,rfl⟩ | ⟨rfl,rfl⟩
   ·refine ⟨hu,?_⟩
    unfold ds at dx ⊢
    rcases b with b | b
    ·by_cases c:δ (par x)=δ x
     ·omega
     ·have na:¬ An par x s:=fun h=>by
       have:=h.geo T F hs
       unfold mt at b
       omega
      exact absurd (aDD tl na h0 x (gM hx) .refl) hy
    ·omega
   ·refine ⟨hv,?_⟩
    unfold ds at dx ⊢
    rcases b with b | b
    ·omega
    ·by_cases c:δ (par y)=δ y
     ·omega
     ·have an:An par y s:=aCS T F hv v0 (by omega) _ s (Nat.le_refl _) hs (by unfold mt at b;omega) (by unfold mt at b;omega)
      have nq:¬ An par y (par y):=fun h=>by
       have:=h.rank T hu
       have:=T.rkd y hv v0
       omega
      exact absurd (aFC tl an h0 (par y) (gM hx) nq) hy
theorem aFq (T:Tv D n V r δ par rk)(F:Fp D n)(tl:TL L V δ par)(t:Tre L){x:Nat}(hs:V s)(ls:s≤L.length)(lx:x≤L.length):wy L s x=ds D r δ s x:=by
 obtain ⟨f,m,g,l⟩:=lP t ls
 obtain ⟨⟨x1,d⟩,hd,ex⟩:=List.mem_map.mp (g.has t ls l (x:=x) (by omega))
 have ex:x1=x:=ex
 subst ex
 rw [← vN g l hd]
 exact (aEZ T F tl hs g _ hd).2
theorem aAL (F:Fp D n){x:Nat}(h1:s<n)(h2:x<n)(r1:r s=s)(r2:r x=x)(d1:δ s=hp D s)(d2:δ x=hp D x):ds D r δ s x=2*D s x:=by
 have a:=F.gh h1 h2
 have b:=F.gh h2 h1
 have c:=F.gs h1 h2
 unfold ds mt
 rw [r1,r2,d1,d2]
 unfold gp hp at *
 omega
end
end K63
namespace K63
open PySem L2
noncomputable def wR (f:Fw) (x:Nat) (o:Int):Fw:=f.map fun e=>if e.1=x then (e.1,o) else e
theorem aDE {f:Fw}{x:Nat}{o:Int}:ks (wR f x o)=ks f:=by
 unfold ks wR
 rw [List.map_map]
 refine List.map_congr_left fun e _=>?_
 show (if e.1=x then (e.1,o) else e).1=e.1
 split <;> rfl
theorem yT {x:Nat}{o:Int}{f:Fw}(h:x∈ks f):oM (kvI f) (.inl (x:Int)) (.int o)=kvI (wR f x o):=by
 have:((kvI f).any fun kv=>decide (kv.1=(.inl (x:Int):Key)))=true:=by
  obtain ⟨e,he,ee⟩:=List.mem_map.mp h
  refine List.any_eq_true.mpr ⟨(.inl (e.1:Int), .int e.2),List.mem_map.mpr ⟨e,he,rfl⟩,decide_eq_true ?_⟩
  have ee:e.1=x:=ee
  show (Sum.inl (e.1:Int):Key) = .inl (x:Int)
  rw [ee]
 unfold oM
 rw [if_pos this]
 unfold kvI wR
 rw [List.map_map,List.map_map]
 refine List.map_congr_left fun e _=>?_
 show (if (Sum.inl (e.1:Int):Key) = .inl (x:Int) then ((Sum.inl (e.1:Int):Key),V.int o) else (.inl (e.1:Int), .int e.2))=(.inl (((if e.1=x then (e.1,o) else e).1:Nat):Int), .int (if e.1=x then (e.1,o) else e).2)
 by_cases c:e.1=x
 ·rw [if_pos c,if_pos (by rw [c])]
 ·rw [if_neg c,if_neg (fun z=>c (by have:=Sum.inl.inj z;omega))]
theorem aCr {f:Fw}{x v:Nat}{o u:Int}(h:x∈ks f):(v,u)∈wR f x o↔(v=x∧u=o)∨(v≠x∧(v,u)∈f):=by
 unfold wR
 constructor
 ·intro hm
  obtain ⟨e,he,ee⟩:=List.mem_map.mp hm
  by_cases c:e.1=x
  ·rw [if_pos c] at ee
   cases ee
   exact .inl ⟨c,rfl⟩
  ·rw [if_neg c] at ee
   subst ee
   exact .inr ⟨c,he⟩
 ·rintro (⟨rfl,rfl⟩ | ⟨c,hm⟩)
  ·obtain ⟨e,he,ee⟩:=List.mem_map.mp h
   have ee:e.1=v:=ee
   exact List.mem_map.mpr ⟨e,he,by rw [if_pos ee,ee]⟩
  ·exact List.mem_map.mpr ⟨_,hm,by rw [if_neg c]⟩
theorem yA {f:Fw}{x:Nat}{o:Int}(nd:(ks f).Nodup)(h:(x,o)∈f):qQ (kvI f) (.inl (x:Int))=some (.int o):=by
 obtain ⟨o',h1,h2⟩:=pK (show x∈ks f from List.mem_map.mpr ⟨_,h,rfl⟩)
 rw [h1,lN nd h h2]
theorem qE {f:Fw}{x v:Nat}{o u:Int}:(v,u)∈f++[(x,o)]↔(v,u)∈f∨(v=x∧u=o):=by
 rw [List.mem_append,List.mem_singleton]
 constructor
 ·rintro (h | h)
  ·exact .inl h
  ·cases h;exact .inr ⟨rfl,rfl⟩
 ·rintro (h | ⟨rfl,rfl⟩)
  ·exact .inl h
  ·exact .inr rfl
structure Hs (D:Nat→Nat→Int)(n p J:Nat)(A Z:Fw)(V:Nat→Prop)(r:Nat→Nat)(δ:Nat→Int)(par rk:Nat→Nat):Prop where
 tv:Tv D n V r δ par rk
 rp:∀ v,V v→r v<p
 na:(ks A).Nodup
 ma:∀ v u,(v,u)∈A↔V v∧v≠0∧u=(par v:Int)
 nz:(ks Z).Nodup
 mz:∀ v d,(v,d)∈Z↔V v∧d=δ v
section
variable {D:Nat→Nat→Int}{n p J:Nat}{A Z:Fw}{V:Nat→Prop}{r:Nat→Nat}{δ:Nat→Int}{par rk:Nat→Nat}
theorem Hs.zin (h:Hs D n p J A Z V r δ par rk){v:Nat}:v∈ks Z↔V v:=by
 constructor
 ·intro hm
  obtain ⟨⟨x,d⟩,he,ee⟩:=List.mem_map.mp hm
  have ee:x=v:=ee
  subst ee
  exact ((h.mz _ _).mp he).1
 ·intro hv
  exact List.mem_map.mpr ⟨(v,δ v),(h.mz _ _).mpr ⟨hv,rfl⟩,rfl⟩
theorem Hs.ain (h:Hs D n p J A Z V r δ par rk){v:Nat}:v∈ks A↔V v∧v≠0:=by
 constructor
 ·intro hm
  obtain ⟨⟨x,d⟩,he,ee⟩:=List.mem_map.mp hm
  have ee:x=v:=ee
  subst ee
  have:=(h.ma _ _).mp he
  exact ⟨this.1,this.2.1⟩
 ·intro hv
  exact List.mem_map.mpr ⟨(v,(par v:Int)),(h.ma _ _).mpr ⟨hv.1,hv.2,rfl⟩,rfl⟩
theorem Hs.zval (h:Hs D n p J A Z V r δ par rk){v:Nat}(hv:V v):qQ (kvI Z) (.inl (v:Int))=some (.int (δ v)):=yA h.nz ((h.mz _ _).mpr ⟨hv,rfl⟩)
theorem Hs.aval (h:Hs D n p J A Z V r δ par rk){v:Nat}(hv:V v)(h0:v≠0):qQ (kvI A) (.inl (v:Int))=some (.int (par v:Int)):=yA h.na ((h.ma _ _).mpr ⟨hv,h0,rfl⟩)
theorem Hs.znew (h:Hs D n p J A Z V r δ par rk){j:Nat}(hj:¬ V j):j∉ks Z:=fun z=>hj (h.zin.mp z)
theorem Hs.anew (h:Hs D n p J A Z V r δ par rk){j:Nat}(hj:¬ V j):j∉ks A:=fun z=>hj (h.ain.mp z).1
theorem uO {f:Fw}{x:Nat}{o:Int}(nd:(ks f).Nodup)(h:x∉ks f):(ks (f++[(x,o)])).Nodup:=by
 rw [lV,List.nodup_append]
 exact ⟨nd,by simp,fun a ha b hb e=>h (by rw [List.mem_singleton.mp hb] at e;exact e ▸ ha)⟩
theorem Hs.leaf (h:Hs D n p J A Z V r δ par rk)(F:Fp D n){w:Nat}(hw:V w)(hpn:p<n)(hp0:¬ V p)(h1:δ w≤hp D p)(h2:δ w≤gp D (r w) p)(h3:∀ s,V s→gp D p (r s)≤δ w) :
  Hs D n (p+1) J (A++[(p,(w:Int))]) (Z++[(p,hp D p)]) (fun v=>V v∨v=p) (upF r p p) (upF δ p (hp D p)) (upF par p w) (upF rk p (rk w+1)):=by
 have ne:∀ {v},V v→v≠p:=fun h e=>hp0 (e ▸ h)
 have p0:p≠0:=fun e=>hp0 (e ▸ h.tv.root)
 refine ⟨h.tv.leaf F hw hpn hp0 h1 h2 h3,fun v hv=>?_,uO h.na (h.anew hp0),fun v u=>?_,uO h.nz (h.znew hp0),fun v d=>?_⟩
 ·rcases hv with hv | rfl
  ·rw [aW (ne hv)];have:=h.rp v hv;omega
  ·rw [aP];exact Nat.lt_succ_self _
 ·rw [qE,h.ma]
  constructor
  ·rintro (⟨a,b,c⟩ | ⟨rfl,rfl⟩)
   ·exact ⟨.inl a,b,by rw [aW (ne a)];exact c⟩
   ·exact ⟨.inr rfl,p0,by rw [aP]⟩
  ·rintro ⟨a | rfl,b,c⟩
   ·exact .inl ⟨a,b,by rw [aW (ne a)] at c;exact c⟩
   ·exact .inr ⟨rfl,by rw [aP] at c;exact c⟩
 ·rw [qE,h.mz]
  constructor
  ·rintro (⟨a,c⟩ | ⟨rfl,rfl⟩)
   ·exact ⟨.inl a,by rw [aW (ne a)];exact c⟩
   ·exact ⟨.inr rfl,by rw [aP]⟩
  ·rintro ⟨a | rfl,c⟩
   ·exact .inl ⟨a,by rw [aW (ne a)] at c;exact c⟩
   ·exact .inr ⟨rfl,by rw [aP] at c;exact c⟩
theorem Hs.ins (h:Hs D n p J A Z V r δ par rk)(F:Fp D n){v j q p':Nat}{t:Int}(hv:V v)(hv0:v≠0)(hj:¬ V j)(hq:q<n)(hqp:q<p')(hpp:p≤p')(h1:δ (par v)<t)(h2:t<δ v)(h3:t≤hp D q)(h4:t≤gp D q (r v)) :
  Hs D n p' J (wR (A++[(j,(par v:Int))]) v (j:Int)) (Z++[(j,t)]) (fun x=>V x∨x=j) (upF r j q) (upF δ j t) (upF (upF par j (par v)) v j) (fun x=>if x=j then 2*rk v - 1 else 2*rk x):=by
 have ne:∀ {x},V x→x≠j:=fun h e=>hj (e ▸ h)
 have j0:j≠0:=fun e=>hj (e ▸ h.tv.root)
 have vk:v∈ks (A++[(j,(par v:Int))]):=by rw [lV];exact List.mem_append_left _ (h.ain.mpr ⟨hv,hv0⟩)
 refine ⟨h.tv.ins F hv hv0 hj hq h1 h2 h3 h4,fun x hx=>?_,by rw [aDE];exact uO h.na (h.anew hj),fun x u=>?_,uO h.nz (h.znew hj),fun x d=>?_⟩
 ·rcases hx with hx | rfl
  ·rw [aW (ne hx)];have:=h.rp x hx;omega
  ·rw [aP];exact hqp
 ·rw [aCr vk,qE,h.ma]
  constructor
  ·rintro (⟨rfl,rfl⟩ | ⟨a,⟨b,c,d⟩ | ⟨rfl,rfl⟩⟩)
   ·exact ⟨.inl hv,hv0,by rw [aP]⟩
   ·exact ⟨.inl b,c,by rw [aW a,aW (ne b)];exact d⟩
   ·exact ⟨.inr rfl,j0,by rw [aW a,aP]⟩
  ·rintro ⟨a | rfl,b,c⟩
   ·by_cases e:x=v
    ·subst e
     rw [aP] at c
     exact .inl ⟨rfl,c⟩
    ·rw [aW e,aW (ne a)] at c
     exact .inr ⟨e, .inl ⟨a,b,c⟩⟩
   ·rw [aW (ne hv).symm,aP] at c
    exact .inr ⟨(ne hv).symm, .inr ⟨rfl,c⟩⟩
 ·rw [qE,h.mz]
  constructor
  ·rintro (⟨a,c⟩ | ⟨rfl,rfl⟩)
   ·exact ⟨.inl a,by rw [aW (ne a)];exact c⟩
   ·exact ⟨.inr rfl,by rw [aP]⟩
  ·rintro ⟨a | rfl,c⟩
   ·exact .inl ⟨a,by rw [aW (ne a)] at c;exact c⟩
   ·exact .inr ⟨rfl,by rw [aP] at c;exact c⟩
end
noncomputable def Ht (D:Nat→Nat→Int) (n p:Nat) (A Z:Fw):Prop:=∃ (J:Nat) (V:Nat→Prop) (r:Nat→Nat) (δ:Nat→Int) (par rk:Nat→Nat),Hs D n p J A Z V r δ par rk∧(∀ v,V v↔v<p∨(n≤v∧v<n+J))∧(∀ v,v<p→r v=v∧δ v=hp D v)∧Z.length=p+J∧A.length+1=p+J∧J≤p - 2
theorem aEj {D:Nat→Nat→Int}{n:Nat}(F:Fp D n):Ht D n 1 [] [(0,0)]:=by
 refine ⟨0,fun v=>v=0,fun _=>0,fun _=>0,fun _=>0,fun _=>0,⟨aDd F,fun v _=>Nat.zero_lt_one,List.nodup_nil,fun v u=>?_,by simp [ks],fun v d=>?_⟩,fun v=>?_,fun v hv=>?_,rfl,rfl,Nat.zero_le _⟩
 ·constructor
  ·intro h;cases h
  ·rintro ⟨a,b,_⟩;exact absurd a b
 ·constructor
  ·intro h
   cases List.mem_singleton.mp h
   exact ⟨rfl,rfl⟩
  ·rintro ⟨rfl,rfl⟩;simp
 ·show v=0↔_
  omega
 ·obtain rfl:v=0:=by omega
  refine ⟨rfl,?_⟩
  have:=F.z 0 F.pos
  show (0:Int)=2*D 0 0
  omega
end K63
namespace K63
open PySem L2
section
variable {K:PySem.W.Frag}
noncomputable def aDi (K:PySem.W.Frag):TS:=(aX (iU (cM (tOp yGt (jK (aD 2) (aD 5)) (aD 4))) (aX (cF (tIf (cM (tOp (vT K) (aD 6) (aD 4))) (aD 3) (tOp uE (tOp (bH K) (tCB (oB K) (aC (aD 0) aU)) (tCB aBP (aC (aD 2) aU))) (aD 3))) (aJ 7)) (aX (lX (aD 1) (aD 7) (jK (aD 1) (aD 5))) (aX (lX (aD 2) (aD 7) (aD 4)) (aX (lX (aD 1) (aD 5) (aD 7)) (aX (cF (aD 7) (aJ 5)) aR))))) aR) (aX (iU (cM (tOp (vX K) (aD 5) (aD 3))) (aX (lX (aD 1) (aD 3) (aD 5)) (aX (lX (aD 2) (aD 3) (aD 6)) aR)) aR) aR))
theorem tO {T:List (List Int)}{n:Nat}{H:Hp}{σ:St}{t sj:Nat}{v:V}{j:Nat}{Q:VK}(ht:σ[t]?=some (some v))(hj:σ[sj]?=some (some (.int (j:Int))))(hS:Sh K H (jD T) v)(hq:Quad T n)(l0:0<n)(lj:j<n)
  (q:Q (.int (at2 T 0 j)) H):tOp (bS K) (tOp (bS K) (aD t) (tC (.int 0))) (aD sj) σ H Q:=by
 refine ⟨_,ht,zH (i:=0) hS hq l0 fun b hb=>⟨_,hj,ixT hb ?_ q⟩⟩
 obtain ⟨row,e1,e2,e3⟩:=hq.get l0
 rw [List.getElem?_map,L2.jL (by rw [e3];omega)]
 rfl
theorem aBM {x y:Int}{H:Hp}{Q:VK}(q:Q (.int (x+y)) H):bH K (.int x) (.int y) H Q:=q
noncomputable def SameY (a d:Addr) (H H':Hp):Prop:=∀ b o,b≠a→b≠d→H b=some o→H' b=some o
theorem SameY.put {a d c:Addr}{H H':Hp}{o:HO}(h:SameY a d H H')(hc:c=a∨c=d):SameY a d H (upd H' c o):=fun b u h1 h2 e=>by
 rw [aO (by rcases hc with rfl | rfl <;> assumption)]
 exact h b u h1 h2 e
noncomputable def vK (K:PySem.W.Frag):Sp:=fun vs H Q _=>∃ (v:V) (a d:Addr) (T:List (List Int)) (n p:Nat) (A Z:Fw),vs=[v, .ref a, .ref d, .int (p:Int)]∧Sh K H (jD T) v∧Quad T n∧n≤8∧Fp (at2 T) n∧1≤p∧p<n∧a≠d∧H a=some (.dK (kvI A))∧H d=some (.dK (kvI Z))∧Ht (at2 T) n p A Z∧∀ A' Z' H',SameY a d H H'→H' a=some (.dK (kvI A'))→H' d=some (.dK (kvI Z'))→Ht (at2 T) n (p+1) A' Z'→Q .non H'
theorem aAo {Df:lG}{v:V}{a d:Addr}{T:List (List Int)}{n p J w:Nat}{t:Int}{A Z:Fw}{V0:Nat→Prop}{r:Nat→Nat}{δ:Nat→Int}{par rk:Nat→Nat}{H:Hp}(hS:Sh K H (jD T) v)(qT:Quad T n)(n8:n≤8)(F:Fp (at2 T) n)(p1:1≤p)(hpn:p<n)(had:a≠d)(ha:H a=some (.dK (kvI A)))(hd:H d=some (.dK (kvI Z)))
  (hs:Hs (at2 T) n p J A Z V0 r δ par rk) (hV:∀ x,V0 x↔x<p∨(n≤x∧x<n+J)) (hpl:∀ x,x<p→r x=x∧δ x=hp (at2 T) x) (zl:Z.length=p+J) (al:A.length+1=p+J) (hJ:J≤p - 2)
  (hw:V0 w) (t0:0≤t) (th:t≤hp (at2 T) p) (f1:t≤gp (at2 T) (r w) p) (mx:∀ o,o<p→gp (at2 T) p o≤t) (cs:δ w=t∨(δ (par w)<t∧t<δ w))
  (q:∀ σ' A' Z' H',SameY a d H H'→H' a=some (.dK (kvI A'))→H' d=some (.dK (kvI Z'))→Ht (at2 T) n (p+1) A' Z'→Df.nx σ' H') :
  aDi K Df [some v,some (.ref a),some (.ref d),some (.int (p:Int)),some (.int t),some (.int (w:Int)),some (.int (hp (at2 T) p)),none] H:=by
 have np:¬ V0 p:=fun h=>by have:=(hV p).mp h;omega
 have nj:¬ V0 (n+J):=fun h=>by have:=(hV _).mp h;omega
 have kl:∀ {f:Fw},f.length≤100→(kvI f).length<sizeLine:=fun h=>Nat.lt_of_le_of_lt (show _≤100 by rw [lB];exact h) (by decide)
 have tvw:=hs.zval hw
 have g2:t≤gp (at2 T) p (r w):=by rw [F.gs hpn (hs.tv.rep w hw).1];exact f1
 refine ⟨_,rfl,_,rfl,d,_,rfl,wQ hd tvw,_,rfl,_,_,rfl,rfl,_,rfl,?_⟩
 rcases cs with cs | ⟨c1,c2⟩
 ·refine bW (decide_eq_false (by omega)) ?_
  refine ⟨_,rfl,_,rfl, .int _, .int _,Nat.zero_le _,rfl,rfl,_,rfl,?_⟩
  have wp:w≠p:=fun e=>np (e ▸ hw)
  rw [oW]
  refine cE (by rw [decide_eq_false (by omega)];rfl) ?_
  refine ⟨_,rfl,_,rfl,_,rfl,a,_,rfl,DPut.k (k := .inl (p:Int)) ha (kl (by omega)),?_⟩
  rw [gG (hs.anew np)]
  refine ⟨_,rfl,_,rfl,_,rfl,d,_,rfl,DPut.k (k := .inl (p:Int)) (kvs:=kvI Z) (by rw [aO had.symm];exact hd) (kl (by omega)),?_⟩
  rw [gG (hs.znew np)]
  refine q _ (A++[(p,(w:Int))]) (Z++[(p,hp (at2 T) p)]) _ (SameY.put (SameY.put (fun b o _ _ e=>e) (.inl rfl)) (.inr rfl)) (by rw [aO had];exact aE) aE ?_
  refine ⟨J,_,_,_,_,_,hs.leaf F hw hpn np (by omega) (by omega) (fun s hs'=>by have:=mx _ (hs.rp s hs');omega),fun x=>?_,fun x hx=>?_,by rw [List.length_append,zl];simp;omega,by rw [List.length_append];simp;omega,by omega⟩
  ·show V0 x∨x=p↔_
   rw [hV]
   omega
  ·by_cases e:x=p
   ·subst e;rw [aP,aP];exact ⟨rfl,rfl⟩
   ·rw [aW e,aW e];exact hpl x (by omega)
 ·have w0:w≠0:=fun e=>by
   rw [e] at c2
   have:=hs.tv.zero
   omega
  have p2:2≤p:=by
   apply Classical.byContradiction
   intro c
   have:=(hV w).mp hw
   omega
  refine cE (decide_eq_true (by omega)) ?_
  refine ⟨_,rfl,_,rfl, .int _, .int _,Nat.zero_le _,rfl,rfl,_,rfl,?_⟩
  rw [iA]
  by_cases e:hp (at2 T) p=t
  ·refine cE (decide_eq_true e) ⟨_,rfl,?_⟩
   refine ⟨_,rfl,_,rfl,a,_,rfl,wQ ha (hs.aval hw w0),_,rfl,_,rfl,a,_,rfl,DPut.k (k := .inl (p:Int)) ha (kl (by omega)),?_⟩
   rw [gG (hs.anew np)]
   refine ⟨_,rfl,_,rfl,_,rfl,d,_,rfl,DPut.k (k := .inl (p:Int)) (kvs:=kvI Z) (by rw [aO had.symm];exact hd) (kl (by omega)),?_⟩
   rw [gG (hs.znew np)]
   refine ⟨_,rfl,_,rfl,_,rfl,a,_,rfl,DPut.k (k := .inl (w:Int)) (kvs:=kvI (A++[(p,(par w:Int))])) (by rw [aO had];exact aE) (kl (by rw [List.length_append];simp;omega)),?_⟩
   rw [yT (by rw [lV];exact List.mem_append_left _ (hs.ain.mpr ⟨hw,w0⟩))]
   refine ⟨_,rfl,?_⟩
   refine ⟨_,rfl,_,rfl, .int _, .int _,Nat.zero_le _,rfl,rfl,_,rfl,?_⟩
   rw [oW]
   refine bW (by rw [decide_eq_true rfl];rfl) ?_
   refine q _ (wR (A++[(p,(par w:Int))]) w (p:Int)) (Z++[(p,t)]) _ (SameY.put (SameY.put (SameY.put (fun b o _ _ e=>e) (.inl rfl)) (.inr rfl)) (.inl rfl)) aE (by rw [aO had.symm];exact aE) ?_
   refine ⟨J,_,_,_,_,_,hs.ins (p':=p+1) (q:=p) (t:=t) F hw w0 np hpn (Nat.lt_succ_self _) (Nat.le_succ _) c1 c2 (by omega) g2,fun x=>?_,fun x hx=>?_,by rw [List.length_append,zl];simp;omega,by unfold wR;rw [List.length_map,List.length_append];simp;omega,by omega⟩
   ·show V0 x∨x=p↔_
    rw [hV]
    omega
   ·by_cases e':x=p
    ·subst e';rw [aP,aP];exact ⟨rfl,e.symm⟩
    ·rw [aW e',aW e'];exact hpl x (by omega)
  ·refine bW (decide_eq_false e) ?_
   obtain ⟨ta,rs,rfl,hta,hrl,_⟩:=id hS.tab
   have rn:rs.length=n:=hrl.trans qT.len
   refine ⟨_,rfl,ta,rs,rfl, .inr hta,_,rfl,d,_,rfl,hd,?_⟩
   have ej:(rs.length:Int)+((kvI Z).length:Int) - (p:Int)=((n+J:Nat):Int):=by
    rw [lB,zl,rn]
    omega
   refine aBM ⟨_,rfl,_,_,rfl,rfl,?_⟩
   rw [ej]
   refine ⟨_,rfl,_,rfl,a,_,rfl,wQ ha (hs.aval hw w0),_,rfl,_,rfl,a,_,rfl,DPut.k (k := .inl ((n+J:Nat):Int)) ha (kl (by omega)),?_⟩
   rw [gG (hs.anew nj)]
   refine ⟨_,rfl,_,rfl,_,rfl,d,_,rfl,DPut.k (k := .inl ((n+J:Nat):Int)) (kvs:=kvI Z) (by rw [aO had.symm];exact hd) (kl (by omega)),?_⟩
   rw [gG (hs.znew nj)]
   refine ⟨_,rfl,_,rfl,_,rfl,a,_,rfl,DPut.k (k := .inl (w:Int)) (kvs:=kvI (A++[(n+J,(par w:Int))])) (by rw [aO had];exact aE) (kl (by rw [List.length_append];simp;omega)),?_⟩
   rw [yT (by rw [lV];exact List.mem_append_left _ (hs.ain.mpr ⟨hw,w0⟩))]
   have hs2:=hs.ins (p':=p) (q:=r w) (t:=t) F hw w0 nj (hs.tv.rep w hw).1 (hs.rp w hw) (Nat.le_refl _) c1 c2 (by have:=(hs.tv.rep w hw).2.2;omega) (by rw [F.gg (hs.tv.rep w hw).1];have:=(hs.tv.rep w hw).2.2;omega)
   have np2:¬ (V0 p∨p=n+J):=fun h=>by rcases h with h | h;exact np h;omega
   have ld:upF δ (n+J) t (n+J)=t:=aP
   have lr:upF r (n+J) (r w) (n+J)=r w:=aP
   have hs3:=hs2.leaf F (w:=n+J) (.inr rfl) hpn np2 (by rw [ld];exact th) (by rw [ld,lr];exact f1) (fun s hs'=>by rw [ld];exact mx _ (hs2.rp s hs'))
   refine ⟨_,rfl,?_⟩
   refine ⟨_,rfl,_,rfl, .int _, .int _,Nat.zero_le _,rfl,rfl,_,rfl,?_⟩
   rw [oW]
   refine cE (by rw [decide_eq_false (by omega)];rfl) ?_
   refine ⟨_,rfl,_,rfl,_,rfl,a,_,rfl,DPut.k (k := .inl (p:Int)) (kvs:=kvI (wR (A++[(n+J,(par w:Int))]) w ((n+J:Nat):Int))) aE (kl (by unfold wR;rw [List.length_map,List.length_append];simp;omega)),?_⟩
   rw [gG (hs2.anew np2)]
   refine ⟨_,rfl,_,rfl,_,rfl,d,_,rfl,DPut.k (k := .inl (p:Int)) (kvs:=kvI (Z++[(n+J,t)])) (by rw [aO had.symm,aO had.symm];exact aE) (kl (by rw [List.length_append];simp;omega)),?_⟩
   rw [gG (hs2.znew np2)]
   refine q _ _ _ _ (SameY.put (SameY.put (SameY.put (SameY.put (SameY.put (fun b o _ _ e=>e) (.inl rfl)) (.inr rfl)) (.inl rfl)) (.inl rfl)) (.inr rfl)) (by rw [aO had];exact aE) aE ?_
   have hs4:Hs (at2 T) n (p+1) (J+1) _ _ _ _ _ _ _:=⟨hs3.tv,hs3.rp,hs3.na,hs3.ma,hs3.nz,hs3.mz⟩
   refine ⟨J+1,_,_,_,_,_,hs4,fun x=>?_,fun x hx=>?_,by rw [List.length_append,List.length_append,zl];simp;omega,by rw [List.length_append];unfold wR;rw [List.length_map,List.length_append];simp;omega,by omega⟩
   ·show (V0 x∨x=n+J)∨x=p↔_
    rw [hV]
    omega
   ·by_cases e':x=p
    ·subst e';rw [aP,aP];exact ⟨rfl,rfl⟩
    ·rw [aW e',aW e',aW (by omega),aW (by omega)];exact hpl x (by omega)
theorem aDy {x y x' y':Int}(h:dD [x,y] [x',y']=false):x'≤x:=by
 unfold dD at h
 by_cases e:x=x'
 ·omega
 ·rw [if_neg e] at h
  have:=of_decide_eq_false h
  omega
theorem aCF:∀ vs H Q E,vK K vs H Q E→aBp K { nx:=fun _ H'=>Q .non H',rt:=Q } (start ["table","above","depths","place","fork","spot","depth","joint"] vs) H:=by
 intro vs H Q E h
 obtain ⟨v,a,d,T,n,p,A,Z,rfl,hS,qT,n8,F,p1,hpn,had,ha,hd,ht,q⟩:=h
 obtain ⟨J,V0,r,δ,par,rk,hs,hV,hpl,zl,al,hJ⟩:=ht
 have n0:0<n:=by omega
 refine ⟨_,rfl,(p:Int),rfl,by omega,by omega,fun B hB=>?_⟩
 rw [Int.toNat_natCast]
 refine nY (lo:=0) (n:=p) (vars:=[0]) (fun i L H'=>Rows K H' L ((List.range i).map fun o=>[at2 T 0 p+at2 T 0 o - at2 T o p,(o:Int)])) (by decide) (by show 0<3;decide) Rows.nil hB (fun i σ2 H2 L2 Df hi l2 ag g0 sm hB2 hR hD=>?_) fun σ2 H2 L2 sm hB2 hR=>?_
 ·have t1:σ2[1]?=some (some v):=(ag 1 (by decide)).trans rfl
  have t2:σ2[2]?=some (some (.int (p:Int))):=(ag 2 (by decide)).trans rfl
  rw [Int.zero_add] at g0
  have hS2:=hS.same sm
  refine tO t1 t2 hS2 qT n0 hpn (tO t1 g0 hS2 qT n0 (by omega) (aBM (fA t1 g0 t2 hS2 qT (by omega) hpn ⟨_,_,rfl,rfl,_,g0,show 2≤sizeLine by decide,fun z hz=>?_⟩)))
  have sz:=aM hz (.tup [V.int (at2 T 0 p+at2 T 0 i - at2 T i p), .int (i:Int)])
  have hBz:=sz _ _ hB2
  refine ⟨L2,hBz,?_,hD σ2 _ _ l2 ag (dE hB (sm.trans sz)) aE ?_⟩
  ·rw [hR.1,List.length_map,List.length_range]
   exact Nat.lt_of_le_of_lt (show i≤8 by omega) (by decide)
  ·rw [List.range_succ,List.map_append]
   exact Rows.snoc (Rows.put (hR.same sz) hBz) (eD (.of aE) hBz)
 ·have rl:((List.range p).map fun o=>[at2 T 0 p+at2 T 0 o - at2 T o p,(o:Int)]).length=p:=by rw [List.length_map,List.length_range]
  refine ⟨B,L2,_,rfl, .inl (.of hB2),hR,fun e=>by rw [e] at rl;simp at rl;omega,fun i b row hx hrow hb hmax=>?_⟩
  have hip:i<p:=by rw [← rl];exact (List.getElem?_eq_some_iff.mp hrow).1
  rw [List.getElem?_map,List.getElem?_range hip] at hrow
  have er:row=[at2 T 0 p+at2 T 0 i - at2 T i p,(i:Int)]:=(Option.some.inj hrow).symm
  have eg:∀ o,o<p→at2 T 0 p+at2 T 0 o - at2 T o p=gp (at2 T) p o:=fun o ho=>by
   have:=F.sy o p (by omega) hpn
   unfold gp
   omega
  have mx:∀ o,o<p→gp (at2 T) p o≤gp (at2 T) p i:=fun o ho=>by
   have h1:=hmax [at2 T 0 p+at2 T 0 o - at2 T o p,(o:Int)] (List.mem_map.mpr ⟨o,List.mem_range.mpr ho,rfl⟩)
   rw [er] at h1
   have:=aDy h1
   rw [eg o ho,eg i hip] at this
   exact this
  subst er
  rw [eg i hip] at hb
  refine ⟨b,_,rfl,hb,rfl, .int (gp (at2 T) p i),[.int (i:Int)],rfl, .int (i:Int),[],rfl,rfl,?_⟩
  have hS2:=hS.same sm
  refine tO (j:=p) rfl rfl hS2 qT n0 hpn ⟨.inl (.inl ⟨by decide,by decide⟩),?_⟩
  obtain ⟨t,et⟩:∃ t,t=gp (at2 T) p i:=⟨_,rfl⟩
  rw [← et] at mx
  rw [← et]
  have t0:0≤t:=by rw [et];exact F.gn hpn (by omega)
  have th:t≤hp (at2 T) p:=by rw [et];exact F.gh hpn (by omega)
  have vi:V0 i:=(hV i).mpr (.inl hip)
  obtain ⟨ri,di⟩:=hpl i hip
  have ha2:=sm _ _ ha
  have hd2:=sm _ _ hd
  have go:∀ w,V0 w→t≤gp (at2 T) (r w) p→(δ w=t∨(δ (par w)<t∧t<δ w))→aDi K { nx:=fun _ H'=>Q .non H',rt:=Q } [some v,some (.ref a),some (.ref d),some (.int (p:Int)),some (.int t),some (.int (w:Int)),some (.int (hp (at2 T) p)),none] H2:=fun w hw f2 cs=>
   aAo hS2 qT n8 F p1 hpn had ha2 hd2 hs hV hpl zl al hJ hw t0 th f2 mx cs fun _ A' Z' H' sy h1 h2 h3=>q A' Z' H' (fun b o c1 c2 e=>sy b o c1 c2 (sm _ _ e)) h1 h2 h3
  refine ⟨fun m σ' H'=>H'=H2∧∃ w,m=rk w∧σ'=[some v,some (.ref a),some (.ref d),some (.int (p:Int)),some (.int t),some (.int (w:Int)),some (.int (hp (at2 T) p)),none]∧V0 w∧t≤δ w∧t≤gp (at2 T) (r w) p,⟨rk i,rfl,i,rfl,rfl,vi,by rw [di,et,F.gs hpn (by omega)];exact F.gh (by omega) hpn,by rw [ri,et,F.gs hpn (by omega)];exact Int.le_refl _⟩,?_⟩
  rintro m σ' H' ⟨rfl,w,rfl,rfl,hw,f1,f2⟩
  refine ⟨_,rfl,_,rfl,d,_,rfl,wQ hd2 (hs.zval hw),_,rfl,_,_,rfl,rfl,_,rfl,?_⟩
  by_cases c1:δ w > t
  ·have w0:w≠0:=fun e=>by
    rw [e] at c1
    have:=hs.tv.zero
    omega
   have hu:=hs.tv.pin w hw w0
   refine cE (decide_eq_true c1) ⟨_,rfl,_,rfl,_,rfl,a,_,rfl,wQ ha2 (hs.aval hw w0),d,_,rfl,wQ hd2 (hs.zval hu),_,rfl,_,_,rfl,rfl,_,rfl,?_⟩
   by_cases c2:δ (par w)≥t
   ·refine cE (decide_eq_true c2) ⟨fun σ2 H2'=>H2'=H'∧∃ w',rk w'<rk w∧σ2=[some v,some (.ref a),some (.ref d),some (.int (p:Int)),some (.int t),some (.int (w':Int)),some (.int (hp (at2 T) p)),none]∧V0 w'∧t≤δ w'∧t≤gp (at2 T) (r w') p,fun σ2 H2' ⟨e,w',h1,h2,h3⟩=>⟨rk w',h1,e,w',rfl,h2,h3⟩,?_⟩
    refine ⟨_,rfl,_,rfl,a,_,rfl,wQ ha2 (hs.aval hw w0),rfl,par w,hs.tv.rkd w hw w0,rfl,hu,c2,?_⟩
    have u1:=F.um (hs.tv.rep _ hu).1 hpn (hs.tv.rep w hw).1
    have u2:=F.gs hpn (hs.tv.rep w hw).1
    have u3:=(hs.tv.A w hw w0).2
    omega
   ·exact bW (decide_eq_false c2) (go w hw f2 (.inr ⟨by omega,c1⟩))
  ·exact bW (decide_eq_false c1) (bW rfl (go w hw f2 (.inl (by omega))))
end
end K63
namespace K63
open PySem L2
section
variable {K:PySem.W.Frag}{H H':Hp}
noncomputable def Dw (K:PySem.W.Frag) (H:Hp) (a:Addr) (qs:List Tq):Prop:=∃ xs,SqT K H a xs∧jP K H xs (qs.map mE)
theorem Dw.same {a:Addr}{qs:List Tq}(h:Dw K H a qs)(s:Same H H'):Dw K H' a qs:=let ⟨xs,h1,h2⟩:=h;⟨xs,s.tup h1,gT h2 s⟩
theorem Dw.x {a p:Addr}{L:List V}{qs:List Tq}(h:Dw K H a qs)(hp:H p=some (.lst L))(s:SameX p H H'):Dw K H' a qs:=let ⟨xs,h1,h2⟩:=h;⟨xs,yD h1 hp s,vG h2 fun _ _ hb=>yD hb hp s⟩
theorem aBY (qs:List Tq):(qs.map mE).map aFU=qs.map kK:=by rw [List.map_map];exact List.map_congr_left fun q _=>rfl
theorem Dw.sh {a:Addr}{qs:List Tq}(h:Dw K H a qs):Sh K H (.tup (qs.map kK)) (.ref a):=let ⟨xs,h1,h2⟩:=h;⟨a,xs,rfl,h1,by rw [← aBY];exact rW h2⟩
end
end K63
namespace K63
open PySem L2
theorem gd2 {t:Int}:gd t 2=if t % 2=0 then 2 else 1:=by
 unfold gd
 have h1:Int.gcd t 2 ∣ 2:=by have:=Int.gcd_dvd_natAbs_right t 2;exact this
 have h3:Int.gcd t 2≤2:=Nat.le_of_dvd (by decide) h1
 have h4:0<Int.gcd t 2:=Int.gcd_pos_of_ne_zero_right _ (by decide)
 have h2:((Int.gcd t 2:Nat):Int) ∣ t:=Int.gcd_dvd_left ..
 by_cases c:t % 2=0
 ·rw [if_pos c]
  have h5:(2:Int) ∣ ((Int.gcd t 2:Nat):Int):=Int.dvd_coe_gcd (Int.dvd_of_emod_eq_zero c) (Int.dvd_refl _)
  omega
 ·rw [if_neg c]
  rcases (show Int.gcd t 2=1∨Int.gcd t 2=2 by omega) with e | e
  ·rw [e];rfl
  ·rw [e] at h2
   omega
structure Half (t:Int)(c e:Int):Prop where
 c0:0≤c
 e1:1≤e
 e2:e≤2
 g:c.gcd e=1
 m:c*2=t*e
section
variable {K:PySem.W.Frag}
noncomputable def aBf (K:PySem.W.Frag):Sp:=fun vs H Q _=>∃ (t:Int),vs=[.int t, .int 2]∧0≤t∧∀ z c e H',Same H H'→SqT K H' z [.int c, .int e]→Half t c e→Q (.ref z) H'
theorem aCX:∀ vs H Q E,aBf K vs H Q E→uV K aEF { nx:=fun _ H'=>Q .non H',rt:=Q } (start ["top","bottom","measure"] vs) H:=by
 intro vs H Q E h
 obtain ⟨t,rfl,t0,q⟩:=h
 refine ⟨_,rfl,_,rfl,t,2,rfl,?_⟩
 refine ⟨_,rfl,_,_,rfl,rfl,_,rfl,bW (by decide) ?_⟩
 have gp:0<gd t 2:=by rw [gd2];split <;> decide
 have gb:aDI t (gd t 2):=⟨gp,nb1 (by omega) (by rw [gd2];split <;> decide)⟩
 refine ⟨_,rfl,_,rfl,_,_,rfl,rfl,gb,_,rfl,_,rfl,_,_,rfl,rfl,gb,show 2≤sizeLine by decide,fun z hz=>?_⟩
 have sz:=aM hz (.tup [V.int (t / gd t 2), .int (2 / gd t 2)])
 refine q z _ _ _ sz (.of aE) ?_
 rw [gd2]
 by_cases c:t % 2=0
 ·rw [if_pos c]
  exact ⟨by omega,by decide,by decide,by rw [show (2:Int) / 2=1 by decide];exact Int.gcd_one_right _,by omega⟩
 ·rw [if_neg c]
  refine ⟨by omega,by decide,by decide,?_,by omega⟩
  have:=@gd2 t
  rw [if_neg c] at this
  unfold gd at this
  rw [Int.ediv_one,Int.ediv_one]
  omega
noncomputable def Te (δ:Nat→Int) (a:Nat × Int) (q:Tq):Prop:=∃ u:Nat,a.2=(u:Int)∧q.1=min a.1 u∧q.2.1=max a.1 u∧Half (δ a.1 - δ u) (wt q) (wb q)
structure DrOk (T:List (List Int))(n:Nat)(qs:List Tq):Prop where
 tr:Tr qs
 many:n≤qs.length+1
 srt:Srt (qs.map mE)
 ties:∀ q∈qs,tJ (qs.length+1) q
 way:∀ s x,s<n→x<n→wy (Ll qs) s x=at2 T s x*sc qs
theorem Half.two {t c e:Int}(h:Half t c e):c*2 / e=t:=by
 rw [h.m]
 exact Int.mul_ediv_cancel _ (by have:=h.e1;omega)
theorem aEJ {T:List (List Int)}{n J:Nat}{A Z:Fw}{V0:Nat→Prop}{r:Nat→Nat}{δ:Nat→Int}{par rk:Nat→Nat}{qs:List Tq}(F:Fp (at2 T) n)(n8:n≤8)(big:∀ i j,i<n→j<n→at2 T i j≤1000000)
  (hs:Hs (at2 T) n n J A Z V0 r δ par rk) (hV:∀ x,V0 x↔x<n∨(n≤x∧x<n+J)) (hpl:∀ x,x<n→r x=x∧δ x=hp (at2 T) x) (al:A.length+1=n+J) (hJ:J≤n - 2)
  (ql:qs.length=A.length) (t1:∀ q∈qs,∃ a∈A,Te δ a q) (t2:∀ a∈A,∃ q∈qs,Te δ a q) (srt:Srt (qs.map mE)):DrOk T n qs:=by
 have tv:=hs.tv
 have n1:=F.pos
 have N:qs.length+1=n+J:=by omega
 have vlt:∀ {x},V0 x→x<n+J:=fun h=>by have:=(hV _).mp h;omega
 have vof:∀ {x},x<n+J→V0 x:=fun h=>(hV _).mpr (by omega)
 have te:∀ q∈qs,∃ v,V0 v∧v≠0∧q.1=min v (par v)∧q.2.1=max v (par v)∧Half (δ v - δ (par v)) (wt q) (wb q):=fun q hq=>by
  obtain ⟨⟨v,u⟩,ha,un,e1,e2,e3,e4⟩:=t1 q hq
  obtain ⟨h1,h2,h3⟩:=(hs.ma v u).mp ha
  have e1:u=(un:Int):=e1
  obtain rfl:un=par v:=by omega
  exact ⟨v,h1,h2,e2,e3,e4⟩
 have pne:∀ v,V0 v→v≠0→par v≠v:=fun v h1 h2 e=>by
  have:=tv.rkd v h1 h2
  rw [e] at this
  omega
 have dle:∀ v,V0 v→δ v≤2000000:=fun v hv=>by
  obtain ⟨a,b,c⟩:=tv.rep v hv
  have:=big 0 (r v) n1 a
  unfold hp at c
  omega
 have ties:∀ q∈qs,tJ (qs.length+1) q:=fun q hq=>by
  obtain ⟨v,h1,h2,h3,h4,h5⟩:=te q hq
  have:=pne v h1 h2
  have:=vlt h1
  have:=vlt (tv.pin v h1 h2)
  exact ⟨by omega,by omega,h5.c0,h5.e1,h5.g⟩
 have tr:Tr qs:=by
  refine { len:=by omega,ok:=fun q hq=>?_,tie:=fun q hq=>?_,cn:=?_ }
  ·obtain ⟨v,h1,h2,h3,h4,h5⟩:=te q hq
   have a:=dle v h1
   have b:=(tv.rep _ (tv.pin v h1 h2)).2.1
   have c:=h5.m
   have d:=h5.e1
   have e:=h5.e2
   have f:=h5.c0
   have k:(δ v - δ (par v))*wb q≤2000000*2:=by
    rcases (show wb q=1∨wb q=2 by omega) with z | z <;> rw [z] <;> omega
   exact ⟨f,by omega,d,by omega⟩
  ·have:=ties q hq
   exact ⟨this.1,by have:=this.2.1;omega⟩
  ·have key:∀ (k x:Nat),rk x≤k→V0 x→Q.Cn (qs.map pr) (List.range (qs.length+1)) 0 x:=by
    intro k
    induction k with
    | zero=>
     intro x hk hx
     by_cases e:x=0
     ·rw [e];exact .refl _
     ·have:=tv.rkd x hx e
      omega
    | succ k ih=>
     intro x hk hx
     by_cases e:x=0
     ·rw [e];exact .refl _
     ·have h1:=tv.rkd x hx e
      have hu:=tv.pin x hx e
      refine .step (ih (par x) (by omega) hu) (List.mem_range.mpr (by rw [N];exact vlt hu)) (List.mem_range.mpr (by rw [N];exact vlt hx)) ?_
      obtain ⟨q,hq,un,e1,e2,e3,e4⟩:=t2 (x,(par x:Int)) ((hs.ma _ _).mpr ⟨hx,e,rfl⟩)
      have e1:(par x:Int)=(un:Int):=e1
      obtain rfl:un=par x:=by omega
      have e2:q.1=min x (par x):=e2
      have e3:q.2.1=max x (par x):=e3
      show (min (par x) x,max (par x) x)∈qs.map pr
      rw [Nat.min_comm,Nat.max_comm]
      exact List.mem_map.mpr ⟨q,hq,by unfold pr;rw [e2,e3]⟩
   intro x hx
   exact key _ x (Nat.le_refl _) (vof (by omega))
 refine ⟨tr,by omega,srt,ties,fun s x hs1 hx1=>?_⟩
 have tl:TL (qs.map fun q=>(q.1,q.2.1,wt q*2 / wb q)) V0 δ par:=fun e he=>by
  obtain ⟨q,hq,rfl⟩:=List.mem_map.mp he
  obtain ⟨v,h1,h2,h3,h4,h5⟩:=te q hq
  refine ⟨v,h1,h2,?_,h5.two⟩
  show (q.1=v∧q.2.1=par v)∨(q.1=par v∧q.2.1=v)
  rw [h3,h4]
  omega
 have l1:(qs.map fun q=>(q.1,q.2.1,wt q*2 / wb q)).length=qs.length:=List.length_map ..
 have l2:(Ll qs).length=qs.length:=List.length_map ..
 have w1:=aFq tv F tl (oC tr fun q=>wt q*2 / wb q) (s:=s) (x:=x) (vof (by omega)) (by omega) (by omega)
 obtain ⟨r1,d1⟩:=hpl s hs1
 obtain ⟨r2,d2⟩:=hpl x hx1
 rw [aAL F hs1 hx1 r1 r2 d1 d2] at w1
 have sce:scl 2 (Ll qs)=scl (sc qs) (qs.map fun q=>(q.1,q.2.1,wt q*2 / wb q)):=by
  unfold scl Ll
  rw [List.map_map,List.map_map]
  refine List.map_congr_left fun q hq=>?_
  obtain ⟨u,hu⟩:=(tL tr.toWq).2.2 q hq
  obtain ⟨v,h1,h2,h3,h4,h5⟩:=te q hq
  have hb:=h5.e1
  show (q.1,q.2.1,wt q*sc qs / wb q*2)=(q.1,q.2.1,wt q*2 / wb q*sc qs)
  rw [h5.two,hu,show wt q*(wb q*u)=wb q*(wt q*u) by rw [← Int.mul_assoc,Int.mul_comm (wt q),Int.mul_assoc],Int.mul_ediv_cancel_left _ (by omega)]
  have k:wt q*u*2=(δ v - δ (par v))*(wb q*u):=by
   rw [← Int.mul_assoc,← h5.m,Int.mul_assoc,Int.mul_assoc,Int.mul_comm u 2]
  rw [k]
 have w2:=aBu (s:=s) (x:=x) (oC tr fun q=>wt q*sc qs / wb q) (oC tr fun q=>wt q*2 / wb q) (l1.trans l2.symm) (by show s≤(Ll qs).length;omega) (by show x≤(Ll qs).length;omega) sce
 have w2:wy (Ll qs) s x*2=wy (qs.map fun q=>(q.1,q.2.1,wt q*2 / wb q)) s x*sc qs:=w2
 rw [w1,Int.mul_assoc] at w2
 omega
noncomputable def aEl (K:PySem.W.Frag):Sp:=fun vs H Q _=>∃ (v:V) (T:List (List Int)) (n:Nat),vs=[v]∧Sh K H (jD T) v∧Quad T n∧n≤8∧Fp (at2 T) n∧(∀ i j,i<n→j<n→at2 T i j≤1000000)∧∀ b qs H',Same H H'→Dw K H' b qs→DrOk T n qs→Q (.ref b) H'
theorem aFa:∀ vs H Q E,aEl K vs H Q E→xT K (vK K) (aBf K) { nx:=fun _ H'=>Q .non H',rt:=Q } (start ["table","above","depths","place","ties"] vs) H:=by
 intro vs H Q E h
 obtain ⟨v,T,n,rfl,hS,qT,n8,F,big,q⟩:=h
 have n1:=F.pos
 unfold xT
 refine lY ?_
 intro a ha0
 refine lY ?_
 intro d hd0
 refine ⟨aE,[(.inl 0, .int 0)],rfl,show 1≤15 by decide,?_⟩
 have e9:nJ [] [((.inl 0:Key),V.int 0)]=kvI [(0,0)]:=by rfl
 rw [e9]
 have sa:=aM ha0 (.dK [])
 have had:a≠d:=aL (aE (H:=H) (a:=a) (o := .dK [])) hd0
 have hd1:H d=none:=sa.free hd0
 have s0:Same H (upd (upd (upd H a (.dK [])) d (.dK [])) d (.dK (kvI [(0,0)]))):=dE hd1 (sa.trans (aM hd0 _))
 have ga:(upd (upd (upd H a (.dK [])) d (.dK [])) d (.dK (kvI [(0,0)]))) a=some (.dK (kvI [])):=by rw [aO had,aO had];exact aE
 have gd':(upd (upd (upd H a (.dK [])) d (.dK [])) d (.dK (kvI [(0,0)]))) d=some (.dK (kvI [(0,0)])):=aE
 generalize upd (upd (upd H a (.dK [])) d (.dK [])) d (.dK (kvI [(0,0)]))=G at s0 ga gd' ⊢
 obtain ⟨ta,rs,rfl,hta,hrl,_⟩:=id hS.tab
 have rn:rs.length=n:=hrl.trans qT.len
 refine ⟨_,rfl,ta,rs,rfl, .inr (s0.tup hta),1,(rs.length:Int),rfl,⟨by decide,by decide,by omega,by omega⟩,?_⟩
 refine bV (lo:=1) (n:=((rs.length:Int) - 1).toNat) (fun i σ' H'=>(∃ x3,σ'=[some (.ref ta),some (.ref a),some (.ref d),x3,none])∧Same H H'∧∃ A Z,H' a=some (.dK (kvI A))∧H' d=some (.dK (kvI Z))∧Ht (at2 T) n (i+1) A Z) ⟨⟨_,rfl⟩,s0,[],[(0,0)],ga,gd',aEj F⟩ (fun i σ1 H1 hi ⟨⟨x3,es⟩,s1,A,Z,h1,h2,ht⟩=>?_) fun σ1 H1 ⟨⟨x3,es⟩,s1,A,Z,h1,h2,ht⟩=>?_
 ·subst es
  rw [show ((1:Int)+(i:Int))=((i+1:Nat):Int) by omega]
  refine ⟨_,rfl,_,rfl,_,rfl,_,rfl, .ref ta,a,d,T,n,i+1,A,Z,rfl,hS.same s1,qT,n8,F,by omega,by omega,had,h1,h2,ht,fun A' Z' H' sy g1 g2 ht'=>⟨⟨_,rfl⟩,fun b o e=>sy b o (aL e ha0) (aL e hd1) (s1 b o e),A',Z',g1,g2,ht'⟩⟩
 ·subst es
  rw [show ((rs.length:Int) - 1).toNat+1=n by omega] at ht
  obtain ⟨J,V0,r,δ,par,rk,hs,hV,hpl,zl,al,hJ⟩:=ht
  dsimp only
  refine lY ?_
  refine ⟨_,rfl,a,kvI A,rfl,h1,fun o B hB=>?_⟩
  have hda:d≠a:=had.symm
  have f0:(upd H1 a (.frz o (.dK (kvI A)))) a=some (.frz o (.dK (kvI A))):=aE
  have f1:(upd H1 a (.frz o (.dK (kvI A)))) d=some (.dK (kvI Z)):=by rw [aO hda];exact h2
  have f2:Same H (upd H1 a (.frz o (.dK (kvI A)))):=dE ha0 s1
  generalize upd H1 a (.frz o (.dK (kvI A)))=H2 at f0 f1 f2 hB ⊢
  have al14:A.length≤13:=by omega
  refine vP (d:=a) (o:=o) (kvs:=kvI A) (fun i σ' H'=>i≤A.length∧(∃ x0 x1,σ'=[x0,x1,some (.ref d)])∧Same H2 H'∧∃ ys qs,H' B=some (.lst ys)∧jP K H' ys (qs.map mE)∧qs.length=i∧(∀ q∈qs,∃ e∈A,Te δ e q)∧∀ (j:Nat) e,j<i→A[j]?=some e→∃ q∈qs,Te δ e q) ⟨Nat.zero_le _,⟨_,_,rfl⟩,aM hB _,[],[],aE,⟨rfl,fun i row h=>by cases h⟩,rfl,by simp,fun j e hj=>by omega⟩ (fun i σ' H' _ ⟨_,_,s,_⟩=>s _ _ f0) (fun i k x σ3 H3 z hx hz ⟨_,⟨x0,x1,es⟩,s3,ys,qs,hB3,rq,ql,t1,t2⟩=>?_) fun σ3 H3 ⟨_,⟨x0,x1,es⟩,s3,ys,qs,hB3,rq,ql,t1,t2⟩=>?_
  ·subst es
   have hi:i<A.length:=by
    have:=(List.getElem?_eq_some_iff.mp hx).1
    rwa [lB] at this
   have hA:A[i]?=some A[i]:=List.getElem?_eq_getElem hi
   have hmem:A[i]∈A:=List.getElem_mem hi
   generalize A[i]=ae at hA hmem
   obtain ⟨v,u⟩:=ae
   obtain ⟨g1,g2,g3⟩:=(hs.ma v u).mp hmem
   subst g3
   have ekx:k = .inl (v:Int)∧x = .int (par v:Int):=by
    unfold kvI at hx
    rw [List.getElem?_map,hA] at hx
    have:=Option.some.inj hx
    exact ⟨(congrArg Prod.fst this).symm,(congrArg Prod.snd this).symm⟩
   obtain ⟨rfl,rfl⟩:=ekx
   have sz:=aM hz (.tup [V.int (v:Int), .int (par v:Int)])
   refine ⟨z,_,rfl, .of aE,rfl, .int (v:Int),[.int (par v:Int)],rfl, .int (par v:Int),[],rfl,rfl,?_⟩
   dsimp only [kV]
   generalize upd H3 z (.tup [V.int (v:Int), .int (par v:Int)])=H4 at sz ⊢
   have hd4:H4 d=some (.dK (kvI Z)):=sz _ _ (s3 _ _ f1)
   refine ⟨_,rfl,_,rfl,?_⟩
   dsimp only [aU]
   refine aDW (x:=v) (y:=par v) ?_
   refine ⟨_,rfl,_,rfl,?_⟩
   dsimp only [aU]
   refine aDH (x:=v) (y:=par v) ?_
   have hu:=hs.tv.pin v g1 g2
   refine ⟨_,rfl,_,rfl,d,_,rfl,wQ hd4 (hs.zval g1),_,rfl,_,rfl,d,_,rfl,wQ hd4 (hs.zval hu),_,_,rfl,rfl,?_⟩
   refine ⟨δ v - δ (par v),rfl,by have:=(hs.tv.A v g1 g2).1;omega,fun lz c e H5 s5 hlz half=>⟨show 3≤sizeLine by decide,fun c6 hc6=>?_⟩⟩
   have s6:=aM hc6 (.tup [V.int ((min v (par v):Nat):Int), .int ((max v (par v):Nat):Int), .ref lz])
   have s46:=s5.trans s6
   have hB6:=s46 _ _ (sz _ _ hB3)
   refine ⟨ys,hB6,?_,hi,⟨_,_,rfl⟩,dE hB ((s3.trans sz).trans s46),ys++[.ref c6],qs++[(min v (par v),max v (par v),c,e)],aE,?_,by rw [List.length_append,ql];rfl,fun t ht=>?_,fun j e' hj he'=>?_⟩
   ·rw [rq.1,List.length_map,ql]
    exact Nat.lt_of_le_of_lt (show i≤13 by omega) (by decide)
   ·rw [List.map_append]
    exact zN (vG (gT (gT rq sz) s46) fun _ _ hb=>eD hb hB6) ⟨lz,_,_,_,_,rfl,eD (.of aE) hB6,eD (s6.tup hlz) hB6⟩
   ·rcases List.mem_append.mp ht with ht | ht
    ·exact t1 t ht
    ·rw [List.mem_singleton.mp ht]
     exact ⟨_,hmem,par v,rfl,rfl,rfl,half⟩
   ·by_cases cj:j<i
    ·obtain ⟨t,h3,h4⟩:=t2 j e' cj he'
     exact ⟨t,List.mem_append_left _ h3,h4⟩
    ·obtain rfl:j=i:=by omega
     rw [hA] at he'
     cases he'
     exact ⟨(min v (par v),max v (par v),c,e),List.mem_append_right _ (by simp),par v,rfl,rfl,rfl,half⟩
  ·subst es
   rw [lB] at ql t2
   refine ⟨_,rfl,B,ys,qs.map mE,rfl, .inl (.of hB3),rq,by rw [List.length_map];omega,fun ys' R' pm' pw py rq' sl hsl=>?_⟩
   obtain ⟨qs',pq,eR⟩:=uP pm' qs rfl
   subst eR
   have ss:=aM hsl (.lst ys')
   refine ⟨sl,ys',rfl, .inl ⟨.of aE,fun b hb=>?_⟩⟩
   have sb:=aM hb (.tup ys')
   refine q b qs' _ ((f2.trans s3).trans (ss.trans sb)) ⟨ys', .of aE,gT (gT rq' ss) sb⟩ (aEJ F n8 big hs hV hpl al hJ (by rw [pq.length_eq];exact ql) (fun t ht=>t1 t (pq.mem_iff.mp ht)) (fun e he=>?_) pw)
   obtain ⟨j,hj⟩:=List.mem_iff_getElem?.mp he
   obtain ⟨t,h3,h4⟩:=t2 j e (List.getElem?_eq_some_iff.mp hj).1 hj
   exact ⟨t,pq.mem_iff.mpr h3,h4⟩
end
end K63
namespace K63
open PySem L2
theorem EmR.mono {K:PySem.W.Frag}{vars vars':List Nat}{tb:TS}{acc:Addr}{σ:St}{H:Hp}{L:List (List Int)}(h:EmR K vars tb acc σ H L)(hs:∀ k∈vars,k∈vars'):EmR K vars' tb acc σ H L:=
 fun D pre R ha hR hz hd=>h D pre R ha hR hz fun σ' H' pre' hl ag sx h1 h2=>hd σ' H' pre' hl (fun k hk=>ag k fun z=>hk (hs k z)) sx h1 h2
theorem oX {K:PySem.W.Frag}{ta tb:TE}{σ:St}{H:Hp}{Q:VK}{x y:Int}(ha:∀ Q:VK,Q (.int x) H→ta σ H Q)(hb:∀ Q:VK,Q (.int y) H→tb σ H Q)(q:Q (.int (x+y)) H):tOp (bH K) ta tb σ H Q:=ha _ (hb _ q)
theorem wV {σ:St}{H:Hp}{s n:Nat}{R:It→Hp→Prop}(hs:σ[s]?=some (some (.int (n:Int))))(hn:n≤1000)(h:R (Itr 0 n) H):dM (aC (aD s) aU) σ H R:=⟨_,hs,(n:Int),rfl,by omega,by omega,by rw [Int.toNat_natCast];exact h⟩
noncomputable def Ev (T:List (List Int)) (n:Nat):Prop:=∀ i j,i<n→j<n→at2 T i j=at2 T j i
noncomputable def nM (T:List (List Int)) (n:Nat):List Bool:=(List.range n).flatMap fun i=>(List.range i).flatMap fun j=>[at2 T i j == at2 T j i]
theorem aCm {c:Bool}{a r:List Int}:r∈(if c=true then [a] else [])↔c=true∧r=a:=by
 cases c <;> simp
noncomputable def brk (T:List (List Int)) (i j k l:Nat):Bool:=decide (at2 T i k+at2 T j l<at2 T i j+at2 T k l) && decide (at2 T i l+at2 T j k<at2 T i j+at2 T k l)
noncomputable def aBt (i j k l:Nat):List Int:=[(i:Int),(j:Int),(k:Int),(l:Int)]
noncomputable def fl (T:List (List Int)) (n:Nat):List (List Int):=(List.range n).flatMap fun i=>(List.range i).flatMap fun j=>(List.range n).flatMap fun k=>(List.range (k+1)).flatMap fun l=>if brk T i j k l=true then [aBt i j k l] else []
theorem mem_fl {T:List (List Int)}{n:Nat}{r:List Int}:r∈fl T n↔∃ i j k l,j<i∧i<n∧l≤k∧k<n∧brk T i j k l=true∧r=aBt i j k l:=by
 unfold fl
 simp only [List.mem_flatMap,List.mem_range,aCm]
 constructor
 ·rintro ⟨i,hi,j,hj,k,hk,l,hl,c,e⟩
  exact ⟨i,j,k,l,hj,hi,by omega,hk,c,e⟩
 ·rintro ⟨i,j,k,l,hj,hi,hl,hk,c,e⟩
  exact ⟨i,hi,j,hj,k,hk,l,by omega,c,e⟩
theorem aDA {T:List (List Int)}{n:Nat}(h:n≤8):(fl T n).length≤4096:=by
 unfold fl
 refine Nat.le_trans (cJ _ 512 n fun k hk=>?_) (by omega)
 refine Nat.le_trans (cJ _ 64 k fun i hi=>?_) (by omega)
 refine Nat.le_trans (cJ _ 8 n fun l hl=>?_) (by omega)
 refine Nat.le_trans (cJ _ 1 (l+1) fun j hj=>?_) (by omega)
 split <;> simp
structure Et (T:List (List Int))(n:Nat):Prop where
 quad:Quad T n
 one:1≤n
 most:n≤8
 ev:Ev T n
 diag:∀ i,i<n→at2 T i i=0
 low:∀ i j,i<n→j<n→0≤at2 T i j
 big:∀ i j,i<n→j<n→at2 T i j≤1000000
theorem gH {T:List (List Int)}{i j k l:Nat}:brk T i j k l=true↔at2 T i k+at2 T j l<at2 T i j+at2 T k l∧at2 T i l+at2 T j k<at2 T i j+at2 T k l:=by
 unfold brk
 rw [Bool.and_eq_true,decide_eq_true_iff,decide_eq_true_iff]
theorem aEh {T:List (List Int)}{n:Nat}(h:Et T n)(e:fl T n=[]):Fp (at2 T) n:=by
 have key:∀ i j k l,j<i→i<n→l≤k→k<n→¬ brk T i j k l=true:=fun i j k l h1 h2 h3 h4 c=>by
  have:aBt i j k l∈fl T n:=mem_fl.mpr ⟨i,j,k,l,h1,h2,h3,h4,c,rfl⟩
  rw [e] at this
  cases this
 refine ⟨h.one,h.diag,h.ev,fun i j k l hi hj hk hl=>?_⟩
 apply Classical.byContradiction
 intro c
 have s1:=h.ev i j hi hj
 have s2:=h.ev k l hk hl
 have s3:=h.ev i k hi hk
 have s4:=h.ev j k hj hk
 have s5:=h.ev i l hi hl
 have s6:=h.ev j l hj hl
 have d1:=h.diag i hi
 have d2:=h.diag j hj
 have d3:=h.diag k hk
 have d4:=h.diag l hl
 have p1:=h.low i k hi hk
 by_cases eij:i=j
 ·subst eij
  by_cases ekl:k=l
  ·subst ekl
   omega
  ·by_cases lt:l<k
   ·exact key k l i i lt hk (Nat.le_refl _) hi (gH.mpr (by omega))
   ·exact key l k i i (by omega) hl (Nat.le_refl _) hi (gH.mpr (by omega))
 ·by_cases lt:j<i
  ·by_cases lk:l≤k
   ·exact key i j k l lt hi lk hk (gH.mpr (by omega))
   ·exact key i j l k lt hi (by omega) hl (gH.mpr (by omega))
  ·by_cases lk:l≤k
   ·exact key j i k l (by omega) hj lk hk (gH.mpr (by omega))
   ·exact key j i l k (by omega) hj (by omega) hl (gH.mpr (by omega))
section
variable {K:PySem.W.Frag}
noncomputable def aBe (K:PySem.W.Frag) (f:List (List Int)→Nat→Bool):Sp:=fun vs H Q _=>∃ (v:V) (T:List (List Int)) (n:Nat),vs=[v]∧Sh K H (jD T) v∧Quad T n∧1≤n∧n≤8∧∀ H',Same H H'→Q (.bl (f T n)) H'
theorem aBR:∀ vs H Q E,aBe K (fun T n=>(nM T n).all id) vs H Q E→rG K { nx:=fun _ H'=>Q .non H',rt:=Q } (start ["table","many"] vs) H:=by
 intro vs H Q E h
 obtain ⟨v,T,n,rfl,hS,hq,h1,hn,q⟩:=h
 obtain ⟨a,rs,rfl,ha,hl,hrow⟩:=id hS.tab
 have hl:rs.length=n:=hl.trans hq.len
 refine ⟨_,rfl,a,rs,rfl, .inr ha,?_⟩
 rw [hl]
 refine ⟨_,rfl,(n:Int),rfl,by omega,by omega,fun acc hacc=>?_⟩
 rw [Int.toNat_natCast]
 refine sV [0,1] ((nM T n).map V.bl) hacc ?_ ?_ fun σ' H' sm hl'=>⟨acc,nM T n,rfl, .inl (.of hl'),q H' sm⟩
 ·rw [List.length_map]
  have:=cJ (fun i=>(List.range i).flatMap fun j=>[at2 T i j == at2 T j i]) 8 n fun i hi=>by
   have:=cJ (fun j=>[at2 T i j == at2 T j i]) 1 i fun _ _=>Nat.le_refl _
   omega
  unfold nM
  omega
 ·refine Emits.cast (L:=(List.range n).flatMap fun i=>(List.range i).flatMap fun j=>[V.bl (at2 T i j == at2 T j i)]) ?_ (by unfold nM;simp only [rY,List.map_cons,List.map_nil])
  refine oP (by decide) (by show 0<3;decide) fun i σ1 H1 hi l1 ag1 s1 sx1 _=>?_
  rw [Int.zero_add] at s1
  refine Emits.mono (vars:=[1]) (sM (by decide) (by rw [l1];show 1<3;decide) (by omega) (fun Q hQ=>⟨_,s1,hQ H1 (Same.refl _)⟩) fun j σ2 H2 hj l2 ag2 s2 sx2 _=>?_) (by simp)
  have t2:σ2[2]?=some (some (.ref a)):=(ag2 2 (by decide)).trans ((ag1 2 (by decide)).trans rfl)
  have u1:σ2[0]?=some (some (.int (i:Int))):=(ag2 0 (by decide)).trans s1
  have S2:=hS.same (kH hacc (sx1.trans sx2))
  refine zL fun Q hQ=>?_
  refine fA t2 u1 s2 S2 hq (by omega) (by omega) (fA t2 s2 u1 S2 hq (by omega) (by omega) ⟨.int _, .int _,Nat.zero_le _,rfl,rfl,?_⟩)
  unfold eqD
  exact hQ H2 (Same.refl _)
theorem aAW {T:List (List Int)}{n:Nat}(h:Ev T n):(nM T n).all id=true:=by
 unfold nM
 rw [mV]
 refine List.all_eq_true.mpr fun i hi=>?_
 rw [mV]
 refine List.all_eq_true.mpr fun j hj=>?_
 have hi:=List.mem_range.mp hi
 have hj:=List.mem_range.mp hj
 rw [h i j hi (by omega)]
 simp
noncomputable def aEq (K:PySem.W.Frag):Sp:=fun vs H Q _=>∃ (v:V) (T:List (List Int)) (n i j k l:Nat),vs=[v, .int (i:Int), .int (j:Int), .int (k:Int), .int (l:Int)]∧Sh K H (jD T) v∧Quad T n∧i<n∧j<n∧k<n∧l<n∧Q (.bl (brk T i j k l)) H
theorem aEN:∀ vs H Q E,aEq K vs H Q E→iD K { nx:=fun _ H'=>Q .non H',rt:=Q } (start ["table","i","j","k","l","both"] vs) H:=by
 intro vs H Q E h
 obtain ⟨v,T,n,i,j,k,l,rfl,hS,qT,hi,hj,hk,hl,q⟩:=h
 unfold iD
 refine lY (oX (fun Q h=>fA rfl rfl rfl hS qT hi hj h) (fun Q h=>fA rfl rfl rfl hS qT hk hl h) ?_)
 refine ⟨_,rfl,oX (fun Q h=>fA rfl rfl rfl hS qT hi hk h) (fun Q h=>fA rfl rfl rfl hS qT hj hl h) ⟨_,_,rfl,rfl,_,rfl,?_⟩⟩
 unfold brk at q
 by_cases c:at2 T i k+at2 T j l<at2 T i j+at2 T k l
 ·rw [decide_eq_true c,Bool.true_and] at q
  exact cE (decide_eq_true c) ⟨_,rfl,oX (fun Q h=>fA rfl rfl rfl hS qT hi hl h) (fun Q h=>fA rfl rfl rfl hS qT hj hk h) ⟨_,_,rfl,rfl,q⟩⟩
 ·rw [decide_eq_false c,Bool.false_and] at q
  exact bW (decide_eq_false c) q
theorem aAR {σ:St}{H:Hp}{s n:Nat}{R:It→Hp→Prop}(hs:σ[s]?=some (some (.int (n:Int))))(hn:n≤1000)(h:R (Itr 0 (n+1)) H):dM (aC (tOp (bH K) (aD s) (tC (.int 1))) aU) σ H R:=⟨_,hs,(n:Int)+1,rfl,by omega,by omega,by rw [show ((n:Int)+1).toNat=n+1 by omega];exact h⟩
noncomputable def aEz (K:PySem.W.Frag):Sp:=fun vs H Q _=>∃ (v:V) (T:List (List Int)) (n:Nat),vs=[v]∧Sh K H (jD T) v∧Quad T n∧n≤8∧(fl T n=[]→∀ H',Same H H'→Q .non H')∧∀ b r H',Same H H'→r∈fl T n→SqT K H' b (r.map V.int)→Q (.ref b) H'
theorem aFm:∀ vs H Q E,aEz K vs H Q E→gX K (aEq K) { nx:=fun _ H'=>Q .non H',rt:=Q } (start ["table","many","found"] vs) H:=by
 intro vs H Q E h
 obtain ⟨v,T,n,rfl,hS,qT,n8,q1,q2⟩:=h
 obtain ⟨a,rs,rfl,ha,hl,hrow⟩:=id hS.tab
 have hl:rs.length=n:=hl.trans qT.len
 refine ⟨_,rfl,a,rs,rfl, .inr ha,?_⟩
 rw [hl]
 refine ⟨_,rfl,(n:Int),rfl,by omega,by omega,fun F hF=>?_⟩
 rw [Int.toNat_natCast]
 refine aAU (K:=K) [0,1,2,3] (fl T n) hF (Nat.le_trans (aDA n8) (by decide)) ?_ fun σ1 H1 pre s1 h1 r1=>?_
 ·refine uR (by decide) (by show 0<6;decide) fun i σ1 H1 hi l1 ag1 s1 sx1=>?_
  rw [Int.zero_add] at s1
  have hl6:σ1.length=6:=l1
  refine EmR.mono (vars:=[1,2,3]) ?_ (by decide)
  refine tZ (lo:=0) (n:=i) (fun R h=>wV s1 (by omega) h) (by decide) (by omega) fun j σ2 H2 hj l2 ag2 s2 sx2=>?_
  rw [Int.zero_add] at s2
  refine EmR.mono (vars:=[2,3]) ?_ (by decide)
  have m4:σ2[4]?=some (some (.int (n:Int))):=(ag2 4 (by decide)).trans ((ag1 4 (by decide)).trans rfl)
  refine tZ (lo:=0) (n:=n) (fun R h=>wV m4 (by omega) h) (by decide) (by omega) fun k σ3 H3 hk l3 ag3 s3 sx3=>?_
  rw [Int.zero_add] at s3
  refine EmR.mono (vars:=[3]) ?_ (by decide)
  refine tZ (lo:=0) (n:=k+1) (fun R h=>aAR s3 (by omega) h) (by decide) (by omega) fun l σ4 H4 hl' l4 ag4 s4 sx4=>?_
  rw [Int.zero_add] at s4
  have u0:σ4[0]?=some (some (.int (i:Int))):=(ag4 0 (by decide)).trans ((ag3 0 (by decide)).trans ((ag2 0 (by decide)).trans s1))
  have u1:σ4[1]?=some (some (.int (j:Int))):=(ag4 1 (by decide)).trans ((ag3 1 (by decide)).trans s2)
  have u2:σ4[2]?=some (some (.int (k:Int))):=(ag4 2 (by decide)).trans s3
  have u5:σ4[5]?=some (some (.ref a)):=(ag4 5 (by decide)).trans ((ag3 5 (by decide)).trans ((ag2 5 (by decide)).trans ((ag1 5 (by decide)).trans rfl)))
  have hS4:=hS.same (kH hF (sx1.trans (sx2.trans (sx3.trans sx4))))
  refine aDB (c:=brk T i j k l) (fun Q h=>⟨_,u5,_,u0,_,u1,_,u2,_,s4, .ref a,T,n,i,j,k,l,rfl,hS4,qT,hi,by omega,hk,by omega,_,rfl,h⟩) fun _=>?_
  exact aCC (r:=aBt i j k l) (show 4≤100 by decide) fun Q h=>⟨_,u0,_,u1,_,u2,_,s4,h⟩
 ·refine ⟨_,rfl,!pre.isEmpty, .inl ⟨pre, .of h1,rfl⟩,?_⟩
  cases hfl:fl T n with
  | nil=>
   have hp:pre=[]:=by
    have:=r1.1
    rw [hfl] at this
    exact List.eq_nil_of_length_eq_zero this
   subst hp
   exact bW rfl (q1 hfl _ s1)
  | cons r rest=>
   obtain ⟨b,e1,e2⟩:=r1.2 0 r (by rw [hfl];rfl)
   have hp:pre≠[]:=fun e=>by rw [e] at e1;cases e1
   refine cE (by cases pre with | nil=>exact absurd rfl hp | cons _ _=>rfl) ?_
   exact ⟨_,rfl,ixL (j:=0) (.of h1) e1 (q2 b r _ s1 (by rw [hfl];exact List.mem_cons_self ..) e2)⟩
noncomputable def aAP (K:PySem.W.Frag):Sp:=fun vs H Q _=>∃ (v:V) (T:List (List Int)) (n:Nat),vs=[v]∧Sh K H (jD T) v∧Et T n∧(∀ z b r H',Same H H'→r∈fl T n→SqT K H' z [.str "four", .ref b]→SqT K H' b (r.map V.int)→Q (.ref z) H')∧∀ z b qs H',Same H H'→fl T n=[]→SqT K H' z [.str "tree", .ref b]→Dw K H' b qs→DrOk T n qs→Q (.ref z) H'
theorem aCZ:∀ vs H Q E,aAP K vs H Q E→jG K (aEz K) (aEl K) (aBe K fun T n=>(nM T n).all id) { nx:=fun _ H'=>Q .non H',rt:=Q } (start ["table","four"] vs) H:=by
 intro vs H Q E h
 obtain ⟨v,T,n,rfl,hS,et,q1,q2⟩:=h
 refine ⟨_,rfl,v,T,n,rfl,hS,et.quad,et.one,et.most,fun H1 s1=>⟨_,rfl,bW (by show (!(nM T n).all id)=false;rw [aAW et.ev];rfl) ?_⟩⟩
 refine ⟨_,rfl,v,T,n,rfl,hS.same s1,et.quad,et.most,fun e H2 s2=>?_,fun b r H2 s2 hr hb=>?_⟩
 ·refine ⟨_,rfl, .inr ⟨rfl,_,rfl,bW rfl ?_⟩⟩
  refine ⟨_,rfl,v,T,n,rfl,(hS.same s1).same s2,et.quad,et.most,aEh et e,et.big,fun b qs H3 s3 hD ok=>⟨show 2≤sizeLine by decide,fun z hz=>?_⟩⟩
  have sz:=aM hz (.tup [V.str "tree", .ref b])
  exact q2 z b qs _ (((s1.trans s2).trans s3).trans sz) e (.of aE) (hD.same sz) ok
 ·refine ⟨_,rfl, .inr ⟨rfl,_,rfl,cE rfl ?_⟩⟩
  refine ⟨_,rfl,show 2≤sizeLine by decide,fun z hz=>?_⟩
  have sz:=aM hz (.tup [V.str "four", .ref b])
  exact q1 z b r _ ((s1.trans s2).trans sz) hr (.of aE) (sz.tup hb)
end
end K63
namespace K63
open PySem L2
theorem nL:∀ {ds:List Dt},(∀ d∈ds,zF d=true)→wH ds=true
 | [],_=>by unfold wH;rfl
 | d :: ds,h=>by
  unfold wH
  rw [h d (by simp),nL fun x hx=>h x (List.mem_cons_of_mem _ hx)]
  rfl
theorem aAy (q:Tq):zF (kK q)=true:=by
 unfold kK zF
 rw [nL]
 ·rfl
 ·intro d hd
  simp only [List.mem_cons,List.not_mem_nil,or_false] at hd
  rcases hd with rfl | rfl | rfl
  ·unfold zF;rfl
  ·unfold zF;rfl
  ·unfold zF
   rw [nL]
   ·rfl
   ·intro d hd
    simp only [List.mem_cons,List.not_mem_nil,or_false] at hd
    rcases hd with rfl | rfl <;> (unfold zF;rfl)
section
variable {K:PySem.W.Frag}
noncomputable def aEI (K:PySem.W.Frag):Sp:=fun vs H Q _=>∃ (k:Nat) (a:Addr) (qs:List Tq),vs=[.ref a, .int (k:Int)]∧Dw K H a qs∧Tr qs∧k≤qs.length+1∧Srt (qs.map mE)∧(∀ q∈qs,tJ (qs.length+1) q)∧∀ H',Same H H'→Q (.bl true) H'
theorem aFd:∀ vs H Q E,aEI K vs H Q E→fX K (aEw K) (aCR K) { nx:=fun _ H'=>Q .non H',rt:=Q } (start ["thing","many","tie","at"] vs) H:=by
 intro vs H Q E h
 obtain ⟨k,a,qs,rfl,hD,tr,ck,cs,ties,q⟩:=h
 obtain ⟨xs,ha,hR⟩:=id hD
 have l13:=tr.len
 have hl:xs.length=qs.length:=by rw [hR.1,List.length_map]
 have e1:∀ (G:Hp) (P:VK),P (.int ((qs.length+1:Nat):Int)) G→bH K (.int (xs.length:Int)) (.int 1) G P:=fun G P hP=>by
  show P (.int ((xs.length:Int)+1)) G
  rw [hl,show ((qs.length:Int)+1)=((qs.length+1:Nat):Int) by omega]
  exact hP
 refine ⟨_,rfl, .ref a, .tup (qs.map kK),"tuple",rfl, .inr (.inr (.inl rfl)),hD.sh,_,rfl,?_⟩
 refine bW rfl ⟨_,rfl,_,rfl,a,xs,rfl, .inr ha,?_⟩
 dsimp only [tC]
 refine e1 _ _ ?_
 refine ⟨_,_,rfl,rfl,_,rfl,?_⟩
 refine cE (decide_eq_true (by omega)) ⟨_,_,rfl,rfl,_,rfl,?_⟩
 refine bW (by rw [decide_eq_true (by omega)];rfl) ?_
 refine ⟨_,rfl,a,rfl, .inr ⟨⟨_,ha⟩,?_⟩⟩
 refine nD (K:=K) (a:=a) (xs:=xs) (fun i σ' H'=>i≤xs.length∧(∃ x2,σ'=[some (.ref a),some (.int (k:Int)),x2,none])∧Same H H') ⟨Nat.zero_le _,⟨_,rfl⟩,Same.refl _⟩ (fun i σ' H' _ ⟨_,_,s⟩=>s.tup ha) (fun i y σ1 H1 hy ⟨_,⟨x2,es⟩,s1⟩=>?_) fun σ1 H1 ⟨_,⟨x2,es⟩,s1⟩=>?_
 ·subst es
  have hi:i<qs.length:=by rw [← hl];exact (List.getElem?_eq_some_iff.mp hy).1
  have hq:qs[i]?=some qs[i]:=List.getElem?_eq_getElem hi
  obtain ⟨b,eb,tb⟩:=hR.2 i (mE qs[i]) (by rw [List.getElem?_map,hq];rfl)
  rw [hy] at eb
  cases eb
  have shq:Sh K H (kK qs[i]) (.ref b):=by
   obtain ⟨g,x,y',t,z,er,hb,hg⟩:=tb
   unfold mE at er
   simp only [List.cons.injEq,and_true] at er
   obtain ⟨rfl,rfl,rfl,rfl⟩:=er
   exact ⟨b,_,rfl,hb, .int _,_,rfl,rfl, .int _,_,rfl,rfl, .ref g,_,rfl,⟨g,_,rfl,hg, .int _,_,rfl,rfl, .int _,_,rfl,rfl,rfl⟩,rfl⟩
  refine ⟨_,rfl,_,rfl,a,xs,rfl, .inr (s1.tup ha),?_⟩
  dsimp only [tC]
  refine e1 _ _ ?_
  refine ⟨qs.length+1, .ref b,kK qs[i],rfl,shq.same s1,aAy _,fun c hc H2 s2=>⟨_,rfl,?_⟩⟩
  obtain rfl:c=true:=hc.mpr ⟨qs[i],rfl,ties _ (List.getElem_mem hi)⟩
  exact bW rfl ⟨by omega,⟨_,rfl⟩,s1.trans s2⟩
 ·subst es
  have rq:=gT hR s1
  have rl:(qs.map mE).length=qs.length:=List.length_map ..
  refine ⟨_,rfl,a,xs,rfl, .inr (s1.tup ha),1,(xs.length:Int),rfl,⟨by decide,by decide,by omega,by omega⟩,?_⟩
  refine bV (lo:=1) (n:=((xs.length:Int) - 1).toNat) (fun i σ' H'=>(∃ x3,σ'=[some (.ref a),some (.int (k:Int)),x2,x3])∧H'=H1) ⟨⟨_,rfl⟩,rfl⟩ (fun i σ2 H2 hi ⟨⟨x3,es⟩,e2⟩=>?_) fun σ2 H2 ⟨⟨x3,es⟩,e2⟩=>?_
  ·subst es e2
   have i1:i+1<xs.length:=by omega
   have r0:(qs.map mE)[i]?=some ((qs.map mE).getD i []):=by rw [List.getD_eq_getElem?_getD,List.getElem?_eq_getElem (show i<(qs.map mE).length by omega)];rfl
   have r1:(qs.map mE)[i+1]?=some ((qs.map mE).getD (i+1) []):=by rw [List.getD_eq_getElem?_getD,List.getElem?_eq_getElem (show i+1<(qs.map mE).length by omega)];rfl
   obtain ⟨b0,hb0,t0⟩:=rq.2 i _ r0
   obtain ⟨b1,hb1,t1⟩:=rq.2 (i+1) _ r1
   refine ⟨_,rfl,_,rfl,_,_,rfl,rfl,?_⟩
   show bS K (.ref a) (.int (1+(i:Int) - 1)) _ _
   rw [show (1+(i:Int) - 1)=(i:Int) by omega]
   refine ixT (j:=i) (s1.tup ha) hb0 ⟨_,rfl,_,rfl,?_⟩
   rw [show (1+(i:Int))=((i+1:Nat):Int) by omega]
   refine ixT (j:=i+1) (s1.tup ha) hb1 ⟨b0,b1,_,_,rfl,rfl,t0,t1,_,rfl,?_⟩
   exact bW (aEe cs (by omega)) ⟨⟨_,rfl⟩,rfl⟩
  ·subst es e2
   refine ⟨_,rfl,a,rfl, .inr ⟨⟨xs,s1.tup ha⟩,fun A hA=>?_⟩⟩
   refine nD (K:=K) (a:=a) (xs:=xs) (fun i σ' H'=>i≤xs.length∧(∃ x0 x1 x2,σ'=[x0,x1,x2])∧Same H2 H'∧∃ ys,H' A=some (.lst ys)∧Rows K H' ys (rwL ((qs.take i).map fun q=>(q.1,q.2.1,1)))) ⟨Nat.zero_le _,⟨_,_,_,rfl⟩,aM hA _,[],aE,Rows.nil⟩ (fun i σ' H' _ ⟨_,_,s,_⟩=>s.tup (s1.tup ha)) (fun i y σ3 H3 hy ⟨_,⟨x0,x1,x2,es⟩,s3,ys,hA3,hR3⟩=>?_) fun σ3 H3 ⟨_,⟨x0,x1,x2,es⟩,s3,ys,hA3,hR3⟩=>?_
   ·subst es
    have hi:i<xs.length:=(List.getElem?_eq_some_iff.mp hy).1
    have hq:qs[i]?=some qs[i]:=List.getElem?_eq_getElem (by omega)
    obtain ⟨b,eb,g,x,y',t,z,er,hb,hg⟩:=hR.2 i (mE qs[i]) (by rw [List.getElem?_map,hq];rfl)
    rw [hy] at eb
    cases eb
    unfold mE at er
    simp only [List.cons.injEq,and_true] at er
    obtain ⟨rfl,rfl,rfl,rfl⟩:=er
    refine ⟨b,_,rfl,(s1.trans s3).tup hb,rfl, .int (qs[i].1:Int),[.int (qs[i].2.1:Int), .ref g],rfl, .int (qs[i].2.1:Int),[.ref g],rfl, .ref g,[],rfl,rfl,?_⟩
    refine ⟨_,rfl,_,rfl,show 3≤sizeLine by decide,fun z hz=>?_⟩
    have sz:=aM hz (.tup [V.int (qs[i].1:Int), .int (qs[i].2.1:Int), .int 1])
    have hAz:=sz _ _ hA3
    refine ⟨ys,hAz,?_,hi,⟨_,_,_,rfl⟩,dE hA (s3.trans sz),ys++[.ref z],aE,?_⟩
    ·rw [hR3.1,tP,List.length_map,List.length_take]
     exact Nat.lt_of_le_of_lt (show _≤13 by omega) (by decide)
    ·rw [List.take_add_one,hq,List.map_append]
     unfold rwL
     rw [List.map_append]
     exact Rows.snoc (Rows.put (hR3.same sz) hAz) (eD (.of aE) hAz)
   ·rw [List.take_of_length_le (by omega)] at hR3
    have ll:(qs.map fun q=>(q.1,q.2.1,(1:Int))).length=qs.length:=List.length_map ..
    refine ⟨A,ys,_,0,rfl,hA3,hR3,oC tr fun _=>1,by omega,Nat.zero_le _,fun d f m H4 s4 hd4 gr fl=>?_⟩
    have m4:=(s1.trans s3).trans s4
    refine ⟨d,kvI f,rfl,hd4,_,rfl,a,xs,rfl, .inr (m4.tup ha),?_⟩
    dsimp only [tC]
    refine e1 _ _ ?_
    refine ⟨.int _, .int _,Nat.zero_le _,rfl,rfl,?_⟩
    rw [iA,decide_eq_true (by rw [lB,fl,ll])]
    exact q H4 m4
noncomputable def aDm (K:PySem.W.Frag):Sp:=fun vs H Q _=>∃ (v:V) (f:Addr) (T:List (List Int)) (n i j k l:Nat),vs=[v, .ref f]∧Sh K H (jD T) v∧Quad T n∧SqT K H f ((aBt i j k l).map V.int)∧i<n∧j<n∧k<n∧l<n∧Q (.bl (brk T i j k l)) H
theorem aFn:∀ vs H Q E,aDm K vs H Q E→fK K { nx:=fun _ H'=>Q .non H',rt:=Q } (start ["table","four","i","j","k","l","two"] vs) H:=by
 intro vs H Q E h
 obtain ⟨v,f,T,n,i,j,k,l,rfl,hS,qT,hf,hi,hj,hk,hl,q⟩:=h
 refine ⟨_,rfl,f,_,rfl,hf,rfl, .int (i:Int),[.int (j:Int), .int (k:Int), .int (l:Int)],rfl, .int (j:Int),[.int (k:Int), .int (l:Int)],rfl, .int (k:Int),[.int (l:Int)],rfl, .int (l:Int),[],rfl,rfl,?_⟩
 refine lY (oX (fun Q h=>fA rfl rfl rfl hS qT hi hj h) (fun Q h=>fA rfl rfl rfl hS qT hk hl h) ?_)
 refine ⟨_,rfl,oX (fun Q h=>fA rfl rfl rfl hS qT hi hk h) (fun Q h=>fA rfl rfl rfl hS qT hj hl h) ⟨_,_,rfl,rfl,_,rfl,?_⟩⟩
 unfold brk at q
 by_cases c:at2 T i k+at2 T j l<at2 T i j+at2 T k l
 ·rw [decide_eq_true c,Bool.true_and] at q
  exact cE (decide_eq_true c) ⟨_,rfl,oX (fun Q h=>fA rfl rfl rfl hS qT hi hl h) (fun Q h=>fA rfl rfl rfl hS qT hj hk h) ⟨_,_,rfl,rfl,q⟩⟩
 ·rw [decide_eq_false c,Bool.false_and] at q
  exact bW (decide_eq_false c) q
noncomputable def BrL (T:List (List Int)) (n:Nat):Prop:=∃ i j k l,i≤j∧j<n∧k≤l∧l<n∧brk T i j k l=true
theorem aDr {T:List (List Int)}{n:Nat}(h:Et T n):BrL T n↔fl T n≠[]:=by
 constructor
 ·rintro ⟨i,j,k,l,h1,h2,h3,h4,c⟩ e
  have F:=aEh h e
  have:=F.fp i j k l (by omega) h2 (by omega) h4
  have:=gH.mp c
  omega
 ·intro e
  cases hf:fl T n with
  | nil=>exact absurd hf e
  | cons r rest=>
   obtain ⟨i,j,k,l,h1,h2,h3,h4,c,_⟩:=mem_fl.mp (show r∈fl T n by rw [hf];exact List.mem_cons_self ..)
   refine ⟨j,i,l,k,by omega,h2,h3,h4,gH.mpr ?_⟩
   have c:=gH.mp c
   have s1:=h.ev i j h2 (by omega)
   have s2:=h.ev k l h4 (by omega)
   omega
noncomputable def aEn (K:PySem.W.Frag):Sp:=fun vs H Q _=>∃ (v:V) (T:List (List Int)) (n:Nat),vs=[v]∧Sh K H (jD T) v∧Quad T n∧n≤8∧∀ b H',(b=true↔BrL T n)→Same H H'→Q (.bl b) H'
theorem aEQ:∀ vs H Q E,aEn K vs H Q E→iC K (aDm K) { nx:=fun _ H'=>Q .non H',rt:=Q } (start ["table","many","i","j","k","l"] vs) H:=by
 intro vs H Q E h
 obtain ⟨v,T,n,rfl,hS,qT,n8,q⟩:=h
 obtain ⟨ta,rs,rfl,hta,hrl,_⟩:=id hS.tab
 have rn:rs.length=n:=hrl.trans qT.len
 refine ⟨_,rfl,ta,rs,rfl, .inr hta,?_⟩
 rw [rn]
 refine ⟨_,rfl,(n:Int),rfl,by omega,by omega,?_⟩
 rw [Int.toNat_natCast]
 have yes:∀ H' i j k l,Same H H'→i≤j→j<n→k≤l→l<n→brk T i j k l=true→Q (.bl true) H':=fun H' i j k l s h1 h2 h3 h4 c=>q true H' ⟨fun _=>⟨i,j,k,l,h1,h2,h3,h4,c⟩,fun _=>rfl⟩ s
 refine bV (lo:=0) (n:=n) (fun i σ' H'=>(∃ x2 x3 x4 x5,σ'=[some (.ref ta),some (.int (n:Int)),x2,x3,x4,x5])∧Same H H'∧∀ i' j k l,i'<i→i'≤j→j<n→k≤l→l<n→¬ brk T i' j k l=true) ⟨⟨_,_,_,_,rfl⟩,Same.refl _,fun i' j k l h=>by omega⟩ (fun i σ1 H1 hi ⟨⟨x2,x3,x4,x5,es⟩,s1,n1⟩=>?_) fun σ1 H1 ⟨⟨x2,x3,x4,x5,es⟩,s1,n1⟩=>?_
 ·subst es
  rw [Int.zero_add]
  refine ⟨_,rfl,_,rfl,(i:Int),(n:Int),rfl,⟨by omega,by omega,by omega,by omega⟩,?_⟩
  rw [show ((n:Int) - (i:Int)).toNat=n - i by omega]
  refine bV (lo:=(i:Int)) (n:=n - i) (fun j σ' H'=>(∃ x3 x4 x5,σ'=[some (.ref ta),some (.int (n:Int)),some (.int (i:Int)),x3,x4,x5])∧Same H H'∧∀ j' k l,i≤j'→j'<i+j→k≤l→l<n→¬ brk T i j' k l=true) ⟨⟨_,_,_,rfl⟩,s1,fun j' k l h1 h2=>by omega⟩ (fun j σ2 H2 hj ⟨⟨x3,x4,x5,es⟩,s2,n2⟩=>?_) fun σ2 H2 ⟨⟨x3,x4,x5,es⟩,s2,n2⟩=>?_
  ·subst es
   rw [show ((i:Int)+(j:Int))=((i+j:Nat):Int) by omega]
   refine ⟨_,rfl,(n:Int),rfl,by omega,by omega,?_⟩
   rw [Int.toNat_natCast]
   refine bV (lo:=0) (n:=n) (fun k σ' H'=>(∃ x4 x5,σ'=[some (.ref ta),some (.int (n:Int)),some (.int (i:Int)),some (.int ((i+j:Nat):Int)),x4,x5])∧Same H H'∧∀ k' l,k'<k→k'≤l→l<n→¬ brk T i (i+j) k' l=true) ⟨⟨_,_,rfl⟩,s2,fun k' l h=>by omega⟩ (fun k σ3 H3 hk ⟨⟨x4,x5,es⟩,s3,n3⟩=>?_) fun σ3 H3 ⟨⟨x4,x5,es⟩,s3,n3⟩=>?_
   ·subst es
    rw [Int.zero_add]
    refine ⟨_,rfl,_,rfl,(k:Int),(n:Int),rfl,⟨by omega,by omega,by omega,by omega⟩,?_⟩
    rw [show ((n:Int) - (k:Int)).toNat=n - k by omega]
    refine bV (lo:=(k:Int)) (n:=n - k) (fun l σ' H'=>(∃ x5,σ'=[some (.ref ta),some (.int (n:Int)),some (.int (i:Int)),some (.int ((i+j:Nat):Int)),some (.int (k:Int)),x5])∧Same H H'∧∀ l',k≤l'→l'<k+l→¬ brk T i (i+j) k l'=true) ⟨⟨_,rfl⟩,s3,fun l' h1 h2=>by omega⟩ (fun l σ4 H4 hl ⟨⟨x5,es⟩,s4,n4⟩=>?_) fun σ4 H4 ⟨⟨x5,es⟩,s4,n4⟩=>?_
    ·subst es
     rw [show ((k:Int)+(l:Int))=((k+l:Nat):Int) by omega]
     refine ⟨_,rfl,_,rfl,_,rfl,_,rfl,_,rfl,show 4≤sizeLine by decide,fun z hz=>?_⟩
     have sz:=aM hz (.tup [V.int (i:Int), .int ((i+j:Nat):Int), .int (k:Int), .int ((k+l:Nat):Int)])
     have s5:=s4.trans sz
     refine ⟨.ref ta,z,T,n,i,i+j,k,k+l,rfl,hS.same s5,qT, .of aE,by omega,by omega,by omega,by omega,_,rfl,?_⟩
     cases c:brk T i (i+j) k (k+l) with
     | true=>exact cE rfl (yes _ i (i+j) k (k+l) s5 (by omega) (by omega) (by omega) (by omega) c)
     | false=>
      refine bW rfl ⟨⟨_,rfl⟩,s5,fun l' h1 h2=>?_⟩
      by_cases e:l'<k+l
      ·exact n4 l' h1 e
      ·obtain rfl:l'=k+l:=by omega
       rw [c];exact Bool.false_ne_true
    ·subst es
     refine ⟨⟨_,_,rfl⟩,s4,fun k' l h1 h2 h3=>?_⟩
     by_cases e:k'<k
     ·exact n3 k' l e h2 h3
     ·obtain rfl:k'=k:=by omega
      exact n4 l h2 (by omega)
   ·subst es
    refine ⟨⟨_,_,_,rfl⟩,s3,fun j' k l h1 h2 h3 h4=>?_⟩
    by_cases e:j'<i+j
    ·exact n2 j' k l h1 e h3 h4
    ·obtain rfl:j'=i+j:=by omega
     exact n3 k l (by omega) h3 h4
  ·subst es
   refine ⟨⟨_,_,_,_,rfl⟩,s2,fun i' j k l h1 h2 h3 h4 h5=>?_⟩
   by_cases e:i'<i
   ·exact n1 i' j k l e h2 h3 h4 h5
   ·obtain rfl:i'=i:=by omega
    exact n2 j k l h2 (by omega) h4 h5
 ·subst es
  exact q false H1 ⟨(fun z=>by cases z),fun ⟨i,j,k,l,h1,h2,h3,h4,c⟩=>absurd c (n1 i j k l (by omega) h1 h2 h3 h4)⟩ s1
end
end K63
namespace K63
open PySem L2
theorem aAj {T:List (List Int)}{n:Nat}(q:Quad T n):((List.range n).map fun s=>(List.range n).map fun x=>at2 T s x)=T:=by
 apply List.ext_getElem
 ·rw [List.length_map,List.length_range,q.len]
 ·intro s h1 h2
  rw [List.getElem_map,List.getElem_range]
  have hr:=q.row T[s] (List.getElem_mem h2)
  apply List.ext_getElem
  ·rw [List.length_map,List.length_range,hr]
  ·intro x h3 h4
   rw [List.getElem_map,List.getElem_range]
   unfold at2
   rw [List.getD_eq_getElem?_getD,List.getD_eq_getElem?_getD,List.getElem?_eq_getElem h2]
   show (T[s][x]?).getD 0=_
   rw [List.getElem?_eq_getElem h4]
   rfl
theorem rS:∀ T:List (List Int),oH (T.map fun r=>Dt.tup (r.map Dt.int))≤1
 | []=>Nat.zero_le _
 | r :: T=>by
  rw [List.map_cons,oH,dep,mW]
  have:=rS T
  omega
theorem aCH (T:List (List Int)):dep (jD T)≤100:=by
 unfold jD
 rw [dep]
 have:=rS T
 omega
theorem DrOk.good {T:List (List Int)}{n:Nat}{qs:List Tq}(h:DrOk T n qs)(et:Et T n):¬ aEy qs n∧tbL qs n=T:=by
 obtain ⟨c0,_,_⟩:=tL h.tr.toWq
 constructor
 ·rintro ⟨s,x,h1,h2,b⟩
  rw [h.way s x h1 h2] at b
  rcases b with b | b
  ·exact b (Int.mul_emod_left _ _)
  ·have:=et.big s x h1 h2
   have:=Int.lt_of_mul_lt_mul_right b (by omega)
   omega
 ·unfold tbL
  rw [← aAj et.quad]
  refine List.map_congr_left fun s hs=>?_
  unfold aAq
  refine List.map_congr_left fun x hx=>?_
  rw [List.mem_range] at hs hx
  rw [h.way s x hs hx,Int.mul_ediv_cancel _ (by omega)]
section
variable {K:PySem.W.Frag}
noncomputable def aEr (K:PySem.W.Frag):Sp:=fun vs H Q _=>∃ (v:V) (T:List (List Int)) (n:Nat),vs=[v]∧Sh K H (jD T) v∧Et T n∧∀ H',Same H H'→Q (.bl true) H'
theorem aFz:∀ vs H Q E,aEr K vs H Q E→iW K (aEn K) (aDm K) (aEI K) (aDP K) (spW K) (aAP K) { nx:=fun _ H'=>Q .non H',rt:=Q } (start ["table","told","many"] vs) H:=by
 intro vs H Q E h
 obtain ⟨v,T,n,rfl,hS,et,q⟩:=h
 obtain ⟨ta,rs,rfl,hta,hrl,_⟩:=id hS.tab
 have rn:rs.length=n:=hrl.trans et.quad.len
 have bl:=aDr et
 have n8:=et.most
 refine ⟨_,rfl, .ref ta,T,n,rfl,hS,et,fun z b r H1 s1 hr hz hb=>?_,fun z b qs H1 s1 hf hz hD ok=>?_⟩
 ·obtain ⟨i,j,k,l,h1,h2,h3,h4,cb,rfl⟩:=mem_fl.mp hr
  refine ⟨_,rfl,ta,rs,rfl, .inr (s1.tup hta),?_⟩
  rw [rn]
  have shb:Sh K H1 (.tup ((aBt i j k l).map Dt.int)) (.ref b):=⟨b,_,rfl,hb,ShL.ints _⟩
  have shz:Sh K H1 (.tup [.str "four", .tup ((aBt i j k l).map Dt.int)]) (.ref z):=⟨z,_,rfl,hz, .str "four",_,rfl,rfl, .ref b,_,rfl,shb,rfl⟩
  refine ⟨_,rfl, .ref z,_,"tuple",rfl, .inr (.inr (.inl rfl)),shz,_,rfl,bW rfl ⟨_,rfl,z,_,rfl, .inr hz, .int _, .int _,Nat.zero_le _,rfl,rfl,_,rfl,?_⟩⟩
  rw [oW]
  refine bW rfl ?_
  refine ⟨_,rfl, .ref ta,T,n,rfl,hS.same s1,et.quad,n8,fun c H2 hc s2=>⟨_,rfl,?_⟩⟩
  obtain rfl:c=true:=hc.mpr (bl.mpr fun e=>by rw [e] at hr;cases hr)
  refine bW rfl ?_
  have hz2:=s2.tup hz
  have hb2:=s2.tup hb
  refine ⟨_,rfl,ixT (j:=0) hz2 rfl ⟨.str _, .str _,Nat.zero_le _,rfl,rfl,_,rfl,bW (by rw [iN];rfl) ?_⟩⟩
  refine ⟨_,rfl,ixT (j:=1) hz2 rfl ⟨.ref b,_,"tuple",rfl, .inr (.inr (.inl rfl)),shb.same s2,_,rfl,bW rfl ?_⟩⟩
  refine ⟨_,rfl,ixT (j:=1) hz2 rfl ⟨b,_,rfl, .inr hb2, .int _, .int _,Nat.zero_le _,rfl,rfl,_,rfl,?_⟩⟩
  rw [oW]
  refine bW rfl ?_
  refine ⟨_,rfl,ixT (j:=1) hz2 rfl ⟨b,rfl, .inr ⟨⟨_,hb2⟩,fun A hA=>?_⟩⟩⟩
  refine sZ (K:=K) (a:=b) (xs:=(aBt i j k l).map V.int) (vars:=[0]) (fun m L H'=>L=List.replicate m (.bl true)) (by decide) (by show 0<2;decide) rfl hA hb2 (fun m x σ3 H3 L3 Df hx l3 ag s0 s3 hA3 el hDf=>?_) fun σ3 H3 L3 s3 hA3 el=>?_
  ·have t1:σ3[1]?=some (some (.int (n:Int))):=(ag 1 (by decide)).trans rfl
   obtain ⟨w,rfl,hw⟩:∃ w:Nat,x = .int (w:Int)∧w<n:=by
    match m,hx with
    | 0,hx=>cases hx;exact ⟨i,rfl,h2⟩
    | 1,hx=>cases hx;exact ⟨j,rfl,by omega⟩
    | 2,hx=>cases hx;exact ⟨k,rfl,h4⟩
    | 3,hx=>cases hx;exact ⟨l,rfl,by omega⟩
   have hm:m<4:=(List.getElem?_eq_some_iff.mp hx).1
   refine ⟨_,s0, .int (w:Int), .int (w:Int),rfl,rfl,fun H4 s4=>⟨_,rfl,cE rfl ⟨_,s0,_,_,rfl,rfl,_,rfl,cE (decide_eq_true (by omega)) ⟨_,t1,_,_,rfl,rfl,?_⟩⟩⟩⟩
   have hA4:=s4 _ _ hA3
   refine ⟨L3,hA4,by rw [el,List.length_replicate];exact Nat.lt_of_le_of_lt (show m≤4 by omega) (by decide),hDf σ3 _ _ l3 ag (dE hA (s3.trans s4)) aE ?_⟩
   rw [el,List.replicate_succ',decide_eq_true (show (w:Int)<(n:Int) by omega)]
  ·have hz3:=s3.tup hz2
   refine ⟨A,List.replicate 4 true,rfl, .inl (.of (by rw [hA3,el];rfl)),_,rfl,bW rfl ?_⟩
   refine ⟨_,rfl,_,rfl,ixT (j:=1) hz3 rfl ⟨.ref ta,b,T,n,i,j,k,l,rfl,hS.same ((s1.trans s2).trans s3),et.quad,s3.tup hb2,h2,by omega,h4,by omega,?_⟩⟩
   rw [cb]
   exact q _ ((s1.trans s2).trans s3)
 ·refine ⟨_,rfl,ta,rs,rfl, .inr (s1.tup hta),?_⟩
  rw [rn]
  have shz:Sh K H1 (.tup [.str "tree", .tup (qs.map kK)]) (.ref z):=⟨z,_,rfl,hz, .str "tree",_,rfl,rfl, .ref b,_,rfl,hD.sh,rfl⟩
  refine ⟨_,rfl, .ref z,_,"tuple",rfl, .inr (.inr (.inl rfl)),shz,_,rfl,bW rfl ⟨_,rfl,z,_,rfl, .inr hz, .int _, .int _,Nat.zero_le _,rfl,rfl,_,rfl,?_⟩⟩
  rw [oW]
  refine bW rfl ?_
  refine ⟨_,rfl, .ref ta,T,n,rfl,hS.same s1,et.quad,n8,fun c H2 hc s2=>⟨_,rfl,?_⟩⟩
  obtain rfl:c=false:=by
   cases c with
   | false=>rfl
   | true=>exact absurd hf (bl.mp (hc.mp rfl))
  refine cE rfl ?_
  have hz2:=s2.tup hz
  have hD2:=hD.same s2
  obtain ⟨nb,eT⟩:=ok.good et
  refine ⟨_,rfl,ixT (j:=0) hz2 rfl ⟨.str _, .str _,Nat.zero_le _,rfl,rfl,_,rfl,cE (iN _) ?_⟩⟩
  refine ⟨_,rfl,ixT (j:=1) hz2 rfl ⟨_,rfl,n,b,qs,rfl,hD2,ok.tr,ok.many,ok.srt,ok.ties,fun H3 s3=>⟨_,rfl,cE rfl ?_⟩⟩⟩
  refine ⟨_,rfl,ixT (j:=1) (s3.tup hz2) rfl ⟨_,rfl, .ref b,qs,n,rfl,(hD2.same s3).sh,ok.tr,ok.many,fun bad=>absurd bad nb,fun _ w H4 s4 hw=>?_⟩⟩
  rw [eT] at hw
  have s14:=((s1.trans s2).trans s3).trans s4
  refine ⟨_,rfl,jD T,jD T,aCH T,hw,hS.same s14,?_⟩
  rw [iN]
  exact q _ s14
end
end K63
namespace K63
open PySem L2
inductive Wk (L:List Ed) (s:Nat):Nat→Int→List Nat→Prop
 | nil:Wk L s s 0 [s]
 | snoc {x y k:Nat} {d:Int} {l:List Nat} {e:Ed}:Wk L s x d l→y∉l→L[k]?=some e→Jo e x y→Wk L s y (d+e.2.2) (l++[y])
section
variable {L:List Ed}{s:Nat}{f:List (Nat × Int)}{m:List (Nat × Nat)}
theorem aEK (g:Gr L s f m):∀ p∈f,∃ l,Wk L s p.1 p.2 l∧∀ v∈l,v∈vs f:=by
 induction g with
 | one=>exact fun p hp=>by rw [List.mem_singleton.mp hp];exact ⟨[s], .nil,fun v hv=>by simpa [vs] using hv⟩
 | @add f m x y k d e h0 hx hy he hj ih=>
  intro p hp
  rw [kO]
  rcases List.mem_append.mp hp with hp | hp
  ·obtain ⟨l,h1,h2⟩:=ih p hp
   exact ⟨l,h1,fun v hv=>List.mem_append_left _ (h2 v hv)⟩
  ·rw [List.mem_singleton.mp hp]
   obtain ⟨l,h1,h2⟩:=ih _ hx
   refine ⟨l++[y], .snoc h1 (fun z=>hy (h2 y z)) he hj,fun v hv=>?_⟩
   rcases List.mem_append.mp hv with hv | hv
   ·exact List.mem_append_left _ (h2 v hv)
   ·exact List.mem_append_right _ hv
theorem Wk.cons {a b t k:Nat}{d:Int}{l:List Nat}{e:Ed}(h:Wk L a b d l)(ht:t∉l)(he:L[k]?=some e)(hj:Jo e t a):Wk L t b (e.2.2+d) (t :: l):=by
 induction h with
 | nil=>
  have:Wk L t a (0+e.2.2) ([t]++[a]) := .snoc .nil (fun z=>ht (by rw [List.mem_singleton.mp z];simp)) he hj
  rw [Int.zero_add] at this
  rw [Int.add_zero]
  exact this
 | @snoc x y k' d l e' h0 hy he' hj' ih=>
  have h1:=ih (fun z=>ht (List.mem_append_left _ z))
  have:Wk L t y (e.2.2+d+e'.2.2) ((t :: l)++[y]) := .snoc h1 (fun z=>by
   rcases List.mem_cons.mp z with z | z
   ·exact ht (by rw [z];simp)
   ·exact hy z) he' hj'
  rw [Int.add_assoc] at this
  exact this
theorem aBN {e:Ed}{x y:Nat}(h:Jo e x y):Jo e y x:=by
 unfold Jo at h ⊢
 omega
theorem Wk.rev {x:Nat}{d:Int}{l:List Nat}(h:Wk L s x d l):Wk L x s d l.reverse:=by
 induction h with
 | nil=>exact .nil
 | @snoc x y k d l e h0 hy he hj ih=>
  have:=ih.cons (t:=y) (fun z=>hy (List.mem_reverse.mp z)) he (aBN hj)
  rw [Int.add_comm] at this
  rw [List.reverse_append]
  exact this
theorem Wk.gr {x:Nat}{d:Int}{l:List Nat}(h:Wk L s x d l):∃ f m,Gr L s f m∧(x,d)∈f∧vs f=l:=by
 induction h with
 | nil=>exact ⟨_,_, .one,by simp,rfl⟩
 | @snoc x y k d l e h0 hy he hj ih=>
  obtain ⟨f,m,g,h1,h2⟩:=ih
  exact ⟨_,_,g.add h1 (by rw [h2];exact hy) he hj,by simp,by rw [kO,h2]⟩
theorem pI (t:Tre L){x:Nat}{d:Int}(ls:s≤L.length)(g:Gr L s f m)(h:(x,d)∈f):wy L s x=d:=by
 obtain ⟨f',m',g',l'⟩:=lP t ls
 exact (vN g' l' ((xI g g' l').1 _ h)).symm
theorem aCd (t:Tre L)(ls:s≤L.length):wy L s s=0:=pI t ls .one (by simp)
theorem aDG (t:Tre L){x:Nat}(ls:s≤L.length)(lx:x≤L.length):wy L s x=wy L x s:=by
 obtain ⟨f,m,g,l⟩:=lP t ls
 obtain ⟨⟨x1,d⟩,hd,ex⟩:=List.mem_map.mp (g.has t ls l (x:=x) (by omega))
 have ex:x1=x:=ex
 subst ex
 obtain ⟨lw,h1,_⟩:=aEK g _ hd
 obtain ⟨f',m',g',h2,_⟩:=h1.rev.gr
 rw [pI t ls g hd,pI t lx g' h2]
theorem aCP {o:Nat→Int}{B:Int}(ho:∀ x,o x=0∨o x=1)(hB:∀ e∈L,0≤e.2.2∧e.2.2≤B∧e.2.2 % 2=if o e.1=o e.2.1 then 0 else 1)(g:Gr L s f m):∀ p∈f,0≤p.2∧p.2≤B*(m.length:Int)∧p.2 % 2=if o s=o p.1 then 0 else 1:=by
 induction g with
 | one=>exact fun p hp=>by rw [List.mem_singleton.mp hp];exact ⟨Int.le_refl _,by simp,by simp⟩
 | @add f m x y k d e h0 hx hy he hj ih=>
  intro p hp
  have b0:0≤B:=by
   have:=hB e (List.mem_of_getElem? he)
   omega
  have e1:B*(((m++[(y,k)]).length:Nat):Int)=B*(m.length:Int)+B:=by
   rw [List.length_append,List.length_singleton,Int.natCast_add,Int.mul_add]
   simp
  rcases List.mem_append.mp hp with hp | hp
  ·obtain ⟨a,b,c⟩:=ih p hp
   exact ⟨a,by rw [e1];omega,c⟩
  ·rw [List.mem_singleton.mp hp]
   obtain ⟨a,b,c⟩:=ih _ hx
   obtain ⟨a',b',c'⟩:=hB e (List.mem_of_getElem? he)
   have a:0≤d:=a
   have b:d≤B*(m.length:Int):=b
   have c:d % 2=if o s=o x then 0 else 1:=c
   refine ⟨by show 0≤d+e.2.2;omega,by rw [e1];show d+e.2.2≤_;omega,?_⟩
   show (d+e.2.2) % 2=if o s=o y then 0 else 1
   have h1:=ho s
   have h2:=ho x
   have h3:=ho y
   have c2:e.2.2 % 2=if o x=o y then 0 else 1:=by
    rcases hj with ⟨z1,z2⟩ | ⟨z1,z2⟩
    ·rw [c',z1,z2]
    ·rw [c',z1,z2]
     by_cases q:o y=o x
     ·rw [if_pos q,if_pos q.symm]
     ·rw [if_neg q,if_neg (fun z=>q z.symm)]
   rcases h1 with h1 | h1 <;> rcases h2 with h2 | h2 <;> rcases h3 with h3 | h3 <;> simp [h1,h2,h3] at c c2 ⊢ <;> omega
end
theorem aAs {qs:List Tq}{n:Nat}{hs:List Int}(tr:Tr qs)(n1:1≤n)(n8:n≤8)(hn:n≤qs.length+1)(o0:∀ x,x<n→hs.getD x 0=0)(o1:∀ x,hs.getD x 0=0∨hs.getD x 0=1)(hv:∀ q∈qs,Hv hs q):¬ aEy qs n∧Et (tbL qs n) n:=by
 obtain ⟨c0,_,_⟩:=tL tr.toWq
 have l13:=tr.len
 have l1:(qs.map fun q=>(q.1,q.2.1,wt q*2 / wb q)).length=qs.length:=List.length_map ..
 have l2:(Ll qs).length=qs.length:=List.length_map ..
 have hw:∀ q∈qs,∃ tw:Nat,tw≤140001∧wt q*2=(tw:Int)*wb q∧wt q*2 / wb q=(tw:Int)∧(tw % 2=if hs.getD q.1 0=hs.getD q.2.1 0 then 0 else 1):=fun q hq=>by
  obtain ⟨tw,h1,h2,h3⟩:=hv q hq
  have:=(tr.ok q hq).2.2.1
  exact ⟨tw,h1,h2,by rw [h2];exact Int.mul_ediv_cancel _ (by omega),h3⟩
 have t1:=oC tr fun q=>wt q*2 / wb q
 have t2:Tre (Ll qs):=oC tr _
 have B:∀ e∈qs.map (fun q=>(q.1,q.2.1,wt q*2 / wb q)),0≤e.2.2∧e.2.2≤140001∧e.2.2 % 2=if hs.getD e.1 0=hs.getD e.2.1 0 then 0 else 1:=fun e he=>by
  obtain ⟨q,hq,rfl⟩:=List.mem_map.mp he
  obtain ⟨tw,h1,h2,h3,h4⟩:=hw q hq
  show 0≤wt q*2 / wb q∧wt q*2 / wb q≤140001∧(wt q*2 / wb q) % 2=_
  rw [h3]
  refine ⟨by omega,by omega,?_⟩
  show (tw:Int) % 2=if hs.getD q.1 0=hs.getD q.2.1 0 then 0 else 1
  by_cases z:hs.getD q.1 0=hs.getD q.2.1 0
  ·rw [if_pos z] at h4 ⊢;omega
  ·rw [if_neg z] at h4 ⊢;omega
 have sce:scl 2 (Ll qs)=scl (sc qs) (qs.map fun q=>(q.1,q.2.1,wt q*2 / wb q)):=by
  unfold scl Ll
  rw [List.map_map,List.map_map]
  refine List.map_congr_left fun q hq=>?_
  obtain ⟨u,hu⟩:=(tL tr.toWq).2.2 q hq
  obtain ⟨tw,h1,h2,h3,h4⟩:=hw q hq
  have hb:=(tr.ok q hq).2.2.1
  show (q.1,q.2.1,wt q*sc qs / wb q*2)=(q.1,q.2.1,wt q*2 / wb q*sc qs)
  rw [h3,hu,show wt q*(wb q*u)=wb q*(wt q*u) by rw [← Int.mul_assoc,Int.mul_comm (wt q),Int.mul_assoc],Int.mul_ediv_cancel_left _ (by omega)]
  have k:wt q*u*2=(tw:Int)*(wb q*u):=by
   rw [← Int.mul_assoc,← h2,Int.mul_assoc,Int.mul_assoc,Int.mul_comm u 2]
  rw [k]
 have key:∀ s x,s<n→x<n→∃ u:Int,wy (Ll qs) s x=u*sc qs∧0≤u∧u≤1000000:=fun s x hs1 hx1=>by
  have w2:=aBu (s:=s) (x:=x) t2 t1 (l1.trans l2.symm) (by omega) (by omega) sce
  obtain ⟨f,m,g,l⟩:=lP t1 (s:=s) (by omega)
  obtain ⟨⟨x1,d⟩,hd,ex⟩:=List.mem_map.mp (g.has t1 (by omega) l (x:=x) (by omega))
  have ex:x1=x:=ex
  subst ex
  rw [pI t1 (by omega) g hd] at w2
  obtain ⟨a,b,c⟩:=aCP o1 B g _ hd
  have a:0≤d:=a
  have b:d≤140001*(m.length:Int):=b
  have c:d % 2=if hs.getD s 0=hs.getD x1 0 then 0 else 1:=c
  rw [o0 s hs1,o0 x1 hx1,if_pos rfl] at c
  have gl:=g.len
  refine ⟨d / 2,?_,by omega,by omega⟩
  have e:d=d / 2*2:=by omega
  have:wy (Ll qs) s x1*2=(d / 2*sc qs)*2:=by
   rw [w2]
   conv=>lhs;rw [e]
   rw [Int.mul_assoc,Int.mul_assoc,Int.mul_comm 2 (sc qs)]
  omega
 have at3:∀ s x,s<n→x<n→at2 (tbL qs n) s x=wy (Ll qs) s x / sc qs:=fun s x h1 h2=>by
  unfold at2 tbL aAq
  have e1:((List.range n).map fun s=>(List.range n).map fun x=>wy (Ll qs) s x / sc qs).getD s []=(List.range n).map fun x=>wy (Ll qs) s x / sc qs:=by
   rw [List.getD_eq_getElem?_getD,List.getElem?_map,List.getElem?_range h1]
   rfl
  rw [e1,List.getD_eq_getElem?_getD,List.getElem?_map,List.getElem?_range h2]
  rfl
 have val:∀ s x,s<n→x<n→0≤at2 (tbL qs n) s x∧at2 (tbL qs n) s x≤1000000:=fun s x h1 h2=>by
  obtain ⟨u,e,a,b⟩:=key s x h1 h2
  rw [at3 s x h1 h2,e,Int.mul_ediv_cancel _ (by omega)]
  exact ⟨a,b⟩
 refine ⟨?_,⟨?_,n1,n8,fun i j hi hj=>?_,fun i hi=>?_,fun i j hi hj=>(val i j hi hj).1,fun i j hi hj=>(val i j hi hj).2⟩⟩
 ·rintro ⟨s,x,h1,h2,b⟩
  obtain ⟨u,e,_,hu⟩:=key s x h1 h2
  rw [e] at b
  rcases b with b | b
  ·exact b (Int.mul_emod_left _ _)
  ·have:=Int.lt_of_mul_lt_mul_right b (by omega)
   omega
 ·constructor
  ·unfold tbL;rw [List.length_map,List.length_range]
  ·intro r hr
   obtain ⟨s,_,rfl⟩:=List.mem_map.mp hr
   unfold aAq;rw [List.length_map,List.length_range]
 ·rw [at3 i j hi hj,at3 j i hj hi,aDG t2 (by omega) (by omega)]
 ·rw [at3 i i hi hi,aCd t2 (by omega)]
  exact Int.zero_ediv _
end K63
namespace K63
open PySem L2
noncomputable def Bnd (M:List (List Int)) (n:Nat):Prop:=∀ i j,i<n→j<n→0≤at2 M i j∧at2 M i j≤1000000∧at2 M i i=0
theorem aBW {M:List (List Int)}{n i j:Nat}{v:Int}(b:Bnd M n)(q:Quad M n)(hi:i<n)(hj:j<n)(h0:0≤v)(h1:v≤1000000)(hne:i≠j):Bnd (sO M i j v) n:=by
 intro a c ha hc
 rw [eW q hi hj,eW q hi hj]
 have:=b a c ha hc
 refine ⟨?_,?_,?_⟩
 ·split <;> omega
 ·split <;> omega
 ·rw [if_neg (by rintro ⟨rfl,rfl⟩;exact hne rfl)];exact this.2.2
theorem vC {n a b:Nat}:at2 (List.replicate n (List.replicate n 0)) a b=0:=by
 unfold at2
 have:(List.replicate n (List.replicate n (0:Int))).getD a []=[]∨(List.replicate n (List.replicate n (0:Int))).getD a []=List.replicate n 0:=by
  rw [List.getD_eq_getElem?_getD,List.getElem?_replicate]
  split
  ·exact .inr rfl
  ·exact .inl rfl
 rcases this with e | e
 ·rw [e];rfl
 ·rw [e,List.getD_eq_getElem?_getD,List.getElem?_replicate]
  split <;> rfl
structure Mid (G:Hp)(p l F:Addr)(ls:List Addr)(ns:List Int)(n kb:Nat)(P:List (List Int)→Prop)(H':Hp):Prop where
 ex:∃ (M:List (List Int)) (k:Nat) (z:Int),Quad M n∧Bnd M n∧Mat H' F ls M∧PenAt H' p l ns k z∧k≤kb∧SameX p G H'∧P M
structure Old (G:Hp)(p l F:Addr)(ls:List Addr):Prop where
 p:∃ o,G p=some o
 l:∃ o,G l=some o
 F:G F=none
 ls:∀ x∈ls,G x=none
section
variable {K:PySem.W.Frag}{G:Hp}{p l F:Addr}{ls:List Addr}{ns:List Int}{n kb:Nat}{P:List (List Int)→Prop}{H4:Hp}
theorem Mid.le {kc:Nat}{P':List (List Int)→Prop}(h:kb≤kc)(hP:∀ M,Quad M n→P M→P' M)(m:Mid G p l F ls ns n kb P H4):Mid G p l F ls ns n kc P' H4:=by
 obtain ⟨M,k,z,a,b,c,d,e,f,g⟩:=m.ex
 exact ⟨M,k,z,a,b,c,d,by omega,f,hP M a g⟩
theorem sQ {σ:St}{t si sj i j:Nat}{v:Int}{N:St→Hp→Prop}(o:Old G p l F ls)(m:Mid G p l F ls ns n kb P H4)(ht:σ[t]?=some (some (.ref F)))(hsi:σ[si]?=some (some (.int (i:Int))))(hsj:σ[sj]?=some (some (.int (j:Int))))(hi:i<n)(hj:j<n)(hne:i≠j)(h0:0≤v)(h1:v≤1000000)
  (q:∀ H5,Mid G p l F ls ns n kb (fun M'=>∃ M,P M∧Quad M n∧M'=sO M i j v) H5→N σ H5):qP (tOp (bS K) (aD t) (aD si)) (aD sj) gR (.int v) σ H4 N:=by
 obtain ⟨M,k,z,qM,bM,mM,hP,hk,sx,pM⟩:=m.ex
 refine pJ mM qM ht hsi hsj hi hj fun l' H5 hl' e5 m5=>q H5 ⟨_,k,z,iH qM hi,aBW bM qM hi hj h0 h1 hne,m5,?_,hk,fun b u hb e=>?_,M,pM,qM,rfl⟩
 ·obtain ⟨op,hop⟩:=o.p
  obtain ⟨ol,hol⟩:=o.l
  have n1:p≠l':=aL hop (o.ls l' hl')
  have n2:l≠l':=aL hol (o.ls l' hl')
  rw [e5]
  exact ⟨by rw [aO n1];exact hP.1,by rw [aO n2];exact hP.2.1,hP.2.2⟩
 ·rw [e5,aO (aL e (o.ls l' hl'))]
  exact sx _ _ hb e
theorem aEg {σ:St}{t si sj i j:Nat}{Q:VK}(m:Mid G p l F ls ns n kb P H4)(ht:σ[t]?=some (some (.ref F)))(hsi:σ[si]?=some (some (.int (i:Int))))(hsj:σ[sj]?=some (some (.int (j:Int))))(hi:i<n)(hj:j<n)
  (q:∀ v:Int,0≤v→v≤1000000→Mid G p l F ls ns n kb (fun M=>P M∧v=at2 M i j) H4→Q (.int v) H4):tOp (bS K) (tOp (bS K) (aD t) (aD si)) (aD sj) σ H4 Q:=by
 obtain ⟨M,k,z,qM,bM,mM,hP,hk,sx,pM⟩:=m.ex
 have:=bM i j hi hj
 exact oV mM qM ht hsi hsj hi hj (q _ this.1 this.2.1 ⟨M,k,z,qM,bM,mM,hP,hk,sx,pM,rfl⟩)
theorem uZ {Q:VK}{σ:St}{a c t:Nat}(ha:σ[a]?=some (some (.ref p)))(hc:σ[c]?=some (some (.int (t:Int))))(o:Old G p l F ls)(m:Mid G p l F ls ns n kb P H4)(hb:kb≤100000)(h1:1≤t)(h2:t≤1000001)(q:∀ (r:Nat) H5,r<t→Mid G p l F ls ns n (kb+1) P H5→Q (.int (r:Int)) H5):bY hX [] E0 (aC (aD a) (aC (aD c) aU)) σ H4 Q:=by
 obtain ⟨M,k,z,qM,bM,mM,hP,hk,sx,pM⟩:=m.ex
 refine ⟨_,ha,_,hc,p,l,ns,k,z,t,rfl,hP,by omega,h1,h2,fun r k' z' H5 hr hk' hP' sx'=>q r H5 hr ⟨M,k',z',qM,bM,mM.keep fun b u hb e=>sx' b u (fun z=>?_) e,hP',by omega,sx.trans sx',pM⟩⟩
 obtain ⟨op,hop⟩:=o.p
 rcases hb with rfl | hb
 ·exact aL hop o.F z.symm
 ·exact aL hop (o.ls b hb) z.symm
noncomputable def SyE (ev:Bool) (n:Nat) (M:List (List Int)):Prop:=ev=true→∀ a b,a<n→b<n→at2 M a b=at2 M b a
noncomputable def uC (K:PySem.W.Frag):Sp:=fun vs H Q _=>∃ (p l:Addr) (ns:List Int) (k:Nat) (z:Int) (n:Nat) (ev:Bool),vs=[.ref p, .int (n:Int), .bl ev]∧PenAt H p l ns k z∧k≤90000∧1≤n∧n≤8 ∧
 ∀ (T:List (List Int)) (v:V) (k':Nat) (z':Int) H',Quad T n→Bnd T n→SyE ev n T→Sh K H' (jD T) v→PenAt H' p l ns k' z'→k'≤k+200→SameX p H H'→Q v H'
theorem PenAt.ne {H:Hp}{k:Nat}{z:Int}(h:PenAt H p l ns k z){x:Addr}(hx:H x=none):x≠p∧x≠l:=⟨fun e=>(by rw [e,h.1] at hx;cases hx),fun e=>(by rw [e,h.2.1] at hx;cases hx)⟩
noncomputable def aCU (K:PySem.W.Frag)  (aG:Sp):TS:=(aX (cF (tOp eY (tC (.int 999999)) (tCB zT (aC (tOp (vT K) (aD 3) (tC (.int 2))) aU))) (aJ 4)) (aX (cF (eC [none,some 1] (dM (aC (aD 1) aU)) (aJ 0) [] fun acc=>(dX (tOp eY (vB (aC (tC (.int 0)) aU)) (aD 1)) acc)) (aJ 5)) (aX (kU (dM (aC (aD 1) aU)) (aJ 6) (aX (kU (dM (aC (aD 6) aU)) (aJ 7) (aX (cF (tOp (bH K) (aD 4) (bY aG [] E0 (aC (aD 0) (aC (aD 3) aU)))) (qP (tOp (bS K) (aD 5) (aD 6)) (aD 7) gR)) (aX (cF (tOp (bS K) (tOp (bS K) (aD 5) (aD 6)) (aD 7)) (qP (tOp (bS K) (aD 5) (aD 7)) (aD 6) gR)) (aX (iU (qR (aEv K (aD 2))) (aX (cF (tOp (bH K) (aD 4) (bY aG [] E0 (aC (aD 0) (aC (aD 3) aU)))) (qP (tOp (bS K) (aD 5) (aD 7)) (aD 6) gR)) aR) aR) aR)))) aR)) (aX (fI (tCB (dZ K) (aC (eC [none] (pQ K (aD 5)) (aJ 0) [] fun acc=>(dX (tCB (dZ K) (aC (aD 0) aU)) acc)) aU))) aR))))
theorem xH {H H1:Hp}{k k1:Nat}{z1:Int}{ev:Bool}{t:Nat}{Q:VK}(hk:k≤90000)(h1:1≤n)(h8:n≤8)(hP:PenAt H1 p l ns k1 z1)(hk1:k1≤k+1)(sx1:SameX p H H1)(t1:2≤t)(t2:t≤1000001)
  (q:∀ (T:List (List Int)) (v:V) (k':Nat) (z':Int) H',Quad T n→Bnd T n→SyE ev n T→Sh K H' (jD T) v→PenAt H' p l ns k' z'→k'≤k+200→SameX p H H'→Q v H') :
  aCU K hX { nx:=fun _ H'=>Q .non H',rt:=Q } [some (.ref p),some (.int (n:Int)),some (.bl ev),some (.int (t:Int)),none,none,none,none] H1:=by
 have lo:∃ lo:Int,999999*(if eqD (.int (t:Int)) (.int 2) then 1 else 0)=lo∧0≤lo∧lo+t≤1000001:=by
  refine ⟨_,rfl,?_⟩
  have e:eqD (.int (t:Int)) (.int 2)=decide ((t:Int)=2):=by rw [eqD];rfl
  rw [e]
  by_cases c:(t:Int)=2
  ·rw [decide_eq_true c]
   simp
   omega
  ·rw [decide_eq_false c]
   simp
   omega
 obtain ⟨lo,elo,lo0,lo1⟩:=lo
 refine ⟨_,rfl, .int _, .int 2,Nat.zero_le _,rfl,rfl, .inr ⟨_,rfl, .inl ⟨by decide,by decide⟩,?_⟩⟩
 dsimp only
 rw [elo]
 refine ⟨_,rfl,(n:Int),rfl,by omega,by omega,fun F hF=>?_⟩
 rw [Int.toNat_natCast]
 refine nY (vars:=[0]) (fun i L H'=>∃ ls:List Addr,L=ls.map V.ref∧ls.length=i∧ls.Nodup∧F∉ls∧(∀ l∈ls,H' l=some (.lst (List.replicate n (.int 0))))∧∀ l∈ls,H1 l=none) (by decide) (by show 0<2;decide) ⟨[],rfl,rfl,List.nodup_nil,by simp,by simp,by simp⟩ hF (fun i σ1 H2 L D hi l1 ag1 s1 sm1 ha1 ⟨ls,e1,e2,e3,e4,e5,e6⟩ hD=>?_) fun σ1 H2 L sm1 ha1 ⟨ls,e1,e2,e3,e4,e5,e6⟩=>?_
 ·have m1:σ1[1]?=some (some (.int (n:Int))):=(ag1 1 (by decide)).trans rfl
  refine ⟨by show 1≤sizeLine;decide,fun p' hp=>⟨_,m1,p',(n:Int),_,rfl,rfl,aE,by omega,by omega,?_,fun p2 hp2=>?_⟩⟩
  ·rw [Int.toNat_natCast]
   exact Nat.le_trans (show 1*n≤9 by omega) (by decide)
  have hpF:p'≠F:=fun e=>by rw [e,ha1] at hp;cases hp
  have hF2:upd H2 p' (.lst [V.int 0]) F=some (.lst L):=by rw [aO (Ne.symm hpF)];exact ha1
  have hp2F:p2≠F:=fun e=>by rw [e,hF2] at hp2;cases hp2
  rw [Int.toNat_natCast,List.flatten_replicate_singleton]
  refine ⟨L,by rw [aO (Ne.symm hp2F)];exact hF2,Nat.lt_of_le_of_lt (show L.length≤9 by rw [e1,List.length_map];omega) (by decide),?_⟩
  have keep:∀ b o,b≠F→H2 b=some o→upd (upd (upd H2 p' (.lst [V.int 0])) p2 (.lst (List.replicate n (V.int 0)))) F (.lst (L++[V.ref p2])) b=some o:=fun b o hb e=>by
   have e':upd H2 p' (.lst [V.int 0]) b=some o:=by rw [aO (aL e hp)];exact e
   rw [aO hb,aO (aL e' hp2)];exact e'
  refine hD σ1 _ (L++[.ref p2]) l1 ag1 (fun b o e=>keep b o (aL e hF) (sm1 _ _ e)) aE ⟨ls++[p2],by rw [e1,List.map_append];rfl,by rw [List.length_append,e2];rfl,?_,?_,?_,?_⟩
  ·refine pO e3 fun hmem=>?_
   have g:=e5 p2 hmem
   have g':upd H2 p' (.lst [V.int 0]) p2=some (.lst (List.replicate n (.int 0))):=by rw [aO (aL g hp)];exact g
   rw [g'] at hp2;cases hp2
  ·intro hmem
   rcases List.mem_append.mp hmem with y | y
   ·exact e4 y
   ·exact hp2F (List.mem_singleton.mp y).symm
  ·intro x hx
   rcases List.mem_append.mp hx with y | y
   ·exact keep x _ (fun e=>e4 (e ▸ y)) (e5 x y)
   ·rw [List.mem_singleton.mp y,aO hp2F]
    exact aE
  ·intro x hx
   rcases List.mem_append.mp hx with y | y
   ·exact e6 x y
   ·rw [List.mem_singleton.mp y]
    exact (sm1.trans (aM hp _)).free hp2
 have mat0:Mat H2 F ls (List.replicate n (List.replicate n 0)):=by
  refine ⟨by rw [ha1,e1],by rw [e2,List.length_replicate],fun i x r a b=>?_,e3,e4⟩
  have:=e5 x (List.mem_of_getElem? a)
  rw [List.getElem?_replicate] at b
  split at b
  ·cases b
   rw [this,List.map_replicate]
  ·cases b
 have quad0:Quad (List.replicate n (List.replicate n (0:Int))) n:=⟨List.length_replicate,fun r hr=>by rw [List.eq_of_mem_replicate hr,List.length_replicate]⟩
 have old:Old H1 p l F ls:=⟨⟨_,hP.1⟩,⟨_,hP.2.1⟩,hF,e6⟩
 have mid0:Mid H1 p l F ls ns n k1 (SyE ev n) H2:=⟨_,k1,z1,quad0,fun i j _ _=>by rw [vC,vC];omega,mat0,hP.x sm1,Nat.le_refl _,sm1.x,fun _ a b _ _=>by rw [vC,vC]⟩
 refine ⟨_,rfl,(n:Int),rfl,by omega,by omega,?_⟩
 rw [Int.toNat_natCast]
 refine bV (lo:=0) (n:=n) (fun i σ' H'=>∃ a b,σ'=[some (.ref p),some (.int (n:Int)),some (.bl ev),some (.int (t:Int)),some (.int lo),some (.ref F),a,b]∧Mid H1 p l F ls ns n (k1+16*i) (SyE ev n) H') ⟨none,none,rfl,mid0⟩ (fun i σ2 H3 hi ⟨a,b,es,mid2⟩=>?_) fun σ2 H3 ⟨a,b,es,mid2⟩=>?_
 ·subst es
  rw [Int.zero_add]
  refine ⟨_,rfl,(i:Int),rfl,by omega,by omega,?_⟩
  rw [Int.toNat_natCast]
  refine bV (lo:=0) (n:=i) (fun j σ' H'=>∃ b,σ'=[some (.ref p),some (.int (n:Int)),some (.bl ev),some (.int (t:Int)),some (.int lo),some (.ref F),some (.int (i:Int)),b]∧Mid H1 p l F ls ns n (k1+16*i+2*j) (SyE ev n) H') ⟨b,rfl,mid2⟩ (fun j σ3 H4 hj ⟨b3,es3,mid3⟩=>?_) fun σ3 H4 ⟨b3,es3,mid3⟩=>⟨_,b3,es3,mid3.le (by omega) fun _ _ h=>h⟩
  subst es3
  rw [Int.zero_add]
  refine ⟨_,rfl,uZ rfl rfl old mid3 (by omega) (by omega) t2 fun r H5 hr m5=>?_⟩
  dsimp only [bH]
  refine sQ (t:=5) (si:=6) (sj:=7) old m5 rfl rfl rfl hi (by omega) (by omega) (by omega) (by omega) fun H6 m6=>?_
  refine aEg (t:=5) (si:=6) (sj:=7) m6 rfl rfl rfl hi (by omega) fun v v0 v1 m6=>?_
  refine sQ (t:=5) (si:=7) (sj:=6) old m6 rfl rfl rfl (by omega) hi (by omega) v0 v1 fun H7 m7=>?_
  refine ⟨_,rfl,_,rfl,?_⟩
  cases ev with
  | true=>
   refine aFr ⟨_,rfl,m7.le (by omega) fun M qM hM _ a b ha hb=>?_⟩
   obtain ⟨M1,⟨⟨M0,s0,q0,rfl⟩,ev1⟩,q1,rfl⟩:=hM
   have s0:=s0 rfl
   rw [eW q0 hi (by omega),if_pos ⟨rfl,rfl⟩] at ev1
   rw [eW q1 (by omega) hi,eW q1 (by omega) hi,eW q0 hi (by omega),eW q0 hi (by omega),s0 a b ha hb]
   by_cases c1:a=j∧b=i
   ·rw [if_pos c1,if_neg (by omega),if_pos (by omega)];exact ev1
   ·rw [if_neg c1]
    by_cases c2:b=j∧a=i
    ·rw [if_pos c2,if_pos (by omega)];exact ev1.symm
    ·rw [if_neg c2,if_neg (by omega),if_neg (by omega)]
  | false=>
   refine aFH ⟨_,rfl,uZ rfl rfl old m7 (by omega) (by omega) t2 fun r2 H8 hr2 m8=>?_⟩
   dsimp only [bH]
   exact sQ (t:=5) (si:=7) (sj:=6) old m8 rfl rfl rfl (by omega) hi (by omega) (by omega) (by omega) fun H9 m9=>⟨_,rfl,m9.le (by omega) fun _ _ _ z=>nomatch z⟩
 ·subst es
  obtain ⟨M,k3,z3,qM,bM,mM,hP3,hk3,f3,pM⟩:=mid2.ex
  exact nR (t:=5) rfl mM qM (by omega) fun p9 H' sm hS=>q M _ k3 z3 H' qM bM pM hS (hP3.x sm) (by omega) (sx1.trans (f3.trans sm.x))
theorem aBG:∀ vs H Q E,uC K vs H Q E→iZ K hX { nx:=fun _ H'=>Q .non H',rt:=Q } (start ["pen","many","even","top","low","lines","i","j"] vs) H:=by
 intro vs H Q E h
 obtain ⟨p,l,ns,k,z,n,ev,rfl,hP,hk,h1,h8,q⟩:=h
 refine ⟨show 6≤sizeLine by decide,fun p0 hp0=>⟨_,rfl,p,l,ns,k,z,6,rfl,hP.x (aM hp0 _),by omega,by decide,by decide,fun r k1 z1 H1 hr hk1 hP1 sx1=>?_⟩⟩
 have s0:=aM hp0 (.lst [.int 10, .int 1000001, .int 3, .int 60, .int 1001, .int 2])
 have e0:H1 p0=some (.lst [.int 10, .int 1000001, .int 3, .int 60, .int 1001, .int 2]):=sx1 _ _ (hP.ne hp0).1 aE
 have sx:=s0.x.trans sx1 (acc:=p)
 have go:∀ t:Nat,2≤t→t≤1000001→_:=fun t t1 t2=>xH (K:=K) (ev:=ev) hk h1 h8 hP1 hk1 sx t1 t2 q
 rcases r with _ | _ | _ | _ | _ | _ | r
 ·exact ixL (j:=0) (.of e0) rfl (go 10 (by decide) (by decide))
 ·exact ixL (j:=1) (.of e0) rfl (go 1000001 (by decide) (by decide))
 ·exact ixL (j:=2) (.of e0) rfl (go 3 (by decide) (by decide))
 ·exact ixL (j:=3) (.of e0) rfl (go 60 (by decide) (by decide))
 ·exact ixL (j:=4) (.of e0) rfl (go 1001 (by decide) (by decide))
 ·exact ixL (j:=5) (.of e0) rfl (go 2 (by decide) (by decide))
 ·omega
end
end K63
namespace K63
open PySem L2
noncomputable def Sy (M:List (List Int)) (n:Nat):Prop:=∀ i j,i<n→j<n→at2 M i j=at2 M j i
noncomputable def aEu (M:List (List Int)) (n k:Nat):Prop:=∀ i j p,i<n→j<n→p<k→at2 M i j≤at2 M i p+at2 M p j
noncomputable def Flo (M:List (List Int)) (n k i0 j0:Nat) (M':List (List Int)):Prop:=∀ a b,a<n→b<n→at2 M' a b=if a<i0∨(a=i0∧b<j0) then min (at2 M a b) (at2 M a k+at2 M k b) else at2 M a b
theorem aBA {M M':List (List Int)}{n k:Nat}(hk:k<n)(b:Bnd M n)(s:Sy M n)(t:aEu M n k)(f:Flo M n k n 0 M'):Bnd M' n∧Sy M' n∧aEu M' n (k+1):=by
 have g:∀ i j,i<n→j<n→at2 M' i j=min (at2 M i j) (at2 M i k+at2 M k j):=fun i j hi hj=>by rw [f i j hi hj,if_pos (.inl hi)]
 refine ⟨fun i j hi hj=>?_,fun i j hi hj=>?_,fun i j p hi hj hp=>?_⟩
 ·rw [g i j hi hj,g i i hi hi]
  have:=b i j hi hj
  have:=b i k hi hk
  have:=b k j hk hj
  have:=b k i hk hi
  omega
 ·rw [g i j hi hj,g j i hj hi,s i j hi hj,s i k hi hk,s k j hk hj,Int.add_comm]
 ·have hpn:p<n:=by omega
  rw [g i j hi hj,g i p hi hpn,g p j hpn hj]
  have b1:=b k p hk hpn
  have b2:=b p k hpn hk
  have b3:=b k k hk hk
  by_cases c:p=k
  ·subst c
   omega
  ·have t1:=t i j p hi hj (by omega)
   have t2:=t k j p hk hj (by omega)
   have t3:=t i k p hi hk (by omega)
   omega
theorem aAa {M M':List (List Int)}{n k i0 j0:Nat}(hk:k<n)(b:Bnd M n)(f:Flo M n k i0 j0 M'){x:Nat}(hx:x<n):at2 M' x k=at2 M x k∧at2 M' k x=at2 M k x:=by
 have:=b k k hk hk
 constructor
 ·rw [f x k hx hk]
  split
  ·omega
  ·rfl
 ·rw [f k x hk hx]
  split
  ·omega
  ·rfl
section
variable {K:PySem.W.Frag}
noncomputable def aAx (K:PySem.W.Frag):Sp:=fun vs H Q _=>∃ (v:V) (M:List (List Int)) (n:Nat),vs=[v]∧Sh K H (jD M) v∧Quad M n∧Bnd M n∧Sy M n∧1≤n∧n≤8∧∀ T v H',Same H H'→Quad T n→Bnd T n→Sy T n→aEu T n n→Sh K H' (jD T) v→Q v H'
theorem tR:∀ vs H Q E,aAx K vs H Q E→fV K { nx:=fun _ H'=>Q .non H',rt:=Q } (start ["table","lines","k","i","j"] vs) H:=by
 intro vs H Q E h
 obtain ⟨v,M0,n,rfl,hS0,q0,b0,y0,n1,n8,q⟩:=h
 obtain ⟨F0,rs,rfl,hF0,hrl,hrow⟩:=id hS0.tab
 have l0:rs.length=n:=hrl.trans q0.len
 refine ⟨_,rfl,F0,rfl, .inr ⟨⟨_,hF0⟩,fun F hF=>?_⟩⟩
 refine sZ (vars:=[0]) (K:=K) (a:=F0) (xs:=rs) (fun i L H'=>∃ ls:List Addr,L=ls.map V.ref∧ls.length=i∧ls.Nodup∧F∉ls∧(∀ (j:Nat) (x:Addr) (r:List Int),ls[j]?=some x→M0[j]?=some r→H' x=some (.lst (r.map V.int)))∧(∀ x∈ls,∃ r:List Int,H' x=some (.lst (r.map V.int)))∧∀ x∈ls,H x=none) (by decide) (by show 0<1;decide) ⟨[],rfl,rfl,List.nodup_nil,by simp,(fun _ _ _ z=>by cases z),by simp,by simp⟩ hF hF0 (fun i x σ1 H2 L D hx l1 ag1 s1 sm1 ha1 ⟨ls,e1,e2,e3,e4,e5,e55,e6⟩ hD=>?_) fun σ1 H2 L sm1 ha1 ⟨ls,e1,e2,e3,e4,e5,e55,e6⟩=>?_
 ·have hi:i<rs.length:=(List.getElem?_eq_some_iff.mp hx).1
  obtain ⟨row,g1,g2,g3⟩:=q0.get (show i<n by omega)
  obtain ⟨b,hb,hbr⟩:=hrow i row g1
  rw [hb] at hx
  obtain rfl:V.ref b=x:=Option.some.inj hx
  refine ⟨_,s1, .inl ⟨b,row.map V.int,rfl, .inr (sm1.tup hbr),fun p2 hp2=>?_⟩⟩
  have hp2F:p2≠F:=fun e=>by rw [e,ha1] at hp2;cases hp2
  refine ⟨L,by rw [aO (Ne.symm hp2F)];exact ha1,Nat.lt_of_le_of_lt (show L.length≤9 by rw [e1,List.length_map];omega) (by decide),?_⟩
  have keep:∀ b o,b≠F→H2 b=some o→upd (upd H2 p2 (.lst (row.map V.int))) F (.lst (L++[V.ref p2])) b=some o:=fun b o hb e=>by
   rw [aO hb,aO (aL e hp2)];exact e
  refine hD σ1 _ (L++[.ref p2]) l1 ag1 (fun b o e=>keep b o (aL e hF) (sm1 _ _ e)) aE ⟨ls++[p2],by rw [e1,List.map_append];rfl,by rw [List.length_append,e2];rfl,?_,?_,?_,?_,?_⟩
  ·refine pO e3 fun hmem=>?_
   obtain ⟨r,g⟩:=e55 p2 hmem
   rw [g] at hp2;cases hp2
  ·intro hmem
   rcases List.mem_append.mp hmem with y | y
   ·exact e4 y
   ·exact hp2F (List.mem_singleton.mp y).symm
  ·intro j x r hj hr
   by_cases cj:j<ls.length
   ·rw [List.getElem?_append_left cj] at hj
    exact keep x _ (fun e=>e4 (e ▸ List.mem_of_getElem? hj)) (e5 j x r hj hr)
   ·have ej:j=ls.length:=by
     have:=(List.getElem?_eq_some_iff.mp hj).1
     rw [List.length_append,List.length_singleton] at this
     omega
    rw [ej,List.getElem?_append_right (Nat.le_refl _),Nat.sub_self] at hj
    cases hj
    rw [ej,e2,g1] at hr
    cases hr
    rw [aO hp2F]
    exact aE
  ·intro x hx
   rcases List.mem_append.mp hx with y | y
   ·obtain ⟨r,g⟩:=e55 x y
    exact ⟨r,keep x _ (fun e=>e4 (e ▸ y)) g⟩
   ·rw [List.mem_singleton.mp y]
    exact ⟨row,by rw [aO hp2F];exact aE⟩
  ·intro x hx
   rcases List.mem_append.mp hx with y | y
   ·exact e6 x y
   ·rw [List.mem_singleton.mp y]
    exact sm1.free hp2
 have mat0:Mat H2 F ls M0:=⟨by rw [ha1,e1],by rw [e2];exact hrl,e5,e3,e4⟩
 have lls:ls.length=n:=by rw [e2];exact l0
 have lenF:∀ {H' M},Mat H' F ls M→SqL K H' F (ls.map V.ref):=fun m => .of m.top
 refine ⟨_,rfl,F,_,rfl, .inl (lenF mat0),(n:Int),by rw [List.length_map,lls],by omega,by omega,?_⟩
 rw [Int.toNat_natCast]
 refine bV (lo:=0) (n:=n) (fun k σ' H'=>Same H H'∧∃ x2 x3 x4 M,σ'=[some (.ref F0),some (.ref F),x2,x3,x4]∧Mat H' F ls M∧Quad M n∧Bnd M n∧Sy M n∧aEu M n k) ⟨sm1,_,_,_,M0,rfl,mat0,q0,b0,y0,fun _ _ _ _ _ h=>absurd h (Nat.not_lt_zero _)⟩ (fun k σ2 H3 hk ⟨s3,x2,x3,x4,M,es,mM,qM,bM,yM,tM⟩=>?_) fun σ2 H3 ⟨s3,x2,x3,x4,M,es,mM,qM,bM,yM,tM⟩=>?_
 ·subst es
  rw [Int.zero_add]
  refine ⟨_,rfl,F,_,rfl, .inl (lenF mM),(n:Int),by rw [List.length_map,lls],by omega,by omega,?_⟩
  rw [Int.toNat_natCast]
  refine bV (lo:=0) (n:=n) (fun i σ' H'=>Same H H'∧∃ x3 x4 M',σ'=[some (.ref F0),some (.ref F),some (.int (k:Int)),x3,x4]∧Mat H' F ls M'∧Quad M' n∧Flo M n k i 0 M') ⟨s3,_,_,M,rfl,mM,qM,fun a b _ _=>by rw [if_neg (by omega)]⟩ (fun i σ3 H4 hi ⟨s4,x3,x4,M4,es,m4,q4,f4⟩=>?_) fun σ3 H4 ⟨s4,x3,x4,M4,es,m4,q4,f4⟩=>?_
  ·subst es
   rw [Int.zero_add]
   refine ⟨_,rfl,F,_,rfl, .inl (lenF m4),(n:Int),by rw [List.length_map,lls],by omega,by omega,?_⟩
   rw [Int.toNat_natCast]
   refine bV (lo:=0) (n:=n) (fun j σ' H'=>Same H H'∧∃ x4 M',σ'=[some (.ref F0),some (.ref F),some (.int (k:Int)),some (.int (i:Int)),x4]∧Mat H' F ls M'∧Quad M' n∧Flo M n k i j M') ⟨s4,_,M4,rfl,m4,q4,f4⟩ (fun j σ4 H5 hj ⟨s5,x4,M5,es,m5,q5,f5⟩=>?_) fun σ4 H5 ⟨s5,x4,M5,es,m5,q5,f5⟩=>?_
   ·subst es
    rw [Int.zero_add]
    refine oV (t:=1) (si:=3) (sj:=4) m5 q5 rfl rfl rfl hi hj ?_
    refine oV (t:=1) (si:=3) (sj:=2) m5 q5 rfl rfl rfl hi hk (oV (t:=1) (si:=2) (sj:=4) m5 q5 rfl rfl rfl hk hj ?_)
    dsimp only [bH]
    refine ⟨_,_,rfl,?_⟩
    have ik:=(aAa hk bM f5 hi).1
    have kj:=(aAa hk bM f5 hj).2
    refine pJ (t:=1) (si:=3) (sj:=4) m5 q5 rfl rfl rfl hi hj fun l' H6 hl' e6' m6=>⟨?_,_,_,rfl,m6,iH q5 hi,fun a b ha hb=>?_⟩
    ·intro c o e
     rw [e6',aO (aL e (e6 l' hl'))]
     exact s5 _ _ e
    ·rw [eW q5 hi hj]
     have hij:at2 M5 i j=at2 M i j:=by rw [f5 i j hi hj,if_neg (by omega)]
     by_cases ce:a=i∧b=j
     ·rw [if_pos ce,hij,ik,kj]
      obtain ⟨rfl,rfl⟩:=ce
      rw [if_pos (show a<a∨(a=a∧b<b+1) by omega)]
      split <;> omega
     ·rw [if_neg ce,f5 a b ha hb]
      by_cases cl:a<i∨(a=i∧b<j)
      ·rw [if_pos cl,if_pos (by omega)]
      ·rw [if_neg cl,if_neg (by omega)]
   ·subst es
    refine ⟨s5,_,_,M5,rfl,m5,q5,fun a b ha hb=>?_⟩
    rw [f5 a b ha hb]
    by_cases cl:a<i+1
    ·rw [if_pos (by omega),if_pos (.inl cl)]
    ·rw [if_neg (by omega),if_neg (by omega)]
  ·subst es
   obtain ⟨b5,y5,t5⟩:=aBA hk bM yM tM f4
   exact ⟨s4,_,_,_,M4,rfl,m4,q4,b5,y5,t5⟩
 ·subst es
  exact nR (t:=1) rfl mM qM (by omega) fun p9 H' sm hS=>q M _ H' (s3.trans sm) qM bM yM tM hS
end
end K63
namespace K63
open PySem L2
section
variable {K:PySem.W.Frag}
theorem aFX {σ:St}{H:Hp}{t:Nat}{v:V}{M0:List (List Int)}{n:Nat}{Q:VK}(ht:σ[t]?=some (some v))(hS0:Sh K H (jD M0) v)(q0:Quad M0 n)(n8:n≤8)(q:∀ F ls H',Same H H'→Mat H' F ls M0→H F=none→(∀ x∈ls,H x=none)→Q (.ref F) H') :
  eC [none] (pQ K (aD t)) (aJ 0) [] (fun acc=>(dX (tCB (tS K) (aC (aD 0) aU)) acc)) σ H Q:=by
 obtain ⟨F0,rs,rfl,hF0,hrl,hrow⟩:=id hS0.tab
 have l0:rs.length=n:=hrl.trans q0.len
 refine ⟨_,ht,F0,rfl, .inr ⟨⟨_,hF0⟩,fun F hF=>?_⟩⟩
 refine sZ (vars:=[0]) (K:=K) (a:=F0) (xs:=rs) (fun i L H'=>∃ ls:List Addr,L=ls.map V.ref∧ls.length=i∧ls.Nodup∧F∉ls∧(∀ (j:Nat) (x:Addr) (r:List Int),ls[j]?=some x→M0[j]?=some r→H' x=some (.lst (r.map V.int)))∧(∀ x∈ls,∃ r:List Int,H' x=some (.lst (r.map V.int)))∧∀ x∈ls,H x=none) (by decide) (by show 0<1;decide) ⟨[],rfl,rfl,List.nodup_nil,by simp,(fun _ _ _ z=>by cases z),by simp,by simp⟩ hF hF0 (fun i x σ1 H2 L D hx l1 ag1 s1 sm1 ha1 ⟨ls,e1,e2,e3,e4,e5,e55,e6⟩ hD=>?_) fun σ1 H2 L sm1 ha1 ⟨ls,e1,e2,e3,e4,e5,e55,e6⟩=>?_
 ·have hi:i<rs.length:=(List.getElem?_eq_some_iff.mp hx).1
  obtain ⟨row,g1,g2,g3⟩:=q0.get (show i<n by omega)
  obtain ⟨b,hb,hbr⟩:=hrow i row g1
  rw [hb] at hx
  obtain rfl:V.ref b=x:=Option.some.inj hx
  refine ⟨_,s1, .inl ⟨b,row.map V.int,rfl, .inr (sm1.tup hbr),fun p2 hp2=>?_⟩⟩
  have hp2F:p2≠F:=fun e=>by rw [e,ha1] at hp2;cases hp2
  refine ⟨L,by rw [aO (Ne.symm hp2F)];exact ha1,Nat.lt_of_le_of_lt (show L.length≤9 by rw [e1,List.length_map];omega) (by decide),?_⟩
  have keep:∀ b o,b≠F→H2 b=some o→upd (upd H2 p2 (.lst (row.map V.int))) F (.lst (L++[V.ref p2])) b=some o:=fun b o hb e=>by
   rw [aO hb,aO (aL e hp2)];exact e
  refine hD σ1 _ (L++[.ref p2]) l1 ag1 (fun b o e=>keep b o (aL e hF) (sm1 _ _ e)) aE ⟨ls++[p2],by rw [e1,List.map_append];rfl,by rw [List.length_append,e2];rfl,?_,?_,?_,?_,?_⟩
  ·refine pO e3 fun hmem=>?_
   obtain ⟨r,g⟩:=e55 p2 hmem
   rw [g] at hp2;cases hp2
  ·intro hmem
   rcases List.mem_append.mp hmem with y | y
   ·exact e4 y
   ·exact hp2F (List.mem_singleton.mp y).symm
  ·intro j x r hj hr
   by_cases cj:j<ls.length
   ·rw [List.getElem?_append_left cj] at hj
    exact keep x _ (fun e=>e4 (e ▸ List.mem_of_getElem? hj)) (e5 j x r hj hr)
   ·have ej:j=ls.length:=by
     have:=(List.getElem?_eq_some_iff.mp hj).1
     rw [List.length_append,List.length_singleton] at this
     omega
    rw [ej,List.getElem?_append_right (Nat.le_refl _),Nat.sub_self] at hj
    cases hj
    rw [ej,e2,g1] at hr
    cases hr
    rw [aO hp2F]
    exact aE
  ·intro x hx
   rcases List.mem_append.mp hx with y | y
   ·obtain ⟨r,g⟩:=e55 x y
    exact ⟨r,keep x _ (fun e=>e4 (e ▸ y)) g⟩
   ·rw [List.mem_singleton.mp y]
    exact ⟨row,by rw [aO hp2F];exact aE⟩
  ·intro x hx
   rcases List.mem_append.mp hx with y | y
   ·exact e6 x y
   ·rw [List.mem_singleton.mp y]
    exact sm1.free hp2
 have mat0:Mat H2 F ls M0:=⟨by rw [ha1,e1],by rw [e2];exact hrl,e5,e3,e4⟩
 exact q F ls H2 sm1 mat0 hF e6
theorem aAk {H H':Hp}{T:List (List Int)}{v:V}{p:Addr}{L:List V}(h:Sh K H (jD T) v)(hp:H p=some (.lst L))(sx:SameX p H H'):Sh K H' (jD T) v:=by
 obtain ⟨a,rs,rfl,ha,hl,g⟩:=h.tab
 refine xK (rs:=rs) (yD ha hp sx) ⟨hl,fun i row e=>?_⟩
 obtain ⟨b,h1,h2⟩:=g i row e
 exact ⟨b,h1,yD h2 hp sx⟩
theorem aDh {T:List (List Int)}{n:Nat}(q:Quad T n)(n1:1≤n)(n8:n≤8)(b:Bnd T n)(s:Sy T n):Et T n:=⟨q,n1,n8,s,fun i hi=>(b i i hi hi).2.2,fun i j hi hj=>(b i j hi hj).1,fun i j hi hj=>(b i j hi hj).2.1⟩
theorem aDL {T:List (List Int)}{n i j:Nat}{w:Int}(h:Et T n)(hi:i<n)(hj:j<n)(hne:i≠j)(h0:0≤w)(h1:w≤1000000):Et (sO (sO T i j w) j i w) n:=by
 have q1:=iH (j:=j) (v:=w) h.quad hi
 have q2:=iH (j:=i) (v:=w) q1 hj
 have at3:∀ a b,at2 (sO (sO T i j w) j i w) a b=if a=j∧b=i then w else if a=i∧b=j then w else at2 T a b:=fun a b=>by rw [eW q1 hj hi,eW h.quad hi hj]
 refine ⟨q2,h.one,h.most,fun a b ha hb=>?_,fun a ha=>?_,fun a b ha hb=>?_,fun a b ha hb=>?_⟩
 ·rw [at3,at3]
  have:=h.ev a b ha hb
  by_cases c1:a=j∧b=i
  ·rw [if_pos c1]
   by_cases c2:b=j∧a=i
   ·rw [if_pos c2]
   ·rw [if_neg c2,if_pos (by omega)]
  ·rw [if_neg c1]
   by_cases c2:a=i∧b=j
   ·rw [if_pos c2,if_pos (by omega)]
   ·rw [if_neg c2,if_neg (by omega),if_neg (by omega)]
    exact this
 ·rw [at3,if_neg (by omega),if_neg (by omega)]
  exact h.diag a ha
 ·rw [at3]
  have:=h.low a b ha hb
  split <;> first | exact h0 | (split <;> first | exact h0 | exact this)
 ·rw [at3]
  have:=h.big a b ha hb
  split <;> first | exact h1 | (split <;> first | exact h1 | exact this)
noncomputable def ntB (K:PySem.W.Frag) (aG:Sp):TS:=(aX (cF (bY aG [] E0 (aC (aD 0) (aC (aD 1) aU))) (aJ 4)) (aX (cF (tOp pS (tOp (bH K) (tOp (bH K) (aD 4) (tC (.int 1))) (bY aG [] E0 (aC (aD 0) (aC (tOp uE (aD 1) (tC (.int 1))) aU)))) (aD 1)) (aJ 5)) (aX (cF (tOp (bS K) (vB (aC (tC (.int 1)) (aC (tC (.int 2)) (aC (tUn aCW (tC (.int 1))) (aC (tUn aCW (tC (.int 2))) (aC (tC (.int 5)) (aC (tC (.int 1000)) aU))))))) (bY aG [] E0 (aC (aD 0) (aC (tC (.int 6)) aU)))) (aJ 6)) (aX (cF (eC [none] (pQ K (aD 3)) (aJ 0) [] fun acc=>(dX (tCB (tS K) (aC (aD 0) aU)) acc)) (aJ 7)) (aX (cF (tCB rC (aC (tC (.int 1000000)) (aC (tCB tD (aC (tC (.int 0)) (aC (tOp (bH K) (tOp (bS K) (tOp (bS K) (aD 7) (aD 4)) (aD 5)) (aD 6)) aU))) aU))) (qP (tOp (bS K) (aD 7) (aD 4)) (aD 5) gR)) (aX (cF (tOp (bS K) (tOp (bS K) (aD 7) (aD 4)) (aD 5)) (qP (tOp (bS K) (aD 7) (aD 5)) (aD 4) gR)) (aX (cF (tCB (dZ K) (aC (eC [none] (pQ K (aD 7)) (aJ 0) [] fun acc=>(dX (tCB (dZ K) (aC (aD 0) aU)) acc)) aU)) (aJ 3)) aR)))))))
theorem aDU {Df:lG}{H:Hp}{p lp:Addr}{ns:List Int}{b n:Nat}{v:V}{T:List (List Int)}{x2:Option V}(hP:PenN H p lp ns b)(hb:b≤80000)(hS:Sh K H (jD T) v)(et:Et T n)(n2:1<n)
  (q:∀ x4 x5 x6 x7 T' v' H',PenN H' p lp ns (b+3)→SameX p H H'→Et T' n→Sh K H' (jD T') v'→Df.nx [some (.ref p),some (.int (n:Int)),x2,some v',x4,x5,x6,x7] H') :
  ntB K hX Df [some (.ref p),some (.int (n:Int)),x2,some v,none,none,none,none] H:=by
 have n8:=et.most
 refine ⟨_,rfl,_,rfl,?_⟩
 dsimp only [aU,tC,List.cons_append,List.nil_append]
 refine tkN hP (by omega) (by omega) (by omega) fun i H1 hi hP1 sx1=>?_
 obtain ⟨PL,pL⟩:=hP.lst
 have hS1:=aAk hS pL sx1
 try dsimp only
 refine lY ?_
 refine ⟨_,rfl,?_⟩
 dsimp only [tC]
 refine aDS (x:=i) (y:=1) ?_
 refine ⟨_,rfl,_,rfl,_,_,rfl,rfl,?_⟩
 dsimp only [aU,tC,List.cons_append,List.nil_append]
 rw [show ((n:Int) - 1)=((n - 1:Nat):Int) by omega]
 refine tkN hP1 (by omega) (by omega) (by omega) fun r H2 hr hP2 sx2=>?_
 obtain ⟨PL1,pL1⟩:=hP1.lst
 have hS2:=aAk hS1 pL1 sx2
 refine aDS (x:=i+1) (y:=r) ?_
 refine ⟨_,rfl,_,_,rfl,rfl,by show (0:Int)<(n:Int);omega,?_⟩
 try dsimp only
 rw [aFe]
 obtain ⟨j,hj⟩:∃ j,j=(i+1+r) % n:=⟨_,rfl⟩
 have jn:j<n:=by rw [hj];exact Nat.mod_lt _ (by omega)
 have ij:i≠j:=by
  rw [hj]
  by_cases c:i+1+r<n
  ·rw [Nat.mod_eq_of_lt c];omega
  ·have:(i+1+r) % n=i+1+r - n:=by
    rw [Nat.mod_eq_sub_mod (by omega),Nat.mod_eq_of_lt (by omega)]
   omega
 rw [← hj]
 refine lY ?_
 refine ⟨_,rfl,_,rfl,show 6≤sizeLine by decide,fun lq hlq=>⟨_,rfl,?_⟩⟩
 have sq:=aM hlq (.lst [V.int 1, .int 2, .int (-1), .int (-2), .int 5, .int 1000])
 have nq:=hP2.ne hlq
 dsimp only [aC,aU,tC,List.cons_append,List.nil_append]
 refine tkN (m:=6) (hP2.x sq) (by omega) (by decide) (by decide) fun r3 H3 hr3 hP3 sx3=>?_
 obtain ⟨mo,hmo⟩:∃ mo:Int,([V.int 1, .int 2, .int (-1), .int (-2), .int 5, .int 1000])[r3]?=some (.int mo):=by
  match r3,hr3 with
  | 0,_=>exact ⟨_,rfl⟩
  | 1,_=>exact ⟨_,rfl⟩
  | 2,_=>exact ⟨_,rfl⟩
  | 3,_=>exact ⟨_,rfl⟩
  | 4,_=>exact ⟨_,rfl⟩
  | 5,_=>exact ⟨_,rfl⟩
 refine ixL (j:=r3) (v := .int mo) (.of (sx3 _ _ nq.1 aE)) hmo ?_
 obtain ⟨PL2,pL2⟩:=(hP2.x sq).lst
 have hS3:=aAk (hS2.same sq) pL2 sx3
 have sx03:SameX p H H3:=((sx1.trans sx2).trans sq.x).trans sx3
 try dsimp only
 refine lY (aFX (t:=3) (M0:=T) (n:=n) rfl hS3 et.quad n8 fun F ls H4 s4 m4 hF hls=>?_)
 refine oV (t:=7) (si:=4) (sj:=5) m4 et.quad rfl rfl rfl hi jn ?_
 refine ⟨_,rfl,?_⟩
 refine aBM ⟨0,_,rfl,1000000,_,rfl,?_⟩
 obtain ⟨w,hw,w0,w1⟩:∃ w:Int,(if (if at2 T i j+mo > 0 then at2 T i j+mo else 0)<1000000 then (if at2 T i j+mo > 0 then at2 T i j+mo else 0) else 1000000)=w∧0≤w∧w≤1000000:=⟨_,rfl,by split <;> (try split) <;> omega,by split <;> (try split) <;> omega⟩
 rw [hw]
 refine pJ (t:=7) (si:=4) (sj:=5) m4 et.quad rfl rfl rfl hi jn fun l5 H5 hl5 e5 m5=>?_
 have q5:=iH (j:=j) (v:=w) et.quad hi
 refine oV (t:=7) (si:=4) (sj:=5) m5 q5 rfl rfl rfl hi jn ?_
 rw [eW et.quad hi jn,if_pos ⟨rfl,rfl⟩]
 refine pJ (t:=7) (si:=5) (sj:=4) m5 q5 rfl rfl rfl jn hi fun l6 H6 hl6 e6' m6=>?_
 have s36:Same H3 H6:=fun c o e=>by
  rw [e6',aO (aL e (hls l6 hl6)),e5,aO (aL e (hls l5 hl5))]
  exact s4 _ _ e
 have e2:=aDL et hi jn ij w0 w1
 try dsimp only
 refine lY (nR (t:=7) (n:=n) rfl m6 e2.quad (by omega) fun p7 H7 s7 hS7=>?_)
 exact q _ _ _ _ _ _ _ (((hP3.x s36).x s7).le (by omega)) (sx03.trans (s36.trans s7).x) e2 hS7
noncomputable def aEA (K:PySem.W.Frag):Sp:=fun vs H Q _=>∃ (p l:Addr) (ns:List Int) (b:Nat),vs=[.ref p]∧PenN H p l ns b∧b≤70000∧∀ T n v H',Et T n→Sh K H' (jD T) v→PenN H' p l ns (b+300)→SameX p H H'→Q v H'
theorem aET:∀ vs H Q E,aEA K vs H Q E→fL K (pF K) (aAx K) (uC K) hX (aDP K) { nx:=fun _ H'=>Q .non H',rt:=Q } (start ["pen","many","way","table","i","j","more","lines"] vs) H:=by
 intro vs H Q E h
 obtain ⟨p,l,ns,b,rfl,hP,hb,q⟩:=h
 refine ⟨_,rfl,?_⟩
 dsimp only [aC,aU,tC,List.cons_append,List.nil_append]
 refine tkN (m:=8) hP (by omega) (by decide) (by decide) fun r H1 hr hP1 sx1=>?_
 refine aDS (x:=1) (y:=r) ?_
 obtain ⟨n,hn⟩:∃ n,n=1+r:=⟨_,rfl⟩
 rw [← hn]
 have n1:1≤n:=by omega
 have n8:n≤8:=by omega
 refine ⟨_,rfl,?_⟩
 dsimp only [aC,aU,tC,List.cons_append,List.nil_append]
 refine tkN (m:=5) hP1 (by omega) (by decide) (by decide) fun w H2 hw hP2 sx2=>?_
 refine ⟨_,rfl,_,_,rfl,rfl,_,rfl,?_⟩
 by_cases c:2<w
 ·refine cE (decide_eq_true (by omega)) ?_
  obtain ⟨k,z,hA,hk⟩:=hP2
  refine ⟨_,rfl,_,rfl,p,l,ns,k,z,n,true,rfl,hA,by omega,n1,n8,fun T v k' z' H3 qT bT sy hS hA3 hk3 sx3=>?_⟩
  have hP3:PenN H3 p l ns (b+300):=⟨k',z',hA3,by omega⟩
  have sT:Sy T n:=sy rfl
  have sx:=(sx1.trans sx2).trans sx3
  refine ⟨_,rfl, .int _, .int _,Nat.zero_le _,rfl,rfl,_,rfl,?_⟩
  rw [iA]
  by_cases c3:w=3
  ·refine cE (decide_eq_true (by omega)) ⟨_,rfl,v,T,n,rfl,hS,qT,bT,sT,n1,n8,fun T' v' H4 s4 qT' bT' sT' _ hS'=>?_⟩
   exact q T' n v' H4 (aDh qT' n1 n8 bT' sT') hS' (hP3.x s4) (sx.trans s4.x)
  ·exact bW (decide_eq_false (by omega)) ⟨_,rfl,q T n v H3 (aDh qT n1 n8 bT sT) hS hP3 sx⟩
 ·refine bW (decide_eq_false (by omega)) ?_
  refine ⟨_,rfl,_,rfl,p,l,ns,b+2,n,rfl,hP2,by omega,n1,n8,fun a xs qs H3 hP3 sx3 ha hR hDn hdz ⟨hs,o0,o1,hv⟩=>?_⟩
  obtain ⟨mq,q14,hok,_,hcn⟩:=aBn.mp hDn
  have tr:Tr qs:=by
   refine { len:=by omega,ok:=fun t ht=>?_,tie:=fun t ht=>?_,cn:=hcn }
   ·obtain ⟨_,_,k1,k2,_⟩:=hok t ht
    obtain ⟨_,k3,k4⟩:=hdz t ht
    show 0≤t.2.2.1∧t.2.2.1<2 ^ 104∧1≤t.2.2.2∧t.2.2.2<2 ^ 104
    omega
   ·obtain ⟨k1,k2,_⟩:=hok t ht
    omega
  have hD:Dw K H3 a qs:=⟨xs,ha,hR⟩
  obtain ⟨nb,et⟩:=aAs tr n1 n8 mq o0 o1 hv
  refine ⟨_,rfl, .ref a,qs,n,rfl,hD.sh,tr,mq,fun bad=>absurd bad nb,fun _ v H4 s4 hS=>?_⟩
  have hP4:=hP3.x s4
  have sx:=((sx1.trans sx2).trans sx3).trans s4.x
  have skip:∀ H',H'=H4→Q v H':=fun H' e=>by rw [e];exact q _ n v H4 et hS (hP4.le (by omega)) sx
  refine ⟨_,rfl, .int _, .int _,Nat.zero_le _,rfl,rfl,_,rfl,?_⟩
  rw [iA]
  by_cases c2:w=2
  ·refine cE (decide_eq_true (by omega)) ⟨_,rfl,_,_,rfl,rfl,_,rfl,?_⟩
   by_cases c3:1<n
   ·refine cE (decide_eq_true (by omega)) ?_
    exact aDU (T:=tbL qs n) (n:=n) hP4 (by omega) hS et c3 fun x4 x5 x6 x7 T' v' H' hP' sx' et' hS'=>⟨_,rfl,q T' n v' H' et' hS' (hP'.le (by omega)) (sx.trans sx')⟩
   ·exact bW (decide_eq_false (by omega)) ⟨_,rfl,skip _ rfl⟩
  ·exact bW (decide_eq_false (by omega)) (bW rfl ⟨_,rfl,skip _ rfl⟩)
noncomputable def aAi (K:PySem.W.Frag):Sp:=fun vs H Q _=>∃ (a:Addr) (ns:List Int),vs=[.ref a]∧SqL K H a (ns.map V.int)∧∀ p l ms H',Same H H'→PenAt H' p l ms 0 0→Q (.ref p) H'
theorem aEd:∀ vs H Q E,aAi K vs H Q E→lQ K { nx:=fun _ H'=>Q .non H',rt:=Q } (start ["script"] vs) H:=by
 intro vs H Q E h
 obtain ⟨a,ns,rfl,hS,q⟩:=h
 refine ⟨_,rfl,_,rfl, .inl ⟨a,_,rfl,hS,fun sc hsc=>?_⟩⟩
 obtain ⟨ms,ems,_⟩:=aAG ns none (some 63)
 rw [ems]
 refine .inl ⟨sc,_,rfl, .inl (.of aE),fun l hl=>⟨show 3≤sizeLine by decide,fun p hp=>?_⟩⟩
 have hlp:l≠p:=fun e=>by rw [← e,aE] at hp;cases hp
 refine q p l ms _ (((aM hsc _).trans (aM hl _)).trans (aM hp _)) ⟨aE,?_,hlp⟩
 rw [aO hlp]
 exact aE
end
end K63
namespace K63
open PySem L2
theorem et3 {o t s:Int}(ho:0≤o∧o≤1000000)(ht:0≤t∧t≤1000000)(hs:0≤s∧s≤1000000):Et [[0,o,t],[o,0,s],[t,s,0]] 3:=by
 have z:(0:Int)≤0∧(0:Int)≤1000000:=⟨Int.le_refl _,by decide⟩
 have val:∀ i j,i<3→j<3→0≤at2 [[0,o,t],[o,0,s],[t,s,0]] i j∧at2 [[0,o,t],[o,0,s],[t,s,0]] i j≤1000000:=fun i j hi hj=>by
  match i,j,hi,hj with
  | 0,0,_,_=>exact z
  | 0,1,_,_=>exact ho
  | 0,2,_,_=>exact ht
  | 1,0,_,_=>exact ho
  | 1,1,_,_=>exact z
  | 1,2,_,_=>exact hs
  | 2,0,_,_=>exact ht
  | 2,1,_,_=>exact hs
  | 2,2,_,_=>exact z
 refine ⟨⟨rfl,fun r hr=>?_⟩,by decide,by decide,fun i j hi hj=>?_,fun i hi=>?_,fun i j hi hj=>(val i j hi hj).1,fun i j hi hj=>(val i j hi hj).2⟩
 ·simp only [List.mem_cons,List.not_mem_nil,or_false] at hr
  rcases hr with rfl | rfl | rfl <;> rfl
 ·match i,j,hi,hj with
  | 0,0,_,_=>rfl
  | 0,1,_,_=>rfl
  | 0,2,_,_=>rfl
  | 1,0,_,_=>rfl
  | 1,1,_,_=>rfl
  | 1,2,_,_=>rfl
  | 2,0,_,_=>rfl
  | 2,1,_,_=>rfl
  | 2,2,_,_=>rfl
 ·match i,hi with
  | 0,_=>rfl
  | 1,_=>rfl
  | 2,_=>rfl
section
variable {K:PySem.W.Frag}
noncomputable def Gd (K:PySem.W.Frag) (H:Hp) (x:V):Prop:=∃ T n,Et T n∧Sh K H (jD T) x
theorem Gd.same {H H':Hp}{x:V}(h:Gd K H x)(s:Same H H'):Gd K H' x:=let ⟨T,n,a,b⟩:=h;⟨T,n,a,b.same s⟩
theorem Gd.x {H H':Hp}{x:V}{p:Addr}{L:List V}(h:Gd K H x)(hp:H p=some (.lst L))(s:SameX p H H'):Gd K H' x:=let ⟨T,n,a,b⟩:=h;⟨T,n,a,aAk b hp s⟩
noncomputable def zD (K:PySem.W.Frag):Sp:=fun vs H Q _=>∃ (a:Addr) (ns:List Int),vs=[.ref a]∧SqL K H a (ns.map V.int)∧ns.length≤63∧∀ H',Q (.bl true) H'
theorem aDK:∀ vs H Q E,zD K vs H Q E→aCO K (aEA K) (aAi K) (aEr K) hX { nx:=fun _ H'=>Q .non H',rt:=Q } (start ["script","pen","some","one","two","more"] vs) H:=by
 intro vs H Q E h
 obtain ⟨a,ns,rfl,hS,hn,q⟩:=h
 refine ⟨_,rfl,a,ns,rfl,hS,fun p l ms H1 s1 hP=>?_⟩
 have hP1:PenN H1 p l ms 0:=⟨0,0,hP,Nat.le_refl _⟩
 refine ⟨4,rfl,by decide,by decide,fun A hA=>?_⟩
 have nA:=hP1.ne hA
 refine oO (lo:=0) (n:=4) (vars:=[0]) p (fun i L H'=>L.length=i∧PenN H' p l ms (300*i)∧∀ x∈L,Gd K H' x) (by decide) (by show 0<2;decide) ⟨rfl,hP1.x (aM hA _),by simp⟩ hA (fun i σ4 H4 L4 D' hi l4 ag4 g0 sx4 hA4 ⟨f1,hP4,f3⟩ hD'=>?_) fun σ4 H4 L4 sx4 hA4 ⟨f1,hP4,f3⟩=>?_
 ·have t1:σ4[1]?=some (some (.ref p)):=(ag4 1 (by decide)).trans rfl
  refine ⟨_,t1,p,l,ms,300*i,rfl,hP4,by omega,fun T n v H5 et hS5 hP5 sx5=>?_⟩
  obtain ⟨PL,pL⟩:=hP4.lst
  have hA5:=sx5 _ _ nA.1 hA4
  refine ⟨L4,hA5,Nat.lt_of_le_of_lt (show L4.length≤4 by omega) (by decide),hD' σ4 _ _ l4 ag4 (fun c o hc e=>?_) aE ⟨by rw [List.length_append,f1];rfl,(hP5.upd nA.1 nA.2).le (by omega),fun x hx=>?_⟩⟩
  ·rw [aO (aL e hA)]
   exact sx5 _ _ hc (sx4 _ _ hc e)
  ·rcases List.mem_append.mp hx with hx | hx
   ·exact ((f3 x hx).x pL sx5).x hA5 (SameX.put _)
   ·rw [List.mem_singleton.mp hx]
    exact Gd.x (p:=A) ⟨T,n,et,hS5⟩ hA5 (SameX.put _)
 ·try dsimp only
  refine ⟨_,rfl,?_⟩
  dsimp only [aC,aU,tC,List.cons_append,List.nil_append]
  refine tkN (m:=1000) hP4 (by omega) (by decide) (by decide) fun o H5 ho hP5 sx5=>?_
  refine ⟨_,rfl,?_⟩
  try dsimp only [aC,aU,tC,List.cons_append,List.nil_append]
  refine tkN (m:=1000) hP5 (by omega) (by decide) (by decide) fun t H6 ht hP6 sx6=>?_
  refine ⟨_,_,rfl,?_⟩
  obtain ⟨PL4,pL4⟩:=hP4.lst
  obtain ⟨PL5,pL5⟩:=hP5.lst
  have hA6:=sx6 _ _ nA.1 (sx5 _ _ nA.1 hA4)
  have f6:∀ x∈L4,Gd K H6 x:=fun x hx=>((f3 x hx).x pL4 sx5).x pL5 sx6
  refine ⟨2,rfl,by decide,by decide,?_⟩
  refine bV (lo:=0) (n:=2) (fun i σ' H'=>(∃ x5,σ'=[some (.ref a),some (.ref p),some (.ref A),some (.int (o:Int)),some (.int (t:Int)),x5])∧∃ L,H' A=some (.lst L)∧L.length=4+i∧∀ x∈L,Gd K H' x) ⟨⟨_,rfl⟩,L4,hA6,f1,f6⟩ (fun i σ7 H7 hi ⟨⟨x5,es⟩,L,hA7,l7,g7⟩=>?_) fun σ7 H7 ⟨⟨x5,es⟩,L,hA7,l7,g7⟩=>?_
  ·subst es
   rw [Int.zero_add]
   obtain ⟨s,hs⟩:∃ s:Int,s=(o:Int)+(t:Int)+(i:Int):=⟨_,rfl⟩
   refine ⟨_,rfl, .inl ⟨rfl,_, .of hA7⟩,?_⟩
   refine ⟨_,rfl,_,rfl,show 3≤sizeLine by decide,fun z1 hz1=>?_⟩
   have s1:=aM hz1 (.tup [V.int 0, .int (o:Int), .int (t:Int)])
   refine ⟨_,rfl,_,rfl,_,rfl,aBM ⟨_,rfl,aBM ⟨show 3≤sizeLine by decide,fun z2 hz2=>?_⟩⟩⟩
   rw [← hs]
   have s2:=aM hz2 (.tup [V.int (o:Int), .int 0, .int s])
   refine ⟨_,rfl,_,rfl,_,rfl,aBM ⟨_,rfl,aBM ⟨show 3≤sizeLine by decide,fun z3 hz3=>?_⟩⟩⟩
   rw [← hs]
   have s3:=aM hz3 (.tup [V.int (t:Int), .int s, .int 0])
   refine ⟨show 3≤sizeLine by decide,fun z4 hz4=>?_⟩
   have s4:=aM hz4 (.tup [V.ref z1, .ref z2, .ref z3])
   have s14:=s1.trans (s2.trans (s3.trans s4))
   have hA8:=s14 _ _ hA7
   refine ⟨A,L,_,rfl,rfl,hA8,Nat.lt_of_le_of_lt (show L.length≤8 by omega) (by decide),⟨_,rfl⟩,L++[.ref z4],aE,by rw [List.length_append,l7];rfl,fun x hx=>?_⟩
   rcases List.mem_append.mp hx with hx | hx
   ·exact ((g7 x hx).same s14).x hA8 (SameX.put _)
   ·rw [List.mem_singleton.mp hx]
    refine Gd.x (p:=A) ⟨[[0,(o:Int),(t:Int)],[(o:Int),0,s],[(t:Int),s,0]],3,et3 (by omega) (by omega) (by omega),xK (rs:=[.ref z1, .ref z2, .ref z3]) (.of aE) ⟨rfl,fun j row hj=>?_⟩⟩ hA8 (SameX.put _)
    match j,hj with
    | 0,hj=>cases hj;exact ⟨z1,rfl,(s2.trans (s3.trans s4)).tup (.of aE)⟩
    | 1,hj=>cases hj;exact ⟨z2,rfl,(s3.trans s4).tup (.of aE)⟩
    | 2,hj=>cases hj;exact ⟨z3,rfl,s4.tup (.of aE)⟩
  ·subst es
   refine ⟨_,rfl,_,rfl,_,rfl, .inl ⟨A,L,rfl, .of hA7,fun B hB=>?_⟩⟩
   have sB:=aM hB (.lst (mO L none (some 2)))
   have cl:=jO L none (some 2)
   refine .inl ⟨A,B,L,_,rfl,rfl,sB _ _ hA7,aE,Nat.le_trans (show _≤20 by omega) (by decide),fun C hC=>?_⟩
   have sC:=aM hC (.lst (L++mO L none (some 2)))
   have hC1:(upd (upd H7 B (.lst (mO L none (some 2)))) C (.lst (L++mO L none (some 2)))) C=some (.lst (L++mO L none (some 2))):=aE
   have g9:∀ x∈L++mO L none (some 2),Gd K (upd (upd H7 B (.lst (mO L none (some 2)))) C (.lst (L++mO L none (some 2)))) x:=fun x hx=>by
    have hx:x∈L:=by
     rcases List.mem_append.mp hx with hx | hx
     ·exact hx
     ·exact aCA hx
    exact ((g7 x hx).same sB).same sC
   have ll:(L++mO L none (some 2)).length≤20:=by rw [List.length_append];omega
   refine ⟨C,rfl, .inl ⟨⟨_, .of hC1⟩,fun E hE=>?_⟩⟩
   generalize upd (upd H7 B (.lst (mO L none (some 2)))) C (.lst (L++mO L none (some 2)))=H9 at *
   generalize L++mO L none (some 2)=xs at *
   refine uB (K:=K) (a:=C) (vars:=[0]) (xs:=xs) (fun i L' H'=>L'=List.replicate i (.bl true)) (by decide) (by show 0<1;decide) rfl hE (fun i L' H' s _ => .of (s _ _ hC1)) (fun k y σ4 H4 L4 D' hy l4 ag s0 sm hE4 el hD=>?_) fun σ4 H4 L4 sm hE4 el=>?_
   ·obtain ⟨T,n,et,hT⟩:=g9 y (List.mem_of_getElem? hy)
    have hk:k<xs.length:=(List.getElem?_eq_some_iff.mp hy).1
    refine ⟨_,s0,y,T,n,rfl,hT.same sm,et,fun H5 s5=>?_⟩
    exact ⟨L4,s5 _ _ hE4,by rw [el,List.length_replicate];exact Nat.lt_of_le_of_lt (show k≤20 by omega) (by decide),hD σ4 _ _ l4 ag (dE hE (sm.trans s5)) aE (by rw [el,List.replicate_succ'])⟩
   ·refine ⟨E,List.replicate xs.length true,rfl, .inl (.of (by rw [hE4,el,List.map_replicate])),?_⟩
    have:(List.replicate xs.length true).all id=true:=by
     rw [List.all_eq_true]
     intro b hb
     rw [(List.mem_replicate.mp hb).2]
     rfl
    rw [this]
    exact q _
end
end K63
namespace K63
open PySem L2
section
variable {K:PySem.W.Frag}
theorem lC:∀ vs H Q E,aEF vs H Q E→vs.length=2:=by
 intro vs H Q E h
 obtain ⟨_,_,e,_⟩:=h
 rw [e]
 rfl
theorem xN:∀ vs H Q E,(aBf K) vs H Q E→vs.length=2:=by
 intro vs H Q E h
 obtain ⟨_,e,_⟩:=h
 rw [e]
 rfl
theorem wM:∀ vs H Q E,(aBe K fun T n=>(nM T n).all id) vs H Q E→vs.length=1:=by
 intro vs H Q E h
 obtain ⟨_,_,_,e,_⟩:=h
 rw [e]
 rfl
theorem pN:∀ vs H Q E,(aEq K) vs H Q E→vs.length=5:=by
 intro vs H Q E h
 obtain ⟨_,_,_,_,_,_,_,e,_⟩:=h
 rw [e]
 rfl
theorem mF:∀ vs H Q E,(aEz K) vs H Q E→vs.length=1:=by
 intro vs H Q E h
 obtain ⟨_,_,_,e,_⟩:=h
 rw [e]
 rfl
theorem aCa:∀ vs H Q E,(vK K) vs H Q E→vs.length=4:=by
 intro vs H Q E h
 obtain ⟨_,_,_,_,_,_,_,_,e,_⟩:=h
 rw [e]
 rfl
theorem aCD:∀ vs H Q E,(aEl K) vs H Q E→vs.length=1:=by
 intro vs H Q E h
 obtain ⟨_,_,_,e,_⟩:=h
 rw [e]
 rfl
theorem oA:∀ vs H Q E,(aAP K) vs H Q E→vs.length=1:=by
 intro vs H Q E h
 obtain ⟨_,_,_,e,_⟩:=h
 rw [e]
 rfl
theorem qF:∀ vs H Q E,(aAi K) vs H Q E→vs.length=1:=by
 intro vs H Q E h
 obtain ⟨_,_,e,_⟩:=h
 rw [e]
 rfl
theorem nZ:∀ vs H Q E,qG vs H Q E→vs.length=1:=by
 intro vs H Q E h
 obtain ⟨_,_,_,_,_,e,_⟩:=h
 rw [e]
 rfl
theorem oE:∀ vs H Q E,hX vs H Q E→vs.length=2:=by
 intro vs H Q E h
 obtain ⟨_,_,_,_,_,_,e,_⟩:=h
 rw [e]
 rfl
theorem nQ:∀ vs H Q E,(uC K) vs H Q E→vs.length=3:=by
 intro vs H Q E h
 obtain ⟨_,_,_,_,_,_,_,e,_⟩:=h
 rw [e]
 rfl
theorem kA:∀ vs H Q E,(aAx K) vs H Q E→vs.length=1:=by
 intro vs H Q E h
 obtain ⟨_,_,_,e,_⟩:=h
 rw [e]
 rfl
theorem mY:∀ vs H Q E,(pF K) vs H Q E→vs.length=2:=by
 intro vs H Q E h
 obtain ⟨_,_,_,_,_,e,_⟩:=h
 rw [e]
 rfl
theorem oF:∀ vs H Q E,(aCR K) vs H Q E→vs.length=2:=by
 intro vs H Q E h
 obtain ⟨_,_,_,_,e,_⟩:=h
 rw [e]
 rfl
theorem mK:∀ vs H Q E,(aEG K) vs H Q E→vs.length=1:=by
 intro vs H Q E h
 obtain ⟨_,_,e,_⟩:=h
 rw [e]
 rfl
theorem nS:∀ vs H Q E,(spW K) vs H Q E→vs.length=1:=by
 intro vs H Q E h
 obtain ⟨_,_,e,_⟩:=h
 rw [e]
 rfl
theorem mB:∀ vs H Q E,aEs vs H Q E→vs.length=2:=by
 intro vs H Q E h
 obtain ⟨_,_,e,_⟩:=h
 rw [e]
 rfl
theorem mH:∀ vs H Q E,(aEw K) vs H Q E→vs.length=2:=by
 intro vs H Q E h
 obtain ⟨_,_,_,e,_⟩:=h
 rw [e]
 rfl
theorem kC:∀ vs H Q E,(aEI K) vs H Q E→vs.length=2:=by
 intro vs H Q E h
 obtain ⟨_,_,_,e,_⟩:=h
 rw [e]
 rfl
theorem iV:∀ vs H Q E,(aDP K) vs H Q E→vs.length=2:=by
 intro vs H Q E h
 obtain ⟨_,_,_,e,_⟩:=h
 rw [e]
 rfl
theorem jI:∀ vs H Q E,(aDm K) vs H Q E→vs.length=2:=by
 intro vs H Q E h
 obtain ⟨_,_,_,_,_,_,_,_,e,_⟩:=h
 rw [e]
 rfl
theorem mC:∀ vs H Q E,(aEn K) vs H Q E→vs.length=1:=by
 intro vs H Q E h
 obtain ⟨_,_,_,e,_⟩:=h
 rw [e]
 rfl
theorem jH:∀ vs H Q E,(aEA K) vs H Q E→vs.length=1:=by
 intro vs H Q E h
 obtain ⟨_,_,_,_,e,_⟩:=h
 rw [e]
 rfl
theorem mZ:∀ vs H Q E,(aEr K) vs H Q E→vs.length=1:=by
 intro vs H Q E h
 obtain ⟨_,_,_,e,_⟩:=h
 rw [e]
 rfl
theorem aDM:∀ vs H Q E,zD K vs H Q E→vs.length=1:=fun vs H Q E ⟨a,ns,e,_⟩=>by rw [e];rfl
end
theorem wS {us:List Value}(h:us.length=1):∃ a0,us=[a0]:=List.length_eq_one_iff.mp h
theorem aAe {us:List Value}(h:us.length=2):∃ a0 a1,us=[a0,a1]:=by
 cases us with
 | nil=>cases h
 | cons a0 us=>
 cases us with
 | nil=>cases h
 | cons a1 us=>
 cases us with
 | nil=>exact ⟨a0,a1,rfl⟩
 | cons _ _=>simp at h
theorem aGc {us:List Value}(h:us.length=3):∃ a0 a1 a2,us=[a0,a1,a2]:=by
 cases us with
 | nil=>cases h
 | cons a0 us=>
 cases us with
 | nil=>cases h
 | cons a1 us=>
 cases us with
 | nil=>cases h
 | cons a2 us=>
 cases us with
 | nil=>exact ⟨a0,a1,a2,rfl⟩
 | cons _ _=>simp at h
theorem aGg {us:List Value}(h:us.length=4):∃ a0 a1 a2 a3,us=[a0,a1,a2,a3]:=by
 cases us with
 | nil=>cases h
 | cons a0 us=>
 cases us with
 | nil=>cases h
 | cons a1 us=>
 cases us with
 | nil=>cases h
 | cons a2 us=>
 cases us with
 | nil=>cases h
 | cons a3 us=>
 cases us with
 | nil=>exact ⟨a0,a1,a2,a3,rfl⟩
 | cons _ _=>simp at h
theorem aGh {us:List Value}(h:us.length=5):∃ a0 a1 a2 a3 a4,us=[a0,a1,a2,a3,a4]:=by
 cases us with
 | nil=>cases h
 | cons a0 us=>
 cases us with
 | nil=>cases h
 | cons a1 us=>
 cases us with
 | nil=>cases h
 | cons a2 us=>
 cases us with
 | nil=>cases h
 | cons a3 us=>
 cases us with
 | nil=>cases h
 | cons a4 us=>
 cases us with
 | nil=>exact ⟨a0,a1,a2,a3,a4,rfl⟩
 | cons _ _=>simp at h
theorem all_mk {l:PySem.W.OpenLaw}{w:World}{K:PySem.W.Frag}{h:Heap}{mg:Str→Option Value}{fa:Addr}(X:K.In h)(G:h.Ns mainGlobals mg)(hfa:mg "law" = some (.ref fa))
  {f0:Addr} {od0 an0:Option Addr} {sl0:Array (Option Value)} {oc0 kV0 dc0 pm0 cd0 ct0:Value} (a0:PySem.W.nsIn K mainGlobals "lowest" = some (some (.ref f0))) (l0:K.lookup f0=some ⟨oc0,od0, .func (PySem.W.fnOf "lowest" "lowest" (bP (top 4)) (bI (top 4)) (aK (top 4)) .none kV0 dc0 pm0 an0 cd0 ct0),sl0⟩) (c0:PySem.W.codeIn K cd0 "lowest" = true) (k0:PySem.W.keepIn K (.ref f0)=true)
  {f1:Addr} {od1 an1:Option Addr} {sl1:Array (Option Value)} {oc1 kV1 dc1 pm1 cd1 ct1:Value} (a1:PySem.W.nsIn K mainGlobals "common_measure" = some (some (.ref f1))) (l1:K.lookup f1=some ⟨oc1,od1, .func (PySem.W.fnOf "common_measure" "common_measure" (bP (top 5)) (bI (top 5)) (aK (top 5)) .none kV1 dc1 pm1 an1 cd1 ct1),sl1⟩) (c1:PySem.W.codeIn K cd1 "common_measure" = true) (k1:PySem.W.keepIn K (.ref f1)=true)
  {f2:Addr} {od2 an2:Option Addr} {sl2:Array (Option Value)} {oc2 kV2 dc2 pm2 cd2 ct2:Value} (a2:PySem.W.nsIn K mainGlobals "is_even" = some (some (.ref f2))) (l2:K.lookup f2=some ⟨oc2,od2, .func (PySem.W.fnOf "is_even" "is_even" (bP (top 7)) (bI (top 7)) (aK (top 7)) .none kV2 dc2 pm2 an2 cd2 ct2),sl2⟩) (c2:PySem.W.codeIn K cd2 "is_even" = true) (k2:PySem.W.keepIn K (.ref f2)=true)
  {f3:Addr} {od3 an3:Option Addr} {sl3:Array (Option Value)} {oc3 kV3 dc3 pm3 cd3 ct3:Value} (a3:PySem.W.nsIn K mainGlobals "tree_or_four" = some (some (.ref f3))) (l3:K.lookup f3=some ⟨oc3,od3, .func (PySem.W.fnOf "tree_or_four" "tree_or_four" (bP (top 9)) (bI (top 9)) (aK (top 9)) .none kV3 dc3 pm3 an3 cd3 ct3),sl3⟩) (c3:PySem.W.codeIn K cd3 "tree_or_four" = true) (k3:PySem.W.keepIn K (.ref f3)=true)
  {f4:Addr} {od4 an4:Option Addr} {sl4:Array (Option Value)} {oc4 kV4 dc4 pm4 cd4 ct4:Value} (a4:PySem.W.nsIn K mainGlobals "breaking_four" = some (some (.ref f4))) (l4:K.lookup f4=some ⟨oc4,od4, .func (PySem.W.fnOf "breaking_four" "breaking_four" (bP (top 10)) (bI (top 10)) (aK (top 10)) .none kV4 dc4 pm4 an4 cd4 ct4),sl4⟩) (c4:PySem.W.codeIn K cd4 "breaking_four" = true) (k4:PySem.W.keepIn K (.ref f4)=true)
  {f5:Addr} {od5 an5:Option Addr} {sl5:Array (Option Value)} {oc5 kV5 dc5 pm5 cd5 ct5:Value} (a5:PySem.W.nsIn K mainGlobals "does_break" = some (some (.ref f5))) (l5:K.lookup f5=some ⟨oc5,od5, .func (PySem.W.fnOf "does_break" "does_break" (bP (top 11)) (bI (top 11)) (aK (top 11)) .none kV5 dc5 pm5 an5 cd5 ct5),sl5⟩) (c5:PySem.W.codeIn K cd5 "does_break" = true) (k5:PySem.W.keepIn K (.ref f5)=true)
  {f6:Addr} {od6 an6:Option Addr} {sl6:Array (Option Value)} {oc6 kV6 dc6 pm6 cd6 ct6:Value} (a6:PySem.W.nsIn K mainGlobals "draw" = some (some (.ref f6))) (l6:K.lookup f6=some ⟨oc6,od6, .func (PySem.W.fnOf "draw" "draw" (bP (top 12)) (bI (top 12)) (aK (top 12)) .none kV6 dc6 pm6 an6 cd6 ct6),sl6⟩) (c6:PySem.W.codeIn K cd6 "draw" = true) (k6:PySem.W.keepIn K (.ref f6)=true)
  {f7:Addr} {od7 an7:Option Addr} {sl7:Array (Option Value)} {oc7 kV7 dc7 pm7 cd7 ct7:Value} (a7:PySem.W.nsIn K mainGlobals "hang" = some (some (.ref f7))) (l7:K.lookup f7=some ⟨oc7,od7, .func (PySem.W.fnOf "hang" "hang" (bP (top 13)) (bI (top 13)) (aK (top 13)) .none kV7 dc7 pm7 an7 cd7 ct7),sl7⟩) (c7:PySem.W.codeIn K cd7 "hang" = true) (k7:PySem.W.keepIn K (.ref f7)=true)
  {f8:Addr} {od8 an8:Option Addr} {sl8:Array (Option Value)} {oc8 kV8 dc8 pm8 cd8 ct8:Value} (a8:PySem.W.nsIn K mainGlobals "_law_e_pen" = some (some (.ref f8))) (l8:K.lookup f8=some ⟨oc8,od8, .func (PySem.W.fnOf "_law_e_pen" "_law_e_pen" (bP (top 15)) (bI (top 15)) (aK (top 15)) .none kV8 dc8 pm8 an8 cd8 ct8),sl8⟩) (c8:PySem.W.codeIn K cd8 "_law_e_pen" = true) (k8:PySem.W.keepIn K (.ref f8)=true)
  {f9:Addr} {od9 an9:Option Addr} {sl9:Array (Option Value)} {oc9 kV9 dc9 pm9 cd9 ct9:Value} (a9:PySem.W.nsIn K mainGlobals "_law_e_fresh" = some (some (.ref f9))) (l9:K.lookup f9=some ⟨oc9,od9, .func (PySem.W.fnOf "_law_e_fresh" "_law_e_fresh" (bP (top 16)) (bI (top 16)) (aK (top 16)) .none kV9 dc9 pm9 an9 cd9 ct9),sl9⟩) (c9:PySem.W.codeIn K cd9 "_law_e_fresh" = true) (k9:PySem.W.keepIn K (.ref f9)=true)
  {f10:Addr} {od10 an10:Option Addr} {sl10:Array (Option Value)} {oc10 kV10 dc10 pm10 cd10 ct10:Value} (a10:PySem.W.nsIn K mainGlobals "_law_e_take" = some (some (.ref f10))) (l10:K.lookup f10=some ⟨oc10,od10, .func (PySem.W.fnOf "_law_e_take" "_law_e_take" (bP (top 17)) (bI (top 17)) (aK (top 17)) .none kV10 dc10 pm10 an10 cd10 ct10),sl10⟩) (c10:PySem.W.codeIn K cd10 "_law_e_take" = true) (k10:PySem.W.keepIn K (.ref f10)=true)
  {f11:Addr} {od11 an11:Option Addr} {sl11:Array (Option Value)} {oc11 kV11 dc11 pm11 cd11 ct11:Value} (a11:PySem.W.nsIn K mainGlobals "_law_e_table" = some (some (.ref f11))) (l11:K.lookup f11=some ⟨oc11,od11, .func (PySem.W.fnOf "_law_e_table" "_law_e_table" (bP (top 18)) (bI (top 18)) (aK (top 18)) .none kV11 dc11 pm11 an11 cd11 ct11),sl11⟩) (c11:PySem.W.codeIn K cd11 "_law_e_table" = true) (k11:PySem.W.keepIn K (.ref f11)=true)
  {f12:Addr} {od12 an12:Option Addr} {sl12:Array (Option Value)} {oc12 kV12 dc12 pm12 cd12 ct12:Value} (a12:PySem.W.nsIn K mainGlobals "_law_e_straight" = some (some (.ref f12))) (l12:K.lookup f12=some ⟨oc12,od12, .func (PySem.W.fnOf "_law_e_straight" "_law_e_straight" (bP (top 19)) (bI (top 19)) (aK (top 19)) .none kV12 dc12 pm12 an12 cd12 ct12),sl12⟩) (c12:PySem.W.codeIn K cd12 "_law_e_straight" = true) (k12:PySem.W.keepIn K (.ref f12)=true)
  {f13:Addr} {od13 an13:Option Addr} {sl13:Array (Option Value)} {oc13 kV13 dc13 pm13 cd13 ct13:Value} (a13:PySem.W.nsIn K mainGlobals "_law_e_drawn" = some (some (.ref f13))) (l13:K.lookup f13=some ⟨oc13,od13, .func (PySem.W.fnOf "_law_e_drawn" "_law_e_drawn" (bP (top 20)) (bI (top 20)) (aK (top 20)) .none kV13 dc13 pm13 an13 cd13 ct13),sl13⟩) (c13:PySem.W.codeIn K cd13 "_law_e_drawn" = true) (k13:PySem.W.keepIn K (.ref f13)=true)
  {f14:Addr} {od14 an14:Option Addr} {sl14:Array (Option Value)} {oc14 kV14 dc14 pm14 cd14 ct14:Value} (a14:PySem.W.nsIn K mainGlobals "_law_e_ways" = some (some (.ref f14))) (l14:K.lookup f14=some ⟨oc14,od14, .func (PySem.W.fnOf "_law_e_ways" "_law_e_ways" (bP (top 21)) (bI (top 21)) (aK (top 21)) .none kV14 dc14 pm14 an14 cd14 ct14),sl14⟩) (c14:PySem.W.codeIn K cd14 "_law_e_ways" = true) (k14:PySem.W.keepIn K (.ref f14)=true)
  {f15:Addr} {od15 an15:Option Addr} {sl15:Array (Option Value)} {oc15 kV15 dc15 pm15 cd15 ct15:Value} (a15:PySem.W.nsIn K mainGlobals "_law_e_scaled" = some (some (.ref f15))) (l15:K.lookup f15=some ⟨oc15,od15, .func (PySem.W.fnOf "_law_e_scaled" "_law_e_scaled" (bP (top 22)) (bI (top 22)) (aK (top 22)) .none kV15 dc15 pm15 an15 cd15 ct15),sl15⟩) (c15:PySem.W.codeIn K cd15 "_law_e_scaled" = true) (k15:PySem.W.keepIn K (.ref f15)=true)
  {f16:Addr} {od16 an16:Option Addr} {sl16:Array (Option Value)} {oc16 kV16 dc16 pm16 cd16 ct16:Value} (a16:PySem.W.nsIn K mainGlobals "_law_e_whole" = some (some (.ref f16))) (l16:K.lookup f16=some ⟨oc16,od16, .func (PySem.W.fnOf "_law_e_whole" "_law_e_whole" (bP (top 23)) (bI (top 23)) (aK (top 23)) .none kV16 dc16 pm16 an16 cd16 ct16),sl16⟩) (c16:PySem.W.codeIn K cd16 "_law_e_whole" = true) (k16:PySem.W.keepIn K (.ref f16)=true)
  {f17:Addr} {od17 an17:Option Addr} {sl17:Array (Option Value)} {oc17 kV17 dc17 pm17 cd17 ct17:Value} (a17:PySem.W.nsIn K mainGlobals "_law_e_shared" = some (some (.ref f17))) (l17:K.lookup f17=some ⟨oc17,od17, .func (PySem.W.fnOf "_law_e_shared" "_law_e_shared" (bP (top 24)) (bI (top 24)) (aK (top 24)) .none kV17 dc17 pm17 an17 cd17 ct17),sl17⟩) (c17:PySem.W.codeIn K cd17 "_law_e_shared" = true) (k17:PySem.W.keepIn K (.ref f17)=true)
  {f18:Addr} {od18 an18:Option Addr} {sl18:Array (Option Value)} {oc18 kV18 dc18 pm18 cd18 ct18:Value} (a18:PySem.W.nsIn K mainGlobals "_law_e_is_tie" = some (some (.ref f18))) (l18:K.lookup f18=some ⟨oc18,od18, .func (PySem.W.fnOf "_law_e_is_tie" "_law_e_is_tie" (bP (top 25)) (bI (top 25)) (aK (top 25)) .none kV18 dc18 pm18 an18 cd18 ct18),sl18⟩) (c18:PySem.W.codeIn K cd18 "_law_e_is_tie" = true) (k18:PySem.W.keepIn K (.ref f18)=true)
  {f19:Addr} {od19 an19:Option Addr} {sl19:Array (Option Value)} {oc19 kV19 dc19 pm19 cd19 ct19:Value} (a19:PySem.W.nsIn K mainGlobals "_law_e_is_drawn" = some (some (.ref f19))) (l19:K.lookup f19=some ⟨oc19,od19, .func (PySem.W.fnOf "_law_e_is_drawn" "_law_e_is_drawn" (bP (top 26)) (bI (top 26)) (aK (top 26)) .none kV19 dc19 pm19 an19 cd19 ct19),sl19⟩) (c19:PySem.W.codeIn K cd19 "_law_e_is_drawn" = true) (k19:PySem.W.keepIn K (.ref f19)=true)
  {f20:Addr} {od20 an20:Option Addr} {sl20:Array (Option Value)} {oc20 kV20 dc20 pm20 cd20 ct20:Value} (a20:PySem.W.nsIn K mainGlobals "_law_e_tree_table" = some (some (.ref f20))) (l20:K.lookup f20=some ⟨oc20,od20, .func (PySem.W.fnOf "_law_e_tree_table" "_law_e_tree_table" (bP (top 27)) (bI (top 27)) (aK (top 27)) .none kV20 dc20 pm20 an20 cd20 ct20),sl20⟩) (c20:PySem.W.codeIn K cd20 "_law_e_tree_table" = true) (k20:PySem.W.keepIn K (.ref f20)=true)
  {f21:Addr} {od21 an21:Option Addr} {sl21:Array (Option Value)} {oc21 kV21 dc21 pm21 cd21 ct21:Value} (a21:PySem.W.nsIn K mainGlobals "_law_e_is_broken" = some (some (.ref f21))) (l21:K.lookup f21=some ⟨oc21,od21, .func (PySem.W.fnOf "_law_e_is_broken" "_law_e_is_broken" (bP (top 28)) (bI (top 28)) (aK (top 28)) .none kV21 dc21 pm21 an21 cd21 ct21),sl21⟩) (c21:PySem.W.codeIn K cd21 "_law_e_is_broken" = true) (k21:PySem.W.keepIn K (.ref f21)=true)
  {f22:Addr} {od22 an22:Option Addr} {sl22:Array (Option Value)} {oc22 kV22 dc22 pm22 cd22 ct22:Value} (a22:PySem.W.nsIn K mainGlobals "_law_e_breaks" = some (some (.ref f22))) (l22:K.lookup f22=some ⟨oc22,od22, .func (PySem.W.fnOf "_law_e_breaks" "_law_e_breaks" (bP (top 29)) (bI (top 29)) (aK (top 29)) .none kV22 dc22 pm22 an22 cd22 ct22),sl22⟩) (c22:PySem.W.codeIn K cd22 "_law_e_breaks" = true) (k22:PySem.W.keepIn K (.ref f22)=true)
  {f23:Addr} {od23 an23:Option Addr} {sl23:Array (Option Value)} {oc23 kV23 dc23 pm23 cd23 ct23:Value} (a23:PySem.W.nsIn K mainGlobals "_law_e_near_tree" = some (some (.ref f23))) (l23:K.lookup f23=some ⟨oc23,od23, .func (PySem.W.fnOf "_law_e_near_tree" "_law_e_near_tree" (bP (top 30)) (bI (top 30)) (aK (top 30)) .none kV23 dc23 pm23 an23 cd23 ct23),sl23⟩) (c23:PySem.W.codeIn K cd23 "_law_e_near_tree" = true) (k23:PySem.W.keepIn K (.ref f23)=true)
  {f24:Addr} {od24 an24:Option Addr} {sl24:Array (Option Value)} {oc24 kV24 dc24 pm24 cd24 ct24:Value} (a24:PySem.W.nsIn K mainGlobals "_law_e_right" = some (some (.ref f24))) (l24:K.lookup f24=some ⟨oc24,od24, .func (PySem.W.fnOf "_law_e_right" "_law_e_right" (bP (top 31)) (bI (top 31)) (aK (top 31)) .none kV24 dc24 pm24 an24 cd24 ct24),sl24⟩) (c24:PySem.W.codeIn K cd24 "_law_e_right" = true) (k24:PySem.W.keepIn K (.ref f24)=true)
  {f25:Addr} {od25 an25:Option Addr} {sl25:Array (Option Value)} {oc25 kV25 dc25 pm25 cd25 ct25:Value} (a25:PySem.W.nsIn K mainGlobals "law" = some (some (.ref f25))) (l25:K.lookup f25=some ⟨oc25,od25, .func (PySem.W.fnOf "law" "law" (bP (top 32)) (bI (top 32)) (aK (top 32)) .none kV25 dc25 pm25 an25 cd25 ct25),sl25⟩) (c25:PySem.W.codeIn K cd25 "law" = true) (k25:PySem.W.keepIn K (.ref f25)=true)
  (z_len:PySem.W.nsIn K mainGlobals "len" = some none)
  (z_all:PySem.W.nsIn K mainGlobals "all" = some none)
  (z_min:PySem.W.nsIn K mainGlobals "min" = some none)
  (z_max:PySem.W.nsIn K mainGlobals "max" = some none)
  (z_sum:PySem.W.nsIn K mainGlobals "sum" = some none)
  (z_isinstance:PySem.W.nsIn K mainGlobals "isinstance" = some none)
  (z_sorted:PySem.W.nsIn K mainGlobals "sorted" = some none)
  (z_tuple:PySem.W.nsIn K mainGlobals "tuple" = some none)
  (z_list:PySem.W.nsIn K mainGlobals "list" = some none)
  (z_range:PySem.W.nsIn K mainGlobals "range" = some none)
  (z_int:PySem.W.nsIn K mainGlobals "int" = some none)
  (z_bool:PySem.W.nsIn K mainGlobals "bool" = some none)
  (z_zip:PySem.W.nsIn K mainGlobals "zip" = some none)
  (z_repr:PySem.W.nsIn K mainGlobals "repr" = some none)
  (z_enumerate:PySem.W.nsIn K mainGlobals "enumerate" = some none)
  (z_reversed:PySem.W.nsIn K mainGlobals "reversed" = some none)
  (z_str:PySem.W.nsIn K mainGlobals "str" = some none)
  (z_set:PySem.W.nsIn K mainGlobals "set" = some none)
  (z_abs:PySem.W.nsIn K mainGlobals "abs" = some none) :
  ∃ fd:FuncData,(∀ (s:Shared) (v:Value),BindsTo s fd ⟨[v],[]⟩ [("script",v)])∧∀ base:Heap,K.In base→base.Ns mainGlobals mg→FnOk l.prog w K mg base CX0 6 fa fd ["script"] (zD K):=by
 have e:=hfa.symm.trans (PySem.W.mg_of X G a25)
 cases e
 have B:kZ mg:=⟨⟨⟨⟨PySem.W.mg_none_of X G z_len,PySem.W.mg_none_of X G z_all,PySem.W.mg_none_of X G z_min,PySem.W.mg_none_of X G z_max,PySem.W.mg_none_of X G z_sum,PySem.W.mg_none_of X G z_isinstance,PySem.W.mg_none_of X G z_sorted,PySem.W.mg_none_of X G z_tuple,PySem.W.mg_none_of X G z_list,PySem.W.mg_none_of X G z_range,PySem.W.mg_none_of X G z_int,PySem.W.mg_none_of X G z_bool⟩,PySem.W.mg_none_of X G z_zip,PySem.W.mg_none_of X G z_repr,PySem.W.mg_none_of X G z_enumerate,PySem.W.mg_none_of X G z_reversed,PySem.W.mg_none_of X G z_str⟩,PySem.W.mg_none_of X G z_set⟩,PySem.W.mg_none_of X G z_abs⟩
 have F0:=cN (st:=top 4) l0 c0 k0
 have b0:=F0.binds (ps:=["top","bottom"]) fun _ _ _ _ _ _ us hl=>by obtain ⟨_,_,rfl⟩:=aAe hl;rfl
 have F1:=cN (st:=top 5) l1 c1 k1
 have b1:=F1.binds (ps:=["one","other"]) fun _ _ _ _ _ _ us hl=>by obtain ⟨_,_,rfl⟩:=aAe hl;rfl
 have F2:=cN (st:=top 7) l2 c2 k2
 have b2:=F2.binds (ps:=["table"]) fun _ _ _ _ _ _ us hl=>by obtain ⟨_,rfl⟩:=wS hl;rfl
 have F3:=cN (st:=top 9) l3 c3 k3
 have b3:=F3.binds (ps:=["table"]) fun _ _ _ _ _ _ us hl=>by obtain ⟨_,rfl⟩:=wS hl;rfl
 have F4:=cN (st:=top 10) l4 c4 k4
 have b4:=F4.binds (ps:=["table"]) fun _ _ _ _ _ _ us hl=>by obtain ⟨_,rfl⟩:=wS hl;rfl
 have F5:=cN (st:=top 11) l5 c5 k5
 have b5:=F5.binds (ps:=["table","i","j","k","l"]) fun _ _ _ _ _ _ us hl=>by obtain ⟨_,_,_,_,_,rfl⟩:=aGh hl;rfl
 have F6:=cN (st:=top 12) l6 c6 k6
 have b6:=F6.binds (ps:=["table"]) fun _ _ _ _ _ _ us hl=>by obtain ⟨_,rfl⟩:=wS hl;rfl
 have F7:=cN (st:=top 13) l7 c7 k7
 have b7:=F7.binds (ps:=["table","above","depths","place"]) fun _ _ _ _ _ _ us hl=>by obtain ⟨_,_,_,_,rfl⟩:=aGg hl;rfl
 have F8:=cN (st:=top 15) l8 c8 k8
 have b8:=F8.binds (ps:=["script"]) fun _ _ _ _ _ _ us hl=>by obtain ⟨_,rfl⟩:=wS hl;rfl
 have F9:=cN (st:=top 16) l9 c9 k9
 have b9:=F9.binds (ps:=["pen"]) fun _ _ _ _ _ _ us hl=>by obtain ⟨_,rfl⟩:=wS hl;rfl
 have F10:=cN (st:=top 17) l10 c10 k10
 have b10:=F10.binds (ps:=["pen","many"]) fun _ _ _ _ _ _ us hl=>by obtain ⟨_,_,rfl⟩:=aAe hl;rfl
 have F11:=cN (st:=top 18) l11 c11 k11
 have b11:=F11.binds (ps:=["pen","many","even"]) fun _ _ _ _ _ _ us hl=>by obtain ⟨_,_,_,rfl⟩:=aGc hl;rfl
 have F12:=cN (st:=top 19) l12 c12 k12
 have b12:=F12.binds (ps:=["table"]) fun _ _ _ _ _ _ us hl=>by obtain ⟨_,rfl⟩:=wS hl;rfl
 have F13:=cN (st:=top 20) l13 c13 k13
 have b13:=F13.binds (ps:=["pen","many"]) fun _ _ _ _ _ _ us hl=>by obtain ⟨_,_,rfl⟩:=aAe hl;rfl
 have F14:=cN (st:=top 21) l14 c14 k14
 have b14:=F14.binds (ps:=["ties","place"]) fun _ _ _ _ _ _ us hl=>by obtain ⟨_,_,rfl⟩:=aAe hl;rfl
 have F15:=cN (st:=top 22) l15 c15 k15
 have b15:=F15.binds (ps:=["drawn"]) fun _ _ _ _ _ _ us hl=>by obtain ⟨_,rfl⟩:=wS hl;rfl
 have F16:=cN (st:=top 23) l16 c16 k16
 have b16:=F16.binds (ps:=["thing"]) fun _ _ _ _ _ _ us hl=>by obtain ⟨_,rfl⟩:=wS hl;rfl
 have F17:=cN (st:=top 24) l17 c17 k17
 have b17:=F17.binds (ps:=["one","other"]) fun _ _ _ _ _ _ us hl=>by obtain ⟨_,_,rfl⟩:=aAe hl;rfl
 have F18:=cN (st:=top 25) l18 c18 k18
 have b18:=F18.binds (ps:=["thing","size"]) fun _ _ _ _ _ _ us hl=>by obtain ⟨_,_,rfl⟩:=aAe hl;rfl
 have F19:=cN (st:=top 26) l19 c19 k19
 have b19:=F19.binds (ps:=["thing","many"]) fun _ _ _ _ _ _ us hl=>by obtain ⟨_,_,rfl⟩:=aAe hl;rfl
 have F20:=cN (st:=top 27) l20 c20 k20
 have b20:=F20.binds (ps:=["drawn","many"]) fun _ _ _ _ _ _ us hl=>by obtain ⟨_,_,rfl⟩:=aAe hl;rfl
 have F21:=cN (st:=top 28) l21 c21 k21
 have b21:=F21.binds (ps:=["table","four"]) fun _ _ _ _ _ _ us hl=>by obtain ⟨_,_,rfl⟩:=aAe hl;rfl
 have F22:=cN (st:=top 29) l22 c22 k22
 have b22:=F22.binds (ps:=["table"]) fun _ _ _ _ _ _ us hl=>by obtain ⟨_,rfl⟩:=wS hl;rfl
 have F23:=cN (st:=top 30) l23 c23 k23
 have b23:=F23.binds (ps:=["pen"]) fun _ _ _ _ _ _ us hl=>by obtain ⟨_,rfl⟩:=wS hl;rfl
 have F24:=cN (st:=top 31) l24 c24 k24
 have b24:=F24.binds (ps:=["table"]) fun _ _ _ _ _ _ us hl=>by obtain ⟨_,rfl⟩:=wS hl;rfl
 have F25:=cN (st:=top 32) l25 c25 k25
 refine ⟨PySem.W.fnOf "law" "law" (bP (top 32)) (bI (top 32)) (aK (top 32)) .none kV25 dc25 pm25 an25 cd25 ct25,fun s v => .of_eq rfl,fun base _ _=>?_⟩
 have eI:Def l.prog w K mg base "common_measure" 1 ["one","other"] (aEF):=⟨f1,_,lI (P:=l.prog) (w:=w) (base:=base) F1 B   lC (aEX),PySem.W.mg_of X G a1,k1,b1⟩
 have oD:Def l.prog w K mg base "is_even" 1 ["table"] (aBe K fun T n=>(nM T n).all id):=⟨f2,_,vZ (P:=l.prog) (w:=w) (base:=base) F2 B   wM (aBR),PySem.W.mg_of X G a2,k2,b2⟩
 have iI:Def l.prog w K mg base "does_break" 1 ["table","i","j","k","l"] (aEq K):=⟨f5,_,pX (P:=l.prog) (w:=w) (base:=base) F5 B   pN (aEN),PySem.W.mg_of X G a5,k5,b5⟩
 have aAd:Def l.prog w K mg base "hang" 1 ["table","above","depths","place"] (vK K):=⟨f7,_,aCg (P:=l.prog) (w:=w) (base:=base) F7 B   aCa (aCF),PySem.W.mg_of X G a7,k7,b7⟩
 have iJ:Def l.prog w K mg base "_law_e_pen" 1 ["script"] (aAi K):=⟨f8,_,pV (P:=l.prog) (w:=w) (base:=base) F8 B   qF (aEd),PySem.W.mg_of X G a8,k8,b8⟩
 have fQ:Def l.prog w K mg base "_law_e_fresh" 1 ["pen"] (qG):=⟨f9,_,nI (P:=l.prog) (w:=w) (base:=base) F9 B   nZ (aAN),PySem.W.mg_of X G a9,k9,b9⟩
 have dU:Def l.prog w K mg base "_law_e_straight" 1 ["table"] (aAx K):=⟨f12,_,kF (P:=l.prog) (w:=w) (base:=base) F12 B   kA (tR),PySem.W.mg_of X G a12,k12,b12⟩
 have cW:Def l.prog w K mg base "_law_e_ways" 1 ["ties","place"] (aCR K):=⟨f14,_,oI (P:=l.prog) (w:=w) (base:=base) F14 B   oF (aDC),PySem.W.mg_of X G a14,k14,b14⟩
 have fG:Def l.prog w K mg base "_law_e_scaled" 1 ["drawn"] (aEG K):=⟨f15,_,mD (P:=l.prog) (w:=w) (base:=base) F15 B   mK (aFf),PySem.W.mg_of X G a15,k15,b15⟩
 have cA:Def l.prog w K mg base "_law_e_whole" 1 ["thing"] (spW K):=⟨f16,_,nO (P:=l.prog) (w:=w) (base:=base) F16 B   nS (yQ),PySem.W.mg_of X G a16,k16,b16⟩
 have fE:Def l.prog w K mg base "_law_e_shared" 1 ["one","other"] (aEs):=⟨f17,_,mI (P:=l.prog) (w:=w) (base:=base) F17 B   mB (aEa),PySem.W.mg_of X G a17,k17,b17⟩
 have cD:Def l.prog w K mg base "_law_e_is_broken" 1 ["table","four"] (aDm K):=⟨f21,_,jQ (P:=l.prog) (w:=w) (base:=base) F21 B   jI (aFn),PySem.W.mg_of X G a21,k21,b21⟩
 have qO:Def l.prog w K mg base "lowest" 2 ["top","bottom"] (aBf K):=⟨f0,_,yN (P:=l.prog) (w:=w) (base:=base) F0 B  eI xN (aCX),PySem.W.mg_of X G a0,k0,b0⟩
 have fD:Def l.prog w K mg base "breaking_four" 2 ["table"] (aEz K):=⟨f4,_,mL (P:=l.prog) (w:=w) (base:=base) F4 B  iI mF (aFm),PySem.W.mg_of X G a4,k4,b4⟩
 have aQ:Def l.prog w K mg base "_law_e_take" 2 ["pen","many"] (hX):=⟨f10,_,oG (P:=l.prog) (w:=w) (base:=base) F10 B  fQ oE (aBK),PySem.W.mg_of X G a10,k10,b10⟩
 have fF:Def l.prog w K mg base "_law_e_is_tie" 2 ["thing","size"] (aEw K):=⟨f18,_,mG (P:=l.prog) (w:=w) (base:=base) F18 B  fE cA mH (aES),PySem.W.mg_of X G a18,k18,b18⟩
 have bZ:Def l.prog w K mg base "_law_e_tree_table" 2 ["drawn","many"] (aDP K):=⟨f20,_,iT (P:=l.prog) (w:=w) (base:=base) F20 B  fG cW iV (aEY),PySem.W.mg_of X G a20,k20,b20⟩
 have fH:Def l.prog w K mg base "_law_e_breaks" 2 ["table"] (aEn K):=⟨f22,_,mJ (P:=l.prog) (w:=w) (base:=base) F22 B  cD mC (aEQ),PySem.W.mg_of X G a22,k22,b22⟩
 have aAc:Def l.prog w K mg base "draw" 3 ["table"] (aEl K):=⟨f6,_,aCt (P:=l.prog) (w:=w) (base:=base) F6 B  aAd qO aCD (aFa),PySem.W.mg_of X G a6,k6,b6⟩
 have fS:Def l.prog w K mg base "_law_e_table" 3 ["pen","many","even"] (uC K):=⟨f11,_,nV (P:=l.prog) (w:=w) (base:=base) F11 B  aQ nQ (aBG),PySem.W.mg_of X G a11,k11,b11⟩
 have fR:Def l.prog w K mg base "_law_e_drawn" 3 ["pen","many"] (pF K):=⟨f13,_,nE (P:=l.prog) (w:=w) (base:=base) F13 B  aQ mY (aAu),PySem.W.mg_of X G a13,k13,b13⟩
 have dW:Def l.prog w K mg base "_law_e_is_drawn" 3 ["thing","many"] (aEI K):=⟨f19,_,kJ (P:=l.prog) (w:=w) (base:=base) F19 B  fF cW kC (aFd),PySem.W.mg_of X G a19,k19,b19⟩
 have fT:Def l.prog w K mg base "tree_or_four" 4 ["table"] (aAP K):=⟨f3,_,nK (P:=l.prog) (w:=w) (base:=base) F3 B  fD aAc oD oA (aCZ),PySem.W.mg_of X G a3,k3,b3⟩
 have dL:Def l.prog w K mg base "_law_e_near_tree" 4 ["pen"] (aEA K):=⟨f23,_,jV (P:=l.prog) (w:=w) (base:=base) F23 B  fR dU fS aQ bZ jH (aET),PySem.W.mg_of X G a23,k23,b23⟩
 have fU:Def l.prog w K mg base "_law_e_right" 5 ["table"] (aEr K):=⟨f24,_,nP (P:=l.prog) (w:=w) (base:=base) F24 B  fH cD dW bZ cA fT mZ (aFz),PySem.W.mg_of X G a24,k24,b24⟩
 exact aDe (P:=l.prog) (w:=w) (base:=base) F25 B  dL iJ fU aQ aDM (aDK)
theorem walk {l:PySem.W.OpenLaw}{q:Program}{loose:List Str}{XP:(Str→Option Value)→Heap→Prop}{YP:World→Heap→Prop}{d:DefRec}{K:Params→PySem.W.Frag}(hn:l.most=some 63)(hdf:d.params.defaults=[])
  (hY:∀ (w:World) (h:Heap),YP w h→(K w.params).In h)
  (F:∀ (w:World) (mg:Str→Option Value) (fa:Addr) (h:Heap),(K w.params).In h→h.Ns mainGlobals mg→mg d.name=some (.ref fa) →
   ∃ fd:FuncData,(∀ (s:Shared) (u:Value),BindsTo s fd ⟨[u],[]⟩ [("script",u)])∧∀ base:Heap,(K w.params).In base→base.Ns mainGlobals mg→FnOk l.prog w (K w.params) mg base CX0 6 fa fd ["script"] (zD (K w.params))) :
  PySem.W.WalkO q loose XP YP l.row.toRowW d [] (fun f vs=>PySem.call f vs):=
 L2.aCy (n:=63) (k:=6) (x:="script") (CX:=fun _=>CX0) (sp:=fun w=>zD (K w.params)) hn (by decide) hdf ⟨rfl,by decide,by decide,rfl⟩ hY F (fun _ _ a ns hl _ hS=>⟨a,ns,rfl,hS,hl,fun _=>rfl⟩) fun _ _ _ _ _ z=>z
end K63
open PySem PySem.W PyProof.Rows
noncomputable def PySem.W.Fast.tw12333825358622805636 : Nat := 0
noncomputable def PySem.W.Fast.tw12362028618308804791 : Nat := 0
noncomputable def PySem.W.Fast.tw13479551843593313948 : Nat := 0
noncomputable def PySem.W.Fast.tw161459102803665193 : Nat := 0
noncomputable def PySem.W.Fast.tw2672299763838597321 : Nat := 0
set_option maxRecDepth 100000 in
set_option maxHeartbeats 0 in
theorem PySem.Challenge.cw_homeround_k63_trees_or_four_that_break_holds : PySem.Challenge.rw_homeround_k63_trees_or_four_that_break.Holds := by
  w_on; o_law; k_head; (case hw => w_witness2)
  k_fill
  refine K63.walk (l := PySem.Challenge.rw_homeround_k63_trees_or_four_that_break) rfl rfl (fun w h Y => PySem.W.kIn_of Y) ?F
  case F =>
    intro w mg fa h KX G hmg
    refine' K63.all_mk KX G hmg ?a0 ?l0 ?c0 ?k0 ?a1 ?l1 ?c1 ?k1 ?a2 ?l2 ?c2 ?k2 ?a3 ?l3 ?c3 ?k3 ?a4 ?l4 ?c4 ?k4 ?a5 ?l5 ?c5 ?k5 ?a6 ?l6 ?c6 ?k6 ?a7 ?l7 ?c7 ?k7 ?a8 ?l8 ?c8 ?k8 ?a9 ?l9 ?c9 ?k9 ?a10 ?l10 ?c10 ?k10 ?a11 ?l11 ?c11 ?k11 ?a12 ?l12 ?c12 ?k12 ?a13 ?l13 ?c13 ?k13 ?a14 ?l14 ?c14 ?k14 ?a15 ?l15 ?c15 ?k15 ?a16 ?l16 ?c16 ?k16 ?a17 ?l17 ?c17 ?k17 ?a18 ?l18 ?c18 ?k18 ?a19 ?l19 ?c19 ?k19 ?a20 ?l20 ?c20 ?k20 ?a21 ?l21 ?c21 ?k21 ?a22 ?l22 ?c22 ?k22 ?a23 ?l23 ?c23 ?k23 ?a24 ?l24 ?c24 ?k24 ?a25 ?l25 ?c25 ?k25 ?z_len ?z_all ?z_min ?z_max ?z_sum ?z_isinstance ?z_sorted ?z_tuple ?z_list ?z_range ?z_int ?z_bool ?z_zip ?z_repr ?z_enumerate ?z_reversed ?z_str ?z_set ?z_abs
    (case a0 => k_is)
    (case l0 => k_is)
    (case c0 => k_is)
    (case k0 => k_is)
    (case a1 => k_is)
    (case l1 => k_is)
    (case c1 => k_is)
    (case k1 => k_is)
    (case a2 => k_is)
    (case l2 => k_is)
    (case c2 => k_is)
    (case k2 => k_is)
    (case a3 => k_is)
    (case l3 => k_is)
    (case c3 => k_is)
    (case k3 => k_is)
    (case a4 => k_is)
    (case l4 => k_is)
    (case c4 => k_is)
    (case k4 => k_is)
    (case a5 => k_is)
    (case l5 => k_is)
    (case c5 => k_is)
    (case k5 => k_is)
    (case a6 => k_is)
    (case l6 => k_is)
    (case c6 => k_is)
    (case k6 => k_is)
    (case a7 => k_is)
    (case l7 => k_is)
    (case c7 => k_is)
    (case k7 => k_is)
    (case a8 => k_is)
    (case l8 => k_is)
    (case c8 => k_is)
    (case k8 => k_is)
    (case a9 => k_is)
    (case l9 => k_is)
    (case c9 => k_is)
    (case k9 => k_is)
    (case a10 => k_is)
    (case l10 => k_is)
    (case c10 => k_is)
    (case k10 => k_is)
    (case a11 => k_is)
    (case l11 => k_is)
    (case c11 => k_is)
    (case k11 => k_is)
    (case a12 => k_is)
    (case l12 => k_is)
    (case c12 => k_is)
    (case k12 => k_is)
    (case a13 => k_is)
    (case l13 => k_is)
    (case c13 => k_is)
    (case k13 => k_is)
    (case a14 => k_is)
    (case l14 => k_is)
    (case c14 => k_is)
    (case k14 => k_is)
    (case a15 => k_is)
    (case l15 => k_is)
    (case c15 => k_is)
    (case k15 => k_is)
    (case a16 => k_is)
    (case l16 => k_is)
    (case c16 => k_is)
    (case k16 => k_is)
    (case a17 => k_is)
    (case l17 => k_is)
    (case c17 => k_is)
    (case k17 => k_is)
    (case a18 => k_is)
    (case l18 => k_is)
    (case c18 => k_is)
    (case k18 => k_is)
    (case a19 => k_is)
    (case l19 => k_is)
    (case c19 => k_is)
    (case k19 => k_is)
    (case a20 => k_is)
    (case l20 => k_is)
    (case c20 => k_is)
    (case k20 => k_is)
    (case a21 => k_is)
    (case l21 => k_is)
    (case c21 => k_is)
    (case k21 => k_is)
    (case a22 => k_is)
    (case l22 => k_is)
    (case c22 => k_is)
    (case k22 => k_is)
    (case a23 => k_is)
    (case l23 => k_is)
    (case c23 => k_is)
    (case k23 => k_is)
    (case a24 => k_is)
    (case l24 => k_is)
    (case c24 => k_is)
    (case k24 => k_is)
    (case a25 => k_is)
    (case l25 => k_is)
    (case c25 => k_is)
    (case k25 => k_is)
    (case z_len => k_is)
    (case z_all => k_is)
    (case z_min => k_is)
    (case z_max => k_is)
    (case z_sum => k_is)
    (case z_isinstance => k_is)
    (case z_sorted => k_is)
    (case z_tuple => k_is)
    (case z_list => k_is)
    (case z_range => k_is)
    (case z_int => k_is)
    (case z_bool => k_is)
    (case z_zip => k_is)
    (case z_repr => k_is)
    (case z_enumerate => k_is)
    (case z_reversed => k_is)
    (case z_str => k_is)
    (case z_set => k_is)
    (case z_abs => k_is)
