import PyProof.Rows.All
import Wide.All
import OpenK.AllK
import Wide.FinOn
import Lean
import PyProof.EqAt
import PyProof.EqKinds
import PyProof.TupleCall
import PyProof.Rows.SetFrom
import PyProof.ExcAttrAll.ValueError
import KE.KDictList
import KE.KRevIter
import KE.KPairComp
import PyProof.EqAt
import KE.KSortTup
import PyProof.DictValues
import PyProof.DictWalks
import KE.KDictList
import KE.KItemsList
import KE.KIsAll
import KE.KIntText
import KE.KRevSl
import PyProof.StrCalls2
import PyProof.CallStr
import PyProof.StrLawsTight
import PyProof.StrLawsChain
import KE.KLam
import KE.KMinKey
import KE.KNestM
import PyProof.ExcInit
import OpenK.KCls
import PyProof.FString
import PyProof.InstStoreFacts
import PyProof.AssignAttr
import PyProof.StrWalks
import PyProof.StrOps2
import PyProof.SliceStr2
import PySem.Challenge.RW_homeround_k84_no_tables_texts
set_option Elab.async false
set_option linter.all false
noncomputable section
open PySem.W renaming Frag->aa,nsIn->ba,mg_of->cj,mg_none_of->cn,keepIn->cw,codeIn->cy,fnOf->da,looks_findIn->fz,findIn->gm,Looks->ik,cellsFrom_some->j7,kitOne->lh,hideAll_none->lp,kia_one->mr,kitAny->oh,methodObj->om,kitx_none->o4,exmOne->sj,hideAll_get->so,clsIn->ub
open PySem renaming wpAny_bind->ae,wpAny_pure->ay,mainGlobals->az,sizeLine->cb,starEach->cx,wpAny_mono->di,Spec->du,sizeLine_eq->dy,mem_of_lookup->d0,bootBuiltins->d5,wpAny_holding->e8,wpAny_truthy_bool->fm,wpAny_callSpecial?_slot->fv,compareOp->gf,wpAny_newObj_type->gg,wpAny_loadPart_at->gi,wpAny_field->gr,cellsFrom->gs,wpAny_standAt->ic,binaryOp->iw,codeAny_call_builtin->iy,argBest->i5,wpAny_call_entry->i9,wpAny_setField_rec->ja,codeAny_mono->jd,backTo->jg,excClassObj->jt,wpAny_passesOwn->jz,attributeBase->j0,wpAny_Call_Name_kw->j1,assignEach->kg,foldedSetIterable->kj,wpAny_call->km,sliceBounds->kn,wpAny_seqItems->lg,checkBuiltinCall->ll,wpAny_attempt->md,wpAny_execs_nil->mj,letOwnedTupleGo->ml,codeAny_builtin->mn,wpAny_isSubtype_exc->mx,wpAny_pyIter_tuple->nk,wpAny_tryCatch->og,typeIs_str->oq,call_meets->ot,wpAny_comprehension_free->ox,wpAny_pyIter_list->oy,wpAny_pyNext_tuple_item->pg,behindInMarks->ph,codeAny->pj,wpAny_letGo->pq,plainId_quiet->pz,noFill_tuple_add->qc,wpAny_pyNext_tuple_end->qj,wpAny_pyIter_tupleiter->qm,swapsWith->qt,Result->qu,wpAny_typeOf->qx,pushCells_keeps->q9,wpAny_updateSeq->rj,unbindBehindTheSuite->r9,newFunctionEnv->sg,intText?->si,holding->sq,richCompare->tm,seq_tuple_add->t6,noteFrame->t7,seqItems?->ua,onTheHeap->uc,frameOf->ue,builtinsNs->uh,standAt->ui,getItem->uj,typeLookup->uk,callerA->um,wpAny_rule->uo,relabel->uq,isInstance->ur,assign->uu,concat_meets->uy,seqIndex_neg->uz,JoinOk->u3,entryPlaceOf->u4,setField->u6,pyNext->u9,pyIter->vd,BindsTo->ve,seqIndex_of->vf,keywordEach->vg,pushCells->vh,IsEnum->vm,wpAny_point->vo,strValues->vq,setFlight->vt
open List renaming length_map->af,getD_eq_getElem?_getD->ah,getElem?_eq_getElem->ai,getElem?_eq_some_iff->ao,length_append->aq,mem_singleton->ar,size_toArray->au,mem_cons_of_mem->aw,getElem?_map->bh,getElem?_append_right->bo,mem_append->bp,getElem?_append_left->br,range->bu,all_eq_true->cp,mem_append_left->cq,mem_of_getElem?->cu,length_cons->cz,mem_cons->dc,length_singleton->df,mem_append_right->dj,length_set->dm,mem_map->dn,mem_cons_self->dq,replicate->dz,lookup_cons->d7,map_cons->e6,getElem_mem->e7,length_take->fj,map_append->fy,getElem?_set_self->gc,length_pos_iff->gh,length_eq_zero_iff->gu,replicate_succ->g5,take_length->ia,mem_range->ip,getElem?_set_ne->iu,getElem?_of_mem->iz,append_assoc->i4,map_map->i6,append_nil->jc,nodup_cons->je,drop_eq_getElem_cons->jm,length_drop->jn,getElem_of_mem->jr,getElem?_take_of_lt->jv,all_cons->j3,range_succ_eq_map->ka,flatten_cons->kr,mem_of_mem_take->ly,dropLast_concat_getLast->mf,filterMap_cons->mi,mem_filterMap->ni,contains_cons->n3,forIn_nil->n6,drop_zero->oa,mem_or_eq_of_mem_set->oi,length_range->oz,length_filterMap_le->o8,flatMap_cons->o9,find?_range_eq_some->pe,find?_range_eq_none->pf,map_take->pk,not_mem_nil->qe,cons_append->qh,append_eq_nil_iff->qq,append_inj_right'->qr,take_of_length_le->qs,of_mem_zip->qv,nil_append->qy,forIn_cons->qz,all_map->ra,length_filter_le->rp,mem_iff_getElem->r6,mem_of_mem_drop->se,drop_succ_cons->tf,map_congr_left->t5,map_drop->t9,map->uf
open Nat renaming zero_le->aj,le_refl->av,le_trans->bc,lt_of_lt_of_le->cf,ne_of_lt->de,lt_of_le_of_lt->ff,toDigits->gw,sub_self->gx,lt_irrefl->i7,lt_succ_self->jo,ne_of_gt->ju,not_lt_zero->j6,lt_succ_of_lt->ku,le_of_lt->nh,le_of_eq->nj,eq_zero_or_pos->nz,le_of_succ_le->ou,le_mul_of_pos_right->qb,pow_le_pow_right->sd,log2_lt->vn
open PySem.Heap renaming get?_push_of_some->ak,lt_size->bj,get?_push_size->ck,get?_update_self->fe,get?_update_other->fh,size_push->gk,SameBut->lj,FlyingW->nv,get?_push_at->o7,get?_none_of_le->rz,get?_update_ne->tq,ExtBut->vk
open PySem.Txt renaming split->bb,join->i8,isascii->mw,isdigit->vp
open Bool renaming false_ne_true->bq,and_eq_true->cg,false_and->dg,true_and->dk,and_false->gv,false_eq_true->ij,eq_false_iff->kv,not_eq_true'->ky,and_eq_true_iff->lr,eq_iff_iff->mz,not_true->p9,or_true->rk,and_eq_false_iff->rl,or_eq_true->rm,not_false->sk,and_true->t8,false_or->ug,true_or->u5
open PySem.F renaming plainAttrs_str->cm,slot_str_join->eh,type_str_join->ei,slot_list_append->fq,type_list_append->fu,plainAttrs_list->fx,slot_str_split->g8,type_str_split->g9,slot_tuple_iterator_next->h9,plain_min_loop->ib,slot_enumerate_next->jf,excBase_ValueError->jh,args_tuple_add_2->jw,entry_tuple_add->j2,slot_tuple_add->j8,attr_ValueError->kx,excBase_ValueError->lx,args_tuple_iterator_next_1->ma,entry_tuple_iterator_next->mm,args_str_split_2->ny,entry_str_split->o5,args_enumerate_next_1->pw,entry_min_loop->qf,slot_str_split->qg,entry_enumerate_next->qp
open PySem.Str renaming join->dh,length_append->gj,ofString->ig,cps_append->ir
open Option.some renaming inj->dv
open PySem.Builtin.Str renaming occurrences->dw,strKind->js,partsBetween->jy,tooLong->tw
open Option renaming isSome_iff_exists->d8,map_eq_some_iff->g7
open PyProof.Rows renaming slot_tuple_getitem->d9,callWith_type1->jb,AllBare->n5,subscriptTail_builtinR->qo,envOfC->qw,entry_tuple_getitem->su,SortKind->u7
open PySem.StrLaws renaming join_split->e9,glued_eq_join->fo,join_length_le->kd,sumLen_le->pb,partsBetween_eq->qa,joinFits->qi,At->rq
open Array renaming length_toList->fb,toList_append->fk
open False renaming elim->fg
open PySem.Builtin.SmallTypes renaming nextOf->fi,ownedTupleHandOut->jk,ownedTupleIsFree->jq
open PySem.PyData renaming leavesShortAll->gp,showableAll->il,hasDict->jj,bulkAll->jl,hasDictAll->o3,depthAll->rb,showable->rf
open PySem.AutoSeq1 renaming wpAny_loadPart'->gq
open Int renaming toNat_natCast->gy,emod_lt_of_pos->nq,emod_nonneg->rh,le_refl->sv
open PySem.Builtin.Slice renaming slicePlaces->iq,sliceAdjust->ji,sliceApplied->nc
open PySem.Builtin.Tuple renaming tupleExact->i3,tupleItemsOf->ng
open PySem.Builtin.List renaming listTooLong->jx
open List.cons renaming injEq->j4
open PySem.PassesOwn renaming never->j5
open PySem.Calls renaming callWith_builtin->j9,evalArgs_plain->lq,Name_function_global->m7
open Ne renaming symm->ke
open Char renaming toNat->la
open PySem.Around renaming under_plainId->lu,under->uv
open ToString renaming toString->me
open PySem.Obj renaming mapSeq->mh,mapFields->ud
open PySem.Builtin.Builtins renaming bindParams->mq
open PySem.EntryCells renaming newEntry->my
open PySem.Code renaming quiet_builtin->nr,isFrame->uw
open PySem.Heap.SameBut renaming update->tj
set_option maxRecDepth 100000
set_option maxHeartbeats 4000000
namespace L2
open PySem PySem.Spec PyProof.Rows
abbrev Key:=Sum Int Str
def aBN:Key->Value->Bool
 | .inl k,v=>Value.isInt k v
 | .inr x,v=>Value.isStrOf x v
def aEC (w:World):Key->Int
 | .inl k=>hashInt k
 | .inr x=>hashStr w x
theorem bZ:∀{k:Key}{v:Value},aBN k v=true->(∃i t,k=Sum.inl i/\v=Value.int i t)\/(∃x t,k=Sum.inr x/\v=Value.str x t)
 | .inl i,v,h=>by
  obtain⟨t,e⟩:=Value.isInt_shape (k:=i) (v:=v) h
  exact .inl ⟨i,t,rfl,e⟩
 | .inr x,v,h=>by
  obtain⟨t,e⟩:=Value.isStrOf_shape (x:=x) (v:=v) h
  exact .inr ⟨x,t,rfl,e⟩
theorem aCb (a b:Int):decide ((Sum.inl a:Key)=Sum.inl b)=(a == b):=by
 by_cases e:a=b
 ·subst e;simp
 ·have h:¬ (Sum.inl a:Key)=Sum.inl b:=λq=>e (Sum.inl.inj q)
  rw[decide_eq_false h]
  exact(beq_eq_false_iff_ne.mpr e).symm
theorem aCf (a b:Str):decide ((Sum.inr a:Key)=Sum.inr b)=decide (a=b):=by
 by_cases e:a=b
 ·subst e;simp
 ·have h:¬ (Sum.inr a:Key)=Sum.inr b:=λq=>e (Sum.inr.inj q)
  rw[decide_eq_false h,decide_eq_false e]
theorem aCt (a:Int)(b:Str):decide ((Sum.inl a:Key)=Sum.inr b)=false:=decide_eq_false (λq=>nomatch q)
theorem aDe (a:Str)(b:Int):decide ((Sum.inr a:Key)=Sum.inl b)=false:=decide_eq_false (λq=>nomatch q)
def xC (prog:Program) (w:World):PySem.KeyKind prog w Key where
 is:=aBN
 hash:=aEC w
 inj:=λv a b ha hb=>by
  rcases bZ ha with⟨i,t,rfl,rfl⟩ | ⟨x,t,rfl,rfl⟩
  ·rcases bZ hb with⟨j,u,rfl,e⟩ | ⟨y,u,rfl,e⟩
   ·injection e with e1 _;rw[e1]
   ·exact nomatch e
  ·rcases bZ hb with⟨j,u,rfl,e⟩ | ⟨y,u,rfl,e⟩
   ·exact nomatch e
   ·injection e with e1 _;rw[e1]
 byValue:=λk v h=>by
  rcases bZ h with⟨i,t,rfl,rfl⟩ | ⟨x,t,rfl,rfl⟩ <;> rfl
 pyHash:=λhv h=>by
  rcases bZ hv with⟨i,t,rfl,rfl⟩ | ⟨x,t,rfl,rfl⟩
  ·exact wpAny_pyHash_int h
  ·exact wpAny_pyHash_str h
 eqBool:=λhu hv h=>by
  rcases bZ hu with⟨i,t,rfl,rfl⟩ | ⟨x,t,rfl,rfl⟩
  ·rcases bZ hv with⟨j,u,rfl,rfl⟩ | ⟨y,u,rfl,rfl⟩
   ·rw[aCb] at h;exact wpAny_eqBool_int h
   ·rw[aCt] at h;exact SeqAt.EqAt.int_str i t y u _ _ _ _ h
  ·rcases bZ hv with⟨j,u,rfl,rfl⟩ | ⟨y,u,rfl,rfl⟩
   ·rw[aDe] at h;exact SeqAt.EqAt.str_int x t j u _ _ _ _ h
   ·rw[aCf] at h;exact wpAny_eqBool_str h
 «strs»:=λk x t v h=>by
  rcases bZ h with⟨i,u,rfl,e⟩ | ⟨y,u,rfl,e⟩
  ·exact nomatch e
  ·injection e with e1 _
   subst e1
   cases v <;> rfl
inductive V where
 |non | bl (b:Bool) | int (i:Int) | str (x:Str) | byt (b:Array UInt8) | flt (b:UInt64) | ref (a:Addr) | ty (n:String)
 deriving DecidableEq
def RelV:V->Value->Prop
 | .non,u=>u=Value.none
 | .bl b,u=>u=Value.bool b
 | .int i,u=>∃t,u=Value.int i t
 | .str x,u=>∃t,u=Value.str x t
 | .byt b,u=>∃t,u=Value.bytes b t
 | .flt b,u=>∃t,u=Value.float b t
 | .ref a,u=>u=Value.ref a
 | .ty n,u=>u=Value.type n
abbrev Vals:List V->List Value->Prop:=Paired RelV
theorem Vals.length {xs:List V}{us:List Value}(r:Vals xs us):xs.length=us.length:=Paired.length r
theorem Vals.get:∀{xs:List V}{us:List Value}{i:Nat}{x:V},Vals xs us->xs[i]?=some x->∃u,us[i]?=some u/\RelV x u
 |_,_,_,_, .nil,e=>by simp at e
 |_,_,0,_, .cons r _,e=>by simp at e;subst e;exact⟨_,rfl,r⟩
 |_,_,i+1,x, .cons _ t,e=>by
  obtain⟨u,h1,h2⟩:=Vals.get (i:=i) (x:=x) t (by simpa using e)
  exact⟨u,by simpa using h1,h2⟩
theorem Vals.set {x:V}{u:Value}(r:RelV x u):∀{xs:List V}{us:List Value} (i:Nat),Vals xs us->Vals (xs.set i x) (us.set i u)
 |_,_,_, .nil => .nil
 |_,_,0, .cons _ t => .cons r t
 |_,_,i+1, .cons q t => .cons q (Vals.set r i t)
theorem Vals.append:∀{xs ys:List V}{us ws:List Value},Vals xs us->Vals ys ws->Vals (xs++ys) (us++ws)
 |_,_,_,_, .nil,s=>s
 |_,_,_,_, .cons r t,s => .cons r (Vals.append t s)
theorem Vals.take:∀{xs:List V}{us:List Value} (n:Nat),Vals xs us->Vals (xs.take n) (us.take n)
 |_,_,0,_ => .nil
 |_,_,_+1, .nil => .nil
 |_,_,n+1, .cons r t => .cons r (Vals.take n t)
theorem Vals.drop:∀{xs:List V}{us:List Value} (n:Nat),Vals xs us->Vals (xs.drop n) (us.drop n)
 |_,_,0,r=>r
 |_,_,_+1, .nil => .nil
 |_,_,n+1, .cons _ t=>Vals.drop n t
def aDI:Option V->Option Value->Prop
 |some v,some u=>RelV v u
 |none,none=>True
 |_,_=>False
def KV {κ:Type}:List (κ×V)->List (κ×Value)->Prop:=Paired λ(p:κ×V) (q:κ×Value)=>p.1=q.1/\RelV p.2 q.2
def kV:Key->V
 | .inl i => .int i
 | .inr x => .str x
inductive HO where
 |lst (xs:List V)
 |tup (xs:List V)
 |dK (kvs:List (Key×V)) | dT (kvs:List (List Key×V))
 |set (S:Int->Bool) (n:Nat)
 |ins (C dx:Addr) (fs:List (Str×V))
 |own (x:Addr)
 |xd (fs:List (Str×V))
 |met (f x:Addr)
 |rng (lo hi:Int)
 |frz (o:Obj) (u:HO)
 |tbl (ps:Array Value)
 |ext (φ:Heap->Prop)
abbrev Hp:=Addr->Option HO
def upd (H:Hp) (a:Addr) (o:HO):Hp:=λb=>if b=a then some o else H b
theorem aE {H:Hp}{a:Addr}{o:HO}:upd H a o a=some o:=by unfold upd;rw[if_pos rfl]
theorem aM {H:Hp}{a b:Addr}{o:HO}(h:b≠a):upd H a o b=H b:=by unfold upd;rw[if_neg h]
theorem ne_of {H:Hp}{a b:Addr}{o u:HO}(h:H a=some o)(h':H b=some u)(d:o≠u):a≠b:=by
 intro e;subst e;rw[h] at h';exact d (dv h')
theorem aQ {H:Hp}{a b:Addr}{o:HO}(h:H a=some o)(h':H b=none):a≠b:=by
 intro e;subst e;rw[h] at h';cases h'
def TupN (h:Heap) (a:Addr) (items:Array Value):Prop:=∃o,h.get? a=some o/\o.cls = .type "tuple"/\(∃n,o.data = .seq items n)/\o.dict=none
theorem TupN.tup {h:Heap}{a:Addr}{items:Array Value}(p:TupN h a items):IsTup h a items:=let⟨o,e,c,n,_⟩:=p;⟨o,e,c,n⟩
theorem TupN.new (h:Heap)(items:Array Value):TupN (h.push { cls := .type "tuple",data := .seq items }) h.objs.size items:=⟨_,ck _ rfl,rfl,⟨_,rfl⟩,rfl⟩
section
variable (P:Program)(w:World)
def ObjOk (H:Hp) (h:Heap) (a:Addr):HO->Prop
 | .lst xs=>xs.length<=cb/\∃(its:List Value) (n:Nat),Vals xs its/\h.get? a=some { cls := .type "list",data := .seq its.toArray n }
 | .tup xs=>xs.length<=cb/\∃its:List Value,Vals xs its/\TupN h a its.toArray
 | .dK kvs=>kvs.length<=cb/\(a == sysModules)=false/\∃vs,KV kvs vs/\h.DictOf (xC P w) a vs
 | .dT kvs=>kvs.length<=cb/\(a == sysModules)=false/\∃xs:List (List Key×Addr×Value),
   Paired (λ(p:List Key×V) (q:List Key×Addr×Value)=>p.1=q.1/\H q.2.1=some (.tup (p.1.map kV))/\RelV p.2 q.2.2) kvs xs /\
   ∃o es ep,h.get? a=some o/\o.ExactDict/\o.data = .dict es ep/\es.toList=xs.map (entryOfKey (tupleKind (xC P w)))/\(xs.map (·.1)).Nodup
 | .set S n=>h.SetOf (intKind P w) a S n
 | .ins C dx fs=>H dx=some (.own a)/\fs.length<=1000/\dx≠a/\h.get? a=some (PySem.W.instObj C dx) /\
   ∃mA,h.Ns1 dx mA/\(∀f,aDI (fs.lookup f) (mA f))/\PySem.Within mA (fs.map (·.1))
 | .own _=>∃o,h.get? a=some o
 | .xd fs=>∃mA,h.Ns1 a mA/\∀f,aDI (fs.lookup f) (mA f)
 | .rng lo hi=>∃t u v,h.get? a=some { cls := .type "range",data := .fields #[.int lo t, .int hi u, .int 1 v] }
 | .frz o u=>h.get? a=some o/\ObjOk H h a u
 | .tbl ps=>h.get? a=some { cls := .none,data := .fields ps }
 | .met f x=>h.get? a=some (om (.ref f) (.ref x))
 | .ext φ=>φ h/\(∃o,h.get? a=some o)/\∀h1 h2:Heap,φ h1->(∀o,h1.get? a=some o->h2.get? a=some o)->φ h2
def HOk (H:Hp) (h:Heap):Prop:=∀a o,H a=some o->ObjOk P w H h a o
end
section
variable {P:Program}{w:World}{H H':Hp}{h h':Heap}{a:Addr}{o:HO}
theorem ObjOk.lt (x:ObjOk P w H h a o):a<h.objs.size:=by
 cases o with
 |lst xs=>obtain⟨_,_,_,_,e⟩:=x;exact bj e
 |tup xs=>obtain⟨_,_,_,p⟩:=x;exact p.tup.lt
 |dK kvs=>obtain⟨_,_,_,_,o,_,_,e,_⟩:=x;exact bj e
 |dT kvs=>obtain⟨_,_,_,_,o,_,_,e,_⟩:=x;exact bj e
 |set S n=>obtain⟨o,_,_,_,e,_⟩:=x;exact bj e
 |ins C dx fs=>obtain⟨_,_,_,e,_⟩:=x;exact bj e
 |own y=>obtain⟨_,e⟩:=x;exact bj e
 |xd fs=>obtain⟨_,⟨_,_,_,e,_⟩,_⟩:=x;exact bj e
 |rng lo hi=>obtain⟨_,_,_,e⟩:=x;exact bj e
 |frz ob u=>obtain⟨e,_⟩:=x;exact bj e
 |tbl ps=>exact bj (show h.get? a=some _ from x)
 |met f y=>exact bj (show h.get? a=some _ from x)
 |ext φ=>obtain⟨_,⟨_,e⟩,_⟩:=x;exact bj e
theorem Paired.mapP {α β:Type}{F G:α->β->Prop}:∀{l₁:List α}{l₂:List β},Paired F l₁ l₂->(∀a b,F a b->G a b)->Paired G l₁ l₂
 |_,_, .nil,_ => .nil
 |_,_, .cons r t,f => .cons (f _ _ r) (Paired.mapP t f)
theorem ObjOk.stay (x:ObjOk P w H h a o)(k:∀b u,(b=a\/H b=some (.own a))->h.get? b=some u->h'.get? b=some u)
  (ho:∀b,H b=some (.own a)->H' b=some (.own a)) (ht:∀b xs,H b=some (.tup xs)->H' b=some (.tup xs)):ObjOk P w H' h' a o:=by
 induction o with
 |lst xs=>obtain⟨z,its,n,r,e⟩:=x;exact⟨z,its,n,r,k _ _ (.inl rfl) e⟩
 |tup xs=>obtain⟨z,its,r,ob,e,c⟩:=x;exact⟨z,its,r,ob,k _ _ (.inl rfl) e,c⟩
 |dK kvs=>obtain⟨z,y,vs,r,ob,es,ep,e,c⟩:=x;exact⟨z,y,vs,r,ob,es,ep,k _ _ (.inl rfl) e,c⟩
 |dT kvs=>
  obtain⟨z,y,xs,r,ob,es,ep,e,c⟩:=x
  exact⟨z,y,xs,Paired.mapP r λp q z=>⟨z.1,ht _ _ z.2.1,z.2.2⟩,ob,es,ep,k _ _ (.inl rfl) e,c⟩
 |set S n=>obtain⟨ob,es,ep,t,e,c⟩:=x;exact⟨ob,es,ep,t,k _ _ (.inl rfl) e,c⟩
 |ins C dx fs=>
  obtain⟨d,z,ne,e,mA,⟨od,es,ep,e2,c⟩,r⟩:=x
  exact⟨ho _ d,z,ne,k _ _ (.inl rfl) e,mA,⟨od,es,ep,k _ _ (.inr d) e2,c⟩,r⟩
 |own y=>obtain⟨ob,e⟩:=x;exact⟨ob,k _ _ (.inl rfl) e⟩
 |xd fs=>obtain⟨mA,⟨od,es,ep,e,c⟩,r⟩:=x;exact⟨mA,⟨od,es,ep,k _ _ (.inl rfl) e,c⟩,r⟩
 |rng lo hi=>obtain⟨t,u,v,e⟩:=x;exact⟨t,u,v,k _ _ (.inl rfl) e⟩
 |frz ob u ih=>obtain⟨e,q⟩:=x;exact⟨k _ _ (.inl rfl) e,ih q⟩
 |tbl ps=>
  have e:h.get? a=some { cls := .none,data := .fields ps }:=x
  show h'.get? a=some { cls := .none,data := .fields ps }
  exact k a _ (.inl rfl) e
 |met f y=>
  have e:h.get? a=some (om (.ref f) (.ref y)):=x
  show h'.get? a=some (om (.ref f) (.ref y))
  exact k a _ (.inl rfl) e
 |ext φ=>obtain⟨p,⟨o,e⟩,st⟩:=x;exact⟨st _ _ p λo q=>k _ _ (.inl rfl) q,⟨o,k _ _ (.inl rfl) e⟩,st⟩
theorem HOk.lt (x:HOk P w H h)(e:H a=some o):a<h.objs.size:=(x a o e).lt
theorem HOk.fresh (x:HOk P w H h)(e:h.objs.size<=a):H a=none:=by
 cases q:H a with
 |none=>rfl
 |some u=>exact absurd (cf (x.lt q) e) (i7 _)
theorem HOk.kept (x:HOk P w H h)(k:∀b u,h.get? b=some u->h'.get? b=some u):HOk P w H h':=λa o e=>
 (x a o e).stay (λb u _ q=>k b u q) (λ_ q=>q) λ_ _ q=>q
theorem HOk.laid (x:HOk P w H h)(k:∀b u,h.get? b=some u->h'.get? b=some u)(hp:h.objs.size<=a)(new:ObjOk P w (upd H a o) h' a o):HOk P w (upd H a o) h':=λb u e=>by
 have hn:=x.fresh hp
 by_cases hb:b=a
 ·subst hb;rw[aE] at e;cases e;exact new
 ·rw[aM hb] at e
  exact(x b u e).stay (λc v _ q=>k c v q) (λc q=>by rw[aM (aQ q hn)];exact q) λc xs q=>by rw[aM (aQ q hn)];exact q
end
def Rd (H:Hp) (a:Addr) (u:HO):Prop:=H a=some u\/∃o,H a=some (.frz o u)
theorem Rd.ok {P:Program}{w:World}{H:Hp}{h:Heap}{a:Addr}{u:HO}(r:Rd H a u)(x:HOk P w H h):ObjOk P w H h a u:=by
 rcases r with r | ⟨o,r⟩
 ·exact x a u r
 ·obtain⟨_,q⟩:=x a _ r
  exact q
def Mut:Option HO->Prop
 |some (.lst _)=>True
 |some (.dK _)=>True
 |some (.dT _)=>True
 |some (.set _ _)=>True
 |some (.ins _ _ _)=>True
 |some (.ext _)=>True
 |_=>False
section
variable {P:Program}{w:World}{H:Hp}{h h':Heap}{x e:Addr}{o':HO}
theorem HOk.write (ok:HOk P w H h)(mu:Mut (H x))(he:e=x\/H e=some (.own x))(k:∀b u,b≠e->h.get? b=some u->h'.get? b=some u)(heo:∃u,h'.get? e=some u)
  (new:ObjOk P w (upd H x o') h' x o'):HOk P w (upd H x o') h':=λb u q=>by
 have nown:∀c y,H c=some (.own y)->c≠x:=λc y r z=>by subst z;rw[r] at mu;exact mu
 have ntup:∀c xs,H c=some (.tup xs)->c≠x:=λc xs r z=>by subst z;rw[r] at mu;exact mu
 by_cases hb:b=x
 ·subst hb;rw[aE] at q;cases q;exact new
 ·rw[aM hb] at q
  by_cases hbe:b=e
  ·have q':H b=some (.own x):=by
    rcases he with z | z
    ·exact absurd (hbe.trans z) hb
    ·rw[hbe];exact z
   rw[q] at q';cases q'
   obtain⟨v,hv⟩:=heo
   exact⟨v,by rw[hbe];exact hv⟩
  ·refine(ok b u q).stay (λc v hc r=>k c v ?_ r) (λc r=>by rw[aM (nown c b r)];exact r) λc xs r=>by rw[aM (ntup c xs r)];exact r
   rcases hc with rfl | hc
   ·exact hbe
   ·rintro rfl
    rcases he with z | z
    ·exact nown c b hc z
    ·rw[hc] at z;cases z;exact hb rfl
end
structure Un (fs ex:List Addr)(H H':Hp)(h h':Heap):Prop where
 keep:∀b o,h.get? b=some o->H b=none->b∉fs->b∉ex->h'.get? b=some o
 slot:∀b o,h.get? b=some o->H b=none->b∈fs->b∉ex->∃sl,h'.get? b=some { o with slots:=sl }
 free:∀b o,h.get? b=some o->H b=none->b∉ex->H' b=none
 there:∀b o,h.get? b=some o->b∉ex->∃o',h'.get? b=some o'
 tups:∀b xs,H b=some (.tup xs)->H' b=some (.tup xs)
 frzs:∀b o u,H b=some (.frz o u)->H' b=some (.frz o u)
 tbls:∀b ps,H b=some (.tbl ps)->∃more,H' b=some (.tbl (ps++more))
section
variable {fs fs' ex ex':List Addr}{H H1 H2:Hp}{h h1 h2 h':Heap}{a x e:Addr}{o:HO}
theorem Un.any (u:Un fs ex H H1 h h1){b:Addr}{ob:Obj}(q:h.get? b=some ob)(n:H b=none)(hx:b∉ex):∃sl,h1.get? b=some { ob with slots:=sl }:=by
 by_cases hb:b∈fs
 ·exact u.slot b ob q n hb hx
 ·exact⟨ob.slots,u.keep b ob q n hb hx⟩
theorem Un.kept (k:∀b u,h.get? b=some u->h'.get? b=some u):Un fs ex H H h h':=
 ⟨λb ob q _ _ _=>k b ob q,λb ob q _ _ _=>⟨ob.slots,k b ob q⟩,λ_ _ _ n _=>n,λb ob q _=>⟨ob,k b ob q⟩,λ_ _ q=>q,λ_ _ _ q=>q,λ_ ps q=>⟨#[],by rw[q];simp⟩⟩
theorem Un.refl:Un fs ex H H h h:=Un.kept λ_ _ q=>q
theorem Un.laid (k:∀b u,h.get? b=some u->h'.get? b=some u)(hp:h.objs.size<=a)(hn:H a=none):Un fs ex H (upd H a o) h h' where
 keep:=λb u q _ _ _=>k b u q
 slot:=λb u q _ _ _=>⟨u.slots,k b u q⟩
 free:=λb u q n _=>by rw[aM (de (cf (bj q) hp))];exact n
 there:=λb u q _=>⟨u,k b u q⟩
 tups:=λb xs q=>by rw[aM (aQ q hn)];exact q
 frzs:=λb u xs q=>by rw[aM (aQ q hn)];exact q
 tbls:=λb ps q=>⟨#[],by rw[aM (aQ q hn),q];simp⟩
theorem Un.write (mu:Mut (H x))(he:e=x\/H e=some (.own x))(k:∀b u,b≠e->h.get? b=some u->h'.get? b=some u)(heo:∃u,h'.get? e=some u):Un fs ex H (upd H x o) h h':=by
 have hx:∀b,H b=none->b≠x:=λb n z=>by subst z;rw[n] at mu;exact mu
 have hb:∀b,H b=none->b≠e:=λb n z=>by
  subst z
  rcases he with r | r
  ·exact hx b n r
  ·rw[n] at r;cases r
 have hm:∀b u,H b=some u->¬ Mut (some u)->b≠x:=λb u q nm z=>by subst z;rw[q] at mu;exact nm mu
 refine⟨λb u q n _ _=>k b u (hb b n) q,λb u q n _ _=>⟨u.slots,k b u (hb b n) q⟩,λb u q n _=>by rw[aM (hx b n)];exact n,λb u q _=>?_,
  λb xs q=>by rw[aM (hm b _ q λz=>z)];exact q,λb u xs q=>by rw[aM (hm b _ q λz=>z)];exact q,λb ps q=>⟨#[],by rw[aM (hm b _ q λz=>z),q];simp⟩⟩
 by_cases hbe:b=e
 ·subst hbe;exact heo
 ·exact⟨u,k b u hbe q⟩
end
def trk (h:Heap) (H:Hp):List Addr:=(bu h.objs.size).filter λa=>(H a).isSome
def zL (h:Heap) (H:Hp):Heap:=PySem.W.hideAll h (trk h H)
theorem wK (h:Heap)(H:Hp):(zL h H).objs.size=h.objs.size:=PySem.W.hideAll_size _ _
theorem zT {h:Heap}{H:Hp}{b:Addr}{o:Obj}(e:h.get? b=some o)(n:H b=none):(zL h H).get? b=some o:=
 so _ e λhm=>by
  have q:(H b).isSome=true:=(List.mem_filter.mp hm).2
  rw[n] at q;simp at q
theorem aAQ {h:Heap}{H:Hp}{b:Addr}{o:Obj}(e:(zL h H).get? b=some o):h.get? b=some o/\H b=none:=by
 have e':h.get? b=some o:=PySem.W.of_hideAll (trk h H) e
 refine⟨e',?_⟩
 cases q:H b with
 |none=>rfl
 |some x=>
  have hm:b∈trk h H:=List.mem_filter.mpr ⟨ip.mpr (bj e'),by simp[q]⟩
  have z:(zL h H).get? b=none:=lp (trk h H) hm
  rw[z] at e;cases e
structure Mod (K:aa)(mg:Str->Option Value)(base:Heap):Prop where
 kin:K.In base
 glob:base.Ns az mg
 blt:∃mb,base.Ns uh mb/\∀x:Str,x≠"__name__"->mb x=d5 x
 nolimit:base.NoLimit
structure Cx where
 prog:Program
 w:World
 K:aa
 mg:Str->Option Value
 base:Heap
 A:Around
 N:List Str
 s₀:Shared
 H₀:Hp
 env:Env
 outer:List Env
 stack:List Env
 ex:List Addr
 fn:Str->Bool
 calm:Bool
 pn:List (Addr×Obj)
 xe:Value->Shared->Prop
def frs (l:List Env):List Addr:=l.filterMap (·.frame)
abbrev Cx.fs (X:Cx):List Addr:=frs X.outer
def Vis (sc:Scope) (x:Str):Prop:=sc.names.lookup x=some .local\/sc.names.lookup x=some .cell\/sc.names.lookup x=some .free
def Loc (sc:Scope) (x:Str):Prop:=sc.names.lookup x=some .local\/sc.names.lookup x=some .cell
def Look (env:Env) (h:Heap) (m:Str->Option Value) (x:Str) (u:Value):Prop:=
 (env.kindOf x=some .local/\m x=some u)\/((env.kindOf x=some .cell\/env.kindOf x=some .free)/\∃c,env.cells.lookup x=some c/\h.IsCell c (some u))
structure Cx.Ok (X:Cx):Prop where
 mod:Mod X.K X.mg X.base
 kind:X.env.scope.kind = .function
 glob:X.env.globals=az
 blt:X.env.builtins=uh
 above:X.s₀.heap.objs.size<=X.env.locals
 inj:∀x y c,X.env.cells.lookup x=some c->X.env.cells.lookup y=some c->x=y
 has:∀x,(X.env.kindOf x=some .cell\/X.env.kindOf x=some .free)->∃c,X.env.cells.lookup x=some c
 cab:∀x c,X.fn x=true->X.env.cells.lookup x=some c->X.s₀.heap.objs.size<=c
 hd:X.calm=true->X.A.handled=none
 frames:X.A.frames=some X.stack
 stk:X.stack=X.outer\/(X.stack=X.env :: X.outer/\X.env.frame=some X.env.locals)
 exf:∀b∈X.ex,b≠X.env.locals/\∀x c,X.env.cells.lookup x=some c->c≠b
 bs:∀b o,X.base.get? b=some o->X.s₀.heap.get? b=some o/\X.H₀ b=none
 bsz:X.base.objs.size<=X.s₀.heap.objs.size
 noex:∀b o,X.base.get? b=some o->b∉X.ex
 exfs:∀b∈X.ex,b∉X.fs
 funs:X.s₀.heap.FunFrames X.base X.outer
 frf:∀b∈X.fs,X.H₀ b=none
structure Inv (X:Cx)(pins:List (Addr×Obj))(σ:List (Option V))(H:Hp)(s:Shared):Prop where
 ok:X.Ok
 os:s.os=X.s₀.os
 bare:n5 s.gens
 base:Un X.fs X.ex X.H₀ H X.s₀.heap s.heap
 loc:∃m,s.heap.Ns X.env.locals m/\∀(i:Nat) (x:Str) (v:V),X.N[i]?=some x->σ[i]?=some (some v)->Vis X.env.scope x->∃u,RelV v u/\Look X.env s.heap m x u
 cell:∀x c,X.env.cells.lookup x=some c->∃v,s.heap.IsCell c v
 free:H X.env.locals=none
 freeC:∀x c,X.env.cells.lookup x=some c->H c=none
 pin:∀p∈X.pn++pins,s.heap.get? p.1=some p.2/\H p.1=none/\p.1≠X.env.locals/\p.1∉X.fs/\∀v,p.2.data ≠ .cell v
 hok:HOk X.prog X.w H s.heap
 len:σ.length=X.N.length
section
variable {X:Cx}{pins:List (Addr×Obj)}{σ:List (Option V)}{H H':Hp}{s:Shared}{h':Heap}
theorem Cx.Ok.nofr (ok:X.Ok){b:Addr}{o:Obj}(e:X.base.get? b=some o):b∉X.fs:=λhb=>by
 have:=(ok.funs.mem hb).1
 rw[e] at this;cases this
theorem Inv.bs (I:Inv X pins σ H s):∀b o,X.base.get? b=some o->s.heap.get? b=some o/\H b=none:=λb o e=>
 ⟨I.base.keep b o (I.ok.bs b o e).1 (I.ok.bs b o e).2 (I.ok.nofr e) (I.ok.noex b o e),I.base.free b o (I.ok.bs b o e).1 (I.ok.bs b o e).2 (I.ok.noex b o e)⟩
theorem Inv.bk (I:Inv X pins σ H s):∀b o,X.base.get? b=some o->s.heap.get? b=some o:=λb o e=>(I.bs b o e).1
theorem Inv.mod (I:Inv X pins σ H s):Mod X.K X.mg X.base:=I.ok.mod
theorem Inv.kIn (I:Inv X pins σ H s):X.K.In s.heap:=I.ok.mod.kin.keeps I.bk
theorem Inv.lt (I:Inv X pins σ H s):X.env.locals<s.heap.objs.size:=let⟨_,hn,_⟩:=I.loc;hn.lt
theorem Inv.sz (I:Inv X pins σ H s):X.s₀.heap.objs.size<=s.heap.objs.size:=bc I.ok.above (nh I.lt)
theorem Inv.nofs (I:Inv X pins σ H s){a:Addr}(h:s.heap.objs.size<=a):a∉X.fs:=λhb=>by
 obtain⟨_,o,ho,_⟩:=I.ok.funs.mem hb
 exact absurd (cf (bj ho) (bc I.sz h)) (i7 _)
theorem Inv.cne (I:Inv X pins σ H s):∀x c,X.env.cells.lookup x=some c->c≠X.env.locals:=λx c e z=>by
 obtain⟨v,o,ho,hd⟩:=I.cell x c e
 obtain⟨m,⟨o',es,ep,ho',hd',_⟩,_⟩:=I.loc
 rw[z,ho'] at ho;cases ho;rw[hd'] at hd;cases hd
theorem Inv.funs (I:Inv X pins σ H s):s.heap.FunFrames X.base X.outer:=by
 have all:∀(l:List Env),(∀b∈frs l,b∈X.fs)->X.s₀.heap.FunFrames X.base l->s.heap.FunFrames X.base l:=by
  intro l
  induction l with
  |nil=>intro _ _;trivial
  |cons env r ih=>
   intro hs hl
   obtain⟨hk,⟨L,o,hf,hn,ho,hd⟩,hr⟩:=hl
   have hL:L∈X.fs:=hs L (by unfold frs;rw[mi,hf];exact dq)
   obtain⟨sl,e⟩:=I.base.slot L o ho (I.ok.frf L hL) hL λz=>I.ok.exfs L z hL
   exact⟨hk,⟨L,_,hf,hn,e,hd⟩,ih (λb hb=>hs b (by unfold frs;rw[mi,hf];exact aw _ hb)) hr⟩
 exact all X.outer (λ_ hb=>hb) I.ok.funs
theorem Inv.stack (I:Inv X pins σ H s):s.heap.FunFrames X.base X.stack:=by
 rcases I.ok.stk with e | ⟨e,hf⟩
 ·rw[e];exact I.funs
 ·rw[e]
  obtain⟨m,hn,_⟩:=I.loc
  refine .cons (by rw[I.ok.kind];decide) hf hn ?_ I.funs
  exact rz (bc I.ok.bsz I.ok.above)
theorem Inv.stkSub (I:Inv X pins σ H s):∀b∈frs X.stack,b∈X.env.locals :: X.fs:=λb hb=>by
 rcases I.ok.stk with e | ⟨e,hf⟩
 ·rw[e] at hb;exact aw _ hb
 ·rw[e] at hb
  unfold frs at hb
  rw[mi,hf] at hb
  exact hb
theorem Inv.stkFree (I:Inv X pins σ H s):∀b∈frs X.stack,H b=none:=λb hb=>by
 rcases dc.mp (I.stkSub b hb) with e | hb
 ·rw[e];exact I.free
 ·obtain⟨_,o,ho,_⟩:=I.ok.funs.mem hb
  exact I.base.free b o ho (I.ok.frf b hb) λz=>I.ok.exfs b z hb
theorem Inv.step {g':Array GenState}{t':Nat}{d':Drawn}{ch:List Addr}(I:Inv X pins σ H s)
  (hch:∀b∈ch,(b∈X.ex\/X.s₀.heap.objs.size<=b)/\b≠X.env.locals/\(∀x c,X.env.cells.lookup x=some c->c≠b)/\∀p∈X.pn++pins,p.1≠b)
  (keep:∀b o,b≠X.env.locals->b∉X.fs->b∉ch->s.heap.get? b=some o->H b=none->h'.get? b=some o)
  (slot:∀b o,b≠X.env.locals->b∈X.fs->b∉ch->s.heap.get? b=some o->H b=none->∃sl,h'.get? b=some { o with slots:=sl }) (free:∀b o,b∉ch->s.heap.get? b=some o->H b=none->H' b=none)
  (there:∀b o,b∉ch->s.heap.get? b=some o->∃o',h'.get? b=some o')
  (tups:∀b xs,H b=some (.tup xs)->H' b=some (.tup xs)) (frzs:∀b o u,H b=some (.frz o u)->H' b=some (.frz o u)) (tbls:∀b ps,H b=some (.tbl ps)->∃more,H' b=some (.tbl (ps++more)))
  (ns:∀m,s.heap.Ns X.env.locals m->h'.Ns X.env.locals m) (hok:HOk X.prog X.w H' h') (hg:n5 g') :
  Inv X pins σ H' { s with heap:=h',gens:=g',drawn:=d',toks:=t' }:=by
 have neL:∀b o,X.s₀.heap.get? b=some o->b≠X.env.locals:=λb o e=>de (cf (bj e) I.ok.above)
 have neC:∀b o,X.s₀.heap.get? b=some o->b∉X.ex->b∉ch:=λb o e hx hb=>by
  rcases(hch b hb).1 with z | z
  ·exact hx z
  ·exact absurd (cf (bj e) z) (i7 _)
 have cellK:∀x c,X.env.cells.lookup x=some c->∀v,s.heap.IsCell c v->h'.IsCell c v:=λx c e v ⟨o,ho,hd⟩=>by
  have nch:c∉ch:=λz=>(hch c z).2.2.1 x c e rfl
  by_cases hc:c∈X.fs
  ·obtain⟨sl,q⟩:=slot c o (I.cne x c e) hc nch ho (I.freeC x c e)
   exact⟨_,q,hd⟩
  ·exact⟨o,keep c o (I.cne x c e) hc nch ho (I.freeC x c e),hd⟩
 refine⟨I.ok,I.os,hg,⟨λb o e n hb hx=>?_,λb o e n hb hx=>?_,λb o e n hx=>?_,λb o e hx=>?_,λb xs e=>tups b xs (I.base.tups b xs e),λb o xs e=>frzs b o xs (I.base.frzs b o xs e),λb ps e=>?_⟩,?_,λx c e=>?_,?_,λx c e=>?_,λp hp=>?_,hok,I.len⟩
 ·exact keep b o (neL b o e) hb (neC b o e hx) (I.base.keep b o e n hb hx) (I.base.free b o e n hx)
 ·obtain⟨sl,e1⟩:=I.base.slot b o e n hb hx
  obtain⟨sl',e2⟩:=slot b _ (neL b o e) hb (neC b o e hx) e1 (I.base.free b o e n hx)
  exact⟨sl',e2⟩
 ·obtain⟨o',e1⟩:=I.base.there b o e hx
  exact free b o' (neC b o e hx) e1 (I.base.free b o e n hx)
 ·obtain⟨o',e1⟩:=I.base.there b o e hx
  exact there b o' (neC b o e hx) e1
 ·obtain⟨m1,e1⟩:=I.base.tbls b ps e
  obtain⟨m2,e2⟩:=tbls b _ e1
  exact⟨m1++m2,by rw[e2,Array.append_assoc]⟩
 ·obtain⟨m,hn,hl⟩:=I.loc
  refine⟨m,ns m hn,λi x v e1 e2 e3=>?_⟩
  obtain⟨u,r,l⟩:=hl i x v e1 e2 e3
  refine⟨u,r,?_⟩
  rcases l with l | ⟨k,c,e,z⟩
  ·exact .inl l
  ·exact .inr ⟨k,c,e,cellK x c e _ z⟩
 ·obtain⟨v,z⟩:=I.cell x c e
  exact⟨v,cellK x c e v z⟩
 ·obtain⟨m,⟨o,_,_,ho,_⟩,_⟩:=I.loc
  exact free _ o (λz=>(hch _ z).2.1 rfl) ho I.free
 ·obtain⟨v,o,ho,hd⟩:=I.cell x c e
  exact free c o (λz=>(hch c z).2.2.1 x c e rfl) ho (I.freeC x c e)
 ·obtain⟨e,n,ne,nf,d⟩:=I.pin p hp
  have nch:p.1∉ch:=λz=>(hch p.1 z).2.2.2 p hp rfl
  exact⟨keep p.1 p.2 ne nf nch e n,free p.1 p.2 nch e n,ne,nf,d⟩
theorem Inv.un {t':Nat}(I:Inv X pins σ H s)(u:Un X.fs [] H H' s.heap h')(hok:HOk X.prog X.w H' h'):Inv X pins σ H' { s with heap:=h',toks:=t' }:=by
 obtain⟨m,⟨o,es,ep,ho,r⟩,_⟩:=id I.loc
 obtain⟨sl,hL⟩:=u.any ho I.free (by simp)
 exact I.step (g':=s.gens) (d':=s.drawn) (ch:=[]) (λ_ z=>nomatch z) (λb o _ hb _ e n=>u.keep b o e n hb (by simp)) (λb o _ hb _ e n=>u.slot b o e n hb (by simp)) (λb o _ e n=>u.free b o e n (by simp)) (λb o _ e=>u.there b o e (by simp)) u.tups u.frzs u.tbls (λm' hm=>by
  obtain⟨o',es',ep',ho',r'⟩:=hm
  rw[ho] at ho';cases ho'
  exact⟨_,es',ep',hL,r'⟩) hok I.bare
theorem Inv.call {g':Array GenState}{t':Nat}{d':Drawn}{ch:List Addr}(I:Inv X pins σ H s)(u:Un (frs X.stack) ch H H' s.heap h')(hok:HOk X.prog X.w H' h')(hg:n5 g')
  (hch:∀b∈ch,(b∈X.ex\/X.s₀.heap.objs.size<=b)/\b≠X.env.locals/\(∀x c,X.env.cells.lookup x=some c->c≠b)/\∀p∈X.pn++pins,p.1≠b) :
  Inv X pins σ H' { s with heap:=h',gens:=g',drawn:=d',toks:=t' }:=by
 obtain⟨m,⟨o,es,ep,ho,r⟩,_⟩:=id I.loc
 obtain⟨sl,hL⟩:=u.any ho I.free λz=>(hch _ z).2.1 rfl
 exact I.step (ch:=ch) hch (λb o hL hb hc e n=>u.keep b o e n (λz=>(dc.mp (I.stkSub b z)).elim hL hb) hc) (λb o _ _ hc e n=>u.any e n hc) (λb o hc e n=>u.free b o e n hc) (λb o hc e=>u.there b o e hc) u.tups u.frzs u.tbls (λm' hm=>by
  obtain⟨o',es',ep',ho',r'⟩:=hm
  rw[ho] at ho';cases ho'
  exact⟨_,es',ep',hL,r'⟩) hok hg
theorem Inv.turned {t':Nat}{it:Addr}(I:Inv X pins σ H s)(k:∀b o,b≠it->s.heap.get? b=some o->h'.get? b=some o)(hn:H it=none)(hL:it≠X.env.locals)
  (h1:it∈X.ex\/X.s₀.heap.objs.size<=it) (h2:∀x c,X.env.cells.lookup x=some c->c≠it) (h3:∀p∈X.pn++pins,p.1≠it):Inv X pins σ H { s with heap:=h',toks:=t' }:=by
 have nit:∀b u,H b=some u->b≠it:=λb u e z=>by rw[z,hn] at e;cases e
 refine I.step (g':=s.gens) (d':=s.drawn) (ch:=[it]) (λb hb=>?_) (λb o _ _ hc e _=>k b o (λz=>hc (by simp[z])) e) (λb o _ _ hc e _=>⟨o.slots,k b o (λz=>hc (by simp[z])) e⟩) (λ_ _ _ _ n=>n)
  (λb o hc e=>⟨o,k b o (λz=>hc (by simp[z])) e⟩) (λ_ _ e=>e) (λ_ _ _ e=>e) (λb ps e=>⟨#[],by rw[e];simp⟩) (λm hm=>?_) (λb u e=>?_) I.bare
 ·have e:b=it:=by simpa using hb
  subst e
  exact⟨h1,hL,h2,h3⟩
 ·obtain⟨o,es,ep,ho,r⟩:=hm
  exact⟨o,es,ep,k _ o (ke hL) ho,r⟩
 ·refine(I.hok b u e).stay (λc v hc q=>k c v ?_ q) (λ_ q=>q) λ_ _ q=>q
  rcases hc with z | z
  ·rw[z];exact nit b u e
  ·exact nit c _ z
theorem Inv.tok (I:Inv X pins σ H s)(t:Nat):Inv X pins σ H { s with toks:=t }:=I.un (h':=s.heap) (t':=t) Un.refl I.hok
theorem Inv.kept {t':Nat}(I:Inv X pins σ H s)(k:∀b u,s.heap.get? b=some u->h'.get? b=some u):Inv X pins σ H { s with heap:=h',toks:=t' }:=I.un (Un.kept k) (I.hok.kept k)
theorem Inv.laid {a:Addr}{o:HO}{t':Nat}(I:Inv X pins σ H s)(k:∀b u,s.heap.get? b=some u->h'.get? b=some u)(hp:s.heap.objs.size<=a)(new:ObjOk X.prog X.w (upd H a o) h' a o) :
  Inv X pins σ (upd H a o) { s with heap:=h',toks:=t' }:=I.un (Un.laid k hp (I.hok.fresh hp)) (I.hok.laid k hp new)
theorem Inv.write {x e:Addr}{o:HO}{t':Nat}(I:Inv X pins σ H s)(mu:Mut (H x))(he:e=x\/H e=some (.own x))(k:∀b u,b≠e->s.heap.get? b=some u->h'.get? b=some u)(heo:∃u,h'.get? e=some u)
  (new:ObjOk X.prog X.w (upd H x o) h' x o):Inv X pins σ (upd H x o) { s with heap:=h',toks:=t' }:=I.un (Un.write mu he k heo) (I.hok.write mu he k heo new)
theorem Inv.pins_of {pins':List (Addr×Obj)}(I:Inv X pins σ H s)(h:∀p∈pins',s.heap.get? p.1=some p.2/\H p.1=none/\p.1≠X.env.locals/\p.1∉X.fs/\∀v,p.2.data ≠ .cell v):Inv X pins' σ H s:=
 ⟨I.ok,I.os,I.bare,I.base,I.loc,I.cell,I.free,I.freeC,λp hp=>(bp.mp hp).elim (λz=>I.pin p (cq _ z)) (h p),I.hok,I.len⟩
theorem pF {N:List Str}(hN:N.Nodup){i j:Nat}{x:Str}(a:N[i]?=some x)(b:N[j]?=some x):i=j:=by
 obtain⟨h1,e1⟩:=ao.mp a
 obtain⟨h2,e2⟩:=ao.mp b
 exact(List.getElem_inj hN).mp (e1.trans e2.symm)
theorem pZ {M:Model}{A:Around}{E:Value->Shared->Prop}{i:Nat}{x:Str}{v:V}{u:Value}{Q:Unit->Shared->Prop}(I:Inv X pins σ H s)(hN:X.N.Nodup)(hi:X.N[i]?=some x)(hx:Loc X.env.scope x)(r:RelV v u)
  (h:∀s',Inv X pins (σ.set i (some v)) H s'->(∃a,lj a s.heap s'.heap/\(a=X.env.locals\/X.env.cells.lookup x=some a))->Q () s') (hf:X.fn x=true\/X.env.scope.names.lookup x=some .local:=by first | exact .inl rfl | exact .inr rfl | assumption):wpAny M A (storeName X.env x u) Q E s:=by
 obtain⟨m,hn,hl⟩:=id I.loc
 have hcls:(X.env.scope.kind == .class || (X.env.scope.kind == .module && X.env.locals != X.env.globals))=false:=by rw[I.ok.kind];rfl
 have hiσ:i<σ.length:=by rw[I.len];exact(ao.mp hi).1
 have cne:=I.cne
 have tracked:∀{a:Addr}{h':Heap},(∃o,s.heap.get? a=some o/\H a=none)->lj a s.heap h'->HOk X.prog X.w H h':=λ{a h'} ha hs b ob e=>by
  obtain⟨_,_,hfree⟩:=ha
  refine(I.hok b ob e).stay (λc w' hc q=>(hs.2 c ?_).trans q) (λ_ q=>q) λ_ _ q=>q
  rintro rfl
  rcases hc with rfl | hc
  ·rw[hfree] at e;cases e
  ·rw[hfree] at hc;cases hc
 rcases hx with hk | hk
 ·refine wpAny_storeName_local hk hn (λh' hn' hs=>?_) hcls
  obtain⟨oL,_,_,hoL,_⟩:=id hn
  refine h _ ⟨I.ok,I.os,I.bare,⟨λb o e n hb hx=>?_,λb o e n hb hx=>?_,I.base.free,λb o e hx=>?_,I.base.tups,I.base.frzs,I.base.tbls⟩,⟨_,hn',λj y v' e1 e2 e3=>?_⟩,λy c e=>?_,I.free,I.freeC,λp hp=>?_,tracked ⟨oL,hoL,I.free⟩ hs,by simpa using I.len⟩ ⟨_,hs, .inl rfl⟩
  ·exact(hs.2 b (de (cf (bj e) I.ok.above))).trans (I.base.keep b o e n hb hx)
  ·obtain⟨sl,e1⟩:=I.base.slot b o e n hb hx
   exact⟨sl,(hs.2 b (de (cf (bj e) I.ok.above))).trans e1⟩
  ·obtain⟨o',e1⟩:=I.base.there b o e hx
   exact⟨o',(hs.2 b (de (cf (bj e) I.ok.above))).trans e1⟩
  ·by_cases hj:j=i
   ·subst hj
    rw[hi] at e1;cases e1
    rw[gc hiσ] at e2
    cases e2
    exact⟨u,r, .inl ⟨hk,by simp⟩⟩
   ·rw[iu (ke hj)] at e2
    obtain⟨u',r',q⟩:=hl j y v' e1 e2 e3
    refine⟨u',r',?_⟩
    rcases q with⟨k,e⟩ | ⟨k,c,e,z⟩
    ·refine .inl ⟨k,?_⟩
     have:y≠x:=λe=>hj (pF hN e1 (e ▸ hi))
     simp[this,e]
    ·exact .inr ⟨k,c,e,z.sameBut hs (cne y c e)⟩
  ·obtain⟨w',z⟩:=I.cell y c e
   exact⟨w',z.sameBut hs (cne y c e)⟩
  ·obtain⟨e,n,ne,nf,d⟩:=I.pin p hp
   exact⟨(hs.2 p.1 ne).trans e,n,ne,nf,d⟩
 ·have hfn:X.fn x=true:=by
   rcases hf with z | z
   ·exact z
   ·rw[z] at hk;cases hk
  obtain⟨c,hc⟩:=I.ok.has x (.inl hk)
  obtain⟨w',z⟩:=I.cell x c hc
  refine wpAny_storeName_cell I.ok.kind hk hc z (λh' hc' hs=>?_)
  obtain⟨oc,hoc,hocd⟩:=id z
  refine h { s with heap:=h' } ⟨I.ok,I.os,I.bare,⟨λb o e n hb hx=>?_,λb o e n hb hx=>?_,I.base.free,λb o e hx=>?_,I.base.tups,I.base.frzs,I.base.tbls⟩,⟨m,hn.sameBut hs (ke (cne x c hc)),λj y v' e1 e2 e3=>?_⟩,λy c' e=>?_,I.free,I.freeC,λp hp=>?_,tracked ⟨oc,hoc,I.freeC x c hc⟩ hs,by simpa using I.len⟩ ⟨c,hs, .inr hc⟩
  ·exact(hs.2 b (de (cf (bj e) (I.ok.cab x c hfn hc)))).trans (I.base.keep b o e n hb hx)
  ·obtain⟨sl,e1⟩:=I.base.slot b o e n hb hx
   exact⟨sl,(hs.2 b (de (cf (bj e) (I.ok.cab x c hfn hc)))).trans e1⟩
  ·obtain⟨o',e1⟩:=I.base.there b o e hx
   exact⟨o',(hs.2 b (de (cf (bj e) (I.ok.cab x c hfn hc)))).trans e1⟩
  ·by_cases hj:j=i
   ·subst hj
    rw[hi] at e1;cases e1
    rw[gc hiσ] at e2
    cases e2
    exact⟨u,r, .inr ⟨.inl hk,c,hc,hc'⟩⟩
   ·rw[iu (ke hj)] at e2
    obtain⟨u',r',q⟩:=hl j y v' e1 e2 e3
    refine⟨u',r',?_⟩
    rcases q with q | ⟨k,c',e,z'⟩
    ·exact .inl q
    ·refine .inr ⟨k,c',e,z'.sameBut hs ?_⟩
     rintro rfl
     exact hj (pF hN e1 (I.ok.inj _ _ _ e hc ▸ hi))
  ·by_cases hcc:c'=c
   ·subst hcc;exact⟨_,hc'⟩
   ·obtain⟨w2,z2⟩:=I.cell y c' e
    exact⟨w2,z2.sameBut hs hcc⟩
  ·obtain⟨e,n,ne,nf,d⟩:=I.pin p hp
   refine⟨(hs.2 p.1 ?_).trans e,n,ne,nf,d⟩
   intro q
   rw[q,hoc] at e
   have q':oc=p.2:=dv e
   exact d w' (by rw[<- q'];exact hocd)
theorem iS {M:Model}{A:Around}{E:Value->Shared->Prop}{i:Nat}{x:Str}{v:V}{u:Value}{Q:Unit->Shared->Prop}(I:Inv X pins σ H s)(hN:X.N.Nodup)(hi:X.N[i]?=some x)(hx:Loc X.env.scope x)(r:RelV v u)
  (h:∀s',Inv X pins (σ.set i (some v)) H s'->Q () s') (hf:X.fn x=true\/X.env.scope.names.lookup x=some .local:=by first | exact .inl rfl | exact .inr rfl | assumption):wpAny M A (storeName X.env x u) Q E s:=
 pZ I hN hi hx r (λs' I' _=>h s' I') hf
theorem Inv.call' {s':Shared}{ch:List Addr}(I:Inv X pins σ H s)(ho:s'.os=s.os)(u:Un (frs X.stack) ch H H' s.heap s'.heap)(hok:HOk X.prog X.w H' s'.heap)(hg:n5 s'.gens)
  (hch:∀b∈ch,(b∈X.ex\/X.s₀.heap.objs.size<=b)/\b≠X.env.locals/\(∀x c,X.env.cells.lookup x=some c->c≠b)/\∀p∈X.pn++pins,p.1≠b):Inv X pins σ H' s':=by
 obtain⟨h',g',d',t',o'⟩:=s'
 have e:o'=s.os:=ho
 subst e
 exact I.call (g':=g') (t':=t') (d':=d') u hok hg hch
end
abbrev XK:=Value->Option Addr->Hp->Prop
abbrev St:=List (Option V)
abbrev VK:=V->Hp->Prop
abbrev TE:=St->Hp->VK->Prop
abbrev TT:=St->Hp->(Bool->Hp->Prop)->Prop
abbrev TA:=St->Hp->(List V->Hp->Prop)->Prop
structure lF where
 nx:St->Hp->Prop
 rt:VK
 bk:St->Hp->Prop:=λ_ _=>False
 ct:St->Hp->Prop:=λ_ _=>False
abbrev TS:=lF->St->Hp->Prop
def EP (X:Cx) (pins:List (Addr×Obj)) (σ:St) (Q:VK) (u:Value) (s':Shared):Prop:=∃v H',Inv X pins σ H' s'/\RelV v u/\Q v H'
def TP (X:Cx) (pins:List (Addr×Obj)) (σ:St) (Q:Bool->Hp->Prop) (b:Bool) (s':Shared):Prop:=∃H',Inv X pins σ H' s'/\Q b H'
def AP (X:Cx) (pins:List (Addr×Obj)) (σ:St) (Q:List V->Hp->Prop) (us:List Value) (s':Shared):Prop:=∃vs H',Inv X pins σ H' s'/\Vals vs us/\Q vs H'
def SP (X:Cx) (pins:List (Addr×Obj)) (D:lF) (f:Flow) (s':Shared):Prop:=
 match f with
 | .next=>∃σ' H',Inv X pins σ' H' s'/\D.nx σ' H'
 | .brk=>∃σ' H',Inv X pins σ' H' s'/\D.bk σ' H'
 | .cont=>∃σ' H',Inv X pins σ' H' s'/\D.ct σ' H'
 | .ret u=>∃v σ' H',Inv X pins σ' H' s'/\RelV v u/\D.rt v H'
def PE (X:Cx) (e:Expr) (t:TE):Prop:=
 ∀(pins:List (Addr×Obj)) (s:Shared) (σ:St) (H:Hp) (Q:VK),Inv X pins σ H s->t σ H Q->wpAny (model X.prog X.w) X.A (eval e X.env) (EP X pins σ Q) X.xe s
def PT (X:Cx) (e:Expr) (t:TT):Prop:=
 ∀(pins:List (Addr×Obj)) (s:Shared) (σ:St) (H:Hp) (Q:Bool->Hp->Prop),Inv X pins σ H s->t σ H Q->wpAny (model X.prog X.w) X.A (isTrue e X.env (eval e X.env)) (TP X pins σ Q) X.xe s
def PW (X:Cx) (e:Expr) (t:TT):Prop:=
 ∀(whole:Sem Value) (pins:List (Addr×Obj)) (s:Shared) (σ:St) (H:Hp) (Q:Bool->Hp->Prop),Inv X pins σ H s->t σ H Q->wpAny (model X.prog X.w) X.A (isTrue e X.env whole) (TP X pins σ Q) X.xe s
theorem PW.pt {X:Cx}{e:Expr}{t:TT}(h:PW X e t):PT X e t:=h _
def PA (X:Cx) (es:List Expr) (t:TA):Prop:=
 ∀(pos:Pos) (pins:List (Addr×Obj)) (s:Shared) (σ:St) (H:Hp) (Q:List V->Hp->Prop),Inv X pins σ H s->t σ H Q->wpAny (model X.prog X.w) X.A (spliced (jg pos (cx es X.env))) (AP X pins σ Q) X.xe s
def PS (X:Cx) (st:Stmt) (t:TS):Prop:=
 ∀(pins:List (Addr×Obj)) (s:Shared) (σ:St) (H:Hp) (D:lF),Inv X pins σ H s->t D σ H->wpAny (model X.prog X.w) X.A (exec st X.env) (SP X pins D) X.xe s
def PSs (X:Cx) (st:List Stmt) (t:TS):Prop:=
 ∀(pins:List (Addr×Obj)) (s:Shared) (σ:St) (H:Hp) (D:lF),Inv X pins σ H s->t D σ H->wpAny (model X.prog X.w) X.A (execs st X.env) (SP X pins D) X.xe s
theorem thn {α:Type}{t:Sem α}{Q Q':α->Shared->Prop}{M:Model}{A:Around}{E:Value->Shared->Prop}{s:Shared}(h:wpAny M A t Q E s)(hQ:∀a s,Q a s->Q' a s):wpAny M A t Q' E s:=di h hQ λ_ _ x=>x
section
variable {X:Cx}
inductive aCl (i:Nat) (σ:St) (H:Hp) (Q:VK):Prop
 |mk (v:V) (h:σ[i]?=some (some v)) (q:Q v H):aCl i σ H Q
def aH (i:Nat):TE:=λσ H Q=>aCl i σ H Q
def tC (v:V):TE:=λ_ H Q=>Q v H
theorem aCW {i:Nat}{x:Str}{pos:Pos}(hN:X.N[i]?=some x)(hv:Vis X.env.scope x)(hd:(x == ("__debug__" : Str))=false:=by decide)(hcd:(x == ("__classdict__" : Str))=false:=by decide):PE X (.Name x pos) (aH i):=by
 intro pins s σ H Q I h
 obtain⟨v,e,h⟩:=h
 obtain⟨m,hn,hl⟩:=I.loc
 obtain⟨u,r,l⟩:=hl i x v hN e hv
 have fin:EP X pins σ Q u s:=⟨v,H,I,r,h⟩
 rcases l with⟨hk,hm⟩ | ⟨hk,c,hc,hcell⟩
 ·exact wpAny_Name (wpAny_loadName_local I.ok.kind hk hn hm fin) hd
 ·rcases hk with hk | hk
  ·exact wpAny_Name (wpAny_loadName_cell I.ok.kind hk hc hcell fin) hd
  ·exact wpAny_Name (wpAny_loadName_free I.ok.kind hk hc hcell fin hcd) hd
theorem aJ {i j pos}:PE X (.Constant (.int i) j pos) (tC (.int i)):=λ_ _ _ H _ I h=>wpAny_Constant_int ⟨.int i,H,I.tok _,⟨_,rfl⟩,h⟩
theorem qS {b j pos}:PE X (.Constant (.bool b) j pos) (tC (.bl b)):=λ_ _ _ H _ I h=>Constant_bool ⟨.bl b,H,I,rfl,h⟩
theorem nH {j pos}:PE X (.Constant .none j pos) (tC .non):=λ_ _ _ H _ I h=>Constant_none ⟨.non,H,I,rfl,h⟩
theorem aS {x j pos}:PE X (.Constant (.str x) j pos) (tC (.str x)):=λ_ _ _ H _ I h=>Calls.Constant_str ⟨.str x,H,I.tok _,⟨_,rfl⟩,h⟩
def Gl (X:Cx) (x:Str):Prop:=X.env.kindOf x=some .globalImplicit
theorem iX {E:Value->Shared->Prop}{pins:List (Addr×Obj)}{s:Shared}{σ:St}{H:Hp}{x:Str}{u:Value}{pos:Pos}{Q:Value->Shared->Prop}(I:Inv X pins σ H s)(hg:Gl X x)(hm:X.mg x=some u)(h:Q u s)
  (hd:(x == ("__debug__" : Str))=false:=by decide):wpAny (model X.prog X.w) X.A (eval (.Name x pos) X.env) Q E s:=
 m7 I.ok.kind hg (Calls.loadGlobal_global (by rw[I.ok.glob];exact I.mod.glob.keeps I.bk) hm h) hd
theorem qC {E:Value->Shared->Prop}{pins:List (Addr×Obj)}{s:Shared}{σ:St}{H:Hp}{x:Str}{u:Value}{pos:Pos}{Q:Value->Shared->Prop}(I:Inv X pins σ H s)(hg:Gl X x)(hm:X.mg x=none)(hv:d5 x=some u)(h:Q u s)
  (hn:x≠"__name__":=by decide) (hd:(x == ("__debug__" : Str))=false:=by decide):wpAny (model X.prog X.w) X.A (eval (.Name x pos) X.env) Q E s:=by
 obtain⟨mb,h1,h2⟩:=I.mod.blt
 exact m7 I.ok.kind hg (Calls.loadGlobal_builtin (by rw[I.ok.glob];exact I.mod.glob.keeps I.bk) hm (by rw[I.ok.blt];exact h1.keeps I.bk) ((h2 x hn).trans hv) h) hd
theorem dD {x:Str}{v:V}{u:Value}{pos:Pos}(hg:Gl X x)(hm:X.mg x=some u)(r:RelV v u)(hd:(x == ("__debug__" : Str))=false:=by decide):PE X (.Name x pos) (tC v):=
 λ_ _ _ H _ I h=>iX I hg hm ⟨v,H,I,r,h⟩ hd
theorem kZ {x:Str}{v:V}{u:Value}{pos:Pos}(hg:Gl X x)(hm:X.mg x=none)(hv:d5 x=some u)(r:RelV v u)(hn:x≠"__name__":=by decide)(hd:(x == ("__debug__" : Str))=false:=by decide):PE X (.Name x pos) (tC v):=
 λ_ _ _ H _ I h=>qC I hg hm hv ⟨v,H,I,r,h⟩ hn hd
variable {a b:Expr}{ta tb:TE}{pos:Pos}
def tB (t:TE):TT:=λσ H Q=>t σ H λx H1=>∃c,x = .bl c/\Q c H1
theorem gN {e:Expr}{t:TE}(h:PE X e t)(he:∀whole,isTrue e X.env whole=(do let v <- whole;ui e.pos;sq [v] (truthy v)):=by intro _;rfl):PT X e (tB t):=by
 intro pins s σ H Q I hw
 refine isTrue_plain (thn (h pins s σ H _ I hw) λv s1 ⟨x,H1,I1,r1,q1⟩=>?_) (he _)
 obtain⟨d,rfl,q⟩:=q1
 cases r1
 exact fm ⟨H1,I1,q⟩
variable {tA tB':TT}{rest:List Expr}
def xE (t u:TT):TT:=λσ H Q=>t σ H λc H1=>if c=true then u σ H1 Q else Q false H1
def tOr (t u:TT):TT:=λσ H Q=>t σ H λc H1=>if c=true then Q true H1 else u σ H1 Q
def yE (t:TT):TT:=λσ H Q=>t σ H λc H1=>Q (!c) H1
theorem lL (ha:PT X a tA):PW X (.BoolOp .And [a] pos) tA:=by
 intro wh pins s σ H Q I h
 refine isTrue_and (thn (ha pins s σ H Q I h) λc s1 e=>?_)
 cases c with
 |true=>exact isTrue_and_nil e
 |false=>exact e
theorem jN (ha:PT X a tA):PW X (.BoolOp .Or [a] pos) tA:=by
 intro wh pins s σ H Q I h
 refine isTrue_or (thn (ha pins s σ H Q I h) λc s1 e=>?_)
 cases c with
 |false=>exact isTrue_or_nil e
 |true=>exact e
theorem rB (ha:PT X a tA)(hb:PW X (.BoolOp .And (b :: rest) pos) tB'):PW X (.BoolOp .And (a :: b :: rest) pos) (xE tA tB'):=by
 intro wh pins s σ H Q I h
 refine isTrue_and (thn (ha pins s σ H _ I h) λc s1 ⟨H1,I1,q1⟩=>?_)
 cases c with
 |true=>exact hb wh pins s1 σ H1 Q I1 q1
 |false=>exact⟨H1,I1,q1⟩
theorem lB (ha:PT X a tA)(hb:PW X (.BoolOp .Or (b :: rest) pos) tB'):PW X (.BoolOp .Or (a :: b :: rest) pos) (tOr tA tB'):=by
 intro wh pins s σ H Q I h
 refine isTrue_or (thn (ha pins s σ H _ I h) λc s1 ⟨H1,I1,q1⟩=>?_)
 cases c with
 |true=>exact⟨H1,I1,q1⟩
 |false=>exact hb wh pins s1 σ H1 Q I1 q1
theorem iU (ha:PT X a tA):PT X (.UnaryOp .Not a pos) (yE tA):=by
 intro pins s σ H Q I h
 exact isTrue_not (ha pins s σ H (λc H1=>Q (!c) H1) I h)
def kY (ta tb:TE):TE:=λσ H Q=>ta σ H λx H1=>∃c,x = .bl c/\if c=true then tb σ H1 Q else Q (.bl false) H1
def aDE (ta tb:TE):TE:=λσ H Q=>ta σ H λx H1=>∃c,x = .bl c/\if c=true then Q (.bl true) H1 else tb σ H1 Q
def aBV (ta:TE):TE:=λσ H Q=>ta σ H λx H1=>∃c,x = .bl c/\Q (.bl (!c)) H1
theorem iJ {op}{t:TE}(h:PE X a t):PE X (.BoolOp op [a] pos) t:=λpins s σ H Q I hw=>BoolOp_one (h pins s σ H Q I hw)
theorem iF (ha:PE X a ta)(hb:PE X (.BoolOp .And (b :: rest) pos) tb):PE X (.BoolOp .And (a :: b :: rest) pos) (kY ta tb):=by
 intro pins s σ H Q I h
 refine BoolOp_and (thn (ha pins s σ H _ I h) λv s1 ⟨x,H1,I1,r1,q1⟩=>?_)
 obtain⟨c,rfl,q1⟩:=q1
 cases r1
 refine fm ?_
 cases c with
 |true=>exact hb pins s1 σ H1 Q I1 q1
 |false=>exact⟨.bl false,H1,I1,rfl,q1⟩
theorem aDj (ha:PE X a ta)(hb:PE X (.BoolOp .Or (b :: rest) pos) tb):PE X (.BoolOp .Or (a :: b :: rest) pos) (aDE ta tb):=by
 intro pins s σ H Q I h
 refine BoolOp_or (thn (ha pins s σ H _ I h) λv s1 ⟨x,H1,I1,r1,q1⟩=>?_)
 obtain⟨c,rfl,q1⟩:=q1
 cases r1
 refine fm ?_
 cases c with
 |false=>exact hb pins s1 σ H1 Q I1 q1
 |true=>exact⟨.bl true,H1,I1,rfl,q1⟩
theorem aCX (ha:PE X a ta):PE X (.UnaryOp .Not a pos) (aBV ta):=by
 intro pins s σ H Q I h
 refine UnaryOp_ (thn (ha pins s σ H _ I h) λv s1 ⟨x,H1,I1,r1,q1⟩=>?_)
 obtain⟨c,rfl,q1⟩:=q1
 cases r1
 exact not_of (fm ⟨.bl (!c),H1,I1,rfl,q1⟩)
def tIf (t:TT) (ta tb:TE):TE:=λσ H Q=>t σ H λc H1=>if c=true then ta σ H1 Q else tb σ H1 Q
theorem kD {c:Expr}(hc:PT X c tA)(ha:PE X a ta)(hb:PE X b tb):PE X (.IfExp c a b pos) (tIf tA ta tb):=by
 intro pins s σ H Q I h
 refine wpAny_IfExp (thn (hc pins s σ H _ I h) λd s1 ⟨H1,I1,q1⟩=>?_)
 cases d with
 |true=>exact ha pins s1 σ H1 Q I1 q1
 |false=>exact hb pins s1 σ H1 Q I1 q1
end
def SqL (K:aa) (H:Hp) (a:Addr) (xs:List V):Prop:=
 Rd H a (.lst xs) \/
  ∃(o:Obj) (its:Array Value) (n:Nat),K.lookup a=some o/\o.cls = .type "list"/\o.dict=none/\o.data = .seq its n/\its.size<=cb/\Vals xs its.toList
def SqT (K:aa) (H:Hp) (a:Addr) (xs:List V):Prop:=
 Rd H a (.tup xs) \/
  ∃(o:Obj) (its:Array Value) (n:Nat),K.lookup a=some o/\o.cls = .type "tuple"/\o.dict=none/\o.data = .seq its n/\its.size<=cb/\Vals xs its.toList
def aEG:Value->Option V
 | .none=>some .non
 | .bool b=>some (.bl b)
 | .int i _=>some (.int i)
 | .str x _=>some (.str x)
 | .bytes b _=>some (.byt b)
 | .float b _=>some (.flt b)
 | .ref a=>some (.ref a)
 | .type n=>some (.ty n)
 |_=>none
theorem RelV.abs {x:V}{u:Value}(r:RelV x u):aEG u=some x:=by
 cases x with
 |non=>cases r;rfl
 |bl _=>cases r;rfl
 |int _=>obtain⟨t,rfl⟩:=r;rfl
 |str _=>obtain⟨t,rfl⟩:=r;rfl
 |byt _=>obtain⟨t,rfl⟩:=r;rfl
 |flt _=>obtain⟨t,rfl⟩:=r;rfl
 |ref _=>cases r;rfl
 |ty _=>cases r;rfl
theorem RelV.inj {x y:V}{u:Value}(r:RelV x u)(q:RelV y u):x=y:=dv (r.abs.symm.trans q.abs)
theorem Vals.inj:∀{xs ys:List V}{us:List Value},Vals xs us->Vals ys us->xs=ys
 |_,_,_, .nil, .nil=>rfl
 |_,_,_, .cons r t, .cons r' t'=>by rw[r.inj r',Vals.inj t t']
section
variable {X:Cx}{pins:List (Addr×Obj)}{σ:St}{H:Hp}{s:Shared}{a:Addr}{xs ys:List V}
theorem SqL.of {K:aa}(h:H a=some (.lst xs)):SqL K H a xs := .inl (.inl h)
theorem SqT.of {K:aa}(h:H a=some (.tup xs)):SqT K H a xs := .inl (.inl h)
theorem Inv.list (I:Inv X pins σ H s)(h:SqL X.K H a xs):∃its:List Value,Vals xs its/\PlainL s.heap a its.toArray/\xs.length<=cb:=by
 rcases h with h | ⟨o,its,n,hk,hc,hd,hs,hz,r⟩
 ·obtain⟨z,its,n,r,e⟩:=h.ok I.hok
  exact⟨its,r,⟨_,n,e,rfl,rfl,rfl⟩,z⟩
 ·refine⟨its.toList,r,⟨o,n,I.kIn a o hk,hc,hd,by simpa using hs⟩,?_⟩
  have e:=r.length
  simp only[fb] at e
  omega
theorem Inv.tuple (I:Inv X pins σ H s)(h:SqT X.K H a xs):∃its:List Value,Vals xs its/\IsTup s.heap a its.toArray/\xs.length<=cb:=by
 rcases h with h | ⟨o,its,n,hk,hc,_,hs,hz,r⟩
 ·obtain⟨z,its,r,p⟩:=h.ok I.hok
  exact⟨its,r,p.tup,z⟩
 ·refine⟨its.toList,r,⟨o,I.kIn a o hk,hc,n,by simpa using hs⟩,?_⟩
  have e:=r.length
  simp only[fb] at e
  omega
theorem Inv.list_inj (I:Inv X pins σ H s)(h:SqL X.K H a xs)(h':SqL X.K H a ys):xs=ys:=by
 obtain⟨its,r,⟨o,n,e,_,_,d⟩,_⟩:=I.list h
 obtain⟨its',r',⟨o',n',e',_,_,d'⟩,_⟩:=I.list h'
 rw[e] at e';cases e'
 rw[d] at d'
 injection d' with d1 _
 have:its=its':=by simpa using congrArg Array.toList d1
 subst this
 exact r.inj r'
theorem Inv.tuple_inj (I:Inv X pins σ H s)(h:SqT X.K H a xs)(h':SqT X.K H a ys):xs=ys:=by
 obtain⟨its,r,⟨o,e,_,n,d⟩,_⟩:=I.tuple h
 obtain⟨its',r',⟨o',e',_,n',d'⟩,_⟩:=I.tuple h'
 rw[e] at e';cases e'
 rw[d] at d'
 injection d' with d1 _
 have:its=its':=by simpa using congrArg Array.toList d1
 subst this
 exact r.inj r'
end
abbrev Cx.wish (X:Cx) (E:Value->Shared->Prop):Cx:={ X with xe:=E }
abbrev Cx.nox (X:Cx):Cx:=X.wish λ_ _=>False
theorem Cx.Ok.wish {X:Cx}(ok:X.Ok)(E:Value->Shared->Prop):(X.wish E).Ok:=
 ⟨ok.mod,ok.kind,ok.glob,ok.blt,ok.above,ok.inj,ok.has,ok.cab,ok.hd,ok.frames,ok.stk,ok.exf,ok.bs,ok.bsz,ok.noex,ok.exfs,ok.funs,ok.frf⟩
theorem Cx.Ok.unwish {X:Cx}{E:Value->Shared->Prop}(ok:(X.wish E).Ok):X.Ok:=
 ⟨ok.mod,ok.kind,ok.glob,ok.blt,ok.above,ok.inj,ok.has,ok.cab,ok.hd,ok.frames,ok.stk,ok.exf,ok.bs,ok.bsz,ok.noex,ok.exfs,ok.funs,ok.frf⟩
section
variable {X:Cx}{pins:List (Addr×Obj)}{σ:St}{H:Hp}{s:Shared}{E:Value->Shared->Prop}
theorem Inv.wish (I:Inv X pins σ H s)(E:Value->Shared->Prop):Inv (X.wish E) pins σ H s:=⟨I.ok.wish E,I.os,I.bare,I.base,I.loc,I.cell,I.free,I.freeC,I.pin,I.hok,I.len⟩
theorem Inv.unwish (I:Inv (X.wish E) pins σ H s):Inv X pins σ H s:=⟨I.ok.unwish,I.os,I.bare,I.base,I.loc,I.cell,I.free,I.freeC,I.pin,I.hok,I.len⟩
theorem SP.unwish {D:lF}{f:Flow}{s':Shared}(h:SP (X.wish E) pins D f s'):SP X pins D f s':=by
 cases f with
 |next=>obtain⟨σ',H',I,q⟩:=h;exact⟨σ',H',I.unwish,q⟩
 |brk=>obtain⟨σ',H',I,q⟩:=h;exact⟨σ',H',I.unwish,q⟩
 |cont=>obtain⟨σ',H',I,q⟩:=h;exact⟨σ',H',I.unwish,q⟩
 |ret u=>obtain⟨v,σ',H',I,r,q⟩:=h;exact⟨v,σ',H',I.unwish,r,q⟩
theorem PT.nox {e:Expr}{t:TT}(h:PT X.nox e t):PT X e t:=λpins s σ H Q I hw=>
 di (h pins s σ H Q (I.wish _) hw) (λ_ _ ⟨H',I',q⟩=>⟨H',I'.unwish,q⟩) λ_ _ z=>fg z
theorem PSs.nox {st:List Stmt}{t:TS}(h:PSs X.nox st t):PSs X st t:=λpins s σ H D I hw=>
 di (h pins s σ H D (I.wish _) hw) (λ_ _ q=>q.unwish) λ_ _ z=>fg z
end
section
variable {X:Cx}{st:Stmt}{rest:List Stmt}{t u:TS}{e:Expr}{te:TE}{pos:Pos}
def aR:TS:=λD σ H=>D.nx σ H
def aZ (t u:TS):TS:=λD σ H=>t { D with nx:=u D } σ H
theorem aF:PSs X [] aR:=λ_ _ σ H _ I h=>mj ⟨σ,H,I,h⟩
theorem aA (h1:PS X st t)(h2:PSs X rest u):PSs X (st :: rest) (aZ t u):=by
 intro pins s σ H D I h
 refine wpAny_execs_cons (thn (h1 pins s σ H { D with nx:=u D } I h) λf s1 q=>?_)
 cases f with
 |next=>
  obtain⟨σ',H',I',q⟩:=q
  exact h2 pins s1 σ' H' D I' q
 |ret v=>exact q
 |brk=>exact q
 |cont=>exact q
theorem Inv.quiet {pins:List (Addr×Obj)}{σ:St}{H:Hp}{s:Shared}(I:Inv X pins σ H s):interactive X.env=false:=by simp[interactive,I.ok.kind]
def mP (te:TE):TS:=λD σ H=>te σ H λ_ H1=>D.nx σ H1
theorem gT (he:PE X e te)(hs:qt e none pos.line X.env=pure false:=by rfl):PS X (.Expr e pos) (mP te):=by
 intro pins s σ H D I h
 exact wpAny_Expr_any (thn (he pins s σ H _ I h) λv s1 ⟨x,H1,I1,r1,q1⟩=>⟨σ,H1,I1,q1⟩) I.quiet hs
def dL (te:TE):TS:=λD σ H=>te σ H D.rt
theorem bF (he:PE X e te):PS X (.Return (some e) pos) (dL te):=by
 intro pins s σ H D I h
 exact wpAny_Return_some (thn (he pins s σ H _ I h) λv s1 ⟨x,H1,I1,r1,q1⟩=>⟨x,σ,H1,I1,r1,q1⟩)
def fH (c:TT) (t u:TS):TS:=λD σ H=>c σ H λb H1=>if b=true then t D σ H1 else u D σ H1
theorem cP {c:Expr}{a b:List Stmt}{tc:TT}(hc:PT X c tc)(ha:PSs X a t)(hb:PSs X b u):PS X (.If c a b pos) (fH tc t u):=by
 intro pins s σ H D I h
 refine wpAny_If (thn (hc pins s σ H _ I h) λd s1 ⟨H1,I1,q1⟩=>?_)
 cases d with
 |true=>exact ha pins s1 σ H1 D I1 q1
 |false=>exact hb pins s1 σ H1 D I1 q1
end
abbrev TG:=V->St->Hp->(St->Hp->Prop)->Prop
abbrev TGs:=List V->St->Hp->(St->Hp->Prop)->Prop
def PG (X:Cx) (target:Expr) (t:TG):Prop:=
 ∀(pins:List (Addr×Obj)) (s:Shared) (σ:St) (H:Hp) (v:V) (u:Value) (Q:St->Hp->Prop),Inv X pins σ H s->RelV v u->t v σ H Q ->
  wpAny (model X.prog X.w) X.A (uu target X.env u) (λ_ s'=>∃σ' H',Inv X pins σ' H' s'/\Q σ' H') X.xe s
def PGs (X:Cx) (ts:List Expr) (t:TGs):Prop:=
 ∀(pins:List (Addr×Obj)) (s:Shared) (σ:St) (H:Hp) (vs:List V) (us:List Value) (Q:St->Hp->Prop),Inv X pins σ H s->Vals vs us->t vs σ H Q ->
  wpAny (model X.prog X.w) X.A (assignInOrder ((kg ts X.env).map (·.2)) us) (λ_ s'=>∃σ' H',Inv X pins σ' H' s'/\Q σ' H') X.xe s
abbrev aDD:=V->V->V->Hp->(Hp->Prop)->Prop
def aEb (X:Cx) (t:aDD):Prop:=
 ∀(pins:List (Addr×Obj)) (s:Shared) (σ:St) (H:Hp) (o i v:V) (ov iv u:Value) (Q:Hp->Prop),Inv X pins σ H s->RelV o ov->RelV i iv->RelV v u->t o i v H Q ->
  wpAny (model X.prog X.w) X.A (setItem ov iv u) (λ_ s'=>∃H',Inv X pins σ H' s'/\Q H') X.xe s
section
variable {X:Cx}{pos:Pos}
def aX (i:Nat):TG:=λv σ H Q=>Q (σ.set i (some v)) H
theorem bY {i:Nat}{x:Str}(hN:X.N.Nodup)(hi:X.N[i]?=some x)(hx:Loc X.env.scope x)(hf:X.fn x=true\/X.env.scope.names.lookup x=some .local:=by first | exact .inl rfl | exact .inr rfl | assumption):PG X (.Name x pos) (aX i):=by
 intro pins s σ H v u Q I r h
 exact wpAny_assign_Name (iS I hN hi hx r (λs' I'=>⟨_,H,I',h⟩) hf)
def aDo:TGs:=λvs σ H Q=>vs=[]/\Q σ H
def oW (t:TG) (u:TGs):TGs:=λvs σ H Q=>∃v r,vs=v :: r/\t v σ H λσ' H'=>u r σ' H' Q
theorem sD:PGs X [] aDo:=by
 intro pins s σ H vs us Q I r h
 obtain⟨e,h⟩:=h
 subst e
 cases r
 exact assignInOrder_nil ⟨σ,H,I,h⟩
theorem fZ {e:Expr}{es:List Expr}{t:TG}{u:TGs}(h1:PG X e t)(h2:PGs X es u)
  (hs:(kg (e :: es) X.env).map (·.2)=uu e X.env :: (kg es X.env).map (·.2):=by rfl):PGs X (e :: es) (oW t u):=by
 intro pins s σ H vs us Q I r h
 obtain⟨v,vr,e1,h⟩:=h
 subst e1
 cases r with
 |cons r rr=>
  rw[hs]
  refine assignInOrder_cons (thn (h1 pins s σ H _ _ _ I r h) λ_ s1 ⟨σ1,H1,I1,q1⟩=>?_)
  exact h2 pins s1 σ1 H1 _ _ Q I1 rr q1
def aBJ (K:aa) (n:Nat) (t:TGs):TG:=λv σ H Q=>∃a xs,v = .ref a/\SqT K H a xs/\xs.length=n/\t xs σ H Q
theorem aCD {es:List Expr}{k:Nat}{t:TGs}{n:Nat}(hc:X.calm=true)(h:PGs X es t)
  (hn:(kg es X.env).length=n:=by rfl) (hst:(kg es X.env).findIdx? (·.1)=none:=by rfl):PG X (.Tuple es k pos) (aBJ X.K n t):=by
 intro pins s σ H v u Q I r hw
 obtain⟨a,xs,e1,hq,hl,hw⟩:=hw
 subst e1
 cases r
 obtain⟨its,rv,ht,hz⟩:=I.tuple hq
 refine assign_Tuple_tuple (I.ok.hd hc) ht (by simp[hn,<- hl,rv.length]) hst λh' hx=>?_
 have I1:Inv X pins σ H { s with heap:=h' }:=I.kept (t':=s.toks) λb o e=>hx b o (de (bj e)) e
 exact h pins _ σ H xs _ Q I1 (by simpa using rv) hw
def vG (to ti:TE) (t:aDD):TG:=λv σ H Q=>to σ H λo H1=>ti σ H1 λi H2=>t o i v H2 λH3=>Q σ H3
theorem mZ {o i:Expr}{to ti:TE}{t:aDD}(ho:PE X o to)(hi:PE X i ti)(hs:aEb X t)
  (ha:∀v,uu (.Subscript o i pos) X.env v=(do
   let ov <- sq [v] (eval o X.env)
   let iv <- sq [v,ov] (eval i X.env)
   ui pos
   sq [v,ov,iv] (setItem ov iv v)
   release [v,ov,iv] []):=by intro _;rfl):PG X (.Subscript o i pos) (vG to ti t):=by
 intro pins s σ H v u Q I r h
 rw[ha]
 refine ae (e8 (thn (ho pins s σ H _ I h) λov s1 ⟨x,H1,I1,r1,q1⟩=>?_))
 refine ae (e8 (thn (hi pins s1 σ H1 _ I1 q1) λiv s2 ⟨y,H2,I2,r2,q2⟩=>?_))
 refine ae (ic (ae (e8 (thn (hs pins s2 σ H2 x y v ov iv u _ I2 r1 r2 r q2) λ_ s3 ⟨H3,I3,q3⟩=>?_))))
 exact wpAny_release ⟨σ,H3,I3,q3⟩
def cT (te:TE) (g:TG):TS:=λD σ H=>te σ H λx H1=>g x σ H1 D.nx
theorem mT {tg e:Expr}{te:TE}{g:TG}(he:PE X e te)(hg:PG X tg g)(hs:swapsWithSole [tg] e pos.line X.env=pure false:=by rfl)(hw:swappedStores [tg] e X.env=pure none:=by rfl)
  (h1:(kg [tg] X.env).map (·.2)=[uu tg X.env]:=by rfl):PS X (.Assign [tg] e pos) (cT te g):=by
 intro pins s σ H D I h
 refine wpAny_Assign_stores (thn (he pins s σ H _ I h) λv s1 ⟨x,H1,I1,r1,q1⟩=>?_) hs hw
 rw[h1]
 exact thn (hg pins s1 σ H1 x v _ I1 r1 q1) λ_ s2 q=>q
theorem bE {i:Nat}{x:Str}{e:Expr}{te:TE}{pos':Pos}(hN:X.N.Nodup)(hi:X.N[i]?=some x)(hx:Loc X.env.scope x)(he:PE X e te)(hs:qt e (some (.Name x pos')) pos.line X.env=pure false:=by rfl)(hf:X.fn x=true\/X.env.scope.names.lookup x=some .local:=by first | exact .inl rfl | exact .inr rfl | assumption) :
  PS X (.Assign [.Name x pos'] e pos) (cT te (aX i)):=by
 intro pins s σ H D I h
 refine wpAny_Assign_Name (thn (he pins s σ H _ I h) λv s1 ⟨y,H1,I1,r1,q1⟩=>?_) hs
 exact iS I1 hN hi hx r1 (λs2 I2=>⟨_,H1,I2,q1⟩) hf
end
section
variable {X:Cx}{pos:Pos}
end
structure It where
 go:Nat->Hp->Prop
 yld:Nat->Hp->V->Hp->Prop
 stop:Nat->Hp->Prop
def rT (X:Cx) (pins:List (Addr×Obj)) (H:Hp) (b:Addr):Prop:=
 H b=none/\b≠X.env.locals/\b∉X.fs/\(b∈X.ex\/X.s₀.heap.objs.size<=b)/\(∀x c,X.env.cells.lookup x=some c->c≠b)/\∀p∈X.pn++pins,p.1≠b
theorem Inv.fpOk {X:Cx}{pins:List (Addr×Obj)}{σ:St}{H H':Hp}{s:Shared}{b:Addr}(I:Inv X pins σ H s)(hb:s.heap.objs.size<=b)(hn:H' b=none):rT X pins H' b:=by
 refine⟨hn,ju (cf I.lt hb),I.nofs hb, .inr (bc I.sz hb),λx c e z=>?_,λp hp z=>?_⟩
 ·obtain⟨v,q⟩:=I.cell x c e
  exact absurd (cf q.lt (by rw[z];exact hb)) (i7 _)
 ·exact absurd (cf (bj (I.pin p hp).1) (by rw[z];exact hb)) (i7 _)
structure aAr (P:Program)(w:World)(K:aa)(tg:Expr)(J:It)(fp:List Addr)(it:Addr)(tn:Nat->Heap->Prop):Prop where
 mem:it∈fp
 obj:∀i h,tn i h->∀b∈fp,∃o,h.get? b=some o/\∀v,o.data ≠ .cell v
 keep:∀i h h',tn i h->(∀b∈fp,∀o,h.get? b=some o->h'.get? b=some o)->tn i h'
 item:∀(X:Cx),X.prog=P->X.w=w->X.K=K->X.calm=true->∀(i:Nat) (pins:List (Addr×Obj)) (s:Shared) (σ:St) (H:Hp) (E:Value->Shared->Prop),Inv X pins σ H s->(∀b∈fp,rT X pins H b)->tn i s.heap->J.go i H ->
  wpAny (model P w) X.A (u9 (.ref it)) (λr s1=>∃u,r=some u /\
   wpAny (model P w) X.A (ml tg (.ref it) u) (λ_ s2=>∃x H',Inv X pins σ H' s2/\RelV x u/\J.yld i H x H'/\tn (i+1) s2.heap/\∀b∈fp,H' b=none) E s1) E s
 done:∀(X:Cx),X.prog=P->X.w=w->X.K=K->X.calm=true->∀(i:Nat) (pins:List (Addr×Obj)) (s:Shared) (σ:St) (H:Hp) (E:Value->Shared->Prop),Inv X pins σ H s->(∀b∈fp,rT X pins H b)->tn i s.heap->J.stop i H ->
  wpAny (model P w) X.A (u9 (.ref it)) (λr s1=>r=none/\Inv X pins σ H s1) E s
 self:∀(A:Around) (i:Nat) (s:Shared) (Q:Value->Shared->Prop) (E:Value->Shared->Prop),tn i s.heap->Q (.ref it) s->wpAny (model P w) A (vd (.ref it)) Q E s
abbrev TI:=St->Hp->(It->Hp->Prop)->Prop
def PIE (X:Cx) (pins:List (Addr×Obj)) (σ:St) (tg:Expr) (R:It->Hp->Prop) (itv:Value) (s2:Shared):Prop:=
 ∃(it:Addr) (fp:List Addr) (tn:Nat->Heap->Prop) (J:It) (H':Hp),itv = .ref it/\Inv X pins σ H' s2/\aAr X.prog X.w X.K tg J fp it tn/\tn 0 s2.heap/\(∀b∈fp,rT X pins H' b)/\R J H'
def PI (X:Cx) (tg iter:Expr) (wi:TI):Prop:=
 ∀(pins:List (Addr×Obj)) (s:Shared) (σ:St) (H:Hp) (R:It->Hp->Prop),Inv X pins σ H s->wi σ H R ->
  wpAny (model X.prog X.w) X.A (eval iter X.env) (λv s1=>wpAny (model X.prog X.w) X.A (vd v) (PIE X pins σ tg R) X.xe s1) X.xe s
theorem yH {M : Model}{A : Around}{E : Value -> Shared -> Prop}{s : Shared}{tg : Expr}{it : Addr}{u : Value}{o : Obj}{n : String}{vs : Array Value}{Q : Unit -> Shared -> Prop} (ho : s.heap.get? it = some o) (hc : o.cls = .type n) (hd : o.data = .fields vs)
    (hn : ["enumerate", "zip", "dict_itemiterator", "dict_reverseitemiterator", "odict_iterator", "itertools.zip_longest", "itertools.pairwise"].contains n = false) (hQ : Q () s) : wpAny M A (ml tg (.ref it) u) Q E s := by
  unfold ml
  cases tg <;> first
    |exact ay hQ
    | (cases u <;> first
        |exact ay hQ
        | (refine ae (wpAny_load ho ?_)
           rw[hc, hd]
           show wpAny M A (if(["enumerate", "zip", "dict_itemiterator", "dict_reverseitemiterator", "odict_iterator", "itertools.zip_longest", "itertools.pairwise"].contains n && vs[0]? == some (rawInt _)) = true then _ else _) Q E s
           rw[if_neg (by intro h; rw[hn, dg] at h; cases h)]
           exact ay hQ))
def Itl (K:aa) (a:Addr):It:=
 ⟨λi H=>∃xs x,SqL K H a xs/\xs[i]?=some x,λi H x H'=>H'=H/\∀xs,SqL K H a xs->xs[i]?=some x,λi H=>∃xs,SqL K H a xs/\xs.length<=i⟩
def Itt (K:aa) (a:Addr):It:=
 ⟨λi H=>∃xs x,SqT K H a xs/\xs[i]?=some x,λi H x H'=>H'=H/\∀xs,SqT K H a xs->xs[i]?=some x,λi H=>∃xs,SqT K H a xs/\xs.length<=i⟩
def Itr (lo:Int) (n:Nat):It:=⟨λi _=>i<n,λi H x H'=>H'=H/\x = .int (lo+i),λi _=>n<=i⟩
theorem vO {P:Program}{w:World}{K:aa}{tg:Expr}(a it:Addr):aAr P w K tg (Itl K a) [it] it (λi h=>h.IsListIter it a i) where
 mem:=by simp
 obj:=λi h st b hb=>by
  have e:b=it:=by simpa using hb
  subst e
  obtain⟨o,e,c,d⟩:=st
  exact⟨o,e,λv z=>by rw[d] at z;cases z⟩
 keep:=λi h h' st k=>st.at λo e=>k it (by simp) o e
 item:=by
  intro X hP hw hK hc i pins s σ H E I hf st hg
  subst hP hw hK
  obtain⟨xs,x,hq,hx⟩:=hg
  obtain⟨its,rv,p,hz⟩:=I.list hq
  obtain⟨u,hu,ru⟩:=rv.get hx
  obtain⟨f0,f1,f2,f3,f4,f5⟩:=hf it (by simp)
  refine wpAny_pyNext_list_item st p.isList (x:=u) (by simpa using hu) λh' st' sb=>?_
  have I1:Inv X pins σ H { s with heap:=h' }:=I.turned (t':=s.toks) (λb o hb e=>(sb.2 b hb).trans e) f0 f1 f3 f4 f5
  obtain⟨o,e,c,d⟩:=id st'
  exact⟨u,rfl,yH (s:={ s with heap:=h' }) e c d (by decide) ⟨x,H,I1,ru,⟨rfl,λys hy=>by rw[I.list_inj hy hq];exact hx⟩,st',λb hb=>(hf b hb).1⟩⟩
 done:=by
  intro X hP hw hK hc i pins s σ H E I hf st hg
  subst hP hw hK
  obtain⟨xs,hq,hx⟩:=hg
  obtain⟨its,rv,p,hz⟩:=I.list hq
  obtain⟨f0,f1,f2,f3,f4,f5⟩:=hf it (by simp)
  have hl:=rv.length
  exact wpAny_pyNext_list_end (I.ok.hd hc) st p.isList (by simp;omega) λh' eb=>⟨rfl,I.turned (t':=s.toks) (λb o hb e=>eb b o hb e) f0 f1 f3 f4 f5⟩
 self:=λ_ _ _ _ _ st h=>wpAny_pyIter_listiter st h
theorem vC {P:Program}{w:World}{K:aa}{tg:Expr}(a it:Addr):aAr P w K tg (Itt K a) [it] it (λi h=>h.IsTupleIter it a i) where
 mem:=by simp
 obj:=λi h st b hb=>by
  have e:b=it:=by simpa using hb
  subst e
  obtain⟨o,e,c,d⟩:=st
  exact⟨o,e,λv z=>by rw[d] at z;cases z⟩
 keep:=λi h h' st k=>st.at λo e=>k it (by simp) o e
 item:=by
  intro X hP hw hK hc i pins s σ H E I hf st hg
  subst hP hw hK
  obtain⟨xs,x,hq,hx⟩:=hg
  obtain⟨its,rv,p,hz⟩:=I.tuple hq
  obtain⟨u,hu,ru⟩:=rv.get hx
  obtain⟨f0,f1,f2,f3,f4,f5⟩:=hf it (by simp)
  refine pg st (show s.heap.IsTuple a its.toArray from p) (x:=u) (by simpa using hu) λh' st' sb=>?_
  have I1:Inv X pins σ H { s with heap:=h' }:=I.turned (t':=s.toks) (λb o hb e=>(sb.2 b hb).trans e) f0 f1 f3 f4 f5
  obtain⟨o,e,c,d⟩:=id st'
  exact⟨u,rfl,yH (s:={ s with heap:=h' }) e c d (by decide) ⟨x,H,I1,ru,⟨rfl,λys hy=>by rw[I.tuple_inj hy hq];exact hx⟩,st',λb hb=>(hf b hb).1⟩⟩
 done:=by
  intro X hP hw hK hc i pins s σ H E I hf st hg
  subst hP hw hK
  obtain⟨xs,hq,hx⟩:=hg
  obtain⟨its,rv,p,hz⟩:=I.tuple hq
  obtain⟨f0,f1,f2,f3,f4,f5⟩:=hf it (by simp)
  have hl:=rv.length
  exact qj (I.ok.hd hc) st (show s.heap.IsTuple a its.toArray from p) (by simp;omega) λh' eb=>⟨rfl,I.turned (t':=s.toks) (λb o hb e=>eb b o hb e) f0 f1 f3 f4 f5⟩
 self:=λ_ _ _ _ _ st h=>qm st h
theorem uO {P:Program}{w:World}{K:aa}{tg:Expr}(it:Addr)(lo:Int)(n:Nat):aAr P w K tg (Itr lo n) [it] it (λi h=>IsRangeIter h it (lo+(i:Nat)*1) ((n:Int) - (i:Nat)) 1) where
 mem:=by simp
 obj:=λi h st b hb=>by
  have e:b=it:=by simpa using hb
  subst e
  exact⟨_,st,λv z=>by
   have z':Data.fields _=Data.cell v:=z
   cases z'⟩
 keep:=λi h h' st k=>k it (by simp) _ st
 item:=by
  intro X hP hw hK hc i pins s σ H E I hf st hg
  subst hP hw hK
  obtain⟨f0,f1,f2,f3,f4,f5⟩:=hf it (by simp)
  have W:=Walks.range (prog:=X.prog) (w:=X.w) (I.ok.hd hc) it lo 1 n
  refine W.item i s _ _ hg st λv h' tk hv st' kk=>?_
  obtain⟨t,rfl⟩:=hv
  have I1:Inv X pins σ H { s with heap:=h',toks:=tk }:=I.turned (λb o hb e=>kk b o (by simpa using hb) e) f0 f1 f3 f4 f5
  refine⟨_,rfl,yH (s:={ s with heap:=h',toks:=tk }) (n:="range_iterator") st' rfl rfl (by decide) ⟨.int (lo+i),H,I1,⟨t,?_⟩,⟨rfl,rfl⟩,st',λb hb=>(hf b hb).1⟩⟩
  rw[Int.mul_one]
 done:=by
  intro X hP hw hK hc i pins s σ H E I hf st hg
  subst hP hw hK
  obtain⟨f0,f1,f2,f3,f4,f5⟩:=hf it (by simp)
  exact wpAny_pyNext_range_end (I.ok.hd hc) st (by have:n<=i:=hg;omega) λh' eb=>⟨rfl,I.turned (t':=s.toks) (λb o hb e=>eb b o hb e) f0 f1 f3 f4 f5⟩
 self:=λ_ _ _ _ _ st h=>wpAny_pyIter_rangeiter st h
section
variable {X:Cx}{tg:Expr}
theorem zJ {pins:List (Addr×Obj)}{σ:St}{H:Hp}{s:Shared}{R:It->Hp->Prop}{E:Value->Shared->Prop}{lo hi:Int}{t u v:Tok}{tk:Nat}(I:Inv X pins σ H s)(h1:-(2 ^ 62)<=lo)(h2:lo<2 ^ 62)(h3:-(2 ^ 62)<=hi)(h4:hi<2 ^ 62)
  (q:R (Itr lo (hi - lo).toNat) H):wpAny (model X.prog X.w) X.A (vd (.ref s.heap.objs.size)) (PIE X pins σ tg R) E { s with heap:=s.heap.push { cls := .type "range",data := .fields #[.int lo t, .int hi u, .int 1 v] },toks:=tk }:=by
 refine wpAny_pyIter_range (IsRange.new ..) (small_one h1 h2 h3 h4) ?_
 have I1:Inv X pins σ H { s with heap:=s.heap.push { cls := .type "range",data := .fields #[.int lo t, .int hi u, .int 1 v] },toks:=tk }:=I.kept λb o e=>ak _ e
 refine⟨(s.heap.push { cls := .type "range",data := .fields #[.int lo t, .int hi u, .int 1 v] }).objs.size,[(s.heap.push { cls := .type "range",data := .fields #[.int lo t, .int hi u, .int 1 v] }).objs.size],_,_,H,rfl,
  I1.kept (t':=tk) λb o e=>ak _ e,uO _ lo (hi - lo).toNat,?_,λb hb=>?_,q⟩
 ·have e1:lo+((0:Nat):Int)*1=lo:=by simp
  have e2:(((hi - lo).toNat:Nat):Int) - ((0:Nat):Int)=Builtin.Range.rangeSize lo hi 1:=by rw[rangeSize_one];split <;> omega
  show IsRangeIter _ _ (lo+((0:Nat):Int)*1) ((((hi - lo).toNat:Nat):Int) - ((0:Nat):Int)) 1
  rw[e1,e2]
  exact ck _ rfl
 ·have e:b=(s.heap.push { cls := .type "range",data := .fields #[.int lo t, .int hi u, .int 1 v] }).objs.size:=by simpa using hb
  subst e
  exact I1.fpOk (av _) (I1.hok.fresh (av _))
def vS (ta:TA):TI:=λσ H R=>ta σ H λvs H1=>∃j:Int,vs=[.int j]/\-(2 ^ 62)<=j/\j<2 ^ 62/\R (Itr 0 j.toNat) H1
theorem iA {a:Expr}{ta:TA}{p pos:Pos}(hg:Gl X "range")(hm:X.mg "range" = none)(ha:PA X [a] ta)(hs:cx [a] X.env=[(false,eval a X.env)]:=by rfl):PI X tg (.Call (.Name "range" p) [a] [] pos) (vS ta):=by
 intro pins s σ H R I h
 refine Call_ (qC I hg hm boot_range (jb (thn (ha pos pins s σ H _ I h) λus s1 ⟨vs,H1,I1,r1,q1⟩=>?_) hs rfl))
 obtain⟨j,e,q1,q2,q⟩:=q1
 subst e
 cases r1 with
 |cons r rr=>
  cases rr
  obtain⟨t,rfl⟩:=r
  exact call_range_1 (zJ I1 (by omega) (by omega) q1 q2 (by simpa using q))
def aAX (wi:TI) (g:TG) (tb:TS):TS:=λD σ H=>wi σ H λJ H1=>∃W:Nat->Nat->St->Hp->Prop,(∃m,W 0 m σ H1)/\∀i m σ H,W i m σ H ->
 (J.stop i H/\D.nx σ H)\/(J.go i H/\∃N:St->Hp->Prop,(∀σ' H',N σ' H'->∃m',m'<m/\W (i+1) m' σ' H')/\∀x H',J.yld i H x H'->g x σ H' λσ2 H2=>tb { D with nx:=N,ct:=N,bk:=D.nx } σ2 H2)
def qQ (fp:List Addr) (h:Heap):List (Addr×Obj):=fp.filterMap λb=>(h.get? b).map λo=>(b,o)
theorem gA {fp:List Addr}{h:Heap}{b:Addr}{o:Obj}(hb:b∈fp)(e:h.get? b=some o):(b,o)∈qQ fp h:=ni.mpr ⟨b,hb,by rw[e];rfl⟩
theorem vV {fp:List Addr}{h:Heap}{p:Addr×Obj}(hp:p∈qQ fp h):p.1∈fp/\h.get? p.1=some p.2:=by
 obtain⟨b,hb,e⟩:=ni.mp hp
 cases q:h.get? b with
 |none=>rw[q] at e;cases e
 |some o=>
  rw[q] at e
  have e':(b,o)=p:=dv e
  subst e'
  exact⟨hb,q⟩
theorem Inv.pinned {pins:List (Addr×Obj)}{σ:St}{H:Hp}{s:Shared}{fp:List Addr}(I:Inv X pins σ H s)(hf:∀b∈fp,rT X pins H b)(ho:∀b∈fp,∃o,s.heap.get? b=some o/\∀v,o.data ≠ .cell v):Inv X (pins++qQ fp s.heap) σ H s:=
 I.pins_of λp hp=>(bp.mp hp).elim (λz=>I.pin p (dj _ z)) λz=>by
  obtain⟨hb,e⟩:=vV z
  obtain⟨f0,f1,f2,_⟩:=hf p.1 hb
  obtain⟨o,e',d⟩:=ho p.1 hb
  rw[e] at e';cases e'
  exact⟨e,f0,f1,f2,d⟩
theorem Inv.unpinned {pins pl:List (Addr×Obj)}{σ:St}{H:Hp}{s:Shared}(I:Inv X (pins++pl) σ H s):Inv X pins σ H s:=I.pins_of λp hp=>I.pin p (dj _ (cq _ hp))
theorem nG {iter:Expr}{body:List Stmt}{wi:TI}{g:TG}{tb:TS}{pos:Pos}(hp:PassesOwn (model X.prog X.w) X.A X.env X.xe)(hc:X.calm=true)(hi:PI X tg iter wi)(hg:PG X tg g)(hb:PSs X body tb)
  (hs:∀x,kj iter X.env x=pure x:=by intro _;rfl):PS X (.For tg iter body [] pos) (aAX wi g tb):=by
 intro pins s σ H D I h
 refine wpAny_For (thn (hi pins s σ H _ I h) λv s1 h1=>thn h1 λitv s2 h2=>?_) hs
 obtain⟨it,fp,tn,J,H2,e,I2,T,st2,f2,W,⟨m0,w0⟩,turn⟩:=h2
 subst e
 have stat:∀{H':Hp},(∀b∈fp,H' b=none)->∀b∈fp,rT X pins H' b:=λhn b hb=>⟨hn b hb,(f2 b hb).2⟩
 refine codeAny_forLoop_any (λn s'=>∃i σ' H',Inv X pins σ' H' s'/\tn i s'.heap/\(∀b∈fp,H' b=none)/\W i n σ' H') ?_ m0 ⟨0,σ,H2,I2,st2,λb hb=>(f2 b hb).1,w0⟩
 rintro n s3 ⟨i,σ3,H3,I3,st3,fr3,w3⟩
 rcases turn i n σ3 H3 w3 with⟨stop,qn⟩ | ⟨go,N,hN,step⟩
 ·refine jz hp (thn (T.done X rfl rfl rfl hc i pins s3 σ3 H3 X.xe I3 (stat fr3) st3 stop) λr s4 ⟨hr,I4⟩=>?_)
  subst hr
  exact mj ⟨σ3,H3,I4,qn⟩
 ·refine jz hp (thn (T.item X rfl rfl rfl hc i pins s3 σ3 H3 X.xe I3 (stat fr3) st3 go) λr s4 ⟨u,hr,h4⟩=>?_)
  subst hr
  refine jz hp (thn h4 λ_ s5 ⟨x,H5,I5,r5,y5,st5,fr5⟩=>?_)
  have I5':=I5.pinned (stat fr5) (T.obj _ _ st5)
  refine jz hp (thn (hg _ s5 σ3 H5 x u _ I5' r5 (step x H5 y5)) λ_ s6 ⟨σ6,H6,I6,q6⟩=>?_)
  refine jz hp (thn (hb _ s6 σ6 H6 _ I6 q6) λf s7 q7=>?_)
  have again:∀{σ7:St}{H7:Hp},Inv X (pins++qQ fp s5.heap) σ7 H7 s7->N σ7 H7->∃m,m<n/\∃i σ' H',Inv X pins σ' H' s7/\tn i s7.heap/\(∀b∈fp,H' b=none)/\W i m σ' H':=λ{σ7 H7} I7 n7=>by
   obtain⟨m',hm,w7⟩:=hN σ7 H7 n7
   refine⟨m',hm,i+1,σ7,H7,I7.unpinned,T.keep _ _ _ st5 λb hb o e=>(I7.pin (b,o) (dj _ (dj _ (gA hb e)))).1,λb hb=>?_,w7⟩
   obtain⟨o,e,d⟩:=T.obj _ _ st5 b hb
   exact(I7.pin (b,o) (dj _ (dj _ (gA hb e)))).2.1
  cases f with
  |next=>obtain⟨σ7,H7,I7,n7⟩:=q7;exact again I7 n7
  |cont=>obtain⟨σ7,H7,I7,n7⟩:=q7;exact again I7 n7
  |brk=>obtain⟨σ7,H7,I7,q7⟩:=q7;exact⟨σ7,H7,I7.unpinned,q7⟩
  |ret v=>obtain⟨x7,σ7,H7,I7,r7,q7⟩:=q7;exact⟨x7,σ7,H7,I7.unpinned,r7,q7⟩
end
theorem oP {K:aa}{a:Addr}{xs:List V}{g:TG}{tb:TS}{D:lF}{σ:St}{H:Hp}(Pv:Nat->St->Hp->Prop)(h0:Pv 0 σ H)(hl:∀i σ H,i<=xs.length->Pv i σ H->SqL K H a xs)
  (hs:∀i x σ H,xs[i]?=some x->Pv i σ H->g x σ H λσ2 H2=>tb { D with nx:=Pv (i+1),ct:=Pv (i+1),bk:=D.nx } σ2 H2) (hd:∀σ H,Pv xs.length σ H->D.nx σ H) :
  ∃W:Nat->Nat->St->Hp->Prop,(∃m,W 0 m σ H)/\∀i m σ H,W i m σ H ->
   ((Itl K a).stop i H/\D.nx σ H)\/((Itl K a).go i H/\∃N:St->Hp->Prop,(∀σ' H',N σ' H'->∃m',m'<m/\W (i+1) m' σ' H')/\∀x H',(Itl K a).yld i H x H'->g x σ H' λσ2 H2=>tb { D with nx:=N,ct:=N,bk:=D.nx } σ2 H2):=by
 refine⟨λi m σ H=>m=xs.length - i/\i<=xs.length/\Pv i σ H,⟨xs.length,by simp,aj _,h0⟩,?_⟩
 rintro i m σ H ⟨rfl,hi,p⟩
 have q:=hl i σ H hi p
 by_cases hlt:i<xs.length
 ·refine .inr ⟨⟨xs,xs[i],q,by simp[hlt]⟩,Pv (i+1),λσ' H' p'=>⟨xs.length - (i+1),by omega,rfl,hlt,p'⟩,λx H' y=>?_⟩
  obtain⟨e,y⟩:=y
  subst e
  exact hs i x σ _ (y xs q) p
 ·have e:i=xs.length:=by omega
  subst e
  exact .inl ⟨⟨xs,q,av _⟩,hd σ H p⟩
theorem aBA {K:aa}{a:Addr}{xs:List V}{g:TG}{tb:TS}{D:lF}{σ:St}{H:Hp}(Pv:Nat->St->Hp->Prop)(h0:Pv 0 σ H)(hl:∀i σ H,i<=xs.length->Pv i σ H->SqT K H a xs)
  (hs:∀i x σ H,xs[i]?=some x->Pv i σ H->g x σ H λσ2 H2=>tb { D with nx:=Pv (i+1),ct:=Pv (i+1),bk:=D.nx } σ2 H2) (hd:∀σ H,Pv xs.length σ H->D.nx σ H) :
  ∃W:Nat->Nat->St->Hp->Prop,(∃m,W 0 m σ H)/\∀i m σ H,W i m σ H ->
   ((Itt K a).stop i H/\D.nx σ H)\/((Itt K a).go i H/\∃N:St->Hp->Prop,(∀σ' H',N σ' H'->∃m',m'<m/\W (i+1) m' σ' H')/\∀x H',(Itt K a).yld i H x H'->g x σ H' λσ2 H2=>tb { D with nx:=N,ct:=N,bk:=D.nx } σ2 H2):=by
 refine⟨λi m σ H=>m=xs.length - i/\i<=xs.length/\Pv i σ H,⟨xs.length,by simp,aj _,h0⟩,?_⟩
 rintro i m σ H ⟨rfl,hi,p⟩
 have q:=hl i σ H hi p
 by_cases hlt:i<xs.length
 ·refine .inr ⟨⟨xs,xs[i],q,by simp[hlt]⟩,Pv (i+1),λσ' H' p'=>⟨xs.length - (i+1),by omega,rfl,hlt,p'⟩,λx H' y=>?_⟩
  obtain⟨e,y⟩:=y
  subst e
  exact hs i x σ _ (y xs q) p
 ·have e:i=xs.length:=by omega
  subst e
  exact .inl ⟨⟨xs,q,av _⟩,hd σ H p⟩
theorem hZ {lo:Int}{n:Nat}{g:TG}{tb:TS}{D:lF}{σ:St}{H:Hp}(Pv:Nat->St->Hp->Prop)(h0:Pv 0 σ H)
  (hs:∀i σ H,i<n->Pv i σ H->g (.int (lo+i)) σ H λσ2 H2=>tb { D with nx:=Pv (i+1),ct:=Pv (i+1),bk:=D.nx } σ2 H2) (hd:∀σ H,Pv n σ H->D.nx σ H) :
  ∃W:Nat->Nat->St->Hp->Prop,(∃m,W 0 m σ H)/\∀i m σ H,W i m σ H ->
   ((Itr lo n).stop i H/\D.nx σ H)\/((Itr lo n).go i H/\∃N:St->Hp->Prop,(∀σ' H',N σ' H'->∃m',m'<m/\W (i+1) m' σ' H')/\∀x H',(Itr lo n).yld i H x H'->g x σ H' λσ2 H2=>tb { D with nx:=N,ct:=N,bk:=D.nx } σ2 H2):=by
 refine⟨λi m σ H=>m=n - i/\i<=n/\Pv i σ H,⟨n,by simp,aj _,h0⟩,?_⟩
 rintro i m σ H ⟨rfl,hi,p⟩
 by_cases hlt:i<n
 ·refine .inr ⟨hlt,Pv (i+1),λσ' H' p'=>⟨n - (i+1),by omega,rfl,hlt,p'⟩,λx H' y=>?_⟩
  obtain⟨e,y⟩:=y
  subst e y
  exact hs i σ _ hlt p
 ·have e:i=n:=by omega
  subst e
  exact .inl ⟨av _,hd σ H p⟩
abbrev R2:=V->V->Hp->VK->Prop
def OpR (X:Cx) (f:Value->Value->Sem Value) (r:R2):Prop:=
 ∀(pins:List (Addr×Obj)) (s:Shared) (σ:St) (H:Hp) (x y:V) (v u:Value) (Q:VK),Inv X pins σ H s->RelV x v->RelV y u->r x y H Q ->
  wpAny (model X.prog X.w) X.A (f v u) (EP X pins σ Q) X.xe s
def UnR (X:Cx) (f:Value->Sem Value) (r:V->Hp->VK->Prop):Prop:=
 ∀(pins:List (Addr×Obj)) (s:Shared) (σ:St) (H:Hp) (x:V) (v:Value) (Q:VK),Inv X pins σ H s->RelV x v->r x H Q ->
  wpAny (model X.prog X.w) X.A (f v) (EP X pins σ Q) X.xe s
def CallR (X:Cx) (f:Value) (r:List V->Hp->VK->Prop):Prop:=
 ∀(pins:List (Addr×Obj)) (s:Shared) (σ:St) (H:Hp) (xs:List V) (us:List Value) (Q:VK),Inv X pins σ H s->Vals xs us->r xs H Q ->
  wpAny (model X.prog X.w) X.A (call f us) (EP X pins σ Q) X.xe s
def tOp (r:R2) (ta tb:TE):TE:=λσ H Q=>ta σ H λx H1=>tb σ H1 λy H2=>r x y H2 Q
def tUn (r:V->Hp->VK->Prop) (ta:TE):TE:=λσ H Q=>ta σ H λx H1=>r x H1 Q
def rI (C:Int->Int->Prop) (g:Int->Int->V):R2:=λx y H Q=>∃i j,x = .int i/\y = .int j/\C i j/\Q (g i j) H
inductive aEe (g:Int->Int->V) (x y:V) (H:Hp) (Q:VK):Prop
 |mk (i j:Int) (hx:x = .int i) (hy:y = .int j) (q:Q (g i j) H):aEe g x y H Q
def rI0 (g:Int->Int->V):R2:=λx y H Q=>aEe g x y H Q
def rU (g:Int->V):V->Hp->VK->Prop:=λx H Q=>∃i,x = .int i/\Q (g i) H
section
variable {X:Cx}{a b c:Expr}{ta tb tc:TE}{pos:Pos}
theorem aDR (ha:PE X a ta)(hb:PE X b tb){pins:List (Addr×Obj)}{s:Shared}{σ:St}{H:Hp}{R:V->V->Hp->Prop}(I:Inv X pins σ H s)
  (h:ta σ H λx H1=>tb σ H1 λy H2=>R x y H2) {Q:Value->Shared->Prop}{f:Value->Value->Sem Value}
  (hf:∀v u s2 x y H2,Inv X pins σ H2 s2->RelV x v->RelV y u->R x y H2->wpAny (model X.prog X.w) X.A (f v u) Q X.xe s2) :
  wpAny (model X.prog X.w) X.A (eval a X.env) (λv s₁=>wpAny (model X.prog X.w) X.A (eval b X.env) (λu s₂=>wpAny (model X.prog X.w) X.A (f v u) Q X.xe s₂) X.xe s₁) X.xe s:=by
 refine thn (ha pins s σ H _ I h) λv s1 ⟨x,H1,I1,r1,q1⟩=>?_
 refine thn (hb pins s1 σ H1 _ I1 q1) λu s2 ⟨y,H2,I2,r2,q2⟩=>?_
 exact hf v u s2 x y H2 I2 r1 r2 q2
theorem bD {op:Operator}{r:R2}(ho:OpR X (iw op) r)(ha:PE X a ta)(hb:PE X b tb):PE X (.BinOp a op b pos) (tOp r ta tb):=by
 intro pins s σ H Q I h
 exact wpAny_BinOp (aDR ha hb I h λv u s2 x y H2 I2 rx ry q=>ho pins s2 σ H2 x y v u Q I2 rx ry q)
theorem uI {op:UnaryOp}{r:V->Hp->VK->Prop}(ho:UnR X (unaryOp op) r)(ha:PE X a ta):PE X (.UnaryOp op a pos) (tUn r ta):=by
 intro pins s σ H Q I h
 exact UnaryOp_ (thn (ha pins s σ H _ I h) λv s1 ⟨x,H1,I1,r1,q1⟩=>ho pins s1 σ H1 x v Q I1 r1 q1)
theorem opI {f:Value->Value->Sem Value}{C:Int->Int->Prop}{g:Int->Int->Int}
  (rule:∀(i j:Int) (t u:Tok) (s:Shared) (Q:Value->Shared->Prop) (E:Value->Shared->Prop),C i j->Q (.int (g i j) s.toks) { s with toks:=s.toks+1 }->wpAny (model X.prog X.w) X.A (f (.int i t) (.int j u)) Q E s) :
  OpR X f (rI C λi j => .int (g i j)):=by
 intro pins s σ H x y v u Q I rx ry h
 obtain⟨i,j,rfl,rfl,hc,q⟩:=h
 obtain⟨t,rfl⟩:=rx
 obtain⟨t',rfl⟩:=ry
 exact rule i j t t' s _ _ hc ⟨.int (g i j),H,I.tok _,⟨_,rfl⟩,q⟩
theorem aEj {f:Value->Value->Sem Value}{g:Int->Int->Int}
  (rule:∀(i j:Int) (t u:Tok) (s:Shared) (Q:Value->Shared->Prop) (E:Value->Shared->Prop),Q (.int (g i j) s.toks) { s with toks:=s.toks+1 }->wpAny (model X.prog X.w) X.A (f (.int i t) (.int j u)) Q E s) :
  OpR X f (rI0 λi j => .int (g i j)):=by
 intro pins s σ H x y v u Q I rx ry h
 obtain⟨i,j,rfl,rfl,q⟩:=h
 obtain⟨t,rfl⟩:=rx
 obtain⟨t',rfl⟩:=ry
 exact rule i j t t' s _ _ ⟨.int (g i j),H,I.tok _,⟨_,rfl⟩,q⟩
theorem aDA {f:Value->Value->Sem Value}{g:Int->Int->Bool}
  (rule:∀(i j:Int) (t u:Tok) (s:Shared) (Q:Value->Shared->Prop) (E:Value->Shared->Prop),Q (.bool (g i j)) s->wpAny (model X.prog X.w) X.A (f (.int i t) (.int j u)) Q E s) :
  OpR X f (rI0 λi j => .bl (g i j)):=by
 intro pins s σ H x y v u Q I rx ry h
 obtain⟨i,j,rfl,rfl,q⟩:=h
 obtain⟨t,rfl⟩:=rx
 obtain⟨t',rfl⟩:=ry
 exact rule i j t t' s _ _ ⟨.bl (g i j),H,I,rfl,q⟩
def aEa (i j:Int):Prop:=0<j/\j<1073741824
def aEf (i j:Int):Prop:=0<=j/\j<=1000000/\i.natAbs<2 ^ 64
def CMul (i j:Int):Prop:=(-(2 ^ 64)<i/\i<2 ^ 64)\/(-(2 ^ 64)<j/\j<2 ^ 64)
theorem CMul.ok {i j:Int}(h:CMul i j):IntMulOk i j:=by
 rcases h with⟨h1,h2⟩ | ⟨h1,h2⟩
 ·exact .of_left (intBits_le_64 h1 h2)
 ·exact .of_right (intBits_le_64 h1 h2)
theorem aDk:OpR X (iw .Add) (rI0 λi j => .int (i+j)):=aEj λ_ _ _ _ _ _ _ q=>add_int q
theorem vJ:OpR X (iw .Sub) (rI0 λi j => .int (i - j)):=aEj λ_ _ _ _ _ _ _ q=>sub_int q
theorem aCN:OpR X (iw .Mult) (rI CMul λi j => .int (i*j)):=opI λ_ _ _ _ _ _ _ hc q=>mul_int q hc.ok
theorem aBk:OpR X (iw .FloorDiv) (rI aEa λi j => .int (i / j)):=opI λi j _ _ _ _ _ hc q=>by
 have h1:(0:Int)<j:=hc.1
 have h2:j<1073741824:=hc.2
 exact floordiv_int (by omega) (by rw[Int.fdiv_eq_ediv_of_nonneg i (by omega)];exact q) (.inl (PyProof.noPylong_small (by omega)))
theorem fM:OpR X (iw .Mod) (rI (λ_ j=>0<j) λi j => .int (i % j)):=opI λi j _ _ _ _ _ hc q=>by
 have h1:(0:Int)<j:=hc
 exact mod_int' (by omega) (by rw[Int.fmod_eq_emod_of_nonneg i (by omega)];exact q)
theorem tJ:OpR X (iw .Pow) (rI aEf λi j => .int (i ^ j.toNat)):=opI λ_ _ _ _ _ _ _ hc q=>pow_int_small hc.1 hc.2.1 hc.2.2 q
theorem unI {f:Value->Sem Value}{g:Int->Int}
  (rule:∀(i:Int) (t:Tok) (s:Shared) (Q:Value->Shared->Prop) (E:Value->Shared->Prop),Q (.int (g i) s.toks) { s with toks:=s.toks+1 }->wpAny (model X.prog X.w) X.A (f (.int i t)) Q E s) :
  UnR X f (rU λi => .int (g i)):=by
 intro pins s σ H x v Q I rx h
 obtain⟨i,rfl,q⟩:=h
 obtain⟨t,rfl⟩:=rx
 exact rule i t s _ _ ⟨.int (g i),H,I.tok _,⟨_,rfl⟩,q⟩
theorem nD:UnR X (unaryOp .USub) (rU λi => .int (-i)):=unI λ_ _ _ _ _ q=>neg_int q
end
section
variable {X:Cx}{a b c:Expr}{ta tb tc:TE}{pos:Pos}
theorem qE {pins:List (Addr×Obj)}{σ:St}{H:Hp}{s:Shared}{Q:VK}{k k':Bool}(I:Inv X pins σ H s)(q:Q (.bl k) H)(e:k=k'):EP X pins σ Q (.bool k') s:=by
 subst e
 exact⟨.bl k,H,I,rfl,q⟩
theorem mJ:OpR X (gf .Lt) (rI0 λi j => .bl (decide (i<j))):=aDA λ_ _ _ _ _ _ _ q=>lt_int q
theorem uN:OpR X (gf .LtE) (rI0 λi j => .bl (decide (i<=j))):=aDA λ_ _ _ _ _ _ _ q=>le_int q
theorem nY:OpR X (gf .Gt) (rI0 λi j => .bl (decide (j<i))):=aDA λ_ _ _ _ _ _ _ q=>gt_int q
theorem aDQ:OpR X (gf .GtE) (rI0 λi j => .bl (decide (j<=i))):=aDA λ_ _ _ _ _ _ _ q=>ge_int q
theorem aBT:OpR X (gf .Is) (λx y H Q=>y = .non/\Q (.bl (decide (x = .non))) H):=by
 intro pins s σ H x y v u Q I rx ry h
 obtain⟨rfl,q⟩:=h
 cases ry
 refine is_none_gen (qE I q ?_)
 cases x <;> first
  | (cases rx;rfl)
  | (obtain⟨t,rfl⟩:=rx;rfl)
theorem aAP:OpR X (gf .IsNot) (λx y H Q=>y = .non/\Q (.bl (!decide (x = .non))) H):=by
 intro pins s σ H x y v u Q I rx ry h
 obtain⟨rfl,q⟩:=h
 cases ry
 refine isnot_none_gen (qE I q ?_)
 cases x <;> first
  | (cases rx;rfl)
  | (obtain⟨t,rfl⟩:=rx;rfl)
theorem OpR.or {f:Value->Value->Sem Value}{r r':R2}(h:OpR X f r)(h':OpR X f r'):OpR X f (λx y H Q=>r x y H Q\/r' x y H Q):=by
 intro pins s σ H x y v u Q I rx ry q
 rcases q with q | q
 ·exact h pins s σ H x y v u Q I rx ry q
 ·exact h' pins s σ H x y v u Q I rx ry q
theorem aY (b:Expr){op:CmpOp}(h:op ≠ .In:=by decide)(h2:op ≠ .NotIn:=by decide):ph op b=false:=by
 have e1:(op == CmpOp.In)=false:=by cases op <;> first | rfl | exact absurd rfl h
 have e2:(op == CmpOp.NotIn)=false:=by cases op <;> first | rfl | exact absurd rfl h2
 cases b <;> simp[ph,e1,e2]
theorem cW {op:CmpOp}{r:R2}(ho:OpR X (gf op) r)(ha:PE X a ta)(hb:PE X b tb)(hm:ph op b=false):PE X (.Compare a [op] [b] pos) (tOp r ta tb):=by
 intro pins s σ H Q I h
 exact wpAny_Compare1 (aDR ha hb I h λv u s2 x y H2 I2 rx ry q=>ho pins s2 σ H2 x y v u Q I2 rx ry q) hm
inductive TBP (x:V) (H:Hp) (Q:Bool->Hp->Prop):Prop
 |mk (k:Bool) (e:x = .bl k) (q:Q k H):TBP x H Q
def bG (t:TE):TT:=λσ H Q=>t σ H λx H'=>TBP x H' Q
theorem aW {op:CmpOp}{r:R2}(ho:OpR X (gf op) r)(ha:PE X a ta)(hb:PE X b tb)(hm:ph op b=false):PT X (.Compare a [op] [b] pos) (bG (tOp r ta tb)):=by
 intro pins s σ H Q I h
 refine wpAny_isTrue_Compare1 (thn (ha pins s σ H _ I h) λv s1 ⟨x,H1,I1,r1,q1⟩=>thn (hb pins s1 σ H1 _ I1 q1) λu s2 ⟨y,H2,I2,r2,q2⟩=>
  thn (ho pins s2 σ H2 x y v u _ I2 r1 r2 q2) λc s3 ⟨z,H3,I3,r3,k,e,q3⟩=>?_) hm
 subst e
 cases r3
 exact fm ⟨H3,I3,q3⟩
def aAp (r r':R2) (ta tb tc:TE):TE:=λσ H Q=>ta σ H λx H1=>tb σ H1 λy H2=>r x y H2 λz H3=>∃k,z = .bl k /\
 (if k=true then tc σ H3 λw' H4=>r' y w' H4 Q else Q (.bl false) H3)
theorem yU {op op':CmpOp}{r r':R2}(ho:OpR X (gf op) r)(ho':OpR X (gf op') r')(ha:PE X a ta)(hb:PE X b tb)(hc:PE X c tc)
  (hm:lastMarks [op,op'] [b,c]=false:=by with_unfolding_all rfl):PT X (.Compare a [op,op'] [b,c] pos) (bG (aAp r r' ta tb tc)):=by
 intro pins s σ H Q I h
 refine isTrue_chain (thn (ha pins s σ H _ I h) λv s1 ⟨x,H1,I1,r1,q1⟩=>test_link (thn (hb pins s1 σ H1 _ I1 q1) λu s2 ⟨y,H2,I2,r2,q2⟩=>
  thn (ho pins s2 σ H2 x y v u _ I2 r1 r2 q2) λd s3 ⟨z,H3,I3,r3,k,e,q3⟩=>?_)) hm
 subst e
 cases r3
 refine fm ?_
 cases k with
 |false=>
  obtain⟨k',e',q'⟩:=q3
  cases e'
  exact ite_ff ⟨H3,I3,q'⟩
 |true=>
  refine ite_tt (test_last (thn (hc pins s3 σ H3 _ I3 q3) λw' s4 ⟨z',H4,I4,r4,q4⟩=>thn (ho' pins s4 σ H4 y z' u w' _ I4 r2 r4 q4) λd' s5 ⟨z2,H5,I5,r5,k2,e2,q5⟩=>?_))
  subst e2
  cases r5
  exact fm ⟨H5,I5,q5⟩
theorem mW:(cb:Nat)<2 ^ 63:=by rw[dy];decide
theorem vF:OpR X (iw .Add) (λx y H Q=>∃i j,x = .str i/\y = .str j/\i.length+j.length<=cb/\Q (.str (i++j)) H):=by
 intro pins s σ H x y v u Q I rx ry h
 obtain⟨i,j,rfl,rfl,hz,q⟩:=h
 obtain⟨t,rfl⟩:=rx
 obtain⟨t',rfl⟩:=ry
 exact add_str (λt' tk=>⟨.str (i++j),H,I.tok _,⟨_,rfl⟩,q⟩) hz
theorem rQ {x:V}{us:List Value}(r:Vals [x] us):∃u,us=[u]/\RelV x u:=by
 cases r with
 |cons r1 r2=>cases r2;exact⟨_,rfl,r1⟩
end
section
variable {prog:Program}{w:World}{A:Around}{E:Value->Shared->Prop}{s:Shared}{K:aa}{x dx C f:Addr}{mA:Str->Option Value}{name:Str}{v:Value}
end
section
variable {P:Program}{w:World}{H H':Hp}{h h':Heap}{a C dx:Addr}{fs fs':List (Str×V)}
end
section
variable {X:Cx}{pins:List (Addr×Obj)}{σ:St}{H:Hp}{s:Shared}{a C dx:Addr}{fs:List (Str×V)}{f:Str}{v:V}{A:Around}{E:Value->Shared->Prop}
theorem aAJ {prog:Program}{w:World}{env:Env}{e:Expr}{f:Str}{pos:Pos}{s:Shared}{Q:Value->Shared->Prop}(hb:j0 e f env (eval e env)=eval e env)
  (h:wpAny (model prog w) A (eval e env) (λo s₁=>wpAny (model prog w) A (getAttr o f true) Q E s₁) E s):wpAny (model prog w) A (eval (.Attribute e f pos) env) Q E s:=
 Attribute_any_ h (by rw[arm_eval_Attribute,hb])
end
section
variable {X:Cx}{o e value:Expr}{f:Str}{pos pos' tpos:Pos}{ta tv:TE}
end
section
variable {X:Cx}{pins:List (Addr×Obj)}{σ:St}{H:Hp}{s:Shared}{A:Around}{E:Value->Shared->Prop}{Q:Value->Shared->Prop}{c:Value}{b:Bool}
end
structure Room (k:Nat)(A:Around):Prop where
 hd:A.handled=none
 dp:A.depth+3*k+5<recursionLimit
 un:A.units+16*k+200<cLine
 gd:A.guards=some []
theorem Room.mono {j k:Nat}{A:Around}(r:Room k A)(h:j<=k):Room j A:=⟨r.hd,by have:=r.dp;omega,by have:=r.un;omega,r.gd⟩
theorem Room.deeper {k:Nat}{A:Around}(r:Room (k+1) A)(env:Env):Room k (A.deeper env):=
 ⟨r.hd,by have:=r.dp;show A.depth+1+3*k+5<_;omega,by have:=r.un;show A.units+3+16*k+200<_;omega,r.gd⟩
theorem uK {A:Around}{C:Addr}{us:List Value}{kw:List (Str×Value)}:(A.under (.builtin "type.__call__" ⟨.ref C :: us,kw⟩)).depth=A.depth+1:=by
 first | rfl | simp[uv,Code.weight,Code.isCreation,Code.isGuard,Code.isCaller,Code.frames,uw,guardIds]
theorem vB {A:Around}{C:Addr}{us:List Value}{kw:List (Str×Value)}:(A.under (.builtin "type.__call__" ⟨.ref C :: us,kw⟩)).units=A.units+1:=by
 first | rfl | simp[uv,Code.cUnits,Code.frames,uw]
theorem Room.make {k:Nat}{A:Around}(r:Room (k+1) A)(C:Addr)(us:List Value)(kw:List (Str×Value)):Room k (A.under (.builtin "type.__call__" ⟨.ref C :: us,kw⟩)):=
 ⟨r.hd,by have:=r.dp;rw[uK];omega,by have:=r.un;rw[vB];omega,by first | exact r.gd | (show pushGuards _ A.guards=some [];rw[r.gd];rfl)⟩
theorem Room.depth {k:Nat}{A:Around}(r:Room k A):A.depth<recursionLimit:=by have:=r.dp;omega
def aV:TA:=λ_ H Q=>Q [] H
def aB (ta:TE) (tr:TA):TA:=λσ H Q=>ta σ H λx H1=>tr σ H1 λxs H2=>Q (x :: xs) H2
section
variable {X:Cx}{e:Expr}{es:List Expr}{te:TE}{t:TA}{pos:Pos}
theorem aD:PA X [] aV:=λ_ _ _ _ H Q I h=>Calls.spliced_nil ⟨[],H,I, .nil,h⟩
theorem cD (ha:PE X e te)(hr:PA X es t)(hs:cx (e :: es) X.env=(false,eval e X.env) :: cx es X.env:=by rfl):PA X (e :: es) (aB te t):=by
 intro pos pins s σ H Q I h
 rw[hs]
 show wpAny _ _ (spliced ((false,eval e X.env) :: jg pos (cx es X.env))) _ _ s
 refine Calls.spliced_cons (thn (ha pins s σ H _ I h) λu s1 ⟨x,H1,I1,r1,q1⟩=>?_)
 exact thn (hr pos pins s1 σ H1 _ I1 q1) λus s2 ⟨xs,H2,I2,r2,q2⟩=>⟨x :: xs,H2,I2, .cons r1 r2,q2⟩
def aEv (t:TA):TE:=λσ H Q=>t σ H λxs H1=>xs.length<=cb/\∀p,H1 p=none->Q (.ref p) (upd H1 p (.tup xs))
def lO (t:TA):TE:=λσ H Q=>t σ H λxs H1=>xs.length<=cb/\∀p,H1 p=none->Q (.ref p) (upd H1 p (.lst xs))
theorem aCB {x1}(h:PA X es t):PE X (.Tuple es x1 pos) (aEv t):=by
 intro pins s σ H Q I hq
 refine wpAny_Tuple_spliced (thn (h pos pins s σ H _ I hq) λus s1 ⟨xs,H1,I1,r,z,q⟩=>⟨by rw[<- r.length];exact z,?_⟩)
 have hf:H1 s1.heap.objs.size=none:=I1.hok.fresh (av _)
 refine⟨.ref s1.heap.objs.size,upd H1 s1.heap.objs.size (.tup xs),I1.laid (t':=s1.toks) (λb u e=>ak _ e) (av _) ?_,rfl,q _ hf⟩
 exact⟨z,us,r,TupN.new _ _⟩
theorem cR (h:PA X es t):PE X (.List es pos) (lO t):=by
 intro pins s σ H Q I hq
 refine wpAny_List_spliced (thn (h pos pins s σ H _ I hq) λus s1 ⟨xs,H1,I1,r,z,q⟩=>⟨by rw[<- r.length];exact z,?_⟩)
 have hf:H1 s1.heap.objs.size=none:=I1.hok.fresh (av _)
 refine⟨.ref s1.heap.objs.size,upd H1 s1.heap.objs.size (.lst xs),I1.laid (t':=s1.toks) (λb u e=>ak _ e) (av _) ?_,rfl,q _ hf⟩
 exact⟨z,us,0,r,ck _ rfl⟩
end
abbrev Sp:=List V->Hp->VK->XK->Prop
abbrev CXT:=List Env->Hp->Shared->XK->Value->Shared->Prop
structure Env0 (P:Program)(w:World)(K:aa)(mg:Str->Option Value)(base:Heap)(A:Around)(outer:List Env)(s:Shared)(H:Hp):Prop where
 frames:A.frames=some outer
 mod:Mod K mg base
 bs:∀b o,base.get? b=some o->s.heap.get? b=some o/\H b=none
 bsz:base.objs.size<=s.heap.objs.size
 funs:s.heap.FunFrames base outer
 frf:∀b∈frs outer,H b=none
 hok:HOk P w H s.heap
 bare:n5 s.gens
def CE (outer:List Env) (P:Program) (w:World) (H:Hp) (s:Shared) (Q:VK) (u:Value) (s':Shared):Prop:=
 ∃v H',s'.os=s.os/\n5 s'.gens/\Un (frs outer) [] H H' s.heap s'.heap/\HOk P w H' s'.heap/\RelV v u/\Q v H'
def CR (CX:CXT) (outer:List Env) (P:Program) (w:World) (H:Hp) (s:Shared) (Q:VK) (E:XK) (r:qu) (s':Shared):Prop:=
 match r with
 | .ok (.ret u)=>CE outer P w H s Q u s'
 | .ok _=>False
 | .error e=>CX outer H s E e s'
structure FnOk (P:Program)(w:World)(K:aa)(mg:Str->Option Value)(base:Heap)(CX:CXT)(k:Nat)(f:Addr)(fd:FuncData)(ps:List Str)(sp:Sp):Prop where
 len:∀vs H Q E,sp vs H Q E->vs.length=ps.length
 run:∀(A:Around) (outer:List Env) (s:Shared) (H:Hp) (args:Args) (us:List Value) (vs:List V) (Q:VK) (E:XK),Room k A->Env0 P w K mg base A outer s H->ve s fd args (ps.zip us)->Vals vs us->sp vs H Q E ->
  pj (model P w) A (.call (.ref f) args) (CR CX outer P w H s Q E) s
theorem FnOk.mono {P:Program}{w:World}{K:aa}{mg:Str->Option Value}{base:Heap}{CX:CXT}{j k:Nat}{f:Addr}{fd:FuncData}{ps:List Str}{sp:Sp}(F:FnOk P w K mg base CX j f fd ps sp)(h:j<=k) :
  FnOk P w K mg base CX k f fd ps sp:=⟨F.len,λA outer s H args us vs Q E hr=>F.run A outer s H args us vs Q E (hr.mono h)⟩
theorem Env0.make {P:Program}{w:World}{K:aa}{mg:Str->Option Value}{base:Heap}{A:Around}{outer:List Env}{s:Shared}{H:Hp}(e:Env0 P w K mg base A outer s H)(C:Addr)(us:List Value)(kw:List (Str×Value)) :
  Env0 P w K mg base (A.under (.builtin "type.__call__" ⟨.ref C :: us,kw⟩)) outer s H:=⟨by first | exact e.frames | (simpa[uv,Code.envs,uw,pushEnvs] using e.frames),e.mod,e.bs,e.bsz,e.funs,e.frf,e.hok,e.bare⟩
section
variable {X:Cx}{pins:List (Addr×Obj)}{σ:St}{H:Hp}{s s':Shared}
theorem Inv.env0 (I:Inv X pins σ H s):Env0 X.prog X.w X.K X.mg X.base X.A X.stack s H:=
 ⟨I.ok.frames,I.ok.mod,I.bs,bc I.ok.bsz I.sz,I.stack,I.stkFree,I.hok,I.bare⟩
theorem Inv.after {Q:VK}{u:Value}(I:Inv X pins σ H s)(h:CE X.stack X.prog X.w H s Q u s'):EP X pins σ Q u s':=by
 obtain⟨v,H',os,bare,un,hok,r,q⟩:=h
 obtain⟨hh,g,d,t,os'⟩:=s'
 obtain rfl:os'=s.os:=os
 exact⟨v,H',I.call (h':=hh) (g':=g) (d':=d) (t':=t) (ch:=[]) un hok bare (λb z=>absurd z (by simp)),r,q⟩
end
def bQ (sp:Sp) (dvs:List V) (E:XK) (t:TA):TE:=λσ H Q=>t σ H λvs H1=>sp (vs++dvs) H1 Q E
def Binds (K:aa) (fd:FuncData) (ps:List Str) (ds:List Value):Prop:=
 ∀(s:Shared) (us:List Value),K.In s.heap->(us++ds).length=ps.length->ve s fd ⟨us,[]⟩ (ps.zip (us++ds))
theorem Binds.all {K:aa}{fd:FuncData}{ps:List Str}(h:∀us:List Value,us.length=ps.length->bindArgs fd ⟨us,[]⟩=pure (ps.zip us)):Binds K fd ps []:=λs us _ hl=>by
 rw[jc] at hl ⊢
 exact .of_eq (h us hl)
def vL (CX:CXT) (X:Cx) (E:XK):Prop:=∀(pins:List (Addr×Obj)) (σ:St) (H:Hp) (s:Shared) (e:Value) (s':Shared),Inv X pins σ H s->CX X.stack H s E e s'->X.xe e s'
section
variable {X:Cx}{CX:CXT}{k:Nat}{f C:Addr}{fd:FuncData}{ps:List Str}{sp:Sp}{dvs:List V}{ds:List Value}{E:XK}{x m:Str}{p pos apos:Pos}{e o:Expr}{es:List Expr}{ta:TE}{t:TA}
theorem aCE {pins:List (Addr×Obj)}{σ:St}{H:Hp}{s:Shared}{Q:VK}{us:List Value}{vs:List V}(F:FnOk X.prog X.w X.K X.mg X.base CX k f fd ps sp)(hr:Room k X.A)(hb:Binds X.K fd ps ds)(hd:Vals dvs ds)(hx:vL CX X E)
  (I:Inv X pins σ H s) (r:Vals vs us) (h:sp (vs++dvs) H Q E):wpAny (model X.prog X.w) X.A (call (.ref f) us) (EP X pins σ Q) X.xe s:=by
 have r2:Vals (vs++dvs) (us++ds):=r.append hd
 have hl:(us++ds).length=ps.length:=by rw[<- r2.length];exact F.len _ _ _ _ h
 refine km (jd (F.run X.A X.stack s H ⟨us,[]⟩ (us++ds) (vs++dvs) Q E hr I.env0 (hb s us I.kIn hl) r2 h) λr s' hq=>?_)
 cases r with
 |error e=>exact hx pins σ H s e s' I hq
 |ok fl=>
  cases fl with
  |ret u=>exact I.after hq
  |next=>exact fg hq
  |brk=>exact fg hq
  |cont=>exact fg hq
theorem aAY (F:FnOk X.prog X.w X.K X.mg X.base CX k f fd ps sp)(hr:Room k X.A)(hg:Gl X x)(hm:X.mg x=some (.ref f))(hk:cw X.K (.ref f)=true)(hb:Binds X.K fd ps ds)(hd:Vals dvs ds)(hx:vL CX X E)
  (ha:PA X (e :: es) t) (hdb:(x == ("__debug__" : Str))=false:=by decide) (he:cx (e :: es) X.env=(false,eval e X.env) :: cx es X.env:=by rfl) (hpl:(jg pos (cx es X.env)).any (·.1)=false:=by rfl) :
  PE X (.Call (.Name x p) (e :: es) [] pos) (bQ sp dvs E t):=by
 intro pins s σ H Q I h
 refine j1 (iX I hg hm ?_ hdb)
 refine PySem.W.callWith_K (h₀:=X.base) I.ok.mod.kin hk (thn (ha pos pins s σ H _ I h) λus s1 ⟨vs,H1,I1,r,q⟩=>⟨I1.kIn,?_⟩) he hpl
 exact aCE F hr hb hd hx I1 r q
end
section
variable {X:Cx}{CX:CXT}{k:Nat}{f C:Addr}{fd:FuncData}{ps ks:List Str}{sp:Sp}{E:XK}{x m:Str}{p pos apos kpos:Pos}{e o:Expr}{es:List Expr}{kws:List Keyword}{te ta:TE}{t tk:TA}{nm:Option Str}
variable {g:List Value->List Value->List Value}{gV:List V->List V->List V}
end
structure bO (N P:List Str)(sc:Scope):Prop where
 kind:sc.kind = .function
 co:sc.isCoroutine=false
 gen:sc.isGenerator=false
 nd:N.Nodup
 pre:N.take P.length=P
 par:∀x∈P,sc.names.lookup x=some .local\/sc.names.lookup x=some .cell
 nofree:∀y∈sc.names,y.2 ≠ .free
theorem pQ {kindOf:Str->Option NameKind}{x:Str}:∀{binds:List (Str×Value)}{m:Str->Option Value},(∀v,(x,v)∉binds)->bindL kindOf binds m x=m x
 |[],_,_=>rfl
 | (n,v) :: r,m,h=>by
  unfold bindL
  rw[pQ λw hw=>h w (aw _ hw)]
  split
  ·have:x≠n:=by rintro rfl;exact h v dq
   simp[this]
  ·rfl
theorem rA {kindOf:Str->Option NameKind}{x:Str}:∀{binds:List (Str×Value)}{m:Str->Option Value},(∀v,(x,v)∉binds)->bindC kindOf binds m x=m x
 |[],_,_=>rfl
 | (n,v) :: r,m,h=>by
  unfold bindC
  rw[rA λw hw=>h w (aw _ hw)]
  split
  ·rfl
  ·have:x≠n:=by rintro rfl;exact h v dq
   simp[this]
theorem qI {kindOf:Str->Option NameKind}{x:Str}{v:Value}:∀{P:List Str}{vs:List Value}{i:Nat}{m:Str->Option Value},P.Nodup->P[i]?=some x->vs[i]?=some v->kindOf x=some .local ->
  bindL kindOf (P.zip vs) m x=some v
 |[],_,_,_,_,h,_,_=>by simp at h
 |_ :: _,[],_,_,_,_,h,_=>by simp at h
 |p :: P,w :: vs,0,m,nd,h1,h2,hk=>by
  simp at h1 h2;subst h1;subst h2
  show bindL kindOf ((p,w) :: P.zip vs) m p=_
  unfold bindL
  rw[pQ λv hv=>(je.mp nd).1 (qv hv).1,if_pos hk]
  simp
 |p :: P,w :: vs,i+1,m,nd,h1,h2,hk=>by
  show bindL kindOf ((p,w) :: P.zip vs) m x=_
  unfold bindL
  exact qI (i:=i) (je.mp nd).2 (by simpa using h1) (by simpa using h2) hk
theorem rG {kindOf:Str->Option NameKind}{x:Str}{v:Value}:∀{P:List Str}{vs:List Value}{i:Nat}{m:Str->Option Value},P.Nodup->P[i]?=some x->vs[i]?=some v->kindOf x≠some .local ->
  bindC kindOf (P.zip vs) m x=some v
 |[],_,_,_,_,h,_,_=>by simp at h
 |_ :: _,[],_,_,_,_,h,_=>by simp at h
 |p :: P,w :: vs,0,m,nd,h1,h2,hk=>by
  simp at h1 h2;subst h1;subst h2
  show bindC kindOf ((p,w) :: P.zip vs) m p=_
  unfold bindC
  rw[rA λv hv=>(je.mp nd).1 (qv hv).1,if_neg hk]
  simp
 |p :: P,w :: vs,i+1,m,nd,h1,h2,hk=>by
  show bindC kindOf ((p,w) :: P.zip vs) m x=_
  unfold bindC
  exact rG (i:=i) (je.mp nd).2 (by simpa using h1) (by simpa using h2) hk
def bN (N:List Str) (vs:List V):St:=vs.map some++dz (N.length - vs.length) none
def rR (CX:CXT) (P:Program) (w:World) (K:aa) (mg:Str->Option Value) (base:Heap) (N:List Str) (qual:Str) (scope:Scope) (f:Addr) (cd:Value) (A:Around) (outer:List Env) (s:Shared) (H:Hp) (E:XK):Cx where
 prog:=P
 w:=w
 K:=K
 mg:=mg
 base:=base
 A:=A.deeper (qw qual scope s.heap.objs.size f cd)
 N:=N
 s₀:=s
 H₀:=H
 env:=qw qual scope s.heap.objs.size f cd
 outer:=outer
 stack:=qw qual scope s.heap.objs.size f cd :: outer
 ex:=[]
 calm:=true
 fn:=λ_=>true
 pn:=[]
 xe:=λe s'=>wpAny (model P w) (A.deeper (qw qual scope s.heap.objs.size f cd)) (leaving (qw qual scope s.heap.objs.size f cd) e) (λ_ s''=>CX outer H s E e s'') (λe' s''=>CX outer H s E e' s'') s'
theorem uE {sc:Scope}{n:Nat}{x:Str}(h:sc.names.lookup x=some .cell):∃c,(gs n sc.names []).lookup x=some c:=by
 have q:=j7 sc.names n [] (.inl h)
 exact d8.mp q
theorem yA {CX:CXT}{P:Program}{w:World}{K:aa}{mg:Str->Option Value}{base:Heap}{N ps:List Str}{qual:Str}{scope:Scope}{f:Addr}{cd:Value}{A:Around}{outer:List Env}{s s1:Shared}{H:Hp}{E:XK}{us:List Value}{vs:List V}
  (S:bO N ps scope) (hd:A.handled=none) (e0:Env0 P w K mg base A outer s H) (hl:vs.length=ps.length) (r:Vals vs us)
  (x:InCallC s s.heap.objs.size (bindL (qw qual scope s.heap.objs.size f cd).kindOf (ps.zip us) λ_=>none) (gs (s.heap.objs.size+1) scope.names []) (bindC (qw qual scope s.heap.objs.size f cd).kindOf (ps.zip us) λ_=>none) s1) :
  Inv (rR CX P w K mg base N qual scope f cd A outer s H E) [] (bN N vs) H s1:=by
 have hpl:ps.length<=N.length:=by have:=congrArg List.length S.pre;rw[fj] at this;omega
 obtain⟨h1,tk,rfl,hk⟩:=x.done
 have noA:∀b:Addr,b∉(rR CX P w K mg base N qual scope f cd A outer s H E).ex:=λb z=>absurd (show b∈([]:List Addr) from z) (by simp)
 refine⟨⟨e0.mod,S.kind,rfl,rfl,av _,λy z c h1 h2=>?_,λy hy=>?_,λy c _ h=>?_,λ_=>hd,Around.frames_deeper e0.frames, .inr ⟨rfl,rfl⟩,λb z=>absurd z (noA b),e0.bs,e0.bsz,λb _ _=>noA b,λb z=>absurd z (noA b),e0.funs,e0.frf⟩,
  rfl,e0.bare,Un.kept hk,⟨_,x.toInCall.ns,λi y v h1 h2 h3=>?_⟩,λy c h=>⟨_,x.cell y c h⟩,e0.hok.fresh (av _),λy c h=>?_,λp hp=>absurd (show p∈([]:List (Addr×Obj)) from hp) (by simp),e0.hok.kept hk,?_⟩
 ·exact name_of_addr x.apart (d0 h1) (d0 h2)
 ·have hy:scope.names.lookup y=some .cell\/scope.names.lookup y=some .free:=hy
  rcases hy with hy | hy
  ·exact uE hy
  ·exact absurd rfl (S.nofree _ (d0 hy))
 ·exact nh (x.above y c (d0 h))
 ·have hi:i<vs.length:=by
   unfold bN at h2
   by_cases hi:i<vs.length
   ·exact hi
   ·rw[bo (by simpa using hi)] at h2
    rw[List.getElem?_replicate] at h2
    split at h2 <;> cases h2
  have ha:vs[i]?=some v:=by
   unfold bN at h2
   rw[br (by simpa using hi),bh] at h2
   cases e:vs[i]? with
   |none=>rw[e] at h2;cases h2
   |some a=>rw[e] at h2;cases h2;rfl
  obtain⟨u,hu,rv⟩:=r.get ha
  have hp:ps[i]?=some y:=by
   rw[<- S.pre,jv (by omega)];exact h1
  have ndP:ps.Nodup:=by rw[<- S.pre];exact S.nd.sublist (List.take_sublist _ _)
  refine⟨u,rv,?_⟩
  rcases S.par y (cu hp) with k | k
  ·exact .inl ⟨k,qI ndP hp hu k⟩
  ·obtain⟨c,e⟩:=uE (n:=s.heap.objs.size+1) k
   refine .inr ⟨.inl k,c,e,?_⟩
   have q:=x.cell y c e
   rw[rG ndP hp hu (by show scope.names.lookup y≠_;rw[k];decide)] at q
   exact q
 ·exact e0.hok.fresh (nh (x.above y c (d0 h)))
 ·unfold bN
  show _=N.length
  rw[aq,af,List.length_replicate]
  omega
theorem aBS {CX:CXT}{P:Program}{w:World}{K:aa}{mg:Str->Option Value}{base:Heap}{k:Nat}{f:Addr}{name qual:Str}{params:Arguments}{body:List Stmt}{scope:Scope}{dV kV doc pm cdv ct oc:Value}{an od:Option Addr}
  {osl:Array (Option Value)}{N ps:List Str}{sp:Sp} (lk:K.lookup f=some ⟨oc,od, .func (da name qual params body scope dV kV doc pm an cdv ct),osl⟩) (hcd:cy K cdv qual=true) (S:bO N ps scope)
  (len:∀vs H Q E,sp vs H Q E->vs.length=ps.length)
  (hbody:∀(A:Around) (outer:List Env) (s:Shared) (H:Hp) (vs:List V) (Q:VK) (E:XK),Room k (A.deeper (qw qual scope s.heap.objs.size f cdv))->sp vs H Q E ->
   ∃t,PSs (rR CX P w K mg base N qual scope f cdv A outer s H E) body t/\t { nx:=λ_ H'=>Q .non H',rt:=Q } (bN N vs) H) :
  FnOk P w K mg base CX (k+1) f (da name qual params body scope dV kV doc pm an cdv ct) ps sp:=by
 refine⟨len,λA outer s H args us vs Q E hr e0 hb r hsp=>?_⟩
 have hl:=len _ _ _ _ hsp
 have KX:K.In s.heap:=e0.mod.kin.keeps λb o e=>(e0.bs b o e).1
 have lim:s.heap.NoLimit:=e0.mod.nolimit.keeps λb o e=>(e0.bs b o e).1
 have hkind:∀y∈ps.zip us,scope.names.lookup y.1=some .local\/(scope.names.lookup y.1=some .cell/\((gs (s.heap.objs.size+1) scope.names []).lookup y.1).isSome=true):=λ⟨n,v⟩ hy=>by
  rcases S.par n (qv hy).1 with q | q
  ·exact .inl q
  ·exact .inr ⟨q,j7 _ _ _ (.inl q)⟩
 refine codeAny_call_function hr.depth (KX _ _ lk) rfl S.co S.gen rfl (PySem.W.codeRec_of KX hcd) (hb _ _ _ _ ?_)
 refine wpAny_newFunctionEnv_cells S.kind hkind λenv he s1 x=>?_
 subst he
 refine⟨lim.keeps x.toInCall.keep,codeAny_func ?_⟩
 obtain⟨t,ht,hq⟩:=hbody A outer s H vs Q E (hr.deeper _) hsp
 have I:Inv (rR CX P w K mg base N qual scope f cdv A outer s H E) [] (bN N vs) H s1:=yA S hr.hd e0 hl r x
 refine di (ht [] s1 (bN N vs) H _ I hq) (λfl s' hs=>?_) λe s' hs=>hs
 have fin:∀{σ':St}{H':Hp}{v:V}{u:Value},Inv (rR CX P w K mg base N qual scope f cdv A outer s H E) [] σ' H' s'->RelV v u->Q v H'->CE outer P w H s Q u s':=
  λ{σ' H' v u} J rv q=>⟨v,H',J.os,J.bare,J.base,J.hok,rv,q⟩
 cases fl with
 |ret u=>
  obtain⟨v,σ',H',J,rv,q⟩:=hs
  exact fin J rv q
 |next=>
  obtain⟨σ',H',J,q⟩:=hs
  exact fin (v:=V.non) (u:=Value.none) J rfl q
 |brk=>
  obtain⟨_,_,_,q⟩:=hs
  exact fg q
 |cont=>
  obtain⟨_,_,_,q⟩:=hs
  exact fg q
section
variable {X:Cx}{x:Str}{p pos:Pos}{e:Expr}{es:List Expr}{t:TA}{id T:String}{r:List V->Hp->VK->Prop}
def tCB (r:List V->Hp->VK->Prop) (t:TA):TE:=λσ H Q=>t σ H λvs H1=>r vs H1 Q
theorem aN (hc:CallR X (.builtin id) r)(hg:Gl X x)(hm:X.mg x=none)(hv:d5 x=some (.builtin id))(ha:PA X (e :: es) t)(hn:x≠"__name__":=by decide)(hdb:(x == ("__debug__" : Str))=false:=by decide)
  (he:cx (e :: es) X.env=(false,eval e X.env) :: cx es X.env:=by rfl) (hpl:(jg pos (cx es X.env)).any (·.1)=false:=by rfl):PE X (.Call (.Name x p) (e :: es) [] pos) (tCB r t):=by
 intro pins s σ H Q I h
 refine j1 (qC I hg hm hv ?_ hn hdb)
 exact PyProof.Rows.callWith_builtin1 (thn (ha pos pins s σ H _ I h) λus s1 ⟨vs,H1,I1,r1,q1⟩=>hc pins s1 σ H1 vs us Q I1 r1 q1) he hpl
theorem bR (hc:CallR X (.type T) r)(hg:Gl X x)(hm:X.mg x=none)(hv:d5 x=some (.type T))(ha:PA X (e :: es) t)(hn:x≠"__name__":=by decide)(hdb:(x == ("__debug__" : Str))=false:=by decide)
  (he:cx (e :: es) X.env=(false,eval e X.env) :: cx es X.env:=by rfl) (hpl:(jg pos (cx es X.env)).any (·.1)=false:=by rfl):PE X (.Call (.Name x p) (e :: es) [] pos) (tCB r t):=by
 intro pins s σ H Q I h
 refine j1 (qC I hg hm hv ?_ hn hdb)
 exact jb (thn (ha pos pins s σ H _ I h) λus s1 ⟨vs,H1,I1,r1,q1⟩=>hc pins s1 σ H1 vs us Q I1 r1 q1) he hpl
end
end L2
namespace HT
open PySem PyProof.Rows
section
open PySem.SeqAt
open PySem.AutoSeq1 (wpAny_loadPart')
open PySem.MeetsSeq PySem.MeetsSeq2 PySem.MeetsSeq3
end
section
variable {prog:Program}{w:World}{A:Around}{E:Value->Shared->Prop}{s:Shared}
theorem cat_tup {t b:Addr}{vs ws:List Value}{Q:Value->Shared->Prop}(ht:IsTup s.heap t vs.toArray)(hb:IsTup s.heap b ws.toArray)(hv:vs≠[])
  (h1:ws=[]->Q (.ref t) s) (h2:ws≠[]->Q (.ref s.heap.objs.size) { s with heap:=s.heap.push { cls := .type "tuple",data := .seq (vs++ws).toArray } })
  (hsz:vs.length+ws.length<=cb):wpAny (model prog w) A (iw .Add (.ref t) (.ref b)) Q E s:=by
 obtain⟨⟨cls,dd,data,sl⟩,ho,hc,n,hd⟩:=id ht
 obtain⟨⟨cls2,dd2,data2,sl2⟩,ho2,hc2,n2,hd2⟩:=id hb
 simp only at hc hd hc2 hd2
 subst hc hd hc2 hd2
 have e:vs.toArray++ws.toArray=(vs++ws).toArray:=by simp
 by_cases hw:ws=[]
 ·exact uy ⟨_,ho,rfl⟩ ⟨_,ho2,rfl⟩ qc t6 j8 j2 (jw _ _)
   (tuple_addW1 t b vs.toArray ws.toArray n n2 dd dd2 sl sl2 (by simpa using hv) (by simp[hw])) ⟨ho,ho2,h1 hw⟩
 ·refine uy ⟨_,ho,rfl⟩ ⟨_,ho2,rfl⟩ qc t6 j8 j2 (jw _ _)
   (tuple_addW2 t b vs.toArray ws.toArray n n2 dd dd2 sl sl2 (by simpa using hv) (by simpa using hw) (by rw[au,au];exact hsz)) ⟨ho,ho2,?_⟩
  rw[e]
  exact h2 hw
def sIx (n d:Nat):Option Int->Nat
 |none=>d
 |some v=>if v<0 then(v+(n:Int)).toNat else min v.toNat n
theorem aCa (n d:Nat)(hd:d<=n)(o:Option Int):sIx n d o<=n:=by
 cases o with
 |none=>exact hd
 |some v=>
  show(if v<0 then(v+(n:Int)).toNat else min v.toNat n)<=n
  by_cases hv:v<0
  ·rw[if_pos hv];omega
  ·rw[if_neg hv];exact Nat.min_le_right _ _
theorem xS (v:Int)(n d:Nat):(if v<0 then max (v+(n:Int)) 0 else min v (n:Int))=((sIx n d (some v):Nat):Int):=by
 show(if v<0 then max (v+(n:Int)) 0 else min v (n:Int))=(((if v<0 then(v+(n:Int)).toNat else min v.toNat n):Nat):Int)
 by_cases hv:v<0
 ·simp only[if_pos hv];omega
 ·simp only[if_neg hv];omega
theorem vE (lo hi:Option Int)(n:Nat):ji lo hi 1 (n:Int)=(((sIx n 0 lo:Nat):Int),((sIx n n hi:Nat):Int)):=by
 have h1:¬ ((1:Int)<0):=by omega
 unfold ji
 simp only[h1,if_false]
 refine Prod.ext ?_ ?_
 ·cases lo with
  |none=>rfl
  |some v=>exact xS v n 0
 ·cases hi with
  |none=>rfl
  |some v=>exact xS v n n
theorem uU (i j:Nat):iq (i:Int) (j:Int) 1=j - i:=by
 unfold iq
 have h1:(1:Int) > 0:=by omega
 simp only[h1,if_true,Int.ediv_one]
 split <;> omega
theorem nB {v:Value}{o:Option Int}{Q:Option Int->Shared->Prop}(p:IsPart v o)(h:Q o s):wpAny (model prog w) A (Builtin.Slice.slicePartIndex v) Q E s:=by
 cases p with
 |none=>exact slicePart_none h
 |int i t=>exact slicePart_int h
theorem sliceApplied_gen {sl:Addr}{vl vu:Value}{lo hi:Option Int}{n:Nat}{Q:Int×Int×Nat->Shared->Prop}(hs:s.heap.IsSliceOf sl vl vu .none)(pl:IsPart vl lo)(pu:IsPart vu hi)
  (h:Q (((sIx n 0 lo:Nat):Int),1,sIx n n hi - sIx n 0 lo) s):wpAny (model prog w) A (nc (.ref sl) (pure (n:Int))) Q E s:=by
 obtain⟨os,hos,hcs,hds⟩:=id hs
 unfold nc Builtin.Slice.sliceFields
 refine ae (ae (gr hos hds (x:=vl) rfl (ae (gr hos hds (x:=vu) rfl (ae (gr hos hds (x := .none) rfl (ay ?_)))))))
 refine ae (slicePart_none ?_)
 show wpAny _ _ (if((1:Int) == 0)=true then _ else _) _ _ s
 rw[if_neg (by decide)]
 refine ae (nB pl (ae (nB pu (ae (ay ?_)))))
 show wpAny _ _ (match ji lo hi 1 (n:Int) with | (lo,hi)=>pure (lo,(1:Int),iq lo hi 1)) _ _ s
 rw[vE lo hi n]
 show wpAny _ _ (pure (((sIx n 0 lo:Nat):Int),(1:Int),iq ((sIx n 0 lo:Nat):Int) ((sIx n n hi:Nat):Int) 1)) _ _ s
 rw[uU]
 exact ay h
theorem yG (xs:Array Value)(i k:Nat):((bu k).filterMap λ(m:Nat)=>xs[((i:Int)+(m:Int)*1).toNat]?).toArray=((xs.toList.drop i).take k).toArray:=by
 have e:(λ(m:Nat)=>xs[((i:Int)+(m:Int)*1).toNat]?)=λm=>xs[i+m]?:=by
  funext m
  have:((i:Int)+(m:Int)*1).toNat=i+m:=by omega
  rw[this]
 rw[e]
 have:=pick_run xs i k
 rw[List.filterMap_map] at this
 have e2:((λx=>xs[x]?)∘λx=>i+x)=λm=>xs[i+m]?:=rfl
 rw[e2] at this
 rw[this]
theorem getItem_tuple_cut {t sl:Addr}{items:Array Value}{vl vu:Value}{lo hi:Option Int}{Q:Value->Shared->Prop}(ht:IsTup s.heap t items)(hs:s.heap.IsSliceOf sl vl vu .none)(pl:IsPart vl lo)(pu:IsPart vu hi)
  (hw:¬ (sIx items.size 0 lo=0/\sIx items.size items.size hi=items.size))
  (h:Q (.ref s.heap.objs.size) { s with heap:=s.heap.push { cls := .type "tuple",data := .seq ((items.toList.drop (sIx items.size 0 lo)).take (sIx items.size items.size hi - sIx items.size 0 lo)).toArray } })
  (hsz:items.size<=cb):wpAny (model prog w) A (uj (.ref t) (.ref sl)) Q E s:=by
 have htake:sizeOk (.seq ((items.toList.drop (sIx items.size 0 lo)).take (sIx items.size items.size hi - sIx items.size 0 lo)).toArray):=by
  show((items.toList.drop (sIx items.size 0 lo)).take (sIx items.size items.size hi - sIx items.size 0 lo)).toArray.size<=cb
  rw[au,fj,jn,fb]
  omega
 have hj:sIx items.size items.size hi<=items.size:=aCa _ _ (av _) hi
 obtain⟨os,hos,hcs,hds⟩:=id hs
 have hTs:s.TypeIs (.ref sl) "slice":=⟨os,hos,hcs⟩
 unfold uj
 try with_reducible refine e8 ?_
 first | refine ae (ay ?_) | skip
 refine ae (wpAny_sequenceKey ht.typeIs (by decide) ?_)
 refine ae (fv (name:=ig "__getitem__") ht.typeIs d9
  (i9 d9 ht.typeIs su ?_ (args_tuple_getitem _ _)))
 show wpAny _ _ (ng (.ref t) >>= _) _ _ s
 refine ae (tupleItemsOf_ ht ?_)
 refine ae (qx hTs ?_)
 rw[if_pos (by decide)]
 refine ae (sliceApplied_gen hs pl pu ?_)
 have hno:¬ ((((sIx items.size 0 lo:Nat):Int) == 0 && (1:Int) == 1 && (sIx items.size items.size hi - sIx items.size 0 lo) == items.size)=true):=by
  intro q
  rw[cg,cg] at q
  have q1:((sIx items.size 0 lo:Nat):Int)=0:=eq_of_beq q.1.1
  have q2:sIx items.size items.size hi - sIx items.size 0 lo=items.size:=eq_of_beq q.2
  exact hw ⟨by omega,by omega⟩
 show wpAny _ _ (if(((sIx items.size 0 lo:Nat):Int) == 0 && (1:Int) == 1 && (sIx items.size items.size hi - sIx items.size 0 lo) == items.size)=true then _ else _) _ _ s
 rw[if_neg hno,yG]
 first
  |exact ae (m:=i3 _) (gg (ay ⟨_,rfl,ay h⟩) htake)
  |exact ae (m:=i3 _) (gg (ae (ay (ay ⟨_,rfl,ay h⟩))) htake)
  |exact ae (ae (m:=i3 _) (gg (ay (ay ⟨_,rfl,ay h⟩)) htake))
  |exact ae (ae (m:=i3 _) (gg (ay ⟨_,rfl,ay h⟩) htake))
end
end HT
namespace L2
open PySem PySem.Spec PyProof.Rows
abbrev TO:=St->Hp->(Option Int->Hp->Prop)->Prop
def PO (X:Cx) (e:Option Expr) (t:TO):Prop:=
 ∀(pins:List (Addr×Obj)) (s:Shared) (σ:St) (H:Hp) (Q:Option Int->Hp->Prop),Inv X pins σ H s->t σ H Q ->
  wpAny (model X.prog X.w) X.A (evalPart e X.env) (λu s'=>∃o H',Inv X pins σ H' s'/\IsPart u o/\Q o H') X.xe s
def cA:TO:=λ_ H Q=>Q none H
def eK (t:TE):TO:=λσ H Q=>t σ H λx H1=>∃i,x = .int i/\Q (some i) H1
theorem nK {ns:List Int}:∀{us:List Value},Vals (ns.map V.int) us->IntsAre us ns:=by
 induction ns with
 |nil=>intro us r;rw[List.map_nil] at r;cases r;exact .nil
 |cons n ns ih=>
  intro us r
  rw[e6] at r
  cases r with
  |cons r1 r2=>
   obtain⟨t,e⟩:=r1
   subst e
   exact .cons n t (ih r2)
section
variable {X:Cx}{e:Expr}{te:TE}{lo hi:Option Expr}{tl th:TO}{pos p2:Pos}
theorem cB:PO X none cA:=by
 intro pins s σ H Q I h
 rw[evalPart_none]
 exact ay ⟨none,H,I, .none,h⟩
theorem bX (h:PE X e te):PO X (some e) (eK te):=by
 intro pins s σ H Q I hw
 rw[evalPart_some]
 refine thn (h pins s σ H _ I hw) λu s1 ⟨x,H1,I1,r1,q1⟩=>?_
 obtain⟨i,rfl,q⟩:=q1
 obtain⟨t,rfl⟩:=r1
 exact⟨some i,H1,I1, .int i t,q⟩
def SlR (X:Cx) (r:V->Option Int->Option Int->Hp->VK->Prop):Prop:=
 ∀(pins:List (Addr×Obj)) (s:Shared) (σ:St) (H:Hp) (x:V) (v vl vu:Value) (lo hi:Option Int) (sl:Addr) (Q:VK),Inv X pins σ H s->RelV x v->s.heap.IsSliceOf sl vl vu .none->IsPart vl lo->IsPart vu hi->r x lo hi H Q ->
  ∃T id,uk (.type T) "__getitem__" = pure (some (.builtin id))/\s.TypeIs v T/\wpAny (model X.prog X.w) X.A (uj v (.ref sl)) (EP X pins σ Q) X.xe s
theorem SlR.or {r r':V->Option Int->Option Int->Hp->VK->Prop}(h:SlR X r)(h':SlR X r'):SlR X (λx lo hi H Q=>r x lo hi H Q\/r' x lo hi H Q):=by
 intro pins s σ H x v vl vu lo hi sl Q I rx hs pl pu q
 rcases q with q | q
 ·exact h pins s σ H x v vl vu lo hi sl Q I rx hs pl pu q
 ·exact h' pins s σ H x v vl vu lo hi sl Q I rx hs pl pu q
def tSl (r:V->Option Int->Option Int->Hp->VK->Prop) (te:TE) (tl th:TO):TE:=λσ H Q=>te σ H λx H1=>tl σ H1 λl H2=>th σ H2 λu H3=>r x l u H3 Q
theorem bP {r:V->Option Int->Option Int->Hp->VK->Prop}(hr:SlR X r)(he:PE X e te)(hl:PO X lo tl)(hu:PO X hi th):PE X (.Subscript e (.Slice lo hi none p2) pos) (tSl r te tl th):=by
 intro pins s σ H Q I h
 refine Subscript_ (thn (he pins s σ H _ I h) λv s1 ⟨x,H1,I1,r1,q1⟩=>?_)
 refine wpAny_Slice (thn (hl pins s1 σ H1 _ I1 q1) λvl s2 ⟨l,H2,I2,pl,q2⟩=>thn (hu pins s2 σ H2 _ I2 q2) λvu s3 ⟨u,H3,I3,pu,q3⟩=>?_)
 rw[evalPart_none]
 refine ay ?_
 have I4:Inv X pins σ H3 { s3 with heap:=s3.heap.push { cls := .type "slice",data := .fields #[vl,vu, .none] } }:=I3.kept (t':=s3.toks) λb ob q=>ak _ q
 obtain⟨T,id,hT,ht,hg⟩:=hr pins { s3 with heap:=s3.heap.push { cls := .type "slice",data := .fields #[vl,vu, .none] } } σ H3 x v vl vu l u s3.heap.objs.size Q I4 r1 (Heap.IsSliceOf.new ..) pl pu q3
 show wpAny (model X.prog X.w) X.A (subscriptTail e (.Slice lo hi none p2) v (.ref s3.heap.objs.size)) (EP X pins σ Q) X.xe { s3 with heap:=s3.heap.push { cls := .type "slice",data := .fields #[vl,vu, .none] } }
 exact tail_any (ops:=[.ref s3.heap.objs.size,v]) ht hT hg (by with_unfolding_all rfl)
def rS (xs:List V) (lo hi:Option Int):List V:=(xs.drop (HT.sIx xs.length 0 lo)).take (HT.sIx xs.length xs.length hi - HT.sIx xs.length 0 lo)
theorem lU (xs:List V)(lo hi:Option Int):(rS xs lo hi).length<=xs.length:=by
 unfold rS
 rw[fj,jn]
 omega
def aEB (K:aa):V->Option Int->Option Int->Hp->VK->Prop:=λx lo hi H Q=>∃a xs,x = .ref a/\SqT K H a xs /\
 ¬ (HT.sIx xs.length 0 lo=0/\HT.sIx xs.length xs.length hi=xs.length)/\∀p,H p=none->Q (.ref p) (upd H p (.tup (rS xs lo hi)))
theorem aBZ:SlR X (aEB X.K):=by
 intro pins s σ H x v vl vu lo hi sl Q I rx hs pl pu h
 obtain⟨a,xs,rfl,hx,hw,q⟩:=h
 cases rx
 obtain⟨its,r,ht,hz⟩:=I.tuple hx
 have hlen:its.toArray.size=xs.length:=by rw[au];exact r.length.symm
 refine⟨"tuple",_,d9.lookup,ht.typeIs,?_⟩
 refine HT.getItem_tuple_cut ht hs pl pu (by rw[hlen];exact hw) ?_ (by rw[hlen];exact hz)
 rw[hlen]
 refine⟨.ref s.heap.objs.size,_,I.laid (t':=s.toks) (o := .tup (rS xs lo hi)) (λb ob q=>ak _ q) (av _) ?_,rfl,q _ (I.hok.fresh (av _))⟩
 exact⟨bc (lU xs lo hi) hz,_,(r.drop (HT.sIx xs.length 0 lo)).take (HT.sIx xs.length xs.length hi - HT.sIx xs.length 0 lo),TupN.new _ _⟩
def aDH (K:aa):R2:=λx y H Q=>∃a b xs ys,x = .ref a/\y = .ref b/\SqT K H a xs/\SqT K H b ys/\xs≠[]/\xs.length+ys.length<=cb /\
 (ys=[]->Q (.ref a) H)/\(ys≠[]->∀p,H p=none->Q (.ref p) (upd H p (.tup (xs++ys))))
theorem Vals.nil_iff {xs:List V}{us:List Value}(r:Vals xs us):us=[]↔xs=[]:=by
 cases r with
 |nil=>simp
 |cons _ _=>simp
theorem aBq:OpR X (iw .Add) (aDH X.K):=by
 intro pins s σ H x y v u Q I rx ry h
 obtain⟨a,b,xs,ys,rfl,rfl,ha,hb,hx,hz,q1,q2⟩:=h
 cases rx
 cases ry
 obtain⟨its,r1,p1,_⟩:=I.tuple ha
 obtain⟨its2,r2,p2,_⟩:=I.tuple hb
 refine HT.cat_tup p1 p2 (λz=>hx (r1.nil_iff.mp z)) (λz=>⟨.ref a,H,I,rfl,q1 (r2.nil_iff.mp z)⟩) (λz=>?_) (by rw[<- r1.length,<- r2.length];exact hz)
 refine⟨.ref s.heap.objs.size,_,I.laid (t':=s.toks) (o := .tup (xs++ys)) (λb ob q=>ak _ q) (av _) ?_,rfl,q2 (λw=>z (r2.nil_iff.mpr w)) _ (I.hok.fresh (av _))⟩
 exact⟨by rw[aq];exact hz,_,r1.append r2,TupN.new _ _⟩
end
def ixN (n:Nat) (i:Int):Option Nat:=if 0<=i then(if i<n then some i.toNat else none) else if -(n:Int)<=i then some (i+n).toNat else none
def atI {α:Type} (xs:List α) (i:Int):Option α:=(ixN xs.length i).bind λj=>xs[j]?
theorem vN {n:Nat}{i:Int}{j:Nat}(h:ixN n i=some j):seqIndex? i n=some j/\j<n/\-(n:Int)<=i/\i<n:=by
 unfold ixN at h
 by_cases h0:0<=i
 ·rw[if_pos h0] at h
  by_cases h1:i<n
  ·rw[if_pos h1] at h
   have e:i.toNat=j:=dv h
   exact⟨by rw[vf h0 h1,e],by omega,by omega,h1⟩
  ·rw[if_neg h1] at h;cases h
 ·rw[if_neg h0] at h
  by_cases h1:-(n:Int)<=i
  ·rw[if_pos h1] at h
   have e:(i+n).toNat=j:=dv h
   exact⟨by rw[uz (by omega) h1,e],by omega,h1,by omega⟩
  ·rw[if_neg h1] at h;cases h
theorem sX {α:Type}{xs:List α}{i:Int}{v:α}(h:atI xs i=some v):∃j,seqIndex? i xs.length=some j/\xs[j]?=some v/\j<xs.length/\-(xs.length:Int)<=i/\i<xs.length:=by
 unfold atI at h
 cases e:ixN xs.length i with
 |none=>rw[e] at h;cases h
 |some j=>
  rw[e] at h
  obtain⟨h1,h2,h3,h4⟩:=vN e
  exact⟨j,h1,h,h2,h3,h4⟩
theorem oG {α:Type}{xs:List α}{j:Nat}{v:α}(h:xs[j]?=some v):atI xs (j:Int)=some v:=by
 have hj:j<xs.length:=(ao.mp h).1
 have e:ixN xs.length (j:Int)=some j:=by
  unfold ixN
  rw[if_pos (by omega),if_pos (by omega)];simp
 unfold atI;rw[e];exact h
def aBm (b:Expr):Prop:=∀o i,subscripted b false o i=operate [o,i] (uj o i)
def IxR (X:Cx) (r:R2):Prop:=
 ∀(value slice:Expr) (pins:List (Addr×Obj)) (s:Shared) (σ:St) (H:Hp) (x y:V) (v u:Value) (Q:VK),Inv X pins σ H s->RelV x v->RelV y u->r x y H Q ->
  subscripted slice false v u=operate [v,u] (uj v u)->wpAny (model X.prog X.w) X.A (subscriptTail value slice v u) (EP X pins σ Q) X.xe s
def MtR (X:Cx) (id:String) (r:V->List V->Hp->VK->Prop):Prop:=
 ∀(pins:List (Addr×Obj)) (s:Shared) (σ:St) (H:Hp) (x:V) (xs:List V) (v:Value) (us:List Value) (Q:VK),Inv X pins σ H s->RelV x v->Vals xs us->r x xs H Q ->
  wpAny (model X.prog X.w) X.A (call (.builtin id) (v :: us)) (EP X pins σ Q) X.xe s
section
variable {X:Cx}{a b:Expr}{ta tb:TE}{pos:Pos}
theorem IxR.or {r r':R2}(h:IxR X r)(h':IxR X r'):IxR X (λx y H Q=>r x y H Q\/r' x y H Q):=by
 intro value slice pins s σ H x y v u Q I rx ry q hs
 rcases q with q | q
 ·exact h value slice pins s σ H x y v u Q I rx ry q hs
 ·exact h' value slice pins s σ H x y v u Q I rx ry q hs
theorem cJ {r:R2}(hr:IxR X r)(ha:PE X a ta)(hb:PE X b tb)(hs:aBm b):PE X (.Subscript a b pos) (tOp r ta tb):=by
 intro pins s σ H Q I h
 exact Subscript_ (aDR ha hb I h λv u s2 x y H2 I2 rx ry q=>hr a b pins s2 σ H2 x y v u Q I2 rx ry q (hs _ _))
def aDr (K:aa):R2:=λx y H Q=>∃p xs i v,x = .ref p/\y = .int i/\SqL K H p xs/\atI xs i=some v/\Q v H
def aDu (K:aa):R2:=λx y H Q=>∃p xs i v,x = .ref p/\y = .int i/\SqT K H p xs/\atI xs i=some v/\Q v H
def aBY:R2:=λx y H Q=>∃z i c,x = .str z/\y = .int i/\z.length<=cb/\atI z.cps.toList i=some c/\Q (.str ⟨#[c]⟩) H
theorem aAD:IxR X (aDr X.K):=by
 intro value slice pins s σ H x y v u Q I rx ry h hs
 obtain⟨p,xs,i,z,rfl,rfl,hq,he,q⟩:=h
 cases rx
 obtain⟨t,rfl⟩:=ry
 obtain⟨its,r,pl,hz⟩:=I.list hq
 obtain⟨j,h1,h2,h3,h4,h5⟩:=sX he
 obtain⟨w,ew,rw'⟩:=r.get h2
 have hl:=r.length
 have hn:=mW
 have fin:EP X pins σ Q w s:=⟨z,H,I,rw',q⟩
 by_cases h0:0<=i
 ·have hj:i.toNat=j:=by
   rw[vf h0 h5] at h1
   exact dv h1
  exact item_listR pl.isList h0 (by omega) (by rw[hj];simpa using ew) fin hs
 ·have hj:(i+(its.toArray.size:Int)).toNat=j:=by
   rw[uz (by omega) h4] at h1
   rw[au,<- hl]
   exact dv h1
  exact qo (x:=w) pl.isList.typeIs slot_list_getitem.lookup
   (wpAny_getItem_list_neg (Q:=λr s'=>r=w/\EP X pins σ Q r s') pl.isList (by omega) (by rw[au] <;> omega) (by omega) (by rw[hj];simpa using ew) ⟨rfl,fin⟩) hs
theorem aCF:IxR X (aDu X.K):=by
 intro value slice pins s σ H x y v u Q I rx ry h hs
 obtain⟨p,xs,i,z,rfl,rfl,hq,he,q⟩:=h
 cases rx
 obtain⟨t,rfl⟩:=ry
 obtain⟨its,r,pl,hz⟩:=I.tuple hq
 obtain⟨j,h1,h2,h3,h4,h5⟩:=sX he
 obtain⟨w,ew,rw'⟩:=r.get h2
 have hl:=r.length
 have hn:=mW
 have fin:EP X pins σ Q w s:=⟨z,H,I,rw',q⟩
 exact qo (x:=w) pl.typeIs slot_tuple_getitem.lookup
  (getItem_tuple (j:=j) (Q:=λr s'=>r=w/\EP X pins σ Q r s') pl (by omega) (by omega) (by rw[au,<- hl];exact h1) (by simpa using ew) ⟨rfl,fin⟩) hs
theorem wA:IxR X aBY:=by
 intro value slice pins s σ H x y v u Q I rx ry h hs
 obtain⟨z,i,c,rfl,rfl,hz,he,q⟩:=h
 obtain⟨t,rfl⟩:=rx
 obtain⟨t',rfl⟩:=ry
 obtain⟨j,h1,h2,h3,h4,h5⟩:=sX he
 have hl:z.cps.toList.length=z.length:=by simp[Str.length]
 rw[hl] at h1 h4 h5
 have hn:=mW
 exact tail_any (oq s z t) slot_str_getitem.lookup (getItem_str (c:=c) (by
  have e1:decide (i < -(2 ^ 63:Int))=false:=decide_eq_false (by omega)
  have e2:decide (i≥2 ^ 63)=false:=decide_eq_false (by omega)
  rw[e1,e2,Bool.or_false]) (by rw[h1];simpa using h2) ⟨.str ⟨#[c]⟩,H,I.tok _,⟨_,rfl⟩,q⟩) hs
theorem uM (its:List Value)(n j:Nat)(u:Value):mh (·.setIfInBounds j u) { cls := .type "list",data := .seq its.toArray n }={ cls := .type "list",data := .seq (its.set j u).toArray n }:=by
 simp[mh]
theorem Inv.lst {pins:List (Addr×Obj)}{σ:St}{H:Hp}{s:Shared}{p:Addr}{xs:List V}(I:Inv X pins σ H s)(h:H p=some (.lst xs)) :
  ∃(its:List Value) (n:Nat),Vals xs its/\s.heap.get? p=some { cls := .type "list",data := .seq its.toArray n }/\xs.length<=cb:=by
 obtain⟨z,its,n,r,e⟩:=I.hok p _ h
 exact⟨its,n,r,e,z⟩
theorem Inv.lstUpd {pins:List (Addr×Obj)}{σ:St}{H:Hp}{s:Shared}{p:Addr}{xs ys:List V}{its its':List Value}{n n':Nat}{f:Obj->Obj}(I:Inv X pins σ H s)(h:H p=some (.lst xs))
  (ho:s.heap.get? p=some { cls := .type "list",data := .seq its.toArray n }) (hf:f { cls := .type "list",data := .seq its.toArray n }={ cls := .type "list",data := .seq its'.toArray n' }) (r:Vals ys its') (hz:ys.length<=cb) (t:Nat) :
  Inv X pins σ (upd H p (.lst ys)) { s with heap:=s.heap.update p f,toks:=t }:=by
 have e:(s.heap.update p f).get? p=some { cls := .type "list",data := .seq its'.toArray n' }:=by
  rw[fe f ho (by rw[hf] <;> rfl),hf]
 refine I.write (x:=p) (e:=p) (by rw[h];trivial) (.inl rfl) (λb u hb q=>(fh _ _ (ke hb)).trans q) ⟨_,e⟩ ?_
 exact⟨hz,its',n',r,e⟩
def jZ:V->V->V->Hp->(Hp->Prop)->Prop:=λo i v H Q=>∃p xs k j,o = .ref p/\i = .int k/\H p=some (.lst xs)/\ixN xs.length k=some j/\Q (upd H p (.lst (xs.set j v)))
theorem gC:aEb X jZ:=by
 intro pins s σ H o i v ov iv u Q I ro ri rv h
 obtain⟨p,xs,k,j,rfl,rfl,hp,hj,q⟩:=h
 cases ro
 obtain⟨t,rfl⟩:=ri
 obtain⟨its,n,r,ho,hz⟩:=I.lst hp
 obtain⟨h1,h2,h3,h4⟩:=vN hj
 have hl:=r.length
 have hn:=mW
 have I':Inv X pins σ (upd H p (.lst (xs.set j v))) { s with heap:=s.heap.update p (mh (·.setIfInBounds j u)) }:=
  I.lstUpd hp ho (uM its n j u) (r.set rv j) (by rw[dm];exact hz) s.toks
 by_cases h0:0<=k
 ·have hk:k.toNat=j:=by
   rw[vf h0 h4] at h1
   exact dv h1
  exact PySem.W.ki_setAt ho h0 (by omega) (by rw[au,<- hl];exact h4) (by rw[hk];exact⟨_,I',q⟩)
 ·have hk:(k+(its.toArray.size:Int)).toNat=j:=by
   rw[uz (by omega) h3] at h1
   rw[au,<- hl]
   exact dv h1
  exact PySem.W.ki_setBack ho (by omega) (by rw[au,<- hl];exact h3) (by omega) (by rw[hk];exact⟨_,I',q⟩)
theorem rH (lo hi:Option Int)(n:Nat):(kn lo hi none n).1=((HT.sIx n 0 lo:Nat):Int)/\(kn lo hi none n).2.1=((HT.sIx n n hi:Nat):Int)/\(kn lo hi none n).2.2=1:=by
 refine⟨?_,?_,rfl⟩
 ·cases lo with
  |none=>simp[kn,HT.sIx]
  |some i=>
   simp only[kn,HT.sIx,Option.getD_none,show(1:Int) > 0 by decide,if_true]
   by_cases h:i<0
   ·simp only[h,if_true] <;> omega
   ·simp only[h,if_false] <;> omega
 ·cases hi with
  |none=>simp[kn,HT.sIx]
  |some i=>
   simp only[kn,HT.sIx,Option.getD_none,show(1:Int) > 0 by decide,if_true]
   by_cases h:i<0
   ·simp only[h,if_true] <;> omega
   ·simp only[h,if_false] <;> omega
theorem oO (its:List Value)(lo hi:Option Int):slicePick its.toArray lo hi none=((its.drop (HT.sIx its.length 0 lo)).take (HT.sIx its.length its.length hi - HT.sIx its.length 0 lo)).toArray:=by
 obtain⟨h1,h2,h3⟩:=rH lo hi its.toArray.size
 unfold slicePick
 rw[h1,h2,h3]
 simp only[sliceRange_one,pick_run,au] <;> rfl
def aDZ (K:aa):V->Option Int->Option Int->Hp->VK->Prop:=λx lo hi H Q=>∃a xs,x = .ref a/\SqL K H a xs/\∀p,H p=none->Q (.ref p) (upd H p (.lst (rS xs lo hi)))
theorem aBh:SlR X (aDZ X.K):=by
 intro pins s σ H x v vl vu lo hi sl Q I rx hs pl pu h
 obtain⟨a,xs,rfl,hx,q⟩:=h
 cases rx
 obtain⟨its,r,ht,hz⟩:=I.list hx
 have hlen:=r.length
 refine⟨"list",_,slot_list_getitem.lookup,ht.isList.typeIs,?_⟩
 refine wpAny_getItem_list_slice ht.isList hs pl pu .none (by simp) ?_ (by rw[au] <;> omega)
 rw[oO,<- hlen]
 refine⟨.ref s.heap.objs.size,_,I.laid (t':=s.toks) (o := .lst (rS xs lo hi)) (λb ob q=>ak _ q) (av _) ?_,rfl,q _ (I.hok.fresh (av _))⟩
 exact⟨bc (lU xs lo hi) hz,_,0,(r.drop (HT.sIx xs.length 0 lo)).take (HT.sIx xs.length xs.length hi - HT.sIx xs.length 0 lo),ck _ rfl⟩
theorem qU:CallR X (.builtin "len") (λxs H Q=>∃p ys,xs=[.ref p]/\(SqL X.K H p ys\/SqT X.K H p ys)/\Q (.int ys.length) H):=by
 intro pins s σ H xs us Q I r h
 obtain⟨p,ys,rfl,hq,q⟩:=h
 obtain⟨u,rfl,rx⟩:=rQ r
 cases rx
 have hn:=mW
 rcases hq with hq | hq
 ·obtain⟨its,r',pl,hz⟩:=I.list hq
  have hlen:=r'.length
  exact Calls.call_len_list pl.isList (by simp only[au] <;> omega) ⟨.int ys.length,H,I.tok _,⟨s.toks+1,by rw[au,hlen]⟩,q⟩
 ·obtain⟨its,r',pl,hz⟩:=I.tuple hq
  have hlen:=r'.length
  exact len_tuple pl (by simp only[au] <;> omega) ⟨.int ys.length,H,I.tok _,⟨s.toks+1,by rw[au,hlen]⟩,q⟩
theorem pT:CallR X (.builtin "len") (λxs H Q=>∃z,xs=[.str z]/\z.length<=cb/\Q (.int z.length) H):=by
 intro pins s σ H xs us Q I r h
 obtain⟨z,rfl,hz,q⟩:=h
 obtain⟨u,rfl,t,rfl⟩:=rQ r
 have hn:=mW
 exact len_str (by omega) ⟨.int z.length,H,I.tok _,⟨_,rfl⟩,q⟩
theorem CallR.or {f:Value}{r r':List V->Hp->VK->Prop}(h:CallR X f r)(h':CallR X f r'):CallR X f (λxs H Q=>r xs H Q\/r' xs H Q):=by
 intro pins s σ H xs us Q I rs q
 rcases q with q | q
 ·exact h pins s σ H xs us Q I rs q
 ·exact h' pins s σ H xs us Q I rs q
theorem pW:CallR X (.type "list") (λxs H Q=>∃p ys,xs=[.ref p]/\(SqL X.K H p ys\/SqT X.K H p ys)/\∀l,H l=none->Q (.ref l) (upd H l (.lst ys))):=by
 intro pins s σ H xs us Q I r h
 obtain⟨p,ys,rfl,hq,q⟩:=h
 obtain⟨u,rfl,rx⟩:=rQ r
 cases rx
 have fin:∀(its:List Value),Vals ys its->ys.length<=cb->∀(h':Heap) (c':Nat),(∀b o',s.heap.get? b=some o'->h'.get? b=some o') ->
   h'.get? s.heap.objs.size=some { cls := .type "list",dict:=none,data := .seq its.toArray c',slots:=#[] }->EP X pins σ Q (.ref s.heap.objs.size) { s with heap:=h' }:=λits r' hz h' c' kp e=>
  ⟨.ref s.heap.objs.size,_,I.laid (t':=s.toks) kp (av _) (show ObjOk X.prog X.w _ h' _ (.lst ys) from⟨hz,its,c',r',e⟩),rfl,q _ (I.hok.fresh (av _))⟩
 rcases hq with hq | hq
 ·obtain⟨its,r',pl,hz⟩:=I.list hq
  have hlen:=r'.length
  obtain⟨o,ho,hc,n,hd⟩:=pl.isList
  exact call_list_seq p (.inl rfl) ho hc hd (λh' c' kp e=>fin its r' hz h' c' kp e) (by simp only[au] <;> omega)
 ·obtain⟨its,r',pl,hz⟩:=I.tuple hq
  have hlen:=r'.length
  obtain⟨o,ho,hc,n,hd⟩:=pl
  exact call_list_seq p (.inr rfl) ho hc hd (λh' c' kp e=>fin its r' hz h' c' kp e) (by simp only[au] <;> omega)
theorem oU:CallR X (.type "tuple") (λxs H Q=>∃p ys,xs=[.ref p]/\((SqL X.K H p ys/\∀l,H l=none->Q (.ref l) (upd H l (.tup ys)))\/(SqT X.K H p ys/\Q (.ref p) H))):=by
 intro pins s σ H xs us Q I r h
 obtain⟨p,ys,rfl,h⟩:=h
 obtain⟨u,rfl,rx⟩:=rQ r
 cases rx
 rcases h with⟨hq,q⟩ | ⟨hq,q⟩
 ·obtain⟨its,r',pl,hz⟩:=I.list hq
  have hlen:=r'.length
  refine call_tuple_list pl.isList (λh' kp=>?_) (by simp only[au] <;> omega)
  have I1:Inv X pins σ H { s with heap:=h' }:=I.kept (t':=s.toks) kp
  have I2:Inv X pins σ (upd H h'.objs.size (.tup ys)) { s with heap:=h'.push { cls := .type "tuple",data := .seq its.toArray } }:=
   I1.laid (t':=s.toks) (λb o e=>ak _ e) (av _) (show ObjOk X.prog X.w _ _ _ (.tup ys) from⟨hz,its,r',TupN.new _ _⟩)
  exact⟨.ref h'.objs.size,_,I2,rfl,q _ (I1.hok.fresh (av _))⟩
 ·obtain⟨its,r',pl,hz⟩:=I.tuple hq
  exact call_tuple_same pl ⟨.ref p,H,I,rfl,q⟩
def tyV (K:aa) (T:String) (x:V) (H:Hp):Prop:=match x with
 | .str _=>T="str"
 | .int _=>T="int"
 | .ref p=>(T="list"/\∃xs,SqL K H p xs)\/(T="tuple"/\∃o,K.lookup p=some o/\o.cls = .type "tuple"/\o.dict=none) \/
   (T="dict"/\((∃kvs,H p=some (.dK kvs))\/∃kvs,H p=some (.dT kvs)))\/(T="set"/\∃S n,H p=some (.set S n))
 |_=>False
theorem aAu {pins:List (Addr×Obj)}{σ:St}{H:Hp}{s:Shared}{T:String}{x:V}{v:Value}(I:Inv X pins σ H s)(r:RelV x v)(ty:tyV X.K T x H) :
  s.TypeIs v T/\∀a,v = .ref a->∃ob,s.heap.get? a=some ob/\ob.dict=none:=by
 cases x with
 |str z=>
  obtain⟨t,rfl⟩:=r
  cases (show T="str" from ty)
  exact⟨oq s z t,λ_ e=>nomatch e⟩
 |int i=>
  obtain⟨t,rfl⟩:=r
  cases (show T="int" from ty)
  exact⟨typeIs_int s i t,λ_ e=>nomatch e⟩
 |ref p=>
  cases r
  rcases ty with⟨rfl,xs,hq⟩ | ⟨rfl,o,hk,hc,hd⟩ | ⟨rfl,hk⟩ | ⟨rfl,S,n,hk⟩
  ·obtain⟨its,_,pl,_⟩:=I.list hq
   refine⟨pl.isList.typeIs,λa e=>?_⟩
   cases e
   obtain⟨o,n,e,c,hd,_⟩:=pl
   exact⟨o,e,hd⟩
  ·refine⟨⟨o,I.kIn p o hk,hc⟩,λa e=>?_⟩
   cases e
   exact⟨o,I.kIn _ o hk,hd⟩
  ·have z:∃o,s.heap.get? p=some o/\o.ExactDict:=by
    rcases hk with⟨kvs,hk⟩ | ⟨kvs,hk⟩
    ·obtain⟨_,_,_,_,o,_,_,e,ex,_⟩:=I.hok p _ hk
     exact⟨o,e,ex⟩
    ·obtain⟨_,_,_,_,o,_,_,e,ex,_⟩:=I.hok p _ hk
     exact⟨o,e,ex⟩
   obtain⟨o,e,ex⟩:=z
   refine⟨⟨o,e,ex.1⟩,λa e2=>?_⟩
   cases e2
   exact⟨o,e,ex.2.1⟩
  ·obtain⟨o,_,_,_,e,ex,_⟩:=I.hok p _ hk
   refine⟨⟨o,e,ex.1⟩,λa e2=>?_⟩
   cases e2
   exact⟨o,e,ex.2.1⟩
 |_=>exact fg ty
def aDz (K:aa) (T:String) (r:V->List V->Hp->VK->Prop) (to:TE):TE:=λσ H Q=>to σ H λx H1=>tyV K T x H1/\r x [] H1 Q
def tBM (K:aa) (T:String) (r:V->List V->Hp->VK->Prop) (to:TE) (t:TA):TE:=λσ H Q=>to σ H λx H1=>tyV K T x H1/\t σ H1 λxs H2=>r x xs H2 Q
variable {o e:Expr}{es:List Expr}{to:TE}{t:TA}{name:Str}{apos cpos:Pos}{T id:String}{r:V->List V->Hp->VK->Prop}
theorem aCp (pa:PlainAttrs T)(slot:Slot T name id)(hty:typeOf (.builtin id)=pure (.type "method_descriptor"))(hm:MtR X id r)(ho:PE X o to)
  (hbase:j0 o name X.env (eval o X.env)=eval o X.env:=by rfl) (hline:(apos.endLine == cpos.line)=true:=by rfl):PE X (.Call (.Attribute o name apos) [] [] cpos) (aDz X.K T r to):=by
 intro pins s σ H Q I h
 refine wpAny_Call_method0_late hbase hline (thn (ho pins s σ H _ I h) λv s1 ⟨x,H1,I1,r1,ty,q1⟩=>?_)
 obtain⟨h1,h2⟩:=aAu I1 r1 ty
 exact⟨T,id,pa,slot,hty,h1,h2,j9 rfl (PySem.evalArgs_none (hm pins s1 σ H1 x [] v [] Q I1 r1 .nil q1))⟩
theorem aDO (pa:PlainAttrs T)(slot:Slot T name id)(hty:typeOf (.builtin id)=pure (.type "method_descriptor"))(hm:MtR X id r)(ho:PE X o to)(ha:PA X (e :: es) t)
  (hbase:j0 o name X.env (eval o X.env)=eval o X.env:=by rfl)
  (hfew:((jg cpos (cx (e :: es) X.env)).all (λx=>!x.1) && (backToKw cpos (vg [] X.env)).all (λx=>x.1.isSome)
   && decide ((e :: es).length+([]:List Keyword).length+(if([]:List Keyword).isEmpty then 0 else 1)<30))=true:=by rfl)
  (hline:(apos.endLine == cpos.line)=true:=by rfl) (hs:cx (e :: es) X.env=(false,eval e X.env) :: cx es X.env:=by rfl) (hplain:(jg cpos (cx es X.env)).any (·.1)=false:=by rfl) :
  PE X (.Call (.Attribute o name apos) (e :: es) [] cpos) (tBM X.K T r to t):=by
 intro pins s σ H Q I h
 refine wpAny_Call_method_late hbase hfew hline rfl (thn (ho pins s σ H _ I h) λv s1 ⟨x,H1,I1,r1,ty,q1⟩=>?_)
 obtain⟨h1,h2⟩:=aAu I1 r1 ty
 refine⟨T,id,pa,slot,hty,h1,h2,?_⟩
 have hA:=ha cpos pins s1 σ H1 _ I1 q1
 rw[hs] at hA ⊢
 refine j9 (by show(false || (jg cpos (cx es X.env)).any (·.1))=false;rw[hplain] <;> rfl) (lq ?_)
 exact thn hA λus s2 ⟨vs,H2,I2,r2,q2⟩=>hm pins s2 σ H2 x vs v us Q I2 r1 r2 q2
end
def MtM (X:Cx) (id:String) (r:V->List V->Hp->VK->Prop):Prop:=
 ∀(pins:List (Addr×Obj)) (s:Shared) (σ:St) (H:Hp) (x:V) (xs:List V) (v:Value) (us:List Value) (Q:VK),Inv X pins σ H s->RelV x v->Vals xs us->r x xs H Q ->
  wpAny (model X.prog X.w) X.A (call (.builtin id) (v :: us)) (EP X pins σ Q) X.xe s
theorem Vals.one:∀{x:V}{us:List Value},Vals [x] us->∃u,us=[u]/\RelV x u
 |_,_, .cons r .nil=>⟨_,rfl,r⟩
theorem Vals.two:∀{x y:V}{us:List Value},Vals [x,y] us->∃u v,us=[u,v]/\RelV x u/\RelV y v
 |_,_,_, .cons r (.cons q .nil)=>⟨_,_,rfl,r,q⟩
theorem Vals.rep {xs:List V}{us:List Value}(h:Vals xs us):∀k:Nat,Vals (dz k xs).flatten (dz k us).flatten
 |0 => .nil
 |k+1=>by
  rw[g5,g5,kr,kr]
  exact Vals.append h (Vals.rep h k)
theorem qA (its:List Value):∀(k:Nat) (acc:List Value),
  List.foldl (λx1 x2=>x1++x2) acc.toArray (dz k its.toArray)=(acc++(dz k its).flatten).toArray
 |0,acc=>by simp
 |k+1,acc=>by
  have e:acc.toArray++its.toArray=(acc++its).toArray:=by simp
  have e2:(acc++its)++(dz k its).flatten=acc++(dz (k+1) its).flatten:=by
   rw[g5,kr,i4]
  rw[<- e2,<- qA its k (acc++its),<- e,g5,List.foldl_cons]
section
variable {X:Cx}{pins:List (Addr×Obj)}{σ:St}{H:Hp}{s:Shared}{l b:Addr}{xs ys zs:List V}
theorem Inv.lset {its its':List Value}{n:Nat}{f:Array Value->Array Value}{t':Nat}(I:Inv X pins σ H s)(hH:H l=some (.lst xs))
  (e:s.heap.get? l=some { cls := .type "list",data := .seq its.toArray n }) (hf:f its.toArray=its'.toArray) (hv:Vals ys its') (hz:ys.length<=cb) :
  Inv X pins σ (upd H l (.lst ys)) { s with heap:=s.heap.update l (mh f),toks:=t' }:=by
 have q:=PySem.IsL.update e f
 rw[hf] at q
 refine I.write (x:=l) (e:=l) (by rw[hH];exact trivial) (.inl rfl) (λb' u hb hu=>(fh s.heap (mh f) (ke hb)).trans hu) ⟨_,q⟩ ?_
 exact⟨hz,its',_,hv,q⟩
theorem Inv.lnew {its:List Value}{t':Nat}(I:Inv X pins σ H s)(hv:Vals ys its)(hz:ys.length<=cb) :
  Inv X pins σ (upd H s.heap.objs.size (.lst ys)) { s with heap:=s.heap.push { cls := .type "list",data := .seq its.toArray },toks:=t' }:=
 I.laid (λ_ _ q=>ak _ q) (av _) ⟨hz,its,0,hv,ck _ rfl⟩
theorem Inv.fresh (I:Inv X pins σ H s):H s.heap.objs.size=none:=I.hok.fresh (av _)
theorem Inv.lstM (I:Inv X pins σ H s)(hH:H l=some (.lst xs)):xs.length<=cb/\∃(its:List Value) (n:Nat),Vals xs its/\xs.length=its.length/\s.heap.get? l=some { cls := .type "list",data := .seq its.toArray n }:=by
 obtain⟨z,its,n,r,e⟩:=I.hok l _ hH
 exact⟨z,its,n,r,r.length,e⟩
theorem aAh {n:Nat}(h:n<=cb):jx n=false:=by
 unfold jx
 exact decide_eq_false (by omega)
end
section
variable {X:Cx}
def gU:V->List V->Hp->VK->Prop:=λx vs H Q=>∃l xs y,x = .ref l/\vs=[y]/\H l=some (.lst xs)/\xs.length<cb/\Q .non (upd H l (.lst (xs++[y])))
theorem dR:MtM X "list.append" gU:=by
 intro pins s σ H x vs v us Q I rx rv h
 obtain⟨l,xs,y,rfl,rfl,hH,hz,q⟩:=h
 cases rx
 obtain⟨u,rfl,ru⟩:=rv.one
 obtain⟨z,its,n,r,hl,e⟩:=I.lstM hH
 refine ot F.slot_list_append ⟨_,e,rfl⟩ F.entry_list_append (F.args_list_append_2 _ _) (PySem.list_append l its.toArray n u (by rw[au];omega)) ⟨e,?_⟩
 refine⟨.non,_,I.lset (its':=its++[u]) hH e (by simp) (r.append (.cons ru .nil)) ?_,rfl,q⟩
 rw[aq,df]
 omega
def aEc:R2:=λx y H Q=>∃l b xs zs,x = .ref l/\y = .ref b/\H l=some (.lst xs)/\H b=some (.lst zs)/\xs.length+zs.length<=cb/\∀p,H p=none->Q (.ref p) (upd H p (.lst (xs++zs)))
theorem aCc:OpR X (iw .Add) aEc:=by
 intro pins s σ H x y v u Q I rx ry h
 obtain⟨l,b,xs,zs,rfl,rfl,hH,hB,hz,q⟩:=h
 cases rx
 cases ry
 obtain⟨z,its,n,r,hl,e⟩:=I.lstM hH
 obtain⟨z2,its2,n2,r2,hl2,e2⟩:=I.lstM hB
 refine PySem.P.add_list e e2 ?_ (by rw[au,au];omega)
 have ea:its.toArray++its2.toArray=(its++its2).toArray:=by simp
 rw[ea]
 exact⟨.ref _,_,I.lnew (t':=s.toks) (r.append r2) (by rw[aq];omega),rfl,q _ I.fresh⟩
def aEr:R2:=λx y H Q=>∃l k xs,x = .ref l/\y = .int k/\H l=some (.lst xs)/\-(2 ^ 63)<=k/\k<2 ^ 63/\xs.length*k.toNat<=cb /\
 ∀p,H p=none->Q (.ref p) (upd H p (.lst (dz k.toNat xs).flatten))
theorem aAO {α:Type}(xs:List α)(k:Nat):(dz k xs).flatten.length=k*xs.length:=by
 induction k with
 |zero=>simp
 |succ k ih=>rw[g5,kr,aq,ih,Nat.succ_mul,Nat.add_comm]
theorem aCK:OpR X (iw .Mult) aEr:=by
 intro pins s σ H x y v u Q I rx ry h
 obtain⟨l,k,xs,rfl,rfl,hH,h1,h2,hz,q⟩:=h
 cases rx
 obtain⟨t,rfl⟩:=ry
 obtain⟨z,its,n,r,hl,e⟩:=I.lstM hH
 have hlen:its.toArray.size*k.toNat<=cb:=by rw[au,<- hl];exact hz
 have hcap:¬ its.toArray.size*k.toNat > (2 ^ 63 - 1) / 8:=by
  have:(cb:Nat)<=(2 ^ 63 - 1) / 8:=by decide
  omega
 have hfit:¬ (!Builtin.List.listFitsIndex k)=true:=by
  rw[fitsIndex_both h1 h2]
  exact bq
 have hlong:¬ jx (its.toArray.size*k.toNat)=true:=by
  rw[aAh hlen]
  exact bq
 have hnew:List.foldl (λx1 x2=>x1++x2) #[] (dz (if its.toArray.isEmpty=true then 0 else k.toNat) its.toArray)=(dz k.toNat its).flatten.toArray:=by
  have f0:∀m:Nat,List.foldl (λx1 x2=>x1++x2) #[] (dz m its.toArray)=(dz m its).flatten.toArray:=λm=>by
   have:=qA its m []
   rw[qy] at this
   exact this
  rw[f0]
  cases its with
  |nil=>simp
  |cons a r'=>rw[if_neg (by simp)]
 refine wpAny_binaryOp_repeat_ref (T:="list") (U:="int") (by decide) ⟨_,e,rfl⟩ (λs'=>typeIs_int s' k t) noFill_list_mul F.fills_int_mul F.slot_int_rmul repeat_list F.slot_int_index.lookup
  (ot F.slot_int_rmul (typeIs_int s k t) F.entry_int_rmul (F.args_int_rmul_2 _ _) (int___rmul___int_list k t l its.toArray n)
   ⟨e,rfl,⟨_,e,rfl⟩,ot F.slot_list_mul ⟨_,e,rfl⟩ F.entry_list_mul (F.args_list_mul_2 _ _) (AutoListH.list___mul___list_int_3 l its.toArray n k t hfit hcap hlong) ⟨e,?_⟩⟩)
 rw[hnew]
 exact⟨.ref _,_,I.lnew (t':=s.toks) (r.rep k.toNat) (by rw[aAO,Nat.mul_comm];exact hz),rfl,q _ I.fresh⟩
end
section
variable {prog:Program}{w:World}{A:Around}{E:Value->Shared->Prop}{s:Shared}
end
section
variable {X:Cx}
end
end L2
namespace Att
open PySem PySem.W PySem.Calls PyProof.Rows
theorem kR {P:Params}{h:Heap}:∀(ns:List Int) (vs:List Value),WellAll P h vs (ns.map WData.int)->IntsAre vs ns:=by
 intro ns
 induction ns with
 |nil=>
  intro vs w
  rw[List.map_nil] at w
  cases w
  exact .nil
 |cons n ns ih=>
  intro vs w
  rw[e6] at w
  cases w with
  |cons a b=>
   cases a
   exact .cons _ _ (ih _ b)
theorem wQ {l:OpenLaw}{n:Nat}(hn:l.most=some n){P:Params}{h:Heap}{args:List WData}{vals:List Value}
  (hpre:l.row.toRowW.claim.pre args=true) (hwl:WellAll P h vals args) :
  ∃a vs ns,vals=[Value.ref a]/\args=[WData.list (ns.map WData.int)]/\h.get? a=some { cls := .type "list",data := .seq vs.toArray }/\IntsAre vs ns/\ns.length<=n:=by
 have hsh:WShape.hasAll [] args [.list .int]=true:=(pre_splitW hpre).1
 have hc:l.pre.holds [] { args:=args }=true:=(pre_splitW hpre).2
 obtain⟨d,r,rfl,h1,h2⟩:=hasAllW_cons hsh
 obtain rfl:=hasAllW_nil h2
 obtain⟨xs,rfl,h3⟩:=hasW_list h1
 obtain⟨ns,rfl⟩:=items_int h3
 have hlen:ns.length<=n:=by
  unfold OpenLaw.pre at hc
  have h4:(WTm.not (.lt (.lit (.int (n:Int))) (.len (.arg 0)))).holds [] { args:=[.list (ns.map .int)] }=true:=by
   have h4:=(holds_andW hc).1
   rw[hn] at h4
   exact h4
  have h5:=condW_of h4 (w_not (w_lt w_lit (w_len_list (w_arg rfl))))
  rw[af] at h5
  refine Nat.le_of_not_lt λq=>?_
  have q':(n:Int)<((ns.length:Nat):Int):=by omega
  first
   | (rw[decide_eq_true q'] at h5;exact absurd h5 (by decide))
   | (simp at h5;omega)
 cases hwl with
 |cons w1 w2=>
  cases w2
  cases w1 with
  |list ho hall=>exact⟨_,_,ns,rfl,rfl,ho,kR ns _ hall,hlen⟩
theorem wB (l:OpenLaw)(args:List WData):l.row.toRowW.claim.post args (.bool true) args=true:=
 postW_of (r:=l.row.toRowW) (X:=(true == true))
  (show WShape.has [] (.bool true) .bool=true by first | rfl | decide | simp[WShape.has,WShape.arms,WShape.armsAll])
  (show(WTm.eq .res (.lit (.bool true))).value [] { args:=args,res:=some (.bool true),after:=args }=some (.bool (true == true)) from w_eq_bool (w_res rfl) w_lit) rfl
theorem attach_call {l:OpenLaw}{n:Nat}{q:Program}{loose:List Str}{XP:(Str->Option Value)->Heap->Prop}{YP:World->Heap->Prop}{d:DefRec}
  (hn:l.most=some n) (hdf:d.params.defaults=[])
  (call:∀(w:World) (s₀ s₁:Shared) (mg mb:Str->Option Value) (fa:Addr) (o:Obj) (pm cd doc:Value) (a:Addr) (vs:List Value) (ns:List Int),
   Ground q loose [] XP w s₀ mg mb s₁.heap->YP w s₁.heap ->
   s₁.heap.get? fa=some o->o.data = .func (docDef d.name d.params d.body d.scope pm cd doc)->s₁.heap.CodeRec cd d.name->mg d.name=some (.ref fa) ->
   s₁.heap.get? a=some { cls := .type "list",data := .seq vs.toArray }->IntsAre vs ns->ns.length<=n->s₁.gens=#[] ->
   pj (model l.prog w) um (.call (.ref fa) ⟨[.ref a],[]⟩) (λr s'=>r = .ok (.ret (.bool true))/\OldK s₁.heap s'.heap/\s'.os=s₁.os/\n5 s'.gens) s₁) :
  WalkO q loose XP YP l.row.toRowW d [] (λf vs=>PySem.call f vs):=by
 intro w s₀ s₁ mg mb G Y fa o pm cd doc dV kV ho hd hcd hD hmg hg args vals as hpre hlay hrd hwl hlo
 obtain rfl:dV = .none:=Dflts.none hD hdf
 obtain rfl:kV = .none:=Dflts.noKw hD
 obtain⟨a,vs,ns,rfl,rfl,hobj,hints,hlen⟩:=wQ hn hpre hwl
 refine enter_call (jd (call w s₀ s₁ mg mb fa o pm cd doc a vs ns G Y ho (fd_plain hd) hcd hmg hobj hints hlen hg) λr s' hq=>?_)
 obtain⟨rfl,h2,h3,h4⟩:=hq
 exact⟨.inl ⟨.bool true, .bool true,[],rfl,λ_=>rfl, .bool true,wB l _,λ_=>⟨List.Pairwise.nil,λ_ hm=>(nomatch hm)⟩⟩,h2,h3,h4⟩
section
variable {prog:Program}{w:World}{A:Around}{E:Value->Shared->Prop}{s:Shared}{K:Frag}
end
end Att
namespace L2
open PySem PySem.Spec PyProof.Rows
theorem qF:∀{vs:List Value}{ns:List Int},IntsAre vs ns->Vals (ns.map V.int) vs
 |_,_, .nil => .nil
 |_,_, .cons n t h => .cons ⟨t,rfl⟩ (qF h)
def aDP (H:Hp):Prop:=∀b,H b=none\/∃o xs,H b=some (.frz o (.lst xs))
theorem yO {P:Program}{w:World}{K:aa}{mg mb:Str->Option Value}{CX:CXT}{k:Nat}{fa a:Addr}{fd:FuncData}{x:Str}{sp:Sp}{s₁:Shared}{vs:List Value}{ns:List Int}
  (KX:K.In s₁.heap) (hns:s₁.heap.Ns az mg) (hb:s₁.heap.Ns uh mb) (hbb:∀x:Str,x≠"__name__"->mb x=d5 x) (hlim:s₁.heap.NoLimit) (hg:s₁.gens=#[])
  (ha:s₁.heap.get? a=some { cls := .type "list",data := .seq vs.toArray }) (hi:IntsAre vs ns) (hl:ns.length<=cb) (hr:Room k um)
  (F:∀base:Heap,K.In base->base.Ns az mg->FnOk P w K mg base CX k fa fd [x] sp) (hbind:∀(s:Shared) (u:Value),ve s fd ⟨[u],[]⟩ [(x,u)])
  (hsp:∀H:Hp,aDP H->SqL K H a (ns.map V.int)->sp [.ref a] H (λv _=>v = .bl true) λ_ _ _=>False)
  (hCX:∀H e s',CX [] H s₁ (λ_ _ _=>False) e s'->False) :
  pj (model P w) um (.call (.ref fa) ⟨[.ref a],[]⟩) (λr s'=>r = .ok (.ret (.bool true))/\OldK s₁.heap s'.heap/\s'.os=s₁.os/\n5 s'.gens) s₁:=by
 have rv:=qF hi
 have lenV:=hi.length
 have core:∀H:Hp,aDP H->SqL K H a (ns.map V.int)->HOk P w H s₁.heap->(∀b,H b≠none->b=a)->(H a≠none->K.lookup a=none) ->
   pj (model P w) um (.call (.ref fa) ⟨[.ref a],[]⟩) (λr s'=>r = .ok (.ret (.bool true))/\OldK s₁.heap s'.heap/\s'.os=s₁.os/\n5 s'.gens) s₁:=by
  intro H hO hS hok hA hK
  have base_of:∀{b:Addr}{o:Obj},s₁.heap.get? b=some o->H b=none->(zL s₁.heap H).get? b=some o:=λe n=>zT e n
  have noA:∀{b:Addr}{o:Obj}{es:Array DictEntry}{ep:Nat},s₁.heap.get? b=some o->o.data = .dict es ep->H b=none:=λ{b o es ep} e d=>by
   cases q:H b with
   |none=>rfl
   |some u=>
    have e':b=a:=hA b (by rw[q];simp)
    subst e'
    rw[ha] at e;cases e
    have d':Data.seq vs.toArray _=Data.dict es ep:=d
    cases d'
  have nsK:∀{b:Addr}{m:Str->Option Value},s₁.heap.Ns b m->(zL s₁.heap H).Ns b m:=λ{b m} ⟨o,es,ep,e,d,r⟩=>⟨o,es,ep,base_of e (noA e d),d,r⟩
  have hKb:K.In (zL s₁.heap H):=λb o e=>base_of (KX b o e) (by
   cases q:H b with
   |none=>rfl
   |some u=>
    have e':b=a:=hA b (by rw[q];simp)
    subst e'
    rw[hK (by rw[q];simp)] at e;cases e)
  have hM:Mod K mg (zL s₁.heap H):=⟨hKb,nsK hns,⟨mb,nsK hb,hbb⟩,let⟨mc,h1,h2⟩:=hlim;⟨mc,nsK h1,h2⟩⟩
  have e0:Env0 P w K mg (zL s₁.heap H) um [] s₁ H:=⟨rfl,hM,λb o e=>aAQ e,nj (wK _ _),trivial,λb hb=>absurd (show b∈([]:List Addr) from hb) (by simp),hok, .of_eq hg⟩
  refine jd ((F _ hKb (nsK hns)).run um [] s₁ H ⟨[.ref a],[]⟩ [.ref a] [.ref a] _ _ hr e0 (hbind s₁ (.ref a)) (.cons rfl .nil) (hsp H hO hS)) λr s' h=>?_
  cases r with
  |error e=>exact(hCX H e s' h).elim
  |ok fl=>
   cases fl with
   |next=>exact fg h
   |brk=>exact fg h
   |cont=>exact fg h
   |ret u=>
    obtain⟨v,H',os,bare,un,hok',r',q⟩:=h
    have q':v = .bl true:=q
    subst q'
    obtain rfl:u=Value.bool true:=r'
    refine⟨rfl,OldK.of_keep λb o e=>?_,os,bare⟩
    cases q:H b with
    |none=>exact un.keep b o e q (by intro z;exact absurd (show b∈([]:List Addr) from z) (by simp)) (by simp)
    |some u=>
     rcases hO b with z | ⟨ob,xs,z⟩
     ·rw[q] at z;cases z
     ·have z2:=un.frzs b ob _ z
      obtain⟨e1,_⟩:=hok b _ z
      obtain⟨e2,_⟩:=hok' b _ z2
      rw[e] at e1;cases e1
      exact e2
 cases hk:K.lookup a with
 |some o=>
  have e:=KX a o hk
  rw[ha] at e
  cases e
  refine core (λ_=>none) (λ_ => .inl rfl) (.inr ⟨_,vs.toArray,_,hk,rfl,rfl,rfl,by rw[au,lenV];exact hl,by simpa using rv⟩) (λb u z=>by have z':(none:Option HO)=some u:=z;cases z') (λb z=>absurd rfl z) λz=>absurd rfl z
 |none=>
  refine core (λb=>if b=a then some (.frz { cls := .type "list",data := .seq vs.toArray } (.lst (ns.map V.int))) else none) (λb=>?_) (.inl (.inr ⟨{ cls := .type "list",data := .seq vs.toArray },if_pos rfl⟩)) (λb u z=>?_) (λb z=>?_) λ_=>hk
  ·by_cases hb:b=a
   ·exact .inr ⟨_,_,if_pos hb⟩
   ·exact .inl (if_neg hb)
  ·by_cases hb:b=a
   ·have z':=(if_pos hb).symm.trans z
    cases z'
    subst hb
    exact⟨ha,by rw[af];exact hl,vs,_,rv,ha⟩
   ·have z':=(if_neg hb).symm.trans z
    cases z'
  ·by_cases hb:b=a
   ·exact hb
   ·exact absurd (if_neg hb) z
theorem aBx {l:PySem.W.OpenLaw}{n k:Nat}{q:Program}{loose:List Str}{XP:(Str->Option Value)->Heap->Prop}{YP:World->Heap->Prop}{d:DefRec}{K:Params->aa}{CX:World->CXT}{sp:World->Sp}{x:Str}
  (hn:l.most=some n) (hn2:n<=cb) (hdf:d.params.defaults=[]) (hr:Room k um)
  (hY:∀(w:World) (h:Heap),YP w h->(K w.params).In h)
  (F:∀(w:World) (mg:Str->Option Value) (fa:Addr) (h:Heap),(K w.params).In h->h.Ns az mg->mg d.name=some (.ref fa) ->
   ∃fd:FuncData,(∀(s:Shared) (u:Value),ve s fd ⟨[u],[]⟩ [(x,u)]) /\
    ∀base:Heap,(K w.params).In base->base.Ns az mg->FnOk l.prog w (K w.params) mg base (CX w) k fa fd [x] (sp w))
  (hsp:∀(w:World) (H:Hp) (a:Addr) (ns:List Int),ns.length<=n->aDP H->SqL (K w.params) H a (ns.map V.int)->sp w [.ref a] H (λv _=>v = .bl true) λ_ _ _=>False)
  (hCX:∀(w:World) (H:Hp) (s:Shared) (e:Value) (s':Shared),CX w [] H s (λ_ _ _=>False) e s'->False) :
  PySem.W.WalkO q loose XP YP l.row.toRowW d [] (λf vs=>PySem.call f vs):=by
 refine Att.attach_call hn hdf λw s₀ s₁ mg mb fa o pm cd doc a vs ns G Y ho hd hcd hmg hobj hints hlen hg=>?_
 have KX:=hY w _ Y
 obtain⟨fd,hb,hF⟩:=F w mg fa _ KX G.T.g hmg
 exact yO KX G.T.g G.T.b G.T.builtins G.T.nolimit hg hobj hints (bc hlen hn2) hr hF hb (λH hO hS=>hsp w H a ns hlen hO hS) λH e s'=>hCX w H s₁ e s'
def bM (s:Stmt):Arguments:=match s with
 | .FunctionDef _ a _ _ _ _ _ _ _ _=>a
 |_=>{ posonlyargs:=[],args:=[],vararg:=none,kwonlyargs:=[],kw_defaults:=[],kwarg:=none,defaults:=[] }
def bJ (s:Stmt):List Stmt:=match s with
 | .FunctionDef _ _ b _ _ _ _ _ _ _=>b
 |_=>[]
def aO (s:Stmt):Scope:=match s with
 | .FunctionDef _ _ _ _ _ _ sc _ _ _=>sc
 |_=>{ kind := .function,names:=[],isGenerator:=false,isCoroutine:=false }
abbrev CX0:CXT:=λ_ _ _ _ _ _=>False
abbrev E0:XK:=λ_ _ _=>False
theorem aCP {X:Cx}:vL CX0 X E0:=λ_ _ _ _ _ _ _ h=>h.elim
structure Fun (K:aa)(x qual:Str)(st:Stmt)(f:Addr)(fd:FuncData):Prop where
 ex:∃(oc:Value) (od:Option Addr) (kV doc pm:Value) (an:Option Addr) (cdv ct:Value) (osl:Array (Option Value)),
  fd=da x qual (bM st) (bJ st) (aO st) .none kV doc pm an cdv ct/\K.lookup f=some ⟨oc,od, .func fd,osl⟩/\cy K cdv qual=true
 kp:cw K (.ref f)=true
section
variable {P:Program}{w:World}{K:aa}{mg:Str->Option Value}{base:Heap}
theorem Fun.ok {x qual:Str}{st:Stmt}{f:Addr}{fd:FuncData}{N ps:List Str}{k:Nat}{sp:Sp}(F:Fun K x qual st f fd)(S:bO N ps (aO st))(len:∀vs H Q E,sp vs H Q E->vs.length=ps.length)
  (hbody:∀(cdv:Value) (A:Around) (outer:List Env) (s:Shared) (H:Hp) (vs:List V) (Q:VK) (E:XK),Room k (A.deeper (qw qual (aO st) s.heap.objs.size f cdv))->sp vs H Q E ->
   ∃t,PSs (rR CX0 P w K mg base N qual (aO st) f cdv A outer s H E).nox (bJ st) t/\t { nx:=λ_ H'=>Q .non H',rt:=Q } (bN N vs) H):FnOk P w K mg base CX0 (k+1) f fd ps sp:=by
 obtain⟨oc,od,kV,doc,pm,an,cdv,ct,osl,rfl,lk,hcd⟩:=F.ex
 refine aBS lk hcd S len λA outer s H vs Q E hr hsp=>?_
 obtain⟨t,h,q⟩:=hbody cdv A outer s H vs Q E hr hsp
 exact⟨t,h.nox,q⟩
theorem Fun.binds {x qual:Str}{st:Stmt}{f:Addr}{fd:FuncData}{ps:List Str}(F:Fun K x qual st f fd)
  (h:∀(kV doc pm:Value) (an:Option Addr) (cdv ct:Value) (us:List Value),us.length=ps.length->bindArgs (da x qual (bM st) (bJ st) (aO st) .none kV doc pm an cdv ct) ⟨us,[]⟩=pure (ps.zip us)):Binds K fd ps []:=by
 obtain⟨oc,od,kV,doc,pm,an,cdv,ct,osl,rfl,lk,hcd⟩:=F.ex
 exact .all (h kV doc pm an cdv ct)
theorem cQ {x qual:Str}{st:Stmt}{f:Addr}{oc:Value}{od an:Option Addr}{osl:Array (Option Value)}{kV doc pm cdv ct:Value}(l:K.lookup f=some ⟨oc,od, .func (da x qual (bM st) (bJ st) (aO st) .none kV doc pm an cdv ct),osl⟩)
  (c:cy K cdv qual=true) (k:cw K (.ref f)=true):Fun K x qual st f (da x qual (bM st) (bJ st) (aO st) .none kV doc pm an cdv ct):=⟨⟨oc,od,kV,doc,pm,an,cdv,ct,osl,rfl,l,c⟩,k⟩
end
section
variable {X:Cx}
theorem pv (i:Nat){x:Str}{pos:Pos}(hN:X.N[i]?=some x:=by rfl)(hv:Vis X.env.scope x:=by first | exact Or.inl rfl | exact Or.inr (Or.inl rfl) | exact Or.inr (Or.inr rfl))(hd:(x == ("__debug__" : Str))=false:=by decide)
  (hcd:(x == ("__classdict__" : Str))=false:=by decide):PE X (.Name x pos) (aH i):=aCW hN hv hd hcd
end
theorem pE {A B:Prop}(h:B):if false=true then A else B:=by
 rw[if_neg bq]
 exact h
theorem kK {A B:Prop}(h:A):if true=true then A else B:=by
 rw[if_pos rfl]
 exact h
theorem aDm {c A B:Prop}[Decidable c](h1:c->A)(h2:¬ c->B):if c then A else B:=by
 by_cases h:c
 ·rw[if_pos h]
  exact h1 h
 ·rw[if_neg h]
  exact h2 h
def Same (H H':Hp):Prop:=∀b o,H b=some o->H' b=some o
theorem Same.refl (H:Hp):Same H H:=λ_ _ h=>h
theorem Same.trans {H H1 H2:Hp}(a:Same H H1)(b:Same H1 H2):Same H H2:=λc o h=>b c o (a c o h)
theorem Same.seq {K:aa}{H H':Hp}{a:Addr}{xs:List V}(e:Same H H')(h:SqL K H a xs):SqL K H' a xs:=by
 rcases h with(h | ⟨o,h⟩) | h
 ·exact .inl (.inl (e _ _ h))
 ·exact .inl (.inr ⟨o,e _ _ h⟩)
 ·exact .inr h
section
variable {κ:Type}[DecidableEq κ]
end
section
variable {P:Program}{w:World}{H:Hp}{h:Heap}{a:Addr}
end
section
variable {X:Cx}{pins:List (Addr×Obj)}{σ:St}{H:Hp}{s:Shared}{a:Addr}{y v:V}{u r:Value}{o:Option V}{A:Around}{E:Value->Shared->Prop}
end
section
variable {X:Cx}{pins:List (Addr×Obj)}{σ:St}{H:Hp}{s:Shared}{a:Addr}{kvs:List (Key×V)}{k:Key}{u:Value}{A:Around}{E:Value->Shared->Prop}
end
section
variable {X:Cx}{o i e value:Expr}{pos pos' tpos:Pos}{td ty tv:TE}
end
section
variable {X:Cx}{pos:Pos}
end
section
variable {X:Cx}{pins:List (Addr×Obj)}{σ:St}{H:Hp}{s:Shared}{a:Addr}{y d:V}{u r:Value}{o:Option V}{A:Around}{E:Value->Shared->Prop}
end
section
variable {X:Cx}{o e f:Expr}{apos cpos:Pos}{td ty tx:TE}
end
section
variable {X:Cx}{pins:List (Addr×Obj)}{σ:St}{H:Hp}{s:Shared}{a:Addr}{kvs:List (Key×V)}{A:Around}{E:Value->Shared->Prop}
end
section
variable {X:Cx}{pins:List (Addr×Obj)}{σ:St}{H:Hp}{s:Shared}{a:Addr}{y:V}{u:Value}{A:Around}{E:Value->Shared->Prop}
end
section
variable {X:Cx}
end
section
variable {κ:Type}[DecidableEq κ]
end
def jE (J:It) (g:TG) (tb:TS):TS:=λD σ H=>∃W:Nat->Nat->St->Hp->Prop,(∃m,W 0 m σ H)/\∀i m σ H,W i m σ H ->
 (J.stop i H/\D.nx σ H)\/(J.go i H/\∃N:St->Hp->Prop,(∀σ' H',N σ' H'->∃m',m'<m/\W (i+1) m' σ' H')/\∀x H',J.yld i H x H'->g x σ H' λσ2 H2=>tb { D with nx:=N,ct:=N,bk:=D.nx } σ2 H2)
def tT (elt:Expr) (gens:List Comprehension) (scope:Scope) (pos:Pos) (d:Nat) (acc:Value) (env:Env) (k:Sem Fin):Sem Fin:=
 match gens[d+1]? with
 |some g'=>eval g'.iter env >>= λx=>ui g'.iter.pos >>= λ_=>kj g'.iter env x >>= λx=>sq [x] (vd x) >>= λi=>
   runOwn (.compStart (.ListComp elt gens scope pos) (d+1) i acc env) env >>= λ_=>k
 |none=>(eval elt env >>= λx=>call (.builtin "list.append") [acc,x] >>= λ_=>pure ()) >>= λ_=>k
theorem sO {elt target iter:Expr}{ifs:List Expr}{gens:List Comprehension}{scope:Scope}{pos:Pos}{d:Nat}(it acc:Value)(env:Env)(hg:gens[d]?=some ⟨target,iter,ifs,0⟩)
  (hn:∀g',gens[d+1]?=some g'->g'.is_async=0) :
  compTurn (.ListComp elt gens scope pos) d it acc env=(ui iter.pos >>= λ_=>u9 it >>= λr=>match r with
   |none=>pure (.done .next)
   |some v=>ml target it v >>= λ_=>uu target env v >>= λ_=>
    (forIn ifs true λc r=>if r=true then do let ok <- isTrue c env (eval c env);pure (ForInStep.yield ok) else pure (ForInStep.yield r)) >>= λok=>
     if ok=true then tT elt gens scope pos d acc env (again (.compLoop (.ListComp elt gens scope pos) d it acc env))
     else again (.compLoop (.ListComp elt gens scope pos) d it acc env)):=by
 unfold compTurn tT
 simp only[hg]
 cases h:gens[d+1]? with
 |none=>rfl
 |some g'=>
  obtain⟨t',i',f',a'⟩:=g'
  have e:a'=0:=hn _ h
  subst e
  rfl
def nM:List TT->TS->TS
 |[],tb=>tb
 |c :: r,tb=>fH c (nM r tb) aR
inductive PTs (X:Cx):List Expr->List TT->Prop
 |nil:PTs X [] []
 |cons {c:Expr}{cs:List Expr}{t:TT}{ts:List TT}:PT X c t->PTs X cs ts->PTs X (c :: cs) (t :: ts)
section
variable {X:Cx}
theorem sC {cs:List Expr}{s:Shared}{Q:Bool->Shared->Prop}{E:Value->Shared->Prop}(h:Q false s) :
  wpAny (model X.prog X.w) X.A (forIn cs false λc r=>if r=true then do let ok <- isTrue c X.env (eval c X.env);pure (ForInStep.yield ok) else pure (ForInStep.yield r)) Q E s:=by
 induction cs with
 |nil=>rw[n6];exact ay h
 |cons c cs ih=>
  rw[qz,if_neg bq]
  exact ae (ay ih)
theorem pR {tb:TS}{D:lF}{pins:List (Addr×Obj)}:∀{cs:List Expr}{ts:List TT},PTs X cs ts->∀{s:Shared}{σ:St}{H:Hp},Inv X pins σ H s->nM ts tb D σ H ->
  wpAny (model X.prog X.w) X.A (forIn cs true λc r=>if r=true then do let ok <- isTrue c X.env (eval c X.env);pure (ForInStep.yield ok) else pure (ForInStep.yield r))
   (λok s'=>∃H',Inv X pins σ H' s'/\if ok=true then tb D σ H' else D.nx σ H') X.xe s
 |_,_, .nil,s,σ,H,I,h=>by rw[n6];exact ay ⟨H,I,by rw[if_pos rfl];exact h⟩
 |_,_, .cons (cs:=cs) hc hr,s,σ,H,I,h=>by
  rw[qz,if_pos rfl]
  refine ae (ae (thn (hc pins s σ H _ I h) λb s1 ⟨H1,I1,q1⟩=>ay ?_))
  cases b with
  |true=>
   rw[if_pos rfl] at q1
   exact pR hr I1 q1
  |false=>
   rw[if_neg bq] at q1
   exact sC ⟨H1,I1,by rw[if_neg bq];exact q1⟩
end
def PB (X:Cx) (elt:Expr) (gens:List Comprehension) (scope:Scope) (pos:Pos) (d:Nat) (acc:Addr) (t:TS):Prop:=
 ∀(pins:List (Addr×Obj)) (s:Shared) (σ:St) (H:Hp) (D:lF) (k:Sem Fin) (Q:Fin->Shared->Prop) (E:Value->Shared->Prop),Inv X pins σ H s->t D σ H ->
  (∀s' σ' H',Inv X pins σ' H' s'->D.nx σ' H'->wpAny (model X.prog X.w) X.A k Q E s')->wpAny (model X.prog X.w) X.A (tT elt gens scope pos d (.ref acc) X.env k) Q E s
def gE (te:TE) (acc:Addr):TS:=λD σ H=>te σ H λx H1=>∃xs,H1 acc=some (.lst xs)/\xs.length<cb/\D.nx σ (upd H1 acc (.lst (xs++[x])))
section
variable {X:Cx}
theorem eL {elt:Expr}{gens:List Comprehension}{scope:Scope}{pos:Pos}{d:Nat}{acc:Addr}{te:TE}(hx:X.xe=λ_ _=>False)(he:PE X elt te)(hl:gens[d+1]?=none):PB X elt gens scope pos d acc (gE te acc):=by
 intro pins s σ H D k Q E I h hk
 unfold tT
 rw[hl]
 refine ae (ae (di (he pins s σ H _ I h) (λv s1 ⟨x,H1,I1,r1,xs,ha,hz,q⟩=>?_) λ_ _ z=>by rw[hx] at z;exact z.elim))
 have hm:=dR (X:=X) pins s1 σ H1 (.ref acc) [x] (.ref acc) [v] (λv H'=>v = .non/\D.nx σ H') I1 rfl (.cons r1 .nil) ⟨acc,xs,x,rfl,rfl,ha,hz,rfl,q⟩
 refine ae (di hm (λ_ s2 ⟨x2,H2,I2,r2,_,q2⟩=>ay (hk s2 σ H2 I2 q2)) λ_ _ z=>by rw[hx] at z;exact z.elim)
theorem xI {elt target iter:Expr}{ifs:List Expr}{gens:List Comprehension}{scope:Scope}{pos:Pos}{d:Nat}{acc it:Addr}{fp:List Addr}{tn:Nat->Heap->Prop}{J:It}{g:TG}{ts:List TT}{tb:TS}{D:lF}{pins:List (Addr×Obj)}{s:Shared}{σ:St}{H:Hp}
  (hx:X.xe=λ_ _=>False) (hc:X.calm=true) (hgd:gens[d]?=some ⟨target,iter,ifs,0⟩) (hn:∀g',gens[d+1]?=some g'->g'.is_async=0)
  (hg:PG X target g) (hts:PTs X ifs ts) (hb:PB X elt gens scope pos d acc tb)
  (T:aAr X.prog X.w X.K target J fp it tn) (I:Inv X pins σ H s) (st:tn 0 s.heap) (hf:∀b∈fp,rT X pins H b) (h:jE J g (nM ts tb) D σ H) :
  pj (model X.prog X.w) X.A (.compStart (.ListComp elt gens scope pos) d (.ref it) (.ref acc) X.env) (λr s'=>∃f,r = .ok f/\∃σ' H',Inv X pins σ' H' s'/\D.nx σ' H') s:=by
 have stat:∀{H':Hp},(∀b∈fp,H' b=none)->∀b∈fp,rT X pins H' b:=λhn b hb=>⟨hn b hb,(hf b hb).2⟩
 obtain⟨W,⟨m0,w0⟩,turn⟩:=h
 have E0:∀(e:Value) (s':Shared),X.xe e s'->notedBy (model X.prog X.w) X.A X.env (λe s'=>∃f,(Except.error e:qu) = .ok f/\∃σ' H',Inv X pins σ' H' s'/\D.nx σ' H') e s':=λe s' z=>by rw[hx] at z;exact z.elim
 have loop:pj (model X.prog X.w) X.A (.compLoop (.ListComp elt gens scope pos) d (.ref it) (.ref acc) X.env) (λr s'=>∃f,r = .ok f/\∃σ' H',Inv X pins σ' H' s'/\D.nx σ' H') s:=by
  refine codeAny_loop rfl (λn s'=>∃i σ' H',Inv X pins σ' H' s'/\tn i s'.heap/\(∀b∈fp,H' b=none)/\W i n σ' H') ?_ m0 ⟨0,σ,H,I,st,λb hb=>(hf b hb).1,w0⟩
  rintro n s3 ⟨i,σ3,H3,I3,st3,fr3,w3⟩
  show wpAny _ X.A ((compTurn (.ListComp elt gens scope pos) d (.ref it) (.ref acc) X.env).onRaise (λx=>do t7 x X.env;theTreesLotGoes x)) _ _ s3
  refine wpAny_noted ?_
  rw[sO _ _ _ hgd hn]
  refine ae (ic (ae ?_))
  rcases turn i n σ3 H3 w3 with⟨stop,qn⟩ | ⟨go,N,hN,step⟩
  ·refine di (T.done X rfl rfl rfl hc i pins s3 σ3 H3 (λ_ _=>False) I3 (stat fr3) st3 stop) (λr s4 ⟨hr,I4⟩=>?_) (λ_ _ z=>z.elim)
   subst hr
   exact ay ⟨.next,rfl,σ3,H3,I4,qn⟩
  ·refine di (T.item X rfl rfl rfl hc i pins s3 σ3 H3 (λ_ _=>False) I3 (stat fr3) st3 go) (λr s4 ⟨u,hr,h4⟩=>?_) (λ_ _ z=>z.elim)
   subst hr
   refine ae (di h4 (λ_ s5 ⟨x,H5,I5,r5,y5,st5,fr5⟩=>?_) (λ_ _ z=>z.elim))
   have I5':=I5.pinned (stat fr5) (T.obj _ _ st5)
   refine ae (di (hg _ s5 σ3 H5 x u _ I5' r5 (step x H5 y5)) (λ_ s6 ⟨σ6,H6,I6,q6⟩=>?_) E0)
   refine ae (di (pR hts I6 q6) (λok s7 ⟨H7,I7,q7⟩=>?_) E0)
   have again:∀{σ7:St}{H7:Hp}{s7:Shared},Inv X (pins++qQ fp s5.heap) σ7 H7 s7->N σ7 H7->∃m,m<n/\∃i σ' H',Inv X pins σ' H' s7/\tn i s7.heap/\(∀b∈fp,H' b=none)/\W i m σ' H':=λ{σ7 H7 s7} I7 n7=>by
    obtain⟨m',hm,w7⟩:=hN σ7 H7 n7
    refine⟨m',hm,i+1,σ7,H7,I7.unpinned,T.keep _ _ _ st5 λb hb o e=>(I7.pin (b,o) (dj _ (dj _ (gA hb e)))).1,λb hb=>?_,w7⟩
    obtain⟨o,e,d⟩:=T.obj _ _ st5 b hb
    exact(I7.pin (b,o) (dj _ (dj _ (gA hb e)))).2.1
   cases ok with
   |false=>
    rw[if_neg bq] at q7 ⊢
    exact ay ⟨rfl,again I7 q7⟩
   |true=>
    rw[if_pos rfl] at q7 ⊢
    exact hb _ s7 σ6 H7 _ _ _ _ I7 q7 λs8 σ8 H8 I8 q8=>ay ⟨rfl,again I8 q8⟩
 refine codeAny_of_tree ?_
 show wpAny _ _ ((compStart (.ListComp elt gens scope pos) d (.ref it) (.ref acc) X.env).onRaise (λx=>do t7 x X.env;ui theWindowsPlace)) _ _ s
 refine wpAny_notedAt ?_
 have hcl:clausesOf (.ListComp elt gens scope pos)=gens:=rfl
 unfold compStart
 rw[hcl,hgd]
 show wpAny _ _ (ask >>= _) _ _ s
 refine ae (wpAny_askSetting (wpAny_ite ?_))
 split
 ·first
   |exact ae (ay (ay (And.intro rfl loop)))
   |exact ay (And.intro rfl loop)
 ·refine ae (uo ?_)
  show wpAny _ _ (ui iter.pos >>= _) _ _ s
  exact ae (ic (ae (T.self X.A 0 s _ _ st (ay (And.intro rfl loop)))))
end
def dU (cells:List (Str×Addr)):List (Str×NameKind)->List (Str×Addr)->List (Str×Addr)
 |[],acc=>acc
 | (n,k) :: r,acc=>if k == .free then dU cells r ((n,(cells.lookup n).getD 0) :: acc) else dU cells r acc
theorem mQ {scope:Scope}{env:Env}(h:∀x∈scope.names,x.2 = .free->(env.cells.lookup x.1).isSome=true):closureFor scope env=pure (dU env.cells scope.names []):=by
 have go:∀(names:List (Str×NameKind)) (acc:List (Str×Addr)),(∀x∈names,x.2 = .free->(env.cells.lookup x.1).isSome=true) ->
   (forIn names acc λx (r:List (Str×Addr))=>if x.2 == NameKind.free then(do let c <- cellOf env x.1;pure (ForInStep.yield ((x.1,c) :: r))) else pure (ForInStep.yield r):Sem (List (Str×Addr)))=pure (dU env.cells names acc):=by
  intro names
  induction names with
  |nil=>intro acc _;rw[n6];rfl
  |cons x r ih=>
   intro acc hh
   obtain⟨n,k⟩:=x
   rw[qz]
   unfold dU
   cases hk:k == NameKind.free with
   |false=>
    rw[if_neg bq,if_neg bq]
    exact ih acc λy hy=>hh y (aw _ hy)
   |true=>
    rw[if_pos rfl,if_pos rfl]
    obtain⟨c,hc⟩:=d8.mp (hh (n,k) dq (by simpa using hk))
    have e:cellOf env n=pure c:=by
     unfold cellOf
     rw[show env.cells.lookup n=some c from hc]
    show(do let x <- (do let c <- cellOf env n;pure (ForInStep.yield ((n,c) :: acc)));_)=_
    rw[e]
    rw[show((env.cells.lookup n).getD 0)=c by rw[show env.cells.lookup n=some c from hc];rfl]
    exact ih ((n,c) :: acc) λy hy=>hh y (aw _ hy)
 have:=go scope.names [] h
 unfold closureFor
 refine Eq.trans ?_ (congrArg (λm=>m >>= λr=>pure r) this |>.trans rfl)
 rfl
theorem lP {cells:List (Str×Addr)}{x:Str}:∀(names:List (Str×NameKind)) (acc:List (Str×Addr)),(x,NameKind.free)∉names->(dU cells names acc).lookup x=acc.lookup x
 |[],_,_=>rfl
 | (n,k) :: r,acc,h=>by
  unfold dU
  have hr:(x,NameKind.free)∉r:=λz=>h (aw _ z)
  cases hk:k == NameKind.free with
  |false=>rw[if_neg bq];exact lP r acc hr
  |true=>
   rw[if_pos rfl,lP r _ hr,d7]
   have e:k = .free:=by simpa using hk
   have ne:(x == n)=false:=by
    cases q:x == n with
    |false=>rfl
    |true=>exact absurd (by rw[beq_iff_eq.mp q,e];exact dq) h
   rw[ne]
theorem kJ {cells:List (Str×Addr)}{x:Str}{c:Addr}(hc:cells.lookup x=some c):∀(names:List (Str×NameKind)) (acc:List (Str×Addr)),(x,NameKind.free)∈names->(dU cells names acc).lookup x=some c
 |[],_,h=>by simp at h
 | (n,k) :: r,acc,h=>by
  unfold dU
  by_cases hr:(x,NameKind.free)∈r
  ·cases hk:k == NameKind.free with
   |false=>rw[if_neg bq];exact kJ hc r acc hr
   |true=>rw[if_pos rfl];exact kJ hc r _ hr
  ·rcases dc.mp h with e | e
   ·cases e
    rw[if_pos (by decide),lP r _ hr,d7]
    simp[hc]
   ·exact absurd e hr
theorem jC {cells:List (Str×Addr)}{x:Str}{c:Addr}:∀(names:List (Str×NameKind)) (acc:List (Str×Addr)),(∀y∈names,y.2 = .free->(cells.lookup y.1).isSome=true)->(x,c)∈dU cells names acc ->
  (x,c)∈acc\/((x,NameKind.free)∈names/\cells.lookup x=some c)
 |[],_,_,h => .inl h
 | (n,k) :: r,acc,hh,h=>by
  unfold dU at h
  have hr:∀y∈r,y.2 = .free->(cells.lookup y.1).isSome=true:=λy hy=>hh y (aw _ hy)
  cases hk:k == NameKind.free with
  |false=>
   rw[hk,if_neg bq] at h
   exact(jC r acc hr h).imp id λz=>⟨aw _ z.1,z.2⟩
  |true=>
   rw[hk,if_pos rfl] at h
   have ek:k = .free:=by simpa using hk
   rcases jC r _ hr h with z | z
   ·rcases dc.mp z with z | z
    ·cases z
     obtain⟨d,hd⟩:=d8.mp (hh (x,k) dq ek)
     exact .inr ⟨by rw[ek];exact dq,by rw[hd];rfl⟩
    ·exact .inl z
   ·exact .inr ⟨aw _ z.1,z.2⟩
theorem gW {cells:List (Str×Addr)}(inj:∀x y c,cells.lookup x=some c->cells.lookup y=some c->x=y):∀(names:List (Str×NameKind)) (acc:List (Str×Addr)),(names.map (·.1)).Nodup ->
  (∀y∈names,y.2 = .free->(cells.lookup y.1).isSome=true)->(∀p∈acc,cells.lookup p.1=some p.2/\p.1∉names.map (·.1))->(acc.Pairwise λx y=>x.2≠y.2)->(dU cells names acc).Pairwise λx y=>x.2≠y.2
 |[],_,_,_,_,h=>h
 | (n,k) :: r,acc,nd,hh,ha,h=>by
  unfold dU
  have hr:∀y∈r,y.2 = .free->(cells.lookup y.1).isSome=true:=λy hy=>hh y (aw _ hy)
  obtain⟨n1,n2⟩:=je.mp nd
  cases hk:k == NameKind.free with
  |false=>
   rw[if_neg bq]
   exact gW inj r acc n2 hr (λp hp=>⟨(ha p hp).1,λz=>(ha p hp).2 (aw _ z)⟩) h
  |true=>
   rw[if_pos rfl]
   have ek:k = .free:=by simpa using hk
   obtain⟨d,hd⟩:=d8.mp (hh (n,k) dq ek)
   have hd':cells.lookup n=some d:=hd
   refine gW inj r _ n2 hr (λp hp=>?_) (List.pairwise_cons.mpr ⟨λp hp e=>?_,h⟩)
   ·rcases dc.mp hp with e | hp
    ·subst e;exact⟨by rw[hd'];rfl,n1⟩
    ·exact⟨(ha p hp).1,λz=>(ha p hp).2 (aw _ z)⟩
   ·rw[hd'] at e
    have e':d=p.2:=e
    have:n=p.1:=inj n p.1 d hd' (by rw[e'];exact(ha p hp).1)
    exact(ha p hp).2 (by rw[<- this];exact dq)
theorem eJ {x:Str}{c:Addr}:∀(names:List (Str×NameKind)) (n:Nat) (acc:List (Str×Addr)),(x,c)∈gs n names acc->(n<=c/\(x,NameKind.cell)∈names)\/(x,c)∈acc
 |[],_,_,h => .inr h
 | (y,k) :: r,n,acc,h=>by
  unfold gs at h
  cases hk:k == NameKind.cell with
  |false=>
   rw[hk,if_neg bq] at h
   exact(eJ r n acc h).imp (λz=>⟨z.1,aw _ z.2⟩) id
  |true=>
   rw[hk,if_pos rfl] at h
   have ek:k = .cell:=by simpa using hk
   rcases eJ r (n+1) _ h with z | z
   ·exact .inl ⟨by omega,aw _ z.2⟩
   ·rcases dc.mp z with z | z
    ·cases z
     exact .inl ⟨av _,by rw[ek];exact dq⟩
    ·exact .inr z
theorem dW:∀(names:List (Str×NameKind)) (n:Nat) (acc:List (Str×Addr)),(∀p∈acc,p.2<n)->(acc.Pairwise λx y=>x.2≠y.2)->(gs n names acc).Pairwise λx y=>x.2≠y.2
 |[],_,_,_,h=>h
 | (y,k) :: r,n,acc,hl,h=>by
  unfold gs
  cases hk:k == NameKind.cell with
  |false=>rw[if_neg bq];exact dW r n acc hl h
  |true=>
   rw[if_pos rfl]
   refine dW r (n+1) _ (λp hp=>?_) (List.pairwise_cons.mpr ⟨λp hp e=>?_,h⟩)
   ·rcases dc.mp hp with e | hp
    ·subst e;exact jo _
    ·exact ku (hl p hp)
   ·have e':n=p.2:=e
    exact i7 _ (e' ▸ hl p hp)
theorem eX {x:Str}:∀(names:List (Str×NameKind)) (n:Nat) (acc:List (Str×Addr)),(x,NameKind.cell)∉names->(gs n names acc).lookup x=acc.lookup x
 |[],_,_,_=>rfl
 | (y,k) :: r,n,acc,h=>by
  unfold gs
  have hr:(x,NameKind.cell)∉r:=λz=>h (aw _ z)
  cases hk:k == NameKind.cell with
  |false=>rw[if_neg bq];exact eX r n acc hr
  |true=>
   rw[if_pos rfl,eX r _ _ hr,d7]
   have e:k = .cell:=by simpa using hk
   have ne:(x == y)=false:=by
    cases q:x == y with
    |false=>rfl
    |true=>exact absurd (by rw[beq_iff_eq.mp q,e];exact dq) h
   rw[ne]
theorem dS {x:Str}{c:Addr}:∀(names:List (Str×NameKind)) (h:Heap) (acc:List (Str×Addr)),(x,c)∈gs h.objs.size names acc->(x,c)∈acc\/(vh h names).IsCell c none
 |[],_,_,hm => .inl hm
 | (y,k) :: r,h,acc,hm=>by
  unfold gs at hm
  unfold vh
  cases hk:k == NameKind.cell with
  |false=>
   rw[hk,if_neg bq] at hm
   rw[if_neg bq]
   exact dS r h acc hm
  |true=>
   rw[hk,if_pos rfl] at hm
   rw[if_pos rfl]
   have:=dS (x:=x) (c:=c) r (h.push { cls := .type "cell",data := .cell none }) ((y,h.objs.size) :: acc) (by rw[gk];exact hm)
   rcases this with z | z
   ·rcases dc.mp z with z | z
    ·cases z
     exact .inr ⟨_,q9 r _ _ _ (ck _ rfl),rfl⟩
    ·exact .inl z
   ·exact .inr z
theorem cN {x:Str}{k:NameKind}:∀{names:List (Str×NameKind)},(names.map (·.1)).Nodup->(x,k)∈names->names.lookup x=some k
 |[],_,h=>by simp at h
 | (y,j) :: r,nd,h=>by
  obtain⟨n1,n2⟩:=je.mp nd
  rw[d7]
  rcases dc.mp h with e | e
  ·cases e;simp
  ·have ne:(x == y)=false:=by
    cases q:x == y with
    |false=>rfl
    |true=>exact absurd (dn.mpr ⟨(x,k),e,beq_iff_eq.mp q⟩) n1
   rw[ne]
   exact cN n2 e
theorem iO {scope:Scope}{env:Env}{x:Str}{k:NameKind}:(uq scope env).names.lookup x=some k->(k = .cell\/k = .free)->scope.names.lookup x=some .cell\/scope.names.lookup x=some .free:=by
 unfold uq
 show(scope.names.map _).lookup x=some k->_
 induction scope.names with
 |nil=>intro h;simp at h
 |cons p r ih=>
  obtain⟨n,j⟩:=p
  intro h hk
  rw[e6] at h
  rw[d7]
  by_cases hc:(j == NameKind.free && env.scope.kind == .function && env.kindOf n == some .cell)=true
  ·simp only[hc,if_true] at h
   rw[d7] at h
   cases q:x == n with
   |true=>
    have:j = .free:=by
     have:=(lr.mp (lr.mp hc).1).1
     simpa using this
    simp[this]
   |false=>rw[q] at h;simpa using ih h hk
  ·simp only[hc,ij,if_false] at h
   rw[d7] at h
   cases q:x == n with
   |true=>
    rw[q] at h
    simp only[Option.some.injEq] at h
    subst h
    rcases hk with e | e <;> simp[e]
   |false=>rw[q] at h;simpa using ih h hk
theorem rF {scope:Scope}{env:Env}{x:Str}(hf:env.scope.kind = .function):scope.names.lookup x=some .free->(uq scope env).names.lookup x=some .cell\/(uq scope env).names.lookup x=some .free:=by
 unfold uq
 show _->(scope.names.map _).lookup x=_\/(scope.names.map _).lookup x=_
 induction scope.names with
 |nil=>intro h;simp at h
 |cons p r ih=>
  obtain⟨n,j⟩:=p
  intro h
  rw[d7] at h
  rw[e6]
  cases q:x == n with
  |true=>
   rw[q] at h
   simp only[Option.some.injEq] at h
   subst h
   by_cases hc:(NameKind.free == NameKind.free && env.scope.kind == .function && env.kindOf n == some .cell)=true
   ·left;simp only[hc,if_true];rw[d7,q]
   ·right;simp only[hc,ij,if_false];rw[d7,q]
  |false=>
   rw[q] at h
   by_cases hc:(j == NameKind.free && env.scope.kind == .function && env.kindOf n == some .cell)=true
   ·simp only[hc,if_true];rw[d7,q];exact ih h
   ·simp only[hc,ij,if_false];rw[d7,q];exact ih h
def dZ (X:Cx) (N:List Str) (scope:Scope) (s:Shared) (H:Hp) (fp:List Addr):Cx where
 prog:=X.prog
 w:=X.w
 K:=X.K
 mg:=X.mg
 base:=X.base
 A:=X.A
 N:=N
 s₀:=s
 H₀:=H
 env:=compEnvC scope (gs (s.heap.objs.size+1) scope.names (dU X.env.cells scope.names [])) s.heap.objs.size X.env
 outer:=X.stack
 stack:=X.stack
 ex:=fp
 fn:=λx=>scope.names.lookup x == some .cell
 calm:=X.calm
 pn:=[]
 xe:=λ_ _=>False
def aDv (σ:St):Option Nat->Option V
 |none=>none
 |some j=>(σ[j]?).join
def iM (N:List Str) (names encl:List (Str×NameKind)) (N':List Str) (ix:List (Option Nat)):Bool:=
 decide ((names.map (·.1)).Nodup) && names.all (λp=>!(p.2 == NameKind.free) || (encl.lookup p.1 == some NameKind.cell || encl.lookup p.1 == some NameKind.free)) && ix.length == N'.length &&
  ((N'.zip ix).all λp=>match p.2 with
   |none=>true
   |some j=>N[j]? == some p.1 && names.lookup p.1 == some NameKind.free)
def gF (ix:List (Option Nat)) (wi:TI) (g:TG) (ts:List TT) (tb:Addr->TS):TE:=λσ H Q=>wi σ H λJ H1=>∀acc,H1 acc=none ->
 jE J g (nM ts (tb acc)) { nx:=λ_ H'=>Q (.ref acc) H',rt:=λ_ _=>False } (ix.map (aDv σ)) (upd H1 acc (.lst []))
section
variable {X:Cx}{elt target iter:Expr}{ifs:List Expr}{rest:List Comprehension}{scope:Scope}{pos:Pos}{N':List Str}{ix:List (Option Nat)}{wi:TI}{g:TG}{ts:List TT}{tb:Addr->TS}
theorem uV {pins:List (Addr×Obj)}{σ:St}{H:Hp}{s:Shared}{fp:List Addr}{Q:Env->Shared->Prop}{E:Value->Shared->Prop}(I:Inv X pins σ H s)(hok:iM X.N scope.names X.env.scope.names N' ix=true)(hk:scope.kind = .function)
  (hf:∀b∈fp,rT X pins H b) (hfo:∀b∈fp,∃o,s.heap.get? b=some o)
  (h:∀s',(∀b o,s.heap.get? b=some o->s'.heap.get? b=some o)->Inv (dZ X N' scope s H fp) [] (ix.map (aDv σ)) H s'->Q (newEnv scope s.heap.objs.size X.env.globals (gs (s.heap.objs.size+1) scope.names (dU X.env.cells scope.names [])) X.env.qual none .none (some X.env) uh) s') :
  wpAny (model X.prog X.w) X.A (sg scope X.env.globals (dU X.env.cells scope.names []) [] X.env.qual none .none (some X.env)) Q E s:=by
 have hok2:=hok
 simp only[iM,cg,decide_eq_true_eq,cp] at hok
 obtain⟨⟨⟨nd,hfr⟩,hlen⟩,hix⟩:=hok
 have hlen:ix.length=N'.length:=by simpa using hlen
 have isF:∀y∈scope.names,y.2 = .free->X.env.kindOf y.1=some .cell\/X.env.kindOf y.1=some .free:=λy hy e=>by
  have:=hfr y hy
  have:X.env.scope.names.lookup y.1=some .cell\/X.env.scope.names.lookup y.1=some .free:=by simpa[e] using this
  exact this
 have hasC:∀y∈scope.names,y.2 = .free->(X.env.cells.lookup y.1).isSome=true:=λy hy e=>by
  obtain⟨c,hc⟩:=I.ok.has y.1 (isF y hy e)
  rw[hc];rfl
 have oldC:∀x c,(x,c)∈dU X.env.cells scope.names []->(x,NameKind.free)∈scope.names/\X.env.cells.lookup x=some c:=λx c hm=>(jC _ _ hasC hm).resolve_left (by simp)
 have ltC:∀x c,X.env.cells.lookup x=some c->c<s.heap.objs.size:=λx c e=>by obtain⟨v,q⟩:=I.cell x c e;exact q.lt
 have apart:(gs (s.heap.objs.size+1) scope.names (dU X.env.cells scope.names [])).Pairwise λx y=>x.2≠y.2:=
  dW _ _ _ (λp hp=>ku (ltC p.1 p.2 (oldC p.1 p.2 hp).2)) (gW I.ok.inj _ _ nd hasC (by simp) List.Pairwise.nil)
 have fromC:∀x c,(gs (s.heap.objs.size+1) scope.names (dU X.env.cells scope.names [])).lookup x=some c->(s.heap.objs.size+1<=c/\(x,NameKind.cell)∈scope.names)\/((x,NameKind.free)∈scope.names/\X.env.cells.lookup x=some c):=λx c e=>
  (eJ _ _ _ (d0 e)).imp id λz=>oldC x c z
 have sz1:(s.heap.push { cls := .type "dict",data := .dict #[] }).objs.size=s.heap.objs.size+1:=gk ..
 simp only[sg,Option.isSome_some,if_true]
 refine ae (wpAny_alloc ?_)
 refine ae (wpAny_layCells _ (λname kind cells=>by cases hkc:kind == NameKind.cell <;> simp[hkc]) _ _ _ _ ?_)
 rw[show({ s with heap:=s.heap.push { cls := .type "dict",data := .dict #[] } }:Shared).heap.objs.size=s.heap.objs.size+1 from sz1]
 refine ae ?_
 rw[n6]
 refine ay (ay ?_)
 have keep:∀b o,s.heap.get? b=some o->(vh (s.heap.push { cls := .type "dict",data := .dict #[] }) scope.names).get? b=some o:=λb o e=>q9 _ _ b o (ak _ e)
 refine h _ keep ?_
 have kk:∀x:Str,(dZ X N' scope s H fp).env.kindOf x=(uq scope X.env).names.lookup x:=λ_=>rfl
 have emptyC:∀x c,(gs (s.heap.objs.size+1) scope.names (dU X.env.cells scope.names [])).lookup x=some c->∃v,(vh (s.heap.push { cls := .type "dict",data := .dict #[] }) scope.names).IsCell c v:=λx c e=>by
  have:=dS (x:=x) (c:=c) scope.names (s.heap.push { cls := .type "dict",data := .dict #[] }) (dU X.env.cells scope.names []) (by rw[sz1];exact d0 e)
  rcases this with z | z
  ·obtain⟨v,q⟩:=I.cell x c (oldC x c z).2
   exact⟨v,q.keeps keep⟩
  ·exact⟨none,z⟩
 refine⟨⟨I.ok.mod,hk,I.ok.glob,I.ok.blt,av _,λy z c h1 h2=>?_,λy hy=>?_,λy c hy e=>?_,I.ok.hd,I.ok.frames, .inl rfl,λb hb=>⟨?_,λx c e=>?_⟩,I.bs,bc I.ok.bsz I.sz,λb o e hb=>?_,λb hb hs=>?_,I.stack,I.stkFree⟩,
  rfl,I.bare,Un.kept keep,⟨λ_=>none,(Heap.Ns.new s.heap (.type "dict")).keeps (q9 _ _),λi x v e1 e2 e3=>?_⟩,emptyC,I.hok.fresh (av _),λy c e=>?_,λp hp=>absurd (show p∈([]:List (Addr×Obj)) from hp) (by simp),I.hok.kept keep,by rw[af];exact hlen⟩
 ·exact name_of_addr apart (d0 h1) (d0 h2)
 ·rw[kk] at hy
  have hy':scope.names.lookup y=some .cell\/scope.names.lookup y=some .free:=by
   rcases hy with q | q
   ·exact iO q (.inl rfl)
   ·exact iO q (.inr rfl)
  refine d8.mp (j7 _ _ _ ?_)
  rcases hy' with q | q
  ·exact .inl q
  ·have hm:=d0 q
   obtain⟨c,hc⟩:=d8.mp (hasC _ hm rfl)
   exact .inr (by rw[kJ hc _ _ hm];rfl)
 ·have hy:scope.names.lookup y=some .cell:=by simpa using(show(scope.names.lookup y == some NameKind.cell)=true from hy)
  rcases fromC y c e with z | z
  ·exact ou z.1
  ·have:=cN nd z.1
   rw[hy] at this;cases this
 ·obtain⟨o,ho⟩:=hfo b hb
  exact de (bj ho)
 ·rcases fromC x c e with z | z
  ·obtain⟨o,ho⟩:=hfo b hb
   exact ju (cf (bj ho) (ou z.1))
  ·exact(hf b hb).2.2.2.2.1 x c z.2
 ·rcases(hf b hb).2.2.2.1 with z | z
  ·exact I.ok.noex b o e z
  ·exact absurd (cf (bj (I.ok.bs b o e).1) z) (i7 _)
 ·rcases dc.mp (I.stkSub b hs) with z | z
  ·exact(hf b hb).2.1 z
  ·exact(hf b hb).2.2.1 z
 ·rw[bh] at e2
  cases hj:ix[i]? with
  |none=>rw[hj] at e2;cases e2
  |some oj=>
   rw[hj] at e2
   have e2:aDv σ oj=some v:=by simpa using e2
   cases oj with
   |none=>cases e2
   |some j=>
    have hv:σ[j]?=some (some v):=by
     have e2':(σ[j]?).join=some v:=e2
     cases q:σ[j]? with
     |none=>rw[q] at e2';cases e2'
     |some w=>rw[q] at e2';have:w=some v:=e2';rw[this]
    have hz:(x,some j)∈N'.zip ix:=by
     refine cu (i:=i) ?_
     rw[List.getElem?_zip_eq_some]
     exact⟨e1,hj⟩
    have:=hix _ hz
    simp only[cg,beq_iff_eq] at this
    obtain⟨n1,n2⟩:=this
    have hm:=d0 n2
    obtain⟨m,hn,hl⟩:=I.loc
    have kf:=isF (x, .free) hm rfl
    have vis:Vis X.env.scope x:=by
     rcases kf with q | q
     ·exact .inr (.inl q)
     ·exact .inr (.inr q)
    obtain⟨u,r,l⟩:=hl j x v n1 hv vis
    refine⟨u,r, .inr ?_⟩
    rcases l with⟨k1,_⟩ | ⟨_,c,hc,hcell⟩
    ·rcases kf with q | q <;> (rw[show X.env.kindOf x=some NameKind.local from k1] at q;cases q)
    ·refine⟨?_,c,?_,hcell.keeps keep⟩
     ·rw[kk];exact rF I.ok.kind n2
     ·show(gs _ _ _).lookup x=some c
      rw[eX,kJ hc _ _ hm]
      intro z
      have:=cN nd z
      rw[n2] at this;cases this
 ·rcases fromC y c e with z | z
  ·exact I.hok.fresh (ou z.1)
  ·exact I.freeC y c z.2
theorem nI {pins:List (Addr×Obj)}{σ:St}{H:Hp}{s:Shared}{it:Addr}{fp:List Addr}{tn:Nat->Heap->Prop}{J:It}{RR:Value->Addr->qu->Shared->Prop}{E:Value->Shared->Prop}{D:Addr->lF}
  (hc:X.calm=true) (hok:iM X.N scope.names X.env.scope.names N' ix=true) (hk:scope.kind = .function) (hn:∀g',rest[0]?=some g'->g'.is_async=0)
  (hg:∀s H fp,PG (dZ X N' scope s H fp) target g) (hts:∀s H fp,PTs (dZ X N' scope s H fp) ifs ts)
  (hb:∀s H fp acc,PB (dZ X N' scope s H fp) elt (⟨target,iter,ifs,0⟩ :: rest) scope pos 0 acc (tb acc))
  (I:Inv X pins σ H s) (T:aAr X.prog X.w X.K target J fp it tn) (st:tn 0 s.heap) (hf:∀b∈fp,rT X pins H b)
  (h:∀acc,H acc=none->jE J g (nM ts (tb acc)) (D acc) (ix.map (aDv σ)) (upd H acc (.lst [])))
  (hR:∀acc C s' H' σ',H acc=none->s.heap.objs.size<=C->Inv X pins σ H' s'->rT X pins H' C->(∃m,s'.heap.Ns C m)->(D acc).nx σ' H'->RR (.ref acc) C (.ok .next) s') :
  wpAny (model X.prog X.w) X.A (newList []) (λacc s₃=>wpAny (model X.prog X.w) X.A (sg scope X.env.globals (dU X.env.cells scope.names []) [] X.env.qual none .none (some X.env)) (λcenv s₄=>
   pj (model X.prog X.w) X.A (.compStart (.ListComp elt (⟨target,iter,ifs,0⟩ :: rest) scope pos) 0 (.ref it) acc { cenv with scope:=uq scope X.env }) (λr s'=>∃f,r = .ok f/\RR acc cenv.locals (.ok .next) s') s₄) E s₃) E s:=by
 refine gg ?_
 have hnone:H s.heap.objs.size=none:=I.hok.fresh (av _)
 have I3:Inv X pins σ (upd H s.heap.objs.size (.lst [])) { s with heap:=s.heap.push { cls := .type "list",data := .seq ([]:List Value).toArray } }:=
  I.laid (t':=s.toks) (λb u e=>ak _ e) (av _) ⟨aj _,[],0, .nil,ck _ rfl⟩
 have hlt:∀b∈fp,b<s.heap.objs.size:=λb hb=>by obtain⟨o,ho,_⟩:=T.obj 0 _ st b hb;exact bj ho
 have hf3:∀b∈fp,rT X pins (upd H s.heap.objs.size (.lst [])) b:=λb hb=>⟨by rw[aM (de (hlt b hb))];exact(hf b hb).1,(hf b hb).2⟩
 refine uV (fp:=fp) I3 hok hk hf3 (λb hb=>?_) λs4 keep I4=>?_
 ·obtain⟨o,ho,_⟩:=T.obj 0 _ st b hb
  exact⟨o,ak _ ho⟩
 have st4:tn 0 s4.heap:=T.keep 0 _ _ st λb hb o e=>keep b o (ak _ e)
 have size3:({ s with heap:=s.heap.push { cls := .type "list",data := .seq ([]:List Value).toArray } }:Shared).heap.objs.size=s.heap.objs.size+1:=gk ..
 have hf4:∀b∈fp,rT (dZ X N' scope { s with heap:=s.heap.push { cls := .type "list",data := .seq ([]:List Value).toArray } } (upd H s.heap.objs.size (.lst [])) fp) [] (upd H s.heap.objs.size (.lst [])) b:=λb hb=>
  ⟨(hf3 b hb).1,(I4.ok.exf b hb).1,I4.ok.exfs b hb, .inl hb,(I4.ok.exf b hb).2,λp hp=>absurd (show p∈([]:List (Addr×Obj)) from hp) (by simp)⟩
 refine jd (xI (X:=dZ X N' scope { s with heap:=s.heap.push { cls := .type "list",data := .seq ([]:List Value).toArray } } (upd H s.heap.objs.size (.lst [])) fp) rfl hc (d:=0) (gens:=⟨target,iter,ifs,0⟩ :: rest) rfl hn (hg _ _ _) (hts _ _ _) (hb _ _ _ _) T I4 st4 hf4 (h _ hnone)) λr s5 ⟨f,hr,σ5,H5,I5,q5⟩=>⟨f,hr,?_⟩
 have I6:Inv X pins σ H5 s5:=I3.call' (ch:=fp) (I5.os.trans rfl) I5.base I5.hok I5.bare λb hb=>⟨(hf3 b hb).2.2.2.1,(hf3 b hb).2.1,(hf3 b hb).2.2.2.2.1,(hf3 b hb).2.2.2.2.2⟩
 have hC:s.heap.objs.size<=(dZ X N' scope { s with heap:=s.heap.push { cls := .type "list",data := .seq ([]:List Value).toArray } } (upd H s.heap.objs.size (.lst [])) fp).env.locals:=by
  show s.heap.objs.size<=_
  exact bc (Nat.le_succ _) (nj size3.symm)
 refine hR _ _ s5 H5 σ5 hnone hC I6 (I3.fpOk (av _) I5.free) ?_ q5
 obtain⟨m,hm,_⟩:=I5.loc
 exact⟨m,hm⟩
theorem jT (hok:iM X.N scope.names X.env.scope.names N' ix=true):∀x∈scope.names,x.2 = .local->scope.names.lookup x.1=some .local:=by
 simp only[iM,cg,decide_eq_true_eq,cp] at hok
 intro x hx e
 obtain⟨n,k⟩:=x
 have e:k = .local:=e
 subst e
 exact cN hok.1.1.1 hx
theorem mF {pins:List (Addr×Obj)}{σ:St}{H:Hp}{s:Shared}(I:Inv X pins σ H s)(hok:iM X.N scope.names X.env.scope.names N' ix=true):closureFor scope X.env=pure (dU X.env.cells scope.names []):=by
 refine mQ λy hy e=>?_
 simp only[iM,cg,decide_eq_true_eq,cp] at hok
 have:=hok.1.1.2 y hy
 have:X.env.scope.names.lookup y.1=some .cell\/X.env.scope.names.lookup y.1=some .free:=by simpa[e] using this
 obtain⟨c,hc⟩:=I.ok.has y.1 this
 rw[hc];rfl
theorem eZ (hok:iM X.N scope.names X.env.scope.names N' ix=true)(hk:scope.kind = .function)(hc:X.calm=true)(hi:PI X target iter wi)
  (hg:∀s H fp,PG (dZ X N' scope s H fp) target g) (hts:∀s H fp,PTs (dZ X N' scope s H fp) ifs ts)
  (hb:∀s H fp acc,PB (dZ X N' scope s H fp) elt (⟨target,iter,ifs,0⟩ :: rest) scope pos 0 acc (tb acc))
  (hn:∀g',rest[0]?=some g'->g'.is_async=0:=by intro _ h;first | cases h;rfl | cases h) (hs:∀x,kj iter X.env x=pure x:=by intro _;rfl) :
  PE X (.ListComp elt (⟨target,iter,ifs,0⟩ :: rest) scope pos) (gF ix wi g ts tb):=by
 intro pins s σ H Q I h
 rw[eval_ListComp]
 refine ox (use:=none) rfl hs (mF I hok) hk (jT hok) (thn (hi pins s σ H _ I h) λxv s₁ h₁=>thn h₁ λitv s₂ h₂=>?_)
 obtain⟨it,fp,tn,J,H2,e,I2,T,st2,f2,q2⟩:=h₂
 subst e
 refine thn (nI (RR:=λacc C r s'=>compPost (model X.prog X.w) X.A X.xe none (EP X pins σ Q) acc C r s') hc hok hk hn hg hts hb I2 T st2 f2 q2 λacc C s' H' σ' ha hC I' fC hns q=>?_) λacc s3 h3=>thn h3 λcenv s4 h4=>jd h4 λr s5 ⟨f,hr,h5⟩=>?_
 ·obtain⟨m,hm⟩:=hns
  refine⟨m,hm,λh' hs'=>⟨.ref acc,H',I'.turned (t':=s'.toks) (λb o hb e=>(hs'.2 b hb).trans e) fC.1 fC.2.1 fC.2.2.2.1 fC.2.2.2.2.1 fC.2.2.2.2.2,rfl,q⟩⟩
 ·subst hr
  exact h5
theorem uX {i:Nat}{x:Str}{pos' spos:Pos}(hN:X.N.Nodup)(hix:X.N[i]?=some x)(hx:Loc X.env.scope x)(hok:iM X.N scope.names X.env.scope.names N' ix=true)(hk:scope.kind = .function)(hc:X.calm=true)(hi:PI X target iter wi)
  (hg:∀s H fp,PG (dZ X N' scope s H fp) target g) (hts:∀s H fp,PTs (dZ X N' scope s H fp) ifs ts)
  (hb:∀s H fp acc,PB (dZ X N' scope s H fp) elt (⟨target,iter,ifs,0⟩ :: rest) scope pos 0 acc (tb acc))
  (hsw:qt (.ListComp elt (⟨target,iter,ifs,0⟩ :: rest) scope pos) (some (.Name x pos')) spos.line X.env=pure true:=by rfl)
  (hf:X.fn x=true\/X.env.scope.names.lookup x=some .local:=by first | exact .inl rfl | exact .inr rfl | assumption)
  (hn:∀g',rest[0]?=some g'->g'.is_async=0:=by intro _ h;first | cases h;rfl | cases h) (hs:∀x,kj iter X.env x=pure x:=by intro _;rfl) :
  PS X (.Assign [.Name x pos'] (.ListComp elt (⟨target,iter,ifs,0⟩ :: rest) scope pos) spos) (cT (gF ix wi g ts tb) (aX i)):=by
 intro pins s σ H D I h
 rw[exec_Assign_Name_used _ _ _ _ hsw]
 refine ae (ic (ae ?_))
 show wpAny _ X.A (do let _ <- comprehension (.ListComp elt (⟨target,iter,ifs,0⟩ :: rest) scope pos) scope X.env _ (newList []) false (eval iter X.env) (some (uu (.Name x pos') X.env))) _ _ s
 refine ae (di (ox (use:=some (uu (.Name x pos') X.env)) (Q:=λ_ s'=>SP X pins D .next s') rfl hs (mF I hok) hk (jT hok) (thn (hi pins s σ H _ I h) λxv s₁ h₁=>thn h₁ λitv s₂ h₂=>?_)) (λ_ s' hq=>ay (ay hq)) λ_ _ e=>e)
 obtain⟨it,fp,tn,J,H2,e,I2,T,st2,f2,q2⟩:=h₂
 subst e
 refine thn (nI (RR:=λacc C r s'=>compPost (model X.prog X.w) X.A X.xe (some (uu (.Name x pos') X.env)) (λ_ s'=>SP X pins D .next s') acc C r s') hc hok hk hn hg hts hb I2 T st2 f2 q2 λacc C s' H' σ' ha hC I' fC hns q=>?_) λacc s3 h3=>thn h3 λcenv s4 h4=>jd h4 λr s5 ⟨f,hr,h5⟩=>?_
 ·obtain⟨m,hm⟩:=hns
  show wpAny _ X.A (uu (.Name x pos') X.env (.ref acc)) _ _ _
  refine wpAny_assign_Name (pZ I' hN hix hx (v := .ref acc) rfl (λs6 I6 ⟨a,hsb,ha6⟩=>?_) hf)
  have hCa:C≠a:=by
   rcases ha6 with z | z
   ·rw[z];exact fC.2.1
   ·exact(fC.2.2.2.2.1 x a z).symm
  refine⟨m,hm.sameBut hsb hCa,λh' hs'=>⟨_,H',I6.turned (t':=s6.toks) (λb o hb e=>(hs'.2 b hb).trans e) fC.1 fC.2.1 fC.2.2.2.1 fC.2.2.2.2.1 fC.2.2.2.2.2,q⟩⟩
 ·subst hr
  exact h5
end
theorem Same.tup {K:aa}{H H':Hp}{a:Addr}{xs:List V}(e:Same H H')(h:SqT K H a xs):SqT K H' a xs:=by
 rcases h with(h | ⟨o,h⟩) | h
 ·exact .inl (.inl (e _ _ h))
 ·exact .inl (.inr ⟨o,e _ _ h⟩)
 ·exact .inr h
inductive Dt where
 |non | bl (b:Bool) | int (i:Int) | str (x:Str) | tup (ds:List Dt) | lst (ds:List Dt)
mutual
def Sh (K:aa) (H:Hp):Dt->V->Prop
 | .non,v=>v = .non
 | .bl b,v=>v = .bl b
 | .int i,v=>v = .int i
 | .str x,v=>v = .str x
 | .tup ds,v=>∃a xs,v = .ref a/\SqT K H a xs/\ShL K H ds xs
 | .lst ds,v=>∃a xs,v = .ref a/\SqL K H a xs/\ShL K H ds xs
def ShL (K:aa) (H:Hp):List Dt->List V->Prop
 |[],xs=>xs=[]
 |d :: ds,xs=>∃x r,xs=x :: r/\Sh K H d x/\ShL K H ds r
end
mutual
def eqD:Dt->Dt->Bool
 | .non, .non=>true
 | .bl a, .bl b=>a == b
 | .int a, .int b=>a == b
 | .str a, .str b=>a == b
 | .bl a, .int b=>(if a then 1 else 0) == b
 | .int a, .bl b=>a == (if b then 1 else 0)
 | .tup ds, .tup es=>eqL ds es
 | .lst ds, .lst es=>eqL ds es
 |_,_=>false
def eqL:List Dt->List Dt->Bool
 |[],[]=>true
 |d :: ds,e :: es=>eqD d e && eqL ds es
 |_,_=>false
end
mutual
def dep:Dt->Nat
 | .tup ds=>pO ds+1
 | .lst ds=>pO ds+1
 |_=>0
def pO:List Dt->Nat
 |[]=>0
 |d :: ds=>max (dep d) (pO ds)
end
section
variable {K:aa}{H H':Hp}
mutual
theorem Sh.same (e:Same H H'):∀{d:Dt}{v:V},Sh K H d v->Sh K H' d v
 | .non,_,h=>h
 | .bl _,_,h=>h
 | .int _,_,h=>h
 | .str _,_,h=>h
 | .tup ds,_,⟨a,xs,h1,h2,h3⟩=>⟨a,xs,h1,e.tup h2,ShL.same e h3⟩
 | .lst ds,_,⟨a,xs,h1,h2,h3⟩=>⟨a,xs,h1,e.seq h2,ShL.same e h3⟩
theorem ShL.same (e:Same H H'):∀{ds:List Dt}{xs:List V},ShL K H ds xs->ShL K H' ds xs
 |[],_,h=>h
 |d :: ds,_,⟨x,r,h1,h2,h3⟩=>⟨x,r,h1,Sh.same e h2,ShL.same e h3⟩
end
theorem ShL.length:∀{ds:List Dt}{xs:List V},ShL K H ds xs->ds.length=xs.length
 |[],_,h=>by rw[show _=[] from h];rfl
 |d :: ds,_,⟨x,r,h1,h2,h3⟩=>by rw[h1,cz,cz,ShL.length h3]
theorem ShL.get:∀{ds:List Dt}{xs:List V}{j:Nat}{d:Dt},ShL K H ds xs->ds[j]?=some d->∃x,xs[j]?=some x/\Sh K H d x
 |[],_,_,_,_,h=>by simp at h
 |d :: ds,_,0,e,⟨x,r,h1,h2,h3⟩,h=>by
  have:d=e:=by simpa using h
  subst this
  exact⟨x,by rw[h1];rfl,h2⟩
 |d :: ds,_,j+1,e,⟨x,r,h1,h2,h3⟩,h=>by
  obtain⟨y,h4,h5⟩:=ShL.get (j:=j) h3 (by simpa using h)
  exact⟨y,by rw[h1];simpa using h4,h5⟩
theorem ShL.ints:∀(ns:List Int),ShL K H (ns.map Dt.int) (ns.map V.int)
 |[]=>rfl
 |n :: ns=>⟨.int n,ns.map V.int,rfl,rfl,ShL.ints ns⟩
theorem ShL.of_ints:∀{ns:List Int}{xs:List V},ShL K H (ns.map Dt.int) xs->xs=ns.map V.int
 |[],_,h=>h
 |n :: ns,_,⟨x,r,h1,h2,h3⟩=>by rw[h1,ShL.of_ints h3,show x=V.int n from h2];rfl
end
mutual
theorem oV:∀d:Dt,eqD d d=true
 | .non=>by unfold eqD;rfl
 | .bl b=>by unfold eqD;simp
 | .int b=>by unfold eqD;simp
 | .str b=>by unfold eqD;simp
 | .tup ds=>by unfold eqD;exact iD ds
 | .lst ds=>by unfold eqD;exact iD ds
theorem iD:∀ds:List Dt,eqL ds ds=true
 |[]=>by unfold eqL;rfl
 |d :: ds=>by unfold eqL;rw[oV d,iD ds];rfl
end
theorem iZ:∀{ds es:List Dt},eqL ds es=true->ds.length=es.length
 |[],[],_=>rfl
 |[],_ :: _,h=>by unfold eqL at h;cases h
 |_ :: _,[],h=>by unfold eqL at h;cases h
 |d :: ds,e :: es,h=>by
  unfold eqL at h
  rw[cz,cz,iZ (lr.mp h).2]
theorem gP (n:Nat)(f:Nat->Bool):(bu (n+1)).all f=(f 0 && (bu n).all λj=>f (j+1)):=by
 rw[ka,j3,ra]
 rfl
theorem lX:∀(ds es:List Dt),((bu (min ds.length es.length)).all (λj=>eqD (ds.getD j .non) (es.getD j .non)) && ds.length == es.length)=eqL ds es
 |[],[]=>by unfold eqL;rfl
 |[],e :: es=>by unfold eqL;simp
 |d :: ds,[]=>by unfold eqL;simp
 |d :: ds,e :: es=>by
  have ih:=lX ds es
  unfold eqL
  rw[<- ih,cz,cz,Nat.succ_min_succ,gP,Bool.and_assoc]
  congr 1
  congr 1
  simp
theorem pG {ds:List Dt}{j:Nat}{d:Dt}(h:ds[j]?=some d):dep d<=pO ds:=by
 induction ds generalizing j with
 |nil=>simp at h
 |cons e es ih=>
  unfold pO
  cases j with
  |zero=>
   have:e=d:=by simpa using h
   subst this
   exact Nat.le_max_left _ _
  |succ j=>exact bc (ih (by simpa using h)) (Nat.le_max_right _ _)
section
variable {X:Cx}{pins:List (Addr×Obj)}{σ:St}{H:Hp}{s:Shared}
theorem Inv.tl_ne (I:Inv X pins σ H s){a:Addr}{xs ys:List V}(h:SqT X.K H a xs)(h':SqL X.K H a ys):False:=by
 obtain⟨its,r,⟨o,e,c,n,d⟩,_⟩:=I.tuple h
 obtain⟨its',r',⟨o',n',e',c',_,d'⟩,_⟩:=I.list h'
 rw[e] at e';cases e'
 rw[c] at c';simp at c'
mutual
theorem Inv.sh_inj (I:Inv X pins σ H s):∀{d e:Dt}{v:V},Sh X.K H d v->Sh X.K H e v->d=e
 | .non,e,v,h,h'=>by
  have h:v = .non:=h
  subst h
  cases e <;> first | rfl | (exact absurd (show V.non=_ from h') (λz=>nomatch z)) | (obtain⟨_,_,z,_⟩:=h';cases z)
 | .bl b,e,v,h,h'=>by
  have h:v = .bl b:=h
  subst h
  cases e <;> first | (cases (show V.bl b=V.bl _ from h');rfl) | (exact absurd (show V.bl b=_ from h') (λz=>nomatch z)) | (obtain⟨_,_,z,_⟩:=h';cases z)
 | .int b,e,v,h,h'=>by
  have h:v = .int b:=h
  subst h
  cases e <;> first | (cases (show V.int b=V.int _ from h');rfl) | (exact absurd (show V.int b=_ from h') (λz=>nomatch z)) | (obtain⟨_,_,z,_⟩:=h';cases z)
 | .str b,e,v,h,h'=>by
  have h:v = .str b:=h
  subst h
  cases e <;> first | (cases (show V.str b=V.str _ from h');rfl) | (exact absurd (show V.str b=_ from h') (λz=>nomatch z)) | (obtain⟨_,_,z,_⟩:=h';cases z)
 | .tup ds,e,v,⟨a,xs,h1,h2,h3⟩,h'=>by
  subst h1
  cases e with
  |tup es=>
   obtain⟨a',xs',z,h2',h3'⟩:=h'
   cases z
   rw[I.tuple_inj h2' h2] at h3'
   rw[Inv.shL_inj I h3 h3']
  |lst es=>
   obtain⟨a',xs',z,h2',h3'⟩:=h'
   cases z
   exact(I.tl_ne h2 h2').elim
  |_=>exact absurd (show V.ref a=_ from h') (λz=>nomatch z)
 | .lst ds,e,v,⟨a,xs,h1,h2,h3⟩,h'=>by
  subst h1
  cases e with
  |lst es=>
   obtain⟨a',xs',z,h2',h3'⟩:=h'
   cases z
   rw[I.list_inj h2' h2] at h3'
   rw[Inv.shL_inj I h3 h3']
  |tup es=>
   obtain⟨a',xs',z,h2',h3'⟩:=h'
   cases z
   exact(I.tl_ne h2' h2).elim
  |_=>exact absurd (show V.ref a=_ from h') (λz=>nomatch z)
theorem Inv.shL_inj (I:Inv X pins σ H s):∀{ds es:List Dt}{xs:List V},ShL X.K H ds xs->ShL X.K H es xs->ds=es
 |[],[],_,_,_=>rfl
 |[],e :: es,_,h,⟨x,r,h1,_⟩=>by rw[show _=[] from h] at h1;cases h1
 |d :: ds,[],_,⟨x,r,h1,_⟩,h=>by rw[show _=[] from h] at h1;cases h1
 |d :: ds,e :: es,_,⟨x,r,h1,h2,h3⟩,⟨x',r',h1',h2',h3'⟩=>by
  rw[h1] at h1'
  cases h1'
  rw[Inv.sh_inj I h2 h2',Inv.shL_inj I h3 h3']
end
end
section
variable {X:Cx}{pins:List (Addr×Obj)}{σ:St}{H:Hp}{s:Shared}
open PySem.SeqAt
theorem kH {ds es:List Dt}{xs ys:List V}{us vs:List Value}(hs:ShL X.K H ds xs)(hr:Vals xs us)(hs':ShL X.K H es ys)(hr':Vals ys vs){A:Around}
  (h:∀(d e:Dt) (x y:V) (u v:Value),(∃j:Nat,ds[j]?=some d)->RelV x u->RelV y v->Sh X.K H d x->Sh X.K H e y->EqAt A s u v (eqD d e)) :
  ∀j (h1:j<us.toArray.size) (h2:j<vs.toArray.size),EqAt A s us.toArray[j] vs.toArray[j] (eqD (ds.getD j .non) (es.getD j .non)):=by
 intro j h1 h2
 have l1:=hs.length
 have l2:=hr.length
 have l3:=hs'.length
 have l4:=hr'.length
 have g1:j<us.length:=by simpa using h1
 have g2:j<vs.length:=by simpa using h2
 have e1:ds[j]?=some (ds.getD j .non):=by rw[ah,ai (by omega)];rfl
 have e2:es[j]?=some (es.getD j .non):=by rw[ah,ai (by omega)];rfl
 obtain⟨x,hx,sx⟩:=hs.get e1
 obtain⟨y,hy,sy⟩:=hs'.get e2
 obtain⟨u,hu,ru⟩:=hr.get hx
 obtain⟨v,hv,rv⟩:=hr'.get hy
 have q1:us.toArray[j]=u:=by
  rw[ai g1] at hu
  simpa using hu
 have q2:vs.toArray[j]=v:=by
  rw[ai g2] at hv
  simpa using hv
 rw[q1,q2]
 exact h _ _ x y u v ⟨j,e1⟩ ru rv sx sy
theorem Inv.eq_sh (I:Inv X pins σ H s):∀(n:Nat) (A:Around) (d e:Dt) (x y:V) (u v:Value),dep d<=n->A.units+n<cLine->RelV x u->RelV y v->Sh X.K H d x->Sh X.K H e y->RcAt A s u v (eqD d e)/\EqAt A s u v (eqD d e):=by
 intro n
 induction n with
 |zero=>
  intro A d e x y u v hd hu rx ry hx hy
  have hu0:A.units<cLine:=by omega
  cases d with
  |tup ds=>unfold dep at hd;omega
  |lst ds=>unfold dep at hd;omega
  |non=>
   obtain rfl:x = .non:=hx
   obtain rfl:u=Value.none:=rx
   cases e with
   |non=>obtain rfl:y = .non:=hy;obtain rfl:v=Value.none:=ry;unfold eqD;exact⟨RcAt.none_none,EqAt.same _⟩
   |bl b=>obtain rfl:y = .bl b:=hy;obtain rfl:v=Value.bool b:=ry;unfold eqD;exact⟨RcAt.none_bool b,EqAt.none_bool b⟩
   |int b=>obtain rfl:y = .int b:=hy;obtain⟨t,rfl⟩:=ry;unfold eqD;exact⟨RcAt.none_int b t,EqAt.none_int b t⟩
   |str b=>obtain rfl:y = .str b:=hy;obtain⟨t,rfl⟩:=ry;unfold eqD;exact⟨RcAt.none_str b t,EqAt.none_str b t⟩
   |tup es=>obtain⟨b,ys,rfl,hq,_⟩:=hy;obtain rfl:v=Value.ref b:=ry;obtain⟨its,_,p,_⟩:=I.tuple hq;unfold eqD;exact⟨RcAt.none_tuple (show s.heap.IsTuple b its.toArray from p) hu0,EqAt.none_tuple (show s.heap.IsTuple b its.toArray from p) hu0⟩
   |lst es=>obtain⟨b,ys,rfl,hq,_⟩:=hy;obtain rfl:v=Value.ref b:=ry;obtain⟨its,_,p,_⟩:=I.list hq;unfold eqD;exact⟨RcAt.none_list p.isList hu0,EqAt.none_list p.isList hu0⟩
  |bl a=>
   obtain rfl:x = .bl a:=hx
   obtain rfl:u=Value.bool a:=rx
   cases e with
   |non=>obtain rfl:y = .non:=hy;obtain rfl:v=Value.none:=ry;unfold eqD;exact⟨RcAt.bool_none a,EqAt.bool_none a⟩
   |bl b=>obtain rfl:y = .bl b:=hy;obtain rfl:v=Value.bool b:=ry;unfold eqD;exact⟨RcAt.bool_bool a b,EqAt.bool_bool a b⟩
   |int b=>obtain rfl:y = .int b:=hy;obtain⟨t,rfl⟩:=ry;unfold eqD;exact⟨RcAt.bool_int a b t,EqAt.bool_int a b t⟩
   |str b=>obtain rfl:y = .str b:=hy;obtain⟨t,rfl⟩:=ry;unfold eqD;exact⟨RcAt.bool_str a b t,EqAt.bool_str a b t⟩
   |tup es=>obtain⟨b,ys,rfl,hq,_⟩:=hy;obtain rfl:v=Value.ref b:=ry;obtain⟨its,_,p,_⟩:=I.tuple hq;unfold eqD;exact⟨RcAt.bool_tuple a (show s.heap.IsTuple b its.toArray from p) hu0,EqAt.bool_tuple a (show s.heap.IsTuple b its.toArray from p) hu0⟩
   |lst es=>obtain⟨b,ys,rfl,hq,_⟩:=hy;obtain rfl:v=Value.ref b:=ry;obtain⟨its,_,p,_⟩:=I.list hq;unfold eqD;exact⟨RcAt.bool_list a p.isList hu0,EqAt.bool_list a p.isList hu0⟩
  |int a=>
   obtain rfl:x = .int a:=hx
   obtain⟨t0,rfl⟩:=rx
   cases e with
   |non=>obtain rfl:y = .non:=hy;obtain rfl:v=Value.none:=ry;unfold eqD;exact⟨RcAt.int_none a t0,EqAt.int_none a t0⟩
   |bl b=>obtain rfl:y = .bl b:=hy;obtain rfl:v=Value.bool b:=ry;unfold eqD;exact⟨RcAt.int_bool a t0 b,EqAt.int_bool a t0 b⟩
   |int b=>obtain rfl:y = .int b:=hy;obtain⟨t,rfl⟩:=ry;unfold eqD;exact⟨RcAt.int_int a t0 b t,EqAt.int_int a t0 b t⟩
   |str b=>obtain rfl:y = .str b:=hy;obtain⟨t,rfl⟩:=ry;unfold eqD;exact⟨RcAt.int_str a t0 b t,EqAt.int_str a t0 b t⟩
   |tup es=>obtain⟨b,ys,rfl,hq,_⟩:=hy;obtain rfl:v=Value.ref b:=ry;obtain⟨its,_,p,_⟩:=I.tuple hq;unfold eqD;exact⟨RcAt.int_tuple a t0 (show s.heap.IsTuple b its.toArray from p) hu0,EqAt.int_tuple a t0 (show s.heap.IsTuple b its.toArray from p) hu0⟩
   |lst es=>obtain⟨b,ys,rfl,hq,_⟩:=hy;obtain rfl:v=Value.ref b:=ry;obtain⟨its,_,p,_⟩:=I.list hq;unfold eqD;exact⟨RcAt.int_list a t0 p.isList hu0,EqAt.int_list a t0 p.isList hu0⟩
  |str a=>
   obtain rfl:x = .str a:=hx
   obtain⟨t0,rfl⟩:=rx
   cases e with
   |non=>obtain rfl:y = .non:=hy;obtain rfl:v=Value.none:=ry;unfold eqD;exact⟨RcAt.str_none a t0,EqAt.str_none a t0⟩
   |bl b=>obtain rfl:y = .bl b:=hy;obtain rfl:v=Value.bool b:=ry;unfold eqD;exact⟨RcAt.str_bool a t0 b,EqAt.str_bool a t0 b⟩
   |int b=>obtain rfl:y = .int b:=hy;obtain⟨t,rfl⟩:=ry;unfold eqD;exact⟨RcAt.str_int a t0 b t,EqAt.str_int a t0 b t⟩
   |str b=>obtain rfl:y = .str b:=hy;obtain⟨t,rfl⟩:=ry;unfold eqD;exact⟨RcAt.str_str a t0 b t,EqAt.str_str a t0 b t⟩
   |tup es=>obtain⟨b,ys,rfl,hq,_⟩:=hy;obtain rfl:v=Value.ref b:=ry;obtain⟨its,_,p,_⟩:=I.tuple hq;unfold eqD;exact⟨RcAt.str_tuple a t0 (show s.heap.IsTuple b its.toArray from p) hu0,EqAt.str_tuple a t0 (show s.heap.IsTuple b its.toArray from p) hu0⟩
   |lst es=>obtain⟨b,ys,rfl,hq,_⟩:=hy;obtain rfl:v=Value.ref b:=ry;obtain⟨its,_,p,_⟩:=I.list hq;unfold eqD;exact⟨RcAt.str_list a t0 p.isList hu0,EqAt.str_list a t0 p.isList hu0⟩
 |succ n ih=>
  intro A d e x y u v hd hu rx ry hx hy
  have hu0:A.units<cLine:=by omega
  by_cases hd0:dep d<=n
  ·exact ih A d e x y u v hd0 (by omega) rx ry hx hy
  cases d with
  |non=>exact absurd (aj _) hd0
  |bl a=>exact absurd (aj _) hd0
  |int a=>exact absurd (aj _) hd0
  |str a=>exact absurd (aj _) hd0
  |tup ds=>
   have hdd:pO ds<=n:=by unfold dep at hd;omega
   have hx0:=hx
   obtain⟨a,xs,rfl,hq,hl⟩:=hx
   obtain rfl:u=Value.ref a:=rx
   obtain⟨its,rv,p,_⟩:=I.tuple hq
   have p:s.heap.IsTuple a its.toArray:=p
   cases e with
   |non=>obtain rfl:y = .non:=hy;obtain rfl:v=Value.none:=ry;unfold eqD;exact⟨RcAt.tuple_none p hu0,EqAt.tuple_none p hu0⟩
   |bl b=>obtain rfl:y = .bl b:=hy;obtain rfl:v=Value.bool b:=ry;unfold eqD;exact⟨RcAt.tuple_bool b p hu0,EqAt.tuple_bool b p hu0⟩
   |int b=>obtain rfl:y = .int b:=hy;obtain⟨t,rfl⟩:=ry;unfold eqD;exact⟨RcAt.tuple_int b t p hu0,EqAt.tuple_int b t p hu0⟩
   |str b=>obtain rfl:y = .str b:=hy;obtain⟨t,rfl⟩:=ry;unfold eqD;exact⟨RcAt.tuple_str b t p hu0,EqAt.tuple_str b t p hu0⟩
   |lst es=>obtain⟨b,ys,rfl,hq',_⟩:=hy;obtain rfl:v=Value.ref b:=ry;obtain⟨its',_,p',_⟩:=I.list hq';unfold eqD;exact⟨RcAt.tuple_list p p'.isList hu0,EqAt.tuple_list p p'.isList hu0⟩
   |tup es=>
    have hy0:=hy
    obtain⟨b,ys,rfl,hq',hl'⟩:=hy
    obtain rfl:v=Value.ref b:=ry
    obtain⟨its',rv',p',_⟩:=I.tuple hq'
    have p':s.heap.IsTuple b its'.toArray:=p'
    have he:=kH (A:=A.in1) (s:=s) hl rv hl' rv' (λd e x y u v ⟨j,hj⟩ r1 r2 s1 s2=>(ih A.in1 d e x y u v (bc (pG hj) hdd) (by show A.units+1+n<cLine;omega) r1 r2 s1 s2).2)
    have rc:=RcAt.tuples p p' hu0 he
    have l1:=hl.length
    have l2:=rv.length
    have l3:=hl'.length
    have l4:=rv'.length
    rw[au,au,<- l2,<- l4,<- l1,<- l3,lX] at rc
    unfold eqD
    refine⟨rc,?_⟩
    by_cases hab:a=b
    ·subst hab
     have:=I.sh_inj hx0 hy0
     cases this
     rw[iD]
     exact EqAt.same _
    ·exact EqAt.of_refs hab rc
  |lst ds=>
   have hdd:pO ds<=n:=by unfold dep at hd;omega
   have hx0:=hx
   obtain⟨a,xs,rfl,hq,hl⟩:=hx
   obtain rfl:u=Value.ref a:=rx
   obtain⟨its,rv,p,_⟩:=I.list hq
   have p:=p.isList
   cases e with
   |non=>obtain rfl:y = .non:=hy;obtain rfl:v=Value.none:=ry;unfold eqD;exact⟨RcAt.list_none p hu0,EqAt.list_none p hu0⟩
   |bl b=>obtain rfl:y = .bl b:=hy;obtain rfl:v=Value.bool b:=ry;unfold eqD;exact⟨RcAt.list_bool b p hu0,EqAt.list_bool b p hu0⟩
   |int b=>obtain rfl:y = .int b:=hy;obtain⟨t,rfl⟩:=ry;unfold eqD;exact⟨RcAt.list_int b t p hu0,EqAt.list_int b t p hu0⟩
   |str b=>obtain rfl:y = .str b:=hy;obtain⟨t,rfl⟩:=ry;unfold eqD;exact⟨RcAt.list_str b t p hu0,EqAt.list_str b t p hu0⟩
   |tup es=>obtain⟨b,ys,rfl,hq',_⟩:=hy;obtain rfl:v=Value.ref b:=ry;obtain⟨its',_,p',_⟩:=I.tuple hq';unfold eqD;exact⟨RcAt.list_tuple p (show s.heap.IsTuple b its'.toArray from p') hu0,EqAt.list_tuple p (show s.heap.IsTuple b its'.toArray from p') hu0⟩
   |lst es=>
    have hy0:=hy
    obtain⟨b,ys,rfl,hq',hl'⟩:=hy
    obtain rfl:v=Value.ref b:=ry
    obtain⟨its',rv',p',_⟩:=I.list hq'
    have p':=p'.isList
    have l1:=hl.length
    have l2:=rv.length
    have l3:=hl'.length
    have l4:=rv'.length
    have rc:RcAt A s (.ref a) (.ref b) (eqL ds es):=by
     by_cases hz:ds.length=es.length
     ·have he:=kH (A:=A.in1) (s:=s) hl rv hl' rv' (λd e x y u v ⟨j,hj⟩ r1 r2 s1 s2=>(ih A.in1 d e x y u v (bc (pG hj) hdd) (by show A.units+1+n<cLine;omega) r1 r2 s1 s2).2)
      have rc:=RcAt.lists p p' (by rw[au,au];omega) hu0 he
      rw[au,<- l2,<- l1] at rc
      have q:=lX ds es
      rw[<- hz,Nat.min_self,beq_self_eq_true,t8] at q
      rw[<- q]
      exact rc
     ·have q:eqL ds es=false:=by
       cases q:eqL ds es with
       |false=>rfl
       |true=>exact absurd (iZ q) hz
      rw[q]
      exact RcAt.lists_lengths p p' (by rw[au,au];simp;omega) hu0
    unfold eqD
    refine⟨rc,?_⟩
    by_cases hab:a=b
    ·subst hab
     have:=I.sh_inj hx0 hy0
     cases this
     rw[iD]
     exact EqAt.same _
    ·exact EqAt.of_refs hab rc
def iV (K:aa):R2:=λx y H Q=>∃d e,dep d<=100/\Sh K H d x/\Sh K H e y/\Q (.bl (eqD d e)) H
theorem aCv (hu:X.A.units+100<cLine):OpR X (gf .Eq) (iV X.K):=by
 intro pins s σ H x y v u Q I rx ry ⟨d,e,hd,hx,hy,q⟩
 exact(I.eq_sh 100 X.A d e x y v u hd hu rx ry hx hy).1 X.prog X.w X.xe _ ⟨.bl _,H,I,rfl,q⟩
end
section
variable {X:Cx}{pins:List (Addr×Obj)}{σ:St}{H:Hp}{s:Shared}
open PySem.SeqAt
theorem Inv.ne_sh (I:Inv X pins σ H s){A:Around}(d e:Dt)(x y:V)(u v:Value)(hd:dep d<=100)(hu:A.units+101<cLine)(rx:RelV x u)(ry:RelV y v)(hx:Sh X.K H d x)(hy:Sh X.K H e y):RcNeAt A s u v (!eqD d e):=by
 have hu0:A.units<cLine:=by omega
 cases d with
 |non=>
  obtain rfl:x = .non:=hx
  obtain rfl:u=Value.none:=rx
  cases e with
  |non=>obtain rfl:y = .non:=hy;obtain rfl:v=Value.none:=ry;unfold eqD;exact RcNeAt.none_none
  |bl b=>obtain rfl:y = .bl b:=hy;obtain rfl:v=Value.bool b:=ry;unfold eqD;exact RcNeAt.none_bool b
  |int b=>obtain rfl:y = .int b:=hy;obtain⟨t,rfl⟩:=ry;unfold eqD;exact RcNeAt.none_int b t
  |str b=>obtain rfl:y = .str b:=hy;obtain⟨t,rfl⟩:=ry;unfold eqD;exact RcNeAt.none_str b t
  |tup es=>obtain⟨b,ys,rfl,hq,_⟩:=hy;obtain rfl:v=Value.ref b:=ry;obtain⟨its,_,p,_⟩:=I.tuple hq;unfold eqD;exact RcNeAt.none_tuple (show s.heap.IsTuple b its.toArray from p) hu0
  |lst es=>obtain⟨b,ys,rfl,hq,_⟩:=hy;obtain rfl:v=Value.ref b:=ry;obtain⟨its,_,p,_⟩:=I.list hq;unfold eqD;exact RcNeAt.none_list p.isList hu0
 |bl a=>
  obtain rfl:x = .bl a:=hx
  obtain rfl:u=Value.bool a:=rx
  cases e with
  |non=>obtain rfl:y = .non:=hy;obtain rfl:v=Value.none:=ry;unfold eqD;exact RcNeAt.bool_none a
  |bl b=>obtain rfl:y = .bl b:=hy;obtain rfl:v=Value.bool b:=ry;unfold eqD;exact RcNeAt.bool_bool a b
  |int b=>obtain rfl:y = .int b:=hy;obtain⟨t,rfl⟩:=ry;unfold eqD;exact RcNeAt.bool_int a b t
  |str b=>obtain rfl:y = .str b:=hy;obtain⟨t,rfl⟩:=ry;unfold eqD;exact RcNeAt.bool_str a b t
  |tup es=>obtain⟨b,ys,rfl,hq,_⟩:=hy;obtain rfl:v=Value.ref b:=ry;obtain⟨its,_,p,_⟩:=I.tuple hq;unfold eqD;exact RcNeAt.bool_tuple a (show s.heap.IsTuple b its.toArray from p) hu0
  |lst es=>obtain⟨b,ys,rfl,hq,_⟩:=hy;obtain rfl:v=Value.ref b:=ry;obtain⟨its,_,p,_⟩:=I.list hq;unfold eqD;exact RcNeAt.bool_list a p.isList hu0
 |int a=>
  obtain rfl:x = .int a:=hx
  obtain⟨t0,rfl⟩:=rx
  cases e with
  |non=>obtain rfl:y = .non:=hy;obtain rfl:v=Value.none:=ry;unfold eqD;exact RcNeAt.int_none a t0
  |bl b=>obtain rfl:y = .bl b:=hy;obtain rfl:v=Value.bool b:=ry;unfold eqD;exact RcNeAt.int_bool a t0 b
  |int b=>obtain rfl:y = .int b:=hy;obtain⟨t,rfl⟩:=ry;unfold eqD;exact RcNeAt.int_int a t0 b t
  |str b=>obtain rfl:y = .str b:=hy;obtain⟨t,rfl⟩:=ry;unfold eqD;exact RcNeAt.int_str a t0 b t
  |tup es=>obtain⟨b,ys,rfl,hq,_⟩:=hy;obtain rfl:v=Value.ref b:=ry;obtain⟨its,_,p,_⟩:=I.tuple hq;unfold eqD;exact RcNeAt.int_tuple a t0 (show s.heap.IsTuple b its.toArray from p) hu0
  |lst es=>obtain⟨b,ys,rfl,hq,_⟩:=hy;obtain rfl:v=Value.ref b:=ry;obtain⟨its,_,p,_⟩:=I.list hq;unfold eqD;exact RcNeAt.int_list a t0 p.isList hu0
 |str a=>
  obtain rfl:x = .str a:=hx
  obtain⟨t0,rfl⟩:=rx
  cases e with
  |non=>obtain rfl:y = .non:=hy;obtain rfl:v=Value.none:=ry;unfold eqD;exact RcNeAt.str_none a t0
  |bl b=>obtain rfl:y = .bl b:=hy;obtain rfl:v=Value.bool b:=ry;unfold eqD;exact RcNeAt.str_bool a t0 b
  |int b=>obtain rfl:y = .int b:=hy;obtain⟨t,rfl⟩:=ry;unfold eqD;exact RcNeAt.str_int a t0 b t
  |str b=>obtain rfl:y = .str b:=hy;obtain⟨t,rfl⟩:=ry;unfold eqD;exact RcNeAt.str_str a t0 b t
  |tup es=>obtain⟨b,ys,rfl,hq,_⟩:=hy;obtain rfl:v=Value.ref b:=ry;obtain⟨its,_,p,_⟩:=I.tuple hq;unfold eqD;exact RcNeAt.str_tuple a t0 (show s.heap.IsTuple b its.toArray from p) hu0
  |lst es=>obtain⟨b,ys,rfl,hq,_⟩:=hy;obtain rfl:v=Value.ref b:=ry;obtain⟨its,_,p,_⟩:=I.list hq;unfold eqD;exact RcNeAt.str_list a t0 p.isList hu0
 |tup ds=>
  have hdd:pO ds<=100:=by unfold dep at hd;omega
  obtain⟨a,xs,rfl,hq,hl⟩:=hx
  obtain rfl:u=Value.ref a:=rx
  obtain⟨its,rv,p,_⟩:=I.tuple hq
  have p:s.heap.IsTuple a its.toArray:=p
  cases e with
  |non=>obtain rfl:y = .non:=hy;obtain rfl:v=Value.none:=ry;unfold eqD;exact RcNeAt.tuple_none p hu0
  |bl b=>obtain rfl:y = .bl b:=hy;obtain rfl:v=Value.bool b:=ry;unfold eqD;exact RcNeAt.tuple_bool b p hu0
  |int b=>obtain rfl:y = .int b:=hy;obtain⟨t,rfl⟩:=ry;unfold eqD;exact RcNeAt.tuple_int b t p hu0
  |str b=>obtain rfl:y = .str b:=hy;obtain⟨t,rfl⟩:=ry;unfold eqD;exact RcNeAt.tuple_str b t p hu0
  |lst es=>obtain⟨b,ys,rfl,hq',_⟩:=hy;obtain rfl:v=Value.ref b:=ry;obtain⟨its',_,p',_⟩:=I.list hq';unfold eqD;exact RcNeAt.tuple_list p p'.isList hu0
  |tup es=>
   obtain⟨b,ys,rfl,hq',hl'⟩:=hy
   obtain rfl:v=Value.ref b:=ry
   obtain⟨its',rv',p',_⟩:=I.tuple hq'
   have p':s.heap.IsTuple b its'.toArray:=p'
   have he:=kH (A:=A.in1) (s:=s) hl rv hl' rv' (λd e x y u v ⟨j,hj⟩ r1 r2 s1 s2=>(I.eq_sh 100 A.in1 d e x y u v (bc (pG hj) hdd) (by show A.units+1+100<cLine;omega) r1 r2 s1 s2).2)
   have rc:=RcNeAt.tuples p p' hu0 he
   have l1:=hl.length
   have l2:=rv.length
   have l3:=hl'.length
   have l4:=rv'.length
   rw[au,au,<- l2,<- l4,<- l1,<- l3,lX] at rc
   unfold eqD
   exact rc
 |lst ds=>
  have hdd:pO ds<=100:=by unfold dep at hd;omega
  obtain⟨a,xs,rfl,hq,hl⟩:=hx
  obtain rfl:u=Value.ref a:=rx
  obtain⟨its,rv,p,_⟩:=I.list hq
  have p:=p.isList
  cases e with
  |non=>obtain rfl:y = .non:=hy;obtain rfl:v=Value.none:=ry;unfold eqD;exact RcNeAt.list_none p hu0
  |bl b=>obtain rfl:y = .bl b:=hy;obtain rfl:v=Value.bool b:=ry;unfold eqD;exact RcNeAt.list_bool b p hu0
  |int b=>obtain rfl:y = .int b:=hy;obtain⟨t,rfl⟩:=ry;unfold eqD;exact RcNeAt.list_int b t p hu0
  |str b=>obtain rfl:y = .str b:=hy;obtain⟨t,rfl⟩:=ry;unfold eqD;exact RcNeAt.list_str b t p hu0
  |tup es=>obtain⟨b,ys,rfl,hq',_⟩:=hy;obtain rfl:v=Value.ref b:=ry;obtain⟨its',_,p',_⟩:=I.tuple hq';unfold eqD;exact RcNeAt.list_tuple p (show s.heap.IsTuple b its'.toArray from p') hu0
  |lst es=>
   obtain⟨b,ys,rfl,hq',hl'⟩:=hy
   obtain rfl:v=Value.ref b:=ry
   obtain⟨its',rv',p',_⟩:=I.list hq'
   have p':=p'.isList
   have l1:=hl.length
   have l2:=rv.length
   have l3:=hl'.length
   have l4:=rv'.length
   unfold eqD
   by_cases hz:ds.length=es.length
   ·have he:=kH (A:=A.in1) (s:=s) hl rv hl' rv' (λd e x y u v ⟨j,hj⟩ r1 r2 s1 s2=>(I.eq_sh 100 A.in1 d e x y u v (bc (pG hj) hdd) (by show A.units+1+100<cLine;omega) r1 r2 s1 s2).2)
    have rc:=RcNeAt.lists p p' (by rw[au,au];omega) hu0 he
    rw[au,<- l2,<- l1] at rc
    have q:=lX ds es
    rw[<- hz,Nat.min_self,beq_self_eq_true,t8] at q
    rw[<- q]
    exact rc
   ·have q:eqL ds es=false:=by
     cases q:eqL ds es with
     |false=>rfl
     |true=>exact absurd (iZ q) hz
    rw[q]
    exact RcNeAt.lists_lengths p p' (by rw[au,au];simp;omega) hu0
def aAC (K:aa):R2:=λx y H Q=>∃d e,dep d<=100/\Sh K H d x/\Sh K H e y/\Q (.bl (!eqD d e)) H
theorem aDd (hu:X.A.units+101<cLine):OpR X (gf .NotEq) (aAC X.K):=by
 intro pins s σ H x y v u Q I rx ry ⟨d,e,hd,hx,hy,q⟩
 exact(I.ne_sh d e x y v u hd hu rx ry hx hy) X.prog X.w X.xe _ ⟨.bl _,H,I,rfl,q⟩
def aBv:Dt->String->Bool
 | .non,_=>false
 | .bl _,T=>T == "bool" || T == "int"
 | .int _,T=>T == "int"
 | .str _,T=>T == "str"
 | .tup _,T=>T == "tuple"
 | .lst _,T=>T == "list"
def aBL (K:aa):List V->Hp->VK->Prop:=λvs H Q=>∃x d T,vs=[x, .ty T]/\(T="int"\/T="bool"\/T="tuple"\/T="list"\/T="str")/\Sh K H d x/\Q (.bl (aBv d T)) H
theorem zN:CallR X (.builtin "isinstance") (aBL X.K):=by
 intro pins s σ H xs us Q I r ⟨x,d,T,e,hT,hx,q⟩
 subst e
 obtain⟨u,w',rfl,rx,rt⟩:=r.two
 obtain rfl:w'=Value.type T:=rt
 have fin:∀(b:Bool) (t:Nat),aBv d T=b->EP X pins σ Q (.bool b) { s with toks:=t }:=λb t e=>⟨.bl b,H,I.tok t,rfl,by rw[<- e];exact q⟩
 have fin0:∀(b:Bool),aBv d T=b->EP X pins σ Q (.bool b) s:=λb e=>⟨.bl b,H,I,rfl,by rw[<- e];exact q⟩
 cases d with
 |non=>
  obtain rfl:x = .non:=hx
  obtain rfl:u=Value.none:=rx
  rcases hT with rfl | rfl | rfl | rfl | rfl
  ·exact IsiPair.NoneType_int (fin _ _ rfl)
  ·exact IsiPair.NoneType_bool (fin _ _ rfl)
  ·exact IsiPair.NoneType_tuple (fin _ _ rfl)
  ·exact IsiPair.NoneType_list (fin _ _ rfl)
  ·exact IsiPair.NoneType_str (fin _ _ rfl)
 |bl b=>
  obtain rfl:x = .bl b:=hx
  obtain rfl:u=Value.bool b:=rx
  rcases hT with rfl | rfl | rfl | rfl | rfl
  ·exact IsiPair.bool_int (fin0 _ rfl)
  ·exact IsiPair.bool_bool (fin0 _ rfl)
  ·exact IsiPair.bool_tuple (fin _ _ rfl)
  ·exact IsiPair.bool_list (fin _ _ rfl)
  ·exact IsiPair.bool_str (fin _ _ rfl)
 |int b=>
  obtain rfl:x = .int b:=hx
  obtain⟨t,rfl⟩:=rx
  rcases hT with rfl | rfl | rfl | rfl | rfl
  ·exact IsiPair.int_int (fin0 _ rfl)
  ·exact IsiPair.int_bool (fin _ _ rfl)
  ·exact IsiPair.int_tuple (fin _ _ rfl)
  ·exact IsiPair.int_list (fin _ _ rfl)
  ·exact IsiPair.int_str (fin _ _ rfl)
 |str b=>
  obtain rfl:x = .str b:=hx
  obtain⟨t,rfl⟩:=rx
  rcases hT with rfl | rfl | rfl | rfl | rfl
  ·exact IsiPair.str_int (fin _ _ rfl)
  ·exact IsiPair.str_bool (fin _ _ rfl)
  ·exact IsiPair.str_tuple (fin _ _ rfl)
  ·exact IsiPair.str_list (fin _ _ rfl)
  ·exact IsiPair.str_str (fin0 _ rfl)
 |tup ds=>
  obtain⟨a,ys,rfl,hq,_⟩:=hx
  obtain rfl:u=Value.ref a:=rx
  obtain⟨its,_,⟨o,ho,hc,_⟩,_⟩:=I.tuple hq
  rcases hT with rfl | rfl | rfl | rfl | rfl
  ·exact IsiPair.tuple_int ho hc (fin _ _ rfl)
  ·exact IsiPair.tuple_bool ho hc (fin _ _ rfl)
  ·exact IsiPair.tuple_tuple ho hc (fin0 _ rfl)
  ·exact IsiPair.tuple_list ho hc (fin _ _ rfl)
  ·exact IsiPair.tuple_str ho hc (fin _ _ rfl)
 |lst ds=>
  obtain⟨a,ys,rfl,hq,_⟩:=hx
  obtain rfl:u=Value.ref a:=rx
  obtain⟨its,_,p,_⟩:=I.list hq
  obtain⟨o,ho,hc,_⟩:=p.isList
  rcases hT with rfl | rfl | rfl | rfl | rfl
  ·exact IsiPair.list_int ho hc (fin _ _ rfl)
  ·exact IsiPair.list_bool ho hc (fin _ _ rfl)
  ·exact IsiPair.list_tuple ho hc (fin _ _ rfl)
  ·exact IsiPair.list_list ho hc (fin0 _ rfl)
  ·exact IsiPair.list_str ho hc (fin _ _ rfl)
theorem sL {prog:Program}{w:World}{A:Around}(hh:A.handled=none)(It ax:Addr)(hne:ax≠It)(items:Array Value) :
  Walks prog w A It [It,ax] [It] items.size (λi v=>items[i]?=some v) (λi h=>h.IsTupleIter It ax i/\h.IsTuple ax items) where
 sub:=λb hb=>by simp at hb;simp[hb]
 frame:=λ_ _ _ st hk=>⟨st.1.at λo e=>hk It (by simp) o e,let⟨o,e,r⟩:=st.2;⟨o,hk ax (by simp) o e,r⟩⟩
 item:=λi s Q E hi st hQ=>by
  refine pg st.1 st.2 (x:=items[i]) (by simp[hi]) λh' hit' hs'=>?_
  refine hQ _ h' s.toks (by simp[hi]) ⟨hit',?_⟩ λb o hb e=>hs'.extBut b o (λh=>hb (by simp[h])) e
  obtain⟨o,e,r⟩:=st.2
  exact⟨o,hs'.extBut _ _ hne e,r⟩
 done:=λs Q E st hQ=>qj hh st.1 st.2 (by simp) λh' he'=>hQ h' s.toks λb o hb e=>he' b o (λh=>hb (by simp[h])) e
 self:=λ_ _ _ _ st hQ=>qm st.1 hQ
def Sq (K:aa) (H:Hp) (a:Addr) (xs:List V):Prop:=SqL K H a xs\/SqT K H a xs
theorem kL {A:Around}{a:Addr}{xs:List V}{Q:Value->Shared->Prop}{E:Value->Shared->Prop}(hh:A.handled=none)(I:Inv X pins σ H s)(h:Sq X.K H a xs)
  (hq:∀(its:List Value) (It:Addr) (fp wr:List Addr) (S:Nat->Heap->Prop) (s2:Shared),Vals xs its->xs.length<=cb->Walks X.prog X.w A It fp wr its.length (λi v=>its[i]?=some v) S->S 0 s2.heap->(∀b∈fp,b<s2.heap.objs.size) ->
   (∀h' tk,(∀b o,b∉wr->s2.heap.get? b=some o->h'.get? b=some o)->Inv X pins σ H { s2 with heap:=h',toks:=tk })->Q (.ref It) s2):wpAny (model X.prog X.w) A (vd (.ref a)) Q E s:=by
 rcases h with h | h
 ·obtain⟨its,rv,p,hz⟩:=I.list h
  refine oy p.isList ?_
  have ha:a<s.heap.objs.size:=by obtain⟨o,e,_⟩:=p.isList;exact bj e
  refine hq its s.heap.objs.size [s.heap.objs.size,a] [s.heap.objs.size] (λi h=>h.IsListIter s.heap.objs.size a i/\h.IsList a its.toArray) _ rv hz (by simpa using Walks.list (prog:=X.prog) (w:=X.w) hh s.heap.objs.size a (de ha) its.toArray) ⟨⟨_,ck _ rfl,rfl,rfl⟩,?_⟩ (λb hb=>?_) λh' tk hk=>?_
  ·obtain⟨o,e,r⟩:=p.isList
   exact⟨o,ak _ e,r⟩
  ·simp at hb
   show b<(s.heap.push _).objs.size
   rw[gk]
   rcases hb with rfl | rfl
   ·exact jo _
   ·exact ku ha
  ·exact I.kept λb o e=>hk b o (by simpa using de (bj e)) (ak _ e)
 ·obtain⟨its,rv,p,hz⟩:=I.tuple h
  have p:s.heap.IsTuple a its.toArray:=p
  refine nk p ?_
  have ha:a<s.heap.objs.size:=by obtain⟨o,e,_⟩:=p;exact bj e
  refine hq its s.heap.objs.size [s.heap.objs.size,a] [s.heap.objs.size] (λi h=>h.IsTupleIter s.heap.objs.size a i/\h.IsTuple a its.toArray) _ rv hz (by simpa using sL (prog:=X.prog) (w:=X.w) hh s.heap.objs.size a (de ha) its.toArray) ⟨⟨_,ck _ rfl,rfl,rfl⟩,?_⟩ (λb hb=>?_) λh' tk hk=>?_
  ·obtain⟨o,e,r⟩:=p
   exact⟨o,ak _ e,r⟩
  ·simp at hb
   show b<(s.heap.push _).objs.size
   rw[gk]
   rcases hb with rfl | rfl
   ·exact jo _
   ·exact ku ha
  ·exact I.kept λb o e=>hk b o (by simpa using de (bj e)) (ak _ e)
theorem Vals.getR:∀{xs:List V}{us:List Value}{i:Nat}{u:Value},Vals xs us->us[i]?=some u->∃x,xs[i]?=some x/\RelV x u
 |_,_,_,_, .nil,e=>by simp at e
 |_,_,0,_, .cons r _,e=>by simp at e;subst e;exact⟨_,rfl,r⟩
 |_,_,i+1,u, .cons _ t,e=>by
  obtain⟨x,h1,h2⟩:=Vals.getR (i:=i) (u:=u) t (by simpa using e)
  exact⟨x,by simpa using h1,h2⟩
theorem yK (hc:X.calm=true):CallR X (.builtin "all") (λvs H Q=>∃(a:Addr) (bs:List Bool),vs=[.ref a]/\Sq X.K H a (bs.map V.bl)/\Q (.bl (bs.all id)) H):=by
 intro pins s σ H xs us Q I r ⟨a,bs,e,hq,q⟩
 subst e
 obtain⟨u,rfl,ru⟩:=r.one
 obtain rfl:u=Value.ref a:=ru
 refine call_all_walk (kL (I.ok.hd hc) I hq λits It fp wr S s2 rv hz W st hf hI=>?_)
 refine⟨It,fp,wr,its.length,_,S,λj=>bs.getD j false,rfl,W,st,λi v s' Q' E' hv hQ'=>?_,λh' tk hk=>?_⟩
 ·obtain⟨x,hx,rx⟩:=rv.getR hv
  rw[bh] at hx
  cases hb:bs[i]? with
  |none=>rw[hb] at hx;cases hx
  |some b=>
   rw[hb] at hx
   obtain rfl:V.bl b=x:=by simpa using hx
   obtain rfl:v=Value.bool b:=rx
   have:bs.getD i false=b:=by rw[ah,hb];rfl
   have hQ':Q' (bs.getD i false) s':=hQ'
   rw[this] at hQ'
   exact fm hQ'
 ·refine⟨.bl (bs.all id),H,hI h' tk hk,?_,q⟩
  show Value.bool _=Value.bool _
  congr 1
  have hl:its.length=bs.length:=by rw[<- rv.length,af]
  rw[hl]
  clear q hq rv hl hz
  induction bs with
  |nil=>rfl
  |cons b bs ih=>rw[cz,gP,j3];exact congrArg (λz=>b && z) ih
theorem iY {bt:Nat->Nat->Bool}:∀k,i5 bt k<=k
 |0=>av _
 |k+1=>by
  unfold i5
  split
  ·exact av _
  ·exact Nat.le_succ_of_le (iY k)
theorem hU {ns:List Int}:∀(k:Nat),∀j,j<=k->ns.getD (i5 (λi j=>decide (ns.getD i 0<ns.getD j 0)) k) 0<=ns.getD j 0
 |0,j,h=>by
  have:j=0:=by omega
  subst this
  exact sv _
 |k+1,j,h=>by
  have ih:=hU (ns:=ns) k
  unfold i5
  by_cases c:ns.getD (k+1) 0<ns.getD (i5 (λi j=>decide (ns.getD i 0<ns.getD j 0)) k) 0
  ·rw[if_pos (decide_eq_true c)]
   by_cases e:j=k+1
   ·subst e;exact sv _
   ·have:=ih j (by omega);omega
  ·rw[if_neg (by simpa using c)]
   by_cases e:j=k+1
   ·subst e;omega
   ·exact ih j (by omega)
theorem jM {ns:List Int}:∀(k:Nat),∀j,j<=k->ns.getD j 0<=ns.getD (i5 (λi j=>decide (ns.getD j 0<ns.getD i 0)) k) 0
 |0,j,h=>by
  have:j=0:=by omega
  subst this
  exact sv _
 |k+1,j,h=>by
  have ih:=jM (ns:=ns) k
  unfold i5
  by_cases c:ns.getD (i5 (λi j=>decide (ns.getD j 0<ns.getD i 0)) k) 0<ns.getD (k+1) 0
  ·rw[if_pos (decide_eq_true c)]
   by_cases e:j=k+1
   ·subst e;exact sv _
   ·have:=ih j (by omega);omega
  ·rw[if_neg (by simpa using c)]
   by_cases e:j=k+1
   ·subst e;omega
   ·exact ih j (by omega)
theorem yQ (hc:X.calm=true):CallR X (.builtin "min") (λvs H Q=>∃(a:Addr) (ns:List Int),vs=[.ref a]/\Sq X.K H a (ns.map V.int)/\ns≠[]/\∀m:Int,m∈ns->(∀k∈ns,m<=k)->Q (.int m) H):=by
 intro pins s σ H xs us Q I r ⟨a,ns,e,hq,hne,q⟩
 subst e
 obtain⟨u,rfl,ru⟩:=r.one
 obtain rfl:u=Value.ref a:=ru
 refine call_min_walk (kL (I.ok.hd hc) I hq λits It fp wr S s2 rv hz W st hf hI=>?_)
 have hl:its.length=ns.length:=by rw[<- rv.length,af]
 have hpos:0<ns.length:=gh.mpr hne
 have item:∀(i:Nat) (v:Value),its[i]?=some v->∃t,v = .int (ns.getD i 0) t:=λi v hv=>by
  obtain⟨x,hx,rx⟩:=rv.getR hv
  rw[bh] at hx
  cases hb:ns[i]? with
  |none=>rw[hb] at hx;cases hx
  |some b=>
   rw[hb] at hx
   obtain rfl:V.int b=x:=by simpa using hx
   obtain⟨t,rfl⟩:=rx
   exact⟨t,by rw[ah,hb];rfl⟩
 refine⟨It,fp,wr,its.length,_,S,λi j=>decide (ns.getD i 0<ns.getD j 0),rfl,W,st,hf,by omega,λi j vi vj s' Q' E' hi hj hQ'=>?_,λv h' tk hv hk=>?_⟩
 ·obtain⟨t,rfl⟩:=item i vi hi
  obtain⟨t',rfl⟩:=item j vj hj
  exact(lt_int hQ':wpAny (model X.prog X.w) X.A.in1 (gf .Lt _ _) Q' E' s')
 ·obtain⟨t,rfl⟩:=item _ v hv
  have hb:=iY (bt:=λi j=>decide (ns.getD i 0<ns.getD j 0)) (its.length - 1)
  refine⟨.int _,H,hI h' tk hk,⟨t,rfl⟩,q _ ?_ λk hk=>?_⟩
  ·rw[ah,ai (by omega)]
   exact e7 _
  ·obtain⟨j,hj,rfl⟩:=r6.mp hk
   have:=hU (ns:=ns) (its.length - 1) j (by omega)
   rw[ah (l:=ns) (i:=j),ai hj] at this
   exact this
theorem zF (hc:X.calm=true):CallR X (.builtin "max") (λvs H Q=>∃(a:Addr) (ns:List Int),vs=[.ref a]/\Sq X.K H a (ns.map V.int)/\ns≠[]/\∀m:Int,m∈ns->(∀k∈ns,k<=m)->Q (.int m) H):=by
 intro pins s σ H xs us Q I r ⟨a,ns,e,hq,hne,q⟩
 subst e
 obtain⟨u,rfl,ru⟩:=r.one
 obtain rfl:u=Value.ref a:=ru
 refine call_max_walk (kL (I.ok.hd hc) I hq λits It fp wr S s2 rv hz W st hf hI=>?_)
 have hl:its.length=ns.length:=by rw[<- rv.length,af]
 have hpos:0<ns.length:=gh.mpr hne
 have item:∀(i:Nat) (v:Value),its[i]?=some v->∃t,v = .int (ns.getD i 0) t:=λi v hv=>by
  obtain⟨x,hx,rx⟩:=rv.getR hv
  rw[bh] at hx
  cases hb:ns[i]? with
  |none=>rw[hb] at hx;cases hx
  |some b=>
   rw[hb] at hx
   obtain rfl:V.int b=x:=by simpa using hx
   obtain⟨t,rfl⟩:=rx
   exact⟨t,by rw[ah,hb];rfl⟩
 refine⟨It,fp,wr,its.length,_,S,λi j=>decide (ns.getD j 0<ns.getD i 0),rfl,W,st,hf,by omega,λi j vi vj s' Q' E' hi hj hQ'=>?_,λv h' tk hv hk=>?_⟩
 ·obtain⟨t,rfl⟩:=item i vi hi
  obtain⟨t',rfl⟩:=item j vj hj
  exact(gt_int hQ':wpAny (model X.prog X.w) X.A.in1 (gf .Gt _ _) Q' E' s')
 ·obtain⟨t,rfl⟩:=item _ v hv
  have hb:=iY (bt:=λi j=>decide (ns.getD j 0<ns.getD i 0)) (its.length - 1)
  refine⟨.int _,H,hI h' tk hk,⟨t,rfl⟩,q _ ?_ λk hk=>?_⟩
  ·rw[ah,ai (by omega)]
   exact e7 _
  ·obtain⟨j,hj,rfl⟩:=r6.mp hk
   have:=jM (ns:=ns) (its.length - 1) j (by omega)
   rw[ah (l:=ns) (i:=j),ai hj] at this
   exact this
end
section
variable {X:Cx}
def aBW (K:aa):R2:=λx y H Q=>∃a b xs ys,x = .ref a/\y = .ref b/\SqT K H a xs/\SqT K H b ys/\xs.length+ys.length<=cb /\
 ∀p H',((p=a/\H'=H/\ys=[])\/(p=b/\H'=H/\xs=[])\/(H p=none/\H'=upd H p (.tup (xs++ys))))->SqT K H' p (xs++ys)->Same H H'->Q (.ref p) H'
theorem aL {H:Hp}{p:Addr}(h:H p=none)(o:HO):Same H (upd H p o):=λb u q=>by rw[aM (aQ q h)];exact q
theorem aBs:OpR X (iw .Add) (aBW X.K):=by
 intro pins s σ H x y v u Q I rx ry ⟨a,b,xs,ys,ex,ey,ha,hb,hz,q⟩
 subst ex ey
 obtain rfl:v=Value.ref a:=rx
 obtain rfl:u=Value.ref b:=ry
 by_cases hx:xs=[]
 ·obtain⟨its,r1,p1,_⟩:=I.tuple ha
  obtain⟨its2,r2,p2,_⟩:=I.tuple hb
  have he:its=[]:=r1.nil_iff.mpr hx
  obtain⟨⟨cls,dd,data,sl⟩,ho,hc,n,hd⟩:=id p1
  obtain⟨⟨cls2,dd2,data2,sl2⟩,ho2,hc2,n2,hd2⟩:=id p2
  simp only at hc hd hc2 hd2
  subst hc hd hc2 hd2
  refine uy ⟨_,ho,rfl⟩ ⟨_,ho2,rfl⟩ qc t6 j8 j2 (jw _ _)
   (tuple_addW0 a b its.toArray its2.toArray n n2 dd dd2 sl sl2 (by simp[he])) ⟨ho,ho2,?_⟩
  exact⟨.ref b,H,I,rfl,q b H (.inr (.inl ⟨rfl,rfl,hx⟩)) (by rw[hx];exact hb) (Same.refl H)⟩
 ·refine aBq (X:=X) pins s σ H (.ref a) (.ref b) (.ref a) (.ref b) Q I rfl rfl ⟨a,b,xs,ys,rfl,rfl,ha,hb,hx,hz,λhy=>?_,λhy p hp=>?_⟩
  ·exact q a H (.inl ⟨rfl,rfl,hy⟩) (by rw[hy,jc];exact ha) (Same.refl H)
  ·exact q p _ (.inr (.inr ⟨hp,rfl⟩)) (.of aE) (aL hp _)
def bV (K:aa):R2:=λx y H Q=>match x,y with
 | .int i, .int j=>Q (.int (i+j)) H
 | .str i, .str j=>i.length+j.length<=cb/\Q (.str (i++j)) H
 | .ref a, .ref b=>aEc (.ref a) (.ref b) H Q\/aBW K (.ref a) (.ref b) H Q
 |_,_=>False
theorem aBb:OpR X (iw .Add) (bV X.K):=by
 intro pins s σ H x y v u Q I rx ry h
 unfold bV at h
 split at h
 ·exact aDk (X:=X) pins s σ H _ _ v u Q I rx ry ⟨_,_,rfl,rfl,h⟩
 ·exact vF (X:=X) pins s σ H _ _ v u Q I rx ry ⟨_,_,rfl,rfl,h.1,h.2⟩
 ·rcases h with h | h
  ·exact aCc (X:=X) pins s σ H _ _ v u Q I rx ry h
  ·exact aBs (X:=X) pins s σ H _ _ v u Q I rx ry h
 ·exact h.elim
def mM:R2:=λx y H Q=>match x,y with
 | .int i, .int j=>CMul i j/\Q (.int (i*j)) H
 | .ref a, .int k=>aEr (.ref a) (.int k) H Q
 |_,_=>False
theorem fS:OpR X (iw .Mult) mM:=by
 intro pins s σ H x y v u Q I rx ry h
 unfold mM at h
 split at h
 ·exact aCN (X:=X) pins s σ H _ _ v u Q I rx ry ⟨_,_,rfl,rfl,h.1,h.2⟩
 ·exact aCK (X:=X) pins s σ H _ _ v u Q I rx ry h
 ·exact h.elim
theorem aDS:IxR X (λx y H Q=>aDr X.K x y H Q\/aDu X.K x y H Q):=aAD.or aCF
theorem Vals.of_get:∀{xs:List V}{us:List Value},xs.length=us.length->(∀(i:Nat) x u,xs[i]?=some x->us[i]?=some u->RelV x u)->Vals xs us
 |[],[],_,_ => .nil
 |[],_ :: _,h,_=>by simp at h
 |_ :: _,[],h,_=>by simp at h
 |x :: xs,u :: us,h,hr => .cons (hr 0 x u rfl rfl) (Vals.of_get (by simpa using h) λi y w h1 h2=>hr (i+1) y w (by simpa using h1) (by simpa using h2))
def aAL (lo hi:Int):List Int:=(bu (hi - lo).toNat).map λi:Nat=>lo+(i:Int)
theorem pD (hc:X.calm=true):CallR X (.type "list") (λvs H Q=>∃(a:Addr) (lo hi:Int),vs=[.ref a]/\H a=some (.rng lo hi)/\(-(2 ^ 62)<=lo/\lo<2 ^ 62/\-(2 ^ 62)<=hi/\hi<2 ^ 62/\hi - lo<=1000000) /\
  ∀p,H p=none->Q (.ref p) (upd H p (.lst ((aAL lo hi).map V.int)))):=by
 intro pins s σ H xs us Q I r ⟨a,lo,hi,e,ha,⟨b1,b2,b3,b4,b5⟩,q⟩
 subst e
 obtain⟨u,rfl,ru⟩:=r.one
 obtain rfl:u=Value.ref a:=ru
 obtain⟨t,u,v,hr⟩:=I.hok a _ ha
 refine call_list_range (a:=lo) (b:=hi) (c:=1) (n:=(hi - lo).toNat) (I.ok.hd hc) hr (small_one b1 b2 b3 b4) (by rw[rangeSize_one];split <;> omega) (by omega) λh' tk acc' c' hk hS hI=>?_
 refine⟨.ref s.heap.objs.size,_,I.laid (a:=s.heap.objs.size) (o := .lst ((aAL lo hi).map V.int)) hk (av _) ⟨?_,acc'.toList,c',?_,by simpa using hS⟩,rfl,q _ (I.hok.fresh (av _))⟩
 ·rw[af];unfold aAL;rw[af,oz]
  exact bc (show(hi - lo).toNat<=1000000 by omega) (by decide)
 ·refine Vals.of_get ?_ λi x u hx hu=>?_
  ·have el:acc'.toList.length=(hi - lo).toNat:=by rw[<- hI.1];simp
   rw[af,el];unfold aAL;rw[af,oz]
  ·obtain⟨t,rfl⟩:=hI.2 i u (by simpa using hu)
   rw[bh] at hx
   unfold aAL at hx
   rw[bh] at hx
   cases hi':(bu (hi - lo).toNat)[i]? with
   |none=>rw[hi'] at hx;cases hx
   |some j=>
    rw[hi'] at hx
    have:j=i:=by
     obtain⟨h1,h2⟩:=ao.mp hi'
     simpa using h2.symm
    subst this
    obtain rfl:V.int (lo+(j:Int))=x:=by simpa using hx
    exact⟨t,by rw[Int.mul_one]⟩
theorem oJ (hc:X.calm=true):CallR X (.type "list") (λvs H Q=>(∃p ys,vs=[.ref p]/\(SqL X.K H p ys\/SqT X.K H p ys)/\∀l,H l=none->Q (.ref l) (upd H l (.lst ys))) \/
  ∃(a:Addr) (lo hi:Int),vs=[.ref a]/\H a=some (.rng lo hi)/\(-(2 ^ 62)<=lo/\lo<2 ^ 62/\-(2 ^ 62)<=hi/\hi<2 ^ 62/\hi - lo<=1000000)/\∀p,H p=none->Q (.ref p) (upd H p (.lst ((aAL lo hi).map V.int)))):=pW.or (pD hc)
def uS (K:aa) (tl:TE):TI:=λσ H R=>tl σ H λx H1=>∃a,x = .ref a/\(((∃xs,SqL K H1 a xs)/\R (Itl K a) H1)\/((∃xs,SqT K H1 a xs)/\R (Itt K a) H1))
theorem aCn {tg l:Expr}{tl:TE}(hl:PE X l tl):PI X tg l (uS X.K tl):=by
 intro pins s σ H R I h
 refine thn (hl pins s σ H _ I h) λv s1 ⟨x,H1,I1,r1,q1⟩=>?_
 obtain⟨a,e,q⟩:=q1
 subst e
 cases r1
 rcases q with⟨⟨xs,hq⟩,q⟩ | ⟨⟨xs,hq⟩,q⟩
 ·obtain⟨its,rv,p,hz⟩:=I1.list hq
  refine oy p.isList ?_
  refine⟨s1.heap.objs.size,[s1.heap.objs.size],_,_,H1,rfl,I1.kept (t':=s1.toks) λb o e=>ak _ e,vO a _,⟨_,ck _ rfl,rfl,rfl⟩,λb hb=>?_,q⟩
  have e:b=s1.heap.objs.size:=by simpa using hb
  subst e
  exact I1.fpOk (av _) (I1.hok.fresh (av _))
 ·obtain⟨its,rv,p,hz⟩:=I1.tuple hq
  refine nk (show s1.heap.IsTuple a its.toArray from p) ?_
  refine⟨s1.heap.objs.size,[s1.heap.objs.size],_,_,H1,rfl,I1.kept (t':=s1.toks) λb o e=>ak _ e,vC a _,⟨_,ck _ rfl,rfl,rfl⟩,λb hb=>?_,q⟩
  have e:b=s1.heap.objs.size:=by simpa using hb
  subst e
  exact I1.fpOk (av _) (I1.hok.fresh (av _))
end
structure Def (P:Program)(w:World)(K:aa)(mg:Str->Option Value)(base:Heap)(x:Str)(k:Nat)(ps:List Str)(sp:Sp):Prop where
 ex:∃(f:Addr) (fd:FuncData),FnOk P w K mg base CX0 k f fd ps sp/\mg x=some (.ref f)/\cw K (.ref f)=true/\Binds K fd ps []
theorem Def.mono {P:Program}{w:World}{K:aa}{mg:Str->Option Value}{base:Heap}{x:Str}{j k:Nat}{ps:List Str}{sp:Sp}(D:Def P w K mg base x j ps sp)(h:j<=k):Def P w K mg base x k ps sp:=by
 obtain⟨f,fd,F,r⟩:=D.ex
 exact⟨f,fd,F.mono h,r⟩
theorem bL {X:Cx}{x:Str}{k:Nat}{ps:List Str}{sp:Sp}{p pos:Pos}{e:Expr}{es:List Expr}{t:TA}(D:Def X.prog X.w X.K X.mg X.base x k ps sp)(hr:Room k X.A)(hg:Gl X x)(ha:PA X (e :: es) t)
  (hdb:(x == ("__debug__" : Str))=false:=by decide) (he:cx (e :: es) X.env=(false,eval e X.env) :: cx es X.env:=by rfl) (hpl:(jg pos (cx es X.env)).any (·.1)=false:=by rfl) :
  PE X (.Call (.Name x p) (e :: es) [] pos) (bQ sp [] E0 t):=by
 obtain⟨f,fd,F,hm,hk,hb⟩:=D.ex
 exact aAY F hr hg hm hk hb .nil aCP ha hdb he hpl
def SameX (acc:Addr) (H H':Hp):Prop:=∀b o,b≠acc->H b=some o->H' b=some o
theorem SameX.refl (acc:Addr)(H:Hp):SameX acc H H:=λ_ _ _ h=>h
theorem SameX.trans {acc:Addr}{H H1 H2:Hp}(a:SameX acc H H1)(b:SameX acc H1 H2):SameX acc H H2:=λc o n h=>b c o n (a c o n h)
theorem Same.x {acc:Addr}{H H':Hp}(e:Same H H'):SameX acc H H':=λb o _ h=>e b o h
theorem SameX.put {acc:Addr}{H:Hp}(o:HO):SameX acc H (upd H acc o):=λb u n h=>by rw[aM n];exact h
def Agree (vars:List Nat) (σ σ':St):Prop:=∀k,k∉vars->σ'[k]?=σ[k]?
theorem Agree.refl (vars:List Nat)(σ:St):Agree vars σ σ:=λ_ _=>rfl
theorem Agree.trans {vars:List Nat}{σ σ1 σ2:St}(a:Agree vars σ σ1)(b:Agree vars σ1 σ2):Agree vars σ σ2:=λk h=>(b k h).trans (a k h)
theorem Agree.set {vars:List Nat}{σ:St}{j:Nat}(h:j∈vars)(v:Option V):Agree vars σ (σ.set j v):=λk hk=>iu (λe:j=k=>hk (by rw[<- e];exact h))
theorem lY {σ:St}{j:Nat}{v:Option V}(h:j<σ.length):(σ.set j v)[j]?=some v:=gc h
def Emits (vars:List Nat) (tb:TS) (acc:Addr) (σ:St) (H:Hp) (L:List V):Prop:=
 ∀(D:lF) (pre:List V),H acc=some (.lst pre)->pre.length+L.length<=1000000->(∀σ' H',σ'.length=σ.length->Agree vars σ σ'->SameX acc H H'->H' acc=some (.lst (pre++L))->D.nx σ' H')->tb D σ H
theorem dX {vars:List Nat}{te:TE}{acc:Addr}{σ:St}{H:Hp}{x:V}(h:∀Q:VK,(∀H',Same H H'->Q x H')->te σ H Q):Emits vars (gE te acc) acc σ H [x]:=by
 intro D pre ha hz hd
 refine h _ λH' e=>⟨pre,e _ _ ha,?_,hd σ _ rfl (Agree.refl _ _) (e.x.trans (SameX.put _)) aE⟩
 exact ff (show pre.length<=1000000 by simp at hz;omega) (by decide)
theorem aAc {vars:List Nat}{tc:TT}{tb:TS}{acc:Addr}{σ:St}{H:Hp}{c:Bool}{L:List V}(hne:∀pre,H acc=some (.lst pre)->True)(h:∀Q:Bool->Hp->Prop,(∀H',Same H H'->Q c H')->tc σ H Q)(hb:c=true->∀H',Same H H'->Emits vars tb acc σ H' L) :
  Emits vars (nM [tc] tb) acc σ H (if c=true then L else[]):=by
 intro D pre ha hz hd
 refine h _ λH' e=>?_
 cases c with
 |true=>
  refine kK (hb rfl H' e D pre (e _ _ ha) hz λσ' H2 hl ag sx h2=>hd σ' H2 hl ag (e.x.trans sx) h2)
 |false=>exact pE (hd σ H' rfl (Agree.refl _ _) e.x (by rw[if_neg bq,jc];exact e _ _ ha))
theorem bC {α:Type}(f:Nat->List α)(i:Nat):(bu (i+1)).flatMap f=(bu i).flatMap f++f i:=by
 rw[List.range_succ,List.flatMap_append]
 simp
theorem cL {α:Type}(f:Nat->List α){i n:Nat}(h:i<=n):((bu i).flatMap f).length<=((bu n).flatMap f).length:=by
 induction h with
 |refl=>exact av _
 |step _ ih=>rw[bC,aq];omega
theorem rO {K:aa}{vars:List Nat}{tb:TS}{acc a:Addr}{σ:St}{H:Hp}{xs:List V}{j:Nat}{L:Nat->List V}(hj:j∈vars)(hjl:j<σ.length)(hs:∀H',SameX acc H H'->SqL K H' a xs)
  (h:∀i x σ' H',xs[i]?=some x->σ'.length=σ.length->Agree vars σ σ'->σ'[j]?=some (some x)->SameX acc H H'->(∃pre,H' acc=some (.lst pre))->Emits vars tb acc σ' H' (L i)) :
  Emits vars (jE (Itl K a) (aX j) tb) acc σ H ((bu xs.length).flatMap L):=by
 intro D pre ha hz hd
 refine oP (K:=K) (a:=a) (xs:=xs) (g:=aX j) (D:=D) (λi σ' H'=>i<=xs.length/\σ'.length=σ.length/\Agree vars σ σ'/\SameX acc H H'/\H' acc=some (.lst (pre++(bu i).flatMap L))) ⟨aj _,rfl,Agree.refl _ _,SameX.refl _ _,by simpa using ha⟩ (λi σ1 H1 _ ⟨_,_,_,sx1,_⟩=>hs H1 sx1) (λi x σ1 H1 hx ⟨_,hl1,ag1,sx1,h1⟩=>?_) λσ1 H1 ⟨_,hl1,ag1,sx1,h1⟩=>hd σ1 H1 hl1 ag1 sx1 h1
 have hi:i<xs.length:=(ao.mp hx).1
 have hle:=cL L (show i+1<=xs.length from hi)
 rw[bC,aq] at hle
 have fin:∀σ' H',σ'.length=σ1.length->Agree vars (σ1.set j (some x)) σ'->SameX acc H1 H'->H' acc=some (.lst ((pre++(bu i).flatMap L)++L i)) ->
   (i+1<=xs.length/\σ'.length=σ.length/\Agree vars σ σ'/\SameX acc H H'/\H' acc=some (.lst (pre++(bu (i+1)).flatMap L))):=λσ' H' hl ag sx h2=>
  ⟨hi,hl.trans hl1,(ag1.trans (Agree.set hj _)).trans ag,sx1.trans sx,by rw[h2,bC,i4]⟩
 refine h i x (σ1.set j (some x)) H1 hx (by rw[dm];exact hl1) (ag1.trans (Agree.set hj _)) (lY (by omega)) sx1 ⟨_,h1⟩ _ _ h1 (by rw[aq];omega) λσ' H' hl ag sx h2=>fin σ' H' (hl.trans (dm ..)) ag sx h2
theorem pN {K:aa}{vars:List Nat}{tb:TS}{acc a:Addr}{σ:St}{H:Hp}{xs:List V}{j:Nat}{L:Nat->List V}(hj:j∈vars)(hjl:j<σ.length)(hs:∀H',SameX acc H H'->SqT K H' a xs)
  (h:∀i x σ' H',xs[i]?=some x->σ'.length=σ.length->Agree vars σ σ'->σ'[j]?=some (some x)->SameX acc H H'->(∃pre,H' acc=some (.lst pre))->Emits vars tb acc σ' H' (L i)) :
  Emits vars (jE (Itt K a) (aX j) tb) acc σ H ((bu xs.length).flatMap L):=by
 intro D pre ha hz hd
 refine aBA (K:=K) (a:=a) (xs:=xs) (g:=aX j) (D:=D) (λi σ' H'=>i<=xs.length/\σ'.length=σ.length/\Agree vars σ σ'/\SameX acc H H'/\H' acc=some (.lst (pre++(bu i).flatMap L))) ⟨aj _,rfl,Agree.refl _ _,SameX.refl _ _,by simpa using ha⟩ (λi σ1 H1 _ ⟨_,_,_,sx1,_⟩=>hs H1 sx1) (λi x σ1 H1 hx ⟨_,hl1,ag1,sx1,h1⟩=>?_) λσ1 H1 ⟨_,hl1,ag1,sx1,h1⟩=>hd σ1 H1 hl1 ag1 sx1 h1
 have hi:i<xs.length:=(ao.mp hx).1
 have hle:=cL L (show i+1<=xs.length from hi)
 rw[bC,aq] at hle
 have fin:∀σ' H',σ'.length=σ1.length->Agree vars (σ1.set j (some x)) σ'->SameX acc H1 H'->H' acc=some (.lst ((pre++(bu i).flatMap L)++L i)) ->
   (i+1<=xs.length/\σ'.length=σ.length/\Agree vars σ σ'/\SameX acc H H'/\H' acc=some (.lst (pre++(bu (i+1)).flatMap L))):=λσ' H' hl ag sx h2=>
  ⟨hi,hl.trans hl1,(ag1.trans (Agree.set hj _)).trans ag,sx1.trans sx,by rw[h2,bC,i4]⟩
 refine h i x (σ1.set j (some x)) H1 hx (by rw[dm];exact hl1) (ag1.trans (Agree.set hj _)) (lY (by omega)) sx1 ⟨_,h1⟩ _ _ h1 (by rw[aq];omega) λσ' H' hl ag sx h2=>fin σ' H' (hl.trans (dm ..)) ag sx h2
theorem bH:d5 "len" = some (.builtin "len"):=by decide+kernel
theorem xY:d5 "all" = some (.builtin "all"):=by decide+kernel
theorem aBQ:d5 "min" = some (.builtin "min"):=by decide+kernel
theorem aCH:d5 "max" = some (.builtin "max"):=by decide+kernel
theorem nC:d5 "isinstance" = some (.builtin "isinstance"):=by decide+kernel
theorem eB:d5 "tuple" = some (.type "tuple"):=by decide+kernel
theorem aBe:d5 "list" = some (.type "list"):=by decide+kernel
theorem qB:d5 "int" = some (.type "int"):=by decide+kernel
theorem aBF:d5 "bool" = some (.type "bool"):=by decide+kernel
structure Blt (mg:Str->Option Value):Prop where
 len:mg "len" = none
 all:mg "all" = none
 min:mg "min" = none
 max:mg "max" = none
 sum:mg "sum" = none
 isi:mg "isinstance" = none
 sorted:mg "sorted" = none
 tuple:mg "tuple" = none
 list:mg "list" = none
 range:mg "range" = none
 int:mg "int" = none
 bool:mg "bool" = none
end L2
namespace L2
open PySem
theorem aDJ {A:Around}{k:Nat}(hr:Room k A):A.units+100<cLine:=by have:=hr.un;omega
theorem aDB {A:Around}{k:Nat}(hr:Room k A):A.units+101<cLine:=by have:=hr.un;omega
end L2
namespace L2
open PySem PySem.Spec PyProof.Rows
section
variable {X:Cx}{K:aa}
theorem bT (hK:X.K=K):IxR X (λx y H Q=>aDr K x y H Q\/aDu K x y H Q):=by subst hK;exact aDS
theorem bB (hK:X.K=K):OpR X (iw .Add) (bV K):=by subst hK;exact aBb
theorem cC {k:Nat}(hK:X.K=K)(hr:Room k X.A):OpR X (gf .Eq) (iV K):=by subst hK;exact aCv (aDJ hr)
theorem tW {k:Nat}(hK:X.K=K)(hr:Room k X.A):OpR X (gf .NotEq) (aAC K):=by subst hK;exact aDd (aDB hr)
theorem iH (hK:X.K=K):CallR X (.builtin "isinstance") (aBL K):=by subst hK;exact zN
def eA (K:aa):List V->Hp->VK->Prop:=λxs H Q=>∃p ys,xs=[.ref p]/\(SqL K H p ys\/SqT K H p ys)/\Q (.int ys.length) H
theorem aU (hK:X.K=K):CallR X (.builtin "len") (eA K):=by subst hK;exact qU
def aDy (K:aa):List V->Hp->VK->Prop:=λvs H Q=>∃(a:Addr) (bs:List Bool),vs=[.ref a]/\Sq K H a (bs.map V.bl)/\Q (.bl (bs.all id)) H
theorem lR (hK:X.K=K)(hc:X.calm=true):CallR X (.builtin "all") (aDy K):=by subst hK;exact yK hc
def aEs (K:aa):List V->Hp->VK->Prop:=λvs H Q=>∃(a:Addr) (ns:List Int),vs=[.ref a]/\Sq K H a (ns.map V.int)/\ns≠[]/\∀m:Int,m∈ns->(∀k∈ns,m<=k)->Q (.int m) H
theorem wT (hK:X.K=K)(hc:X.calm=true):CallR X (.builtin "min") (aEs K):=by subst hK;exact yQ hc
def aEh (K:aa):List V->Hp->VK->Prop:=λvs H Q=>∃(a:Addr) (ns:List Int),vs=[.ref a]/\Sq K H a (ns.map V.int)/\ns≠[]/\∀m:Int,m∈ns->(∀k∈ns,k<=m)->Q (.int m) H
theorem xV (hK:X.K=K)(hc:X.calm=true):CallR X (.builtin "max") (aEh K):=by subst hK;exact zF hc
def fR (K:aa):List V->Hp->VK->Prop:=λxs H Q=>∃p ys,xs=[.ref p]/\((SqL K H p ys/\∀l,H l=none->Q (.ref l) (upd H l (.tup ys)))\/(SqT K H p ys/\Q (.ref p) H))
theorem dE (hK:X.K=K):CallR X (.type "tuple") (fR K):=by subst hK;exact oU
def aCZ (K:aa):List V->Hp->VK->Prop:=λvs H Q=>(∃p ys,vs=[.ref p]/\(SqL K H p ys\/SqT K H p ys)/\∀l,H l=none->Q (.ref l) (upd H l (.lst ys))) \/
  ∃(a:Addr) (lo hi:Int),vs=[.ref a]/\H a=some (.rng lo hi)/\(-(2 ^ 62)<=lo/\lo<2 ^ 62/\-(2 ^ 62)<=hi/\hi<2 ^ 62/\hi - lo<=1000000)/\∀p,H p=none->Q (.ref p) (upd H p (.lst ((aAL lo hi).map V.int)))
theorem uY (hK:X.K=K)(hc:X.calm=true):CallR X (.type "list") (aCZ K):=by subst hK;exact oJ hc
theorem fQ {tg l:Expr}{tl:TE}(hK:X.K=K)(hl:PE X l tl):PI X tg l (uS K tl):=by subst hK;exact aCn hl
theorem sJ {es:List Expr}{k:Nat}{t:TGs}{n:Nat}{pos:Pos}(hK:X.K=K)(hc:X.calm=true)(h:PGs X es t)(hn:(kg es X.env).length=n:=by rfl)(hst:(kg es X.env).findIdx? (·.1)=none:=by rfl):PG X (.Tuple es k pos) (aBJ K n t):=by
 subst hK;exact aCD hc h hn hst
end
abbrev yLt:R2:=rI0 λi j => .bl (decide (i<j))
abbrev yLe:R2:=rI0 λi j => .bl (decide (i<=j))
abbrev yGt:R2:=rI0 λi j => .bl (decide (j<i))
abbrev yGe:R2:=rI0 λi j => .bl (decide (j<=i))
abbrev aCV:R2:=rI0 λi j => .int (i - j)
abbrev aDL:R2:=rI aEa λi j => .int (i / j)
abbrev sQ:R2:=rI (λ_ j=>0<j) λi j => .int (i % j)
abbrev aBK:R2:=rI aEf λi j => .int (i ^ j.toNat)
abbrev aBI:V->Hp->VK->Prop:=rU λi => .int (-i)
abbrev eR (K:aa):R2:=λx y H Q=>aDr K x y H Q\/aDu K x y H Q
end L2
namespace L2
open PySem
def fK (T:List (List Int)):Dt := .tup (T.map λr => .tup (r.map .int))
structure Quad (T:List (List Int))(n:Nat):Prop where
 len:T.length=n
 row:∀r∈T,r.length=n
def at2 (T:List (List Int)) (i j:Nat):Int:=(T.getD i []).getD j 0
section
variable {K:aa}{H:Hp}{T:List (List Int)}{n:Nat}
theorem ShL.rows:∀{T:List (List Int)}{rs:List V},ShL K H (T.map λr=>Dt.tup (r.map Dt.int)) rs->rs.length=T.length/\∀(i:Nat) (row:List Int),T[i]?=some row->∃b,rs[i]?=some (.ref b)/\SqT K H b (row.map V.int)
 |[],rs,h=>by
  have h:rs=[]:=h
  subst h
  exact⟨rfl,λi row e=>by simp at e⟩
 |r :: T,rs,⟨x,rr,h1,⟨b,xs,h2,h3,h4⟩,h5⟩=>by
  obtain⟨e,g⟩:=ShL.rows h5
  subst h1
  refine⟨by rw[cz,cz,e],λi row er=>?_⟩
  cases i with
  |zero=>
   have:r=row:=by simpa using er
   subst this
   exact⟨b,by rw[h2];rfl,by rw[<- ShL.of_ints h4];exact h3⟩
  |succ i=>exact g i row (by simpa using er)
theorem Sh.tab {v:V}(h:Sh K H (fK T) v):∃a rs,v = .ref a/\SqT K H a rs/\rs.length=T.length/\∀(i:Nat) (row:List Int),T[i]?=some row->∃b,rs[i]?=some (.ref b)/\SqT K H b (row.map V.int):=by
 obtain⟨a,rs,e,hq,hl⟩:=h
 obtain⟨e2,g⟩:=ShL.rows hl
 exact⟨a,rs,e,hq,e2,g⟩
theorem ShL.of_rows:∀{T:List (List Int)}{rs:List V},rs.length=T.length->(∀(i:Nat) (row:List Int),T[i]?=some row->∃b,rs[i]?=some (.ref b)/\SqT K H b (row.map V.int))->ShL K H (T.map λr=>Dt.tup (r.map Dt.int)) rs
 |[],rs,h,_=>gu.mp h
 |r :: T,[],h,_=>by simp at h
 |r :: T,x :: rs,h,g=>by
  obtain⟨b,e,hq⟩:=g 0 r rfl
  have e:x = .ref b:=by simpa using e
  exact⟨x,rs,rfl,⟨b,_,e,hq,ShL.ints r⟩,ShL.of_rows (by simpa using h) λi row er=>by
   obtain⟨c,e2,q2⟩:=g (i+1) row (by simpa using er)
   exact⟨c,by simpa using e2,q2⟩⟩
theorem Quad.get (q:Quad T n){i:Nat}(h:i<n):∃row,T[i]?=some row/\row.length=n/\T.getD i []=row:=by
 have hi:i<T.length:=by rw[q.len];exact h
 refine⟨T[i],ai hi,q.row _ (e7 hi),?_⟩
 rw[ah,ai hi];rfl
theorem sI {xs:List Int}{j:Nat}(h:j<xs.length):xs[j]?=some (xs.getD j 0):=by
 rw[ah,ai h];rfl
theorem ixT {p:Addr}{xs:List V}{j:Nat}{v:V}{Q:VK}(h:SqT K H p xs)(hj:xs[j]?=some v)(q:Q v H):eR K (.ref p) (.int (j:Int)) H Q := .inr ⟨p,xs,j,v,rfl,rfl,h,oG hj,q⟩
theorem ixL {p:Addr}{xs:List V}{j:Nat}{v:V}{Q:VK}(h:SqL K H p xs)(hj:xs[j]?=some v)(q:Q v H):eR K (.ref p) (.int (j:Int)) H Q := .inl ⟨p,xs,j,v,rfl,rfl,h,oG hj,q⟩
end
theorem cK {acc:Addr}{H H2:Hp}{o:HO}(hacc:H acc=none)(sx:SameX acc (upd H acc o) H2):Same H H2:=λb u e=>sx b u (aQ e hacc) (by rw[aM (aQ e hacc)];exact e)
theorem Emits.cast {vars:List Nat}{tb:TS}{acc:Addr}{σ:St}{H:Hp}{L L':List V}(h:Emits vars tb acc σ H L)(e:L=L'):Emits vars tb acc σ H L':=e ▸ h
theorem cO (vars:List Nat)(L:List V){g:TG}{J:It}{tb:TS}{acc:Addr}{σ:St}{H:Hp}{D:lF}(ha:H acc=none)(hz:L.length<=1000000)(h:Emits vars (jE J g tb) acc σ (upd H acc (.lst [])) L)
  (q:∀σ' H',Same H H'->H' acc=some (.lst L)->D.nx σ' H'):jE J g tb D σ (upd H acc (.lst [])):=
 h _ [] aE (by simpa using hz) λσ' H' _ _ sx h2=>q σ' H' (cK ha sx) (by simpa using h2)
section
variable {vars:List Nat}{tb:TS}{acc a:Addr}{σ:St}{H:Hp}{j:Nat}{D:lF}{K:aa}
theorem tG {xs:List V}(R:Nat->List V->Hp->Prop)(hj:j∈vars)(hjl:j<σ.length)(h0:R 0 [] (upd H acc (.lst [])))(ha:H acc=none)(hs:∀i L H',Same H H'->R i L H'->SqL K H' a xs)
  (h:∀i x σ' H' L (D:lF),xs[i]?=some x->σ'.length=σ.length->Agree vars σ σ'->σ'[j]?=some (some x)->Same H H'->H' acc=some (.lst L)->R i L H' ->
   (∀σ'' H'' L',σ''.length=σ.length->Agree vars σ σ''->Same H H''->H'' acc=some (.lst L')->R (i+1) L' H''->D.nx σ'' H'')->tb D σ' H')
  (q:∀σ' H' L,Same H H'->H' acc=some (.lst L)->R xs.length L H'->D.nx σ' H'):jE (Itl K a) (aX j) tb D σ (upd H acc (.lst [])):=by
 refine oP (K:=K) (a:=a) (xs:=xs) (g:=aX j) (D:=D) (λi σ' H'=>i<=xs.length/\σ'.length=σ.length/\Agree vars σ σ'/\Same H H'/\∃L,H' acc=some (.lst L)/\R i L H') ⟨aj _,rfl,Agree.refl _ _,aL ha _,[],aE,h0⟩ (λi σ1 H1 _ ⟨_,_,_,sm,L,_,r1⟩=>hs i L H1 sm r1) (λi x σ1 H1 hx ⟨_,hl1,ag1,sx1,L,h1,r1⟩=>?_) λσ1 H1 ⟨_,_,_,sm,L,h1,r1⟩=>q σ1 H1 L sm h1 r1
 have hi:i<xs.length:=(ao.mp hx).1
 exact h i x (σ1.set j (some x)) H1 L _ hx (by rw[dm];exact hl1) (ag1.trans (Agree.set hj _)) (lY (by omega)) sx1 h1 r1 λσ2 H2 L' hl2 ag2 sm2 h2 r2=>⟨hi,hl2,ag2,sm2,L',h2,r2⟩
end
structure Mat (H:Hp)(F:Addr)(ls:List Addr)(M:List (List Int)):Prop where
 top:H F=some (.lst (ls.map V.ref))
 len:ls.length=M.length
 row:∀(i:Nat) (l:Addr) (r:List Int),ls[i]?=some l->M[i]?=some r->H l=some (.lst (r.map V.int))
 nd:ls.Nodup
 out:F∉ls
section
variable {K:aa}{H:Hp}
theorem ShL.append:∀{ds es:List Dt}{xs ys:List V},ShL K H ds xs->ShL K H es ys->ShL K H (ds++es) (xs++ys)
 |[],es,xs,ys,h,h'=>by rw[show xs=[] from h];exact h'
 |d :: ds,es,_,ys,⟨x,r,h1,h2,h3⟩,h'=>⟨x,r++ys,by rw[h1];rfl,h2,ShL.append h3 h'⟩
theorem ShL.take:∀{ds:List Dt}{xs:List V} (n:Nat),ShL K H ds xs->ShL K H (ds.take n) (xs.take n)
 |_,_,0,_=>by rw[List.take_zero,List.take_zero];rfl
 |[],xs,n+1,h=>by rw[show xs=[] from h];rfl
 |d :: ds,_,n+1,⟨x,r,h1,h2,h3⟩=>⟨x,r.take n,by rw[h1];rfl,h2,ShL.take n h3⟩
theorem ShL.drop:∀{ds:List Dt}{xs:List V} (n:Nat),ShL K H ds xs->ShL K H (ds.drop n) (xs.drop n)
 |_,_,0,h=>by rw[oa,oa];exact h
 |[],xs,n+1,h=>by rw[show xs=[] from h];rfl
 |d :: ds,_,n+1,⟨x,r,h1,h2,h3⟩=>by rw[h1,tf,tf];exact ShL.drop n h3
end
theorem yW (ns:List Int)(lo hi:Option Int):∃ms:List Int,rS (ns.map V.int) lo hi=ms.map V.int/\ms.length<=ns.length:=by
 refine⟨(ns.drop (HT.sIx ns.length 0 lo)).take (HT.sIx ns.length ns.length hi - HT.sIx ns.length 0 lo),?_,?_⟩
 ·unfold rS
  rw[af,pk,t9]
 ·rw[fj,jn];omega
end L2
namespace L2
open PySem PySem.Spec PyProof.Rows
section
variable {X:Cx}
theorem jF {prog:Program}{w:World}{A:Around}{E:Value->Shared->Prop}{s:Shared}{t sl:Addr}{items:Array Value}{vl vu:Value}{lo hi:Option Int}{Q:Value->Shared->Prop}(ht:IsTup s.heap t items)(hs:s.heap.IsSliceOf sl vl vu .none)(pl:IsPart vl lo)(pu:IsPart vu hi)
  (hw:HT.sIx items.size 0 lo=0/\HT.sIx items.size items.size hi=items.size) (h:Q (.ref t) s):wpAny (model prog w) A (uj (.ref t) (.ref sl)) Q E s:=by
 obtain⟨os,hos,hcs,hds⟩:=id hs
 have hTs:s.TypeIs (.ref sl) "slice":=⟨os,hos,hcs⟩
 unfold uj
 try with_reducible refine e8 ?_
 first | refine ae (ay ?_) | skip
 refine ae (wpAny_sequenceKey ht.typeIs (by decide) ?_)
 refine ae (fv (name:=ig "__getitem__") ht.typeIs d9
  (i9 d9 ht.typeIs su ?_ (args_tuple_getitem _ _)))
 show wpAny _ _ (ng (.ref t) >>= _) _ _ s
 refine ae (tupleItemsOf_ ht ?_)
 refine ae (qx hTs ?_)
 rw[if_pos (by decide)]
 refine ae (HT.sliceApplied_gen hs pl pu ?_)
 rw[hw.1,hw.2]
 have hyes:((((0:Nat):Int) == 0 && (1:Int) == 1 && (items.size - 0) == items.size)=true):=by simp
 show wpAny _ _ (if(((0:Nat):Int) == 0 && (1:Int) == 1 && (items.size - 0) == items.size)=true then _ else _) _ _ s
 rw[if_pos hyes]
 unfold Builtin.Tuple.tupleIsExact
 refine ae (ae (qx ht.typeIs (ay ?_)))
 rw[if_pos (show(Value.type "tuple" == Value.type "tuple")=true by rfl)]
 exact ae (uo (ay ⟨_,rfl,ay h⟩))
def aEq (K:aa):V->Option Int->Option Int->Hp->VK->Prop:=λx lo hi H Q=>∃a xs,x = .ref a/\SqT K H a xs/\∀p H',Same H H'->SqT K H' p (rS xs lo hi)->Q (.ref p) H'
theorem aBg:SlR X (aEq X.K):=by
 intro pins s σ H x v vl vu lo hi sl Q I rx hs pl pu h
 obtain⟨a,xs,rfl,hx,q⟩:=h
 by_cases hw:HT.sIx xs.length 0 lo=0/\HT.sIx xs.length xs.length hi=xs.length
 ·obtain rfl:v=Value.ref a:=rx
  obtain⟨its,rv,p,hz⟩:=I.tuple hx
  have hl:=rv.length
  have ec:rS xs lo hi=xs:=by unfold rS;rw[hw.1,hw.2,oa,Nat.sub_zero,ia]
  refine⟨"tuple",_,d9.lookup,p.typeIs,?_⟩
  refine jF p hs pl pu (by simp only[au,<- hl];exact hw) ?_
  exact⟨.ref a,H,I,rfl,q a H (Same.refl H) (by rw[ec];exact hx)⟩
 ·exact aBZ (X:=X) pins s σ H (.ref a) v vl vu lo hi sl Q I rx hs pl pu ⟨a,xs,rfl,hx,hw,λp hp=>q p _ (aL hp _) (.of aE)⟩
abbrev mO (K:aa):V->Option Int->Option Int->Hp->VK->Prop:=λx lo hi H Q=>aDZ K x lo hi H Q\/aEq K x lo hi H Q
theorem fJ {K:aa}(hK:X.K=K):SlR X (mO K):=by subst hK;exact aBh.or aBg
end
section
variable {prog:Program}{w:World}{A:Around}{E:Value->Shared->Prop}{s:Shared}
end
theorem IntsAre.len:∀{ns:List Int}{us:List Value},IntsAre us ns->us.length=ns.length
 |[],_,h=>by cases h;rfl
 |n :: ns,_,h=>by
  cases h with
  |cons _ t h=>rw[cz,cz,IntsAre.len h]
mutual
def toP:Dt->PyData
 | .non => .none
 | .bl b => .bool b
 | .int i => .int i
 | .str x => .str x
 | .tup ds => .tuple (jP ds)
 | .lst ds => .list (jP ds)
def jP:List Dt->List PyData
 |[]=>[]
 |d :: ds=>toP d :: jP ds
end
mutual
theorem vP:∀d,(toP d).depth=dep d
 | .non=>rfl
 | .bl b=>rfl
 | .int i=>rfl
 | .str x=>rfl
 | .tup ds=>by show(PyData.tuple (jP ds)).depth=_;unfold PyData.depth dep;rw[oC]
 | .lst ds=>by show(PyData.list (jP ds)).depth=_;unfold PyData.depth dep;rw[oC]
theorem oC:∀ds,rb (jP ds)=pO ds
 |[]=>by unfold jP pO rb;rfl
 |d :: ds=>by unfold jP pO rb;rw[vP,oC]
end
mutual
theorem nP:∀d,(toP d).hasDict=false
 | .non=>by unfold toP jj;rfl
 | .bl b=>by unfold toP jj;rfl
 | .int i=>by unfold toP jj;rfl
 | .str x=>by unfold toP jj;rfl
 | .tup ds=>by unfold toP jj;exact gS ds
 | .lst ds=>by unfold toP jj;exact gS ds
theorem gS:∀ds,o3 (jP ds)=false
 |[]=>by unfold jP o3;rfl
 |d :: ds=>by unfold jP o3;rw[nP,gS];rfl
end
section
variable {X:Cx}{pins:List (Addr×Obj)}{σ:St}{H:Hp}{s:Shared}
mutual
theorem Inv.reads (I:Inv X pins σ H s):∀{d:Dt}{x:V}{v:Value},RelV x v->Sh X.K H d x->∃as,Reads s.heap v (toP d) as
 | .non,x,v,r,h=>by obtain rfl:x = .non:=h;obtain rfl:v = .none:=r;exact⟨_, .none⟩
 | .bl b,x,v,r,h=>by obtain rfl:x = .bl b:=h;obtain rfl:v = .bool b:=r;exact⟨_, .bool b⟩
 | .int i,x,v,r,h=>by obtain rfl:x = .int i:=h;obtain⟨t,rfl⟩:=r;exact⟨_, .int i t⟩
 | .str y,x,v,r,h=>by obtain rfl:x = .str y:=h;obtain⟨t,rfl⟩:=r;exact⟨_, .str y t⟩
 | .tup ds,x,v,r,⟨a,xs,h1,h2,h3⟩=>by
  subst h1
  obtain rfl:v=Value.ref a:=r
  obtain⟨its,rv,⟨o,ho,hc,n,hd⟩,_⟩:=I.tuple h2
  obtain⟨as,ha⟩:=Inv.readsAll I rv h3
  exact⟨_, .tuple ho hc hd ha⟩
 | .lst ds,x,v,r,⟨a,xs,h1,h2,h3⟩=>by
  subst h1
  obtain rfl:v=Value.ref a:=r
  obtain⟨its,rv,pl,_⟩:=I.list h2
  obtain⟨o,ho,hc,n,hd⟩:=pl.isList
  obtain⟨as,ha⟩:=Inv.readsAll I rv h3
  exact⟨_, .list ho hc hd ha⟩
theorem Inv.readsAll (I:Inv X pins σ H s):∀{ds:List Dt}{xs:List V}{us:List Value},Vals xs us->ShL X.K H ds xs->∃as,ReadsAll s.heap us (jP ds) as
 |[],xs,us,r,h=>by obtain rfl:xs=[]:=h;cases r;exact⟨_, .nil⟩
 |d :: ds,xs,us,r,⟨x,t,h1,h2,h3⟩=>by
  subst h1
  cases r with
  |cons r1 r2=>
   obtain⟨as,h4⟩:=Inv.reads I r1 h2
   obtain⟨bs,h5⟩:=Inv.readsAll I r2 h3
   exact⟨_, .cons h4 h5⟩
end
end
def okR (d:Dt):Prop:=(toP d).showable=true/\(toP d).leavesShort 1930=true/\(toP d).bulk<=4000/\dep d<=100
def uG (K:aa):List V->Hp->VK->Prop:=λvs H Q=>∃(d:Dt) (x:V),vs=[x]/\Sh K H d x/\okR d/\Q (.str (toP d).shown) H
theorem xT {X:Cx}{k:Nat}(hr:Room k X.A):CallR X (.builtin "repr") (uG X.K):=by
 intro pins s σ H xs us Q I r ⟨d,x,e,hx,⟨k1,k2,k3,k4⟩,q⟩
 subst e
 obtain⟨u,rfl,ru⟩:=rQ r
 obtain⟨as,hR⟩:=I.reads ru hx
 have hsz:(toP d).shown.length<=cb:=by
  refine bc (PyData.shown_le_bulk 1930 (by decide) _ k2) (bc (Nat.add_le_add_right (Nat.mul_le_mul_left _ k3) _) (by decide))
 have fin:∀(h':Heap) (t:Tok) (tk:Nat),(∀b o,s.heap.get? b=some o->h'.get? b=some o)->EP X pins σ Q (.str (toP d).shown t) { s with heap:=h',toks:=tk }:=λh' t tk kp=>
  ⟨.str (toP d).shown,H,I.kept (t':=tk) kp,⟨t,rfl⟩,q⟩
 cases u with
 |ref a=>
  exact repr_of_reads' hR k1 (PyData.noDict_hsm (nP d)) hr.gd (by rw[vP];have:=hr.un;omega) (λ_ _ e=>e) (λh' u tk hk=>fin h' u tk hk) hsz
 |none=>
  cases d <;> first | (cases hR;done) | skip
  exact P.repr_of_none (fin _ _ _ λ_ _ e=>e)
 |bool b=>
  cases d <;> cases hR
  exact P.repr_of_bool (fin _ _ _ λ_ _ e=>e)
 |int i t=>
  cases d <;> cases hR
  exact P.repr_of_int (by simpa[toP,rf] using k1) (fin _ _ _ λ_ _ e=>e)
 |str y t=>
  cases d <;> cases hR
  exact P.repr_of_str (fin _ _ _ λ_ _ e=>e) hsz
 |_=>cases d <;> cases hR
theorem nN {X:Cx}{K:aa}{k:Nat}(hK:X.K=K)(hr:Room k X.A):CallR X (.builtin "repr") (uG K):=by subst hK;exact xT hr
def ItAt (b:Bool) (h:Heap) (it l:Addr) (i:Nat):Prop:=∃o,h.get? it=some o/\o.cls = .type (if b then "list_iterator" else "tuple_iterator")/\o.data = .fields #[.ref l, .int i 0]
def yV (b:Bool) (h:Heap) (l:Addr) (us:Array Value):Prop:=∃o,h.get? l=some o/\o.cls = .type (if b then "list" else "tuple")/\∃n,o.data = .seq us n
theorem ItAt.keep {b:Bool}{h h':Heap}{it l:Addr}{i:Nat}(x:ItAt b h it l i)(e:∀o,h.get? it=some o->h'.get? it=some o):ItAt b h' it l i:=let⟨o,ho,r⟩:=x;⟨o,e _ ho,r⟩
theorem ItAt.lt {b:Bool}{h:Heap}{it l:Addr}{i:Nat}(x:ItAt b h it l i):it<h.objs.size:=let⟨_,ho,_⟩:=x;bj ho
section
variable {prog:Program}{w:World}{A:Around}{E:Value->Shared->Prop}{s:Shared}
theorem lV {it t:Addr}{i:Nat}{us:Array Value}{x:Value}{Q:Value->Shared->Prop}(hit:s.heap.IsTupleIter it t i)(ht:s.heap.IsTuple t us)(hx:us[i]?=some x)
  (q:∀h',h'.IsTupleIter it t (i+1)->lj it s.heap h'->Q x { s with heap:=h' }):wpAny (model prog w) A (fi (.ref it)) Q E s:=by
 obtain⟨ob,e1,e2,e3⟩:=id hit
 obtain⟨ol,f1,_,nl,f2⟩:=ht
 unfold fi;refine ae (fv (name:=ig "__next__") hit.typeIs h9 (i9 h9 hit.typeIs mm ?g (ma _)))
 case g=>
  show wpAny _ _ (field (.ref it) 0 >>= _) _ _ s;refine ae (gr e1 e3 (x := .ref t) rfl ?g)
  case g=>
   show wpAny _ _ (if(Value.ref t == Value.none)=true then _ else _) _ _ s;rw[if_neg (show ¬ ((Value.ref t == Value.none)=true) from bq)]
   show wpAny _ _ (field (.ref it) 1 >>= _) _ _ s;refine ae (gr e1 e3 (x := .int i 0) rfl ?g)
   case g=>
    show wpAny _ _ (ua (.ref t) >>= _) _ _ s;refine ae (lg f1 f2 ?g)
    case g=>
     simp only[gy,hx];refine ae (wpAny_setField e1 e3 (by simp) (ay ⟨x,rfl,ay (q _ ?g (tj ..))⟩))
     case g=>exact⟨_,fe _ e1 (Obj.isFreed_of_fields (Obj.data_mapFields e3 _)),(Obj.cls_mapFields ..).trans e2,by rw[Obj.data_mapFields e3];simp[rawInt]⟩
theorem mI {it t:Addr}{i:Nat}{us:Array Value}{Q:Value->Shared->Prop}(hh:A.handled=none)(hit:s.heap.IsTupleIter it t i)(ht:s.heap.IsTuple t us)(hx:us[i]?=none)
  (q:∀h' e,vk it s.heap h'->(∃o,h'.get? e=some o/\o.cls = .type "StopIteration")->E (.ref e) { s with heap:=h' }):wpAny (model prog w) A (fi (.ref it)) Q E s:=by
 obtain⟨ob,e1,e2,e3⟩:=id hit
 obtain⟨ol,f1,_,nl,f2⟩:=ht
 unfold fi;refine ae (fv (name:=ig "__next__") hit.typeIs h9 (i9 h9 hit.typeIs mm ?g (ma _)))
 case g=>
  show wpAny _ _ (field (.ref it) 0 >>= _) _ _ s;refine ae (gr e1 e3 (x := .ref t) rfl ?g)
  case g=>
   show wpAny _ _ (if(Value.ref t == Value.none)=true then _ else _) _ _ s;rw[if_neg (show ¬ ((Value.ref t == Value.none)=true) from bq)]
   show wpAny _ _ (field (.ref it) 1 >>= _) _ _ s;refine ae (gr e1 e3 (x := .int i 0) rfl ?g)
   case g=>
    show wpAny _ _ (ua (.ref t) >>= _) _ _ s;refine ae (lg f1 f2 ?g)
    case g=>
     simp only[gy,hx];refine ae (uo (ae (wpAny_setField e1 e3 (by simp) ?g)))
     case g=>
      show wpAny _ _ (newExc (.type "StopIteration") [] >>= _) _ _ _;refine ae ?g
      case g=>
       simp only[newExc,newTuple];refine ae (gg ?g (by size_fits))
       case g=>
        refine ae (m:=firstArgMember _ _) (wpAny_of_eq (a:=Value.none) (by first | rfl | (simp only[firstArgMember];rfl)) ?g)
        case g=>
         refine gg ?g (by size_fits)
         case g=>
          simp only[raiseNew];refine ae (wpAny_handled ?g)
          case g=>
           first | rw[show A.in1.handled=none from hh] | rw[hh]
           exact ae (ay (wpAny_throw (q _ _ (((tj ..).extBut.push _).push _) ⟨_,ck _ rfl,rfl⟩)))
theorem zS {b:Bool}{it l:Addr}{i:Nat}{us:Array Value}{x:Value}{Q:Value->Shared->Prop}(hit:ItAt b s.heap it l i)(ho:yV b s.heap l us)(hx:us[i]?=some x)
  (q:∀h',ItAt b h' it l (i+1)->lj it s.heap h'->Q x { s with heap:=h' }):wpAny (model prog w) A (fi (.ref it)) Q E s:=by
 cases b with
 |true=>exact wpAny_nextOf_list_item (l:=l) (i:=i) (items:=us) hit ho hx q
 |false=>exact lV (t:=l) (i:=i) (us:=us) hit ho hx q
theorem aAT {b:Bool}{it l:Addr}{i:Nat}{us:Array Value}{Q:Value->Shared->Prop}(hh:A.handled=none)(hit:ItAt b s.heap it l i)(ho:yV b s.heap l us)(hx:us[i]?=none)
  (q:∀h' e,vk it s.heap h'->(∃o,h'.get? e=some o/\o.cls = .type "StopIteration")->E (.ref e) { s with heap:=h' }):wpAny (model prog w) A (fi (.ref it)) Q E s:=by
 cases b with
 |true=>exact wpAny_nextOf_list_end (l:=l) (i:=i) (items:=us) hh hit ho hx q
 |false=>exact mI (t:=l) (i:=i) (us:=us) hh hit ho hx q
abbrev itO (b:Bool) (l:Addr):Obj:={ cls := .type (if b then "list_iterator" else "tuple_iterator"),data := .fields #[.ref l, .int 0 0] }
theorem tP {b:Bool}{l:Addr}{us:Array Value}{Q:Value->Shared->Prop}(ho:yV b s.heap l us)(q:Q (.ref s.heap.objs.size) { s with heap:=s.heap.push (itO b l) }):wpAny (model prog w) A (vd (.ref l)) Q E s:=by
 cases b with
 |true=>exact oy (show s.heap.IsList l us from ho) q
 |false=>exact nk (show s.heap.IsTuple l us from ho) q
end
section
variable {X:Cx}{pins:List (Addr×Obj)}{σ:St}{H:Hp}{s:Shared}{h':Heap}
theorem Inv.turnedL {t':Nat}{ch:List Addr}(I:Inv X pins σ H s)(hf:∀b∈ch,rT X pins H b)(k:∀b o,b∉ch->s.heap.get? b=some o->h'.get? b=some o):Inv X pins σ H { s with heap:=h',toks:=t' }:=by
 have nit:∀b u,H b=some u->b∉ch:=λb u e z=>by rw[(hf b z).1] at e;cases e
 refine I.step (g':=s.gens) (d':=s.drawn) (ch:=ch) (λb hb=>?_) (λb o _ _ hc e _=>k b o hc e) (λb o _ _ hc e _=>⟨o.slots,k b o hc e⟩) (λ_ _ _ _ n=>n) (λb o hc e=>⟨o,k b o hc e⟩) (λ_ _ e=>e) (λ_ _ _ e=>e) (λb ps e=>⟨#[],by rw[e];simp⟩) (λm hm=>?_) (λb u e=>?_) I.bare
 ·obtain⟨_,f1,_,f3,f4,f5⟩:=hf b hb
  exact⟨f3,f1,f4,f5⟩
 ·obtain⟨o,es,ep,ho,r⟩:=hm
  exact⟨o,es,ep,k _ o (λz=>(hf _ z).2.1 rfl) ho,r⟩
 ·refine(I.hok b u e).stay (λc v hc q=>k c v ?_ q) (λ_ q=>q) λ_ _ q=>q
  rcases hc with z | z
  ·rw[z];exact nit b u e
  ·exact nit c _ z
end
def SqB (b:Bool) (K:aa) (H:Hp) (l:Addr) (xs:List V):Prop:=match b with | true=>SqL K H l xs | false=>SqT K H l xs
section
variable {X:Cx}{pins:List (Addr×Obj)}{σ:St}{H:Hp}{s:Shared}
theorem Inv.obAt {b:Bool}{l:Addr}{xs:List V}(I:Inv X pins σ H s)(h:SqB b X.K H l xs):∃its:List Value,Vals xs its/\yV b s.heap l its.toArray/\xs.length<=cb:=by
 cases b with
 |true=>
  obtain⟨its,rv,pl,hz⟩:=I.list h
  obtain⟨o,ho,hc,n,hd⟩:=pl.isList
  exact⟨its,rv,⟨o,ho,hc,n,hd⟩,hz⟩
 |false=>
  obtain⟨its,rv,⟨o,ho,hc,n,hd⟩,hz⟩:=I.tuple h
  exact⟨its,rv,⟨o,ho,hc,n,hd⟩,hz⟩
theorem Inv.sqB_inj {b:Bool}{l:Addr}{xs ys:List V}(I:Inv X pins σ H s)(h:SqB b X.K H l xs)(h':SqB b X.K H l ys):xs=ys:=by
 cases b with
 |true=>exact I.list_inj h h'
 |false=>exact I.tuple_inj h h'
end
theorem xB:d5 "repr" = some (.builtin "repr"):=by decide+kernel
structure aED (mg:Str->Option Value):Prop extends Blt mg where
 zip:mg "zip" = none
 repr:mg "repr" = none
 enumerate:mg "enumerate" = none
 reversed:mg "reversed" = none
 str:mg "str" = none
section
variable {prog:Program}{w:World}{A:Around}{E:Value->Shared->Prop}{s:Shared}
end
theorem cS {X:Cx}{K:aa}{o e:Expr}{es:List Expr}{to:TE}{t:TA}{name:Str}{apos cpos:Pos}{T id:String}{r:V->List V->Hp->VK->Prop}(hK:X.K=K)(pa:PlainAttrs T)(slot:Slot T name id)(hty:typeOf (.builtin id)=pure (.type "method_descriptor"))(hm:MtM X id r)(ho:PE X o to)(ha:PA X (e :: es) t)
  (b1:j0 o name X.env (eval o X.env)=eval o X.env:=by rfl)
  (b2:((jg cpos (cx (e :: es) X.env)).all (λx=>!x.1) && (backToKw cpos (vg [] X.env)).all (λx=>x.1.isSome) && decide ((e :: es).length+([]:List Keyword).length+(if([]:List Keyword).isEmpty then 0 else 1)<30))=true:=by rfl)
  (b3:(apos.endLine == cpos.line)=true:=by rfl) (b4:cx (e :: es) X.env=(false,eval e X.env) :: cx es X.env:=by rfl) (b5:(jg cpos (cx es X.env)).any (·.1)=false:=by rfl) :
  PE X (.Call (.Attribute o name apos) (e :: es) [] cpos) (tBM K T r to t):=by subst hK;exact aDO pa slot hty hm ho ha b1 b2 b3 b4 b5
def aEt:R2:=λx y H Q=>(∃a b,x = .bl a/\y = .bl b/\Q (.bl (a == b)) H)\/(y = .non/\Q (.bl (decide (x = .non))) H)
def xU:R2:=λx y H Q=>(∃a b,x = .bl a/\y = .bl b/\Q (.bl (!(a == b))) H)\/(y = .non/\Q (.bl (!decide (x = .non))) H)
theorem aCr {X:Cx}:OpR X (gf .Is) aEt:=by
 refine OpR.or (λpins s σ H x y v u Q I rx ry h=>?g) aBT
 case g=>
 obtain⟨a,b,rfl,rfl,q⟩:=h
 obtain rfl:v=Value.bool a:=rx
 obtain rfl:u=Value.bool b:=ry
 exact wpAny_is_plain (by cases a <;> cases b <;> rfl) (qE I q (by cases a <;> cases b <;> rfl))
theorem wV {X:Cx}:OpR X (gf .IsNot) xU:=by
 refine OpR.or (λpins s σ H x y v u Q I rx ry h=>?g) aAP
 case g=>
 obtain⟨a,b,rfl,rfl,q⟩:=h
 obtain rfl:v=Value.bool a:=rx
 obtain rfl:u=Value.bool b:=ry
 exact wpAny_isNot_plain (by cases a <;> cases b <;> rfl) (qE I q (by cases a <;> cases b <;> rfl))
end L2
namespace L2
open PySem
def aCd (p:Nat):V := .int (p:Int)
theorem bW {c:Bool}{A B:Prop}(e:c=true)(h:A):if c=true then A else B:=by rw[if_pos e];exact h
theorem bA {c:Bool}{A B:Prop}(e:c=false)(h:B):if c=true then A else B:=by subst e;exact pE h
theorem sK {K:aa}{H:Hp}{a l:Addr}{xs ys:List V}{o:HO}(h:SqT K H a xs)(hl:H l=some (.lst ys)):SqT K (upd H l o) a xs:=by
 have key:∀u,H a=some u->(∀zs,u ≠ .lst zs)->upd H l o a=some u:=λu e n=>by
  rw[aM]
  ·exact e
  ·intro z
   rw[z,hl] at e
   cases e
   exact n _ rfl
 rcases h with(h | ⟨u,h⟩) | h
 ·exact .inl (.inl (key _ h λ_ z=>by cases z))
 ·exact .inl (.inr ⟨u,key _ h λ_ z=>by cases z⟩)
 ·exact .inr h
section
variable {K:aa}{H:Hp}
theorem vU {xs:List V}{v:V}(hj:xs[xs.length - 1]?=some v):atI xs (-1)=some v:=by
 have hl:xs.length - 1<xs.length:=(ao.mp hj).1
 unfold atI ixN
 rw[if_neg (by decide),if_pos (by omega),show((-1:Int)+(xs.length:Int)).toNat=xs.length - 1 by omega]
 exact hj
theorem aAd {p:Addr}{xs:List V}{v:V}{Q:VK}(h:SqT K H p xs)(hj:xs[xs.length - 1]?=some v)(q:Q v H):eR K (.ref p) (.int (-1)) H Q := .inr ⟨p,xs,-1,v,rfl,rfl,h,vU hj,q⟩
theorem kO {p:Addr}{xs:List V}{v:V}{Q:VK}(h:SqL K H p xs)(hj:xs[xs.length - 1]?=some v)(q:Q v H):eR K (.ref p) (.int (-1)) H Q := .inl ⟨p,xs,-1,v,rfl,rfl,h,vU hj,q⟩
end
theorem oH {c:Int}{n:Nat}(h:1<=n):∃k:Nat,c % (n:Int)=(k:Int)/\k<n:=by
 have g0:=rh c (show(n:Int)≠0 by omega)
 have g1:=nq c (show(0:Int)<(n:Int) by omega)
 obtain⟨k,hk⟩:=Int.eq_ofNat_of_zero_le g0
 exact⟨k,hk,by omega⟩
theorem aEy {ps:List Nat}{i:Nat}(h:i<ps.length):(ps.map aCd)[i]?=some (aCd (ps.getD i 0)):=by
 rw[bh,ah,ai h]
 rfl
theorem uF {i j:Int}:(!eqD (.int i) (.int j)) = !decide (i=j):=by rw[eqD];rfl
def Rows (K:aa) (H:Hp) (xs:List V) (T:List (List Int)):Prop:=xs.length=T.length/\∀(i:Nat) (row:List Int),T[i]?=some row->∃b,xs[i]?=some (.ref b)/\SqT K H b (row.map V.int)
section
variable {K:aa}{H H':Hp}{xs:List V}{T:List (List Int)}
theorem Rows.map (h:Rows K H xs T)(f:∀b row,SqT K H b row->SqT K H' b row):Rows K H' xs T:=⟨h.1,λi row e=>by
 obtain⟨b,e1,e2⟩:=h.2 i row e
 exact⟨b,e1,f _ _ e2⟩⟩
theorem Rows.same (h:Rows K H xs T)(e:Same H H'):Rows K H' xs T:=h.map λ_ _ s=>e.tup s
theorem Rows.put (h:Rows K H xs T){l:Addr}{ys:List V}{o:HO}(hl:H l=some (.lst ys)):Rows K (upd H l o) xs T:=h.map λ_ _ s=>sK s hl
theorem Rows.nil:Rows K H [] []:=⟨rfl,λi row e=>by cases e⟩
theorem Rows.snoc (h:Rows K H xs T){b:Addr}{r:List Int}(hb:SqT K H b (r.map V.int)):Rows K H (xs++[.ref b]) (T++[r]):=by
 refine⟨by rw[aq,aq,h.1];rfl,λi row e=>?_⟩
 by_cases hi:i<T.length
 ·rw[br hi] at e
  obtain⟨b',e1,e2⟩:=h.2 i row e
  exact⟨b',by rw[br (by rw[h.1];exact hi)];exact e1,e2⟩
 ·rw[bo (by omega)] at e
  have:i - T.length=0:=by
   rcases hk:i - T.length with _ | k
   ·rfl
   ·rw[hk] at e;cases e
  rw[this] at e
  cases e
  exact⟨b,by rw[bo (by rw[h.1];omega),h.1,this];rfl,hb⟩
end
end L2
namespace L2
open PySem PySem.Spec PyProof.Rows
section
variable {prog:Program}{w:World}{A:Around}{E:Value->Shared->Prop}{s:Shared}
theorem xJ {b:Bool}{z it l:Addr}{k:Nat}{us:Array Value}{x u:Value}{Q:Value->Shared->Prop}(hne:z≠it)(hz:vm s.heap z it k u)(h1:ItAt b s.heap it l k)(o1:yV b s.heap l us)(hx:us[k]?=some x)
  (q:∀h',IsEnumOut h' z it ((k:Int)+1) x s.heap.objs.size->ItAt b h' it l (k+1)->h'.get? s.heap.objs.size=some { cls := .type "tuple",data := .seq #[.int k s.toks,x] }->h'.objs.size=s.heap.objs.size+1->(∀c o,c≠z->c≠it->s.heap.get? c=some o->h'.get? c=some o)->Q (.ref s.heap.objs.size) { s with heap:=h',toks:=s.toks+1 }) :
  wpAny (model prog w) A (Builtin.«enumerate.__next__» ⟨[.ref z],[]⟩) (λfin s'=>∃r,fin = .done (.ret r)/\Q r s') E s:=by
 show wpAny _ _ (field (.ref z) 2 >>= _) _ _ _;refine ae (gr hz rfl (x := .ref it) rfl (ae (zS (b:=b) h1 o1 hx λH1 t1 s1=>?g)))
 case g=>
 have z1:vm H1 z it k u:=s1.extBut _ _ hne hz
 show wpAny _ _ (field (.ref z) 3 >>= _) _ _ _;refine ae (gr z1 rfl (x:=rawInt k) rfl ?g)
 case g=>
 show wpAny _ _ (field (.ref z) 4 >>= _) _ _ _;refine ae (gr z1 rfl (x := .none) rfl ?g)
 case g=>
 show wpAny _ _ (mkInt k >>= _) _ _ _;refine ae (wpAny_mkInt ?g)
 case g=>
 show wpAny _ _ (u6 (.ref z) 3 (rawInt ((k:Int)+1)) >>= _) _ _ _;refine ae (ja z1 (by simp) λH2 z2 s2=>?g)
 case g=>
 replace z2:vm H2 z it ((k:Int)+1) u:=z2
 show wpAny _ _ (u6 (.ref z) 4 .none >>= _) _ _ _;refine ae (ja z2 (by simp) λH3 z3 s3=>?g)
 case g=>
 replace z3:vm H3 z it ((k:Int)+1) u:=z3
 show wpAny _ _ (newTuple [.int k s.toks,x] >>= _) _ _ _;refine ae (wpAny_newTuple ?g)
 case g=>
 have sz:H3.objs.size=s.heap.objs.size:=by rw[s3.1,s2.1,s1.1]
 have z4:vm (H3.push { cls := .type "tuple",data := .seq #[.int k s.toks,x] }) z it ((k:Int)+1) u:=ak _ z3
 have lz:z<H3.objs.size:=bj z3
 show wpAny _ _ (jq (.ref z) >>= _) _ _ _;unfold jq;refine ae (ae (gr z4 rfl (x := .none) rfl (ay ?g)))
 case g=>
 simp only[if_true];refine ae (uo (ae (gr z4 rfl (x:=u) rfl (ae (ja z4 (by simp) λH5 z5 s5=>?g)))))
 case g=>
 replace z5:vm H5 z it ((k:Int)+1) x:=z5
 show wpAny _ _ (jk (.ref z) (.ref H3.objs.size) >>= _) _ _ _;unfold jk;refine ae (ae (ja z5 (by simp) λH6 z6 s6=>?g))
 case g=>
 replace z6:IsEnumOut H6 z it ((k:Int)+1) x H3.objs.size:=z6
 refine ja z6 (by simp) λH7 z7 s7=>?g
 case g=>
 replace z7:IsEnumOut H7 z it ((k:Int)+1) x H3.objs.size:=z7
 have up:∀c o,c≠z->H3.get? c=some o->H7.get? c=some o:=λc o n e=>s7.extBut _ _ n (s6.extBut _ _ n (s5.extBut _ _ n (ak _ e)))
 have p7:H7.get? H3.objs.size=some { cls := .type "tuple",data := .seq #[.int k s.toks,x] }:=s7.extBut _ _ (ju lz) (s6.extBut _ _ (ju lz) (s5.extBut _ _ (ju lz) (ck _ rfl)))
 have n7:H7.objs.size=H3.objs.size+1:=by rw[s7.1,s6.1,s5.1,gk]
 rw[sz] at z7 p7 n7
 refine ae (pq (ay ⟨_,rfl,(?g:Q (.ref H3.objs.size) _)⟩))
 case g=>
 rw[sz]
 refine q H7 z7 (t1.keep λo e=>up _ o hne.symm (s3.extBut _ _ hne.symm (s2.extBut _ _ hne.symm e))) p7 n7 λc o n m e=>up c o n (s3.extBut _ _ n (s2.extBut _ _ n (s1.extBut _ _ m e)))
theorem zB {b:Bool}{z it l:Addr}{k:Nat}{us:Array Value}{u:Value}{Q:Fin->Shared->Prop}(hh:A.handled=none)(hz:vm s.heap z it k u)(h1:ItAt b s.heap it l k)(o1:yV b s.heap l us)(hx:us[k]?=none)
  (q:∀h' e,vk it s.heap h'->(∃o,h'.get? e=some o/\o.cls = .type "StopIteration")->E (.ref e) { s with heap:=h' }) :
  wpAny (model prog w) A (Builtin.«enumerate.__next__» ⟨[.ref z],[]⟩) Q E s:=by
 show wpAny _ _ (field (.ref z) 2 >>= _) _ _ _
 exact ae (gr hz rfl (x := .ref it) rfl (ae (aAT (b:=b) hh h1 o1 hx q)))
end
def Ite (K : aa) (b : Bool) (l : Addr) : It :=
  ⟨λi H => ∃xs x, SqB b K H l xs /\ xs[i]? = some x,
   λi H v H' => ∃p x, v = .ref p /\ H p = none /\ H' = upd H p (.tup [.int (i : Int), x]) /\ ∀xs, SqB b K H l xs -> xs[i]? = some x,
   λi H => ∃xs, SqB b K H l xs /\ xs.length <= i⟩
def eTn (b:Bool) (z it l:Addr) (i:Nat) (h:Heap):Prop:=(∃u,vm h z it i u)/\ItAt b h it l i
theorem xR {P:Program}{w:World}{K:aa}{es:List Expr}{k:Nat}{pos:Pos}{b:Bool}{z it l:Addr}(hne:z≠it) :
  aAr P w K (.Tuple es k pos) (Ite K b l) [z,it] z (eTn b z it l) where
 mem:=by simp
 obj:=λi h ⟨⟨u,h1⟩,⟨o2,h2,_,d2⟩⟩ c hb=>by
  simp only[dc,qe,or_false] at hb
  rcases hb with rfl | rfl
  ·exact⟨_,h1,λv q=>by cases q⟩
  ·exact⟨_,h2,λv q=>by rw[d2] at q;cases q⟩
 keep:=λi h h' ⟨⟨u,h1⟩,h2⟩ kp=>⟨⟨u,kp z (by simp) _ h1⟩,h2.keep λo e=>kp it (by simp) o e⟩
 item:=by
  intro X hP hw hK hc i pins s σ H E I hf st hg
  subst hP hw hK
  obtain⟨⟨u0,h1⟩,h2⟩:=st
  obtain⟨xs,x,q1,hx⟩:=hg
  obtain⟨us,r1,o1,z1⟩:=I.obAt q1
  obtain⟨ux,hux,rx⟩:=r1.get hx
  have hT:s.TypeIs (.ref z) "enumerate":=⟨_,h1,rfl⟩
  unfold u9
  refine ae (md (fv (name:=ig "__next__") hT jf (i9 jf hT qp (xJ hne h1 h2 o1 (by simpa using hux) λh' g1 g2 g3 g4 kp=>ay ⟨_,rfl,?g⟩) (pw _))))
  case g=>
  refine wpAny_letOwnedTupleGo_enum (s:={ s with heap:=h',toks:=s.toks+1 }) g1 λh2' g1' sb=>?g
  case g=>
  have lt:∀c∈[z,it],c<s.heap.objs.size:=λc hb=>by
   simp only[dc,qe,or_false] at hb
   rcases hb with rfl | rfl
   ·exact bj h1
   ·exact h2.lt
  have kb:∀c o,c∉[z,it]->s.heap.get? c=some o->h'.get? c=some o:=λc o n e=>kp c o (λq=>n (by simp[q])) (λq=>n (by simp[q])) e
  have hn:H s.heap.objs.size=none:=I.hok.fresh (av _)
  have I1:Inv X pins σ (upd H s.heap.objs.size (.tup [.int (i:Int),x])) { s with heap:=s.heap.push { cls := .type "tuple",data := .seq #[.int i s.toks,ux] },toks:=s.toks+1 }:=
   I.laid (t':=s.toks+1) (λc o e=>ak _ e) (av _) (show ObjOk X.prog X.w _ _ _ (.tup [.int (i:Int),x]) from⟨show 2<=cb by decide,[.int i s.toks,ux], .cons ⟨_,rfl⟩ (.cons rx .nil),TupN.new _ _⟩)
  have hf1:∀c∈[z,it],rT X pins (upd H s.heap.objs.size (.tup [.int (i:Int),x])) c:=λc hb=>by
   obtain⟨f0,f⟩:=hf c hb
   exact⟨by rw[aM (de (lt c hb))];exact f0,f⟩
  have I2:Inv X pins σ (upd H s.heap.objs.size (.tup [.int (i:Int),x])) { s with heap:=h',toks:=s.toks+1 }:=I1.turnedL (t':=s.toks+1) hf1 λc o nb e=>by
   rcases Heap.get?_push_cases e with⟨eb,eo⟩ | e
   ·subst eb;subst eo
    exact g3
   ·exact kb c o nb e
  have I3:Inv X pins σ (upd H s.heap.objs.size (.tup [.int (i:Int),x])) { s with heap:=h2',toks:=s.toks+1 }:=I2.turnedL (t':=s.toks+1) hf1 λc o nb e=>sb.extBut _ _ (λq=>nb (by simp[q])) e
  exact⟨.ref s.heap.objs.size,_,I3,rfl,⟨_,x,rfl,hn,rfl,λxs' e=>by rw[I.sqB_inj e q1];exact hx⟩,
   ⟨⟨_,by simpa using g1'⟩,g2.keep λo e=>sb.extBut _ _ hne.symm e⟩,λc hb=>(hf1 c hb).1⟩
 done:=by
  intro X hP hw hK hc i pins s σ H E I hf st hg
  subst hP hw hK
  obtain⟨⟨u0,h1⟩,h2⟩:=st
  obtain⟨xs,q1,hl⟩:=hg
  obtain⟨us,r1,o1,z1⟩:=I.obAt q1
  have l1':=r1.length
  have hT:s.TypeIs (.ref z) "enumerate":=⟨_,h1,rfl⟩
  unfold u9
  refine ae (md (fv (name:=ig "__next__") hT jf (i9 jf hT qp (zB (I.ok.hd hc) h1 h2 o1 (by simp;omega) λh' e kp ⟨o,e1,e2⟩=>?g) (pw _))))
  case g=>
  refine ae (wpAny_isInstance (T:="StopIteration") (b:=true) ⟨o,e1,e2⟩ isSubtype_stop (ay ⟨rfl,?g⟩))
  case g=>
  exact I.turnedL (t':=s.toks) hf λc o n e=>kp c o (λq=>n (by simp[q])) e
 self:=λ_ _ _ _ _ st q=>let⟨⟨_,h1⟩,_⟩:=st;wpAny_pyIter_enum h1 q
abbrev eH (h:Heap) (b:Bool) (l:Addr):Heap:=(h.push (itO b l)).push { cls := .type "enumerate",data := .fields #[.none, .bool false, .ref h.objs.size,rawInt 0, .none, .none] }
theorem aAg (b:Bool)(l:Addr)(xs:Array Value)(o:Obj) :
  Meets (Builtin.«enumerate.__new__» ⟨[.type "enumerate", .ref l],[]⟩) (λ_ R s=>s.heap.get? l=some o/\yV b s.heap l xs/\R (.ok (.ret (.ref (s.heap.push (itO b l)).objs.size))) { s with heap:=eH s.heap b l }):=
 .of_wp λprog w A R s h=>by
  obtain⟨s1,s2,s3,s4,s5⟩:=s
  obtain⟨m0,m1,q⟩:=h
  have hsub:=sub_enumerate
  have n1:yV b (Shared.heap ⟨s1,s2,s3,s4,s5⟩) l xs:=m1
  wp_walk using gq m0
  refine wpAny_stack_any λst=>ay ?_
  split
  ·rename_i cc _ _ _ _ _
   cases (cc == Value.type "enumerate") <;>
   ·wp_walk using gq m0,tP n1
    exact⟨_,rfl,q⟩
  ·wp_walk using gq m0,tP n1
   exact⟨_,rfl,q⟩
theorem wY {prog:Program}{w:World}{A:Around}{E:Value->Shared->Prop}{s:Shared}{b:Bool}{l:Addr}{xs:Array Value}{Q:Value->Shared->Prop}(o1:yV b s.heap l xs)
  (q:∀h',eTn b (s.heap.objs.size+1) s.heap.objs.size l 0 h'->(∀c o,s.heap.get? c=some o->h'.get? c=some o)->Q (.ref (s.heap.objs.size+1)) { s with heap:=h' }) :
  wpAny (model prog w) A (call (.type "enumerate") [.ref l]) Q E s:=by
 obtain⟨o,e0,ec,n,ed⟩:=id o1
 refine callType_new F.called_enumerate (by decide) (F.typeCall_enumerate_1 _) (F.newCall_enumerate_1 _) (λob=>F.args_object_init_2 ob _) F.entry_enumerate_new (aAg b l xs o) ⟨e0,o1,?g⟩
 case g=>
 have z1:(s.heap.push (itO b l)).objs.size=s.heap.objs.size+1:=gk ..
 have g2:(eH s.heap b l).get? (s.heap.push (itO b l)).objs.size=some _:=ck _ rfl
 have g1:(eH s.heap b l).get? s.heap.objs.size=some _:=ak _ (ck _ rfl)
 rw[z1] at g2
 show _/\_
 rw[z1]
 exact⟨⟨_,g2,rfl⟩,q _ ⟨⟨_,g2⟩,⟨_,g1,rfl,rfl⟩⟩ λc o x=>ak _ (ak _ x)⟩
def xQ (K:aa) (ta:TA):TI:=λσ H R=>ta σ H λvs H1=>∃l b,vs=[.ref l]/\(∃xs,SqB b K H1 l xs)/\R (Ite K b l) H1
theorem qY:d5 "enumerate" = some (.type "enumerate"):=by decide+kernel
theorem aBG {X:Cx}{es:List Expr}{k:Nat}{po:Pos}{a:Expr}{ta:TA}{p pos:Pos}(hg:Gl X "enumerate")(hm:X.mg "enumerate" = none)(ha:PA X [a] ta)(hs:cx [a] X.env=[(false,eval a X.env)]:=by rfl) :
  PI X (.Tuple es k po) (.Call (.Name "enumerate" p) [a] [] pos) (xQ X.K ta):=by
 intro pins s σ H R I h
 refine Call_ (qC I hg hm qY (jb (thn (ha pos pins s σ H _ I h) λus s1 ⟨vs,H1,I1,r1,q1⟩=>?g) hs rfl))
 case g=>
 obtain⟨l,b,e,⟨xs,q2⟩,q⟩:=q1
 subst e
 obtain⟨u1,rfl,e1⟩:=rQ r1
 obtain rfl:u1=Value.ref l:=e1
 obtain⟨x1,v1,o1,_⟩:=I1.obAt q2
 refine wY o1 λh' zt kp=>?g
 case g=>
 obtain⟨⟨u0,zt1⟩,zt2⟩:=id zt
 refine wpAny_pyIter_enum (s:={ s1 with heap:=h' }) zt1 ?g
 case g=>
 refine⟨_,[s1.heap.objs.size+1,s1.heap.objs.size],_,_,H1,rfl,I1.kept (t':=s1.toks) kp,xR (ju (jo _)),zt,λc hb=>?g,q⟩
 case g=>
 have lb:s1.heap.objs.size<=c:=by
  simp only[dc,qe,or_false] at hb
  rcases hb with rfl | rfl <;> first | exact Nat.le_add_right _ _ | exact av _
 exact I1.fpOk lb (I1.hok.fresh lb)
theorem oT {X:Cx}{K:aa}{es:List Expr}{k:Nat}{po:Pos}{a:Expr}{ta:TA}{p pos:Pos}(hK:X.K=K)(hg:Gl X "enumerate")(hm:X.mg "enumerate" = none)(ha:PA X [a] ta)(hs:cx [a] X.env=[(false,eval a X.env)]:=by rfl) :
  PI X (.Tuple es k po) (.Call (.Name "enumerate" p) [a] [] pos) (xQ K ta):=by subst hK;exact aBG hg hm ha hs
theorem pB {K:aa}{b:Bool}{l:Addr}{xs:List V}{g:TG}{tb:TS}{D:lF}{σ:St}{H:Hp}(Pv:Nat->St->Hp->Prop)(h0:Pv 0 σ H)(hl:∀i σ H,i<=xs.length->Pv i σ H->SqB b K H l xs)
  (hs:∀i x σ H p,xs[i]?=some x->H p=none->Pv i σ H->g (.ref p) σ (upd H p (.tup [.int (i:Int),x])) λσ2 H2=>tb { D with nx:=Pv (i+1),ct:=Pv (i+1),bk:=D.nx } σ2 H2) (hd:∀σ H,Pv xs.length σ H->D.nx σ H) :
  jE (Ite K b l) g tb D σ H:=by
 refine⟨λi m σ H=>m=xs.length - i/\i<=xs.length/\Pv i σ H,⟨xs.length,by simp,aj _,h0⟩,?g⟩
 case g=>
 rintro i m σ H ⟨rfl,hi,p⟩
 have q1:=hl i σ H hi p
 by_cases hlt:i<xs.length
 ·refine .inr ⟨⟨xs,xs[i],q1,by simp[hlt]⟩,Pv (i+1),λσ' H' p'=>⟨xs.length - (i+1),by omega,rfl,hlt,p'⟩,λv H' ⟨a,x,e1,e2,e3,e4⟩=>?g⟩
  case g=>
  subst e1;subst e3
  exact hs i x σ H a (e4 xs q1) e2 p
 ·obtain rfl:i=xs.length:=by omega
  exact .inl ⟨⟨xs,q1,av _⟩,hd σ H p⟩
theorem xH {K:aa}{vars:List Nat}{tb:TS}{acc l:Addr}{b:Bool}{σ:St}{H:Hp}{xs:List V}{j k:Nat}{L:Nat->List V}(hj:j∈vars)(hk:k∈vars)(hjk:k≠j)(hjl:j<σ.length)(hkl:k<σ.length)(hs:∀H',SameX acc H H'->SqB b K H' l xs)
  (h:∀(i:Nat) (x:V) σ' H',xs[i]?=some x->σ'.length=σ.length->Agree vars σ σ'->σ'[j]?=some (some (.int (i:Int)))->σ'[k]?=some (some x)->SameX acc H H'->(∃pre,H' acc=some (.lst pre))->Emits vars tb acc σ' H' (L i)) :
  Emits vars (jE (Ite K b l) (aBJ K 2 (oW (aX j) (oW (aX k) aDo))) tb) acc σ H ((bu xs.length).flatMap L):=by
 intro D pre ha hz hd
 refine pB (K:=K) (xs:=xs) (D:=D) (λi σ' H'=>i<=xs.length/\σ'.length=σ.length/\Agree vars σ σ'/\SameX acc H H'/\H' acc=some (.lst (pre++(bu i).flatMap L))) ⟨aj _,rfl,Agree.refl _ _,SameX.refl _ _,by simpa using ha⟩ (λi σ1 H1 _ ⟨_,_,_,sx1,_⟩=>hs H1 sx1) (λi x σ1 H1 p hx hp ⟨_,hl1,ag1,sx1,e1⟩=>?_) λσ1 H1 ⟨_,hl1,ag1,sx1,e1⟩=>hd σ1 H1 hl1 ag1 sx1 e1
 have hi:i<xs.length:=(ao.mp hx).1
 have hle:=cL L (show i+1<=xs.length from hi)
 rw[bC,aq] at hle
 have sp:Same H1 (upd H1 p (.tup [.int (i:Int),x])):=aL hp _
 have e2:=sp _ _ e1
 refine⟨p,[.int (i:Int),x],rfl, .of aE,rfl, .int (i:Int),[x],rfl,x,[],rfl,rfl,?_⟩
 have ag2:Agree vars σ ((σ1.set j (some (.int (i:Int)))).set k (some x)):=(ag1.trans (Agree.set hj _)).trans (Agree.set hk _)
 refine h i x ((σ1.set j (some (.int (i:Int)))).set k (some x)) (upd H1 p (.tup [.int (i:Int),x])) hx (by rw[dm,dm];exact hl1) ag2 ?_ (lY (by rw[dm];omega)) (sx1.trans sp.x) ⟨_,e2⟩ _ _ e2 (by rw[aq];omega) λσ' H' hl ag sx h2=>⟨hi,(hl.trans (by rw[dm,dm])).trans hl1,ag2.trans ag,(sx1.trans sp.x).trans sx,by rw[h2,bC,i4]⟩
 rw[iu hjk]
 exact lY (by omega)
end L2
namespace L2
open PySem
section
variable {X:Cx}{es:List Expr}{te:TE}{t:TA}
theorem aG {c:Const}{k:Nat}{p:Pos}(ha:PE X (.Constant c k p) te)(hr:PA X es t):PA X (.Constant c k p :: es) (aB te t):=cD ha hr
theorem aC {n:Str}{p:Pos}(ha:PE X (.Name n p) te)(hr:PA X es t):PA X (.Name n p :: es) (aB te t):=cD ha hr
theorem kP {l:List Expr}{p:Pos}(ha:PE X (.List l p) te)(hr:PA X es t):PA X (.List l p :: es) (aB te t):=cD ha hr
theorem yX {l:List Expr}{k:Nat}{p:Pos}(ha:PE X (.Tuple l k p) te)(hr:PA X es t):PA X (.Tuple l k p :: es) (aB te t):=cD ha hr
theorem dG {a b:Expr}{o:Operator}{p:Pos}(ha:PE X (.BinOp a o b p) te)(hr:PA X es t):PA X (.BinOp a o b p :: es) (aB te t):=cD ha hr
theorem bU {a b:Expr}{p:Pos}(ha:PE X (.Subscript a b p) te)(hr:PA X es t):PA X (.Subscript a b p :: es) (aB te t):=cD ha hr
theorem bS {a:Expr}{l:List Expr}{kw:List Keyword}{p:Pos}(ha:PE X (.Call a l kw p) te)(hr:PA X es t):PA X (.Call a l kw p :: es) (aB te t):=cD ha hr
end
mutual
def uQ:Dt->Bool
 | .tup ds=>decide (ds.length<64) && rN ds
 | .lst ds=>rN ds
 |_=>true
def rN:List Dt->Bool
 |[]=>true
 |d :: ds=>uQ d && rN ds
end
theorem pC:∀{ds:List Dt},(∀d∈ds,uQ d=true)->rN ds=true
 |[],_=>by unfold rN;rfl
 |d :: ds,h=>by unfold rN;rw[h d (by simp),pC λe he=>h e (aw _ he)];rfl
theorem rE:∀{ds:List Dt},rN ds=true->∀d∈ds,uQ d=true
 |[],_,d,h=>by cases h
 |e :: ds,h,d,hd=>by
  unfold rN at h
  rw[cg] at h
  rcases dc.mp hd with rfl | hd
  ·exact h.1
  ·exact rE h.2 d hd
theorem tX {ds:List Dt}(h:uQ (.tup ds)=true):ds.length<64/\∀d∈ds,uQ d=true:=by
 unfold uQ at h
 rw[cg] at h
 exact⟨of_decide_eq_true h.1,rE h.2⟩
def okM (m e:Nat) (d:Dt):Prop:=(toP d).showable=true/\(toP d).leavesShort 1930=true/\(toP d).bulk<=m/\dep d<=e/\uQ d=true
def Am (K:aa) (H:Hp) (m e:Nat) (x:V):Prop:=∃d,Sh K H d x/\okM m e d
section
variable {K:aa}{H H':Hp}
theorem aAw:(10:Nat) ^ 40<2 ^ 1920:=by decide+kernel
theorem aAl {i:Int}(h:i.natAbs<10 ^ 40):Am K H 0 0 (.int i):=by
 refine⟨.int i,rfl,?_,?_,av _,av _,by unfold uQ;rfl⟩
 ·show decide (i.natAbs.log2<1920)=true
  refine decide_eq_true ?_
  by_cases h0:i.natAbs=0
  ·rw[h0];decide
  ·exact(vn h0).mpr (Nat.lt_trans h aAw)
 ·show decide ((PyData.shown (.int i)).length<=1930)=true
  refine decide_eq_true ?_
  have e:(ig (me i)).length<=41:=by
   rw[ofString_length]
   exact int_text_length_le10 (k:=40) (by decide) h
  exact bc (show(PyData.shown (.int i)).length<=41 from e) (by decide)
end
theorem uD {c:Int}{n k:Nat}{H:Hp}{Q:VK}(h:1<=n)(e:c % (n:Int)=(k:Int))(q:Q (.int (k:Int)) H):sQ (.int c) (.int (n:Int)) H Q:=⟨_,_,rfl,rfl,by omega,by show Q (.int (c % (n:Int))) H;rw[e];exact q⟩
end L2
namespace L2
open PySem PySem.Spec PyProof.Rows
inductive nQ:List (Value×Value)->List (Int×Int)->Prop
 |nil:nQ [] []
 |cons (a b:Int) (t u:Tok) {r:List (Value×Value)}{zs:List (Int×Int)}:nQ r zs->nQ ((.int a t, .int b u) :: r) ((a,b) :: zs)
def zI (f:Bool):List (Int×Int)->Bool
 |[]=>f
 | (a,b) :: r=>if a=b then zI f r else decide (a<b)
theorem xN {prog:Program}{w:World}{A:Around}{E:Value->Shared->Prop}{s:Shared}{a b:Int}{t u:Tok}{Q:Value->Shared->Prop}(h:Q (.bool (decide (a<b))) s):wpAny (model prog w) A (tm .Lt (.int a t) (.int b u)) Q E s:=lt_int h
theorem wI (l b:Addr)(us vs:Array Value)(n n2:Nat)(dd dd2:Option Addr)(sl sl2:Array (Option Value))(zs:List (Int×Int))(hz:nQ (us.toList.zip vs.toList) zs) :
  Meets (Builtin.«tuple.__lt__» ⟨[.ref l, .ref b],[]⟩)
   (λ_ R s=>s.heap.get? l=some { cls := .type "tuple",dict:=dd,data := .seq us n,slots:=sl }/\s.heap.get? b=some { cls := .type "tuple",dict:=dd2,data := .seq vs n2,slots:=sl2 }/\R (.ok (.ret (.bool (zI (decide (us.size<vs.size)) zs)))) s):=
 .of_wp λprog w A R s h=>by
  obtain⟨s1,s2,s3,s4,s5⟩:=s
  obtain⟨gl,gb,h⟩:=h
  have f2:=AutoSeq1.sub_tuple_tuple
  wp_walk using gq gl,gq gb,wpAny_forIn_list _ (λrest b s'=>b.1=none/\s'=⟨s1,s2,s3,s4,s5⟩/\∃ys,nQ rest ys/\R (.ok (.ret (.bool (zI (decide (us.size<vs.size)) ys)))) ⟨s1,s2,s3,s4,s5⟩) _
  case turn=>
   rintro⟨y,x⟩ rest b s' ⟨hb',rfl,ys,hy,hR⟩
   cases hy with
   |cons p q t u hr=>
    refine ae (wpAny_eqBool_int ?_)
    by_cases e:p=q
    ·rw[show(p == q)=true by simpa using e]
     rw[zI,if_pos e] at hR
     wp_walk
     exact⟨rfl,rfl,_,hr,hR⟩
    ·rw[show(p == q)=false by simpa using e]
     rw[zI,if_neg e] at hR
     wp_walk using xN
     exact⟨_,rfl,hR⟩
  case fin=>
   rintro⟨b1,b2⟩ s' ⟨hb',rfl,ys,hy,hR⟩
   simp only at hb'
   subst hb'
   cases hy
   wp_walk
   exact⟨_,rfl,hR⟩
  case h=>
   exact⟨rfl,rfl,zs,hz,h⟩
section
variable {prog:Program}{w:World}{A:Around}{R:qu->Shared->Prop}{It:Addr}{fp wr:List Addr}{n:Nat}{P:Nat->Value->Prop}{St:Nat->Heap->Prop}
def aDF (prog:Program) (w:World) (A:Around) (kp:Heap->Prop) (P:Nat->Value->Prop) (bt:Nat->Nat->Bool):Prop:=
 ∀i j x y (s:Shared) (Q:Value->Shared->Prop) (E:Value->Shared->Prop),kp s.heap->P i x->P j y->Q (.bool (bt i j)) s->wpAny (model prog w) A (tm .Lt x y) Q E s
def Kp (kp:Heap->Prop) (wr:List Addr) (z:Addr):Prop:=∀h h',kp h->(∀b o,b∉wr->b≠z->h.get? b=some o->h'.get? b=some o)->kp h'
theorem aEF (W:Walks prog w A.in1 It fp wr n P St)(bt:Nat->Nat->Bool){kp:Heap->Prop}(z:Addr)(hz:z∉fp)(kk:Kp kp wr z)(hc:aDF prog w A.in1 kp P bt) :
  ∀(k j:Nat) (s:Shared) (x:Value) (c:Nat),n - (j+1)=k->j+1<=n->kp s.heap->St (j+1) s.heap->P (i5 bt j) x->s.heap.get? z=some { cls := .type "list",dict:=none,data := .seq #[x,x] c,slots:=#[] } ->
  (∀v h' tk,P (i5 bt (n - 1)) v->(∀b o,b∉wr->b≠z->s.heap.get? b=some o->h'.get? b=some o)->R (.ok (.ret v)) { s with heap:=h',toks:=tk }) ->
  pj (model prog w) A (.builtin "min.loop" ⟨[.ref It, .none, .ref z],[]⟩) R s:=by
 have zw:z∉wr:=λh=>hz (W.sub _ h)
 have nm:(me "min" ++ me ".loop" : String)="min.loop":=by decide
 intro k
 induction k with
 |zero=>
  intro j s x c hk hj kp0 st px gz hR
  have en:j+1=n:=by omega
  refine mn qf ?g
  case g=>
  rw[lu ib _];show wpAny _ A.in1 (ua (.ref z) >>= _) _ _ s;refine ae (lg gz rfl ?g)
  case g=>
  show wpAny _ A.in1 (tryCatch (u9 (.ref It)) _ >>= _) _ _ s;refine ae (og (W.done s _ _ (en ▸ st) λh' tk kh=>?g))
  case g=>
  show wpAny _ A.in1 (updateSeq z (λ_=>#[]) >>= _) _ _ _;refine ae (rj (kh z _ zw gz) rfl (ae (pq (ay ?g))))
  case g=>
  exact hR x _ tk (by rw[<- en];exact px) λb o bw bz e=>(fh _ _ (ke bz)).trans (kh b o bw e)
 |succ k ih=>
  intro j s x c hk hj kp0 st px gz hR
  have lt:j+1<n:=by omega
  refine mn qf ?g
  case g=>
  rw[lu ib _];show wpAny _ A.in1 (ua (.ref z) >>= _) _ _ s;refine ae (lg gz rfl ?g)
  case g=>
  show wpAny _ A.in1 (tryCatch (u9 (.ref It)) _ >>= _) _ _ s;refine ae (og (W.item (j+1) s _ _ lt st λv h' tk pv st' kh=>?g))
  case g=>
  have gz':=kh z _ zw gz
  have kp1:kp h':=kk _ _ kp0 λb o bw _ e=>kh b o bw e
  show wpAny _ A.in1 (tryCatch (sq [v,v] (tm .Lt v x >>= _)) _ >>= _) _ _ _;refine ae (og (e8 (ae (hc (j+1) (i5 bt j) v x _ _ _ kp1 pv px ?g))))
  case g=>
  refine ae (e8 (fm (ae (pq (ay ?g)))))
  case g=>
  cases hb:bt (j+1) (i5 bt j) with
  |true=>
   simp only[if_true];refine ae (rj gz' rfl (ae (pq ?g)))
   case g=>
   have up:∀b o,b≠z->h'.get? b=some o->(h'.update z (mh λ_=>#[v,v])).get? b=some o:=λb o bz e=>(fh _ _ (ke bz)).trans e
   rw[nm];refine ay ⟨pz ib _,ih (j+1) _ v _ (by omega) lt (kk _ _ kp1 λb o _ bz e=>up b o bz e) (W.frame _ _ _ st' λb bf o e=>up b o (λq=>hz (by rw[<- q];exact bf)) e) (by simp only[i5,hb,if_true];exact pv) (fe _ gz' rfl) λv' h2 tk2 pv' kh2=>?g⟩
   case g=>
   exact hR v' h2 tk2 pv' λb o bw bz e=>kh2 b o bw bz (up b o bz (kh b o bw e))
  |false=>
   simp only[ij,if_false];refine ae (pq ?g)
   case g=>
   rw[nm];refine ay ⟨pz ib _,ih (j+1) _ x c (by omega) lt kp1 st' (by simp only[i5,hb,ij,if_false];exact px) gz' λv' h2 tk2 pv' kh2=>?g⟩
   case g=>
   exact hR v' h2 tk2 pv' λb o bw bz e=>kh2 b o bw bz (kh b o bw e)
theorem aEE (W:Walks prog w A.in1 It fp wr n P St)(bt:Nat->Nat->Bool){kp:Heap->Prop}(z:Addr)(hz:z∉fp)(kk:Kp kp wr z)(hc:aDF prog w A.in1 kp P bt)(hn:0<n){s:Shared}{c:Nat}(kp0:kp s.heap)(st:St 0 s.heap)(gz:s.heap.get? z=some { cls := .type "list",dict:=none,data := .seq #[] c,slots:=#[] })
  (hR:∀v h' tk,P (i5 bt (n - 1)) v->(∀b o,b∉wr->b≠z->s.heap.get? b=some o->h'.get? b=some o)->R (.ok (.ret v)) { s with heap:=h',toks:=tk }) :
  pj (model prog w) A (.builtin "min.loop" ⟨[.ref It, .none, .ref z],[]⟩) R s:=by
 have zw:z∉wr:=λh=>hz (W.sub _ h)
 have nm:(me "min" ++ me ".loop" : String)="min.loop":=by decide
 refine mn qf ?g
 case g=>
 rw[lu ib _];show wpAny _ A.in1 (ua (.ref z) >>= _) _ _ s;refine ae (lg gz rfl ?g)
 case g=>
 show wpAny _ A.in1 (tryCatch (u9 (.ref It)) _ >>= _) _ _ s;refine ae (og (W.item 0 s _ _ hn st λv h' tk pv st' kh=>?g))
 case g=>
 have gz':=kh z _ zw gz
 have kp1:kp h':=kk _ _ kp0 λb o bw _ e=>kh b o bw e
 have up:∀b o,b≠z->h'.get? b=some o->(h'.update z (mh λ_=>#[v,v])).get? b=some o:=λb o bz e=>(fh _ _ (ke bz)).trans e
 show wpAny _ A.in1 (updateSeq z (λ_=>#[v,v]) >>= _) _ _ _;refine ae (rj gz' rfl ?g)
 case g=>
 rw[nm];refine ay ⟨pz ib _,aEF W bt z hz kk hc _ 0 _ v _ rfl hn (kk _ _ kp1 λb o _ bz e=>up b o bz e) (W.frame _ _ _ st' λb bf o e=>up b o (λq=>hz (by rw[<- q];exact bf)) e) pv (fe _ gz' rfl) λv' h2 tk2 pv' kh2=>?g⟩
 case g=>
 exact hR v' h2 tk2 pv' λb o bw bz e=>kh2 b o bw bz (up b o bz (kh b o bw e))
end
section
variable {prog:Program}{w:World}{A:Around}{E:Value->Shared->Prop}{s:Shared}
theorem uJ {x:Value}{Q:Value->Shared->Prop}
  (h:wpAny (model prog w) A.in1 (vd x) (λit s₂=>∃It fp wr n P St bt,∃kp:Heap->Prop,it = .ref It/\Walks prog w A.in1 It fp wr n P St/\St 0 s₂.heap/\(∀b∈fp,b<s₂.heap.objs.size)/\0<n/\kp s₂.heap/\(∀z,s₂.heap.objs.size<=z->Kp kp wr z)/\aDF prog w A.in1 kp P bt /\
   ∀v h' tk,P (i5 bt (n - 1)) v->(∀b o,b∉wr->s₂.heap.get? b=some o->h'.get? b=some o)->Q v { s₂ with heap:=h',toks:=tk }) E s) :
  wpAny (model prog w) A (call (.builtin "min") [x]) Q E s:=by
 have nm:(me "min" ++ me ".loop" : String)="min.loop":=by decide
 refine call_function_tree F.kind_min F.plain_min F.entry_min (F.args_min1 _) ?g
 case g=>
 show wpAny _ A.in1 (mq "min" ["key","default"] 0 ⟨[],[]⟩ >>= _) _ _ s;refine ae (wpAny_of_eq (show mq "min" ["key","default"] 0 ⟨[],[]⟩=pure [none,none] from rfl) (ae (ay (ae (di h (λit s2 h2=>?g) λ_ _ e=>e)))))
 case g=>
 obtain⟨It,fp,wr,n,P,St,bt,kp,rfl,W,st,hf,hn,kp0,kk,hc,hQ⟩:=h2
 refine ae (gg ?g)
 case g=>
 have zf:s2.heap.objs.size∉fp:=λm=>i7 _ (hf _ m)
 have kz:=kk s2.heap.objs.size (av _)
 rw[nm];refine ay ⟨pz ib _,aEE W bt s2.heap.objs.size zf kz hc hn (kz _ _ kp0 λb o _ _ e=>ak _ e) (W.frame _ _ _ st λb _ o e=>ak _ e) (ck _ rfl) λv h' tk pv kh=>?g⟩
 case g=>
 exact hQ v h' tk pv λb o bw e=>kh b o bw (de (bj e)) (ak _ e)
end
def pL:List Int->List Int->Bool
 |[],[]=>false
 |[],_ :: _=>true
 |_ :: _,[]=>false
 |a :: r,b :: q=>if a=b then pL r q else decide (a<b)
theorem yD:∀(ns ms:List Int),zI (decide (ns.length<ms.length)) (ns.zip ms)=pL ns ms
 |[],[]=>rfl
 |[],m :: ms=>by simp[zI,pL]
 |n :: ns,[]=>by simp[zI,pL]
 |n :: ns,m :: ms=>by
  rw[List.zip_cons_cons,zI,pL,<- yD ns ms]
  have:decide ((n :: ns).length<(m :: ms).length)=decide (ns.length<ms.length):=by
   by_cases h:ns.length<ms.length <;> simp[h]
  rw[this]
theorem tE:∀ns:List Int,pL ns ns=false
 |[]=>rfl
 |n :: ns=>by rw[pL,if_pos rfl];exact tE ns
theorem mR:∀{a b c:List Int},pL a b=true->pL b c=true->pL a c=true
 |[],[],_,h,_=>by cases h
 |[],_ :: _,[],_,h=>by cases h
 |[],_ :: _,_ :: _,_,_=>rfl
 |_ :: _,[],_,h,_=>by cases h
 |_ :: _,_ :: _,[],_,h=>by cases h
 |x :: a,y :: b,z :: c,h1,h2=>by
  rw[pL] at h1 h2 ⊢
  by_cases e1:x=y <;> by_cases e2:y=z
  ·subst e1 e2
   rw[if_pos rfl] at h1 h2 ⊢
   exact mR h1 h2
  ·subst e1
   rw[if_neg e2] at h2 ⊢
   exact h2
  ·subst e2
   rw[if_neg e1] at h1 ⊢
   exact h1
  ·rw[if_neg e1] at h1
   rw[if_neg e2] at h2
   have g1:=of_decide_eq_true h1
   have g2:=of_decide_eq_true h2
   rw[if_neg (by omega)]
   exact decide_eq_true (by omega)
theorem gR {bt:Nat->Nat->Bool}(irr:∀i,bt i i=false)(tr:∀i j k,bt i j=true->bt j k=true->bt i k=true):∀k j,j<=k->bt j (i5 bt k)=false
 |0,j,h=>by
  obtain rfl:j=0:=by omega
  exact irr 0
 |k+1,j,h=>by
  unfold i5
  by_cases c:bt (k+1) (i5 bt k)=true
  ·rw[if_pos c]
   by_cases e:j=k+1
   ·subst e;exact irr _
   ·refine kv.mpr λq=>?_
    have:=gR irr tr k j (by omega)
    rw[tr _ _ _ q c] at this
    cases this
  ·rw[if_neg c]
   by_cases e:j=k+1
   ·subst e;simpa using c
   ·exact gR irr tr k j (by omega)
theorem aAk:∀{ns ms:List Int}{us vs:List Value},IntsAre us ns->IntsAre vs ms->nQ (us.zip vs) (ns.zip ms)
 |[],_,_,_,h,_=>by cases h;exact .nil
 |_ :: _,[],_,_,h,g=>by cases g;cases h;exact .nil
 |n :: ns,m :: ms,_,_,h,g=>by
  cases h with
  |cons _ t h=>
   cases g with
   |cons _ u g=>exact .cons n m t u (aAk h g)
theorem aBl {prog:Program}{w:World}{A:Around}{E:Value->Shared->Prop}{s:Shared}{a b:Addr}{us vs:List Value}{ns ms:List Int}{Q:Value->Shared->Prop}(hu:A.units<cLine)(ha:IsTup s.heap a us.toArray)(hb:IsTup s.heap b vs.toArray)(h1:IntsAre us ns)(h2:IntsAre vs ms)(q:Q (.bool (pL ns ms)) s) :
  wpAny (model prog w) A (tm .Lt (.ref a) (.ref b)) Q E s:=by
 obtain⟨⟨oc,od,odt,osl⟩,e1,c1,n1,d1⟩:=ha
 obtain⟨⟨pc,pd,pdt,psl⟩,e2,c2,n2,d2⟩:=hb
 subst c1 d1 c2 d2
 refine richCompare_meets_room (op := .Lt) ⟨_,e1,rfl⟩ ⟨_,e2,rfl⟩ F.slot_tuple_lt F.entry_tuple_lt (F.args_tuple_lt_2 _ _) (wI a b us.toArray vs.toArray n1 n2 od pd osl psl (ns.zip ms) (aAk h1 h2)) ⟨e1,e2,?g⟩ hu
 case g=>
 have l1:=IntsAre.len h1
 have l2:=IntsAre.len h2
 rw[au,au,l1,l2,yD]
 exact⟨λz=>(by cases z),q⟩
def aBj (K:aa):List V->Hp->VK->Prop:=λvs H Q=>∃(a:Addr) (xs:List V) (T:List (List Int)),vs=[.ref a]/\Sq K H a xs/\Rows K H xs T/\T≠[]/\∀(i:Nat) (b:Addr) (row:List Int),xs[i]?=some (.ref b)->T[i]?=some row->SqT K H b (row.map V.int)->(∀r∈T,pL r row=false)->Q (.ref b) H
theorem wD {X:Cx}{k:Nat}(hr:Room k X.A)(hc:X.calm=true):CallR X (.builtin "min") (aBj X.K):=by
 intro pins s σ H vs us Q I r ⟨a,xs,T,e,hq,hR,hne,q⟩
 subst e
 obtain⟨u,rfl,ru⟩:=r.one
 obtain rfl:u=Value.ref a:=ru
 refine uJ (kL (I.ok.hd hc) I hq λits It fp wr S s2 rv hz W st hf hI=>?g)
 case g=>
 have hl:its.length=T.length:=by rw[<- rv.length,hR.1]
 have hpos:0<T.length:=gh.mpr hne
 have item:∀(i:Nat) (v:Value),its[i]?=some v->∃b row,v = .ref b/\T[i]?=some row/\xs[i]?=some (.ref b)/\SqT X.K H b (row.map V.int):=λi v hv=>by
  obtain⟨x,hx,rx⟩:=rv.getR hv
  have hi:i<T.length:=by rw[<- hR.1];exact(ao.mp hx).1
  obtain⟨b,e1,e2⟩:=hR.2 i _ (ai hi)
  rw[e1] at hx
  cases hx
  exact⟨b,_,rx,ai hi,e1,e2⟩
 refine⟨It,fp,wr,its.length,_,S,λi j=>pL (T.getD i []) (T.getD j []),λh=>∀b o,b∉wr->s2.heap.get? b=some o->h.get? b=some o,rfl,W,st,hf,by omega,λb o _ e=>e,λz hz0 h h' k1 k2 b o bw e=>k2 b o bw (λq0=>Nat.not_lt.mpr hz0 (q0 ▸ bj e)) (k1 b o bw e),λi j vi vj s' Q' E' kp hi hj hQ'=>?g,λv h' tk hv hk=>?h⟩
 case g=>
  obtain⟨b1,r1,rfl,t1,_,q1⟩:=item i vi hi
  obtain⟨b2,r2,rfl,t2,_,q2⟩:=item j vj hj
  have I':=hI s'.heap s'.toks kp
  obtain⟨us1,v1,p1,_⟩:=I'.tuple q1
  obtain⟨us2,v2,p2,_⟩:=I'.tuple q2
  refine aBl (ns:=r1) (ms:=r2) (us:=us1) (vs:=us2) (by have:=hr.un;show X.A.units+1<cLine;omega) p1 p2 (nK v1) (nK v2) ?g
  case g=>
  have e1:T.getD i []=r1:=by rw[ah,t1];rfl
  have e2:T.getD j []=r2:=by rw[ah,t2];rfl
  have hQ2:Q' (Value.bool (pL (T.getD i []) (T.getD j []))) s':=hQ'
  rw[e1,e2] at hQ2
  exact hQ2
 case h=>
  obtain⟨b,row,rfl,t1,e1,q1⟩:=item _ v hv
  refine⟨.ref b,H,hI h' tk hk,rfl,q _ b row e1 t1 q1 λr0 hr0=>?g⟩
  case g=>
  obtain⟨j,hj,rfl⟩:=jr hr0
  have:=gR (bt:=λi j=>pL (T.getD i []) (T.getD j [])) (λi=>tE _) (λi j k=>mR) (its.length - 1) j (by omega)
  have e1:T.getD j []=T[j]:=by rw[ah,ai hj];rfl
  have e2:T.getD (i5 (λi j=>pL (T.getD i []) (T.getD j [])) (its.length - 1)) []=row:=by rw[ah,t1];rfl
  have g:pL (T.getD j []) (T.getD (i5 (λi j=>pL (T.getD i []) (T.getD j [])) (its.length - 1)) [])=false:=this
  rw[e1,e2] at g
  exact g
theorem uR {X:Cx}{K:aa}{k:Nat}(hK:X.K=K)(hr:Room k X.A)(hc:X.calm=true):CallR X (.builtin "min") (aBj K):=by subst hK;exact wD hr hc
abbrev aBM (K:aa):List V->Hp->VK->Prop:=λvs H Q=>aEs K vs H Q\/aBj K vs H Q
theorem vD {X:Cx}{K:aa}{k:Nat}(hK:X.K=K)(hr:Room k X.A)(hc:X.calm=true):CallR X (.builtin "min") (aBM K):=by
 intro pins s σ H vs us Q I r h
 rcases h with h | h
 ·exact wT hK hc pins s σ H vs us Q I r h
 ·exact uR hK hr hc pins s σ H vs us Q I r h
section
variable {prog:Program}{w:World}{A:Around}{E:Value->Shared->Prop}{s:Shared}
end
section
variable {prog:Program}{w:World}{A:Around}{E:Value->Shared->Prop}{s:Shared}
end
end L2
namespace L2
open PySem
theorem vM {X:Cx}{K:aa}{o:Expr}{to:TE}{name:Str}{apos cpos:Pos}{T id:String}{r:V->List V->Hp->VK->Prop}(hK:X.K=K)(pa:PlainAttrs T)(slot:Slot T name id)(hty:typeOf (.builtin id)=pure (.type "method_descriptor"))(hm:MtM X id r)(ho:PE X o to)
  (b1:j0 o name X.env (eval o X.env)=eval o X.env:=by rfl) (b2:(apos.endLine == cpos.line)=true:=by rfl) :
  PE X (.Call (.Attribute o name apos) [] [] cpos) (aDz K T r to):=by subst hK;exact aCp pa slot hty hm ho b1 b2
end L2
namespace L2
open PySem PySem.Spec PyProof.Rows
section
variable {prog:Program}{w:World}{A:Around}{E:Value->Shared->Prop}{s:Shared}
end
section
variable {X:Cx}
end
end L2
namespace L2
open PySem
section
variable {X:Cx}
end
end L2
namespace L2
open PySem PySem.Spec PyProof.Rows
section
variable {prog:Program}{w:World}{A:Around}{E:Value->Shared->Prop}{s:Shared}
end
section
variable {X:Cx}
end
section
variable {X:Cx}
end
end L2
namespace L2
open PySem
structure aEH (mg:Str->Option Value):Prop extends aED mg where
 set:mg "set" = none
section
variable {X:Cx}
end
structure mU (mg:Str->Option Value):Prop extends aEH mg where
 abs:mg "abs" = none
section
variable {vars:List Nat}{tb:TS}{acc a:Addr}{σ:St}{H:Hp}{j:Nat}{D:lF}{K:aa}
theorem vA {lo:Int}{n:Nat}(p:Addr)(R:Nat->List V->Hp->Prop)(hj:j∈vars)(hjl:j<σ.length)(h0:R 0 [] (upd H acc (.lst [])))(ha:H acc=none)
  (h:∀i σ' H' L (D:lF),i<n->σ'.length=σ.length->Agree vars σ σ'->σ'[j]?=some (some (.int (lo+(i:Int))))->SameX p H H'->H' acc=some (.lst L)->R i L H' ->
   (∀σ'' H'' L',σ''.length=σ.length->Agree vars σ σ''->SameX p H H''->H'' acc=some (.lst L')->R (i+1) L' H''->D.nx σ'' H'')->tb D σ' H')
  (q:∀σ' H' L,SameX p H H'->H' acc=some (.lst L)->R n L H'->D.nx σ' H'):jE (Itr lo n) (aX j) tb D σ (upd H acc (.lst [])):=by
 refine hZ (lo:=lo) (n:=n) (g:=aX j) (D:=D) (λi σ' H'=>i<=n/\σ'.length=σ.length/\Agree vars σ σ'/\SameX p H H'/\∃L,H' acc=some (.lst L)/\R i L H') ⟨aj _,rfl,Agree.refl _ _,(aL ha _).x,[],aE,h0⟩ (λi σ1 H1 hi ⟨_,hl1,ag1,sx1,L,h1,r1⟩=>?_) λσ1 H1 ⟨_,_,_,sm,L,h1,r1⟩=>q σ1 H1 L sm h1 r1
 exact h i (σ1.set j (some (.int (lo+(i:Int))))) H1 L _ hi (by rw[dm];exact hl1) (ag1.trans (Agree.set hj _)) (lY (by omega)) sx1 h1 r1 λσ2 H2 L' hl2 ag2 sm2 h2 r2=>⟨hi,hl2,ag2,sm2,L',h2,r2⟩
end
section
variable {K:aa}{vars:List Nat}{tb:TS}{acc:Addr}{σ:St}{H:Hp}
end
end L2
namespace L2
open PySem PySem.Spec PyProof.Rows
open PySem.SeqAt
section
variable {X:Cx}{tg:Expr}
end
section
variable {X:Cx}{pins:List (Addr×Obj)}{σ:St}{H:Hp}{s:Shared}
end
structure aAt (K:aa)(C:Addr):Prop where
 ga:gm K (.ref C) "__getattribute__" = some (some (.builtin "BaseException.__getattribute__"))
 gn:gm K (.ref C) "__getattr__" = some none
 cl:gm K (.ref C) "__class__" = some (some (.builtin "object.__class__"))
 gt:PySem.W.specialIn K (.builtin "object.__class__") "__get__" = some (some (.builtin "getset_descriptor.__get__"))
 tk:PySem.W.takesIn K (.builtin "object.__class__")=some true
 ob:PySem.W.mroIn K C (.type "object")=some true
 bx:PySem.W.subIn K (.ref C) (.type "BaseException")=some true
 is:(ub K C).isSome=true
def XAt (h:Heap) (x C:Addr):Prop:=∃o,h.get? x=some o/\o.cls = .ref C
section
open Builtin Builtin.ObjectAttr Builtin.Getset_descriptor
variable {prog:Program}{w:World}{A:Around}{E:Value->Shared->Prop}{s:Shared}{K:aa}{x C:Addr}{R:qu->Shared->Prop}
theorem XAt.type {M:Model}{h:Heap}(I:XAt h x C):ik M h (typeOf (.ref x)) (.ref C):=by
 obtain⟨o,e,c⟩:=I
 exact c ▸ (PySem.W.Looks.ld e).andThen .now
theorem XAt.find {M:Model}{h:Heap}(X:K.In h)(Y:aAt K C):ik M h (find (.ref x) (.ref C) "__class__") (.bind (.builtin "getset_descriptor.__get__") (.builtin "object.__class__")):=by
 have L1:=fz (M:=M) X Y.cl
 have L2:ik M h (getOf (some (.builtin "object.__class__"))) (some (.builtin "getset_descriptor.__get__")):=PySem.W.looks_specialIn X Y.gt
 have L3:=PySem.W.looks_takesIn (M:=M) X Y.tk
 exact L1.andThen (L2.andThen ((show ik M h (dataDescriptor? (some (.builtin "object.__class__")) (some (.builtin "getset_descriptor.__get__"))) (some (.builtin "getset_descriptor.__get__", .builtin "object.__class__")) from L3.andThen .now).andThen (PySem.W.Looks.tag .now)))
theorem uZ {tp:Value}(X:K.In s.heap)(I:XAt s.heap x C)(hm:PySem.W.mroIn K C (.type "object")=some true)
  (h:R (.ok (.ret (.ref C))) s):pj (model prog w) A (.call (.builtin "getset_descriptor.__get__") ⟨[.builtin "object.__class__", .ref x,tp],[]⟩) R s:=by
 obtain⟨hh,g,dr,t,os⟩:=s
 have L0:=I.type (M:=model prog w)
 have L1:=PySem.W.looks_mroIn (M:=model prog w) X hm
 refine iy PySem.W.KF.slot_gs.plain PySem.W.KF.entry_gs (PySem.W.KF.slot_gs.check _ _ _ _ _ _ _ _ PySem.W.KF.type_class (PySem.W.KF.args_gs _ _ _) ?_)
 unfold Builtin.«getset_descriptor.__get__» descrGet
 rw[PySem.W.dga_obj]
 refine ae (ay ?_)
 unfold descrGetter descrCheckInstance descrNameAndClass ur
 simp only[PySem.W.KF.owner_class]
 repeat lk
 refine⟨nr _ (by decide+kernel),mn PySem.W.KF.entry_class ?_⟩
 unfold Builtin.«object.__class__» shownTypeOf
 repeat lk
 exact h
theorem tZ {M:Model}{nameV:Value}{Q:Unit->Shared->Prop}(X:K.In s.heap)(I:XAt s.heap x C)(Y:aAt K C)(hq:Q () s) :
  wpAny M A (ll "BaseException.__getattribute__" ⟨[.ref x,nameV],[]⟩) Q E s:=by
 obtain⟨h,g,d,t,os⟩:=s
 have hk:builtinKind "BaseException.__getattribute__" = some .slot:=by decide+kernel
 have hsplit:splitId "BaseException.__getattribute__" = some ("BaseException","__getattribute__"):=by decide+kernel
 have L0:=I.type (M:=M)
 have L1:=PySem.W.looks_subIn (M:=M) X Y.bx
 have ha:=F.args_bexc_ga (.ref x) nameV
 simp only[ll,hk,hsplit]
 refine ae ?_
 unfold ur
 refine ae (L0.at (L1.at ?_))
 repeat (any_goals (first | assumption | wp_step))
theorem wR {Q:Option Value->Shared->Prop}(X:K.In s.heap)(I:XAt s.heap x C)(Y:aAt K C)(h:Q (some (.ref C)) { s with toks:=s.toks+1 }) :
  wpAny (model prog w) A (getAttr? (.ref x) "__class__") Q E s:=by
 obtain⟨hh,g,d,t,os⟩:=s
 have L0:=I.type (M:=model prog w)
 have L1:=fz (M:=model prog w) X Y.ga
 have L2:=fz (M:=model prog w) X Y.gn
 have L3:=XAt.find (M:=model prog w) (x:=x) X Y
 have hx2:(Value.builtin "BaseException.__getattribute__" == Value.builtin "object.__getattribute__")=false:=by decide+kernel
 have hx1:(uc (Value.ref C) && Value.builtin "BaseException.__getattribute__" == Value.builtin "object.__getattribute__")=false:=by rw[hx2];rfl
 unfold getAttr? getAttrBy? getAttrBy
 refine ae (wpAny_mkText (ae (md (e8 (ae (L0.at (ae (L1.at ?_))))))))
 dsimp only
 rw[hx1,if_neg bq]
 unfold getAttrByItsOwn hookBefore
 rw[if_pos (show uc (Value.ref C)=true from rfl)]
 refine ae (L2.at (ae (md (e8 ?_))))
 unfold callGetattribute
 rw[dg,if_neg bq]
 unfold boundAndCalled
 rw[kx.ga.bind]
 refine ae (ay ?_)
 refine km (iy kx.ga.plain F.entry_bexc_ga (tZ X I Y ?_))
 unfold Builtin.«object.__getattribute__»
 refine ae (ay (ae (ay (ae (L0.at (ae (L3.at ?_)))))))
 show wpAny _ _ (do let v <- sq [Value.builtin "object.__class__"] (call (Value.builtin "getset_descriptor.__get__") [Value.builtin "object.__class__",Value.ref x,Value.ref C]);ret v) _ _ _
 refine ae (e8 (km (uZ (s:=⟨hh,g,d,t+1,os⟩) X I Y.ob (ay ?_))))
 refine PySem.W.handed_on rfl (ay h)
theorem nZ (Y:aAt K C):PySem.W.KitX K (.ref x) (.ref C) (λh=>XAt h x C) where
 ty:=λ_ _ _ I=>I.type
 it:=λ_ _ X _=>by
  obtain⟨cd,hc⟩:=d8.mp Y.is
  unfold ub at hc
  split at hc
  ·rename_i c' d' cd' sl' ho
   intro A' Q' E' s' k q
   unfold isType loadHead
   exact ae (wpAny_loadPart (k _ _ (X _ _ ho)) (ay q))
  ·cases hc
 ne:=λh tp dd its n sl X htp=>by
  obtain⟨cd,hc⟩:=d8.mp Y.is
  refine kv.mpr λq=>?_
  have e:C=tp:=Value.ref.inj (beq_iff_eq.mp q)
  subst e
  unfold ub at hc
  split at hc
  ·rename_i c' d' cd' sl' ho
   have z:=(X _ _ ho).symm.trans htp
   cases z
  ·cases hc
 ca:=λX I k=>wR X I Y k
end
def aEl (a C:Addr):HO := .ext λh=>XAt h a C
theorem aAF {P:Program}{w:World}{H:Hp}{h:Heap}{a C:Addr}(x:XAt h a C):ObjOk P w H h a (aEl a C):=
 ⟨x,let⟨o,e,_⟩:=x;⟨o,e⟩,λ_ _ ⟨o,e,c⟩ k=>⟨o,k o e,c⟩⟩
def aEA (K:aa) (H:Hp) (C:Addr) (c:V) (b:Bool):Prop:=
 (∃n,c = .ty n/\lh K (.ref C) (.type n)=some b)\/(∃D,c = .ref D/\lh K (.ref C) (.ref D)=some b) \/
  ∃(tp:Addr) (Ds:List Addr),c = .ref tp/\H tp=some (.tup (Ds.map V.ref))/\oh K (.ref C) (Ds.map Value.ref)=some b
theorem mG:∀{Ds:List Addr}{us:List Value},Vals (Ds.map V.ref) us->us=Ds.map Value.ref
 |[],_, .nil=>rfl
 |_ :: _,_, .cons r t=>by
  obtain rfl:=r
  rw[mG t];rfl
section
variable {X:Cx}
end
abbrev yS:List Value:=[.type "ValueError", .type "Exception", .type "BaseException", .type "object"]
section
variable {X:Cx}{x:Str}{np cpos pos p:Pos}{C:Addr}{E:XK}{m:Str}{j:Nat}
end
def aDM (P:Program) (w:World):CXT:=λouter H s E e s'=>
 ∃(a:Addr) (cls a0:Value) (H':Hp) (B:Heap),e = .ref a/\s'.os=s.os/\n5 s'.gens/\Un (frs outer) [] H H' s.heap s'.heap/\HOk P w H' s'.heap /\
  nv B outer a cls a0 s'.heap/\(∀b o,s'.heap.get? b=some o->b∉frs outer->(H' b≠none\/∃o',s.heap.get? b=some o')->B.get? b=some o)/\E cls none H'
section
variable {X:Cx}{pins:List (Addr×Obj)}{σ:St}{H:Hp}{s:Shared}{E:XK}{a:Addr}{cls a0:Value}{B h2:Heap}
theorem ObjOk.there {P:Program}{w:World}{H:Hp}{h:Heap}{a:Addr}:∀{o:HO},ObjOk P w H h a o->∃u,h.get? a=some u
 | .lst _,⟨_,_,_,_,e⟩=>⟨_,e⟩
 | .tup _,⟨_,_,_,o,e,_⟩=>⟨_,e⟩
 | .dK _,⟨_,_,_,_,o,_,_,e,_⟩=>⟨_,e⟩
 | .dT _,⟨_,_,_,_,o,_,_,e,_⟩=>⟨_,e⟩
 | .set _ _,⟨o,_,_,_,e,_⟩=>⟨_,e⟩
 | .ins _ _ _,⟨_,_,_,e,_⟩=>⟨_,e⟩
 | .own _,⟨_,e⟩=>⟨_,e⟩
 | .xd _,⟨_,⟨_,_,_,e,_⟩,_⟩=>⟨_,e⟩
 | .rng _ _,⟨_,_,_,e⟩=>⟨_,e⟩
 | .frz _ _,⟨e,_⟩=>⟨_,e⟩
 | .tbl _,e=>⟨_,e⟩
 | .met _ _,e=>⟨_,e⟩
 | .ext _,⟨_,e,_⟩=>e
theorem zQ (hex:X.ex=[])(J:Inv X pins σ H s)(hfl:nv B X.outer a cls a0 h2)(up:s.heap.UpToSlots h2)
  (cov:∀b o,s.heap.get? b=some o->b∉frs X.stack->(H b≠none\/∃o',X.s₀.heap.get? b=some o')->B.get? b=some o) (hE:E cls none H):aDM X.prog X.w X.outer X.H₀ X.s₀ E (.ref a) { s with heap:=h2 }:=by
 have neL:∀b o,X.s₀.heap.get? b=some o->b≠X.env.locals:=λb o e=>de (cf (bj e) J.ok.above)
 have nx:∀b:Addr,b∉X.ex:=λb z=>by rw[hex] at z;cases z
 have nst:∀b,b≠X.env.locals->b∉frs X.outer->b∉frs X.stack:=λb h1 h2 z=>(dc.mp (J.stkSub b z)).elim h1 h2
 have tr:∀b u o,H b=some u->s.heap.get? b=some o->h2.get? b=some o:=λb u o e q=>
  hfl.1 b o (cov b o q (λz=>by rw[J.stkFree b z] at e;cases e) (.inl (by rw[e];exact λz=>by cases z)))
 have ko:∀b o,X.s₀.heap.get? b=some o->∀o1,s.heap.get? b=some o1->b∉frs X.outer->h2.get? b=some o1:=λb o e o1 q n=>hfl.1 b o1 (cov b o1 q (nst b (neL b o e) n) (.inr ⟨o,e⟩))
 refine⟨a,cls,a0,H,B,rfl,J.os,J.bare,⟨λb o e n hb _=>?_,λb o e n hb _=>?_,λb o e n _=>?_,λb o e _=>?_,J.base.tups,J.base.frzs,J.base.tbls⟩,λb u e=>?_,hfl,λb o e n hc=>?_,hE⟩
 ·exact ko b o e o (J.base.keep b o e n hb (nx b)) hb
 ·obtain⟨sl,e1⟩:=J.base.slot b o e n hb (nx b)
  obtain⟨_,o2,e2,nf⟩:=J.funs.mem hb
  rw[e1] at e2;cases e2
  obtain⟨sl',e3⟩:=up b _ e1 nf
  exact⟨sl',e3⟩
 ·exact J.base.free b o e n (nx b)
 ·obtain⟨o1,e1⟩:=J.base.there b o e (nx b)
  by_cases hb:b∈frs X.outer
  ·obtain⟨_,o2,e2,nf⟩:=J.funs.mem hb
   obtain⟨sl',e3⟩:=up b _ e2 nf
   exact⟨_,e3⟩
  ·exact⟨o1,ko b o e o1 e1 hb⟩
 ·refine(J.hok b u e).stay (λc v hc q=>?_) (λ_ q=>q) λ_ _ q=>q
  rcases hc with z | z
  ·rw[z] at q ⊢;exact tr b u v e q
  ·exact tr c _ v z q
 ·rcases hc with hc | ⟨o',e'⟩
  ·cases hu:H b with
   |none=>exact absurd hu hc
   |some u=>
    obtain⟨o1,e1⟩:=(J.hok b u hu).there
    have e2:=tr b u o1 hu e1
    rw[e] at e2;cases e2
    exact cov b o e1 (λz=>by rw[J.stkFree b z] at hu;cases hu) (.inl hc)
  ·obtain⟨o1,e1⟩:=J.base.there b o' e' (nx b)
   have e2:=ko b o' e' o1 e1 n
   rw[e] at e2;cases e2
   exact cov b o e1 (nst b (neL b o' e') n) (.inr ⟨o',e'⟩)
end
section
variable {P:Program}{w:World}{K:aa}{mg:Str->Option Value}{base:Heap}{N:List Str}{qual:Str}{scope:Scope}{f:Addr}{cd:Value}{A:Around}{outer:List Env}{s₀:Shared}{H₀:Hp}{E:XK}
end
section
variable {X:Cx}{pins:List (Addr×Obj)}{σ:St}{H:Hp}{s:Shared}
theorem aAa {M:Model}{A:Around}{E:Value->Shared->Prop}{i:Nat}{x:Str}{Q:Bool->Shared->Prop}(I:Inv X pins σ H s)(hN:X.N.Nodup)(hi:X.N[i]?=some x)
  (h:∀s' m,s.heap.Ns X.env.locals m->Inv X pins (σ.set i none) H s'->Q (m x).isSome s'):wpAny M A (nsDel X.env.locals x) Q E s:=by
 obtain⟨m,hn,hl⟩:=id I.loc
 have hiσ:i<σ.length:=by rw[I.len];exact(ao.mp hi).1
 have cne:=I.cne
 obtain⟨oL,_,_,hoL,_⟩:=id hn
 refine wpAny_nsDel_keeps hn λh' w' hn' hs=>?_
 refine h { s with heap:=h' } m hn ⟨I.ok,I.os,I.bare,⟨λb o e n hb hx=>?_,λb o e n hb hx=>?_,I.base.free,λb o e hx=>?_,I.base.tups,I.base.frzs,I.base.tbls⟩,⟨_,hn',λj y v' e1 e2 e3=>?_⟩,λy c e=>?_,I.free,I.freeC,λp hp=>?_,λb ob e=>?_,by simpa using I.len⟩
 ·exact(hs.2 b (de (cf (bj e) I.ok.above))).trans (I.base.keep b o e n hb hx)
 ·obtain⟨sl,e1⟩:=I.base.slot b o e n hb hx
  exact⟨sl,(hs.2 b (de (cf (bj e) I.ok.above))).trans e1⟩
 ·obtain⟨o',e1⟩:=I.base.there b o e hx
  exact⟨o',(hs.2 b (de (cf (bj e) I.ok.above))).trans e1⟩
 ·by_cases hj:j=i
  ·subst hj
   rw[gc hiσ] at e2
   cases e2
  ·rw[iu (ke hj)] at e2
   obtain⟨u',r',q⟩:=hl j y v' e1 e2 e3
   refine⟨u',r',?_⟩
   rcases q with⟨k,e⟩ | ⟨k,c,e,z⟩
   ·refine .inl ⟨k,?_⟩
    have:y≠x:=λe=>hj (pF hN e1 (e ▸ hi))
    simp[this,e]
   ·exact .inr ⟨k,c,e,z.sameBut hs (cne y c e)⟩
 ·obtain⟨w',z⟩:=I.cell y c e
  exact⟨w',z.sameBut hs (cne y c e)⟩
 ·obtain⟨e,n,ne,nf,d⟩:=I.pin p hp
  exact⟨(hs.2 p.1 ne).trans e,n,ne,nf,d⟩
 ·refine(I.hok b ob e).stay (λc w' hc q=>(hs.2 c ?_).trans q) (λ_ q=>q) λ_ _ q=>q
  rintro rfl
  rcases hc with rfl | hc
  ·rw[I.free] at e;cases e
  ·rw[I.free] at hc;cases hc
theorem zE {i:Nat}{v w:Option V}:(σ.set i v).set i w=σ.set i w:=List.set_set ..
theorem hJ {M:Model}{A:Around}{E:Value->Shared->Prop}{i:Nat}{x:Str}{pos:Pos}{Q:Unit->Shared->Prop}(I:Inv X pins σ H s)(hN:X.N.Nodup)(hi:X.N[i]?=some x)(hx:X.env.scope.names.lookup x=some .local)
  (h:∀s',Inv X pins (σ.set i none) H s'->Q () s'):wpAny M A (do bindName X.env x .none;r9 X.env x pos) Q E s:=by
 have hcls:(X.env.scope.kind == .class || (X.env.scope.kind == .module && X.env.locals != X.env.globals))=false:=by rw[I.ok.kind];rfl
 have hk:X.env.kindOf x=some .local:=hx
 refine ae (wpAny_bindName (iS (v := .non) I hN hi (.inl hx) rfl (λs' I'=>?_) (.inr hx)))
 unfold r9
 refine wpAny_onRaise ?_
 unfold unbindName
 refine ae (vo (ae ?_))
 unfold deleteName
 simp only[hk,hcls]
 rw[if_neg (by decide)]
 refine ae (aAa I' hN hi λs2 m hm I2=>?_)
 have hs:(m x).isSome=true:=by
  obtain⟨m',hn',hl'⟩:=I'.loc
  obtain⟨u,ru,q⟩:=hl' i x .non hi (gc (by rw[I.len];exact(ao.mp hi).1)) (.inl hx)
  rcases q with⟨_,e⟩ | ⟨k,_⟩
  ·have:m=m':=by
    funext y
    obtain⟨o,es,ep,ho,hd,hk',hm'⟩:=hm
    obtain⟨o',es',ep',ho',hd',hk'',hm''⟩:=hn'
    rw[ho] at ho';cases ho'
    rw[hd] at hd';cases hd'
    rw[<- hm' y,<- hm'' y]
   rw[this,e];rfl
  ·rw[hk] at k;rcases k with k | k <;> cases k
 rw[hs]
 simp only[p9,ij,if_false]
 refine ay (vo (h s2 ?_))
 rw[zE] at I2
 exact I2
end
abbrev Cx.tried (X:Cx) (pn:List (Addr×Obj)) (W:Value->Shared->Prop):Cx:={ X with pn:=pn,xe:=W }
abbrev Cx.suite (X:Cx) (pn:List (Addr×Obj)) (a:Addr):Cx:={ X with pn:=pn,xe:=λ_ _=>False,A:=X.A.mark (some (.ref a)),calm:=false }
section
variable {X:Cx}{pins pn pins':List (Addr×Obj)}{σ:St}{H H':Hp}{s s':Shared}{W:Value->Shared->Prop}{a C:Addr}{cls a0:Value}{B h2:Heap}
theorem Inv.tried (I:Inv X pins σ H s)(W:Value->Shared->Prop):Inv (X.tried (X.pn++pins) W) [] σ H s:=
 ⟨⟨I.ok.mod,I.ok.kind,I.ok.glob,I.ok.blt,I.ok.above,I.ok.inj,I.ok.has,I.ok.cab,I.ok.hd,I.ok.frames,I.ok.stk,I.ok.exf,I.ok.bs,I.ok.bsz,I.ok.noex,I.ok.exfs,I.ok.funs,I.ok.frf⟩,I.os,I.bare,I.base,I.loc,I.cell,I.free,I.freeC,
  λp hp=>I.pin p (by simpa using hp),I.hok,I.len⟩
theorem Inv.untried (I:Inv (X.tried (X.pn++pins) W) pins' σ H s):Inv X pins σ H s:=
 ⟨⟨I.ok.mod,I.ok.kind,I.ok.glob,I.ok.blt,I.ok.above,I.ok.inj,I.ok.has,I.ok.cab,I.ok.hd,I.ok.frames,I.ok.stk,I.ok.exf,I.ok.bs,I.ok.bsz,I.ok.noex,I.ok.exfs,I.ok.funs,I.ok.frf⟩,I.os,I.bare,I.base,I.loc,I.cell,I.free,I.freeC,
  λp hp=>I.pin p (cq _ hp),I.hok,I.len⟩
theorem Inv.suite (I:Inv X pins σ H s)(a:Addr):Inv (X.suite (X.pn++pins) a) [] σ H s:=
 ⟨⟨I.ok.mod,I.ok.kind,I.ok.glob,I.ok.blt,I.ok.above,I.ok.inj,I.ok.has,I.ok.cab,(λz=>by cases z),I.ok.frames,I.ok.stk,I.ok.exf,I.ok.bs,I.ok.bsz,I.ok.noex,I.ok.exfs,I.ok.funs,I.ok.frf⟩,I.os,I.bare,I.base,I.loc,I.cell,I.free,I.freeC,
  λp hp=>I.pin p (by simpa using hp),I.hok,I.len⟩
theorem Inv.unsuite (ok:X.Ok)(I:Inv (X.suite (X.pn++pins) a) pins' σ H s):Inv X pins σ H s:=
 ⟨ok,I.os,I.bare,I.base,I.loc,I.cell,I.free,I.freeC,λp hp=>I.pin p (cq _ hp),I.hok,I.len⟩
theorem qW (I:Inv X pins σ H s)(os:s'.os=s.os)(bare:n5 s'.gens)(un:Un (frs X.stack) [] H H' s.heap s'.heap)(hok:HOk X.prog X.w H' s'.heap)
  (cov:∀b o,s'.heap.get? b=some o->b∉frs X.stack->(H' b≠none\/∃o',s.heap.get? b=some o')->B.get? b=some o)
  (hfl:nv B X.stack a (.ref C) a0 h2) (up:s'.heap.UpToSlots h2) (ha:∃oe,s'.heap.get? a=some oe):H' a=none/\Inv X pins σ (upd H' a (aEl a C)) { s' with heap:=h2 }:=by
 obtain⟨f1,f2,f3,f4⟩:=id hfl
 have sf:∀b∈frs X.stack,H' b=none:=λb hb=>by
  obtain⟨_,o,ho,_⟩:=I.stack.mem hb
  exact un.free b o ho (I.stkFree b hb) (by simp)
 have na:a∉frs X.stack:=λhb=>by
  obtain⟨_,o,ho,nf⟩:=f3.mem hb
  obtain⟨oe,vs,_,_,_,e1,_,e2,_⟩:=f4
  rw[ho] at e1;cases e1
  exact nf vs e2
 have hn:H' a=none:=by
  cases q:H' a with
  |none=>rfl
  |some u=>
   obtain⟨oe,e⟩:=ha
   have:=cov a oe e na (.inl (by rw[q];exact λz=>by cases z))
   rw[f2] at this;cases this
 have hs:s.heap.get? a=none:=by
  cases q:s.heap.get? a with
  |none=>rfl
  |some o=>
   obtain⟨oe,e⟩:=ha
   have:=cov a oe e na (.inr ⟨o,q⟩)
   rw[f2] at this;cases this
 have tr:∀b u o,H' b=some u->s'.heap.get? b=some o->h2.get? b=some o:=λb u o e q=>
  f1 b o (cov b o q (λz=>by rw[sf b z] at e;cases e) (.inl (by rw[e];exact λz=>by cases z)))
 have nb:∀b o,s.heap.get? b=some o->b≠a:=λb o e z=>by rw[z,hs] at e;cases e
 have nt:∀b u,H' b=some u->b≠a:=λb u e z=>by rw[z,hn] at e;cases e
 refine⟨hn,I.call' (s':={ s' with heap:=h2 }) (ch:=[]) os ⟨λb o e n hb _=>?_,λb o e n hb _=>?_,λb o e n _=>?_,λb o e _=>?_,λb xs e=>?_,λb o u e=>?_,λb ps e=>?_⟩ (λb u e=>?_) bare (λb z=>absurd z (by simp))⟩
 ·exact f1 b o (cov b o (un.keep b o e n hb (by simp)) hb (.inr ⟨o,e⟩))
 ·obtain⟨sl,e1⟩:=un.slot b o e n hb (by simp)
  obtain⟨_,o2,e2,nf⟩:=I.stack.mem hb
  rw[e] at e2;cases e2
  obtain⟨sl',e3⟩:=up b _ e1 nf
  exact⟨sl',e3⟩
 ·rw[aM (nb b o e)];exact un.free b o e n (by simp)
 ·obtain⟨o1,e1⟩:=un.there b o e (by simp)
  by_cases hb:b∈frs X.stack
  ·obtain⟨_,o2,e2,nf⟩:=I.stack.mem hb
   obtain⟨sl,e3⟩:=un.slot b o2 e2 (I.stkFree b hb) hb (by simp)
   obtain⟨sl',e4⟩:=up b _ e3 nf
   exact⟨_,e4⟩
  ·exact⟨o1,f1 b o1 (cov b o1 e1 hb (.inr ⟨o,e⟩))⟩
 ·have:=un.tups b xs e
  rw[aM (nt b _ this)];exact this
 ·have:=un.frzs b o u e
  rw[aM (nt b _ this)];exact this
 ·obtain⟨more,this⟩:=un.tbls b ps e
  exact⟨more,by rw[aM (nt b _ this)];exact this⟩
 ·by_cases hb:b=a
  ·subst hb
   rw[aE] at e;cases e
   obtain⟨ob,e1,e2⟩:=hfl.there
   exact aAF ⟨ob,e1,e2⟩
  ·rw[aM hb] at e
   refine(hok b u e).stay (λc v hc q=>?_) (λc q=>by rw[aM (nt c _ q)];exact q) λc xs q=>by rw[aM (nt c _ q)];exact q
   rcases hc with z | z
   ·rw[z] at q ⊢;exact tr b u v e q
   ·exact tr c _ v z q
end
section
variable {X:Cx}{x n:Str}{np pos hpos:Pos}{C0:Addr}{ie ln:Nat}{tb:XK->TS}{th:TS}{body suite:List Stmt}{b₀:Stmt}
theorem SP.untried {pins:List (Addr×Obj)}{W:Value->Shared->Prop}{D:lF}{f:Flow}{s':Shared}(h:SP (X.tried (X.pn++pins) W) [] D f s'):SP X pins D f s':=by
 cases f with
 |next=>obtain⟨σ',H',I,q⟩:=h;exact⟨σ',H',I.untried,q⟩
 |brk=>obtain⟨σ',H',I,q⟩:=h;exact⟨σ',H',I.untried,q⟩
 |cont=>obtain⟨σ',H',I,q⟩:=h;exact⟨σ',H',I.untried,q⟩
 |ret u=>obtain⟨v,σ',H',I,r,q⟩:=h;exact⟨v,σ',H',I.untried,r,q⟩
end
section
variable {X:Cx}{st:Stmt}{t:TS}{x:Str}{np pos hpos cpos p:Pos}{C C0:Addr}{E:XK}{m:Str}{j:Nat}{K:aa}
theorem PS.nox (h:PS X.nox st t):PS X st t:=λpins s σ H D I hw=>
 di (h pins s σ H D (I.wish _) hw) (λ_ _ q=>q.unwish) λ_ _ z=>fg z
end
section
variable {P:Program}{w:World}{K:aa}{mg:Str->Option Value}{base:Heap}
end
theorem oM:d5 ("ValueError" : Str)=some (.type "ValueError"):=PyProof.Rows.Boot.«ValueError»
end L2
namespace L2
open PySem
section
variable {X:Cx}
end
section
variable {P:Program}{w:World}
variable {A:Around}{E:Value->Shared->Prop}{s:Shared}
end
section
variable {P:Program}{w:World}{H:Hp}{h:Heap}{a c:Addr}{k:PKy}{xs:PEs}
end
section
variable {X:Cx}{o i value:Expr}{pos pos':Pos}{td ty tv:TE}
end
end L2
namespace L2
open PySem PySem.Spec PyProof.Rows
section
variable {prog:Program}{w:World}{A:Around}{E:Value->Shared->Prop}{s:Shared}{d:Addr}{o:Obj}{es:Array DictEntry}{ep:Nat}
end
end L2
namespace L2
open PySem
theorem wO {H H':Hp}{p:Addr}{o:HO}(h:H p=none)(s:Same H H'):Same H (upd H' p o):=λb u e=>by rw[aM (aQ e h)];exact s _ _ e
section
variable {K:aa}
end
open PySem.SeqAt
section
variable {X:Cx}
end
end L2
namespace L2
open PySem PySem.W PyProof.Rows
section
variable (r:Nat->Int)
variable {r}
end
section
variable {N:Nat}
end
section
variable {prog:Program}{w:World}{A:Around}{E:Value->Shared->Prop}{s:Shared}
end
section
variable {prog:Program}{w:World}{A:Around}{E:Value->Shared->Prop}{s:Shared}
end
end L2
namespace L2
open PySem PyProof.Rows
section
variable {X:Cx}
end
section
variable {X:Cx}
end
end L2
namespace L2
open PySem PySem.Spec PyProof.Rows
section
variable {prog:Program}{w:World}{A:Around}{E:Value->Shared->Prop}{s:Shared}{d:Addr}{o:Obj}{es:Array DictEntry}{ep:Nat}
end
section
variable {prog:Program}{w:World}{K:Type}[DecidableEq K]{knd:HeapKind prog w K}{A:Around}{E:Value->Shared->Prop}{s:Shared}{d a:Addr}{xs:List (K×Addr×Value)}{k:K}
end
section
variable {X:Cx}{pins:List (Addr×Obj)}{σ:St}{H:Hp}{s:Shared}{A:Around}{E:Value->Shared->Prop}{a b:Addr}{kvs:List (List Key×V)}{k:List Key}
end
section
variable {X:Cx}{o e f:Expr}{td ty tx:TE}{apos cpos:Pos}
end
section
variable {prog:Program}{w:World}{A:Around}{E:Value->Shared->Prop}{s:Shared}{d:Addr}{o:Obj}{es:Array DictEntry}{ep:Nat}
end
section
variable {prog:Program}{w:World}{A:Around}{E:Value->Shared->Prop}{s:Shared}
end
section
variable {X:Cx}{o i value:Expr}{pos pos':Pos}{td ty tv:TE}
end
section
variable {X:Cx}
end
section
variable {prog:Program}{w:World}{A:Around}{E:Value->Shared->Prop}{s:Shared}
end
section
variable {prog:Program}{w:World}{A:Around}{R:qu->Shared->Prop}{I:Addr}{fp wr:List Addr}{G:Array GenState->Array GenState->Prop}{n:Nat}{P:Nat->Value->Prop}{St:Nat->Shared->Prop}
end
section
variable {prog:Program}{w:World}{A:Around}{E:Value->Shared->Prop}{s:Shared}
end
section
variable {prog:Program}{w:World}{A:Around}{E:Value->Shared->Prop}{s:Shared}{a:Addr}{es:Array (Int×Value)}{ep:Nat}{ks:List Nat}
end
end L2
namespace L2
open PySem PySem.Spec PySem.W PyProof.Rows
section
variable {prog:Program}{w:World}{A:Around}{E:Value->Shared->Prop}{s:Shared}{a:Addr}{es:Array (Int×Value)}{ep:Nat}{ks:List Nat}
end
section
variable {X:Cx}
end
end L2
namespace L2
open PySem PySem.Spec PyProof.Rows
section
variable {X:Cx}{o e f:Expr}{apos cpos:Pos}{td ty tx:TE}
end
section
variable {X:Cx}
end
open PySem.SeqAt PySem.MeetsSeq3
section
variable {A:Around}{s:Shared}{l b:Addr}{us vs:List Value}{R S:List (List Int)}
end
open PySem.SeqAt PySem.MeetsSeq
open AutoSeq1 (wpAny_loadPart')
section
variable {X:Cx}
end
end L2
namespace L2
open PySem
def aEx (K:aa) (H:Hp) (c:V) (b:Bool):Prop:=
 (∃n,c = .ty n/\lh K (.type "NoneType") (.type n)=some b)\/(∃D,c = .ref D/\lh K (.type "NoneType") (.ref D)=some b) \/
  ∃(tp:Addr) (Ds:List Addr),c = .ref tp/\H tp=some (.tup (Ds.map V.ref))/\oh K (.type "NoneType") (Ds.map Value.ref)=some b
def aEu (K:aa):List V->Hp->VK->Prop:=λvs H Q=>∃c b,vs=[.non,c]/\aEx K H c b/\Q (.bl b) H
section
variable {X:Cx}
theorem zD:CallR X (.builtin "isinstance") (aEu X.K):=by
 intro pins s σ H xs us Q I r ⟨c,b,e,hc,q⟩
 subst e
 obtain⟨u,v,rfl,rx,rc⟩:=r.two
 obtain rfl:u=Value.none:=rx
 have fin:∀t:Nat,EP X pins σ Q (.bool b) { s with toks:=t }:=λt=>⟨.bl b,H,I.tok t,rfl,q⟩
 rcases hc with⟨n,rfl,k⟩ | ⟨D,rfl,k⟩ | ⟨tp,Ds,rfl,ht,k⟩
 ·obtain rfl:v=Value.type n:=rc
  exact mr o4 I.kIn trivial k (by intro z;cases z) fin
 ·obtain rfl:v=Value.ref D:=rc
  exact mr o4 I.kIn trivial k (by intro z;cases z) fin
 ·obtain rfl:v=Value.ref tp:=rc
  obtain⟨_,its,rv,o,e1,e2,⟨m,e3⟩,_⟩:=I.hok tp _ ht
  obtain⟨oc,od,dt,sl⟩:=o
  dsimp only at e2 e3
  subst e2 e3
  obtain rfl:=mG rv
  exact PySem.W.kia_tup o4 I.kIn trivial e1 k (by intro z;cases z) fin
end
end L2
namespace L2
open PySem PySem.Spec PyProof.Rows
section
variable {X:Cx}
def kG (i:Int):Str:=ig (me i)
theorem uB:d5 "str" = some (.type "str"):=by decide+kernel
def xZ:List V->Hp->VK->Prop:=λvs H Q=>∃i:Int,vs=[.int i]/\i.natAbs<10 ^ 40/\Q (.str (kG i)) H
theorem iN:CallR X (.type "str") xZ:=by
 intro pins s σ H xs us Q I r ⟨i,e,hi,q⟩
 subst e
 obtain⟨u,rfl,t,rfl⟩:=rQ r
 refine P.str_of_int ?_ ⟨.str (kG i),H,I.tok _,⟨_,rfl⟩,q⟩
 by_cases h0:i.natAbs=0
 ·rw[h0];decide
 ·exact(vn h0).mpr (Nat.lt_trans hi aAw)
def rZ:List V->Hp->VK->Prop:=λvs H Q=>∃(x:Str) (n:Int),vs=[.str x]/\si x=some n/\x.length<=640/\Q (.int n) H
theorem iR:CallR X (.type "int") rZ:=by
 intro pins s σ H xs us Q I r ⟨x,n,e,hn,hl,q⟩
 subst e
 obtain⟨u,rfl,t,rfl⟩:=rQ r
 exact PySem.W.KIN.call_text hn hl ⟨.int n,H,I.tok _,⟨_,rfl⟩,q⟩
def qV:List V->Hp->VK->Prop:=λxs H Q=>∃z:Str,xs=[.str z]/\z.length<=cb/\Q (.int z.length) H
theorem eU:CallR X (.builtin "len") qV:=pT
def aEd:V->List V->Hp->VK->Prop:=λx vs H Q=>∃y:Str,x = .str y/\vs=[]/\Q (.bl (mw y)) H
theorem aDn:MtM X "str.isascii" aEd:=by
 intro pins s σ H x vs v us Q I rx rv ⟨y,e1,e2,q⟩
 subst e1 e2
 obtain⟨t,rfl⟩:=rx
 cases rv
 exact SC.isascii ⟨.bl _,H,I,rfl,q⟩
def aDY:V->List V->Hp->VK->Prop:=λx vs H Q=>∃y:Str,x = .str y/\vs=[]/\Q (.bl (vp y)) H
theorem aCJ:MtM X "str.isdigit" aDY:=by
 intro pins s σ H x vs v us Q I rx rv ⟨y,e1,e2,q⟩
 subst e1 e2
 obtain⟨t,rfl⟩:=rx
 cases rv
 exact SC.isdigit ⟨.bl _,H,I,rfl,q⟩
theorem qG:∀{ts:List Str}{us:List Value},Vals (ts.map V.str) us->∃l:List (Str×Tok),us=vq l/\l.map (·.1)=ts
 |[],_,h=>by cases h;exact⟨[],rfl,rfl⟩
 |x :: ts,_,h=>by
  cases h with
  |cons r h=>
   obtain⟨t,rfl⟩:=r
   obtain⟨l,rfl,e⟩:=qG h
   exact⟨(x,t) :: l,rfl,by rw[<- e];rfl⟩
theorem qZ:∀(l:List (Str×Tok)),Vals ((l.map (·.1)).map V.str) (vq l)
 |[] => .nil
 | (x,t) :: l => .cons ⟨t,rfl⟩ (qZ l)
def lS (K:aa):V->List V->Hp->VK->Prop:=λx vs H Q=>∃(y:Str) (a:Addr) (ts:List Str),x = .str y/\vs=[.ref a]/\SqL K H a (ts.map V.str)/\u3 y ts=true/\Q (.str (i8 y ts)) H
theorem eW {K:aa}(hK:X.K=K):MtM X "str.join" (lS K):=by
 subst hK
 intro pins s σ H x vs v us Q I rx rv ⟨y,a,ts,e1,e2,hq,hok,q⟩
 subst e1 e2
 obtain⟨t,rfl⟩:=rx
 obtain⟨u,rfl,ru⟩:=rv.one
 obtain rfl:u=Value.ref a:=ru
 obtain⟨its,r,pl,_⟩:=I.list hq
 obtain⟨l,rfl,el⟩:=qG r
 exact SC.join pl.isList el hok λt' k=>⟨.str _,H,I.tok k,⟨_,rfl⟩,q⟩
def kQ:V->List V->Hp->VK->Prop:=λx vs H Q=>∃(y z:Str),x = .str y/\vs=[.str z]/\(z.length == 0)=false/\y.length<=cb/\(bb y z).length<=cb/\∀l,H l=none->Q (.ref l) (upd H l (.lst ((bb y z).map V.str)))
theorem iB:MtM X "str.split" kQ:=by
 intro pins s σ H x vs v us Q I rx rv ⟨y,z,e1,e2,h0,h1,h3,q⟩
 subst e1 e2
 obtain⟨t,rfl⟩:=rx
 obtain⟨u,rfl,tu,rfl⟩:=rv.one
 have fin:∀(l:List (Str×Tok)) (k:Nat),l.map (·.1)=bb y z->EP X pins σ Q (.ref s.heap.objs.size) { s with heap:=s.heap.push { cls := .type "list",data := .seq (vq l).toArray },toks:=k }:=λl k el=>by
  refine⟨.ref s.heap.objs.size,_,I.laid (t':=k) (o := .lst ((bb y z).map V.str)) (λb o e=>by rw[Heap.get?_push_ne _ _ _ (de (bj e))];exact e) (av _) ?_,rfl,q _ (I.hok.fresh (av _))⟩
  refine⟨by rw[af];exact h3,vq l,0,?_,ck _ rfl⟩
  rw[<- el]
  exact qZ l
 by_cases c1:(decide (y.length<z.length) || decide (js y<js z))=true
 ·exact ot qg (oq _ _ _) o5 (ny _ _) (meets_str_split_cannot_occur y z t tu c1) (fin [(y,t)] s.toks (by unfold bb;rw[if_pos c1];rfl))
 ·rw[Bool.not_eq_true] at c1
  by_cases c2:(dw y z 0 y.length (y.length+1)).isEmpty=true
  ·exact ot qg (oq _ _ _) o5 (ny _ _) (meets_str_split_not_found y z t tu c1 h0 c2) (fin [(y,t)] s.toks (by unfold bb;rw[if_neg (by rw[c1];decide),if_pos c2];rfl))
  ·rw[Bool.not_eq_true] at c2
   have es:bb y z=jy y (dw y z 0 y.length (y.length+1)) z.length:=by unfold bb;rw[if_neg (by rw[c1];decide),if_neg (by rw[c2];decide)]
   refine ot qg (oq _ _ _) o5 (ny _ _) (meets_str_split_sep y z t tu c1 h0 c2 h1 (by rw[<- es];exact h3)) ?_
   have g:=fin (numbered s.toks (bb y z)) (s.toks+(jy y (dw y z 0 y.length (y.length+1)) z.length).length) (numbered_texts _ _)
   rw[<- strsFrom_eq,es] at g
   exact g
end
theorem iW {c:Nat}:∀{a b r t:List Nat},c∉a->c∉b->a++c :: r=b++c :: t->a=b/\r=t
 |[],[],r,t,_,_,e=>by simp at e;exact⟨rfl,e⟩
 |[],y :: b,r,t,_,hb,e=>by
  simp only[qy,qh,j4] at e
  exact absurd (by rw[e.1];exact dq) hb
 |x :: a,[],r,t,ha,_,e=>by
  simp only[qy,qh,j4] at e
  exact absurd (by rw[<- e.1];exact dq) ha
 |x :: a,y :: b,r,t,ha,hb,e=>by
  simp only[qh,j4] at e
  obtain⟨h1,h2⟩:=iW (λh=>ha (aw _ h)) (λh=>hb (aw _ h)) e.2
  exact⟨by rw[e.1,h1],h2⟩
def kA (c:Nat):List (List Nat)->List Nat
 |[]=>[]
 |[a]=>a
 |a :: b :: r=>a++c :: kA c (b :: r)
theorem pU {c:Nat}:∀{as bs:List (List Nat)},as≠[]->bs≠[]->(∀a∈as,c∉a)->(∀b∈bs,c∉b)->kA c as=kA c bs->as=bs
 |[],_,h,_,_,_,_=>absurd rfl h
 |_,[],_,h,_,_,_=>absurd rfl h
 |[a],[b],_,_,_,_,e=>by rw[show a=b from e]
 |[a],b :: b' :: bs,_,_,ha,_,e=>by
  have e':a=b++c :: kA c (b' :: bs):=e
  exact absurd (by rw[e'];simp) (ha a (by simp))
 |a :: a' :: as,[b],_,_,_,hb,e=>by
  have e':a++c :: kA c (a' :: as)=b:=e
  exact absurd (by rw[<- e'];simp) (hb b (by simp))
 |a :: a' :: as,b :: b' :: bs,_,_,ha,hb,e=>by
  have e':a++c :: kA c (a' :: as)=b++c :: kA c (b' :: bs):=e
  obtain⟨h1,h2⟩:=iW (ha a (by simp)) (hb b (by simp)) e'
  rw[h1,pU (by simp) (by simp) (λx hx=>ha x (aw _ hx)) (λx hx=>hb x (aw _ hx)) h2]
theorem jB (c:Nat):∀(ts:List Str),(dh ⟨#[c]⟩ ts).cps.toList=kA c (ts.map λt=>t.cps.toList)
 |[]=>rfl
 |[a]=>rfl
 |a :: b :: r=>by
  have e:dh ⟨#[c]⟩ (a :: b :: r)=a++⟨#[c]⟩++dh ⟨#[c]⟩ (b :: r):=rfl
  rw[e,ir,ir,fk,fk,jB c (b :: r)]
  show(a.cps.toList++[c])++kA c (b.cps.toList :: r.map _)=a.cps.toList++c :: kA c (b.cps.toList :: r.map _)
  simp
theorem nX {a b:Str}(h:a.cps.toList=b.cps.toList):a=b:=Str.ext' (Array.toList_inj.mp h)
theorem gD (x y:Str):bb x y≠[]:=by
 unfold bb
 split
 ·simp
 ·split
  ·simp
  ·rw[qa]
   obtain⟨p,r,e⟩:=StrLaws.partsFrom_ne x y.length 0 (dw x y 0 x.length (x.length+1))
   rw[e];simp
theorem nE (c:Nat)(ws:List Str)(h:ws≠[])(hf:∀t∈ws,c∉t.cps.toList):bb (i8 ⟨#[c]⟩ ws) ⟨#[c]⟩=ws:=by
 have e0:i8 ⟨#[c]⟩ ws=dh ⟨#[c]⟩ ws:=fo _ _
 have e1:=e9 (i8 ⟨#[c]⟩ ws) ⟨#[c]⟩
 have e2:kA c ((bb (i8 ⟨#[c]⟩ ws) ⟨#[c]⟩).map λt=>t.cps.toList)=kA c (ws.map λt=>t.cps.toList):=by
  rw[<- jB,<- jB,e1,e0]
 have e3:=pU (by simpa using gD _ _) (by simpa using h) (λa ha=>by
  obtain⟨t,ht,rfl⟩:=dn.mp ha
  exact StrLaws.split_free _ c t ht) (λa ha=>by
  obtain⟨t,ht,rfl⟩:=dn.mp ha
  exact hf t ht) e2
 have inj:∀(as bs:List Str),as.map (λt=>t.cps.toList)=bs.map (λt=>t.cps.toList)->as=bs:=by
  intro as
  induction as with
  |nil=>intro bs e;cases bs with
   |nil=>rfl
   |cons b bs=>simp at e
  |cons a as ih=>intro bs e;cases bs with
   |nil=>simp at e
   |cons b bs=>
    rw[e6,e6,j4] at e
    rw[nX e.1,ih bs e.2]
 exact inj _ _ e3
section
variable {X:Cx}
end
end L2
namespace L2
open PySem PySem.W PyProof.Rows
open PySem.SeqAt
section
variable {prog:Program}{w:World}{A:Around}{E:Value->Shared->Prop}{s:Shared}
end
section
variable {X:Cx}
end
section
variable {X:Cx}{a b c d:Expr}{ta tb tc td:TE}{pos:Pos}
end
end L2
namespace L2
open PySem PySem.Spec PyProof.Rows
section
variable {M:Model}{A:Around}{E:Value->Shared->Prop}{s:Shared}
end
section
variable {X:Cx}{pins:List (Addr×Obj)}{σ:St}{H:Hp}{s:Shared}{E:XK}{a:Addr}{cls a0:Value}{B h2:Heap}
end
section
variable {P:Program}{w:World}{K:aa}{mg:Str->Option Value}{base:Heap}{N:List Str}{qual:Str}{scope:Scope}{f:Addr}{cd:Value}{A:Around}{outer:List Env}{s₀:Shared}{H₀:Hp}{E:XK}
end
section
variable {X:Cx}
end
section
variable {X:Cx}{elt target iter:Expr}{ifs:List Expr}{rest:List Comprehension}{scope:Scope}{pos:Pos}{N':List Str}{ix:List (Option Nat)}{wi:TI}{g:TG}{ts:List TT}{tb:Addr->TS}{E:XK}
end
section
variable {prog:Program}{w:World}{A:Around}{E:Value->Shared->Prop}{s:Shared}
end
section
variable {prog:Program}{w:World}{A:Around}{s:Shared}{R:qu->Shared->Prop}
end
section
variable {prog:Program}{w:World}{A:Around}{E:Value->Shared->Prop}{s:Shared}
end
section
variable {X:Cx}{pins:List (Addr×Obj)}{σ:St}{H H2:Hp}{s:Shared}{h':Heap}
end
section
variable {prog:Program}{w:World}{A:Around}{R:qu->Shared->Prop}{It:Addr}{fp wr:List Addr}{n:Nat}{P:Nat->Value->Prop}{St:Nat->Heap->Prop}
end
section
variable {prog:Program}{w:World}{A:Around}{E:Value->Shared->Prop}{s:Shared}
end
section
variable {t:SetTable}{pl:List Nat}
end
def hT (k:List Int):Int:=reduceHash (Builtin.Tuple.tupleHashOf (k.map hashInt))
section
variable {t:SetTable}{pl:List Nat}{us:Us}{k:List Int}
end
section
variable {mask:Nat}{pl:List Nat}{us:Us}{k:List Int}
end
section
variable {mask:Nat}{pl:List Nat}{us:Us}
end
section
variable {prog:Program}{w:World}{A:Around}{E:Value->Shared->Prop}{s:Shared}
end
section
variable {prog:Program}{w:World}{A:Around}{E:Value->Shared->Prop}{s:Shared}{a b:Addr}{us:Us}{k:List Int}{ep mask mv:Nat}{pl:List Nat}
end
section
variable {prog:Program}{w:World}{A:Around}{R:qu->Shared->Prop}{I:Addr}{fp wr:List Addr}{G:Array GenState->Array GenState->Prop}{n:Nat}{P:Nat->Value->Prop}{St:Nat->Shared->Prop}
end
section
variable {prog:Program}{w:World}{A:Around}{E:Value->Shared->Prop}{s:Shared}
end
end L2
namespace L2
open PySem PySem.W PySem.Spec PyProof.Rows
section
variable {prog:Program}{w:World}{A:Around}{E:Value->Shared->Prop}{s:Shared}{a:Addr}{us:Us}{ep mask mv:Nat}{pl:List Nat}
end
end L2
namespace L2
open PySem PySem.Spec PySem.W PyProof.Rows
section
variable {prog:Program}{w:World}{A:Around}{E:Value->Shared->Prop}{s:Shared}{a:Addr}{us:Us}{ep mask mv:Nat}{pl:List Nat}
end
section
variable {X:Cx}
end
end L2
namespace L2
open PySem PySem.Spec PyProof.Rows
section
variable {X:Cx}
end
end L2
namespace L2
open PySem PySem.W PyProof.Rows
section
variable {prog:Program}{w:World}{A:Around}{E:Value->Shared->Prop}{s:Shared}{a₀:Array Keyed}{κ:u7}{st:SortSt}
end
section
variable {prog:Program}{w:World}{A:Around}{E:Value->Shared->Prop}{s:Shared}{a₀:Array Keyed}{κ:u7}{st:SortSt}
end
section
variable {a b out:Array Keyed}{i j k:Nat}
end
section
variable {prog:Program}{w:World}{A:Around}{E:Value->Shared->Prop}{s:Shared}{a₀:Array Keyed}{κ:u7}{st:SortSt}
end
section
variable {a b out:Array Keyed}{i j k:Nat}
end
section
variable {prog:Program}{w:World}{A:Around}{E:Value->Shared->Prop}{s:Shared}{a₀:Array Keyed}{κ:u7}{st:SortSt}
end
section
variable {prog:Program}{w:World}{A:Around}{E:Value->Shared->Prop}{s:Shared}{a₀:Array Keyed}{κ:u7}{st:SortSt}
end
section
variable {prog:Program}{w:World}{A:Around}{E:Value->Shared->Prop}{s:Shared}
end
section
variable {prog:Program}{w:World}{A:Around}{E:Value->Shared->Prop}{s:Shared}{d:Addr}{o:Obj}{es:Array DictEntry}{ep:Nat}
end
section
variable {X:Cx}
end
end L2
namespace L2
open PySem PySem.Spec PyProof.Rows
section
variable {X:Cx}{pins:List (Addr×Obj)}{σ:St}{H:Hp}{s:Shared}{P cc:Addr}
end
section
variable {X:Cx}{pins:List (Addr×Obj)}{σ:St}{l f i0 S0:Addr}{us:List Value}{R:qu->Shared->Prop}{fobj:Obj}{H:Hp}
end
section
variable {X:Cx}
end
section
variable {prog:Program}{w:World}{A:Around}{E:Value->Shared->Prop}{env:Env}
variable {nm q:Str}{C N:Addr}{bs bm bmB:List Value}{hdct:Bool}{sn:List Str}{sub:List Value}{ab:Bool}{col:Option Bool}{dd:Option Addr}{k0 k1 k2 k3 k5:Option Value}{B newId initId:String}
theorem pS {s:Shared}{pos:Pos}{e:Expr}{rest:List Expr}{Q:Value->Shared->Prop}
  (h:wpAny (model prog w) A (spliced (jg pos (cx (e :: rest) env))) (λvs s₁=>(∃nm q N bs bm hdct sn sub ab col dd k0 k1 k2 k3 k5 newId,s₁.heap.get? C=some (jt nm q C N bs bm hdct sn sub ab col dd k0 k1 k2 k3 k5 newId))/\wpAny (model prog w) A (call (.ref C) vs) Q E s₁) E s)
  (he:cx (e :: rest) env=(false,eval e env) :: cx rest env:=by rfl) (hpl:(jg pos (cx rest env)).any (·.1)=false:=by rfl) :
  wpAny (model prog w) A (callWith pos (.ref C) [] (jg pos (cx (e :: rest) env)) []) Q E s:=by
 have hplain:(jg pos (cx (e :: rest) env)).any (·.1)=false:=by rw[he];show(false || (jg pos (cx rest env)).any (·.1))=false;rw[hpl];rfl
 have h2:wpAny (model prog w) A (evalArgs (.ref C) true (jg pos (cx (e :: rest) env)) []) (λa s₁=>a.kw=[]/\(∃nm q N bs bm hdct sn sub ab col dd k0 k1 k2 k3 k5 newId,s₁.heap.get? C=some (jt nm q C N bs bm hdct sn sub ab col dd k0 k1 k2 k3 k5 newId))/\wpAny (model prog w) A (call (.ref C) a.pos) Q E s₁) E s:=by
  rw[he] at h ⊢
  exact lq (di h (λvs s₁ z=>⟨rfl,z⟩) λ_ _ x=>x)
 unfold callWith
 refine ae (e8 (di h2 (λa s₂ h₂=>ae (ic ?_)) λ_ _ x=>x))
 obtain⟨apos,akw⟩:=a
 obtain⟨hkw,⟨nm,q,N,bs,bm,hdct,sn,sub,ab,col,dd,k0,k1,k2,k3,k5,newId,hC⟩,h₂⟩:=h₂
 obtain rfl:akw=[]:=hkw
 obtain⟨hp,g,d,tk,os⟩:=s₂
 simp only[hplain]
 refine ae (wpAny_keeperOf_exc hC ?_)
 exact ae (di h₂ (λv s₃ h₃=>ae (e8 (vo (ay h₃)))) λ_ _ x=>x)
end
section
variable {X:Cx}{pins:List (Addr×Obj)}{σ:St}{H:Hp}{s:Shared}{a:Addr}{o:HO}{h':Heap}{t':Nat}
end
section
variable {X:Cx}{x:Str}{np pos:Pos}{C:Addr}{a:Expr}{es:List Expr}{ta:TA}{K:aa}
end
section
variable {prog:Program}{w:World}{A:Around}{E:Value->Shared->Prop}{h:Heap}{g:Array GenState}{d:Drawn}{t:Nat}{os:OsState}
variable {nm q:Str}{C N:Addr}{bs bm bmB:List Value}{hdct:Bool}{sn:List Str}{sub:List Value}{ab:Bool}{col:Option Bool}{dd:Option Addr}{k0 k1 k2 k3 k5:Option Value}{B newId initId:String}
abbrev zK (us:List Value):Obj:={ cls := .type "tuple",data := .seq us.toArray }
abbrev newE (C t:Addr):Obj:={ cls := .ref C,data := .fields #[.ref t, .none, .none, .none, .bool false, .none] }
theorem uT (FB:ExcBaseFacts B newId initId bmB)(TL:OwnTail h bmB bm){mN:Str->Option Value}{us:List Value}{fI:Addr}{oI:Obj}{Q:Fin->Shared->Prop}
  (kC:h.get? C=some (jt nm q C N bs bm hdct sn sub ab col dd k0 k1 k2 k3 k5 newId)) (kN:h.Ns N mN) (ki:mN "__init__" = some (.ref fI)) (kf:h.get? fI=some oI) (kc:oI.cls = .type "function") (kl:us.length<=cb)
  (kq:wpAny (model prog w) A (call (.ref fI) (.ref (h.objs.size+1) :: us)) (λr s'=>r = .none/\Q (.done (.ret (.ref (h.objs.size+1)))) s') E ⟨(h.push (zK us)).push (newE C h.objs.size),g,d,t,os⟩) :
  wpAny (model prog w) A (Builtin.«type.__call__» ⟨.ref C :: us,[]⟩) Q E ⟨h,g,d,t,os⟩:=by
 have up:∀{b o},h.get? b=some o->((h.push (zK us)).push (newE C h.objs.size)).get? b=some o:=λe=>ak _ (ak _ e)
 have kE:((h.push (zK us)).push (newE C h.objs.size)).get? (h.objs.size+1)=some (newE C h.objs.size):=o7 (by simp only[gk]) rfl
 have kN1:((h.push (zK us)).push (newE C h.objs.size)).Ns N mN:=let⟨o,es,ep,e,r⟩:=kN;⟨o,es,ep,up e,r⟩
 have self:(Value.ref C :: bm).contains (.ref C)=true:=by simp
 repeat (first | with_reducible refine gi kC ?_ | with_reducible refine wpAny_madeBy_exc kC ?_ | wp_step)
 refine codeAny_call_builtin_code (nr _ FB.quiet) (wpAny_check_new_subT FB TL kC (codeAny_exc_new_subT FB TL kC ?_ kl))
 show wpAny _ _ _ _ _ ⟨(h.push (zK us)).push (newE C h.objs.size),g,d,t,os⟩
 unfold ur
 repeat (first | with_reducible refine gi kE ?_ | (with_reducible refine mx (up kC) ?_;rw[self]) | wp_step)
 show wpAny _ _ (uk (.ref C) _) _ _ _
 rw[typeLookup_eq]
 refine ae (wpAny_mroOf_exc (up kC) ?_)
 rw[lookupAlong_cons]
 refine ae (wpAny_classOwn_exc (up kC) kN1 ?_)
 rw[ki]
 refine ay (e8 (ae ?_))
 unfold bindSpecial
 refine ae (qx (T:="function") ⟨_,up kf,kc⟩ ?_)
 rw[if_pos (by decide)]
 refine ay (ae (di kq (λr s' hr=>?_) λ_ _ x=>x))
 obtain⟨rfl,hQ⟩:=hr
 wp_walk
 exact hQ
theorem wC (FB:ExcBaseFacts B newId initId bmB)(TL:OwnTail h bmB bm){mN:Str->Option Value}{us:List Value}{fI:Addr}{oI:Obj}{Q:Value->Shared->Prop}
  (kC:h.get? C=some (jt nm q C N bs bm hdct sn sub ab col dd k0 k1 k2 k3 k5 newId)) (kN:h.Ns N mN) (ki:mN "__init__" = some (.ref fI)) (kf:h.get? fI=some oI) (kc:oI.cls = .type "function") (kl:us.length<=cb)
  (kq:wpAny (model prog w) (A.under (.builtin "type.__call__" ⟨.ref C :: us,[]⟩)) (call (.ref fI) (.ref (h.objs.size+1) :: us)) (λr s'=>r = .none/\Q (.ref (h.objs.size+1)) s') E ⟨(h.push (zK us)).push (newE C h.objs.size),g,d,t,os⟩) :
  wpAny (model prog w) A (call (.ref C) us) Q E ⟨h,g,d,t,os⟩:=by
 have c1:=tc_lookup
 have c2:=tc_bind (.ref C)
 have c3:(⟨h,g,d,t,os⟩:Shared).TypeIs (.ref C) "type":=⟨_,kC,rfl⟩
 refine km (codeAny_of_tree ?_)
 show wpAny _ _ (callAny (.ref C) _) _ _ _
 repeat (any_goals (first | assumption | with_reducible refine gi kC ?_ | wp_step))
 refine⟨rfl,codeAny_call_builtin_at (nr _ (by decide+kernel)) entry_typeCall (wpAny_check_type_call_sub kC (uT FB TL kC kN ki kf kc kl ?_))⟩
 exact kq
end
end L2
namespace L2
open PySem PySem.Spec PySem.W PyProof.Rows
section
variable {prog:Program}{w:World}{A:Around}{E:Value->Shared->Prop}{s:Shared}
end
section
variable {X:Cx}
end
end L2
namespace L2
open PySem PySem.W PyProof.Rows
open PySem.SeqAt
section
variable {prog:Program}{w:World}{A:Around}{E:Value->Shared->Prop}{s:Shared}
end
section
variable {X:Cx}
end
end L2
namespace L2
open PySem PySem.Spec PySem.W PyProof.Rows
open PySem.SeqAt
section
variable {prog:Program}{w:World}{A:Around}{E:Value->Shared->Prop}{s:Shared}{a:Addr}{es:Array (Int×Value)}{ep:Nat}{pl:List Nat}
end
section
variable {prog:Program}{w:World}{A:Around}{E:Value->Shared->Prop}{s:Shared}
end
section
variable {prog:Program}{w:World}{A:Around}{R:qu->Shared->Prop}{I:Addr}{fp wr:List Addr}{G:Array GenState->Array GenState->Prop}{n:Nat}{P:Nat->Value->Prop}{St:Nat->Shared->Prop}
end
section
variable {prog:Program}{w:World}{A:Around}{E:Value->Shared->Prop}{s:Shared}
end
section
variable {X:Cx}
end
end L2
namespace L2
open PySem PySem.Spec PyProof.Rows
open Builtin Builtin.ObjectAttr
def aCT (K:aa) (C R f:Addr):Bool:=match K.lookup C with
 |some ⟨.type "type",_, .cls cd,sl⟩=>(match sl.toList with
  |[_,_,_,_,some (.builtin n),_]=>cd.mro == .ref C :: .ref R :: yS && n == "ValueError.__new__" && !cd.hasDel && cd.hasDict && PySem.W.tailIn K yS (.ref R :: yS) && PySem.W.nsOkIn K cd.ns && ba K cd.ns "__init__" == some (some (.ref f))
  |_=>false)
 |_=>false
theorem uP {K:aa}{h:Heap}{N:Addr}{mg:Str->Option Value}{n:Str}{v:Value}(X:K.In h)(G:h.Ns N mg)(e:ba K N n=some (some v)):mg n=some v:=by
 obtain⟨o,es,ep,ho,hd,_,hf⟩:=G
 unfold ba at e
 split at e
 ·rename_i c d es' n' sl q
  have:=X _ _ q
  rw[ho] at this
  cases this
  cases hd
  split at e
  ·rename_i en he
   cases e
   rw[<- hf]
   unfold nsFind findBy
   rw[<- Array.find?_toList,he]
   rfl
  ·split at e <;> cases e
 ·cases e
theorem kM {K:aa}{h:Heap}{C R f:Addr}(X:K.In h)(q:aCT K C R f=true) :
  ∃N nm qn bs sn sub ab col dd k0 k1 k2 k3 k5 mN,h.get? C=some (jt nm qn C N bs (.ref R :: yS) true sn sub ab col dd k0 k1 k2 k3 k5 "ValueError.__new__")/\h.Ns N mN/\mN "__init__" = some (.ref f)/\OwnTail h yS (.ref R :: yS):=by
 unfold aCT at q
 split at q
 ·rename_i dd cd sl ho
  split at q
  ·rename_i k0 k1 k2 k3 n k5 hs
   simp only[cg,beq_iff_eq,ky] at q
   obtain⟨⟨⟨⟨⟨⟨hm,rfl⟩,hdel⟩,hdic⟩,ht⟩,hok⟩,hni⟩:=q
   obtain⟨nm,bs,mro,ns,qn,hd,sn,sub,ab,col,del⟩:=cd
   dsimp only at hm hdel hdic hok hni
   subst hm hdel hdic
   have hsl:sl=#[k0,k1,k2,k3,some (.builtin "ValueError.__new__"),k5]:=by
    obtain⟨l⟩:=sl
    simp only at hs
    rw[hs]
   subst hsl
   have G:=Heap.Ns.of_isNs (PySem.W.isNs_of_in X hok)
   exact⟨ns,nm,qn,bs,sn,sub,ab,col,dd,k0,k1,k2,k3,k5,_,X _ _ ho,G,uP X G hni,PySem.W.tail_of_in X ht⟩
  ·cases q
 ·cases q
def exN (e C:Addr):HO := .ext λh=>∃t,h.get? e=some (newE C t)
def exD (e C dx:Addr):HO := .ext λh=>∃t,h.get? e=some { newE C t with dict:=some dx }
theorem aAs {P:Program}{w:World}{H:Hp}{h:Heap}{e C t:Addr}(x:h.get? e=some (newE C t)):ObjOk P w H h e (exN e C):=⟨⟨t,x⟩,⟨_,x⟩,λ_ _ ⟨t,e⟩ k=>⟨t,k _ e⟩⟩
theorem aCL {P:Program}{w:World}{H:Hp}{h:Heap}{e C t dx:Addr}(x:h.get? e=some { newE C t with dict:=some dx }):ObjOk P w H h e (exD e C dx):=⟨⟨t,x⟩,⟨_,x⟩,λ_ _ ⟨t,e⟩ k=>⟨t,k _ e⟩⟩
theorem yF {H:Hp}{a:Addr}{o:HO}(h:H a=some o):upd H a o=H:=by
 funext b;unfold upd;split
 ·rename_i z;rw[z,h]
 ·rfl
def aDl (i k:Nat) (C:Addr):TE:=λσ H Q=>∃e n,σ[i]?=some (some (.ref e))/\σ[k]?=some (some (.int n))/\n.natAbs<1000000/\H e=some (exN e C)/\Q .non H
section
variable {X:Cx}{K:aa}{C R f:Addr}{i k:Nat}{sf at' rn m:Str}{j:Nat}{p1 p2 p3 p4 p5 p6 p7 p8:Pos}
theorem qL {n:Int}(h:n.natAbs<1000000):n.natAbs.log2<1920:=by
 have:n.natAbs<2 ^ 1920:=cf h (bc (show 1000000<=2 ^ 20 by decide) (sd (by decide) (show 20<=1920 by decide)))
 rcases nz n.natAbs with z | z
 ·rw[z];decide
 ·exact(vn (ju z)).mpr this
theorem aBO (hi:PE X (.Name at' p5) (aH k))(hm:m.length<=1000):PE X (.JoinedStr [.Constant (.str m) j p4, .FormattedValue (.Name at' p5) (-1) none p6] p7) (λσ H Q=>∃n,σ[k]?=some (some (.int n))/\n.natAbs<1000000/\∀t,Q (.str t) H):=by
 intro pins s σ H Q I ⟨n,hn,hl,q⟩
 refine wpAny_JoinedStr ?_
 show wpAny _ _ (eval (.Constant (.str m) j p4) X.env) _ _ _
 refine Calls.Constant_str ?_
 have z0:(Str.empty++m).length<=1000:=by rw[strLen_append];exact bc (by rw[show Str.empty.length=0 from rfl];omega) hm
 refine⟨m,_,rfl,bc z0 (by decide),?_⟩
 show wpAny _ _ (eval (.FormattedValue (.Name at' p5) (-1) none p6) X.env) _ _ _
 refine wpAny_FormattedValue_plain ?_
 refine di (hi pins _ σ H (λv H'=>v = .int n/\H'=H) (I.tok _) ⟨_,hn,rfl,rfl⟩) (λv s1 ⟨x,H1,I1,r1,e1,e2⟩=>?_) λ_ _ e=>e
 subst e1 e2
 obtain⟨t,rfl⟩:=r1
 refine wpAny_formatField_int (qL hl) ?_
 have z1:(ig (me n)).length<=2000:=by
  rw[PySem.ofString_length]
  exact bc (int_text_length_le (k:=1920) (by decide) (qL hl)) (by decide)
 have z2:(Str.empty++m++ig (me n)).length<=cb:=by
  rw[strLen_append]
  refine bc (Nat.add_le_add z0 z1) (by decide)
 refine⟨_,_,rfl,z2,z2,?_⟩
 exact⟨.str _,H1,I1.tok _,⟨_,rfl⟩,q _⟩
structure sE (K:aa)(C R f:Addr):Prop where
 cls:aCT K C R f=true
 rd:PySem.W.readsIn K R (.type "type")=true
 fc:PySem.W.findCls K (.ref R) (.type "type") "__init__" = some (.val (.builtin "ValueError.__init__"))
 rg:PySem.W.specialIn K (.ref R) "__getattribute__" = some (some (.builtin "type.__getattribute__"))
 sa:gm K (.ref C) "__setattr__" = some (some (.builtin "object.__setattr__"))
 na:gm K (.ref C) "at" = some none
 fn:PySem.W.isFn K (.ref f)=true
theorem aBy (hK:X.K=K)(Y:sE K C R f)(hg:Gl X rn)(hm:X.mg rn=some (.ref R))(hs:PE X (.Name sf p3) (aH i))(ha:PE X (.Name at' p5) (aH k))(hml:m.length<=1000){pl:Sem Bool}
  (ht:eval (.Call (.Attribute (.Name rn p1) "__init__" p2) [.Name sf p3, .JoinedStr [.Constant (.str m) j p4, .FormattedValue (.Name at' p5) (-1) none p6] p7] [] p8) X.env=(do
   let ov <- eval (.Name rn p1) X.env
   ui p2.atName
   let(f,first) <- sq [ov] (getMethod ov "__init__" pl)
   callWith p8 f first (jg p8 (cx [.Name sf p3, .JoinedStr [.Constant (.str m) j p4, .FormattedValue (.Name at' p5) (-1) none p6] p7] X.env)) (backToKw p8 (vg [] X.env))):=by rfl)
  (hdb:(rn == ("__debug__" : Str))=false:=by decide) :
  PE X (.Call (.Attribute (.Name rn p1) "__init__" p2) [.Name sf p3, .JoinedStr [.Constant (.str m) j p4, .FormattedValue (.Name at' p5) (-1) none p6] p7] [] p8) (aDl i k C):=by
 subst hK
 intro pins s σ H Q I ⟨e,n,hs1,hn,hl,he,q⟩
 refine PySem.W.methodCall_KW (pl:=pl) (iX I hg hm ?_ hdb) ht
 refine PySem.W.method_cls I.kIn Y.rg (PySem.W.cls_value I.kIn Y.rd Y.fc rfl ?_)
 have I0:=I.tok (s.toks+1)
 refine j9 rfl (lq ?_)
 refine di ((cD hs (cD (aBO (m:=m) (j:=j) (p4:=p4) (p6:=p6) (p7:=p7) ha hml) aD)) p8 pins _ σ H (λvs H'=>∃t,vs=[.ref e, .str t]/\H'=H) I0 ⟨_,hs1,n,hn,hl,λt=>⟨t,rfl,rfl⟩⟩) (λus s1 ⟨vs,H1,I1,r1,t,e1,e2⟩=>?_) λ_ _ e=>e
 subst e1 e2
 obtain⟨u1,u2,rfl,rx,rt⟩:=r1.two
 obtain rfl:u1=Value.ref e:=rx
 obtain⟨tk,rfl⟩:∃tk,u2=Value.str t tk:=rt
 obtain⟨N,nm,qn,bs,sn,sub,ab,col,dd,k0,k1,k2,k3,k5,mN,hC,hN,hni,TL⟩:=kM I1.kIn Y.cls
 obtain⟨t0,hget⟩:=(I1.hok e _ he).1
 obtain⟨hp,g,d,tk1,os⟩:=s1
 refine km (iy lx.init.plain lx.initEntry (wpAny_check_init_subT lx TL hC hget rfl ?_))
 wp_walk
 refine⟨.non,H1,?_,rfl,q⟩
 have I2:=I1.kept (h':=hp.push { cls := .type "tuple",data := .seq #[.str t tk] }) (t':=tk1) λb u z=>ak _ z
 have I3:=I2.write (x:=e) (e:=e) (o:=exN e C) (t':=tk1) (h':=(hp.push { cls := .type "tuple",data := .seq #[.str t tk] }).update e (ud λx=>x.setIfInBounds 0 (.ref hp.objs.size))) (by rw[he];exact True.intro) (.inl rfl) (λb u hb z=>(fh _ _ hb.symm).trans z) ⟨_,fe _ (ak _ hget) rfl⟩ (aAs (t:=hp.objs.size) (fe _ (ak _ hget) rfl))
 rw[yF he] at I3
 exact I3
end
section
variable {prog:Program}{w:World}{A:Around}{E:Value->Shared->Prop}{h:Heap}{g:Array GenState}{d:Drawn}{t:Nat}{os:OsState}
variable {nm q:Str}{C R N x t0:Addr}{bs:List Value}{sn:List Str}{sub:List Value}{ab:Bool}{col:Option Bool}{dd:Option Addr}{k0 k1 k2 k3 k5:Option Value}{newId:String}{v:Value}{K:aa}
theorem zG {Q:Unit->Shared->Prop}(X:K.In h)(hsa:gm K (.ref C) "__setattr__" = some (some (.builtin "object.__setattr__")))(hna:gm K (.ref C) "at" = some none)
  (hC:h.get? C=some (jt nm q C N bs (.ref R :: yS) true sn sub ab col dd k0 k1 k2 k3 k5 newId)) (hx0:h.get? x=some (newE C t0))
  (hq:∀h' tk',h'.get? x=some { newE C t0 with dict:=some h.objs.size }->h'.Ns1 h.objs.size (λy=>if y="at" then some v else none)->(∀b o,b≠x->h.get? b=some o->h'.get? b=some o)->Q () ⟨h',g,d,tk',os⟩) :
  wpAny (model prog w) A (setAttr (.ref x) "at" v) Q E ⟨h,g,d,t,os⟩:=by
 obtain⟨o,hx,hc,hdn,hnc,hoo⟩:∃o,h.get? x=some o/\o.cls = .ref C/\o.dict=none/\(∀c,o.data ≠ .cls c)/\(∀z,({ cls:=o.cls,dict:=some z,data:=o.data,slots:=o.slots }:Obj)={ newE C t0 with dict:=some z }):=⟨_,hx0,rfl,rfl,λc z=>(by cases z),λz=>rfl⟩
 have SF:=F.store_ValueError
 have f3:=SF.slot.bind (.ref x)
 have Lsa:ik (model prog w) h (uk (.ref C) "__setattr__") _:=fz X hsa
 have Lna:ik (model prog w) h (uk (.ref C) "at") _:=fz X hna
 have hcB:(Value.ref C :: .ref R :: yS).contains (.type "object")=true:=by rw[n3,n3,SF.hasOwner,rk,rk]
 have ha:=SF.args (.ref x) (.str "at" t) v
 have hpass:=SF.passes (.ref x)
 unfold setAttr callSpecial? specialOf
 repeat (any_goals (first | assumption | (with_reducible refine gi hx ?_;rw[hc]) | with_reducible refine Lsa.at ?_ | wp_step))
 refine iy SF.slot.plain SF.entry ?_
 have chk:∀{B:Around}{P:Unit->Shared->Prop}{E':Value->Shared->Prop}{tk:Nat},P () ⟨h,g,d,tk,os⟩->wpAny (model prog w) B (ll "object.__setattr__" ⟨[.ref x, .str "at" t,v],[]⟩) P E' ⟨h,g,d,tk,os⟩:=by
  intro B P E' tk hP
  simp only[ll,SF.kind,SF.split]
  refine ae ?_
  unfold ur
  repeat (first | (with_reducible refine gi hx ?_;rw[hc]) | (with_reducible refine mx hC ?_;rw[hcB]) | wp_step)
  exact hP
 refine chk ?_
 unfold Builtin.«object.__setattr__»
 repeat (first | rw[refuse_eq] | (rw[refuseLoop_ref,refuseLoop_ref,hpass]) | (with_reducible refine gi hx ?_;rw[hc]) | with_reducible refine wpAny_mroOf_exc hC ?_ | with_reducible refine Lna.at ?_ | wp_step)
 rw[hdn,if_neg (by simp[typeHasDict])]
 split
 ·rename_i hcd
  cases hcd
 split
 ·rename_i c hcd
  exact absurd hcd (hnc c)
 have hx₁:(h.push { cls := .type "dict",data := .dict #[] }).get? x=some o:=ak _ hx
 have hxs:x≠h.objs.size:=de (bj hx)
 refine ae (wpAny_alloc' ?_)
 refine ae (wpAny_update' hx₁ ?_)
 refine ay ?_
 have hgd:((h.push { cls := .type "dict",data := .dict #[] }).update x λo=>{ cls:=o.cls,dict:=some h.objs.size,data:=o.data,slots:=o.slots }).get? h.objs.size
   = some { cls := .type "dict",data := .dict #[] }:=
  (tq _ _ _ _ hxs.symm).trans (o7 rfl rfl)
 have hnd:((h.push { cls := .type "dict",data := .dict #[] }).update x λo=>{ cls:=o.cls,dict:=some h.objs.size,data:=o.data,slots:=o.slots }).Ns h.objs.size (λ_=>none):=
  ⟨_,#[],_,hgd,rfl,λe he=>absurd he (by simp),λ_=>rfl⟩
 show wpAny _ _ (storeInDict h.objs.size (.str "at" t) "at" v) _ _ _
 unfold storeInDict newKeyGuard
 refine ae (ay (ae (wpAny_nsSet1 (Heap.Ns1.of_empty hnd) λh' hn' hs=>?_)))
 obtain⟨oD,esD,epD,hoD,hdD,hcD⟩:=hn'.count (Within.cons "at" v Within.nil)
 refine ae (wpAny_lookBehind hoD (by rw[hdD];exact pastItsLine_dict (bc hcD (by rw[cz,List.length_nil,dy];omega))) ?_)
 wp_walk
 refine hq h' _ ?_ hn' λb ob hbx hb=>(hs.2 b (de (bj hb))).trans ((tq _ _ _ _ hbx).trans (ak _ hb))
 refine((hs.2 x hxs).trans (fe _ hx₁ ?_)).trans (congrArg some (hoo _))
 have hfr:=(Heap.get?_some_iff.mp hx).2
 obtain⟨oc,od,odt,osl⟩:=o
 cases odt <;> first | rfl | exact hfr
end
def sAt (i k:Nat) (C:Addr):TS:=λD σ H=>∃e v,σ[i]?=some (some (.ref e))/\σ[k]?=some (some v)/\H e=some (exN e C)/\∀dx,H dx=none->dx≠e->D.nx σ (upd (upd H dx (.xd [("at",v)])) e (exD e C dx))
structure aEw (K:aa)(C:Addr):Prop where
 na:gm K (.ref C) "at" = some none
 hd:PySem.W.hasDictIn K C=true
def ExcAt (H:Hp) (a C:Addr):Prop:=∃φ,H a=some (.ext φ)/\∀h,φ h->XAt h a C
def aEg (K:aa):List V->Hp->VK->Prop:=λvs H Q=>∃a C c b,vs=[.ref a,c]/\ExcAt H a C/\aAt K C/\aEA K H C c b/\Q (.bl b) H
structure aDx (P:Program)(w:World)(K:aa)(mg:Str->Option Value)(base:Heap)(f:Addr)(k:Nat)(sp:Sp):Prop where
 ex:∃fd,FnOk P w K mg base CX0 k f fd ["self","at"] sp/\Binds K fd ["self","at"] []
section
variable {X:Cx}{K:aa}{C R f:Addr}{i k:Nat}{x:Str}{np pos pos' apos:Pos}{a e o value:Expr}{es:List Expr}{ta:TA}{te:TE}{sp:Sp}
theorem aDC (hK:X.K=K)(Y:sE K C R f)(hs:PE X o (aH i))(hv:PE X value (aH k))(hsw:qt value (some (.Attribute o "at" pos')) pos.line X.env=pure false:=by rfl):PS X (.Assign [.Attribute o "at" pos'] value pos) (sAt i k C):=by
 subst hK
 intro pins s σ H D I ⟨e,v,hs1,hv1,he,q⟩
 refine plainObj_wpAny_Assign_Attribute (thn (hv pins s σ H (λy H'=>y=v/\H'=H) I ⟨_,hv1,rfl,rfl⟩) λu s1 ⟨y,H1,I1,ry,e1,e2⟩=>thn (hs pins s1 σ H1 (λy H'=>y = .ref e/\H'=H1) I1 ⟨_,hs1,rfl,rfl⟩) λov s2 ⟨x,H2,I2,rx,e3,e4⟩=>?_) hsw
 have e1':=e1.symm;have e2':=e2.symm;have e4':=e4.symm
 subst e1';subst e3;subst e4';subst e2'
 obtain rfl:ov=Value.ref e:=rx
 obtain⟨N,nm,qn,bs,sn,sub,ab,col,dd,k0,k1,k2,k3,k5,mN,hC,hN,hni,TL⟩:=kM I2.kIn Y.cls
 obtain⟨t0,hget⟩:=(I2.hok e _ he).1
 obtain⟨hp,g,d,tk1,os⟩:=s2
 refine zG I2.kIn Y.sa Y.na hC hget λh' tk' w1 w2 w3=>?_
 have lt:e<hp.objs.size:=bj hget
 have hfr:H hp.objs.size=none:=I2.hok.fresh (av _)
 have ne:e≠hp.objs.size:=de lt
 refine⟨σ,_,?_,q hp.objs.size hfr ne.symm⟩
 have hd:(upd H hp.objs.size (.xd [("at",v)])) e=some (exN e C):=by rw[aM ne];exact he
 refine I2.un (h':=h') (t':=tk') ?_ ?_
 ·refine⟨λb u z n _ _=>w3 b u (λy=>by subst y;rw[he] at n;cases n) z,λb u z n _ _=>⟨u.slots,w3 b u (λy=>by subst y;rw[he] at n;cases n) z⟩,λb u z n _=>?_,λb u z _=>?_,λb xs z=>?_,λb u v z=>?_,λb ps z=>⟨#[],?_⟩⟩
  ·rw[aM (λy=>by subst y;rw[he] at n;cases n),aM (de (bj z))];exact n
  ·by_cases y:b=e
   ·subst y;exact⟨_,w1⟩
   ·exact⟨u,w3 b u y z⟩
  ·rw[aM (λy=>by subst y;rw[he] at z;cases z),aM (aQ z hfr)];exact z
  ·rw[aM (λy=>by subst y;rw[he] at z;cases z),aM (aQ z hfr)];exact z
  ·rw[aM (λy=>by subst y;rw[he] at z;cases z),aM (aQ z hfr),z];simp
 ·intro b u z
  by_cases y:b=e
  ·subst y;rw[aE] at z;cases z;exact aCL w1
  ·rw[aM y] at z
   by_cases y2:b=hp.objs.size
   ·subst y2;rw[aE] at z;cases z
    refine⟨_,w2,λf=>?_⟩
    show aDI (List.lookup f [("at",v)]) (if f="at" then some u else none)
    by_cases y3:f="at"
    ·subst y3;rw[if_pos rfl];exact ry
    ·rw[if_neg y3,d7,show(f == ("at" : Str))=false from beq_eq_false_iff_ne.mpr y3];exact True.intro
   ·rw[aM y2] at z
    refine(I2.hok b u z).stay (λc v hc r=>w3 c v ?_ r) (λc r=>?_) λc xs r=>?_
    ·rintro rfl
     rcases hc with hc | hc
     ·exact y hc.symm
     ·rw[he] at hc;cases hc
    ·rw[aM (λy=>by subst y;rw[he] at r;cases r),aM (aQ r hfr)];exact r
    ·rw[aM (λy=>by subst y;rw[he] at r;cases r),aM (aQ r hfr)];exact r
theorem aAe (hK:X.K=K):CallR X (.builtin "isinstance") (aEg K):=by
 subst hK
 intro pins s σ H xs us Q I r ⟨a,C,c,b,e,⟨φ,ha,hx⟩,Y,hc,q⟩
 subst e
 obtain⟨u,v,rfl,rx,rc⟩:=r.two
 obtain rfl:u=Value.ref a:=rx
 have fin:∀t:Nat,EP X pins σ Q (.bool b) { s with toks:=t }:=λt=>⟨.bl b,H,I.tok t,rfl,q⟩
 have xa:XAt s.heap a C:=hx _ (I.hok a _ ha).1
 rcases hc with⟨n,rfl,k⟩ | ⟨D,rfl,k⟩ | ⟨tp,Ds,rfl,ht,k⟩
 ·obtain rfl:v=Value.type n:=rc
  exact mr (nZ Y) I.kIn xa k (by intro z;cases z) fin
 ·obtain rfl:v=Value.ref D:=rc
  exact mr (nZ Y) I.kIn xa k (by intro z;cases z) fin
 ·obtain rfl:v=Value.ref tp:=rc
  obtain⟨_,its,rv,o,e1,e2,⟨m,e3⟩,_⟩:=I.hok tp _ ht
  obtain⟨oc,od,dt,sl⟩:=o
  dsimp only at e2 e3
  subst e2 e3
  obtain rfl:=mG rv
  exact PySem.W.kia_tup (nZ Y) I.kIn xa e1 k (by intro z;cases z) fin
end
end L2
namespace L2
open PySem PySem.W PySem.Spec PyProof.Rows
section
variable {prog:Program}{w:World}{A:Around}{E:Value->Shared->Prop}{s:Shared}{a:Addr}{es:Array (Int×Value)}{ep mask mv:Nat}{pl:List Nat}
end
end L2
namespace L2
open PySem PySem.Spec PySem.W PyProof.Rows
section
variable {prog:Program}{w:World}{A:Around}{E:Value->Shared->Prop}{s:Shared}{a:Addr}{es:Array (Int×Value)}
end
section
variable {prog:Program}{w:World}{A:Around}{R:qu->Shared->Prop}{I:Addr}{fp wr:List Addr}{G:Array GenState->Array GenState->Prop}{n:Nat}{P:Nat->Value->Prop}{St:Nat->Shared->Prop}
end
section
variable {prog:Program}{w:World}{A:Around}{E:Value->Shared->Prop}{s:Shared}
end
section
variable {prog:Program}{w:World}{A:Around}{E:Value->Shared->Prop}{s:Shared}{a:Addr}
end
section
variable {X:Cx}
end
end L2
namespace L2
open PySem PySem.Spec PyProof.Rows
def Kd (h h':Heap):Prop:=∀b o,h.get? b=some o->∃u,h'.get? b=some u/\u.dict=o.dict
theorem Kd.rfl {h:Heap}:Kd h h:=λ_ o e=>⟨o,e,Eq.refl _⟩
theorem Kd.trans {h i j:Heap}(x:Kd h i)(y:Kd i j):Kd h j:=λb o e=>
 let⟨u,e1,d1⟩:=x b o e;let⟨v,e2,d2⟩:=y b u e1;⟨v,e2,d2.trans d1⟩
def Sd {α:Type} (t:Sem α):Prop:=∀(M:Model) (Γ:PySem.Ctx) (Q:α->Pos->Shared->Prop) (E:Value->Pos->Shared->Prop) (p:Pos) (s:Shared),Sem.wp M Γ t Q E p s ->
 Sem.wp M Γ t (λa q u=>Q a q u/\Kd s.heap u.heap) (λe q u=>E e q u/\Kd s.heap u.heap) p s
section
variable {α β:Type}
theorem Sd.one {a:α}:Sd (pure a:Sem α):=λ_ _ _ _ _ _ h=>⟨h,Kd.rfl⟩
theorem Sd.no {w:String}:Sd (unsupported w:Sem α):=λ_ _ _ _ _ _ h=>h
theorem Sd.seq {m:Sem α}{f:α->Sem β}(hm:Sd m)(hf:∀a,Sd (f a)):Sd (m >>= f):=λM Γ Q E p s h=>by
 rw[Sem.wp_bind'] at h ⊢
 refine Sem.wp_mono M Γ m (λa q u z=>?_) (λe q u z=>z) p s (hm M Γ _ _ p s h)
 exact Sem.wp_mono M Γ (f a) (λb r v y=>⟨y.1,z.2.trans y.2⟩) (λe r v y=>⟨y.1,z.2.trans y.2⟩) q u (hf a M Γ _ _ q u z.1)
theorem Sd.ld {a:Addr}:Sd (load a):=λ_ _ _ _ _ _ ⟨o,e,h⟩=>⟨o,e,h,Kd.rfl⟩
theorem Sd.st:Sd stack:=λ_ _ _ _ _ _ h=>⟨h,Kd.rfl⟩
theorem Sd.al {o:Obj}:Sd (alloc o):=λ_ _ _ _ _ _ h=>⟨h,λb u e=>⟨u,ak _ e,Eq.refl _⟩⟩
theorem Sd.up {a:Addr}{f:Obj->Obj}(hf:∀o:Obj,o.isFreed=false->(f o).isFreed=false/\(f o).dict=o.dict):Sd (update a f):=λ_ _ _ _ _ s ⟨e,h⟩=>⟨e,h,λb u g=>by
 by_cases z:b=a
 ·subst z
  have w:=hf u (Heap.get?_some_iff.mp g).2
  exact⟨f u,fe _ g w.1,w.2⟩
 ·exact⟨u,(fh _ _ (ke z)).trans g,Eq.refl _⟩⟩
theorem xK (g:Array Value->Array Value)(o:Obj)(z:o.isFreed=false):(ud g o).isFreed=false/\(ud g o).dict=o.dict:=by
 obtain⟨c,d,t,sl⟩:=o
 cases t <;> exact⟨z,Eq.refl _⟩
theorem Sd.fields {v:Value}:Sd (fieldsOf v):=by
 unfold fieldsOf
 split
 ·refine Sd.seq Sd.ld λo=>?_
  split <;> first | exact Sd.one | exact Sd.no
 ·exact Sd.no
theorem Sd.field {v:Value}{i:Nat}:Sd (field v i):=by
 unfold PySem.field
 refine Sd.seq Sd.fields λo=>?_
 split <;> first | exact Sd.one | exact Sd.no
theorem Sd.put {v:Value}{i:Nat}{x:Value}:Sd (u6 v i x):=by
 unfold u6
 split
 ·unfold updateField
  refine Sd.seq Sd.ld λo=>?_
  split
  ·split
   ·exact Sd.up λo z=>xK _ o z
   ·exact Sd.no
  ·exact Sd.no
 ·exact Sd.no
theorem Sd.ready:∀l:List Env,Sd (readyFrames l)
 |[]=>Sd.one
 |env :: outer=>by
  unfold readyFrames
  split
  ·refine Sd.seq Sd.ld λo=>?_
   split
   ·exact Sd.one
   ·refine Sd.seq (m:=behindIsImport env outer) ?_ λim=>Sd.seq (m:=keptBack env im outer) ?_ λbk=>Sd.seq (Sd.up λo z=>⟨(by obtain⟨c,d,t,sl⟩:=o;cases t <;> exact z),Eq.refl _⟩) λ_=>Sd.ready outer
    ·unfold behindIsImport
     split
     ·exact Sd.one
     ·split
      ·exact Sd.one
      ·exact Sd.seq Sd.field λ_=>Sd.one
    ·unfold keptBack
     split
     ·split
      ·exact Sd.one
      ·refine Sd.seq ?_ λ_=>Sd.one
       unfold underTheClaimsCaller
       exact Sd.seq Sd.st λ_=>Sd.one
     ·exact Sd.one
  ·exact Sd.no
theorem Sd.frame {env:Env}:Sd (ue env):=by
 unfold ue frameEnvs
 refine Sd.seq (Sd.seq Sd.st λ_=>Sd.one) λl=>Sd.seq ?_ λr=>?_
 ·unfold frameObject
  split
  ·exact Sd.one
  ·exact Sd.seq (Sd.ready _) λ_=>Sd.one
 ·split <;> first | exact Sd.one | exact Sd.no
theorem Sd.place {f:Addr}{b:Bool}:Sd (u4 f b):=by
 unfold u4
 refine Sd.seq Sd.st λ_=>?_
 split <;> exact Sd.one
theorem Sd.entry {a b c d e:Value}{l:List Value}:Sd (my a b c d e l):=by
 unfold my newFields
 generalize (List.toArray _)=x
 have last:∀x:Data,Sd (newObjAsIs (.type "traceback") x):=λx=>by
  unfold newObjAsIs
  exact Sd.seq Sd.al λ_=>Sd.one
 unfold newObj
 dsimp only
 split
 ·exact Sd.seq Sd.no λ_=>last _
 ·exact last _
theorem Sd.flight {v:Value}{f:Option Addr}:Sd (vt v f):=by
 unfold vt
 refine Sd.seq Sd.field λ_=>?_
 split
 ·exact Sd.put
 ·exact Sd.one
theorem Sd.note {v:Value}{env:Env}:Sd (t7 v env):=by
 unfold t7
 split
 ·refine Sd.seq Sd.field λhd=>?_
  have last:Sd (do u6 v 1 (<- my hd (<- ue env) .none (rawInt ‹Addr›) .none (<- u4 ‹Addr› (hd != .none)))):=
   Sd.seq Sd.frame λ_=>Sd.seq Sd.place λ_=>Sd.seq Sd.entry λ_=>Sd.put
  split
  ·refine Sd.seq Sd.field λx=>?_
   split
   ·exact Sd.one
   ·exact Sd.seq Sd.put λ_=>last
  ·exact last
 ·exact Sd.no
theorem Sd.leave {v:Value}{env:Env}:Sd (leaving env v):=Sd.seq Sd.note λ_=>Sd.flight
theorem Sd.any {M:Model}{A:Around}{t:Sem α}{Q:α->Shared->Prop}{E:Value->Shared->Prop}{s:Shared}(T:Sd t)(h:wpAny M A t Q E s) :
  wpAny M A t (λa u=>Q a u/\Kd s.heap u.heap) (λe u=>E e u/\Kd s.heap u.heap) s:=λΓ p hΓ=>T M Γ _ _ p s (h Γ p hΓ)
end
def exE (e C dx:Addr):HO := .ext λh=>∃o vs,h.get? e=some o/\o.cls = .ref C/\o.dict=some dx/\o.data = .fields vs
theorem aCy {P:Program}{w:World}{H:Hp}{h:Heap}{e C dx:Addr}{o:Obj}{vs:Array Value}(x:h.get? e=some o)(c:o.cls = .ref C)(d:o.dict=some dx)(f:o.data = .fields vs):ObjOk P w H h e (exE e C dx):=
 ⟨⟨o,vs,x,c,d,f⟩,⟨o,x⟩,λ_ _ ⟨o,vs,e,r⟩ k=>⟨o,vs,k _ e,r⟩⟩
theorem ExcAt.e {H:Hp}{a C dx:Addr}(h:H a=some (exE a C dx)):ExcAt H a C:=⟨_,h,λ_ ⟨o,_,z,c,_⟩=>⟨o,z,c⟩⟩
def hmE (e:Addr) (H:Hp):Hp:=λb=>if b=e then none else H b
theorem wW {e b:Addr}{H:Hp}(n:b≠e):hmE e H b=H b:=if_neg n
theorem rJ {e b:Addr}{H:Hp}{o:HO}{φ:Heap->Prop}(he:H e=some (.ext φ))(q:H b=some o)(n:∀ψ,o ≠ .ext ψ):hmE e H b=some o:=by
 rw[wW (λz=>by subst z;rw[he] at q;cases q;exact n _ rfl)];exact q
section
variable {X:Cx}{pins:List (Addr×Obj)}{σ:St}{H:Hp}{s:Shared}{e:Addr}{φ ψ:Heap->Prop}
theorem Inv.hmE (I:Inv X pins σ H s)(he:H e=some (.ext φ)):Inv X pins σ (hmE e H) s:=by
 have nn:∀b,H b=none->L2.hmE e H b=none:=λb q=>by unfold L2.hmE;split;rfl;exact q
 refine⟨I.ok,I.os,I.bare,⟨I.base.keep,I.base.slot,λb o e1 n x=>nn b (I.base.free b o e1 n x),I.base.there,λb xs q=>rJ he (I.base.tups b xs q) (λ_ z=>by cases z),λb o u q=>rJ he (I.base.frzs b o u q) (λ_ z=>by cases z),λb ps q=>?_⟩,
  I.loc,I.cell,nn _ I.free,λx c q=>nn _ (I.freeC x c q),λp hp=>let⟨a,b,c⟩:=I.pin p hp;⟨a,nn _ b,c⟩,λb u q=>?_,I.len⟩
 ·obtain⟨more,z⟩:=I.base.tbls b ps q
  exact⟨more,rJ he z (λ_ z=>by cases z)⟩
 ·have q':H b=some u:=by
   unfold L2.hmE at q
   split at q
   ·cases q
   ·exact q
  exact(I.hok b u q').stay (λc v _ r=>r) (λc r=>rJ he r (λ_ z=>by cases z)) λc xs r=>rJ he r (λ_ z=>by cases z)
theorem qO {b:Addr}{o:HO}{z:HO}(he:H e=some (.ext φ))(q:H b=some o)(n:∀χ,o ≠ .ext χ):upd H e z b=some o:=by
 rw[aM (λz=>by subst z;rw[he] at q;cases q;exact n _ rfl)];exact q
theorem Inv.known (I:Inv X pins σ H s)(he:H e=some (.ext φ))(new:ObjOk X.prog X.w (upd H e (.ext ψ)) s.heap e (.ext ψ)):Inv X pins σ (upd H e (.ext ψ)) s:=by
 have nn:∀b,H b=none->upd H e (.ext ψ) b=none:=λb q=>by rw[aM (λz=>by subst z;rw[he] at q;cases q)];exact q
 refine⟨I.ok,I.os,I.bare,⟨I.base.keep,I.base.slot,λb o e1 n x=>nn b (I.base.free b o e1 n x),I.base.there,λb xs q=>qO he (I.base.tups b xs q) (λ_ z=>by cases z),λb o u q=>qO he (I.base.frzs b o u q) (λ_ z=>by cases z),λb ps q=>?_⟩,
  I.loc,I.cell,nn _ I.free,λx c q=>nn _ (I.freeC x c q),λp hp=>let⟨a,b,c⟩:=I.pin p hp;⟨a,nn _ b,c⟩,λb u q=>?_,I.len⟩
 ·obtain⟨more,z⟩:=I.base.tbls b ps q
  exact⟨more,qO he z (λ_ z=>by cases z)⟩
 ·by_cases z:b=e
  ·subst z;rw[aE] at q;cases q;exact new
  ·rw[aM z] at q
   exact(I.hok b u q).stay (λc v _ r=>r) (λc r=>qO he r (λ_ z=>by cases z)) λc xs r=>qO he r (λ_ z=>by cases z)
end
def gG (P:Program) (w:World):CXT:=λouter H s E e s'=>∃(a:Addr) (d:Option Addr) (oe:Obj),e = .ref a/\s'.heap.get? a=some oe/\oe.dict=d/\aDM P w outer H s (λcls _ H'=>E cls d H') e s'
section
variable {P:Program}{w:World}{K:aa}{mg:Str->Option Value}{base:Heap}{N:List Str}{qual:Str}{scope:Scope}{f:Addr}{cd:Value}{A:Around}{outer:List Env}{s₀:Shared}{H₀:Hp}{E:XK}
theorem uL {pins:List (Addr×Obj)}{σ:St}{H:Hp}{s:Shared}{e C dx:Addr}(I:Inv (rR (gG P w) P w K mg base N qual scope f cd A outer s₀ H₀ E) pins σ H s)(he:H e=some (exD e C dx))(hn:s₀.heap.get? e=none)
  (hE:E (.ref C) (some dx) (hmE e H)):(rR (gG P w) P w K mg base N qual scope f cd A outer s₀ H₀ E).xe (.ref e) s:=by
 obtain⟨t,ht⟩:=(I.hok e _ he).1
 have nf:e∉frs (rR (gG P w) P w K mg base N qual scope f cd A outer s₀ H₀ E).stack:=λz=>by rw[I.stkFree e z] at he;cases he
 have hin:∀env∈(rR (gG P w) P w K mg base N qual scope f cd A outer s₀ H₀ E).stack,∀b,env.frame=some b->b∈e :: frs (rR (gG P w) P w K mg base N qual scope f cd A outer s₀ H₀ E).stack:=λenv he b hb=>aw _ (ni.mpr ⟨env,he,hb⟩)
 have h1:wpAny (model P w) (A.deeper (qw qual scope s₀.heap.objs.size f cd)) (leaving (qw qual scope s₀.heap.objs.size f cd) (.ref e)) (λ_ u=>aDM P w outer H₀ s₀ (λcls _ H'=>E cls (some dx) H') (.ref e) u) (λ_ _=>False) s:=by
  refine wpAny_leaving_firstW (base:=PySem.W.hideAll s.heap (e :: frs (rR (gG P w) P w K mg base N qual scope f cd A outer s₀ H₀ E).stack)) (a0 := .ref t) I.ok.frames (PySem.W.funFrames_hide I.stack hin) rfl ht (λb o q=>PySem.W.of_hideAll _ q) (lp _ (.head _)) rfl rfl rfl λh2 hL=>?_
  obtain⟨k1,⟨_,_,k2⟩,k3,k4⟩:=hL
  refine zQ (X:=rR (gG P w) P w K mg base N qual scope f cd A outer s₀ H₀ E) (H:=hmE e H) (s:={ s with heap:=s.heap }) rfl (I.hmE he) ⟨k1,lp _ (.head _),k2,k3⟩ k4 (λb o q n hc=>so _ q λz=>?_) hE
  rcases dc.mp z with rfl | z
  ·rcases hc with hc | ⟨o',hc⟩
   ·exact hc (if_pos rfl)
   ·rw[show(rR (gG P w) P w K mg base N qual scope f cd A outer s₀ H₀ E).s₀.heap.get? b=none from hn] at hc;cases hc
  ·exact n z
 show wpAny _ _ _ _ _ _
 refine di (Sd.leave.any h1) (λ_ u ⟨z,k⟩=>?_) λ_ _ z=>z.1.elim
 obtain⟨v,e1,e2⟩:=k e _ ht
 exact⟨e,some dx,v,rfl,e1,e2,z⟩
end
theorem vK {K:aa}{C R f:Addr}(q:aCT K C R f=true):∃o,K.lookup C=some o:=by
 unfold aCT at q
 split at q
 ·exact⟨_,‹_›⟩
 ·cases q
section
variable {X:Cx}{K:aa}{C R f:Addr}{x:Str}{np pos cpos apos:Pos}{k:Nat}{a e:Expr}{es:List Expr}{ta:TA}{te:TE}{sp:Sp}{E:XK}
def wF (X:Cx) (E:XK):Prop:=∀(pins:List (Addr×Obj)) (σ:St) (H:Hp) (s:Shared) (e C dx:Addr),Inv X pins σ H s->H e=some (exD e C dx)->X.s₀.heap.get? e=none->E (.ref C) (some dx) (hmE e H)->X.xe (.ref e) s
theorem yZ {pins:List (Addr×Obj)}{σ:St}{H:Hp}{s:Shared}{Q:Addr->Hp->Prop}(I:Inv X pins σ H s)(hg:Gl X x)(hm:X.mg x=some (.ref C))(Y:sE X.K C R f)(D:aDx X.prog X.w X.K X.mg X.base f k sp)(hr:Room (k+1) X.A)(ha:PA X (a :: es) ta)
  (h:ta σ H λvs H1=>vs.length<=100/\∀e,H1 e=none->sp (.ref e :: vs) (upd H1 e (exN e C)) (λv H2=>v = .non/\Q e H2) E0)
  (hdb:(x == ("__debug__" : Str))=false:=by decide) (he:cx (a :: es) X.env=(false,eval a X.env) :: cx es X.env:=by rfl) (hpl:(jg pos (cx es X.env)).any (·.1)=false:=by rfl) :
  wpAny (model X.prog X.w) X.A (eval (.Call (.Name x np) (a :: es) [] pos) X.env) (λu s'=>∃e H',u = .ref e/\Inv X pins σ H' s'/\X.s₀.heap.get? e=none/\Q e H') X.xe s:=by
 obtain⟨fd,F,hb⟩:=D.ex
 refine Call_ (iX I hg hm ?_ hdb)
 refine pS (di (ha pos pins s σ H _ I h) (λus s1 ⟨vs,H1,I1,r1,hl,q1⟩=>?_) λ_ _ e=>e) he hpl
 obtain⟨N,nm,qn,bs,sn,sub,ab,col,dd,k0,k1,k2,k3,k5,mN,hC,hN,hni,TL⟩:=kM I1.kIn Y.cls
 refine⟨⟨_,_,_,_,_,_,_,_,_,_,_,_,_,_,_,_,_,hC⟩,?_⟩
 obtain⟨oF,kF,cF⟩:∃o,s1.heap.get? f=some o/\o.cls = .type "function":=by
  have z:=beq_iff_eq.mp Y.fn
  obtain⟨o,ho,hc⟩:=g7.mp z
  exact⟨o,I1.kIn _ _ ho,hc⟩
 have old:X.s₀.heap.objs.size<=s1.heap.objs.size:=by
  obtain⟨m,⟨oL,_,_,hoL,_⟩,_⟩:=id I1.loc
  exact nh (ff I1.ok.above (bj hoL))
 obtain⟨hp,g,d,tk,os⟩:=s1
 have eE:((hp.push (zK us)).push (newE C hp.objs.size)).get? (hp.objs.size+1)=some (newE C hp.objs.size):=o7 (by simp only[gk]) rfl
 have hfr:H1 (hp.objs.size+1)=none:=I1.hok.fresh (Nat.le_succ _)
 have I2:=(I1.kept (h':=hp.push (zK us)) (t':=tk) λb u z=>ak _ z).laid (a:=hp.objs.size+1) (o:=exN (hp.objs.size+1) C) (t':=tk) (h':=(hp.push (zK us)).push (newE C hp.objs.size)) (λb u z=>ak _ z) (nj (gk _ _)) (aAs eE)
 have q2:=q1 _ hfr
 have r2:Vals (V.ref (hp.objs.size+1) :: vs) (Value.ref (hp.objs.size+1) :: us) := .cons rfl r1
 have hl2:(Value.ref (hp.objs.size+1) :: us++[]).length=(["self","at"]:List Str).length:=by
  have e:=r2.length
  rw[F.len _ _ _ _ q2] at e
  rw[jc];exact e.symm
 refine wC jh TL hC hN hni kF cF (by rw[<- r1.length];exact bc hl (by decide)) ?_
 refine km (jd (F.run _ X.stack _ _ ⟨Value.ref (hp.objs.size+1) :: us,[]⟩ (Value.ref (hp.objs.size+1) :: us) _ _ E0 (hr.make C us []) (I2.env0.make C us []) (by have:=hb _ (Value.ref (hp.objs.size+1) :: us) I2.kIn hl2;rwa[jc] at this) r2 q2) λr s' hq'=>?_)
 cases r with
 |error e=>exact aCP pins σ _ _ e s' I2 hq'
 |ok fl=>
  cases fl with
  |ret u=>
   obtain⟨v,H',I3,rv,ev,q3⟩:=I2.after hq'
   subst ev
   exact⟨rv,⟨_,H',rfl,I3,rz (Nat.le_succ_of_le old),q3⟩⟩
  |next=>exact fg hq'
  |brk=>exact fg hq'
  |cont=>exact fg hq'
theorem rM {M:Model}{A:Around}{E:Value->Shared->Prop}{env:Env}{s:Shared}{y:Sem Value}{Q:Flow->Shared->Prop}{C N:Addr}{nm qn:Str}{bs bm:List Value}{hdct:Bool}{sn:List Str}{sub:List Value}{ab:Bool}{col:Option Bool}{dd:Option Addr}{k0 k1 k2 k3 k5:Option Value}{newId:String}
  (hbase:bm.contains (.type "BaseException")=true) (hh:A.handled=none)
  (h:wpAny M A y (λv u=>∃e t dx,v = .ref e/\u.heap.get? C=some (jt nm qn C N bs bm hdct sn sub ab col dd k0 k1 k2 k3 k5 newId)/\u.heap.get? e=some { newE C t with dict:=some dx }/\E (.ref e) u) E s) :
  wpAny M A (raiseStmt env (some y) none) Q E s:=by
 have hB:(Value.ref C :: bm).contains (.type "BaseException")=true:=by rw[n3,hbase,rk]
 unfold raiseStmt
 refine ae (di h (λv u hv=>?_) λ_ _ z=>z)
 obtain⟨e,t,dx,rfl,hC,he,hE⟩:=hv
 obtain⟨hp,g,d,tk,os⟩:=u
 repeat (first | with_reducible refine gi he ?_ | with_reducible refine gi hC ?_ | (with_reducible refine mx hC ?_;rw[hB]) | wp_step)
 exact wpAny_raiseNew_none hh hE
def sT (C:Addr) (sp:Sp) (ta:TA) (E:XK):TS:=λ_ σ H=>ta σ H λvs H1=>vs.length<=100/\∀e,H1 e=none->sp (.ref e :: vs) (upd H1 e (exN e C)) (λv H2=>v = .non/\∃dx,H2 e=some (exD e C dx)/\E (.ref C) (some dx) (hmE e H2)) E0
theorem pY (hK:X.K=K)(T:wF X E)(hc:X.calm=true)(hg:Gl X x)(hm:X.mg x=some (.ref C))(Y:sE K C R f)(D:aDx X.prog X.w X.K X.mg X.base f k sp)(hr:Room (k+1) X.A)(ha:PA X (a :: es) ta)
  (hdb:(x == ("__debug__" : Str))=false:=by decide) (he:cx (a :: es) X.env=(false,eval a X.env) :: cx es X.env:=by rfl) (hpl:(jg cpos (cx es X.env)).any (·.1)=false:=by rfl) :
  PS X (.Raise (some (.Call (.Name x np) (a :: es) [] cpos)) none pos) (sT C sp ta E):=by
 subst hK
 intro pins s σ H Dn I h
 rw[arm_exec_Raise]
 have main:=yZ (pos:=cpos) (np:=np) I hg hm Y D hr ha h hdb he hpl
 obtain⟨N,nm,qn,bs,sn,sub,ab,col,dd,k0,k1,k2,k3,k5,mN,hC,hN,hni,TL⟩:=kM I.kIn Y.cls
 have fin:wpAny (model X.prog X.w) X.A (eval (.Call (.Name x np) (a :: es) [] cpos) X.env) (λv u=>∃e t dx,v = .ref e/\u.heap.get? C=some (jt nm qn C N bs (.ref R :: yS) true sn sub ab col dd k0 k1 k2 k3 k5 "ValueError.__new__")/\u.heap.get? e=some { newE C t with dict:=some dx }/\X.xe (.ref e) u) X.xe s:=by
  refine di main (λu s1 ⟨e,H',eu,I',hn,dx,hx,hE⟩=>?_) λ_ _ z=>z
  obtain⟨t,ht⟩:=(I'.hok e _ hx).1
  refine⟨e,_,_,eu,?_,ht,T pins σ H' s1 e C dx I' hx hn hE⟩
  obtain⟨o,ho⟩:=vK Y.cls
  have e1:=I.kIn _ _ ho
  rw[hC] at e1
  cases e1
  exact I'.kIn _ _ ho
 first
  |exact ae (ic (rM (TL.hasType jh.hasBase) (I.ok.hd hc) (ae (di fin (λv u z=>ae (ic (ay z))) λ_ _ z=>z))))
  | (simp only[evalOpt,Option.map];exact ae (ic (rM (TL.hasType jh.hasBase) (I.ok.hd hc) (ae (di fin (λv u z=>ae (ic (ay z))) λ_ _ z=>z)))))
end
section
variable {X:Cx}{K:aa}{x n:Str}{np pos hpos:Pos}{C0:Addr}{ie ln:Nat}{tb:XK->TS}{th:TS}{body suite:List Stmt}{b₀:Stmt}
theorem xP {H:Hp}{a:Addr}{x y:HO}:upd (upd H a x) a y=upd H a y:=by
 funext b
 unfold upd
 split <;> rfl
end
structure DefE (P:Program)(w:World)(K:aa)(mg:Str->Option Value)(base:Heap)(x:Str)(k:Nat)(ps:List Str)(sp:Sp):Prop where
 ex:∃(f:Addr) (fd:FuncData),FnOk P w K mg base (gG P w) k f fd ps sp/\mg x=some (.ref f)/\cw K (.ref f)=true/\Binds K fd ps []
theorem DefE.mono {P:Program}{w:World}{K:aa}{mg:Str->Option Value}{base:Heap}{x:Str}{j k:Nat}{ps:List Str}{sp:Sp}(D:DefE P w K mg base x j ps sp)(h:j<=k):DefE P w K mg base x k ps sp:=by
 obtain⟨f,fd,F,r⟩:=D.ex
 exact⟨f,fd,F.mono h,r⟩
section
variable {P:Program}{w:World}{K:aa}{mg:Str->Option Value}{base:Heap}
theorem Fun.okE {x qual:Str}{st:Stmt}{f:Addr}{fd:FuncData}{N ps:List Str}{k:Nat}{sp:Sp}(F:Fun K x qual st f fd)(S:bO N ps (aO st))(len:∀vs H Q E,sp vs H Q E->vs.length=ps.length)
  (hbody:∀(cdv:Value) (A:Around) (outer:List Env) (s:Shared) (H:Hp) (vs:List V) (Q:VK) (E:XK),Room k (A.deeper (qw qual (aO st) s.heap.objs.size f cdv))->sp vs H Q E ->
   ∃t,PSs (rR (gG P w) P w K mg base N qual (aO st) f cdv A outer s H E) (bJ st) t/\t { nx:=λ_ H'=>Q .non H',rt:=Q } (bN N vs) H):FnOk P w K mg base (gG P w) (k+1) f fd ps sp:=by
 obtain⟨oc,od,kV,doc,pm,an,cdv,ct,osl,rfl,lk,hcd⟩:=F.ex
 exact aBS lk hcd S len λA outer s H vs Q E hr hsp=>hbody cdv A outer s H vs Q E hr hsp
theorem mC {N:List Str}{qual:Str}{scope:Scope}{f:Addr}{cd:Value}{A:Around}{outer:List Env}{s₀:Shared}{H₀:Hp}{E:XK}:wF (rR (gG P w) P w K mg base N qual scope f cd A outer s₀ H₀ E) E:=
 λ_ _ _ _ _ _ _ I he hn hE=>uL I he hn hE
end
theorem yJ {prog:Program}{w:World}{A:Around}{E:Value->Shared->Prop}{s:Shared}{K:aa}{x C dx:Addr}{o:Obj}{fs:Array Value}{mA:Str->Option Value}{v:Value}{ex:Bool}{Q:Value->Shared->Prop}
  (X:K.In s.heap) (Y:aAt K C) (hna:gm K (.ref C) "at" = some none) (hd:PySem.W.hasDictIn K C=true) (hx:s.heap.get? x=some o) (hc:o.cls = .ref C) (ho:o.dict=some dx) (hf:o.data = .fields fs) (hn:s.heap.Ns1 dx mA) (hv:mA "at" = some v)
  (hh:PySem.W.handedIn v=true) (h:Q v { s with toks:=s.toks+1 }):wpAny (model prog w) A (getAttr (.ref x) "at" ex) Q E s:=by
 obtain⟨hp,g,d,t,os⟩:=s
 obtain⟨od,es,ep,e1,e2,e3,eu,e4⟩:=hn
 have hl:PySem.W.lookIn "at" od=some (some v):=by
  unfold PySem.W.lookIn
  rw[e2]
  dsimp only
  have q:=(e4 "at").trans hv
  unfold nsFind findBy at q
  rw[<- Array.find?_toList] at q
  cases z:es.toList.find? (·.key.isStr "at") with
  |none=>rw[z] at q;cases q
  |some en=>rw[z] at q;show some (some en.val)=_;rw[show en.val=v from dv q]
 have IA:PySem.W.InstAt hp x o C (some od):=⟨hx,hc,by unfold PySem.W.notCls;rw[hf],by rw[ho];exact e1⟩
 have I:XAt hp x C:=⟨_,hx,hc⟩
 have L0:=I.type (M:=model prog w)
 have L1:=fz (M:=model prog w) X Y.ga
 have L2:=fz (M:=model prog w) X Y.gn
 have L3:=PySem.W.looks_find (M:=model prog w) X IA (PySem.W.findObj_own hd hna rfl hl)
 have hx2:(Value.builtin "BaseException.__getattribute__" == Value.builtin "object.__getattribute__")=false:=by decide+kernel
 have hx1:(uc (Value.ref C) && Value.builtin "BaseException.__getattribute__" == Value.builtin "object.__getattribute__")=false:=by rw[hx2];rfl
 unfold getAttr getAttrBy
 refine ae (wpAny_mkText (e8 (ae (L0.at (ae (L1.at ?_))))))
 dsimp only
 rw[hx1,if_neg bq]
 unfold getAttrByItsOwn hookBefore
 rw[if_pos (show uc (Value.ref C)=true from rfl)]
 refine ae (L2.at (ae (md (e8 ?_))))
 unfold callGetattribute
 rw[show(ex && uc (Value.builtin "BaseException.__getattribute__"))=false from gv _,if_neg bq]
 unfold boundAndCalled
 rw[kx.ga.bind]
 refine ae (ay ?_)
 refine km (iy kx.ga.plain F.entry_bexc_ga (tZ X I Y ?_))
 unfold Builtin.«object.__getattribute__»
 refine ae (ay (ae (ay (ae (L0.at (ae (L3.at ?_)))))))
 refine ay ?_
 exact PySem.W.handed_on hh h
def aDW (K:aa) (ta:TE):TE:=λσ H Q=>ta σ H λx H1=>∃a C dx n,x = .ref a/\H1 a=some (exE a C dx)/\H1 dx=some (.xd [("at", .int n)])/\aAt K C/\aEw K C/\Q (.int n) H1
def aDV (K:aa):List V->Hp->VK->Prop:=λvs H Q=>aEg K vs H Q\/aEu K vs H Q
section
variable {X:Cx}{K:aa}{e:Expr}{te:TE}{apos:Pos}
theorem aCe (hK:X.K=K)(he:PE X e te)(hb:j0 e "at" X.env (eval e X.env)=eval e X.env:=by rfl):PE X (.Attribute e "at" apos) (aDW K te):=by
 subst hK
 intro pins s σ H Q I h
 refine aAJ hb (thn (he pins s σ H _ I h) λu s1 ⟨x,H1,I1,rx,a,C,dx,n,ex,ea,ed,Y,YA,q⟩=>?_)
 subst ex
 obtain rfl:u=Value.ref a:=rx
 obtain⟨o,fs,hget,hc,ho,hf⟩:=(I1.hok a _ ea).1
 obtain⟨mA,hn,r⟩:=I1.hok dx _ ed
 have z:=r "at"
 cases hv:mA "at" with
 |none=>rw[hv] at z;exact z.elim
 |some v=>
  rw[hv] at z
  obtain⟨tk,rfl⟩:∃tk,v=Value.int n tk:=z
  exact yJ I1.kIn Y YA.na YA.hd hget hc ho hf hn hv rfl ⟨.int n,H1,I1.tok _,⟨_,rfl⟩,q⟩
theorem tV (hK:X.K=K):CallR X (.builtin "isinstance") (aDV K):=by
 subst hK
 exact CallR.or (aAe rfl) zD
end
def Its (x:Str):It:=⟨λi _=>i<x.cps.size,λi H y H'=>H'=H/\∃c,x.cps[i]?=some c/\y = .str ⟨#[c]⟩,λi _=>x.cps.size<=i⟩
theorem qH {P:Program}{w:World}{K:aa}{tg:Expr}{it:Addr}{ty:String}{x:Str}{t:Tok}(hty:["enumerate","zip","dict_itemiterator","dict_reverseitemiterator","odict_iterator","itertools.zip_longest","itertools.pairwise"].contains ty=false)
  (W:∀A:Around,A.handled=none->Walks P w A it [it] [it] x.cps.size (SignAt x) (λi h=>h.IsStrIter it ty x t i)) (sf:∀(A:Around) (i:Nat) (s:Shared) (Q:Value->Shared->Prop) (E:Value->Shared->Prop),s.heap.IsStrIter it ty x t i->Q (.ref it) s->wpAny (model P w) A (vd (.ref it)) Q E s) :
  aAr P w K tg (Its x) [it] it (λi h=>i<=x.cps.size/\h.IsStrIter it ty x t i) where
 mem:=by simp
 obj:=λi h ⟨_,st⟩ b hb=>by
  have e:b=it:=by simpa using hb
  subst e
  obtain⟨o,e,c,d⟩:=st
  exact⟨o,e,λv z=>by rw[d] at z;cases z⟩
 keep:=λi h h' ⟨l,o,e,r⟩ k=>⟨l,o,k it (by simp) o e,r⟩
 item:=by
  intro X hP hw hK hc i pins s σ H E I hf ⟨hl,st⟩ hg
  subst hP hw hK
  have hi:i<x.cps.size:=hg
  obtain⟨f0,f1,f2,f3,f4,f5⟩:=hf it (by simp)
  refine(W X.A (I.ok.hd hc)).item i s _ E hi st λv h' tk ⟨c,u,hcp,ev⟩ st' kp=>?_
  subst ev
  have I1:Inv X pins σ H { s with heap:=h',toks:=tk }:=I.turned (t':=tk) (λb o hb e=>kp b o (λz=>hb (by simpa using z)) e) f0 f1 f3 f4 f5
  obtain⟨o,e,cl,d⟩:=id st'
  exact⟨_,rfl,yH (s:={ s with heap:=h',toks:=tk }) e cl d hty ⟨.str ⟨#[c]⟩,H,I1,⟨_,rfl⟩,⟨rfl,c,hcp,rfl⟩,⟨hi,st'⟩,λb hb=>(hf b hb).1⟩⟩
 done:=by
  intro X hP hw hK hc i pins s σ H E I hf ⟨hl,st⟩ hg
  subst hP hw hK
  have hi:x.cps.size<=i:=hg
  obtain rfl:i=x.cps.size:=by omega
  obtain⟨f0,f1,f2,f3,f4,f5⟩:=hf it (by simp)
  exact(W X.A (I.ok.hd hc)).done s _ E st λh' tk kp=>⟨rfl,I.turned (t':=tk) (λb o hb e=>kp b o (λz=>hb (by simpa using z)) e) f0 f1 f3 f4 f5⟩
 self:=λA i s Q E ⟨_,st⟩ h=>sf A i s Q E st h
def aBa (tl:TE):TI:=λσ H R=>tl σ H λx H1=>∃z,x = .str z/\R (Its z) H1
section
variable {X:Cx}{tg:Expr}
theorem aBD {l:Expr}{tl:TE}(hl:PE X l tl):PI X tg l (aBa tl):=by
 intro pins s σ H R I h
 refine thn (hl pins s σ H _ I h) λv s1 ⟨x,H1,I1,r1,z,ez,q⟩=>?_
 subst ez
 obtain⟨t,rfl⟩:=r1
 have fin:∀b∈[s1.heap.objs.size],rT X pins H1 b:=λb hb=>by
  have e:b=s1.heap.objs.size:=by simpa using hb
  subst e
  exact I1.fpOk (av _) (I1.hok.fresh (av _))
 cases ha:z.cps.all (· < 128)
 ·refine wpAny_pyIter_wide ha ?_
  exact⟨s1.heap.objs.size,[s1.heap.objs.size],_,_,H1,rfl,I1.kept (t':=s1.toks) λb o e=>ak _ e,qH (t:=t) (by decide) (λA' hA=>Walks.strWide hA _ z t) (λ_ _ _ _ _ st h=>wpAny_pyIter_striter_wide st h),⟨aj _,_,ck _ rfl,rfl,rfl⟩,fin,q⟩
 ·refine wpAny_pyIter_ascii ha ?_
  exact⟨s1.heap.objs.size,[s1.heap.objs.size],_,_,H1,rfl,I1.kept (t':=s1.toks) λb o e=>ak _ e,qH (t:=t) (by decide) (λA' hA=>Walks.strAscii hA _ z t) (λ_ _ _ _ _ st h=>wpAny_pyIter_striter_ascii st h),⟨aj _,_,ck _ rfl,rfl,rfl⟩,fin,q⟩
def aBX (neg:Bool):R2:=λx y H Q=>∃i j,x = .str i/\y = .str j/\Q (.bl (if neg then !(!(dw j i 0 j.length 1).isEmpty) else !(dw j i 0 j.length 1).isEmpty)) H
theorem pV:OpR X (gf .NotIn) (aBX true):=by
 intro pins s σ H x y v u Q I rx ry h
 obtain⟨i,j,rfl,rfl,q⟩:=h
 obtain⟨t,rfl⟩:=rx
 obtain⟨t',rfl⟩:=ry
 exact notIn_str (qE I q rfl)
def aDX:V->Option Int->Option Int->Hp->VK->Prop:=λx lo hi H Q=>∃z:Str,x = .str z/\lo=none/\hi=some 1/\z.length=2/\∀t:Str,t.length<=2->Q (.str t) H
theorem aDg:SlR X aDX:=by
 intro pins s σ H x v vl vu lo hi sl Q I rx hs pl pu h
 obtain⟨z,rfl,rfl,rfl,hz,q⟩:=h
 obtain⟨t,rfl⟩:=rx
 cases pl
 cases pu with
 |int _ tk=>
  refine⟨"str",_,slot_str_getitem.lookup,oq s z t,?_⟩
  refine wpAny_getItem_str_slice (l:=none) (u:=some (1,tk)) (st:=none) hs (by decide) ?_
  have ez:PySem.slicePicked z none (some (1,tk)) none=[0]:=by
   unfold PySem.slicePicked
   rw[hz]
   rfl
  unfold PySem.sliceMade
  rw[ez,hz]
  refine⟨?_,?_⟩
  ·exact bc (o8 _ _) (by decide)
  ·exact⟨.str _,H,I.tok _,⟨_,rfl⟩,q _ (bc (o8 _ _) (by decide))⟩
def aCA:R2:=λx y H Q=>∃(z:Str) (n:Nat),x = .str z/\y = .int (n:Int)/\z.length<=100/\n<=1000/\∀t:Str,t.length<=z.length*n->Q (.str t) H
theorem tI (a:Array Nat):∀(n:Nat) (b:Array Nat),((dz n a).foldl (· ++ ·) b).size=b.size+a.size*n
 |0,b=>by simp
 |n+1,b=>by rw[g5,List.foldl_cons,tI a n,Array.size_append,Nat.mul_succ];omega
theorem aAV:OpR X (iw .Mult) aCA:=by
 intro pins s σ H x y v u Q I rx ry h
 obtain⟨z,n,rfl,rfl,hz,hn,q⟩:=h
 obtain⟨t,rfl⟩:=rx
 obtain⟨t',rfl⟩:=ry
 have hb:z.length*n<=100000:=Nat.mul_le_mul hz hn
 refine P.mul_str (by rw[decide_eq_false (by omega),decide_eq_false (by omega)];rfl) (λh1 _ h2=>?_) (λ_ _=>?_) ?_
 ·have h3:(2:Int) ^ 53<=(2 ^ 63 - 1) / (n:Int):=(Int.le_ediv_iff_mul_le (by omega)).mpr (by omega)
  omega
 ·unfold tw
  rw[decide_eq_false (by rw[gy,dy];omega)]
 ·by_cases h1:(n:Int)<1
  ·rw[if_pos h1]
   exact⟨by decide,⟨.str _,H,I.tok _,⟨_,rfl⟩,q _ (aj _)⟩⟩
  ·rw[if_neg h1]
   by_cases h2:((n:Int) == 1 || z.length == 0)=true
   ·rw[if_pos h2]
    refine⟨.str _,H,I,⟨_,rfl⟩,q _ ?_⟩
    exact qb _ (by omega)
   ·rw[if_neg h2]
    have e:(⟨(dz ((n:Int)).toNat z.cps).foldl (· ++ ·) #[]⟩:Str).length=z.length*n:=by
     show((dz ((n:Int)).toNat z.cps).foldl (· ++ ·) #[]).size=_
     rw[tI,gy]
     show 0+z.cps.size*n=z.cps.size*n
     omega
    exact⟨by rw[e,dy];omega,⟨.str _,H,I.tok _,⟨_,rfl⟩,q _ (nj e)⟩⟩
end
section
variable {X:Cx}{x y:Str}{k i:Nat}{ps:List Str}{sp:Sp}{p p' pos pos':Pos}{e:Expr}{es:List Expr}{t:TA}{E:XK}
theorem vW {pins:List (Addr×Obj)}{s:Shared}{σ:St}{H:Hp}{Q:VK}(D:DefE X.prog X.w X.K X.mg X.base x k ps sp)(hr:Room k X.A)(hg:Gl X x)(ha:PA X (e :: es) t)
  (hx:∀pins' H1 s1 e s',Inv X pins' σ H1 s1->gG X.prog X.w X.stack H1 s1 E e s'->X.xe e s') (I:Inv X pins σ H s) (h:bQ sp [] E t σ H Q)
  (hdb:(x == ("__debug__" : Str))=false) (he:cx (e :: es) X.env=(false,eval e X.env) :: cx es X.env) (hpl:(jg pos (cx es X.env)).any (·.1)=false) :
  wpAny (model X.prog X.w) X.A (eval (.Call (.Name x p) (e :: es) [] pos) X.env) (EP X pins σ Q) X.xe s:=by
 obtain⟨f,fd,F,hm,hk,hb⟩:=D.ex
 refine j1 (iX I hg hm ?_ hdb)
 refine PySem.W.callWith_K (h₀:=X.base) I.ok.mod.kin hk (thn (ha pos pins s σ H _ I h) λus s1 ⟨vs,H1,I1,r,q⟩=>⟨I1.kIn,?_⟩) he hpl
 have r2:Vals (vs++[]) (us++[]):=r.append .nil
 have hl:(us++[]).length=ps.length:=by rw[<- r2.length];exact F.len _ _ _ _ q
 refine km (jd (F.run X.A X.stack s1 H1 ⟨us,[]⟩ (us++[]) (vs++[]) Q E hr I1.env0 (hb s1 us I1.kIn hl) r2 q) λr s' hq=>?_)
 cases r with
 |error e=>exact hx pins H1 s1 e s' I1 hq
 |ok fl=>
  cases fl with
  |ret u=>exact I1.after hq
  |next=>exact fg hq
  |brk=>exact fg hq
  |cont=>exact fg hq
def wU (X:Cx) (body:List Stmt) (tb:XK->TS):Prop:=∀(E:XK) (pins:List (Addr×Obj)) (s:Shared) (σ:St) (H:Hp) (D:lF),(∀pins' H1 s1 e s',Inv X pins' σ H1 s1->gG X.prog X.w X.stack H1 s1 E e s'->X.xe e s')->Inv X pins σ H s->tb E D σ H ->
 wpAny (model X.prog X.w) X.A (execs body X.env) (SP X pins D) X.xe s
theorem tY {st:Stmt}{pins:List (Addr×Obj)}{s:Shared}{D:lF}(h:wpAny (model X.prog X.w) X.A (exec st X.env) (SP X pins D) X.xe s):wpAny (model X.prog X.w) X.A (execs [st] X.env) (SP X pins D) X.xe s:=by
 refine wpAny_execs_cons (thn h λf s1 q=>?_)
 cases f with
 |next=>
  obtain⟨σ',H',I',q⟩:=q
  exact mj ⟨σ',H',I',q⟩
 |ret v=>exact q
 |brk=>exact q
 |cont=>exact q
theorem zR (hN:X.N.Nodup)(hi:X.N[i]?=some y)(hy:Loc X.env.scope y)(D:DefE X.prog X.w X.K X.mg X.base x k ps sp)(hr:Room k X.A)(hg:Gl X x)(ha:PA X (e :: es) t)(hf:X.fn y=true\/X.env.scope.names.lookup y=some .local)
  (hs:qt (.Call (.Name x p) (e :: es) [] pos) (some (.Name y p')) pos'.line X.env=pure false:=by rfl) (hdb:(x == ("__debug__" : Str))=false:=by decide) (he:cx (e :: es) X.env=(false,eval e X.env) :: cx es X.env:=by rfl) (hpl:(jg pos (cx es X.env)).any (·.1)=false:=by rfl) :
  wU X [.Assign [.Name y p'] (.Call (.Name x p) (e :: es) [] pos) pos'] λE=>aZ (cT (bQ sp [] E t) (aX i)) aR:=λE pins s σ H Dn hx I h=>
 tY (wpAny_Assign_Name (thn (vW D hr hg ha hx I h hdb he hpl) λv s1 ⟨z,H1,I1,r1,q1⟩=>iS I1 hN hi hy r1 (λs2 I2=>⟨_,H1,I2,q1⟩) hf) hs)
theorem wL (D:DefE X.prog X.w X.K X.mg X.base x k ps sp)(hr:Room k X.A)(hg:Gl X x)(ha:PA X (e :: es) t)
  (hs:qt (.Call (.Name x p) (e :: es) [] pos) none pos'.line X.env=pure false:=by rfl) (hdb:(x == ("__debug__" : Str))=false:=by decide) (he:cx (e :: es) X.env=(false,eval e X.env) :: cx es X.env:=by rfl) (hpl:(jg pos (cx es X.env)).any (·.1)=false:=by rfl) :
  wU X [.Expr (.Call (.Name x p) (e :: es) [] pos) pos'] λE=>aZ (mP (bQ sp [] E t)) aR:=λE pins s σ H Dn hx I h=>
 tY (wpAny_Expr_any (thn (vW D hr hg ha hx I h hdb he hpl) λv s1 ⟨z,H1,I1,r1,q1⟩=>⟨σ,H1,I1,q1⟩) I.quiet hs)
end
def aBz (K:aa) (C0:Addr) (ie:Nat) (tb:XK->TS) (th:TS):TS:=λD σ H=>
 tb (λcls d H1=>∃C dx,cls = .ref C/\d=some dx/\sj K (.ref C) (.ref C0)=some true/\∀a:Addr,H1 a=none ->
  th { nx:=λσ2 H2=>D.nx (σ2.set ie none) H2,rt:=D.rt,bk:=λσ2 H2=>D.bk (σ2.set ie none) H2,ct:=λσ2 H2=>D.ct (σ2.set ie none) H2 } (σ.set ie (some (.ref a))) (upd H1 a (exE a C dx))) D σ H
section
variable {X:Cx}{K:aa}{x n:Str}{np pos hpos:Pos}{C0:Addr}{ie:Nat}{tb:XK->TS}{th:TS}{body suite:List Stmt}{b₀:Stmt}
theorem wG (hK:X.K=K)(hst:X.stack=X.env :: X.outer)(hfr:X.env.frame=some X.env.locals)(hN:X.N.Nodup)(hi:X.N[ie]?=some n)(hx:X.env.scope.names.lookup n=some .local)
  (hg:Gl X x) (hm:X.mg x=some (.ref C0)) (hb:∀pn W,wU (X.tried pn W) body tb) (hs:∀pn a,PSs (X.suite pn a) (b₀ :: suite) th) (hdb:(x == ("__debug__" : Str))=false:=by decide) :
  PS X (.Try body [.ExceptHandler (some (.Name x np)) (some n) (b₀ :: suite) hpos] [] [] pos) (aBz K C0 ie tb th):=by
 subst hK
 intro pins s σ H D I h
 have hps:=hb (X.pn++pins) (λe s'=>∃pins' H1 s1,Inv (X.tried (X.pn++pins) λ_ _=>False) pins' σ H1 s1/\gG X.prog X.w X.stack H1 s1 _ e s') _ [] s σ H D (λpins' H1 s1 e s' I1 hl=>⟨pins',H1,s1,⟨⟨I1.ok.mod,I1.ok.kind,I1.ok.glob,I1.ok.blt,I1.ok.above,I1.ok.inj,I1.ok.has,I1.ok.cab,I1.ok.hd,I1.ok.frames,I1.ok.stk,I1.ok.exf,I1.ok.bs,I1.ok.bsz,I1.ok.noex,I1.ok.exfs,I1.ok.funs,I1.ok.frf⟩,I1.os,I1.bare,I1.base,I1.loc,I1.cell,I1.free,I1.freeC,I1.pin,I1.hok,I1.len⟩,hl⟩) (I.tried _) h
 refine wpAny_Try_except (di hps (λf s1 q=>?_) λe s1 q=>?_)
 ·cases f with
  |next=>exact mj q.untried
  |brk=>exact q.untried
  |cont=>exact q.untried
  |ret u=>exact q.untried
 ·obtain⟨pins',H1,s0,I1,a,d,oe,he,hoe,hd,a1,cls,a0,H',B,he1,os,bare,un,hok,hfl,cov,C,dx,hc,hdx,hex,hth⟩:=q
  subst he hc hdx
  cases he1
  have hfl0:=hfl
  rw[hst] at hfl
  have hfrm:X.A.frames=some (X.env :: X.outer):=by rw[<- hst];exact I.ok.frames
  have st1:wpAny (model X.prog X.w) X.A (t7 (.ref a) X.env) (λ_ u=>∃h4,u={ s1 with heap:=h4 }/\Heap.HeldW B (X.env :: X.outer) a (.ref C) a0 X.env.locals h4/\s1.heap.UpToSlots h4) (λ_ _=>False) s1:=wpAny_looks_onW hfrm hfr hfl λh4 z1 z2=>⟨h4,rfl,z1,z2⟩
  refine di (Sd.note.any st1) (λ_ u ⟨⟨h4,eu,hheld4,up4⟩,k4⟩=>?_) λ_ _ z=>z.1.elim
  subst eu
  have st2:wpAny (model X.prog X.w) X.A (vt (.ref a) none) (λ_ u=>∃h5,u={ s1 with heap:=h5 }/\nv B (X.env :: X.outer) a (.ref C) a0 h5/\h4.UpToSlots h5) (λ_ _=>False) { s1 with heap:=h4 }:=wpAny_landsW (s:={ s1 with heap:=h4 }) hheld4 λh5 z1 z2=>⟨h5,rfl,z1,z2⟩
  refine di (Sd.flight.any st2) (λ_ u ⟨⟨h5,eu,hfl5,up5⟩,k5⟩=>?_) λ_ _ z=>z.1.elim
  subst eu
  have up5':=up4.trans up5
  have kk5:Kd s1.heap h5:=Kd.trans k4 k5
  obtain⟨hna,J5⟩:=qW (X:=X.tried (X.pn++pins) λ_ _=>False) I1 os bare un hok cov (by rw[hst];exact hfl5) up5' ⟨oe,hoe⟩
  have J5s:=J5.untried.suite a
  refine wpAny_handleBy_cons (codeAny_handlers_test (iX J5s hg hm ?_ hdb)) (by intro z;cases z)
  obtain⟨ob,hob,hobc⟩:=hfl5.there
  have LT:ik (model X.prog X.w) h5 (typeOf (.ref a)) (.ref C):=XAt.type ⟨ob,hob,hobc⟩
  refine(PySem.W.exm_one J5.kIn LT hex).at ?_
  refine codeAny_handlers_suite_as ?_
  have st3:wpAny (model X.prog X.w) (X.A.mark (some (.ref a))) (vt (.ref a) none) (λ_ u=>∃h6,u={ s1 with heap:=h6 }/\nv B (X.env :: X.outer) a (.ref C) a0 h6/\h5.UpToSlots h6) (λ_ _=>False) { s1 with heap:=h5 }:=lands_againW (s:={ s1 with heap:=h5 }) hfl5 λh6 z1 z2=>⟨h6,rfl,z1,z2⟩
  refine di (Sd.flight.any st3) (λ_ u ⟨⟨h6,eu,hfl6,up6⟩,k6⟩=>?_) λ_ _ z=>z.1.elim
  subst eu
  obtain⟨_,J6⟩:=qW (X:=X.tried (X.pn++pins) λ_ _=>False) I1 os bare un hok cov (by rw[hst];exact hfl6) (up5'.trans up6) ⟨oe,hoe⟩
  obtain⟨o6,g6,d6⟩:=kk5.trans k6 a oe hoe
  obtain⟨ob6,v6,hob6,c6,f6,_⟩:=hfl6.first
  rw[g6] at hob6
  cases hob6
  have J6d:=J6.known (ψ:=λh=>∃o vs,h.get? a=some o/\o.cls = .ref C/\o.dict=some dx/\o.data = .fields vs) aE (aCy g6 c6 (d6.trans hd) f6)
  rw[xP] at J6d
  have J6s:=J6d.untried.suite a
  refine iS (X:=X.suite (X.pn++pins) a) (v := .ref a) J6s hN hi (.inl hx) rfl (λs7 J7=>?_) (.inr hx)
  refine di (hs (X.pn++pins) a [] s7 _ _ _ J7 (hth a hna)) (λf s8 q=>?_) λ_ _ z=>fg z
  cases f with
  |next=>
   obtain⟨σ8,H8,J8,q8⟩:=q
   exact hJ (X:=X.suite (X.pn++pins) a) J8 hN hi hx λs9 J9=>⟨_,H8,J9.unsuite I.ok,q8⟩
  |brk=>
   obtain⟨σ8,H8,J8,q8⟩:=q
   exact hJ (X:=X.suite (X.pn++pins) a) J8 hN hi hx λs9 J9=>⟨_,H8,J9.unsuite I.ok,q8⟩
  |cont=>
   obtain⟨σ8,H8,J8,q8⟩:=q
   exact hJ (X:=X.suite (X.pn++pins) a) J8 hN hi hx λs9 J9=>⟨_,H8,J9.unsuite I.ok,q8⟩
  |ret u=>
   obtain⟨v,σ8,H8,J8,r8,q8⟩:=q
   exact hJ (X:=X.suite (X.pn++pins) a) J8 hN hi hx λs9 J9=>⟨v,_,H8,J9.unsuite I.ok,r8,q8⟩
end
end L2
namespace K84
open PySem L2
def top (i:Nat):Stmt:=PySem.Challenge.pw_homeround_k84_no_tables_texts.main.body.getD i (.Pass ⟨0,0,0,0⟩)
section
variable {P:Program}{w:World}{K:aa}{mg:Str->Option Value}{base:Heap}{f:Addr}{fd:FuncData}
def ini:Stmt:=match top 9 with
 | .ClassDef _ _ _ b _ _ _ _ _ _ _=>b.getD 0 (.Pass ⟨0,0,0,0⟩)
 |s=>s
theorem aBw:bO ["self","at"] ["self","at"] (aO ini):=⟨rfl,rfl,rfl,by decide+kernel,rfl,by decide+kernel,by decide+kernel⟩
def aAx (C:Addr):TS:=aZ (mP (aDl 0 1 C)) (aZ (sAt 0 1 C) aR)
theorem aBf {C R fI:Addr}(F:Fun K "__init__" "NoText.__init__" ini f fd)(GR:mg "RoundError" = some (.ref R))(Y:sE K C R fI){sp:Sp}(len:∀vs H Q E,sp vs H Q E->vs.length=2)
  (rd:∀vs H Q E,sp vs H Q E->aAx C { nx:=λ_ H'=>Q .non H',rt:=Q } (bN ["self","at"] vs) H):FnOk P w K mg base CX0 1 f fd ["self","at"] sp:=by
 refine F.ok aBw len (λcdv A outer s H vs Q E hr h=>⟨_,?_,rd vs H Q E h⟩)
 exact aA (gT (aBy (K:=K) rfl Y rfl GR (pv 0) (pv 1) (by decide))) (aA (aDC (K:=K) rfl Y (pv 0) (pv 1)) aF)
theorem lH:bO ["thing"] ["thing"] (aO (top 13)):=⟨rfl,rfl,rfl,by decide+kernel,rfl,by decide+kernel,by decide+kernel⟩
def mX (K:aa) : TS:=(aZ (dL (kY (tCB (aBL K) (aB (aH 0) (aB (tC (.ty "int")) aV))) (aBV (tCB (aBL K) (aB (aH 0) (aB (tC (.ty "bool")) aV)))))) aR)
theorem rY (F:Fun K "is_whole" "is_whole" (top 13) f fd)(B:mU mg) {sp:Sp}(len:∀vs H Q E,sp vs H Q E->vs.length=1)
  (rd:∀vs H Q E,sp vs H Q E->mX K { nx:=λ_ H'=>Q .non H',rt:=Q } (bN ["thing"] vs) H):FnOk P w K mg base CX0 1 f fd ["thing"] sp:=by
 refine F.ok lH len (λcdv A outer s H vs Q E hr h=>⟨_,?_,rd vs H Q E h⟩)
 have nd:=lH.nd
 exact(@aA _ _ _ _ _ (@bF _ _ _ _ (iF (aN (iH (K:=K) rfl) rfl B.isi nC (@aC _ _ _ _ _ _ (pv 0) (@aC _ _ _ _ _ _ (kZ (v := .ty "int") rfl B.int qB rfl) aD))) (iJ (aCX (aN (iH (K:=K) rfl) rfl B.isi nC (@aC _ _ _ _ _ _ (pv 0) (@aC _ _ _ _ _ _ (kZ (v := .ty "bool") rfl B.bool aBF rfl) aD))))))) aF)
theorem iC:bO ["thing"] ["thing"] (aO (top 14)):=⟨rfl,rfl,rfl,by decide+kernel,rfl,by decide+kernel,by decide+kernel⟩
def jW (K:aa) (fD:Sp) : TS:=(aZ (dL (kY (tCB (aBL K) (aB (aH 0) (aB (tC (.ty "tuple")) aV))) (tCB (aDy K) (aB (gF [none] (uS K (aH 0)) (aX 0) [] λacc=>(gE (bQ fD [] E0 (aB (aH 0) aV)) acc)) aV)))) aR)
theorem pM (F:Fun K "are_wholes" "are_wholes" (top 14) f fd)(B:mU mg) {fD:Sp}(jH:Def P w K mg base "is_whole" 1 ["thing"] fD) {sp:Sp}(len:∀vs H Q E,sp vs H Q E->vs.length=1)
  (rd:∀vs H Q E,sp vs H Q E->jW K fD { nx:=λ_ H'=>Q .non H',rt:=Q } (bN ["thing"] vs) H):FnOk P w K mg base CX0 2 f fd ["thing"] sp:=by
 refine F.ok iC len (λcdv A outer s H vs Q E hr h=>⟨_,?_,rd vs H Q E h⟩)
 have nd:=iC.nd
 exact(@aA _ _ _ _ _ (@bF _ _ _ _ (iF (aN (iH (K:=K) rfl) rfl B.isi nC (@aC _ _ _ _ _ _ (pv 0) (@aC _ _ _ _ _ _ (kZ (v := .ty "tuple") rfl B.tuple eB rfl) aD))) (iJ (aN (lR (K:=K) rfl rfl) rfl B.all xY (cD (eZ (N':=["part"]) (ix:=[none]) rfl rfl rfl (fQ (K:=K) rfl (pv 0)) (λ_ _ _=>(bY (i:=0) (show(["part"]:List Str).Nodup from by decide+kernel) rfl (Or.inl rfl))) (λ_ _ _ => .nil) (λ_ _ _ _=>(eL rfl (bL (jH.mono (by decide)) hr rfl (@aC _ _ _ _ _ _ (pv 0) aD)) rfl))) aD))))) aF)
theorem jL:bO ["word","most","number"] ["word","most"] (aO (top 15)):=⟨rfl,rfl,rfl,by decide+kernel,rfl,by decide+kernel,by decide+kernel⟩
def lA (K:aa) : TS:=(aZ (fH (tOr (bG (tOp yGt (tCB qV (aB (aH 0) aV)) (tCB qV (aB (tCB xZ (aB (aH 1) aV)) aV)))) (tOr (yE (tB (aDz K "str" aEd (aH 0)))) (yE (tB (aDz K "str" aDY (aH 0)))))) (aZ (dL (tC .non)) aR) aR) (aZ (cT (tCB rZ (aB (aH 0) aV)) (aX 2)) (aZ (dL (tIf (xE (bG (tOp yLe (aH 2) (aH 1))) (bG (tOp (iV K) (tCB xZ (aB (aH 2) aV)) (aH 0)))) (aH 2) (tC .non))) aR)))
theorem qM (F:Fun K "number_in" "number_in" (top 15) f fd)(B:mU mg) {sp:Sp}(len:∀vs H Q E,sp vs H Q E->vs.length=2)
  (rd:∀vs H Q E,sp vs H Q E->lA K { nx:=λ_ H'=>Q .non H',rt:=Q } (bN ["word","most","number"] vs) H):FnOk P w K mg base CX0 1 f fd ["word","most"] sp:=by
 refine F.ok jL len (λcdv A outer s H vs Q E hr h=>⟨_,?_,rd vs H Q E h⟩)
 have nd:=jL.nd
 exact(@aA _ _ _ _ _ (@cP _ _ _ _ _ _ _ _ (PW.pt (lB (aW nY (aN eU rfl B.len bH (@aC _ _ _ _ _ _ (pv 0) aD)) (aN eU rfl B.len bH (@bS _ _ _ _ _ _ _ _ (bR iN rfl B.str uB (@aC _ _ _ _ _ _ (pv 1) aD)) aD)) (aY _)) (lB (iU (gN (vM (K:=K) rfl cm PySem.F.slot_str_isascii PySem.F.type_str_isascii aDn (pv 0)))) (jN (iU (gN (vM (K:=K) rfl cm PySem.F.slot_str_isdigit PySem.F.type_str_isdigit aCJ (pv 0)))))))) (@aA _ _ _ _ _ (@bF _ _ _ _ nH) aF) aF) (@aA _ _ _ _ _ (@bE _ _ 2 _ _ _ _ nd rfl (Or.inl rfl) (bR iR rfl B.int qB (@aC _ _ _ _ _ _ (pv 0) aD)) (by rfl) (by first | exact .inl rfl | exact .inr rfl | assumption)) (@aA _ _ _ _ _ (@bF _ _ _ _ (kD (PW.pt (rB (aW uN (pv 2) (pv 1) (aY _)) (lL (aW (cC (K:=K) rfl hr) (bR iN rfl B.str uB (@aC _ _ _ _ _ _ (pv 2) aD)) (pv 0) (aY _))))) (pv 2) nH)) aF)))
theorem lQ:bO ["thing"] ["thing"] (aO (top 17)):=⟨rfl,rfl,rfl,by decide+kernel,rfl,by decide+kernel,by decide+kernel⟩
def mY (K:aa) (cX:Sp) : TS:=(aZ (fH (tOr (yE (tB (tCB (aBL K) (aB (aH 0) (aB (tC (.ty "tuple")) aV))))) (yE (bG (aAp yLe yLe (tC (.int 1)) (tCB (eA K) (aB (aH 0) aV)) (tC (.int 8)))))) (aZ (dL (tC (.bl false))) aR) aR) (aZ (dL (tCB (aDy K) (aB (gF [none,none,some 0] (xQ K (aB (aH 0) aV)) (aBJ K 2 (oW (aX 0) (oW (aX 1) aDo))) [] λacc=>(gE (bQ cX [] E0 (aB (aH 1) (aB (aH 0) (aB (tCB (eA K) (aB (aH 2) aV)) aV)))) acc)) aV))) aR))
theorem sS (F:Fun K "is_table" "is_table" (top 17) f fd)(B:mU mg){tk_MOST_PLACES:Tok}(G_MOST_PLACES:mg "MOST_PLACES" = some (.int 8 tk_MOST_PLACES)) {cX:Sp}(eM:Def P w K mg base "is_table_row" 3 ["thing","own","many"] cX) {sp:Sp}(len:∀vs H Q E,sp vs H Q E->vs.length=1)
  (rd:∀vs H Q E,sp vs H Q E->mY K cX { nx:=λ_ H'=>Q .non H',rt:=Q } (bN ["thing"] vs) H):FnOk P w K mg base CX0 4 f fd ["thing"] sp:=by
 refine F.ok lQ len (λcdv A outer s H vs Q E hr h=>⟨_,?_,rd vs H Q E h⟩)
 have nd:=lQ.nd
 exact(@aA _ _ _ _ _ (@cP _ _ _ _ _ _ _ _ (PW.pt (lB (iU (gN (aN (iH (K:=K) rfl) rfl B.isi nC (@aC _ _ _ _ _ _ (pv 0) (@aC _ _ _ _ _ _ (kZ (v := .ty "tuple") rfl B.tuple eB rfl) aD))))) (jN (iU (yU uN uN aJ (aN (aU (K:=K) rfl) rfl B.len bH (@aC _ _ _ _ _ _ (pv 0) aD)) (dD rfl G_MOST_PLACES ⟨_,rfl⟩)))))) (@aA _ _ _ _ _ (@bF _ _ _ _ qS) aF) aF) (@aA _ _ _ _ _ (@bF _ _ _ _ (aN (lR (K:=K) rfl rfl) rfl B.all xY (cD (eZ (N':=["own","row","thing"]) (ix:=[none,none,some 0]) rfl rfl rfl (oT (K:=K) rfl rfl B.enumerate (@aC _ _ _ _ _ _ (pv 0) aD)) (λ_ _ _=>(sJ (K:=K) rfl rfl (fZ (bY (i:=0) (show(["own","row","thing"]:List Str).Nodup from by decide+kernel) rfl (Or.inl rfl)) (fZ (bY (i:=1) (show(["own","row","thing"]:List Str).Nodup from by decide+kernel) rfl (Or.inl rfl)) sD)))) (λ_ _ _ => .nil) (λ_ _ _ _=>(eL rfl (bL (eM.mono (by decide)) hr rfl (@aC _ _ _ _ _ _ (pv 1) (@aC _ _ _ _ _ _ (pv 0) (@bS _ _ _ _ _ _ _ _ (aN (aU (K:=K) rfl) rfl B.len bH (@aC _ _ _ _ _ _ (pv 2) aD)) aD)))) rfl))) aD))) aF))
theorem fL:bO ["thing","own","many"] ["thing","own","many"] (aO (top 18)):=⟨rfl,rfl,rfl,by decide+kernel,rfl,by decide+kernel,by decide+kernel⟩
def gO (K:aa) (dM:Sp) : TS:=(aZ (fH (tOr (yE (tB (bQ dM [] E0 (aB (aH 0) aV)))) (bG (tOp (aAC K) (tCB (eA K) (aB (aH 0) aV)) (aH 2)))) (aZ (dL (tC (.bl false))) aR) aR) (aZ (dL (kY (tOp (iV K) (tOp (eR K) (aH 0) (aH 1)) (tC (.int 0))) (kY (tOp yGe (tCB (aBM K) (aB (aH 0) aV)) (tC (.int 0))) (tOp yLe (tCB (aEh K) (aB (aH 0) aV)) (tC (.int 1000000)))))) aR))
theorem lJ (F:Fun K "is_table_row" "is_table_row" (top 18) f fd)(B:mU mg){tk_LONGEST_WAY:Tok}(G_LONGEST_WAY:mg "LONGEST_WAY" = some (.int 1000000 tk_LONGEST_WAY)) {dM:Sp}(fV:Def P w K mg base "are_wholes" 2 ["thing"] dM) {sp:Sp}(len:∀vs H Q E,sp vs H Q E->vs.length=3)
  (rd:∀vs H Q E,sp vs H Q E->gO K dM { nx:=λ_ H'=>Q .non H',rt:=Q } (bN ["thing","own","many"] vs) H):FnOk P w K mg base CX0 3 f fd ["thing","own","many"] sp:=by
 refine F.ok fL len (λcdv A outer s H vs Q E hr h=>⟨_,?_,rd vs H Q E h⟩)
 have nd:=fL.nd
 exact(@aA _ _ _ _ _ (@cP _ _ _ _ _ _ _ _ (PW.pt (lB (iU (gN (bL (fV.mono (by decide)) hr rfl (@aC _ _ _ _ _ _ (pv 0) aD)))) (jN (aW (tW (K:=K) rfl hr) (aN (aU (K:=K) rfl) rfl B.len bH (@aC _ _ _ _ _ _ (pv 0) aD)) (pv 2) (aY _))))) (@aA _ _ _ _ _ (@bF _ _ _ _ qS) aF) aF) (@aA _ _ _ _ _ (@bF _ _ _ _ (iF (cW (cC (K:=K) rfl hr) (@cJ _ _ _ _ _ _ _ (bT (K:=K) rfl) (pv 0) (pv 1) (λ_ _=>rfl)) aJ (aY _)) (iF (cW aDQ (aN (vD (K:=K) rfl hr rfl) rfl B.min aBQ (@aC _ _ _ _ _ _ (pv 0) aD)) aJ (aY _)) (iJ (cW uN (aN (xV (K:=K) rfl rfl) rfl B.max aCH (@aC _ _ _ _ _ _ (pv 0) aD)) (dD rfl G_LONGEST_WAY ⟨_,rfl⟩) (aY _)))))) aF))
theorem iT:bO ["text","words","rows","at","word","table"] ["text"] (aO (top 21)):=⟨rfl,rfl,rfl,by decide+kernel,rfl,by decide+kernel,by decide+kernel⟩
def jS (K:aa) (C_NoText:Addr) (E:XK) (fE:Sp) (fF:Sp) (spI_NoText:Sp):TS:=(aZ (cT (tBM K "str" kQ (aH 0) (aB (tC (.str " ")) aV)) (aX 1)) (aZ (cT (lO (aB (lO aV) aV)) (aX 2)) (aZ (aAX (xQ K (aB (aH 1) aV)) (aBJ K 2 (oW (aX 3) (oW (aX 4) aDo))) (aZ (fH (yE (tB (bQ fF [] E0 (aB (aH 2) (aB (aH 4) aV))))) (aZ (sT C_NoText spI_NoText (aB (aH 3) aV) E) aR) aR) (aZ (fH (bG (tOp (iV K) (aH 4) (tC (.str "/")))) (aZ (mP (tBM K "list" gU (aH 2) (aB (lO aV) aV))) aR) (aZ (mP (tBM K "list" gU (tOp (eR K) (aH 2) (tUn aBI (tC (.int 1)))) (aB (tCB rZ (aB (aH 4) aV)) aV))) aR)) aR))) (aZ (cT (tCB (fR K) (aB (gF [none] (uS K (aH 2)) (aX 0) [] λacc=>(gE (tCB (fR K) (aB (aH 0) aV)) acc)) aV)) (aX 5)) (aZ (fH (yE (tB (bQ fE [] E0 (aB (aH 5) aV)))) (aZ (sT C_NoText spI_NoText (aB (tCB (eA K) (aB (aH 1) aV)) aV) E) aR) aR) (aZ (dL (aH 5)) aR))))))
theorem oZ (F:Fun K "read_table" "read_table" (top 21) f fd)(B:mU mg){tk_ROW_END:Tok}(G_ROW_END:mg "ROW_END" = some (.str "/" tk_ROW_END)){C_NoText:Addr}(GC_NoText:mg "NoText" = some (.ref C_NoText)) {R_NoText fI_NoText:Addr}{spI_NoText:Sp}(YI_NoText:sE K C_NoText R_NoText fI_NoText)(DI_NoText:aDx P w K mg base fI_NoText 1 spI_NoText){fE:Sp}(jI:Def P w K mg base "is_table" 4 ["thing"] fE){fF:Sp}(jJ:Def P w K mg base "may_come" 2 ["rows","word"] fF) {sp:Sp}(len:∀vs H Q E,sp vs H Q E->vs.length=1)
  (rd:∀vs H Q E,sp vs H Q E->jS K C_NoText E fE fF spI_NoText { nx:=λ_ H'=>Q .non H',rt:=Q } (bN ["text","words","rows","at","word","table"] vs) H):FnOk P w K mg base (gG P w) 5 f fd ["text"] sp:=by
 refine F.okE iT len (λcdv A outer s H vs Q E hr h=>⟨_,?_,rd vs H Q E h⟩)
 have nd:=iT.nd
 exact(@aA _ _ _ _ _ (PS.nox (@bE _ _ 1 _ _ _ _ nd rfl (Or.inl rfl) (cS (K:=K) rfl cm g8 g9 iB (pv 0) (@aG _ _ _ _ _ _ _ aS aD)) (by rfl) (by first | exact .inl rfl | exact .inr rfl | assumption))) (@aA _ _ _ _ _ (PS.nox (@bE _ _ 2 _ _ _ _ nd rfl (Or.inl rfl) (@cR _ _ _ _ (@kP _ _ _ _ _ _ (@cR _ _ _ _ aD) aD)) (by rfl) (by first | exact .inl rfl | exact .inr rfl | assumption))) (@aA _ _ _ _ _ (nG PassesOwn.leaving rfl (oT (K:=K) rfl rfl B.enumerate (@aC _ _ _ _ _ _ (pv 1) aD)) (sJ (K:=K) rfl rfl (fZ (bY (i:=3) nd rfl (Or.inl rfl)) (fZ (bY (i:=4) nd rfl (Or.inl rfl)) sD))) (@aA _ _ _ _ _ (@cP _ _ _ _ _ _ _ _ (PT.nox (iU (gN (bL (jJ.mono (by decide)) hr rfl (@aC _ _ _ _ _ _ (pv 2) (@aC _ _ _ _ _ _ (pv 4) aD)))))) (@aA _ _ _ _ _ (pY (K:=K) rfl mC rfl rfl GC_NoText YI_NoText DI_NoText (hr.mono (by decide)) (@aC _ _ _ _ _ _ (pv 3) aD)) aF) aF) (@aA _ _ _ _ _ (PS.nox (@cP _ _ _ _ _ _ _ _ (aW (cC (K:=K) rfl hr) (pv 4) (dD rfl G_ROW_END ⟨_,rfl⟩) (aY _)) (@aA _ _ _ _ _ (gT (cS (K:=K) rfl fx fq fu dR (pv 2) (@kP _ _ _ _ _ _ (@cR _ _ _ _ aD) aD))) aF) (@aA _ _ _ _ _ (gT (cS (K:=K) rfl fx fq fu dR (@cJ _ _ _ _ _ _ _ (bT (K:=K) rfl) (pv 2) (uI nD aJ) (λ_ _=>rfl)) (@bS _ _ _ _ _ _ _ _ (bR iR rfl B.int qB (@aC _ _ _ _ _ _ (pv 4) aD)) aD))) aF))) aF))) (@aA _ _ _ _ _ (PS.nox (@bE _ _ 5 _ _ _ _ nd rfl (Or.inl rfl) (bR (dE (K:=K) rfl) rfl B.tuple eB (cD (eZ (N':=["row"]) (ix:=[none]) rfl rfl rfl (fQ (K:=K) rfl (pv 2)) (λ_ _ _=>(bY (i:=0) (show(["row"]:List Str).Nodup from by decide+kernel) rfl (Or.inl rfl))) (λ_ _ _ => .nil) (λ_ _ _ _=>(eL rfl (bR (dE (K:=K) rfl) rfl B.tuple eB (@aC _ _ _ _ _ _ (pv 0) aD)) rfl))) aD)) (by rfl) (by first | exact .inl rfl | exact .inr rfl | assumption))) (@aA _ _ _ _ _ (@cP _ _ _ _ _ _ _ _ (PT.nox (iU (gN (bL (jI.mono (by decide)) hr rfl (@aC _ _ _ _ _ _ (pv 5) aD))))) (@aA _ _ _ _ _ (pY (K:=K) rfl mC rfl rfl GC_NoText YI_NoText DI_NoText (hr.mono (by decide)) (@bS _ _ _ _ _ _ _ _ (aN (aU (K:=K) rfl) rfl B.len bH (@aC _ _ _ _ _ _ (pv 1) aD)) aD)) aF) aF) (@aA _ _ _ _ _ (PS.nox (@bF _ _ _ _ (pv 5))) aF))))))
theorem lM:bO ["rows","word","many","own","here","way"] ["rows","word"] (aO (top 22)):=⟨rfl,rfl,rfl,by decide+kernel,rfl,by decide+kernel,by decide+kernel⟩
def nA (K:aa) (eF:Sp) : TS:=(aZ (cT (tIf (bG (tOp (iV K) (tCB (eA K) (aB (aH 0) aV)) (tC (.int 1)))) (tC (.int 8)) (tCB (eA K) (aB (tOp (eR K) (aH 0) (tC (.int 0))) aV))) (aX 2)) (aZ (cT (tOp aCV (tCB (eA K) (aB (aH 0) aV)) (tC (.int 1))) (aX 3)) (aZ (cT (tCB (eA K) (aB (tOp (eR K) (aH 0) (tUn aBI (tC (.int 1)))) aV)) (aX 4)) (aZ (fH (bG (tOp (iV K) (aH 1) (tC (.str "/")))) (aZ (dL (kY (tOp (iV K) (aH 4) (tCB (eA K) (aB (tOp (eR K) (aH 0) (tC (.int 0))) aV))) (tOp yLt (tCB (eA K) (aB (aH 0) aV)) (aH 4)))) aR) aR) (aZ (cT (bQ eF [] E0 (aB (aH 1) (aB (tC (.int 1000000)) aV))) (aX 5)) (aZ (dL (kY (tOp xU (aH 5) (tC .non)) (kY (tOp yLt (aH 4) (aH 2)) (aDE (tOp (aAC K) (aH 4) (aH 3)) (tOp (iV K) (aH 5) (tC (.int 0))))))) aR))))))
theorem sM (F:Fun K "may_come" "may_come" (top 22) f fd)(B:mU mg){tk_LONGEST_WAY:Tok}(G_LONGEST_WAY:mg "LONGEST_WAY" = some (.int 1000000 tk_LONGEST_WAY)){tk_MOST_PLACES:Tok}(G_MOST_PLACES:mg "MOST_PLACES" = some (.int 8 tk_MOST_PLACES)){tk_ROW_END:Tok}(G_ROW_END:mg "ROW_END" = some (.str "/" tk_ROW_END)) {eF:Sp}(gX:Def P w K mg base "number_in" 1 ["word","most"] eF) {sp:Sp}(len:∀vs H Q E,sp vs H Q E->vs.length=2)
  (rd:∀vs H Q E,sp vs H Q E->nA K eF { nx:=λ_ H'=>Q .non H',rt:=Q } (bN ["rows","word","many","own","here","way"] vs) H):FnOk P w K mg base CX0 2 f fd ["rows","word"] sp:=by
 refine F.ok lM len (λcdv A outer s H vs Q E hr h=>⟨_,?_,rd vs H Q E h⟩)
 have nd:=lM.nd
 exact(@aA _ _ _ _ _ (@bE _ _ 2 _ _ _ _ nd rfl (Or.inl rfl) (kD (aW (cC (K:=K) rfl hr) (aN (aU (K:=K) rfl) rfl B.len bH (@aC _ _ _ _ _ _ (pv 0) aD)) aJ (aY _)) (dD rfl G_MOST_PLACES ⟨_,rfl⟩) (aN (aU (K:=K) rfl) rfl B.len bH (@bU _ _ _ _ _ _ _ (@cJ _ _ _ _ _ _ _ (bT (K:=K) rfl) (pv 0) aJ (λ_ _=>rfl)) aD))) (by rfl) (by first | exact .inl rfl | exact .inr rfl | assumption)) (@aA _ _ _ _ _ (@bE _ _ 3 _ _ _ _ nd rfl (Or.inl rfl) (@bD _ _ _ _ _ _ _ _ vJ (aN (aU (K:=K) rfl) rfl B.len bH (@aC _ _ _ _ _ _ (pv 0) aD)) aJ) (by rfl) (by first | exact .inl rfl | exact .inr rfl | assumption)) (@aA _ _ _ _ _ (@bE _ _ 4 _ _ _ _ nd rfl (Or.inl rfl) (aN (aU (K:=K) rfl) rfl B.len bH (@bU _ _ _ _ _ _ _ (@cJ _ _ _ _ _ _ _ (bT (K:=K) rfl) (pv 0) (uI nD aJ) (λ_ _=>rfl)) aD)) (by rfl) (by first | exact .inl rfl | exact .inr rfl | assumption)) (@aA _ _ _ _ _ (@cP _ _ _ _ _ _ _ _ (aW (cC (K:=K) rfl hr) (pv 1) (dD rfl G_ROW_END ⟨_,rfl⟩) (aY _)) (@aA _ _ _ _ _ (@bF _ _ _ _ (iF (cW (cC (K:=K) rfl hr) (pv 4) (aN (aU (K:=K) rfl) rfl B.len bH (@bU _ _ _ _ _ _ _ (@cJ _ _ _ _ _ _ _ (bT (K:=K) rfl) (pv 0) aJ (λ_ _=>rfl)) aD)) (aY _)) (iJ (cW mJ (aN (aU (K:=K) rfl) rfl B.len bH (@aC _ _ _ _ _ _ (pv 0) aD)) (pv 4) (aY _))))) aF) aF) (@aA _ _ _ _ _ (@bE _ _ 5 _ _ _ _ nd rfl (Or.inl rfl) (bL (gX.mono (by decide)) hr rfl (@aC _ _ _ _ _ _ (pv 1) (@aC _ _ _ _ _ _ (dD rfl G_LONGEST_WAY ⟨_,rfl⟩) aD))) (by rfl) (by first | exact .inl rfl | exact .inr rfl | assumption)) (@aA _ _ _ _ _ (@bF _ _ _ _ (iF (cW wV (pv 5) nH (aY _)) (iF (cW mJ (pv 4) (pv 2) (aY _)) (iJ (aDj (cW (tW (K:=K) rfl hr) (pv 4) (pv 3) (aY _)) (iJ (cW (cC (K:=K) rfl hr) (pv 5) aJ (aY _)))))))) aF))))))
theorem fP:bO ["cell","at","one","two","three"] ["cell","at"] (aO (top 24)):=⟨rfl,rfl,rfl,by decide+kernel,rfl,by decide+kernel,by decide+kernel⟩
def gI (K:aa) : TS:=(aZ (cT (tOp sQ (tOp (bV K) (tOp (bV K) (tOp mM (tOp sQ (aH 0) (tC (.int 2147483587))) (tC (.int 48271))) (tOp mM (aH 1) (tC (.int 69069)))) (tC (.int 11))) (tC (.int 2147483629))) (aX 2)) (aZ (cT (tOp sQ (tOp (bV K) (tOp (bV K) (tOp sQ (tOp aBK (aH 2) (tC (.int 5))) (tC (.int 2147483647))) (tOp mM (tC (.int 7919)) (aH 1))) (tOp sQ (aH 0) (tC (.int 65521)))) (tC (.int 2147483563))) (aX 3)) (aZ (cT (tOp sQ (tOp (bV K) (tOp (bV K) (tOp mM (aH 3) (aH 3)) (aH 2)) (tC (.int 5))) (tC (.int 2147483549))) (aX 4)) (aZ (dL (tOp (bV K) (tOp mM (tOp (bV K) (tOp mM (aH 3) (tC (.int 2147483629))) (aH 4)) (tC (.int 2147483587))) (aH 2))) aR))))
theorem lZ (F:Fun K "_law_gspread" "_law_gspread" (top 24) f fd)(B:mU mg) {sp:Sp}(len:∀vs H Q E,sp vs H Q E->vs.length=2)
  (rd:∀vs H Q E,sp vs H Q E->gI K { nx:=λ_ H'=>Q .non H',rt:=Q } (bN ["cell","at","one","two","three"] vs) H):FnOk P w K mg base CX0 1 f fd ["cell","at"] sp:=by
 refine F.ok fP len (λcdv A outer s H vs Q E hr h=>⟨_,?_,rd vs H Q E h⟩)
 have nd:=fP.nd
 exact(@aA _ _ _ _ _ (@bE _ _ 2 _ _ _ _ nd rfl (Or.inl rfl) (@bD _ _ _ _ _ _ _ _ fM (@bD _ _ _ _ _ _ _ _ (bB (K:=K) rfl) (@bD _ _ _ _ _ _ _ _ (bB (K:=K) rfl) (@bD _ _ _ _ _ _ _ _ fS (@bD _ _ _ _ _ _ _ _ fM (pv 0) aJ) aJ) (@bD _ _ _ _ _ _ _ _ fS (pv 1) aJ)) aJ) aJ) (by rfl) (by first | exact .inl rfl | exact .inr rfl | assumption)) (@aA _ _ _ _ _ (@bE _ _ 3 _ _ _ _ nd rfl (Or.inl rfl) (@bD _ _ _ _ _ _ _ _ fM (@bD _ _ _ _ _ _ _ _ (bB (K:=K) rfl) (@bD _ _ _ _ _ _ _ _ (bB (K:=K) rfl) (@bD _ _ _ _ _ _ _ _ fM (@bD _ _ _ _ _ _ _ _ tJ (pv 2) aJ) aJ) (@bD _ _ _ _ _ _ _ _ fS aJ (pv 1))) (@bD _ _ _ _ _ _ _ _ fM (pv 0) aJ)) aJ) (by rfl) (by first | exact .inl rfl | exact .inr rfl | assumption)) (@aA _ _ _ _ _ (@bE _ _ 4 _ _ _ _ nd rfl (Or.inl rfl) (@bD _ _ _ _ _ _ _ _ fM (@bD _ _ _ _ _ _ _ _ (bB (K:=K) rfl) (@bD _ _ _ _ _ _ _ _ (bB (K:=K) rfl) (@bD _ _ _ _ _ _ _ _ fS (pv 3) (pv 3)) (pv 2)) aJ) aJ) (by rfl) (by first | exact .inl rfl | exact .inr rfl | assumption)) (@aA _ _ _ _ _ (@bF _ _ _ _ (@bD _ _ _ _ _ _ _ _ (bB (K:=K) rfl) (@bD _ _ _ _ _ _ _ _ fS (@bD _ _ _ _ _ _ _ _ (bB (K:=K) rfl) (@bD _ _ _ _ _ _ _ _ fS (pv 3) aJ) (pv 4)) aJ) (pv 2))) aF))))
theorem iQ:bO ["tape","many","at","cell","drawn"] ["tape","many"] (aO (top 25)):=⟨rfl,rfl,rfl,by decide+kernel,rfl,by decide+kernel,by decide+kernel⟩
def jX (K:aa) (cY:Sp) : TS:=(aZ (fH (bG (tOp yLt (tOp (eR K) (aH 0) (tC (.int 2))) (aH 1))) (aZ (cT (tOp (eR K) (aH 0) (tC (.int 1))) (aX 2)) (aZ (cT (tOp (bV K) (tOp mM (tC (.int 7)) (aH 2)) (tC (.int 3))) (aX 3)) (aZ (fH (bG (tOp yLt (aH 2) (tCB (eA K) (aB (tOp (eR K) (aH 0) (tC (.int 0))) aV)))) (aZ (cT (tOp (eR K) (tOp (eR K) (aH 0) (tC (.int 0))) (aH 2)) (aX 3)) aR) (aZ (fH (bG (tOp yGt (tCB (eA K) (aB (tOp (eR K) (aH 0) (tC (.int 0))) aV)) (tC (.int 0)))) (aZ (cT (tOp mM (tOp sQ (tOp (eR K) (tOp (eR K) (aH 0) (tC (.int 0))) (tOp sQ (aH 2) (tCB (eA K) (aB (tOp (eR K) (aH 0) (tC (.int 0))) aV)))) (tC (.int 99991))) (tOp (bV K) (aH 2) (tC (.int 1)))) (aX 3)) aR) aR) aR)) (aZ (cT (tOp (bV K) (aH 2) (tC (.int 1))) (vG (aH 0) (tC (.int 1)) jZ)) (aZ (cT (aH 3) (vG (aH 0) (tC (.int 2)) jZ)) (aZ (fH (bG (tOp yLt (aH 3) (tOp aBK (tC (.int 10)) (tC (.int 18))))) (aZ (cT (bQ cY [] E0 (aB (aH 3) (aB (aH 2) aV))) (vG (aH 0) (tC (.int 2)) jZ)) aR) aR) aR)))))) aR) (aZ (cT (tOp sQ (tOp (eR K) (aH 0) (tC (.int 2))) (aH 1)) (aX 4)) (aZ (cT (tOp aDL (tOp (eR K) (aH 0) (tC (.int 2))) (aH 1)) (vG (aH 0) (tC (.int 2)) jZ)) (aZ (dL (aH 4)) aR))))
theorem oE (F:Fun K "_law_gdraw" "_law_gdraw" (top 25) f fd)(B:mU mg) {cY:Sp}(eN:Def P w K mg base "_law_gspread" 1 ["cell","at"] cY) {sp:Sp}(len:∀vs H Q E,sp vs H Q E->vs.length=2)
  (rd:∀vs H Q E,sp vs H Q E->jX K cY { nx:=λ_ H'=>Q .non H',rt:=Q } (bN ["tape","many","at","cell","drawn"] vs) H):FnOk P w K mg base CX0 2 f fd ["tape","many"] sp:=by
 refine F.ok iQ len (λcdv A outer s H vs Q E hr h=>⟨_,?_,rd vs H Q E h⟩)
 have nd:=iQ.nd
 exact(@aA _ _ _ _ _ (@cP _ _ _ _ _ _ _ _ (aW mJ (@cJ _ _ _ _ _ _ _ (bT (K:=K) rfl) (pv 0) aJ (λ_ _=>rfl)) (pv 1) (aY _)) (@aA _ _ _ _ _ (@bE _ _ 2 _ _ _ _ nd rfl (Or.inl rfl) (@cJ _ _ _ _ _ _ _ (bT (K:=K) rfl) (pv 0) aJ (λ_ _=>rfl)) (by rfl) (by first | exact .inl rfl | exact .inr rfl | assumption)) (@aA _ _ _ _ _ (@bE _ _ 3 _ _ _ _ nd rfl (Or.inl rfl) (@bD _ _ _ _ _ _ _ _ (bB (K:=K) rfl) (@bD _ _ _ _ _ _ _ _ fS aJ (pv 2)) aJ) (by rfl) (by first | exact .inl rfl | exact .inr rfl | assumption)) (@aA _ _ _ _ _ (@cP _ _ _ _ _ _ _ _ (aW mJ (pv 2) (aN (aU (K:=K) rfl) rfl B.len bH (@bU _ _ _ _ _ _ _ (@cJ _ _ _ _ _ _ _ (bT (K:=K) rfl) (pv 0) aJ (λ_ _=>rfl)) aD)) (aY _)) (@aA _ _ _ _ _ (@bE _ _ 3 _ _ _ _ nd rfl (Or.inl rfl) (@cJ _ _ _ _ _ _ _ (bT (K:=K) rfl) (@cJ _ _ _ _ _ _ _ (bT (K:=K) rfl) (pv 0) aJ (λ_ _=>rfl)) (pv 2) (λ_ _=>rfl)) (by rfl) (by first | exact .inl rfl | exact .inr rfl | assumption)) aF) (@aA _ _ _ _ _ (@cP _ _ _ _ _ _ _ _ (aW nY (aN (aU (K:=K) rfl) rfl B.len bH (@bU _ _ _ _ _ _ _ (@cJ _ _ _ _ _ _ _ (bT (K:=K) rfl) (pv 0) aJ (λ_ _=>rfl)) aD)) aJ (aY _)) (@aA _ _ _ _ _ (@bE _ _ 3 _ _ _ _ nd rfl (Or.inl rfl) (@bD _ _ _ _ _ _ _ _ fS (@bD _ _ _ _ _ _ _ _ fM (@cJ _ _ _ _ _ _ _ (bT (K:=K) rfl) (@cJ _ _ _ _ _ _ _ (bT (K:=K) rfl) (pv 0) aJ (λ_ _=>rfl)) (@bD _ _ _ _ _ _ _ _ fM (pv 2) (aN (aU (K:=K) rfl) rfl B.len bH (@bU _ _ _ _ _ _ _ (@cJ _ _ _ _ _ _ _ (bT (K:=K) rfl) (pv 0) aJ (λ_ _=>rfl)) aD))) (λ_ _=>rfl)) aJ) (@bD _ _ _ _ _ _ _ _ (bB (K:=K) rfl) (pv 2) aJ)) (by rfl) (by first | exact .inl rfl | exact .inr rfl | assumption)) aF) aF) aF)) (@aA _ _ _ _ _ (mT (@bD _ _ _ _ _ _ _ _ (bB (K:=K) rfl) (pv 2) aJ) (mZ (pv 0) aJ gC)) (@aA _ _ _ _ _ (mT (pv 3) (mZ (pv 0) aJ gC)) (@aA _ _ _ _ _ (@cP _ _ _ _ _ _ _ _ (aW mJ (pv 3) (@bD _ _ _ _ _ _ _ _ tJ aJ aJ) (aY _)) (@aA _ _ _ _ _ (mT (bL (eN.mono (by decide)) hr rfl (@aC _ _ _ _ _ _ (pv 3) (@aC _ _ _ _ _ _ (pv 2) aD))) (mZ (pv 0) aJ gC)) aF) aF) aF)))))) aF) (@aA _ _ _ _ _ (@bE _ _ 4 _ _ _ _ nd rfl (Or.inl rfl) (@bD _ _ _ _ _ _ _ _ fM (@cJ _ _ _ _ _ _ _ (bT (K:=K) rfl) (pv 0) aJ (λ_ _=>rfl)) (pv 1)) (by rfl) (by first | exact .inl rfl | exact .inr rfl | assumption)) (@aA _ _ _ _ _ (mT (@bD _ _ _ _ _ _ _ _ aBk (@cJ _ _ _ _ _ _ _ (bT (K:=K) rfl) (pv 0) aJ (λ_ _=>rfl)) (pv 1)) (mZ (pv 0) aJ gC)) (@aA _ _ _ _ _ (@bF _ _ _ _ (pv 4)) aF))))
theorem fU:bO ["tape"] ["tape"] (aO (top 26)):=⟨rfl,rfl,rfl,by decide+kernel,rfl,by decide+kernel,by decide+kernel⟩
def gL (K:aa) (aK:Sp) : TS:=(aZ (dL (bQ aK [] E0 (aB (aH 0) (aB (tOp (eR K) (lO (aB (tC (.int 4)) (aB (tC (.int 10)) (aB (tC (.int 100)) (aB (tC (.int 1000001)) aV))))) (bQ aK [] E0 (aB (aH 0) (aB (tC (.int 4)) aV)))) aV)))) aR)
theorem lD (F:Fun K "_law_glength" "_law_glength" (top 26) f fd)(B:mU mg) {aK:Sp}(aT:Def P w K mg base "_law_gdraw" 2 ["tape","many"] aK) {sp:Sp}(len:∀vs H Q E,sp vs H Q E->vs.length=1)
  (rd:∀vs H Q E,sp vs H Q E->gL K aK { nx:=λ_ H'=>Q .non H',rt:=Q } (bN ["tape"] vs) H):FnOk P w K mg base CX0 3 f fd ["tape"] sp:=by
 refine F.ok fU len (λcdv A outer s H vs Q E hr h=>⟨_,?_,rd vs H Q E h⟩)
 have nd:=fU.nd
 exact(@aA _ _ _ _ _ (@bF _ _ _ _ (bL (aT.mono (by decide)) hr rfl (@aC _ _ _ _ _ _ (pv 0) (@bU _ _ _ _ _ _ _ (@cJ _ _ _ _ _ _ _ (bT (K:=K) rfl) (@cR _ _ _ _ (@aG _ _ _ _ _ _ _ aJ (@aG _ _ _ _ _ _ _ aJ (@aG _ _ _ _ _ _ _ aJ (@aG _ _ _ _ _ _ _ aJ aD))))) (bL (aT.mono (by decide)) hr rfl (@aC _ _ _ _ _ _ (pv 0) (@aG _ _ _ _ _ _ _ aJ aD))) (λ_ _=>rfl)) aD)))) aF)
theorem jR:bO ["tape","many","rows","i","row"] ["tape","many"] (aO (top 27)):=⟨rfl,rfl,rfl,by decide+kernel,rfl,by decide+kernel,by decide+kernel⟩
def kX (K:aa) (cZ:Sp) : TS:=(aZ (cT (lO aV) (aX 2)) (aZ (aAX (vS (aB (aH 1) aV)) (aX 3) (aZ (cT (gF [none,some 0] (vS (aB (aH 1) aV)) (aX 0) [] λacc=>(gE (bQ cZ [] E0 (aB (aH 1) aV)) acc)) (aX 4)) (aZ (cT (tC (.int 0)) (vG (aH 4) (aH 3) jZ)) (aZ (mP (tBM K "list" gU (aH 2) (aB (tCB (fR K) (aB (aH 4) aV)) aV))) aR)))) (aZ (dL (tCB (fR K) (aB (aH 2) aV))) aR)))
theorem rK (F:Fun K "_law_gany" "_law_gany" (top 27) f fd)(B:mU mg) {cZ:Sp}(eO:Def P w K mg base "_law_glength" 3 ["tape"] cZ) {sp:Sp}(len:∀vs H Q E,sp vs H Q E->vs.length=2)
  (rd:∀vs H Q E,sp vs H Q E->kX K cZ { nx:=λ_ H'=>Q .non H',rt:=Q } (bN ["tape","many","rows","i","row"] vs) H):FnOk P w K mg base CX0 4 f fd ["tape","many"] sp:=by
 refine F.ok jR len (λcdv A outer s H vs Q E hr h=>⟨_,?_,rd vs H Q E h⟩)
 have nd:=jR.nd
 exact(@aA _ _ _ _ _ (@bE _ _ 2 _ _ _ _ nd rfl (Or.inl rfl) (@cR _ _ _ _ aD) (by rfl) (by first | exact .inl rfl | exact .inr rfl | assumption)) (@aA _ _ _ _ _ (nG j5 rfl (iA rfl B.range (@aC _ _ _ _ _ _ (pv 1) aD)) (bY (i:=3) nd rfl (Or.inl rfl)) (@aA _ _ _ _ _ (uX (i:=4) nd rfl (Or.inl rfl) (N':=["j","tape"]) (ix:=[none,some 0]) rfl rfl rfl (iA rfl B.range (@aC _ _ _ _ _ _ (pv 1) aD)) (λ_ _ _=>(bY (i:=0) (show(["j","tape"]:List Str).Nodup from by decide+kernel) rfl (Or.inl rfl))) (λ_ _ _ => .nil) (λ_ _ _ _=>(eL rfl (bL (eO.mono (by decide)) hr rfl (@aC _ _ _ _ _ _ (pv 1) aD)) rfl))) (@aA _ _ _ _ _ (mT aJ (mZ (pv 4) (pv 3) gC)) (@aA _ _ _ _ _ (gT (cS (K:=K) rfl fx fq fu dR (pv 2) (@bS _ _ _ _ _ _ _ _ (bR (dE (K:=K) rfl) rfl B.tuple eB (@aC _ _ _ _ _ _ (pv 4) aD)) aD))) aF)))) (@aA _ _ _ _ _ (@bF _ _ _ _ (bR (dE (K:=K) rfl) rfl B.tuple eB (@aC _ _ _ _ _ _ (pv 2) aD))) aF)))
theorem iI:bO ["table"] ["table"] (aO (top 28)):=⟨rfl,rfl,rfl,by decide+kernel,rfl,by decide+kernel,by decide+kernel⟩
def jK (K:aa) : TS:=(aZ (dL (tBM K "str" (lS K) (tC (.str " / ")) (aB (gF [none] (uS K (aH 0)) (aX 0) [] λacc=>(gE (tBM K "str" (lS K) (tC (.str " ")) (aB (gF [none] (uS K (aH 0)) (aX 0) [] λacc=>(gE (tCB xZ (aB (aH 0) aV)) acc)) aV)) acc)) aV))) aR)
theorem nR (F:Fun K "_law_gtext" "_law_gtext" (top 28) f fd)(B:mU mg) {sp:Sp}(len:∀vs H Q E,sp vs H Q E->vs.length=1)
  (rd:∀vs H Q E,sp vs H Q E->jK K { nx:=λ_ H'=>Q .non H',rt:=Q } (bN ["table"] vs) H):FnOk P w K mg base CX0 1 f fd ["table"] sp:=by
 refine F.ok iI len (λcdv A outer s H vs Q E hr h=>⟨_,?_,rd vs H Q E h⟩)
 have nd:=iI.nd
 exact(@aA _ _ _ _ _ (@bF _ _ _ _ (cS (K:=K) rfl cm eh ei (eW (K:=K) rfl) aS (cD (eZ (N':=["row"]) (ix:=[none]) rfl rfl rfl (fQ (K:=K) rfl (pv 0)) (λ_ _ _=>(bY (i:=0) (show(["row"]:List Str).Nodup from by decide+kernel) rfl (Or.inl rfl))) (λ_ _ _ => .nil) (λ_ _ _ _=>(eL rfl (cS (K:=K) rfl cm eh ei (eW (K:=K) rfl) aS (cD (eZ (N':=["number"]) (ix:=[none]) rfl rfl rfl (fQ (K:=K) rfl (pv 0)) (λ_ _ _=>(bY (i:=0) (show(["number"]:List Str).Nodup from by decide+kernel) rfl (Or.inl rfl))) (λ_ _ _ => .nil) (λ_ _ _ _=>(eL rfl (bR iN rfl B.str uB (@aC _ _ _ _ _ _ (pv 0) aD)) rfl))) aD)) rfl))) aD))) aF)
theorem fO:bO ["word"] ["word"] (aO (top 29)):=⟨rfl,rfl,rfl,by decide+kernel,rfl,by decide+kernel,by decide+kernel⟩
def gM (K:aa) : TS:=(aZ (fH (tOr (bG (tOp (iV K) (aH 0) (tC (.str "")))) (tOr (bG (tOp yGt (tCB qV (aB (aH 0) aV)) (tC (.int 7)))) (xE (bG (tOp yGt (tCB qV (aB (aH 0) aV)) (tC (.int 1)))) (bG (tOp (iV K) (tOp aBY (aH 0) (tC (.int 0))) (tC (.str "0"))))))) (aZ (dL (tC (.bl false))) aR) aR) (aZ (dL (kY (tOp (iV K) (gF [none] (aBa (aH 0)) (aX 0) [(bG (tOp (aBX true) (aH 0) (tC (.str "0123456789"))))] λacc=>(gE (aH 0) acc)) (lO aV)) (tOp yLe (tCB rZ (aB (aH 0) aV)) (tOp aBK (tC (.int 10)) (tC (.int 6)))))) aR))
theorem kW (F:Fun K "_law_gnumber" "_law_gnumber" (top 29) f fd)(B:mU mg) {sp:Sp}(len:∀vs H Q E,sp vs H Q E->vs.length=1)
  (rd:∀vs H Q E,sp vs H Q E->gM K { nx:=λ_ H'=>Q .non H',rt:=Q } (bN ["word"] vs) H):FnOk P w K mg base CX0 1 f fd ["word"] sp:=by
 refine F.ok fO len (λcdv A outer s H vs Q E hr h=>⟨_,?_,rd vs H Q E h⟩)
 have nd:=fO.nd
 exact(@aA _ _ _ _ _ (@cP _ _ _ _ _ _ _ _ (PW.pt (lB (aW (cC (K:=K) rfl hr) (pv 0) aS (aY _)) (lB (aW nY (aN eU rfl B.len bH (@aC _ _ _ _ _ _ (pv 0) aD)) aJ (aY _)) (jN (PW.pt (rB (aW nY (aN eU rfl B.len bH (@aC _ _ _ _ _ _ (pv 0) aD)) aJ (aY _)) (lL (aW (cC (K:=K) rfl hr) (@cJ _ _ _ _ _ _ _ wA (pv 0) aJ (λ_ _=>rfl)) aS (aY _))))))))) (@aA _ _ _ _ _ (@bF _ _ _ _ qS) aF) aF) (@aA _ _ _ _ _ (@bF _ _ _ _ (iF (cW (cC (K:=K) rfl hr) (eZ (N':=["sign"]) (ix:=[none]) rfl rfl rfl (aBD (pv 0)) (λ_ _ _=>(bY (i:=0) (show(["sign"]:List Str).Nodup from by decide+kernel) rfl (Or.inl rfl))) (λ_ _ _=>(.cons (aW pV (pv 0) aS rfl) .nil)) (λ_ _ _ _=>(eL rfl (pv 0) rfl))) (@cR _ _ _ _ aD) (aY _)) (iJ (cW uN (bR iR rfl B.int qB (@aC _ _ _ _ _ _ (pv 0) aD)) (@bD _ _ _ _ _ _ _ _ tJ aJ aJ) (aY _))))) aF))
theorem fT:bO ["words","rows","word","many","number","row"] ["words"] (aO (top 30)):=⟨rfl,rfl,rfl,by decide+kernel,rfl,by decide+kernel,by decide+kernel⟩
def gQ (K:aa) (dA:Sp) : TS:=(aZ (cT (lO (aB (lO aV) aV)) (aX 1)) (aZ (aAX (uS K (aH 0)) (aX 2) (aZ (fH (bG (tOp (iV K) (aH 2) (tC (.str "/")))) (aZ (mP (tBM K "list" gU (aH 1) (aB (lO aV) aV))) aR) (aZ (mP (tBM K "list" gU (tOp (eR K) (aH 1) (tUn aBI (tC (.int 1)))) (aB (aH 2) aV))) aR)) aR)) (aZ (cT (tCB (eA K) (aB (tOp (eR K) (aH 1) (tC (.int 0))) aV)) (aX 3)) (aZ (aAX (xQ K (aB (aH 1) aV)) (aBJ K 2 (oW (aX 4) (oW (aX 5) aDo))) (aZ (fH (tOr (bG (tOp yGt (tCB (eA K) (aB (aH 5) aV)) (tC (.int 8)))) (yE (tB (tCB (aDy K) (aB (gF [none] (uS K (aH 5)) (aX 0) [] λacc=>(gE (bQ dA [] E0 (aB (aH 0) aV)) acc)) aV))))) (aZ (dL (tC (.bl false))) aR) aR) (aZ (fH (xE (bG (tOp yGt (tCB (eA K) (aB (aH 5) aV)) (aH 4))) (bG (tOp (aAC K) (tOp (eR K) (aH 5) (aH 4)) (tC (.str "0"))))) (aZ (dL (tC (.bl false))) aR) aR) (aZ (fH (xE (bG (tOp yGt (tCB (eA K) (aB (aH 1) aV)) (tC (.int 1)))) (tOr (bG (tOp yGt (tCB (eA K) (aB (aH 5) aV)) (aH 3))) (xE (bG (tOp yLt (aH 4) (tOp aCV (tCB (eA K) (aB (aH 1) aV)) (tC (.int 1))))) (bG (tOp yLt (tCB (eA K) (aB (aH 5) aV)) (aH 3)))))) (aZ (dL (tC (.bl false))) aR) aR) aR)))) (aZ (dL (aDE (tOp (iV K) (tCB (eA K) (aB (aH 1) aV)) (tC (.int 1))) (kY (tOp yLt (tC (.int 1)) (aH 3)) (tOp yLe (tCB (eA K) (aB (aH 1) aV)) (aH 3))))) aR)))))
theorem lC (F:Fun K "_law_gbegins" "_law_gbegins" (top 30) f fd)(B:mU mg) {dA:Sp}(eP:Def P w K mg base "_law_gnumber" 1 ["word"] dA) {sp:Sp}(len:∀vs H Q E,sp vs H Q E->vs.length=1)
  (rd:∀vs H Q E,sp vs H Q E->gQ K dA { nx:=λ_ H'=>Q .non H',rt:=Q } (bN ["words","rows","word","many","number","row"] vs) H):FnOk P w K mg base CX0 2 f fd ["words"] sp:=by
 refine F.ok fT len (λcdv A outer s H vs Q E hr h=>⟨_,?_,rd vs H Q E h⟩)
 have nd:=fT.nd
 exact(@aA _ _ _ _ _ (@bE _ _ 1 _ _ _ _ nd rfl (Or.inl rfl) (@cR _ _ _ _ (@kP _ _ _ _ _ _ (@cR _ _ _ _ aD) aD)) (by rfl) (by first | exact .inl rfl | exact .inr rfl | assumption)) (@aA _ _ _ _ _ (nG j5 rfl (fQ (K:=K) rfl (pv 0)) (bY (i:=2) nd rfl (Or.inl rfl)) (@aA _ _ _ _ _ (@cP _ _ _ _ _ _ _ _ (aW (cC (K:=K) rfl hr) (pv 2) aS (aY _)) (@aA _ _ _ _ _ (gT (cS (K:=K) rfl fx fq fu dR (pv 1) (@kP _ _ _ _ _ _ (@cR _ _ _ _ aD) aD))) aF) (@aA _ _ _ _ _ (gT (cS (K:=K) rfl fx fq fu dR (@cJ _ _ _ _ _ _ _ (bT (K:=K) rfl) (pv 1) (uI nD aJ) (λ_ _=>rfl)) (@aC _ _ _ _ _ _ (pv 2) aD))) aF)) aF)) (@aA _ _ _ _ _ (@bE _ _ 3 _ _ _ _ nd rfl (Or.inl rfl) (aN (aU (K:=K) rfl) rfl B.len bH (@bU _ _ _ _ _ _ _ (@cJ _ _ _ _ _ _ _ (bT (K:=K) rfl) (pv 1) aJ (λ_ _=>rfl)) aD)) (by rfl) (by first | exact .inl rfl | exact .inr rfl | assumption)) (@aA _ _ _ _ _ (nG j5 rfl (oT (K:=K) rfl rfl B.enumerate (@aC _ _ _ _ _ _ (pv 1) aD)) (sJ (K:=K) rfl rfl (fZ (bY (i:=4) nd rfl (Or.inl rfl)) (fZ (bY (i:=5) nd rfl (Or.inl rfl)) sD))) (@aA _ _ _ _ _ (@cP _ _ _ _ _ _ _ _ (PW.pt (lB (aW nY (aN (aU (K:=K) rfl) rfl B.len bH (@aC _ _ _ _ _ _ (pv 5) aD)) aJ (aY _)) (jN (iU (gN (aN (lR (K:=K) rfl rfl) rfl B.all xY (cD (eZ (N':=["word"]) (ix:=[none]) rfl rfl rfl (fQ (K:=K) rfl (pv 5)) (λ_ _ _=>(bY (i:=0) (show(["word"]:List Str).Nodup from by decide+kernel) rfl (Or.inl rfl))) (λ_ _ _ => .nil) (λ_ _ _ _=>(eL rfl (bL (eP.mono (by decide)) hr rfl (@aC _ _ _ _ _ _ (pv 0) aD)) rfl))) aD))))))) (@aA _ _ _ _ _ (@bF _ _ _ _ qS) aF) aF) (@aA _ _ _ _ _ (@cP _ _ _ _ _ _ _ _ (PW.pt (rB (aW nY (aN (aU (K:=K) rfl) rfl B.len bH (@aC _ _ _ _ _ _ (pv 5) aD)) (pv 4) (aY _)) (lL (aW (tW (K:=K) rfl hr) (@cJ _ _ _ _ _ _ _ (bT (K:=K) rfl) (pv 5) (pv 4) (λ_ _=>rfl)) aS (aY _))))) (@aA _ _ _ _ _ (@bF _ _ _ _ qS) aF) aF) (@aA _ _ _ _ _ (@cP _ _ _ _ _ _ _ _ (PW.pt (rB (aW nY (aN (aU (K:=K) rfl) rfl B.len bH (@aC _ _ _ _ _ _ (pv 1) aD)) aJ (aY _)) (lL (PW.pt (lB (aW nY (aN (aU (K:=K) rfl) rfl B.len bH (@aC _ _ _ _ _ _ (pv 5) aD)) (pv 3) (aY _)) (jN (PW.pt (rB (aW mJ (pv 4) (@bD _ _ _ _ _ _ _ _ vJ (aN (aU (K:=K) rfl) rfl B.len bH (@aC _ _ _ _ _ _ (pv 1) aD)) aJ) (aY _)) (lL (aW mJ (aN (aU (K:=K) rfl) rfl B.len bH (@aC _ _ _ _ _ _ (pv 5) aD)) (pv 3) (aY _))))))))))) (@aA _ _ _ _ _ (@bF _ _ _ _ qS) aF) aF) aF)))) (@aA _ _ _ _ _ (@bF _ _ _ _ (aDj (cW (cC (K:=K) rfl hr) (aN (aU (K:=K) rfl) rfl B.len bH (@aC _ _ _ _ _ _ (pv 1) aD)) aJ (aY _)) (iJ (iF (cW mJ aJ (pv 3) (aY _)) (iJ (cW uN (aN (aU (K:=K) rfl) rfl B.len bH (@aC _ _ _ _ _ _ (pv 1) aD)) (pv 3) (aY _))))))) aF)))))
theorem jO:bO ["text","words","at","rows","found"] ["text"] (aO (top 31)):=⟨rfl,rfl,rfl,by decide+kernel,rfl,by decide+kernel,by decide+kernel⟩
def lK (K:aa) (dB:Sp) : TS:=(aZ (cT (tBM K "str" kQ (aH 0) (aB (tC (.str " ")) aV)) (aX 1)) (aZ (aAX (vS (aB (tCB (eA K) (aB (aH 1) aV)) aV)) (aX 2) (aZ (fH (yE (tB (bQ dB [] E0 (aB (tSl (mO K) (aH 1) cA (eK (tOp (bV K) (aH 2) (tC (.int 1))))) aV)))) (aZ (dL (aH 2)) aR) aR) aR)) (aZ (cT (tBM K "str" kQ (tBM K "str" (lS K) (tC (.str " ")) (aB (aH 1) aV)) (aB (tC (.str " / ")) aV)) (aX 3)) (aZ (cT (tCB (fR K) (aB (gF [none] (uS K (aH 3)) (aX 0) [(bG (tOp (aBX true) (tC (.str "/")) (aH 0)))] λacc=>(gE (tCB (fR K) (aB (gF [none] (uS K (tBM K "str" kQ (aH 0) (aB (tC (.str " ")) aV))) (aX 0) [] λacc=>(gE (tCB rZ (aB (aH 0) aV)) acc)) aV)) acc)) aV)) (aX 4)) (aZ (fH (tOr (bG (tOp (iV K) (tOp (eR K) (aH 1) (tUn aBI (tC (.int 1)))) (tC (.str "/")))) (tOr (bG (tOp yLt (tCB (eA K) (aB (aH 4) aV)) (tCB (eA K) (aB (tOp (eR K) (aH 4) (tC (.int 0))) aV)))) (bG (tOp yLt (tCB (eA K) (aB (tOp (eR K) (aH 4) (tUn aBI (tC (.int 1)))) aV)) (tCB (eA K) (aB (tOp (eR K) (aH 4) (tC (.int 0))) aV)))))) (aZ (dL (tCB (eA K) (aB (aH 1) aV))) aR) aR) (aZ (dL (aH 4)) aR))))))
theorem rP (F:Fun K "_law_gdue" "_law_gdue" (top 31) f fd)(B:mU mg) {dB:Sp}(eQ:Def P w K mg base "_law_gbegins" 2 ["words"] dB) {sp:Sp}(len:∀vs H Q E,sp vs H Q E->vs.length=1)
  (rd:∀vs H Q E,sp vs H Q E->lK K dB { nx:=λ_ H'=>Q .non H',rt:=Q } (bN ["text","words","at","rows","found"] vs) H):FnOk P w K mg base CX0 3 f fd ["text"] sp:=by
 refine F.ok jO len (λcdv A outer s H vs Q E hr h=>⟨_,?_,rd vs H Q E h⟩)
 have nd:=jO.nd
 exact(@aA _ _ _ _ _ (@bE _ _ 1 _ _ _ _ nd rfl (Or.inl rfl) (cS (K:=K) rfl cm g8 g9 iB (pv 0) (@aG _ _ _ _ _ _ _ aS aD)) (by rfl) (by first | exact .inl rfl | exact .inr rfl | assumption)) (@aA _ _ _ _ _ (nG j5 rfl (iA rfl B.range (@bS _ _ _ _ _ _ _ _ (aN (aU (K:=K) rfl) rfl B.len bH (@aC _ _ _ _ _ _ (pv 1) aD)) aD)) (bY (i:=2) nd rfl (Or.inl rfl)) (@aA _ _ _ _ _ (@cP _ _ _ _ _ _ _ _ (iU (gN (bL (eQ.mono (by decide)) hr rfl (@bU _ _ _ _ _ _ _ (bP (fJ (K:=K) rfl) (pv 1) cB (bX (@bD _ _ _ _ _ _ _ _ (bB (K:=K) rfl) (pv 2) aJ))) aD)))) (@aA _ _ _ _ _ (@bF _ _ _ _ (pv 2)) aF) aF) aF)) (@aA _ _ _ _ _ (@bE _ _ 3 _ _ _ _ nd rfl (Or.inl rfl) (cS (K:=K) rfl cm g8 g9 iB (cS (K:=K) rfl cm eh ei (eW (K:=K) rfl) aS (@aC _ _ _ _ _ _ (pv 1) aD)) (@aG _ _ _ _ _ _ _ aS aD)) (by rfl) (by first | exact .inl rfl | exact .inr rfl | assumption)) (@aA _ _ _ _ _ (@bE _ _ 4 _ _ _ _ nd rfl (Or.inl rfl) (bR (dE (K:=K) rfl) rfl B.tuple eB (cD (eZ (N':=["row"]) (ix:=[none]) rfl rfl rfl (fQ (K:=K) rfl (pv 3)) (λ_ _ _=>(bY (i:=0) (show(["row"]:List Str).Nodup from by decide+kernel) rfl (Or.inl rfl))) (λ_ _ _=>(.cons (aW pV aS (pv 0) rfl) .nil)) (λ_ _ _ _=>(eL rfl (bR (dE (K:=K) rfl) rfl B.tuple eB (cD (eZ (N':=["word"]) (ix:=[none]) rfl rfl rfl (fQ (K:=K) rfl (cS (K:=K) rfl cm g8 g9 iB (pv 0) (@aG _ _ _ _ _ _ _ aS aD))) (λ_ _ _=>(bY (i:=0) (show(["word"]:List Str).Nodup from by decide+kernel) rfl (Or.inl rfl))) (λ_ _ _ => .nil) (λ_ _ _ _=>(eL rfl (bR iR rfl B.int qB (@aC _ _ _ _ _ _ (pv 0) aD)) rfl))) aD)) rfl))) aD)) (by rfl) (by first | exact .inl rfl | exact .inr rfl | assumption)) (@aA _ _ _ _ _ (@cP _ _ _ _ _ _ _ _ (PW.pt (lB (aW (cC (K:=K) rfl hr) (@cJ _ _ _ _ _ _ _ (bT (K:=K) rfl) (pv 1) (uI nD aJ) (λ_ _=>rfl)) aS (aY _)) (lB (aW mJ (aN (aU (K:=K) rfl) rfl B.len bH (@aC _ _ _ _ _ _ (pv 4) aD)) (aN (aU (K:=K) rfl) rfl B.len bH (@bU _ _ _ _ _ _ _ (@cJ _ _ _ _ _ _ _ (bT (K:=K) rfl) (pv 4) aJ (λ_ _=>rfl)) aD)) (aY _)) (jN (aW mJ (aN (aU (K:=K) rfl) rfl B.len bH (@bU _ _ _ _ _ _ _ (@cJ _ _ _ _ _ _ _ (bT (K:=K) rfl) (pv 4) (uI nD aJ) (λ_ _=>rfl)) aD)) (aN (aU (K:=K) rfl) rfl B.len bH (@bU _ _ _ _ _ _ _ (@cJ _ _ _ _ _ _ _ (bT (K:=K) rfl) (pv 4) aJ (λ_ _=>rfl)) aD)) (aY _)))))) (@aA _ _ _ _ _ (@bF _ _ _ _ (aN (aU (K:=K) rfl) rfl B.len bH (@aC _ _ _ _ _ _ (pv 1) aD))) aF) aF) (@aA _ _ _ _ _ (@bF _ _ _ _ (pv 4)) aF))))))
theorem iK:bO ["tape","signs","some","one"] ["tape"] (aO (top 32)):=⟨rfl,rfl,rfl,by decide+kernel,rfl,by decide+kernel,by decide+kernel⟩
def jV (K:aa) (aK:Sp) : TS:=(aZ (cT (tC (.str " !\"#$&'()*+,-./0123456789:;<=>?@ABCDEFGHIJKLMNOPQRSTUVWXYZ[\\]^_`abcdefghijklmnopqrstuvwxyz{|}~")) (aX 1)) (aZ (cT (lO (aB (tC (.str "/")) (aB (tC (.str "0")) (aB (tC (.str "00")) (aB (tC (.str "01")) (aB (tC (.str "1000000")) (aB (tC (.str "1000001")) (aB (tC (.str "0999999")) (aB (tC (.str "-1")) (aB (tC (.str "+1")) (aB (tC (.str "1.0")) (aB (tC (.str "1_0")) (aB (tC (.str "")) (aB (tC (.str "//")) (aB (tC (.str "0/")) (aB (tC (.str "/1")) (aB (tC (.str "x")) aV))))))))))))))))) (aX 2)) (aZ (cT (tOp (bV K) (aH 2) (lO (aB (tC (.str "5")) (aB (tC (.str "123456")) (aB (tC (.str "12345678")) (aB (tC (.str "9999999")) (aB (tC (.str "0x1")) (aB (tC (.str "1,2")) (aB (tC (.str "\n")) (aB (tC (.str "0\t")) (aB (tC (.str " ")) (aB (tC (.str "\n0")) (aB (tC (.str "\t5")) (aB (tC (.str "5\n")) (aB (tC (.str "1\t0")) aV))))))))))))))) (aX 2)) (aZ (mP (tBM K "list" gU (aH 2) (aB (tC (.str "\t")) aV))) (aZ (cT (tOp (bV K) (tOp aBY (aH 1) (bQ aK [] E0 (aB (aH 0) (aB (tCB qV (aB (aH 1) aV)) aV)))) (tOp aBY (aH 1) (bQ aK [] E0 (aB (aH 0) (aB (tCB qV (aB (aH 1) aV)) aV))))) (aX 3)) (aZ (dL (tOp (eR K) (tOp (bV K) (aH 2) (lO (aB (aH 3) (aB (tSl aDX (aH 3) cA (eK (tC (.int 1)))) (aB (tCB xZ (aB (bQ aK [] E0 (aB (aH 0) (aB (tOp (bV K) (tOp aBK (tC (.int 10)) (tC (.int 6))) (tC (.int 1))) aV))) aV)) aV))))) (bQ aK [] E0 (aB (aH 0) (aB (tOp (bV K) (tCB (eA K) (aB (aH 2) aV)) (tC (.int 3))) aV))))) aR))))))
theorem pK (F:Fun K "_law_gword" "_law_gword" (top 32) f fd)(B:mU mg) {aK:Sp}(aT:Def P w K mg base "_law_gdraw" 2 ["tape","many"] aK) {sp:Sp}(len:∀vs H Q E,sp vs H Q E->vs.length=1)
  (rd:∀vs H Q E,sp vs H Q E->jV K aK { nx:=λ_ H'=>Q .non H',rt:=Q } (bN ["tape","signs","some","one"] vs) H):FnOk P w K mg base CX0 3 f fd ["tape"] sp:=by
 refine F.ok iK len (λcdv A outer s H vs Q E hr h=>⟨_,?_,rd vs H Q E h⟩)
 have nd:=iK.nd
 exact(@aA _ _ _ _ _ (@bE _ _ 1 _ _ _ _ nd rfl (Or.inl rfl) aS (by rfl) (by first | exact .inl rfl | exact .inr rfl | assumption)) (@aA _ _ _ _ _ (@bE _ _ 2 _ _ _ _ nd rfl (Or.inl rfl) (@cR _ _ _ _ (@aG _ _ _ _ _ _ _ aS (@aG _ _ _ _ _ _ _ aS (@aG _ _ _ _ _ _ _ aS (@aG _ _ _ _ _ _ _ aS (@aG _ _ _ _ _ _ _ aS (@aG _ _ _ _ _ _ _ aS (@aG _ _ _ _ _ _ _ aS (@aG _ _ _ _ _ _ _ aS (@aG _ _ _ _ _ _ _ aS (@aG _ _ _ _ _ _ _ aS (@aG _ _ _ _ _ _ _ aS (@aG _ _ _ _ _ _ _ aS (@aG _ _ _ _ _ _ _ aS (@aG _ _ _ _ _ _ _ aS (@aG _ _ _ _ _ _ _ aS (@aG _ _ _ _ _ _ _ aS aD))))))))))))))))) (by rfl) (by first | exact .inl rfl | exact .inr rfl | assumption)) (@aA _ _ _ _ _ (@bE _ _ 2 _ _ _ _ nd rfl (Or.inl rfl) (@bD _ _ _ _ _ _ _ _ (bB (K:=K) rfl) (pv 2) (@cR _ _ _ _ (@aG _ _ _ _ _ _ _ aS (@aG _ _ _ _ _ _ _ aS (@aG _ _ _ _ _ _ _ aS (@aG _ _ _ _ _ _ _ aS (@aG _ _ _ _ _ _ _ aS (@aG _ _ _ _ _ _ _ aS (@aG _ _ _ _ _ _ _ aS (@aG _ _ _ _ _ _ _ aS (@aG _ _ _ _ _ _ _ aS (@aG _ _ _ _ _ _ _ aS (@aG _ _ _ _ _ _ _ aS (@aG _ _ _ _ _ _ _ aS (@aG _ _ _ _ _ _ _ aS aD))))))))))))))) (by rfl) (by first | exact .inl rfl | exact .inr rfl | assumption)) (@aA _ _ _ _ _ (gT (cS (K:=K) rfl fx fq fu dR (pv 2) (@aG _ _ _ _ _ _ _ aS aD))) (@aA _ _ _ _ _ (@bE _ _ 3 _ _ _ _ nd rfl (Or.inl rfl) (@bD _ _ _ _ _ _ _ _ (bB (K:=K) rfl) (@cJ _ _ _ _ _ _ _ wA (pv 1) (bL (aT.mono (by decide)) hr rfl (@aC _ _ _ _ _ _ (pv 0) (@bS _ _ _ _ _ _ _ _ (aN eU rfl B.len bH (@aC _ _ _ _ _ _ (pv 1) aD)) aD))) (λ_ _=>rfl)) (@cJ _ _ _ _ _ _ _ wA (pv 1) (bL (aT.mono (by decide)) hr rfl (@aC _ _ _ _ _ _ (pv 0) (@bS _ _ _ _ _ _ _ _ (aN eU rfl B.len bH (@aC _ _ _ _ _ _ (pv 1) aD)) aD))) (λ_ _=>rfl))) (by rfl) (by first | exact .inl rfl | exact .inr rfl | assumption)) (@aA _ _ _ _ _ (@bF _ _ _ _ (@cJ _ _ _ _ _ _ _ (bT (K:=K) rfl) (@bD _ _ _ _ _ _ _ _ (bB (K:=K) rfl) (pv 2) (@cR _ _ _ _ (@aC _ _ _ _ _ _ (pv 3) (@bU _ _ _ _ _ _ _ (bP aDg (pv 3) cB (bX aJ)) (@bS _ _ _ _ _ _ _ _ (bR iN rfl B.str uB (@bS _ _ _ _ _ _ _ _ (bL (aT.mono (by decide)) hr rfl (@aC _ _ _ _ _ _ (pv 0) (@dG _ _ _ _ _ _ _ _ (@bD _ _ _ _ _ _ _ _ (bB (K:=K) rfl) (@bD _ _ _ _ _ _ _ _ tJ aJ aJ) aJ) aD))) aD)) aD))))) (bL (aT.mono (by decide)) hr rfl (@aC _ _ _ _ _ _ (pv 0) (@dG _ _ _ _ _ _ _ _ (@bD _ _ _ _ _ _ _ _ (bB (K:=K) rfl) (aN (aU (K:=K) rfl) rfl B.len bH (@aC _ _ _ _ _ _ (pv 2) aD)) aJ) aD))) (λ_ _=>rfl))) aF))))))
theorem iP:bO ["tape","table","words","at","way","k","some","text","edge"] ["tape","table"] (aO (top 33)):=⟨rfl,rfl,rfl,by decide+kernel,rfl,by decide+kernel,by decide+kernel⟩
def jU (K:aa) (aK:Sp) (bK:Sp) (cH:Sp) : TS:=(aZ (cT (tBM K "str" kQ (bQ bK [] E0 (aB (aH 1) aV)) (aB (tC (.str " ")) aV)) (aX 2)) (aZ (cT (bQ aK [] E0 (aB (aH 0) (aB (tCB (eA K) (aB (aH 2) aV)) aV))) (aX 3)) (aZ (cT (bQ aK [] E0 (aB (aH 0) (aB (tC (.int 9)) aV))) (aX 4)) (aZ (fH (bG (tOp (iV K) (aH 4) (tC (.int 0)))) (aZ (dL (tBM K "str" (lS K) (tC (.str " ")) (aB (tOp (bV K) (tSl (mO K) (aH 2) cA (eK (aH 3))) (tSl (mO K) (aH 2) (eK (tOp (bV K) (aH 3) (tC (.int 1)))) cA)) aV))) aR) aR) (aZ (fH (bG (tOp (iV K) (aH 4) (tC (.int 1)))) (aZ (dL (tBM K "str" (lS K) (tC (.str " ")) (aB (tOp (bV K) (tOp (bV K) (tSl (mO K) (aH 2) cA (eK (aH 3))) (lO (aB (bQ cH [] E0 (aB (aH 0) aV)) aV))) (tSl (mO K) (aH 2) (eK (aH 3)) cA)) aV))) aR) aR) (aZ (fH (bG (tOp (iV K) (aH 4) (tC (.int 2)))) (aZ (dL (tBM K "str" (lS K) (tC (.str " ")) (aB (tOp (bV K) (tSl (mO K) (aH 2) cA (eK (tOp (bV K) (aH 3) (tC (.int 1))))) (tSl (mO K) (aH 2) (eK (aH 3)) cA)) aV))) aR) aR) (aZ (fH (bG (tOp (iV K) (aH 4) (tC (.int 4)))) (aZ (cT (bQ cH [] E0 (aB (aH 0) aV)) (vG (aH 2) (bQ aK [] E0 (aB (aH 0) (aB (tCB (eA K) (aB (aH 2) aV)) aV))) jZ)) aR) aR) (aZ (fH (tOr (bG (tOp (iV K) (aH 4) (tC (.int 3)))) (bG (tOp (iV K) (aH 4) (tC (.int 4))))) (aZ (dL (tBM K "str" (lS K) (tC (.str " ")) (aB (tOp (bV K) (tOp (bV K) (tSl (mO K) (aH 2) cA (eK (aH 3))) (lO (aB (bQ cH [] E0 (aB (aH 0) aV)) aV))) (tSl (mO K) (aH 2) (eK (tOp (bV K) (aH 3) (tC (.int 1)))) cA)) aV))) aR) aR) (aZ (fH (bG (tOp (iV K) (aH 4) (tC (.int 5)))) (aZ (dL (tBM K "str" (lS K) (tC (.str " ")) (aB (tSl (mO K) (aH 2) cA (eK (tOp (bV K) (aH 3) (tC (.int 1))))) aV))) aR) aR) (aZ (fH (bG (tOp (iV K) (aH 4) (tC (.int 6)))) (aZ (cT (bQ aK [] E0 (aB (aH 0) (aB (tCB (eA K) (aB (aH 1) aV)) aV))) (aX 5)) (aZ (cT (lO (aB (tOp (bV K) (tSl (mO K) (aH 1) (eK (aH 5)) cA) (tSl (mO K) (aH 1) cA (eK (aH 5)))) (aB (tOp (bV K) (tSl (mO K) (aH 1) cA (eK (aH 5))) (tSl (mO K) (aH 1) (eK (tOp (bV K) (aH 5) (tC (.int 1)))) cA)) (aB (tOp (bV K) (tOp (bV K) (tSl (mO K) (aH 1) cA (eK (aH 5))) (tSl (mO K) (aH 1) (eK (aH 5)) (eK (tOp (bV K) (aH 5) (tC (.int 1)))))) (tSl (mO K) (aH 1) (eK (aH 5)) cA)) aV)))) (aX 6)) (aZ (dL (bQ bK [] E0 (aB (tOp (eR K) (aH 6) (tOp sQ (aH 3) (tC (.int 3)))) aV))) aR))) aR) (aZ (fH (bG (tOp (iV K) (aH 4) (tC (.int 7)))) (aZ (cT (tBM K "str" (lS K) (tC (.str " ")) (aB (aH 2) aV)) (aX 7)) (aZ (cT (bQ aK [] E0 (aB (aH 0) (aB (tC (.int 9)) aV))) (aX 8)) (aZ (fH (bG (tOp (iV K) (aH 8) (tC (.int 8)))) (aZ (dL (tOp (bV K) (aH 7) (tOp aCA (tC (.str " 0")) (bQ aK [] E0 (aB (aH 0) (aB (tC (.int 56)) aV)))))) aR) aR) (aZ (fH (bG (tOp yGt (aH 8) (tC (.int 4)))) (aZ (dL (tOp (bV K) (tOp (eR K) (lO (aB (tC (.str "\n")) (aB (tC (.str "\t")) (aB (tC (.str " ")) aV)))) (tOp aCV (aH 8) (tC (.int 5)))) (aH 7))) aR) aR) (aZ (dL (tOp (bV K) (aH 7) (tOp (eR K) (lO (aB (tC (.str "\n")) (aB (tC (.str "\t")) (aB (tC (.str " ")) (aB (tC (.str " /")) (aB (tC (.str "/")) aV)))))) (aH 8)))) aR))))) aR) (aZ (dL (tOp (eR K) (lO (aB (tC (.str "")) (aB (tC (.str "/")) (aB (tC (.str "0 /")) (aB (tC (.str "0 1")) (aB (tC (.str "0 1 /")) (aB (tC (.str "0 1 / 1")) (aB (tC (.str "1")) (aB (tC (.str " 0")) (aB (tC (.str "0 0 / 0 0 /")) aV)))))))))) (tOp sQ (aH 3) (tC (.int 9))))) aR))))))))))))
theorem nV (F:Fun K "_law_gbent" "_law_gbent" (top 33) f fd)(B:mU mg) {aK:Sp}(aT:Def P w K mg base "_law_gdraw" 2 ["tape","many"] aK){bK:Sp}(cE:Def P w K mg base "_law_gtext" 1 ["table"] bK){cH:Sp}(dI:Def P w K mg base "_law_gword" 3 ["tape"] cH) {sp:Sp}(len:∀vs H Q E,sp vs H Q E->vs.length=2)
  (rd:∀vs H Q E,sp vs H Q E->jU K aK bK cH { nx:=λ_ H'=>Q .non H',rt:=Q } (bN ["tape","table","words","at","way","k","some","text","edge"] vs) H):FnOk P w K mg base CX0 4 f fd ["tape","table"] sp:=by
 refine F.ok iP len (λcdv A outer s H vs Q E hr h=>⟨_,?_,rd vs H Q E h⟩)
 have nd:=iP.nd
 exact(@aA _ _ _ _ _ (@bE _ _ 2 _ _ _ _ nd rfl (Or.inl rfl) (cS (K:=K) rfl cm g8 g9 iB (bL (cE.mono (by decide)) hr rfl (@aC _ _ _ _ _ _ (pv 1) aD)) (@aG _ _ _ _ _ _ _ aS aD)) (by rfl) (by first | exact .inl rfl | exact .inr rfl | assumption)) (@aA _ _ _ _ _ (@bE _ _ 3 _ _ _ _ nd rfl (Or.inl rfl) (bL (aT.mono (by decide)) hr rfl (@aC _ _ _ _ _ _ (pv 0) (@bS _ _ _ _ _ _ _ _ (aN (aU (K:=K) rfl) rfl B.len bH (@aC _ _ _ _ _ _ (pv 2) aD)) aD))) (by rfl) (by first | exact .inl rfl | exact .inr rfl | assumption)) (@aA _ _ _ _ _ (@bE _ _ 4 _ _ _ _ nd rfl (Or.inl rfl) (bL (aT.mono (by decide)) hr rfl (@aC _ _ _ _ _ _ (pv 0) (@aG _ _ _ _ _ _ _ aJ aD))) (by rfl) (by first | exact .inl rfl | exact .inr rfl | assumption)) (@aA _ _ _ _ _ (@cP _ _ _ _ _ _ _ _ (aW (cC (K:=K) rfl hr) (pv 4) aJ (aY _)) (@aA _ _ _ _ _ (@bF _ _ _ _ (cS (K:=K) rfl cm eh ei (eW (K:=K) rfl) aS (@dG _ _ _ _ _ _ _ _ (@bD _ _ _ _ _ _ _ _ (bB (K:=K) rfl) (bP (fJ (K:=K) rfl) (pv 2) cB (bX (pv 3))) (bP (fJ (K:=K) rfl) (pv 2) (bX (@bD _ _ _ _ _ _ _ _ (bB (K:=K) rfl) (pv 3) aJ)) cB)) aD))) aF) aF) (@aA _ _ _ _ _ (@cP _ _ _ _ _ _ _ _ (aW (cC (K:=K) rfl hr) (pv 4) aJ (aY _)) (@aA _ _ _ _ _ (@bF _ _ _ _ (cS (K:=K) rfl cm eh ei (eW (K:=K) rfl) aS (@dG _ _ _ _ _ _ _ _ (@bD _ _ _ _ _ _ _ _ (bB (K:=K) rfl) (@bD _ _ _ _ _ _ _ _ (bB (K:=K) rfl) (bP (fJ (K:=K) rfl) (pv 2) cB (bX (pv 3))) (@cR _ _ _ _ (@bS _ _ _ _ _ _ _ _ (bL (dI.mono (by decide)) hr rfl (@aC _ _ _ _ _ _ (pv 0) aD)) aD))) (bP (fJ (K:=K) rfl) (pv 2) (bX (pv 3)) cB)) aD))) aF) aF) (@aA _ _ _ _ _ (@cP _ _ _ _ _ _ _ _ (aW (cC (K:=K) rfl hr) (pv 4) aJ (aY _)) (@aA _ _ _ _ _ (@bF _ _ _ _ (cS (K:=K) rfl cm eh ei (eW (K:=K) rfl) aS (@dG _ _ _ _ _ _ _ _ (@bD _ _ _ _ _ _ _ _ (bB (K:=K) rfl) (bP (fJ (K:=K) rfl) (pv 2) cB (bX (@bD _ _ _ _ _ _ _ _ (bB (K:=K) rfl) (pv 3) aJ))) (bP (fJ (K:=K) rfl) (pv 2) (bX (pv 3)) cB)) aD))) aF) aF) (@aA _ _ _ _ _ (@cP _ _ _ _ _ _ _ _ (aW (cC (K:=K) rfl hr) (pv 4) aJ (aY _)) (@aA _ _ _ _ _ (mT (bL (dI.mono (by decide)) hr rfl (@aC _ _ _ _ _ _ (pv 0) aD)) (mZ (pv 2) (bL (aT.mono (by decide)) hr rfl (@aC _ _ _ _ _ _ (pv 0) (@bS _ _ _ _ _ _ _ _ (aN (aU (K:=K) rfl) rfl B.len bH (@aC _ _ _ _ _ _ (pv 2) aD)) aD))) gC)) aF) aF) (@aA _ _ _ _ _ (@cP _ _ _ _ _ _ _ _ (PW.pt (lB (aW (cC (K:=K) rfl hr) (pv 4) aJ (aY _)) (jN (aW (cC (K:=K) rfl hr) (pv 4) aJ (aY _))))) (@aA _ _ _ _ _ (@bF _ _ _ _ (cS (K:=K) rfl cm eh ei (eW (K:=K) rfl) aS (@dG _ _ _ _ _ _ _ _ (@bD _ _ _ _ _ _ _ _ (bB (K:=K) rfl) (@bD _ _ _ _ _ _ _ _ (bB (K:=K) rfl) (bP (fJ (K:=K) rfl) (pv 2) cB (bX (pv 3))) (@cR _ _ _ _ (@bS _ _ _ _ _ _ _ _ (bL (dI.mono (by decide)) hr rfl (@aC _ _ _ _ _ _ (pv 0) aD)) aD))) (bP (fJ (K:=K) rfl) (pv 2) (bX (@bD _ _ _ _ _ _ _ _ (bB (K:=K) rfl) (pv 3) aJ)) cB)) aD))) aF) aF) (@aA _ _ _ _ _ (@cP _ _ _ _ _ _ _ _ (aW (cC (K:=K) rfl hr) (pv 4) aJ (aY _)) (@aA _ _ _ _ _ (@bF _ _ _ _ (cS (K:=K) rfl cm eh ei (eW (K:=K) rfl) aS (@bU _ _ _ _ _ _ _ (bP (fJ (K:=K) rfl) (pv 2) cB (bX (@bD _ _ _ _ _ _ _ _ (bB (K:=K) rfl) (pv 3) aJ))) aD))) aF) aF) (@aA _ _ _ _ _ (@cP _ _ _ _ _ _ _ _ (aW (cC (K:=K) rfl hr) (pv 4) aJ (aY _)) (@aA _ _ _ _ _ (@bE _ _ 5 _ _ _ _ nd rfl (Or.inl rfl) (bL (aT.mono (by decide)) hr rfl (@aC _ _ _ _ _ _ (pv 0) (@bS _ _ _ _ _ _ _ _ (aN (aU (K:=K) rfl) rfl B.len bH (@aC _ _ _ _ _ _ (pv 1) aD)) aD))) (by rfl) (by first | exact .inl rfl | exact .inr rfl | assumption)) (@aA _ _ _ _ _ (@bE _ _ 6 _ _ _ _ nd rfl (Or.inl rfl) (@cR _ _ _ _ (@dG _ _ _ _ _ _ _ _ (@bD _ _ _ _ _ _ _ _ (bB (K:=K) rfl) (bP (fJ (K:=K) rfl) (pv 1) (bX (pv 5)) cB) (bP (fJ (K:=K) rfl) (pv 1) cB (bX (pv 5)))) (@dG _ _ _ _ _ _ _ _ (@bD _ _ _ _ _ _ _ _ (bB (K:=K) rfl) (bP (fJ (K:=K) rfl) (pv 1) cB (bX (pv 5))) (bP (fJ (K:=K) rfl) (pv 1) (bX (@bD _ _ _ _ _ _ _ _ (bB (K:=K) rfl) (pv 5) aJ)) cB)) (@dG _ _ _ _ _ _ _ _ (@bD _ _ _ _ _ _ _ _ (bB (K:=K) rfl) (@bD _ _ _ _ _ _ _ _ (bB (K:=K) rfl) (bP (fJ (K:=K) rfl) (pv 1) cB (bX (pv 5))) (bP (fJ (K:=K) rfl) (pv 1) (bX (pv 5)) (bX (@bD _ _ _ _ _ _ _ _ (bB (K:=K) rfl) (pv 5) aJ)))) (bP (fJ (K:=K) rfl) (pv 1) (bX (pv 5)) cB)) aD)))) (by rfl) (by first | exact .inl rfl | exact .inr rfl | assumption)) (@aA _ _ _ _ _ (@bF _ _ _ _ (bL (cE.mono (by decide)) hr rfl (@bU _ _ _ _ _ _ _ (@cJ _ _ _ _ _ _ _ (bT (K:=K) rfl) (pv 6) (@bD _ _ _ _ _ _ _ _ fM (pv 3) aJ) (λ_ _=>rfl)) aD))) aF))) aF) (@aA _ _ _ _ _ (@cP _ _ _ _ _ _ _ _ (aW (cC (K:=K) rfl hr) (pv 4) aJ (aY _)) (@aA _ _ _ _ _ (@bE _ _ 7 _ _ _ _ nd rfl (Or.inl rfl) (cS (K:=K) rfl cm eh ei (eW (K:=K) rfl) aS (@aC _ _ _ _ _ _ (pv 2) aD)) (by rfl) (by first | exact .inl rfl | exact .inr rfl | assumption)) (@aA _ _ _ _ _ (@bE _ _ 8 _ _ _ _ nd rfl (Or.inl rfl) (bL (aT.mono (by decide)) hr rfl (@aC _ _ _ _ _ _ (pv 0) (@aG _ _ _ _ _ _ _ aJ aD))) (by rfl) (by first | exact .inl rfl | exact .inr rfl | assumption)) (@aA _ _ _ _ _ (@cP _ _ _ _ _ _ _ _ (aW (cC (K:=K) rfl hr) (pv 8) aJ (aY _)) (@aA _ _ _ _ _ (@bF _ _ _ _ (@bD _ _ _ _ _ _ _ _ (bB (K:=K) rfl) (pv 7) (@bD _ _ _ _ _ _ _ _ aAV aS (bL (aT.mono (by decide)) hr rfl (@aC _ _ _ _ _ _ (pv 0) (@aG _ _ _ _ _ _ _ aJ aD)))))) aF) aF) (@aA _ _ _ _ _ (@cP _ _ _ _ _ _ _ _ (aW nY (pv 8) aJ (aY _)) (@aA _ _ _ _ _ (@bF _ _ _ _ (@bD _ _ _ _ _ _ _ _ (bB (K:=K) rfl) (@cJ _ _ _ _ _ _ _ (bT (K:=K) rfl) (@cR _ _ _ _ (@aG _ _ _ _ _ _ _ aS (@aG _ _ _ _ _ _ _ aS (@aG _ _ _ _ _ _ _ aS aD)))) (@bD _ _ _ _ _ _ _ _ vJ (pv 8) aJ) (λ_ _=>rfl)) (pv 7))) aF) aF) (@aA _ _ _ _ _ (@bF _ _ _ _ (@bD _ _ _ _ _ _ _ _ (bB (K:=K) rfl) (pv 7) (@cJ _ _ _ _ _ _ _ (bT (K:=K) rfl) (@cR _ _ _ _ (@aG _ _ _ _ _ _ _ aS (@aG _ _ _ _ _ _ _ aS (@aG _ _ _ _ _ _ _ aS (@aG _ _ _ _ _ _ _ aS (@aG _ _ _ _ _ _ _ aS aD)))))) (pv 8) (λ_ _=>rfl)))) aF))))) aF) (@aA _ _ _ _ _ (@bF _ _ _ _ (@cJ _ _ _ _ _ _ _ (bT (K:=K) rfl) (@cR _ _ _ _ (@aG _ _ _ _ _ _ _ aS (@aG _ _ _ _ _ _ _ aS (@aG _ _ _ _ _ _ _ aS (@aG _ _ _ _ _ _ _ aS (@aG _ _ _ _ _ _ _ aS (@aG _ _ _ _ _ _ _ aS (@aG _ _ _ _ _ _ _ aS (@aG _ _ _ _ _ _ _ aS (@aG _ _ _ _ _ _ _ aS aD)))))))))) (@bD _ _ _ _ _ _ _ _ fM (pv 3) aJ) (λ_ _=>rfl))) aF))))))))))))
theorem iE:bO ["text","caught","found","at","e"] ["text"] (aO (top 34)):=⟨rfl,rfl,rfl,by decide+kernel,rfl,by decide+kernel,by decide+kernel⟩
def jQ (K:aa) (C_NoBack:Addr) (C_NoRow:Addr) (C_NoTable:Addr) (C_NoText:Addr) (C_NotEven:Addr) (C_NotStraight:Addr) (C_RoundError:Addr) (C_TooFew:Addr) (C_TooMany:Addr) (dC:Sp) : TS:=(aZ (cT (tC .non) (aX 1)) (aZ (cT (tC .non) (aX 2)) (aZ (aBz K C_RoundError 4 (λE=>(aZ (cT (bQ dC [] E (aB (aH 0) aV)) (aX 2)) aR)) (aZ (cT (aH 4) (aX 1)) aR)) (aZ (fH (tB (tCB (aDV K) (aB (aH 1) (aB (aEv (aB (tC (.ref C_NoBack)) (aB (tC (.ref C_NoRow)) (aB (tC (.ref C_NoTable)) (aB (tC (.ref C_NotEven)) (aB (tC (.ref C_NotStraight)) (aB (tC (.ref C_TooFew)) (aB (tC (.ref C_TooMany)) aV)))))))) aV)))) (aZ (dL (tC (.str "other"))) aR) aR) (aZ (cT (tUn aBI (tC (.int 1))) (aX 3)) (aZ (aBz K C_NoText 4 (λE=>(aZ (mP (bQ dC [] E (aB (aH 0) aV))) aR)) (aZ (cT (aDW K (aH 4)) (aX 3)) aR)) (aZ (fH (bG (tOp aEt (aH 1) (tC .non))) (aZ (dL (aH 2)) aR) aR) (aZ (dL (tIf (tB (tCB (aDV K) (aB (aH 1) (aB (tC (.ty "ValueError")) aV)))) (aH 3) (tC (.str "other")))) aR))))))))
theorem pA (F:Fun K "_law_gtold" "_law_gtold" (top 34) f fd)(B:mU mg) {C_NoBack:Addr}(GC_NoBack:mg "NoBack" = some (.ref C_NoBack)){C_NoRow:Addr}(GC_NoRow:mg "NoRow" = some (.ref C_NoRow)){C_NoTable:Addr}(GC_NoTable:mg "NoTable" = some (.ref C_NoTable)){C_NoText:Addr}(GC_NoText:mg "NoText" = some (.ref C_NoText)){C_NotEven:Addr}(GC_NotEven:mg "NotEven" = some (.ref C_NotEven)){C_NotStraight:Addr}(GC_NotStraight:mg "NotStraight" = some (.ref C_NotStraight)){C_RoundError:Addr}(GC_RoundError:mg "RoundError" = some (.ref C_RoundError)){C_TooFew:Addr}(GC_TooFew:mg "TooFew" = some (.ref C_TooFew)){C_TooMany:Addr}(GC_TooMany:mg "TooMany" = some (.ref C_TooMany)) (GV:mg "ValueError" = none) {dC:Sp}(dN:DefE P w K mg base "read_table" 5 ["text"] dC){sp:Sp}(len:∀vs H Q E,sp vs H Q E->vs.length=1)
  (rd:∀vs H Q E,sp vs H Q E->jQ K C_NoBack C_NoRow C_NoTable C_NoText C_NotEven C_NotStraight C_RoundError C_TooFew C_TooMany dC { nx:=λ_ H'=>Q .non H',rt:=Q } (bN ["text","caught","found","at","e"] vs) H):FnOk P w K mg base CX0 6 f fd ["text"] sp:=by
 refine F.ok iE len (λcdv A outer s H vs Q E hr h=>⟨_,?_,rd vs H Q E h⟩)
 have nd:=iE.nd
 exact(@aA _ _ _ _ _ (@bE _ _ 1 _ _ _ _ nd rfl (Or.inl rfl) nH (by rfl) (by first | exact .inl rfl | exact .inr rfl | assumption)) (@aA _ _ _ _ _ (@bE _ _ 2 _ _ _ _ nd rfl (Or.inl rfl) nH (by rfl) (by first | exact .inl rfl | exact .inr rfl | assumption)) (@aA _ _ _ _ _ (wG (K:=K) (ie:=4) rfl rfl rfl nd rfl rfl rfl GC_RoundError (λpn W=>zR (i:=2) nd rfl (Or.inl rfl) (dN.mono (by decide)) hr rfl (@aC _ _ _ _ _ _ (pv 0) aD) (by first | exact .inl rfl | exact .inr rfl | assumption)) (λpn a=>(@aA _ _ _ _ _ (@bE _ _ 1 _ _ _ _ nd rfl (Or.inl rfl) (pv 4) (by rfl) (by first | exact .inl rfl | exact .inr rfl | assumption)) aF))) (@aA _ _ _ _ _ (@cP _ _ _ _ _ _ _ _ (gN (aN (tV (K:=K) rfl) rfl B.isi nC (@aC _ _ _ _ _ _ (pv 1) (@yX _ _ _ _ _ _ _ (@aCB _ _ _ _ _ (@aC _ _ _ _ _ _ (dD (v := .ref C_NoBack) rfl GC_NoBack rfl) (@aC _ _ _ _ _ _ (dD (v := .ref C_NoRow) rfl GC_NoRow rfl) (@aC _ _ _ _ _ _ (dD (v := .ref C_NoTable) rfl GC_NoTable rfl) (@aC _ _ _ _ _ _ (dD (v := .ref C_NotEven) rfl GC_NotEven rfl) (@aC _ _ _ _ _ _ (dD (v := .ref C_NotStraight) rfl GC_NotStraight rfl) (@aC _ _ _ _ _ _ (dD (v := .ref C_TooFew) rfl GC_TooFew rfl) (@aC _ _ _ _ _ _ (dD (v := .ref C_TooMany) rfl GC_TooMany rfl) aD)))))))) aD)))) (@aA _ _ _ _ _ (@bF _ _ _ _ aS) aF) aF) (@aA _ _ _ _ _ (@bE _ _ 3 _ _ _ _ nd rfl (Or.inl rfl) (uI nD aJ) (by rfl) (by first | exact .inl rfl | exact .inr rfl | assumption)) (@aA _ _ _ _ _ (wG (K:=K) (ie:=4) rfl rfl rfl nd rfl rfl rfl GC_NoText (λpn W=>wL (dN.mono (by decide)) hr rfl (@aC _ _ _ _ _ _ (pv 0) aD)) (λpn a=>(@aA _ _ _ _ _ (@bE _ _ 3 _ _ _ _ nd rfl (Or.inl rfl) (aCe (K:=K) rfl (pv 4)) (by rfl) (by first | exact .inl rfl | exact .inr rfl | assumption)) aF))) (@aA _ _ _ _ _ (@cP _ _ _ _ _ _ _ _ (aW aCr (pv 1) nH (aY _)) (@aA _ _ _ _ _ (@bF _ _ _ _ (pv 2)) aF) aF) (@aA _ _ _ _ _ (@bF _ _ _ _ (kD (gN (aN (tV (K:=K) rfl) rfl B.isi nC (@aC _ _ _ _ _ _ (pv 1) (@aC _ _ _ _ _ _ (kZ (v := .ty "ValueError") rfl GV oM rfl) aD)))) (pv 3) aS)) aF))))))))
theorem aAB:bO ["script","tape","turn","table","text"] ["script"] (aO (top 35)):=⟨rfl,rfl,rfl,by decide+kernel,rfl,by decide+kernel,by decide+kernel⟩
def aCC (K:aa) (eG:Sp) (dO:Sp) (aK:Sp) (eI:Sp) (bK:Sp) (dP:Sp) : TS:=(aZ (cT (lO (aB (tCB (aCZ K) (aB (tSl (mO K) (aH 0) cA (eK (tC (.int 63)))) aV)) (aB (tC (.int 0)) (aB (tC (.int 0)) aV)))) (aX 1)) (aZ (aAX (vS (aB (tC (.int 15)) aV)) (aX 2) (aZ (cT (bQ eG [] E0 (aB (aH 1) (aB (tOp (bV K) (tC (.int 1)) (bQ aK [] E0 (aB (aH 1) (aB (tOp (eR K) (lO (aB (tC (.int 3)) (aB (tC (.int 8)) aV))) (bQ aK [] E0 (aB (aH 1) (aB (tC (.int 2)) aV)))) aV)))) aV))) (aX 3)) (aZ (cT (tIf (bG (tOp (iV K) (bQ aK [] E0 (aB (aH 1) (aB (tC (.int 6)) aV))) (tC (.int 0)))) (bQ bK [] E0 (aB (aH 3) aV)) (bQ dO [] E0 (aB (aH 1) (aB (aH 3) aV)))) (aX 4)) (aZ (fH (bG (tOp (aAC K) (tCB (uG K) (aB (bQ dP [] E0 (aB (aH 4) aV)) aV)) (tCB (uG K) (aB (bQ eI [] E0 (aB (aH 4) aV)) aV)))) (aZ (dL (tC (.bl false))) aR) aR) aR)))) (aZ (dL (tC (.bl true))) aR)))
theorem aDc (F:Fun K "law" "law" (top 35) f fd)(B:mU mg) {eG:Sp}(gY:Def P w K mg base "_law_gany" 4 ["tape","many"] eG){dO:Sp}(fW:Def P w K mg base "_law_gbent" 4 ["tape","table"] dO){aK:Sp}(aT:Def P w K mg base "_law_gdraw" 2 ["tape","many"] aK){eI:Sp}(gZ:Def P w K mg base "_law_gdue" 3 ["text"] eI){bK:Sp}(cE:Def P w K mg base "_law_gtext" 1 ["table"] bK){dP:Sp}(fX:Def P w K mg base "_law_gtold" 6 ["text"] dP) {sp:Sp}(len:∀vs H Q E,sp vs H Q E->vs.length=1)
  (rd:∀vs H Q E,sp vs H Q E->aCC K eG dO aK eI bK dP { nx:=λ_ H'=>Q .non H',rt:=Q } (bN ["script","tape","turn","table","text"] vs) H):FnOk P w K mg base CX0 7 f fd ["script"] sp:=by
 refine F.ok aAB len (λcdv A outer s H vs Q E hr h=>⟨_,?_,rd vs H Q E h⟩)
 have nd:=aAB.nd
 exact(@aA _ _ _ _ _ (@bE _ _ 1 _ _ _ _ nd rfl (Or.inl rfl) (@cR _ _ _ _ (@bS _ _ _ _ _ _ _ _ (bR (uY (K:=K) rfl rfl) rfl B.list aBe (@bU _ _ _ _ _ _ _ (bP (fJ (K:=K) rfl) (pv 0) cB (bX aJ)) aD)) (@aG _ _ _ _ _ _ _ aJ (@aG _ _ _ _ _ _ _ aJ aD)))) (by rfl) (by first | exact .inl rfl | exact .inr rfl | assumption)) (@aA _ _ _ _ _ (nG j5 rfl (iA rfl B.range (@aG _ _ _ _ _ _ _ aJ aD)) (bY (i:=2) nd rfl (Or.inl rfl)) (@aA _ _ _ _ _ (@bE _ _ 3 _ _ _ _ nd rfl (Or.inl rfl) (bL (gY.mono (by decide)) hr rfl (@aC _ _ _ _ _ _ (pv 1) (@dG _ _ _ _ _ _ _ _ (@bD _ _ _ _ _ _ _ _ (bB (K:=K) rfl) aJ (bL (aT.mono (by decide)) hr rfl (@aC _ _ _ _ _ _ (pv 1) (@bU _ _ _ _ _ _ _ (@cJ _ _ _ _ _ _ _ (bT (K:=K) rfl) (@cR _ _ _ _ (@aG _ _ _ _ _ _ _ aJ (@aG _ _ _ _ _ _ _ aJ aD))) (bL (aT.mono (by decide)) hr rfl (@aC _ _ _ _ _ _ (pv 1) (@aG _ _ _ _ _ _ _ aJ aD))) (λ_ _=>rfl)) aD)))) aD))) (by rfl) (by first | exact .inl rfl | exact .inr rfl | assumption)) (@aA _ _ _ _ _ (@bE _ _ 4 _ _ _ _ nd rfl (Or.inl rfl) (kD (aW (cC (K:=K) rfl hr) (bL (aT.mono (by decide)) hr rfl (@aC _ _ _ _ _ _ (pv 1) (@aG _ _ _ _ _ _ _ aJ aD))) aJ (aY _)) (bL (cE.mono (by decide)) hr rfl (@aC _ _ _ _ _ _ (pv 3) aD)) (bL (fW.mono (by decide)) hr rfl (@aC _ _ _ _ _ _ (pv 1) (@aC _ _ _ _ _ _ (pv 3) aD)))) (by rfl) (by first | exact .inl rfl | exact .inr rfl | assumption)) (@aA _ _ _ _ _ (@cP _ _ _ _ _ _ _ _ (aW (tW (K:=K) rfl hr) (aN (nN (K:=K) rfl hr) rfl B.repr xB (@bS _ _ _ _ _ _ _ _ (bL (fX.mono (by decide)) hr rfl (@aC _ _ _ _ _ _ (pv 4) aD)) aD)) (aN (nN (K:=K) rfl hr) rfl B.repr xB (@bS _ _ _ _ _ _ _ _ (bL (gZ.mono (by decide)) hr rfl (@aC _ _ _ _ _ _ (pv 4) aD)) aD)) (aY _)) (@aA _ _ _ _ _ (@bF _ _ _ _ qS) aF) aF) aF)))) (@aA _ _ _ _ _ (@bF _ _ _ _ qS) aF)))
end
def whD:Dt->Bool
 | .int _=>true
 |_=>false
def aDs:Dt->Bool
 | .tup ds=>ds.all whD
 |_=>false
def spW (K:aa):Sp:=λvs H Q _=>∃(v:V) (d:Dt),vs=[v]/\Sh K H d v/\∀H',Same H H'->Q (.bl (whD d)) H'
def aDw (K:aa):Sp:=λvs H Q _=>∃(v:V) (d:Dt),vs=[v]/\Sh K H d v/\(∀ds,d = .tup ds->ds.length<=1000)/\∀H',Same H H'->Q (.bl (aDs d)) H'
theorem iG {α β:Type}(f:α->β)(e:α):∀ds:List α,(bu ds.length).flatMap (λi=>[f (ds.getD i e)])=ds.map f
 |[]=>rfl
 |d :: ds=>by
  rw[cz,ka,o9,List.flatMap_map,e6,<- iG f e ds]
  rfl
section
variable {K:aa}
theorem yL:∀vs H Q E,spW K vs H Q E->mX K { nx:=λ_ H'=>Q .non H',rt:=Q } (bN ["thing"] vs) H:=by
 intro vs H Q E h
 obtain⟨v,d,rfl,hS,q⟩:=h
 have q0:=q H (Same.refl _)
 refine⟨_,rfl,v,d,"int",rfl,by decide,hS,_,rfl,?_⟩
 by_cases hi:aBv d "int" = true
 ·rw[if_pos hi]
  refine⟨_,rfl,v,d,"bool",rfl,by decide,hS,_,rfl,?_⟩
  cases d <;> first | exact q0 | (exact absurd hi (by simp[aBv]))
 ·rw[if_neg hi]
  cases d <;> first | exact q0 | (exact absurd (by rfl) hi)
theorem wZ:∀vs H Q E,aDw K vs H Q E->jW K (spW K) { nx:=λ_ H'=>Q .non H',rt:=Q } (bN ["thing"] vs) H:=by
 intro vs H Q E h
 obtain⟨v,d,rfl,hS,hz,q⟩:=h
 refine⟨_,rfl,v,d,"tuple",rfl,by decide,hS,_,rfl,?_⟩
 by_cases hi:aBv d "tuple" = true
 ·rw[if_pos hi]
  cases d with
  |tup ds=>
   obtain⟨a,xs,rfl,ha,hL⟩:=id hS
   have hl:ds.length=xs.length:=hL.length
   refine⟨_,rfl,a,rfl, .inr ⟨⟨xs,ha⟩,λacc hacc=>?_⟩⟩
   refine cO [0] ((ds.map whD).map V.bl) hacc (by rw[af,af];exact bc (hz ds rfl) (by decide)) ?_ λσ' H' sm hl'=>⟨acc,ds.map whD,rfl, .inl (.of hl'),?_⟩
   ·refine Emits.cast (L:=(bu xs.length).flatMap λi=>[V.bl (whD (ds.getD i .non))]) ?_ (by rw[<- hl,iG (λd=>V.bl (whD d)),i6];rfl)
    refine pN (by decide) (by show 0<1;decide) (λH' sx=>(cK hacc sx).tup ha) λi x σ1 H1 hx l1 ag1 s1 sx1 _=>?_
    refine dX λQ hQ=>?_
    have hi':i<ds.length:=by rw[hl];exact(ao.mp hx).1
    obtain⟨y,hy,sy⟩:=hL.get (j:=i) (d:=ds.getD i .non) (by rw[ah];simp[hi'])
    obtain rfl:y=x:=by rw[hx] at hy;cases hy;rfl
    exact⟨_,s1,y,_,rfl,sy.same (cK hacc sx1),hQ⟩
   ·have:=q H' sm
    rw[show aDs (.tup ds)=ds.all whD from rfl] at this
    rw[ra]
    exact this
  |_=>exact absurd hi (by simp[aBv])
 ·rw[if_neg hi]
  have q0:=q H (Same.refl _)
  cases d <;> first | exact q0 | (exact absurd (by rfl) hi)
end
def fG:List Dt->List Int
 |[]=>[]
 | .int i :: ds=>i :: fG ds
 |_ :: ds=>0 :: fG ds
theorem vR:∀{ds:List Dt},ds.all whD=true->ds=(fG ds).map Dt.int
 |[],_=>rfl
 |d :: ds,h=>by
  rw[j3,cg] at h
  cases d with
  |int i=>rw[fG,e6,<- vR h.2]
  |_=>exact absurd h.1 (by simp[whD])
theorem jD:∀ns:List Int,fG (ns.map Dt.int)=ns
 |[]=>rfl
 |n :: ns=>by rw[e6,fG,jD ns]
def zH (n own:Nat) (ns:List Int):Bool:=decide (ns.length=n) && (decide (ns.getD own 0=0) && (ns.all (λi=>decide (0<=i)) && ns.all λi=>decide (i<=1000000)))
def xG (n own:Nat):Dt->Bool
 | .tup ds=>ds.all whD && zH n own (fG ds)
 |_=>false
def aDq:Dt->Bool
 | .tup ds=>(decide (1<=ds.length) && decide (ds.length<=8)) && (bu ds.length).all λi=>xG ds.length i (ds.getD i .non)
 |_=>false
def yP (K:aa):Sp:=λvs H Q _=>∃(v:V) (d:Dt) (own n:Nat),vs=[v, .int (own:Int), .int (n:Int)]/\Sh K H d v/\(∀ds,d = .tup ds->ds.length<=1000)/\own<n/\∀H',Same H H'->Q (.bl (xG n own d)) H'
theorem aBr {ns:List Int}{m:Int}(h:m∈ns)(h':∀k∈ns,m<=k):decide (0<=m)=ns.all λi=>decide (0<=i):=by
 by_cases c:0<=m
 ·rw[decide_eq_true c]
  exact(cp.mpr λk hk=>decide_eq_true (by have:=h' k hk;omega)).symm
 ·rw[decide_eq_false c]
  exact Eq.symm (kv.mpr λe=>c (of_decide_eq_true (cp.mp e m h)))
theorem aAI {ns:List Int}{m:Int}(h:m∈ns)(h':∀k∈ns,k<=m):decide (m<=1000000)=ns.all λi=>decide (i<=1000000):=by
 by_cases c:m<=1000000
 ·rw[decide_eq_true c]
  exact(cp.mpr λk hk=>decide_eq_true (by have:=h' k hk;omega)).symm
 ·rw[decide_eq_false c]
  exact Eq.symm (kv.mpr λe=>c (of_decide_eq_true (cp.mp e m h)))
section
variable {K:aa}
theorem aCh:∀vs H Q E,yP K vs H Q E->gO K (aDw K) { nx:=λ_ H'=>Q .non H',rt:=Q } (bN ["thing","own","many"] vs) H:=by
 intro vs H Q E h
 obtain⟨v,d,own,n,rfl,hS,hz,ho,q⟩:=h
 refine⟨_,rfl,v,d,rfl,hS,hz,λH1 s1=>⟨_,rfl,?_⟩⟩
 cases hw:aDs d with
 |false=>
  refine kK ?_
  have:=q H1 s1
  rw[show xG n own d=false by cases d <;> first | rfl | (simp only[xG];rw[show List.all _ whD=false from hw];rfl)] at this
  exact this
 |true=>
  refine pE ?_
  cases d with
  |tup ds=>
   have hd:=vR hw
   have hq:∀H',Same H H'->Q (.bl (zH n own (fG ds))) H':=λH' e=>by
    have:=q H' e
    rw[show xG n own (.tup ds)=(ds.all whD && zH n own (fG ds)) from rfl,show ds.all whD=true from hw,dk] at this
    exact this
   generalize hns:fG ds=ns at *
   subst hd
   obtain⟨a,xs,rfl,ha,hL⟩:=id hS
   obtain rfl:=hL.of_ints
   have ha1:=s1.tup ha
   refine⟨_,rfl,a,_,rfl, .inr ha1,_,rfl, .int _, .int _,aj _,rfl,rfl,_,rfl,?_⟩
   rw[uF,af]
   by_cases hn:ns.length=n
   ·refine bA (by rw[decide_eq_true (by omega)];rfl) ?_
    have hgo:ns[own]?=some (ns.getD own 0):=sI (by omega)
    refine⟨_,rfl,_,rfl,ixT ha1 (j:=own) (v := .int (ns.getD own 0)) (by rw[bh,hgo];rfl) ⟨.int _, .int _,aj _,rfl,rfl,_,rfl,?_⟩⟩
    have e1:eqD (.int (ns.getD own 0)) (.int 0)=decide (ns.getD own 0=0):=by rw[eqD];rfl
    rw[e1]
    have hq1:=hq H1 s1
    unfold zH at hq1
    rw[decide_eq_true hn,dk] at hq1
    by_cases h0:ns.getD own 0=0
    ·rw[decide_eq_true h0,dk] at hq1
     refine bW (decide_eq_true h0) ?_
     have hne:ns≠[]:=λe=>by rw[e] at hn;simp at hn;omega
     refine⟨_,rfl, .inl ⟨a,ns,rfl, .inr ha1,hne,λm m1 m2=>⟨_,_,rfl,rfl,_,rfl,?_⟩⟩⟩
     rw[aBr m1 m2]
     cases hc:ns.all λi=>decide (0<=i) with
     |false=>
      rw[hc,dg] at hq1
      exact pE hq1
     |true=>
      rw[hc,dk] at hq1
      refine kK ⟨_,rfl,a,ns,rfl, .inr ha1,hne,λm' k1 k2=>⟨_,_,rfl,rfl,?_⟩⟩
      rw[<- aAI k1 k2] at hq1
      exact hq1
    ·rw[decide_eq_false h0,dg] at hq1
     exact bA (decide_eq_false h0) hq1
   ·refine bW (by rw[decide_eq_false (by omega)];rfl) ?_
    have hq1:=hq H1 s1
    unfold zH at hq1
    rw[decide_eq_false hn,dg] at hq1
    exact hq1
  |_=>exact absurd hw (by simp[aDs])
def tF (K:aa):Sp:=λvs H Q _=>∃(v:V) (d:Dt),vs=[v]/\Sh K H d v/\uQ d=true/\∀H',Same H H'->Q (.bl (aDq d)) H'
theorem zA {n:Nat}{f:Nat->Bool}:((bu n).flatMap λi=>[V.bl (f i)])=((bu n).map f).map V.bl:=by
 induction (bu n) with
 |nil=>rfl
 |cons a l ih=>rw[o9,ih];rfl
theorem wX:∀vs H Q E,tF K vs H Q E->mY K (yP K) { nx:=λ_ H'=>Q .non H',rt:=Q } (bN ["thing"] vs) H:=by
 intro vs H Q E h
 obtain⟨v,d,rfl,hS,hz,q⟩:=h
 refine⟨_,rfl,v,d,"tuple",rfl,by decide,hS,_,rfl,?_⟩
 cases d with
 |tup ds=>
  refine pE ?_
  obtain⟨a,xs,rfl,ha,hL⟩:=id hS
  have hl:ds.length=xs.length:=hL.length
  obtain⟨h64,hth⟩:=tX hz
  have hq:∀H',Same H H'->Q (.bl ((decide (1<=ds.length) && decide (ds.length<=8)) && (bu ds.length).all λi=>xG ds.length i (ds.getD i .non))) H':=q
  refine⟨_,rfl,a,xs,rfl, .inr ha,_,_,rfl,rfl,_,rfl,?_⟩
  by_cases h1:1<=ds.length
  ·refine bW (decide_eq_true (by omega)) ⟨_,_,rfl,rfl,_,rfl,?_⟩
   by_cases h8:ds.length<=8
   ·refine bA (by rw[decide_eq_true (by omega)];rfl) ?_
    rw[decide_eq_true h1,decide_eq_true h8,dk,dk] at hq
    refine⟨_,rfl,a,false,rfl,⟨xs,ha⟩,λacc hacc=>?_⟩
    refine cO [0,1] (((bu ds.length).map λi=>xG ds.length i (ds.getD i .non)).map V.bl) hacc (by rw[af,af,oz];omega) ?_ λσ' H' sm hl'=>⟨acc,(bu ds.length).map λi=>xG ds.length i (ds.getD i .non),rfl, .inl (.of hl'),?_⟩
    ·refine Emits.cast (L:=(bu xs.length).flatMap λi=>[V.bl (xG ds.length i (ds.getD i .non))]) ?_ (by rw[<- hl,zA])
     refine xH (b:=false) (by decide) (by decide) (by decide) (by show 0<3;decide) (by show 1<3;decide) (λH' sx=>(cK hacc sx).tup ha) λi x σ1 H1 hx l1 ag1 s0 s1 sx1 _=>?_
     refine dX λQ hQ=>?_
     have hi':i<ds.length:=by rw[hl];exact(ao.mp hx).1
     obtain⟨y,hy,sy⟩:=hL.get (j:=i) (d:=ds.getD i .non) (by rw[ah];simp[hi'])
     obtain rfl:y=x:=by rw[hx] at hy;cases hy;rfl
     have t2:σ1[2]?=some (some (.ref a)):=(ag1 2 (by decide)).trans rfl
     have sm1:=cK hacc sx1
     refine⟨_,s1,_,s0,_,t2,a,xs,rfl, .inr (sm1.tup ha),y,ds.getD i .non,i,ds.length,by rw[hl];rfl,sy.same sm1,λes ee=>?_,hi',hQ⟩
     have hm:ds.getD i .non∈ds:=by rw[ah,ai hi'];exact e7 hi'
     have:=(tX (ee ▸ hth _ hm)).1
     omega
    ·rw[ra]
     exact hq H' sm
   ·refine bW (by rw[decide_eq_false (by omega)];rfl) ?_
    have:=hq H (Same.refl _)
    rw[decide_eq_false h8,gv,dg] at this
    exact this
  ·refine bA (decide_eq_false (by omega)) ⟨_,rfl,?_⟩
   have:=hq H (Same.refl _)
   rw[decide_eq_false h1,dg,dg] at this
   exact this
 |_=>exact kK (q H (Same.refl _))
end
theorem tN {a m j:Int}(h0:0<m)(h1:m<=4611686018427387904):CMul (a % m) j := .inl ⟨by have:=rh a (show m≠0 by omega);omega,by have:=nq a h0;omega⟩
def aEo (l:Addr) (k:Nat) (z:Int):HO := .lst [.ref l, .int (k:Int), .int z]
def PenAt (H:Hp) (p l:Addr) (ns:List Int) (k:Nat) (z:Int):Prop:=H p=some (aEo l k z)/\H l=some (.lst (ns.map V.int))/\l≠p
def Pen (H:Hp) (p l:Addr) (ns:List Int):Prop:=∃k z,PenAt H p l ns k z
theorem PenAt.put {H:Hp}{p l:Addr}{ns:List Int}{k k':Nat}{z z':Int}(h:PenAt H p l ns k z):PenAt (upd H p (aEo l k' z')) p l ns k' z':=⟨aE,by rw[aM h.2.2];exact h.2.1,h.2.2⟩
theorem PenAt.x {H H':Hp}{p l:Addr}{ns:List Int}{k:Nat}{z:Int}(h:PenAt H p l ns k z)(s:Same H H'):PenAt H' p l ns k z:=⟨s _ _ h.1,s _ _ h.2.1,h.2.2⟩
theorem Pen.x {H H':Hp}{p l:Addr}{ns:List Int}(h:Pen H p l ns)(s:Same H H'):Pen H' p l ns:=by
 obtain⟨k,z,h⟩:=h
 exact⟨k,z,h.x s⟩
theorem Pen.ne {H:Hp}{p l:Addr}{ns:List Int}(h:Pen H p l ns){x:Addr}(hx:H x=none):x≠p/\x≠l:=by
 obtain⟨k,z,h⟩:=h
 exact⟨λe=>(by rw[e,h.1] at hx;cases hx),λe=>(by rw[e,h.2.1] at hx;cases hx)⟩
theorem Pen.upd {H:Hp}{p l:Addr}{ns:List Int}(h:Pen H p l ns){x:Addr}{o:HO}(h1:x≠p)(h2:x≠l):Pen (upd H x o) p l ns:=by
 obtain⟨k,z,h⟩:=h
 exact⟨k,z,by rw[aM (ke h1)];exact h.1,by rw[aM (ke h2)];exact h.2.1,h.2.2⟩
section
variable {K:aa}
def hX:Sp:=λvs H Q _=>∃(c:Int) (k:Nat),vs=[.int c, .int (k:Int)]/\∀v:Int,Q (.int v) H
theorem xF:∀vs H Q E,hX vs H Q E->gI K { nx:=λ_ H'=>Q .non H',rt:=Q } (bN ["cell","at","one","two","three"] vs) H:=by
 intro vs H Q E h
 obtain⟨c,k,rfl,q⟩:=h
 refine⟨_,rfl,_,_,rfl,rfl,by show(0:Int)<2147483587;decide, .inr ⟨by decide,by decide⟩,_,rfl, .inr ⟨by decide,by decide⟩,_,_,rfl,rfl,by show(0:Int)<2147483629;decide,?_⟩
 generalize hx:(c % 2147483587*48271+(k:Int)*69069+11)=x
 have hb:(x % 2147483629).natAbs<2 ^ 64:=by
  have:=rh x (show(2147483629:Int)≠0 by decide)
  have:=nq x (show(0:Int)<2147483629 by decide)
  omega
 refine⟨_,rfl,_,_,rfl,rfl,⟨by decide,by decide,?_⟩,_,_,rfl,rfl,by show(0:Int)<2147483647;decide,_,rfl, .inl ⟨by decide,by decide⟩,_,rfl,_,_,rfl,rfl,by show(0:Int)<65521;decide,_,_,rfl,rfl,by show(0:Int)<2147483563;decide,?_⟩
 ·first | exact hb | (rw[hx];exact hb)
 refine⟨_,rfl,_,rfl,tN (by decide) (by decide),_,rfl,_,_,rfl,rfl,by show(0:Int)<2147483549;decide,?_⟩
 exact⟨_,rfl, .inr ⟨by decide,by decide⟩,_,rfl, .inr ⟨by decide,by decide⟩,_,rfl,q _⟩
def gJ:Sp:=λvs H Q _=>∃(p l:Addr) (ns:List Int) (m:Nat),vs=[.ref p, .int (m:Int)]/\Pen H p l ns/\1<=m/\m<=10000000/\∀(r:Nat) H',r<m->Pen H' p l ns->SameX p H H'->Q (.int (r:Int)) H'
theorem aBi:∀vs H Q E,gJ vs H Q E->jX K hX { nx:=λ_ H'=>Q .non H',rt:=Q } (bN ["tape","many","at","cell","drawn"] vs) H:=by
 intro vs H Q E h
 obtain⟨p,l,ns,m,rfl,⟨k,z,hP⟩,h1,hm,q⟩:=h
 have rest:∀(G:Hp) (k':Nat) (z':Int) x2 x3,PenAt G p l ns k' z'->SameX p H G->aZ (cT (tOp sQ (tOp (eR K) (aH 0) (tC (.int 2))) (aH 1)) (aX 4)) (aZ (cT (tOp aDL (tOp (eR K) (aH 0) (tC (.int 2))) (aH 1)) (vG (aH 0) (tC (.int 2)) jZ)) (aZ (dL (aH 4)) aR)) { nx:=λ_ H'=>Q .non H',rt:=Q } [some (.ref p),some (.int (m:Int)),x2,x3,none] G:=λG k' z' x2 x3 hG sx=>by
  obtain⟨r,er,hr⟩:=oH (c:=z') (n:=m) h1
  refine⟨_,rfl,ixL (j:=2) (.of hG.1) rfl ⟨_,rfl,uD h1 er ?_⟩⟩
  refine⟨_,rfl,ixL (j:=2) (.of hG.1) rfl ⟨_,rfl,_,_,rfl,rfl,⟨by omega,by omega⟩,_,rfl,p,_,2,2,rfl,rfl,hG.1,rfl,?_⟩⟩
  exact⟨_,rfl,q r _ hr ⟨k',z' / (m:Int),hG.put⟩ (sx.trans (SameX.put _))⟩
 refine⟨_,rfl,ixL (j:=2) (.of hP.1) rfl ⟨_,rfl,_,_,rfl,rfl,_,rfl,aDm (λc1=>?_) λc1=>?_⟩⟩
 ·have last:∀c:Int,aZ (cT (tOp (bV K) (aH 2) (tC (.int 1))) (vG (aH 0) (tC (.int 1)) jZ)) (aZ (cT (aH 3) (vG (aH 0) (tC (.int 2)) jZ)) (aZ (fH (bG (tOp yLt (aH 3) (tOp aBK (tC (.int 10)) (tC (.int 18))))) (aZ (cT (bQ hX [] E0 (aB (aH 3) (aB (aH 2) aV))) (vG (aH 0) (tC (.int 2)) jZ)) aR) aR) aR)) { nx:=aZ (cT (tOp sQ (tOp (eR K) (aH 0) (tC (.int 2))) (aH 1)) (aX 4)) (aZ (cT (tOp aDL (tOp (eR K) (aH 0) (tC (.int 2))) (aH 1)) (vG (aH 0) (tC (.int 2)) jZ)) (aZ (dL (aH 4)) aR)) { nx:=λ_ H'=>Q .non H',rt:=Q },rt:=Q } [some (.ref p),some (.int (m:Int)),some (.int (k:Int)),some (.int c),none] H:=λc=>by
   refine⟨_,rfl,_,rfl,p,_,1,1,rfl,rfl,hP.1,rfl,?_⟩
   refine⟨_,rfl,_,rfl,p,_,2,2,rfl,rfl,aE,rfl,?_⟩
   have hG:PenAt (upd (upd H p (.lst ([V.ref l, .int (k:Int), .int z].set 1 (.int ((k:Int)+1))))) p (.lst (([V.ref l, .int (k:Int), .int z].set 1 (.int ((k:Int)+1))).set 2 (.int c)))) p l ns (k+1) c:=by
    exact(hP.put (k':=k+1) (z':=z)).put (k':=k+1) (z':=c)
   have sG:SameX p H (upd (upd H p (.lst ([V.ref l, .int (k:Int), .int z].set 1 (.int ((k:Int)+1))))) p (.lst (([V.ref l, .int (k:Int), .int z].set 1 (.int ((k:Int)+1))).set 2 (.int c)))):=(SameX.put _).trans (SameX.put _)
   generalize upd (upd H p (.lst ([V.ref l, .int (k:Int), .int z].set 1 (.int ((k:Int)+1))))) p (.lst (([V.ref l, .int (k:Int), .int z].set 1 (.int ((k:Int)+1))).set 2 (.int c)))=G at hG sG ⊢
   refine⟨_,rfl,10,18,rfl,rfl,⟨by decide,by decide,by decide⟩,_,_,rfl,rfl,_,rfl,aDm (λc2=>?_) λc2=>?_⟩
   ·refine⟨_,rfl,_,rfl,c,k,rfl,λv=>⟨_,rfl,p,_,2,2,rfl,rfl,hG.1,rfl,?_⟩⟩
    exact rest _ (k+1) v _ _ (hG.put (k':=k+1) (z':=v)) (sG.trans (SameX.put _))
   ·exact rest G (k+1) c _ _ hG sG
  refine⟨_,rfl,ixL (j:=1) (.of hP.1) rfl ?_⟩
  refine⟨_,rfl, .inl ⟨by decide,by decide⟩,?_⟩
  refine⟨_,rfl,_,rfl,ixL (j:=0) (.of hP.1) rfl ⟨l,_,rfl, .inl (.of hP.2.1),_,_,rfl,rfl,_,rfl,?_⟩⟩
  rw[af]
  by_cases c2:k<ns.length
  ·refine bW (decide_eq_true (by omega)) ?_
   refine⟨_,rfl,ixL (j:=0) (.of hP.1) rfl ⟨_,rfl,ixL (j:=k) (v := .int (ns.getD k 0)) (.of hP.2.1) (by rw[bh,L2.sI c2];rfl) ?_⟩⟩
   exact last _
  ·refine bA (decide_eq_false (by omega)) ?_
   refine⟨_,rfl,ixL (j:=0) (.of hP.1) rfl ⟨l,_,rfl, .inl (.of hP.2.1),_,_,rfl,rfl,_,rfl,?_⟩⟩
   rw[af]
   by_cases c3:0<ns.length
   ·refine bW (decide_eq_true (by omega)) ?_
    obtain⟨j,ej,hj⟩:=oH (c:=(k:Int)) (n:=ns.length) c3
    refine⟨_,rfl,ixL (j:=0) (.of hP.1) rfl ⟨_,rfl,_,rfl,ixL (j:=0) (.of hP.1) rfl ⟨l,_,rfl, .inl (.of hP.2.1),?_⟩⟩⟩
    rw[af]
    refine uD c3 ej ?_
    refine ixL (j:=j) (v := .int (ns.getD j 0)) (.of hP.2.1) (by rw[bh,L2.sI hj];rfl) ⟨_,_,rfl,rfl,by show(0:Int)<99991;decide,_,rfl,tN (by decide) (by decide),?_⟩
    exact last _
   ·refine bA (decide_eq_false (by omega)) ?_
    exact last _
 ·exact rest H k z _ _ hP (SameX.refl _ _)
theorem aEm {Q:VK}{σ:St}{H:Hp}{s:Nat}{p l:Addr}{ns:List Int}{ts:List Nat}{m:Nat}{te:TA}(hs:σ[s]?=some (some (.ref p)))(hP:Pen H p l ns)(hm:ts.length=m)(h1:1<=m)(h2:m<=100)(hte:∀R:List V->Hp->Prop,R (ts.map aCd) H->te σ H R)(hts:∀t∈ts,1<=t/\t<=10000000)
  (q:∀(t r:Nat) H',t∈ts->r<t->Pen H' p l ns->SameX p H H'->Q (.int (r:Int)) H') :
  bQ gJ [] E0 (aB (aH s) (aB (tOp (eR K) (lO te) (bQ gJ [] E0 (aB (aH s) (aB (tC (.int (m:Int))) aV)))) aV)) σ H Q:=by
 refine⟨_,hs,hte _ ⟨by rw[af,hm];exact bc h2 (by decide),λp0 hp0=>⟨_,hs,p,l,ns,m,rfl,hP.x (aL hp0 _),h1,bc h2 (by decide),λr H1 hr hP1 sx1=>?_⟩⟩⟩
 have e0:H1 p0=some (.lst (ts.map aCd)):=sx1 _ _ (hP.ne hp0).1 aE
 have hr':r<ts.length:=by omega
 refine ixL (j:=r) (v:=aCd (ts.getD r 0)) (.of e0) (aEy hr') ?_
 have hmem:ts.getD r 0∈ts:=by
  rw[ah,ai hr']
  exact e7 hr'
 refine⟨p,l,ns,ts.getD r 0,rfl,hP1,(hts _ hmem).1,(hts _ hmem).2,λr2 H2 hr2 hP2 sx2=>q _ r2 H2 hmem hr2 hP2 (((aL hp0 _).x.trans sx1).trans sx2)⟩
end
end K84
namespace K84
open PySem PySem.NumText L2 PyProof.Rows
def signs (w:Str):List Nat:=w.cps.toList
def pP (l:List Nat):Bool:=l.all λc=>decide (48<=c) && decide (c<=57)
def rV (l:List Nat):Bool:=decide (1<l.length) && decide (l[0]?=some 48)
def eT (w:Str):Bool:=pP (signs w) && (decide (1<=(signs w).length) && (decide ((signs w).length<=7) && (!rV (signs w) && decide (digitsVal (signs w)<=1000000))))
def eC (w:Str):Int:=(digitsVal (signs w):Nat)
theorem eY {l:List Nat}(h:pP l=true):AllDigits l:=λc hc=>by
 have:=cp.mp h c hc
 rw[cg,decide_eq_true_eq,decide_eq_true_eq] at this
 exact this
theorem jA {l:List Nat}(h:l≠[]):∃a c,l=a++[c]:=⟨l.dropLast,l.getLast h,(mf h).symm⟩
theorem sY {c:Nat}(h:48<=c/\c<=57):(gw 10 (c - 48)).map la=[c]:=by
 have:c=48\/c=49\/c=50\/c=51\/c=52\/c=53\/c=54\/c=55\/c=56\/c=57:=by omega
 rcases this with rfl | rfl | rfl | rfl | rfl | rfl | rfl | rfl | rfl | rfl <;> decide
theorem tQ {n c:Nat}(hn:0<n)(h:48<=c/\c<=57):(gw 10 (n*10+(c - 48))).map la=(gw 10 n).map la++[c]:=by
 have t:gw 10 n++gw 10 (c - 48)=gw 10 (10*n+(c - 48)):=Nat.toDigits_append_toDigits (by decide) hn (by omega)
 rw[Nat.mul_comm n 10,<- t,fy,sY h]
theorem aDi:∀(m:Nat) (l:List Nat),l.length=m->AllDigits l->l≠[]->rV l=false->(gw 10 (digitsVal l)).map la=l
 |0,l,hm,_,hl,_=>absurd (gu.mp hm) hl
 |m+1,l,hm,hd,hl,hz=>by
  obtain⟨a,c,rfl⟩:=jA hl
  have hc:48<=c/\c<=57:=hd c (by simp)
  have ha:AllDigits a:=λx hx=>hd x (cq _ hx)
  rw[digitsVal_snoc]
  cases a with
  |nil=>
   show(gw 10 (0*10+(c - 48))).map la=[c]
   rw[Nat.zero_mul,Nat.zero_add]
   exact sY hc
  |cons x a=>
   have hx:x≠48:=λe=>by
    subst e
    unfold rV at hz
    rw[decide_eq_true (by simp),decide_eq_true (by simp)] at hz
    cases hz
   have hz':rV (x :: a)=false:=by
    unfold rV
    rw[decide_eq_false (p:=(x :: a)[0]?=some 48) (by simpa using hx),gv]
   have ih:=aDi m (x :: a) (by simp at hm ⊢;omega) ha (by simp) hz'
   have pos:0<digitsVal (x :: a):=by
    rcases nz (digitsVal (x :: a)) with e | e
    ·rw[e] at ih
     have:(gw 10 0).map la=[48]:=by decide
     rw[this] at ih
     cases ih
     exact absurd rfl hx
    ·exact e
   rw[tQ pos hc,ih]
theorem yB:∀(m:Nat) (l:List Nat),l.length=m->AllDigits l->l≠[]->((gw 10 (digitsVal l)).map la).length<=l.length
 |0,l,hm,_,hl=>absurd (gu.mp hm) hl
 |m+1,l,hm,hd,hl=>by
  obtain⟨a,c,rfl⟩:=jA hl
  have hc:48<=c/\c<=57:=hd c (by simp)
  have ha:AllDigits a:=λx hx=>hd x (cq _ hx)
  rw[digitsVal_snoc]
  rcases nz (digitsVal a) with e | e
  ·rw[e,Nat.zero_mul,Nat.zero_add,sY hc]
   simp
  ·have hne:a≠[]:=λz=>by subst z;exact absurd e (by decide)
   have ih:=yB m a (by simp at hm;omega) ha hne
   rw[tQ e hc,aq,aq]
   simp only[cz,List.length_nil]
   omega
theorem zZ {l:List Nat}:digitsVal (48 :: l)=digitsVal l:=rfl
theorem xD {w:Str}(hd:pP (signs w)=true)(h1:signs w≠[]):kG (eC w)=w↔rV (signs w)=false:=by
 have ha:=eY hd
 have es:signs (kG (eC w))=(gw 10 (digitsVal (signs w))).map la:=by
  unfold signs kG eC
  exact PySem.W.KIN.signs_num _
 constructor
 ·intro e
  rw[e] at es
  cases hl:rV (signs w) with
  |false=>rfl
  |true=>
   exfalso
   unfold rV at hl
   rw[cg,decide_eq_true_eq,decide_eq_true_eq] at hl
   obtain⟨k1,k2⟩:=hl
   generalize signs w=l at *
   cases l with
   |nil=>cases k2
   |cons x l=>
    cases k2
    have hl:l≠[]:=λz=>by subst z;simp at k1
    have:=yB l.length l rfl ha.tail hl
    rw[zZ] at es
    rw[<- es] at this
    simp at this
    omega
 ·intro hl
  refine nX ?_
  show signs (kG (eC w))=signs w
  rw[es]
  exact aDi _ _ rfl ha h1 hl
theorem fB {w:Str}(h:eT w=true):pP (signs w)=true/\signs w≠[]/\(signs w).length<=7/\rV (signs w)=false/\eC w<=1000000/\0<=eC w/\kG (eC w)=w/\si w=some (eC w):=by
 unfold eT at h
 simp only[cg,decide_eq_true_eq,ky] at h
 obtain⟨a,b,c,d,e⟩:=h
 have hne:signs w≠[]:=λz=>by rw[z] at b;simp at b
 refine⟨a,hne,c,d,by unfold eC;omega,by unfold eC;omega,(xD a hne).mpr d,?_⟩
 exact intText_digits (eY a) hne (by have:(signs w).length=w.length:=fb;omega)
theorem aAn {w:Str}(hd:pP (signs w)=true)(h1:signs w≠[])(h2:(signs w).length<=4300):si w=some (eC w):=
 intText_digits (eY hd) h1 (by have:(signs w).length=w.length:=fb;omega)
theorem mD {w:Str}(hd:pP (signs w)=true)(h1:signs w≠[])(h7:(signs w).length<=7):eT w=(!rV (signs w) && decide (eC w<=1000000)):=by
 unfold eT eC
 have:1<=(signs w).length:=by
  cases e:signs w with
  |nil=>exact absurd e h1
  |cons x l=>simp
 rw[hd,decide_eq_true this,decide_eq_true h7,dk,dk,dk]
 congr 1
 exact decide_eq_decide.mpr (by omega)
theorem yT {w:Str}(h:eT w=true):decide (eC w=0)=decide (w="0"):=by
 obtain⟨_,_,_,_,_,_,e,_⟩:=fB h
 refine decide_eq_decide.mpr ⟨λz=>?_,λz=>?_⟩
 ·rw[z] at e
  rw[<- e]
  decide
 ·subst z
  decide
def push (M:List (List Str)) (w:Str):List (List Str):=if w="/" then M++[[]] else M.dropLast++[M.getLastD []++[w]]
def par (W:List Str):List (List Str):=W.foldl push [[]]
theorem dF (W:List Str)(w:Str):par (W++[w])=push (par W) w:=by unfold par;rw[List.foldl_append];rfl
theorem cV (D:List (List Str))(r:List Str)(w:Str):push (D++[r]) w=if w="/" then D++[r]++[[]] else D++[r++[w]]:=by
 unfold push
 split
 ·rfl
 ·rw[List.dropLast_concat]
  simp
theorem cM:∀W:List Str,∃D r,par W=D++[r]:=λW=>by
 rcases List.eq_nil_or_concat W with rfl | ⟨L,b,rfl⟩
 ·exact⟨[],[],rfl⟩
 ·rw[List.concat_eq_append,dF]
  unfold push
  split
  ·exact⟨_,_,rfl⟩
  ·exact⟨_,_,rfl⟩
def mV (many n i:Nat) (r:List Str):Bool:=
 !(decide (8<r.length) || !r.all eT) && (!(decide (i<r.length) && !decide (r.getD i "" = "0")) && !(decide (1<many) && (decide (n<r.length) || (decide (i<many - 1) && decide (r.length<n)))))
def jY (M:List (List Str)):Bool:=((bu M.length).all λi=>mV M.length (M.getD 0 []).length i (M.getD i [])) && (decide (M.length=1) || (decide (1<(M.getD 0 []).length) && decide (M.length<=(M.getD 0 []).length)))
def aAR (M:List (List Str)) (w:Str):Bool:=
 if w="/" then decide ((M.getLastD []).length=(M.getD 0 []).length) && decide (M.length<(M.getLastD []).length)
 else eT w && (decide ((M.getLastD []).length<(if M.length=1 then 8 else(M.getD 0 []).length)) && (!decide ((M.getLastD []).length=M.length - 1) || decide (eC w=0)))
structure Bg (D:List (List Str))(r:List Str):Prop where
 num:∀q∈D++[r],∀w∈q,eT w=true
 own:∀(i:Nat) (q:List Str),(D++[r])[i]?=some q->∀w:Str,q[i]?=some w->w="0"
 one:D=[]->r.length<=8
 more:∀f E,D=f :: E->1<f.length/\f.length<=8/\D.length+1<=f.length/\(∀q∈D,q.length=f.length)/\r.length<=f.length
theorem aAf {many n i:Nat}{r:List Str}:mV many n i r=true↔r.length<=8/\(∀w∈r,eT w=true)/\(∀w:Str,r[i]?=some w->w="0")/\(1<many->r.length<=n/\(i<many - 1->n<=r.length)):=by
 unfold mV
 simp only[cg,ky,Bool.or_eq_false_iff,Bool.not_eq_false',decide_eq_false_iff_not,cp,rl,Bool.not_eq_false,decide_eq_true_eq,Nat.not_lt]
 constructor
 ·rintro⟨⟨a,b⟩,c,d⟩
  refine⟨a,b,λw hw=>?_,λhm=>?_⟩
  ·rcases c with c | c
   ·have:=(ao.mp hw).1
    omega
   ·rw[ah,hw] at c
    exact c
  ·rcases d with d | ⟨d,e⟩
   ·omega
   ·exact⟨d,λhi=>by rcases e with e | e <;> omega⟩
 ·rintro⟨a,b,c,d⟩
  refine⟨⟨a,b⟩,?_,?_⟩
  ·by_cases h:i<r.length
   ·refine .inr ?_
    rw[ah,ai h]
    exact c _ (ai h)
   ·exact .inl (by omega)
  ·by_cases h:1<many
   ·have:=d h
    refine .inr ⟨this.1,?_⟩
    by_cases hi:i<many - 1
    ·exact .inr (this.2 hi)
    ·exact .inl (by omega)
   ·exact .inl (by omega)
theorem fY {D:List (List Str)}{r:List Str}:jY (D++[r])=true↔Bg D r:=by
 unfold jY
 simp only[cg,cp,ip,aAf,rm,decide_eq_true_eq]
 have hlen:(D++[r]).length=D.length+1:=by simp
 constructor
 ·rintro⟨h,k⟩
  have at':∀i q,(D++[r])[i]?=some q->i<(D++[r]).length/\(D++[r]).getD i []=q:=λi q e=>⟨(ao.mp e).1,by rw[ah,e];rfl⟩
  refine⟨λq hq w hw=>?_,λi q e w hw=>?_,λe=>?_,λf E e=>?_⟩
  ·obtain⟨i,hi⟩:=iz hq
   obtain⟨a,b⟩:=at' i q hi
   have:=(h i a).2.1
   rw[b] at this
   exact this w hw
  ·obtain⟨a,b⟩:=at' i q e
   have:=(h i a).2.2.1
   rw[b] at this
   exact this w hw
  ·subst e
   exact(h 0 (by simp)).1
  ·have e0:(D++[r]).getD 0 []=f:=by rw[e];rfl
   rw[e0,hlen] at k h
   have hD:1<=D.length:=by rw[e];simp
   have h0:=h 0 (by omega)
   rw[e0] at h0
   have k':1<f.length/\D.length+1<=f.length:=by rcases k with k | k;omega;exact k
   refine⟨k'.1,h0.1,k'.2,λq hq=>?_,?_⟩
   ·obtain⟨i,hi⟩:=iz hq
    have hi':=(ao.mp hi).1
    have e1:(D++[r]).getD i []=q:=by rw[ah,br hi',hi];rfl
    have:=(h i (by omega)).2.2.2 (by omega)
    rw[e1] at this
    have:=this.2 (by omega)
    omega
   ·have e1:(D++[r]).getD D.length []=r:=by rw[ah,bo (av _),gx];rfl
    have:=(h D.length (by omega)).2.2.2 (by omega)
    rw[e1] at this
    exact this.1
 ·intro b
  rw[hlen]
  cases D with
  |nil=>
   refine⟨λi hi=>?_, .inl rfl⟩
   obtain rfl:i=0:=by simpa using hi
   exact⟨b.one rfl,b.num r (by simp),λw hw=>b.own 0 r rfl w hw,λz=>by simp at z⟩
  |cons f E=>
   obtain⟨m1,m2,m3,m4,m5⟩:=b.more f E rfl
   refine⟨λi hi=>?_, .inr ⟨m1,m3⟩⟩
   have e0:(f :: E++[r]).getD 0 []=f:=rfl
   have hi':i<(f :: E++[r]).length:=by rw[hlen];exact hi
   have eg:(f :: E++[r])[i]?=some ((f :: E++[r]).getD i []):=by rw[ah,ai hi'];rfl
   have hm:(f :: E++[r]).getD i []∈f :: E++[r]:=cu eg
   rw[e0]
   generalize hq:(f :: E++[r]).getD i []=q at *
   have ql:q.length<=f.length/\(i<(f :: E).length->q.length=f.length):=by
    refine⟨?_,λh=>?_⟩
    ·rcases bp.mp hm with z | z
     ·exact nj (m4 q z)
     ·rw[ar.mp z];exact m5
    ·rw[br h] at eg
     exact m4 q (cu eg)
   exact⟨by omega,b.num q hm,λw hw=>b.own i q eg w hw,λ_=>⟨ql.1,λz=>by have:=ql.2 (by omega);omega⟩⟩
theorem oS {D:List (List Str)}{r:List Str}:(D++[r]).getLastD []=r:=by simp
theorem tR {D:List (List Str)}{r:List Str}:(D++[r]).getD 0 []=match D with | []=>r | f :: _=>f:=by cases D <;> rfl
theorem aBt {D:List (List Str)}{r:List Str}(b:Bg D r)(w:Str):aAR (D++[r]) w=jY (push (D++[r]) w):=by
 have hlen:(D++[r]).length=D.length+1:=by simp
 rw[cV]
 unfold aAR
 rw[oS,tR,hlen]
 by_cases hw:w="/"
 ·rw[if_pos hw,if_pos hw]
  refine mz.mpr ?_
  rw[fY,cg,decide_eq_true_eq,decide_eq_true_eq]
  cases D with
  |nil=>
   show _/\0+1<r.length↔Bg ([]++[r]) []
   constructor
   ·rintro⟨_,h⟩
    refine⟨λq hq x hx=>?_,λi q e x hx=>?_,λe=>(by cases e),λf E e=>?_⟩
    ·rcases bp.mp hq with z | z
     ·exact b.num q z x hx
     ·rw[ar.mp z] at hx;cases hx
    ·cases i with
     |zero=>cases e;exact b.own 0 r rfl x hx
     |succ i=>cases i with
      |zero=>cases e;cases hx
      |succ i=>simp at e
    ·cases e
     have:=b.one rfl
     exact⟨by omega,this,by simp;omega,λq hq=>by rw[ar.mp hq],aj _⟩
   ·intro c
    have:=c.more r [] rfl
    exact⟨rfl,by omega⟩
  |cons f E=>
   obtain⟨m1,m2,m3,m4,m5⟩:=b.more f E rfl
   show r.length=f.length/\(f :: E).length+1<r.length↔Bg (f :: E++[r]) []
   constructor
   ·rintro⟨h,h'⟩
    refine⟨λq hq x hx=>?_,λi q e x hx=>?_,λe=>(by cases e),λg G e=>?_⟩
    ·rcases bp.mp hq with z | z
     ·exact b.num q z x hx
     ·rw[ar.mp z] at hx;cases hx
    ·by_cases hi:i<(f :: E++[r]).length
     ·rw[br hi] at e
      exact b.own i q e x hx
     ·rw[bo (by omega)] at e
      have:q=[]:=by
       cases j:i - (f :: E++[r]).length with
       |zero=>rw[j] at e;cases e;rfl
       |succ j'=>rw[j] at e;simp at e
      subst this
      cases hx
    ·have:g=f:=by cases e;rfl
     subst this
     refine⟨m1,m2,by simp at h' ⊢;omega,λq hq=>?_,aj _⟩
     rcases bp.mp hq with z | z
     ·exact m4 q z
     ·rw[ar.mp z];exact h
   ·intro c
    obtain⟨c1,c2,c3,c4,c5⟩:=c.more f (E++[r]) rfl
    have:=c4 r (by simp)
    simp at c3 ⊢
    exact⟨this,by omega⟩
 ·rw[if_neg hw,if_neg hw]
  refine mz.mpr ?_
  rw[fY,cg,cg,rm,ky,decide_eq_true_eq,decide_eq_true_eq,decide_eq_false_iff_not,Nat.add_sub_cancel]
  have zw:eT w=true->(eC w=0↔w="0"):=λh=>by
   have:=yT h
   exact decide_eq_decide.mp this
  have ow:(eT w=true/\(¬ r.length=D.length\/eC w=0))->∀(i:Nat) (q:List Str),(D++[r++[w]])[i]?=some q->∀x:Str,q[i]?=some x->x="0":=λ⟨hn,ho⟩ i q e x hx=>by
   by_cases hi:i<D.length
   ·rw[br hi] at e
    exact b.own i q (by rw[br hi];exact e) x hx
   ·have hi2:=(ao.mp e).1
    have:i=D.length:=by simp at hi2;omega
    subst this
    rw[bo (av _),gx] at e
    cases e
    by_cases hr:D.length<r.length
    ·rw[br hr] at hx
     exact b.own D.length r (by rw[bo (av _),gx];rfl) x hx
    ·rw[bo (by omega)] at hx
     cases j:D.length - r.length with
     |zero=>
      rw[j] at hx
      cases hx
      rcases ho with ho | ho
      ·omega
      ·exact(zw hn).mp ho
     |succ j'=>rw[j] at hx;simp at hx
  have nu:eT w=true->∀q∈D++[r++[w]],∀x∈q,eT x=true:=λhn q hq x hx=>by
   rcases bp.mp hq with z | z
   ·exact b.num q (cq _ z) x hx
   ·rw[ar.mp z] at hx
    rcases bp.mp hx with y | y
    ·exact b.num r (by simp) x y
    ·rw[ar.mp y];exact hn
  have bk:Bg D (r++[w])->eT w=true/\(¬ r.length=D.length\/eC w=0):=λc=>by
   have hn:eT w=true:=c.num (r++[w]) (by simp) w (by simp)
   refine⟨hn,?_⟩
   by_cases h:r.length=D.length
   ·refine .inr ((zw hn).mpr ?_)
    exact c.own D.length (r++[w]) (by rw[bo (av _),gx];rfl) w (by rw[bo (by omega),h,gx];rfl)
   ·exact .inl h
  cases D with
  |nil=>
   show eT w=true/\r.length<8/\_↔_
   constructor
   ·rintro⟨hn,h8,ho⟩
    exact⟨nu hn,ow ⟨hn,ho⟩,λ_=>by simp;omega,λf E e=>by cases e⟩
   ·intro c
    have:=c.one rfl
    simp at this
    exact⟨(bk c).1,by omega,(bk c).2⟩
  |cons f E=>
   obtain⟨m1,m2,m3,m4,m5⟩:=b.more f E rfl
   rw[if_neg (by simp)]
   show eT w=true/\r.length<f.length/\_↔_
   constructor
   ·rintro⟨hn,h8,ho⟩
    refine⟨nu hn,ow ⟨hn,ho⟩,λe=>(by cases e),λg G e=>?_⟩
    have:g=f:=by cases e;rfl
    subst this
    exact⟨m1,m2,m3,m4,by simp;omega⟩
   ·intro c
    obtain⟨c1,c2,c3,c4,c5⟩:=c.more f E rfl
    simp at c5
    exact⟨(bk c).1,by omega,(bk c).2⟩
theorem xX:jY [[]]=true:=by decide
def Tx (w:Str):Prop:=w.length<=800000
theorem zW {z:Str}{g:TG}{tb:TS}{D:lF}{σ:L2.St}{H:Hp}(Pv:Nat->L2.St->Hp->Prop)(h0:Pv 0 σ H)
  (hs:∀i c σ H,z.cps[i]?=some c->Pv i σ H->g (.str ⟨#[c]⟩) σ H λσ2 H2=>tb { D with nx:=Pv (i+1),ct:=Pv (i+1),bk:=D.nx } σ2 H2) (hd:∀σ H,Pv z.cps.size σ H->D.nx σ H) :
  jE (Its z) g tb D σ H:=by
 refine⟨λi m σ H=>m=z.cps.size - i/\i<=z.cps.size/\Pv i σ H,⟨z.cps.size,by simp,aj _,h0⟩,?_⟩
 rintro i m σ H ⟨rfl,hi,p⟩
 by_cases hlt:i<z.cps.size
 ·refine .inr ⟨hlt,Pv (i+1),λσ' H' p'=>⟨z.cps.size - (i+1),by omega,rfl,hlt,p'⟩,λx H' y=>?_⟩
  obtain⟨e,c,hc,ex⟩:=y
  subst e ex
  exact hs i c σ _ hc p
 ·have e:i=z.cps.size:=by omega
  subst e
  exact .inl ⟨av _,hd σ H p⟩
theorem wP {vars:List Nat}{tb:TS}{acc:Addr}{σ:L2.St}{H:Hp}{z:Str}{j:Nat}{L:Nat->List V}(hj:j∈vars)(hjl:j<σ.length)
  (h:∀i c σ' H',z.cps[i]?=some c->σ'.length=σ.length->Agree vars σ σ'->σ'[j]?=some (some (.str ⟨#[c]⟩))->SameX acc H H'->(∃pre,H' acc=some (.lst pre))->Emits vars tb acc σ' H' (L i)) :
  Emits vars (jE (Its z) (aX j) tb) acc σ H ((bu z.cps.size).flatMap L):=by
 intro D pre ha hz hd
 refine zW (z:=z) (g:=aX j) (D:=D) (λi σ' H'=>i<=z.cps.size/\σ'.length=σ.length/\Agree vars σ σ'/\SameX acc H H'/\H' acc=some (.lst (pre++(bu i).flatMap L))) ⟨aj _,rfl,Agree.refl _ _,SameX.refl _ _,by simpa using ha⟩ (λi c σ1 H1 hx ⟨_,hl1,ag1,sx1,h1⟩=>?_) λσ1 H1 ⟨_,hl1,ag1,sx1,h1⟩=>hd σ1 H1 hl1 ag1 sx1 h1
 have hi:i<z.cps.size:=(Array.getElem?_eq_some_iff.mp hx).1
 have hle:=cL L (show i+1<=z.cps.size from hi)
 rw[bC,aq] at hle
 have fin:∀σ' H',σ'.length=σ1.length->Agree vars (σ1.set j (some (.str ⟨#[c]⟩))) σ'->SameX acc H1 H'->H' acc=some (.lst ((pre++(bu i).flatMap L)++L i)) ->
   (i+1<=z.cps.size/\σ'.length=σ.length/\Agree vars σ σ'/\SameX acc H H'/\H' acc=some (.lst (pre++(bu (i+1)).flatMap L))):=λσ' H' hl ag sx h2=>
  ⟨hi,hl.trans hl1,(ag1.trans (Agree.set hj _)).trans ag,sx1.trans sx,by rw[h2,bC,i4]⟩
 refine h i c (σ1.set j (some (.str ⟨#[c]⟩))) H1 hx (by rw[dm];exact hl1) (ag1.trans (Agree.set hj _)) (lY (by omega)) sx1 ⟨_,h1⟩ _ _ h1 (by rw[aq];omega) λσ' H' hl ag sx h2=>fin σ' H' (hl.trans (dm ..)) ag sx h2
theorem aP {i j:Int}:eqD (.int i) (.int j)=decide (i=j):=by rw[eqD];rfl
theorem fN {x y:Str}:eqD (.str x) (.str y)=decide (x=y):=by rw[eqD];rfl
theorem gK (w:Str):(signs w).length=w.length:=fb
theorem aAy {w:Str}:mw w=(signs w).all (λc=>decide (c<128)):=by
 unfold mw signs
 rw[<- Array.all_toList]
theorem aDN:∀c:Nat,c<128->Unicode.isDigit c=(decide (48<=c) && decide (c<=57)):=by decide+kernel
theorem aCi {w:Str}(h:mw w=true):vp w=(decide (0<(signs w).length) && pP (signs w)):=by
 rw[aAy] at h
 unfold vp pP
 rw[<- Array.all_toList,gK]
 congr 1
 show(signs w).all _=(signs w).all _
 generalize signs w=l at h
 induction l with
 |nil=>rfl
 |cons c l ih=>
  rw[j3,cg,decide_eq_true_eq] at h
  rw[j3,j3,ih h.2,aDN c h.1]
theorem zU {w:Str}(h:pP (signs w)=true):mw w=true:=by
 rw[aAy,cp]
 intro c hc
 have:=eY h c hc
 exact decide_eq_true (by omega)
theorem qJ {w:Str}(h:7<w.length):eT w=false:=by
 unfold eT
 rw[gK,decide_eq_false (p:=w.length<=7) (by omega),dg,gv,gv]
theorem kU {w:Str}(h:pP (signs w)=false):eT w=false:=by unfold eT;rw[h,dg]
theorem uC {w:Str}(h:¬ 0<(signs w).length):eT w=false:=by
 unfold eT
 rw[decide_eq_false (p:=1<=(signs w).length) (by omega),dg,gv]
section
variable {K:aa}
def nuV (w:Str):V:=if eT w=true then .int (eC w) else .non
def zX:Sp:=λvs H Q _=>∃w:Str,vs=[.str w, .int 1000000]/\Tx w/\Q (nuV w) H
theorem yC:∀(m:Nat) (l:List Nat),l.length=m->AllDigits l->digitsVal l<10 ^ m
 |0,l,hm,_=>by
  rw[gu.mp hm]
  decide
 |m+1,l,hm,hd=>by
  have hl:l≠[]:=λe=>by rw[e] at hm;cases hm
  obtain⟨a,c,rfl⟩:=jA hl
  have hc:48<=c/\c<=57:=hd c (by simp)
  have ih:=yC m a (by simp at hm;omega) λx hx=>hd x (cq _ hx)
  rw[digitsVal_snoc,Nat.pow_succ]
  omega
theorem aCz {w:Str}(h:(signs w).length<=7)(hd:pP (signs w)=true):(eC w).natAbs<10 ^ 40:=by
 have h1:=yC _ _ rfl (eY hd)
 have h2:10 ^ (signs w).length<=10 ^ 7:=sd (by decide) h
 unfold eC
 have h3:(10:Nat) ^ 7<10 ^ 40:=by decide
 rw[Int.natAbs_natCast]
 omega
theorem aCI:∀vs H Q E,zX vs H Q E->lA K { nx:=λ_ H'=>Q .non H',rt:=Q } (bN ["word","most","number"] vs) H:=by
 intro vs H Q E h
 obtain⟨w,rfl,hT,q⟩:=h
 unfold Tx at hT
 unfold nuV at q
 have hm:(kG 1000000).length=7:=by decide+kernel
 refine⟨_,rfl,_,rfl,bc hT (by decide),_,rfl,1000000,rfl,by decide,_,rfl,by rw[hm];decide,_,_,rfl,rfl,_,rfl,aDm (λhl=>?_) λhl=>?_⟩
 ·rw[hm] at hl
  rw[qJ (by simp at hl;omega)] at q
  exact kK q
 rw[hm] at hl
 have h7:(signs w).length<=7:=by rw[gK];simp at hl;omega
 refine⟨_,rfl,rfl,_,rfl,rfl,_,rfl,?_⟩
 cases ha:mw w with
 |false=>
  have hd:pP (signs w)=false:=by
   cases hd:pP (signs w) with
   |false=>rfl
   |true=>rw[zU hd] at ha;cases ha
  rw[kU hd] at q
  exact kK (kK q)
 |true=>
  refine pE ⟨_,rfl,rfl,_,rfl,rfl,_,rfl,?_⟩
  rw[aCi ha]
  by_cases h0:0<(signs w).length
  ·rw[decide_eq_true h0,dk]
   cases hd:pP (signs w) with
   |false=>
    rw[kU hd] at q
    exact kK q
   |true=>
    have hne:signs w≠[]:=λe=>by rw[e] at h0;simp at h0
    refine pE ⟨_,rfl,_,eC w,rfl,aAn hd hne (by omega),by rw[<- gK];omega,?_⟩
    rw[mD hd hne h7] at q
    refine⟨_,rfl,_,rfl,_,_,rfl,rfl,_,rfl,?_⟩
    by_cases hv:eC w<=1000000
    ·refine bW (decide_eq_true hv) ?_
     rw[decide_eq_true hv,t8] at q
     refine⟨_,rfl,eC w,rfl,aCz h7 hd,_,rfl, .str _, .str _,aj _,rfl,rfl,_,rfl,?_⟩
     rw[fN]
     have hi:=xD hd hne
     cases hl:rV (signs w) with
     |false=>
      rw[hl] at q
      exact bW (decide_eq_true (hi.mpr hl)) ⟨_,rfl,q⟩
     |true=>
      rw[hl] at q
      exact bA (decide_eq_false λe=>by rw[hi.mp e] at hl;cases hl) q
    ·refine bA (decide_eq_false hv) ?_
     rw[decide_eq_false hv,gv] at q
     exact q
  ·rw[decide_eq_false h0,dg]
   rw[uC h0] at q
   exact kK q
theorem aCs (c:Nat):(!(dw ("0123456789" : Str) ⟨#[c]⟩ 0 ("0123456789" : Str).length 1).isEmpty)=(decide (48<=c) && decide (c<=57)):=by
 rw[StrLaws.found_one,mz,decide_eq_true_eq,cg,decide_eq_true_eq,decide_eq_true_eq]
 show c∈[48,49,50,51,52,53,54,55,56,57]↔_
 simp
 omega
theorem aBc:∀ds:List Dt,eqL ds []=decide (ds=[])
 |[]=>by unfold eqL;rfl
 |d :: ds=>by unfold eqL;rfl
theorem tH {H:Hp}:∀ws:List Str,ShL K H (ws.map Dt.str) (ws.map V.str)
 |[]=>rfl
 |w :: ws=>⟨_,_,rfl,rfl,tH ws⟩
theorem qX:∀ws:List Str,pO (ws.map Dt.str)=0
 |[]=>rfl
 |w :: ws=>by rw[e6,pO,qX ws];rfl
theorem vZ {α β:Type}(p:α->Bool)(f:α->β)(e:α):∀l:List α,((bu l.length).flatMap λi=>if(!p (l.getD i e))=true then[f (l.getD i e)] else[])=(l.filter λx=>!p x).map f
 |[]=>rfl
 |a :: l=>by
  rw[cz,ka,o9,List.flatMap_map]
  have ih:=vZ p f e l
  have e1:(bu l.length).flatMap (λi=>if(!p ((a :: l).getD (i+1) e))=true then[f ((a :: l).getD (i+1) e)] else[])=(l.filter λx=>!p x).map f:=ih
  show(if(!p a)=true then[f a] else[])++(bu l.length).flatMap (λi=>if(!p ((a :: l).getD (i+1) e))=true then[f ((a :: l).getD (i+1) e)] else[])=_
  rw[e1]
  cases h:p a <;> simp[h]
def aDt:Sp:=λvs H Q _=>∃w:Str,vs=[.str w]/\Tx w/\∀H',Same H H'->Q (.bl (eT w)) H'
theorem aAM {w:Str}:(signs w).length=w.cps.size:=fb
theorem aDG:∀vs H Q E,aDt vs H Q E->gM K { nx:=λ_ H'=>Q .non H',rt:=Q } (bN ["word"] vs) H:=by
 intro vs H Q E h
 obtain⟨w,rfl,hT,q⟩:=h
 unfold Tx at hT
 have q0:=q H (Same.refl _)
 refine⟨_,rfl, .str _, .str _,aj _,rfl,rfl,_,rfl,?_⟩
 rw[fN]
 by_cases he:w=""
 ·refine bW (decide_eq_true he) (kK ?_)
  rw[uC (by rw[he];decide)] at q0
  exact q0
 refine bA (decide_eq_false he) ?_
 have hne:signs w≠[]:=λz=>he (nX z)
 have hpos:0<(signs w).length:=gh.mpr hne
 refine⟨_,rfl,_,rfl,bc hT (by decide),_,_,rfl,rfl,_,rfl,aDm (λh7=>?_) λh7=>?_⟩
 ·rw[qJ (by simp at h7;omega)] at q0
  exact kK q0
 have h7':(signs w).length<=7:=by rw[gK];simp at h7;omega
 have go:rV (signs w)=false->(aZ (dL (kY (tOp (iV K) (gF [none] (aBa (aH 0)) (aX 0) [(bG (tOp (aBX true) (aH 0) (tC (.str "0123456789"))))] λacc=>(gE (aH 0) acc)) (lO aV)) (tOp yLe (tCB rZ (aB (aH 0) aV)) (tOp aBK (tC (.int 10)) (tC (.int 6)))))) aR) { nx:=λ_ H'=>Q .non H',rt:=Q } (bN ["word"] [.str w]) H:=λhld=>by
  refine⟨_,rfl,w,rfl,λacc hacc=>?_⟩
  refine cO [0] (((signs w).filter λc=>!(decide (48<=c) && decide (c<=57))).map λc=>V.str ⟨#[c]⟩) hacc (by rw[af];exact bc (rp _ _) (by omega)) ?_ λσ' H' sm hl'=>?_
  ·refine Emits.cast (L:=(bu w.cps.size).flatMap λi=>if(!((λc=>decide (48<=c) && decide (c<=57)) ((signs w).getD i 0)))=true then[V.str ⟨#[(signs w).getD i 0]⟩] else[]) ?_ (by rw[<- aAM];exact vZ (λc=>decide (48<=c) && decide (c<=57)) (λc=>V.str ⟨#[c]⟩) 0 (signs w))
   refine wP (by decide) (by show 0<1;decide) λi c σ1 H1 hx l1 ag1 s1 sx1 hp=>?_
   have hx':(signs w).getD i 0=c:=by
    unfold signs
    rw[ah,Array.getElem?_toList,hx]
    rfl
   rw[hx']
   refine aAc (λ_ _=>trivial) (λQ hQ=>⟨_,s1,_,_,rfl,rfl,_,rfl,?_⟩) λ_ H2 s2=>dX λQ hQ=>⟨_,s1,hQ _ (Same.refl _)⟩
   rw[aCs]
   exact hQ _ (Same.refl _)
  ·generalize hws:((signs w).filter λc=>!(decide (48<=c) && decide (c<=57)))=cs at *
   have e1:(cs.map λc=>V.str ⟨#[c]⟩)=(cs.map λc=>(⟨#[c]⟩:Str)).map V.str:=by rw[i6];rfl
   rw[e1] at hl'
   refine⟨aj _,λr hr=>?_⟩
   have sr:=aL hr (.lst [])
   have hdcs:decide (cs=[])=pP (signs w):=by
    rw[<- hws]
    unfold pP
    rw[mz,decide_eq_true_eq,List.filter_eq_nil_iff,cp]
    exact⟨λh c hc=>by have:=h c hc;simpa using this,λh c hc=>by have:=h c hc;simpa using this⟩
   refine⟨.lst ((cs.map λc=>(⟨#[c]⟩:Str)).map Dt.str), .lst [],by rw[dep,qX];decide,⟨acc,_,rfl, .of (sr _ _ hl'),tH _⟩,⟨r,[],rfl, .of aE,rfl⟩,_,rfl,?_⟩
   have eD:eqD (.lst ((cs.map λc=>(⟨#[c]⟩:Str)).map Dt.str)) (.lst [])=pP (signs w):=by
    rw[eqD,aBc,<- hdcs]
    exact decide_eq_decide.mpr (by simp)
   rw[eD]
   have q1:=q _ (sm.trans sr)
   cases hd:pP (signs w) with
   |false=>
    rw[kU hd] at q1
    exact pE q1
   |true=>
    refine kK ⟨_,rfl,_,eC w,rfl,aAn hd hne (by omega),by rw[<- gK];omega,10,6,rfl,rfl,⟨by decide,by decide,by decide⟩,_,_,rfl,rfl,?_⟩
    rw[mD hd hne h7',hld] at q1
    exact q1
 refine⟨_,rfl,_,rfl,bc hT (by decide),_,_,rfl,rfl,_,rfl,aDm (λh1=>?_) λh1=>?_⟩
 ·have h1':1<(signs w).length:=by rw[gK];simp at h1;omega
  have h0:(signs w)[0]?=some ((signs w).getD 0 0):=by rw[ah,ai (by omega)];rfl
  refine⟨_,rfl,_,0,(signs w).getD 0 0,rfl,rfl,bc hT (by decide),oG (j:=0) h0, .str _, .str _,aj _,rfl,rfl,_,rfl,?_⟩
  rw[fN]
  have e48:decide ((⟨#[(signs w).getD 0 0]⟩:Str)="0")=rV (signs w):=by
   unfold rV
   rw[decide_eq_true h1',dk,h0]
   refine decide_eq_decide.mpr ⟨λe=>?_,λe=>?_⟩
   ·have:=congrArg (λs:Str=>s.cps.toList) e
    have:[(signs w).getD 0 0]=[48]:=this
    rw[List.cons.inj this |>.1]
   ·rw[dv e]
    decide
  rw[e48]
  cases hld:rV (signs w) with
  |true=>
   refine kK ?_
   have:eT w=false:=by unfold eT;rw[hld];simp
   rw[this] at q0
   exact q0
  |false=>exact pE (go hld)
 ·refine pE (go ?_)
  unfold rV
  rw[decide_eq_false (by rw[gK];simp at h1;omega),dg]
end
end K84
namespace K84
open PySem L2
def Bnd (M:List (List Int)) (n:Nat):Prop:=∀i j,i<n->j<n->0<=at2 M i j/\at2 M i j<=1000000/\at2 M i i=0
structure Tb (T:List (List Int))(n:Nat):Prop where
 qd:Quad T n
 bd:Bnd T n
 lo:1<=n
 hi:n<=8
theorem Tb.mem {T:List (List Int)}{n:Nat}(t:Tb T n){r:List Int}(hr:r∈T):r.length=n/\∀x∈r,0<=x/\x<=1000000:=by
 obtain⟨i,hi,e⟩:=jr hr
 have hin:i<n:=by rw[<- t.qd.len];exact hi
 obtain⟨row,e1,e2,e3⟩:=t.qd.get hin
 rw[ai hi,e] at e1
 cases e1
 refine⟨e2,λx hx=>?_⟩
 obtain⟨j,hj,ej⟩:=jr hx
 have b:=t.bd i j hin (by omega)
 have e:at2 T i j=x:=by
  unfold at2
  rw[e3,ah,ai hj,ej]
  rfl
 rw[e] at b
 exact⟨b.1,b.2.1⟩
theorem vI {n j:Nat}(h:j<n):ixN n (j:Int)=some j:=by
 unfold ixN
 rw[if_pos (by omega),if_pos (by omega)]
 rfl
theorem aBP {T:List (List Int)}{n:Nat}(q:Quad T n)(n1:1<=n)(n8:n<=8)(h:∀r∈T,∀x∈r,0<=x/\x<=1000000)(d:∀k,k<n->at2 T k k=0):Tb T n:=by
 refine⟨q,λi j hi hj=>?_,n1,n8⟩
 obtain⟨row,e1,e2,e3⟩:=q.get hi
 have hm:=h row (cu e1)
 have e:at2 T i j=row.getD j 0:=by unfold at2;rw[e3]
 have hx:row.getD j 0∈row:=by
  rw[ah,ai (by omega)]
  exact e7 _
 rw[e]
 exact⟨(hm _ hx).1,(hm _ hx).2,d i hi⟩
theorem mS:∀{ns:List Int},(∀i∈ns,i.natAbs<10 ^ 40)->il (jP (ns.map Dt.int))=true/\gp 1930 (jP (ns.map Dt.int))=true/\jl (jP (ns.map Dt.int))<=ns.length/\pO (ns.map Dt.int)=0
 |[],_=>⟨by unfold uf jP il;rfl,by unfold uf jP gp;rfl,by unfold uf jP jl;exact aj _,rfl⟩
 |n :: ns,h=>by
  obtain⟨d,e,a,b,_⟩:=aAl (K:=default) (H:=λ_=>none) (h n (by simp))
  have hd:d = .int n:=by cases d <;> first | (cases e;done) | (cases e;rfl) | (obtain⟨_,_,z,_⟩:=e;cases z)
  subst hd
  obtain⟨a',b',c',f'⟩:=mS λi hi=>h i (aw _ hi)
  rw[e6]
  unfold jP il gp jl
  refine⟨by rw[a,a'];rfl,by rw[b,b'];rfl,?_,by rw[pO,f'];rfl⟩
  rw[cz]
  show 0+1+_<=_
  omega
theorem nL {m:Nat}:∀{T:List (List Int)},(∀r∈T,r.length<=m/\∀i∈r,i.natAbs<10 ^ 40)->il (jP (T.map λr=>Dt.tup (r.map Dt.int)))=true/\gp 1930 (jP (T.map λr=>Dt.tup (r.map Dt.int)))=true/\jl (jP (T.map λr=>Dt.tup (r.map Dt.int)))<=(m+1)*T.length/\pO (T.map λr=>Dt.tup (r.map Dt.int))<=1
 |[],_=>⟨by unfold uf jP il;rfl,by unfold uf jP gp;rfl,by unfold uf jP jl;exact aj _,aj _⟩
 |r :: T,h=>by
  obtain⟨hl,hi⟩:=h r (by simp)
  obtain⟨a,b,c,d⟩:=mS hi
  obtain⟨a',b',c',d'⟩:=nL (m:=m) λx hx=>h x (aw _ hx)
  rw[e6]
  unfold jP il gp jl
  refine⟨?_,?_,?_,?_⟩
  ·rw[a']
   unfold toP rf
   rw[a]
   rfl
  ·rw[b']
   unfold toP PyData.leavesShort
   rw[b]
   rfl
  ·rw[cz,Nat.mul_add,Nat.mul_one]
   unfold toP PyData.bulk
   omega
  ·rw[pO,dep,d]
   omega
theorem aCY {T:List (List Int)}{n:Nat}(q:Quad T n)(n9:n<=9)(h:∀r∈T,∀x∈r,x.natAbs<10 ^ 40):(toP (fK T)).showable=true/\(toP (fK T)).leavesShort 1930=true/\(toP (fK T)).bulk<=90/\dep (fK T)<=60:=by
 obtain⟨a,b,c,d⟩:=nL (m:=9) (T:=T) λr hr=>⟨by rw[q.row r hr];exact n9,h r hr⟩
 rw[q.len] at c
 exact⟨by unfold fK toP rf;exact a,by unfold fK toP PyData.leavesShort;exact b,by unfold fK toP PyData.bulk;omega,by unfold fK;rw[dep];omega⟩
theorem aEn {T:List (List Int)}{n:Nat}(t:Tb T n):okR (fK T):=by
 have h8:=t.hi
 obtain⟨a,b,c,d⟩:=aCY t.qd (by omega) λr hr x hx=>by
  have:=(t.mem hr).2 x hx
  exact ff (show x.natAbs<=1000000 by omega) (by decide)
 exact⟨a,b,by omega,by omega⟩
section
variable {K:aa}
def kB:Sp:=λvs H Q _=>∃(p l:Addr) (ns:List Int),vs=[.ref p]/\Pen H p l ns/\∀(r:Nat) H',r<=1000000->Pen H' p l ns->SameX p H H'->Q (.int (r:Int)) H'
theorem xM:∀vs H Q E,kB vs H Q E->gL K gJ { nx:=λ_ H'=>Q .non H',rt:=Q } (bN ["tape"] vs) H:=by
 intro vs H Q E h
 obtain⟨p,l,ns,rfl,hP,q⟩:=h
 refine aEm (s:=0) (ts:=[4,10,100,1000001]) (m:=4) rfl hP rfl (by decide) (by decide) (λR h=>h) (by decide) λt r H' ht hr hP' sx=>q r H' ?_ hP' sx
 simp at ht
 omega
def aEz (K:aa) (p l:Addr) (ns:List Int) (n:Nat) (H:Hp) (Q:VK):Prop:=∀(T:List (List Int)) (v:V) H',Tb T n->Sh K H' (fK T) v->Pen H' p l ns->SameX p H H'->Q v H'
def zP (K:aa):Sp:=λvs H Q _=>∃(p l:Addr) (ns:List Int) (n:Nat),vs=[.ref p, .int (n:Int)]/\Pen H p l ns/\1<=n/\n<=8/\aEz K p l ns n H Q
theorem aDf:∀vs H Q E,zP K vs H Q E->kX K kB { nx:=λ_ H'=>Q .non H',rt:=Q } (bN ["tape","many","rows","i","row"] vs) H:=by
 intro vs H Q E h
 obtain⟨p,l,ns,n,rfl,hP,n1,n8,q⟩:=h
 refine⟨aj _,λF hF=>?_⟩
 have hFp:=hP.ne hF
 refine⟨_,rfl,(n:Int),rfl,by omega,by omega,?_⟩
 rw[gy]
 refine hZ (lo:=0) (n:=n) (λi σ' H'=>i<=n/\∃x3 x4,σ'=[some (.ref p),some (.int (n:Int)),some (.ref F),x3,x4]/\∃L R,H' F=some (.lst L)/\Rows K H' L R/\R.length=i/\(∀r∈R,r.length=n/\∀x∈r,0<=x/\x<=1000000)/\(∀k,k<i->at2 R k k=0)/\Pen H' p l ns/\SameX p H H') ⟨aj _,_,_,rfl,[],[],aE,Rows.nil,rfl,by simp,λk hk=>absurd hk (j6 _),hP.x (aL hF _),(aL hF _).x⟩ (λi σ2 H2 hi ⟨_,x3,x4,es,L,R,e1,e2,e3,e4,e5,hP2,sx2⟩=>?_) λσ2 H2 ⟨_,x3,x4,es,L,R,e1,e2,e3,e4,e5,hP2,sx2⟩=>?_
 ·subst es
  rw[Int.zero_add]
  refine⟨_,rfl,(n:Int),rfl,by omega,by omega,λG hG=>?_⟩
  rw[gy]
  have hGp:=hP2.ne hG
  have hGF:G≠F:=λe=>by rw[e,e1] at hG;cases hG
  refine vA (lo:=0) (n:=n) (vars:=[0]) p (λi L H'=>∃r:List Int,L=r.map V.int/\r.length=i/\(∀x∈r,0<=x/\x<=1000000)/\Pen H' p l ns) (by decide) (by show 0<2;decide) ⟨[],rfl,rfl,by simp,hP2.x (aL hG _)⟩ hG (λj σ3 H3 L3 D hj l3 ag3 s3 sx3 ha3 ⟨r,f1,f2,f3,f4⟩ hD=>?_) λσ3 H3 L3 sx3 ha3 ⟨r,f1,f2,f3,f4⟩=>?_
  ·have t1:σ3[1]?=some (some (.ref p)):=(ag3 1 (by decide)).trans rfl
   refine⟨_,t1,p,l,ns,rfl,f4,λv H4 hv hP4 sx4=>?_⟩
   have ha4:=sx4 _ _ hGp.1 ha3
   refine⟨L3,ha4,by rw[f1,af];exact ff (show r.length<=8 by omega) (by decide),?_⟩
   refine hD σ3 _ _ l3 ag3 (λb o hb e=>?_) aE ⟨r++[(v:Int)],by rw[f1,fy];rfl,by rw[aq,f2];rfl,λx hx=>?_,hP4.upd hGp.1 hGp.2⟩
   ·rw[aM (aQ e hG)]
    exact sx4 _ _ hb (sx3 _ _ hb e)
   ·rcases bp.mp hx with hx | hx
    ·exact f3 x hx
    ·rw[ar.mp hx]
     omega
  ·subst f1
   have hi':i<r.length:=by omega
   refine⟨_,rfl,_,rfl,G,_,(i:Int),i,rfl,rfl,ha3,vI (by rw[af];exact hi'),?_⟩
   have eS:(r.map V.int).set i (.int 0)=(r.set i 0).map V.int:=by rw[List.map_set]
   rw[eS]
   have hP4:Pen (upd H3 G (.lst ((r.set i 0).map V.int))) p l ns:=f4.upd hGp.1 hGp.2
   have h4G:upd H3 G (.lst ((r.set i 0).map V.int)) G=some (.lst ((r.set i 0).map V.int)):=aE
   have sx4:SameX p H2 (upd H3 G (.lst ((r.set i 0).map V.int))):=λb o hb e=>by
    rw[aM (aQ e hG)]
    exact sx3 _ _ hb e
   have e14:upd H3 G (.lst ((r.set i 0).map V.int)) F=some (.lst L):=sx4 _ _ hFp.1 e1
   have e24:Rows K (upd H3 G (.lst ((r.set i 0).map V.int))) L R:=e2.map λb row hb=>by
    have hPx:H2 p=some (.lst _):=hP2.choose_spec.choose_spec.1
    rcases hb with(hb | ⟨u,hb⟩) | hb
    ·exact .inl (.inl (sx4 _ _ (ne_of hb hPx (λz=>nomatch z)) hb))
    ·exact .inl (.inr ⟨u,sx4 _ _ (ne_of hb hPx (λz=>nomatch z)) hb⟩)
    ·exact .inr hb
   generalize upd H3 G (.lst ((r.set i 0).map V.int))=H4 at hP4 h4G sx4 e14 e24 ⊢
   refine⟨_,rfl, .inl ⟨rfl,_, .of e14⟩,_,rfl,G,_,rfl, .inl ⟨.of h4G,λt ht=>?_⟩⟩
   have st:=aL ht (.tup ((r.set i 0).map V.int))
   have hF5:=st _ _ e14
   refine⟨F,L, .ref t,rfl,rfl,hF5,by rw[e2.1];exact ff (show R.length<=8 by omega) (by decide),?_⟩
   refine⟨hi,_,_,rfl,L++[.ref t],R++[r.set i 0],aE,Rows.snoc (Rows.put (e24.same st) hF5) (sK (.of aE) hF5),by rw[aq,e3];rfl,λs hs=>?_,λk hk=>?_,(hP4.x st).upd hFp.1 hFp.2,λb o hb e=>?_⟩
   ·rcases bp.mp hs with hs | hs
    ·exact e4 s hs
    ·rw[ar.mp hs,dm]
     refine⟨f2,λx hx=>?_⟩
     rcases oi hx with hx | hx
     ·exact f3 x hx
     ·omega
   ·by_cases c:k<i
    ·have h5:=e5 k c
     unfold at2 at h5 ⊢
     rw[ah (l:=R++[r.set i 0]),br (by omega),<- ah]
     exact h5
    ·obtain rfl:k=i:=by omega
     unfold at2
     rw[ah (l:=R++[r.set k 0]),bo (by omega),e3,gx]
     show(r.set k 0).getD k 0=0
     rw[ah,gc hi']
     rfl
   ·rw[aM (aQ e hF)]
    exact st _ _ (sx4 _ _ hb (sx2 _ _ hb e))
 ·subst es
  refine⟨_,rfl,F,L,rfl, .inl ⟨.of e1,λt ht=>?_⟩⟩
  have st:=aL ht (.tup L)
  have qR:Quad R n:=⟨e3,λr hr=>(e4 r hr).1⟩
  have e2':=e2.same st
  exact q R (.ref t) _ (aBP qR n1 n8 (λr hr=>(e4 r hr).2) e5) ⟨t,L,rfl, .of aE,ShL.of_rows e2'.1 e2'.2⟩ (hP2.x st) (sx2.trans st.x)
end
end K84
namespace K84
open PySem L2 PyProof.Rows
def Wd (T:List (List Int)):Prop:=T.length<=24/\∀r∈T,r.length<=8/\∀x∈r,0<=x/\x<=1000000
theorem Tb.wd {T:List (List Int)}{n:Nat}(t:Tb T n):Wd T:=⟨by have:=t.qd.len;have:=t.hi;omega,λr hr=>⟨by have:=(t.mem hr).1;have:=t.hi;omega,(t.mem hr).2⟩⟩
theorem Wd.sub {T T':List (List Int)}(w:Wd T)(hl:T'.length<=24)(h:∀r∈T',r∈T):Wd T':=⟨hl,λr hr=>w.2 r (h r hr)⟩
def mK (r:List Int):Str:=i8 " " (r.map kG)
def aCk (T:List (List Int)):Str:=i8 " / " (T.map mK)
theorem sR {i:Int}(h0:0<=i)(h1:i<=1000000):(kG i).length<=7:=toString_length_le h0 (by decide) (by omega)
theorem aDb {r:List Int}(h:∀x∈r,0<=x/\x<=1000000)(hl:r.length<=8):u3 " " (r.map kG)=true:=by
 have hB:∀y∈r.map kG,y.length<=7:=λy hy=>by
  obtain⟨x,hx,rfl⟩:=dn.mp hy
  exact sR (h x hx).1 (h x hx).2
 unfold u3
 rw[qi hB (by rw[af,show(" " : Str).length=1 from rfl];omega)]
 rfl
theorem xL {r:List Int}(h:∀x∈r,0<=x/\x<=1000000)(hl:r.length<=8):(mK r).length<=64:=by
 unfold mK i8
 rw[fo]
 refine bc (kd _ _) ?_
 have h1:=pb (B:=7) (r.map kG) λy hy=>by
  obtain⟨x,hx,rfl⟩:=dn.mp hy
  exact sR (h x hx).1 (h x hx).2
 rw[af] at h1 ⊢
 rw[show(" " : Str).length=1 from rfl]
 omega
theorem aCo {T:List (List Int)}(t:Wd T):u3 " / " (T.map mK)=true:=by
 have h8:=t.1
 have hB:∀y∈T.map mK,y.length<=64:=λy hy=>by
  obtain⟨r,hr,rfl⟩:=dn.mp hy
  have:=t.2 r hr
  exact xL this.2 this.1
 unfold u3
 rw[qi hB (by rw[af,show(" / " : Str).length=3 from rfl];omega)]
 rfl
theorem aAG {T:List (List Int)}(t:Wd T):(aCk T).length<=67*T.length:=by
 have h8:=t.1
 unfold aCk i8
 rw[fo]
 refine bc (kd _ _) ?_
 have h1:=pb (B:=64) (T.map mK) λy hy=>by
  obtain⟨r,hr,rfl⟩:=dn.mp hy
  have:=t.2 r hr
  exact xL this.2 this.1
 rw[af] at h1 ⊢
 rw[show(" / " : Str).length=3 from rfl]
 omega
theorem rL {α β:Type}(f:α->β)(e:α)(ds:List α):(bu ds.length).flatMap (λi=>[f (ds.getD i e)])=ds.map f:=iG f e ds
section
variable {K:aa}
def nO (K:aa):Sp:=λvs H Q _=>∃(v:V) (T:List (List Int)),vs=[v]/\Sh K H (fK T) v/\Wd T/\∀t H',t.length<=67*T.length->Same H H'->Q (.str t) H'
theorem yN:∀vs H Q E,nO K vs H Q E->jK K { nx:=λ_ H'=>Q .non H',rt:=Q } (bN ["table"] vs) H:=by
 intro vs H Q E h
 obtain⟨v,T,rfl,hS,tb,q⟩:=h
 obtain⟨a,xs,rfl,ha,hlen,hrow⟩:=hS.tab
 have h8:=tb.1
 refine⟨rfl,_,rfl,a,rfl, .inr ⟨⟨xs,ha⟩,λacc hacc=>?_⟩⟩
 refine cO [0] ((T.map mK).map V.str) hacc (by rw[af,af];omega) ?_ λσ' H' sm hl'=>⟨_,acc,T.map mK,rfl,rfl, .of hl',aCo tb,q _ _ (aAG tb) sm⟩
 refine Emits.cast (L:=(bu xs.length).flatMap λi=>[V.str (mK (T.getD i []))]) ?_ (by rw[hlen,rL (λr=>V.str (mK r)),i6];rfl)
 refine pN (by decide) (by show 0<1;decide) (λH' sx=>(cK hacc sx).tup ha) λi x σ1 H1 hx l1 ag1 s1 sx1 _=>?_
 refine dX λQ hQ=>?_
 have hi:i<T.length:=by rw[<- hlen];exact(ao.mp hx).1
 obtain⟨b,hb,hbq⟩:=hrow i _ (ai hi)
 rw[hx] at hb
 cases hb
 have er:T.getD i []=T[i]:=by rw[ah,ai hi];rfl
 rw[er] at hQ
 have hm:=tb.2 _ (e7 hi)
 have hb1:=(cK hacc sx1).tup hbq
 have hm1:=hm.1
 clear hS hrow
 generalize T[i]=r at hQ hm hb1 hm1
 refine⟨rfl,_,s1,b,rfl, .inr ⟨⟨_,hb1⟩,λacc2 hacc2=>?_⟩⟩
 refine cO [0] ((r.map kG).map V.str) hacc2 (by rw[af,af];omega) ?_ λσ' H' sm hl'=>⟨_,acc2,r.map kG,rfl,rfl, .of hl',aDb hm.2 (by omega),hQ _ sm⟩
 refine Emits.cast (L:=(bu (r.map V.int).length).flatMap λi=>[V.str (kG (r.getD i 0))]) ?_ (by rw[af,rL (λx=>V.str (kG x)),i6];rfl)
 refine pN (by decide) (by show 0<1;decide) (λH' sx=>(cK hacc2 sx).tup hb1) λj x σ2 H2 hx2 l2 ag2 s2 sx2 _=>?_
 refine dX λQ hQ=>?_
 rw[bh] at hx2
 cases ey:r[j]? with
 |none=>rw[ey] at hx2;cases hx2
 |some y=>
  rw[ey] at hx2
  cases hx2
  have ed:r.getD j 0=y:=by rw[ah,ey];rfl
  rw[ed] at hQ
  have hy:=hm.2 y (cu ey)
  exact⟨_,s2,y,rfl,ff (show y.natAbs<=1000000 by omega) (by decide),hQ _ (Same.refl _)⟩
end
structure Mg {α:Type}(f:α->V)(H:Hp)(F:Addr)(ls:List Addr)(M:List (List α)):Prop where
 top:H F=some (.lst (ls.map V.ref))
 len:ls.length=M.length
 row:∀(i:Nat) (l:Addr) (r:List α),ls[i]?=some l->M[i]?=some r->H l=some (.lst (r.map f))
 nd:ls.Nodup
 out:F∉ls
section
variable {α:Type}{f:α->V}
theorem Mg.same {H H':Hp}{F:Addr}{ls:List Addr}{M:List (List α)}(m:Mg f H F ls M)(e:Same H H'):Mg f H' F ls M:=⟨e _ _ m.top,m.len,λi l r a b=>e _ _ (m.row i l r a b),m.nd,m.out⟩
theorem aAN {H:Hp}{F l:Addr}{ls:List Addr}{M:List (List α)}{r:List α}{v:α}(m:Mg f H F ls (M++[r]))(hl:ls[M.length]?=some l):Mg f (upd H l (.lst ((r++[v]).map f))) F ls (M++[r++[v]]):=by
 have hmem:l∈ls:=cu hl
 have hFl:F≠l:=λe=>m.out (by rw[e];exact hmem)
 refine⟨by rw[aM hFl];exact m.top,by rw[m.len,aq,aq];rfl,λi l' r' h1 h2=>?_,m.nd,m.out⟩
 by_cases c:i=M.length
 ·subst c
  rw[hl] at h1
  cases h1
  rw[bo (av _),gx] at h2
  cases h2
  exact aE
 ·have hne:l'≠l:=λe=>by
   subst e
   have a1:i<ls.length:=(ao.mp h1).1
   have a2:M.length<ls.length:=(ao.mp hl).1
   have b1:=(ao.mp h1).2
   have b2:=(ao.mp hl).2
   exact c ((List.getElem_inj m.nd).mp (b1.trans b2.symm))
  have hi:i<(M++[r++[v]]).length:=(ao.mp h2).1
  have hi':i<M.length:=by rw[aq] at hi;simp at hi;omega
  rw[aM hne]
  refine m.row i l' r' h1 ?_
  rw[br hi'] at h2 ⊢
  exact h2
theorem aAS {H:Hp}{F q:Addr}{ls:List Addr}{M:List (List α)}(m:Mg f H F ls M)(hq:H q=none):Mg f (upd (upd H q (.lst [])) F (.lst ((ls++[q]).map V.ref))) F (ls++[q]) (M++[[]]):=by
 have hF:F≠q:=aQ m.top hq
 have hls:∀l∈ls,l≠q:=λl hl=>by
  obtain⟨i,hi,e⟩:=jr hl
  have hM:i<M.length:=by rw[<- m.len];exact hi
  have:=m.row i l _ (by rw[ai hi,e]) (ai hM)
  exact aQ this hq
 refine⟨aE,by rw[aq,aq,m.len];rfl,λi l r h1 h2=>?_,?_,λh=>?_⟩
 ·by_cases c:i<ls.length
  ·rw[br c] at h1
   rw[br (by rw[<- m.len];exact c)] at h2
   have hl:=cu h1
   have hlF:l≠F:=λe=>m.out (by rw[<- e];exact hl)
   rw[aM hlF,aM (hls l hl)]
   exact m.row i l r h1 h2
  ·have hi:i<(ls++[q]).length:=(ao.mp h1).1
   have:i=ls.length:=by rw[aq] at hi;simp at hi;omega
   subst this
   rw[bo (av _),gx] at h1
   rw[m.len,bo (av _),gx] at h2
   cases h1
   cases h2
   rw[aM hF.symm]
   exact aE
 ·rw[List.nodup_append]
  exact⟨m.nd,by simp,λa ha b hb=>by rw[ar.mp hb];exact hls a ha⟩
 ·rcases bp.mp h with h | h
  ·exact m.out h
  ·exact hF (ar.mp h)
theorem eV {H H':Hp}{l:Addr}{o:HO}(s:Same H H')(h:H l=none):Same H (upd H' l o):=λb u e=>by
 rw[aM (aQ e h)]
 exact s b u e
theorem iL {β:Type}{P:List β->Prop}(h0:P [])(h1:∀l x,P l->P (l++[x]))(l:List β):P l:=by
 have key:∀r:List β,P r.reverse:=λr=>by
  induction r with
  |nil=>exact h0
  |cons x r ih=>rw[List.reverse_cons];exact h1 _ _ ih
 have:=key l.reverse
 rwa[List.reverse_reverse] at this
theorem aAU:∀W:List Str,∀q∈par W,q.length<=W.length:=by
 refine iL (λq hq=>by rw[ar.mp hq];exact aj _) λV x ih q hq=>?_
 rw[dF] at hq
 obtain⟨D,r,e⟩:=cM V
 rw[e] at hq ih
 rw[cV] at hq
 rw[aq]
 split at hq
 ·rcases bp.mp hq with h | h
  ·have:=ih q h;omega
  ·rw[ar.mp h];exact aj _
 ·rcases bp.mp hq with h | h
  ·have:=ih q (cq _ h);omega
  ·have:=ih r (by simp)
   rw[ar.mp h,aq]
   simp
   exact this
theorem aAK:∀W:List Str,∀q∈par W,∀w∈q,w∈W/\w≠"/":=by
 refine iL (λq hq w hw=>by rw[ar.mp hq] at hw;cases hw) λV x ih q hq w hw=>?_
 rw[dF] at hq
 obtain⟨D,r,e⟩:=cM V
 rw[e] at hq ih
 rw[cV] at hq
 have up:∀q∈D++[r],w∈q->w∈V++[x]/\w≠"/":=λq hq hw=>⟨cq _ (ih q hq w hw).1,(ih q hq w hw).2⟩
 split at hq
 ·rcases bp.mp hq with h | h
  ·exact up q h hw
  ·rw[ar.mp h] at hw;cases hw
 ·rename_i hx
  rcases bp.mp hq with h | h
  ·exact up q (cq _ h) hw
  ·rw[ar.mp h] at hw
   rcases bp.mp hw with g | g
   ·exact up r (by simp) g
   ·rw[ar.mp g];exact⟨by simp,hx⟩
theorem wJ {H:Hp}{F:Addr}{ls:List Addr}{W:List Str}{f:Str->V}{w:Str}(m:Mg f H F ls (par W))(hw:w≠"/"):∃l r,(ls.map V.ref)[(ls.map V.ref).length - 1]?=some (.ref l)/\l∈ls/\r.length<=W.length/\H l=some (.lst (r.map f))/\Mg f (upd H l (.lst ((r++[w]).map f))) F ls (par (W++[w])):=by
 obtain⟨D,r,e⟩:=cM W
 have hr:r.length<=W.length:=aAU W r (by rw[e];simp)
 rw[dF,e,cV,if_neg hw]
 rw[e] at m
 have hlen:ls.length=D.length+1:=by rw[m.len];simp
 have hl:ls[D.length]?=some ls[D.length]:=ai (by omega)
 have et:(ls.map V.ref)[(ls.map V.ref).length - 1]?=some (.ref ls[D.length]):=by
  have:(ls.map V.ref).length - 1=D.length:=by rw[af];omega
  rw[this,bh,hl]
  rfl
 refine⟨ls[D.length],r,et,e7 _,hr,m.row D.length _ r hl (by rw[bo (av _),gx];rfl),aAN m hl⟩
theorem aAv {H:Hp}{F q:Addr}{ls:List Addr}{W:List Str}{f:Str->V}(m:Mg f H F ls (par W))(hq:H q=none):Mg f (upd (upd H q (.lst [])) F (.lst ((ls++[q]).map V.ref))) F (ls++[q]) (par (W++[("/" : Str)])):=by
 have e:par (W++[("/" : Str)])=par W++[[]]:=by
  obtain⟨D,r,e⟩:=cM W
  rw[dF,e,cV,if_pos rfl]
 rw[e]
 exact aAS m hq
theorem rX:∀W:List Str,1<=(par W).length/\(par W).length<=W.length+1:=by
 refine iL ⟨av _,av _⟩ λV x ih=>?_
 rw[dF]
 obtain⟨D,r,e⟩:=cM V
 rw[e] at ih ⊢
 rw[cV,aq (as:=V)]
 split <;> simp at ih ⊢ <;> omega
end
section
variable {K:aa}
theorem tD {f:Str->V}{H:Hp}{R:Addr}{ls:List Addr}{M:List (List Str)}(m:Mg f H R ls M){i:Nat}(hi:i<M.length):∃l,(ls.map V.ref)[i]?=some (.ref l)/\SqL K H l ((M.getD i []).map f):=by
 have hil:i<ls.length:=by rw[m.len];exact hi
 refine⟨ls[i],by rw[bh,ai hil];rfl, .of (m.row i _ _ (ai hil) ?_)⟩
 rw[ah,ai hi]
 rfl
def vaI (w:Str):V := .int (eC w)
def aAi (K:aa):Sp:=λvs H Q _=>∃(R:Addr) (ls:List Addr) (M:List (List Str)) (w:Str),vs=[.ref R, .str w]/\Mg vaI H R ls M/\1<=M.length/\Tx w/\Q (.bl (aAR M w)) H
theorem aAb {M:List (List Str)}(h:1<=M.length):M.getLastD []=M.getD (M.length - 1) []:=by
 rw[List.getLastD_eq_getLast?,List.getLast?_eq_getElem?,ah]
theorem aDa:∀vs H Q E,aAi K vs H Q E->nA K zX { nx:=λ_ H'=>Q .non H',rt:=Q } (bN ["rows","word","many","own","here","way"] vs) H:=by
 intro vs H Q E h
 obtain⟨R,ls,M,w,rfl,m,h1,hT,q⟩:=h
 obtain⟨l0,e0,q0⟩:=tD (K:=K) m (i:=0) (by omega)
 obtain⟨l1,e1,q1⟩:=tD (K:=K) m (i:=M.length - 1) (by omega)
 have top:SqL K H R (ls.map V.ref) := .of m.top
 have hlen:(ls.map V.ref).length=M.length:=by rw[af,m.len]
 have e1':(ls.map V.ref)[(ls.map V.ref).length - 1]?=some (.ref l1):=by rw[hlen];exact e1
 unfold aAR at q
 rw[aAb h1] at q
 generalize hf:M.getD 0 []=f at *
 generalize hg:M.getD (M.length - 1) []=g at *
 have many:∀P:VK,P (.int ((if M.length=1 then 8 else f.length:Nat):Int)) H->tIf (bG (tOp (iV K) (tCB (eA K) (aB (aH 0) aV)) (tC (.int 1)))) (tC (.int 8)) (tCB (eA K) (aB (tOp (eR K) (aH 0) (tC (.int 0))) aV)) (bN ["rows","word","many","own","here","way"] [.ref R, .str w]) H P:=λP hP=>by
  refine⟨_,rfl,R,_,rfl, .inl top, .int _, .int _,aj _,rfl,rfl,_,rfl,?_⟩
  rw[aP,hlen]
  by_cases c:M.length=1
  ·refine bW (decide_eq_true (by omega)) ?_
   rw[if_pos c] at hP
   exact hP
  ·refine bA (decide_eq_false (by omega)) ?_
   rw[if_neg c] at hP
   refine⟨_,rfl,ixL (j:=0) top e0 ⟨l0,_,rfl, .inl q0,?_⟩⟩
   rw[af]
   exact hP
 refine many _ ?_
 refine⟨_,rfl,R,_,rfl, .inl top,_,_,rfl,rfl,?_⟩
 rw[hlen]
 refine⟨_,rfl,1,rfl,kO top e1' ⟨l1,_,rfl, .inl q1,?_⟩⟩
 rw[af]
 refine⟨_,rfl, .str _, .str _,aj _,rfl,rfl,_,rfl,?_⟩
 rw[fN]
 by_cases hw:w="/"
 ·rw[if_pos hw] at q
  refine bW (decide_eq_true hw) ?_
  refine⟨_,rfl,_,rfl,ixL (j:=0) top e0 ⟨l0,_,rfl, .inl q0, .int _, .int _,aj _,rfl,rfl,_,rfl,?_⟩⟩
  rw[aP,af]
  by_cases c1:g.length=f.length
  ·refine bW (decide_eq_true (by omega)) ⟨_,rfl,R,_,rfl, .inl top,_,rfl,_,_,rfl,rfl,?_⟩
   rw[decide_eq_true c1,dk] at q
   rw[hlen,decide_eq_decide.mpr (show((M.length:Int)<(g.length:Int)↔M.length<g.length) by omega)]
   exact q
  ·rw[decide_eq_false c1,dg] at q
   exact bA (decide_eq_false (by omega)) q
 ·rw[if_neg hw] at q
  refine bA (decide_eq_false hw) ?_
  refine⟨_,rfl,w,rfl,hT,?_⟩
  unfold nuV
  cases hn:eT w with
  |false=>
   rw[hn,dg] at q
   exact⟨_,rfl, .inr ⟨rfl,_,rfl,q⟩⟩
  |true=>
   rw[hn,dk] at q
   refine⟨_,rfl, .inr ⟨rfl,_,rfl,bW (by simp) ?_⟩⟩
   refine⟨_,rfl,_,rfl,_,_,rfl,rfl,_,rfl,?_⟩
   by_cases c1:g.length<(if M.length=1 then 8 else f.length)
   ·rw[decide_eq_true c1,dk] at q
    refine bW (decide_eq_true (by omega)) ?_
    refine⟨_,rfl,_,rfl, .int _, .int _,aj _,rfl,rfl,_,rfl,?_⟩
    rw[aP]
    by_cases c:g.length=M.length - 1
    ·rw[decide_eq_true c,p9,ug] at q
     refine bA (by rw[decide_eq_true (by omega)];rfl) ⟨_,rfl, .int _, .int _,aj _,rfl,rfl,?_⟩
     rw[aP]
     exact q
    ·rw[decide_eq_false c,sk,u5] at q
     exact bW (by rw[decide_eq_false (by omega)];rfl) q
   ·rw[decide_eq_false c1,dg] at q
    exact bA (decide_eq_false (by omega)) q
end
theorem jG {W:List Str}{k:Nat}{w:Str}(h:W[k]?=some w):W.take (k+1)=W.take k++[w]:=by
 rw[List.take_succ,h]
 rfl
theorem aCS {M:List (List Str)}{i:Nat}(hi:i<M.length)(h:mV M.length (M.getD 0 []).length i (M.getD i [])=false):jY M=false:=by
 unfold jY
 rw[rl]
 refine .inl ?_
 cases e:(bu M.length).all λi=>mV M.length (M.getD 0 []).length i (M.getD i []) with
 |false=>rfl
 |true=>
  rw[cp] at e
  rw[e i (ip.mpr hi)] at h
  cases h
section
variable {K:aa}
def zM (K:aa):Sp:=λvs H Q _=>∃(a:Addr) (W:List Str),vs=[.ref a]/\SqL K H a (W.map V.str)/\(∀w∈W,Tx w)/\W.length<=800001/\∀H',Same H H'->Q (.bl (jY (par W))) H'
theorem aCm:∀vs H Q E,zM K vs H Q E->gQ K aDt { nx:=λ_ H'=>Q .non H',rt:=Q } (bN ["words","rows","word","many","number","row"] vs) H:=by
 intro vs H Q E h
 obtain⟨a,W,rfl,ha,hW,hz,q⟩:=h
 refine⟨aj _,λr0 hr0=>⟨show 1<=cb by decide,λR hR=>?_⟩⟩
 have nR0:R≠r0:=λe=>by rw[e,aE] at hR;cases hR
 rw[aM nR0] at hR
 have s0:Same H (upd (upd H r0 (.lst [])) R (.lst [.ref r0])):=eV (aL hr0 _) hR
 refine⟨_,rfl,a,rfl, .inl ⟨⟨_,s0.seq ha⟩,?_⟩⟩
 refine oP (K:=K) (xs:=W.map V.str) (λk σ' H'=>∃(ls:List Addr) (x2:Option V),σ'=[some (.ref a),some (.ref R),x2,none,none,none]/\Mg V.str H' R ls (par (W.take k))/\Same H H'/\∀l∈ls,H l=none) ?_ ?_ ?_ ?_
 ·refine⟨[r0],none,rfl,?_,s0,λl hm=>by rw[ar.mp hm];exact hr0⟩
  refine⟨aE,rfl,λi l r a b=>?_,by simp,by simpa using nR0⟩
  cases i with
  |zero=>
   cases a
   cases b
   rw[aM nR0.symm]
   exact aE
  |succ i=>simp at a
 ·rintro k σ' H' _ ⟨ls,x2,_,m,sm,_⟩
  exact sm.seq ha
 ·rintro k x σ' H' hx ⟨ls,x2,rfl,m,sm,fr⟩
  obtain⟨w,hw,rfl⟩:∃w,W[k]?=some w/\V.str w=x:=by
   rw[bh] at hx
   exact g7.mp hx
  have hk:k<W.length:=(ao.mp hw).1
  have htk:(W.take k).length=k:=by rw[fj];omega
  have hpl:=rX (W.take k)
  refine⟨_,rfl, .str _, .str _,aj _,rfl,rfl,_,rfl,?_⟩
  rw[fN]
  by_cases c:w="/"
  ·refine bW (decide_eq_true c) ?_
   refine⟨_,rfl, .inl ⟨rfl,_, .of m.top⟩,aj _,λz hz'=>?_⟩
   have hzR:=aQ m.top hz'
   refine⟨R,ls.map V.ref, .ref z,rfl,rfl,by rw[aM hzR];exact m.top,?_,?_⟩
   ·rw[af,m.len,dy]
    omega
   have m2:=aAv m hz'
   rw[fy] at m2
   have hHz:H z=none:=by
    cases e:H z with
    |none=>rfl
    |some o=>rw[sm _ _ e] at hz';cases hz'
   refine⟨ls++[z],_,rfl,by rw[jG hw,c];exact m2,eV (eV sm hHz) hR,λl hm=>?_⟩
   rcases bp.mp hm with h | h
   ·exact fr l h
   ·rw[ar.mp h]
    exact hHz
  ·refine bA (decide_eq_false c) ?_
   obtain⟨l,r,e1,e2,e3,e4,e5⟩:=wJ m c
   refine⟨_,rfl,1,rfl,kO (.of m.top) e1 ⟨.inl ⟨rfl,_, .of e4⟩,_,rfl,l,_,_,rfl,rfl,e4,?_,?_⟩⟩
   ·rw[af,dy]
    omega
   rw[fy] at e5
   exact⟨ls,_,rfl,by rw[jG hw];exact e5,eV sm (fr l e2),fr⟩
 ·rintro σ' H' ⟨ls,x2,rfl,m,sm,fr⟩
  rw[af,ia] at m
  have hpl:=rX W
  generalize hM:par W=M at *
  have q':∀H2,Same H' H2->Q (.bl (jY M)) H2:=λH2 s2=>q H2 (sm.trans s2)
  obtain⟨l0,e0,q0⟩:=tD (K:=K) m (i:=0) (by omega)
  have hlen:(ls.map V.ref).length=M.length:=by rw[af,m.len]
  have hmemW:∀r∈M,∀w∈r,Tx w:=λr hr w hw=>hW w (aAK W r (by rw[hM];exact hr) w hw).1
  refine⟨_,rfl,ixL (j:=0) (.of m.top) e0 ⟨l0,_,rfl, .inl q0,?_⟩⟩
  rw[af]
  refine⟨_,rfl,R,true,rfl,⟨_, .of m.top⟩,?_⟩
  refine pB (b:=true) (xs:=ls.map V.ref) (λk σ' H2=>∃(x4 x5:Option V),σ'=[some (.ref a),some (.ref R),x2,some (.int ((M.getD 0 []).length:Int)),x4,x5]/\Same H' H2/\∀i,i<k->mV M.length (M.getD 0 []).length i (M.getD i [])=true) ⟨_,_,rfl,Same.refl _,λi hi=>absurd hi (j6 _)⟩ ?_ ?_ ?_
  ·rintro k σ2 H2 _ ⟨x4,x5,_,s2,_⟩
   exact .of (s2 _ _ m.top)
  ·rintro k x σ2 H2 p hx hp ⟨x4,x5,rfl,s2,hr⟩
   have hk:k<M.length:=by rw[<- hlen];exact(ao.mp hx).1
   obtain⟨lk,ek,qk⟩:=tD (K:=K) m hk
   rw[ek] at hx
   cases hx
   have s3:=s2.trans (aL hp (.tup [.int (k:Int), .ref lk]))
   have hmem:M.getD k []∈M:=by rw[ah,ai hk];exact e7 hk
   have hTx:=hmemW _ hmem
   have no:mV M.length (M.getD 0 []).length k (M.getD k [])=false->∀H3,Same H' H3->Q (.bl false) H3:=λe H3 s3=>by
    have:=q' H3 s3
    rw[aCS hk e] at this
    exact this
   have yes:mV M.length (M.getD 0 []).length k (M.getD k [])=true->∀i,i<k+1->mV M.length (M.getD 0 []).length i (M.getD i [])=true:=λe i hi=>by
    by_cases c:i<k
    ·exact hr i c
    ·rw[show i=k by omega];exact e
   have qk3:=s3.seq qk
   have top3:=s3 _ _ m.top
   clear q q' hmemW hmem hr
   generalize M.getD k []=r at *
   generalize hn:(M.getD 0 []).length=n at *
   refine⟨p,_,rfl, .of aE,rfl,_,_,rfl,_,_,rfl,rfl,?_⟩
   generalize upd H2 p (.tup [.int (k:Int), .ref lk])=H3 at *
   have third:r.all eT=true->¬ 8<r.length->∀H4,Same H' H4->SqL K H4 lk (r.map V.str)->H4 R=some (.lst (ls.map V.ref))->(aZ (fH (xE (bG (tOp yGt (tCB (eA K) (aB (aH 5) aV)) (aH 4))) (bG (tOp (aAC K) (tOp (eR K) (aH 5) (aH 4)) (tC (.str "0"))))) (aZ (dL (tC (.bl false))) aR) aR) (aZ (fH (xE (bG (tOp yGt (tCB (eA K) (aB (aH 1) aV)) (tC (.int 1)))) (tOr (bG (tOp yGt (tCB (eA K) (aB (aH 5) aV)) (aH 3))) (xE (bG (tOp yLt (aH 4) (tOp aCV (tCB (eA K) (aB (aH 1) aV)) (tC (.int 1))))) (bG (tOp yLt (tCB (eA K) (aB (aH 5) aV)) (aH 3)))))) (aZ (dL (tC (.bl false))) aR) aR) aR)) { nx:=λσ' H2=>∃(x4 x5:Option V),σ'=[some (.ref a),some (.ref R),x2,some (.int (n:Int)),x4,x5]/\Same H' H2/\∀i,i<k+1->mV M.length n i (M.getD i [])=true,rt:=Q } ([some (.ref a),some (.ref R),x2,some (.int (n:Int)),some (.int (k:Int)),some (.ref lk)]:L2.St) H4:=λc1 c2 H4 s4 q4 t4=>by
    have rest:(¬ k<r.length\/r.getD k "" = "0")->(aZ (fH (xE (bG (tOp yGt (tCB (eA K) (aB (aH 1) aV)) (tC (.int 1)))) (tOr (bG (tOp yGt (tCB (eA K) (aB (aH 5) aV)) (aH 3))) (xE (bG (tOp yLt (aH 4) (tOp aCV (tCB (eA K) (aB (aH 1) aV)) (tC (.int 1))))) (bG (tOp yLt (tCB (eA K) (aB (aH 5) aV)) (aH 3)))))) (aZ (dL (tC (.bl false))) aR) aR) aR) { nx:=λσ' H2=>∃(x4 x5:Option V),σ'=[some (.ref a),some (.ref R),x2,some (.int (n:Int)),x4,x5]/\Same H' H2/\∀i,i<k+1->mV M.length n i (M.getD i [])=true,rt:=Q } ([some (.ref a),some (.ref R),x2,some (.int (n:Int)),some (.int (k:Int)),some (.ref lk)]:L2.St) H4:=λc3=>by
     have er:mV M.length n k r = !(decide (1<M.length) && (decide (n<r.length) || (decide (k<M.length - 1) && decide (r.length<n)))):=by
      unfold mV
      rw[c1,decide_eq_false c2]
      have:(decide (k<r.length) && !decide (r.getD k "" = "0"))=false:=by
       rcases c3 with c | c
       ·rw[decide_eq_false c,dg]
       ·rw[decide_eq_true c,p9,gv]
      rw[this]
      rfl
     have fin:mV M.length n k r=true->(∃(x4 x5:Option V),([some (.ref a),some (.ref R),x2,some (.int (n:Int)),some (.int (k:Int)),some (.ref lk)]:L2.St)=[some (.ref a),some (.ref R),x2,some (.int (n:Int)),x4,x5]/\Same H' H4/\∀i,i<k+1->mV M.length n i (M.getD i [])=true):=λe=>⟨_,_,rfl,s4,yes e⟩
     have bad:mV M.length n k r=false->Q (.bl false) H4:=λe=>no e H4 s4
     rw[er] at fin bad
     refine⟨_,rfl,R,_,rfl, .inl (.of t4),_,_,rfl,rfl,_,rfl,?_⟩
     rw[hlen]
     by_cases d1:1<M.length
     ·rw[decide_eq_true d1,dk] at fin bad
      refine bW (decide_eq_true (by omega)) ⟨_,rfl,lk,_,rfl, .inl q4,_,rfl,_,_,rfl,rfl,_,rfl,?_⟩
      rw[af]
      by_cases d2:n<r.length
      ·rw[decide_eq_true d2,u5] at bad
       exact bW (decide_eq_true (by omega)) (kK (bad rfl))
      ·rw[decide_eq_false d2,ug] at fin bad
       refine bA (decide_eq_false (by omega)) ⟨_,rfl,_,rfl,R,_,rfl, .inl (.of t4),_,_,rfl,rfl,_,_,rfl,rfl,_,rfl,?_⟩
       rw[hlen]
       by_cases d3:k<M.length - 1
       ·rw[decide_eq_true d3,dk] at fin bad
        refine bW (decide_eq_true (by omega)) ⟨_,rfl,lk,_,rfl, .inl q4,_,rfl,_,_,rfl,rfl,_,rfl,?_⟩
        rw[af]
        by_cases d4:r.length<n
        ·rw[decide_eq_true d4] at bad
         exact bW (decide_eq_true (by omega)) (bad rfl)
        ·rw[decide_eq_false d4] at fin
         exact bA (decide_eq_false (by omega)) (fin rfl)
       ·rw[decide_eq_false d3,dg] at fin
        exact bA (decide_eq_false (by omega)) (pE (fin rfl))
     ·rw[decide_eq_false d1,dg] at fin
      exact bA (decide_eq_false (by omega)) (pE (fin rfl))
    refine⟨_,rfl,lk,_,rfl, .inl q4,_,rfl,_,_,rfl,rfl,_,rfl,?_⟩
    rw[af]
    by_cases d1:k<r.length
    ·refine bW (decide_eq_true (by omega)) ⟨_,rfl,_,rfl,ixL (j:=k) (v := .str (r.getD k "")) q4 (by rw[bh,ah,ai d1];rfl) ⟨.str _, .str _,aj _,rfl,rfl,_,rfl,?_⟩⟩
     rw[fN]
     by_cases d2:r.getD k "" = "0"
     ·exact bA (by rw[decide_eq_true d2];rfl) (rest (.inr d2))
     ·refine bW (by rw[decide_eq_false d2];rfl) (no ?_ H4 s4)
      unfold mV
      rw[decide_eq_true d1,decide_eq_false d2,dk,sk,p9,dg,gv]
    ·exact bA (decide_eq_false (by omega)) (pE (rest (.inl d1)))
   refine⟨_,rfl,lk,_,rfl, .inl qk3,_,_,rfl,rfl,_,rfl,?_⟩
   rw[af]
   by_cases c2:8<r.length
   ·refine bW (decide_eq_true (by omega)) (kK (no ?_ _ s3))
    unfold mV
    rw[decide_eq_true c2]
    rfl
   refine bA (decide_eq_false (by omega)) ?_
   refine⟨_,rfl,lk,rfl, .inl ⟨⟨_,qk3⟩,λacc hacc=>?_⟩⟩
   refine cO [0] ((r.map eT).map V.bl) hacc (by rw[af,af];omega) ?_ λσ' H4 sm4 hl'=>⟨acc,r.map eT,rfl, .inl (.of hl'),_,rfl,?_⟩
   ·refine Emits.cast (L:=(bu (r.map V.str).length).flatMap λi=>[V.bl (eT (r.getD i ""))]) ?_ (by rw[af,iG (λx=>V.bl (eT x)),i6];rfl)
    refine rO (by decide) (by show 0<1;decide) (λH' sx=>(cK hacc sx).seq qk3) λi x σ5 H5 hx l5 ag5 s5 sx5 _=>?_
    refine dX λQ hQ=>?_
    rw[bh] at hx
    cases ey:r[i]? with
    |none=>rw[ey] at hx;cases hx
    |some y=>
     rw[ey] at hx
     cases hx
     have ed:r.getD i "" = y:=by rw[ah,ey];rfl
     rw[ed] at hQ
     exact⟨_,s5,y,rfl,hTx y (cu ey),hQ⟩
   ·rw[ra]
    show(λb H1=>if b=true then _ else _) (!(r.all eT)) H4
    cases c1:r.all eT with
    |false=>
     refine kK (no ?_ H4 (s3.trans sm4))
     unfold mV
     rw[c1,sk,rk]
     rfl
    |true=>exact pE (third c1 c2 H4 (s3.trans sm4) (sm4.seq qk3) (sm4 _ _ top3))
  ·rintro σ2 H2 ⟨x4,x5,rfl,s2,hr⟩
   rw[hlen] at hr
   have top2:=s2 _ _ m.top
   have hq:=q' H2 s2
   have eall:((bu M.length).all λi=>mV M.length (M.getD 0 []).length i (M.getD i []))=true:=cp.mpr λi hi=>hr i (ip.mp hi)
   unfold jY at hq
   rw[eall,dk] at hq
   refine⟨_,rfl,R,_,rfl, .inl (.of top2), .int _, .int _,aj _,rfl,rfl,_,rfl,?_⟩
   rw[aP,hlen]
   by_cases c:M.length=1
   ·rw[decide_eq_true c,u5] at hq
    exact bW (decide_eq_true (by omega)) hq
   ·rw[decide_eq_false c,ug] at hq
    refine bA (decide_eq_false (by omega)) ⟨_,rfl,_,_,rfl,rfl,_,rfl,?_⟩
    by_cases c1:1<(M.getD 0 []).length
    ·rw[decide_eq_true c1,dk] at hq
     refine bW (decide_eq_true (by omega)) ⟨_,rfl,R,_,rfl, .inl (.of top2),_,rfl,_,_,rfl,rfl,?_⟩
     rw[hlen,decide_eq_decide.mpr (show((M.length:Int)<=((M.getD 0 []).length:Int)↔M.length<=(M.getD 0 []).length) by omega)]
     exact hq
    ·rw[decide_eq_false c1,dg] at hq
     exact bA (decide_eq_false (by omega)) hq
end
def Sm (ws:List Str):Prop:=ws.length<=1200/\∀w∈ws,w.length<=600
theorem Sm.sub {us ws:List Str}(s:Sm ws)(hl:us.length<=1200)(h:∀w∈us,w∈ws):Sm us:=⟨hl,λw hw=>s.2 w (h w hw)⟩
theorem aCu {ws:List Str}(s:Sm ws):u3 " " ws=true:=by
 unfold u3
 have h1:=s.1
 rw[qi s.2 (by rw[show(" " : Str).length=1 from rfl];omega)]
 rfl
theorem aAm {ws:List Str}(s:Sm ws):(i8 " " ws).length<=730000:=by
 unfold i8
 rw[fo]
 refine bc (kd _ _) ?_
 have h1:=pb (B:=600) ws s.2
 have h2:=s.1
 rw[show(" " : Str).length=1 from rfl]
 omega
section
variable {K:aa}
theorem cU {H:Hp}{W:Addr}{ws:List Str}{lo hi:Option Int}{Q:VK}(h:SqL K H W (ws.map V.str))(q:∀(A:Addr) (H':Hp) (us:List Str),Same H H'->H' A=some (.lst (us.map V.str))->us.length<=ws.length->(∀w∈us,w∈ws)->Q (.ref A) H'):mO K (.ref W) lo hi H Q:=by
 refine .inl ⟨W,_,rfl,h,λA hA=>?_⟩
 have e:rS (ws.map V.str) lo hi=((ws.drop (HT.sIx ws.length 0 lo)).take (HT.sIx ws.length ws.length hi - HT.sIx ws.length 0 lo)).map V.str:=by
  unfold rS
  rw[af,pk,t9]
 rw[e]
 refine q A _ _ (aL hA _) aE ?_ λw hw=>se (ly hw)
 rw[fj,jn]
 omega
theorem dH {H:Hp}{a b:Addr}{us vs:List Str}{Q:VK}(ha:H a=some (.lst (us.map V.str)))(hb:H b=some (.lst (vs.map V.str)))(hz:us.length+vs.length<=2400)(q:∀(p:Addr) (H':Hp),Same H H'->H' p=some (.lst ((us++vs).map V.str))->Q (.ref p) H'):bV K (.ref a) (.ref b) H Q:=by
 refine .inl ⟨a,b,_,_,rfl,rfl,ha,hb,by rw[af,af,dy];omega,λp hp=>?_⟩
 rw[<- fy]
 exact q p _ (aL hp _) aE
theorem dQ {H:Hp}{a:Addr}{ws:List Str}{Q:VK}(ha:H a=some (.lst (ws.map V.str)))(s:Sm ws)(q:∀t:Str,t.length<=730000->Q (.str t) H):lS K (.str " ") [.ref a] H Q:=
 ⟨_,a,ws,rfl,rfl, .of ha,aCu s,q _ (aAm s)⟩
theorem hV (x:Str):(bb x " ").length<=x.length+1/\(∀w∈bb x " ",w.length<=x.length)/\bb x " "≠[]:=by
 have hne:bb x " "≠[]:=by
  unfold bb
  split
  ·exact List.cons_ne_nil _ _
  ·split
   ·exact List.cons_ne_nil _ _
   ·unfold jy
    simp
 have e:=e9 x " "
 generalize bb x " " = P at e hne
 have key:∀P:List Str,P≠[]->P.length<=(dh " " P).length+1/\∀w∈P,w.length<=(dh " " P).length:=by
  intro P
  induction P with
  |nil=>intro h;exact absurd rfl h
  |cons a P ih=>
   intro _
   cases P with
   |nil=>exact⟨by show 1<=_;omega,λw hw=>by rw[ar.mp hw];exact av _⟩
   |cons b P=>
    obtain⟨i1,i2⟩:=ih (by simp)
    have el:(dh " " (a :: b :: P)).length=a.length+1+(dh " " (b :: P)).length:=by
     show(a ++ " " ++ dh " " (b :: P)).length=_
     rw[gj,gj]
     rfl
    rw[el]
    refine⟨by rw[cz];omega,λw hw=>?_⟩
    rcases dc.mp hw with rfl | hw
    ·omega
    ·have:=i2 w hw
     omega
 have:=key P hne
 rw[e] at this
 exact⟨this.1,this.2,hne⟩
theorem mE {H:Hp}{v:V}{T:List (List Int)}{lo hi:Option Int}{Q:VK}(h:Sh K H (fK T) v)(q:∀(v':V) (H':Hp) (T':List (List Int)),Same H H'->Sh K H' (fK T') v'->T'.length<=T.length->(∀r∈T',r∈T)->Q v' H'):mO K v lo hi H Q:=by
 obtain⟨a,xs,rfl,ha,hL⟩:=h
 refine .inr ⟨a,xs,rfl,ha,λp H' s hp=>?_⟩
 have hl:T.length=xs.length:=by have:=hL.length;rw[af] at this;exact this
 refine q (.ref p) H' ((T.drop (HT.sIx xs.length 0 lo)).take (HT.sIx xs.length xs.length hi - HT.sIx xs.length 0 lo)) s ⟨p,_,rfl,hp,?_⟩ ?_ λw hw=>se (ly hw)
 ·unfold rS
  rw[pk,t9]
  exact((hL.same s).drop _).take _
 ·rw[fj,jn]
  omega
theorem nS {H:Hp}{v u:V}{T U:List (List Int)}{Q:VK}(hv:Sh K H (fK T) v)(hu:Sh K H (fK U) u)(hz:T.length+U.length<=100)(q:∀(v':V) (H':Hp),Same H H'->Sh K H' (fK (T++U)) v'->Q v' H'):bV K v u H Q:=by
 obtain⟨a,xs,rfl,ha,hL⟩:=hv
 obtain⟨b,ys,rfl,hb,hM⟩:=hu
 have e1:=hL.length
 have e2:=hM.length
 rw[af] at e1 e2
 refine .inr ⟨a,b,xs,ys,rfl,rfl,ha,hb,by rw[dy];omega,λp H' _ hp s=>q (.ref p) H' s ⟨p,_,rfl,hp,?_⟩⟩
 rw[fy]
 exact(hL.same s).append (hM.same s)
def tK:List Str:=["/","0","00","01","1000000","1000001","0999999","-1","+1","1.0","1_0","","//","0/","/1","x","5","123456","12345678","9999999","0x1","1,2","\n","0\t"," ","\n0","\t5","5\n","1\t0","\t"]
theorem aAZ:∀w∈tK,w.length<=8:=by decide+kernel
def sgs:Str:=" !\"#$&'()*+,-./0123456789:;<=>?@ABCDEFGHIJKLMNOPQRSTUVWXYZ[\\]^_`abcdefghijklmnopqrstuvwxyz{|}~"
theorem oK:sgs.length=94:=by decide+kernel
def tO:Sp:=λvs H Q _=>∃(p l:Addr) (ns:List Int),vs=[.ref p]/\Pen H p l ns/\∀(t:Str) H',t.length<=8->Pen H' p l ns->SameX p H H'->Q (.str t) H'
theorem qP {σ:L2.St}{H:Hp}{p l:Addr}{ns:List Int}{Q:VK}(h0:σ[0]?=some (some (.ref p)))(h1:σ[1]?=some (some (.str sgs)))(hP:Pen H p l ns)(q:∀c H',Pen H' p l ns->SameX p H H'->Q (.str ⟨#[c]⟩) H') :
  tOp aBY (aH 1) (bQ gJ [] E0 (aB (aH 0) (aB (tCB qV (aB (aH 1) aV)) aV))) σ H Q:=by
 refine⟨_,h1,_,h0,_,h1,sgs,rfl,by rw[oK];decide,p,l,ns,sgs.length,rfl,hP,by rw[oK];decide,by rw[oK];decide,λr H' hr hP' sx=>?_⟩
 have hr':r<sgs.cps.toList.length:=by rw[fb];exact hr
 exact⟨sgs,_,sgs.cps.toList[r],rfl,rfl,by rw[oK];decide,oG (ai hr'),q _ H' hP' sx⟩
theorem aBB:∀vs H Q E,tO vs H Q E->jV K gJ { nx:=λ_ H'=>Q .non H',rt:=Q } (bN ["tape","signs","some","one"] vs) H:=by
 intro vs H Q E h
 obtain⟨p,l,ns,rfl,hP,q⟩:=h
 refine⟨show 16<=cb by decide,λF0 hF0=>?_⟩
 refine⟨_,rfl,show 13<=cb by decide,λF1 hF1 => .inl ⟨F0,F1,(tK.take 16).map V.str,((tK.drop 16).take 13).map V.str,rfl,rfl,?_,aE,show 16+13<=cb by decide,λF2 hF2=>?_⟩⟩
 ·have n01:F0≠F1:=λe=>by rw[<- e,aE] at hF1;cases hF1
  rw[aM n01]
  exact aE
 refine⟨_,rfl, .inl ⟨rfl,_, .of aE⟩,F2,(tK.take 29).map V.str,_,rfl,rfl,aE,show 29<cb by decide,?_⟩
 have sA:=(aL hF0 _).trans (aL hF1 (.lst [.str "5", .str "123456", .str "12345678", .str "9999999", .str "0x1", .str "1,2", .str "\n", .str "0\t", .str " ", .str "\n0", .str "\t5", .str "5\n", .str "1\t0"]))
 have nF:=((hP.x sA).ne hF2).1
 have sB:=sA.trans (wO (o := .lst (tK.map V.str)) hF2 (aL hF2 (.lst ((tK.take 29).map V.str))))
 refine qP rfl rfl (hP.x sB) λc H1 hP1 sx1=>qP rfl rfl hP1 λd H2 hP2 sx2=>⟨show 1+1<=cb by decide,?_⟩
 have hF:H2 F2=some (.lst (tK.map V.str)):=sx2 _ _ nF (sx1 _ _ nF aE)
 have e2:((⟨#[c]⟩:Str)++⟨#[d]⟩).length=2:=by rw[gj];rfl
 refine⟨_,rfl,_,rfl,_,rfl,1,rfl,_,rfl,rfl,rfl,e2,λt ht=>?_⟩
 refine⟨_,rfl,10,6,rfl,rfl,⟨by decide,by decide,by decide⟩,p,l,ns,1000001,rfl,hP2,by decide,by decide,λr H3 hr hP3 sx3=>?_⟩
 refine⟨(r:Int),rfl,ff (show(r:Int).natAbs<=1000000 by omega) (by decide),show 3<=cb by decide,λF3 hF3=>?_⟩
 have n23:F2≠F3:=aQ (sx3 _ _ nF hF) hF3
 refine .inl ⟨F2,F3,tK.map V.str,_,rfl,rfl,by rw[aM n23];exact sx3 _ _ nF hF,aE,show 30+3<=cb by decide,λF4 hF4=>?_⟩
 have s4:=(aL hF3 (.lst [.str (⟨#[c]⟩++⟨#[d]⟩), .str t, .str (kG r)])).trans (aL hF4 (.lst (tK.map V.str++[.str (⟨#[c]⟩++⟨#[d]⟩), .str t, .str (kG r)])))
 have n4:=((hP3.x (aL hF3 _)).ne hF4).1
 have hF2':=s4 _ _ (sx3 _ _ nF hF)
 refine⟨_,rfl,_,rfl,F2,_,rfl, .inl (.of hF2'),p,l,ns,33,rfl,hP3.x s4,by decide,by decide,λk H5 hk hP5 sx5=>?_⟩
 have e:(tK.map V.str++[.str (⟨#[c]⟩++⟨#[d]⟩), .str t, .str (kG r)])=(tK++[⟨#[c]⟩++⟨#[d]⟩,t,kG r]).map V.str:=by rw[fy];rfl
 have hb:∀w∈tK++[⟨#[c]⟩++⟨#[d]⟩,t,kG r],w.length<=8:=λw hw=>by
  rcases bp.mp hw with hw | hw
  ·exact aAZ w hw
  ·rcases dc.mp hw with rfl | hw
   ·omega
   ·rcases dc.mp hw with rfl | hw
    ·omega
    ·rw[ar.mp hw]
     have:=sR (i:=(r:Int)) (by omega) (by omega)
     omega
 have hk':k<(tK++[⟨#[c]⟩++⟨#[d]⟩,t,kG r]).length:=by rw[aq];exact hk
 refine ixL (j:=k) (v := .str (tK++[⟨#[c]⟩++⟨#[d]⟩,t,kG r])[k]) (.of (sx5 _ _ n4 aE)) (by rw[e,bh,ai hk'];rfl) ?_
 exact q _ H5 (hb _ (e7 _)) hP5 (((((sB.x.trans sx1).trans sx2).trans sx3).trans s4.x).trans sx5)
end
section
variable {K:aa}
theorem aCO {H H':Hp}{a d:Addr}{xs ys:List V}(h:SqT K H a xs)(hd:H d=some (.lst ys))(s:SameX d H H'):SqT K H' a xs:=by
 rcases h with(h | ⟨u,h⟩) | h
 ·exact .inl (.inl (s _ _ (λz=>by subst z;rw[hd] at h;cases h) h))
 ·exact .inl (.inr ⟨u,s _ _ (λz=>by subst z;rw[hd] at h;cases h) h⟩)
 ·exact .inr h
theorem aDK {H H':Hp}{v:V}{p:Addr}{T:List (List Int)}{ys:List V}(h:Sh K H (fK T) v)(hp:H p=some (.lst ys))(sx:SameX p H H'):Sh K H' (fK T) v:=by
 obtain⟨a,rs,rfl,ha,hl,g⟩:=h.tab
 exact⟨a,rs,rfl,aCO ha hp sx,ShL.of_rows hl λi row e=>by
  obtain⟨b,e1,e2⟩:=g i row e
  exact⟨b,e1,aCO e2 hp sx⟩⟩
theorem Pen.tab {H H':Hp}{v:V}{p l:Addr}{ns:List Int}{T:List (List Int)}(h:Sh K H (fK T) v)(hp:Pen H p l ns)(sx:SameX p H H'):Sh K H' (fK T) v:=by
 obtain⟨k,z,e,_⟩:=hp
 exact aDK h e sx
theorem Pen.nw {H:Hp}{p l A:Addr}{ns:List Int}{us:List Str}(hp:Pen H p l ns)(hA:H A=some (.lst (us.map V.str))):A≠p:=λe=>by
 subst e
 obtain⟨k,z,e,_⟩:=hp
 rw[e] at hA
 cases us <;> cases hA
theorem aEI {H H':Hp}{p W:Addr}{o:HO}(h:H W=none)(s:SameX p H H'):SameX p H (upd H' W o):=λb u hb e=>by
 rw[aM (aQ e h)]
 exact s b u hb e
theorem Sm.app {us vs:List Str}(s:Sm us)(t:Sm vs)(h:us.length+vs.length<=1200):Sm (us++vs):=⟨by rw[aq];exact h,λw hw=>(bp.mp hw).elim (s.2 w) (t.2 w)⟩
theorem Sm.one {w:Str}(h:w.length<=8):Sm [w]:=⟨by show 1<=1200;decide,λu hu=>by rw[ar.mp hu];omega⟩
theorem oB {H:Hp}{ls:List Str}{F:Addr}{j:Nat}{Q:VK}(h:SqL K H F (ls.map V.str))(hj:j<ls.length)(q:∀w∈ls,Q (.str w) H):eR K (.ref F) (.int (j:Int)) H Q:=
 ixL (j:=j) (v := .str ls[j]) h (by rw[bh,ai hj];rfl) (q _ (e7 hj))
theorem ls3:∀w∈(["\n","\t"," "]:List Str),w.length<=2:=by decide+kernel
theorem ls5:∀w∈(["\n","\t"," "," /","/"]:List Str),w.length<=2:=by decide+kernel
theorem ls9:∀w∈(["","/","0 /","0 1","0 1 /","0 1 / 1","1"," 0","0 0 / 0 0 /"]:List Str),w.length<=20:=by decide+kernel
theorem aEp {i c m j:Nat}{σ:L2.St}{H:Hp}{Q:VK}(hv:σ[i]?=some (some (.int (c:Int))))(hm:1<=m)(e:(c:Int) % (m:Int)=(j:Int))(q:Q (.int (j:Int)) H):tOp sQ (aH i) (tC (.int (m:Int))) σ H Q:=
 ⟨_,hv,_,_,rfl,rfl,by omega,by show Q (.int ((c:Int) % (m:Int))) H;rw[e];exact q⟩
def tS (K:aa):Sp:=λvs H Q _=>∃(p l:Addr) (ns:List Int) (v:V) (T:List (List Int)) (n:Nat),vs=[.ref p,v]/\Pen H p l ns/\Sh K H (fK T) v/\Tb T n/\∀t H',Tx t->Pen H' p l ns->SameX p H H'->Q (.str t) H'
theorem aBC:∀vs H Q E,tS K vs H Q E->jU K gJ (nO K) tO { nx:=λ_ H'=>Q .non H',rt:=Q } (bN ["tape","table","words","at","way","k","some","text","edge"] vs) H:=by
 intro vs H Q E h
 obtain⟨p,l,ns,v,T,n,rfl,hP,hS,tb,q⟩:=h
 have hTn:=tb.qd.len
 have hn1:=tb.lo
 have hn8:=tb.hi
 have htw:=tb.wd
 refine⟨_,rfl,v,T,rfl,hS,htw,λtx H1 htx s1=>?_⟩
 obtain⟨z1,z2,z3⟩:=hV tx
 refine⟨rfl,_,_,rfl,rfl,by decide,bc htx (by rw[dy];omega),bc z1 (by rw[dy];omega),λW hW=>?_⟩
 have hs:Sm (bb tx " "):=⟨by omega,λw hw=>by have:=z2 w hw;omega⟩
 have hz:(bb tx " ").length<=540:=by omega
 generalize bb tx " " = ws at *
 have hl1:1<=ws.length:=gh.mpr z3
 have hHW:H W=none:=by
  cases e:H W with
  |none=>rfl
  |some o=>rw[s1 _ _ e] at hW;cases hW
 have nWl:=(hP.ne hHW).2
 have s2:=s1.trans (aL hW (.lst (ws.map V.str)))
 have hP2:=hP.x s2
 have hWx:upd H1 W (.lst (ws.map V.str)) W=some (.lst (ws.map V.str)):=aE
 have sx2:=s2.x (acc:=p)
 generalize upd H1 W (.lst (ws.map V.str))=H2 at *
 have b:∀(t:Str) H',t.length<=740000->Pen H' p l ns->SameX p H H'->Q (.str t) H':=λt H' ht hP' sx=>q t H' (bc ht (by decide)) hP' sx
 clear q s1 s2 hW htx z1 z2
 refine⟨_,rfl,_,rfl,W,_,rfl, .inl (.of hWx),p,l,ns,ws.length,by rw[af];rfl,hP2,hl1,by omega,λk0 H3 ha hP3 sx3=>?_⟩
 refine⟨_,rfl,p,l,ns,9,rfl,hP3,by decide,by decide,λway H4 hw hP4 sx4=>?_⟩
 have hW4:=sx4 _ _ (hP3.nw (sx3 _ _ (hP2.nw hWx) hWx)) (sx3 _ _ (hP2.nw hWx) hWx)
 have sx:=(sx2.trans sx3).trans sx4
 have hS4:=Pen.tab hS hP sx
 clear hWx hP2 hP3 sx2 sx3 sx4 H2 H3 hS
 rcases(show way=0\/way=1\/way=2\/way=3\/way=4\/way=5\/way=6\/way=7\/way=8 by omega) with rfl | rfl | rfl | rfl | rfl | rfl | rfl | rfl | rfl
 ·refine⟨_,rfl, .int _, .int _,aj _,rfl,rfl,_,rfl,bW (by rw[aP];decide) ?_⟩
  refine⟨rfl,_,rfl,_,rfl,_,rfl,cU (.of hW4) λA H5 us s5 hA l5 m5=>⟨_,rfl,_,rfl,_,rfl,cU (.of (s5 _ _ hW4)) λB H6 vs s6 hB l6 m6=>dH (s6 _ _ hA) hB (by omega) λC H7 s7 hC=>?_⟩⟩
  exact dQ hC ((hs.sub (by omega) m5).app (hs.sub (by omega) m6) (by omega)) λt ht=>b t _ (by omega) (hP4.x ((s5.trans s6).trans s7)) (sx.trans ((s5.trans s6).trans s7).x)
 ·refine⟨_,rfl, .int _, .int _,aj _,rfl,rfl,_,rfl,bA (by rw[aP];decide) ?_⟩
  refine⟨_,rfl, .int _, .int _,aj _,rfl,rfl,_,rfl,bW (by rw[aP];decide) ?_⟩
  refine⟨rfl,_,rfl,_,rfl,_,rfl,cU (.of hW4) λA H5 us s5 hA l5 m5=>⟨_,rfl,p,l,ns,rfl,hP4.x s5,λt H6 ht hP6 sx6=>⟨show 1<=cb by decide,λG hG=>?_⟩⟩⟩
  have hA6:=sx6 _ _ ((hP4.x s5).nw hA) hA
  have hW6:=sx6 _ _ ((hP4.x s5).nw (s5 _ _ hW4)) (s5 _ _ hW4)
  have hP7:=hP6.x (aL hG (.lst ([t].map V.str)))
  refine dH (us:=us) (vs:=[t]) (aL hG _ _ _ hA6) aE (by rw[df];omega) λC H8 s8 hC=>?_
  have hW8:=s8 _ _ (aL hG (.lst ([t].map V.str)) _ _ hW6)
  refine⟨_,rfl,_,rfl,_,rfl,cU (.of hW8) λB H9 vs s9 hB l9 m9=>dH (s9 _ _ hC) hB (by rw[aq,df];omega) λD H10 s10 hD=>?_⟩
  exact dQ hD (((hs.sub (by omega) m5).app (.one ht) (by rw[df];omega)).app (hs.sub (by omega) m9) (by rw[aq,df];omega)) λt ht=>b t _ (by omega) (hP7.x ((s8.trans s9).trans s10)) (((sx.trans s5.x).trans sx6).trans (((aL hG _).trans s8).trans (s9.trans s10)).x)
 ·refine⟨_,rfl, .int _, .int _,aj _,rfl,rfl,_,rfl,bA (by rw[aP];decide) ?_⟩
  refine⟨_,rfl, .int _, .int _,aj _,rfl,rfl,_,rfl,bA (by rw[aP];decide) ?_⟩
  refine⟨_,rfl, .int _, .int _,aj _,rfl,rfl,_,rfl,bW (by rw[aP];decide) ?_⟩
  refine⟨rfl,_,rfl,_,rfl,_,rfl,cU (.of hW4) λA H5 us s5 hA l5 m5=>⟨_,rfl,_,rfl,_,rfl,cU (.of (s5 _ _ hW4)) λB H6 vs s6 hB l6 m6=>dH (s6 _ _ hA) hB (by omega) λC H7 s7 hC=>?_⟩⟩
  exact dQ hC ((hs.sub (by omega) m5).app (hs.sub (by omega) m6) (by omega)) λt ht=>b t _ (by omega) (hP4.x ((s5.trans s6).trans s7)) (sx.trans ((s5.trans s6).trans s7).x)
 ·refine⟨_,rfl, .int _, .int _,aj _,rfl,rfl,_,rfl,bA (by rw[aP];decide) ?_⟩
  refine⟨_,rfl, .int _, .int _,aj _,rfl,rfl,_,rfl,bA (by rw[aP];decide) ?_⟩
  refine⟨_,rfl, .int _, .int _,aj _,rfl,rfl,_,rfl,bA (by rw[aP];decide) ?_⟩
  refine⟨_,rfl, .int _, .int _,aj _,rfl,rfl,_,rfl,bA (by rw[aP];decide) ?_⟩
  refine⟨_,rfl, .int _, .int _,aj _,rfl,rfl,_,rfl,bW (by rw[aP];decide) (kK ?_)⟩
  refine⟨rfl,_,rfl,_,rfl,_,rfl,cU (.of hW4) λA H5 us s5 hA l5 m5=>⟨_,rfl,p,l,ns,rfl,hP4.x s5,λt H6 ht hP6 sx6=>⟨show 1<=cb by decide,λG hG=>?_⟩⟩⟩
  have hA6:=sx6 _ _ ((hP4.x s5).nw hA) hA
  have hW6:=sx6 _ _ ((hP4.x s5).nw (s5 _ _ hW4)) (s5 _ _ hW4)
  have hP7:=hP6.x (aL hG (.lst ([t].map V.str)))
  refine dH (us:=us) (vs:=[t]) (aL hG _ _ _ hA6) aE (by rw[df];omega) λC H8 s8 hC=>?_
  have hW8:=s8 _ _ (aL hG (.lst ([t].map V.str)) _ _ hW6)
  refine⟨_,rfl,_,rfl,_,rfl,cU (.of hW8) λB H9 vs s9 hB l9 m9=>dH (s9 _ _ hC) hB (by rw[aq,df];omega) λD H10 s10 hD=>?_⟩
  exact dQ hD (((hs.sub (by omega) m5).app (.one ht) (by rw[df];omega)).app (hs.sub (by omega) m9) (by rw[aq,df];omega)) λt ht=>b t _ (by omega) (hP7.x ((s8.trans s9).trans s10)) (((sx.trans s5.x).trans sx6).trans (((aL hG _).trans s8).trans (s9.trans s10)).x)
 ·refine⟨_,rfl, .int _, .int _,aj _,rfl,rfl,_,rfl,bA (by rw[aP];decide) ?_⟩
  refine⟨_,rfl, .int _, .int _,aj _,rfl,rfl,_,rfl,bA (by rw[aP];decide) ?_⟩
  refine⟨_,rfl, .int _, .int _,aj _,rfl,rfl,_,rfl,bA (by rw[aP];decide) ?_⟩
  refine⟨_,rfl, .int _, .int _,aj _,rfl,rfl,_,rfl,bW (by rw[aP];decide) ?_⟩
  refine⟨_,rfl,p,l,ns,rfl,hP4,λt0 H5 ht0 hP5 sx5=>⟨_,rfl,_,rfl,_,rfl,W,_,rfl, .inl (.of (sx5 _ _ (hP4.nw hW4) hW4)),p,l,ns,ws.length,by rw[af];rfl,hP5,hl1,by omega,λr H6 hr hP6 sx6=>?_⟩⟩
  have hW5:=sx5 _ _ (hP4.nw hW4) hW4
  have hW6:=sx6 _ _ (hP5.nw hW5) hW5
  refine⟨W,_,(r:Int),r,rfl,rfl,hW6,vI (by rw[af];exact hr),?_⟩
  have eS:(ws.map V.str).set r (.str t0)=(ws.set r t0).map V.str:=by rw[List.map_set]
  rw[eS]
  have hP7:Pen (upd H6 W (.lst ((ws.set r t0).map V.str))) p l ns:=hP6.upd (hP6.nw hW6) nWl
  have hW7:upd H6 W (.lst ((ws.set r t0).map V.str)) W=some (.lst ((ws.set r t0).map V.str)):=aE
  have sx7:SameX p H (upd H6 W (.lst ((ws.set r t0).map V.str))):=aEI hHW ((sx.trans sx5).trans sx6)
  have hs7:Sm (ws.set r t0):=⟨by rw[dm];omega,λw hw=>(oi hw).elim (hs.2 w) λe=>by rw[e];omega⟩
  have hz7:(ws.set r t0).length<=540:=by rw[dm];exact hz
  clear hs hz hl1 hW4 hW5 hW6 hP4 hP5 hP6 eS hr z3 sx5 sx6
  generalize upd H6 W (.lst ((ws.set r t0).map V.str))=H7 at *
  generalize ws.set r t0=ws7 at *
  refine⟨_,rfl, .int _, .int _,aj _,rfl,rfl,_,rfl,bA (by rw[aP];decide) ⟨_,rfl, .int _, .int _,aj _,rfl,rfl,_,rfl,bW (by rw[aP];decide) ?_⟩⟩
  refine⟨rfl,_,rfl,_,rfl,_,rfl,cU (.of hW7) λA H5 us s5 hA l5 m5=>⟨_,rfl,p,l,ns,rfl,hP7.x s5,λt H6 ht hP6 sx6=>⟨show 1<=cb by decide,λG hG=>?_⟩⟩⟩
  have hA6:=sx6 _ _ ((hP7.x s5).nw hA) hA
  have hW6:=sx6 _ _ ((hP7.x s5).nw (s5 _ _ hW7)) (s5 _ _ hW7)
  have hP8:=hP6.x (aL hG (.lst ([t].map V.str)))
  refine dH (us:=us) (vs:=[t]) (aL hG _ _ _ hA6) aE (by rw[df];omega) λC H8 s8 hC=>?_
  have hW8:=s8 _ _ (aL hG (.lst ([t].map V.str)) _ _ hW6)
  refine⟨_,rfl,_,rfl,_,rfl,cU (.of hW8) λB H9 vs s9 hB l9 m9=>dH (s9 _ _ hC) hB (by rw[aq,df];omega) λD H10 s10 hD=>?_⟩
  exact dQ hD (((hs7.sub (by omega) m5).app (.one ht) (by rw[df];omega)).app (hs7.sub (by omega) m9) (by rw[aq,df];omega)) λt ht=>b t _ (by omega) (hP8.x ((s8.trans s9).trans s10)) (((sx7.trans s5.x).trans sx6).trans (((aL hG _).trans s8).trans (s9.trans s10)).x)
 ·refine⟨_,rfl, .int _, .int _,aj _,rfl,rfl,_,rfl,bA (by rw[aP];decide) ?_⟩
  refine⟨_,rfl, .int _, .int _,aj _,rfl,rfl,_,rfl,bA (by rw[aP];decide) ?_⟩
  refine⟨_,rfl, .int _, .int _,aj _,rfl,rfl,_,rfl,bA (by rw[aP];decide) ?_⟩
  refine⟨_,rfl, .int _, .int _,aj _,rfl,rfl,_,rfl,bA (by rw[aP];decide) ?_⟩
  refine⟨_,rfl, .int _, .int _,aj _,rfl,rfl,_,rfl,bA (by rw[aP];decide) ⟨_,rfl, .int _, .int _,aj _,rfl,rfl,_,rfl,bA (by rw[aP];decide) ?_⟩⟩
  refine⟨_,rfl, .int _, .int _,aj _,rfl,rfl,_,rfl,bW (by rw[aP];decide) ?_⟩
  refine⟨rfl,_,rfl,_,rfl,_,rfl,cU (.of hW4) λA H5 us s5 hA l5 m5=>?_⟩
  exact dQ hA (hs.sub (by omega) m5) λt ht=>b t _ (by omega) (hP4.x s5) (sx.trans s5.x)
 ·refine⟨_,rfl, .int _, .int _,aj _,rfl,rfl,_,rfl,bA (by rw[aP];decide) ?_⟩
  refine⟨_,rfl, .int _, .int _,aj _,rfl,rfl,_,rfl,bA (by rw[aP];decide) ?_⟩
  refine⟨_,rfl, .int _, .int _,aj _,rfl,rfl,_,rfl,bA (by rw[aP];decide) ?_⟩
  refine⟨_,rfl, .int _, .int _,aj _,rfl,rfl,_,rfl,bA (by rw[aP];decide) ?_⟩
  refine⟨_,rfl, .int _, .int _,aj _,rfl,rfl,_,rfl,bA (by rw[aP];decide) ⟨_,rfl, .int _, .int _,aj _,rfl,rfl,_,rfl,bA (by rw[aP];decide) ?_⟩⟩
  refine⟨_,rfl, .int _, .int _,aj _,rfl,rfl,_,rfl,bA (by rw[aP];decide) ?_⟩
  refine⟨_,rfl, .int _, .int _,aj _,rfl,rfl,_,rfl,bW (by rw[aP];decide) ?_⟩
  obtain⟨a,rs,rfl,ha,hlr,hg⟩:=id hS4.tab
  refine⟨_,rfl,_,rfl,a,rs,rfl, .inr ha,p,l,ns,n,by rw[hlr,hTn];rfl,hP4,hn1,by omega,λr H5 hr hP5 sx5=>?_⟩
  have hS5:=Pen.tab hS4 hP4 sx5
  refine⟨_,rfl,_,rfl,_,rfl,mE hS5 λv1 H6 T1 s6 h1 l1 m1=>⟨_,rfl,_,rfl,_,rfl,mE (hS5.same s6) λv2 H7 T2 s7 h2 l2 m2=>nS (h1.same s7) h2 (by omega) λva H8 s8 hA=>?_⟩⟩
  have hS8:=hS5.same ((s6.trans s7).trans s8)
  refine⟨_,rfl,_,rfl,_,rfl,mE hS8 λv3 H9 T3 s9 h3 l3 m3=>⟨_,rfl,_,rfl,_,rfl,mE (hS8.same s9) λv4 H10 T4 s10 h4 l4 m4=>nS (h3.same s10) h4 (by omega) λvb H11 s11 hB=>?_⟩⟩
  have hS11:=hS8.same ((s9.trans s10).trans s11)
  refine⟨_,rfl,_,rfl,_,rfl,mE hS11 λv5 H12 T5 s12 h5 l5 m5=>⟨_,rfl,_,rfl,_,rfl,_,rfl,_,rfl,mE (hS11.same s12) λv6 H13 T6 s13 h6 l6 m6=>nS (h5.same s13) h6 (by omega) λv7 H14 s14 h7=>⟨_,rfl,_,rfl,_,rfl,mE (hS11.same ((s12.trans s13).trans s14)) λv8 H15 T8 s15 h8 l8 m8=>nS (h7.same s15) h8 (by rw[aq];omega) λvc H16 s16 hC=>?_⟩⟩⟩
  refine⟨show 3<=cb by decide,λF hF=>?_⟩
  have sb:=((s9.trans s10).trans s11).trans (((s12.trans s13).trans s14).trans (s15.trans s16))
  have sc:=((s12.trans s13).trans s14).trans (s15.trans s16)
  have sN:=aL hF (.lst [va,vb,vc])
  have hA':=(hA.same sb).same sN
  have hB':=(hB.same sc).same sN
  have hC':=hC.same sN
  have hP':=((hP5.x ((s6.trans s7).trans s8)).x sb).x sN
  have sx':=((sx.trans sx5).trans ((s6.trans s7).trans s8).x).trans (sb.trans sN).x
  have hF':upd H16 F (.lst [va,vb,vc]) F=some (.lst [va,vb,vc]):=aE
  obtain⟨j,ej,hj⟩:=oH (c:=(k0:Int)) (n:=3) (by decide)
  refine⟨_,rfl,aEp (m:=3) rfl (by decide) ej ?_⟩
  have fin:∀(v':V) (T':List (List Int)),Sh K _ (fK T') v'->T'.length<=24->(∀r∈T',r∈T)->nO K [v'] _ Q E0:=λv' T' h1 h2 h3=>⟨v',T',rfl,h1,htw.sub h2 h3,λt H' ht s=>b t H' (by omega) (hP'.x s) (sx'.trans s.x)⟩
  have m2':∀{A B:List (List Int)},(∀r∈A,r∈T)->(∀r∈B,r∈T)->∀r∈A++B,r∈T:=λhA hB r hr=>(bp.mp hr).elim (hA r) (hB r)
  rcases(show j=0\/j=1\/j=2 by omega) with rfl | rfl | rfl
  ·exact ixL (j:=0) (.of hF') rfl (fin va _ hA' (by rw[aq];omega) (m2' m1 m2))
  ·exact ixL (j:=1) (.of hF') rfl (fin vb _ hB' (by rw[aq];omega) (m2' m3 m4))
  ·exact ixL (j:=2) (.of hF') rfl (fin vc _ hC' (by rw[aq,aq];omega) (m2' (m2' m5 m6) m8))
 ·refine⟨_,rfl, .int _, .int _,aj _,rfl,rfl,_,rfl,bA (by rw[aP];decide) ?_⟩
  refine⟨_,rfl, .int _, .int _,aj _,rfl,rfl,_,rfl,bA (by rw[aP];decide) ?_⟩
  refine⟨_,rfl, .int _, .int _,aj _,rfl,rfl,_,rfl,bA (by rw[aP];decide) ?_⟩
  refine⟨_,rfl, .int _, .int _,aj _,rfl,rfl,_,rfl,bA (by rw[aP];decide) ?_⟩
  refine⟨_,rfl, .int _, .int _,aj _,rfl,rfl,_,rfl,bA (by rw[aP];decide) ⟨_,rfl, .int _, .int _,aj _,rfl,rfl,_,rfl,bA (by rw[aP];decide) ?_⟩⟩
  refine⟨_,rfl, .int _, .int _,aj _,rfl,rfl,_,rfl,bA (by rw[aP];decide) ?_⟩
  refine⟨_,rfl, .int _, .int _,aj _,rfl,rfl,_,rfl,bA (by rw[aP];decide) ?_⟩
  refine⟨_,rfl, .int _, .int _,aj _,rfl,rfl,_,rfl,bW (by rw[aP];decide) ?_⟩
  refine⟨rfl,_,rfl,_,W,ws,rfl,rfl, .of hW4,aCu hs,?_⟩
  have ht:=aAm hs
  generalize i8 " " ws=t at ht
  refine⟨_,rfl,p,l,ns,9,rfl,hP4,by decide,by decide,λed H5 hed hP5 sx5=>?_⟩
  refine⟨_,rfl, .int _, .int _,aj _,rfl,rfl,_,rfl,?_⟩
  rw[aP]
  by_cases c:ed=8
  ·refine bW (decide_eq_true (by omega)) ⟨_,rfl,_,rfl,p,l,ns,56,rfl,hP5,by decide,by decide,λr H6 hr hP6 sx6=>⟨_,r,rfl,rfl,by decide,by omega,λu hu=>?_⟩⟩
   have hu':u.length<=2*r:=hu
   exact⟨by rw[dy];omega,b _ H6 (by rw[gj];omega) hP6 ((sx.trans sx5).trans sx6)⟩
  refine bA (decide_eq_false (by omega)) ⟨_,rfl,_,_,rfl,rfl,_,rfl,?_⟩
  by_cases c4:4<ed
  ·refine bW (decide_eq_true (by omega)) ⟨show 3<=cb by decide,λF hF=>⟨_,rfl,_,_,rfl,rfl,?_⟩⟩
   rw[show(ed:Int) - 5=((ed - 5:Nat):Int) by omega]
   refine oB (ls:=["\n","\t"," "]) (.of aE) (by show ed - 5<3;omega) λw hw=>⟨_,rfl,?_⟩
   have hl:=ls3 w hw
   exact⟨by rw[dy];omega,b _ _ (by rw[gj];omega) (hP5.x (aL hF _)) ((sx.trans sx5).trans (aL hF _).x)⟩
  ·refine bA (decide_eq_false (by omega)) ⟨_,rfl,show 5<=cb by decide,λF hF=>⟨_,rfl,?_⟩⟩
   refine oB (ls:=["\n","\t"," "," /","/"]) (.of aE) (by show ed<5;omega) λw hw=>?_
   have hl:=ls5 w hw
   exact⟨by rw[dy];omega,b _ _ (by rw[gj];omega) (hP5.x (aL hF _)) ((sx.trans sx5).trans (aL hF _).x)⟩
 ·refine⟨_,rfl, .int _, .int _,aj _,rfl,rfl,_,rfl,bA (by rw[aP];decide) ?_⟩
  refine⟨_,rfl, .int _, .int _,aj _,rfl,rfl,_,rfl,bA (by rw[aP];decide) ?_⟩
  refine⟨_,rfl, .int _, .int _,aj _,rfl,rfl,_,rfl,bA (by rw[aP];decide) ?_⟩
  refine⟨_,rfl, .int _, .int _,aj _,rfl,rfl,_,rfl,bA (by rw[aP];decide) ?_⟩
  refine⟨_,rfl, .int _, .int _,aj _,rfl,rfl,_,rfl,bA (by rw[aP];decide) ⟨_,rfl, .int _, .int _,aj _,rfl,rfl,_,rfl,bA (by rw[aP];decide) ?_⟩⟩
  refine⟨_,rfl, .int _, .int _,aj _,rfl,rfl,_,rfl,bA (by rw[aP];decide) ?_⟩
  refine⟨_,rfl, .int _, .int _,aj _,rfl,rfl,_,rfl,bA (by rw[aP];decide) ?_⟩
  refine⟨_,rfl, .int _, .int _,aj _,rfl,rfl,_,rfl,bA (by rw[aP];decide) ?_⟩
  refine⟨show 9<=cb by decide,λF hF=>?_⟩
  obtain⟨j,ej,hj⟩:=oH (c:=(k0:Int)) (n:=9) (by decide)
  refine aEp (m:=9) rfl (by decide) ej ?_
  refine oB (ls:=["","/","0 /","0 1","0 1 /","0 1 / 1","1"," 0","0 0 / 0 0 /"]) (.of aE) hj λw hw=>?_
  have hl:=ls9 w hw
  exact b w _ (by omega) (hP4.x (aL hF _)) (sx.trans (aL hF _).x)
end
def lE:List (List Str)->List Str
 |[]=>[]
 |[r]=>r
 |r :: s :: t=>r++("/" : Str) :: lE (s :: t)
theorem uA:∀{M:List (List Str)},M≠[]->lE (M++[[]])=lE M++[("/" : Str)]
 |[],h=>absurd rfl h
 |[r],_=>by show r++("/" : Str) :: []=r++_;rfl
 |r :: s :: t,_=>by
  show r++("/" : Str) :: lE ((s :: t)++[[]])=(r++("/" : Str) :: lE (s :: t))++_
  rw[uA (by simp),i4]
  rfl
theorem qK {w:Str}{r:List Str}:∀{D:List (List Str)},lE (D++[r++[w]])=lE (D++[r])++[w]
 |[]=>rfl
 |[d]=>by show d++("/" : Str) :: (r++[w])=(d++("/" : Str) :: r)++[w];simp
 |d :: e :: D=>by
  show d++("/" : Str) :: lE ((e :: D)++[r++[w]])=(d++("/" : Str) :: lE ((e :: D)++[r]))++[w]
  rw[qK]
  simp
theorem aAW:∀W:List Str,lE (par W)=W:=by
 refine iL rfl λV x ih=>?_
 rw[dF]
 obtain⟨D,r,e⟩:=cM V
 rw[e] at ih ⊢
 rw[cV]
 split
 ·rename_i hx
  rw[uA (by simp),ih,hx]
 ·rw[qK,ih]
theorem tM {y:Str}:∀{as bs:List Str},as≠[]->bs≠[]->dh y (as++bs)=dh y as++y++dh y bs
 |[],_,h,_=>absurd rfl h
 |_,[],_,h=>absurd rfl h
 |[a],b :: bs,_,_=>rfl
 |a :: a' :: as,b :: bs,_,hb=>by
  show a++y++dh y ((a' :: as)++(b :: bs))=(a++y++dh y (a' :: as))++y++dh y (b :: bs)
  rw[tM (by simp) hb]
  simp only[Str.append_assoc]
theorem xO:∀{T:List (List Str)},T≠[]->(∀r∈T,r≠[])->lE T≠[]
 |[],h,_=>absurd rfl h
 |[r],_,h=>h r (by simp)
 |r :: s :: t,_,_=>by unfold lE;simp
theorem oX:∀{T:List (List Str)},(∀r∈T,r≠[])->dh " / " (T.map (dh " "))=dh " " (lE T)
 |[],_=>rfl
 |[r],_=>rfl
 |r :: s :: t,h=>by
  have ht:∀x∈s :: t,x≠[]:=λx hx=>h x (aw _ hx)
  have ih:=oX ht
  have hr:r≠[]:=h r (by simp)
  have e1:dh " " (("/" : Str) :: lE (s :: t))="/" ++ " " ++ dh " " (lE (s :: t)):=by
   have hw:=xO (T:=s :: t) (by simp) ht
   cases e:lE (s :: t) with
   |nil=>exact absurd e hw
   |cons a b=>rfl
  have e2:(" / " : Str)=" " ++ "/" ++ " ":=by decide
  show dh " " r ++ " / " ++ dh " / " ((s :: t).map (dh " "))=dh " " (lE (r :: s :: t))
  rw[ih,lE,tM hr (by simp),e1,e2]
  simp only[Str.append_assoc]
theorem wE:(" " : Str)=⟨#[32]⟩:=by decide
theorem vY {T:List (List Str)}(h:∀r∈T,∀w∈r,32∉w.cps.toList):∀w∈lE T,32∉w.cps.toList:=by
 induction T with
 |nil=>intro w hw;cases hw
 |cons r T ih=>
  cases T with
  |nil=>exact h r (by simp)
  |cons s T=>
   intro w hw
   unfold lE at hw
   rcases bp.mp hw with hw | hw
   ·exact h r (by simp) w hw
   ·rcases dc.mp hw with rfl | hw
    ·decide
    ·exact ih (λx hx=>h x (aw _ hx)) w hw
theorem zC {T:List (List Str)}{r:List Str}(hr:r∈T){w:Str}(hw:w∈r):w∈lE T:=by
 induction T with
 |nil=>cases hr
 |cons s T ih=>
  cases T with
  |nil=>rw[ar.mp hr] at hw;exact hw
  |cons t T=>
   unfold lE
   rcases dc.mp hr with rfl | hr
   ·exact cq _ hw
   ·exact dj _ (aw _ (ih hr))
theorem aBU (t:Str):bb t " " = lE ((bb t " / ").map λp=>bb p " "):=by
 have e1:=e9 t " / "
 have e2:((bb t " / ").map λp=>bb p " ").map (dh " ")=bb t " / ":=by
  rw[i6]
  conv=>rhs;rw[<- List.map_id (bb t " / ")]
  exact t5 λp _=>e9 p " "
 have hne:∀r∈(bb t " / ").map λp=>bb p " ",r≠[]:=λr hr=>by
  obtain⟨p,_,rfl⟩:=dn.mp hr
  exact gD p " "
 have e3:=oX hne
 rw[e2,e1] at e3
 have hf:∀r∈(bb t " / ").map λp=>bb p " ",∀w∈r,32∉w.cps.toList:=λr hr w hw=>by
  obtain⟨p,_,rfl⟩:=dn.mp hr
  rw[wE] at hw
  exact StrLaws.split_free p 32 w hw
 have e4:=nE 32 _ (xO (by simpa using gD t " / ") hne) (vY hf)
 unfold i8 at e4
 rw[fo,<- wE,<- e3] at e4
 exact e4
def dY:List (List Nat)->List Nat
 |[]=>[]
 |[a]=>a
 |a :: b :: r=>a++[32]++47 :: ([32]++dY (b :: r))
theorem fA:∀(ts:List Str),(dh " / " ts).cps.toList=dY (ts.map λt=>t.cps.toList)
 |[]=>rfl
 |[a]=>rfl
 |a :: b :: r=>by
  have e:dh " / " (a :: b :: r)=a ++ " / " ++ dh " / " (b :: r):=rfl
  rw[e,ir,ir,fk,fk,fA (b :: r)]
  show(a.cps.toList++[32,47,32])++dY (b.cps.toList :: r.map _)=a.cps.toList++[32]++47 :: ([32]++dY (b.cps.toList :: r.map _))
  simp
theorem aEk {a:List Nat}(h:47∉a):47∉a++[32]:=λm=>by
 rcases bp.mp m with m | m
 ·exact h m
 ·exact absurd (ar.mp m) (by decide)
theorem qT:∀{as bs:List (List Nat)},as≠[]->bs≠[]->(∀a∈as,47∉a)->(∀b∈bs,47∉b)->dY as=dY bs->as=bs
 |[],_,h,_,_,_,_=>absurd rfl h
 |_,[],_,h,_,_,_=>absurd rfl h
 |[a],[b],_,_,_,_,e=>by rw[show a=b from e]
 |[a],b :: b' :: bs,_,_,ha,_,e=>by
  have e':a=b++[32]++47 :: ([32]++dY (b' :: bs)):=e
  exact absurd (by rw[e'];simp) (ha a (by simp))
 |a :: a' :: as,[b],_,_,_,hb,e=>by
  have e':a++[32]++47 :: ([32]++dY (a' :: as))=b:=e
  exact absurd (by rw[<- e'];simp) (hb b (by simp))
 |a :: a' :: as,b :: b' :: bs,_,_,ha,hb,e=>by
  have e':(a++[32])++47 :: ([32]++dY (a' :: as))=(b++[32])++47 :: ([32]++dY (b' :: bs)):=e
  obtain⟨h1,h2⟩:=iW (aEk (ha a (by simp))) (aEk (hb b (by simp))) e'
  have h1':a=b:=List.append_cancel_right h1
  have h2':dY (a' :: as)=dY (b' :: bs):=List.append_cancel_left h2
  rw[h1',qT (by simp) (by simp) (λx hx=>ha x (aw _ hx)) (λx hx=>hb x (aw _ hx)) h2']
def aDp (L:List Nat):Prop:=∀q:Nat,L[q]?=some 47->(∃q':Nat,q=q'+1/\L[q']?=some 32)/\L[q+1]?=some 32/\L[q+2]?≠some 47
theorem aEi:∀{Rs:List (List Nat)},(∀a∈Rs,a≠[]/\47∉a)->aDp (dY Rs)/\(dY Rs)[0]?≠some 47
 |[],_=>⟨λq h=>absurd h (by simp[dY]),λh=>absurd h (by simp[dY])⟩
 |[a],h=>⟨λq e=>absurd (cu e) (h a (by simp)).2,λe=>absurd (cu e) (h a (by simp)).2⟩
 |a :: b :: r,h=>by
  obtain⟨i1,i2⟩:=aEi (Rs:=b :: r) λx hx=>h x (aw _ hx)
  obtain⟨ha,h47⟩:=h a (by simp)
  have hl:0<a.length:=gh.mpr ha
  have e:dY (a :: b :: r)=a++(32 :: 47 :: 32 :: dY (b :: r)):=by
   show a++[32]++47 :: ([32]++dY (b :: r))=_
   simp
  rw[e]
  generalize dY (b :: r)=M at *
  refine⟨λq hq=>?_,λh0=>?_⟩
  ·by_cases c:q<a.length
   ·rw[br c] at hq
    exact absurd (cu hq) h47
   ·obtain⟨j,rfl⟩:∃j,q=a.length+j:=⟨q - a.length,by omega⟩
    have sh:∀k:Nat,(a++(32 :: 47 :: 32 :: M))[a.length+k]?=(32 :: 47 :: 32 :: M)[k]?:=λk=>by
     rw[bo (by omega),Nat.add_sub_cancel_left]
    rw[sh] at hq
    rw[Nat.add_assoc,Nat.add_assoc,sh,sh]
    match j with
    |0=>cases hq
    |1=>exact⟨⟨a.length+0,rfl,by rw[sh];rfl⟩,rfl,i2⟩
    |2=>cases hq
    |j+3=>
     obtain⟨⟨q',e1,e2⟩,e3,e4⟩:=i1 j hq
     exact⟨⟨a.length+(q'+3),by omega,by rw[sh];exact e2⟩,e3,e4⟩
  ·rw[br hl] at h0
   exact h47 (cu h0)
theorem at3 {x:Str}{k:Nat}(h0:x.cps.toList[k]?=some 32)(h1:x.cps.toList[k+1]?=some 47)(h2:x.cps.toList[k+2]?=some 32):rq x " / " x.length k:=by
 have hl:k+2<x.cps.toList.length:=(ao.mp h2).1
 refine⟨?_,?_⟩
 ·show k+3<=x.cps.size
  rw[fb] at hl
  omega
 ·rw[StrLaws.subAt_eq]
  show((x.cps.toList.drop k).take 3 == [32,47,32])=true
  rw[beq_iff_eq]
  have d:x.cps.toList.drop k=32 :: 47 :: 32 :: x.cps.toList.drop (k+3):=by
   rw[jm (by omega),jm (show k+1<_ by omega),jm (show k+1+1<_ by omega)]
   rw[ai (by omega)] at h0 h1 h2
   rw[dv h0,dv h1,dv h2]
  rw[d]
  rfl
theorem aBR {x:Str}{c:Nat}(h:rq x " / " x.length c):x.cps.toList[c+1]?=some 47:=by
 obtain⟨h1,h2⟩:=h
 rw[StrLaws.subAt_eq,beq_iff_eq] at h2
 have h3:(x.cps.toList.drop c).take 3=[32,47,32]:=h2
 have:((x.cps.toList.drop c).take 3)[1]?=some 47:=by rw[h3];rfl
 rw[jv (by decide),List.getElem?_drop] at this
 exact this
theorem nJ {x:Str}(g:aDp x.cps.toList){a b:Nat}(hb:b<=x.length)(h0:x.cps.toList[a]?≠some 47)(hn:∀k,a<=k->k<b->¬ rq x " / " x.length k):47∉(Builtin.Str.strSub x a b).cps.toList:=by
 intro hm
 rw[StrLaws.strSub_toList] at hm
 obtain⟨j,hj⟩:=iz hm
 have hlt:j<b - a:=by
  have h1:j<((x.cps.toList.drop a).take (b - a)).length:=(ao.mp hj).1
  simp at h1
  omega
 rw[jv hlt,List.getElem?_drop] at hj
 have hj0:j≠0:=λe=>by subst e;exact h0 hj
 obtain⟨⟨q',e1,e2⟩,e3,_⟩:=g _ hj
 refine hn q' (by omega) (by omega) (at3 e2 (by rw[<- e1];exact hj) ?_)
 rw[show q'+2=a+j+1 by omega]
 exact e3
theorem lN (x:Str)(g:aDp x.cps.toList):∀(cuts:List Nat) (a f:Nat),x.cps.toList[a]?≠some 47->StrLaws.ChainG x " / " x.length a cuts f->(∀k,f<=k->¬ rq x " / " x.length k)->∀p∈StrLaws.partsFrom x (" / " : Str).length a cuts,47∉p.cps.toList
 |[],a,f,h0,h,hn,p,hp=>by
  have e:f=a:=h
  subst e
  rw[ar.mp hp]
  exact nJ g (av _) h0 λk h1 _=>hn k h1
 |d :: r,a,f,h0,h,hn,p,hp=>by
  rcases dc.mp hp with rfl | hp'
  ·exact nJ g (by have:=h.2.1.1;omega) h0 h.2.2.1
  ·refine lN x g r _ f ?_ h.2.2.2 hn p hp'
   exact(g _ (aBR h.2.1)).2.2
theorem sF {x:Str}(g:aDp x.cps.toList)(h0:x.cps.toList[0]?≠some 47):∀p∈bb x " / ",47∉p.cps.toList:=by
 obtain⟨f,hG,hn⟩:=StrLaws.occ_tight x " / " (by decide)
 have whole:(∀k,¬ rq x " / " x.length k)->47∉x.cps.toList:=λh hm=>by
  obtain⟨j,hj⟩:=iz hm
  obtain⟨⟨q',e1,e2⟩,e3,_⟩:=g _ hj
  refine h q' (at3 e2 (by rw[<- e1];exact hj) ?_)
  rw[show q'+2=j+1 by omega]
  exact e3
 unfold bb
 split
 ·rename_i hc
  intro p hp
  rw[ar.mp hp]
  refine whole λk hA=>?_
  rw[rm,decide_eq_true_eq,decide_eq_true_eq] at hc
  rcases hc with h | h
  ·have:=hA.1;omega
  ·have e:js " / " = 1:=by decide+kernel
   rw[e] at h
   unfold js at h
   split at h
   ·omega
   ·split at h <;> omega
 ·split
  ·rename_i he
   intro p hp
   rw[ar.mp hp]
   have e0:dw x " / " 0 x.length (x.length+1)=[]:=List.isEmpty_iff.mp he
   rw[e0] at hG
   have ef:f=0:=hG
   subst ef
   exact whole λk=>hn k (aj _)
  ·rw[qa]
   exact lN x g _ 0 f h0 hG hn
theorem uW {Rs:List Str}(hne:Rs≠[])(h:∀R∈Rs,R.cps.toList≠[]/\47∉R.cps.toList):bb (dh " / " Rs) " / " = Rs:=by
 obtain⟨g,g0⟩:=aEi (Rs:=Rs.map λt=>t.cps.toList) λa ha=>by
  obtain⟨R,hR,rfl⟩:=dn.mp ha
  exact h R hR
 rw[<- fA] at g g0
 have e1:=e9 (dh " / " Rs) " / "
 have e2:dY ((bb (dh " / " Rs) " / ").map λt=>t.cps.toList)=dY (Rs.map λt=>t.cps.toList):=by rw[<- fA,<- fA,e1]
 have e3:=qT (by simpa using gD _ _) (by simpa using hne) (λa ha=>by
  obtain⟨t,ht,rfl⟩:=dn.mp ha
  exact sF g g0 t ht) (λa ha=>by
  obtain⟨t,ht,rfl⟩:=dn.mp ha
  exact(h t ht).2) e2
 have inj:∀(as bs:List Str),as.map (λt=>t.cps.toList)=bs.map (λt=>t.cps.toList)->as=bs:=by
  intro as
  induction as with
  |nil=>intro bs e;cases bs with
   |nil=>rfl
   |cons b bs=>simp at e
  |cons a as ih=>intro bs e;cases bs with
   |nil=>simp at e
   |cons b bs=>
    rw[e6,e6,j4] at e
    rw[nX e.1,ih bs e.2]
 exact inj _ _ e3
def aCx (W:List Str) (k:Nat):Bool:=!jY (par (W.take (k+1)))
def dJ (W:List Str):Option Nat:=(bu W.length).find? (aCx W)
def cG (M:List (List Str)):List (List Int):=M.map λr=>r.map eC
def gH (M:List (List Str)):Bool:=M.all λr=>decide (r.length=M.length)
inductive Due where
 |no (n:Nat)
 |tab (T:List (List Int))
def vH (W:List Str):Due:=match dJ W with
 |some k => .no k
 |none=>if gH (par W)=true then .tab (cG (par W)) else .no W.length
theorem yM {W:List Str}{k:Nat}(hk:k<W.length)(hb:jY (par (W.take (k+1)))=false)(h:∀i,i<k->jY (par (W.take (i+1)))=true):dJ W=some k:=by
 unfold dJ
 rw[pe]
 exact⟨by unfold aCx;rw[hb];rfl,ip.mpr hk,λj hj=>by unfold aCx;rw[h j hj];rfl⟩
theorem zY {W:List Str}(h:∀i,i<W.length->jY (par (W.take (i+1)))=true):dJ W=none:=by
 unfold dJ
 rw[pf]
 exact λj hj=>by unfold aCx;rw[h j hj];rfl
theorem aAz {W:List Str}{k:Nat}(hk:k<W.length)(hb:jY (par (W.take (k+1)))=false)(h:∀i,i<k->jY (par (W.take (i+1)))=true):vH W = .no k:=by
 unfold vH
 rw[yM hk hb h]
theorem wN {W:List Str}(h:∀i,i<W.length->jY (par (W.take (i+1)))=true):vH W=if gH (par W)=true then .tab (cG (par W)) else .no W.length:=by
 unfold vH
 rw[zY h]
theorem xW {D:List (List Str)}{r:List Str}(b:Bg D r):(D++[r]).length<=8/\∀q∈D++[r],q.length<=8:=by
 cases D with
 |nil=>exact⟨by simp,λq hq=>by rw[ar.mp hq];exact b.one rfl⟩
 |cons f E=>
  obtain⟨m1,m2,m3,m4,m5⟩:=b.more f E rfl
  refine⟨by simp at m3 ⊢;omega,λq hq=>?_⟩
  rcases bp.mp hq with h | h
  ·have:=m4 q h;omega
  ·rw[ar.mp h];omega
theorem vX {M:List (List Str)}{i:Nat}{q:List Str}(h:M[i]?=some q):(cG M).getD i []=q.map eC:=by
 unfold cG
 rw[ah,bh,h]
 rfl
theorem gB {M:List (List Str)}(h:gH M=true){q:List Str}(hq:q∈M):q.length=M.length:=of_decide_eq_true (cp.mp h q hq)
theorem wH {D:List (List Str)}{r:List Str}(b:Bg D r)(h:gH (D++[r])=true):Tb (cG (D++[r])) (D++[r]).length:=by
 refine aBP ⟨by unfold cG;rw[af],λq hq=>?_⟩ (by simp) (xW b).1 (λq hq x hx=>?_) λk hk=>?_
 ·obtain⟨s,hs,rfl⟩:=dn.mp hq
  rw[af]
  exact gB h hs
 ·obtain⟨s,hs,rfl⟩:=dn.mp hq
  obtain⟨w,hw,rfl⟩:=dn.mp hx
  obtain⟨_,_,_,_,h1,h0,_⟩:=fB (b.num s hs w hw)
  exact⟨h0,h1⟩
 ·have e:(D++[r])[k]?=some (D++[r])[k]:=ai hk
  unfold at2
  rw[vX e]
  have hm:=gB h (e7 hk)
  have e2:(D++[r])[k][k]?=some (D++[r])[k][k]:=ai (by omega)
  have:=b.own k _ e _ e2
  rw[ah,bh,e2,this]
  decide
theorem yI {T:List (List Int)}{n:Nat}(t:Tb T n):aDq (fK T)=true:=by
 have hl:=t.qd.len
 have h1:=t.lo
 have h8:=t.hi
 show((decide (1<=(T.map λr=>Dt.tup (r.map Dt.int)).length) && decide ((T.map λr=>Dt.tup (r.map Dt.int)).length<=8)) && (bu (T.map λr=>Dt.tup (r.map Dt.int)).length).all λi=>xG (T.map λr=>Dt.tup (r.map Dt.int)).length i ((T.map λr=>Dt.tup (r.map Dt.int)).getD i .non))=true
 rw[af,hl,decide_eq_true h1,decide_eq_true h8,dk,dk,cp]
 intro i hi
 have hin:i<n:=ip.mp hi
 obtain⟨row,e1,e2,e3⟩:=t.qd.get hin
 have em:(T.map λr=>Dt.tup (r.map Dt.int)).getD i .non = .tup (row.map Dt.int):=by
  rw[ah,bh,e1]
  rfl
 rw[em]
 have hm:=t.mem (cu e1)
 have hz:row.getD i 0=0:=by
  have:=(t.bd i i hin hin).2.2
  unfold at2 at this
  rw[e3] at this
  exact this
 show((row.map Dt.int).all whD && zH n i (fG (row.map Dt.int)))=true
 rw[jD]
 unfold zH
 rw[decide_eq_true e2,decide_eq_true hz]
 have a1:(row.map Dt.int).all whD=true:=by
  rw[cp]
  intro d hd
  obtain⟨x,_,rfl⟩:=dn.mp hd
  rfl
 have a2:(row.all λi=>decide (0<=i))=true:=cp.mpr λx hx=>decide_eq_true (hm.2 x hx).1
 have a3:(row.all λi=>decide (i<=1000000))=true:=cp.mpr λx hx=>decide_eq_true (hm.2 x hx).2
 rw[a1,a2,a3]
 rfl
theorem yY {D:List (List Str)}{r:List Str}(b:Bg D r):aDq (fK (cG (D++[r])))=gH (D++[r]):=by
 cases h:gH (D++[r]) with
 |true=>exact yI (wH b h)
 |false=>
  generalize D++[r]=M at *
  have hn:¬ ∀q∈M,q.length=M.length:=λz=>by
   have:gH M=true:=cp.mpr λq hq=>decide_eq_true (z q hq)
   rw[this] at h
   cases h
  cases e:aDq (fK (cG M)) with
  |false=>rfl
  |true=>
   refine absurd (λq hq=>?_) hn
   obtain⟨i,hi⟩:=iz hq
   have e:((decide (1<=((cG M).map λr=>Dt.tup (r.map Dt.int)).length) && decide (((cG M).map λr=>Dt.tup (r.map Dt.int)).length<=8)) && (bu ((cG M).map λr=>Dt.tup (r.map Dt.int)).length).all λi=>xG ((cG M).map λr=>Dt.tup (r.map Dt.int)).length i (((cG M).map λr=>Dt.tup (r.map Dt.int)).getD i .non))=true:=e
   have hl:((cG M).map λr=>Dt.tup (r.map Dt.int)).length=M.length:=by unfold cG;rw[af,af]
   rw[hl,cg,cp] at e
   have e2:=e.2 i (ip.mpr (ao.mp hi).1)
   have em:((cG M).map λr=>Dt.tup (r.map Dt.int)).getD i .non = .tup ((q.map eC).map Dt.int):=by
    unfold cG
    rw[ah,bh,bh,hi]
    rfl
   rw[em] at e2
   have e3:(((q.map eC).map Dt.int).all whD && zH M.length i (fG ((q.map eC).map Dt.int)))=true:=e2
   rw[jD,cg] at e3
   have e4:=e3.2
   unfold zH at e4
   rw[cg,decide_eq_true_eq,af] at e4
   exact e4.1
theorem aAE {D:List (List Str)}{r:List Str}(b:Bg D r):uQ (fK (cG (D++[r])))=true:=by
 obtain⟨h1,h2⟩:=xW b
 unfold fK uQ
 rw[decide_eq_true (by unfold cG;rw[af,af];omega),pC]
 ·rfl
 ·intro d hd
  obtain⟨q,hq,rfl⟩:=dn.mp hd
  obtain⟨s,hs,rfl⟩:=dn.mp hq
  have:=h2 s hs
  unfold uQ
  rw[decide_eq_true (by rw[af,af];omega),pC]
  ·rfl
  ·intro e he
   obtain⟨x,_,rfl⟩:=dn.mp he
   unfold uQ
   rfl
theorem aBH {D:List (List Str)}:gH (D++[[]])=false:=by
 cases h:gH (D++[[]]) with
 |false=>rfl
 |true=>
  have:=gB h (q:=[]) (by simp)
  simp at this
theorem zO {D:List (List Str)}{r:List Str}(b:Bg D r)(hr:r≠[]):gH (D++[r])=true↔¬ (D++[r]).length<((D++[r]).getD 0 []).length/\¬ r.length<((D++[r]).getD 0 []).length:=by
 have hl:0<r.length:=gh.mpr hr
 rw[tR]
 cases D with
 |nil=>
  show gH [r]=true↔¬ 1<r.length/\¬ r.length<r.length
  constructor
  ·intro h
   have:r.length=1:=gB h (q:=r) (by simp)
   omega
  ·rintro⟨h,_⟩
   exact cp.mpr λq hq=>decide_eq_true (by rw[ar.mp hq];show r.length=1;omega)
 |cons f E=>
  obtain⟨m1,m2,m3,m4,m5⟩:=b.more f E rfl
  have hn:(f :: E++[r]).length=(f :: E).length+1:=by simp
  show _↔¬ _<f.length/\¬ r.length<f.length
  constructor
  ·intro h
   have h1:=gB h (q:=f) (by simp)
   have h2:=gB h (q:=r) (by simp)
   omega
  ·rintro⟨h1,h2⟩
   refine cp.mpr λq hq=>decide_eq_true ?_
   rcases bp.mp hq with h | h
   ·have:=m4 q h
    omega
   ·rw[ar.mp h]
    omega
def aAq (t:Str):List (List Int):=((bb t " / ").filter λp=>!decide (47∈p.cps.toList)).map λp=>(bb p " ").map eC
theorem aBp {W:List Str}{w:Str}(hw:w∈W):w="/"\/∃q∈par W,w∈q:=by
 revert hw
 refine iL (P:=λW=>w∈W->w="/"\/∃q∈par W,w∈q) (λh=>by cases h) (λV x ih h=>?_) W
 rw[dF]
 obtain⟨D,r,e⟩:=cM V
 rw[e] at ih ⊢
 rw[cV]
 by_cases hx:w="/"
 ·exact .inl hx
 refine .inr ?_
 split
 ·rename_i hs
  rcases bp.mp h with g | g
  ·rcases ih g with c | ⟨q,hq,hw⟩
   ·exact absurd c hx
   ·exact⟨q,cq _ hq,hw⟩
  ·rw[ar.mp g] at hx;exact absurd hs hx
 ·rcases bp.mp h with g | g
  ·rcases ih g with c | ⟨q,hq,hw⟩
   ·exact absurd c hx
   ·rcases bp.mp hq with k | k
    ·exact⟨q,cq _ k,hw⟩
    ·exact⟨r++[x],by simp,cq _ (by rw[<- ar.mp k];exact hw)⟩
  ·exact⟨r++[x],by simp,by rw[ar.mp g];simp⟩
theorem vQ {p w:Str}(hw:w∈bb p " "):∀c∈w.cps.toList,c∈p.cps.toList:=by
 have e:=e9 p " "
 have key:∀P:List Str,∀w∈P,∀c∈w.cps.toList,c∈(dh " " P).cps.toList:=by
  intro P
  induction P with
  |nil=>intro w hw;cases hw
  |cons a P ih=>
   cases P with
   |nil=>intro w hw;rw[ar.mp hw];exact λc hc=>hc
   |cons b P=>
    intro w hw c hc
    have el:dh " " (a :: b :: P)=a ++ " " ++ dh " " (b :: P):=rfl
    rw[el,ir,fk,ir,fk]
    rcases dc.mp hw with rfl | hw
    ·exact cq _ (cq _ hc)
    ·exact dj _ (ih w hw c hc)
 intro c hc
 have:=key _ w hw c hc
 rw[e] at this
 exact this
theorem vT {t p w:Str}{D:List (List Str)}{r:List Str}(e:par (bb t " ")=D++[r])(b:Bg D r)(hp:p∈bb t " / ")(h47:47∉p.cps.toList)(hw:w∈bb p " "):eT w=true:=by
 have hm:w∈bb t " ":=by
  rw[aBU t]
  exact zC (dn.mpr ⟨p,hp,rfl⟩) hw
 rcases aBp hm with rfl | ⟨q,hq,hwq⟩
 ·exact absurd (vQ hw 47 (by decide)) h47
 ·rw[e] at hq
  exact b.num q hq w hwq
theorem pH {w:Str}(h:eT w=true):47∉w.cps.toList/\32∉w.cps.toList:=by
 obtain⟨hd,_⟩:=fB h
 exact⟨λm=>by have:=eY hd 47 m;omega,λm=>by have:=eY hd 32 m;omega⟩
theorem sV:∀{r:List Str},r≠[]->(∀w∈r,eT w=true)->(dh " " r).cps.toList≠[]/\47∉(dh " " r).cps.toList
 |[],h,_=>absurd rfl h
 |[a],_,h=>⟨(fB (h a (by simp))).2.1,(pH (h a (by simp))).1⟩
 |a :: b :: r,_,h=>by
  obtain⟨_,i2⟩:=sV (r:=b :: r) (by simp) λw hw=>h w (aw _ hw)
  have ha:=(fB (h a (by simp))).2.1
  have el:dh " " (a :: b :: r)=a ++ " " ++ dh " " (b :: r):=rfl
  rw[el,ir,fk,ir,fk]
  refine⟨λz=>?_,λm=>?_⟩
  ·rw[qq,qq] at z
   exact ha z.1.1
  ·rcases bp.mp m with m | m
   ·rcases bp.mp m with m | m
    ·exact(pH (h a (by simp))).1 m
    ·have:(47:Nat)∈[32]:=m
     exact absurd (ar.mp this) (by decide)
   ·exact i2 m
theorem uH {t:Str}{D:List (List Str)}{r:List Str}(e:par (bb t " ")=D++[r])(b:Bg D r)(hr:r≠[]):aAq t=cG (D++[r]):=by
 have hne:∀q∈D++[r],q≠[]:=λq hq=>by
  rcases bp.mp hq with h | h
  ·cases D with
   |nil=>cases h
   |cons f E=>
    obtain⟨m1,_,_,m4,_⟩:=b.more f E rfl
    have:=m4 q h
    exact λz=>by rw[z] at this;simp at this;omega
  ·rw[ar.mp h];exact hr
 have h1:=aAW (bb t " ")
 rw[e] at h1
 have h2:=oX hne
 rw[h1,e9] at h2
 have h3:=uW (Rs:=(D++[r]).map (dh " ")) (by simp) λR hR=>by
  obtain⟨q,hq,rfl⟩:=dn.mp hR
  exact sV (hne q hq) (b.num q hq)
 rw[h2] at h3
 unfold aAq cG
 rw[h3]
 have h4:((D++[r]).map (dh " ")).filter (λp=>!decide (47∈p.cps.toList))=(D++[r]).map (dh " "):=by
  rw[List.filter_eq_self]
  intro p hp
  obtain⟨q,hq,rfl⟩:=dn.mp hp
  rw[decide_eq_false (sV (hne q hq) (b.num q hq)).2]
  rfl
 rw[h4,i6]
 refine t5 λq hq=>?_
 show(bb (dh " " q) " ").map eC=q.map eC
 have h5:=nE 32 q (hne q hq) λw hw=>(pH (b.num q hq w hw)).2
 unfold i8 at h5
 rw[fo,<- wE] at h5
 rw[h5]
theorem xA {W:List Str}{D:List (List Str)}{r:List Str}(hW:W≠[])(e:par W=D++[r]):∃w,W[W.length - 1]?=some w/\(w="/"↔r=[]):=by
 have h0:W=W.dropLast++[W.getLast hW]:=(mf hW).symm
 generalize W.dropLast=V at h0
 generalize W.getLast hW=w at h0
 subst h0
 refine⟨w,by simp,?_⟩
 rw[dF] at e
 obtain⟨D',r',e'⟩:=cM V
 rw[e',cV] at e
 split at e
 ·rename_i hw
  have:=(qr e rfl)
  cases this
  exact⟨λ_=>rfl,λ_=>hw⟩
 ·rename_i hw
  have:=(qr e rfl)
  cases this
  exact⟨λz=>absurd z hw,λz=>by simp at z⟩
section
variable {K:aa}{X:Addr}
def aCw (C:Addr):Sp:=λvs H Q _=>∃e n,vs=[.ref e, .int n]/\n.natAbs<1000000/\H e=some (exN e C)/\∀dx,H dx=none->dx≠e->Q .non (upd (upd H dx (.xd [("at", .int n)])) e (exD e C dx))
theorem aBn:∀vs H Q Y,aCw X vs H Q Y->aAx X { nx:=λ_ H'=>Q .non H',rt:=Q } (bN ["self","at"] vs) H:=by
 intro vs H Q Y ⟨e,n,ev,hn,he,q⟩
 subst ev
 exact⟨e,n,rfl,rfl,hn,he,e, .int n,rfl,rfl,he,q⟩
theorem aBu {σ:L2.St}{H:Hp}{t:Nat}{F:Addr}{ls:List Addr}{M:List (List Int)}{Q:VK}(ht:σ[t]?=some (some (.ref F)))(m:Mat H F ls M)(hn:M.length<=100)(h:∀p H',Same H H'->Sh K H' (fK M) (.ref p)->Q (.ref p) H') :
  tCB (fR K) (aB (gF [none] (uS K (aH t)) (aX 0) [] λacc=>gE (tCB (fR K) (aB (aH 0) aV)) acc) aV) σ H Q:=by
 refine⟨_,ht,F,rfl, .inl ⟨⟨_, .of m.top⟩,λacc hacc=>?_⟩⟩
 have hlen:(ls.map V.ref).length=M.length:=by rw[af,m.len]
 refine tG (vars:=[0]) (K:=K) (a:=F) (xs:=ls.map V.ref) (λi L H'=>L.length=i/\∀(j:Nat) (row:List Int),j<i->M[j]?=some row->∃b,L[j]?=some (.ref b)/\H' b=some (.tup (row.map V.int))) (by decide) (by show 0<1;decide) ⟨rfl,λj row hj=>absurd hj (j6 _)⟩ hacc (λi L H' sm _ => .of (sm _ _ m.top)) (λi x σ1 H1 L D hx l1 ag1 s1 sm1 ha1 ⟨r1,r2⟩ hD=>?_) λσ1 H1 L sm1 ha1 ⟨r1,r2⟩=>?_
 ·have hi:i<M.length:=by rw[<- hlen];exact(ao.mp hx).1
  have hil:i<ls.length:=by rw[m.len];exact hi
  have e1:M[i]?=some M[i]:=ai hi
  generalize M[i]=row at e1
  have ex:x = .ref ls[i]:=by
   rw[bh,ai hil] at hx
   simpa using hx.symm
  subst ex
  have hrow:=m.row i _ row (ai hil) e1
  refine⟨_,s1,ls[i],row.map V.int,rfl, .inl ⟨.of (sm1 _ _ hrow),λp hp=>?_⟩⟩
  have hpa:p≠acc:=λe=>by rw[e,ha1] at hp;cases hp
  refine⟨L,by rw[aM (ke hpa)];exact ha1,ff (show L.length<=100 by omega) (by decide),?_⟩
  refine hD σ1 _ (L++[.ref p]) l1 ag1 (λb o e=>?_) aE ⟨by rw[aq,r1];rfl,λj row' hj e=>?_⟩
  ·have hb:b≠acc:=aQ e hacc
   rw[aM hb,aM (aQ (sm1 _ _ e) hp)]
   exact sm1 _ _ e
  ·by_cases hji:j<i
   ·obtain⟨b,g1,g2⟩:=r2 j row' hji e
    refine⟨b,by rw[br (by omega)];exact g1,?_⟩
    have hb:b≠acc:=ne_of g2 ha1 (λz=>nomatch z)
    rw[aM hb,aM (aQ g2 hp)]
    exact g2
   ·have:j=i:=by omega
    subst this
    rw[e1] at e
    cases e
    refine⟨p,by rw[bo (by omega),r1];simp,?_⟩
    rw[aM hpa]
    exact aE
 ·refine⟨acc,L,rfl, .inl ⟨.of ha1,λp hp=>?_⟩⟩
  have sm2:Same H (upd H1 p (.tup L)):=sm1.trans (aL hp _)
  refine h p _ sm2 ⟨p,L,rfl, .of aE,ShL.of_rows (by rw[r1,hlen]) λi row e=>?_⟩
  have hi:i<M.length:=(ao.mp e).1
  obtain⟨b,g1,g2⟩:=r2 i row (by omega) e
  exact⟨b,g1, .of (by rw[aM (aQ g2 hp)];exact g2)⟩
theorem aCQ {H:Hp}{F:Addr}{ls:List Addr}{M:List (List Str)}(m:Mg vaI H F ls M):Mat H F ls (cG M):=by
 refine⟨m.top,by unfold cG;rw[af];exact m.len,λi l r h1 h2=>?_,m.nd,m.out⟩
 unfold cG at h2
 rw[bh] at h2
 obtain⟨q,hq,rfl⟩:=g7.mp h2
 rw[i6]
 exact m.row i l q h1 hq
def aDU (C:Addr) (n:Int) (H:Hp) (E:XK):Prop:=∀dx H',Same H H'->H' dx=some (.xd [("at", .int n)])->E (.ref C) (some dx) H'
theorem aAA {C:Addr}{n:Int}{H H1:Hp}{E:XK}(s:Same H H1)(hn:n.natAbs<1000000)(q:aDU C n H E):([.int n]:List V).length<=100/\∀e,H1 e=none->aCw C (.ref e :: [.int n]) (upd H1 e (exN e C)) (λv H2=>v = .non/\∃dx,H2 e=some (exD e C dx)/\E (.ref C) (some dx) (hmE e H2)) E0:=by
 refine⟨by show 1<=100;decide,λe he=>⟨e,n,rfl,hn,aE,λdx hdx hne=>⟨rfl,dx,aE,q dx _ (λb o h=>?_) ?_⟩⟩⟩
 ·have hb:b≠e:=aQ (s _ _ h) he
  rw[wW hb,aM hb]
  have hbd:b≠dx:=λz=>by
   rw[z] at hb h
   rw[aM hb,s _ _ h] at hdx
   cases hdx
  rw[aM hbd,aM hb]
  exact s _ _ h
 ·rw[wW hne,aM hne]
  exact aE
def tL (K:aa) (C:Addr):Sp:=λvs H Q E=>∃t:Str,vs=[.str t]/\Tx t/\match vH (bb t " ") with
 | .no n=>aDU C (n:Int) H E
 | .tab T=>∀p H',Same H H'->Sh K H' (fK T) (.ref p)->Q (.ref p) H'
theorem pJ {W:List Str}{k:Nat}(h:∀i,i<k->jY (par (W.take (i+1)))=true):jY (par (W.take k))=true:=by
 cases k with
 |zero=>exact xX
 |succ k=>exact h k (jo k)
theorem yR {W:List Str}{k:Nat}{w:Str}(hw:W[k]?=some w)(h:∀i,i<k->jY (par (W.take (i+1)))=true):aAR (par (W.take k)) w=jY (par (W.take (k+1))):=by
 have hb:=pJ h
 obtain⟨D,r,e⟩:=cM (W.take k)
 rw[jG hw,dF]
 rw[e] at hb ⊢
 exact aBt (fY.mp hb) w
theorem aBo:∀vs H Q E,tL K X vs H Q E->jS K X E (tF K) (aAi K) (aCw X) { nx:=λ_ H'=>Q .non H',rt:=Q } (bN ["text","words","rows","at","word","table"] vs) H:=by
 intro vs H Q E h
 obtain⟨t,rfl,hT,q⟩:=h
 unfold Tx at hT
 obtain⟨z1,z2,z3⟩:=hV t
 refine⟨_,rfl,rfl,_,_,rfl,rfl,by decide,bc hT (by decide),bc z1 (by rw[dy];omega),λW hW=>?_⟩
 have hz:(bb t " ").length<=800001:=by omega
 have hTx:∀w∈bb t " ",Tx w:=λw hw=>bc (z2 w hw) hT
 generalize bb t " " = ws at *
 refine⟨aj _,λr0 hr0=>⟨show 1<=cb by decide,λR hR=>?_⟩⟩
 have nR0:R≠r0:=λe=>by rw[e,aE] at hR;cases hR
 rw[aM nR0] at hR
 have nRW:R≠W:=λe=>by rw[e,aE] at hR;cases hR
 rw[aM nRW] at hR
 have nW0:r0≠W:=λe=>by rw[e,aE] at hr0;cases hr0
 rw[aM nW0] at hr0
 have hWx:upd (upd (upd H W (.lst (ws.map V.str))) r0 (.lst [])) R (.lst [.ref r0]) W=some (.lst (ws.map V.str)):=by
  rw[aM nRW.symm,aM nW0.symm]
  exact aE
 refine⟨_,rfl,W,true,rfl,⟨_, .of hWx⟩,?_⟩
 refine pB (b:=true) (xs:=ws.map V.str) (λk σ' H'=>∃(ls:List Addr) (x3 x4:Option V),σ'=[some (.str t),some (.ref W),some (.ref R),x3,x4,none]/\H' W=some (.lst (ws.map V.str))/\Mg vaI H' R ls (par (ws.take k))/\Same H H'/\W∉ls/\(∀l∈ls,H l=none)/\∀i,i<k->jY (par (ws.take (i+1)))=true) ?_ ?_ ?_ ?_
 ·refine⟨[r0],none,none,rfl,hWx,?_,eV (eV (aL hW _) hr0) hR,by simpa using nW0.symm,λl hm=>by rw[ar.mp hm];exact hr0,λi hi=>absurd hi (j6 _)⟩
  refine⟨aE,rfl,λi l r a b=>?_,by simp,by simpa using nR0⟩
  cases i with
  |zero=>
   cases a
   cases b
   rw[aM nR0.symm]
   exact aE
  |succ i=>simp at a
 ·rintro k σ' H' _ ⟨ls,x3,x4,_,hWx,_⟩
  exact .of hWx
 ·rintro k x σ' H' p hx hp ⟨ls,x3,x4,rfl,hWx,m,sm,nW,fr,hb⟩
  obtain⟨w,hw,rfl⟩:∃w,ws[k]?=some w/\V.str w=x:=by
   rw[bh] at hx
   exact g7.mp hx
  have sp1:=aL hp (.tup [.int (k:Int), .str w])
  have hk:k<ws.length:=(ao.mp hw).1
  have m1:=m.same sp1
  have sm1:=sm.trans sp1
  have hWx1:=sp1 _ _ hWx
  have hpl:=rX (ws.take k)
  have htk:(ws.take k).length=k:=by rw[fj];omega
  have hstep:=yR hw hb
  refine⟨p,_,rfl, .of aE,rfl,_,_,rfl,_,_,rfl,rfl,?_⟩
  generalize upd H' p (.tup [.int (k:Int), .str w])=H1 at *
  refine⟨_,rfl,_,rfl,R,ls,_,w,rfl,m1,hpl.1,hTx w (cu hw),_,rfl,?_⟩
  cases hm:aAR (par (ws.take k)) w with
  |false=>
   rw[hm] at hstep
   rw[aAz hk hstep.symm hb] at q
   exact kK ⟨_,rfl,aAA sm1 (by omega) q⟩
  |true=>
   rw[hm] at hstep
   have hb':∀i,i<k+1->jY (par (ws.take (i+1)))=true:=λi hi=>by
    by_cases c:i<k
    ·exact hb i c
    ·rw[show i=k by omega];exact hstep.symm
   refine pE ⟨_,rfl, .str _, .str _,aj _,rfl,rfl,_,rfl,?_⟩
   rw[fN]
   by_cases c:w="/"
   ·refine bW (decide_eq_true c) ?_
    refine⟨_,rfl, .inl ⟨rfl,_, .of m1.top⟩,aj _,λz hz'=>?_⟩
    have hzR:=aQ m1.top hz'
    refine⟨R,ls.map V.ref, .ref z,rfl,rfl,by rw[aM hzR];exact m1.top,?_,?_⟩
    ·rw[af,m.len,dy]
     omega
    have m2:=aAv m1 hz'
    rw[fy] at m2
    have hHz:H z=none:=by
     cases e:H z with
     |none=>rfl
     |some o=>rw[sm1 _ _ e] at hz';cases hz'
    refine⟨ls++[z],_,_,rfl,?_,by rw[jG hw,c];exact m2,eV (eV sm1 hHz) hR,?_,λl hm=>?_,hb'⟩
    ·rw[aM nRW.symm,aM (aQ hWx1 hz')]
     exact hWx1
    ·intro h
     rcases bp.mp h with h | h
     ·exact nW h
     ·exact aQ hWx1 hz' (ar.mp h)
    ·rcases bp.mp hm with h | h
     ·exact fr l h
     ·rw[ar.mp h]
      exact hHz
   ·have hn:eT w=true:=by
     unfold aAR at hm
     rw[if_neg c,cg] at hm
     exact hm.1
    obtain⟨_,_,h7,_,_,_,_,hi⟩:=fB hn
    refine bA (decide_eq_false c) ?_
    obtain⟨l,r,e1,e2,e3,e4,e5⟩:=wJ m1 c
    refine⟨_,rfl,1,rfl,kO (.of m1.top) e1 ⟨.inl ⟨rfl,_, .of e4⟩,_,rfl,w,eC w,rfl,hi,by rw[gK] at h7;omega,l,_,_,rfl,rfl,e4,?_,?_⟩⟩
    ·rw[af,dy]
     omega
    rw[fy] at e5
    refine⟨ls,_,_,rfl,?_,by rw[jG hw];exact e5,eV sm1 (fr l e2),nW,fr,hb'⟩
    rw[aM (λe=>nW (by rw[e];exact e2))]
    exact hWx1
 ·rintro σ' H' ⟨ls,x3,x4,rfl,hWx,m,sm,nW,fr,hb⟩
  rw[af] at m hb
  rw[ia] at m
  have hbg:=pJ hb
  rw[ia] at hbg
  rw[wN hb] at q
  obtain⟨D,r,e⟩:=cM ws
  rw[e] at m hbg q
  have bg:=fY.mp hbg
  have h8:=(xW bg).1
  refine aBu (t:=2) rfl (aCQ m) (by unfold cG;rw[af];omega) λp H2 s2 hS=>?_
  refine⟨_,rfl, .ref p,_,rfl,hS,aAE bg,λH3 s3=>⟨_,rfl,?_⟩⟩
  rw[yY bg]
  have s13:=(sm.trans s2).trans s3
  cases hf:gH (D++[r]) with
  |true=>
   rw[hf] at q
   exact pE ⟨_,rfl,q p H3 s13 (hS.same s3)⟩
  |false=>
   rw[hf] at q
   have q':aDU X (ws.length:Int) H E:=q
   refine kK ⟨_,rfl,W,_,rfl, .inl (.of (s3 _ _ (s2 _ _ hWx))),?_⟩
   rw[af]
   exact aAA s13 (by omega) q'
end
theorem aCj (ps:List Str)(i:Nat):rS (ps.map V.str) none (some ((i:Int)+1))=(ps.take (i+1)).map V.str:=by
 unfold rS
 rw[pk]
 show List.take (HT.sIx _ _ (some ((i:Int)+1)) - 0) (List.drop 0 _)=_
 rw[oa,Nat.sub_zero]
 have e:HT.sIx (ps.map V.str).length (ps.map V.str).length (some ((i:Int)+1))=min (i+1) (ps.map V.str).length:=by
  unfold HT.sIx
  simp
  omega
 rw[e]
 by_cases c:i+1<=(ps.map V.str).length
 ·rw[Nat.min_eq_left c]
 ·rw[Nat.min_eq_right (by omega),qs (av _),qs (by omega)]
theorem oA {y:Str}:∀{P:List Str},P≠[]->(dh y P).length+y.length=(P.map (·.length)).sum+P.length*y.length
 |[],h=>absurd rfl h
 |[a],_=>by simp[dh]
 |a :: b :: P,_=>by
  have ih:=oA (y:=y) (P:=b :: P) (by simp)
  have el:dh y (a :: b :: P)=a++y++dh y (b :: P):=rfl
  rw[el,gj,gj,e6,List.sum_cons,cz,Nat.succ_mul]
  omega
theorem aAo {w:Str}:∀{P:List Str},w∈P->w.length<=(P.map (·.length)).sum
 |[],h=>by cases h
 |a :: P,h=>by
  rw[e6,List.sum_cons]
  rcases dc.mp h with rfl | h
  ·omega
  ·have:=aAo h
   omega
theorem pX (t y:Str)(hy:1<=y.length):(bb t y).length<=t.length+y.length/\∀w∈bb t y,w.length<=t.length+y.length:=by
 have h:=oA (y:=y) (gD t y)
 rw[e9] at h
 refine⟨?_,λw hw=>?_⟩
 ·have:=qb (bb t y).length hy
  omega
 ·have:=aAo hw
  omega
theorem qD {t:Str}(h:t.length<=800000):u3 " " (bb t " ")=true:=by
 have hs:=oA (y:=" ") (gD t " ")
 rw[e9] at hs
 have e1:(" " : Str).length=1:=rfl
 rw[e1] at hs
 unfold u3
 rw[StrLaws.joinTotal,e1,<- hs]
 unfold tw
 rw[decide_eq_false (by rw[dy];omega)]
 rfl
def fw (P:List Str):List (List Int):=(P.filter λp=>!decide (47∈p.cps.toList)).map λp=>(bb p " ").map eC
theorem aBE {P:List Str}{i:Nat}{p:Str}(h:P[i]?=some p):fw (P.take (i+1))=fw (P.take i)++(if 47∈p.cps.toList then[] else[(bb p " ").map eC]):=by
 unfold fw
 rw[jG h,List.filter_append,fy]
 congr 1
 by_cases c:47∈p.cps.toList
 ·rw[if_pos c,List.filter_cons_of_neg (by rw[decide_eq_true c];decide)]
  rfl
 ·rw[if_neg c,List.filter_cons_of_pos (by rw[decide_eq_false c];rfl)]
  rfl
theorem aCG (P:List Str):(fw P).length<=P.length:=by
 unfold fw
 rw[af]
 exact rp _ _
theorem zV (p:Str):(!(dw p ("/" : Str) 0 p.length 1).isEmpty)=decide (47∈p.cps.toList):=StrLaws.found_one p 47
section
variable {K:aa}
def mL (K:aa):Sp:=λvs H Q _=>∃t:Str,vs=[.str t]/\Tx t/\match vH (bb t " ") with
 | .no n=>∀H',Same H H'->Q (.int (n:Int)) H'
 | .tab T=>∀v H',Same H H'->Sh K H' (fK T) v->Q v H'
theorem aAj {σ:L2.St}{H:Hp}{s:Nat}{F:Addr}{P:List Str}{Q:VK}(ht:σ[s]?=some (some (.ref F)))(hF:H F=some (.lst (P.map V.str)))(hz:P.length<=800010)(hp:∀p∈P,p.length<=800010)(hn:∀p∈P,47∉p.cps.toList->∀w∈bb p " ",eT w=true)(q:∀tp L H',Same H H'->H' tp=some (.tup L)->Rows K H' L (fw P)->Q (.ref tp) H') :
  tCB (fR K) (aB (gF [none] (uS K (aH s)) (aX 0) [(bG (tOp (aBX true) (tC (.str "/")) (aH 0)))] λacc=>(gE (tCB (fR K) (aB (gF [none] (uS K (tBM K "str" kQ (aH 0) (aB (tC (.str " ")) aV))) (aX 0) [] λacc=>(gE (tCB rZ (aB (aH 0) aV)) acc)) aV)) acc)) aV) σ H Q:=by
 refine⟨_,ht,F,rfl, .inl ⟨⟨_, .of hF⟩,λacc hacc=>?_⟩⟩
 refine tG (vars:=[0]) (K:=K) (a:=F) (xs:=P.map V.str) (λi L H'=>Rows K H' L (fw (P.take i))) (by decide) (by show 0<1;decide) Rows.nil hacc (λi L H' sm _ => .of (sm _ _ hF)) (λi x σ1 H1 L D hx l1 ag1 s1 sm1 ha1 rw1 hD=>?_) λσ1 H1 L sm1 ha1 rw1=>?_
 ·obtain⟨p,hpi,rfl⟩:∃p,P[i]?=some p/\V.str p=x:=by
   rw[bh] at hx
   exact g7.mp hx
  have hpm:=cu hpi
  have ft:=aBE hpi
  refine⟨_,s1,_,_,rfl,rfl,_,rfl,?_⟩
  rw[zV]
  by_cases c:47∈p.cps.toList
  ·rw[if_pos c,jc] at ft
   refine bA (by rw[decide_eq_true c];rfl) ?_
   exact hD σ1 H1 L l1 ag1 sm1 ha1 (by rw[ft];exact rw1)
  ·rw[if_neg c] at ft
   refine bW (by rw[decide_eq_false c];rfl) ?_
   have hl:=hp p hpm
   have hw:=hn p hpm c
   obtain⟨z1,z2⟩:=pX p " " (by decide)
   have e1:(" " : Str).length=1:=rfl
   rw[e1] at z1
   refine⟨_,s1,rfl,_,_,rfl,rfl,by decide,bc hl (by rw[dy];omega),bc z1 (by rw[dy];omega),λS hS=>⟨S,rfl, .inl ⟨⟨_, .of aE⟩,λacc2 hacc2=>?_⟩⟩⟩
   refine cO [0] (((bb p " ").map eC).map V.int) hacc2 (by rw[af,af];omega) ?_ λσ' H' sm hl'=>⟨acc2,_,rfl, .inl ⟨.of hl',λtp htp=>?_⟩⟩
   ·generalize bb p " " = ws at *
    refine Emits.cast (L:=(bu (ws.map V.str).length).flatMap λi=>[V.int (eC (ws.getD i ""))]) ?_ (by rw[af,iG (λx=>V.int (eC x)),i6];rfl)
    refine rO (by decide) (by show 0<1;decide) (λH' sx=>(cK hacc2 sx).seq (.of aE)) λj x σ5 H5 hx l5 ag5 s5 sx5 _=>?_
    refine dX λQ hQ=>?_
    rw[bh] at hx
    cases ey:ws[j]? with
    |none=>rw[ey] at hx;cases hx
    |some y=>
     rw[ey] at hx
     cases hx
     have ed:ws.getD j "" = y:=by rw[ah,ey];rfl
     rw[ed] at hQ
     obtain⟨_,_,h7,_,_,_,_,hi⟩:=fB (hw y (cu ey))
     exact⟨_,s5,y,eC y,rfl,hi,by rw[gK] at h7;omega,hQ _ (Same.refl _)⟩
   ·have s2:=((aL hS (.lst ((bb p " ").map V.str))).trans sm).trans (aL htp (.tup (((bb p " ").map eC).map V.int)))
    have ha2:=s2 _ _ ha1
    have hL:=rw1.1
    have hfl:=aCG (P.take i)
    have htl:(P.take i).length<=P.length:=by rw[fj];omega
    refine⟨L,ha2,by rw[dy];omega,?_⟩
    refine hD σ1 _ (L++[.ref tp]) l1 ag1 (wO hacc (sm1.trans s2)) aE ?_
    rw[ft]
    exact((rw1.same s2).put ha2).snoc (sK (.of aE) ha2)
 ·rw[af,ia] at rw1
  refine⟨acc,L,rfl, .inl ⟨.of ha1,λtp htp=>?_⟩⟩
  have s2:=aL htp (.tup L)
  exact q tp L _ (sm1.trans s2) aE (rw1.same s2)
theorem aCq:∀vs H Q E,mL K vs H Q E->lK K (zM K) { nx:=λ_ H'=>Q .non H',rt:=Q } (bN ["text","words","at","rows","found"] vs) H:=by
 intro vs H Q E h
 obtain⟨t,rfl,hT,q⟩:=h
 unfold Tx at hT
 obtain⟨z1,z2,z3⟩:=hV t
 refine⟨_,rfl,rfl,_,_,rfl,rfl,by decide,bc hT (by decide),bc z1 (by rw[dy];omega),λW hW=>?_⟩
 have hz:(bb t " ").length<=800001:=by omega
 have hTx:∀w∈bb t " ",Tx w:=λw hw=>bc (z2 w hw) hT
 have hjo:=qD hT
 have hjn:i8 " " (bb t " ")=t:=by
  unfold i8
  rw[fo,e9]
 have hpn:∀(D:List (List Str)) (r:List Str),par (bb t " ")=D++[r]->Bg D r->∀p∈bb t " / ",47∉p.cps.toList->∀w∈bb p " ",eT w=true:=λD r e b p hp h47 w hw=>vT e b hp h47 hw
 have hfr:∀(D:List (List Str)) (r:List Str),par (bb t " ")=D++[r]->Bg D r->r≠[]->fw (bb t " / ")=cG (D++[r]):=λD r e b hr=>uH e b hr
 have sW:=aL hW (.lst ((bb t " ").map V.str))
 have hWx:upd H W (.lst ((bb t " ").map V.str)) W=some (.lst ((bb t " ").map V.str)):=aE
 generalize bb t " " = ws at *
 generalize upd H W (.lst (ws.map V.str))=H1 at *
 clear hW
 refine⟨_,rfl,W,_,rfl, .inl (.of hWx),((ws.length:Nat):Int),by rw[af],by omega,by omega,?_⟩
 rw[gy]
 refine hZ (lo:=0) (n:=ws.length) (λk σ' H'=>k<=ws.length/\∃x2,σ'=[some (.str t),some (.ref W),x2,none,none]/\Same H1 H'/\∀i,i<k->jY (par (ws.take (i+1)))=true) ⟨aj _,_,rfl,Same.refl _,λi hi=>absurd hi (j6 _)⟩ (λk σ' H2 hk ⟨_,x2,es,s2,hb⟩=>?_) λσ' H2 ⟨_,x2,es,s2,hb⟩=>?_
 ·subst es
  rw[Int.zero_add]
  refine⟨_,rfl,_,rfl,_,rfl, .inl ⟨W,_,rfl, .of (s2 _ _ hWx),λA hA=>?_⟩⟩
  rw[aCj]
  refine⟨A,ws.take (k+1),rfl, .of aE,λw hw=>hTx w (ly hw),by rw[fj];omega,λH3 s3=>⟨_,rfl,?_⟩⟩
  have s13:=(s2.trans (aL hA _)).trans s3
  cases hc:jY (par (ws.take (k+1))) with
  |false=>
   rw[aAz hk hc hb] at q
   have q':∀H',Same H H'->Q (.int (k:Int)) H':=q
   exact kK ⟨_,rfl,q' H3 (sW.trans s13)⟩
  |true=>
   exact pE ⟨hk,_,rfl,s13,λi hi=>by
    by_cases c:i<k
    ·exact hb i c
    ·rw[show i=k by omega];exact hc⟩
 ·subst es
  have hbg:=pJ hb
  rw[ia] at hbg
  rw[wN hb] at q
  obtain⟨D,r,e⟩:=cM ws
  rw[e] at hbg q
  have bg:=fY.mp hbg
  have hW2:=s2 _ _ hWx
  have hpn':=hpn D r e bg
  have hfr':=hfr D r e bg
  obtain⟨wl,hwl,hwr⟩:=xA z3 e
  obtain⟨y1,y2⟩:=pX t " / " (by decide)
  have e3:(" / " : Str).length=3:=rfl
  rw[e3] at y1 y2
  refine⟨rfl,_,rfl,_,W,ws,rfl,rfl, .of hW2,hjo,?_⟩
  rw[hjn]
  refine⟨rfl,_,_,rfl,rfl,by decide,bc hT (by decide),bc y1 (by rw[dy];omega),λP hP=>?_⟩
  have sP:=aL hP (.lst ((bb t " / ").map V.str))
  generalize bb t " / " = ps at *
  refine aAj (s:=3) rfl aE (by omega) (λp hp=>by have:=y2 p hp;omega) hpn' λtp L H3 s3 htp hR=>?_
  have s23:=sP.trans s3
  have hW3:=s23 _ _ hW2
  have sH:=(sW.trans s2).trans s23
  have el:(ws.map V.str)[(ws.map V.str).length - 1]?=some (.str wl):=by rw[af,bh,hwl];rfl
  refine⟨_,rfl,1,rfl,kO (.of hW3) el ⟨.str _, .str _,aj _,rfl,rfl,_,rfl,?_⟩⟩
  rw[fN]
  by_cases hr:r=[]
  ·subst hr
   rw[aBH] at q
   have q':∀H',Same H H'->Q (.int (ws.length:Int)) H':=q
   refine bW (decide_eq_true (hwr.mpr rfl)) (kK ⟨_,rfl,W,_,rfl, .inl (.of hW3),?_⟩)
   rw[af]
   exact q' H3 sH
  ·refine bA (decide_eq_false λz=>hr (hwr.mp z)) ?_
   rw[hfr' hr] at hR
   have hfi:=zO bg hr
   have hRl:L.length=(D++[r]).length:=by rw[hR.1];unfold cG;rw[af]
   have hDl:(D++[r]).length=D.length+1:=by simp
   have h0:(D++[r])[0]?=some ((D++[r]).getD 0 []):=by rw[ah,ai (by omega)];rfl
   have hl:(D++[r])[D.length]?=some r:=by rw[bo (av _),gx];rfl
   have g0:(cG (D++[r]))[0]?=some (((D++[r]).getD 0 []).map eC):=by unfold cG;rw[bh,h0];rfl
   have gl:(cG (D++[r]))[D.length]?=some (r.map eC):=by unfold cG;rw[bh,hl];rfl
   obtain⟨b0,eb0,q0⟩:=hR.2 0 _ g0
   obtain⟨bl,ebl,ql⟩:=hR.2 D.length _ gl
   have ebl':L[L.length - 1]?=some (.ref bl):=by rw[hRl,hDl,Nat.add_sub_cancel];exact ebl
   have hT3:SqT K H3 tp L := .of htp
   have hSh:Sh K H3 (fK (cG (D++[r]))) (.ref tp):=⟨tp,L,rfl,hT3,ShL.of_rows hR.1 hR.2⟩
   have lW:∀H',Same H H'->gH (D++[r])=false->Q (.int (ws.length:Int)) H':=λH' s hf=>by
    rw[hf] at q
    exact(show ∀H',Same H H'->Q (.int (ws.length:Int)) H' from q) H' s
   have lT:∀v H',Same H H'->Sh K H' (fK (cG (D++[r]))) v->gH (D++[r])=true->Q v H':=λv H' s hS hf=>by
    rw[hf] at q
    exact(show ∀v H',Same H H'->Sh K H' (fK (cG (D++[r]))) v->Q v H' from q) v H' s hS
   clear q hpn hpn' hfr hfr' hjo hjn z1 z2 y1 y2 hR g0 gl h0 hl
   generalize hn0:((D++[r]).getD 0 []).length=n0 at *
   refine⟨_,rfl,tp,L,rfl, .inr hT3,_,rfl,ixT hT3 (j:=0) eb0 ⟨b0,_,rfl, .inr q0,_,_,rfl,rfl,_,rfl,?_⟩⟩
   rw[af,af,hRl,hn0]
   by_cases c1:(D++[r]).length<n0
   ·refine bW (decide_eq_true (by omega)) (kK ⟨_,rfl,W,_,rfl, .inl (.of hW3),?_⟩)
    rw[af]
    refine lW H3 sH ?_
    cases hf:gH (D++[r]) with
    |false=>rfl
    |true=>exact absurd c1 (hfi.mp hf).1
   refine bA (decide_eq_false (by omega)) ?_
   refine⟨_,rfl,1,rfl,aAd hT3 ebl' ⟨bl,_,rfl, .inr ql,_,rfl,ixT hT3 (j:=0) eb0 ⟨b0,_,rfl, .inr q0,_,_,rfl,rfl,_,rfl,?_⟩⟩⟩
   rw[af,af,af,af,hn0]
   by_cases c2:r.length<n0
   ·refine bW (decide_eq_true (by omega)) ⟨_,rfl,W,_,rfl, .inl (.of hW3),?_⟩
    rw[af]
    refine lW H3 sH ?_
    cases hf:gH (D++[r]) with
    |false=>rfl
    |true=>exact absurd c2 (hfi.mp hf).2
   ·exact bA (decide_eq_false (by omega)) ⟨_,rfl,lT (.ref tp) H3 sH hSh (hfi.mpr ⟨c1,c2⟩)⟩
end
theorem aDh {W:List Str}{n:Nat}(h:vH W = .no n):n<=W.length:=by
 unfold vH at h
 cases e:dJ W with
 |none=>
  rw[e] at h
  dsimp only at h
  split at h
  ·cases h
  ·cases h;exact av _
 |some k=>
  rw[e] at h
  cases h
  unfold dJ at e
  rw[pe] at e
  exact nh (ip.mp e.2.1)
theorem aCM {W:List Str}{T:List (List Int)}(h:vH W = .tab T):∃n,Tb T n:=by
 unfold vH at h
 cases e:dJ W with
 |some k=>rw[e] at h;cases h
 |none=>
  rw[e] at h
  dsimp only at h
  split at h
  ·rename_i hf
   cases h
   unfold dJ at e
   rw[pf] at e
   have hb:jY (par W)=true:=by
    by_cases c:W.length=0
    ·rw[gu.mp c];exact xX
    ·have:=e (W.length - 1) (by omega)
     unfold aCx at this
     rw[show W.length - 1+1=W.length by omega,ia] at this
     simpa using this
   obtain⟨D,r,ep⟩:=cM W
   rw[ep] at hb hf ⊢
   exact⟨_,wH (fY.mp hb) hf⟩
  ·cases h
theorem aCR {i:Int}(h:i.natAbs<10 ^ 40):okR (.int i):=by
 obtain⟨d,e,a,b,_⟩:=aAl (K:=default) (H:=λ_=>none) h
 have hd:d = .int i:=by cases d <;> first | (cases e;done) | (cases e;rfl) | (obtain⟨_,_,z,_⟩:=e;cases z)
 subst hd
 exact⟨a,b,by show 0<=4000;decide,by show 0<=100;decide⟩
structure TF (K:aa)(B W T X E S R F M:Addr):Prop where
 xc:aAt K X
 at':aEw K X
 no7:oh K (.ref X) [.ref B, .ref W, .ref T, .ref E, .ref S, .ref F, .ref M]=some false
 nn7:oh K (.type "NoneType") [.ref B, .ref W, .ref T, .ref E, .ref S, .ref F, .ref M]=some false
 exR:sj K (.ref X) (.ref R)=some true
 exX:sj K (.ref X) (.ref X)=some true
 v:lh K (.ref X) (.type "ValueError")=some true
section
variable {K:aa}{B W T X E S R F M:Addr}
theorem aAH (f:TF K B W T X E S R F M):∀vs H Q Y,mL K vs H Q Y->jQ K B W T X E S R F M (tL K X) { nx:=λ_ H'=>Q .non H',rt:=Q } (bN ["text","caught","found","at","e"] vs) H:=by
 intro vs H Q Y h
 obtain⟨t,rfl,hT,q⟩:=h
 cases hd:vH (bb t " ") with
 |no n=>
  rw[hd] at q
  have q':∀H',Same H H'->Q (.int (n:Int)) H':=q
  refine⟨_,rfl,t,rfl,hT,?_⟩
  rw[hd]
  intro dx H1 s1 hdx
  refine⟨X,dx,rfl,rfl,f.exR,λa ha=>⟨_,rfl,?_⟩⟩
  have s2:=aL ha (exE a X dx)
  have hE:ExcAt (upd H1 a (exE a X dx)) a X:=ExcAt.e aE
  generalize upd H1 a (exE a X dx)=H2 at *
  refine⟨_,rfl,show 7<=cb by decide,λp hp => .inl ⟨a,X,_,false,rfl,?_,f.xc, .inr (.inr ⟨p,[B,W,T,E,S,F,M],rfl,aE,f.no7⟩),_,rfl,pE ?_⟩⟩
  ·obtain⟨φ,e,r⟩:=hE
   exact⟨φ,aL hp _ _ _ e,r⟩
  have hE3:ExcAt (upd H2 p (.tup ([B,W,T,E,S,F,M].map V.ref))) a X:=by
   obtain⟨φ,e,r⟩:=hE
   exact⟨φ,aL hp _ _ _ e,r⟩
  have s3:Same H (upd H2 p (.tup ([B,W,T,E,S,F,M].map V.ref))):=(s1.trans s2).trans (aL hp _)
  refine⟨1,rfl,?_⟩
  refine⟨_,rfl,t,rfl,hT,?_⟩
  rw[hd]
  intro dx2 H4 s4 hdx2
  refine⟨X,dx2,rfl,rfl,f.exX,λa2 ha2=>⟨_,rfl,a2,X,dx2,n,rfl,aE,?_,f.xc,f.at',?_⟩⟩
  ·rw[aM (aQ hdx2 ha2)]
   exact hdx2
  refine⟨_,rfl, .inr ⟨rfl,_,rfl,bA (by simp) ?_⟩⟩
  have s5:=s4.trans (aL ha2 (exE a2 X dx2))
  refine⟨_,rfl, .inl ⟨a,X,_,true,rfl,?_,f.xc, .inl ⟨_,rfl,f.v⟩,_,rfl,kK ⟨_,rfl,q' _ (s3.trans s5)⟩⟩⟩
  obtain⟨φ,e,r⟩:=hE3
  exact⟨φ,s5 _ _ e,r⟩
 |tab U=>
  rw[hd] at q
  have q':∀v H',Same H H'->Sh K H' (fK U) v->Q v H':=q
  refine⟨_,rfl,t,rfl,hT,?_⟩
  rw[hd]
  intro p H1 s1 hS1
  refine⟨_,rfl,show 7<=cb by decide,λtp htp => .inr ⟨_,false,rfl, .inr (.inr ⟨tp,[B,W,T,E,S,F,M],rfl,aE,f.nn7⟩),_,rfl,pE ⟨1,rfl,?_⟩⟩⟩
  have s2:=aL htp (.tup ([B,W,T,E,S,F,M].map V.ref))
  refine⟨_,rfl,t,rfl,hT,?_⟩
  rw[hd]
  intro p2 H3 s3 _
  exact⟨_,rfl, .inr ⟨rfl,_,rfl,kK ⟨_,rfl,q' (.ref p) H3 ((s1.trans s2).trans s3) (hS1.same (s2.trans s3))⟩⟩⟩
def wM (K:aa):Sp:=λvs H Q _=>∃(a:Addr) (ns:List Int),vs=[.ref a]/\SqL K H a (ns.map V.int)/\ns.length<=63/\∀H',Q (.bl true) H'
theorem aCg:∀vs H Q E,wM K vs H Q E->aCC K (zP K) (tS K) gJ (mL K) (nO K) (mL K) { nx:=λ_ H'=>Q .non H',rt:=Q } (bN ["script","tape","turn","table","text"] vs) H:=by
 intro vs H Q E h
 obtain⟨a,ns,rfl,hS,hn,q⟩:=h
 refine⟨_,rfl,_,rfl, .inl ⟨a,_,rfl,hS,λsc hsc=>?_⟩⟩
 obtain⟨ms,ems,_⟩:=yW ns none (some 63)
 rw[ems]
 refine .inl ⟨sc,_,rfl, .inl (.of aE),λl hl=>⟨show 3<=cb by decide,λp hp=>?_⟩⟩
 have hlp:l≠p:=λe=>by rw[<- e,aE] at hp;cases hp
 have hP:Pen (upd (upd (upd H sc (.lst (ms.map V.int))) l (.lst (ms.map V.int))) p (.lst [.ref l, .int 0, .int 0])) p l ms:=⟨0,0,aE,by rw[aM hlp];exact aE,hlp⟩
 refine⟨15,rfl,by decide,by decide,?_⟩
 refine hZ (lo:=0) (n:=15) (λi σ' H'=>∃x2 x3 x4,σ'=[some (.ref a),some (.ref p),x2,x3,x4]/\Pen H' p l ms) ⟨_,_,_,rfl,hP⟩ (λi σ' H1 hi ⟨x2,x3,x4,es,hP1⟩=>?_) λσ' H1 ⟨x2,x3,x4,es,hP1⟩=>by subst es;exact q H1
 subst es
 refine⟨_,rfl,?_⟩
 refine aEm (s:=1) (ts:=[3,8]) (m:=2) rfl hP1 rfl (by decide) (by decide) (λR h=>h) (by decide) λt r H2 ht hr hP2 sx2=>?_
 have htb:t<=8:=by simp at ht;omega
 refine⟨p,l,ms,1+r,by rw[show(((1+r:Nat):Int))=1+(r:Int) from by omega];rfl,hP2,by omega,by omega,λT v H3 tb hS hP3 sx3=>?_⟩
 have fin:∀(tx:Str) (H4:Hp),Tx tx->Pen H4 p l ms->(aZ (fH (bG (tOp (aAC K) (tCB (uG K) (aB (bQ (mL K) [] E0 (aB (aH 4) aV)) aV)) (tCB (uG K) (aB (bQ (mL K) [] E0 (aB (aH 4) aV)) aV)))) (aZ (dL (tC (.bl false))) aR) aR) aR) { nx:=λσ' H'=>∃x2 x3 x4,σ'=[some (.ref a),some (.ref p),x2,x3,x4]/\Pen H' p l ms,rt:=Q } ([some (.ref a),some (.ref p),some (.int (0+(i:Int))),some v,some (.str tx)]:L2.St) H4:=λtx H4 hx hP4=>by
  have hlen:=(hV tx).1
  refine⟨_,rfl,tx,rfl,hx,?_⟩
  unfold Tx at hx
  cases hd:vH (bb tx " ") with
  |no n=>
   have hn:=aDh hd
   have ok:okR (.int (n:Int)):=aCR (ff (show(n:Int).natAbs<=1000000 by omega) (by decide))
   intro H5 s5
   refine⟨.int n,_,rfl,rfl,ok,_,rfl,tx,rfl,hx,?_⟩
   rw[hd]
   intro H6 s6
   exact⟨.int n,_,rfl,rfl,ok, .str _, .str _,aj _,rfl,rfl,_,rfl,bA (by rw[oV];rfl) ⟨_,_,_,rfl,(hP4.x s5).x s6⟩⟩
  |tab U=>
   obtain⟨m,tU⟩:=aCM hd
   intro v5 H5 s5 h5
   refine⟨fK U,_,rfl,h5,aEn tU,_,rfl,tx,rfl,hx,?_⟩
   rw[hd]
   intro v6 H6 s6 h6
   exact⟨fK U,_,rfl,h6,aEn tU, .str _, .str _,aj _,rfl,rfl,_,rfl,bA (by rw[oV];rfl) ⟨_,_,_,rfl,(hP4.x s5).x s6⟩⟩
 refine⟨_,rfl,p,l,ms,6,rfl,hP3,by decide,by decide,λr4 H4 hr4 hP4 sx4=>⟨.int _, .int _,aj _,rfl,rfl,_,rfl,?_⟩⟩
 have hS4:=Pen.tab hS hP3 sx4
 rw[aP]
 by_cases c:r4=0
 ·exact bW (decide_eq_true (by omega)) ⟨_,rfl,v,T,rfl,hS4,tb.wd,λtx H5 hx s5=>fin tx H5 (by have:=tb.qd.len;have:=tb.hi;unfold Tx;omega) (hP4.x s5)⟩
 ·exact bA (decide_eq_false (by omega)) ⟨_,rfl,_,rfl,p,l,ms,v,T,1+r,rfl,hP4,hS4,tb,λtx H5 hx hP5 sx5=>fin tx H5 hx hP5⟩
end
end K84
namespace K84
open PySem L2
section
variable {K:aa}{C_NoText:Addr}
theorem sZ:∀vs H Q E,(spW K) vs H Q E->vs.length=1:=by
 intro vs H Q E h
 obtain⟨_,_,e,_⟩:=h
 rw[e]
 rfl
theorem oQ:∀vs H Q E,(aDw K) vs H Q E->vs.length=1:=by
 intro vs H Q E h
 obtain⟨_,_,e,_⟩:=h
 rw[e]
 rfl
theorem qN:∀vs H Q E,zX vs H Q E->vs.length=2:=by
 intro vs H Q E h
 obtain⟨_,e,_⟩:=h
 rw[e]
 rfl
theorem kT:∀vs H Q E,(yP K) vs H Q E->vs.length=3:=by
 intro vs H Q E h
 obtain⟨_,_,_,_,e,_⟩:=h
 rw[e]
 rfl
theorem rW:∀vs H Q E,(tF K) vs H Q E->vs.length=1:=by
 intro vs H Q E h
 obtain⟨_,_,e,_⟩:=h
 rw[e]
 rfl
theorem sU:∀vs H Q E,(aAi K) vs H Q E->vs.length=2:=by
 intro vs H Q E h
 obtain⟨_,_,_,_,e,_⟩:=h
 rw[e]
 rfl
theorem nT:∀vs H Q E,(tL K C_NoText) vs H Q E->vs.length=1:=by
 intro vs H Q E h
 obtain⟨_,e,_⟩:=h
 rw[e]
 rfl
theorem mB:∀vs H Q E,hX vs H Q E->vs.length=2:=by
 intro vs H Q E h
 obtain⟨_,_,e,_⟩:=h
 rw[e]
 rfl
theorem oR:∀vs H Q E,gJ vs H Q E->vs.length=2:=by
 intro vs H Q E h
 obtain⟨_,_,_,_,e,_⟩:=h
 rw[e]
 rfl
theorem lG:∀vs H Q E,kB vs H Q E->vs.length=1:=by
 intro vs H Q E h
 obtain⟨_,_,_,e,_⟩:=h
 rw[e]
 rfl
theorem rC:∀vs H Q E,(zP K) vs H Q E->vs.length=2:=by
 intro vs H Q E h
 obtain⟨_,_,_,_,e,_⟩:=h
 rw[e]
 rfl
theorem oN:∀vs H Q E,(nO K) vs H Q E->vs.length=1:=by
 intro vs H Q E h
 obtain⟨_,_,e,_⟩:=h
 rw[e]
 rfl
theorem kS:∀vs H Q E,aDt vs H Q E->vs.length=1:=by
 intro vs H Q E h
 obtain⟨_,e,_⟩:=h
 rw[e]
 rfl
theorem mH:∀vs H Q E,(zM K) vs H Q E->vs.length=1:=by
 intro vs H Q E h
 obtain⟨_,_,e,_⟩:=h
 rw[e]
 rfl
theorem rD:∀vs H Q E,(mL K) vs H Q E->vs.length=1:=by
 intro vs H Q E h
 obtain⟨_,e,_⟩:=h
 rw[e]
 rfl
theorem nU:∀vs H Q E,tO vs H Q E->vs.length=1:=by
 intro vs H Q E h
 obtain⟨_,_,_,e,_⟩:=h
 rw[e]
 rfl
theorem pI:∀vs H Q E,(tS K) vs H Q E->vs.length=2:=by
 intro vs H Q E h
 obtain⟨_,_,_,_,_,_,e,_⟩:=h
 rw[e]
 rfl
theorem oY:∀vs H Q E,(mL K) vs H Q E->vs.length=1:=by
 intro vs H Q E h
 obtain⟨_,e,_⟩:=h
 rw[e]
 rfl
theorem aCU:∀vs H Q E,wM K vs H Q E->vs.length=1:=λvs H Q E ⟨a,ns,e,_⟩=>by rw[e];rfl
theorem aDT:∀vs H Q E,aCw C_NoText vs H Q E->vs.length=2:=λvs H Q E ⟨a,ns,e,_⟩=>by rw[e];rfl
end
theorem wS {us:List Value}(h:us.length=1):∃a0,us=[a0]:=List.length_eq_one_iff.mp h
theorem aBd {us:List Value}(h:us.length=2):∃a0 a1,us=[a0,a1]:=by
 cases us with
 |nil=>cases h
 |cons a0 us=>
 cases us with
 |nil=>cases h
 |cons a1 us=>
 cases us with
 |nil=>exact⟨a0,a1,rfl⟩
 |cons _ _=>simp at h
theorem aEJ {us:List Value}(h:us.length=3):∃a0 a1 a2,us=[a0,a1,a2]:=by
 cases us with
 |nil=>cases h
 |cons a0 us=>
 cases us with
 |nil=>cases h
 |cons a1 us=>
 cases us with
 |nil=>cases h
 |cons a2 us=>
 cases us with
 |nil=>exact⟨a0,a1,a2,rfl⟩
 |cons _ _=>simp at h
theorem all_mk {l:PySem.W.OpenLaw}{w:World}{K:aa}{h:Heap}{mg:Str->Option Value}{fa:Addr}(X:K.In h)(G:h.Ns az mg)(hfa:mg "law" = some (.ref fa))
  {f0:Addr}{od0 an0:Option Addr}{sl0:Array (Option Value)}{oc0 kV0 dc0 pm0 cd0 ct0:Value} (a0:ba K az "is_whole" = some (some (.ref f0))) (l0:K.lookup f0=some ⟨oc0,od0, .func (da "is_whole" "is_whole" (bM (top 13)) (bJ (top 13)) (aO (top 13)) .none kV0 dc0 pm0 an0 cd0 ct0),sl0⟩) (c0:cy K cd0 "is_whole" = true) (k0:cw K (.ref f0)=true)
  {f1:Addr}{od1 an1:Option Addr}{sl1:Array (Option Value)}{oc1 kV1 dc1 pm1 cd1 ct1:Value} (a1:ba K az "are_wholes" = some (some (.ref f1))) (l1:K.lookup f1=some ⟨oc1,od1, .func (da "are_wholes" "are_wholes" (bM (top 14)) (bJ (top 14)) (aO (top 14)) .none kV1 dc1 pm1 an1 cd1 ct1),sl1⟩) (c1:cy K cd1 "are_wholes" = true) (k1:cw K (.ref f1)=true)
  {f2:Addr}{od2 an2:Option Addr}{sl2:Array (Option Value)}{oc2 kV2 dc2 pm2 cd2 ct2:Value} (a2:ba K az "number_in" = some (some (.ref f2))) (l2:K.lookup f2=some ⟨oc2,od2, .func (da "number_in" "number_in" (bM (top 15)) (bJ (top 15)) (aO (top 15)) .none kV2 dc2 pm2 an2 cd2 ct2),sl2⟩) (c2:cy K cd2 "number_in" = true) (k2:cw K (.ref f2)=true)
  {f3:Addr}{od3 an3:Option Addr}{sl3:Array (Option Value)}{oc3 kV3 dc3 pm3 cd3 ct3:Value} (a3:ba K az "is_table" = some (some (.ref f3))) (l3:K.lookup f3=some ⟨oc3,od3, .func (da "is_table" "is_table" (bM (top 17)) (bJ (top 17)) (aO (top 17)) .none kV3 dc3 pm3 an3 cd3 ct3),sl3⟩) (c3:cy K cd3 "is_table" = true) (k3:cw K (.ref f3)=true)
  {f4:Addr}{od4 an4:Option Addr}{sl4:Array (Option Value)}{oc4 kV4 dc4 pm4 cd4 ct4:Value} (a4:ba K az "is_table_row" = some (some (.ref f4))) (l4:K.lookup f4=some ⟨oc4,od4, .func (da "is_table_row" "is_table_row" (bM (top 18)) (bJ (top 18)) (aO (top 18)) .none kV4 dc4 pm4 an4 cd4 ct4),sl4⟩) (c4:cy K cd4 "is_table_row" = true) (k4:cw K (.ref f4)=true)
  {f5:Addr}{od5 an5:Option Addr}{sl5:Array (Option Value)}{oc5 kV5 dc5 pm5 cd5 ct5:Value} (a5:ba K az "read_table" = some (some (.ref f5))) (l5:K.lookup f5=some ⟨oc5,od5, .func (da "read_table" "read_table" (bM (top 21)) (bJ (top 21)) (aO (top 21)) .none kV5 dc5 pm5 an5 cd5 ct5),sl5⟩) (c5:cy K cd5 "read_table" = true) (k5:cw K (.ref f5)=true)
  {f6:Addr}{od6 an6:Option Addr}{sl6:Array (Option Value)}{oc6 kV6 dc6 pm6 cd6 ct6:Value} (a6:ba K az "may_come" = some (some (.ref f6))) (l6:K.lookup f6=some ⟨oc6,od6, .func (da "may_come" "may_come" (bM (top 22)) (bJ (top 22)) (aO (top 22)) .none kV6 dc6 pm6 an6 cd6 ct6),sl6⟩) (c6:cy K cd6 "may_come" = true) (k6:cw K (.ref f6)=true)
  {f7:Addr}{od7 an7:Option Addr}{sl7:Array (Option Value)}{oc7 kV7 dc7 pm7 cd7 ct7:Value} (a7:ba K az "_law_gspread" = some (some (.ref f7))) (l7:K.lookup f7=some ⟨oc7,od7, .func (da "_law_gspread" "_law_gspread" (bM (top 24)) (bJ (top 24)) (aO (top 24)) .none kV7 dc7 pm7 an7 cd7 ct7),sl7⟩) (c7:cy K cd7 "_law_gspread" = true) (k7:cw K (.ref f7)=true)
  {f8:Addr}{od8 an8:Option Addr}{sl8:Array (Option Value)}{oc8 kV8 dc8 pm8 cd8 ct8:Value} (a8:ba K az "_law_gdraw" = some (some (.ref f8))) (l8:K.lookup f8=some ⟨oc8,od8, .func (da "_law_gdraw" "_law_gdraw" (bM (top 25)) (bJ (top 25)) (aO (top 25)) .none kV8 dc8 pm8 an8 cd8 ct8),sl8⟩) (c8:cy K cd8 "_law_gdraw" = true) (k8:cw K (.ref f8)=true)
  {f9:Addr}{od9 an9:Option Addr}{sl9:Array (Option Value)}{oc9 kV9 dc9 pm9 cd9 ct9:Value} (a9:ba K az "_law_glength" = some (some (.ref f9))) (l9:K.lookup f9=some ⟨oc9,od9, .func (da "_law_glength" "_law_glength" (bM (top 26)) (bJ (top 26)) (aO (top 26)) .none kV9 dc9 pm9 an9 cd9 ct9),sl9⟩) (c9:cy K cd9 "_law_glength" = true) (k9:cw K (.ref f9)=true)
  {f10:Addr}{od10 an10:Option Addr}{sl10:Array (Option Value)}{oc10 kV10 dc10 pm10 cd10 ct10:Value} (a10:ba K az "_law_gany" = some (some (.ref f10))) (l10:K.lookup f10=some ⟨oc10,od10, .func (da "_law_gany" "_law_gany" (bM (top 27)) (bJ (top 27)) (aO (top 27)) .none kV10 dc10 pm10 an10 cd10 ct10),sl10⟩) (c10:cy K cd10 "_law_gany" = true) (k10:cw K (.ref f10)=true)
  {f11:Addr}{od11 an11:Option Addr}{sl11:Array (Option Value)}{oc11 kV11 dc11 pm11 cd11 ct11:Value} (a11:ba K az "_law_gtext" = some (some (.ref f11))) (l11:K.lookup f11=some ⟨oc11,od11, .func (da "_law_gtext" "_law_gtext" (bM (top 28)) (bJ (top 28)) (aO (top 28)) .none kV11 dc11 pm11 an11 cd11 ct11),sl11⟩) (c11:cy K cd11 "_law_gtext" = true) (k11:cw K (.ref f11)=true)
  {f12:Addr}{od12 an12:Option Addr}{sl12:Array (Option Value)}{oc12 kV12 dc12 pm12 cd12 ct12:Value} (a12:ba K az "_law_gnumber" = some (some (.ref f12))) (l12:K.lookup f12=some ⟨oc12,od12, .func (da "_law_gnumber" "_law_gnumber" (bM (top 29)) (bJ (top 29)) (aO (top 29)) .none kV12 dc12 pm12 an12 cd12 ct12),sl12⟩) (c12:cy K cd12 "_law_gnumber" = true) (k12:cw K (.ref f12)=true)
  {f13:Addr}{od13 an13:Option Addr}{sl13:Array (Option Value)}{oc13 kV13 dc13 pm13 cd13 ct13:Value} (a13:ba K az "_law_gbegins" = some (some (.ref f13))) (l13:K.lookup f13=some ⟨oc13,od13, .func (da "_law_gbegins" "_law_gbegins" (bM (top 30)) (bJ (top 30)) (aO (top 30)) .none kV13 dc13 pm13 an13 cd13 ct13),sl13⟩) (c13:cy K cd13 "_law_gbegins" = true) (k13:cw K (.ref f13)=true)
  {f14:Addr}{od14 an14:Option Addr}{sl14:Array (Option Value)}{oc14 kV14 dc14 pm14 cd14 ct14:Value} (a14:ba K az "_law_gdue" = some (some (.ref f14))) (l14:K.lookup f14=some ⟨oc14,od14, .func (da "_law_gdue" "_law_gdue" (bM (top 31)) (bJ (top 31)) (aO (top 31)) .none kV14 dc14 pm14 an14 cd14 ct14),sl14⟩) (c14:cy K cd14 "_law_gdue" = true) (k14:cw K (.ref f14)=true)
  {f15:Addr}{od15 an15:Option Addr}{sl15:Array (Option Value)}{oc15 kV15 dc15 pm15 cd15 ct15:Value} (a15:ba K az "_law_gword" = some (some (.ref f15))) (l15:K.lookup f15=some ⟨oc15,od15, .func (da "_law_gword" "_law_gword" (bM (top 32)) (bJ (top 32)) (aO (top 32)) .none kV15 dc15 pm15 an15 cd15 ct15),sl15⟩) (c15:cy K cd15 "_law_gword" = true) (k15:cw K (.ref f15)=true)
  {f16:Addr}{od16 an16:Option Addr}{sl16:Array (Option Value)}{oc16 kV16 dc16 pm16 cd16 ct16:Value} (a16:ba K az "_law_gbent" = some (some (.ref f16))) (l16:K.lookup f16=some ⟨oc16,od16, .func (da "_law_gbent" "_law_gbent" (bM (top 33)) (bJ (top 33)) (aO (top 33)) .none kV16 dc16 pm16 an16 cd16 ct16),sl16⟩) (c16:cy K cd16 "_law_gbent" = true) (k16:cw K (.ref f16)=true)
  {f17:Addr}{od17 an17:Option Addr}{sl17:Array (Option Value)}{oc17 kV17 dc17 pm17 cd17 ct17:Value} (a17:ba K az "_law_gtold" = some (some (.ref f17))) (l17:K.lookup f17=some ⟨oc17,od17, .func (da "_law_gtold" "_law_gtold" (bM (top 34)) (bJ (top 34)) (aO (top 34)) .none kV17 dc17 pm17 an17 cd17 ct17),sl17⟩) (c17:cy K cd17 "_law_gtold" = true) (k17:cw K (.ref f17)=true)
  {f18:Addr}{od18 an18:Option Addr}{sl18:Array (Option Value)}{oc18 kV18 dc18 pm18 cd18 ct18:Value} (a18:ba K az "law" = some (some (.ref f18))) (l18:K.lookup f18=some ⟨oc18,od18, .func (da "law" "law" (bM (top 35)) (bJ (top 35)) (aO (top 35)) .none kV18 dc18 pm18 an18 cd18 ct18),sl18⟩) (c18:cy K cd18 "law" = true) (k18:cw K (.ref f18)=true)
  (z_len:ba K az "len" = some none)
  (z_all:ba K az "all" = some none)
  (z_min:ba K az "min" = some none)
  (z_max:ba K az "max" = some none)
  (z_sum:ba K az "sum" = some none)
  (z_isinstance:ba K az "isinstance" = some none)
  (z_sorted:ba K az "sorted" = some none)
  (z_tuple:ba K az "tuple" = some none)
  (z_list:ba K az "list" = some none)
  (z_range:ba K az "range" = some none)
  (z_int:ba K az "int" = some none)
  (z_bool:ba K az "bool" = some none)
  (z_zip:ba K az "zip" = some none)
  (z_repr:ba K az "repr" = some none)
  (z_enumerate:ba K az "enumerate" = some none)
  (z_reversed:ba K az "reversed" = some none)
  (z_str:ba K az "str" = some none)
  (z_set:ba K az "set" = some none)
  (z_abs:ba K az "abs" = some none)
  {tk_MOST_PLACES:Tok} (g_MOST_PLACES:ba K az "MOST_PLACES" = some (some (.int 8 tk_MOST_PLACES)))
  {tk_LONGEST_WAY:Tok} (g_LONGEST_WAY:ba K az "LONGEST_WAY" = some (some (.int 1000000 tk_LONGEST_WAY)))
  {tk_ROW_END:Tok} (g_ROW_END:ba K az "ROW_END" = some (some (.str "/" tk_ROW_END)))
  {C_NoBack:Addr} (ac_NoBack:ba K az "NoBack" = some (some (.ref C_NoBack)))
  {C_NoRow:Addr} (ac_NoRow:ba K az "NoRow" = some (some (.ref C_NoRow)))
  {C_NoTable:Addr} (ac_NoTable:ba K az "NoTable" = some (some (.ref C_NoTable)))
  {C_NoText:Addr} (ac_NoText:ba K az "NoText" = some (some (.ref C_NoText)))
  {C_NotEven:Addr} (ac_NotEven:ba K az "NotEven" = some (some (.ref C_NotEven)))
  {C_NotStraight:Addr} (ac_NotStraight:ba K az "NotStraight" = some (some (.ref C_NotStraight)))
  {C_RoundError:Addr} (ac_RoundError:ba K az "RoundError" = some (some (.ref C_RoundError)))
  {C_TooFew:Addr} (ac_TooFew:ba K az "TooFew" = some (some (.ref C_TooFew)))
  {C_TooMany:Addr} (ac_TooMany:ba K az "TooMany" = some (some (.ref C_TooMany)))
  (z_ValueError:ba K az "ValueError" = some none)
  {fI:Addr}{odI anI:Option Addr}{slI:Array (Option Value)}{ocI kVI dcI pmI cdI ctI:Value}
  (aI:gm K (.ref C_NoText) "__init__" = some (some (.ref fI)))
  (lI:K.lookup fI=some ⟨ocI,odI, .func (da "__init__" "NoText.__init__" (bM ini) (bJ ini) (aO ini) .none kVI dcI pmI anI cdI ctI),slI⟩)
  (cI:cy K cdI "NoText.__init__" = true)
  (kI:cw K (.ref fI)=true)
  (YI_NoText:sE K C_NoText C_RoundError fI)
  (ftf:TF K C_NoBack C_NoRow C_NoTable C_NoText C_NotEven C_NotStraight C_RoundError C_TooFew C_TooMany) :
  ∃fd:FuncData,(∀(s:Shared) (v:Value),ve s fd ⟨[v],[]⟩ [("script",v)])/\∀base:Heap,K.In base->base.Ns az mg->FnOk l.prog w K mg base CX0 7 fa fd ["script"] (wM K):=by
 have e:=hfa.symm.trans (cj X G a18)
 cases e
 have B:mU mg:=⟨⟨⟨⟨cn X G z_len,cn X G z_all,cn X G z_min,cn X G z_max,cn X G z_sum,cn X G z_isinstance,cn X G z_sorted,cn X G z_tuple,cn X G z_list,cn X G z_range,cn X G z_int,cn X G z_bool⟩,cn X G z_zip,cn X G z_repr,cn X G z_enumerate,cn X G z_reversed,cn X G z_str⟩,cn X G z_set⟩,cn X G z_abs⟩
 have G_MOST_PLACES:=cj X G g_MOST_PLACES
 have G_LONGEST_WAY:=cj X G g_LONGEST_WAY
 have G_ROW_END:=cj X G g_ROW_END
 have GC_NoBack:=cj X G ac_NoBack
 have GC_NoRow:=cj X G ac_NoRow
 have GC_NoTable:=cj X G ac_NoTable
 have GC_NoText:=cj X G ac_NoText
 have GC_NotEven:=cj X G ac_NotEven
 have GC_NotStraight:=cj X G ac_NotStraight
 have GC_RoundError:=cj X G ac_RoundError
 have GC_TooFew:=cj X G ac_TooFew
 have GC_TooMany:=cj X G ac_TooMany
 have GV:=cn X G z_ValueError
 have FI:=cQ (x:="__init__") (st:=ini) lI cI kI
 have bI:=FI.binds (ps:=["self","at"]) λ_ _ _ _ _ _ us hl=>by obtain⟨_,_,rfl⟩:=aBd hl;rfl
 have F0:=cQ (st:=top 13) l0 c0 k0
 have b0:=F0.binds (ps:=["thing"]) λ_ _ _ _ _ _ us hl=>by obtain⟨_,rfl⟩:=wS hl;rfl
 have F1:=cQ (st:=top 14) l1 c1 k1
 have b1:=F1.binds (ps:=["thing"]) λ_ _ _ _ _ _ us hl=>by obtain⟨_,rfl⟩:=wS hl;rfl
 have F2:=cQ (st:=top 15) l2 c2 k2
 have b2:=F2.binds (ps:=["word","most"]) λ_ _ _ _ _ _ us hl=>by obtain⟨_,_,rfl⟩:=aBd hl;rfl
 have F3:=cQ (st:=top 17) l3 c3 k3
 have b3:=F3.binds (ps:=["thing"]) λ_ _ _ _ _ _ us hl=>by obtain⟨_,rfl⟩:=wS hl;rfl
 have F4:=cQ (st:=top 18) l4 c4 k4
 have b4:=F4.binds (ps:=["thing","own","many"]) λ_ _ _ _ _ _ us hl=>by obtain⟨_,_,_,rfl⟩:=aEJ hl;rfl
 have F5:=cQ (st:=top 21) l5 c5 k5
 have b5:=F5.binds (ps:=["text"]) λ_ _ _ _ _ _ us hl=>by obtain⟨_,rfl⟩:=wS hl;rfl
 have F6:=cQ (st:=top 22) l6 c6 k6
 have b6:=F6.binds (ps:=["rows","word"]) λ_ _ _ _ _ _ us hl=>by obtain⟨_,_,rfl⟩:=aBd hl;rfl
 have F7:=cQ (st:=top 24) l7 c7 k7
 have b7:=F7.binds (ps:=["cell","at"]) λ_ _ _ _ _ _ us hl=>by obtain⟨_,_,rfl⟩:=aBd hl;rfl
 have F8:=cQ (st:=top 25) l8 c8 k8
 have b8:=F8.binds (ps:=["tape","many"]) λ_ _ _ _ _ _ us hl=>by obtain⟨_,_,rfl⟩:=aBd hl;rfl
 have F9:=cQ (st:=top 26) l9 c9 k9
 have b9:=F9.binds (ps:=["tape"]) λ_ _ _ _ _ _ us hl=>by obtain⟨_,rfl⟩:=wS hl;rfl
 have F10:=cQ (st:=top 27) l10 c10 k10
 have b10:=F10.binds (ps:=["tape","many"]) λ_ _ _ _ _ _ us hl=>by obtain⟨_,_,rfl⟩:=aBd hl;rfl
 have F11:=cQ (st:=top 28) l11 c11 k11
 have b11:=F11.binds (ps:=["table"]) λ_ _ _ _ _ _ us hl=>by obtain⟨_,rfl⟩:=wS hl;rfl
 have F12:=cQ (st:=top 29) l12 c12 k12
 have b12:=F12.binds (ps:=["word"]) λ_ _ _ _ _ _ us hl=>by obtain⟨_,rfl⟩:=wS hl;rfl
 have F13:=cQ (st:=top 30) l13 c13 k13
 have b13:=F13.binds (ps:=["words"]) λ_ _ _ _ _ _ us hl=>by obtain⟨_,rfl⟩:=wS hl;rfl
 have F14:=cQ (st:=top 31) l14 c14 k14
 have b14:=F14.binds (ps:=["text"]) λ_ _ _ _ _ _ us hl=>by obtain⟨_,rfl⟩:=wS hl;rfl
 have F15:=cQ (st:=top 32) l15 c15 k15
 have b15:=F15.binds (ps:=["tape"]) λ_ _ _ _ _ _ us hl=>by obtain⟨_,rfl⟩:=wS hl;rfl
 have F16:=cQ (st:=top 33) l16 c16 k16
 have b16:=F16.binds (ps:=["tape","table"]) λ_ _ _ _ _ _ us hl=>by obtain⟨_,_,rfl⟩:=aBd hl;rfl
 have F17:=cQ (st:=top 34) l17 c17 k17
 have b17:=F17.binds (ps:=["text"]) λ_ _ _ _ _ _ us hl=>by obtain⟨_,rfl⟩:=wS hl;rfl
 have F18:=cQ (st:=top 35) l18 c18 k18
 refine⟨da "law" "law" (bM (top 35)) (bJ (top 35)) (aO (top 35)) .none kV18 dc18 pm18 an18 cd18 ct18,λs v => .of_eq rfl,λbase _ _=>?_⟩
 have jH:Def l.prog w K mg base "is_whole" 1 ["thing"] (spW K):=⟨f0,_,rY (P:=l.prog) (w:=w) (base:=base) F0 B sZ (yL),cj X G a0,k0,b0⟩
 have gX:Def l.prog w K mg base "number_in" 1 ["word","most"] (zX):=⟨f2,_,qM (P:=l.prog) (w:=w) (base:=base) F2 B qN (aCI),cj X G a2,k2,b2⟩
 have eN:Def l.prog w K mg base "_law_gspread" 1 ["cell","at"] (hX):=⟨f7,_,lZ (P:=l.prog) (w:=w) (base:=base) F7 B mB (xF),cj X G a7,k7,b7⟩
 have cE:Def l.prog w K mg base "_law_gtext" 1 ["table"] (nO K):=⟨f11,_,nR (P:=l.prog) (w:=w) (base:=base) F11 B oN (yN),cj X G a11,k11,b11⟩
 have eP:Def l.prog w K mg base "_law_gnumber" 1 ["word"] (aDt):=⟨f12,_,kW (P:=l.prog) (w:=w) (base:=base) F12 B kS (aDG),cj X G a12,k12,b12⟩
 have fV:Def l.prog w K mg base "are_wholes" 2 ["thing"] (aDw K):=⟨f1,_,pM (P:=l.prog) (w:=w) (base:=base) F1 B jH oQ (wZ),cj X G a1,k1,b1⟩
 have jJ:Def l.prog w K mg base "may_come" 2 ["rows","word"] (aAi K):=⟨f6,_,sM (P:=l.prog) (w:=w) (base:=base) F6 B G_LONGEST_WAY G_MOST_PLACES G_ROW_END gX sU (aDa),cj X G a6,k6,b6⟩
 have aT:Def l.prog w K mg base "_law_gdraw" 2 ["tape","many"] (gJ):=⟨f8,_,oE (P:=l.prog) (w:=w) (base:=base) F8 B eN oR (aBi),cj X G a8,k8,b8⟩
 have eQ:Def l.prog w K mg base "_law_gbegins" 2 ["words"] (zM K):=⟨f13,_,lC (P:=l.prog) (w:=w) (base:=base) F13 B eP mH (aCm),cj X G a13,k13,b13⟩
 have eM:Def l.prog w K mg base "is_table_row" 3 ["thing","own","many"] (yP K):=⟨f4,_,lJ (P:=l.prog) (w:=w) (base:=base) F4 B G_LONGEST_WAY fV kT (aCh),cj X G a4,k4,b4⟩
 have eO:Def l.prog w K mg base "_law_glength" 3 ["tape"] (kB):=⟨f9,_,lD (P:=l.prog) (w:=w) (base:=base) F9 B aT lG (xM),cj X G a9,k9,b9⟩
 have gZ:Def l.prog w K mg base "_law_gdue" 3 ["text"] (mL K):=⟨f14,_,rP (P:=l.prog) (w:=w) (base:=base) F14 B eQ rD (aCq),cj X G a14,k14,b14⟩
 have dI:Def l.prog w K mg base "_law_gword" 3 ["tape"] (tO):=⟨f15,_,pK (P:=l.prog) (w:=w) (base:=base) F15 B aT nU (aBB),cj X G a15,k15,b15⟩
 have jI:Def l.prog w K mg base "is_table" 4 ["thing"] (tF K):=⟨f3,_,sS (P:=l.prog) (w:=w) (base:=base) F3 B G_MOST_PLACES eM rW (wX),cj X G a3,k3,b3⟩
 have gY:Def l.prog w K mg base "_law_gany" 4 ["tape","many"] (zP K):=⟨f10,_,rK (P:=l.prog) (w:=w) (base:=base) F10 B eO rC (aDf),cj X G a10,k10,b10⟩
 have fW:Def l.prog w K mg base "_law_gbent" 4 ["tape","table"] (tS K):=⟨f16,_,nV (P:=l.prog) (w:=w) (base:=base) F16 B aT cE dI pI (aBC),cj X G a16,k16,b16⟩
 have DI_NoText:aDx l.prog w K mg base fI 1 (aCw C_NoText):=⟨_,aBf (P:=l.prog) (w:=w) (base:=base) FI GC_RoundError YI_NoText aDT aBn,bI⟩
 have dN:DefE l.prog w K mg base "read_table" 5 ["text"] (tL K C_NoText):=⟨f5,_,oZ (P:=l.prog) (w:=w) (base:=base) F5 B G_ROW_END GC_NoText YI_NoText DI_NoText jI jJ nT (aBo),cj X G a5,k5,b5⟩
 have fX:Def l.prog w K mg base "_law_gtold" 6 ["text"] (mL K):=⟨f17,_,pA (P:=l.prog) (w:=w) (base:=base) F17 B GC_NoBack GC_NoRow GC_NoTable GC_NoText GC_NotEven GC_NotStraight GC_RoundError GC_TooFew GC_TooMany GV dN oY (aAH ftf),cj X G a17,k17,b17⟩
 exact aDc (P:=l.prog) (w:=w) (base:=base) F18 B gY fW aT gZ cE fX aCU (aCg)
theorem walk {l:PySem.W.OpenLaw}{q:Program}{loose:List Str}{XP:(Str->Option Value)->Heap->Prop}{YP:World->Heap->Prop}{d:DefRec}{K:Params->aa}(hn:l.most=some 63)(hdf:d.params.defaults=[])
  (hY:∀(w:World) (h:Heap),YP w h->(K w.params).In h)
  (F:∀(w:World) (mg:Str->Option Value) (fa:Addr) (h:Heap),(K w.params).In h->h.Ns az mg->mg d.name=some (.ref fa) ->
   ∃fd:FuncData,(∀(s:Shared) (u:Value),ve s fd ⟨[u],[]⟩ [("script",u)])/\∀base:Heap,(K w.params).In base->base.Ns az mg->FnOk l.prog w (K w.params) mg base CX0 7 fa fd ["script"] (wM (K w.params))) :
  PySem.W.WalkO q loose XP YP l.row.toRowW d [] (λf vs=>PySem.call f vs):=
 L2.aBx (n:=63) (k:=7) (x:="script") (CX:=λ_=>CX0) (sp:=λw=>wM (K w.params)) hn (by decide) hdf ⟨rfl,by decide,by decide,rfl⟩ hY F (λ_ _ a ns hl _ hS=>⟨a,ns,rfl,hS,hl,λ_=>rfl⟩) λ_ _ _ _ _ z=>z
end K84
open PySem PySem.W PyProof.Rows
def PySem.W.Fast.tw1626881946250852778:=0
def PySem.W.Fast.tw7597594743723415070:=0
def PySem.W.Fast.tw11343642543655817533:=0
def PySem.W.Fast.tw17983390767168128355:=0
def PySem.W.Fast.tw16088874670680727750:=0
def PySem.W.Fast.tw7365950837198082203:=0
def PySem.W.Fast.tw16655165607960008678:=0
def PySem.W.Fast.tw6192495153570927493:=0
def PySem.W.Fast.tw11220527336128999540:=0
def PySem.W.Fast.tw15852713920772997440:=0
def PySem.W.Fast.tw11306175117880565037:=0
def PySem.W.Fast.tw13888395813250066320:=0
def PySem.W.Fast.tw7075510921151934626:=0
def PySem.W.Fast.tw11491947985988600844:=0
def PySem.W.Fast.tw4776700165189215241:=0
def PySem.W.Fast.tw1879295808129081150:=0
def PySem.W.Fast.tw4180412239615923146:=0
def PySem.W.Fast.tw15322664362661919281:=0
def PySem.W.Fast.tw8636425891284391045:=0
def PySem.W.Fast.tw5483861550837401196:=0
def PySem.W.Fast.tw16157284825095302294:=0
def PySem.W.Fast.tw2181150661490154792:=0
def PySem.W.Fast.tw14206419596630037349:=0
def PySem.W.Fast.tw7498758598552686785:=0
def PySem.W.Fast.tw12000753176844119534:=0
def PySem.W.Fast.tw16577961580188530981:=0
def PySem.W.Fast.tw6557991115275765151:=0
def PySem.W.Fast.tw17917148924758463697:=0
def PySem.W.Fast.tw12573966358081267086:=0
def PySem.W.Fast.tw9738940485295479105:=0
def PySem.W.Fast.tw15984955138097194753:=0
def PySem.W.Fast.tw6212894975643801241:=0
def PySem.W.Fast.tw6516840096966451737:=0
def PySem.W.Fast.tw11500173268101217971:=0
def PySem.W.Fast.tw7458456947775660191:=0
def PySem.W.Fast.tw17739002017246825352:=0
def PySem.W.Fast.tw14471640680546520569:=0
def PySem.W.Fast.tw584590223187238803:=0
def PySem.W.Fast.tw15177990611706835669:=0
def PySem.W.Fast.tw1204193066276931031:=0
def PySem.W.Fast.tw17624119347442966028:=0
def PySem.W.Fast.tw5359679679274657212:=0
def PySem.W.Fast.tw10825151884889662428:=0
def PySem.W.Fast.tw2472077281484145212:=0
def PySem.W.Fast.tw4673039197355485540:=0
def PySem.W.Fast.tw10265997904909884587:=0
def PySem.W.Fast.tw2386686526658278180:=0
def PySem.W.Fast.tw18290824527867099546:=0
def PySem.W.Fast.tw11870219377642518014:=0
def PySem.W.Fast.tw11737842938596585857:=0
def PySem.W.Fast.tw9132298036674491972:=0
def PySem.W.Fast.tw4794393280456804736:=0
def PySem.W.Fast.tw8717026595320748674:=0
def PySem.W.Fast.tw11048939775502903259:=0
def PySem.W.Fast.tw12395309583811136388:=0
def PySem.W.Fast.tw2958405283742199935:=0
def PySem.W.Fast.tw10069673657432212165:=0
def PySem.W.Fast.tw164504034518287180:=0
def PySem.W.Fast.tw2145115862228714367:=0
def PySem.W.Fast.tw10686679914924563525:=0
def PySem.W.Fast.tw6010785585264830017:=0
def PySem.W.Fast.tw16741363777333103770:=0
def PySem.W.Fast.tw1336227042502967512:=0
def PySem.W.Fast.tw5913295174489726025:=0
def PySem.W.Fast.tw9293934803812150898:=0
def PySem.W.Fast.tw8919692290925281570:=0
def PySem.W.Fast.tw3275959603175076367:=0
def PySem.W.Fast.tw13803686635189078934:=0
def PySem.W.Fast.tw836577165357535929:=0
def PySem.W.Fast.tw14362488768733348195:=0
def PySem.W.Fast.tw14782429751604883109:=0
def PySem.W.Fast.tw5819028831983893458:=0
def PySem.W.Fast.tw17889598352978649875:=0
def PySem.W.Fast.tw1944779376826861209:=0
def PySem.W.Fast.tw18395203899386919691:=0
def PySem.W.Fast.tw8607758128838345316:=0
def PySem.W.Fast.tw11401797242138733106:=0
def PySem.W.Fast.tw6404395076872618734:=0
def PySem.W.Fast.tw9092242668499856931:=0
def PySem.W.Fast.tw10111848506222076335:=0
def PySem.W.Fast.tw13916989120837113171:=0
def PySem.W.Fast.tw11895091952316485962:=0
def PySem.W.Fast.tw3410455981317244000:=0
def PySem.W.Fast.tw1462781474356182798:=0
def PySem.W.Fast.tw1791953636449143716:=0
def PySem.W.Fast.tw13397607550112462970:=0
def PySem.W.Fast.tw1099830765598921119:=0
def PySem.W.Fast.tw5491394201581285254:=0
def PySem.W.Fast.tw8466144356284253248:=0
def PySem.W.Fast.tw9054303286836839195:=0
def PySem.W.Fast.tw3341619739514065697:=0
def PySem.W.Fast.tw17413256534520537138:=0
def PySem.W.Fast.tw6245711668911236043:=0
def PySem.W.Fast.tw12456882814059774739:=0
def PySem.W.Fast.tw16073828169581778137:=0
def PySem.W.Fast.tw3253310889191246983:=0
def PySem.W.Fast.tw7901736432656217638:=0
def PySem.W.Fast.tw11074121557843894912:=0
def PySem.W.Fast.tw7000807827352063895:=0
def PySem.W.Fast.tw7945085648306031797:=0
set_option maxRecDepth 100000 in
set_option maxHeartbeats 0 in
theorem PySem.Challenge.cw_homeround_k84_no_tables_texts_holds : PySem.Challenge.rw_homeround_k84_no_tables_texts.Holds := by
  w_on; o_law; k_head; (case hw => w_witness2)
  k_fill
  refine K84.walk (l := PySem.Challenge.rw_homeround_k84_no_tables_texts) rfl rfl (λw h Y => PySem.W.kIn_of Y) ?F
  case F =>
    intro w mg fa h KX G hmg
    refine' K84.all_mk KX G hmg ?a0 ?l0 ?c0 ?k0 ?a1 ?l1 ?c1 ?k1 ?a2 ?l2 ?c2 ?k2 ?a3 ?l3 ?c3 ?k3 ?a4 ?l4 ?c4 ?k4 ?a5 ?l5 ?c5 ?k5 ?a6 ?l6 ?c6 ?k6 ?a7 ?l7 ?c7 ?k7 ?a8 ?l8 ?c8 ?k8 ?a9 ?l9 ?c9 ?k9 ?a10 ?l10 ?c10 ?k10 ?a11 ?l11 ?c11 ?k11 ?a12 ?l12 ?c12 ?k12 ?a13 ?l13 ?c13 ?k13 ?a14 ?l14 ?c14 ?k14 ?a15 ?l15 ?c15 ?k15 ?a16 ?l16 ?c16 ?k16 ?a17 ?l17 ?c17 ?k17 ?a18 ?l18 ?c18 ?k18 ?z_len ?z_all ?z_min ?z_max ?z_sum ?z_isinstance ?z_sorted ?z_tuple ?z_list ?z_range ?z_int ?z_bool ?z_zip ?z_repr ?z_enumerate ?z_reversed ?z_str ?z_set ?z_abs ?g_MOST_PLACES ?g_LONGEST_WAY ?g_ROW_END ?ac_NoBack ?ac_NoRow ?ac_NoTable ?ac_NoText ?ac_NotEven ?ac_NotStraight ?ac_RoundError ?ac_TooFew ?ac_TooMany ?z_ValueError ?aI ?lI ?cI ?kI ?YI_NoText ?ftf
    (case a0 => k_is)
    (case l0 => k_is)
    (case c0 => k_is)
    (case k0 => k_is)
    (case a1 => k_is)
    (case l1 => k_is)
    (case c1 => k_is)
    (case k1 => k_is)
    (case a2 => k_is)
    (case l2 => k_is)
    (case c2 => k_is)
    (case k2 => k_is)
    (case a3 => k_is)
    (case l3 => k_is)
    (case c3 => k_is)
    (case k3 => k_is)
    (case a4 => k_is)
    (case l4 => k_is)
    (case c4 => k_is)
    (case k4 => k_is)
    (case a5 => k_is)
    (case l5 => k_is)
    (case c5 => k_is)
    (case k5 => k_is)
    (case a6 => k_is)
    (case l6 => k_is)
    (case c6 => k_is)
    (case k6 => k_is)
    (case a7 => k_is)
    (case l7 => k_is)
    (case c7 => k_is)
    (case k7 => k_is)
    (case a8 => k_is)
    (case l8 => k_is)
    (case c8 => k_is)
    (case k8 => k_is)
    (case a9 => k_is)
    (case l9 => k_is)
    (case c9 => k_is)
    (case k9 => k_is)
    (case a10 => k_is)
    (case l10 => k_is)
    (case c10 => k_is)
    (case k10 => k_is)
    (case a11 => k_is)
    (case l11 => k_is)
    (case c11 => k_is)
    (case k11 => k_is)
    (case a12 => k_is)
    (case l12 => k_is)
    (case c12 => k_is)
    (case k12 => k_is)
    (case a13 => k_is)
    (case l13 => k_is)
    (case c13 => k_is)
    (case k13 => k_is)
    (case a14 => k_is)
    (case l14 => k_is)
    (case c14 => k_is)
    (case k14 => k_is)
    (case a15 => k_is)
    (case l15 => k_is)
    (case c15 => k_is)
    (case k15 => k_is)
    (case a16 => k_is)
    (case l16 => k_is)
    (case c16 => k_is)
    (case k16 => k_is)
    (case a17 => k_is)
    (case l17 => k_is)
    (case c17 => k_is)
    (case k17 => k_is)
    (case a18 => k_is)
    (case l18 => k_is)
    (case c18 => k_is)
    (case k18 => k_is)
    (case z_len => k_is)
    (case z_all => k_is)
    (case z_min => k_is)
    (case z_max => k_is)
    (case z_sum => k_is)
    (case z_isinstance => k_is)
    (case z_sorted => k_is)
    (case z_tuple => k_is)
    (case z_list => k_is)
    (case z_range => k_is)
    (case z_int => k_is)
    (case z_bool => k_is)
    (case z_zip => k_is)
    (case z_repr => k_is)
    (case z_enumerate => k_is)
    (case z_reversed => k_is)
    (case z_str => k_is)
    (case z_set => k_is)
    (case z_abs => k_is)
    (case g_MOST_PLACES => k_is)
    (case g_LONGEST_WAY => k_is)
    (case g_ROW_END => k_is)
    (case ac_NoBack => k_is)
    (case ac_NoRow => k_is)
    (case ac_NoTable => k_is)
    (case ac_NoText => k_is)
    (case ac_NotEven => k_is)
    (case ac_NotStraight => k_is)
    (case ac_RoundError => k_is)
    (case ac_TooFew => k_is)
    (case ac_TooMany => k_is)
    (case z_ValueError => k_is)
    (case aI => first | k_is | kernel_rfl)
    (case lI => first | k_is | kernel_rfl)
    (case cI => first | k_is | kernel_rfl)
    (case kI => first | k_is | kernel_rfl)
    (case YI_NoText => constructor <;> (first | k_is | kernel_rfl))
    (case ftf => constructor <;> first | k_is | kernel_rfl | (constructor <;> (first | k_is | kernel_rfl)))
